import PyProof.Rows.All
import Wide.All
import OpenK.AllK
import Wide.FinOn
import Lean
import PyProof.EqAt
import PyProof.EqKinds
import PyProof.TupleCall
import PyProof.AttrMissHeap
import KE.KDictOf
import PyProof.ConsumeWalk
import PyProof.ZipIter
import PyProof.EnumMake
import KE.KEqDict
import KE.KDictSum
import KE.KItemsList
import PyProof.FString5
import PyProof.FactsAll.tuple_2
import PyProof.FactsAll.zip_1
import PyProof.ListMulRoad
import PyProof.ListRange
import PyProof.NeKinds
import PyProof.Rows.SortShell
import PyProof.StrWalks
import PySem.Challenge.RW_neverstuck_k02_programs_or_not
set_option Elab.async false
set_option linter.all false
set_option maxRecDepth 100000
set_option maxHeartbeats 4000000
set_option compiler.small 0
set_option compiler.extract_closed false
set_option compiler.reuse false
noncomputable section
set_option hygiene false
set_option hygiene true
abbrev FR:=PySem.W.Frag
namespace Hd
open PySem PySem.W PySem.Spec PyProof.Rows
noncomputable def yB:List Value->Option (List Int)
 | []=>some []
 | .int i _::r=>(yB r).map fun is=>i::is
 | _=>none
noncomputable def yM (v:Value) (t:String):Bool:=match v with
 | .type s=>decide (s=t)
 | _=>false
noncomputable def rowAt (h:Heap) (e:DictEntry):Option (Str×Int×List Int):=match e.key with
 | .str x _=>match e.val with
  | .ref t=>match h.get? t with
   | some u=>if yM u.cls "tuple"&&u.dict.isNone then (match u.data with
     | .seq its _=>if its.size≤100 then (yB its.toList).map fun is=>(x,e.hash,is) else none
     | _=>none) else none
   | none=>none
  | _=>none
 | _=>none
noncomputable def lr (h:Heap):List DictEntry->Option (List (Str×Int×List Int))
 | []=>some []
 | e::r=>(rowAt h e).bind fun x=>(lr h r).map fun xs=>x::xs
noncomputable def tabAt (h:Heap) (nm:Str):Option (List (Str×Int×List Int)):=match h.nsMap mainGlobals nm with
 | some (.ref a)=>if a==sysModules then none else (match h.get? a with
  | some o=>if yM o.cls "dict"&&o.dict.isNone&&decide (o.slots=#[]) then (match o.data with
    | .dict es _=>lr h es.toList
    | _=>none) else none
  | none=>none)
 | _=>none
theorem DV (row:String) (h0:∀w:World,(fencedOpening treeTable p w N).map (fun s₀=>(topFrom treeTable p (w.withFollow row false) N s₀).map (fun s=>(openSeen q loose (importedModules p.main.body) Xt true s,Yf s)))=some (some (openGood q loose,Ya (w.withFollow row false)))) (h1:∀w:World,(fencedOpening treeTable p w N).map (fun s₀=>(topFrom treeTable p (w.withFollow row true) N s₀).map (fun s=>(openSeen q loose (importedModules p.main.body) Xt true s,Yf s)))=some (some (openGood q loose,Ya (w.withFollow row true)))):LeftO p q loose Xt Yf Ya N true:=fun w=>by
 obtain ⟨s₀,a,b0⟩:=Option.map_eq_some_iff.mp (h0 w);obtain ⟨s₁,a1,b1⟩:=Option.map_eq_some_iff.mp (h1 w);have e:=World.withFollow_self w row;unfold openEnds;cases hb:w.params.followText row <;> rw [hb] at e
 ·rw [a];rw [e] at b0;exact b0
 ·rw [a1];rw [e] at b1;exact b1
end Hd
namespace Mi
open PySem
abbrev pw:Program:=PySem.Challenge.pw_neverstuck_k02_programs_or_not
noncomputable def top (i:Nat):Stmt:=pw.main.body.getD i (.Pass ⟨0,0,0,0⟩)
noncomputable def cO:List (Str×List Int):=[("say",[2,0]),("call",[3,0]),("within",[2,1]),("all",[2,1]),("ask",[2,2]),("by",[3,3]),("either",[1,2]),("again",[1,1])]
noncomputable def view:Program:={pw with main:={pw.main with body:=[top 1,top 2,top 3,top 4,top 5,top 6,top 7,top 8,top 10,top 11,top 12,top 13,top 14,top 15,top 16,top 17,top 18,top 19,top 20,top 21,top 22,top 23,top 24,top 25,top 26,top 27,top 28,top 30,top 31,top 32,top 33,top 34,top 35,top 36,top 37,top 38,top 39,top 40,top 41,top 42,top 43,top 44,top 45,top 46,top 47,top 48,top 49,top 50,top 51,top 52,top 53,top 54,top 55,top 56,top 57]}}
end Mi
local macro_rules | `(tactic| walk_at "s") => `(tactic| exact ⟨rfl, rfl, rfl, by decide +kernel, rfl, by decide +kernel, by decide +kernel⟩)
namespace Mi
open PySem PySem.W PyProof.Rows
abbrev ya (w:World):=some (cO.map fun x:Str×List Int=>(x.1,hashStr w x.1,x.2))
abbrev Xt:Shared->Bool:=fun s=>xlAt view [] s&&recOk (RowW.records (OpenRow.toRowW PySem.Challenge.rw_neverstuck_k02_programs_or_not.row)) s
abbrev Yf:Shared->Option (List (Str×Int×List Int)):=fun s=>Hd.tabAt s.heap "SHAPES"
theorem IF (w:World):(fencedOpening treeTable pw w 20000).map (fun s₀=>(topFrom treeTable pw (w.withFollow "special-get-raises" false) 20000 s₀).map (fun s=>(openSeen view (["SHAPES"]:List Str) (importedModules pw.main.body) Xt true s,Yf s)))=some (some (openGood view (["SHAPES"]:List Str),(ya) (w.withFollow "special-get-raises" false))):=by kernel_rfl
theorem IE (w:World):(fencedOpening treeTable pw w 20000).map (fun s₀=>(topFrom treeTable pw (w.withFollow "special-get-raises" true) 20000 s₀).map (fun s=>(openSeen view (["SHAPES"]:List Str) (importedModules pw.main.body) Xt true s,Yf s)))=some (some (openGood view (["SHAPES"]:List Str),(ya) (w.withFollow "special-get-raises" true))):=by kernel_rfl
theorem left:LeftO pw view (["SHAPES"]:List Str) Xt Yf (ya) 20000:=Hd.DV "special-get-raises" IF IE
theorem Fh:PySem.Challenge.rw_neverstuck_k02_programs_or_not.wellSaid=true:=by
 unfold OpenLaw.wellSaid
 repeat (with_reducible refine look_both ?_ (by decide+kernel))
 unfold OpenRow.wellSaid
 repeat (with_reducible refine look_both ?_ (by decide+kernel))
 unfold OpenRow.partSaid
 repeat (with_reducible refine look_both ?_ (by decide+kernel))
 unfold looksOpen
 repeat (with_reducible refine look_both ?_ (by decide+kernel))
 decide+kernel
end Mi
namespace L2
open PySem PySem.Spec PyProof.Rows
abbrev Key:=Sum Int Str
noncomputable def sL:Key->Value->Bool
 | .inl k,v=>Value.isInt k v
 | .inr x,v=>Value.isStrOf x v
noncomputable def GH (w:World):Key->Int
 | .inl k=>hashInt k
 | .inr x=>hashStr w x
theorem cz:∀{k:Key} {v:Value},sL k v=true->(∃i t,k=Sum.inl i∧v=Value.int i t)∨(∃x t,k=Sum.inr x∧v=Value.str x t)
 | .inl i,v,h=>by
  obtain ⟨t,e⟩:=Value.isInt_shape (k:=i) (v:=v) h;exact .inl ⟨i,t,rfl,e⟩
 | .inr x,v,h=>by
  obtain ⟨t,e⟩:=Value.isStrOf_shape (x:=x) (v:=v) h;exact .inr ⟨x,t,rfl,e⟩
theorem zE (i:Int) (t:Tok):sL (.inl i) (.int i t)=true:=by simp [sL,Value.isInt]
theorem zD (x:Str) (t:Tok):sL (.inr x) (.str x t)=true:=by simp [sL,Value.isStrOf]
theorem GG (a b:Int):decide ((Sum.inl a:Key)=Sum.inl b)=(a==b):=by
 by_cases e:a=b
 ·subst e;simp
 ·have h:¬(Sum.inl a:Key)=Sum.inl b:=fun q=>e (Sum.inl.inj q);rw [decide_eq_false h];exact (beq_eq_false_iff_ne.mpr e).symm
theorem GC (a b:Str):decide ((Sum.inr a:Key)=Sum.inr b)=decide (a=b):=by
 by_cases e:a=b
 ·subst e;simp
 ·have h:¬(Sum.inr a:Key)=Sum.inr b:=fun q=>e (Sum.inr.inj q);rw [decide_eq_false h,decide_eq_false e]
theorem GF (a:Int) (b:Str):decide ((Sum.inl a:Key)=Sum.inr b)=false:=decide_eq_false (fun q=>nomatch q)
theorem GD (a:Str) (b:Int):decide ((Sum.inr a:Key)=Sum.inl b)=false:=decide_eq_false (fun q=>nomatch q)
noncomputable def aZ (prog:Program) (w:World):PySem.KeyKind prog w Key where
 is:=sL
 hash:=GH w
 inj:=fun v a b ha hb=>by
  rcases cz ha with ⟨i,t,rfl,rfl⟩ | ⟨x,t,rfl,rfl⟩
  ·rcases cz hb with ⟨j,u,rfl,e⟩ | ⟨y,u,rfl,e⟩
   ·injection e with e1 _;rw [e1]
   ·exact nomatch e
  ·rcases cz hb with ⟨j,u,rfl,e⟩ | ⟨y,u,rfl,e⟩
   ·exact nomatch e
   ·injection e with e1 _;rw [e1]
 byValue:=fun k v h=>by
  rcases cz h with ⟨i,t,rfl,rfl⟩ | ⟨x,t,rfl,rfl⟩ <;> rfl
 pyHash:=fun hv h=>by
  rcases cz hv with ⟨i,t,rfl,rfl⟩ | ⟨x,t,rfl,rfl⟩
  ·exact wpAny_pyHash_int h
  ·exact wpAny_pyHash_str h
 eqBool:=fun hu hv h=>by
  rcases cz hu with ⟨i,t,rfl,rfl⟩ | ⟨x,t,rfl,rfl⟩
  ·rcases cz hv with ⟨j,u,rfl,rfl⟩ | ⟨y,u,rfl,rfl⟩
   ·rw [GG] at h;exact wpAny_eqBool_int h
   ·rw [GF] at h;exact SeqAt.EqAt.int_str i t y u _ _ _ _ h
  ·rcases cz hv with ⟨j,u,rfl,rfl⟩ | ⟨y,u,rfl,rfl⟩
   ·rw [GD] at h;exact SeqAt.EqAt.str_int x t j u _ _ _ _ h
   ·rw [GC] at h;exact wpAny_eqBool_str h
 «strs»:=fun k x t v h=>by
  rcases cz h with ⟨i,u,rfl,e⟩ | ⟨y,u,rfl,e⟩
  ·exact nomatch e
  ·injection e with e1 _
   subst e1;cases v <;> rfl
theorem oF (prog:Program) (w:World) (i:Int) (t:Tok):(aZ prog w).is (.inl i) (.int i t)=true:=zE i t
theorem oE (prog:Program) (w:World) (x:Str) (t:Tok):(aZ prog w).is (.inr x) (.str x t)=true:=zD x t
inductive V where
 | non | bl (b:Bool) | int (i:Int) | str (x:Str) | byt (b:Array UInt8) | flt (b:UInt64) | ref (a:Addr) | ty (n:String)
 deriving DecidableEq
def RelV:V->Value->Prop
 | .non,u=>u=Value.none
 | .bl b,u=>u=Value.bool b
 | .int i,u=>∃t,u=Value.int i t
 | .str x,u=>∃t,u=Value.str x t
 | .byt b,u=>∃t,u=Value.bytes b t
 | .flt b,u=>∃t,u=Value.float b t
 | .ref a,u=>u=Value.ref a
 | .ty n,u=>u=Value.type n
abbrev Vals:List V->List Value->Prop:=Paired RelV
theorem Vals.length (r:Vals xs us):xs.length=us.length:=Paired.length r
theorem Vals.get:∀{xs:List V} {us:List Value} {i:Nat} {x:V},Vals xs us->xs[i]?=some x->∃u,us[i]?=some u∧RelV x u
 | _,_,_,_,.nil,e=>by simp at e
 | _,_,0,_,.cons r _,e=>by simp at e;subst e;exact ⟨_,rfl,r⟩
 | _,_,i+1,x,.cons _ t,e=>by
  obtain ⟨u,h1,h2⟩:=Vals.get (i:=i) (x:=x) t (by simpa using e);exact ⟨u,by simpa using h1,h2⟩
theorem Vals.set (r:RelV x u):∀{xs:List V} {us:List Value} (i:Nat),Vals xs us->Vals (xs.set i x) (us.set i u)
 | _,_,_,.nil=>.nil
 | _,_,0,.cons _ t=>.cons r t
 | _,_,i+1,.cons q t=>.cons q (Vals.set r i t)
theorem Vals.append:∀{xs ys:List V} {us ws:List Value},Vals xs us->Vals ys ws->Vals (xs++ys) (us++ws)
 | _,_,_,_,.nil,s=>s
 | _,_,_,_,.cons r t,s=>.cons r (Vals.append t s)
theorem Vals.take:∀{xs:List V} {us:List Value} (n:Nat),Vals xs us->Vals (xs.take n) (us.take n)
 | _,_,0,_=>.nil
 | _,_,_+1,.nil=>.nil
 | _,_,n+1,.cons r t=>.cons r (Vals.take n t)
theorem Vals.drop:∀{xs:List V} {us:List Value} (n:Nat),Vals xs us->Vals (xs.drop n) (us.drop n)
 | _,_,0,r=>r
 | _,_,_+1,.nil=>.nil
 | _,_,n+1,.cons _ t=>Vals.drop n t
def ox:Option V->Option Value->Prop
 | some v,some u=>RelV v u
 | none,none=>True
 | _,_=>False
def KV {κ:Type}:List (κ×V)->List (κ×Value)->Prop:=Paired fun (p:κ×V) (q:κ×Value)=>p.1=q.1∧RelV p.2 q.2
noncomputable def kV:Key->V
 | .inl i=>.int i
 | .inr x=>.str x
inductive HO where
 | lst (xs:List V)
 | tup (xs:List V)
 | dK (kvs:List (Key×V)) | dT (kvs:List (List Key×V))
 | set (S:Int->Bool) (n:Nat)
 | ins (C dx:Addr) (fs:List (Str×V))
 | own (x:Addr)
 | xd (fs:List (Str×V))
 | met (f x:Addr)
 | rng (lo hi:Int)
 | frz (o:Obj) (u:HO)
 | tbl (ps:Array Value)
 | ext (φ:Heap->Prop)
abbrev Hp:=Addr->Option HO
noncomputable def upd (H:Hp) (a:Addr) (o:HO):Hp:=fun b=>if b=a then some o else H b
theorem aY:upd H a o a=some o:=by unfold upd;rw [if_pos rfl]
theorem aB (h:b≠a):upd H a o b=H b:=by unfold upd;rw [if_neg h]
theorem yg:upd (upd H a o) a u=upd H a u:=by
 funext b;unfold upd;split <;> rfl
theorem Iy {H:Hp} {a b:Addr} {o u:HO} (h:H a=some o) (h':H b=some u) (d:o≠u):a≠b:=by
 intro e;subst e;rw [h] at h';exact d (Option.some.inj h')
theorem aO {H:Hp} {a b:Addr} {o:HO} (h:H a=some o) (h':H b=none):a≠b:=by
 intro e;subst e;rw [h] at h';cases h'
def se (h:Heap) (a:Addr) (items:Array Value):Prop:=∃o,h.get? a=some o∧o.cls=.type "tuple"∧(∃n,o.data=.seq items n)∧o.dict=none
theorem se.tup (x:se h a items):IsTup h a items:=let ⟨o,e,c,d,_⟩:=x;⟨o,e,c,d⟩
theorem se.new (h:Heap) (items:Array Value):se (h.push {cls:=.type "tuple",data:=.seq items}) h.objs.size items:=⟨_,Heap.get?_push_size _ rfl,rfl,⟨_,rfl⟩,rfl⟩
section
variable (P:Program) (w:World)
def cF (H:Hp) (h:Heap) (a:Addr):HO->Prop
 | .lst xs=>xs.length≤sizeLine∧∃(its:List Value) (n:Nat),Vals xs its∧h.get? a=some {cls:=.type "list",data:=.seq its.toArray n}
 | .tup xs=>xs.length≤sizeLine∧∃its:List Value,Vals xs its∧se h a its.toArray
 | .dK kvs=>kvs.length≤sizeLine∧(a==sysModules)=false∧∃vs,KV kvs vs∧h.DictOf (aZ P w) a vs
 | .dT kvs=>kvs.length≤sizeLine∧(a==sysModules)=false∧∃xs:List (List Key×Addr×Value),
   Paired (fun (p:List Key×V) (q:List Key×Addr×Value)=>p.1=q.1∧H q.2.1=some (.tup (p.1.map kV))∧RelV p.2 q.2.2) kvs xs∧
   ∃o es ep,h.get? a=some o∧o.ExactDict∧o.data=.dict es ep∧es.toList=xs.map (entryOfKey (tupleKind (aZ P w)))∧(xs.map (·.1)).Nodup
 | .set S n=>h.SetOf (intKind P w) a S n
 | .ins C dx fs=>H dx=some (.own a)∧fs.length≤1000∧dx≠a∧h.get? a=some (PySem.W.instObj C dx)∧
   ∃mA,h.Ns1 dx mA∧(∀f,ox (fs.lookup f) (mA f))∧PySem.Within mA (fs.map (·.1))
 | .own _=>∃o,h.get? a=some o
 | .xd fs=>∃mA,h.Ns1 a mA∧∀f,ox (fs.lookup f) (mA f)
 | .rng lo hi=>∃t u v,h.get? a=some {cls:=.type "range",data:=.fields #[.int lo t,.int hi u,.int 1 v]}
 | .frz o u=>h.get? a=some o∧cF H h a u
 | .tbl ps=>h.get? a=some {cls:=.none,data:=.fields ps}
 | .met f x=>h.get? a=some (PySem.W.methodObj (.ref f) (.ref x))
 | .ext φ=>φ h∧(∃o,h.get? a=some o)∧∀h1 h2:Heap,φ h1->(∀o,h1.get? a=some o->h2.get? a=some o)->φ h2
def HOk (H:Hp) (h:Heap):Prop:=∀a o,H a=some o->cF P w H h a o
end
theorem cF.lt (x:cF P w H h a o):a < h.objs.size:=by
 cases o with
 | lst xs=>obtain ⟨_,_,_,_,e⟩:=x;exact Heap.lt_size e
 | tup xs=>obtain ⟨_,_,_,p⟩:=x;exact p.tup.lt
 | dK kvs=>obtain ⟨_,_,_,_,o,_,_,e,_⟩:=x;exact Heap.lt_size e
 | dT kvs=>obtain ⟨_,_,_,_,o,_,_,e,_⟩:=x;exact Heap.lt_size e
 | set S n=>obtain ⟨o,_,_,_,e,_⟩:=x;exact Heap.lt_size e
 | ins C dx fs=>obtain ⟨_,_,_,e,_⟩:=x;exact Heap.lt_size e
 | own y=>obtain ⟨_,e⟩:=x;exact Heap.lt_size e
 | xd fs=>obtain ⟨_,⟨_,_,_,e,_⟩,_⟩:=x;exact Heap.lt_size e
 | rng lo hi=>obtain ⟨_,_,_,e⟩:=x;exact Heap.lt_size e
 | frz ob u=>obtain ⟨e,_⟩:=x;exact Heap.lt_size e
 | tbl ps=>exact Heap.lt_size (show h.get? a=some _ from x)
 | met f y=>exact Heap.lt_size (show h.get? a=some _ from x)
 | ext φ=>obtain ⟨_,⟨_,e⟩,_⟩:=x;exact Heap.lt_size e
theorem Paired.Gs:∀{l₁:List α} {l₂:List β},Paired F l₁ l₂->(∀a b,F a b->G a b)->Paired G l₁ l₂
 | _,_,.nil,_=>.nil
 | _,_,.cons r t,f=>.cons (f _ _ r) (Paired.Gs t f)
theorem cF.vf (x:cF P w H h a o) (k:∀b u,(b=a∨H b=some (.own a))->h.get? b=some u->h'.get? b=some u)
  (ho:∀b,H b=some (.own a)->H' b=some (.own a)) (ht:∀b xs,H b=some (.tup xs)->H' b=some (.tup xs)):cF P w H' h' a o:=by
 induction o with
 | lst xs=>obtain ⟨z,its,n,r,e⟩:=x;exact ⟨z,its,n,r,k _ _ (.inl rfl) e⟩
 | tup xs=>obtain ⟨z,its,r,ob,e,c⟩:=x;exact ⟨z,its,r,ob,k _ _ (.inl rfl) e,c⟩
 | dK kvs=>obtain ⟨z,y,vs,r,ob,es,ep,e,c⟩:=x;exact ⟨z,y,vs,r,ob,es,ep,k _ _ (.inl rfl) e,c⟩
 | dT kvs=>
  obtain ⟨z,y,xs,r,ob,es,ep,e,c⟩:=x;exact ⟨z,y,xs,Paired.Gs r fun p q z=>⟨z.1,ht _ _ z.2.1,z.2.2⟩,ob,es,ep,k _ _ (.inl rfl) e,c⟩
 | set S n=>obtain ⟨ob,es,ep,t,e,c⟩:=x;exact ⟨ob,es,ep,t,k _ _ (.inl rfl) e,c⟩
 | ins C dx fs=>
  obtain ⟨d,z,ne,e,mA,⟨od,es,ep,e2,c⟩,r⟩:=x;exact ⟨ho _ d,z,ne,k _ _ (.inl rfl) e,mA,⟨od,es,ep,k _ _ (.inr d) e2,c⟩,r⟩
 | own y=>obtain ⟨ob,e⟩:=x;exact ⟨ob,k _ _ (.inl rfl) e⟩
 | xd fs=>obtain ⟨mA,⟨od,es,ep,e,c⟩,r⟩:=x;exact ⟨mA,⟨od,es,ep,k _ _ (.inl rfl) e,c⟩,r⟩
 | rng lo hi=>obtain ⟨t,u,v,e⟩:=x;exact ⟨t,u,v,k _ _ (.inl rfl) e⟩
 | frz ob u ih=>obtain ⟨e,q⟩:=x;exact ⟨k _ _ (.inl rfl) e,ih q⟩
 | tbl ps=>
  have e:h.get? a=some {cls:=.none,data:=.fields ps}:=x;show h'.get? a=some {cls:=.none,data:=.fields ps};exact k a _ (.inl rfl) e
 | met f y=>
  have e:h.get? a=some (PySem.W.methodObj (.ref f) (.ref y)):=x;show h'.get? a=some (PySem.W.methodObj (.ref f) (.ref y));exact k a _ (.inl rfl) e
 | ext φ=>obtain ⟨p,⟨o,e⟩,st⟩:=x;exact ⟨st _ _ p fun o q=>k _ _ (.inl rfl) q,⟨o,k _ _ (.inl rfl) e⟩,st⟩
theorem HOk.lt (x:HOk P w H h) (e:H a=some o):a < h.objs.size:=(x a o e).lt
theorem HOk.fresh (x:HOk P w H h) (e:h.objs.size≤a):H a=none:=by
 cases q:H a with
 | none=>rfl
 | some u=>exact absurd (Nat.lt_of_lt_of_le (x.lt q) e) (Nat.lt_irrefl _)
theorem HOk.kept (x:HOk P w H h) (k:∀b u,h.get? b=some u->h'.get? b=some u):HOk P w H h':=fun a o e=>
 (x a o e).vf (fun b u _ q=>k b u q) (fun _ q=>q) fun _ _ q=>q
theorem HOk.laid (x:HOk P w H h) (k:∀b u,h.get? b=some u->h'.get? b=some u) (hp:h.objs.size≤a) (new:cF P w (upd H a o) h' a o):HOk P w (upd H a o) h':=fun b u e=>by
 have hn:=x.fresh hp
 by_cases hb:b=a
 ·subst hb;rw [aY] at e;cases e;exact new
 ·rw [aB hb] at e;exact (x b u e).vf (fun c v _ q=>k c v q) (fun c q=>by rw [aB (aO q hn)];exact q) fun c xs q=>by rw [aB (aO q hn)];exact q
def Rd (H:Hp) (a:Addr) (u:HO):Prop:=H a=some u∨∃o,H a=some (.frz o u)
theorem Rd.ok (r:Rd H a u) (x:HOk P w H h):cF P w H h a u:=by
 rcases r with r | ⟨o,r⟩
 ·exact x a u r
 ·obtain ⟨_,q⟩:=x a _ r;exact q
def Mut:Option HO->Prop
 | some (.lst _)=>True
 | some (.dK _)=>True
 | some (.dT _)=>True
 | some (.set _ _)=>True
 | some (.ins _ _ _)=>True
 | some (.ext _)=>True
 | _=>False
theorem HOk.write (ok:HOk P w H h) (mu:Mut (H x)) (he:e=x∨H e=some (.own x)) (k:∀b u,b≠e->h.get? b=some u->h'.get? b=some u) (heo:∃u,h'.get? e=some u)
  (new:cF P w (upd H x o') h' x o'):HOk P w (upd H x o') h':=fun b u q=>by
 have nown:∀c y,H c=some (.own y)->c≠x:=fun c y r z=>by subst z;rw [r] at mu;exact mu
 have ntup:∀c xs,H c=some (.tup xs)->c≠x:=fun c xs r z=>by subst z;rw [r] at mu;exact mu
 by_cases hb:b=x
 ·subst hb;rw [aY] at q;cases q;exact new
 ·rw [aB hb] at q
  by_cases hbe:b=e
  ·have q':H b=some (.own x):=by
    rcases he with z | z
    ·exact absurd (hbe.trans z) hb
    ·rw [hbe];exact z
   rw [q] at q';cases q';obtain ⟨v,hv⟩:=heo;exact ⟨v,by rw [hbe];exact hv⟩
  ·refine (ok b u q).vf (fun c v hc r=>k c v ?_ r) (fun c r=>by rw [aB (nown c b r)];exact r) fun c xs r=>by rw [aB (ntup c xs r)];exact r
   rcases hc with rfl | hc
   ·exact hbe
   ·rintro rfl;rcases he with z | z
    ·exact nown c b hc z
    ·rw [hc] at z;cases z;exact hb rfl
structure Un (fs ex:List Addr) (H H':Hp) (h h':Heap):Prop where
 keep:∀b o,h.get? b=some o->H b=none->b∉fs->b∉ex->h'.get? b=some o
 slot:∀b o,h.get? b=some o->H b=none->b∈fs->b∉ex->∃sl,h'.get? b=some {o with slots:=sl}
 free:∀b o,h.get? b=some o->H b=none->b∉ex->H' b=none
 there:∀b o,h.get? b=some o->b∉ex->∃o',h'.get? b=some o'
 tups:∀b xs,H b=some (.tup xs)->H' b=some (.tup xs)
 frzs:∀b o u,H b=some (.frz o u)->H' b=some (.frz o u)
 tbls:∀b ps,H b=some (.tbl ps)->∃more,H' b=some (.tbl (ps++more))
theorem Un.any (u:Un fs ex H H1 h h1) (q:h.get? b=some ob) (n:H b=none) (hx:b∉ex):∃sl,h1.get? b=some {ob with slots:=sl}:=by
 by_cases hb:b∈fs
 ·exact u.slot b ob q n hb hx
 ·exact ⟨ob.slots,u.keep b ob q n hb hx⟩
theorem Un.kept (k:∀b u,h.get? b=some u->h'.get? b=some u):Un fs ex H H h h':=
 ⟨fun b ob q _ _ _=>k b ob q,fun b ob q _ _ _=>⟨ob.slots,k b ob q⟩,fun _ _ _ n _=>n,fun b ob q _=>⟨ob,k b ob q⟩,fun _ _ q=>q,fun _ _ _ q=>q,fun _ ps q=>⟨#[],by rw [q];simp⟩⟩
theorem Un.refl:Un fs ex H H h h:=Un.kept fun _ _ q=>q
theorem Un.laid (k:∀b u,h.get? b=some u->h'.get? b=some u) (hp:h.objs.size≤a) (hn:H a=none):Un fs ex H (upd H a o) h h' where
 keep:=fun b u q _ _ _=>k b u q
 slot:=fun b u q _ _ _=>⟨u.slots,k b u q⟩
 free:=fun b u q n _=>by rw [aB (Nat.ne_of_lt (Nat.lt_of_lt_of_le (Heap.lt_size q) hp))];exact n
 there:=fun b u q _=>⟨u,k b u q⟩
 tups:=fun b xs q=>by rw [aB (aO q hn)];exact q
 frzs:=fun b u xs q=>by rw [aB (aO q hn)];exact q
 tbls:=fun b ps q=>⟨#[],by rw [aB (aO q hn),q];simp⟩
theorem Un.write (mu:Mut (H x)) (he:e=x∨H e=some (.own x)) (k:∀b u,b≠e->h.get? b=some u->h'.get? b=some u) (heo:∃u,h'.get? e=some u):Un fs ex H (upd H x o) h h':=by
 have hx:∀b,H b=none->b≠x:=fun b n z=>by subst z;rw [n] at mu;exact mu
 have hb:∀b,H b=none->b≠e:=fun b n z=>by
  subst z;rcases he with r | r
  ·exact hx b n r
  ·rw [n] at r;cases r
 have hm:∀b u,H b=some u->¬Mut (some u)->b≠x:=fun b u q nm z=>by subst z;rw [q] at mu;exact nm mu
 refine ⟨fun b u q n _ _=>k b u (hb b n) q,fun b u q n _ _=>⟨u.slots,k b u (hb b n) q⟩,fun b u q n _=>by rw [aB (hx b n)];exact n,fun b u q _=>?_,
  fun b xs q=>by rw [aB (hm b _ q fun z=>z)];exact q,fun b u xs q=>by rw [aB (hm b _ q fun z=>z)];exact q,fun b ps q=>⟨#[],by rw [aB (hm b _ q fun z=>z),q];simp⟩⟩
 by_cases hbe:b=e
 ·subst hbe;exact heo
 ·exact ⟨u,k b u hbe q⟩
noncomputable def trk (h:Heap) (H:Hp):List Addr:=(List.range h.objs.size).filter fun a=>(H a).isSome
noncomputable def uD (h:Heap) (H:Hp):Heap:=PySem.W.hideAll h (trk h H)
theorem zI (h:Heap) (H:Hp):(uD h H).objs.size=h.objs.size:=PySem.W.hideAll_size _ _
theorem BO (e:h.get? b=some o) (n:H b=none):(uD h H).get? b=some o:=
 PySem.W.hideAll_get _ e fun hm=>by
  have q:(H b).isSome=true:=(List.mem_filter.mp hm).2;rw [n] at q;simp at q
theorem DO (e:(uD h H).get? b=some o):h.get? b=some o∧H b=none:=by
 have e':h.get? b=some o:=PySem.W.of_hideAll (trk h H) e;refine ⟨e',?_⟩;cases q:H b with
 | none=>rfl
 | some x=>
  have hm:b∈trk h H:=List.mem_filter.mpr ⟨List.mem_range.mpr (Heap.lt_size e'),by simp [q]⟩;have z:(uD h H).get? b=none:=PySem.W.hideAll_none (trk h H) hm;rw [z] at e;cases e
structure Mod (K:FR) (mg:Str->Option Value) (base:Heap):Prop where
 kin:K.In base
 glob:base.Ns mainGlobals mg
 blt:∃mb,base.Ns builtinsNs mb∧∀x:Str,x≠"__name__"->mb x=bootBuiltins x
 nolimit:base.NoLimit
structure Cx where
 prog:Program
 w:World
 K:FR
 mg:Str->Option Value
 base:Heap
 A:Around
 N:List Str
 s₀:Shared
 H₀:Hp
 env:Env
 outer:List Env
 stack:List Env
 ex:List Addr
 fn:Str->Bool
 calm:Bool
 pn:List (Addr×Obj)
 xe:Value->Shared->Prop
noncomputable def frs (l:List Env):List Addr:=l.filterMap (·.frame)
abbrev Cx.fs (X:Cx):List Addr:=frs X.outer
def Vis (sc:Scope) (x:Str):Prop:=sc.names.lookup x=some .local∨sc.names.lookup x=some .cell∨sc.names.lookup x=some .free
def Loc (sc:Scope) (x:Str):Prop:=sc.names.lookup x=some .local∨sc.names.lookup x=some .cell
def Look (env:Env) (h:Heap) (m:Str->Option Value) (x:Str) (u:Value):Prop:=
 (env.kindOf x=some .local∧m x=some u)∨((env.kindOf x=some .cell∨env.kindOf x=some .free)∧∃c,env.cells.lookup x=some c∧h.IsCell c (some u))
structure Cx.Ok (X:Cx):Prop where
 mod:Mod X.K X.mg X.base
 kind:X.env.scope.kind=.function
 glob:X.env.globals=mainGlobals
 blt:X.env.builtins=builtinsNs
 above:X.s₀.heap.objs.size≤X.env.locals
 inj:∀x y c,X.env.cells.lookup x=some c->X.env.cells.lookup y=some c->x=y
 has:∀x,(X.env.kindOf x=some .cell∨X.env.kindOf x=some .free)->∃c,X.env.cells.lookup x=some c
 cab:∀x c,X.fn x=true->X.env.cells.lookup x=some c->X.s₀.heap.objs.size≤c
 hd:X.calm=true->X.A.handled=none
 frames:X.A.frames=some X.stack
 stk:X.stack=X.outer∨(X.stack=X.env::X.outer∧X.env.frame=some X.env.locals)
 exf:∀b∈X.ex,b≠X.env.locals∧∀x c,X.env.cells.lookup x=some c->c≠b
 bs:∀b o,X.base.get? b=some o->X.s₀.heap.get? b=some o∧X.H₀ b=none
 bsz:X.base.objs.size≤X.s₀.heap.objs.size
 noex:∀b o,X.base.get? b=some o->b∉X.ex
 exfs:∀b∈X.ex,b∉X.fs
 qE:X.s₀.heap.FunFrames X.base X.outer
 frf:∀b∈X.fs,X.H₀ b=none
structure Inv (X:Cx) (pins:List (Addr×Obj)) (σ:List (Option V)) (H:Hp) (s:Shared):Prop where
 ok:X.Ok
 os:s.os=X.s₀.os
 bare:AllBare s.gens
 base:Un X.fs X.ex X.H₀ H X.s₀.heap s.heap
 loc:∃m,s.heap.Ns X.env.locals m∧∀(i:Nat) (x:Str) (v:V),X.N[i]?=some x->σ[i]?=some (some v)->Vis X.env.scope x->∃u,RelV v u∧Look X.env s.heap m x u
 cell:∀x c,X.env.cells.lookup x=some c->∃v,s.heap.IsCell c v
 free:H X.env.locals=none
 freeC:∀x c,X.env.cells.lookup x=some c->H c=none
 pin:∀p∈X.pn++pins,s.heap.get? p.1=some p.2∧H p.1=none∧p.1≠X.env.locals∧p.1∉X.fs∧∀v,p.2.data≠.cell v
 hok:HOk X.prog X.w H s.heap
 len:σ.length=X.N.length
section
variable {X:Cx} {pins:List (Addr×Obj)} {σ:List (Option V)} {H H':Hp} {s:Shared} {h':Heap}
theorem Cx.Ok.JF (ok:X.Ok) (e:X.base.get? b=some o):b∉X.fs:=fun hb=>by
 have:=(ok.qE.mem hb).1;rw [e] at this;cases this
theorem Inv.bs (I:Inv X pins σ H s):∀b o,X.base.get? b=some o->s.heap.get? b=some o∧H b=none:=fun b o e=>
 ⟨I.base.keep b o (I.ok.bs b o e).1 (I.ok.bs b o e).2 (I.ok.JF e) (I.ok.noex b o e),I.base.free b o (I.ok.bs b o e).1 (I.ok.bs b o e).2 (I.ok.noex b o e)⟩
theorem Inv.bk (I:Inv X pins σ H s):∀b o,X.base.get? b=some o->s.heap.get? b=some o:=fun b o e=>(I.bs b o e).1
theorem Inv.mod (I:Inv X pins σ H s):Mod X.K X.mg X.base:=I.ok.mod
theorem Inv.kIn (I:Inv X pins σ H s):X.K.In s.heap:=I.ok.mod.kin.keeps I.bk
theorem Inv.lt (I:Inv X pins σ H s):X.env.locals < s.heap.objs.size:=let ⟨_,hn,_⟩:=I.loc;hn.lt
theorem Inv.sz (I:Inv X pins σ H s):X.s₀.heap.objs.size≤s.heap.objs.size:=Nat.le_trans I.ok.above (Nat.le_of_lt I.lt)
theorem Inv.JE (I:Inv X pins σ H s) (h:s.heap.objs.size≤a):a∉X.fs:=fun hb=>by
 obtain ⟨_,o,ho,_⟩:=I.ok.qE.mem hb;exact absurd (Nat.lt_of_lt_of_le (Heap.lt_size ho) (Nat.le_trans I.sz h)) (Nat.lt_irrefl _)
theorem Inv.cne (I:Inv X pins σ H s):∀x c,X.env.cells.lookup x=some c->c≠X.env.locals:=fun x c e z=>by
 obtain ⟨v,o,ho,hd⟩:=I.cell x c e;obtain ⟨m,⟨o',es,ep,ho',hd',_⟩,_⟩:=I.loc;rw [z,ho'] at ho;cases ho;rw [hd'] at hd;cases hd
theorem Inv.qE (I:Inv X pins σ H s):s.heap.FunFrames X.base X.outer:=by
 have all:∀(l:List Env),(∀b∈frs l,b∈X.fs)->X.s₀.heap.FunFrames X.base l->s.heap.FunFrames X.base l:=by
  intro l
  induction l with
  | nil=>intro _ _;trivial
  | cons env r ih=>
   intro hs hl;obtain ⟨hk,⟨L,o,hf,hn,ho,hd⟩,hr⟩:=hl;have hL:L∈X.fs:=hs L (by unfold frs;rw [List.filterMap_cons,hf];exact List.mem_cons_self);obtain ⟨sl,e⟩:=I.base.slot L o ho (I.ok.frf L hL) hL fun z=>I.ok.exfs L z hL;exact ⟨hk,⟨L,_,hf,hn,e,hd⟩,ih (fun b hb=>hs b (by unfold frs;rw [List.filterMap_cons,hf];exact List.mem_cons_of_mem _ hb)) hr⟩
 exact all X.outer (fun _ hb=>hb) I.ok.qE
theorem Inv.stack (I:Inv X pins σ H s):s.heap.FunFrames X.base X.stack:=by
 rcases I.ok.stk with e | ⟨e,hf⟩
 ·rw [e];exact I.qE
 ·rw [e];obtain ⟨m,hn,_⟩:=I.loc;refine .cons (by rw [I.ok.kind];decide) hf hn ?_ I.qE;exact Heap.get?_none_of_le (Nat.le_trans I.ok.bsz I.ok.above)
theorem Inv.nB (I:Inv X pins σ H s):∀b∈frs X.stack,b∈X.env.locals::X.fs:=fun b hb=>by
 rcases I.ok.stk with e | ⟨e,hf⟩
 ·rw [e] at hb;exact List.mem_cons_of_mem _ hb
 ·rw [e] at hb;unfold frs at hb;rw [List.filterMap_cons,hf] at hb;exact hb
theorem Inv.yi (I:Inv X pins σ H s):∀b∈frs X.stack,H b=none:=fun b hb=>by
 rcases List.mem_cons.mp (I.nB b hb) with e | hb
 ·rw [e];exact I.free
 ·obtain ⟨_,o,ho,_⟩:=I.ok.qE.mem hb;exact I.base.free b o ho (I.ok.frf b hb) fun z=>I.ok.exfs b z hb
theorem Inv.step {g':Array GenState} {t':Nat} {d':Drawn} {ch:List Addr} (I:Inv X pins σ H s)
  (hch:∀b∈ch,(b∈X.ex∨X.s₀.heap.objs.size≤b)∧b≠X.env.locals∧(∀x c,X.env.cells.lookup x=some c->c≠b)∧∀p∈X.pn++pins,p.1≠b)
  (keep:∀b o,b≠X.env.locals->b∉X.fs->b∉ch->s.heap.get? b=some o->H b=none->h'.get? b=some o)
  (slot:∀b o,b≠X.env.locals->b∈X.fs->b∉ch->s.heap.get? b=some o->H b=none->∃sl,h'.get? b=some {o with slots:=sl}) (free:∀b o,b∉ch->s.heap.get? b=some o->H b=none->H' b=none)
  (there:∀b o,b∉ch->s.heap.get? b=some o->∃o',h'.get? b=some o')
  (tups:∀b xs,H b=some (.tup xs)->H' b=some (.tup xs)) (frzs:∀b o u,H b=some (.frz o u)->H' b=some (.frz o u)) (tbls:∀b ps,H b=some (.tbl ps)->∃more,H' b=some (.tbl (ps++more)))
  (ns:∀m,s.heap.Ns X.env.locals m->h'.Ns X.env.locals m) (hok:HOk X.prog X.w H' h') (hg:AllBare g'):
  Inv X pins σ H' {s with heap:=h',gens:=g',drawn:=d',toks:=t'}:=by
 have neL:∀b o,X.s₀.heap.get? b=some o->b≠X.env.locals:=fun b o e=>Nat.ne_of_lt (Nat.lt_of_lt_of_le (Heap.lt_size e) I.ok.above);have neC:∀b o,X.s₀.heap.get? b=some o->b∉X.ex->b∉ch:=fun b o e hx hb=>by
  rcases (hch b hb).1 with z | z
  ·exact hx z
  ·exact absurd (Nat.lt_of_lt_of_le (Heap.lt_size e) z) (Nat.lt_irrefl _)
 have cellK:∀x c,X.env.cells.lookup x=some c->∀v,s.heap.IsCell c v->h'.IsCell c v:=fun x c e v ⟨o,ho,hd⟩=>by
  have nch:c∉ch:=fun z=>(hch c z).2.2.1 x c e rfl
  by_cases hc:c∈X.fs
  ·obtain ⟨sl,q⟩:=slot c o (I.cne x c e) hc nch ho (I.freeC x c e);exact ⟨_,q,hd⟩
  ·exact ⟨o,keep c o (I.cne x c e) hc nch ho (I.freeC x c e),hd⟩
 refine ⟨I.ok,I.os,hg,⟨fun b o e n hb hx=>?_,fun b o e n hb hx=>?_,fun b o e n hx=>?_,fun b o e hx=>?_,fun b xs e=>tups b xs (I.base.tups b xs e),fun b o xs e=>frzs b o xs (I.base.frzs b o xs e),fun b ps e=>?_⟩,?_,fun x c e=>?_,?_,fun x c e=>?_,fun p hp=>?_,hok,I.len⟩
 ·exact keep b o (neL b o e) hb (neC b o e hx) (I.base.keep b o e n hb hx) (I.base.free b o e n hx)
 ·obtain ⟨sl,e1⟩:=I.base.slot b o e n hb hx;obtain ⟨sl',e2⟩:=slot b _ (neL b o e) hb (neC b o e hx) e1 (I.base.free b o e n hx);exact ⟨sl',e2⟩
 ·obtain ⟨o',e1⟩:=I.base.there b o e hx;exact free b o' (neC b o e hx) e1 (I.base.free b o e n hx)
 ·obtain ⟨o',e1⟩:=I.base.there b o e hx;exact there b o' (neC b o e hx) e1
 ·obtain ⟨m1,e1⟩:=I.base.tbls b ps e;obtain ⟨m2,e2⟩:=tbls b _ e1;exact ⟨m1++m2,by rw [e2,Array.append_assoc]⟩
 ·obtain ⟨m,hn,hl⟩:=I.loc;refine ⟨m,ns m hn,fun i x v e1 e2 e3=>?_⟩;obtain ⟨u,r,l⟩:=hl i x v e1 e2 e3;refine ⟨u,r,?_⟩;rcases l with l | ⟨k,c,e,z⟩
  ·exact .inl l
  ·exact .inr ⟨k,c,e,cellK x c e _ z⟩
 ·obtain ⟨v,z⟩:=I.cell x c e;exact ⟨v,cellK x c e v z⟩
 ·obtain ⟨m,⟨o,_,_,ho,_⟩,_⟩:=I.loc;exact free _ o (fun z=>(hch _ z).2.1 rfl) ho I.free
 ·obtain ⟨v,o,ho,hd⟩:=I.cell x c e;exact free c o (fun z=>(hch c z).2.2.1 x c e rfl) ho (I.freeC x c e)
 ·obtain ⟨e,n,ne,nf,d⟩:=I.pin p hp;have nch:p.1∉ch:=fun z=>(hch p.1 z).2.2.2 p hp rfl;exact ⟨keep p.1 p.2 ne nf nch e n,free p.1 p.2 nch e n,ne,nf,d⟩
theorem Inv.un {t':Nat} (I:Inv X pins σ H s) (u:Un X.fs [] H H' s.heap h') (hok:HOk X.prog X.w H' h'):Inv X pins σ H' {s with heap:=h',toks:=t'}:=by
 obtain ⟨m,⟨o,es,ep,ho,r⟩,_⟩:=id I.loc;obtain ⟨sl,hL⟩:=u.any ho I.free (by simp);exact I.step (g':=s.gens) (d':=s.drawn) (ch:=[]) (fun _ z=>nomatch z) (fun b o _ hb _ e n=>u.keep b o e n hb (by simp)) (fun b o _ hb _ e n=>u.slot b o e n hb (by simp)) (fun b o _ e n=>u.free b o e n (by simp)) (fun b o _ e=>u.there b o e (by simp)) u.tups u.frzs u.tbls (fun m' hm=>by
  obtain ⟨o',es',ep',ho',r'⟩:=hm;rw [ho] at ho';cases ho';exact ⟨_,es',ep',hL,r'⟩) hok I.bare
theorem Inv.call {g':Array GenState} {t':Nat} {d':Drawn} {ch:List Addr} (I:Inv X pins σ H s) (u:Un (frs X.stack) ch H H' s.heap h') (hok:HOk X.prog X.w H' h') (hg:AllBare g')
  (hch:∀b∈ch,(b∈X.ex∨X.s₀.heap.objs.size≤b)∧b≠X.env.locals∧(∀x c,X.env.cells.lookup x=some c->c≠b)∧∀p∈X.pn++pins,p.1≠b):
  Inv X pins σ H' {s with heap:=h',gens:=g',drawn:=d',toks:=t'}:=by
 obtain ⟨m,⟨o,es,ep,ho,r⟩,_⟩:=id I.loc;obtain ⟨sl,hL⟩:=u.any ho I.free fun z=>(hch _ z).2.1 rfl;exact I.step (ch:=ch) hch (fun b o hL hb hc e n=>u.keep b o e n (fun z=>(List.mem_cons.mp (I.nB b z)).elim hL hb) hc) (fun b o _ _ hc e n=>u.any e n hc) (fun b o hc e n=>u.free b o e n hc) (fun b o hc e=>u.there b o e hc) u.tups u.frzs u.tbls (fun m' hm=>by
  obtain ⟨o',es',ep',ho',r'⟩:=hm;rw [ho] at ho';cases ho';exact ⟨_,es',ep',hL,r'⟩) hok hg
theorem Inv.turned {t':Nat} {it:Addr} (I:Inv X pins σ H s) (k:∀b o,b≠it->s.heap.get? b=some o->h'.get? b=some o) (hn:H it=none) (hL:it≠X.env.locals)
  (h1:it∈X.ex∨X.s₀.heap.objs.size≤it) (h2:∀x c,X.env.cells.lookup x=some c->c≠it) (h3:∀p∈X.pn++pins,p.1≠it):Inv X pins σ H {s with heap:=h',toks:=t'}:=by
 have nit:∀b u,H b=some u->b≠it:=fun b u e z=>by rw [z,hn] at e;cases e
 refine I.step (g':=s.gens) (d':=s.drawn) (ch:=[it]) (fun b hb=>?_) (fun b o _ _ hc e _=>k b o (fun z=>hc (by simp [z])) e) (fun b o _ _ hc e _=>⟨o.slots,k b o (fun z=>hc (by simp [z])) e⟩) (fun _ _ _ _ n=>n)
  (fun b o hc e=>⟨o,k b o (fun z=>hc (by simp [z])) e⟩) (fun _ _ e=>e) (fun _ _ _ e=>e) (fun b ps e=>⟨#[],by rw [e];simp⟩) (fun m hm=>?_) (fun b u e=>?_) I.bare
 ·have e:b=it:=by simpa using hb
  subst e;exact ⟨h1,hL,h2,h3⟩
 ·obtain ⟨o,es,ep,ho,r⟩:=hm;exact ⟨o,es,ep,k _ o (Ne.symm hL) ho,r⟩
 ·refine (I.hok b u e).vf (fun c v hc q=>k c v ?_ q) (fun _ q=>q) fun _ _ q=>q;rcases hc with z | z
  ·rw [z];exact nit b u e
  ·exact nit c _ z
theorem Inv.tok (I:Inv X pins σ H s) (t:Nat):Inv X pins σ H {s with toks:=t}:=I.un (h':=s.heap) (t':=t) Un.refl I.hok
theorem Inv.kept (I:Inv X pins σ H s) (k:∀b u,s.heap.get? b=some u->h'.get? b=some u):Inv X pins σ H {s with heap:=h',toks:=t'}:=I.un (Un.kept k) (I.hok.kept k)
theorem Inv.laid (I:Inv X pins σ H s) (k:∀b u,s.heap.get? b=some u->h'.get? b=some u) (hp:s.heap.objs.size≤a) (new:cF X.prog X.w (upd H a o) h' a o):
  Inv X pins σ (upd H a o) {s with heap:=h',toks:=t'}:=I.un (Un.laid k hp (I.hok.fresh hp)) (I.hok.laid k hp new)
theorem Inv.write (I:Inv X pins σ H s) (mu:Mut (H x)) (he:e=x∨H e=some (.own x)) (k:∀b u,b≠e->s.heap.get? b=some u->h'.get? b=some u) (heo:∃u,h'.get? e=some u) (new:cF X.prog X.w (upd H x o) h' x o):Inv X pins σ (upd H x o) {s with heap:=h',toks:=t'}:=I.un (Un.write mu he k heo) (I.hok.write mu he k heo new)
theorem Inv.yr (I:Inv X pins σ H s) (h:∀p∈pins',s.heap.get? p.1=some p.2∧H p.1=none∧p.1≠X.env.locals∧p.1∉X.fs∧∀v,p.2.data≠.cell v):Inv X pins' σ H s:=
 ⟨I.ok,I.os,I.bare,I.base,I.loc,I.cell,I.free,I.freeC,fun p hp=>(List.mem_append.mp hp).elim (fun z=>I.pin p (List.mem_append_left _ z)) (h p),I.hok,I.len⟩
theorem vP {N:List Str} (hN:N.Nodup) {i j:Nat} {x:Str} (a:N[i]?=some x) (b:N[j]?=some x):i=j:=by
 obtain ⟨h1,e1⟩:=List.getElem?_eq_some_iff.mp a;obtain ⟨h2,e2⟩:=List.getElem?_eq_some_iff.mp b;exact (List.getElem_inj hN).mp (e1.trans e2.symm)
theorem nA {M:Model} {A:Around} {E:Value->Shared->Prop} {i:Nat} {x:Str} {v:V} {u:Value} {Q:Unit->Shared->Prop} (I:Inv X pins σ H s) (hN:X.N.Nodup) (hi:X.N[i]?=some x) (hx:Loc X.env.scope x) (r:RelV v u)
  (h:∀s',Inv X pins (σ.set i (some v)) H s'->(∃a,Heap.SameBut a s.heap s'.heap∧(a=X.env.locals∨X.env.cells.lookup x=some a))->Q () s') (hf:X.fn x=true∨X.env.scope.names.lookup x=some .local:=by first | exact .inl rfl | exact .inr rfl | assumption):wpAny M A (storeName X.env x u) Q E s:=by
 obtain ⟨m,hn,hl⟩:=id I.loc;have hcls:(X.env.scope.kind==.class||(X.env.scope.kind==.module&&X.env.locals !=X.env.globals))=false:=by rw [I.ok.kind];rfl
 have hiσ:i < σ.length:=by rw [I.len];exact (List.getElem?_eq_some_iff.mp hi).1
 have cne:=I.cne;have tracked:∀{a:Addr} {h':Heap},(∃o,s.heap.get? a=some o∧H a=none)->Heap.SameBut a s.heap h'->HOk X.prog X.w H h':=fun {a h'} ha hs b ob e=>by
  obtain ⟨_,_,hfree⟩:=ha;refine (I.hok b ob e).vf (fun c w' hc q=>(hs.2 c ?_).trans q) (fun _ q=>q) fun _ _ q=>q;rintro rfl;rcases hc with rfl | hc
  ·rw [hfree] at e;cases e
  ·rw [hfree] at hc;cases hc
 rcases hx with hk | hk
 ·refine wpAny_storeName_local hk hn (fun h' hn' hs=>?_) hcls;obtain ⟨oL,_,_,hoL,_⟩:=id hn;refine h _ ⟨I.ok,I.os,I.bare,⟨fun b o e n hb hx=>?_,fun b o e n hb hx=>?_,I.base.free,fun b o e hx=>?_,I.base.tups,I.base.frzs,I.base.tbls⟩,⟨_,hn',fun j y v' e1 e2 e3=>?_⟩,fun y c e=>?_,I.free,I.freeC,fun p hp=>?_,tracked ⟨oL,hoL,I.free⟩ hs,by simpa using I.len⟩ ⟨_,hs,.inl rfl⟩
  ·exact (hs.2 b (Nat.ne_of_lt (Nat.lt_of_lt_of_le (Heap.lt_size e) I.ok.above))).trans (I.base.keep b o e n hb hx)
  ·obtain ⟨sl,e1⟩:=I.base.slot b o e n hb hx;exact ⟨sl,(hs.2 b (Nat.ne_of_lt (Nat.lt_of_lt_of_le (Heap.lt_size e) I.ok.above))).trans e1⟩
  ·obtain ⟨o',e1⟩:=I.base.there b o e hx;exact ⟨o',(hs.2 b (Nat.ne_of_lt (Nat.lt_of_lt_of_le (Heap.lt_size e) I.ok.above))).trans e1⟩
  ·by_cases hj:j=i
   ·subst hj;rw [hi] at e1;cases e1;rw [List.getElem?_set_self hiσ] at e2;cases e2;exact ⟨u,r,.inl ⟨hk,by simp⟩⟩
   ·rw [List.getElem?_set_ne (Ne.symm hj)] at e2;obtain ⟨u',r',q⟩:=hl j y v' e1 e2 e3;refine ⟨u',r',?_⟩;rcases q with ⟨k,e⟩ | ⟨k,c,e,z⟩
    ·refine .inl ⟨k,?_⟩;have:y≠x:=fun e=>hj (vP hN e1 (e ▸ hi));simp [this,e]
    ·exact .inr ⟨k,c,e,z.sameBut hs (cne y c e)⟩
  ·obtain ⟨w',z⟩:=I.cell y c e;exact ⟨w',z.sameBut hs (cne y c e)⟩
  ·obtain ⟨e,n,ne,nf,d⟩:=I.pin p hp;exact ⟨(hs.2 p.1 ne).trans e,n,ne,nf,d⟩
 ·have hfn:X.fn x=true:=by
   rcases hf with z | z
   ·exact z
   ·rw [z] at hk;cases hk
  obtain ⟨c,hc⟩:=I.ok.has x (.inl hk);obtain ⟨w',z⟩:=I.cell x c hc;refine wpAny_storeName_cell I.ok.kind hk hc z (fun h' hc' hs=>?_);obtain ⟨oc,hoc,hocd⟩:=id z;refine h {s with heap:=h'} ⟨I.ok,I.os,I.bare,⟨fun b o e n hb hx=>?_,fun b o e n hb hx=>?_,I.base.free,fun b o e hx=>?_,I.base.tups,I.base.frzs,I.base.tbls⟩,⟨m,hn.sameBut hs (Ne.symm (cne x c hc)),fun j y v' e1 e2 e3=>?_⟩,fun y c' e=>?_,I.free,I.freeC,fun p hp=>?_,tracked ⟨oc,hoc,I.freeC x c hc⟩ hs,by simpa using I.len⟩ ⟨c,hs,.inr hc⟩
  ·exact (hs.2 b (Nat.ne_of_lt (Nat.lt_of_lt_of_le (Heap.lt_size e) (I.ok.cab x c hfn hc)))).trans (I.base.keep b o e n hb hx)
  ·obtain ⟨sl,e1⟩:=I.base.slot b o e n hb hx;exact ⟨sl,(hs.2 b (Nat.ne_of_lt (Nat.lt_of_lt_of_le (Heap.lt_size e) (I.ok.cab x c hfn hc)))).trans e1⟩
  ·obtain ⟨o',e1⟩:=I.base.there b o e hx;exact ⟨o',(hs.2 b (Nat.ne_of_lt (Nat.lt_of_lt_of_le (Heap.lt_size e) (I.ok.cab x c hfn hc)))).trans e1⟩
  ·by_cases hj:j=i
   ·subst hj;rw [hi] at e1;cases e1;rw [List.getElem?_set_self hiσ] at e2;cases e2;exact ⟨u,r,.inr ⟨.inl hk,c,hc,hc'⟩⟩
   ·rw [List.getElem?_set_ne (Ne.symm hj)] at e2;obtain ⟨u',r',q⟩:=hl j y v' e1 e2 e3;refine ⟨u',r',?_⟩;rcases q with q | ⟨k,c',e,z'⟩
    ·exact .inl q
    ·refine .inr ⟨k,c',e,z'.sameBut hs ?_⟩;rintro rfl;exact hj (vP hN e1 (I.ok.inj _ _ _ e hc ▸ hi))
  ·by_cases hcc:c'=c
   ·subst hcc;exact ⟨_,hc'⟩
   ·obtain ⟨w2,z2⟩:=I.cell y c' e;exact ⟨w2,z2.sameBut hs hcc⟩
  ·obtain ⟨e,n,ne,nf,d⟩:=I.pin p hp;refine ⟨(hs.2 p.1 ?_).trans e,n,ne,nf,d⟩;intro q;rw [q,hoc] at e;have q':oc=p.2:=Option.some.inj e;exact d w' (by rw [←q'];exact hocd)
theorem jm (I:Inv X pins σ H s) (hN:X.N.Nodup) (hi:X.N[i]?=some x) (hx:Loc X.env.scope x) (r:RelV v u) (h:∀s',Inv X pins (σ.set i (some v)) H s'->Q () s') (hf:X.fn x=true∨X.env.scope.names.lookup x=some .local:=by first | exact .inl rfl | exact .inr rfl | assumption):wpAny M A (storeName X.env x u) Q E s:=
 nA I hN hi hx r (fun s' I' _=>h s' I') hf
theorem Inv.call' (I:Inv X pins σ H s) (ho:s'.os=s.os) (u:Un (frs X.stack) ch H H' s.heap s'.heap) (hok:HOk X.prog X.w H' s'.heap) (hg:AllBare s'.gens) (hch:∀b∈ch,(b∈X.ex∨X.s₀.heap.objs.size≤b)∧b≠X.env.locals∧(∀x c,X.env.cells.lookup x=some c->c≠b)∧∀p∈X.pn++pins,p.1≠b):Inv X pins σ H' s':=by
 obtain ⟨h',g',d',t',o'⟩:=s';have e:o'=s.os:=ho;subst e;exact I.call (g':=g') (t':=t') (d':=d') u hok hg hch
end
abbrev XK:=Value->Option Addr->Hp->Prop
abbrev St:=List (Option V)
abbrev VK:=V->Hp->Prop
abbrev TE:=St->Hp->VK->Prop
abbrev TT:=St->Hp->(Bool->Hp->Prop)->Prop
abbrev TA:=St->Hp->(List V->Hp->Prop)->Prop
structure Ends where
 nx:St->Hp->Prop
 rt:VK
 bk:St->Hp->Prop:=fun _ _=>False
 ct:St->Hp->Prop:=fun _ _=>False
abbrev TS:=Ends->St->Hp->Prop
inductive EPi (X:Cx) (pins:List (Addr×Obj)) (σ:St) (Q:VK) (u:Value) (s':Shared):Prop where
 | mk (v H'):Inv X pins σ H' s'->RelV v u->Q v H'->EPi X pins σ Q u s'
def EP (X:Cx) (pins:List (Addr×Obj)) (σ:St) (Q:VK) (u:Value) (s':Shared):Prop:=EPi X pins σ Q u s'
def TP (X:Cx) (pins:List (Addr×Obj)) (σ:St) (Q:Bool->Hp->Prop) (b:Bool) (s':Shared):Prop:=∃H',Inv X pins σ H' s'∧Q b H'
inductive APi (X:Cx) (pins:List (Addr×Obj)) (σ:St) (Q:List V->Hp->Prop) (us:List Value) (s':Shared):Prop where
 | mk (vs H'):Inv X pins σ H' s'->Vals vs us->Q vs H'->APi X pins σ Q us s'
def AP (X:Cx) (pins:List (Addr×Obj)) (σ:St) (Q:List V->Hp->Prop) (us:List Value) (s':Shared):Prop:=APi X pins σ Q us s'
def SP (X:Cx) (pins:List (Addr×Obj)) (D:Ends) (f:Flow) (s':Shared):Prop:=
 match f with
 | .next=>∃σ' H',Inv X pins σ' H' s'∧D.nx σ' H'
 | .brk=>∃σ' H',Inv X pins σ' H' s'∧D.bk σ' H'
 | .cont=>∃σ' H',Inv X pins σ' H' s'∧D.ct σ' H'
 | .ret u=>∃v σ' H',Inv X pins σ' H' s'∧RelV v u∧D.rt v H'
def PE (X:Cx) (e:Expr) (t:TE):Prop:=
 ∀(pins:List (Addr×Obj)) (s:Shared) (σ:St) (H:Hp) (Q:VK),Inv X pins σ H s->t σ H Q->wpAny (model X.prog X.w) X.A (eval e X.env) (EP X pins σ Q) X.xe s
def PT (X:Cx) (e:Expr) (t:TT):Prop:=
 ∀(pins:List (Addr×Obj)) (s:Shared) (σ:St) (H:Hp) (Q:Bool->Hp->Prop),Inv X pins σ H s->t σ H Q->wpAny (model X.prog X.w) X.A (isTrue e X.env (eval e X.env)) (TP X pins σ Q) X.xe s
def PW (X:Cx) (e:Expr) (t:TT):Prop:=
 ∀(whole:Sem Value) (pins:List (Addr×Obj)) (s:Shared) (σ:St) (H:Hp) (Q:Bool->Hp->Prop),Inv X pins σ H s->t σ H Q->wpAny (model X.prog X.w) X.A (isTrue e X.env whole) (TP X pins σ Q) X.xe s
theorem PW.pt (h:PW X e t):PT X e t:=h _
def PA (X:Cx) (es:List Expr) (t:TA):Prop:=
 ∀(pos:Pos) (pins:List (Addr×Obj)) (s:Shared) (σ:St) (H:Hp) (Q:List V->Hp->Prop),Inv X pins σ H s->t σ H Q->wpAny (model X.prog X.w) X.A (spliced (backTo pos (starEach es X.env))) (AP X pins σ Q) X.xe s
def PS (X:Cx) (st:Stmt) (t:TS):Prop:=
 ∀(pins:List (Addr×Obj)) (s:Shared) (σ:St) (H:Hp) (D:Ends),Inv X pins σ H s->t D σ H->wpAny (model X.prog X.w) X.A (exec st X.env) (SP X pins D) X.xe s
def PSs (X:Cx) (st:List Stmt) (t:TS):Prop:=
 ∀(pins:List (Addr×Obj)) (s:Shared) (σ:St) (H:Hp) (D:Ends),Inv X pins σ H s->t D σ H->wpAny (model X.prog X.w) X.A (execs st X.env) (SP X pins D) X.xe s
theorem thn (h:wpAny M A t Q E s) (hQ:∀a s,Q a s->Q' a s):wpAny M A t Q' E s:=wpAny_mono h hQ fun _ _ x=>x
section
variable {X:Cx}
def I0 (i:Nat):TE:=fun σ H Q=>∃v,σ[i]?=some (some v)∧Q v H
def tC (v:V):TE:=fun _ H Q=>Q v H
theorem FU (hN:X.N[i]?=some x) (hv:Vis X.env.scope x) (hd:(x==("__debug__":Str))=false:=by decide) (hcd:(x==("__classdict__":Str))=false:=by decide):PE X (.Name x pos) (I0 i):=by
 intro pins s σ H Q I h;obtain ⟨v,e,h⟩:=h;obtain ⟨m,hn,hl⟩:=I.loc;obtain ⟨u,r,l⟩:=hl i x v hN e hv;have fin:EP X pins σ Q u s:=⟨v,H,I,r,h⟩;rcases l with ⟨hk,hm⟩ | ⟨hk,c,hc,hcell⟩
 ·exact wpAny_Name (wpAny_loadName_local I.ok.kind hk hn hm fin) hd
 ·rcases hk with hk | hk
  ·exact wpAny_Name (wpAny_loadName_cell I.ok.kind hk hc hcell fin) hd
  ·exact wpAny_Name (wpAny_loadName_free I.ok.kind hk hc hcell fin hcd) hd
theorem F6 {i j pos}:PE X (.Constant (.int i) j pos) (tC (.int i)):=fun _ _ _ H _ I h=>wpAny_Constant_int ⟨.int i,H,I.tok _,⟨_,rfl⟩,h⟩
theorem Im {b j pos}:PE X (.Constant (.bool b) j pos) (tC (.bl b)):=fun _ _ _ H _ I h=>Constant_bool ⟨.bl b,H,I,rfl,h⟩
theorem F0 {j pos}:PE X (.Constant .none j pos) (tC .non):=fun _ _ _ H _ I h=>Constant_none ⟨.non,H,I,rfl,h⟩
theorem FX {x j pos}:PE X (.Constant (.str x) j pos) (tC (.str x)):=fun _ _ _ H _ I h=>Calls.Constant_str ⟨.str x,H,I.tok _,⟨_,rfl⟩,h⟩
def Gl (X:Cx) (x:Str):Prop:=X.env.kindOf x=some .globalImplicit
theorem pJ (I:Inv X pins σ H s) (hg:Gl X x) (hm:X.mg x=some u) (h:Q u s) (hd:(x==("__debug__":Str))=false:=by decide):wpAny (model X.prog X.w) X.A (eval (.Name x pos) X.env) Q E s:=
 Calls.Name_function_global I.ok.kind hg (Calls.loadGlobal_global (by rw [I.ok.glob];exact I.mod.glob.keeps I.bk) hm h) hd
theorem lM (I:Inv X pins σ H s) (hg:Gl X x) (hm:X.mg x=none) (hv:bootBuiltins x=some u) (h:Q u s) (hn:x≠"__name__":=by decide) (hd:(x==("__debug__":Str))=false:=by decide):wpAny (model X.prog X.w) X.A (eval (.Name x pos) X.env) Q E s:=by
 obtain ⟨mb,h1,h2⟩:=I.mod.blt;exact Calls.Name_function_global I.ok.kind hg (Calls.loadGlobal_builtin (by rw [I.ok.glob];exact I.mod.glob.keeps I.bk) hm (by rw [I.ok.blt];exact h1.keeps I.bk) ((h2 x hn).trans hv) h) hd
theorem DG (hg:Gl X x) (hm:X.mg x=some u) (r:RelV v u) (hd:(x==("__debug__":Str))=false:=by decide):PE X (.Name x pos) (tC v):=
 fun _ _ _ H _ I h=>pJ I hg hm ⟨v,H,I,r,h⟩ hd
theorem DJ (hg:Gl X x) (hm:X.mg x=none) (hv:bootBuiltins x=some u) (r:RelV v u) (hn:x≠"__name__":=by decide) (hd:(x==("__debug__":Str))=false:=by decide):PE X (.Name x pos) (tC v):=
 fun _ _ _ H _ I h=>lM I hg hm hv ⟨v,H,I,r,h⟩ hn hd
variable {a b:Expr} {ta tb:TE} {pos:Pos}
def PC (X:Cx) (op:CmpOp) (a b:Expr) (t:TE):Prop:=
 ∀(pins:List (Addr×Obj)) (s:Shared) (σ:St) (H:Hp) (Q:VK),Inv X pins σ H s->t σ H Q->
  wpAny (model X.prog X.w) X.A (eval a X.env) (fun v s₁=>wpAny (model X.prog X.w) X.A (eval b X.env) (fun u s₂=>wpAny (model X.prog X.w) X.A (compareOp op v u) (EP X pins σ Q) X.xe s₂) X.xe s₁) X.xe s
def tB (t:TE):TT:=fun σ H Q=>t σ H fun x H1=>∃c,x=.bl c∧Q c H1
theorem FH (h:PC X op a b t) (h1:behindInMarks op b=false:=by first | exact nobehind _ (by decide) (by decide) | rfl):PT X (.Compare a [op] [b] pos) (tB t):=by
 intro pins s σ H Q I hw;refine wpAny_isTrue_Compare1 (thn (h pins s σ H _ I hw) fun v s1 h1=>thn h1 fun u s2 h2=>thn h2 fun c s3 ⟨x,H1,I1,r1,q1⟩=>?_) h1;obtain ⟨d,rfl,q⟩:=q1;cases r1;exact wpAny_truthy_bool ⟨H1,I1,q⟩
variable {tA tB':TT} {rest:List Expr}
def nv (t u:TT):TT:=fun σ H Q=>t σ H fun c H1=>if c=true then u σ H1 Q else Q false H1
def tOr (t u:TT):TT:=fun σ H Q=>t σ H fun c H1=>if c=true then Q true H1 else u σ H1 Q
def bz (t:TT):TT:=fun σ H Q=>t σ H fun c H1=>Q (!c) H1
theorem Dm (ha:PT X a tA):PW X (.BoolOp .And [a] pos) tA:=by
 intro wh pins s σ H Q I h;refine isTrue_and (thn (ha pins s σ H Q I h) fun c s1 e=>?_);cases c with
 | true=>exact isTrue_and_nil e
 | false=>exact e
theorem FE (ha:PT X a tA):PW X (.BoolOp .Or [a] pos) tA:=by
 intro wh pins s σ H Q I h;refine isTrue_or (thn (ha pins s σ H Q I h) fun c s1 e=>?_);cases c with
 | false=>exact isTrue_or_nil e
 | true=>exact e
theorem FF (ha:PT X a tA) (hb:PW X (.BoolOp .And (b::rest) pos) tB'):PW X (.BoolOp .And (a::b::rest) pos) (nv tA tB'):=by
 intro wh pins s σ H Q I h;refine isTrue_and (thn (ha pins s σ H _ I h) fun c s1 ⟨H1,I1,q1⟩=>?_);cases c with
 | true=>exact hb wh pins s1 σ H1 Q I1 q1
 | false=>exact ⟨H1,I1,q1⟩
theorem Ig (ha:PT X a tA) (hb:PW X (.BoolOp .Or (b::rest) pos) tB'):PW X (.BoolOp .Or (a::b::rest) pos) (tOr tA tB'):=by
 intro wh pins s σ H Q I h;refine isTrue_or (thn (ha pins s σ H _ I h) fun c s1 ⟨H1,I1,q1⟩=>?_);cases c with
 | true=>exact ⟨H1,I1,q1⟩
 | false=>exact hb wh pins s1 σ H1 Q I1 q1
theorem FG (ha:PT X a tA):PT X (.UnaryOp .Not a pos) (bz tA):=by
 intro pins s σ H Q I h;exact isTrue_not (ha pins s σ H (fun c H1=>Q (!c) H1) I h)
def HI (ta tb:TE):TE:=fun σ H Q=>ta σ H fun x H1=>∃c,x=.bl c∧if c=true then tb σ H1 Q else Q (.bl false) H1
def Ja (ta tb:TE):TE:=fun σ H Q=>ta σ H fun x H1=>∃c,x=.bl c∧if c=true then Q (.bl true) H1 else tb σ H1 Q
def HC (ta:TE):TE:=fun σ H Q=>ta σ H fun x H1=>∃c,x=.bl c∧Q (.bl (!c)) H1
theorem FY {op} (h:PE X a t):PE X (.BoolOp op [a] pos) t:=fun pins s σ H Q I hw=>BoolOp_one (h pins s σ H Q I hw)
theorem F7 (ha:PE X a ta) (hb:PE X (.BoolOp .And (b::rest) pos) tb):PE X (.BoolOp .And (a::b::rest) pos) (HI ta tb):=by
 intro pins s σ H Q I h;refine BoolOp_and (thn (ha pins s σ H _ I h) fun v s1 ⟨x,H1,I1,r1,q1⟩=>?_);obtain ⟨c,rfl,q1⟩:=q1;cases r1;refine wpAny_truthy_bool ?_;cases c with
 | true=>exact hb pins s1 σ H1 Q I1 q1
 | false=>exact ⟨.bl false,H1,I1,rfl,q1⟩
theorem Ij (ha:PE X a ta) (hb:PE X (.BoolOp .Or (b::rest) pos) tb):PE X (.BoolOp .Or (a::b::rest) pos) (Ja ta tb):=by
 intro pins s σ H Q I h;refine BoolOp_or (thn (ha pins s σ H _ I h) fun v s1 ⟨x,H1,I1,r1,q1⟩=>?_);obtain ⟨c,rfl,q1⟩:=q1;cases r1;refine wpAny_truthy_bool ?_;cases c with
 | false=>exact hb pins s1 σ H1 Q I1 q1
 | true=>exact ⟨.bl true,H1,I1,rfl,q1⟩
theorem FZ (ha:PE X a ta):PE X (.UnaryOp .Not a pos) (HC ta):=by
 intro pins s σ H Q I h;refine UnaryOp_ (thn (ha pins s σ H _ I h) fun v s1 ⟨x,H1,I1,r1,q1⟩=>?_);obtain ⟨c,rfl,q1⟩:=q1;cases r1;exact not_of (wpAny_truthy_bool ⟨.bl (!c),H1,I1,rfl,q1⟩)
end
def SqL (K:FR) (H:Hp) (a:Addr) (xs:List V):Prop:=
 Rd H a (.lst xs)∨
  ∃(o:Obj) (its:Array Value) (n:Nat),K.lookup a=some o∧o.cls=.type "list"∧o.dict=none∧o.data=.seq its n∧its.size≤sizeLine∧Vals xs its.toList
def SqT (K:FR) (H:Hp) (a:Addr) (xs:List V):Prop:=
 Rd H a (.tup xs)∨
  ∃(o:Obj) (its:Array Value) (n:Nat),K.lookup a=some o∧o.cls=.type "tuple"∧o.data=.seq its n∧its.size≤sizeLine∧Vals xs its.toList∧o.dict=none
noncomputable def JU:Value->Option V
 | .none=>some .non
 | .bool b=>some (.bl b)
 | .int i _=>some (.int i)
 | .str x _=>some (.str x)
 | .bytes b _=>some (.byt b)
 | .float b _=>some (.flt b)
 | .ref a=>some (.ref a)
 | .type n=>some (.ty n)
 | _=>none
theorem RelV.abs (r:RelV x u):JU u=some x:=by
 cases x with
 | non=>cases r;rfl
 | bl _=>cases r;rfl
 | int _=>obtain ⟨t,rfl⟩:=r;rfl
 | str _=>obtain ⟨t,rfl⟩:=r;rfl
 | byt _=>obtain ⟨t,rfl⟩:=r;rfl
 | flt _=>obtain ⟨t,rfl⟩:=r;rfl
 | ref _=>cases r;rfl
 | ty _=>cases r;rfl
theorem RelV.inj (r:RelV x u) (q:RelV y u):x=y:=Option.some.inj (r.abs.symm.trans q.abs)
theorem Vals.inj:∀{xs ys:List V} {us:List Value},Vals xs us->Vals ys us->xs=ys
 | _,_,_,.nil,.nil=>rfl
 | _,_,_,.cons r t,.cons r' t'=>by rw [r.inj r',Vals.inj t t']
theorem SqL.of {K:FR} (h:H a=some (.lst xs)):SqL K H a xs:=.inl (.inl h)
theorem Inv.list (I:Inv X pins σ H s) (h:SqL X.K H a xs):∃its:List Value,Vals xs its∧PlainL s.heap a its.toArray∧xs.length≤sizeLine:=by
 rcases h with h | ⟨o,its,n,hk,hc,hd,hs,hz,r⟩
 ·obtain ⟨z,its,n,r,e⟩:=h.ok I.hok;exact ⟨its,r,⟨_,n,e,rfl,rfl,rfl⟩,z⟩
 ·refine ⟨its.toList,r,⟨o,n,I.kIn a o hk,hc,hd,by simpa using hs⟩,?_⟩;have e:=r.length;simp only [Array.length_toList] at e
  lia
theorem Inv.tuple (I:Inv X pins σ H s) (h:SqT X.K H a xs):∃its:List Value,Vals xs its∧IsTup s.heap a its.toArray∧xs.length≤sizeLine:=by
 rcases h with h | ⟨o,its,n,hk,hc,hs,hz,r,_⟩
 ·obtain ⟨z,its,r,p⟩:=h.ok I.hok;exact ⟨its,r,p.tup,z⟩
 ·refine ⟨its.toList,r,⟨o,I.kIn a o hk,hc,n,by simpa using hs⟩,?_⟩;have e:=r.length;simp only [Array.length_toList] at e
  lia
theorem Inv.E1 (I:Inv X pins σ H s) (h:SqT X.K H a xs):∃its:List Value,Vals xs its∧se s.heap a its.toArray∧xs.length≤sizeLine:=by
 rcases h with h | ⟨o,its,n,hk,hc,hs,hz,r,hd⟩
 ·obtain ⟨z,its,r,p⟩:=h.ok I.hok;exact ⟨its,r,p,z⟩
 ·refine ⟨its.toList,r,⟨o,I.kIn a o hk,hc,⟨n,by simpa using hs⟩,hd⟩,?_⟩;have e:=r.length;simp only [Array.length_toList] at e
  lia
theorem Inv.vU (I:Inv X pins σ H s) (h:SqL X.K H a xs) (h':SqL X.K H a ys):xs=ys:=by
 obtain ⟨its,r,⟨o,n,e,_,_,d⟩,_⟩:=I.list h;obtain ⟨its',r',⟨o',n',e',_,_,d'⟩,_⟩:=I.list h';rw [e] at e';cases e';rw [d] at d';injection d' with d1 _
 have:its=its':=by simpa using congrArg Array.toList d1
 subst this;exact r.inj r'
theorem Inv.si (I:Inv X pins σ H s) (h:SqT X.K H a xs) (h':SqT X.K H a ys):xs=ys:=by
 obtain ⟨its,r,⟨o,e,_,n,d⟩,_⟩:=I.tuple h;obtain ⟨its',r',⟨o',e',_,n',d'⟩,_⟩:=I.tuple h';rw [e] at e';cases e';rw [d] at d';injection d' with d1 _
 have:its=its':=by simpa using congrArg Array.toList d1
 subst this;exact r.inj r'
abbrev Cx.rf (X:Cx) (E:Value->Shared->Prop):Cx:={X with xe:=E}
abbrev Cx.nox (X:Cx):Cx:=X.rf fun _ _=>False
theorem Cx.Ok.rf {X:Cx} (ok:X.Ok) (E:Value->Shared->Prop):(X.rf E).Ok:=
 ⟨ok.mod,ok.kind,ok.glob,ok.blt,ok.above,ok.inj,ok.has,ok.cab,ok.hd,ok.frames,ok.stk,ok.exf,ok.bs,ok.bsz,ok.noex,ok.exfs,ok.qE,ok.frf⟩
theorem Cx.Ok.jj {X:Cx} {E:Value->Shared->Prop} (ok:(X.rf E).Ok):X.Ok:=
 ⟨ok.mod,ok.kind,ok.glob,ok.blt,ok.above,ok.inj,ok.has,ok.cab,ok.hd,ok.frames,ok.stk,ok.exf,ok.bs,ok.bsz,ok.noex,ok.exfs,ok.qE,ok.frf⟩
theorem Inv.rf (I:Inv X pins σ H s) (E:Value->Shared->Prop):Inv (X.rf E) pins σ H s:=⟨I.ok.rf E,I.os,I.bare,I.base,I.loc,I.cell,I.free,I.freeC,I.pin,I.hok,I.len⟩
theorem Inv.jj (I:Inv (X.rf E) pins σ H s):Inv X pins σ H s:=⟨I.ok.jj,I.os,I.bare,I.base,I.loc,I.cell,I.free,I.freeC,I.pin,I.hok,I.len⟩
theorem SP.jj (h:SP (X.rf E) pins D f s'):SP X pins D f s':=by
 cases f with
 | next=>obtain ⟨σ',H',I,q⟩:=h;exact ⟨σ',H',I.jj,q⟩
 | brk=>obtain ⟨σ',H',I,q⟩:=h;exact ⟨σ',H',I.jj,q⟩
 | cont=>obtain ⟨σ',H',I,q⟩:=h;exact ⟨σ',H',I.jj,q⟩
 | ret u=>obtain ⟨v,σ',H',I,r,q⟩:=h;exact ⟨v,σ',H',I.jj,r,q⟩
theorem PSs.nox {st:List Stmt} {t:TS} (h:PSs X.nox st t):PSs X st t:=fun pins s σ H D I hw=>
 wpAny_mono (h pins s σ H D (I.rf _) hw) (fun _ _ q=>q.jj) fun _ _ z=>False.elim z
section
variable {X:Cx} {st:Stmt} {rest:List Stmt} {t u:TS} {e:Expr} {te:TE} {pos:Pos}
def HD:TS:=fun D σ H=>D.nx σ H
def Hy (t u:TS):TS:=fun D σ H=>t {D with nx:=u D} σ H
theorem Dr:PSs X [] HD:=fun _ _ σ H _ I h=>wpAny_execs_nil ⟨σ,H,I,h⟩
theorem Bf (h1:PS X st t) (h2:PSs X rest u):PSs X (st::rest) (Hy t u):=by
 intro pins s σ H D I h;refine wpAny_execs_cons (thn (h1 pins s σ H {D with nx:=u D} I h) fun f s1 q=>?_);cases f with
 | next=>
  obtain ⟨σ',H',I',q⟩:=q;exact h2 pins s1 σ' H' D I' q
 | ret v=>exact q
 | brk=>exact q
 | cont=>exact q
theorem Dq (h1:PS X st t):PSs X [st] t:=by
 intro pins s σ H D I h;refine wpAny_execs_cons (thn (h1 pins s σ H D I h) fun f s1 q=>?_);cases f with
 | next=>exact wpAny_execs_nil q
 | ret v=>exact q
 | brk=>exact q
 | cont=>exact q
theorem Inv.quiet (I:Inv X pins σ H s):interactive X.env=false:=by simp [interactive,I.ok.kind]
def HF (te:TE):TS:=fun D σ H=>te σ H fun _ H1=>D.nx σ H1
theorem Dt (he:PE X e te) (hs:swapsWith e none pos.line X.env=pure false:=by rfl):PS X (.Expr e pos) (HF te):=by
 intro pins s σ H D I h;exact wpAny_Expr_any (thn (he pins s σ H _ I h) fun v s1 ⟨x,H1,I1,r1,q1⟩=>⟨σ,H1,I1,q1⟩) I.quiet hs
def I9 (te:TE):TS:=fun D σ H=>te σ H D.rt
theorem FJ (he:PE X e te):PS X (.Return (some e) pos) (I9 te):=by
 intro pins s σ H D I h;exact wpAny_Return_some (thn (he pins s σ H _ I h) fun v s1 ⟨x,H1,I1,r1,q1⟩=>⟨x,σ,H1,I1,r1,q1⟩)
def Je (c:TT) (t u:TS):TS:=fun D σ H=>c σ H fun b H1=>if b=true then t D σ H1 else u D σ H1
theorem Ih (hc:PT X c tc) (ha:PSs X a t) (hb:PSs X b u):PS X (.If c a b pos) (Je tc t u):=by
 intro pins s σ H D I h;refine wpAny_If (thn (hc pins s σ H _ I h) fun d s1 ⟨H1,I1,q1⟩=>?_);cases d with
 | true=>exact ha pins s1 σ H1 D I1 q1
 | false=>exact hb pins s1 σ H1 D I1 q1
end
abbrev TG:=V->St->Hp->(St->Hp->Prop)->Prop
abbrev TGs:=List V->St->Hp->(St->Hp->Prop)->Prop
def PG (X:Cx) (target:Expr) (t:TG):Prop:=
 ∀(pins:List (Addr×Obj)) (s:Shared) (σ:St) (H:Hp) (v:V) (u:Value) (Q:St->Hp->Prop),Inv X pins σ H s->RelV v u->t v σ H Q->
  wpAny (model X.prog X.w) X.A (assign target X.env u) (fun _ s'=>∃σ' H',Inv X pins σ' H' s'∧Q σ' H') X.xe s
def PGs (X:Cx) (ts:List Expr) (t:TGs):Prop:=
 ∀(pins:List (Addr×Obj)) (s:Shared) (σ:St) (H:Hp) (vs:List V) (us:List Value) (Q:St->Hp->Prop),Inv X pins σ H s->Vals vs us->t vs σ H Q->
  wpAny (model X.prog X.w) X.A (assignInOrder ((assignEach ts X.env).map (·.2)) us) (fun _ s'=>∃σ' H',Inv X pins σ' H' s'∧Q σ' H') X.xe s
abbrev IP:=V->V->V->Hp->(Hp->Prop)->Prop
def Hj (X:Cx) (t:IP):Prop:=
 ∀(pins:List (Addr×Obj)) (s:Shared) (σ:St) (H:Hp) (o i v:V) (ov iv u:Value) (Q:Hp->Prop),Inv X pins σ H s->RelV o ov->RelV i iv->RelV v u->t o i v H Q->
  wpAny (model X.prog X.w) X.A (setItem ov iv u) (fun _ s'=>∃H',Inv X pins σ H' s'∧Q H') X.xe s
abbrev TIp:=V->V->Hp->VK->Prop
def PIp (X:Cx) (op:Operator) (t:TIp):Prop:=
 ∀(pins:List (Addr×Obj)) (s:Shared) (σ:St) (H:Hp) (x y:V) (v u:Value) (Q:VK),Inv X pins σ H s->RelV x v->RelV y u->t x y H Q->
  wpAny (model X.prog X.w) X.A (inplaceOp op v u) (EP X pins σ Q) X.xe s
def oI (i:Nat):TG:=fun v σ H Q=>Q (σ.set i (some v)) H
theorem DE (hN:X.N.Nodup) (hi:X.N[i]?=some x) (hx:Loc X.env.scope x) (hf:X.fn x=true∨X.env.scope.names.lookup x=some .local:=by first | exact .inl rfl | exact .inr rfl | assumption):PG X (.Name x pos) (oI i):=by
 intro pins s σ H v u Q I r h;exact wpAny_assign_Name (jm I hN hi hx r (fun s' I'=>⟨_,H,I',h⟩) hf)
noncomputable def JQ:TGs:=fun vs σ H Q=>vs=[]∧Q σ H
def IG (t:TG) (u:TGs):TGs:=fun vs σ H Q=>∃v r,vs=v::r∧t v σ H fun σ' H'=>u r σ' H' Q
theorem DD:PGs X [] JQ:=by
 intro pins s σ H vs us Q I r h;obtain ⟨e,h⟩:=h;subst e;cases r;exact assignInOrder_nil ⟨σ,H,I,h⟩
theorem Bk (h1:PG X e t) (h2:PGs X es u) (hs:(assignEach (e::es) X.env).map (·.2)=assign e X.env::(assignEach es X.env).map (·.2):=by rfl):PGs X (e::es) (IG t u):=by
 intro pins s σ H vs us Q I r h;obtain ⟨v,vr,e1,h⟩:=h;subst e1;cases r with
 | cons r rr=>
  rw [hs];refine assignInOrder_cons (thn (h1 pins s σ H _ _ _ I r h) fun _ s1 ⟨σ1,H1,I1,q1⟩=>?_);exact h2 pins s1 σ1 H1 _ _ Q I1 rr q1
def JP (K:FR) (n:Nat) (t:TGs):TG:=fun v σ H Q=>∃a xs,v=.ref a∧SqT K H a xs∧xs.length=n∧t xs σ H Q
theorem FQ (hc:X.calm=true) (h:PGs X es t) (hn:(assignEach es X.env).length=n:=by rfl) (hst:(assignEach es X.env).findIdx? (·.1)=none:=by rfl):PG X (.Tuple es k pos) (JP X.K n t):=by
 intro pins s σ H v u Q I r hw;obtain ⟨a,xs,e1,hq,hl,hw⟩:=hw;subst e1;cases r;obtain ⟨its,rv,ht,hz⟩:=I.tuple hq;refine assign_Tuple_tuple (I.ok.hd hc) ht (by simp [hn,←hl,rv.length]) hst fun h' hx=>?_;have I1:Inv X pins σ H {s with heap:=h'}:=I.kept (t':=s.toks) fun b o e=>hx b o (Nat.ne_of_lt (Heap.lt_size e)) e;exact h pins _ σ H xs _ Q I1 (by simpa using rv) hw
def rY (to ti:TE) (t:IP):TG:=fun v σ H Q=>to σ H fun o H1=>ti σ H1 fun i H2=>t o i v H2 fun H3=>Q σ H3
theorem FT (ho:PE X o to) (hi:PE X i ti) (hs:Hj X t) (ha:∀v,assign (.Subscript o i pos) X.env v=(do
   let ov←holding [v] (eval o X.env);let iv←holding [v,ov] (eval i X.env)
   standAt pos
   holding [v,ov,iv] (setItem ov iv v)
   release [v,ov,iv] []):=by intro _;rfl):PG X (.Subscript o i pos) (rY to ti t):=by
 intro pins s σ H v u Q I r h;rw [ha];refine wpAny_bind (wpAny_holding (thn (ho pins s σ H _ I h) fun ov s1 ⟨x,H1,I1,r1,q1⟩=>?_));refine wpAny_bind (wpAny_holding (thn (hi pins s1 σ H1 _ I1 q1) fun iv s2 ⟨y,H2,I2,r2,q2⟩=>?_));refine wpAny_bind (wpAny_standAt (wpAny_bind (wpAny_holding (thn (hs pins s2 σ H2 x y v ov iv u _ I2 r1 r2 r q2) fun _ s3 ⟨H3,I3,q3⟩=>?_))));exact wpAny_release ⟨σ,H3,I3,q3⟩
def yY (te:TE) (g:TG):TS:=fun D σ H=>te σ H fun x H1=>g x σ H1 D.nx
theorem FN (he:PE X e te) (hg:PG X tg g) (hs:swapsWithSole [tg] e pos.line X.env=pure false:=by rfl) (hw:swappedStores [tg] e X.env=pure none:=by rfl) (h1:(assignEach [tg] X.env).map (·.2)=[assign tg X.env]:=by rfl):PS X (.Assign [tg] e pos) (yY te g):=by
 intro pins s σ H D I h;refine wpAny_Assign_stores (thn (he pins s σ H _ I h) fun v s1 ⟨x,H1,I1,r1,q1⟩=>?_) hs hw;rw [h1];exact thn (hg pins s1 σ H1 x v _ I1 r1 q1) fun _ s2 q=>q
theorem FI (hN:X.N.Nodup) (hi:X.N[i]?=some x) (hx:Loc X.env.scope x) (he:PE X e te) (hs:swapsWith e (some (.Name x pos')) pos.line X.env=pure false:=by rfl) (hf:X.fn x=true∨X.env.scope.names.lookup x=some .local:=by first | exact .inl rfl | exact .inr rfl | assumption):
  PS X (.Assign [.Name x pos'] e pos) (yY te (oI i)):=by
 intro pins s σ H D I h;refine wpAny_Assign_Name (thn (he pins s σ H _ I h) fun v s1 ⟨y,H1,I1,r1,q1⟩=>?_) hs;exact jm I1 hN hi hx r1 (fun s2 I2=>⟨_,H1,I2,q1⟩) hf
def HB (i j:Nat) (ta:TA):TS:=fun D σ H=>ta σ H fun vs H1=>∃v w,vs=[v,w]∧D.nx ((σ.set i (some v)).set j (some w)) H1
theorem xk {kt k2 pt2} (hc:X.calm=true) (hN:X.N.Nodup) (hi:X.N[i]?=some x) (hj:X.N[j]?=some y) (hij:i≠j) (hx:X.env.scope.names.lookup x=some .local) (hy:X.env.scope.names.lookup y=some .local) (ha:PA X [a,b] ta) (hw:swappedStores [.Tuple [.Name x px,.Name y py] kt pt] (.Tuple [a,b] k2 pt2) X.env=pure (some [x,y])) (hs:swapsWithSole [.Tuple [.Name x px,.Name y py] kt pt] (.Tuple [a,b] k2 pt2) pos.line X.env=pure false:=by rfl):
  PS X (.Assign [.Tuple [.Name x px,.Name y py] kt pt] (.Tuple [a,b] k2 pt2) pos) (HB i j ta):=by
 intro pins s σ H D I h;rw [exec_Assign_arm];refine wpAny_bind (wpAny_standAt ?_);rw [hs];refine wpAny_bind (wpAny_pure ?_);rw [if_neg (by decide)];refine wpAny_bind (Tuple_ (thn (ha _ pins s σ H _ I h) fun us s1 ⟨vs,H1,I1,r1,q1⟩=>?_));obtain ⟨v,w,e1,q1⟩:=q1;subst e1;obtain ⟨u1,u2,rfl,rv,rw'⟩:∃u1 u2,us=[u1,u2]∧RelV v u1∧RelV w u2:=by
  cases r1 with
  | cons p q=>
   cases q with
   | cons p' q'=>
    cases q';exact ⟨_,_,rfl,p,p'⟩
 refine wpAny_newObj_type ?_ (by show 2≤sizeLine;decide);have I2:Inv X pins σ H1 {s1 with heap:=s1.heap.push {cls:=.type "tuple",data:=.seq [u1,u2].toArray}}:=I1.kept (t':=s1.toks) fun b o e=>Heap.get?_push_of_some _ e;rw [hw];refine wpAny_bind (wpAny_pure ?_);show wpAny (model X.prog X.w) X.A (do rule "assign.swapped-stores";let items←unpackItems (.ref s1.heap.objs.size) 2 none;assignInOrder [fun v=>bindName X.env y v,fun v=>bindName X.env x v] items.reverse;pure Flow.next) _ _ _;refine wpAny_bind (wpAny_rule (wpAny_bind (unpackItems_tuple (items:=#[u1,u2]) (I.ok.hd hc) (IsTup.new s1.heap _) fun h' hx'=>?_)));have I3:=I2.kept (h':=h') (t':=s1.toks) fun b o e=>hx' b o (Nat.ne_of_lt (Heap.lt_size e)) e;show wpAny _ _ (assignInOrder [fun v=>bindName X.env y v,fun v=>bindName X.env x v] [u2,u1] >>=fun _=>pure Flow.next) _ _ _;refine wpAny_bind (assignInOrder_cons (wpAny_bindName (jm I3 hN hj (.inl hy) rw' (fun s2 I4=>?_) (.inr hy))));refine assignInOrder_cons (wpAny_bindName (jm I4 hN hi (.inl hx) rv (fun s3 I5=>assignInOrder_nil (wpAny_pure ?_)) (.inr hx)));rw [List.set_comm _ _ (Ne.symm hij)] at I5;exact ⟨_,H1,I5,q1⟩
def Jf (i:Nat) (te:TE) (ti:TIp):TS:=fun D σ H=>∃x,σ[i]?=some (some x)∧te σ H fun y H1=>ti x y H1 fun z H2=>D.nx (σ.set i (some z)) H2
theorem FL (hN:X.N.Nodup) (hi:X.N[i]?=some x) (hx:Loc X.env.scope x) (he:PE X e te) (ho:PIp X op ti) (hf:X.fn x=true∨X.env.scope.names.lookup x=some .local:=by first | exact .inl rfl | exact .inr rfl | assumption):
  PS X (.AugAssign (.Name x pos') op e pos) (Jf i te ti):=by
 intro pins s σ H D I h;obtain ⟨v,e1,h⟩:=h;obtain ⟨m,hn,hl⟩:=I.loc;have vis:Vis X.env.scope x:=by rcases hx with k | k;exact .inl k;exact .inr (.inl k)
 obtain ⟨u,r,l⟩:=hl i x v hi e1 vis;refine wpAny_AugAssign_Name ?_;have go:wpAny (model X.prog X.w) X.A (eval e X.env) (fun w s₂=>wpAny (model X.prog X.w) X.A (inplaceOp op u w) (fun r s₃=>wpAny (model X.prog X.w) X.A (storeName X.env x r) (fun _=>SP X pins D .next) X.xe s₃) X.xe s₂) X.xe s:=by
  refine thn (he pins s σ H _ I h) fun w s1 ⟨y,H1,I1,r1,q1⟩=>?_;refine thn (ho pins s1 σ H1 v y u w _ I1 r r1 q1) fun z s2 ⟨zv,H2,I2,r2,q2⟩=>?_;exact jm I2 hN hi hx r2 (fun s3 I3=>⟨_,H2,I3,q2⟩) hf
 rcases l with ⟨hk,hm⟩ | ⟨hk,c,hc,hcell⟩
 ·exact wpAny_loadName_local I.ok.kind hk hn hm go
 ·rcases hk with hk | hk
  ·exact wpAny_loadName_cell I.ok.kind hk hc hcell go
  ·rcases hx with k | k
   ·have:X.env.scope.names.lookup x=some .free:=hk;rw [k] at this;cases this
   ·have:X.env.scope.names.lookup x=some .free:=hk;rw [k] at this;cases this
structure It where
 go:Nat->Hp->Prop
 yld:Nat->Hp->V->Hp->Prop
 stop:Nat->Hp->Prop
def ib (X:Cx) (pins:List (Addr×Obj)) (H:Hp) (b:Addr):Prop:=
 H b=none∧b≠X.env.locals∧b∉X.fs∧(b∈X.ex∨X.s₀.heap.objs.size≤b)∧(∀x c,X.env.cells.lookup x=some c->c≠b)∧∀p∈X.pn++pins,p.1≠b
theorem Inv.uE (I:Inv X pins σ H s) (hb:s.heap.objs.size≤b) (hn:H' b=none):ib X pins H' b:=by
 refine ⟨hn,Nat.ne_of_gt (Nat.lt_of_lt_of_le I.lt hb),I.JE hb,.inr (Nat.le_trans I.sz hb),fun x c e z=>?_,fun p hp z=>?_⟩
 ·obtain ⟨v,q⟩:=I.cell x c e;exact absurd (Nat.lt_of_lt_of_le q.lt (by rw [z];exact hb)) (Nat.lt_irrefl _)
 ·exact absurd (Nat.lt_of_lt_of_le (Heap.lt_size (I.pin p hp).1) (by rw [z];exact hb)) (Nat.lt_irrefl _)
structure Turn (P:Program) (w:World) (K:FR) (tg:Expr) (J:It) (fp:List Addr) (it:Addr) (tn:Nat->Heap->Prop):Prop where
 mem:it∈fp
 obj:∀i h,tn i h->∀b∈fp,∃o,h.get? b=some o∧∀v,o.data≠.cell v
 keep:∀i h h',tn i h->(∀b∈fp,∀o,h.get? b=some o->h'.get? b=some o)->tn i h'
 item:∀(X:Cx),X.prog=P->X.w=w->X.K=K->X.calm=true->∀(i:Nat) (pins:List (Addr×Obj)) (s:Shared) (σ:St) (H:Hp) (E:Value->Shared->Prop),Inv X pins σ H s->(∀b∈fp,ib X pins H b)->tn i s.heap->J.go i H->
  wpAny (model P w) X.A (pyNext (.ref it)) (fun r s1=>∃u,r=some u∧
   wpAny (model P w) X.A (letOwnedTupleGo tg (.ref it) u) (fun _ s2=>∃x H',Inv X pins σ H' s2∧RelV x u∧J.yld i H x H'∧tn (i+1) s2.heap∧∀b∈fp,H' b=none) E s1) E s
 done:∀(X:Cx),X.prog=P->X.w=w->X.K=K->X.calm=true->∀(i:Nat) (pins:List (Addr×Obj)) (s:Shared) (σ:St) (H:Hp) (E:Value->Shared->Prop),Inv X pins σ H s->(∀b∈fp,ib X pins H b)->tn i s.heap->J.stop i H->
  wpAny (model P w) X.A (pyNext (.ref it)) (fun r s1=>r=none∧Inv X pins σ H s1) E s
 self:∀(A:Around) (i:Nat) (s:Shared) (Q:Value->Shared->Prop) (E:Value->Shared->Prop),tn i s.heap->Q (.ref it) s->wpAny (model P w) A (pyIter (.ref it)) Q E s
abbrev TI:=St->Hp->(It->Hp->Prop)->Prop
def PIE (X:Cx) (pins:List (Addr×Obj)) (σ:St) (tg:Expr) (R:It->Hp->Prop) (itv:Value) (s2:Shared):Prop:=
 ∃(it:Addr) (fp:List Addr) (tn:Nat->Heap->Prop) (J:It) (H':Hp),itv=.ref it∧Inv X pins σ H' s2∧Turn X.prog X.w X.K tg J fp it tn∧tn 0 s2.heap∧(∀b∈fp,ib X pins H' b)∧R J H'
def PI (X:Cx) (tg iter:Expr) (wi:TI):Prop:=
 ∀(pins:List (Addr×Obj)) (s:Shared) (σ:St) (H:Hp) (R:It->Hp->Prop),Inv X pins σ H s->wi σ H R->
  wpAny (model X.prog X.w) X.A (eval iter X.env) (fun v s1=>wpAny (model X.prog X.w) X.A (pyIter v) (PIE X pins σ tg R) X.xe s1) X.xe s
theorem yE (ho:s.heap.get? it=some o) (hc:o.cls=.type n) (hd:o.data=.fields vs) (hn:["enumerate","zip","dict_itemiterator","dict_reverseitemiterator","odict_iterator","itertools.zip_longest","itertools.pairwise"].contains n=false) (hQ:Q () s):wpAny M A (letOwnedTupleGo tg (.ref it) u) Q E s:=by
 unfold letOwnedTupleGo;cases tg <;> first
  | exact wpAny_pure hQ
  | (cases u <;> first
    | exact wpAny_pure hQ
    | (refine wpAny_bind (wpAny_load ho ?_);rw [hc,hd];show wpAny M A (if (["enumerate","zip","dict_itemiterator","dict_reverseitemiterator","odict_iterator","itertools.zip_longest","itertools.pairwise"].contains n&&vs[0]?==some (rawInt _))=true then _ else _) Q E s;rw [if_neg (by intro h;rw [hn,Bool.false_and] at h;cases h)];exact wpAny_pure hQ))
noncomputable def Itl (K:FR) (a:Addr):It:=
 ⟨fun i H=>∃xs x,SqL K H a xs∧xs[i]?=some x,fun i H x H'=>H'=H∧∀xs,SqL K H a xs->xs[i]?=some x,fun i H=>∃xs,SqL K H a xs∧xs.length≤i⟩
noncomputable def Itt (K:FR) (a:Addr):It:=
 ⟨fun i H=>∃xs x,SqT K H a xs∧xs[i]?=some x,fun i H x H'=>H'=H∧∀xs,SqT K H a xs->xs[i]?=some x,fun i H=>∃xs,SqT K H a xs∧xs.length≤i⟩
noncomputable def Itr (lo:Int) (n:Nat):It:=⟨fun i _=>i < n,fun i H x H'=>H'=H∧x=.int (lo+i),fun i _=>n≤i⟩
theorem yU {P:Program} {w:World} {K:FR} {tg:Expr} (a it:Addr):Turn P w K tg (Itl K a) [it] it (fun i h=>h.IsListIter it a i) where
 mem:=by simp
 obj:=fun i h st b hb=>by
  have e:b=it:=by simpa using hb
  subst e;obtain ⟨o,e,c,d⟩:=st;exact ⟨o,e,fun v z=>by rw [d] at z;cases z⟩
 keep:=fun i h h' st k=>st.at fun o e=>k it (by simp) o e
 item:=by
  intro X hP hw hK hc i pins s σ H E I hf st hg;subst hP hw hK;obtain ⟨xs,x,hq,hx⟩:=hg;obtain ⟨its,rv,p,hz⟩:=I.list hq;obtain ⟨u,hu,ru⟩:=rv.get hx;obtain ⟨f0,f1,f2,f3,f4,f5⟩:=hf it (by simp);refine wpAny_pyNext_list_item st p.isList (x:=u) (by simpa using hu) fun h' st' sb=>?_;have I1:Inv X pins σ H {s with heap:=h'}:=I.turned (t':=s.toks) (fun b o hb e=>(sb.2 b hb).trans e) f0 f1 f3 f4 f5;obtain ⟨o,e,c,d⟩:=id st';exact ⟨u,rfl,yE (s:={s with heap:=h'}) e c d (by decide) ⟨x,H,I1,ru,⟨rfl,fun ys hy=>by rw [I.vU hy hq];exact hx⟩,st',fun b hb=>(hf b hb).1⟩⟩
 done:=by
  intro X hP hw hK hc i pins s σ H E I hf st hg;subst hP hw hK;obtain ⟨xs,hq,hx⟩:=hg;obtain ⟨its,rv,p,hz⟩:=I.list hq;obtain ⟨f0,f1,f2,f3,f4,f5⟩:=hf it (by simp);have hl:=rv.length;exact wpAny_pyNext_list_end (I.ok.hd hc) st p.isList (by simp;lia) fun h' eb=>⟨rfl,I.turned (t':=s.toks) (fun b o hb e=>eb b o hb e) f0 f1 f3 f4 f5⟩
 self:=fun _ _ _ _ _ st h=>wpAny_pyIter_listiter st h
theorem wJ {P:Program} {w:World} {K:FR} {tg:Expr} (a it:Addr):Turn P w K tg (Itt K a) [it] it (fun i h=>h.IsTupleIter it a i) where
 mem:=by simp
 obj:=fun i h st b hb=>by
  have e:b=it:=by simpa using hb
  subst e;obtain ⟨o,e,c,d⟩:=st;exact ⟨o,e,fun v z=>by rw [d] at z;cases z⟩
 keep:=fun i h h' st k=>st.at fun o e=>k it (by simp) o e
 item:=by
  intro X hP hw hK hc i pins s σ H E I hf st hg;subst hP hw hK;obtain ⟨xs,x,hq,hx⟩:=hg;obtain ⟨its,rv,p,hz⟩:=I.tuple hq;obtain ⟨u,hu,ru⟩:=rv.get hx;obtain ⟨f0,f1,f2,f3,f4,f5⟩:=hf it (by simp);refine wpAny_pyNext_tuple_item st (show s.heap.IsTuple a its.toArray from p) (x:=u) (by simpa using hu) fun h' st' sb=>?_;have I1:Inv X pins σ H {s with heap:=h'}:=I.turned (t':=s.toks) (fun b o hb e=>(sb.2 b hb).trans e) f0 f1 f3 f4 f5;obtain ⟨o,e,c,d⟩:=id st';exact ⟨u,rfl,yE (s:={s with heap:=h'}) e c d (by decide) ⟨x,H,I1,ru,⟨rfl,fun ys hy=>by rw [I.si hy hq];exact hx⟩,st',fun b hb=>(hf b hb).1⟩⟩
 done:=by
  intro X hP hw hK hc i pins s σ H E I hf st hg;subst hP hw hK;obtain ⟨xs,hq,hx⟩:=hg;obtain ⟨its,rv,p,hz⟩:=I.tuple hq;obtain ⟨f0,f1,f2,f3,f4,f5⟩:=hf it (by simp);have hl:=rv.length;exact wpAny_pyNext_tuple_end (I.ok.hd hc) st (show s.heap.IsTuple a its.toArray from p) (by simp;lia) fun h' eb=>⟨rfl,I.turned (t':=s.toks) (fun b o hb e=>eb b o hb e) f0 f1 f3 f4 f5⟩
 self:=fun _ _ _ _ _ st h=>wpAny_pyIter_tupleiter st h
theorem wK {P:Program} {w:World} {K:FR} {tg:Expr} (it:Addr) (lo:Int) (n:Nat):Turn P w K tg (Itr lo n) [it] it (fun i h=>IsRangeIter h it (lo+(i:Nat)*1) ((n:Int)-(i:Nat)) 1) where
 mem:=by simp
 obj:=fun i h st b hb=>by
  have e:b=it:=by simpa using hb
  subst e;exact ⟨_,st,fun v z=>by
   have z':Data.fields _=Data.cell v:=z;cases z'⟩
 keep:=fun i h h' st k=>k it (by simp) _ st
 item:=by
  intro X hP hw hK hc i pins s σ H E I hf st hg;subst hP hw hK;obtain ⟨f0,f1,f2,f3,f4,f5⟩:=hf it (by simp);have W:=Walks.range (prog:=X.prog) (w:=X.w) (I.ok.hd hc) it lo 1 n;refine W.item i s _ _ hg st fun v h' tk hv st' kk=>?_;obtain ⟨t,rfl⟩:=hv;have I1:Inv X pins σ H {s with heap:=h',toks:=tk}:=I.turned (fun b o hb e=>kk b o (by simpa using hb) e) f0 f1 f3 f4 f5;refine ⟨_,rfl,yE (s:={s with heap:=h',toks:=tk}) (n:="range_iterator") st' rfl rfl (by decide) ⟨.int (lo+i),H,I1,⟨t,?_⟩,⟨rfl,rfl⟩,st',fun b hb=>(hf b hb).1⟩⟩;rw [Int.mul_one]
 done:=by
  intro X hP hw hK hc i pins s σ H E I hf st hg;subst hP hw hK;obtain ⟨f0,f1,f2,f3,f4,f5⟩:=hf it (by simp);exact wpAny_pyNext_range_end (I.ok.hd hc) st (by have:n≤i:=hg;lia) fun h' eb=>⟨rfl,I.turned (t':=s.toks) (fun b o hb e=>eb b o hb e) f0 f1 f3 f4 f5⟩
 self:=fun _ _ _ _ _ st h=>wpAny_pyIter_rangeiter st h
theorem AX {pins:List (Addr×Obj)} {σ:St} {H:Hp} {s:Shared} {R:It->Hp->Prop} {E:Value->Shared->Prop} {lo hi:Int} {t u v:Tok} {tk:Nat} (I:Inv X pins σ H s) (h1:-(2^62)≤lo) (h2:lo < 2^62) (h3:-(2^62)≤hi) (h4:hi < 2^62)
  (q:R (Itr lo (hi-lo).toNat) H):wpAny (model X.prog X.w) X.A (pyIter (.ref s.heap.objs.size)) (PIE X pins σ tg R) E {s with heap:=s.heap.push {cls:=.type "range",data:=.fields #[.int lo t,.int hi u,.int 1 v]},toks:=tk}:=by
 refine wpAny_pyIter_range (IsRange.new ..) (small_one h1 h2 h3 h4) ?_;have I1:Inv X pins σ H {s with heap:=s.heap.push {cls:=.type "range",data:=.fields #[.int lo t,.int hi u,.int 1 v]},toks:=tk}:=I.kept fun b o e=>Heap.get?_push_of_some _ e;refine ⟨(s.heap.push {cls:=.type "range",data:=.fields #[.int lo t,.int hi u,.int 1 v]}).objs.size,[(s.heap.push {cls:=.type "range",data:=.fields #[.int lo t,.int hi u,.int 1 v]}).objs.size],_,_,H,rfl,
  I1.kept (t':=tk) fun b o e=>Heap.get?_push_of_some _ e,wK _ lo (hi-lo).toNat,?_,fun b hb=>?_,q⟩
 ·have e1:lo+((0:Nat):Int)*1=lo:=by simp
  have e2:(((hi-lo).toNat:Nat):Int)-((0:Nat):Int)=Builtin.Range.rangeSize lo hi 1:=by rw [rangeSize_one];split <;> lia
  show IsRangeIter _ _ (lo+((0:Nat):Int)*1) ((((hi-lo).toNat:Nat):Int)-((0:Nat):Int)) 1;rw [e1,e2];exact Heap.get?_push_size _ rfl
 ·have e:b=(s.heap.push {cls:=.type "range",data:=.fields #[.int lo t,.int hi u,.int 1 v]}).objs.size:=by simpa using hb
  subst e;exact I1.uE (Nat.le_refl _) (I1.hok.fresh (Nat.le_refl _))
def IB (ta:TA):TI:=fun σ H R=>ta σ H fun vs H1=>∃j:Int,vs=[.int j]∧-(2^62)≤j∧j < 2^62∧R (Itr 0 j.toNat) H1
theorem zk {a:Expr} {ta:TA} {p pos:Pos} (hg:Gl X "range") (hm:X.mg "range"=none) (ha:PA X [a] ta) (hs:starEach [a] X.env=[(false,eval a X.env)]:=by rfl):PI X tg (.Call (.Name "range" p) [a] [] pos) (IB ta):=by
 intro pins s σ H R I h;refine Call_ (lM I hg hm boot_range (PyProof.Rows.callWith_type1 (thn (ha pos pins s σ H _ I h) fun us s1 ⟨vs,H1,I1,r1,q1⟩=>?_) hs rfl));obtain ⟨j,e,q1,q2,q⟩:=q1;subst e;cases r1 with
 | cons r rr=>
  cases rr;obtain ⟨t,rfl⟩:=r;exact call_range_1 (AX I1 (by lia) (by lia) q1 q2 (by simpa using q))
def HE (wi:TI) (g:TG) (tb:TS):TS:=fun D σ H=>wi σ H fun J H1=>∃W:Nat->Nat->St->Hp->Prop,(∃m,W 0 m σ H1)∧∀i m σ H,W i m σ H->
 (J.stop i H∧D.nx σ H)∨(J.go i H∧∃N:St->Hp->Prop,(∀σ' H',N σ' H'->∃m',m' < m∧W (i+1) m' σ' H')∧∀x H',J.yld i H x H'->g x σ H' fun σ2 H2=>tb {D with nx:=N,ct:=N,bk:=D.nx} σ2 H2)
noncomputable def nU (fp:List Addr) (h:Heap):List (Addr×Obj):=fp.filterMap fun b=>(h.get? b).map fun o=>(b,o)
theorem fv (hb:b∈fp) (e:h.get? b=some o):(b,o)∈nU fp h:=List.mem_filterMap.mpr ⟨b,hb,by rw [e];rfl⟩
theorem zq (hp:p∈nU fp h):p.1∈fp∧h.get? p.1=some p.2:=by
 obtain ⟨b,hb,e⟩:=List.mem_filterMap.mp hp;cases q:h.get? b with
 | none=>rw [q] at e;cases e
 | some o=>
  rw [q] at e;have e':(b,o)=p:=Option.some.inj e;subst e';exact ⟨hb,q⟩
theorem Inv.pinned (I:Inv X pins σ H s) (hf:∀b∈fp,ib X pins H b) (ho:∀b∈fp,∃o,s.heap.get? b=some o∧∀v,o.data≠.cell v):Inv X (pins++nU fp s.heap) σ H s:=
 I.yr fun p hp=>(List.mem_append.mp hp).elim (fun z=>I.pin p (List.mem_append_right _ z)) fun z=>by
  obtain ⟨hb,e⟩:=zq z;obtain ⟨f0,f1,f2,_⟩:=hf p.1 hb;obtain ⟨o,e',d⟩:=ho p.1 hb;rw [e] at e';cases e';exact ⟨e,f0,f1,f2,d⟩
theorem Inv.jk (I:Inv X (pins++pl) σ H s):Inv X pins σ H s:=I.yr fun p hp=>I.pin p (List.mem_append_right _ (List.mem_append_left _ hp))
theorem FK (hp:PassesOwn (model X.prog X.w) X.A X.env X.xe) (hc:X.calm=true) (hi:PI X tg iter wi) (hg:PG X tg g) (hb:PSs X body tb) (hs:∀x,foldedSetIterable iter X.env x=pure x:=by intro _;rfl):PS X (.For tg iter body [] pos) (HE wi g tb):=by
 intro pins s σ H D I h;refine wpAny_For (thn (hi pins s σ H _ I h) fun v s1 h1=>thn h1 fun itv s2 h2=>?_) hs;obtain ⟨it,fp,tn,J,H2,e,I2,T,st2,f2,W,⟨m0,w0⟩,turn⟩:=h2;subst e;have stat:∀{H':Hp},(∀b∈fp,H' b=none)->∀b∈fp,ib X pins H' b:=fun hn b hb=>⟨hn b hb,(f2 b hb).2⟩;refine codeAny_forLoop_any (fun n s'=>∃i σ' H',Inv X pins σ' H' s'∧tn i s'.heap∧(∀b∈fp,H' b=none)∧W i n σ' H') ?_ m0 ⟨0,σ,H2,I2,st2,fun b hb=>(f2 b hb).1,w0⟩;rintro n s3 ⟨i,σ3,H3,I3,st3,fr3,w3⟩;rcases turn i n σ3 H3 w3 with ⟨stop,qn⟩ | ⟨go,N,hN,step⟩
 ·refine wpAny_passesOwn hp (thn (T.done X rfl rfl rfl hc i pins s3 σ3 H3 X.xe I3 (stat fr3) st3 stop) fun r s4 ⟨hr,I4⟩=>?_);subst hr;exact wpAny_execs_nil ⟨σ3,H3,I4,qn⟩
 ·refine wpAny_passesOwn hp (thn (T.item X rfl rfl rfl hc i pins s3 σ3 H3 X.xe I3 (stat fr3) st3 go) fun r s4 ⟨u,hr,h4⟩=>?_);subst hr;refine wpAny_passesOwn hp (thn h4 fun _ s5 ⟨x,H5,I5,r5,y5,st5,fr5⟩=>?_);have I5':=I5.pinned (stat fr5) (T.obj _ _ st5);refine wpAny_passesOwn hp (thn (hg _ s5 σ3 H5 x u _ I5' r5 (step x H5 y5)) fun _ s6 ⟨σ6,H6,I6,q6⟩=>?_);refine wpAny_passesOwn hp (thn (hb _ s6 σ6 H6 _ I6 q6) fun f s7 q7=>?_);have again:∀{σ7:St} {H7:Hp},Inv X (pins++nU fp s5.heap) σ7 H7 s7->N σ7 H7->∃m,m < n∧∃i σ' H',Inv X pins σ' H' s7∧tn i s7.heap∧(∀b∈fp,H' b=none)∧W i m σ' H':=fun {σ7 H7} I7 n7=>by
   obtain ⟨m',hm,w7⟩:=hN σ7 H7 n7;refine ⟨m',hm,i+1,σ7,H7,I7.jk,T.keep _ _ _ st5 fun b hb o e=>(I7.pin (b,o) (List.mem_append_right _ (List.mem_append_right _ (fv hb e)))).1,fun b hb=>?_,w7⟩;obtain ⟨o,e,d⟩:=T.obj _ _ st5 b hb;exact (I7.pin (b,o) (List.mem_append_right _ (List.mem_append_right _ (fv hb e)))).2.1
  cases f with
  | next=>obtain ⟨σ7,H7,I7,n7⟩:=q7;exact again I7 n7
  | cont=>obtain ⟨σ7,H7,I7,n7⟩:=q7;exact again I7 n7
  | brk=>obtain ⟨σ7,H7,I7,q7⟩:=q7;exact ⟨σ7,H7,I7.jk,q7⟩
  | ret v=>obtain ⟨x7,σ7,H7,I7,r7,q7⟩:=q7;exact ⟨x7,σ7,H7,I7.jk,r7,q7⟩
abbrev R2:=V->V->Hp->VK->Prop
def OpR (X:Cx) (f:Value->Value->Sem Value) (r:R2):Prop:=
 ∀(pins:List (Addr×Obj)) (s:Shared) (σ:St) (H:Hp) (x y:V) (v u:Value) (Q:VK),Inv X pins σ H s->RelV x v->RelV y u->r x y H Q->
  wpAny (model X.prog X.w) X.A (f v u) (EP X pins σ Q) X.xe s
def UnR (X:Cx) (f:Value->Sem Value) (r:V->Hp->VK->Prop):Prop:=
 ∀(pins:List (Addr×Obj)) (s:Shared) (σ:St) (H:Hp) (x:V) (v:Value) (Q:VK),Inv X pins σ H s->RelV x v->r x H Q->
  wpAny (model X.prog X.w) X.A (f v) (EP X pins σ Q) X.xe s
def dG (X:Cx) (f:Value) (r:List V->Hp->VK->Prop):Prop:=
 ∀(pins:List (Addr×Obj)) (s:Shared) (σ:St) (H:Hp) (xs:List V) (us:List Value) (Q:VK),Inv X pins σ H s->Vals xs us->r xs H Q->
  wpAny (model X.prog X.w) X.A (call f us) (EP X pins σ Q) X.xe s
def JV (X:Cx) (r:V->Hp->(Bool->Hp->Prop)->Prop):Prop:=
 ∀(pins:List (Addr×Obj)) (s:Shared) (σ:St) (H:Hp) (x:V) (v:Value) (Q:Bool->Hp->Prop),Inv X pins σ H s->RelV x v->r x H Q->
  wpAny (model X.prog X.w) X.A (truthy v) (TP X pins σ Q) X.xe s
def tOp (r:R2) (ta tb:TE):TE:=fun σ H Q=>ta σ H fun x H1=>tb σ H1 fun y H2=>r x y H2 Q
def tUn (r:V->Hp->VK->Prop) (ta:TE):TE:=fun σ H Q=>ta σ H fun x H1=>r x H1 Q
def rI (C:Int->Int->Prop) (g:Int->Int->V):R2:=fun x y H Q=>∃i j,x=.int i∧y=.int j∧C i j∧Q (g i j) H
def rI0 (g:Int->Int->V):R2:=fun x y H Q=>∃i j,x=.int i∧y=.int j∧Q (g i j) H
def rU (g:Int->V):V->Hp->VK->Prop:=fun x H Q=>∃i,x=.int i∧Q (g i) H
theorem Ha (ha:PE X a ta) (hb:PE X b tb) {pins:List (Addr×Obj)} {s:Shared} {σ:St} {H:Hp} {R:V->V->Hp->Prop} (I:Inv X pins σ H s)
  (h:ta σ H fun x H1=>tb σ H1 fun y H2=>R x y H2) {Q:Value->Shared->Prop} {f:Value->Value->Sem Value}
  (hf:∀v u s2 x y H2,Inv X pins σ H2 s2->RelV x v->RelV y u->R x y H2->wpAny (model X.prog X.w) X.A (f v u) Q X.xe s2):
  wpAny (model X.prog X.w) X.A (eval a X.env) (fun v s₁=>wpAny (model X.prog X.w) X.A (eval b X.env) (fun u s₂=>wpAny (model X.prog X.w) X.A (f v u) Q X.xe s₂) X.xe s₁) X.xe s:=by
 refine thn (ha pins s σ H _ I h) fun v s1 ⟨x,H1,I1,r1,q1⟩=>?_;refine thn (hb pins s1 σ H1 _ I1 q1) fun u s2 ⟨y,H2,I2,r2,q2⟩=>?_;exact hf v u s2 x y H2 I2 r1 r2 q2
theorem EI {op:Operator} {r:R2} (ho:OpR X (binaryOp op) r) (ha:PE X a ta) (hb:PE X b tb):PE X (.BinOp a op b pos) (tOp r ta tb):=by
 intro pins s σ H Q I h;exact wpAny_BinOp (Ha ha hb I h fun v u s2 x y H2 I2 rx ry q=>ho pins s2 σ H2 x y v u Q I2 rx ry q)
theorem Ii (ho:UnR X (unaryOp op) r) (ha:PE X a ta):PE X (.UnaryOp op a pos) (tUn r ta):=by
 intro pins s σ H Q I h;exact UnaryOp_ (thn (ha pins s σ H _ I h) fun v s1 ⟨x,H1,I1,r1,q1⟩=>ho pins s1 σ H1 x v Q I1 r1 q1)
theorem opI {f:Value->Value->Sem Value} {C:Int->Int->Prop} {g:Int->Int->Int}
  (rule:∀(i j:Int) (t u:Tok) (s:Shared) (Q:Value->Shared->Prop) (E:Value->Shared->Prop),C i j->Q (.int (g i j) s.toks) {s with toks:=s.toks+1}->wpAny (model X.prog X.w) X.A (f (.int i t) (.int j u)) Q E s):
  OpR X f (rI C fun i j=>.int (g i j)):=by
 intro pins s σ H x y v u Q I rx ry h;obtain ⟨i,j,rfl,rfl,hc,q⟩:=h;obtain ⟨t,rfl⟩:=rx;obtain ⟨t',rfl⟩:=ry;exact rule i j t t' s _ _ hc ⟨.int (g i j),H,I.tok _,⟨_,rfl⟩,q⟩
theorem Gm {f:Value->Value->Sem Value} {g:Int->Int->Int}
  (rule:∀(i j:Int) (t u:Tok) (s:Shared) (Q:Value->Shared->Prop) (E:Value->Shared->Prop),Q (.int (g i j) s.toks) {s with toks:=s.toks+1}->wpAny (model X.prog X.w) X.A (f (.int i t) (.int j u)) Q E s):
  OpR X f (rI0 fun i j=>.int (g i j)):=by
 intro pins s σ H x y v u Q I rx ry h;obtain ⟨i,j,rfl,rfl,q⟩:=h;obtain ⟨t,rfl⟩:=rx;obtain ⟨t',rfl⟩:=ry;exact rule i j t t' s _ _ ⟨.int (g i j),H,I.tok _,⟨_,rfl⟩,q⟩
theorem DN {f:Value->Value->Sem Value} {g:Int->Int->Bool}
  (rule:∀(i j:Int) (t u:Tok) (s:Shared) (Q:Value->Shared->Prop) (E:Value->Shared->Prop),Q (.bool (g i j)) s->wpAny (model X.prog X.w) X.A (f (.int i t) (.int j u)) Q E s):
  OpR X f (rI0 fun i j=>.bl (g i j)):=by
 intro pins s σ H x y v u Q I rx ry h;obtain ⟨i,j,rfl,rfl,q⟩:=h;obtain ⟨t,rfl⟩:=rx;obtain ⟨t',rfl⟩:=ry;exact rule i j t t' s _ _ ⟨.bl (g i j),H,I,rfl,q⟩
def JX (i j:Int):Prop:=0≤j∧j≤1000000∧i.natAbs < 2^64
def Hl (i j:Int):Prop:=(-(2^64) < i∧i < 2^64)∨(-(2^64) < j∧j < 2^64)
theorem Hl.ok (h:Hl i j):IntMulOk i j:=by
 rcases h with ⟨h1,h2⟩ | ⟨h1,h2⟩
 ·exact .of_left (intBits_le_64 h1 h2)
 ·exact .of_right (intBits_le_64 h1 h2)
theorem Gk:OpR X (binaryOp .Add) (rI0 fun i j=>.int (i+j)):=Gm fun _ _ _ _ _ _ _ q=>add_int q
theorem Gb:OpR X (binaryOp .Sub) (rI0 fun i j=>.int (i-j)):=Gm fun _ _ _ _ _ _ _ q=>sub_int q
theorem Gg:OpR X (binaryOp .Mult) (rI Hl fun i j=>.int (i*j)):=opI fun _ _ _ _ _ _ _ hc q=>mul_int q hc.ok
theorem Gh:OpR X (binaryOp .Mod) (rI (fun _ j=>0 < j) fun i j=>.int (i % j)):=opI fun i j _ _ _ _ _ hc q=>by
 have h1:(0:Int) < j:=hc;exact mod_int' (by lia) (by rw [Int.fmod_eq_emod_of_nonneg i (by lia)];exact q)
theorem Gf:OpR X (binaryOp .Pow) (rI JX fun i j=>.int (i^j.toNat)):=opI fun _ _ _ _ _ _ _ hc q=>pow_int_small hc.1 hc.2.1 hc.2.2 q
theorem D5:OpR X (inplaceOp .Sub) (rI0 fun i j=>.int (i-j)):=Gm fun _ _ _ _ _ _ _ q=>isub_int q
theorem unI {f:Value->Sem Value} {g:Int->Int}
  (rule:∀(i:Int) (t:Tok) (s:Shared) (Q:Value->Shared->Prop) (E:Value->Shared->Prop),Q (.int (g i) s.toks) {s with toks:=s.toks+1}->wpAny (model X.prog X.w) X.A (f (.int i t)) Q E s):
  UnR X f (rU fun i=>.int (g i)):=by
 intro pins s σ H x v Q I rx h;obtain ⟨i,rfl,q⟩:=h;obtain ⟨t,rfl⟩:=rx;exact rule i t s _ _ ⟨.int (g i),H,I.tok _,⟨_,rfl⟩,q⟩
theorem EW:UnR X (unaryOp .USub) (rU fun i=>.int (-i)):=unI fun _ _ _ _ _ q=>neg_int q
theorem GU (I:Inv X pins σ H s) (q:Q (.bl k) H) (e:k=k'):EP X pins σ Q (.bool k') s:=by
 subst e;exact ⟨.bl k,H,I,rfl,q⟩
theorem Ip:OpR X (compareOp .Lt) (rI0 fun i j=>.bl (decide (i < j))):=DN fun _ _ _ _ _ _ _ q=>lt_int q
theorem Iq:OpR X (compareOp .LtE) (rI0 fun i j=>.bl (decide (i≤j))):=DN fun _ _ _ _ _ _ _ q=>le_int q
theorem Ir:OpR X (compareOp .Gt) (rI0 fun i j=>.bl (decide (j < i))):=DN fun _ _ _ _ _ _ _ q=>gt_int q
theorem Iu:OpR X (compareOp .GtE) (rI0 fun i j=>.bl (decide (j≤i))):=DN fun _ _ _ _ _ _ _ q=>ge_int q
theorem Gi:OpR X (compareOp .Is) (fun x y H Q=>y=.non∧Q (.bl (decide (x=.non))) H):=by
 intro pins s σ H x y v u Q I rx ry h;obtain ⟨rfl,q⟩:=h;cases ry;refine is_none_gen (GU I q ?_);cases x <;> first
  | (cases rx;rfl)
  | (obtain ⟨t,rfl⟩:=rx;rfl)
theorem av (b:Expr) (h:op≠.In:=by decide) (h2:op≠.NotIn:=by decide):behindInMarks op b=false:=by
 have e1:(op==CmpOp.In)=false:=by cases op <;> first | rfl | exact absurd rfl h
 have e2:(op==CmpOp.NotIn)=false:=by cases op <;> first | rfl | exact absurd rfl h2
 cases b <;> simp [behindInMarks,e1,e2]
theorem DH {op:CmpOp} {r:R2} (ho:OpR X (compareOp op) r) (ha:PE X a ta) (hb:PE X b tb) (hm:behindInMarks op b=false):PE X (.Compare a [op] [b] pos) (tOp r ta tb):=by
 intro pins s σ H Q I h;exact wpAny_Compare1 (Ha ha hb I h fun v u s2 x y H2 I2 rx ry q=>ho pins s2 σ H2 x y v u Q I2 rx ry q) hm
def EB (t:TE):TT:=fun σ H Q=>t σ H fun x H'=>∃k,x=.bl k∧Q k H'
theorem Dp (ho:OpR X (compareOp op) r) (ha:PE X a ta) (hb:PE X b tb) (hm:behindInMarks op b=false):PT X (.Compare a [op] [b] pos) (EB (tOp r ta tb)):=by
 intro pins s σ H Q I h;refine wpAny_isTrue_Compare1 (thn (ha pins s σ H _ I h) fun v s1 ⟨x,H1,I1,r1,q1⟩=>thn (hb pins s1 σ H1 _ I1 q1) fun u s2 ⟨y,H2,I2,r2,q2⟩=>
  thn (ho pins s2 σ H2 x y v u _ I2 r1 r2 q2) fun c s3 ⟨z,H3,I3,r3,k,e,q3⟩=>?_) hm
 subst e;cases r3;exact wpAny_truthy_bool ⟨H3,I3,q3⟩
def wQ (r r':R2) (ta tb tc:TE):TE:=fun σ H Q=>ta σ H fun x H1=>tb σ H1 fun y H2=>r x y H2 fun z H3=>∃k,z=.bl k∧
 (if k=true then tc σ H3 fun w' H4=>r' y w' H4 Q else Q (.bl false) H3)
theorem Bo (ho:OpR X (compareOp op) r) (ho':OpR X (compareOp op') r') (ha:PE X a ta) (hb:PE X b tb) (hc:PE X c tc) (hm:lastMarks [op,op'] [b,c]=false:=by with_unfolding_all rfl):PE X (.Compare a [op,op'] [b,c] pos) (wQ r r' ta tb tc):=by
 intro pins s σ H Q I h;refine Compare_chain (thn (ha pins s σ H _ I h) fun v s1 ⟨x,H1,I1,r1,q1⟩=>chain_link (thn (hb pins s1 σ H1 _ I1 q1) fun u s2 ⟨y,H2,I2,r2,q2⟩=>
  thn (ho pins s2 σ H2 x y v u _ I2 r1 r2 q2) fun d s3 ⟨z,H3,I3,r3,k,e,q3⟩=>?_)) hm
 subst e;cases r3;refine wpAny_truthy_bool ?_;cases k with
 | false=>exact ite_ff ⟨.bl false,H3,I3,rfl,q3⟩
 | true=>exact ite_tt (chain_last (thn (hc pins s3 σ H3 _ I3 q3) fun w' s4 ⟨z',H4,I4,r4,q4⟩=>ho' pins s4 σ H4 y z' u w' Q I4 r2 r4 q4))
theorem Be (ho:OpR X (compareOp op) r) (ho':OpR X (compareOp op') r') (ha:PE X a ta) (hb:PE X b tb) (hc:PE X c tc) (hm:lastMarks [op,op'] [b,c]=false:=by with_unfolding_all rfl):PT X (.Compare a [op,op'] [b,c] pos) (EB (wQ r r' ta tb tc)):=by
 intro pins s σ H Q I h;refine isTrue_chain (thn (ha pins s σ H _ I h) fun v s1 ⟨x,H1,I1,r1,q1⟩=>test_link (thn (hb pins s1 σ H1 _ I1 q1) fun u s2 ⟨y,H2,I2,r2,q2⟩=>
  thn (ho pins s2 σ H2 x y v u _ I2 r1 r2 q2) fun d s3 ⟨z,H3,I3,r3,k,e,q3⟩=>?_)) hm
 subst e;cases r3;refine wpAny_truthy_bool ?_;cases k with
 | false=>
  obtain ⟨k',e',q'⟩:=q3;cases e';exact ite_ff ⟨H3,I3,q'⟩
 | true=>
  refine ite_tt (test_last (thn (hc pins s3 σ H3 _ I3 q3) fun w' s4 ⟨z',H4,I4,r4,q4⟩=>thn (ho' pins s4 σ H4 y z' u w' _ I4 r2 r4 q4) fun d' s5 ⟨z2,H5,I5,r5,k2,e2,q5⟩=>?_));subst e2;cases r5;exact wpAny_truthy_bool ⟨H5,I5,q5⟩
def Hg (K:FR) (x:V) (H:Hp) (k:Bool):Prop:=
 match x with
 | .non=>k=false
 | .bl b=>k=b
 | .int i=>k=(i !=0)
 | .str y=>y.length≤sizeLine∧k=((y.length:Int) !=0)
 | .byt y=>y.size≤sizeLine∧k=((y.size:Int) !=0)
 | .ref p=>(∃xs,SqL K H p xs∧k=!xs.isEmpty)∨(∃xs,SqT K H p xs∧k=!xs.isEmpty)∨∃kvs,H p=some (.dK kvs)∧k=!kvs.isEmpty
 | _=>False
theorem xK (r:KV kvs vs):(!vs.isEmpty)=!kvs.isEmpty:=by
 cases r <;> rfl
theorem qA (r:Vals xs its):(!its.toArray.isEmpty)=!xs.isEmpty:=by
 cases r <;> simp
theorem lK:(sizeLine:Nat) < 2^63:=by rw [sizeLine_eq];decide
theorem E2:JV X (fun x H Q=>∃k,Hg X.K x H k∧Q k H):=by
 intro pins s σ H x v Q I rx h;obtain ⟨k,e,q⟩:=h;have hl:=lK;have hs:sizeLine=16777216:=sizeLine_eq;cases x with
 | non=>
  cases rx;have e':k=false:=e;subst e';exact truthy_none ⟨H,I,q⟩
 | bl b=>
  cases rx;have e':k=b:=e;subst e';exact wpAny_truthy_bool ⟨H,I,q⟩
 | int i=>
  obtain ⟨t,rfl⟩:=rx;have e':k=(i !=0):=e;subst e';exact PySem.P.truthy_int ⟨H,I,q⟩
 | str y=>
  obtain ⟨t,rfl⟩:=rx;obtain ⟨hy,e'⟩:y.length≤sizeLine∧k=((y.length:Int) !=0):=e;subst e';exact PySem.P.truthy_str (by lia) ⟨H,I.tok _,q⟩
 | byt y=>
  obtain ⟨t,rfl⟩:=rx;obtain ⟨hy,e'⟩:y.size≤sizeLine∧k=((y.size:Int) !=0):=e;subst e';exact PySem.W.truthy_bytes (by lia) ⟨H,I.tok _,q⟩
 | ref p=>
  cases rx;have e':(∃xs,SqL X.K H p xs∧k=!xs.isEmpty)∨(∃xs,SqT X.K H p xs∧k=!xs.isEmpty)∨∃kvs,H p=some (.dK kvs)∧k=!kvs.isEmpty:=e;rcases e' with ⟨xs,hx,e'⟩ | ⟨xs,hx,e'⟩ | ⟨kvs,hx,e'⟩
  ·subst e';obtain ⟨its,r,pl,hz⟩:=I.list hx;have hlen:=r.length;exact wpAny_truthy_list pl.isList (by simp only [List.size_toArray];lia) ⟨H,I.tok _,by rw [qA r];exact q⟩
  ·subst e';obtain ⟨its,r,pl,hz⟩:=I.tuple hx;have hlen:=r.length;exact truthy_tuple pl (by simp only [List.size_toArray];lia) ⟨H,I.tok _,by rw [qA r];exact q⟩
  ·subst e';obtain ⟨hz,hS,vs,r,m⟩:kvs.length≤sizeLine∧(p==sysModules)=false∧∃vs,KV kvs vs∧s.heap.DictOf (aZ X.prog X.w) p vs:=I.hok p _ hx;have hlen:kvs.length=vs.length:=Paired.length r;exact wpAny_truthy_dict hS m (by lia) ⟨H,I.tok _,by rw [xK r];exact q⟩
 | _=>exact (show False from e).elim
theorem Bd (ha:PE X a ta) (he:∀whole,isTrue a X.env whole=(do let v←whole;standAt a.pos;holding [v] (truthy v))):
  PT X a (fun σ H Q=>ta σ H fun x H'=>∃k,Hg X.K x H' k∧Q k H'):=by
 intro pins s σ H Q I h;exact isTrue_plain (thn (ha pins s σ H _ I h) fun v s1 ⟨x,H1,I1,r1,q1⟩=>E2 pins s1 σ H1 x v Q I1 r1 q1) (he _)
theorem xu:OpR X (binaryOp .Add) (fun x y H Q=>∃i j,x=.str i∧y=.str j∧i.length+j.length≤sizeLine∧Q (.str (i++j)) H):=by
 intro pins s σ H x y v u Q I rx ry h;obtain ⟨i,j,rfl,rfl,hz,q⟩:=h;obtain ⟨t,rfl⟩:=rx;obtain ⟨t',rfl⟩:=ry;exact add_str (fun t' tk=>⟨.str (i++j),H,I.tok _,⟨_,rfl⟩,q⟩) hz
theorem vals1 (r:Vals [x] us):∃u,us=[u]∧RelV x u:=by
 cases r with
 | cons r1 r2=>cases r2;exact ⟨_,rfl,r1⟩
theorem vals2 (r:Vals [x,y] us):∃u w',us=[u,w']∧RelV x u∧RelV y w':=by
 cases r with
 | cons r1 r2=>
  cases r2 with
  | cons r3 r4=>cases r4;exact ⟨_,_,rfl,r1,r3⟩
theorem Cq:dG X (.builtin "abs") (fun xs H Q=>∃i,xs=[.int i]∧Q (.int (if i < 0 then -i else i)) H):=by
 intro pins s σ H xs us Q I r h;obtain ⟨i,rfl,q⟩:=h;obtain ⟨u,rfl,t,rfl⟩:=vals1 r;exact call_abs_int fun u tk=>⟨.int (if i < 0 then -i else i),H,I.tok _,⟨_,rfl⟩,q⟩
theorem z6 (hc:X.calm=true):dG X (.builtin "max") (fun xs H Q=>∃i j,xs=[.int i,.int j]∧Q (.int (if j > i then j else i)) H):=by
 intro pins s σ H xs us Q I r h;obtain ⟨i,j,rfl,q⟩:=h;obtain ⟨u,w',rfl,⟨t,rfl⟩,⟨t',rfl⟩⟩:=vals2 r;refine max_two_ints (I.ok.hd hc) fun h' tk k=>⟨_,H,I.kept k,?_,q⟩
 by_cases hj:j > i
 ·rw [if_pos hj,if_pos hj];exact ⟨_,rfl⟩
 ·rw [if_neg hj,if_neg hj];exact ⟨_,rfl⟩
theorem z5 (hc:X.calm=true):dG X (.builtin "min") (fun xs H Q=>∃i j,xs=[.int i,.int j]∧Q (.int (if j < i then j else i)) H):=by
 intro pins s σ H xs us Q I r h;obtain ⟨i,j,rfl,q⟩:=h;obtain ⟨u,w',rfl,⟨t,rfl⟩,⟨t',rfl⟩⟩:=vals2 r;refine min_two_ints (I.ok.hd hc) fun h' tk k=>⟨_,H,I.kept k,?_,q⟩
 by_cases hj:j < i
 ·rw [if_pos hj,if_pos hj];exact ⟨_,rfl⟩
 ·rw [if_neg hj,if_neg hj];exact ⟨_,rfl⟩
structure ObjM (h:Heap) (x dx C:Addr) (mA:Str->Option Value):Prop where
 obj:h.get? x=some (PySem.W.instObj C dx)
 ns:h.Ns1 dx mA
 ne:dx≠x
theorem zt {h:Heap} {dx:Addr} {mA:Str->Option Value} (n:h.Ns1 dx mA):∃od,h.get? dx=some od∧∀name,PySem.W.lookIn name od=some (mA name):=by
 obtain ⟨o,es,ep,ho,hd,hk,_,hm⟩:=n;refine ⟨o,ho,fun name=>?_⟩;have e:=hm name;unfold nsFind findBy at e;rw [←Array.find?_toList] at e;unfold PySem.W.lookIn;rw [hd];dsimp only
 split
 ·rename_i y q;rw [q] at e;exact congrArg some e
 ·rename_i q;rw [q] at e;have a:es.toList.any (·.refKey)=false:=by
   rw [List.any_eq_false];intro y hy;obtain ⟨z,t,hkey⟩:=hk y (Array.mem_toList_iff.mp hy);simp [DictEntry.refKey,hkey]
  have a':¬es.toList.any (·.refKey)=true:=by rw [a];exact Bool.false_ne_true
  rw [if_neg a'];exact congrArg some e
theorem ObjM.look (I:ObjM h x dx C mA):∃od,PySem.W.InstAt h x (PySem.W.instObj C dx) C (some od)∧∀name,PySem.W.lookIn name od=some (mA name):=
 let ⟨od,ho,hl⟩:=zt I.ns
 ⟨od,⟨I.obj,rfl,rfl,ho⟩,hl⟩
section
variable {prog:Program} {w:World} {A:Around} {E:Value->Shared->Prop} {s:Shared} {K:FR} {x dx C f:Addr} {mA:Str->Option Value} {name:Str} {v:Value}
end
theorem ox.some_of (r:ox (some v) o):∃u,o=some u∧RelV v u:=by
 cases o with
 | none=>exact (show False from r).elim
 | some u=>exact ⟨u,rfl,r⟩
theorem D7 (hok:HOk P w H h) (e:H a=some (.ins C dx fs)):∃mA,ObjM h a dx C mA∧(∀f,ox (fs.lookup f) (mA f))∧PySem.Within mA (fs.map (·.1))∧fs.length≤1000∧H dx=some (.own a):=by
 obtain ⟨d,z,ne,ob,mA,n,r,q⟩:=(show cF P w H h a (.ins C dx fs) from hok a _ e);exact ⟨mA,⟨ob,n,ne⟩,r,q,z,d⟩
structure Cls (K:FR) (C:Addr):Prop where
 pg:PySem.W.plainGet K C Str.empty=true
 hd:PySem.W.hasDictIn K C=true
 po:PySem.W.plainOver K C=true
 sa:PySem.W.findIn K (.ref C) "__setattr__"=some (some (.builtin "object.__setattr__"))
theorem Cls.get {K:FR} {C:Addr} (c:Cls K C) (f:Str):PySem.W.plainGet K C f=true:=c.pg
inductive TyOf (K:FR) (H:Hp):V->Value->Prop where
 | non:TyOf K H .non (.type "NoneType")
 | bl (x:Bool):TyOf K H (.bl x) (.type "bool")
 | int (i:Int):TyOf K H (.int i) (.type "int")
 | str (x:Str):TyOf K H (.str x) (.type "str")
 | flt (x:UInt64):TyOf K H (.flt x) (.type "float")
 | lst {a:Addr} {xs:List V} (e:H a=some (.lst xs)):TyOf K H (.ref a) (.type "list")
 | frz {a:Addr} {o:Obj} {xs:List V} (e:H a=some (.frz o (.lst xs))):TyOf K H (.ref a) (.type "list")
 | tup {a:Addr} {xs:List V} (e:H a=some (.tup xs)):TyOf K H (.ref a) (.type "tuple")
 | dK {a:Addr} {kvs:List (Key×V)} (e:H a=some (.dK kvs)):TyOf K H (.ref a) (.type "dict")
 | dT {a:Addr} {kvs:List (List Key×V)} (e:H a=some (.dT kvs)):TyOf K H (.ref a) (.type "dict")
 | ins {a C dx:Addr} {fs:List (Str×V)} (e:H a=some (.ins C dx fs)) (cl:Cls K C) (ha:PySem.W.findIn K (.ref C) "__class__"=some (some (.builtin "object.__class__")))
   (hn:PySem.W.specialIn K (.builtin "object.__class__") "__get__"=some (some (.builtin "getset_descriptor.__get__"))) (htk:PySem.W.takesIn K (.builtin "object.__class__")=some true)
   (hm:PySem.W.mroIn K C (.type "object")=some true):TyOf K H (.ref a) (.ref C)
theorem zF (I:Inv X pins σ H s) (rx:RelV x u) (ty:TyOf X.K H x t) (e:PySem.W.kitOne X.K t c=some b) (h:∀tk,Q (.bool b) {s with toks:=tk}):
  wpAny (model X.prog X.w) A (call (.builtin "isinstance") [u,c]) Q E s:=by
 cases ty with
 | non=>cases (show u=Value.none from rx);exact PySem.W.kia_one PySem.W.kitx_none I.kIn True.intro e (fun z=>nomatch z) h
 | bl y=>cases (show u=Value.bool y from rx);exact PySem.W.kia_one PySem.W.kitx_bool I.kIn True.intro e (fun z=>nomatch z) h
 | int i=>obtain ⟨t,q⟩:=(show ∃t,u=Value.int i t from rx);cases q;exact PySem.W.kia_one PySem.W.kitx_int I.kIn True.intro e (fun z=>nomatch z) h
 | str y=>obtain ⟨t,q⟩:=(show ∃t,u=Value.str y t from rx);cases q;exact PySem.W.kia_one PySem.W.kitx_str I.kIn True.intro e (fun z=>nomatch z) h
 | flt y=>obtain ⟨t,q⟩:=(show ∃t,u=Value.float y t from rx);cases q;exact PySem.W.kia_one PySem.W.kitx_float I.kIn True.intro e (fun z=>nomatch z) h
 | @lst a xs ea=>
  cases (show u=Value.ref a from rx);obtain ⟨_,_,n,_,h1⟩:=(show cF X.prog X.w H s.heap a (.lst xs) from I.hok a _ ea);exact PySem.W.kia_one PySem.W.kitx_list I.kIn ⟨_,h1,rfl⟩ e (fun z=>nomatch z) h
 | @frz a ob xs ea=>
  cases (show u=Value.ref a from rx);obtain ⟨_,_,_,n,_,h1⟩:=(show cF X.prog X.w H s.heap a (.frz ob (.lst xs)) from I.hok a _ ea);exact PySem.W.kia_one PySem.W.kitx_list I.kIn ⟨_,h1,rfl⟩ e (fun z=>nomatch z) h
 | @tup a xs ea=>
  cases (show u=Value.ref a from rx);obtain ⟨_,_,_,p⟩:=(show cF X.prog X.w H s.heap a (.tup xs) from I.hok a _ ea);obtain ⟨o,h1,h2,_⟩:=p;exact PySem.W.kia_one PySem.W.kitx_tuple I.kIn ⟨o,h1,h2⟩ e (fun z=>nomatch z) h
 | @dK a kvs ea=>
  cases (show u=Value.ref a from rx);obtain ⟨_,_,vs,_,p⟩:=(show cF X.prog X.w H s.heap a (.dK kvs) from I.hok a _ ea);obtain ⟨o,es,ep,h1,h2,_⟩:=p;exact PySem.W.kia_one PySem.W.kitx_dict I.kIn ⟨o,h1,h2.1⟩ e (fun z=>nomatch z) h
 | @dT a kvs ea=>
  cases (show u=Value.ref a from rx);obtain ⟨_,_,xs,_,o,es,ep,h1,h2,_⟩:=(show cF X.prog X.w H s.heap a (.dT kvs) from I.hok a _ ea);exact PySem.W.kia_one PySem.W.kitx_dict I.kIn ⟨o,h1,h2.1⟩ e (fun z=>nomatch z) h
 | @ins a C dx fs ea cl ha hn htk hm=>
  cases (show u=Value.ref a from rx);obtain ⟨mA,O,_⟩:=D7 I.hok ea;obtain ⟨od,J,_⟩:=O.look;exact PySem.W.kia_one (PySem.W.kitx_own (cl.get _) cl.hd ha hn htk hm) I.kIn J e (fun z=>nomatch z) h
structure Room (k:Nat) (A:Around):Prop where
 hd:A.handled=none
 dp:A.depth+3*k+5 < recursionLimit
 un:A.units+16*k+200 < cLine
theorem Room.mono (r:Room k A) (h:j≤k):Room j A:=⟨r.hd,by have:=r.dp;lia,by have:=r.un;lia⟩
theorem Room.deeper (r:Room (k+1) A) (env:Env):Room k (A.deeper env):=
 ⟨r.hd,by have:=r.dp;show A.depth+1+3*k+5 < _;lia,by have:=r.un;show A.units+3+16*k+200 < _;lia⟩
theorem Room.depth (r:Room k A):A.depth < recursionLimit:=by have:=r.dp;lia
theorem Room.units (r:Room k A):A.units+64 < cLine:=by have:=r.un;lia
def Jb:TA:=fun _ H Q=>Q [] H
def HG (ta:TE) (tr:TA):TA:=fun σ H Q=>ta σ H fun x H1=>tr σ H1 fun xs H2=>Q (x::xs) H2
theorem xq:PA X [] Jb:=fun _ _ _ _ H Q I h=>Calls.spliced_nil ⟨[],H,I,.nil,h⟩
theorem t9 (ha:PE X e te) (hr:PA X es t) (hs:starEach (e::es) X.env=(false,eval e X.env)::starEach es X.env:=by rfl):PA X (e::es) (HG te t):=by
 intro pos pins s σ H Q I h;rw [hs];show wpAny _ _ (spliced ((false,eval e X.env)::backTo pos (starEach es X.env))) _ _ s;refine Calls.spliced_cons (thn (ha pins s σ H _ I h) fun u s1 ⟨x,H1,I1,r1,q1⟩=>?_);exact thn (hr pos pins s1 σ H1 _ I1 q1) fun us s2 ⟨xs,H2,I2,r2,q2⟩=>⟨x::xs,H2,I2,.cons r1 r2,q2⟩
def I8 (t:TA):TE:=fun σ H Q=>t σ H fun xs H1=>xs.length≤sizeLine∧∀p,H1 p=none->Q (.ref p) (upd H1 p (.tup xs))
def Jd (t:TA):TE:=fun σ H Q=>t σ H fun xs H1=>xs.length≤sizeLine∧∀p,H1 p=none->Q (.ref p) (upd H1 p (.lst xs))
theorem FV {x1} (h:PA X es t):PE X (.Tuple es x1 pos) (I8 t):=by
 intro pins s σ H Q I hq;refine wpAny_Tuple_spliced (thn (h pos pins s σ H _ I hq) fun us s1 ⟨xs,H1,I1,r,z,q⟩=>⟨by rw [←r.length];exact z,?_⟩);have hf:H1 s1.heap.objs.size=none:=I1.hok.fresh (Nat.le_refl _);refine ⟨.ref s1.heap.objs.size,upd H1 s1.heap.objs.size (.tup xs),I1.laid (t':=s1.toks) (fun b u e=>Heap.get?_push_of_some _ e) (Nat.le_refl _) ?_,rfl,q _ hf⟩;exact ⟨z,us,r,⟨_,Heap.get?_push_size _ rfl,rfl,⟨_,rfl⟩,rfl⟩⟩
theorem F5 (h:PA X es t):PE X (.List es pos) (Jd t):=by
 intro pins s σ H Q I hq;refine wpAny_List_spliced (thn (h pos pins s σ H _ I hq) fun us s1 ⟨xs,H1,I1,r,z,q⟩=>⟨by rw [←r.length];exact z,?_⟩);have hf:H1 s1.heap.objs.size=none:=I1.hok.fresh (Nat.le_refl _);refine ⟨.ref s1.heap.objs.size,upd H1 s1.heap.objs.size (.lst xs),I1.laid (t':=s1.toks) (fun b u e=>Heap.get?_push_of_some _ e) (Nat.le_refl _) ?_,rfl,q _ hf⟩;exact ⟨z,us,0,r,Heap.get?_push_size _ rfl⟩
abbrev Sp:=List V->Hp->VK->XK->Prop
abbrev CXT:=List Env->Hp->Shared->XK->Value->Shared->Prop
structure Env0 (P:Program) (w:World) (K:FR) (mg:Str->Option Value) (base:Heap) (A:Around) (outer:List Env) (s:Shared) (H:Hp):Prop where
 frames:A.frames=some outer
 mod:Mod K mg base
 bs:∀b o,base.get? b=some o->s.heap.get? b=some o∧H b=none
 bsz:base.objs.size≤s.heap.objs.size
 qE:s.heap.FunFrames base outer
 frf:∀b∈frs outer,H b=none
 hok:HOk P w H s.heap
 bare:AllBare s.gens
def CE (outer:List Env) (P:Program) (w:World) (H:Hp) (s:Shared) (Q:VK) (u:Value) (s':Shared):Prop:=
 ∃v H',s'.os=s.os∧AllBare s'.gens∧Un (frs outer) [] H H' s.heap s'.heap∧HOk P w H' s'.heap∧RelV v u∧Q v H'
def CR (CX:CXT) (outer:List Env) (P:Program) (w:World) (H:Hp) (s:Shared) (Q:VK) (E:XK) (r:Result) (s':Shared):Prop:=
 match r with
 | .ok (.ret u)=>CE outer P w H s Q u s'
 | .ok _=>False
 | .error e=>CX outer H s E e s'
structure FnOk (P:Program) (w:World) (K:FR) (mg:Str->Option Value) (base:Heap) (CX:CXT) (k:Nat) (f:Addr) (fd:FuncData) (ps:List Str) (sp:Sp):Prop where
 len:∀vs H Q E,sp vs H Q E->vs.length=ps.length
 run:∀(A:Around) (outer:List Env) (s:Shared) (H:Hp) (args:Args) (us:List Value) (vs:List V) (Q:VK) (E:XK),Room k A->Env0 P w K mg base A outer s H->BindsTo s fd args (ps.zip us)->Vals vs us->sp vs H Q E->
  codeAny (model P w) A (.call (.ref f) args) (CR CX outer P w H s Q E) s
theorem FnOk.imp {P:Program} {w:World} {K:FR} {mg:Str->Option Value} {base:Heap} {CX:CXT} {k:Nat} {f:Addr} {fd:FuncData} {ps:List Str} {sp sp':Sp} (F:FnOk P w K mg base CX k f fd ps sp)
  (h:∀vs H Q E,sp' vs H Q E->sp vs H Q E):FnOk P w K mg base CX k f fd ps sp':=
 ⟨fun vs H Q E q=>F.len vs H Q E (h _ _ _ _ q),fun A outer s H args us vs Q E hr he hb hv hs=>F.run A outer s H args us vs Q E hr he hb hv (h _ _ _ _ hs)⟩
theorem Inv.JR (I:Inv X pins σ H s):Env0 X.prog X.w X.K X.mg X.base X.A X.stack s H:=
 ⟨I.ok.frames,I.ok.mod,I.bs,Nat.le_trans I.ok.bsz I.sz,I.stack,I.yi,I.hok,I.bare⟩
theorem Inv.after (I:Inv X pins σ H s) (h:CE X.stack X.prog X.w H s Q u s'):EP X pins σ Q u s':=by
 obtain ⟨v,H',os,bare,un,hok,r,q⟩:=h;obtain ⟨hh,g,d,t,os'⟩:=s';obtain rfl:os'=s.os:=os;exact ⟨v,H',I.call (h':=hh) (g':=g) (d':=d) (t':=t) (ch:=[]) un hok bare (fun b z=>absurd z (by simp)),r,q⟩
def HH (sp:Sp) (dvs:List V) (E:XK) (t:TA):TE:=fun σ H Q=>t σ H fun vs H1=>sp (vs++dvs) H1 Q E
def Binds (K:FR) (fd:FuncData) (ps:List Str) (ds:List Value):Prop:=
 ∀(s:Shared) (us:List Value),K.In s.heap->(us++ds).length=ps.length->BindsTo s fd ⟨us,[]⟩ (ps.zip (us++ds))
theorem Binds.all {K:FR} {fd:FuncData} {ps:List Str} (h:∀us:List Value,us.length=ps.length->bindArgs fd ⟨us,[]⟩=pure (ps.zip us)):Binds K fd ps []:=fun s us _ hl=>by
 rw [List.append_nil] at hl ⊢;exact .of_eq (h us hl)
def Passes (CX:CXT) (X:Cx) (E:XK):Prop:=∀(pins:List (Addr×Obj)) (σ:St) (H:Hp) (s:Shared) (e:Value) (s':Shared),Inv X pins σ H s->CX X.stack H s E e s'->X.xe e s'
theorem Fj (F:FnOk X.prog X.w X.K X.mg X.base CX k f fd ps sp) (hr:Room k X.A) (hb:Binds X.K fd ps ds) (hd:Vals dvs ds) (hx:Passes CX X E) (I:Inv X pins σ H s) (r:Vals vs us) (h:sp (vs++dvs) H Q E):wpAny (model X.prog X.w) X.A (call (.ref f) us) (EP X pins σ Q) X.xe s:=by
 have r2:Vals (vs++dvs) (us++ds):=r.append hd;have hl:(us++ds).length=ps.length:=by rw [←r2.length];exact F.len _ _ _ _ h
 refine wpAny_call (codeAny_mono (F.run X.A X.stack s H ⟨us,[]⟩ (us++ds) (vs++dvs) Q E hr I.JR (hb s us I.kIn hl) r2 h) fun r s' hq=>?_);cases r with
 | error e=>exact hx pins σ H s e s' I hq
 | ok fl=>
  cases fl with
  | ret u=>exact I.after hq
  | next=>exact False.elim hq
  | brk=>exact False.elim hq
  | cont=>exact False.elim hq
theorem DI (F:FnOk X.prog X.w X.K X.mg X.base CX k f fd ps sp) (hr:Room k X.A) (hg:Gl X x) (hm:X.mg x=some (.ref f)) (hk:PySem.W.keepIn X.K (.ref f)=true) (hb:Binds X.K fd ps ds) (hd:Vals dvs ds) (hx:Passes CX X E)
  (ha:PA X (e::es) t) (hdb:(x==("__debug__":Str))=false:=by decide) (he:starEach (e::es) X.env=(false,eval e X.env)::starEach es X.env:=by rfl) (hpl:(backTo pos (starEach es X.env)).any (·.1)=false:=by rfl):
  PE X (.Call (.Name x p) (e::es) [] pos) (HH sp dvs E t):=by
 intro pins s σ H Q I h;refine wpAny_Call_Name_kw (pJ I hg hm ?_ hdb);refine PySem.W.callWith_K (h₀:=X.base) I.ok.mod.kin hk (thn (ha pos pins s σ H _ I h) fun us s1 ⟨vs,H1,I1,r,q⟩=>⟨I1.kIn,?_⟩) he hpl;exact Fj F hr hb hd hx I1 r q
structure FnScope (N P:List Str) (sc:Scope):Prop where
 kind:sc.kind=.function
 co:sc.isCoroutine=false
 gen:sc.isGenerator=false
 nd:N.Nodup
 pre:N.take P.length=P
 par:∀x∈P,sc.names.lookup x=some .local∨sc.names.lookup x=some .cell
 nofree:∀y∈sc.names,y.2≠.free
theorem sU {kindOf:Str->Option NameKind} {x:Str}:∀{binds:List (Str×Value)} {m:Str->Option Value},(∀v,(x,v)∉binds)->bindL kindOf binds m x=m x
 | [],_,_=>rfl
 | (n,v)::r,m,h=>by
  unfold bindL;rw [sU fun w hw=>h w (List.mem_cons_of_mem _ hw)]
  split
  ·have:x≠n:=by rintro rfl;exact h v List.mem_cons_self
   simp [this]
  ·rfl
theorem sW {kindOf:Str->Option NameKind} {x:Str}:∀{binds:List (Str×Value)} {m:Str->Option Value},(∀v,(x,v)∉binds)->bindC kindOf binds m x=m x
 | [],_,_=>rfl
 | (n,v)::r,m,h=>by
  unfold bindC;rw [sW fun w hw=>h w (List.mem_cons_of_mem _ hw)]
  split
  ·rfl
  ·have:x≠n:=by rintro rfl;exact h v List.mem_cons_self
   simp [this]
theorem sV {kindOf:Str->Option NameKind} {x:Str} {v:Value}:∀{P:List Str} {vs:List Value} {i:Nat} {m:Str->Option Value},P.Nodup->P[i]?=some x->vs[i]?=some v->kindOf x=some .local->
  bindL kindOf (P.zip vs) m x=some v
 | [],_,_,_,_,h,_,_=>by simp at h
 | _::_,[],_,_,_,_,h,_=>by simp at h
 | p::P,w::vs,0,m,nd,h1,h2,hk=>by
  simp at h1 h2;subst h1;subst h2;show bindL kindOf ((p,w)::P.zip vs) m p=_;unfold bindL;rw [sU fun v hv=>(List.nodup_cons.mp nd).1 (List.of_mem_zip hv).1,if_pos hk];simp
 | p::P,w::vs,i+1,m,nd,h1,h2,hk=>by
  show bindL kindOf ((p,w)::P.zip vs) m x=_;unfold bindL;exact sV (i:=i) (List.nodup_cons.mp nd).2 (by simpa using h1) (by simpa using h2) hk
theorem sX {kindOf:Str->Option NameKind} {x:Str} {v:Value}:∀{P:List Str} {vs:List Value} {i:Nat} {m:Str->Option Value},P.Nodup->P[i]?=some x->vs[i]?=some v->kindOf x≠some .local->
  bindC kindOf (P.zip vs) m x=some v
 | [],_,_,_,_,h,_,_=>by simp at h
 | _::_,[],_,_,_,_,h,_=>by simp at h
 | p::P,w::vs,0,m,nd,h1,h2,hk=>by
  simp at h1 h2;subst h1;subst h2;show bindC kindOf ((p,w)::P.zip vs) m p=_;unfold bindC;rw [sW fun v hv=>(List.nodup_cons.mp nd).1 (List.of_mem_zip hv).1,if_neg hk];simp
 | p::P,w::vs,i+1,m,nd,h1,h2,hk=>by
  show bindC kindOf ((p,w)::P.zip vs) m x=_;unfold bindC;exact sX (i:=i) (List.nodup_cons.mp nd).2 (by simpa using h1) (by simpa using h2) hk
noncomputable def start (N:List Str) (vs:List V):St:=vs.map some++List.replicate (N.length-vs.length) none
abbrev xU (CX:CXT) (P:Program) (w:World) (K:FR) (mg:Str->Option Value) (base:Heap) (N:List Str) (qual:Str) (scope:Scope) (f:Addr) (cd:Value) (A:Around) (outer:List Env) (s:Shared) (H:Hp) (E:XK):Cx where
 prog:=P
 w:=w
 K:=K
 mg:=mg
 base:=base
 A:=A.deeper (envOfC qual scope s.heap.objs.size f cd)
 N:=N
 s₀:=s
 H₀:=H
 env:=envOfC qual scope s.heap.objs.size f cd
 outer:=outer
 stack:=envOfC qual scope s.heap.objs.size f cd::outer
 ex:=[]
 calm:=true
 fn:=fun _=>true
 pn:=[]
 xe:=fun e s'=>wpAny (model P w) (A.deeper (envOfC qual scope s.heap.objs.size f cd)) (leaving (envOfC qual scope s.heap.objs.size f cd) e) (fun _ s''=>CX outer H s E e s'') (fun e' s''=>CX outer H s E e' s'') s'
theorem wA {sc:Scope} {n:Nat} {x:Str} (h:sc.names.lookup x=some .cell):∃c,(cellsFrom n sc.names []).lookup x=some c:=by
 have q:=PySem.W.cellsFrom_some sc.names n [] (.inl h);exact Option.isSome_iff_exists.mp q
theorem zG {CX:CXT} {P:Program} {w:World} {K:FR} {mg:Str->Option Value} {base:Heap} {N ps:List Str} {qual:Str} {scope:Scope} {f:Addr} {cd:Value} {A:Around} {outer:List Env} {s s1:Shared} {H:Hp} {E:XK} {us:List Value} {vs:List V}
  (S:FnScope N ps scope) (hd:A.handled=none) (e0:Env0 P w K mg base A outer s H) (hl:vs.length=ps.length) (r:Vals vs us)
  (x:InCallC s s.heap.objs.size (bindL (envOfC qual scope s.heap.objs.size f cd).kindOf (ps.zip us) fun _=>none) (cellsFrom (s.heap.objs.size+1) scope.names []) (bindC (envOfC qual scope s.heap.objs.size f cd).kindOf (ps.zip us) fun _=>none) s1):
  Inv (xU CX P w K mg base N qual scope f cd A outer s H E) [] (start N vs) H s1:=by
 have hpl:ps.length≤N.length:=by have:=congrArg List.length S.pre;rw [List.length_take] at this;lia
 obtain ⟨h1,tk,rfl,hk⟩:=x.done;have noA:∀b:Addr,b∉(xU CX P w K mg base N qual scope f cd A outer s H E).ex:=fun b z=>absurd (show b∈([]:List Addr) from z) (by simp);refine ⟨⟨e0.mod,S.kind,rfl,rfl,Nat.le_refl _,fun y z c h1 h2=>?_,fun y hy=>?_,fun y c _ h=>?_,fun _=>hd,Around.frames_deeper e0.frames,.inr ⟨rfl,rfl⟩,fun b z=>absurd z (noA b),e0.bs,e0.bsz,fun b _ _=>noA b,fun b z=>absurd z (noA b),e0.qE,e0.frf⟩,
  rfl,e0.bare,Un.kept hk,⟨_,x.toInCall.ns,fun i y v h1 h2 h3=>?_⟩,fun y c h=>⟨_,x.cell y c h⟩,e0.hok.fresh (Nat.le_refl _),fun y c h=>?_,fun p hp=>absurd (show p∈([]:List (Addr×Obj)) from hp) (by simp),e0.hok.kept hk,?_⟩
 ·exact name_of_addr x.apart (PySem.mem_of_lookup h1) (PySem.mem_of_lookup h2)
 ·have hy:scope.names.lookup y=some .cell∨scope.names.lookup y=some .free:=hy;rcases hy with hy | hy
  ·exact wA hy
  ·exact absurd rfl (S.nofree _ (PySem.mem_of_lookup hy))
 ·exact Nat.le_of_lt (x.above y c (PySem.mem_of_lookup h))
 ·have hi:i < vs.length:=by
   unfold start at h2
   by_cases hi:i < vs.length
   ·exact hi
   ·rw [List.getElem?_append_right (by simpa using hi)] at h2;rw [List.getElem?_replicate] at h2
    split at h2 <;> cases h2
  have ha:vs[i]?=some v:=by
   unfold start at h2;rw [List.getElem?_append_left (by simpa using hi),List.getElem?_map] at h2;cases e:vs[i]? with
   | none=>rw [e] at h2;cases h2
   | some a=>rw [e] at h2;cases h2;rfl
  obtain ⟨u,hu,rv⟩:=r.get ha;have hp:ps[i]?=some y:=by
   rw [←S.pre,List.getElem?_take_of_lt (by lia)];exact h1
  have ndP:ps.Nodup:=by rw [←S.pre];exact S.nd.sublist (List.take_sublist _ _)
  refine ⟨u,rv,?_⟩;rcases S.par y (List.mem_of_getElem? hp) with k | k
  ·exact .inl ⟨k,sV ndP hp hu k⟩
  ·obtain ⟨c,e⟩:=wA (n:=s.heap.objs.size+1) k;refine .inr ⟨.inl k,c,e,?_⟩;have q:=x.cell y c e;rw [sX ndP hp hu (by show scope.names.lookup y≠_;rw [k];decide)] at q;exact q
 ·exact e0.hok.fresh (Nat.le_of_lt (x.above y c (PySem.mem_of_lookup h)))
 ·unfold start;show _=N.length;rw [List.length_append,List.length_map,List.length_replicate]
  lia
theorem IH {CX:CXT} {P:Program} {w:World} {K:FR} {mg:Str->Option Value} {base:Heap} {k:Nat} {f:Addr} {name qual:Str} {params:Arguments} {body:List Stmt} {scope:Scope} {dV kV doc pm cdv ct oc:Value} {an od:Option Addr}
  {osl:Array (Option Value)} {N ps:List Str} {sp:Sp} (lk:K.lookup f=some ⟨oc,od,.func (PySem.W.fnOf name qual params body scope dV kV doc pm an cdv ct),osl⟩) (hcd:PySem.W.codeIn K cdv qual=true) (S:FnScope N ps scope)
  (len:∀vs H Q E,sp vs H Q E->vs.length=ps.length)
  (hbody:∀(A:Around) (outer:List Env) (s:Shared) (H:Hp) (vs:List V) (Q:VK) (E:XK),Room k (A.deeper (envOfC qual scope s.heap.objs.size f cdv))->sp vs H Q E->
   ∃t,PSs (xU CX P w K mg base N qual scope f cdv A outer s H E) body t∧t {nx:=fun _ H'=>Q .non H',rt:=Q} (start N vs) H):
  FnOk P w K mg base CX (k+1) f (PySem.W.fnOf name qual params body scope dV kV doc pm an cdv ct) ps sp:=by
 refine ⟨len,fun A outer s H args us vs Q E hr e0 hb r hsp=>?_⟩;have hl:=len _ _ _ _ hsp;have KX:K.In s.heap:=e0.mod.kin.keeps fun b o e=>(e0.bs b o e).1;have lim:s.heap.NoLimit:=e0.mod.nolimit.keeps fun b o e=>(e0.bs b o e).1;have hkind:∀y∈ps.zip us,scope.names.lookup y.1=some .local∨(scope.names.lookup y.1=some .cell∧((cellsFrom (s.heap.objs.size+1) scope.names []).lookup y.1).isSome=true):=fun ⟨n,v⟩ hy=>by
  rcases S.par n (List.of_mem_zip hy).1 with q | q
  ·exact .inl q
  ·exact .inr ⟨q,PySem.W.cellsFrom_some _ _ _ (.inl q)⟩
 refine codeAny_call_function hr.depth (KX _ _ lk) rfl S.co S.gen rfl (PySem.W.codeRec_of KX hcd) (hb _ _ _ _ ?_);refine wpAny_newFunctionEnv_cells S.kind hkind fun env he s1 x=>?_;subst he;refine ⟨lim.keeps x.toInCall.keep,codeAny_func ?_⟩;obtain ⟨t,ht,hq⟩:=hbody A outer s H vs Q E (hr.deeper _) hsp;have I:Inv (xU CX P w K mg base N qual scope f cdv A outer s H E) [] (start N vs) H s1:=zG S hr.hd e0 hl r x;refine wpAny_mono (ht [] s1 (start N vs) H _ I hq) (fun fl s' hs=>?_) fun e s' hs=>hs;have fin:∀{σ':St} {H':Hp} {v:V} {u:Value},Inv (xU CX P w K mg base N qual scope f cdv A outer s H E) [] σ' H' s'->RelV v u->Q v H'->CE outer P w H s Q u s':=
  fun {σ' H' v u} J rv q=>⟨v,H',J.os,J.bare,J.base,J.hok,rv,q⟩
 cases fl with
 | ret u=>
  obtain ⟨v,σ',H',J,rv,q⟩:=hs;exact fin J rv q
 | next=>
  obtain ⟨σ',H',J,q⟩:=hs;exact fin (v:=V.non) (u:=Value.none) J rfl q
 | brk=>
  obtain ⟨_,_,_,q⟩:=hs;exact False.elim q
 | cont=>
  obtain ⟨_,_,_,q⟩:=hs;exact False.elim q
section
variable {X:Cx} {x:Str} {p pos:Pos} {e:Expr} {es:List Expr} {t:TA} {id T:String} {r:List V->Hp->VK->Prop}
def tCB (r:List V->Hp->VK->Prop) (t:TA):TE:=fun σ H Q=>t σ H fun vs H1=>r vs H1 Q
theorem vK (hc:dG X (.builtin id) r) (hg:Gl X x) (hm:X.mg x=none) (hv:bootBuiltins x=some (.builtin id)) (ha:PA X (e::es) t) (hn:x≠"__name__":=by decide) (hdb:(x==("__debug__":Str))=false:=by decide)
  (he:starEach (e::es) X.env=(false,eval e X.env)::starEach es X.env:=by rfl) (hpl:(backTo pos (starEach es X.env)).any (·.1)=false:=by rfl):PE X (.Call (.Name x p) (e::es) [] pos) (tCB r t):=by
 intro pins s σ H Q I h;refine wpAny_Call_Name_kw (lM I hg hm hv ?_ hn hdb);exact PyProof.Rows.callWith_builtin1 (thn (ha pos pins s σ H _ I h) fun us s1 ⟨vs,H1,I1,r1,q1⟩=>hc pins s1 σ H1 vs us Q I1 r1 q1) he hpl
theorem nV (hc:dG X (.type T) r) (hg:Gl X x) (hm:X.mg x=none) (hv:bootBuiltins x=some (.type T)) (ha:PA X (e::es) t) (hn:x≠"__name__":=by decide) (hdb:(x==("__debug__":Str))=false:=by decide)
  (he:starEach (e::es) X.env=(false,eval e X.env)::starEach es X.env:=by rfl) (hpl:(backTo pos (starEach es X.env)).any (·.1)=false:=by rfl):PE X (.Call (.Name x p) (e::es) [] pos) (tCB r t):=by
 intro pins s σ H Q I h;refine wpAny_Call_Name_kw (lM I hg hm hv ?_ hn hdb);exact PyProof.Rows.callWith_type1 (thn (ha pos pins s σ H _ I h) fun us s1 ⟨vs,H1,I1,r1,q1⟩=>hc pins s1 σ H1 vs us Q I1 r1 q1) he hpl
end
end L2
namespace HT
open PySem PyProof.Rows
section
open PySem.SeqAt
open PySem.AutoSeq1 (wpAny_loadPart')
open PySem.MeetsSeq PySem.MeetsSeq2 PySem.MeetsSeq3
end
theorem Eo (ht:IsTup s.heap t vs.toArray) (hb:IsTup s.heap b ws.toArray) (hv:vs≠[]) (h1:ws=[]->Q (.ref t) s) (h2:ws≠[]->Q (.ref s.heap.objs.size) {s with heap:=s.heap.push {cls:=.type "tuple",data:=.seq (vs++ws).toArray}}) (hsz:vs.length+ws.length≤sizeLine):wpAny (model prog w) A (binaryOp .Add (.ref t) (.ref b)) Q E s:=by
 obtain ⟨⟨cls,dd,data,sl⟩,ho,hc,n,hd⟩:=id ht;obtain ⟨⟨cls2,dd2,data2,sl2⟩,ho2,hc2,n2,hd2⟩:=id hb;simp only at hc hd hc2 hd2;subst hc hd hc2 hd2;have e:vs.toArray++ws.toArray=(vs++ws).toArray:=by simp
 by_cases hw:ws=[]
 ·exact concat_meets ⟨_,ho,rfl⟩ ⟨_,ho2,rfl⟩ noFill_tuple_add seq_tuple_add PySem.F.slot_tuple_add PySem.F.entry_tuple_add (PySem.F.args_tuple_add_2 _ _)
   (tuple_addW1 t b vs.toArray ws.toArray n n2 dd dd2 sl sl2 (by simpa using hv) (by simp [hw])) ⟨ho,ho2,h1 hw⟩
 ·refine concat_meets ⟨_,ho,rfl⟩ ⟨_,ho2,rfl⟩ noFill_tuple_add seq_tuple_add PySem.F.slot_tuple_add PySem.F.entry_tuple_add (PySem.F.args_tuple_add_2 _ _)
   (tuple_addW2 t b vs.toArray ws.toArray n n2 dd dd2 sl sl2 (by simpa using hv) (by simpa using hw) (by rw [List.size_toArray,List.size_toArray];exact hsz)) ⟨ho,ho2,?_⟩
  rw [e];exact h2 hw
noncomputable def sIx (n d:Nat):Option Int->Nat
 | none=>d
 | some v=>if v < 0 then (v+(n:Int)).toNat else min v.toNat n
theorem AN (n d:Nat):sIx n d none=d:=rfl
theorem C0 (n d k:Nat):sIx n d (some (k:Int))=min k n:=by
 show (if (k:Int) < 0 then ((k:Int)+(n:Int)).toNat else min (k:Int).toNat n)=min k n;rw [if_neg (by lia),Int.toNat_natCast]
theorem Fi (n d:Nat) (hd:d≤n) (o:Option Int):sIx n d o≤n:=by
 cases o with
 | none=>exact hd
 | some v=>
  show (if v < 0 then (v+(n:Int)).toNat else min v.toNat n)≤n
  by_cases hv:v < 0
  ·rw [if_pos hv];lia
  ·rw [if_neg hv];exact Nat.min_le_right _ _
theorem yN (v:Int) (n d:Nat):(if v < 0 then max (v+(n:Int)) 0 else min v (n:Int))=((sIx n d (some v):Nat):Int):=by
 show (if v < 0 then max (v+(n:Int)) 0 else min v (n:Int))=(((if v < 0 then (v+(n:Int)).toNat else min v.toNat n):Nat):Int)
 by_cases hv:v < 0
 ·simp only [if_pos hv];lia
 ·simp only [if_neg hv];lia
theorem yc (lo hi:Option Int) (n:Nat):Builtin.Slice.sliceAdjust lo hi 1 (n:Int)=(((sIx n 0 lo:Nat):Int),((sIx n n hi:Nat):Int)):=by
 have h1:¬((1:Int) < 0):=by lia
 unfold Builtin.Slice.sliceAdjust;simp only [h1,if_false];refine Prod.ext ?_ ?_
 ·cases lo with
  | none=>rfl
  | some v=>exact yN v n 0
 ·cases hi with
  | none=>rfl
  | some v=>exact yN v n n
theorem xo (i j:Nat):Builtin.Slice.slicePlaces (i:Int) (j:Int) 1=j-i:=by
 unfold Builtin.Slice.slicePlaces;have h1:(1:Int) > 0:=by lia
 simp only [h1,if_true,Int.ediv_one]
 split <;> lia
theorem pU (p:IsPart v o) (h:Q o s):wpAny (model prog w) A (Builtin.Slice.slicePartIndex v) Q E s:=by
 cases p with
 | none=>exact slicePart_none h
 | int i t=>exact slicePart_int h
theorem ig {sl:Addr} {vl vu:Value} {lo hi:Option Int} {n:Nat} {Q:Int×Int×Nat->Shared->Prop} (hs:s.heap.IsSliceOf sl vl vu .none) (pl:IsPart vl lo) (pu:IsPart vu hi)
  (h:Q (((sIx n 0 lo:Nat):Int),1,sIx n n hi-sIx n 0 lo) s):wpAny (model prog w) A (Builtin.Slice.sliceApplied (.ref sl) (pure (n:Int))) Q E s:=by
 obtain ⟨os,hos,hcs,hds⟩:=id hs;unfold Builtin.Slice.sliceApplied Builtin.Slice.sliceFields;refine wpAny_bind (wpAny_bind (wpAny_field hos hds (x:=vl) rfl (wpAny_bind (wpAny_field hos hds (x:=vu) rfl (wpAny_bind (wpAny_field hos hds (x:=.none) rfl (wpAny_pure ?_)))))));refine wpAny_bind (slicePart_none ?_);show wpAny _ _ (if ((1:Int)==0)=true then _ else _) _ _ s;rw [if_neg (by decide)];refine wpAny_bind (pU pl (wpAny_bind (pU pu (wpAny_bind (wpAny_pure ?_)))));show wpAny _ _ (match Builtin.Slice.sliceAdjust lo hi 1 (n:Int) with | (lo,hi)=>pure (lo,(1:Int),Builtin.Slice.slicePlaces lo hi 1)) _ _ s;rw [yc lo hi n];show wpAny _ _ (pure (((sIx n 0 lo:Nat):Int),(1:Int),Builtin.Slice.slicePlaces ((sIx n 0 lo:Nat):Int) ((sIx n n hi:Nat):Int) 1)) _ _ s;rw [xo];exact wpAny_pure h
theorem Bj (xs:Array Value) (i k:Nat):((List.range k).filterMap fun (m:Nat)=>xs[((i:Int)+(m:Int)*1).toNat]?).toArray=((xs.toList.drop i).take k).toArray:=by
 have e:(fun (m:Nat)=>xs[((i:Int)+(m:Int)*1).toNat]?)=fun m=>xs[i+m]?:=by
  funext m
  have:((i:Int)+(m:Int)*1).toNat=i+m:=by lia
  rw [this]
 rw [e];have:=pick_run xs i k;rw [List.filterMap_map] at this;have e2:((fun x=>xs[x]?)∘fun x=>i+x)=fun m=>xs[i+m]?:=rfl;rw [e2] at this;rw [this]
theorem mM {t sl:Addr} {items:Array Value} {vl vu:Value} {lo hi:Option Int} {Q:Value->Shared->Prop} (ht:IsTup s.heap t items) (hs:s.heap.IsSliceOf sl vl vu .none) (pl:IsPart vl lo) (pu:IsPart vu hi)
  (hw:¬(sIx items.size 0 lo=0∧sIx items.size items.size hi=items.size))
  (h:Q (.ref s.heap.objs.size) {s with heap:=s.heap.push {cls:=.type "tuple",data:=.seq ((items.toList.drop (sIx items.size 0 lo)).take (sIx items.size items.size hi-sIx items.size 0 lo)).toArray}})
  (hsz:items.size≤sizeLine):wpAny (model prog w) A (getItem (.ref t) (.ref sl)) Q E s:=by
 have htake:sizeOk (.seq ((items.toList.drop (sIx items.size 0 lo)).take (sIx items.size items.size hi-sIx items.size 0 lo)).toArray):=by
  show ((items.toList.drop (sIx items.size 0 lo)).take (sIx items.size items.size hi-sIx items.size 0 lo)).toArray.size≤sizeLine;rw [List.size_toArray,List.length_take,List.length_drop,Array.length_toList]
  lia
 have hj:sIx items.size items.size hi≤items.size:=Fi _ _ (Nat.le_refl _) hi;obtain ⟨os,hos,hcs,hds⟩:=id hs;have hTs:s.TypeIs (.ref sl) "slice":=⟨os,hos,hcs⟩;unfold getItem
 try with_reducible refine wpAny_holding ?_
 first | refine wpAny_bind (wpAny_pure ?_) | skip
 refine wpAny_bind (wpAny_sequenceKey ht.typeIs (by decide) ?_);refine wpAny_bind (wpAny_callSpecial?_slot (name:=Str.ofString "__getitem__") ht.typeIs PyProof.Rows.slot_tuple_getitem
  (wpAny_call_entry PyProof.Rows.slot_tuple_getitem ht.typeIs entry_tuple_getitem ?_ (args_tuple_getitem _ _)))
 show wpAny _ _ (Builtin.Tuple.tupleItemsOf (.ref t) >>=_) _ _ s;refine wpAny_bind (tupleItemsOf_ ht ?_);refine wpAny_bind (wpAny_typeOf hTs ?_);rw [if_pos (by decide)];refine wpAny_bind (ig hs pl pu ?_);have hno:¬((((sIx items.size 0 lo:Nat):Int)==0&&(1:Int)==1&&(sIx items.size items.size hi-sIx items.size 0 lo)==items.size)=true):=by
  intro q;rw [Bool.and_eq_true,Bool.and_eq_true] at q;have q1:((sIx items.size 0 lo:Nat):Int)=0:=eq_of_beq q.1.1;have q2:sIx items.size items.size hi-sIx items.size 0 lo=items.size:=eq_of_beq q.2;exact hw ⟨by lia,by lia⟩
 show wpAny _ _ (if (((sIx items.size 0 lo:Nat):Int)==0&&(1:Int)==1&&(sIx items.size items.size hi-sIx items.size 0 lo)==items.size)=true then _ else _) _ _ s;rw [if_neg hno,Bj]
 first
  | exact wpAny_bind (m:=Builtin.Tuple.tupleExact _) (wpAny_newObj_type (wpAny_pure ⟨_,rfl,wpAny_pure h⟩) htake)
  | exact wpAny_bind (m:=Builtin.Tuple.tupleExact _) (wpAny_newObj_type (wpAny_bind (wpAny_pure (wpAny_pure ⟨_,rfl,wpAny_pure h⟩))) htake)
  | exact wpAny_bind (wpAny_bind (m:=Builtin.Tuple.tupleExact _) (wpAny_newObj_type (wpAny_pure (wpAny_pure ⟨_,rfl,wpAny_pure h⟩)) htake))
  | exact wpAny_bind (wpAny_bind (m:=Builtin.Tuple.tupleExact _) (wpAny_newObj_type (wpAny_pure ⟨_,rfl,wpAny_pure h⟩) htake))
end HT
namespace L2
open PySem PySem.Spec PyProof.Rows
abbrev TO:=St->Hp->(Option Int->Hp->Prop)->Prop
def PO (X:Cx) (e:Option Expr) (t:TO):Prop:=
 ∀(pins:List (Addr×Obj)) (s:Shared) (σ:St) (H:Hp) (Q:Option Int->Hp->Prop),Inv X pins σ H s->t σ H Q->
  wpAny (model X.prog X.w) X.A (evalPart e X.env) (fun u s'=>∃o H',Inv X pins σ H' s'∧IsPart u o∧Q o H') X.xe s
noncomputable def CN:TO:=fun _ H Q=>Q none H
def HA (t:TE):TO:=fun σ H Q=>t σ H fun x H1=>∃i,x=.int i∧Q (some i) H1
theorem intsAre_of:∀{us:List Value},Vals (ns.map V.int) us->IntsAre us ns:=by
 induction ns with
 | nil=>intro us r;rw [List.map_nil] at r;cases r;exact .nil
 | cons n ns ih=>
  intro us r;rw [List.map_cons] at r;cases r with
  | cons r1 r2=>
   obtain ⟨t,e⟩:=r1;subst e;exact .cons n t (ih r2)
section
variable {X:Cx} {e:Expr} {te:TE} {lo hi:Option Expr} {tl th:TO} {pos p2:Pos}
theorem Dy:PO X none CN:=by
 intro pins s σ H Q I h;rw [evalPart_none];exact wpAny_pure ⟨none,H,I,.none,h⟩
theorem Dx (h:PE X e te):PO X (some e) (HA te):=by
 intro pins s σ H Q I hw;rw [evalPart_some];refine thn (h pins s σ H _ I hw) fun u s1 ⟨x,H1,I1,r1,q1⟩=>?_;obtain ⟨i,rfl,q⟩:=q1;obtain ⟨t,rfl⟩:=r1;exact ⟨some i,H1,I1,.int i t,q⟩
def SlR (X:Cx) (r:V->Option Int->Option Int->Hp->VK->Prop):Prop:=
 ∀(pins:List (Addr×Obj)) (s:Shared) (σ:St) (H:Hp) (x:V) (v vl vu:Value) (lo hi:Option Int) (sl:Addr) (Q:VK),Inv X pins σ H s->RelV x v->s.heap.IsSliceOf sl vl vu .none->IsPart vl lo->IsPart vu hi->r x lo hi H Q->
  ∃T id,typeLookup (.type T) "__getitem__"=pure (some (.builtin id))∧s.TypeIs v T∧wpAny (model X.prog X.w) X.A (getItem v (.ref sl)) (EP X pins σ Q) X.xe s
def tSl (r:V->Option Int->Option Int->Hp->VK->Prop) (te:TE) (tl th:TO):TE:=fun σ H Q=>te σ H fun x H1=>tl σ H1 fun l H2=>th σ H2 fun u H3=>r x l u H3 Q
theorem Bl (hr:SlR X r) (he:PE X e te) (hl:PO X lo tl) (hu:PO X hi th):PE X (.Subscript e (.Slice lo hi none p2) pos) (tSl r te tl th):=by
 intro pins s σ H Q I h;refine Subscript_ (thn (he pins s σ H _ I h) fun v s1 ⟨x,H1,I1,r1,q1⟩=>?_);refine wpAny_Slice (thn (hl pins s1 σ H1 _ I1 q1) fun vl s2 ⟨l,H2,I2,pl,q2⟩=>thn (hu pins s2 σ H2 _ I2 q2) fun vu s3 ⟨u,H3,I3,pu,q3⟩=>?_);rw [evalPart_none];refine wpAny_pure ?_;have I4:Inv X pins σ H3 {s3 with heap:=s3.heap.push {cls:=.type "slice",data:=.fields #[vl,vu,.none]}}:=I3.kept (t':=s3.toks) fun b ob q=>Heap.get?_push_of_some _ q;obtain ⟨T,id,hT,ht,hg⟩:=hr pins {s3 with heap:=s3.heap.push {cls:=.type "slice",data:=.fields #[vl,vu,.none]}} σ H3 x v vl vu l u s3.heap.objs.size Q I4 r1 (Heap.IsSliceOf.new ..) pl pu q3;show wpAny (model X.prog X.w) X.A (subscriptTail e (.Slice lo hi none p2) v (.ref s3.heap.objs.size)) (EP X pins σ Q) X.xe {s3 with heap:=s3.heap.push {cls:=.type "slice",data:=.fields #[vl,vu,.none]}};exact tail_any (ops:=[.ref s3.heap.objs.size,v]) ht hT hg (by with_unfolding_all rfl)
noncomputable def qK (xs:List V) (lo hi:Option Int):List V:=(xs.drop (HT.sIx xs.length 0 lo)).take (HT.sIx xs.length xs.length hi-HT.sIx xs.length 0 lo)
theorem oK (xs:List V) (lo hi:Option Int):(qK xs lo hi).length≤xs.length:=by
 unfold qK;rw [List.length_take,List.length_drop]
 lia
def Js (K:FR):V->Option Int->Option Int->Hp->VK->Prop:=fun x lo hi H Q=>∃a xs,x=.ref a∧SqT K H a xs∧
 ¬(HT.sIx xs.length 0 lo=0∧HT.sIx xs.length xs.length hi=xs.length)∧∀p,H p=none->Q (.ref p) (upd H p (.tup (qK xs lo hi)))
theorem Fb:SlR X (Js X.K):=by
 intro pins s σ H x v vl vu lo hi sl Q I rx hs pl pu h;obtain ⟨a,xs,rfl,hx,hw,q⟩:=h;cases rx;obtain ⟨its,r,ht,hz⟩:=I.tuple hx;have hlen:its.toArray.size=xs.length:=by rw [List.size_toArray];exact r.length.symm
 refine ⟨"tuple",_,PyProof.Rows.slot_tuple_getitem.lookup,ht.typeIs,?_⟩;refine HT.mM ht hs pl pu (by rw [hlen];exact hw) ?_ (by rw [hlen];exact hz);rw [hlen];refine ⟨.ref s.heap.objs.size,_,I.laid (t':=s.toks) (o:=.tup (qK xs lo hi)) (fun b ob q=>Heap.get?_push_of_some _ q) (Nat.le_refl _) ?_,rfl,q _ (I.hok.fresh (Nat.le_refl _))⟩;exact ⟨Nat.le_trans (oK xs lo hi) hz,_,(r.drop (HT.sIx xs.length 0 lo)).take (HT.sIx xs.length xs.length hi-HT.sIx xs.length 0 lo),se.new _ _⟩
def Ie (K:FR):R2:=fun x y H Q=>∃a b xs ys,x=.ref a∧y=.ref b∧SqT K H a xs∧SqT K H b ys∧xs≠[]∧xs.length+ys.length≤sizeLine∧
 (ys=[]->Q (.ref a) H)∧(ys≠[]->∀p,H p=none->Q (.ref p) (upd H p (.tup (xs++ys))))
theorem Vals.pI (r:Vals xs us):us=[]↔xs=[]:=by
 cases r with
 | nil=>simp
 | cons _ _=>simp
theorem DM:OpR X (binaryOp .Add) (Ie X.K):=by
 intro pins s σ H x y v u Q I rx ry h;obtain ⟨a,b,xs,ys,rfl,rfl,ha,hb,hx,hz,q1,q2⟩:=h;cases rx;cases ry;obtain ⟨its,r1,p1,_⟩:=I.tuple ha;obtain ⟨its2,r2,p2,_⟩:=I.tuple hb;refine HT.Eo p1 p2 (fun z=>hx (r1.pI.mp z)) (fun z=>⟨.ref a,H,I,rfl,q1 (r2.pI.mp z)⟩) (fun z=>?_) (by rw [←r1.length,←r2.length];exact hz);refine ⟨.ref s.heap.objs.size,_,I.laid (t':=s.toks) (o:=.tup (xs++ys)) (fun b ob q=>Heap.get?_push_of_some _ q) (Nat.le_refl _) ?_,rfl,q2 (fun w=>z (r2.pI.mpr w)) _ (I.hok.fresh (Nat.le_refl _))⟩;exact ⟨by rw [List.length_append];exact hz,_,r1.append r2,se.new _ _⟩
end
noncomputable def ixN (n:Nat) (i:Int):Option Nat:=if 0≤i then (if i < n then some i.toNat else none) else if -(n:Int)≤i then some (i+n).toNat else none
noncomputable def atI {α:Type} (xs:List α) (i:Int):Option α:=(ixN xs.length i).bind fun j=>xs[j]?
theorem yA (h:ixN n i=some j):seqIndex? i n=some j∧j < n∧-(n:Int)≤i∧i < n:=by
 unfold ixN at h
 by_cases h0:0≤i
 ·rw [if_pos h0] at h
  by_cases h1:i < n
  ·rw [if_pos h1] at h;have e:i.toNat=j:=Option.some.inj h;exact ⟨by rw [seqIndex_of h0 h1,e],by lia,by lia,h1⟩
  ·rw [if_neg h1] at h;cases h
 ·rw [if_neg h0] at h
  by_cases h1:-(n:Int)≤i
  ·rw [if_pos h1] at h;have e:(i+n).toNat=j:=Option.some.inj h;exact ⟨by rw [seqIndex_neg (by lia) h1,e],by lia,h1,by lia⟩
  ·rw [if_neg h1] at h;cases h
theorem pM (h:atI xs i=some v):∃j,seqIndex? i xs.length=some j∧xs[j]?=some v∧j < xs.length∧-(xs.length:Int)≤i∧i < xs.length:=by
 unfold atI at h;cases e:ixN xs.length i with
 | none=>rw [e] at h;cases h
 | some j=>
  rw [e] at h;obtain ⟨h1,h2,h3,h4⟩:=yA e;exact ⟨j,h1,h,h2,h3,h4⟩
theorem uW {α:Type} {xs:List α} {j:Nat} {v:α} (h:xs[j]?=some v):atI xs (j:Int)=some v:=by
 have hj:j < xs.length:=(List.getElem?_eq_some_iff.mp h).1;have e:ixN xs.length (j:Int)=some j:=by
  unfold ixN;rw [if_pos (by lia),if_pos (by lia)];simp
 unfold atI;rw [e];exact h
theorem Cv (xs:List α) (v:α):atI (xs++[v]) (-1)=some v:=by
 have hl:(xs++[v]).length=xs.length+1:=by simp
 have e:ixN (xs++[v]).length (-1)=some xs.length:=by
  unfold ixN;rw [hl,if_neg (by decide),if_pos (by lia)];congr 1
  lia
 unfold atI;rw [e];show (xs++[v])[xs.length]?=some v;simp
def ni (b:Expr):Prop:=∀o i,subscripted b false o i=operate [o,i] (getItem o i)
def IxR (X:Cx) (r:R2):Prop:=
 ∀(value slice:Expr) (pins:List (Addr×Obj)) (s:Shared) (σ:St) (H:Hp) (x y:V) (v u:Value) (Q:VK),Inv X pins σ H s->RelV x v->RelV y u->r x y H Q->
  subscripted slice false v u=operate [v,u] (getItem v u)->wpAny (model X.prog X.w) X.A (subscriptTail value slice v u) (EP X pins σ Q) X.xe s
def MtR (X:Cx) (id:String) (r:V->List V->Hp->VK->Prop):Prop:=
 ∀(pins:List (Addr×Obj)) (s:Shared) (σ:St) (H:Hp) (x:V) (xs:List V) (v:Value) (us:List Value) (Q:VK),Inv X pins σ H s->RelV x v->Vals xs us->r x xs H Q->
  wpAny (model X.prog X.w) X.A (call (.builtin id) (v::us)) (EP X pins σ Q) X.xe s
section
variable {X:Cx} {a b:Expr} {ta tb:TE} {pos:Pos}
theorem Ik (hr:IxR X r) (ha:PE X a ta) (hb:PE X b tb) (hs:ni b):PE X (.Subscript a b pos) (tOp r ta tb):=by
 intro pins s σ H Q I h;exact Subscript_ (Ha ha hb I h fun v u s2 x y H2 I2 rx ry q=>hr a b pins s2 σ H2 x y v u Q I2 rx ry q (hs _ _))
def JA (K:FR):R2:=fun x y H Q=>∃p xs i v,x=.ref p∧y=.int i∧SqL K H p xs∧atI xs i=some v∧Q v H
def Jy (K:FR):R2:=fun x y H Q=>∃p xs i v,x=.ref p∧y=.int i∧SqT K H p xs∧atI xs i=some v∧Q v H
def Jz:R2:=fun x y H Q=>∃z i c,x=.str z∧y=.int i∧z.length≤sizeLine∧atI z.cps.toList i=some c∧Q (.str ⟨#[c]⟩) H
theorem D0:IxR X (JA X.K):=by
 intro value slice pins s σ H x y v u Q I rx ry h hs;obtain ⟨p,xs,i,z,rfl,rfl,hq,he,q⟩:=h;cases rx;obtain ⟨t,rfl⟩:=ry;obtain ⟨its,r,pl,hz⟩:=I.list hq;obtain ⟨j,h1,h2,h3,h4,h5⟩:=pM he;obtain ⟨w,ew,rw'⟩:=r.get h2;have hl:=r.length;have hn:=lK;have fin:EP X pins σ Q w s:=⟨z,H,I,rw',q⟩
 by_cases h0:0≤i
 ·have hj:i.toNat=j:=by
   rw [seqIndex_of h0 h5] at h1;exact Option.some.inj h1
  exact item_listR pl.isList h0 (by lia) (by rw [hj];simpa using ew) fin hs
 ·have hj:(i+(its.toArray.size:Int)).toNat=j:=by
   rw [seqIndex_neg (by lia) h4] at h1;rw [List.size_toArray,←hl];exact Option.some.inj h1
  exact subscriptTail_builtinR (x:=w) pl.isList.typeIs slot_list_getitem.lookup
   (wpAny_getItem_list_neg (Q:=fun r s'=>r=w∧EP X pins σ Q r s') pl.isList (by lia) (by rw [List.size_toArray] <;> lia) (by lia) (by rw [hj];simpa using ew) ⟨rfl,fin⟩) hs
theorem GI:IxR X (Jy X.K):=by
 intro value slice pins s σ H x y v u Q I rx ry h hs;obtain ⟨p,xs,i,z,rfl,rfl,hq,he,q⟩:=h;cases rx;obtain ⟨t,rfl⟩:=ry;obtain ⟨its,r,pl,hz⟩:=I.tuple hq;obtain ⟨j,h1,h2,h3,h4,h5⟩:=pM he;obtain ⟨w,ew,rw'⟩:=r.get h2;have hl:=r.length;have hn:=lK;have fin:EP X pins σ Q w s:=⟨z,H,I,rw',q⟩;exact subscriptTail_builtinR (x:=w) pl.typeIs slot_tuple_getitem.lookup
  (getItem_tuple (j:=j) (Q:=fun r s'=>r=w∧EP X pins σ Q r s') pl (by lia) (by lia) (by rw [List.size_toArray,←hl];exact h1) (by simpa using ew) ⟨rfl,fin⟩) hs
theorem GJ:IxR X Jz:=by
 intro value slice pins s σ H x y v u Q I rx ry h hs;obtain ⟨z,i,c,rfl,rfl,hz,he,q⟩:=h;obtain ⟨t,rfl⟩:=rx;obtain ⟨t',rfl⟩:=ry;obtain ⟨j,h1,h2,h3,h4,h5⟩:=pM he;have hl:z.cps.toList.length=z.length:=by simp [Str.length]
 rw [hl] at h1 h4 h5;have hn:=lK;exact tail_any (typeIs_str s z t) slot_str_getitem.lookup (getItem_str (c:=c) (by
  have e1:decide (i < -(2^63:Int))=false:=decide_eq_false (by lia);have e2:decide (i≥2^63)=false:=decide_eq_false (by lia);rw [e1,e2,Bool.or_false]) (by rw [h1];simpa using h2) ⟨.str ⟨#[c]⟩,H,I.tok _,⟨_,rfl⟩,q⟩) hs
theorem xD (its:List Value) (n j:Nat) (u:Value):Obj.mapSeq (·.setIfInBounds j u) {cls:=.type "list",data:=.seq its.toArray n}={cls:=.type "list",data:=.seq (its.set j u).toArray n}:=by
 simp [Obj.mapSeq]
theorem Inv.lst (I:Inv X pins σ H s) (h:H p=some (.lst xs)):
  ∃(its:List Value) (n:Nat),Vals xs its∧s.heap.get? p=some {cls:=.type "list",data:=.seq its.toArray n}∧xs.length≤sizeLine:=by
 obtain ⟨z,its,n,r,e⟩:=I.hok p _ h;exact ⟨its,n,r,e,z⟩
theorem Inv.Gv {pins:List (Addr×Obj)} {σ:St} {H:Hp} {s:Shared} {p:Addr} {xs ys:List V} {its its':List Value} {n n':Nat} {f:Obj->Obj} (I:Inv X pins σ H s) (h:H p=some (.lst xs))
  (ho:s.heap.get? p=some {cls:=.type "list",data:=.seq its.toArray n}) (hf:f {cls:=.type "list",data:=.seq its.toArray n}={cls:=.type "list",data:=.seq its'.toArray n'}) (r:Vals ys its') (hz:ys.length≤sizeLine) (t:Nat):
  Inv X pins σ (upd H p (.lst ys)) {s with heap:=s.heap.update p f,toks:=t}:=by
 have e:(s.heap.update p f).get? p=some {cls:=.type "list",data:=.seq its'.toArray n'}:=by
  rw [Heap.get?_update_self f ho (by rw [hf] <;> rfl),hf]
 refine I.write (x:=p) (e:=p) (by rw [h];trivial) (.inl rfl) (fun b u hb q=>(Heap.get?_update_other _ _ (Ne.symm hb)).trans q) ⟨_,e⟩ ?_;exact ⟨hz,its',n',r,e⟩
def Ic:V->V->V->Hp->(Hp->Prop)->Prop:=fun o i v H Q=>∃p xs k j,o=.ref p∧i=.int k∧H p=some (.lst xs)∧ixN xs.length k=some j∧Q (upd H p (.lst (xs.set j v)))
theorem set_list:Hj X Ic:=by
 intro pins s σ H o i v ov iv u Q I ro ri rv h;obtain ⟨p,xs,k,j,rfl,rfl,hp,hj,q⟩:=h;cases ro;obtain ⟨t,rfl⟩:=ri;obtain ⟨its,n,r,ho,hz⟩:=I.lst hp;obtain ⟨h1,h2,h3,h4⟩:=yA hj;have hl:=r.length;have hn:=lK;have I':Inv X pins σ (upd H p (.lst (xs.set j v))) {s with heap:=s.heap.update p (Obj.mapSeq (·.setIfInBounds j u))}:=
  I.Gv hp ho (xD its n j u) (r.set rv j) (by rw [List.length_set];exact hz) s.toks
 by_cases h0:0≤k
 ·have hk:k.toNat=j:=by
   rw [seqIndex_of h0 h4] at h1;exact Option.some.inj h1
  exact PySem.W.ki_setAt ho h0 (by lia) (by rw [List.size_toArray,←hl];exact h4) (by rw [hk];exact ⟨_,I',q⟩)
 ·have hk:(k+(its.toArray.size:Int)).toNat=j:=by
   rw [seqIndex_neg (by lia) h3] at h1;rw [List.size_toArray,←hl];exact Option.some.inj h1
  exact PySem.W.ki_setBack ho (by lia) (by rw [List.size_toArray,←hl];exact h3) (by lia) (by rw [hk];exact ⟨_,I',q⟩)
theorem tL (lo hi:Option Int) (n:Nat):(sliceBounds lo hi none n).1=((HT.sIx n 0 lo:Nat):Int)∧(sliceBounds lo hi none n).2.1=((HT.sIx n n hi:Nat):Int)∧(sliceBounds lo hi none n).2.2=1:=by
 refine ⟨?_,?_,rfl⟩
 ·cases lo with
  | none=>simp [sliceBounds,HT.sIx]
  | some i=>
   simp only [sliceBounds,HT.sIx,Option.getD_none,show (1:Int) > 0 by decide,if_true]
   by_cases h:i < 0
   ·simp only [h,if_true] <;> lia
   ·simp only [h,if_false] <;> lia
 ·cases hi with
  | none=>simp [sliceBounds,HT.sIx]
  | some i=>
   simp only [sliceBounds,HT.sIx,Option.getD_none,show (1:Int) > 0 by decide,if_true]
   by_cases h:i < 0
   ·simp only [h,if_true] <;> lia
   ·simp only [h,if_false] <;> lia
theorem rj (its:List Value) (lo hi:Option Int):slicePick its.toArray lo hi none=((its.drop (HT.sIx its.length 0 lo)).take (HT.sIx its.length its.length hi-HT.sIx its.length 0 lo)).toArray:=by
 obtain ⟨h1,h2,h3⟩:=tL lo hi its.toArray.size;unfold slicePick;rw [h1,h2,h3];simp only [sliceRange_one,pick_run,List.size_toArray] <;> rfl
def Ju (K:FR):V->Option Int->Option Int->Hp->VK->Prop:=fun x lo hi H Q=>∃a xs,x=.ref a∧SqL K H a xs∧∀p,H p=none->Q (.ref p) (upd H p (.lst (qK xs lo hi)))
theorem CS:SlR X (Ju X.K):=by
 intro pins s σ H x v vl vu lo hi sl Q I rx hs pl pu h;obtain ⟨a,xs,rfl,hx,q⟩:=h;cases rx;obtain ⟨its,r,ht,hz⟩:=I.list hx;have hlen:=r.length;refine ⟨"list",_,slot_list_getitem.lookup,ht.isList.typeIs,?_⟩;refine wpAny_getItem_list_slice ht.isList hs pl pu .none (by simp) ?_ (by rw [List.size_toArray] <;> lia);rw [rj,←hlen];refine ⟨.ref s.heap.objs.size,_,I.laid (t':=s.toks) (o:=.lst (qK xs lo hi)) (fun b ob q=>Heap.get?_push_of_some _ q) (Nat.le_refl _) ?_,rfl,q _ (I.hok.fresh (Nat.le_refl _))⟩;exact ⟨Nat.le_trans (oK xs lo hi) hz,_,0,(r.drop (HT.sIx xs.length 0 lo)).take (HT.sIx xs.length xs.length hi-HT.sIx xs.length 0 lo),Heap.get?_push_size _ rfl⟩
theorem uQ:dG X (.builtin "len") (fun xs H Q=>∃p ys,xs=[.ref p]∧(SqL X.K H p ys∨SqT X.K H p ys)∧Q (.int ys.length) H):=by
 intro pins s σ H xs us Q I r h;obtain ⟨p,ys,rfl,hq,q⟩:=h;obtain ⟨u,rfl,rx⟩:=vals1 r;cases rx;have hn:=lK;rcases hq with hq | hq
 ·obtain ⟨its,r',pl,hz⟩:=I.list hq;have hlen:=r'.length;exact Calls.call_len_list pl.isList (by simp only [List.size_toArray] <;> lia) ⟨.int ys.length,H,I.tok _,⟨s.toks+1,by rw [List.size_toArray,hlen]⟩,q⟩
 ·obtain ⟨its,r',pl,hz⟩:=I.tuple hq;have hlen:=r'.length;exact len_tuple pl (by simp only [List.size_toArray] <;> lia) ⟨.int ys.length,H,I.tok _,⟨s.toks+1,by rw [List.size_toArray,hlen]⟩,q⟩
theorem uP:dG X (.builtin "len") (fun xs H Q=>∃z,xs=[.str z]∧z.length≤sizeLine∧Q (.int z.length) H):=by
 intro pins s σ H xs us Q I r h;obtain ⟨z,rfl,hz,q⟩:=h;obtain ⟨u,rfl,t,rfl⟩:=vals1 r;have hn:=lK;exact len_str (by lia) ⟨.int z.length,H,I.tok _,⟨_,rfl⟩,q⟩
theorem uO:dG X (.type "list") (fun xs H Q=>∃p ys,xs=[.ref p]∧(SqL X.K H p ys∨SqT X.K H p ys)∧∀l,H l=none->Q (.ref l) (upd H l (.lst ys))):=by
 intro pins s σ H xs us Q I r h;obtain ⟨p,ys,rfl,hq,q⟩:=h;obtain ⟨u,rfl,rx⟩:=vals1 r;cases rx;have fin:∀(its:List Value),Vals ys its->ys.length≤sizeLine->∀(h':Heap) (c':Nat),(∀b o',s.heap.get? b=some o'->h'.get? b=some o')->
   h'.get? s.heap.objs.size=some {cls:=.type "list",dict:=none,data:=.seq its.toArray c',slots:=#[]}->EP X pins σ Q (.ref s.heap.objs.size) {s with heap:=h'}:=fun its r' hz h' c' kp e=>
  ⟨.ref s.heap.objs.size,_,I.laid (t':=s.toks) kp (Nat.le_refl _) (show cF X.prog X.w _ h' _ (.lst ys) from ⟨hz,its,c',r',e⟩),rfl,q _ (I.hok.fresh (Nat.le_refl _))⟩
 rcases hq with hq | hq
 ·obtain ⟨its,r',pl,hz⟩:=I.list hq;have hlen:=r'.length;obtain ⟨o,ho,hc,n,hd⟩:=pl.isList;exact call_list_seq p (.inl rfl) ho hc hd (fun h' c' kp e=>fin its r' hz h' c' kp e) (by simp only [List.size_toArray] <;> lia)
 ·obtain ⟨its,r',pl,hz⟩:=I.tuple hq;have hlen:=r'.length;obtain ⟨o,ho,hc,n,hd⟩:=pl;exact call_list_seq p (.inr rfl) ho hc hd (fun h' c' kp e=>fin its r' hz h' c' kp e) (by simp only [List.size_toArray] <;> lia)
theorem r8:dG X (.type "tuple") (fun xs H Q=>∃p ys,xs=[.ref p]∧((SqL X.K H p ys∧∀l,H l=none->Q (.ref l) (upd H l (.tup ys)))∨(SqT X.K H p ys∧Q (.ref p) H))):=by
 intro pins s σ H xs us Q I r h;obtain ⟨p,ys,rfl,h⟩:=h;obtain ⟨u,rfl,rx⟩:=vals1 r;cases rx;rcases h with ⟨hq,q⟩ | ⟨hq,q⟩
 ·obtain ⟨its,r',pl,hz⟩:=I.list hq;have hlen:=r'.length;refine call_tuple_list pl.isList (fun h' kp=>?_) (by simp only [List.size_toArray] <;> lia);have I1:Inv X pins σ H {s with heap:=h'}:=I.kept (t':=s.toks) kp;have I2:Inv X pins σ (upd H h'.objs.size (.tup ys)) {s with heap:=h'.push {cls:=.type "tuple",data:=.seq its.toArray}}:=
   I1.laid (t':=s.toks) (fun b o e=>Heap.get?_push_of_some _ e) (Nat.le_refl _) (show cF X.prog X.w _ _ _ (.tup ys) from ⟨hz,its,r',se.new _ _⟩)
  exact ⟨.ref h'.objs.size,_,I2,rfl,q _ (I1.hok.fresh (Nat.le_refl _))⟩
 ·obtain ⟨its,r',pl,hz⟩:=I.tuple hq;exact call_tuple_same pl ⟨.ref p,H,I,rfl,q⟩
def tyV (K:FR) (T:String) (x:V) (H:Hp):Prop:=match x with
 | .str _=>T="str"
 | .int _=>T="int"
 | .ref p=>(T="list"∧∃xs,SqL K H p xs)∨(T="tuple"∧∃o,K.lookup p=some o∧o.cls=.type "tuple"∧o.dict=none)∨
   (T="dict"∧((∃kvs,H p=some (.dK kvs))∨∃kvs,H p=some (.dT kvs)))∨(T="set"∧∃S n,H p=some (.set S n))
 | _=>False
theorem EY (I:Inv X pins σ H s) (r:RelV x v) (ty:tyV X.K T x H):
  s.TypeIs v T∧∀a,v=.ref a->∃ob,s.heap.get? a=some ob∧ob.dict=none:=by
 cases x with
 | str z=>
  obtain ⟨t,rfl⟩:=r;cases (show T="str" from ty);exact ⟨typeIs_str s z t,fun _ e=>nomatch e⟩
 | int i=>
  obtain ⟨t,rfl⟩:=r;cases (show T="int" from ty);exact ⟨typeIs_int s i t,fun _ e=>nomatch e⟩
 | ref p=>
  cases r;rcases ty with ⟨rfl,xs,hq⟩ | ⟨rfl,o,hk,hc,hd⟩ | ⟨rfl,hk⟩ | ⟨rfl,S,n,hk⟩
  ·obtain ⟨its,_,pl,_⟩:=I.list hq;refine ⟨pl.isList.typeIs,fun a e=>?_⟩;cases e;obtain ⟨o,n,e,c,hd,_⟩:=pl;exact ⟨o,e,hd⟩
  ·refine ⟨⟨o,I.kIn p o hk,hc⟩,fun a e=>?_⟩;cases e;exact ⟨o,I.kIn _ o hk,hd⟩
  ·have z:∃o,s.heap.get? p=some o∧o.ExactDict:=by
    rcases hk with ⟨kvs,hk⟩ | ⟨kvs,hk⟩
    ·obtain ⟨_,_,_,_,o,_,_,e,ex,_⟩:=I.hok p _ hk;exact ⟨o,e,ex⟩
    ·obtain ⟨_,_,_,_,o,_,_,e,ex,_⟩:=I.hok p _ hk;exact ⟨o,e,ex⟩
   obtain ⟨o,e,ex⟩:=z;refine ⟨⟨o,e,ex.1⟩,fun a e2=>?_⟩;cases e2;exact ⟨o,e,ex.2.1⟩
  ·obtain ⟨o,_,_,_,e,ex,_⟩:=I.hok p _ hk;refine ⟨⟨o,e,ex.1⟩,fun a e2=>?_⟩;cases e2;exact ⟨o,e,ex.2.1⟩
 | _=>exact False.elim ty
def tBM (K:FR) (T:String) (r:V->List V->Hp->VK->Prop) (to:TE) (t:TA):TE:=fun σ H Q=>to σ H fun x H1=>tyV K T x H1∧t σ H1 fun xs H2=>r x xs H2 Q
variable {o e:Expr} {es:List Expr} {to:TE} {t:TA} {name:Str} {apos cpos:Pos} {T id:String} {r:V->List V->Hp->VK->Prop}
theorem Il (pa:PlainAttrs T) (slot:Slot T name id) (hty:typeOf (.builtin id)=pure (.type "method_descriptor")) (hm:MtR X id r) (ho:PE X o to) (ha:PA X (e::es) t)
  (hbase:attributeBase o name X.env (eval o X.env)=eval o X.env:=by rfl)
  (hfew:((backTo cpos (starEach (e::es) X.env)).all (fun x=>!x.1)&&(backToKw cpos (keywordEach [] X.env)).all (fun x=>x.1.isSome)
   &&decide ((e::es).length+([]:List Keyword).length+(if ([]:List Keyword).isEmpty then 0 else 1) < 30))=true:=by rfl)
  (hline:(apos.endLine==cpos.line)=true:=by rfl) (hs:starEach (e::es) X.env=(false,eval e X.env)::starEach es X.env:=by rfl) (hplain:(backTo cpos (starEach es X.env)).any (·.1)=false:=by rfl):
  PE X (.Call (.Attribute o name apos) (e::es) [] cpos) (tBM X.K T r to t):=by
 intro pins s σ H Q I h;refine wpAny_Call_method_late hbase hfew hline rfl (thn (ho pins s σ H _ I h) fun v s1 ⟨x,H1,I1,r1,ty,q1⟩=>?_);obtain ⟨h1,h2⟩:=EY I1 r1 ty;refine ⟨T,id,pa,slot,hty,h1,h2,?_⟩;have hA:=ha cpos pins s1 σ H1 _ I1 q1;rw [hs] at hA ⊢;refine Calls.callWith_builtin (by show (false||(backTo cpos (starEach es X.env)).any (·.1))=false;rw [hplain] <;> rfl) (Calls.evalArgs_plain ?_);exact thn hA fun us s2 ⟨vs,H2,I2,r2,q2⟩=>hm pins s2 σ H2 x vs v us Q I2 r1 r2 q2
end
def MtM (X:Cx) (id:String) (r:V->List V->Hp->VK->Prop):Prop:=
 ∀(pins:List (Addr×Obj)) (s:Shared) (σ:St) (H:Hp) (x:V) (xs:List V) (v:Value) (us:List Value) (Q:VK),Inv X pins σ H s->RelV x v->Vals xs us->r x xs H Q->
  wpAny (model X.prog X.w) X.A (call (.builtin id) (v::us)) (EP X pins σ Q) X.xe s
theorem Vals.one:∀{x:V} {us:List Value},Vals [x] us->∃u,us=[u]∧RelV x u
 | _,_,.cons r .nil=>⟨_,rfl,r⟩
theorem Vals.two:∀{x y:V} {us:List Value},Vals [x,y] us->∃u v,us=[u,v]∧RelV x u∧RelV y v
 | _,_,_,.cons r (.cons q .nil)=>⟨_,_,rfl,r,q⟩
theorem Vals.rep (h:Vals xs us):∀k:Nat,Vals (List.replicate k xs).flatten (List.replicate k us).flatten
 | 0=>.nil
 | k+1=>by
  rw [List.replicate_succ,List.replicate_succ,List.flatten_cons,List.flatten_cons];exact Vals.append h (Vals.rep h k)
theorem foldl_rep (its:List Value):∀(k:Nat) (acc:List Value),
  List.foldl (fun x1 x2=>x1++x2) acc.toArray (List.replicate k its.toArray)=(acc++(List.replicate k its).flatten).toArray
 | 0,acc=>by simp
 | k+1,acc=>by
  have e:acc.toArray++its.toArray=(acc++its).toArray:=by simp
  have e2:(acc++its)++(List.replicate k its).flatten=acc++(List.replicate (k+1) its).flatten:=by
   rw [List.replicate_succ,List.flatten_cons,List.append_assoc]
  rw [←e2,←foldl_rep its k (acc++its),←e,List.replicate_succ,List.foldl_cons]
theorem Inv.JH {its its':List Value} {n:Nat} {f:Array Value->Array Value} {t':Nat} (I:Inv X pins σ H s) (hH:H l=some (.lst xs))
  (e:s.heap.get? l=some {cls:=.type "list",data:=.seq its.toArray n}) (hf:f its.toArray=its'.toArray) (hv:Vals ys its') (hz:ys.length≤sizeLine):
  Inv X pins σ (upd H l (.lst ys)) {s with heap:=s.heap.update l (Obj.mapSeq f),toks:=t'}:=by
 have q:=PySem.IsL.update e f;rw [hf] at q;refine I.write (x:=l) (e:=l) (by rw [hH];exact trivial) (.inl rfl) (fun b' u hb hu=>(Heap.get?_update_other s.heap (Obj.mapSeq f) (Ne.symm hb)).trans hu) ⟨_,q⟩ ?_;exact ⟨hz,its',_,hv,q⟩
theorem Inv.Gx (I:Inv X pins σ H s) (hv:Vals ys its) (hz:ys.length≤sizeLine):
  Inv X pins σ (upd H s.heap.objs.size (.lst ys)) {s with heap:=s.heap.push {cls:=.type "list",data:=.seq its.toArray},toks:=t'}:=
 I.laid (fun _ _ q=>Heap.get?_push_of_some _ q) (Nat.le_refl _) ⟨hz,its,0,hv,Heap.get?_push_size _ rfl⟩
theorem Inv.fresh (I:Inv X pins σ H s):H s.heap.objs.size=none:=I.hok.fresh (Nat.le_refl _)
theorem Inv.DQ (I:Inv X pins σ H s) (hH:H l=some (.lst xs)):xs.length≤sizeLine∧∃(its:List Value) (n:Nat),Vals xs its∧xs.length=its.length∧s.heap.get? l=some {cls:=.type "list",data:=.seq its.toArray n}:=by
 obtain ⟨z,its,n,r,e⟩:=I.hok l _ hH;exact ⟨z,its,n,r,r.length,e⟩
theorem Bx (h:n≤sizeLine):Builtin.List.listTooLong n=false:=by
 unfold Builtin.List.listTooLong;exact decide_eq_false (by lia)
def Dl:V->List V->Hp->VK->Prop:=fun x vs H Q=>∃l xs y,x=.ref l∧vs=[y]∧H l=some (.lst xs)∧xs.length < sizeLine∧Q .non (upd H l (.lst (xs++[y])))
theorem sG:MtM X "list.append" Dl:=by
 intro pins s σ H x vs v us Q I rx rv h;obtain ⟨l,xs,y,rfl,rfl,hH,hz,q⟩:=h;cases rx;obtain ⟨u,rfl,ru⟩:=rv.one;obtain ⟨z,its,n,r,hl,e⟩:=I.DQ hH;refine call_meets F.slot_list_append ⟨_,e,rfl⟩ F.entry_list_append (F.args_list_append_2 _ _) (PySem.list_append l its.toArray n u (by rw [List.size_toArray];lia)) ⟨e,?_⟩;refine ⟨.non,_,I.JH (its':=its++[u]) hH e (by simp) (r.append (.cons ru .nil)) ?_,rfl,q⟩;rw [List.length_append,List.length_singleton]
 lia
def JB:R2:=fun x y H Q=>∃l b xs zs,x=.ref l∧y=.ref b∧H l=some (.lst xs)∧H b=some (.lst zs)∧xs.length+zs.length≤sizeLine∧∀p,H p=none->Q (.ref p) (upd H p (.lst (xs++zs)))
theorem Bw:OpR X (binaryOp .Add) JB:=by
 intro pins s σ H x y v u Q I rx ry h;obtain ⟨l,b,xs,zs,rfl,rfl,hH,hB,hz,q⟩:=h;cases rx;cases ry;obtain ⟨z,its,n,r,hl,e⟩:=I.DQ hH;obtain ⟨z2,its2,n2,r2,hl2,e2⟩:=I.DQ hB;refine PySem.P.add_list e e2 ?_ (by rw [List.size_toArray,List.size_toArray];lia);have ea:its.toArray++its2.toArray=(its++its2).toArray:=by simp
 rw [ea];exact ⟨.ref _,_,I.Gx (t':=s.toks) (r.append r2) (by rw [List.length_append];lia),rfl,q _ I.fresh⟩
def Jx:R2:=fun x y H Q=>∃l k xs,x=.ref l∧y=.int k∧H l=some (.lst xs)∧-(2^63)≤k∧k < 2^63∧xs.length*k.toNat≤sizeLine∧
 ∀p,H p=none->Q (.ref p) (upd H p (.lst (List.replicate k.toNat xs).flatten))
theorem len_rep (xs:List α) (k:Nat):(List.replicate k xs).flatten.length=k*xs.length:=by
 induction k with
 | zero=>simp
 | succ k ih=>rw [List.replicate_succ,List.flatten_cons,List.length_append,ih,Nat.succ_mul,Nat.add_comm]
theorem Ge:OpR X (binaryOp .Mult) Jx:=by
 intro pins s σ H x y v u Q I rx ry h;obtain ⟨l,k,xs,rfl,rfl,hH,h1,h2,hz,q⟩:=h;cases rx;obtain ⟨t,rfl⟩:=ry;obtain ⟨z,its,n,r,hl,e⟩:=I.DQ hH;have hlen:its.toArray.size*k.toNat≤sizeLine:=by rw [List.size_toArray,←hl];exact hz
 have hcap:¬its.toArray.size*k.toNat > (2^63-1) / 8:=by
  have:(sizeLine:Nat)≤(2^63-1) / 8:=by decide
  lia
 have hfit:¬(!Builtin.List.listFitsIndex k)=true:=by
  rw [fitsIndex_both h1 h2];exact Bool.false_ne_true
 have hlong:¬Builtin.List.listTooLong (its.toArray.size*k.toNat)=true:=by
  rw [Bx hlen];exact Bool.false_ne_true
 have hnew:List.foldl (fun x1 x2=>x1++x2) #[] (List.replicate (if its.toArray.isEmpty=true then 0 else k.toNat) its.toArray)=(List.replicate k.toNat its).flatten.toArray:=by
  have f0:∀m:Nat,List.foldl (fun x1 x2=>x1++x2) #[] (List.replicate m its.toArray)=(List.replicate m its).flatten.toArray:=fun m=>by
   have:=foldl_rep its m [];rw [List.nil_append] at this;exact this
  rw [f0];cases its with
  | nil=>simp
  | cons a r'=>rw [if_neg (by simp)]
 refine wpAny_binaryOp_repeat_ref (T:="list") (U:="int") (by decide) ⟨_,e,rfl⟩ (fun s'=>typeIs_int s' k t) noFill_list_mul F.fills_int_mul F.slot_int_rmul repeat_list F.slot_int_index.lookup
  (call_meets F.slot_int_rmul (typeIs_int s k t) F.entry_int_rmul (F.args_int_rmul_2 _ _) (int___rmul___int_list k t l its.toArray n)
   ⟨e,rfl,⟨_,e,rfl⟩,call_meets F.slot_list_mul ⟨_,e,rfl⟩ F.entry_list_mul (F.args_list_mul_2 _ _) (AutoListH.list___mul___list_int_3 l its.toArray n k t hfit hcap hlong) ⟨e,?_⟩⟩)
 rw [hnew];exact ⟨.ref _,_,I.Gx (t':=s.toks) (r.rep k.toNat) (by rw [len_rep,Nat.mul_comm];exact hz),rfl,q _ I.fresh⟩
section
variable {κ:Type} [DecidableEq κ]
noncomputable def jg (kvs:List (κ×V)) (k:κ):Option V:=(kvs.find? fun kv=>decide (kv.1=k)).map (·.2)
noncomputable def putK (kvs:List (κ×V)) (k:κ) (v:V):List (κ×V):=
 if (kvs.any fun kv=>decide (kv.1=k))=true then kvs.map (fun kv=>if kv.1=k then (kv.1,v) else kv) else kvs++[(k,v)]
theorem pP {p:κ×V} {r:List (κ×V)} {k:κ} (e:p.1=k):jg (p::r) k=some p.2:=by simp [jg,List.find?_cons,e]
theorem lW {p:κ×V} {r:List (κ×V)} {k:κ} (e:¬p.1=k):jg (p::r) k=jg r k:=by simp [jg,List.find?_cons,e]
theorem vc (k:κ):∀kvs:List (κ×V),(kvs.any fun kv=>decide (kv.1=k))=(jg kvs k).isSome
 | []=>rfl
 | p::r=>by
  rw [List.any_cons]
  by_cases e:p.1=k
  ·simp only [pP e,decide_eq_true e,Bool.true_or,Option.isSome_some]
  ·rw [lW e,decide_eq_false e,Bool.false_or];exact vc k r
theorem gG (kvs:List (κ×V)) (k:κ) (v:V):(putK kvs k v).length≤kvs.length+1:=by
 unfold putK
 split
 ·rw [List.length_map];lia
 ·rw [List.length_append,List.length_cons,List.length_nil];lia
theorem ox.iq (r:ox o u):o.isSome=u.isSome:=by
 cases o with
 | none=>cases u with
  | none=>rfl
  | some _=>exact (show False from r).elim
 | some _=>cases u with
  | none=>exact (show False from r).elim
  | some _=>rfl
theorem ox.getD (r:ox o u) (rd:RelV d d'):RelV (o.getD d) (u.getD d'):=by
 cases o with
 | none=>cases u with
  | none=>exact rd
  | some _=>exact (show False from r).elim
 | some _=>cases u with
  | none=>exact (show False from r).elim
  | some _=>exact r
theorem KV.val {kvs:List (κ×V)} {vs:List (κ×Value)} (r:KV kvs vs) (k:κ):ox (jg kvs k) (valueAt vs k):=by
 unfold KV at r
 induction r with
 | nil=>exact True.intro
 | @cons p q ps qs h t ih=>
  obtain ⟨h1,h2⟩:=h
  by_cases e:p.1=k
  ·have e':q.1=k:=h1.symm.trans e;have b:valueAt (q::qs) k=some q.2:=by simp [valueAt,List.find?_cons,e']
   rw [pP e,b];exact h2
  ·have e':¬q.1=k:=fun z=>e (h1.trans z);have b:valueAt (q::qs) k=valueAt qs k:=by simp [valueAt,List.find?_cons,e']
   rw [lW e,b];exact ih
theorem KV.any (r:KV kvs vs) (k:κ):(kvs.any fun kv=>decide (kv.1=k))=vs.any fun kv=>decide (kv.1=k):=by
 unfold KV at r
 induction r with
 | nil=>rfl
 | cons h t ih=>rw [List.any_cons,List.any_cons,ih,h.1]
theorem KV.Fp (r:KV kvs vs) (k:κ) (ry:RelV y u):
  KV (kvs.map fun kv=>if kv.1=k then (kv.1,y) else kv) (vs.map fun kv=>if kv.1=k then (kv.1,u) else kv):=by
 unfold KV at r ⊢
 induction r with
 | nil=>exact .nil
 | @cons p q ps qs h t ih=>
  rw [List.map_cons,List.map_cons];refine .cons ?_ ih;obtain ⟨h1,h2⟩:=h
  by_cases e:p.1=k
  ·rw [if_pos e,if_pos (h1.symm.trans e)];exact ⟨h1,ry⟩
  ·rw [if_neg e,if_neg (fun z=>e (h1.trans z))];exact ⟨h1,h2⟩
theorem KV.put (r:KV kvs vs) (k:κ) (ry:RelV y u):KV (putK kvs k y) (stored vs k u):=by
 unfold putK stored;rw [r.any k]
 by_cases e:(vs.any fun kv=>decide (kv.1=k))=true
 ·rw [if_pos e,if_pos e];exact r.Fp k ry
 ·rw [if_neg e,if_neg e];exact Paired.snoc r ⟨rfl,ry⟩
theorem KV.length (r:KV kvs vs):kvs.length=vs.length:=Paired.length r
end
theorem gu (r:RelV (kV k) u):(aZ P w).is k u=true:=by
 cases k with
 | inl i=>obtain ⟨t,e⟩:=(show ∃t,u=Value.int i t from r);subst e;exact oF P w i t
 | inr x=>obtain ⟨t,e⟩:=(show ∃t,u=Value.str x t from r);subst e;exact oE P w x t
theorem sM:∀{ks:List Key} {us:List Value},Vals (ks.map kV) us->ItemsAre (aZ P w) ks us
 | [],_,r=>by rw [List.map_nil] at r;cases r;exact .nil
 | k::ks,_,r=>by
  rw [List.map_cons] at r;cases r with
  | cons h t=>exact .cons (gu h) (sM t)
abbrev KT (H:Hp):List (List Key×V)->List (List Key×Addr×Value)->Prop:=Paired fun p q=>p.1=q.1∧H q.2.1=some (.tup (p.1.map kV))∧RelV p.2 q.2.2
theorem KT.val {H:Hp} {kvs:List (List Key×V)} {xs:List (List Key×Addr×Value)} (r:KT H kvs xs) (k:List Key):ox (jg kvs k) ((atKey xs k).map (·.2)):=by
 induction r with
 | nil=>exact True.intro
 | @cons p q ps qs h t ih=>
  obtain ⟨h1,_,h2⟩:=h
  by_cases e:p.1=k
  ·have e':q.1=k:=h1.symm.trans e;have b:atKey (q::qs) k=some q.2:=by simp [atKey,List.find?_cons,e']
   rw [pP e,b];exact h2
  ·have e':¬q.1=k:=fun z=>e (h1.trans z);have b:atKey (q::qs) k=atKey qs k:=by simp [atKey,List.find?_cons,e']
   rw [lW e,b];exact ih
theorem KT.Fp (r:KT H kvs xs) (k:List Key) (ry:RelV y u):
  KT H (kvs.map fun kv=>if kv.1=k then (kv.1,y) else kv) (xs.map (putAt k u)):=by
 induction r with
 | nil=>exact .nil
 | @cons p q ps qs h t ih=>
  rw [List.map_cons,List.map_cons];refine .cons ?_ ih;obtain ⟨h1,h2,h3⟩:=h;unfold putAt
  by_cases e:p.1=k
  ·rw [if_pos e,if_pos (h1.symm.trans e)];exact ⟨h1,h2,ry⟩
  ·rw [if_neg e,if_neg (fun z=>e (h1.trans z))];exact ⟨h1,h2,h3⟩
theorem KT.put (r:KT H kvs xs) (k:List Key) (hb:H b=some (.tup (k.map kV))) (ry:RelV y u):
  KT H (putK kvs k y) (storedH xs k b u):=by
 have e:(kvs.any fun kv=>decide (kv.1=k))=(atKey xs k).isSome:=by
  rw [vc,(r.val k).iq,Option.isSome_map]
 unfold putK storedH;rw [e]
 by_cases q:(atKey xs k).isSome=true
 ·rw [if_pos q,if_pos q];exact r.Fp k ry
 ·rw [if_neg q,if_neg q];exact Paired.snoc r ⟨rfl,hb,ry⟩
theorem KT.keeps (r:KT H kvs xs) (ht:∀b ys,H b=some (.tup ys)->H' b=some (.tup ys)):KT H' kvs xs:=
 Paired.Gs r fun _ _ z=>⟨z.1,ht _ _ z.2.1,z.2.2⟩
theorem EG (ok:HOk P w H h) (e:Rd H a u):cF P w H h a u:=e.ok ok
theorem mS (ok:HOk P w H h) (e:Rd H a (.dK kvs)):kvs.length≤sizeLine∧(a==sysModules)=false∧∃vs,KV kvs vs∧h.DictOf (aZ P w) a vs:=
 show cF P w H h a (.dK kvs) from EG ok e
theorem qJ (ok:HOk P w H h) (e:H a=some (.dK kvs)):kvs.length≤sizeLine∧(a==sysModules)=false∧∃vs,KV kvs vs∧h.DictOf (aZ P w) a vs:=mS ok (.inl e)
theorem lP (ok:HOk P w H h) (e:H a=some (.tup (ks.map kV))):(tupleKind (aZ P w)).is h ks a:=by
 obtain ⟨_,its,r,o,h1,h2,⟨n,h3⟩,_⟩:=(show cF P w H h a (.tup (ks.map kV)) from ok a _ e);exact ⟨o,its.toArray,n,h1,h2,h3,by simpa using sM r⟩
theorem qI (ok:HOk P w H h) (e:Rd H a (.dT kvs)):kvs.length≤sizeLine∧(a==sysModules)=false∧
  ∃xs,KT H kvs xs∧h.DictOfH (tupleKind (aZ P w)) a xs:=by
 obtain ⟨z,y,xs,r,o,es,ep,h1,h2,h3,h4,h5⟩:=(show cF P w H h a (.dT kvs) from EG ok e);refine ⟨z,y,xs,r,o,es,ep,h1,h2,h3,h4,fun x hx=>?_,h5⟩;have all:∀{l:List (List Key×V)} {m:List (List Key×Addr×Value)},KT H l m->∀x∈m,(tupleKind (aZ P w)).is h x.1 x.2.1:=by
  intro l m q
  induction q with
  | nil=>intro x hx;exact nomatch hx
  | @cons p q ps qs hq t ih=>
   intro x hx;rcases List.mem_cons.mp hx with e | hx
   ·subst e;exact lP ok (by rw [←hq.1];exact hq.2.1)
   ·exact ih x hx
 exact all r x hx
theorem II (ok:HOk P w H h) (e:H a=some (.dT kvs)):kvs.length≤sizeLine∧(a==sysModules)=false∧
  ∃xs,KT H kvs xs∧h.DictOfH (tupleKind (aZ P w)) a xs:=qI ok (.inl e)
def nq (H:Hp) (a:Addr) (y:V) (r:Option V):Prop:=
 (∃kvs k,Rd H a (.dK kvs)∧y=kV k∧r=jg kvs k)∨∃kvs k b,Rd H a (.dT kvs)∧y=.ref b∧H b=some (.tup (k.map kV))∧r=jg kvs k
def EA (H:Hp) (a:Addr) (y v:V) (H':Hp):Prop:=
 (∃kvs k,H a=some (.dK kvs)∧y=kV k∧kvs.length < sizeLine∧H'=upd H a (.dK (putK kvs k v)))∨
 ∃kvs k b,H a=some (.dT kvs)∧y=.ref b∧H b=some (.tup (k.map kV))∧kvs.length < sizeLine∧H'=upd H a (.dT (putK kvs k v))
theorem nq.k {H:Hp} {a:Addr} {kvs:List (Key×V)} {k:Key} (e:H a=some (.dK kvs)):nq H a (kV k) (jg kvs k):=.inl ⟨kvs,k,.inl e,rfl,rfl⟩
theorem EA.k {H:Hp} {a:Addr} {kvs:List (Key×V)} {k:Key} {v:V} (e:H a=some (.dK kvs)) (hl:kvs.length < sizeLine):EA H a (kV k) v (upd H a (.dK (putK kvs k v))):=.inl ⟨kvs,k,e,rfl,hl,rfl⟩
theorem Inv.big (I:Inv X pins σ H s):sysModules < s.heap.objs.size:=by
 have h:mainGlobals < s.heap.objs.size:=(I.mod.glob.keeps I.bk).lt;exact Nat.lt_trans (by decide) h
theorem zW (hu:A.units+1 < cLine) (I:Inv X pins σ H s) (g:nq H a y (some v)) (ry:RelV y u) (h:∀w' s',Inv X pins σ H s'->RelV v w'->Q w' s'):
  wpAny (model X.prog X.w) A (getItem (.ref a) u) Q E s:=by
 rcases g with ⟨kvs,k,e,ey,l⟩ | ⟨kvs,k,b,e,ey,eb,l⟩
 ·subst ey;obtain ⟨z,hd,vs,rel,dd⟩:=mS I.hok e;obtain ⟨w',hw,rw'⟩:=ox.some_of (v:=v) (o:=valueAt vs k) (by rw [l];exact rel.val k);exact wpAny_getItem_of (gu ry) dd.mapOf hw (h w' _ (I.tok _) rw')
 ·subst ey;cases (show u=Value.ref b from ry);obtain ⟨z,hd,xs,rel,dd⟩:=qI I.hok e;obtain ⟨w',hw,rw'⟩:=ox.some_of (v:=v) (o:=(atKey xs k).map (·.2)) (by rw [l];exact rel.val k);obtain ⟨p,hp,hp2⟩:=Option.map_eq_some_iff.mp hw;refine wpAny_getItem_heap (tupleKind_room_in1 hu) (lP I.hok eb) dd hp ?_;rw [hp2];exact h w' _ (I.tok _) rw'
theorem JS (hu:A.units+1 < cLine) (I:Inv X pins σ H s) (g:nq H a y o) (ry:RelV y u) (h:∀s',Inv X pins σ H s'->Q (.bool o.isSome) s'):
  wpAny (model X.prog X.w) A (compareOp .In u (.ref a)) Q E s:=by
 rcases g with ⟨kvs,k,e,ey,l⟩ | ⟨kvs,k,b,e,ey,eb,l⟩
 ·subst ey;obtain ⟨z,hd,vs,rel,dd⟩:=mS I.hok e;refine wpAny_in_of (gu ry) hd dd.mapOf ?_;rw [←(rel.val k).iq,←l];exact h _ (I.tok _)
 ·subst ey;cases (show u=Value.ref b from ry);obtain ⟨z,hd,xs,rel,dd⟩:=qI I.hok e;refine wpAny_in_heap (tupleKind_room_in1 hu) (lP I.hok eb) hd dd ?_;have q:=(rel.val k).iq;rw [Option.isSome_map] at q;rw [←q,←l];exact h _ (I.tok _)
theorem Ei (hu:A.units+1 < cLine) (I:Inv X pins σ H s) (g:nq H a y o) (ry:RelV y u) (h:∀s',Inv X pins σ H s'->Q (.bool (!o.isSome)) s'):
  wpAny (model X.prog X.w) A (compareOp .NotIn u (.ref a)) Q E s:=by
 rcases g with ⟨kvs,k,e,ey,l⟩ | ⟨kvs,k,b,e,ey,eb,l⟩
 ·subst ey;obtain ⟨z,hd,vs,rel,dd⟩:=mS I.hok e;refine wpAny_notIn_of (gu ry) hd dd.mapOf ?_;rw [←(rel.val k).iq,←l];exact h _ (I.tok _)
 ·subst ey;cases (show u=Value.ref b from ry);obtain ⟨z,hd,xs,rel,dd⟩:=qI I.hok e;refine wpAny_notIn_heap (tupleKind_room_in1 hu) (lP I.hok eb) hd dd ?_;have q:=(rel.val k).iq;rw [Option.isSome_map] at q;rw [←q,←l];exact h _ (I.tok _)
theorem kG (I:Inv X pins σ H s) (mu:Mut (H a)) (hs:Heap.SameBut a s.heap h') (he:∃q,h'.get? a=some q) (new:cF X.prog X.w (upd H a ob) h' a ob):
  Inv X pins σ (upd H a ob) {s with heap:=h',toks:=t'}:=
 I.write (x:=a) (e:=a) mu (.inl rfl) (fun b q hb z=>(hs.2 b hb).trans z) he new
theorem oo (z:kvs.length≤sizeLine) (hd:(a==sysModules)=false) (rel:KV kvs vs) (dd:h'.DictOf (aZ P w) a vs):
  cF P w H' h' a (.dK kvs):=⟨z,hd,vs,rel,dd⟩
theorem zV (hu:A.units+1 < cLine) (I:Inv X pins σ H s) (g:EA H a y v H') (ry:RelV y u) (rv:RelV v r) (h:∀s',Inv X pins σ H' s'->Q () s'):
  wpAny (model X.prog X.w) A (setItem (.ref a) u r) Q E s:=by
 rcases g with ⟨kvs,k,e,ey,l,eH⟩ | ⟨kvs,k,b,e,ey,eb,l,eH⟩
 ·subst ey eH;obtain ⟨z,hd,vs,rel,dd⟩:=qJ I.hok e;have hz:vs.length≤sizeLine:=by rw [←rel.length];exact z
  have hl:(putK kvs k v).length≤sizeLine:=by have:=gG kvs k v;lia
  refine wpAny_setItem_pairs (hsz:=hz) (gu ry) dd fun h' dd' hs=>h _ ?_;have he:∃q,h'.get? a=some q:=let ⟨q,_,_,hq,_⟩:=dd';⟨q,hq⟩;exact kG I (by rw [e];exact True.intro) hs he (oo hl hd (rel.put k rv) dd')
 ·subst ey eH;cases (show u=Value.ref b from ry);obtain ⟨z,hd,xs,rel,dd⟩:=II I.hok e;have hz:xs.length≤sizeLine:=by rw [←Paired.length rel];exact z
  have hl:(putK kvs k v).length≤sizeLine:=by have:=gG kvs k v;lia
  refine wpAny_setItem_heap (hsz:=hz) (tupleKind_room_in1 hu) (lP I.hok eb) dd fun h' dd' hs=>h _ ?_;obtain ⟨q,es,ep,hq,h2,h3,h4,_,h5⟩:=dd';refine kG I (by rw [e];exact True.intro) hs ⟨q,hq⟩ ⟨hl,hd,_,(rel.put k eb rv).keeps fun c ys ec=>?_,q,es,ep,hq,h2,h3,h4,h5⟩;rw [aB (Iy ec e (fun z=>nomatch z))];exact ec
theorem IJ (I:Inv X pins σ H s) (e:Rd H a (.dK kvs)) (h:∀t s',Inv X pins σ H s'->Q (.int kvs.length t) s'):wpAny (model X.prog X.w) A (call (.builtin "len") [.ref a]) Q E s:=by
 obtain ⟨z,hd,vs,rel,dd⟩:=mS I.hok e;refine call_len_dict hd dd (by rw [←rel.length];rw [sizeLine_eq] at z;lia) ?_;rw [←rel.length];exact h _ _ (I.tok _)
def Ez (i:Expr):Prop:=∀ov iv,subscripted i false ov iv=operate [ov,iv] (getItem ov iv)
theorem CO {prog:Program} {w:World} {A:Around} {E:Value->Shared->Prop} {s:Shared} {env:Env} {value slice:Expr} {pos:Pos} {T id:String} {Q:Value->Shared->Prop}
  (hl:typeLookup (.type T) "__getitem__"=pure (some (.builtin id))) (hs:Ez slice)
  (h:wpAny (model prog w) A (eval value env) (fun o s₁=>wpAny (model prog w) A (eval slice env) (fun i s₂=>s₂.TypeIs o T∧wpAny (model prog w) A (getItem o i) Q E s₂) E s₁) E s):
  wpAny (model prog w) A (eval (.Subscript value slice pos) env) Q E s:=by
 refine Subscript_ (wpAny_mono h (fun o s₁ h₁=>wpAny_mono h₁ (fun i s₂ h₂=>?_) fun _ _ x=>x) fun _ _ x=>x);obtain ⟨hT,h₂⟩:=h₂;unfold subscriptTail;refine wpAny_bind ?_;rw [getitemInPython_of_ne hT.not_modules];refine wpAny_bind (wpAny_specialOf hT hl ?_);have fin:wpAny (model prog w) A (subscripted slice false o i) (fun r s₃=>wpAny (model prog w) A (letTemporaryGo value o r >>=fun _=>pure r) Q E s₃) E s₂:=by
  rw [hs o i];exact wpAny_operating (wpAny_mono h₂ (fun r s₃ h₃=>wpAny_bind (wpAny_letTemporaryGo (wpAny_pure h₃))) fun _ _ x=>x)
 first
  | exact wpAny_pure (wpAny_bind fin)
  | exact wpAny_bind (wpAny_pure (wpAny_bind fin))
  | exact wpAny_bind fin
theorem wq (I:Inv X pins σ H s) (g:nq H a y o):s.TypeIs (.ref a) "dict":=by
 rcases g with ⟨kvs,k,e,_,_⟩ | ⟨kvs,k,b,e,_,_,_⟩
 ·obtain ⟨_,_,vs,_,dd⟩:=mS I.hok e;exact dd.typeIs
 ·obtain ⟨_,_,xs,_,dd⟩:=qI I.hok e;exact dd.typeIs
theorem j7 (h:Heap) (hb:sysModules < h.objs.size):cF P w H (h.push {cls:=.type "dict",data:=.dict #[]}) h.objs.size (.dK []):=
 ⟨Nat.zero_le _,beq_eq_false_iff_ne.mpr (Ne.symm (Nat.ne_of_lt hb)),[],.nil,Heap.DictOf.new h⟩
def E5:TE:=fun _ H Q=>∀p,H p=none->Q (.ref p) (upd H p (.dK []))
theorem Bn:PE X (.Dict [] [] pos) E5:=fun pins s σ H Q I h=>
 wpAny_Dict_empty ⟨.ref s.heap.objs.size,_,I.laid (a:=s.heap.objs.size) (o:=.dK []) (t':=s.toks) (fun _ _ q=>Heap.get?_push_of_some _ q) (Nat.le_refl _) (j7 s.heap I.big),rfl,h _ (I.hok.fresh (Nat.le_refl _))⟩
def tH:List (TE×TE)->St->Hp->(List (V×V)->Hp->Prop)->Prop
 | [],_,H,Q=>Q [] H
 | (tk,tv)::r,σ,H,Q=>tk σ H fun x H1=>tv σ H1 fun y H2=>tH r σ H2 fun ps H3=>Q ((x,y)::ps) H3
abbrev VV:List (V×V)->List (Value×Value)->Prop:=Paired fun p q=>RelV p.1 q.1∧RelV p.2 q.2
def PPs (X:Cx) (pos:Pos) (keys:List (Option Expr)) (values:List Expr) (trs:List (TE×TE)):Prop:=
 ∀(pins:List (Addr×Obj)) (s:Shared) (σ:St) (H:Hp) (Q:List (V×V)->Hp->Prop),Inv X pins σ H s->tH trs σ H Q->
  wpAny (model X.prog X.w) X.A (evalPairs (pairTrees keys values X.env pos)) (fun vs s'=>∃ps H',Inv X pins σ H' s'∧VV ps vs∧Q ps H') X.xe s
theorem Dw:PPs X pos [] [] []:=fun pins s σ H Q I h=>pairTrees_nil_walk ⟨[],H,I,.nil,h⟩
theorem Bi (hk:PE X k tk) (hv:PE X v tv) (hr:PPs X pos ks vs trs):
  PPs X pos (some k::ks) (v::vs) ((tk,tv)::trs):=fun pins s σ H Q I h=>
 pairTrees_cons_walk (thn (hk pins s σ H _ I h) fun u s1 ⟨x,H1,I1,rx,q1⟩=>thn (hv pins s1 σ H1 _ I1 q1) fun w2 s2 ⟨y,H2,I2,ry,q2⟩=>
  thn (hr pins s2 σ H2 _ I2 q2) fun ws s3 ⟨ps,H3,I3,rel,q3⟩=>⟨(x,y)::ps,H3,I3,.cons ⟨rx,ry⟩ rel,q3⟩)
noncomputable def aX (kvs more:List (Key×V)):List (Key×V):=more.foldl (fun acc kv=>putK acc kv.1 kv.2) kvs
theorem KV.merge:∀{more:List (Key×V)} {rs:List (Key×Value)} {kvs:List (Key×V)} {vs:List (Key×Value)},KV more rs->KV kvs vs->KV (aX kvs more) (merged vs rs):=by
 intro more rs kvs vs r;unfold KV at r
 induction r generalizing kvs vs with
 | nil=>intro q;exact q
 | @cons p q ps qs h t ih=>
  intro r0;have e:KV (putK kvs p.1 p.2) (stored vs q.1 q.2):=by
   have:=r0.put p.1 h.2;rw [←h.1];exact this
  exact ih e
theorem fB:∀(more kvs:List (Key×V)),(aX kvs more).length≤kvs.length+more.length
 | [],kvs=>by show kvs.length≤kvs.length+0;lia
 | p::r,kvs=>by
  have h1:=fB r (putK kvs p.1 p.2);have h2:=gG kvs p.1 p.2;show (aX (putK kvs p.1 p.2) r).length≤_;rw [List.length_cons];lia
theorem qQ:∀{kvs:List (Key×V)} {ws:List (Value×Value)},VV (kvs.map fun kv=>(kV kv.1,kv.2)) ws->∃rs,Carries (aZ P w) ws rs∧KV kvs rs
 | [],_,r=>by rw [List.map_nil] at r;cases r;exact ⟨[],True.intro,.nil⟩
 | p::kvs,_,r=>by
  rw [List.map_cons] at r;cases r with
  | @cons a b as bs h t=>
   obtain ⟨rs,c,q⟩:=qQ (P:=P) (w:=w) t;obtain ⟨b1,b2⟩:=b;exact ⟨(p.1,b2)::rs,⟨gu h.1,rfl,c⟩,.cons ⟨rfl,h.2⟩ q⟩
def Au (trs:List (TE×TE)):TE:=fun σ H Q=>∀p,H p=none->tH trs σ (upd H p (.dK [])) fun ps H2=>H2 p=some (.dK [])∧∃kvs:List (Key×V),ps=kvs.map (fun kv=>(kV kv.1,kv.2))∧kvs.length≤15∧Q (.ref p) (upd H2 p (.dK (aX [] kvs)))
theorem t8 (h:PPs X pos keys values trs) (hall:keys.all (·.isSome)=true) (hl:keys.length=values.length) (h0:keys≠[]) (h15:keys.length≤15):PE X (.Dict keys values pos) (Au trs):=by
 intro pins s σ H Q I q;have hn:=I.hok.fresh (Nat.le_refl s.heap.objs.size);have I1:=I.laid (a:=s.heap.objs.size) (o:=.dK []) (h':=s.heap.push {cls:=.type "dict",data:=.dict #[]}) (t':=s.toks) (fun _ _ q=>Heap.get?_push_of_some _ q) (Nat.le_refl _) (j7 s.heap I.big);refine wpAny_Dict_walk (knd:=aZ X.prog X.w) hall hl h0 h15 (thn (h pins _ σ _ _ I1 (q _ hn)) fun ws s2 ⟨ps,H2,I2,rel,e,kvs,ep,lk,q2⟩=>?_);subst ep;obtain ⟨rs,c,rk⟩:=qQ (P:=X.prog) (w:=X.w) rel;obtain ⟨z,hd,vs0,r0,dd⟩:=qJ I2.hok e;cases r0;refine ⟨rs,c,dd,fun h' dd' hs=>⟨.ref s.heap.objs.size,_,?_,rfl,q2⟩⟩;have hz:(aX [] kvs).length≤sizeLine:=by
  have h1:=fB kvs [];rw [List.length_nil] at h1;rw [sizeLine_eq];lia
 have he:∃q,h'.get? s.heap.objs.size=some q:=let ⟨q,_,_,hq,_⟩:=dd';⟨q,hq⟩;exact kG I2 (by rw [e];exact True.intro) hs he (oo hz hd (rk.merge .nil) dd')
theorem G1 (hu:A.units+1 < cLine) (I:Inv X pins σ H s) (g:nq H a y o) (ry:RelV y u) (h:∀w' s',Inv X pins σ H s'->RelV (o.getD .non) w'->Q w' s'):
  wpAny (model X.prog X.w) A (call (.builtin "dict.get") [.ref a,u]) Q E s:=by
 rcases g with ⟨kvs,k,e,ey,l⟩ | ⟨kvs,k,b,e,ey,eb,l⟩
 ·subst ey;obtain ⟨z,hd,vs,rel,dd⟩:=mS I.hok e;refine call_meetsIn PySem.F.slot_dict_get dd.typeIs PySem.F.entry_dict_get (PySem.F.args_dict_get_2 _ _) (meets_dict_get (aZ X.prog X.w) a (gu ry) hd) ⟨_,dd.mapOf,h _ _ (I.tok _) ?_⟩;rw [l];exact (rel.val k).getD rfl
 ·subst ey;cases (show u=Value.ref b from ry);obtain ⟨z,hd,xs,rel,dd⟩:=qI I.hok e;refine call_meetsIn PySem.F.slot_dict_get dd.typeIs PySem.F.entry_dict_get (PySem.F.args_dict_get_2 _ _) (meetsH_dict_get (tupleKind (aZ X.prog X.w)) a b hd) ⟨tupleKind_room_in1 hu,k,xs,lP I.hok eb,dd,h _ _ (I.tok _) ?_⟩;rw [l];exact (rel.val k).getD rfl
theorem G0 (hu:A.units+1 < cLine) (I:Inv X pins σ H s) (g:nq H a y o) (ry:RelV y u) (rd:RelV d r) (h:∀w' s',Inv X pins σ H s'->RelV (o.getD d) w'->Q w' s'):
  wpAny (model X.prog X.w) A (call (.builtin "dict.get") [.ref a,u,r]) Q E s:=by
 rcases g with ⟨kvs,k,e,ey,l⟩ | ⟨kvs,k,b,e,ey,eb,l⟩
 ·subst ey;obtain ⟨z,hd,vs,rel,dd⟩:=mS I.hok e;refine call_meetsIn PySem.F.slot_dict_get dd.typeIs PySem.F.entry_dict_get (PySem.F.args_dict_get_3 _ _ _) (meets_dict_get_default (aZ X.prog X.w) a (gu ry) hd r) ⟨_,dd.mapOf,h _ _ (I.tok _) ?_⟩;rw [l];exact (rel.val k).getD rd
 ·subst ey;cases (show u=Value.ref b from ry);obtain ⟨z,hd,xs,rel,dd⟩:=qI I.hok e;refine call_meetsIn PySem.F.slot_dict_get dd.typeIs PySem.F.entry_dict_get (PySem.F.args_dict_get_3 _ _ _) (meetsH_dict_get_default (tupleKind (aZ X.prog X.w)) a b hd r) ⟨tupleKind_room_in1 hu,k,xs,lP I.hok eb,dd,h _ _ (I.tok _) ?_⟩;rw [l];exact (rel.val k).getD rd
theorem B8 (I:Inv X pins σ H s) (e:Rd H a (.dK kvs)) (h:∀p s',H p=none->Inv X pins σ (upd H p (.dK kvs)) s'->Q (.ref p) s'):wpAny (model X.prog X.w) A (call (.type "dict") [.ref a]) Q E s:=by
 obtain ⟨z,hd,vs,rel,dd⟩:=mS I.hok e;refine kt_call_dict hd dd (by rw [←rel.length];exact z) fun h' dd' hs=>?_;refine h _ _ (I.hok.fresh (Nat.le_refl _)) (I.laid (a:=s.heap.objs.size) (o:=.dK kvs) (t':=s.toks) (fun b q hq=>?_) (Nat.le_refl _) (oo z (beq_eq_false_iff_ne.mpr (Ne.symm (Nat.ne_of_lt I.big))) rel dd'));exact (hs.2 b (Nat.ne_of_lt (Heap.lt_size hq))).trans (Heap.get?_push_of_some _ hq)
end L2
namespace Att
open PySem PySem.W PySem.Calls PyProof.Rows
theorem ph:∀(ns:List Int) (vs:List Value),WellAll P h vs (ns.map WData.int)->IntsAre vs ns:=by
 intro ns
 induction ns with
 | nil=>
  intro vs w;rw [List.map_nil] at w;cases w;exact .nil
 | cons n ns ih=>
  intro vs w;rw [List.map_cons] at w;cases w with
  | cons a b=>
   cases a;exact .cons _ _ (ih _ b)
theorem zc {l:OpenLaw} {n:Nat} (hn:l.most=some n) {P:Params} {h:Heap} {args:List WData} {vals:List Value}
  (hpre:l.row.toRowW.claim.pre args=true) (hwl:WellAll P h vals args):
  ∃a vs ns,vals=[Value.ref a]∧args=[WData.list (ns.map WData.int)]∧h.get? a=some {cls:=.type "list",data:=.seq vs.toArray}∧IntsAre vs ns∧ns.length≤n:=by
 have hsh:WShape.hasAll [] args [.list .int]=true:=(pre_splitW hpre).1;have hc:l.pre.holds [] {args:=args}=true:=(pre_splitW hpre).2;obtain ⟨d,r,rfl,h1,h2⟩:=hasAllW_cons hsh;obtain rfl:=hasAllW_nil h2;obtain ⟨xs,rfl,h3⟩:=hasW_list h1;obtain ⟨ns,rfl⟩:=items_int h3;have hlen:ns.length≤n:=by
  unfold OpenLaw.pre at hc;have h4:(WTm.not (.lt (.lit (.int (n:Int))) (.len (.arg 0)))).holds [] {args:=[.list (ns.map .int)]}=true:=by
   have h4:=(holds_andW hc).1;rw [hn] at h4;exact h4
  have h5:=condW_of h4 (w_not (w_lt w_lit (w_len_list (w_arg rfl))));rw [List.length_map] at h5;refine Nat.le_of_not_lt fun q=>?_;have q':(n:Int) < ((ns.length:Nat):Int):=by lia
  first
   | (rw [decide_eq_true q'] at h5;exact absurd h5 (by decide))
   | (simp at h5;lia)
 cases hwl with
 | cons w1 w2=>
  cases w2;cases w1 with
  | list ho hall=>exact ⟨_,_,ns,rfl,rfl,ho,ph ns _ hall,hlen⟩
theorem zj (l:OpenLaw) (args:List WData):l.row.toRowW.claim.post args (.bool true) args=true:=
 postW_of (r:=l.row.toRowW) (X:=(true==true))
  (show WShape.has [] (.bool true) .bool=true by first | rfl | decide | simp [WShape.has,WShape.arms,WShape.armsAll])
  (show (WTm.eq .res (.lit (.bool true))).value [] {args:=args,res:=some (.bool true),after:=args}=some (.bool (true==true)) from w_eq_bool (w_res rfl) w_lit) rfl
theorem wD {l:OpenLaw} {n:Nat} {q:Program} {loose:List Str} {XP:(Str->Option Value)->Heap->Prop} {YP:World->Heap->Prop} {d:DefRec}
  (hn:l.most=some n) (hdf:d.params.defaults=[])
  (call:∀(w:World) (s₀ s₁:Shared) (mg mb:Str->Option Value) (fa:Addr) (o:Obj) (pm cd doc:Value) (a:Addr) (vs:List Value) (ns:List Int),
   Ground q loose [] XP w s₀ mg mb s₁.heap->YP w s₁.heap->
   s₁.heap.get? fa=some o->o.data=.func (docDef d.name d.params d.body d.scope pm cd doc)->s₁.heap.CodeRec cd d.name->mg d.name=some (.ref fa)->
   s₁.heap.get? a=some {cls:=.type "list",data:=.seq vs.toArray}->IntsAre vs ns->ns.length≤n->s₁.gens=#[]->
   codeAny (model l.prog w) callerA (.call (.ref fa) ⟨[.ref a],[]⟩) (fun r s'=>r=.ok (.ret (.bool true))∧OldK s₁.heap s'.heap∧s'.os=s₁.os∧AllBare s'.gens) s₁):
  WalkO q loose XP YP l.row.toRowW d [] (fun f vs=>PySem.call f vs):=by
 intro w s₀ s₁ mg mb G Y fa o pm cd doc dV kV ho hd hcd hD hmg hg args vals as hpre hlay hrd hwl hlo;obtain rfl:dV=.none:=Dflts.none hD hdf;obtain rfl:kV=.none:=Dflts.noKw hD;obtain ⟨a,vs,ns,rfl,rfl,hobj,hints,hlen⟩:=zc hn hpre hwl;refine enter_call (codeAny_mono (call w s₀ s₁ mg mb fa o pm cd doc a vs ns G Y ho (fd_plain hd) hcd hmg hobj hints hlen hg) fun r s' hq=>?_);obtain ⟨rfl,h2,h3,h4⟩:=hq;exact ⟨.inl ⟨.bool true,.bool true,[],rfl,fun _=>rfl,.bool true,zj l _,fun _=>⟨List.Pairwise.nil,fun _ hm=>(nomatch hm)⟩⟩,h2,h3,h4⟩
section
variable {prog:Program} {w:World} {A:Around} {E:Value->Shared->Prop} {s:Shared} {K:Frag}
end
end Att
namespace L2
open PySem PySem.Spec PyProof.Rows
theorem kh:∀{vs:List Value} {ns:List Int},IntsAre vs ns->Vals (ns.map V.int) vs
 | _,_,.nil=>.nil
 | _,_,.cons n t h=>.cons ⟨t,rfl⟩ (kh h)
def IQ (H:Hp):Prop:=∀b,H b=none∨∃o xs,H b=some (.frz o (.lst xs))
theorem BG {P:Program} {w:World} {K:FR} {mg mb:Str->Option Value} {CX:CXT} {k:Nat} {fa a:Addr} {fd:FuncData} {x:Str} {sp:Sp} {s₁:Shared} {vs:List Value} {ns:List Int}
  (KX:K.In s₁.heap) (hns:s₁.heap.Ns mainGlobals mg) (hb:s₁.heap.Ns builtinsNs mb) (hbb:∀x:Str,x≠"__name__"->mb x=bootBuiltins x) (hlim:s₁.heap.NoLimit) (hg:s₁.gens=#[])
  (ha:s₁.heap.get? a=some {cls:=.type "list",data:=.seq vs.toArray}) (hi:IntsAre vs ns) (hl:ns.length≤sizeLine) (hr:Room k callerA)
  (F:∀base:Heap,K.In base->base.Ns mainGlobals mg->FnOk P w K mg base CX k fa fd [x] sp) (hbind:∀(s:Shared) (u:Value),BindsTo s fd ⟨[u],[]⟩ [(x,u)])
  (hsp:∀H:Hp,IQ H->SqL K H a (ns.map V.int)->sp [.ref a] H (fun v _=>v=.bl true) fun _ _ _=>False)
  (hCX:∀H e s',CX [] H s₁ (fun _ _ _=>False) e s'->False):
  codeAny (model P w) callerA (.call (.ref fa) ⟨[.ref a],[]⟩) (fun r s'=>r=.ok (.ret (.bool true))∧OldK s₁.heap s'.heap∧s'.os=s₁.os∧AllBare s'.gens) s₁:=by
 have rv:=kh hi;have lenV:=hi.length;have core:∀H:Hp,IQ H->SqL K H a (ns.map V.int)->HOk P w H s₁.heap->(∀b,H b≠none->b=a)->(H a≠none->K.lookup a=none)->
   codeAny (model P w) callerA (.call (.ref fa) ⟨[.ref a],[]⟩) (fun r s'=>r=.ok (.ret (.bool true))∧OldK s₁.heap s'.heap∧s'.os=s₁.os∧AllBare s'.gens) s₁:=by
  intro H hO hS hok hA hK;have base_of:∀{b:Addr} {o:Obj},s₁.heap.get? b=some o->H b=none->(uD s₁.heap H).get? b=some o:=fun e n=>BO e n;have noA:∀{b:Addr} {o:Obj} {es:Array DictEntry} {ep:Nat},s₁.heap.get? b=some o->o.data=.dict es ep->H b=none:=fun {b o es ep} e d=>by
   cases q:H b with
   | none=>rfl
   | some u=>
    have e':b=a:=hA b (by rw [q];simp);subst e';rw [ha] at e;cases e;have d':Data.seq vs.toArray _=Data.dict es ep:=d;cases d'
  have nsK:∀{b:Addr} {m:Str->Option Value},s₁.heap.Ns b m->(uD s₁.heap H).Ns b m:=fun {b m} ⟨o,es,ep,e,d,r⟩=>⟨o,es,ep,base_of e (noA e d),d,r⟩;have hKb:K.In (uD s₁.heap H):=fun b o e=>base_of (KX b o e) (by
   cases q:H b with
   | none=>rfl
   | some u=>
    have e':b=a:=hA b (by rw [q];simp);subst e';rw [hK (by rw [q];simp)] at e;cases e)
  have hM:Mod K mg (uD s₁.heap H):=⟨hKb,nsK hns,⟨mb,nsK hb,hbb⟩,let ⟨mc,h1,h2⟩:=hlim;⟨mc,nsK h1,h2⟩⟩;have e0:Env0 P w K mg (uD s₁.heap H) callerA [] s₁ H:=⟨rfl,hM,fun b o e=>DO e,Nat.le_of_eq (zI _ _),trivial,fun b hb=>absurd (show b∈([]:List Addr) from hb) (by simp),hok,.of_eq hg⟩;refine codeAny_mono ((F _ hKb (nsK hns)).run callerA [] s₁ H ⟨[.ref a],[]⟩ [.ref a] [.ref a] _ _ hr e0 (hbind s₁ (.ref a)) (.cons rfl .nil) (hsp H hO hS)) fun r s' h=>?_;cases r with
  | error e=>exact (hCX H e s' h).elim
  | ok fl=>
   cases fl with
   | next=>exact False.elim h
   | brk=>exact False.elim h
   | cont=>exact False.elim h
   | ret u=>
    obtain ⟨v,H',os,bare,un,hok',r',q⟩:=h;have q':v=.bl true:=q;subst q';obtain rfl:u=Value.bool true:=r';refine ⟨rfl,OldK.of_keep fun b o e=>?_,os,bare⟩;cases q:H b with
    | none=>exact un.keep b o e q (by intro z;exact absurd (show b∈([]:List Addr) from z) (by simp)) (by simp)
    | some u=>
     rcases hO b with z | ⟨ob,xs,z⟩
     ·rw [q] at z;cases z
     ·have z2:=un.frzs b ob _ z;obtain ⟨e1,_⟩:=hok b _ z;obtain ⟨e2,_⟩:=hok' b _ z2;rw [e] at e1;cases e1;exact e2
 cases hk:K.lookup a with
 | some o=>
  have e:=KX a o hk;rw [ha] at e;cases e;refine core (fun _=>none) (fun _=>.inl rfl) (.inr ⟨_,vs.toArray,_,hk,rfl,rfl,rfl,by rw [List.size_toArray,lenV];exact hl,by simpa using rv⟩) (fun b u z=>by have z':(none:Option HO)=some u:=z;cases z') (fun b z=>absurd rfl z) fun z=>absurd rfl z
 | none=>
  refine core (fun b=>if b=a then some (.frz {cls:=.type "list",data:=.seq vs.toArray} (.lst (ns.map V.int))) else none) (fun b=>?_) (.inl (.inr ⟨{cls:=.type "list",data:=.seq vs.toArray},if_pos rfl⟩)) (fun b u z=>?_) (fun b z=>?_) fun _=>hk
  ·by_cases hb:b=a
   ·exact .inr ⟨_,_,if_pos hb⟩
   ·exact .inl (if_neg hb)
  ·by_cases hb:b=a
   ·have z':=(if_pos hb).symm.trans z;cases z';subst hb;exact ⟨ha,by rw [List.length_map];exact hl,vs,_,rv,ha⟩
   ·have z':=(if_neg hb).symm.trans z;cases z'
  ·by_cases hb:b=a
   ·exact hb
   ·exact absurd (if_neg hb) z
noncomputable def mT (s:Stmt):Arguments:=match s with
 | .FunctionDef _ a _ _ _ _ _ _ _ _=>a
 | _=>{posonlyargs:=[],args:=[],vararg:=none,kwonlyargs:=[],kw_defaults:=[],kwarg:=none,defaults:=[]}
noncomputable def i8 (s:Stmt):List Stmt:=match s with
 | .FunctionDef _ _ b _ _ _ _ _ _ _=>b
 | _=>[]
noncomputable def aw (s:Stmt):Scope:=match s with
 | .FunctionDef _ _ _ _ _ _ sc _ _ _=>sc
 | _=>{kind:=.function,names:=[],isGenerator:=false,isCoroutine:=false}
abbrev CX0:CXT:=fun _ _ _ _ _ _=>False
abbrev E0:XK:=fun _ _ _=>False
theorem Io:Passes CX0 X E0:=fun _ _ _ _ _ _ _ h=>h.elim
structure Fun (K:FR) (x qual:Str) (st:Stmt) (f:Addr) (fd:FuncData):Prop where
 ex:∃(oc:Value) (od:Option Addr) (kV doc pm:Value) (an:Option Addr) (cdv ct:Value) (osl:Array (Option Value)),
  fd=PySem.W.fnOf x qual (mT st) (i8 st) (aw st) .none kV doc pm an cdv ct∧K.lookup f=some ⟨oc,od,.func fd,osl⟩∧PySem.W.codeIn K cdv qual=true
 kp:PySem.W.keepIn K (.ref f)=true
section
variable {P:Program} {w:World} {K:FR} {mg:Str->Option Value} {base:Heap}
theorem Fun.ok {x qual:Str} {st:Stmt} {f:Addr} {fd:FuncData} {N ps:List Str} {k:Nat} {sp:Sp} (F:Fun K x qual st f fd) (S:FnScope N ps (aw st)) (len:∀vs H Q E,sp vs H Q E->vs.length=ps.length)
  (hbody:∀(cdv:Value) (A:Around) (outer:List Env) (s:Shared) (H:Hp) (vs:List V) (Q:VK) (E:XK),Room k (A.deeper (envOfC qual (aw st) s.heap.objs.size f cdv))->sp vs H Q E->
   ∃t,PSs (xU CX0 P w K mg base N qual (aw st) f cdv A outer s H E).nox (i8 st) t∧t {nx:=fun _ H'=>Q .non H',rt:=Q} (start N vs) H):FnOk P w K mg base CX0 (k+1) f fd ps sp:=by
 obtain ⟨oc,od,kV,doc,pm,an,cdv,ct,osl,rfl,lk,hcd⟩:=F.ex;refine IH lk hcd S len fun A outer s H vs Q E hr hsp=>?_;obtain ⟨t,h,q⟩:=hbody cdv A outer s H vs Q E hr hsp;exact ⟨t,h.nox,q⟩
theorem Fun.binds {x qual:Str} {st:Stmt} {f:Addr} {fd:FuncData} {ps:List Str} (F:Fun K x qual st f fd)
  (h:∀(kV doc pm:Value) (an:Option Addr) (cdv ct:Value) (us:List Value),us.length=ps.length->bindArgs (PySem.W.fnOf x qual (mT st) (i8 st) (aw st) .none kV doc pm an cdv ct) ⟨us,[]⟩=pure (ps.zip us)):Binds K fd ps []:=by
 obtain ⟨oc,od,kV,doc,pm,an,cdv,ct,osl,rfl,lk,hcd⟩:=F.ex;exact .all (h kV doc pm an cdv ct)
end
theorem IC (hr:Room k A):A.units+1 < cLine:=Nat.lt_of_le_of_lt (Nat.add_le_add_left (by decide:1≤64) _) hr.units
theorem z8:dG X (.builtin "len") (fun xs H Q=>∃a kvs,xs=[V.ref a]∧H a=some (.dK kvs)∧Q (.int kvs.length) H):=by
 intro pins s σ H xs us Q I r h;obtain ⟨a,kvs,rfl,ha,q⟩:=h;obtain ⟨u,rfl,ru⟩:=vals1 r;cases ru;exact IJ I (.inl ha) fun t s' I'=>⟨.int kvs.length,H,I',⟨t,rfl⟩,q⟩
theorem GP {A B:Prop} (h:B):if false=true then A else B:=by
 rw [if_neg Bool.false_ne_true];exact h
theorem GO {A B:Prop} (h:A):if true=true then A else B:=by
 rw [if_pos rfl];exact h
section
variable {κ:Type} [DecidableEq κ]
end
theorem HOk.off (ok:HOk P w H h) (hC:H C=none) (k:∀b u,b≠C->h.get? b=some u->h'.get? b=some u):HOk P w H h':=by
 intro a o e;have ne:a≠C:=by rintro rfl;rw [hC] at e;cases e
 refine (ok a o e).vf (fun b u hb q=>k b u ?_ q) (fun _ x=>x) (fun _ _ x=>x);rcases hb with rfl | hb
 ·exact ne
 ·rintro rfl;rw [hC] at hb;cases hb
noncomputable def hZ (env:Env):List (Str×NameKind)->List (Str×Addr)->List (Str×Addr)
 | [],acc=>acc
 | (n,k)::r,acc=>if (k==NameKind.free)=true then hZ env r ((n,(env.cells.lookup n).getD 0)::acc) else hZ env r acc
theorem lV (h:∀y∈scope.names,y.2=.free->∃c,env.cells.lookup y.1=some c):closureFor scope env=pure (hZ env scope.names []):=by
 have key:∀(names:List (Str×NameKind)) (acc:List (Str×Addr)),(∀y∈names,y.2=.free->∃c,env.cells.lookup y.1=some c)->
   (forIn names acc (fun (x:Str×NameKind) (r:List (Str×Addr))=>match x with
    | (name,kind)=>if (kind==NameKind.free)=true then do let a←cellOf env name;pure (ForInStep.yield ((name,a)::r)) else pure (ForInStep.yield r)):Sem (List (Str×Addr)))=pure (hZ env names acc):=by
  intro names
  induction names with
  | nil=>intro acc _;rfl
  | cons y r ih=>
   intro acc hy;obtain ⟨n,k⟩:=y;have hr:=fun a=>ih a fun z hz=>hy z (List.mem_cons_of_mem _ hz);rw [List.forIn_cons];unfold hZ
   by_cases hk:(k==NameKind.free)=true
   ·have hk':k=.free:=by simpa using hk
    obtain ⟨c,hc⟩:=hy (n,k) List.mem_cons_self hk';have e:cellOf env n=pure c:=by unfold cellOf;rw [hc]
    simp only [hk,if_true,e,hc,Option.getD_some];exact hr _
   ·simp only [hk,if_false];exact hr _
 have k:=key scope.names [] h;unfold closureFor;dsimp only;rw [k];rfl
theorem oq:∀(names:List (Str×NameKind)) (acc:List (Str×Addr)),(∀y∈names,y.2=.free->∃c,env.cells.lookup y.1=some c)->
  (∀d,acc.lookup x=some d->env.cells.lookup x=some d)->(hZ env names acc).lookup x=some c->env.cells.lookup x=some c
 | [],acc,_,ha,h=>ha c h
 | (n,k)::r,acc,hy,ha,h=>by
  unfold hZ at h;have hr:=fun z hz=>hy z (List.mem_cons_of_mem _ hz)
  by_cases hk:(k==NameKind.free)=true
  ·rw [if_pos hk] at h;refine oq r _ hr (fun d hd=>?_) h;have hk':k=.free:=by simpa using hk
   obtain ⟨c',hc⟩:=hy (n,k) List.mem_cons_self hk';rw [List.lookup_cons] at hd;cases hx:x==n with
   | true=>
    rw [hx] at hd;have e:x=n:=by simpa using hx
    rw [e,hc];rw [hc] at hd;exact hd
   | false=>
    rw [hx] at hd;exact ha d hd
  ·rw [if_neg hk] at h;exact oq r _ hr ha h
theorem qN:∀(names:List (Str×NameKind)) (acc:List (Str×Addr)),(∃c,acc.lookup x=some c)->∃c,(hZ env names acc).lookup x=some c
 | [],_,h=>h
 | (n,k)::r,acc,h=>by
  unfold hZ
  by_cases hk:(k==NameKind.free)=true
  ·rw [if_pos hk];refine qN r _ ?_;rw [List.lookup_cons];cases hx:x==n with
   | true=>exact ⟨_,rfl⟩
   | false=>exact h
  ·rw [if_neg hk];exact qN r _ h
theorem mW:∀(names:List (Str×NameKind)) (acc:List (Str×Addr)),(x,NameKind.free)∈names->∃c,(hZ env names acc).lookup x=some c
 | [],_,h=>by cases h
 | (n,k)::r,acc,h=>by
  unfold hZ;rcases List.mem_cons.mp h with e | h'
  ·injection e with e1 e2
   subst e1 e2;rw [if_pos (by rfl)];refine qN r _ ⟨(env.cells.lookup x).getD 0,?_⟩;rw [List.lookup_cons,beq_self_eq_true]
  ·by_cases hk:(k==NameKind.free)=true
   ·rw [if_pos hk];exact mW r _ h'
   ·rw [if_neg hk];exact mW r _ h'
theorem iP {env:Env}:∀{names:List (Str×NameKind)} {x:Str} {j:NameKind},
  (names.map fun (n,k)=>if (k==NameKind.free&&env.scope.kind==.function&&env.kindOf n==some .cell) then (n,NameKind.cell) else (n,k)).lookup x=some j->
  ∃k,names.lookup x=some k∧(j=k∨(k=.free∧j=.cell))
 | [],_,_,h=>by simp at h
 | (n,k)::r,x,j,h=>by
  have h':List.lookup x ((if (k==NameKind.free&&env.scope.kind==.function&&env.kindOf n==some .cell)=true then (n,NameKind.cell) else (n,k))::_)=some j:=h;rw [List.lookup_cons];cases hx:x==n with
  | true=>
   refine ⟨k,rfl,?_⟩
   by_cases hc:(k==NameKind.free&&env.scope.kind==.function&&env.kindOf n==some .cell)=true
   ·rw [if_pos hc,List.lookup_cons,hx] at h';simp only [Bool.and_eq_true,beq_iff_eq] at hc;exact .inr ⟨hc.1.1,(Option.some.inj h').symm⟩
   ·rw [if_neg hc,List.lookup_cons,hx] at h';exact .inl (Option.some.inj h').symm
  | false=>
   by_cases hc:(k==NameKind.free&&env.scope.kind==.function&&env.kindOf n==some .cell)=true
   ·rw [if_pos hc,List.lookup_cons,hx] at h';exact iP h'
   ·rw [if_neg hc,List.lookup_cons,hx] at h';exact iP h'
theorem iQ {env:Env}:∀{names:List (Str×NameKind)} {x:Str},names.lookup x=some .free->
  (names.map fun (n,k)=>if (k==NameKind.free&&env.scope.kind==.function&&env.kindOf n==some .cell) then (n,NameKind.cell) else (n,k)).lookup x=some .cell∨
  (names.map fun (n,k)=>if (k==NameKind.free&&env.scope.kind==.function&&env.kindOf n==some .cell) then (n,NameKind.cell) else (n,k)).lookup x=some .free
 | [],_,h=>by simp at h
 | (n,k)::r,x,h=>by
  rw [List.map_cons];show List.lookup x ((if (k==NameKind.free&&env.scope.kind==.function&&env.kindOf n==some .cell)=true then (n,NameKind.cell) else (n,k))::_)=_∨List.lookup x ((if (k==NameKind.free&&env.scope.kind==.function&&env.kindOf n==some .cell)=true then (n,NameKind.cell) else (n,k))::_)=_;rw [List.lookup_cons] at h;cases hx:x==n with
  | true=>
   rw [hx] at h;have hk:k=.free:=Option.some.inj h
   by_cases hc:(k==NameKind.free&&env.scope.kind==.function&&env.kindOf n==some .cell)=true
   ·rw [if_pos hc,List.lookup_cons,hx];exact .inl rfl
   ·rw [if_neg hc,List.lookup_cons,hx,hk];exact .inr rfl
  | false=>
   rw [hx] at h
   by_cases hc:(k==NameKind.free&&env.scope.kind==.function&&env.kindOf n==some .cell)=true
   ·rw [if_pos hc,List.lookup_cons,hx];exact iQ h
   ·rw [if_neg hc,List.lookup_cons,hx];exact iQ h
abbrev blk (X:Cx) (N':List Str) (scope:Scope) (C:Addr) (s₃:Shared) (H₃:Hp) (fp:List Addr) (pl:List (Addr×Obj)):Cx:=
 {X with N:=N',s₀:=s₃,H₀:=H₃,env:=compEnvC scope (hZ X.env scope.names []) C X.env,outer:=X.stack,ex:=fp,fn:=fun _=>false,calm:=true,pn:=X.pn++pl,xe:=fun _ _=>False}
structure CompScope (X:Cx) (N':List Str) (caps:List (Option Nat)) (scope:Scope):Prop where
 kind:scope.kind=.function
 nocell:∀y∈scope.names,y.2≠.cell
 names:∀y∈scope.names,y.2=.local->scope.names.lookup y.1=some .local
 caught:∀y∈scope.names,y.2=.free->X.env.kindOf y.1=some .cell∨X.env.kindOf y.1=some .free
 len:caps.length=N'.length
 cap:∀(j i:Nat) (x:Str),caps[j]?=some (some i)->N'[j]?=some x->X.N[i]?=some x∧scope.names.lookup x=some .free
 nd:N'.Nodup
noncomputable def ou (caps:List (Option Nat)) (σ:St):St:=caps.map fun o=>o.bind fun i=>(σ[i]?).join
theorem CompScope.has (S:CompScope X N' caps scope) (ok:X.Ok):∀y∈scope.names,y.2=.free->∃c,X.env.cells.lookup y.1=some c:=fun y hy e=>ok.has y.1 (S.caught y hy e)
theorem CompScope.look (S:CompScope X N' caps scope) (ok:X.Ok) (h:(hZ X.env scope.names []).lookup x=some c):X.env.cells.lookup x=some c:=
 oq scope.names [] (S.has ok) (fun _ z=>by simp at z) h
theorem Inv.block (S:CompScope X N' caps scope) (I:Inv X pins σ H s₃) (hc:X.calm=true) (hf:∀b∈fp,ib X pins H b) (hlt:∀b∈fp,b < s₃.heap.objs.size) {h₄:Heap} {t₄:Nat} {m₄:Str->Option Value}
  (hn:h₄.Ns s₃.heap.objs.size m₄) (hk:∀b o,s₃.heap.get? b=some o->h₄.get? b=some o):
  Inv (blk X N' scope s₃.heap.objs.size s₃ H fp pins) [] (ou caps σ) H {s₃ with heap:=h₄,toks:=t₄}:=by
 have ok:=I.ok;have fresh:∀b o,s₃.heap.get? b=some o->b≠s₃.heap.objs.size:=fun b o e=>Nat.ne_of_lt (Heap.lt_size e);have cellOk:∀x c,(hZ X.env scope.names []).lookup x=some c->∃v,s₃.heap.IsCell c v:=fun x c e=>I.cell x c (S.look ok e);refine ⟨⟨ok.mod,?_,ok.glob,ok.blt,Nat.le_refl _,?_,?_,?_,fun _=>ok.hd hc,ok.frames,.inl rfl,?_,I.bs,?_,?_,?_,I.stack,I.yi⟩,rfl,I.bare,Un.kept hk,?_,?_,I.hok.fresh (Nat.le_refl _),?_,?_,I.hok.kept hk,?_⟩
 ·show (relabel scope X.env).kind=.function;exact S.kind
 ·intro x y c h1 h2;exact ok.inj x y c (S.look ok h1) (S.look ok h2)
 ·intro x hx;have hx':(relabel scope X.env).names.lookup x=some .cell∨(relabel scope X.env).names.lookup x=some .free:=hx;have key:∀j,(relabel scope X.env).names.lookup x=some j->j=.cell∨j=.free->∃c,(hZ X.env scope.names []).lookup x=some c:=by
   intro j hj hjk;obtain ⟨k,hk1,hk2⟩:=iP hj;have hm:=PySem.mem_of_lookup hk1;have hkf:k=.free:=by
    rcases hk2 with rfl | ⟨e,_⟩
    ·rcases hjk with rfl | e
     ·exact absurd rfl (S.nocell _ hm)
     ·exact e
    ·exact e
   subst hkf;exact mW scope.names [] hm
  rcases hx' with h | h
  ·exact key _ h (.inl rfl)
  ·exact key _ h (.inr rfl)
 ·intro x c h _;exact absurd (show false=true from h) (by decide)
 ·intro b hb;refine ⟨Nat.ne_of_lt (hlt b hb),fun x c h=>(hf b hb).2.2.2.2.1 x c (S.look ok h)⟩
 ·exact Nat.le_trans ok.bsz I.sz
 ·intro b o e hb;rcases (hf b hb).2.2.2.1 with z | z
  ·exact ok.noex b o e z
  ·exact absurd (Nat.lt_of_lt_of_le (Heap.lt_size e) ok.bsz) (Nat.not_lt.mpr z)
 ·intro b hb z;rcases List.mem_cons.mp (I.nB b z) with e | e
  ·exact (hf b hb).2.1 e
  ·exact (hf b hb).2.2.1 e
 ·refine ⟨m₄,hn,fun j x v e1 e2 e3=>?_⟩;have e2':(caps.map fun o=>o.bind fun i=>(σ[i]?).join)[j]?=some (some v):=e2;rw [List.getElem?_map] at e2';cases hcj:caps[j]? with
  | none=>rw [hcj] at e2';cases e2'
  | some oi=>
   rw [hcj] at e2';have e2'':(oi.bind fun i=>(σ[i]?).join)=some v:=Option.some.inj e2';cases oi with
   | none=>cases e2''
   | some i=>
    have hσ:(σ[i]?).join=some v:=e2'';have hσ':σ[i]?=some (some v):=by
     cases hs:σ[i]? with
     | none=>rw [hs] at hσ;cases hσ
     | some w=>rw [hs] at hσ;rw [show w=some v from hσ]
    obtain ⟨hX,hfr⟩:=S.cap j i x hcj e1;obtain ⟨m,_,hl⟩:=I.loc;have hcgt:=S.caught _ (PySem.mem_of_lookup hfr) rfl;have hvis:Vis X.env.scope x:=by
     rcases hcgt with z | z
     ·exact .inr (.inl z)
     ·exact .inr (.inr z)
    obtain ⟨u,ru,lk⟩:=hl i x v hX hσ' hvis;refine ⟨u,ru,.inr ⟨?_,?_⟩⟩
    ·exact iQ hfr
    ·obtain ⟨c,hcc⟩:=mW (env:=X.env) scope.names [] (PySem.mem_of_lookup hfr);refine ⟨c,hcc,?_⟩;rcases lk with ⟨z,_⟩ | ⟨_,c',hc',hcell⟩
     ·have z':X.env.kindOf x=some .local:=z;rcases hcgt with q | q
      ·rw [z'] at q;cases q
      ·rw [z'] at q;cases q
     ·have:=S.look I.ok hcc;rw [this] at hc';cases hc';obtain ⟨o,ho,hd⟩:=hcell;exact ⟨o,hk _ _ ho,hd⟩
 ·intro x c h;obtain ⟨v,o,ho,hd⟩:=cellOk x c h;exact ⟨v,o,hk _ _ ho,hd⟩
 ·intro x c h;exact I.freeC x c (S.look ok h)
 ·intro p hp;have hp':p∈X.pn++pins:=by
   rcases List.mem_append.mp hp with z | z
   ·exact z
   ·cases z
  obtain ⟨e,n,ne,nf,d⟩:=I.pin p hp';refine ⟨hk _ _ e,n,fresh _ _ e,fun z=>?_,d⟩;rcases List.mem_cons.mp (I.nB p.1 z) with q | q
  ·exact ne q
  ·exact nf q
 ·show (caps.map _).length=N'.length;rw [List.length_map];exact S.len
theorem Inv.pA (S:CompScope X N' caps scope) (I:Inv X pins σ H s₃) (hf:∀b∈fp,ib X pins H b) (J:Inv (blk X N' scope s₃.heap.objs.size s₃ H fp pins) [] τ H' s') (hs:∀b u,b≠s₃.heap.objs.size->s'.heap.get? b=some u->h''.get? b=some u):Inv X pins σ H' {s' with heap:=h''}:=by
 have hC:H' s₃.heap.objs.size=none:=J.free;have u:Un (frs X.stack) fp H H' s₃.heap h'':=by
  have b:=J.base;have ne:∀x o,s₃.heap.get? x=some o->x≠s₃.heap.objs.size:=fun x o e=>Nat.ne_of_lt (Heap.lt_size e);refine ⟨fun x o e n hx hb=>hs _ _ (ne x o e) (b.keep x o e n hx hb),fun x o e n hx hb=>?_,b.free,fun x o e hb=>?_,b.tups,b.frzs,b.tbls⟩
  ·obtain ⟨sl,q⟩:=b.slot x o e n hx hb;exact ⟨sl,hs _ _ (ne x o e) q⟩
  ·obtain ⟨o',q⟩:=b.there x o e hb;exact ⟨o',hs _ _ (ne x o e) q⟩
 exact I.call' (s':={s' with heap:=h''}) (ch:=fp) J.os u (J.hok.off hC hs) J.bare fun b hb=>⟨(hf b hb).2.2.2.1,(hf b hb).2.1,(hf b hb).2.2.2.2.1,(hf b hb).2.2.2.2.2⟩
def PIf (X:Cx) (ifs:List Expr) (t:TT):Prop:=
 ∀(pins:List (Addr×Obj)) (s:Shared) (σ:St) (H:Hp) (Q:Bool->Hp->Prop),Inv X pins σ H s->t σ H Q->
  wpAny (model X.prog X.w) X.A (forIn ifs true fun c r=>if r=true then do let ok←isTrue c X.env (eval c X.env);pure (ForInStep.yield ok) else pure (ForInStep.yield r)) (TP X pins σ Q) X.xe s
def cg:TT:=fun _ H Q=>Q true H
theorem DB:PIf X [] cg:=fun pins s σ H Q I h=>wpAny_tests_nil ⟨H,I,h⟩
theorem DA (h:PT X c t):PIf X [c] t:=fun pins s σ H Q I q=>wpAny_tests_one (h pins s σ H Q I q)
def IS (J:It) (g:TG) (tc:TT) (te:TE) (l:Addr) (Q:VK) (τ0:St) (H0:Hp):Prop:=
 ∃W:Nat->Nat->St->Hp->Prop,(∃m,W 0 m τ0 H0)∧∀i m τ H2,W i m τ H2->
  (J.stop i H2∧Q (.ref l) H2)∨(J.go i H2∧∃N:St->Hp->Prop,(∀τ' H',N τ' H'->∃m',m' < m∧W (i+1) m' τ' H')∧∀x H',J.yld i H2 x H'->g x τ H' fun τ2 H3=>
   tc τ2 H3 fun b H4=>if b=true then te τ2 H4 fun y H5=>∃xs,H5 l=some (.lst xs)∧xs.length < sizeLine∧N τ2 (upd H5 l (.lst (xs++[y]))) else N τ2 H4)
def Av (caps:List (Option Nat)) (wi:TI) (g:TG) (tc:TT) (te:TE):TE:=fun σ H Q=>wi σ H fun J H1=>∀l,H1 l=none->IS J g tc te l Q (ou caps σ) (upd H1 l (.lst []))
theorem upE (h:wpAny M A t Q (fun _ _=>False) s):wpAny M A t Q E s:=wpAny_mono h (fun _ _ q=>q) fun _ _ f=>f.elim
theorem zY (S:CompScope X N' caps scope) (hc:X.calm=true) (hg:∀C s₃ H₃ fp pl,PG (blk X N' scope C s₃ H₃ fp pl) tg g) (hif:∀C s₃ H₃ fp pl,PIf (blk X N' scope C s₃ H₃ fp pl) ifs tc)
  (he:∀C s₃ H₃ fp pl,PE (blk X N' scope C s₃ H₃ fp pl) elt te) {pins:List (Addr×Obj)} {σ:St} {H3:Hp} {s3:Shared} {h₁:Heap} {t₁:Nat} {m₁:Str->Option Value} {it l:Addr} {fp:List Addr} {tn:Nat->Heap->Prop} {J:It}
  (I3:Inv X pins σ H3 s3) (T:Turn X.prog X.w X.K tg J fp it tn) (st3:tn 0 h₁) (hf3:∀b∈fp,ib X pins H3 b) (hlt3:∀b∈fp,b < s3.heap.objs.size) (hns₁:h₁.Ns s3.heap.objs.size m₁) (keep3:∀b o,s3.heap.get? b=some o->h₁.get? b=some o)
  {Q:VK} {RR:Value->Addr->Result->Shared->Prop} {W:Nat->Nat->St->Hp->Prop} {m0:Nat} (w0:W 0 m0 (ou caps σ) H3) (turn:∀i m τ H2,W i m τ H2->
   (J.stop i H2∧Q (.ref l) H2)∨(J.go i H2∧∃N:St->Hp->Prop,(∀τ' H',N τ' H'->∃m',m' < m∧W (i+1) m' τ' H')∧∀x H',J.yld i H2 x H'->g x τ H' fun τ2 H3=>
    tc τ2 H3 fun b H4=>if b=true then te τ2 H4 fun y H5=>∃xs,H5 l=some (.lst xs)∧xs.length < sizeLine∧N τ2 (upd H5 l (.lst (xs++[y]))) else N τ2 H4))
  (hRR:∀(l C:Addr) (H':Hp) (s':Shared),H' C=none->C≠X.env.locals->X.s₀.heap.objs.size≤C->(∀x c,X.env.cells.lookup x=some c->c≠C)->(∀p∈X.pn++pins,p.1≠C)->(∃m,s'.heap.Ns C m)->Inv X pins σ H' s'->
   (∀h'':Heap,(∀b u,b≠C->s'.heap.get? b=some u->h''.get? b=some u)->Inv X pins σ H' {s' with heap:=h''})->Q (.ref l) H'->RR (.ref l) C (.ok .next) s'):
  codeAny (model X.prog X.w) X.A (.compStart (.ListComp elt [⟨tg,iter,ifs,0⟩] scope pos) 0 (.ref it) (.ref l) (compEnvC scope (hZ X.env scope.names []) s3.heap.objs.size X.env))
   (RR (.ref l) s3.heap.objs.size) {s3 with heap:=h₁,toks:=t₁}:=by
 have J0:Inv (blk X N' scope s3.heap.objs.size s3 H3 fp pins) [] (ou caps σ) H3 {s3 with heap:=h₁,toks:=t₁}:=Inv.block S I3 hc hf3 hlt3 hns₁ keep3;have fpB:∀{H':Hp},(∀b∈fp,H' b=none)->∀b∈fp,ib (blk X N' scope s3.heap.objs.size s3 H3 fp pins) [] H' b:=fun {H'} hn b hb=>by
  obtain ⟨f0,f1,f2,f3,f4,f5⟩:=hf3 b hb;refine ⟨hn b hb,Nat.ne_of_lt (hlt3 b hb),fun z=>?_,.inl hb,fun x c e=>f4 x c (S.look I3.ok e),fun p hp=>?_⟩
  ·rcases List.mem_cons.mp (I3.nB b z) with q | q
   ·exact f1 q
   ·exact f2 q
  ·rcases List.mem_append.mp hp with q | q
   ·exact f5 p q
   ·cases q
 have fin:∀{τ:St} {H':Hp} {s':Shared},Inv (blk X N' scope s3.heap.objs.size s3 H3 fp pins) [] τ H' s'->Q (.ref l) H'->RR (.ref l) s3.heap.objs.size (.ok .next) s':=fun {τ H' s'} J q=>by
  refine hRR _ _ H' s' J.free ?_ ?_ ?_ ?_ ?_ ?_ ?_ q
  ·exact (Nat.ne_of_lt I3.lt).symm
  ·exact I3.sz
  ·intro x c e z;obtain ⟨v,o,ho,_⟩:=I3.cell x c e;exact Nat.ne_of_lt (Heap.lt_size ho) z
  ·intro p hp z;obtain ⟨e,_⟩:=I3.pin p hp;exact Nat.ne_of_lt (Heap.lt_size e) z
  ·obtain ⟨m,hm,_⟩:=J.loc;exact ⟨m,hm⟩
  ·have:=Inv.pA S I3 hf3 J (h'':=s'.heap) fun b u _ e=>e;exact this
  ·exact fun h'' hs=>Inv.pA S I3 hf3 J hs
 have loop:codeAny (model X.prog X.w) X.A (.compLoop (.ListComp elt [⟨tg,iter,ifs,0⟩] scope pos) 0 (.ref it) (.ref l) (compEnvC scope (hZ X.env scope.names []) s3.heap.objs.size X.env))
   (RR (.ref l) s3.heap.objs.size) {s3 with heap:=h₁,toks:=t₁}:=by
  refine codeAny_loop rfl (fun n s'=>∃i τ H',Inv (blk X N' scope s3.heap.objs.size s3 H3 fp pins) [] τ H' s'∧tn i s'.heap∧(∀b∈fp,H' b=none)∧W i n τ H') ?_ m0 ⟨0,_,_,J0,st3,fun b hb=>(hf3 b hb).1,w0⟩;rintro n s4 ⟨i,τ,H4,J4,st4,fr4,w4⟩;show wpAny _ X.A ((compTurn (.ListComp elt [⟨tg,iter,ifs,0⟩] scope pos) 0 (.ref it) (.ref l) (compEnvC scope (hZ X.env scope.names []) s3.heap.objs.size X.env)).onRaise (fun x=>do noteFrame x (compEnvC scope (hZ X.env scope.names []) s3.heap.objs.size X.env);theTreesLotGoes x)) _ _ s4;refine wpAny_noted ?_;rw [compTurn_list];rcases turn i n τ H4 w4 with ⟨stop,qn⟩ | ⟨go,N,hN,step⟩
  ·refine wpAny_bind (wpAny_standAt (wpAny_bind (wpAny_mono (T.done (blk X N' scope s3.heap.objs.size s3 H3 fp pins) rfl rfl rfl rfl i [] s4 τ H4 _ J4 (fpB fr4) st4 stop) (fun r s5 h5=>?_) fun _ _ e=>e)));obtain ⟨hr,J5⟩:=h5;subst hr;exact wpAny_pure (fin J5 qn)
  ·refine wpAny_bind (wpAny_standAt (wpAny_bind (wpAny_mono (T.item (blk X N' scope s3.heap.objs.size s3 H3 fp pins) rfl rfl rfl rfl i [] s4 τ H4 _ J4 (fpB fr4) st4 go) (fun r s5 h5=>?_) fun _ _ e=>e)));obtain ⟨u,hr,h5⟩:=h5;subst hr;refine wpAny_bind (wpAny_mono h5 (fun _ s6 h6=>?_) fun _ _ e=>e);obtain ⟨x,H6,J6,r6,y6,st6,fr6⟩:=h6;have J6':=J6.pinned (fpB fr6) (T.obj _ _ st6);refine wpAny_bind (wpAny_mono (upE (hg _ _ _ _ _ _ s6 τ H6 x u _ J6' r6 (step x H6 y6))) (fun _ s7 h7=>?_) fun _ _ e=>e);obtain ⟨τ7,H7,J7,q7⟩:=h7;have again:∀{τ8:St} {H8:Hp} {s8:Shared},Inv (blk X N' scope s3.heap.objs.size s3 H3 fp pins) ([]++nU fp s6.heap) τ8 H8 s8->N τ8 H8->
     ∃m,m < n∧∃i τ' H',Inv (blk X N' scope s3.heap.objs.size s3 H3 fp pins) [] τ' H' s8∧tn i s8.heap∧(∀b∈fp,H' b=none)∧W i m τ' H':=fun {τ8 H8 s8} J8 n8=>by
    obtain ⟨m',hm,w8⟩:=hN τ8 H8 n8;refine ⟨m',hm,i+1,τ8,H8,J8.jk,T.keep _ _ _ st6 fun b hb o e=>(J8.pin (b,o) (List.mem_append_right _ (List.mem_append_right _ (fv hb e)))).1,fun b hb=>?_,w8⟩;obtain ⟨o,e,d⟩:=T.obj _ _ st6 b hb;exact (J8.pin (b,o) (List.mem_append_right _ (List.mem_append_right _ (fv hb e)))).2.1
   refine wpAny_bind (wpAny_mono (upE (hif _ _ _ _ _ _ s7 τ7 H7 _ J7 q7)) (fun ok s8 h8=>?_) fun _ _ e=>e);obtain ⟨H8,J8,q8⟩:=h8;cases ok with
   | false=>exact wpAny_pure ⟨rfl,again J8 (by simpa using q8)⟩
   | true=>
    have q8':te τ7 H8 fun y H5=>∃xs,H5 l=some (.lst xs)∧xs.length < sizeLine∧N τ7 (upd H5 l (.lst (xs++[y]))):=by simpa using q8
    refine wpAny_bind (wpAny_bind (wpAny_mono (upE (he _ _ _ _ _ _ s8 τ7 H8 _ J8 q8')) (fun y s9 h9=>?_) fun _ _ e=>e));obtain ⟨yv,H9,J9,r9,xs,hx,hz,n9⟩:=h9;refine wpAny_bind (wpAny_mono (upE (sG (X:=blk X N' scope s3.heap.objs.size s3 H3 fp pins) _ s9 τ7 H9 (.ref l) [yv] (.ref l) [y] (fun _ H'=>N τ7 H') J9 rfl (.cons r9 .nil) ⟨_,xs,yv,rfl,rfl,hx,hz,n9⟩)) (fun _ s10 h10=>?_) fun _ _ e=>e);obtain ⟨_,H10,J10,_,n10⟩:=h10;exact wpAny_pure (wpAny_pure ⟨rfl,again J10 n10⟩)
 exact codeAny_compStart_list loop (T.self X.A 0 _ _ _ st3 loop)
theorem qM (S:CompScope X N' caps scope) (hc:X.calm=true) (hg:∀C s₃ H₃ fp pl,PG (blk X N' scope C s₃ H₃ fp pl) tg g) (hif:∀C s₃ H₃ fp pl,PIf (blk X N' scope C s₃ H₃ fp pl) ifs tc)
  (he:∀C s₃ H₃ fp pl,PE (blk X N' scope C s₃ H₃ fp pl) elt te) {pins:List (Addr×Obj)} {σ:St} {H:Hp} {s:Shared} {it:Addr} {fp:List Addr} {tn:Nat->Heap->Prop} {J:It}
  (I:Inv X pins σ H s) (T:Turn X.prog X.w X.K tg J fp it tn) (st:tn 0 s.heap) (hf:∀b∈fp,ib X pins H b) {Q:VK} {RR:Value->Addr->Result->Shared->Prop} {E:Value->Shared->Prop}
  (h:∀l,H l=none->∃W:Nat->Nat->St->Hp->Prop,(∃m,W 0 m (ou caps σ) (upd H l (.lst [])))∧∀i m τ H2,W i m τ H2->
   (J.stop i H2∧Q (.ref l) H2)∨(J.go i H2∧∃N:St->Hp->Prop,(∀τ' H',N τ' H'->∃m',m' < m∧W (i+1) m' τ' H')∧∀x H',J.yld i H2 x H'->g x τ H' fun τ2 H3=>
    tc τ2 H3 fun b H4=>if b=true then te τ2 H4 fun y H5=>∃xs,H5 l=some (.lst xs)∧xs.length < sizeLine∧N τ2 (upd H5 l (.lst (xs++[y]))) else N τ2 H4))
  (hRR:∀(l C:Addr) (H':Hp) (s':Shared),H' C=none->C≠X.env.locals->X.s₀.heap.objs.size≤C->(∀x c,X.env.cells.lookup x=some c->c≠C)->(∀p∈X.pn++pins,p.1≠C)->(∃m,s'.heap.Ns C m)->Inv X pins σ H' s'->
   (∀h'':Heap,(∀b u,b≠C->s'.heap.get? b=some u->h''.get? b=some u)->Inv X pins σ H' {s' with heap:=h''})->Q (.ref l) H'->RR (.ref l) C (.ok .next) s'):
  wpAny (model X.prog X.w) X.A (newList []) (fun acc s₃=>wpAny (model X.prog X.w) X.A (newFunctionEnv scope X.env.globals (hZ X.env scope.names []) [] X.env.qual none .none (some X.env)) (fun cenv s₄=>
   codeAny (model X.prog X.w) X.A (.compStart (.ListComp elt [⟨tg,iter,ifs,0⟩] scope pos) 0 (.ref it) acc {cenv with scope:=relabel scope X.env}) (RR acc cenv.locals) s₄) E s₃) E s:=by
 obtain ⟨W,⟨m0,w0⟩,turn⟩:=h s.heap.objs.size I.fresh;refine wpAny_newObj_type (wpAny_newFunctionEnv S.nocell (by intro y hy;simp at hy) (fun h₁ hns₁ hsb₁=>?_) S.kind);have I3:Inv X pins σ (upd H s.heap.objs.size (.lst [])) {s with heap:=s.heap.push {cls:=.type "list",data:=.seq ([]:List Value).toArray}}:=I.Gx (t':=s.toks) (its:=[]) (ys:=[]) .nil (Nat.zero_le _);have hltf:∀b∈fp,b < s.heap.objs.size:=fun b hb=>by
  obtain ⟨o,e,_⟩:=T.obj 0 _ st b hb;exact Heap.lt_size e
 have hf3:∀b∈fp,ib X pins (upd H s.heap.objs.size (.lst [])) b:=fun b hb=>⟨by rw [aB (Nat.ne_of_lt (hltf b hb))];exact (hf b hb).1,(hf b hb).2⟩;have keep3:∀b o,(s.heap.push {cls:=.type "list",data:=.seq ([]:List Value).toArray}).get? b=some o->h₁.get? b=some o:=fun b o e=>hsb₁.extBut b o (Nat.ne_of_lt (Heap.lt_size e)) (Heap.get?_push_of_some _ e);have st3:tn 0 h₁:=T.keep 0 _ _ st fun b hb o e=>keep3 b o (Heap.get?_push_of_some _ e);have hlt3:∀b∈fp,b < (s.heap.push {cls:=.type "list",data:=.seq ([]:List Value).toArray}).objs.size:=fun b hb=>by
  have:=hltf b hb;rw [Heap.size_push];exact Nat.lt_succ_of_lt this
 exact zY (s3:={s with heap:=s.heap.push {cls:=.type "list",data:=.seq ([]:List Value).toArray}}) S hc hg hif he I3 T st3 hf3 hlt3 hns₁ keep3 w0 turn hRR
theorem Bm (S:CompScope X N' caps scope) (hc:X.calm=true) (hi:PI X tg iter wi) (hg:∀C s₃ H₃ fp pl,PG (blk X N' scope C s₃ H₃ fp pl) tg g) (hif:∀C s₃ H₃ fp pl,PIf (blk X N' scope C s₃ H₃ fp pl) ifs tc)
  (he:∀C s₃ H₃ fp pl,PE (blk X N' scope C s₃ H₃ fp pl) elt te) (hs:∀x,foldedSetIterable iter X.env x=pure x:=by intro _;rfl):PE X (.ListComp elt [⟨tg,iter,ifs,0⟩] scope pos) (Av caps wi g tc te):=by
 intro pins s σ H Q I h;rw [eval_ListComp];refine wpAny_comprehension_free (use:=none) rfl hs (lV (S.has I.ok)) S.kind S.names (thn (hi pins s σ H _ I h) fun v s1 h1=>thn h1 fun itv s2 h2=>?_);obtain ⟨it,fp,tn,J,H2,e,I2,T,st2,f2,hQ⟩:=h2;subst e;refine qM (RR:=fun acc C=>compPost (model X.prog X.w) X.A X.xe none (EP X pins σ Q) acc C) S hc hg hif he I2 T st2 f2 hQ ?_;intro l C H' s' _ _ _ _ _ hm _ hI q;obtain ⟨m,hm⟩:=hm;exact ⟨m,hm,fun h'' hs''=>⟨.ref l,H',hI h'' fun b u hb e=>hs''.extBut b u hb e,rfl,q⟩⟩
theorem Bg (hN:X.N.Nodup) (hi':X.N[i]?=some y) (hy:X.env.scope.names.lookup y=some .local) (S:CompScope X N' caps scope) (hc:X.calm=true) (hi:PI X tg iter wi) (hg:∀C s₃ H₃ fp pl,PG (blk X N' scope C s₃ H₃ fp pl) tg g) (hif:∀C s₃ H₃ fp pl,PIf (blk X N' scope C s₃ H₃ fp pl) ifs tc) (he:∀C s₃ H₃ fp pl,PE (blk X N' scope C s₃ H₃ fp pl) elt te) (hsw:swapsWith (.ListComp elt [⟨tg,iter,ifs,0⟩] scope pos) (some (.Name y py)) spos.line X.env=pure true:=by rfl) (hs:∀x,foldedSetIterable iter X.env x=pure x:=by intro _;rfl):
  PS X (.Assign [.Name y py] (.ListComp elt [⟨tg,iter,ifs,0⟩] scope pos) spos) (yY (Av caps wi g tc te) (oI i)):=by
 intro pins s σ H D I h;rw [exec_Assign_Name_used _ _ _ _ hsw];refine wpAny_bind (wpAny_standAt (wpAny_bind ?_));show wpAny _ X.A (do let _←comprehension (.ListComp elt [⟨tg,iter,ifs,0⟩] scope pos) scope X.env _ (newList []) false (eval iter X.env) (some (assign (.Name y py) X.env))) _ _ s;refine wpAny_bind (wpAny_mono (wpAny_comprehension_free (use:=some (assign (.Name y py) X.env)) (Q:=fun _ s'=>SP X pins D .next s') rfl hs (lV (S.has I.ok)) S.kind S.names
  (thn (hi pins s σ H _ I h) fun v s1 h1=>thn h1 fun itv s2 h2=>?_)) (fun _ s' hq=>wpAny_pure (wpAny_pure hq)) fun _ _ e=>e)
 obtain ⟨it,fp,tn,J,H2,e,I2,T,st2,f2,hQ⟩:=h2;subst e;refine qM (Q:=fun x H1=>oI i x σ H1 D.nx) (RR:=fun acc C=>compPost (model X.prog X.w) X.A X.xe (some (assign (.Name y py) X.env)) (fun _ s'=>SP X pins D .next s') acc C) S hc hg hif he I2 T st2 f2 hQ ?_;intro l C H' s' hC hCL hC0 hCc hCp hm hI0 hI q;obtain ⟨m,hm⟩:=hm;show wpAny _ X.A (assign (.Name y py) X.env (.ref l)) _ _ s';refine wpAny_assign_Name (nA (v:=.ref l) hI0 hN hi' (.inl hy) rfl (fun s5 I5 hch=>?_) (.inr hy));obtain ⟨a,hsa,ha⟩:=hch;have hCa:C≠a:=by
  rcases ha with z | z
  ·rw [z];exact hCL
  ·exact (hCc _ _ z).symm
 refine ⟨m,hm.sameBut hsa hCa,fun h'' hs''=>?_⟩;have I6:=I5.turned (t':=s5.toks) (h':=h'') (it:=C) (fun b o hb e=>hs''.extBut b o hb e) hC hCL (.inr hC0) hCc hCp;exact ⟨_,H',I6,q⟩
def IT (_ j:Int):Prop:=0 < j∧j≤10^40
theorem log2_small (h:n≤10^40):n.log2 < 9000:=by
 by_cases h0:n=0
 ·rw [h0];decide
 ·refine (Nat.log2_lt h0).mpr (Nat.lt_of_le_of_lt h ?_);exact Nat.lt_of_lt_of_le (show 10^40 < 2^200 by decide) (Nat.pow_le_pow_right (by decide) (by decide))
theorem Bu:OpR X (binaryOp .FloorDiv) (rI IT fun i j=>.int (i / j)):=opI fun i j _ _ _ _ _ hc q=>by
 have h1:(0:Int) < j:=hc.1;have h2:j≤10^40:=hc.2;exact floordiv_int (by lia) (by rw [Int.fdiv_eq_ediv_of_nonneg i (by lia)];exact q) (.inl (PyProof.noPylong_of_log2 (log2_small (by lia))))
mutual
inductive Rds (K:FR) (H:Hp):V->PyData->Prop where
 | non:Rds K H .non .none
 | bl (b:Bool):Rds K H (.bl b) (.bool b)
 | int (i:Int):Rds K H (.int i) (.int i)
 | str (x:Str):Rds K H (.str x) (.str x)
 | tup {a:Addr} {xs:List V} {ds:List PyData}:SqT K H a xs->RdsL K H xs ds->Rds K H (.ref a) (.tuple ds)
 | lst {a:Addr} {xs:List V} {ds:List PyData}:SqL K H a xs->RdsL K H xs ds->Rds K H (.ref a) (.list ds)
inductive RdsL (K:FR) (H:Hp):List V->List PyData->Prop where
 | nil:RdsL K H [] []
 | cons {x:V} {xs:List V} {d:PyData} {ds:List PyData}:Rds K H x d->RdsL K H xs ds->RdsL K H (x::xs) (d::ds)
end
mutual
theorem Rds.reads (I:Inv X pins σ H s):∀{x:V} {u:Value} {d:PyData},Rds X.K H x d->RelV x u->∃as,Reads s.heap u d as
 | _,_,_,.non,r=>by cases (show _=Value.none from r);exact ⟨_,.none⟩
 | _,_,_,.bl b,r=>by cases (show _=Value.bool b from r);exact ⟨_,.bool b⟩
 | _,_,_,.int i,r=>by obtain ⟨t,e⟩:=(show ∃t,_=Value.int i t from r);cases e;exact ⟨_,.int i t⟩
 | _,_,_,.str x,r=>by obtain ⟨t,e⟩:=(show ∃t,_=Value.str x t from r);cases e;exact ⟨_,.str x t⟩
 | _,_,_,.tup (a:=a) hq hl,r=>by
  cases (show _=Value.ref a from r);obtain ⟨its,rv,⟨o,h1,h2,n,h3⟩,_⟩:=I.tuple hq;obtain ⟨as,q⟩:=RdsL.reads I hl rv;exact ⟨_,.tuple h1 h2 h3 (by simpa using q)⟩
 | _,_,_,.lst (a:=a) hq hl,r=>by
  cases (show _=Value.ref a from r);obtain ⟨its,rv,pl,_⟩:=I.list hq;obtain ⟨o,h1,h2,n,h3⟩:=pl.isList;obtain ⟨as,q⟩:=RdsL.reads I hl rv;exact ⟨_,.list h1 h2 h3 (by simpa using q)⟩
theorem RdsL.reads (I:Inv X pins σ H s):∀{xs:List V} {us:List Value} {ds:List PyData},RdsL X.K H xs ds->Vals xs us->∃as,ReadsAll s.heap us ds as
 | _,_,_,.nil,.nil=>⟨_,.nil⟩
 | _,_,_,.cons h t,.cons r q=>by
  obtain ⟨as,p⟩:=Rds.reads I h r;obtain ⟨bs,p'⟩:=RdsL.reads I t q;exact ⟨_,.cons p p'⟩
end
def Jt:V->Option Int->Option Int->Hp->VK->Prop:=fun x lo hi H Q=>∃z,x=.str z∧z.length≤sizeLine∧Q (.str (Txt.slice z lo hi)) H
theorem Fc:SlR X Jt:=by
 intro pins s σ H x v vl vu lo hi sl Q I rx hs pl pu h;obtain ⟨z,rfl,hz,q⟩:=h;obtain ⟨t,rfl⟩:=(show ∃t,v=Value.str z t from rx);refine ⟨"str",_,F.slot_str_getitem.lookup,typeIs_str _ _ _,?_⟩;obtain ⟨o,h1,h2,h3⟩:=hs;have fin:(Txt.slice z lo hi).length≤sizeLine∧∀t' k,EP X pins σ Q (.str (Txt.slice z lo hi) t') {s with toks:=k}:=⟨Nat.le_trans (Txt.slice_le z _ _) hz,fun t' k=>⟨.str _,H,I.tok k,⟨t',rfl⟩,q⟩⟩;cases pl with
 | none=>
  cases pu with
  | none=>exact wpAny_getItem_str_slice (l:=none) (u:=none) (st:=none) ⟨o,h1,h2,h3⟩ rfl (post_val_or_str fin)
  | int j uj=>exact wpAny_getItem_str_slice (l:=none) (u:=some (j,uj)) (st:=none) ⟨o,h1,h2,h3⟩ rfl (post_val_or_str fin)
 | int i ui=>
  cases pu with
  | none=>exact wpAny_getItem_str_slice (l:=some (i,ui)) (u:=none) (st:=none) ⟨o,h1,h2,h3⟩ rfl (post_val_or_str fin)
  | int j uj=>exact wpAny_getItem_str_slice (l:=some (i,ui)) (u:=some (j,uj)) (st:=none) ⟨o,h1,h2,h3⟩ rfl (post_val_or_str fin)
theorem Cn:dG X (.builtin "isinstance") (fun xs H Q=>∃x n t b,xs=[x,.ty n]∧TyOf X.K H x t∧PySem.W.kitOne X.K t (.type n)=some b∧Q (.bl b) H):=by
 intro pins s σ H xs us Q I r h;obtain ⟨x,n,t,b,rfl,ty,e,q⟩:=h;obtain ⟨u,w',rfl,ru,rw'⟩:=vals2 r;cases (show w'=Value.type n from rw');exact zF I ru ty e fun tk=>⟨.bl b,H,I.tok tk,rfl,q⟩
theorem uy:typeLookup (.type "list") "keys"=pure none:=by rw [typeLookup_type,builtinLookup_eq_fast];kernel_rfl
theorem Gr (hx:s.heap.get? a=some {cls:=.type "list",data:=.seq xs k}) (hA:A.handled=none) (h:∀h' tk,(∀b o,s.heap.get? b=some o->h'.get? b=some o)->Q none {s with heap:=h',toks:=tk}):
  wpAny (model prog w) A (getAttr? (.ref a) "keys") Q E s:=by
 obtain ⟨hp,g,d,tk,os⟩:=s;have hT:∀tk',(⟨hp,g,d,tk',os⟩:Shared).TypeIs (.ref a) "list":=fun _=>⟨_,hx,rfl⟩;have f1:=sub_AttributeError;have f3:=F.slot_list_getattribute.lookup;have f4:=F.slot_list_getattribute.bind (.ref a);have f5:=am_list_getattr_none;unfold getAttr? getAttrBy? getAttrBy
 repeat (any_goals (first | assumption | exact hT _ | ((with_reducible show wpAny _ _ (call (Value.builtin "list.__getattribute__") _ _) _ _ _);refine call_meets F.slot_list_getattribute (hT _) am_entry_list_getattribute (F.args_list_getattribute_2 _ _) (meets_getattribute_miss_list a xs k #[] "keys" _ uy (by decide+kernel) (by decide)) ⟨hx,hA,fun h' tk' e hx'=>?_⟩) | wp_step))
 obtain ⟨t',u',he⟩:=hx'.there;have hE:∀tk',(⟨h',g,d,tk',os⟩:Shared).TypeIs (.ref e) "AttributeError":=fun _=>⟨_,he,rfl⟩;show wpAny _ _ (getattributeRaised _ _ _ _ _ _ _) _ _ _;unfold getattributeRaised
 repeat (any_goals (first | assumption | exact hE _ | wp_step))
 exact h _ _ hx'.keeps
theorem dJ:entryFor table "dict.update.loop"=some Builtin.«dict.update.loop»:=entryFor_of_tree (by kernel_rfl)
theorem bG:plainId "dict.update.loop"=true:=by decide+kernel
abbrev nj (K:FR) (H:Hp):List V->List (Key×V)->Prop:=Paired fun y kv=>∃a,y=.ref a∧SqT K H a [kV kv.1,kv.2]
theorem Paired.at:∀{l₁:List α} {l₂:List β} {i:Nat} {x:α},Paired F l₁ l₂->l₁[i]?=some x->∃y,l₂[i]?=some y∧F x y
 | _,_,_,_,.nil,e=>by simp at e
 | _,_,0,_,.cons r _,e=>by simp at e;subst e;exact ⟨_,rfl,r⟩
 | _,_,i+1,x,.cons _ t,e=>by
  obtain ⟨y,h1,h2⟩:=Paired.at (i:=i) t (by simpa using e);exact ⟨y,by simpa using h1,h2⟩
theorem oG (kvs more:List (Key×V)) (p:Key×V):aX kvs (more++[p])=putK (aX kvs more) p.1 p.2:=by
 unfold aX;rw [List.foldl_append];rfl
theorem zT (hA:A.handled=none) (hp:H p=some (.lst ys)) (hr:nj X.K H ys kvs) (hl:ys.length≤1000000) (hd:H d=none) (hit:it≠X.env.locals∧(it∈X.ex∨X.s₀.heap.objs.size≤it)∧(∀x c,X.env.cells.lookup x=some c->c≠it)∧∀q∈X.pn++pins,q.1≠it) (hin:H it=none) (hid:it≠d) (h:∀s',Inv X pins σ (upd H d (.dK (aX [] kvs))) s'->R (.ok (.ret .none)) s'):∀(n i:Nat) (s:Shared),kvs.length-i=n->i≤kvs.length->s.heap.IsListIter it p i->Inv X pins σ (upd H d (.dK (aX [] (kvs.take i)))) s->
   codeAny (model X.prog X.w) A (.builtin "dict.update.loop" ⟨[.ref d,.ref it,rawInt i,.none],[]⟩) R s:=by
 have hlen:=Paired.length hr;have npd:p≠d:=aO hp hd;have hsz:sizeLine≥1000001:=by decide
 intro n
 induction n with
 | zero=>
  intro i s hn hi st I;have ei:i=kvs.length:=by lia
  refine codeAny_builtin dJ ?_;rw [Around.under_plainId bG _];have hq:SqL X.K (upd H d (.dK (aX [] (kvs.take i)))) p ys:=SqL.of (by rw [aB npd];exact hp);obtain ⟨its,rv,pl,hz⟩:=I.list hq;have hl':=rv.length;show wpAny _ _ (pyNext (.ref it) >>=_) _ _ s;refine wpAny_bind (wpAny_pyNext_list_end hA st pl.isList (by simp;lia) fun h' eb=>?_);show wpAny _ _ (Builtin.Dict.addKeywords d [] >>=fun _=>ret .none) _ _ _;have I':=I.turned (t':=s.toks) (h':=h') (it:=it) (fun b o hb e=>eb b o hb e) (by rw [aB hid];exact hin) hit.1 hit.2.1 hit.2.2.1 hit.2.2.2;refine wpAny_bind (wpAny_pure (wpAny_pure ?_));rw [ei,List.take_length] at I';exact h _ I'
 | succ n ih=>
  intro i s hn hi st I;have hi':i < kvs.length:=by lia
  refine codeAny_builtin dJ ?_;rw [Around.under_plainId bG _];have hq:SqL X.K (upd H d (.dK (aX [] (kvs.take i)))) p ys:=SqL.of (by rw [aB npd];exact hp);obtain ⟨its,rv,pl,hz⟩:=I.list hq;have hyi:ys[i]?=some (ys[i]'(by lia)):=List.getElem?_eq_getElem _;generalize ys[i]'(by lia)=y at hyi;obtain ⟨u,hu,ru⟩:=rv.get hyi;obtain ⟨kv,hk,a,ea,hta⟩:=Paired.at hr hyi;subst ea;cases (show u=Value.ref a from ru);show wpAny _ _ (pyNext (.ref it) >>=_) _ _ s;refine wpAny_bind (wpAny_pyNext_list_item st pl.isList (x:=.ref a) (by simpa using hu) fun h' st' sb=>?_);have I':=I.turned (t':=s.toks) (h':=h') (it:=it) (fun b o hb e=>(sb.2 b hb).trans e) (by rw [aB hid];exact hin) hit.1 hit.2.1 hit.2.2.1 hit.2.2.2;have hta':SqT X.K (upd H d (.dK (aX [] (kvs.take i)))) a [kV kv.1,kv.2]:=by
   rcases hta with hta | hta
   ·rcases hta with hta | ⟨o,hta⟩
    ·exact .inl (.inl (by rw [aB (aO hta hd)];exact hta))
    ·exact .inl (.inr ⟨o,by rw [aB (aO hta hd)];exact hta⟩)
   ·exact .inr hta
  obtain ⟨its2,rv2,pt,hz2⟩:=I'.tuple hta';obtain ⟨ku,vu,rfl,rk,rw2⟩:=vals2 rv2;obtain ⟨ot,ht1,ht2,nt,ht3⟩:=id pt;dsimp only;refine wpAny_bind (wpAny_holding ?_);refine wpAny_bind (wpAny_tryCatch ?_);unfold Builtin.Dict.pairItems;refine wpAny_bind (wpAny_typeOf pt.typeIs ?_);rw [if_pos (by decide)];refine wpAny_bind (wpAny_seqItems ht1 ht3 (wpAny_pure ?_));show wpAny _ _ (holding [ku,vu] (dictSet d ku vu)) _ _ _;refine wpAny_holding ?_;have ed:upd H d (.dK (aX [] (kvs.take i))) d=some (.dK (aX [] (kvs.take i))):=aY;obtain ⟨z,hdm,vs,rel,dd⟩:=qJ I'.hok ed;have hz3:vs.length≤sizeLine:=by rw [←rel.length];exact z
  unfold dictSet;refine wpAny_holding (wpAny_bind ((aZ X.prog X.w).pyHash (gu rk) ?_));refine wpAny_dictSetHashed_pairs (hsz:=hz3) (gu rk) dd fun h2 dd' hs=>?_;have he:∃q,h2.get? d=some q:=let ⟨q,_,_,hq,_⟩:=dd';⟨q,hq⟩;have e2:putK (aX [] (kvs.take i)) kv.1 kv.2=aX [] (kvs.take (i+1)):=by
   rw [List.take_succ,hk,←oG];rfl
  have hl2:(putK (aX [] (kvs.take i)) kv.1 kv.2).length≤sizeLine:=by
   rw [e2];have:=fB (kvs.take (i+1)) [];rw [List.length_take] at this;simp only [List.length_nil] at this
   lia
  have I2:=kG (t':=s.toks+1) I' (by rw [ed];exact True.intro) hs he (oo (H':=upd (upd H d (.dK (aX [] (kvs.take i)))) d (.dK (putK (aX [] (kvs.take i)) kv.1 kv.2))) hl2 hdm (rel.put kv.1 rw2) dd');rw [yg,e2] at I2;have hc:((i:Int)+1)=((i+1:Nat):Int):=by push_cast;rfl
  rw [hc];refine wpAny_pure ⟨plainId_quiet bG _,ih (i+1) _ (by lia) (by lia) ?_ I2⟩;obtain ⟨oi,e1,e2,e3⟩:=st';exact ⟨oi,hs.extBut _ _ hid e1,e2,e3⟩
theorem qR (hc:X.calm=true):dG X (.type "dict") (fun xs H Q=>∃p ys kvs,xs=[.ref p]∧H p=some (.lst ys)∧nj X.K H ys kvs∧ys.length≤1000000∧∀q,H q=none->Q (.ref q) (upd H q (.dK (aX [] kvs)))):=by
 intro pins s σ H xs us Q I r h;obtain ⟨p,ys,kvs,rfl,hp,hr,hl,q⟩:=h;obtain ⟨u,rfl,ru⟩:=vals1 r;cases (show u=Value.ref p from ru);refine callType_codes (Q₁:=fun obj s₁=>obj=.ref s.heap.objs.size∧s₁={s with heap:=s.heap.push {cls:=.type "dict",data:=.dict #[]}}) F.kt_called_dict (F.kt_typeCall_dict_1 _) F.entry_dict_init (kt_code_dict_new _ ⟨rfl,rfl⟩) ?_;rintro obj s₁ ⟨rfl,rfl⟩;have hd:H s.heap.objs.size=none:=I.fresh;have hnew:(s.heap.push {cls:=.type "dict",data:=.dict #[]}).DictOf (aZ X.prog X.w) s.heap.objs.size []:=Heap.DictOf.new s.heap;have I1:Inv X pins σ (upd H s.heap.objs.size (.dK [])) {s with heap:=s.heap.push {cls:=.type "dict",data:=.dict #[]}}:=I.laid (t':=s.toks) (fun _ _ q=>Heap.get?_push_of_some _ q) (Nat.le_refl _) (j7 s.heap I.big);have npd:p≠s.heap.objs.size:=aO hp hd;refine ⟨hnew.typeIs,F.args_dict_init_2 _ _,?_⟩;obtain ⟨hz,its,n,rv,hx⟩:=I1.hok p _ (show upd H s.heap.objs.size (.dK []) p=some (.lst ys) by rw [aB npd];exact hp);have hA:X.A.handled=none:=I.ok.hd hc;unfold Builtin.«dict.__init__»;refine wpAny_bind ?_;unfold Builtin.Dict.selfAndRest;refine wpAny_bind (wpAny_notOrdered_dict hnew.typeIs ?_);show wpAny _ _ (pure (s.heap.objs.size,[Value.ref p])) _ _ _;refine wpAny_pure ?_;show wpAny _ _ (Builtin.Dict.updateFrom "dict.__init__" s.heap.objs.size (.ref p) [] .none) _ _ _;unfold Builtin.Dict.updateFrom;refine wpAny_bind (wpAny_typeOf (T:="list") ⟨_,hx,rfl⟩ ?_);rw [if_pos (by decide)];refine wpAny_bind (Gr hx (by exact hA) fun h2 tk keep=>?_);have I2:=I1.kept (t':=tk) keep;have hx2:=keep _ _ hx;have hil:h2.IsList p its.toArray:=⟨_,hx2,rfl,_,rfl⟩;simp only [Option.isNone_none,if_true];refine wpAny_bind (wpAny_rule (wpAny_bind (wpAny_pyIter_list hil ?_)));have I3:Inv X pins σ (upd H s.heap.objs.size (.dK [])) {s with heap:=h2.push {cls:=.type "list_iterator",data:=.fields #[.ref p,.int 0 0]},toks:=tk}:=I2.kept (t':=tk) fun b o e=>Heap.get?_push_of_some _ e;have hfp:=I2.uE (b:=h2.objs.size) (H':=upd H s.heap.objs.size (.dK [])) (Nat.le_refl _) (I2.hok.fresh (Nat.le_refl _));obtain ⟨f0,f1,f2,f3,f4,f5⟩:=hfp;have hne:h2.objs.size≠s.heap.objs.size:=by
  intro z;rw [z,aY] at f0;cases f0
 have hin:H h2.objs.size=none:=by rw [aB hne] at f0;exact f0
 refine wpAny_pure ⟨plainId_quiet bG _,?_⟩;exact zT (X:=X) (σ:=σ) (H:=H) (kvs:=kvs) (by exact hA) hp hr hl hd ⟨f1,f3,f4,f5⟩ hin hne (fun s' I'=>⟨rfl,⟨.ref _,_,I',rfl,q _ hd⟩⟩) kvs.length 0 _ (by lia) (Nat.zero_le _) ⟨_,Heap.get?_push_size _ rfl,rfl,rfl⟩ I3
noncomputable def vR (out:List (Str×NameKind)) (N N':List Str) (caps:List (Option Nat)) (scope:Scope):Bool:=
 decide (scope.kind=.function)&&scope.names.all (fun y=>decide (y.2≠.cell))&&scope.names.all (fun y=>!decide (y.2=.local)||decide (scope.names.lookup y.1=some .local))&&
 scope.names.all (fun y=>!decide (y.2=.free)||decide (out.lookup y.1=some .cell)||decide (out.lookup y.1=some .free))&&decide (caps.length=N'.length)&&
 (List.range caps.length).all (fun j=>match caps[j]?,N'[j]? with
  | some (some i),some x=>decide (N[i]?=some x)&&decide (scope.names.lookup x=some .free)
  | _,_=>true)&&decide N'.Nodup
theorem aN (h:vR X.env.scope.names X.N N' caps scope=true):CompScope X N' caps scope:=by
 unfold vR at h;simp only [Bool.and_eq_true,decide_eq_true_eq,List.all_eq_true,Bool.or_eq_true,Bool.not_eq_true',decide_eq_false_iff_not] at h;obtain ⟨⟨⟨⟨⟨⟨h1,h2⟩,h3⟩,h4⟩,h5⟩,h6⟩,h7⟩:=h;refine ⟨h1,h2,fun y hy e=>?_,fun y hy e=>?_,h5,fun j i x hj hx=>?_,h7⟩
 ·rcases h3 y hy with z | z
  ·exact absurd e z
  ·exact z
 ·rcases h4 y hy with (z | z) | z
  ·exact absurd e z
  ·exact .inl z
  ·exact .inr z
 ·have hlt:j < caps.length:=(List.getElem?_eq_some_iff.mp hj).1;have:=h6 j (List.mem_range.mpr hlt);rw [hj,hx] at this;simp only [Bool.and_eq_true,decide_eq_true_eq] at this;exact this
end L2
namespace L2
end L2
namespace L2
open PySem PySem.Spec PyProof.Rows
theorem kl:PyData.strOk x=true↔∀c∈x.cps,c < 0x110000:=by
 unfold PyData.strOk;rw [Array.all_eq_true_iff_forall_mem];simp
theorem y7 (ha:PyData.strOk a=true) (hb:PyData.strOk b=true):PyData.strOk (a++b)=true:=by
 rw [kl] at*;intro c hc;have hc':c∈a.cps++b.cps:=hc;rcases Array.mem_append.mp hc' with z | z
 ·exact ha c z
 ·exact hb c z
theorem ve (l u:Option Int) (h:PyData.strOk x=true):PyData.strOk (Txt.slice x l u)=true:=by
 unfold Txt.slice
 split
 ·exact h
 ·rw [kl] at*;intro c hc;have hc':c∈(List.filterMap (x.cps[·]?) (Builtin.Str.strSliceIndices l u 1 x.length)).toArray:=hc;rw [List.mem_toArray] at hc';obtain ⟨i,_,e⟩:=List.mem_filterMap.mp hc';exact h c (Array.mem_of_getElem? e)
theorem yZ (h:PyData.strOk z=true) (hc:atI z.cps.toList i=some c):PyData.strOk (⟨#[c]⟩:Str)=true:=by
 rw [kl] at*;intro d hd;have e:d=c:=by simpa using hd
 subst e;obtain ⟨j,_,hj,_⟩:=pM hc;exact h d (by have:=List.mem_of_getElem? hj;simpa using this)
theorem entry_all_loop:entryFor table "all.loop"=some Builtin.«all.loop»:=entryFor_of_tree (by kernel_rfl)
theorem plain_all_loop:plainId "all.loop"=true:=by decide+kernel
theorem Cy {A:Around} {pins:List (Addr×Obj)} {σ:St} {H:Hp} {p it:Addr} {bs:List Bool} {R:Result->Shared->Prop} (hA:A.handled=none) (hp:SqL X.K H p (bs.map V.bl))
  (hit:it≠X.env.locals∧(it∈X.ex∨X.s₀.heap.objs.size≤it)∧(∀x c,X.env.cells.lookup x=some c->c≠it)∧∀q∈X.pn++pins,q.1≠it) (hin:H it=none)
  (h:∀s',Inv X pins σ H s'->R (.ok (.ret (.bool (bs.all id)))) s'):∀(n i:Nat) (s:Shared),bs.length-i=n->i≤bs.length->(bs.take i).all id=true->s.heap.IsListIter it p i->Inv X pins σ H s->
   codeAny (model X.prog X.w) A (.builtin "all.loop" ⟨[.ref it],[]⟩) R s:=by
 intro n
 induction n with
 | zero=>
  intro i s hn hi ht st I;have ei:i=bs.length:=by lia
  refine codeAny_builtin entry_all_loop ?_;rw [Around.under_plainId plain_all_loop _];obtain ⟨its,rv,pl,hz⟩:=I.list hp;have hl':=rv.length;rw [List.length_map] at hl';show wpAny _ _ (pyNext (.ref it) >>=_) _ _ s;refine wpAny_bind (wpAny_pyNext_list_end hA st pl.isList (by simp;lia) fun h' eb=>?_);have I':=I.turned (t':=s.toks) (h':=h') (it:=it) (fun b o hb e=>eb b o hb e) hin hit.1 hit.2.1 hit.2.2.1 hit.2.2.2;refine wpAny_bind (wpAny_rule (wpAny_pure ?_));rw [ei,List.take_length] at ht;have:=h _ I';rw [ht] at this;exact this
 | succ n ih=>
  intro i s hn hi ht st I;have hi':i < bs.length:=by lia
  refine codeAny_builtin entry_all_loop ?_;rw [Around.under_plainId plain_all_loop _];obtain ⟨its,rv,pl,hz⟩:=I.list hp;have hyi:(bs.map V.bl)[i]?=some (.bl bs[i]):=by rw [List.getElem?_map,List.getElem?_eq_getElem hi'];rfl
  obtain ⟨u,hu,ru⟩:=rv.get hyi;cases (show u=Value.bool bs[i] from ru);show wpAny _ _ (pyNext (.ref it) >>=_) _ _ s;refine wpAny_bind (wpAny_pyNext_list_item st pl.isList (x:=.bool bs[i]) (by simpa using hu) fun h' st' sb=>?_);have I':=I.turned (t':=s.toks) (h':=h') (it:=it) (fun b o hb e=>(sb.2 b hb).trans e) hin hit.1 hit.2.1 hit.2.2.1 hit.2.2.2;dsimp only;refine wpAny_bind (wpAny_holding (wpAny_truthy_bool ?_));refine wpAny_bind (wpAny_letGo ?_)
  by_cases hb:bs[i]=true
  ·rw [if_pos hb];refine wpAny_pure ⟨plainId_quiet plain_all_loop _,ih (i+1) _ (by lia) (by lia) ?_ st' I'⟩;rw [List.take_succ,List.getElem?_eq_getElem hi',List.all_append,ht,hb];rfl
  ·rw [if_neg hb];refine wpAny_bind (wpAny_rule (wpAny_pure ?_));have:=h _ I';have e:bs.all id=false:=by
    rw [List.all_eq_false];exact ⟨bs[i],List.getElem_mem hi',by simpa using hb⟩
   rw [e] at this;exact this
theorem Co (hc:X.calm=true):dG X (.builtin "all") (fun xs H Q=>∃(p:Addr) (bs:List Bool),xs=[.ref p]∧SqL X.K H p (bs.map V.bl)∧Q (.bl (bs.all id)) H):=by
 intro pins s σ H xs us Q I r h;obtain ⟨p,bs,rfl,hp,q⟩:=h;obtain ⟨u,rfl,ru⟩:=vals1 r;cases (show u=Value.ref p from ru);have hA:X.A.handled=none:=I.ok.hd hc;obtain ⟨its,rv,pl,hz⟩:=I.list hp;refine call_function_tree F.kind_all F.plain_all F.entry_all (F.args_all1 _) ?_;unfold Builtin.«all»;show wpAny _ _ (pyIter (.ref p) >>=_) _ _ s;refine wpAny_bind (wpAny_pyIter_list pl.isList ?_);have I3:Inv X pins σ H {s with heap:=s.heap.push {cls:=.type "list_iterator",data:=.fields #[.ref p,.int 0 0]}}:=I.kept (t':=s.toks) fun b o e=>Heap.get?_push_of_some _ e;obtain ⟨f0,f1,f2,f3,f4,f5⟩:=I.uE (b:=s.heap.objs.size) (H':=H) (Nat.le_refl _) (I.hok.fresh (Nat.le_refl _));refine wpAny_pure ⟨plainId_quiet plain_all_loop _,?_⟩;exact Cy (X:=X) (σ:=σ) (H:=H) (by exact hA) hp ⟨f1,f3,f4,f5⟩ f0 (fun s' I'=>⟨.bl _,H,I',rfl,q⟩) bs.length 0 _ (by lia) (Nat.zero_le _) rfl ⟨_,Heap.get?_push_size _ rfl,rfl,rfl⟩ I3
end L2
namespace Sm
open PySem L2
inductive D where
 | non | bl (b:Bool) | int (i:Int) | str (x:Str) | ty (n:String)
 | tup (xs:List D) | lv (xs:List D) | ro (xs:List D) | dv (kvs:List (Key×D)) | ob (n:Nat)
inductive MO where
 | lst (xs:List D) | dct (kvs:List (Key×D))
abbrev MH:=List MO
abbrev DS:=List (Option D)
abbrev noH:Hp:=fun _=>none
structure Ad where
 ob:List Addr
 rs:List Addr
def Ad.has (ρ:Ad) (a:Addr):Prop:=a∈ρ.ob∨a∈ρ.rs
def TupAt (K:FR) (ρ:Ad) (H:Hp) (a:Addr) (vs:List V):Prop:=(Rd H a (.tup vs)∧¬ρ.has a)∨SqT K noH a vs
def Hi (K:FR) (ρ:Ad) (H:Hp) (a:Addr) (vs:List V):Prop:=(Rd H a (.lst vs)∧¬ρ.has a)∨SqL K noH a vs
mutual
inductive Rep (K:FR) (ρ:Ad) (H:Hp):V->D->Prop where
 | non:Rep K ρ H .non .non
 | bl (b:Bool):Rep K ρ H (.bl b) (.bl b)
 | int (i:Int):Rep K ρ H (.int i) (.int i)
 | str {x:Str} (h:PyData.strOk x=true):Rep K ρ H (.str x) (.str x)
 | ty (n:String):Rep K ρ H (.ty n) (.ty n)
 | tup {a:Addr} {vs:List V} {ds:List D}:TupAt K ρ H a vs->RepL K ρ H vs ds->Rep K ρ H (.ref a) (.tup ds)
 | lv {a:Addr} {vs:List V} {ds:List D}:H a=some (.lst vs)->¬ρ.has a->RepL K ρ H vs ds->Rep K ρ H (.ref a) (.lv ds)
 | ro {a:Addr} {vs:List V} {ds:List D}:Hi K ρ H a vs->RepL K ρ H vs ds->Rep K ρ H (.ref a) (.ro ds)
 | dv {a:Addr} {us:List (Key×V)} {kvs:List (Key×D)}:H a=some (.dK us)->¬ρ.has a->RepK K ρ H us kvs->Rep K ρ H (.ref a) (.dv kvs)
 | ob {a:Addr} {n:Nat}:ρ.ob[n]?=some a->Rep K ρ H (.ref a) (.ob n)
inductive RepL (K:FR) (ρ:Ad) (H:Hp):List V->List D->Prop where
 | nil:RepL K ρ H [] []
 | cons {v:V} {vs:List V} {d:D} {ds:List D}:Rep K ρ H v d->RepL K ρ H vs ds->RepL K ρ H (v::vs) (d::ds)
inductive RepK (K:FR) (ρ:Ad) (H:Hp):List (Key×V)->List (Key×D)->Prop where
 | nil:RepK K ρ H [] []
 | cons {k:Key} {v:V} {vs:List (Key×V)} {d:D} {ds:List (Key×D)}:Rep K ρ H v d->RepK K ρ H vs ds->RepK K ρ H ((k,v)::vs) ((k,d)::ds)
end
structure Ch (ρ:Ad) (H:Hp) (ρ':Ad) (H':Hp):Prop where
 pre:∀(n:Nat) a,ρ.ob[n]?=some a->ρ'.ob[n]?=some a
 old:∀b o,¬ρ.has b->H b=some o->¬ρ'.has b∧H' b=some o
theorem Ch.refl (ρ:Ad) (H:Hp):Ch ρ H ρ H:=⟨fun _ _ e=>e,fun _ _ n e=>⟨n,e⟩⟩
theorem Ch.trans (a:Ch ρ H ρ1 H1) (b:Ch ρ1 H1 ρ2 H2):Ch ρ H ρ2 H2:=
 ⟨fun n x e=>b.pre n x (a.pre n x e),fun x o n e=>let ⟨n',e'⟩:=a.old x o n e;b.old x o n' e'⟩
structure Stp (ρ:Ad) (H:Hp) (ρ':Ad) (H':Hp):Prop extends Ch ρ H ρ' H' where
 rs:ρ'.rs=ρ.rs
 res:∀b∈ρ.rs,H' b=H b
theorem Stp.refl (ρ:Ad) (H:Hp):Stp ρ H ρ H:=⟨.refl _ _,rfl,fun _ _=>rfl⟩
theorem Stp.trans (a:Stp ρ H ρ1 H1) (b:Stp ρ1 H1 ρ2 H2):Stp ρ H ρ2 H2:=
 ⟨a.toCh.trans b.toCh,b.rs.trans a.rs,fun x hx=>(b.res x (by rw [a.rs];exact hx)).trans (a.res x hx)⟩
instance {ρ ρ':Ad} {H H':Hp}:CoeOut (Stp ρ H ρ' H') (Ch ρ H ρ' H'):=⟨Stp.toCh⟩
theorem Ch.rd (S:Ch ρ H ρ' H') (h:Rd H a u) (n:¬ρ.has a):Rd H' a u∧¬ρ'.has a:=by
 rcases h with h | ⟨o,h⟩
 ·obtain ⟨q,e⟩:=S.old a _ n h;exact ⟨.inl e,q⟩
 ·obtain ⟨q,e⟩:=S.old a _ n h;exact ⟨.inr ⟨o,e⟩,q⟩
mutual
theorem Rep.mono (S:Ch ρ H ρ' H'):∀{v:V} {d:D},Rep K ρ H v d->Rep K ρ' H' v d
 | _,_,.non=>.non
 | _,_,.bl b=>.bl b
 | _,_,.int i=>.int i
 | _,_,.str x=>.str x
 | _,_,.ty n=>.ty n
 | _,_,.tup h l=>.tup (h.elim (fun ⟨a,n⟩=>.inl (S.rd a n)) .inr) (RepL.mono S l)
 | _,_,.lv h n l=>let ⟨n',h'⟩:=S.old _ _ n h;.lv h' n' (RepL.mono S l)
 | _,_,.ro h l=>.ro (h.elim (fun ⟨a,n⟩=>.inl (S.rd a n)) .inr) (RepL.mono S l)
 | _,_,.dv h n l=>let ⟨n',h'⟩:=S.old _ _ n h;.dv h' n' (RepK.mono S l)
 | _,_,.ob e=>.ob (S.pre _ _ e)
theorem RepL.mono (S:Ch ρ H ρ' H'):∀{vs:List V} {ds:List D},RepL K ρ H vs ds->RepL K ρ' H' vs ds
 | _,_,.nil=>.nil
 | _,_,.cons h t=>.cons (Rep.mono S h) (RepL.mono S t)
theorem RepK.mono (S:Ch ρ H ρ' H'):∀{vs:List (Key×V)} {ds:List (Key×D)},RepK K ρ H vs ds->RepK K ρ' H' vs ds
 | _,_,.nil=>.nil
 | _,_,.cons h t=>.cons (Rep.mono S h) (RepK.mono S t)
end
theorem RepL.length:∀{vs:List V} {ds:List D},RepL K ρ H vs ds->vs.length=ds.length
 | _,_,.nil=>rfl
 | _,_,.cons _ t=>by rw [List.length_cons,List.length_cons,RepL.length t]
theorem RepL.got:∀{vs:List V} {ds:List D} {i:Nat} {d:D},RepL K ρ H vs ds->ds[i]?=some d->∃v,vs[i]?=some v∧Rep K ρ H v d
 | _,_,_,_,.nil,e=>by simp at e
 | _,_,0,_,.cons r _,e=>by simp at e;subst e;exact ⟨_,rfl,r⟩
 | _,_,i+1,d,.cons _ t,e=>by
  obtain ⟨u,h1,h2⟩:=RepL.got (i:=i) (d:=d) t (by simpa using e);exact ⟨u,by simpa using h1,h2⟩
theorem RepL.append:∀{vs ws:List V} {ds es:List D},RepL K ρ H vs ds->RepL K ρ H ws es->RepL K ρ H (vs++ws) (ds++es)
 | _,_,_,_,.nil,s=>s
 | _,_,_,_,.cons r t,s=>.cons r (RepL.append t s)
theorem RepL.take:∀{vs:List V} {ds:List D} (n:Nat),RepL K ρ H vs ds->RepL K ρ H (vs.take n) (ds.take n)
 | _,_,0,_=>.nil
 | _,_,_+1,.nil=>.nil
 | _,_,n+1,.cons r t=>.cons r (RepL.take n t)
theorem RepL.drop:∀{vs:List V} {ds:List D} (n:Nat),RepL K ρ H vs ds->RepL K ρ H (vs.drop n) (ds.drop n)
 | _,_,0,r=>r
 | _,_,_+1,.nil=>.nil
 | _,_,n+1,.cons _ t=>RepL.drop n t
theorem RepL.set (r:Rep K ρ H v d):∀{vs:List V} {ds:List D} (i:Nat),RepL K ρ H vs ds->RepL K ρ H (vs.set i v) (ds.set i d)
 | _,_,_,.nil=>.nil
 | _,_,0,.cons _ t=>.cons r t
 | _,_,i+1,.cons q t=>.cons q (RepL.set r i t)
theorem RepL.snoc (t:RepL K ρ H vs ds) (r:Rep K ρ H v d):RepL K ρ H (vs++[v]) (ds++[d]):=t.append (.cons r .nil)
theorem RepL.isEmpty (t:RepL K ρ H vs ds):vs.isEmpty=ds.isEmpty:=by cases t <;> rfl
theorem TupAt.sq (h:TupAt K ρ H a vs):SqT K H a vs:=by
 rcases h with ⟨h,_⟩ | h
 ·exact .inl h
 ·rcases h with (h | ⟨o,h⟩) | h
  ·cases h
  ·cases h
  ·exact .inr h
theorem Hi.sq (h:Hi K ρ H a vs):SqL K H a vs:=by
 rcases h with ⟨h,_⟩ | h
 ·exact .inl h
 ·rcases h with (h | ⟨o,h⟩) | h
  ·cases h
  ·cases h
  ·exact .inr h
def ObR (K:FR) (ρ:Ad) (H:Hp) (a:Addr):MO->Prop
 | .lst ds=>∃vs,H a=some (.lst vs)∧RepL K ρ H vs ds
 | .dct kvs=>∃us,H a=some (.dK us)∧RepK K ρ H us kvs
structure Sim (K:FR) (ρ:Ad) (h:MH) (H:Hp):Prop where
 len:ρ.ob.length=h.length
 nd:ρ.ob.Nodup
 at_:∀(n:Nat) a o,ρ.ob[n]?=some a->h[n]?=some o->ObR K ρ H a o
 rsv:∀b∈ρ.rs,(∃o,H b=some o)∧b∉ρ.ob
theorem ObR.has (x:ObR K ρ H a o):∃u,H a=some u:=by
 cases o with
 | lst ds=>obtain ⟨vs,e,_⟩:=x;exact ⟨_,e⟩
 | dct ds=>obtain ⟨vs,e,_⟩:=x;exact ⟨_,e⟩
theorem ObR.mono (x:ObR K ρ H a o) (T:Ch ρ H ρ' H') (e:H' a=H a):ObR K ρ' H' a o:=by
 cases o with
 | lst ds=>obtain ⟨vs,x,r⟩:=x;exact ⟨vs,e.trans x,r.mono T⟩
 | dct ds=>obtain ⟨vs,x,r⟩:=x;exact ⟨vs,e.trans x,r.mono T⟩
theorem Sim.mem (S:Sim K ρ h H) (ha:a∈ρ.ob):∃(n:Nat) (o:MO),ρ.ob[n]?=some a∧h[n]?=some o∧ObR K ρ H a o:=by
 obtain ⟨n,hn,e⟩:=List.mem_iff_getElem.mp ha;have hn':n < h.length:=by rw [←S.len];exact hn
 have e1:ρ.ob[n]?=some a:=by rw [List.getElem?_eq_getElem hn,e]
 exact ⟨n,h[n],e1,List.getElem?_eq_getElem hn',S.at_ n a _ e1 (List.getElem?_eq_getElem hn')⟩
theorem Sim.has (S:Sim K ρ h H) (ha:ρ.has a):∃u,H a=some u:=by
 rcases ha with ha | ha
 ·obtain ⟨_,_,_,_,x⟩:=S.mem ha;exact x.has
 ·exact (S.rsv a ha).1
theorem Sim.fresh (S:Sim K ρ h H) (hp:H p=none):¬ρ.has p:=fun m=>by
 obtain ⟨u,e⟩:=S.has m;rw [hp] at e;cases e
theorem Stp.laid (S:Sim K ρ h H) (hp:H p=none):Stp ρ H ρ (upd H p o):=
 ⟨⟨fun _ _ e=>e,fun b u n e=>⟨n,by rw [aB (aO e hp)];exact e⟩⟩,rfl,fun b hb=>by
  obtain ⟨u,e⟩:=(S.rsv b hb).1;rw [aB (aO e hp)]⟩
theorem Sim.same (S:Sim K ρ h H) (T:Stp ρ H ρ H') (k:∀a∈ρ.ob,H' a=H a):Sim K ρ h H':=
 ⟨S.len,S.nd,fun n a o e1 e2=>(S.at_ n a o e1 e2).mono T.toCh (k a (List.mem_of_getElem? e1)),fun b hb=>⟨by rw [T.res b hb];exact (S.rsv b hb).1,(S.rsv b hb).2⟩⟩
theorem Sim.laid (S:Sim K ρ h H) (hp:H p=none):Sim K ρ h (upd H p o):=
 S.same (Stp.laid S hp) fun a ha=>by
  obtain ⟨u,e⟩:=S.has (.inl ha);rw [aB (aO e hp)]
abbrev Ad.more (ρ:Ad) (p:Addr):Ad:=⟨ρ.ob++[p],ρ.rs⟩
theorem Stp.made (S:Sim K ρ h H) (hp:H p=none):Stp ρ H (ρ.more p) (upd H p o):=by
 refine ⟨⟨fun n a e=>?_,fun b u n e=>?_⟩,rfl,(Stp.laid S hp).res⟩
 ·show (ρ.ob++[p])[n]?=_;rw [List.getElem?_append_left (List.getElem?_eq_some_iff.mp e).1];exact e
 ·refine ⟨fun m=>?_,by rw [aB (aO e hp)];exact e⟩;rcases m with m | m
  ·rcases List.mem_append.mp m with m | m
   ·exact n (.inl m)
   ·exact aO e hp (List.mem_singleton.mp m)
  ·exact n (.inr m)
theorem Sim.made (S:Sim K ρ h H) (hp:H p=none) (ho:ObR K (ρ.more p) (upd H p u) p o):Sim K (ρ.more p) (h++[o]) (upd H p u):=by
 refine ⟨by simp [S.len],?_,fun n a x e1 e2=>?_,fun b hb=>?_⟩
 ·show (ρ.ob++[p]).Nodup;rw [List.nodup_append];refine ⟨S.nd,by simp,fun a ha b hb z=>?_⟩;rw [List.mem_singleton.mp hb] at z;exact S.fresh hp (.inl (z ▸ ha))
 ·by_cases hn:n < ρ.ob.length
  ·have e1:(ρ.ob++[p])[n]?=some a:=e1;rw [List.getElem?_append_left hn] at e1;rw [List.getElem?_append_left (by rw [←S.len];exact hn)] at e2;have q:=S.at_ n a x e1 e2;obtain ⟨w,ew⟩:=q.has;exact q.mono (Stp.made S hp).toCh (aB (aO ew hp))
  ·have l1:=(List.getElem?_eq_some_iff.mp e1).1;simp at l1;have hn':n=ρ.ob.length:=by lia
   subst hn';have e1:(ρ.ob++[p])[ρ.ob.length]?=some a:=e1;rw [List.getElem?_append_right (Nat.le_refl _)] at e1;rw [List.getElem?_append_right (by rw [S.len];exact Nat.le_refl _)] at e2;simp at e1;rw [S.len] at e2;simp at e2;subst e1;subst e2;exact ho
 ·obtain ⟨⟨v,e⟩,n⟩:=S.rsv b hb;have z:=aO e hp;refine ⟨⟨v,by rw [aB z];exact e⟩,fun m=>?_⟩;rcases List.mem_append.mp m with m | m
  ·exact n m
  ·exact z (List.mem_singleton.mp m)
theorem Stp.wrote (S:Sim K ρ h H) (ha:a∈ρ.ob):Stp ρ H ρ (upd H a o):=
 ⟨⟨fun _ _ e=>e,fun b u n e=>⟨n,by rw [aB (fun (z:b=a)=>n (.inl (by rw [z];exact ha)))];exact e⟩⟩,rfl,fun b hb=>aB fun (z:b=a)=>(S.rsv b hb).2 (by rw [z];exact ha)⟩
theorem Sim.wrote (S:Sim K ρ h H) (e:ρ.ob[n]?=some a) (ho:ObR K ρ (upd H a u) a o):Sim K ρ (h.set n o) (upd H a u):=by
 have ha:=List.mem_of_getElem? e;have T:Stp ρ H ρ (upd H a u):=Stp.wrote S ha;refine ⟨by rw [List.length_set];exact S.len,S.nd,fun m b x e1 e2=>?_,fun b hb=>⟨by rw [T.res b hb];exact (S.rsv b hb).1,(S.rsv b hb).2⟩⟩
 by_cases hm:n=m
 ·subst hm;have l2:n < h.length:=by rw [←S.len];exact (List.getElem?_eq_some_iff.mp e).1
  rw [e] at e1;cases e1;rw [List.getElem?_set_self l2] at e2;cases e2;exact ho
 ·rw [List.getElem?_set_ne hm] at e2;have q:=S.at_ m b x e1 e2;have hb:b≠a:=by
   intro z;subst z;exact hm ((List.getElem?_inj (List.getElem?_eq_some_iff.mp e).1 S.nd).mp (e.trans e1.symm))
  exact q.mono T.toCh (aB hb)
abbrev Ad.keep (ρ:Ad) (l:Addr):Ad:=⟨ρ.ob,l::ρ.rs⟩
theorem Ch.keep (hl:H l=none):Ch ρ H (ρ.keep l) (upd H l o):=by
 refine ⟨fun n a e=>e,fun b u n e=>⟨fun m=>?_,by rw [aB (aO e hl)];exact e⟩⟩;rcases m with m | m
 ·exact n (.inl m)
 ·rcases List.mem_cons.mp m with m | m
  ·exact aO e hl m
  ·exact n (.inr m)
theorem Sim.keep (S:Sim K ρ h H) (hl:H l=none):Sim K (ρ.keep l) h (upd H l o):=by
 refine ⟨S.len,S.nd,fun n a x e1 e2=>?_,fun b hb=>?_⟩
 ·have q:=S.at_ n a x e1 e2;obtain ⟨w,ew⟩:=q.has;exact q.mono (Ch.keep hl) (aB (aO ew hl))
 ·rcases List.mem_cons.mp hb with rfl | hb
  ·exact ⟨⟨_,aY⟩,fun m=>S.fresh hl (.inl m)⟩
  ·obtain ⟨⟨v,e⟩,n⟩:=S.rsv b hb;exact ⟨⟨v,by rw [aB (aO e hl)];exact e⟩,n⟩
theorem Ch.put (hl:l∈ρ.rs):Ch ρ H ρ (upd H l o):=⟨fun n a e=>e,fun b u n e=>⟨n,by rw [aB (fun (z:b=l)=>n (.inr (by rw [z];exact hl)))];exact e⟩⟩
theorem Sim.put (S:Sim K ρ h H) (hl:l∈ρ.rs):Sim K ρ h (upd H l o):=by
 refine ⟨S.len,S.nd,fun n a x e1 e2=>(S.at_ n a x e1 e2).mono (Ch.put hl) (aB fun (z:a=l)=>(S.rsv l hl).2 (by rw [←z];exact List.mem_of_getElem? e1)),fun b hb=>⟨?_,(S.rsv b hb).2⟩⟩
 by_cases z:b=l
 ·subst z;exact ⟨_,aY⟩
 ·rw [aB z];exact (S.rsv b hb).1
theorem Ch.free {os rs rs':List Addr} {H:Hp} (hs:∀b∈rs',b∈rs):Ch ⟨os,rs⟩ H ⟨os,rs'⟩ H:=⟨fun n a e=>e,fun b u n e=>⟨fun m=>n (m.elim .inl fun m=>.inr (hs b m)),e⟩⟩
theorem Sim.free {os rs rs':List Addr} {H:Hp} (S:Sim K ⟨os,rs⟩ h H) (hs:∀b∈rs',b∈rs):Sim K ⟨os,rs'⟩ h H:=
 ⟨S.len,S.nd,fun n a x e1 e2=>(S.at_ n a x e1 e2).mono (Ch.free hs) rfl,fun b hb=>S.rsv b (hs b hb)⟩
structure RepS (K:FR) (ρ:Ad) (H:Hp) (σ:St) (δ:DS):Prop where
 len:σ.length=δ.length
 at_:∀(i:Nat) d,δ[i]?=some (some d)->∃v,σ[i]?=some (some v)∧Rep K ρ H v d
theorem RepS.mono (R:RepS K ρ H σ δ) (S:Ch ρ H ρ' H'):RepS K ρ' H' σ δ:=⟨R.len,fun i d e=>let ⟨v,a,b⟩:=R.at_ i d e;⟨v,a,b.mono S⟩⟩
theorem RepS.set (R:RepS K ρ H σ δ) (r:Rep K ρ H v d) (i:Nat):RepS K ρ H (σ.set i (some v)) (δ.set i (some d)):=by
 refine ⟨by rw [List.length_set,List.length_set];exact R.len,fun j e he=>?_⟩
 by_cases hij:i=j
 ·subst hij;have hl:i < δ.length:=by
   have:=(List.getElem?_eq_some_iff.mp he).1;rw [List.length_set] at this;exact this
  rw [List.getElem?_set_self hl] at he;cases he;exact ⟨v,by rw [List.getElem?_set_self (by rw [R.len];exact hl)],r⟩
 ·rw [List.getElem?_set_ne hij] at he ⊢;exact R.at_ j e he
abbrev EM:=DS->MH->Option (D×MH)
abbrev TM:=DS->MH->Option (Bool×MH)
abbrev AM:=DS->MH->Option (List D×MH)
inductive Fl where
 | nx | bk | ct | rt (d:D)
abbrev SM:=DS->MH->Option (Fl×DS×MH)
abbrev GM:=D->DS->MH->Option (DS×MH)
abbrev Fn:=List D->MH->Option (D×MH)
inductive PostI (K:FR) (ρ:Ad) (H:Hp) (h':MH) (d:D) (v:V) (H':Hp):Prop where
 | mk (ρ'):Stp ρ H ρ' H'->Sim K ρ' h' H'->Rep K ρ' H' v d->PostI K ρ H h' d v H'
noncomputable def dE (K:FR) (ρ:Ad) (H:Hp) (h':MH) (d:D):VK:=fun v H'=>PostI K ρ H h' d v H'
inductive TMi (K:FR) (m:EM) (σ:L2.St) (H:Hp) (Q:VK):Prop where
 | mk (ρ δ h d h'):RepS K ρ H σ δ->Sim K ρ h H->(m δ h=some (d,h'))->(∀v H',dE K ρ H h' d v H'->Q v H')->TMi K m σ H Q
def tM (K:FR) (m:EM):TE:=fun σ H Q=>TMi K m σ H Q
inductive TMTi (K:FR) (m:TM) (σ:L2.St) (H:Hp) (Q:Bool->Hp->Prop):Prop where
 | mk (ρ δ h b h'):RepS K ρ H σ δ->Sim K ρ h H->(m δ h=some (b,h'))->(∀ρ' H',Stp ρ H ρ' H'->Sim K ρ' h' H'->Q b H')->TMTi K m σ H Q
def tMT (K:FR) (m:TM):TT:=fun σ H Q=>TMTi K m σ H Q
inductive TMAi (K:FR) (m:AM) (σ:L2.St) (H:Hp) (Q:List V->Hp->Prop):Prop where
 | mk (ρ δ h ds h'):RepS K ρ H σ δ->Sim K ρ h H->(m δ h=some (ds,h'))->(∀vs ρ' H',Stp ρ H ρ' H'->Sim K ρ' h' H'->RepL K ρ' H' vs ds->Q vs H')->TMAi K m σ H Q
def tMA (K:FR) (m:AM):TA:=fun σ H Q=>TMAi K m σ H Q
inductive TMSi (K:FR) (m:SM) (E:Ends) (σ:L2.St) (H:Hp):Prop where
 | mk (ρ δ h fl δ' h'):RepS K ρ H σ δ->Sim K ρ h H->(m δ h=some (fl,δ',h'))->(∀ρ' H',Stp ρ H ρ' H'->Sim K ρ' h' H'->
 match fl with
 | .nx=>∀σ',RepS K ρ' H' σ' δ'->E.nx σ' H'
 | .bk=>∀σ',RepS K ρ' H' σ' δ'->E.bk σ' H'
 | .ct=>∀σ',RepS K ρ' H' σ' δ'->E.ct σ' H'
 | .rt d=>∀v,Rep K ρ' H' v d->E.rt v H')->TMSi K m E σ H
def tMS (K:FR) (m:SM):TS:=fun E σ H=>TMSi K m E σ H
inductive TMGi (K:FR) (m:GM) (v:V) (σ:L2.St) (H:Hp) (Q:L2.St->Hp->Prop):Prop where
 | mk (ρ δ h d δ' h'):RepS K ρ H σ δ->Sim K ρ h H->Rep K ρ H v d->(m d δ h=some (δ',h'))->(∀ρ' H' σ',Stp ρ H ρ' H'->Sim K ρ' h' H'->RepS K ρ' H' σ' δ'->Q σ' H')->TMGi K m v σ H Q
def tMG (K:FR) (m:GM):TG:=fun v σ H Q=>TMGi K m v σ H Q
def SE (X:Cx) (e:Expr) (m:EM):Prop:=PE X e (tM X.K m)
def ST (X:Cx) (e:Expr) (m:TM):Prop:=PT X e (tMT X.K m)
def SW (X:Cx) (e:Expr) (m:TM):Prop:=PW X e (tMT X.K m)
def SA (X:Cx) (es:List Expr) (m:AM):Prop:=PA X es (tMA X.K m)
def SS (X:Cx) (s:Stmt) (m:SM):Prop:=PS X s (tMS X.K m)
def SSs (X:Cx) (s:List Stmt) (m:SM):Prop:=PSs X s (tMS X.K m)
def SG (X:Cx) (e:Expr) (m:GM):Prop:=PG X e (tMG X.K m)
theorem _root_.L2.PE.imp (h:PE X e t) (i:∀σ H Q,t' σ H Q->t σ H Q):PE X e t':=fun pins s σ H Q I q=>h pins s σ H Q I (i σ H Q q)
theorem _root_.L2.PT.imp (h:PT X e t) (i:∀σ H Q,t' σ H Q->t σ H Q):PT X e t':=fun pins s σ H Q I q=>h pins s σ H Q I (i σ H Q q)
theorem _root_.L2.PW.imp (h:PW X e t) (i:∀σ H Q,t' σ H Q->t σ H Q):PW X e t':=fun wh pins s σ H Q I q=>h wh pins s σ H Q I (i σ H Q q)
theorem _root_.L2.PA.imp (h:PA X e t) (i:∀σ H Q,t' σ H Q->t σ H Q):PA X e t':=fun pos pins s σ H Q I q=>h pos pins s σ H Q I (i σ H Q q)
theorem _root_.L2.PS.imp (h:PS X e t) (i:∀E σ H,t' E σ H->t E σ H):PS X e t':=fun pins s σ H E I q=>h pins s σ H E I (i E σ H q)
theorem _root_.L2.PSs.imp (h:PSs X e t) (i:∀E σ H,t' E σ H->t E σ H):PSs X e t':=fun pins s σ H E I q=>h pins s σ H E I (i E σ H q)
theorem _root_.L2.PG.imp (h:PG X e t) (i:∀v σ H Q,t' v σ H Q->t v σ H Q):PG X e t':=fun pins s σ H v u Q I r q=>h pins s σ H v u Q I r (i v σ H Q q)
theorem bnd (h:o.bind f=some b):∃a,o=some a∧f a=some b:=Option.bind_eq_some_iff.mp h
theorem mpd (h:o.map f=some b):∃a,o=some a∧f a=b:=Option.map_eq_some_iff.mp h
theorem wC {x:D} {α:Type} {g:Bool->Option α} {z:α} (e:(match x with | .bl c=>g c | _=>none)=some z):∃c,x=.bl c∧g c=some z:=by
 cases x <;> first | exact absurd e (by intro z;cases z) | exact ⟨_,rfl,e⟩
theorem dE.here (S:Sim K ρ h H) (r:Rep K ρ H v d):dE K ρ H h d v H:=⟨ρ,.refl _ _,S,r⟩
theorem dE.step (T:Stp ρ H ρ1 H1) (p:dE K ρ1 H1 h' d v H'):dE K ρ H h' d v H':=let ⟨ρ2,T2,S2,r2⟩:=p;⟨ρ2,T.trans T2,S2,r2⟩
theorem dE.tup (S:Sim K ρ h H) (r:RepL K ρ H vs ds) (hp:H p=none):dE K ρ H h (.tup ds) (.ref p) (upd H p (.tup vs)):=
 ⟨ρ,Stp.laid S hp,S.laid hp,.tup (.inl ⟨.inl aY,S.fresh hp⟩) (r.mono (Stp.laid S hp).toCh)⟩
theorem dE.lv (S:Sim K ρ h H) (r:RepL K ρ H vs ds) (hp:H p=none):dE K ρ H h (.lv ds) (.ref p) (upd H p (.lst vs)):=
 ⟨ρ,Stp.laid S hp,S.laid hp,.lv aY (S.fresh hp) (r.mono (Stp.laid S hp).toCh)⟩
theorem dE.dv (S:Sim K ρ h H) (r:RepK K ρ H us ds) (hp:H p=none):dE K ρ H h (.dv ds) (.ref p) (upd H p (.dK us)):=
 ⟨ρ,Stp.laid S hp,S.laid hp,.dv aY (S.fresh hp) (r.mono (Stp.laid S hp).toCh)⟩
noncomputable def ae (i:Nat):EM:=fun δ h=>(δ[i]?).join.map fun d=>(d,h)
noncomputable def eK (d:D):EM:=fun _ h=>some (d,h)
noncomputable def eOp (f:D->D->MH->Option (D×MH)) (a b:EM):EM:=fun δ h=>(a δ h).bind fun p=>(b δ p.2).bind fun q=>f p.1 q.1 q.2
noncomputable def eUn (f:D->MH->Option (D×MH)) (a:EM):EM:=fun δ h=>(a δ h).bind fun p=>f p.1 p.2
noncomputable def aj:AM:=fun _ h=>some ([],h)
noncomputable def ab (a:EM) (r:AM):AM:=fun δ h=>(a δ h).bind fun p=>(r δ p.2).bind fun q=>some (p.1::q.1,q.2)
noncomputable def eFn (f:Fn) (a:AM):EM:=fun δ h=>(a δ h).bind fun p=>f p.1 p.2
noncomputable def eIf (t:TM) (a b:EM):EM:=fun δ h=>(t δ h).bind fun p=>if p.1 then a δ p.2 else b δ p.2
noncomputable def aA (a:EM):TM:=fun δ h=>(a δ h).bind fun p=>match p.1 with
 | .bl b=>some (b,p.2)
 | _=>none
noncomputable def bz (t:TM):TM:=fun δ h=>(t δ h).map fun p=>(!p.1,p.2)
noncomputable def nv (a b:TM):TM:=fun δ h=>(a δ h).bind fun p=>if p.1 then b δ p.2 else some (false,p.2)
noncomputable def tOr (a b:TM):TM:=fun δ h=>(a δ h).bind fun p=>if p.1 then some (true,p.2) else b δ p.2
noncomputable def j6 (a b:EM):EM:=fun δ h=>(a δ h).bind fun p=>match p.1 with
 | .bl c=>if c then b δ p.2 else some (.bl false,p.2)
 | _=>none
noncomputable def eOr (a b:EM):EM:=fun δ h=>(a δ h).bind fun p=>match p.1 with
 | .bl c=>if c then some (.bl true,p.2) else b δ p.2
 | _=>none
noncomputable def bR:Fn:=fun ds h=>some (.tup ds,h)
inductive RSi (K:FR) (f:D->D->MH->Option (D×MH)) (x y:V) (H:Hp) (Q:VK):Prop where
 | mk (ρ h d e z h'):Sim K ρ h H->Rep K ρ H x d->Rep K ρ H y e->(f d e h=some (z,h'))->(∀v H',dE K ρ H h' z v H'->Q v H')->RSi K f x y H Q
def rS (K:FR) (f:D->D->MH->Option (D×MH)):R2:=fun x y H Q=>RSi K f x y H Q
def OpS (X:Cx) (g:Value->Value->Sem Value) (f:D->D->MH->Option (D×MH)):Prop:=OpR X g (rS X.K f)
inductive RUi (K:FR) (f:D->MH->Option (D×MH)) (x:V) (H:Hp) (Q:VK):Prop where
 | mk (ρ h d z h'):Sim K ρ h H->Rep K ρ H x d->(f d h=some (z,h'))->(∀v H',dE K ρ H h' z v H'->Q v H')->RUi K f x H Q
def rU (K:FR) (f:D->MH->Option (D×MH)):V->Hp->VK->Prop:=fun x H Q=>RUi K f x H Q
inductive RFi (K:FR) (f:Fn) (vs:List V) (H:Hp) (Q:VK):Prop where
 | mk (ρ h ds z h'):Sim K ρ h H->RepL K ρ H vs ds->(f ds h=some (z,h'))->(∀v H',dE K ρ H h' z v H'->Q v H')->RFi K f vs H Q
def rF (K:FR) (f:Fn):List V->Hp->VK->Prop:=fun vs H Q=>RFi K f vs H Q
def eZ (X:Cx) (g:Value) (f:Fn):Prop:=dG X g (rF X.K f)
section
variable {X:Cx} {a b c e:Expr} {es:List Expr} {pos:Pos} {ma mb mc:EM} {mt mu:TM} {m:AM} {f:D->D->MH->Option (D×MH)}
theorem Ff (hN:X.N[i]?=some x) (hv:Vis X.env.scope x) (hd:(x==("__debug__":Str))=false:=by kernel_rfl) (hcd:(x==("__classdict__":Str))=false:=by kernel_rfl):SE X (.Name x pos) (ae i):=
 (FU hN hv hd hcd).imp fun σ H Q ⟨ρ,δ,h,d,h',R,S,e,k⟩=>by
  obtain ⟨d',e1,e2⟩:=mpd e;cases e2;obtain ⟨v,ev,r⟩:=R.at_ i _ (Option.join_eq_some_iff.mp e1);exact ⟨v,ev,k v H (.here S r)⟩
theorem zb (hp:PE X e (tC v)) (hr:∀ρ H,Rep X.K ρ H v d):SE X e (eK d):=hp.imp fun σ H Q ⟨ρ,δ,h,d',h',R,S,ee,k⟩=>by
 cases ee;exact k v H (.here S (hr _ _))
theorem ag {i j}:SE X (.Constant (.int i) j pos) (eK (.int i)):=zb F6 fun _ _=>.int i
theorem br {b j}:SE X (.Constant (.bool b) j pos) (eK (.bl b)):=zb Im fun _ _=>.bl b
theorem g0 {j}:SE X (.Constant .none j pos) (eK .non):=zb F0 fun _ _=>.non
theorem aq {x j} (h:PyData.strOk x=true:=by decide+kernel):SE X (.Constant (.str x) j pos) (eK (.str x)):=zb FX fun _ _=>.str h
theorem HJ (hg:Gl X x) (hm:X.mg x=none) (hv:bootBuiltins x=some (.type n)) (hn:x≠"__name__":=by decide) (hd:(x==("__debug__":Str))=false:=by kernel_rfl):SE X (.Name x pos) (eK (.ty n)):=
 zb (DJ (v:=.ty n) hg hm hv rfl hn hd) fun _ _=>.ty n
theorem CY (hg:Gl X x) (hm:X.mg x=some u) (r:RelV v u) (hr:∀ρ H,Rep X.K ρ H v d) (hd:(x==("__debug__":Str))=false:=by kernel_rfl):SE X (.Name x pos) (eK d):=
 zb (DG hg hm r hd) hr
theorem ym (h:tM X.K (eOp f ma mb) σ H Q):tOp (rS X.K f) (tM X.K ma) (tM X.K mb) σ H Q:=by
 obtain ⟨ρ,δ,h,d,h',R,S,e,k⟩:=h;obtain ⟨⟨x,h1⟩,e1,e⟩:=bnd e;obtain ⟨⟨y,h2⟩,e2,e3⟩:=bnd e;refine ⟨ρ,δ,h,x,h1,R,S,e1,fun v H1 ⟨ρ1,T1,S1,r1⟩=>?_⟩;refine ⟨ρ1,δ,h1,y,h2,R.mono T1,S1,e2,fun u H2 ⟨ρ2,T2,S2,r2⟩=>?_⟩;exact ⟨ρ2,h2,x,y,d,h',S2,r1.mono T2,r2,e3,fun w H3 p=>k w H3 (p.step (T1.trans T2))⟩
theorem aG (ho:OpS X (binaryOp op) f) (ha:SE X a ma) (hb:SE X b mb):SE X (.BinOp a op b pos) (eOp f ma mb):=(EI ho ha hb).imp fun _ _ _=>ym
theorem ck (ho:OpS X (compareOp op) f) (ha:SE X a ma) (hb:SE X b mb) (hm:behindInMarks op b=false):SE X (.Compare a [op] [b] pos) (eOp f ma mb):=(DH ho ha hb hm).imp fun _ _ _=>ym
theorem az {op:CmpOp} (ho:OpS X (compareOp op) f) (ha:SE X a ma) (hb:SE X b mb) (hm:behindInMarks op b=false):ST X (.Compare a [op] [b] pos) (aA (eOp f ma mb)):=
 (Dp ho ha hb hm).imp fun σ H Q ⟨ρ,δ,h,c,h',R,S,e,k⟩=>by
  obtain ⟨⟨x,h1⟩,e1,e2⟩:=bnd e;obtain ⟨c',rfl,e2⟩:=wC e2;cases e2;refine ym ⟨ρ,δ,h,.bl c,h1,R,S,e1,fun v H' ⟨ρ',T,S',r⟩=>?_⟩;cases r;exact ⟨c,rfl,k ρ' H' T S'⟩
theorem oA {op:UnaryOp} {f:D->MH->Option (D×MH)} (ho:UnR X (unaryOp op) (rU X.K f)) (ha:SE X a ma):SE X (.UnaryOp op a pos) (eUn f ma):=(Ii ho ha).imp fun σ H Q ⟨ρ,δ,h,d,h',R,S,e,k⟩=>by
 obtain ⟨⟨x,h1⟩,e1,e⟩:=bnd e;exact ⟨ρ,δ,h,x,h1,R,S,e1,fun v H1 ⟨ρ1,T1,S1,r1⟩=>⟨ρ1,h1,x,d,h',S1,r1,e,fun w H3 p=>k w H3 (p.step T1)⟩⟩
theorem af:SA X [] aj:=xq.imp fun σ H Q ⟨ρ,δ,h,d,h',R,S,e,k⟩=>by
 cases e;exact k [] ρ H (.refl _ _) S .nil
theorem aa (ha:SE X e ma) (hr:SA X es m) (hs:starEach (e::es) X.env=(false,eval e X.env)::starEach es X.env:=by kernel_rfl):SA X (e::es) (ab ma m):=
 (t9 ha hr hs).imp fun σ H Q ⟨ρ,δ,h,d,h',R,S,e,k⟩=>by
  obtain ⟨⟨x,h1⟩,e1,e⟩:=bnd e;obtain ⟨⟨ys,h2⟩,e2,e3⟩:=bnd e;cases e3;refine ⟨ρ,δ,h,x,h1,R,S,e1,fun v H1 ⟨ρ1,T1,S1,r1⟩=>?_⟩;exact ⟨ρ1,δ,h1,ys,h2,R.mono T1,S1,e2,fun vs ρ2 H2 T2 S2 rs=>k _ ρ2 H2 (T1.trans T2) S2 (.cons (r1.mono T2) rs)⟩
def oz (m:AM) (n:Nat):Prop:=∀δ h ds h',m δ h=some (ds,h')->ds.length=n
theorem au:oz aj 0:=fun δ h ds h' e=>by cases e;rfl
theorem ah (hr:oz m n):oz (ab ma m) (n+1):=fun δ h ds h' e=>by
 obtain ⟨⟨x,h1⟩,e1,e⟩:=bnd e;obtain ⟨⟨ys,h2⟩,e2,e3⟩:=bnd e;cases e3;rw [List.length_cons,hr _ _ _ _ e2]
theorem aL {x1} (h:SA X es m) (hl:oz m n) (hn:n≤sizeLine:=by decide):SE X (.Tuple es x1 pos) (eFn bR m):=(FV h).imp fun σ H Q ⟨ρ,δ,h,d,h',R,S,e,k⟩=>by
 obtain ⟨⟨x,h1⟩,e1,e⟩:=bnd e;cases e;refine ⟨ρ,δ,h,x,h1,R,S,e1,fun vs ρ1 H1 T1 S1 r1=>⟨by rw [r1.length,hl _ _ _ _ e1];exact hn,fun p hp=>k _ _ (dE.step T1 (.tup S1 r1 hp))⟩⟩
inductive TFLi (K:FR) (m:AM) (σ:L2.St) (H:Hp) (Q:VK):Prop where
 | mk (ρ δ h ds h'):RepS K ρ H σ δ->Sim K ρ h H->(m δ h=some (ds,h'))->(∀ρ1 H1 p vs,Stp ρ H ρ1 H1->Sim K ρ1 h' H1->H1 p=none->RepL K ρ1 H1 vs ds->Q (.ref p) (upd H1 p (.lst vs)))->TFLi K m σ H Q
def tFL (K:FR) (m:AM):TE:=fun σ H Q=>TFLi K m σ H Q
def SFL (X:Cx) (e:Expr) (m:AM):Prop:=PE X e (tFL X.K m)
noncomputable def eLv (m:AM):EM:=fun δ h=>(m δ h).map fun p=>(.lv p.1,p.2)
noncomputable def eOb (m:AM):EM:=fun δ h=>(m δ h).map fun p=>(.ob p.2.length,p.2++[.lst p.1])
theorem dE.ob (S:Sim K ρ h H) (r:RepL K ρ H vs ds) (hp:H p=none):dE K ρ H (h++[.lst ds]) (.ob h.length) (.ref p) (upd H p (.lst vs)):=
 ⟨ρ.more p,Stp.made S hp,S.made hp ⟨vs,aY,r.mono (Stp.made S hp).toCh⟩,.ob (show (ρ.ob++[p])[h.length]?=_ by rw [←S.len,List.getElem?_append_right (Nat.le_refl _)];simp)⟩
theorem SFL.lv (h:SFL X e m):SE X e (eLv m):=h.imp fun σ H Q ⟨ρ,δ,h,d,h',R,S,e,k⟩=>by
 obtain ⟨⟨ds,h1⟩,e1,e2⟩:=mpd e;cases e2;exact ⟨ρ,δ,h,ds,h1,R,S,e1,fun ρ1 H1 p vs T S1 hp r=>k _ _ (dE.step T (.lv S1 r hp))⟩
theorem SFL.ob (h:SFL X e m):SE X e (eOb m):=h.imp fun σ H Q ⟨ρ,δ,h,d,h',R,S,e,k⟩=>by
 obtain ⟨⟨ds,h1⟩,e1,e2⟩:=mpd e;cases e2;exact ⟨ρ,δ,h,ds,h1,R,S,e1,fun ρ1 H1 p vs T S1 hp r=>k _ _ (dE.step T (.ob S1 r hp))⟩
theorem cj (h:SA X es m) (hl:oz m n) (hn:n≤sizeLine:=by decide):SFL X (.List es pos) m:=(F5 h).imp fun σ H Q ⟨ρ,δ,h,ds,h',R,S,e,k⟩=>
 ⟨ρ,δ,h,ds,h',R,S,e,fun vs ρ1 H1 T1 S1 r1=>⟨by rw [r1.length,hl _ _ _ _ e];exact hn,fun p hp=>k ρ1 H1 p vs T1 S1 hp r1⟩⟩
noncomputable def eDv:EM:=fun _ h=>some (.dv [],h)
noncomputable def eDo:EM:=fun _ h=>some (.ob h.length,h++[.dct []])
theorem HM:SE X (.Dict [] [] pos) eDv:=Bn.imp fun σ H Q ⟨ρ,δ,h,d,h',R,S,e,k⟩ p hp=>by
 cases e;exact k _ _ (.dv S .nil hp)
theorem Dg {σ:St} {H:Hp} {Q:Bool->Hp->Prop} (h:tMT X.K (aA ma) σ H Q):tM X.K ma σ H fun x H1=>∃c,x=.bl c∧Q c H1:=by
 obtain ⟨ρ,δ,h,c,h',R,S,e,k⟩:=h;obtain ⟨⟨x,h1⟩,e1,e2⟩:=bnd e;obtain ⟨c',rfl,e2⟩:=wC e2;cases e2;refine ⟨ρ,δ,h,.bl c,h1,R,S,e1,fun v H' ⟨ρ',T,S',r⟩=>?_⟩;cases r;exact ⟨c,rfl,k ρ' H' T S'⟩
theorem aD (h:ST X a mt):ST X (.UnaryOp .Not a pos) (bz mt):=(FG h).imp fun σ H Q ⟨ρ,δ,h,c,h',R,S,e,k⟩=>by
 obtain ⟨⟨x,h1⟩,e1,e2⟩:=mpd e;cases e2;exact ⟨ρ,δ,h,x,h1,R,S,e1,fun ρ' H' T S'=>k ρ' H' T S'⟩
theorem iD (h:ST X a mt):SW X (.BoolOp .And [a] pos) mt:=Dm h
theorem bu (h:ST X a mt):SW X (.BoolOp .Or [a] pos) mt:=FE h
theorem jl {rest:List Expr} (ha:ST X a mt) (hb:SW X (.BoolOp .And (b::rest) pos) mu):SW X (.BoolOp .And (a::b::rest) pos) (nv mt mu):=(FF ha hb).imp fun σ H Q ⟨ρ,δ,h,c,h',R,S,e,k⟩=>by
 obtain ⟨⟨x,h1⟩,e1,e2⟩:=bnd e;refine ⟨ρ,δ,h,x,h1,R,S,e1,fun ρ' H' T S'=>?_⟩;cases x with
 | true=>rw [if_pos rfl] at e2 ⊢;exact ⟨ρ',δ,h1,c,h',R.mono T,S',e2,fun ρ2 H2 T2 S2=>k ρ2 H2 (T.trans T2) S2⟩
 | false=>rw [if_neg (by simp)] at e2 ⊢;cases e2;exact k ρ' H' T S'
theorem bh {rest:List Expr} (ha:ST X a mt) (hb:SW X (.BoolOp .Or (b::rest) pos) mu):SW X (.BoolOp .Or (a::b::rest) pos) (tOr mt mu):=(Ig ha hb).imp fun σ H Q ⟨ρ,δ,h,c,h',R,S,e,k⟩=>by
 obtain ⟨⟨x,h1⟩,e1,e2⟩:=bnd e;refine ⟨ρ,δ,h,x,h1,R,S,e1,fun ρ' H' T S'=>?_⟩;cases x with
 | false=>rw [if_neg (by simp)] at e2 ⊢;exact ⟨ρ',δ,h1,c,h',R.mono T,S',e2,fun ρ2 H2 T2 S2=>k ρ2 H2 (T.trans T2) S2⟩
 | true=>rw [if_pos rfl] at e2 ⊢;cases e2;exact k ρ' H' T S'
theorem SW.st (h:SW X a mt):ST X a mt:=PW.pt h
theorem eF {op} (h:SE X a ma):SE X (.BoolOp op [a] pos) ma:=FY h
theorem dN {rest:List Expr} (ha:SE X a ma) (hb:SE X (.BoolOp .And (b::rest) pos) mb):SE X (.BoolOp .And (a::b::rest) pos) (j6 ma mb):=(F7 ha hb).imp fun σ H Q ⟨ρ,δ,h,d,h',R,S,e,k⟩=>by
 obtain ⟨⟨x,h1⟩,e1,e2⟩:=bnd e;obtain ⟨c,rfl,e2⟩:=wC e2;refine ⟨ρ,δ,h,.bl c,h1,R,S,e1,fun v H' ⟨ρ',T,S',r⟩=>?_⟩;cases r;refine ⟨c,rfl,?_⟩;cases c with
 | true=>rw [if_pos rfl] at e2 ⊢;exact ⟨ρ',δ,h1,d,h',R.mono T,S',e2,fun v H2 p=>k v H2 (p.step T)⟩
 | false=>rw [if_neg (by simp)] at e2 ⊢;cases e2;exact k _ _ ⟨ρ',T,S',.bl _⟩
theorem HK {rest:List Expr} (ha:SE X a ma) (hb:SE X (.BoolOp .Or (b::rest) pos) mb):SE X (.BoolOp .Or (a::b::rest) pos) (eOr ma mb):=(Ij ha hb).imp fun σ H Q ⟨ρ,δ,h,d,h',R,S,e,k⟩=>by
 obtain ⟨⟨x,h1⟩,e1,e2⟩:=bnd e;obtain ⟨c,rfl,e2⟩:=wC e2;refine ⟨ρ,δ,h,.bl c,h1,R,S,e1,fun v H' ⟨ρ',T,S',r⟩=>?_⟩;cases r;refine ⟨c,rfl,?_⟩;cases c with
 | false=>rw [if_neg (by simp)] at e2 ⊢;exact ⟨ρ',δ,h1,d,h',R.mono T,S',e2,fun v H2 p=>k v H2 (p.step T)⟩
 | true=>rw [if_pos rfl] at e2 ⊢;cases e2;exact k _ _ ⟨ρ',T,S',.bl _⟩
noncomputable def GZ (a:EM):EM:=fun δ h=>(a δ h).bind fun p=>match p.1 with
 | .bl c=>some (.bl (!c),p.2)
 | _=>none
theorem Fg (ha:SE X a ma):SE X (.UnaryOp .Not a pos) (GZ ma):=(FZ ha).imp fun σ H Q ⟨ρ,δ,h,d,h',R,S,e,k⟩=>by
 obtain ⟨⟨x,h1⟩,e1,e2⟩:=bnd e;obtain ⟨c,rfl,e2⟩:=wC e2;cases e2;refine ⟨ρ,δ,h,.bl c,h1,R,S,e1,fun v H' ⟨ρ',T,S',r⟩=>?_⟩;cases r;exact ⟨c,rfl,k _ _ ⟨ρ',T,S',.bl _⟩⟩
noncomputable def An (d:D) (h:MH):Option Bool:=match d with
 | .non=>some false
 | .bl b=>some b
 | .int i=>some (i !=0)
 | .str x=>if x.length≤sizeLine then some ((x.length:Int) !=0) else none
 | .tup xs=>some (!xs.isEmpty)
 | .dv kvs=>some (!kvs.isEmpty)
 | .ob n=>match h[n]? with
  | some (.lst xs)=>some (!xs.isEmpty)
  | some (.dct kvs)=>some (!kvs.isEmpty)
  | none=>none
 | .lv xs=>some (!xs.isEmpty)
 | .ro xs=>some (!xs.isEmpty)
 | .ty _=>none
noncomputable def bK (a:EM):TM:=fun δ h=>(a δ h).bind fun p=>(An p.1 p.2).map fun c=>(c,p.2)
theorem RepK.isEmpty (t:RepK K ρ H us ds):us.isEmpty=ds.isEmpty:=by cases t <;> rfl
theorem CL {K:FR} {ρ:Ad} {H:Hp} {h:MH} {v:V} {d:D} {c:Bool} (S:Sim K ρ h H) (r:Rep K ρ H v d) (e:An d h=some c):Hg K v H c:=by
 cases r with
 | non=>cases e;exact rfl
 | bl b=>cases e;exact rfl
 | int i=>cases e;exact rfl
 | str hs=>
  unfold An at e
  by_cases z:‹Str›.length≤sizeLine
  ·simp only [if_pos z] at e;cases e;exact ⟨z,rfl⟩
  ·simp only [if_neg z] at e;cases e
 | ty n=>cases e
 | tup ht l=>cases e;exact .inr (.inl ⟨_,ht.sq,by rw [l.isEmpty]⟩)
 | lv ht n l=>cases e;exact .inl ⟨_,SqL.of ht,by rw [l.isEmpty]⟩
 | ro ht l=>cases e;exact .inl ⟨_,ht.sq,by rw [l.isEmpty]⟩
 | dv ht n l=>cases e;exact .inr (.inr ⟨_,ht,by rw [l.isEmpty]⟩)
 | ob hn=>
  unfold An at e;rename_i a n;cases q:h[n]? with
  | none=>simp only [q] at e;cases e
  | some o=>
   have x:=S.at_ n a o hn q;cases o with
   | lst ds=>simp only [q] at e;cases e;obtain ⟨vs,e1,l⟩:=x;exact .inl ⟨_,SqL.of e1,by rw [l.isEmpty]⟩
   | dct ds=>simp only [q] at e;cases e;obtain ⟨vs,e1,l⟩:=x;exact .inr (.inr ⟨_,e1,by rw [l.isEmpty]⟩)
theorem aI (ha:SE X a ma) (he:∀whole,isTrue a X.env whole=(do let v←whole;standAt a.pos;holding [v] (truthy v)):=by intro _;kernel_rfl):ST X a (bK ma):=(Bd ha he).imp fun σ H Q ⟨ρ,δ,h,c,h',R,S,e,k⟩=>by
 obtain ⟨⟨x,h1⟩,e1,e2⟩:=bnd e;obtain ⟨c',e3,e4⟩:=mpd e2;cases e4;exact ⟨ρ,δ,h,x,h1,R,S,e1,fun v H' ⟨ρ',T,S',r⟩=>⟨c,CL S' r e3,k ρ' H' T S'⟩⟩
end
mutual
noncomputable def gv:D->D->Bool
 | .non,.non=>true
 | .bl a,.bl b=>a==b
 | .int a,.int b=>a==b
 | .str a,.str b=>decide (a=b)
 | .ty a,.ty b=>a==b
 | .tup a,.tup b=>qV a b
 | .lv a,.lv b=>qV a b
 | .ro a,.ro b=>qV a b
 | .dv a,.dv b=>uV a b
 | .ob a,.ob b=>a==b
 | _,_=>false
noncomputable def qV:List D->List D->Bool
 | [],[]=>true
 | a::r,b::s=>gv a b&&qV r s
 | _,_=>false
noncomputable def uV:List (Key×D)->List (Key×D)->Bool
 | [],[]=>true
 | (k,a)::r,(j,b)::s=>decide (k=j)&&gv a b&&uV r s
 | _,_=>false
end
mutual
theorem yS:∀(a b:D),gv a b=true->a=b
 | .non,b,h=>by cases b <;> first | rfl | simp [gv] at h
 | .bl x,b,h=>by cases b <;> simp [gv] at h;rw [h]
 | .int x,b,h=>by cases b <;> simp [gv] at h;rw [h]
 | .str x,b,h=>by cases b <;> simp [gv] at h;rw [h]
 | .ty x,b,h=>by cases b <;> simp [gv] at h;rw [h]
 | .ob x,b,h=>by cases b <;> simp [gv] at h;rw [h]
 | .tup x,b,h=>by cases b <;> simp [gv] at h;rw [mX _ _ h]
 | .lv x,b,h=>by cases b <;> simp [gv] at h;rw [mX _ _ h]
 | .ro x,b,h=>by cases b <;> simp [gv] at h;rw [mX _ _ h]
 | .dv x,b,h=>by cases b <;> simp [gv] at h;rw [uU _ _ h]
theorem mX:∀(a b:List D),qV a b=true->a=b
 | [],b,h=>by cases b <;> first | rfl | simp [qV] at h
 | x::r,b,h=>by
  cases b with
  | nil=>simp [qV] at h
  | cons y s=>simp [qV] at h;rw [yS _ _ h.1,mX _ _ h.2]
theorem uU:∀(a b:List (Key×D)),uV a b=true->a=b
 | [],b,h=>by cases b <;> first | rfl | simp [uV] at h
 | (k,x)::r,b,h=>by
  cases b with
  | nil=>simp [uV] at h
  | cons y s=>
   obtain ⟨j,y⟩:=y;simp [uV] at h;rw [h.1.1,yS _ _ h.1.2,uU _ _ h.2]
end
mutual
theorem sZ:∀(a:D),gv a a=true
 | .non=>rfl
 | .bl x=>by simp [gv]
 | .int x=>by simp [gv]
 | .str x=>by simp [gv]
 | .ty x=>by simp [gv]
 | .ob x=>by simp [gv]
 | .tup x=>by simp [gv];exact kI x
 | .lv x=>by simp [gv];exact kI x
 | .ro x=>by simp [gv];exact kI x
 | .dv x=>by simp [gv];exact sY x
theorem kI:∀(a:List D),qV a a=true
 | []=>rfl
 | x::r=>by simp [qV];exact ⟨sZ x,kI r⟩
theorem sY:∀(a:List (Key×D)),uV a a=true
 | []=>rfl
 | (k,x)::r=>by simp [uV];exact ⟨sZ x,sY r⟩
end
noncomputable def Eu:MO->MO->Bool
 | .lst a,.lst b=>qV a b
 | .dct a,.dct b=>uV a b
 | _,_=>false
theorem yQ (h:Eu a b=true):a=b:=by
 cases a <;> cases b <;> simp [Eu] at h
 ·rw [mX _ _ h]
 ·rw [uU _ _ h]
noncomputable def x8:MH->MH->Bool
 | [],[]=>true
 | a::r,b::s=>Eu a b&&x8 r s
 | _,_=>false
theorem yR:∀{a b:MH},x8 a b=true->a=b
 | [],b,h=>by cases b <;> first | rfl | simp [x8] at h
 | x::r,b,h=>by
  cases b with
  | nil=>simp [x8] at h
  | cons y s=>simp [x8] at h;rw [yQ h.1,yR h.2]
noncomputable def ba:SM:=fun δ h=>some (.nx,δ,h)
noncomputable def Jh:SM:=fun δ h=>some (.bk,δ,h)
noncomputable def HP:SM:=fun δ h=>some (.ct,δ,h)
noncomputable def ax (a b:SM):SM:=fun δ h=>(a δ h).bind fun r=>match r.1 with
 | .nx=>b r.2.1 r.2.2
 | _=>some r
noncomputable def a9 (i:Nat) (e:EM):SM:=fun δ h=>(e δ h).bind fun p=>some (.nx,δ.set i (some p.1),p.2)
noncomputable def ll (e:EM) (g:GM):SM:=fun δ h=>(e δ h).bind fun p=>(g p.1 δ p.2).bind fun q=>some (.nx,q.1,q.2)
noncomputable def pX (e:EM):SM:=fun δ h=>(e δ h).bind fun p=>some (.nx,δ,p.2)
noncomputable def aF (e:EM):SM:=fun δ h=>(e δ h).bind fun p=>some (.rt p.1,δ,p.2)
noncomputable def sIf (t:TM) (a b:SM):SM:=fun δ h=>(t δ h).bind fun p=>if p.1 then a δ p.2 else b δ p.2
noncomputable def AO (i:Nat) (f:D->D->MH->Option (D×MH)) (e:EM):SM:=fun δ h=>((δ[i]?).join).bind fun x=>(e δ h).bind fun p=>(f x p.1 p.2).bind fun q=>some (.nx,δ.set i (some q.1),q.2)
noncomputable def gN (i:Nat):GM:=fun d δ h=>some (δ.set i (some d),h)
abbrev GMs:=List D->DS->MH->Option (DS×MH)
noncomputable def gJ:GMs:=fun ds δ h=>match ds with
 | []=>some (δ,h)
 | _=>none
noncomputable def bD (g:GM) (u:GMs):GMs:=fun ds δ h=>match ds with
 | []=>none
 | d::r=>(g d δ h).bind fun p=>u r p.1 p.2
noncomputable def gT (n:Nat) (u:GMs):GM:=fun d δ h=>match d with
 | .tup xs=>if xs.length=n then u xs δ h else none
 | _=>none
abbrev W:=List (Nat×MO)
abbrev IM:=DS->MH->Option (List D×W×MH)
noncomputable def chk:W->MH->Bool
 | [],_=>true
 | (n,o)::r,h=>(match h[n]? with | some u=>Eu u o | none=>false)&&chk r h
noncomputable def mN (ws:W) (g:GM) (b:SM):List D->SM
 | [],δ,h=>if chk ws h then some (.nx,δ,h) else none
 | x::r,δ,h=>if chk ws h then (g x δ h).bind fun q=>(b q.1 q.2).bind fun z=>match z.1 with
  | .nx=>mN ws g b r z.2.1 z.2.2
  | .ct=>mN ws g b r z.2.1 z.2.2
  | .bk=>some (.nx,z.2.1,z.2.2)
  | .rt d=>some (.rt d,z.2.1,z.2.2)
  else none
noncomputable def jE (i:IM) (g:GM) (b:SM):SM:=fun δ h=>(i δ h).bind fun p=>mN p.2.1 g b p.1 δ p.2.2
section
variable {X:Cx} {a b c e tg iter:Expr} {es:List Expr} {st:Stmt} {sts rest:List Stmt} {pos:Pos} {ma mb:EM} {mt:TM} {ms mu:SM} {m:AM} {g:GM} {gs:GMs}
theorem ay:SSs X [] ba:=Dr.imp fun E σ H ⟨ρ,δ,h,fl,δ',h',R,S,e,k⟩=>by
 cases e;exact k ρ H (.refl _ _) S σ R
theorem Fq (hh:tMS X.K (ax ms mu) E σ H):Hy (tMS X.K ms) (tMS X.K mu) E σ H:=by
 obtain ⟨ρ,δ,h,fl,δ',h',R,S,e,k⟩:=hh;obtain ⟨⟨f1,δ1,h1⟩,e1,e2⟩:=bnd e;cases f1 with
 | nx=>exact ⟨ρ,δ,h,.nx,δ1,h1,R,S,e1,fun ρ1 H1 T1 S1 σ' R'=>⟨ρ1,δ1,h1,fl,δ',h',R',S1,e2,fun ρ2 H2 T2 S2=>k ρ2 H2 (T1.trans T2) S2⟩⟩
 | bk=>cases e2;exact ⟨ρ,δ,h,.bk,_,_,R,S,e1,fun ρ1 H1 T1 S1=>k ρ1 H1 T1 S1⟩
 | ct=>cases e2;exact ⟨ρ,δ,h,.ct,_,_,R,S,e1,fun ρ1 H1 T1 S1=>k ρ1 H1 T1 S1⟩
 | rt d=>cases e2;exact ⟨ρ,δ,h,.rt d,_,_,R,S,e1,fun ρ1 H1 T1 S1=>k ρ1 H1 T1 S1⟩
theorem ai (h1:SS X st ms) (h2:SSs X rest mu):SSs X (st::rest) (ax ms mu):=(Bf h1 h2).imp fun _ _ _=>Fq
theorem ak (h1:SS X st ms):SSs X [st] ms:=Dq h1
theorem xf (hh:tMS X.K (a9 i ma) E σ H):yY (tM X.K ma) (oI i) E σ H:=by
 obtain ⟨ρ,δ,h,fl,δ',h',R,S,e,k⟩:=hh;obtain ⟨⟨x,h1⟩,e1,e2⟩:=bnd e;cases e2;exact ⟨ρ,δ,h,x,h1,R,S,e1,fun v H1 ⟨ρ1,T1,S1,r1⟩=>k ρ1 H1 T1 S1 _ ((R.mono T1).set r1 i)⟩
theorem E7 (hN:X.N.Nodup) (hi:X.N[i]?=some x) (hx:Loc X.env.scope x) (he:SE X e ma) (hs:swapsWith e (some (.Name x pos')) pos.line X.env=pure false:=by kernel_rfl) (hf:X.fn x=true∨X.env.scope.names.lookup x=some .local:=by first | exact .inl rfl | exact .inr rfl | assumption):SS X (.Assign [.Name x pos'] e pos) (a9 i ma):=(FI hN hi hx he hs hf).imp fun _ _ _=>xf
theorem CV (hN:X.N.Nodup) (hi:X.N[i]?=some x) (hx:Loc X.env.scope x) (hf:X.fn x=true∨X.env.scope.names.lookup x=some .local:=by first | exact .inl rfl | exact .inr rfl | assumption):SG X (.Name x pos) (gN i):=
 (DE hN hi hx hf).imp fun v σ H Q ⟨ρ,δ,h,d,δ',h',R,S,r,e,k⟩=>by
  cases e;exact k ρ H _ (.refl _ _) S (R.set r i)
inductive TMGsi (K:FR) (m:GMs) (vs:List V) (σ:L2.St) (H:Hp) (Q:L2.St->Hp->Prop):Prop where
 | mk (ρ δ h ds δ' h'):RepS K ρ H σ δ->Sim K ρ h H->RepL K ρ H vs ds->(m ds δ h=some (δ',h'))->(∀ρ' H' σ',Stp ρ H ρ' H'->Sim K ρ' h' H'->RepS K ρ' H' σ' δ'->Q σ' H')->TMGsi K m vs σ H Q
noncomputable def Jc (K:FR) (m:GMs):TGs:=fun vs σ H Q=>TMGsi K m vs σ H Q
def SGs (X:Cx) (es:List Expr) (m:GMs):Prop:=PGs X es (Jc X.K m)
theorem _root_.L2.PGs.imp {X:Cx} {e:List Expr} {t t':TGs} (h:PGs X e t) (i:∀v σ H Q,t' v σ H Q->t v σ H Q):PGs X e t':=fun pins s σ H v u Q I r q=>h pins s σ H v u Q I r (i v σ H Q q)
theorem eD:SGs X [] gJ:=DD.imp fun v σ H Q ⟨ρ,δ,h,d,δ',h',R,S,r,e,k⟩=>by
 cases r with
 | nil=>cases e;exact ⟨rfl,k ρ H σ (.refl _ _) S R⟩
 | cons _ _=>cases e
theorem bc (h1:SG X e g) (h2:SGs X es gs) (hs:(assignEach (e::es) X.env).map (·.2)=assign e X.env::(assignEach es X.env).map (·.2):=by kernel_rfl):SGs X (e::es) (bD g gs):=(Bk h1 h2 hs).imp fun v σ H Q ⟨ρ,δ,h,d,δ',h',R,S,r,e,k⟩=>by
 cases r with
 | nil=>cases e
 | cons r rs=>
  obtain ⟨⟨δ1,h1⟩,e1,e2⟩:=bnd e;exact ⟨_,_,rfl,ρ,δ,h,_,δ1,h1,R,S,r,e1,fun ρ1 H1 σ1 T1 S1 R1=>⟨ρ1,δ1,h1,_,δ',h',R1,S1,rs.mono T1,e2,fun ρ2 H2 σ2 T2 S2 R2=>k ρ2 H2 σ2 (T1.trans T2) S2 R2⟩⟩
theorem f9 (hc:X.calm=true) (h:SGs X es gs) (hn:(assignEach es X.env).length=n:=by kernel_rfl) (hst:(assignEach es X.env).findIdx? (·.1)=none:=by kernel_rfl):SG X (.Tuple es k0 pos) (gT n gs):=
 (FQ hc h hn hst).imp fun v σ H Q ⟨ρ,δ,h,d,δ',h',R,S,r,e,k⟩=>by
  cases r <;> first | (exact absurd e (by intro z;cases z)) | skip
  rename_i a vs ds ht l _;unfold gT at e;dsimp only at e
  by_cases z:ds.length=n
  ·rw [if_pos z] at e;exact ⟨a,vs,rfl,ht.sq,by rw [l.length];exact z,ρ,δ,h,ds,δ',h',R,S,l,e,k⟩
  ·rw [if_neg z] at e;cases e
theorem fc (he:SE X e ma) (hg:SG X tg g) (hs:swapsWithSole [tg] e pos.line X.env=pure false:=by kernel_rfl) (hw:swappedStores [tg] e X.env=pure none:=by kernel_rfl)
  (h1:(assignEach [tg] X.env).map (·.2)=[assign tg X.env]:=by kernel_rfl):SS X (.Assign [tg] e pos) (ll ma g):=(FN he hg hs hw h1).imp fun E σ H ⟨ρ,δ,h,fl,δ',h',R,S,e,k⟩=>by
 obtain ⟨⟨x,h1⟩,e1,e2⟩:=bnd e;obtain ⟨⟨δ2,h2⟩,e4,e3⟩:=bnd e2;cases e3;exact ⟨ρ,δ,h,x,h1,R,S,e1,fun v H1 ⟨ρ1,T1,S1,r1⟩=>⟨ρ1,δ,h1,x,_,_,R.mono T1,S1,r1,e4,fun ρ2 H2 σ2 T2 S2 R2=>k ρ2 H2 (T1.trans T2) S2 σ2 R2⟩⟩
theorem md (he:SE X e ma) (hs:swapsWith e none pos.line X.env=pure false:=by kernel_rfl):SS X (.Expr e pos) (pX ma):=(Dt he hs).imp fun E σ H ⟨ρ,δ,h,fl,δ',h',R,S,e,k⟩=>by
 obtain ⟨⟨x,h1⟩,e1,e2⟩:=bnd e;cases e2;exact ⟨ρ,δ,h,x,h1,R,S,e1,fun v H1 ⟨ρ1,T1,S1,r1⟩=>k ρ1 H1 T1 S1 σ (R.mono T1)⟩
theorem ao (he:SE X e ma):SS X (.Return (some e) pos) (aF ma):=(FJ he).imp fun E σ H ⟨ρ,δ,h,fl,δ',h',R,S,e,k⟩=>by
 obtain ⟨⟨x,h1⟩,e1,e2⟩:=bnd e;cases e2;exact ⟨ρ,δ,h,x,h1,R,S,e1,fun v H1 ⟨ρ1,T1,S1,r1⟩=>k ρ1 H1 T1 S1 v r1⟩
theorem aE (hc:ST X c mt) (ha:SSs X sa ms) (hb:SSs X sb mu):SS X (.If c sa sb pos) (sIf mt ms mu):=(Ih hc ha hb).imp fun E σ H ⟨ρ,δ,h,fl,δ',h',R,S,e,k⟩=>by
 obtain ⟨⟨x,h1⟩,e1,e2⟩:=bnd e;refine ⟨ρ,δ,h,x,h1,R,S,e1,fun ρ1 H1 T1 S1=>?_⟩;cases x with
 | true=>rw [if_pos rfl] at e2 ⊢;exact ⟨ρ1,δ,h1,fl,δ',h',R.mono T1,S1,e2,fun ρ2 H2 T2 S2=>k ρ2 H2 (T1.trans T2) S2⟩
 | false=>rw [if_neg (by simp)] at e2 ⊢;exact ⟨ρ1,δ,h1,fl,δ',h',R.mono T1,S1,e2,fun ρ2 H2 T2 S2=>k ρ2 H2 (T1.trans T2) S2⟩
structure ItS (K:FR) (J:It) (ρ:Ad) (H:Hp) (ws:W) (xs:List D):Prop where
 run:∀ρ1 H1 h1,Ch ρ H ρ1 H1->Sim K ρ1 h1 H1->chk ws h1=true->∀i:Nat,(xs.length≤i->J.stop i H1)∧∀x,xs[i]?=some x->J.go i H1∧∀v H2,J.yld i H1 v H2->Stp ρ1 H1 ρ1 H2∧Sim K ρ1 h1 H2∧Rep K ρ1 H2 v x
inductive TMIi (K:FR) (m:IM) (σ:L2.St) (H:Hp) (R:It->Hp->Prop):Prop where
 | mk (ρ δ h xs ws h'):RepS K ρ H σ δ->Sim K ρ h H->(m δ h=some (xs,ws,h'))->(∀J ρ1 H1,Stp ρ H ρ1 H1->Sim K ρ1 h' H1->ItS K J ρ1 H1 ws xs->R J H1)->TMIi K m σ H R
def tMI (K:FR) (m:IM):TI:=fun σ H R=>TMIi K m σ H R
def SI (X:Cx) (tg iter:Expr) (m:IM):Prop:=PI X tg iter (tMI X.K m)
theorem _root_.L2.PI.imp (h:PI X tg e t) (i:∀σ H Q,t' σ H Q->t σ H Q):PI X tg e t':=fun pins s σ H R I q=>h pins s σ H R I (i σ H R q)
theorem Fs (hh:tMS X.K (jE mi g ms) E σ H):HE (tMI X.K mi) (tMG X.K g) (tMS X.K ms) E σ H:=by
 obtain ⟨ρ,δ,h,fl,δ',h',R,S,e,k⟩:=hh;obtain ⟨⟨xs,ws,h1⟩,e1,e2⟩:=bnd e;refine ⟨ρ,δ,h,xs,ws,h1,R,S,e1,fun J ρ1 H1 T1 S1 It=>?_⟩;refine ⟨fun i m σ2 H2=>∃ρ2 δ2 h2,m=xs.length-i∧i≤xs.length∧Stp ρ1 H1 ρ2 H2∧RepS X.K ρ2 H2 σ2 δ2∧Sim X.K ρ2 h2 H2∧mN ws g ms (xs.drop i) δ2 h2=some (fl,δ',h'),⟨_,ρ1,δ,h1,rfl,Nat.zero_le _,.refl _ _,R.mono T1,S1,e2⟩,?_⟩;rintro i m σ2 H2 ⟨ρ2,δ2,h2,rfl,hi,T2,R2,S2,e3⟩;cases q:xs.drop i with
 | nil=>
  rw [q] at e3;unfold mN at e3
  by_cases hc:chk ws h2=true
  ·rw [if_pos hc] at e3;cases e3;have hl:xs.length≤i:=by have:=congrArg List.length q;rw [List.length_drop,List.length_nil] at this;lia
   exact .inl ⟨(It.run ρ2 H2 _ T2 S2 hc i).1 hl,k ρ2 H2 (T1.trans T2) S2 σ2 R2⟩
  ·rw [if_neg hc] at e3;cases e3
 | cons x r=>
  rw [q] at e3;unfold mN at e3
  by_cases hc:chk ws h2=true
  ·rw [if_pos hc] at e3;have hx:xs[i]?=some x:=by
    have:=congrArg (fun l=>l[0]?) q
    simpa using this
   have hlt:i < xs.length:=(List.getElem?_eq_some_iff.mp hx).1;have hr:xs.drop (i+1)=r:=by
    have:=congrArg List.tail q
    simpa using this
   obtain ⟨⟨δ3,h3⟩,e4,e5⟩:=bnd e3;obtain ⟨⟨f4,δ4,h4⟩,e6,e7⟩:=bnd e5;obtain ⟨hgo,hy⟩:=(It.run ρ2 H2 h2 T2 S2 hc i).2 x hx;have NN:∀ρ5 H5 σ5,Stp ρ2 H2 ρ5 H5->Sim X.K ρ5 h4 H5->RepS X.K ρ5 H5 σ5 δ4->mN ws g ms r δ4 h4=some (fl,δ',h')->
     ∃m',m' < xs.length-i∧(∃ρ2 δ2 h2,m'=xs.length-(i+1)∧i+1≤xs.length∧Stp ρ1 H1 ρ2 H5∧RepS X.K ρ2 H5 σ5 δ2∧Sim X.K ρ2 h2 H5∧mN ws g ms (xs.drop (i+1)) δ2 h2=some (fl,δ',h')):=
    fun ρ5 H5 σ5 T5 S5 R5 e8=>⟨xs.length-(i+1),by lia,ρ5,δ4,h4,rfl,hlt,T2.trans T5,R5,S5,by rw [hr];exact e8⟩
   refine .inr ⟨hgo,fun σ5 H5=>∃ρ5,Stp ρ2 H2 ρ5 H5∧Sim X.K ρ5 h4 H5∧RepS X.K ρ5 H5 σ5 δ4∧mN ws g ms r δ4 h4=some (fl,δ',h'),fun σ5 H5 ⟨ρ5,T5,S5,R5,e8⟩=>NN ρ5 H5 σ5 T5 S5 R5 e8,fun v H3 y3=>?_⟩;obtain ⟨T3,S3,r3⟩:=hy v H3 y3;refine ⟨ρ2,δ2,h2,x,δ3,h3,R2.mono T3,S3,r3,e4,fun ρ4 H4 σ4 T4 S4 R4=>?_⟩;refine ⟨ρ4,δ3,h3,f4,δ4,h4,R4,S4,e6,fun ρ5 H5 T5 S5=>?_⟩;have T25:Stp ρ2 H2 ρ5 H5:=T3.trans (T4.trans T5);cases f4 with
   | nx=>exact fun σ' R'=>⟨ρ5,T25,S5,R',e7⟩
   | ct=>exact fun σ' R'=>⟨ρ5,T25,S5,R',e7⟩
   | bk=>cases e7;exact fun σ' R'=>k ρ5 H5 (T1.trans (T2.trans T25)) S5 σ' R'
   | rt d=>cases e7;exact fun v r=>k ρ5 H5 (T1.trans (T2.trans T25)) S5 v r
  ·rw [if_neg hc] at e3;cases e3
theorem eC (hp:PassesOwn (model X.prog X.w) X.A X.env X.xe) (hc:X.calm=true) (hi:SI X tg iter mi) (hg:SG X tg g) (hb:SSs X body ms) (hs:∀x,foldedSetIterable iter X.env x=pure x:=by intro _;kernel_rfl):SS X (.For tg iter body [] pos) (jE mi g ms):=
 (FK hp hc hi hg hb hs).imp fun _ _ _=>Fs
end
end Sm
namespace L2
open PySem PySem.Spec PyProof.Rows
theorem FP (hl:PE X l tl):PI X tg l (fun σ H R=>tl σ H fun x H1=>∃a,x=.ref a∧(((∃xs,SqL X.K H1 a xs)∧R (Itl X.K a) H1)∨((∃xs,SqT X.K H1 a xs)∧R (Itt X.K a) H1))):=by
 intro pins s σ H R I h;refine thn (hl pins s σ H _ I h) fun v s1 ⟨x,H1,I1,r1,q1⟩=>?_;obtain ⟨a,e,q1⟩:=q1;subst e;cases r1;rcases q1 with ⟨⟨xs,hq⟩,q⟩ | ⟨⟨xs,hq⟩,q⟩
 ·obtain ⟨its,rv,p,hz⟩:=I1.list hq;refine wpAny_pyIter_list p.isList ?_;refine ⟨s1.heap.objs.size,[s1.heap.objs.size],_,_,H1,rfl,I1.kept (t':=s1.toks) fun b o e=>Heap.get?_push_of_some _ e,yU a _,⟨_,Heap.get?_push_size _ rfl,rfl,rfl⟩,fun b hb=>?_,q⟩;have e:b=s1.heap.objs.size:=by simpa using hb
  subst e;exact I1.uE (Nat.le_refl _) (I1.hok.fresh (Nat.le_refl _))
 ·obtain ⟨its,rv,p,hz⟩:=I1.tuple hq;refine wpAny_pyIter_tuple (show s1.heap.IsTuple a its.toArray from p) ?_;refine ⟨s1.heap.objs.size,[s1.heap.objs.size],_,_,H1,rfl,I1.kept (t':=s1.toks) fun b o e=>Heap.get?_push_of_some _ e,wJ a _,⟨_,Heap.get?_push_size _ rfl,rfl,rfl⟩,fun b hb=>?_,q⟩;have e:b=s1.heap.objs.size:=by simpa using hb
  subst e;exact I1.uE (Nat.le_refl _) (I1.hok.fresh (Nat.le_refl _))
end L2
namespace Sm
open PySem L2
noncomputable def ej (d:D) (h:MH):Option (List D×W):=match d with
 | .lv xs=>some (xs,[])
 | .ro xs=>some (xs,[])
 | .tup xs=>some (xs,[])
 | .ob n=>match h[n]? with
  | some (.lst xs)=>some (xs,[(n,.lst xs)])
  | _=>none
 | _=>none
noncomputable def c7 (e:EM):IM:=fun δ h=>(e δ h).bind fun p=>(ej p.1 p.2).map fun q=>(q.1,q.2,p.2)
noncomputable def qC (m:AM):IM:=fun δ h=>(m δ h).bind fun p=>match p.1 with
 | [.int j]=>if -(2^62)≤j∧j < 2^62 then some ((List.range j.toNat).map fun (k:Nat)=>D.int (k:Int),[],p.2) else none
 | [.int i,.int j]=>if -(2^62)≤i∧i < 2^62∧-(2^62)≤j∧j < 2^62 then some ((List.range (j-i).toNat).map fun (k:Nat)=>D.int (i+(k:Int)),[],p.2) else none
 | _=>none
theorem uA (hl:∀ρ1 H1 h1,Ch ρ H ρ1 H1->Sim K ρ1 h1 H1->chk ws h1=true->∃vs,RepL K ρ1 H1 vs xs∧(∀i:Nat,vs.length≤i->J.stop i H1)∧∀(i:Nat) v,vs[i]?=some v->J.go i H1∧∀u H2,J.yld i H1 u H2->H2=H1∧u=v):ItS K J ρ H ws xs:=by
 refine ⟨fun ρ1 H1 h1 T S hc i=>?_⟩;obtain ⟨vs,l,s1,s2⟩:=hl ρ1 H1 h1 T S hc;refine ⟨fun hi=>s1 i (by rw [l.length];exact hi),fun x hx=>?_⟩;obtain ⟨v,hv,r⟩:=l.got hx;obtain ⟨g,y⟩:=s2 i v hv;refine ⟨g,fun u H2 yy=>?_⟩;obtain ⟨rfl,rfl⟩:=y u H2 yy;exact ⟨.refl _ _,S,r⟩
theorem GN (hl:∀ρ1 H1 h1,Ch ρ H ρ1 H1->Sim K ρ1 h1 H1->chk ws h1=true->∃vs,RepL K ρ1 H1 vs xs∧SqL K H1 a vs):ItS K (Itl K a) ρ H ws xs:=
 uA fun ρ1 H1 h1 T S hc=>by
  obtain ⟨vs,l,q⟩:=hl ρ1 H1 h1 T S hc;refine ⟨vs,l,fun i hi=>⟨vs,q,hi⟩,fun i v hv=>⟨⟨vs,v,q,hv⟩,fun u H2 ⟨e,y⟩=>⟨e,?_⟩⟩⟩;have:=y vs q;rw [hv] at this;exact (Option.some.inj this).symm
theorem GK (hl:∀ρ1 H1 h1,Ch ρ H ρ1 H1->Sim K ρ1 h1 H1->chk ws h1=true->∃vs,RepL K ρ1 H1 vs xs∧SqT K H1 a vs):ItS K (Itt K a) ρ H ws xs:=
 uA fun ρ1 H1 h1 T S hc=>by
  obtain ⟨vs,l,q⟩:=hl ρ1 H1 h1 T S hc;refine ⟨vs,l,fun i hi=>⟨vs,q,hi⟩,fun i v hv=>⟨⟨vs,v,q,hv⟩,fun u H2 ⟨e,y⟩=>⟨e,?_⟩⟩⟩;have:=y vs q;rw [hv] at this;exact (Option.some.inj this).symm
theorem Em (hc:chk [(n,o)] h=true):h[n]?=some o:=by
 unfold chk at hc;cases q:h[n]? with
 | none=>rw [q] at hc;cases hc
 | some u=>
  rw [q] at hc;simp [chk] at hc;rw [yQ hc]
inductive SeqAt (K:FR) (H:Hp) (a:Addr) (vs:List V):Bool->Prop where
 | l:SqL K H a vs->SeqAt K H a vs true
 | t:SqT K H a vs->SeqAt K H a vs false
noncomputable def rX:D->Bool
 | .tup _=>false
 | _=>true
theorem nD (S:Sim K ρ h H) (r:Rep K ρ H v d) (e:ej d h=some (xs,ws)):∃a,v=.ref a∧(∃vs,SeqAt K H a vs (rX d)∧RepL K ρ H vs xs)∧
  ∀ρ1 H1 h1,Ch ρ H ρ1 H1->Sim K ρ1 h1 H1->chk ws h1=true->∃vs,RepL K ρ1 H1 vs xs∧SeqAt K H1 a vs (rX d):=by
 cases r with
 | tup ht l=>
  cases e;refine ⟨_,rfl,⟨_,.t ht.sq,l⟩,fun ρ1 H1 h1 T S1 _=>?_⟩;cases (Rep.tup ht l).mono T with
  | tup h1 l1=>exact ⟨_,l1,.t h1.sq⟩
 | lv ht n l=>
  cases e;refine ⟨_,rfl,⟨_,.l (SqL.of ht),l⟩,fun ρ1 H1 h1 T S1 _=>?_⟩;cases (Rep.lv ht n l).mono T with
  | lv h1 _ l1=>exact ⟨_,l1,.l (SqL.of h1)⟩
 | ro ht l=>
  cases e;refine ⟨_,rfl,⟨_,.l ht.sq,l⟩,fun ρ1 H1 h1 T S1 _=>?_⟩;cases (Rep.ro ht l).mono T with
  | ro h1 l1=>exact ⟨_,l1,.l h1.sq⟩
 | @ob a n hn=>
  unfold ej at e;dsimp only at e;cases q:h[n]? with
  | none=>rw [q] at e;cases e
  | some o=>
   rw [q] at e;cases o with
   | dct _=>cases e
   | lst ys=>
    cases e;obtain ⟨vs,e1,l⟩:=S.at_ n a _ hn q;refine ⟨a,rfl,⟨vs,.l (SqL.of e1),l⟩,fun ρ1 H1 h1 T S1 hc=>?_⟩;obtain ⟨us,e2,l2⟩:=S1.at_ n a _ (T.pre n a hn) (Em hc);exact ⟨us,l2,.l (SqL.of e2)⟩
 | non=>cases e
 | bl b=>cases e
 | int i=>cases e
 | str x=>cases e
 | ty x=>cases e
 | dv _ _ _=>cases e
section
variable {X:Cx} {a b c e tg iter:Expr} {es:List Expr} {pos:Pos} {ma mb:EM} {mt:TM} {ms mu:SM} {m:AM} {g:GM} {gs:GMs}
theorem bC (h:SE X e ma):SI X tg e (c7 ma):=(FP h).imp fun σ H Q ⟨ρ,δ,h,xs,ws,h',R,S,e,k⟩=>by
 obtain ⟨⟨x,h1⟩,e1,e2⟩:=bnd e;obtain ⟨⟨ys,w⟩,e3,e4⟩:=mpd e2;cases e4;refine ⟨ρ,δ,h,x,h1,R,S,e1,fun v H1 ⟨ρ1,T1,S1,r1⟩=>?_⟩;obtain ⟨a,rfl,⟨vs,q,l⟩,st⟩:=nD S1 r1 e3;refine ⟨a,rfl,?_⟩;generalize rX x=b at q st;cases q with
 | l q=>exact .inl ⟨⟨vs,q⟩,k _ ρ1 H1 T1 S1 (GN fun ρ2 H2 h2 T2 S2 hc=>by obtain ⟨us,l2,q2⟩:=st ρ2 H2 h2 T2 S2 hc;cases q2 with | l q2=>exact ⟨us,l2,q2⟩)⟩
 | t q=>exact .inr ⟨⟨vs,q⟩,k _ ρ1 H1 T1 S1 (GK fun ρ2 H2 h2 T2 S2 hc=>by obtain ⟨us,l2,q2⟩:=st ρ2 H2 h2 T2 S2 hc;cases q2 with | t q2=>exact ⟨us,l2,q2⟩)⟩
theorem nO:∀(ns:List Int),RepL K ρ H (ns.map V.int) (ns.map D.int)
 | []=>.nil
 | _::r=>.cons (.int _) (nO r)
theorem GL (lo:Int) (n:Nat):ItS K (Itr lo n) ρ H [] ((List.range n).map fun (k:Nat)=>D.int (lo+(k:Int))):=by
 refine uA fun ρ1 H1 h1 T S hc=>⟨(List.range n).map fun (k:Nat)=>V.int (lo+(k:Int)),?_,fun i hi=>?_,fun i v hv=>?_⟩
 ·have:=nO (K:=K) (ρ:=ρ1) (H:=H1) ((List.range n).map fun (k:Nat)=>lo+(k:Int));rw [List.map_map,List.map_map] at this;exact this
 ·rw [List.length_map,List.length_range] at hi;exact hi
 ·rw [List.getElem?_map] at hv;obtain ⟨j,e1,e2⟩:=mpd hv;obtain ⟨hlt,e3⟩:=List.getElem?_eq_some_iff.mp e1;rw [List.length_range] at hlt;rw [List.getElem_range] at e3;subst e3;subst e2;exact ⟨hlt,fun u H2 ⟨p,q⟩=>⟨p,q⟩⟩
theorem zg (l:RepL K ρ H vs [.int j]):vs=[.int j]:=by
 cases l with
 | cons r l=>cases l;cases r;rfl
theorem df (hg:Gl X "range") (hm:X.mg "range"=none) (ha:SA X [a] m) (hs:starEach [a] X.env=[(false,eval a X.env)]:=by kernel_rfl) (hl:oz m 1):SI X tg (.Call (.Name "range" p) [a] [] pos) (qC m):=
 (zk hg hm ha hs).imp fun σ H Q ⟨ρ,δ,h,xs,ws,h',R,S,e,k⟩=>by
  obtain ⟨⟨x,h1⟩,e1,e2⟩:=bnd e;refine ⟨ρ,δ,h,x,h1,R,S,e1,fun vs ρ1 H1 T1 S1 r1=>?_⟩
  match x,hl _ _ _ _ e1,e2,r1 with
  | [d],hl1,e2,r1=>
   cases d <;> first | exact absurd e2 (by intro z;cases z) | skip
   rename_i j;dsimp only at e2
   by_cases z:-(2^62)≤j∧j < 2^62
   ·rw [if_pos z] at e2;cases e2;refine ⟨j,zg r1,z.1,z.2,k _ ρ1 H1 T1 S1 ?_⟩;have:=GL (K:=X.K) (ρ:=ρ1) (H:=H1) 0 j.toNat
    simpa using this
   ·rw [if_neg z] at e2;cases e2
noncomputable def ix (caps:List (Option Nat)) (δ:DS):DS:=caps.map fun o=>o.bind fun i=>(δ[i]?).join
noncomputable def cg:TM:=fun _ h=>some (true,h)
noncomputable def cp (ws:W) (g:GM) (c:TM) (e:EM):List D->DS->MH->Option (List D×MH)
 | [],_,h=>if chk ws h then some ([],h) else none
 | x::r,δ,h=>if chk ws h then (g x δ h).bind fun q=>(c q.1 q.2).bind fun t=>if t.1 then (e q.1 t.2).bind fun y=>(cp ws g c e r q.1 y.2).map fun z=>(y.1::z.1,z.2) else cp ws g c e r q.1 t.2 else none
noncomputable def bM (caps:List (Option Nat)) (i:IM) (g:GM) (c:TM) (e:EM):AM:=fun δ h=>(i δ h).bind fun p=>(cp p.2.1 g c e p.1 (ix caps δ) p.2.2).bind fun q=>if q.1.length≤sizeLine then some q else none
theorem RepS.ou (R:RepS K ρ H σ δ) (caps:List (Option Nat)):RepS K ρ H (ou caps σ) (ix caps δ):=by
 refine ⟨by simp [L2.ou,ix],fun i d hd=>?_⟩;unfold ix at hd;rw [List.getElem?_map] at hd;obtain ⟨o,e1,e2⟩:=mpd hd;cases o with
 | none=>cases e2
 | some j=>
  have e3:δ[j]?=some (some d):=Option.join_eq_some_iff.mp e2;obtain ⟨v,ev,r⟩:=R.at_ j d e3;refine ⟨v,?_,r⟩;unfold L2.ou;rw [List.getElem?_map,e1];simp [ev]
def SIf (X:Cx) (ifs:List Expr) (m:TM):Prop:=PIf X ifs (tMT X.K m)
theorem bx:SIf X [] cg:=fun pins s σ H Q I hh=>by
 obtain ⟨ρ,δ,h,b,h',R,S,e,k⟩:=hh;cases e;exact DB pins s σ H Q I (k ρ H (.refl _ _) S)
theorem tN (h:ST X c mt):SIf X [c] mt:=DA h
theorem yn (hh:tM X.K (eLv (bM caps mi g mt ma)) σ H Q):Av caps (tMI X.K mi) (tMG X.K g) (tMT X.K mt) (tM X.K ma) σ H Q:=by
 obtain ⟨ρ,δ,h,d,h',R,S,ee,k⟩:=hh;obtain ⟨⟨out,h0⟩,ea,e0⟩:=mpd ee;cases e0;obtain ⟨⟨xs,ws,h1⟩,e1,eb⟩:=bnd ea;obtain ⟨⟨ys,h2⟩,e2,e3⟩:=bnd eb;dsimp only at e2 e3
 by_cases hz:ys.length≤sizeLine
 ·rw [if_pos hz] at e3;cases e3;refine ⟨ρ,δ,h,xs,ws,h1,R,S,e1,fun J ρ1 H1 T1 S1 It l hl=>?_⟩;have nl:¬ρ1.has l:=S1.fresh hl;have Tl:Ch ρ1 H1 (ρ1.keep l) (upd H1 l (.lst [])):=Ch.keep hl;refine ⟨fun i m τ2 H2=>∃(ob2:List Addr) (δ2:DS) (h2:MH) (vs:List V) (as bs:List D),m=xs.length-i∧i≤xs.length∧Ch ρ1 H1 ⟨ob2,l::ρ1.rs⟩ H2∧(∀b∈ρ1.rs,H2 b=H1 b)∧RepS X.K ⟨ob2,l::ρ1.rs⟩ H2 τ2 δ2∧Sim X.K ⟨ob2,l::ρ1.rs⟩ h2 H2∧
    H2 l=some (.lst vs)∧RepL X.K ⟨ob2,l::ρ1.rs⟩ H2 vs as∧out=as++bs∧cp ws g mt ma (xs.drop i) δ2 h2=some (bs,h0),
   ⟨_,ρ1.ob,ix caps δ,h1,[],[],out,rfl,Nat.zero_le _,Tl,fun b hb=>aB fun z=>nl (.inr (z ▸ hb)),((R.mono T1).ou caps).mono Tl,S1.keep hl,aY,.nil,rfl,e2⟩,?_⟩
  rintro i m τ2 H2 ⟨ob2,δ2,h2,vs,as,bs,rfl,hi,T2,rs2,R2,S2,hl2,l2,eo,e3⟩;have hsub:∀b∈ρ1.rs,b∈l::ρ1.rs:=fun b hb=>List.mem_cons_of_mem _ hb;have C2:Ch ⟨ob2,l::ρ1.rs⟩ H2 ⟨ob2,ρ1.rs⟩ H2:=Ch.free hsub;have T2':Stp ρ1 H1 ⟨ob2,ρ1.rs⟩ H2:=⟨T2.trans C2,rfl,rs2⟩;have S2':Sim X.K ⟨ob2,ρ1.rs⟩ h2 H2:=S2.free hsub;cases q:xs.drop i with
  | nil=>
   rw [q] at e3;unfold cp at e3
   by_cases hc:chk ws h2=true
   ·rw [if_pos hc] at e3;cases e3;rw [List.append_nil] at eo;subst eo;have hle:xs.length≤i:=by have:=congrArg List.length q;rw [List.length_drop,List.length_nil] at this;lia
    refine .inl ⟨(It.run _ H2 _ T2 S2 hc i).1 hle,k _ _ ⟨_,T1.trans T2',S2',.lv hl2 (fun z=>?_) (l2.mono C2)⟩⟩;rcases z with z | z
    ·exact (S2.rsv l List.mem_cons_self).2 z
    ·exact nl (.inr z)
   ·rw [if_neg hc] at e3;cases e3
  | cons x r=>
   rw [q] at e3;unfold cp at e3
   by_cases hc:chk ws h2=true
   ·rw [if_pos hc] at e3;have hx:xs[i]?=some x:=by
     have:=congrArg (fun l=>l[0]?) q
     simpa using this
    have hlt:i < xs.length:=(List.getElem?_eq_some_iff.mp hx).1;have hr:xs.drop (i+1)=r:=by
     have:=congrArg List.tail q
     simpa using this
    obtain ⟨⟨δ3,h3⟩,e4,e5⟩:=bnd e3;obtain ⟨⟨t,h4⟩,e6,e7⟩:=bnd e5;dsimp only at e4 e5 e6 e7;obtain ⟨hgo,hy⟩:=(It.run _ H2 h2 T2 S2 hc i).2 x hx;refine .inr ⟨hgo,fun τ5 H5=>∃(ob5:List Addr) (h5:MH) (vs:List V) (as bs:List D),Ch ρ1 H1 ⟨ob5,l::ρ1.rs⟩ H5∧(∀b∈ρ1.rs,H5 b=H1 b)∧RepS X.K ⟨ob5,l::ρ1.rs⟩ H5 τ5 δ3∧Sim X.K ⟨ob5,l::ρ1.rs⟩ h5 H5∧
     H5 l=some (.lst vs)∧RepL X.K ⟨ob5,l::ρ1.rs⟩ H5 vs as∧out=as++bs∧cp ws g mt ma r δ3 h5=some (bs,h0),?_,?_⟩
    ·rintro τ5 H5 ⟨ob5,h5,vs5,as5,bs5,T5,rs5,R5,S5,hl5,l5,eo5,e5⟩;exact ⟨xs.length-(i+1),by lia,ob5,δ3,h5,vs5,as5,bs5,rfl,hlt,T5,rs5,R5,S5,hl5,l5,eo5,by rw [hr];exact e5⟩
    ·intro v H3 y3;obtain ⟨T3,S3,r3⟩:=hy v H3 y3;refine ⟨⟨ob2,l::ρ1.rs⟩,δ2,h2,x,δ3,h3,R2.mono T3,S3,r3,e4,fun ρ4 H4 τ4 T4 S4 R4=>?_⟩;refine ⟨ρ4,δ3,h3,t,h4,R4,S4,e6,fun ρ5 H5 T5 S5=>?_⟩;have T25:Stp ⟨ob2,l::ρ1.rs⟩ H2 ρ5 H5:=T3.trans (T4.trans T5);obtain ⟨ob5,rs5⟩:=ρ5;have ers:rs5=l::ρ1.rs:=T25.rs;subst ers;cases t with
     | false=>
      rw [if_neg (by simp)] at e7;refine GP ?_;exact ⟨ob5,h4,vs,as,bs,T2.trans T25.toCh,fun b hb=>(T25.res b (hsub b hb)).trans (rs2 b hb),R4.mono T5,S5,(T25.res l List.mem_cons_self).trans hl2,l2.mono T25.toCh,eo,e7⟩
     | true=>
      rw [if_pos rfl] at e7;refine GO ?_;obtain ⟨⟨y,h6⟩,e8,e9⟩:=bnd e7;obtain ⟨⟨zs,h7⟩,e10,e11⟩:=mpd e9;cases e11;refine ⟨⟨ob5,l::ρ1.rs⟩,δ3,h4,y,h6,R4.mono T5,S5,e8,fun u H6 ⟨ρ6,T6,S6,r6⟩=>?_⟩;have T26:Stp ⟨ob2,l::ρ1.rs⟩ H2 ρ6 H6:=T25.trans T6;obtain ⟨ob6,rs6⟩:=ρ6;have ers:rs6=l::ρ1.rs:=T26.rs;subst ers;have hl6:H6 l=some (.lst vs):=(T26.res l List.mem_cons_self).trans hl2;have hml:l∈(⟨ob6,l::ρ1.rs⟩:Ad).rs:=List.mem_cons_self;have hlen:vs.length < sizeLine:=by
       have h1:=l2.length;have h2:=congrArg List.length eo;rw [List.length_append,List.length_cons] at h2
       lia
      have Cp:Ch ⟨ob6,l::ρ1.rs⟩ H6 ⟨ob6,l::ρ1.rs⟩ (upd H6 l (.lst (vs++[u]))):=Ch.put hml;refine ⟨vs,hl6,hlen,ob6,h6,vs++[u],as++[y],zs,(T2.trans T26.toCh).trans Cp,fun b hb=>?_,((R4.mono T5.toCh).mono T6.toCh).mono Cp,S6.put hml,aY,((l2.mono T26.toCh).snoc r6).mono Cp,by rw [eo];simp,e10⟩;rw [aB (fun (z:b=l)=>nl (.inr (z ▸ hb)))];exact (T26.res b (hsub b hb)).trans (rs2 b hb)
   ·rw [if_neg hc] at e3;cases e3
 ·rw [if_neg hz] at e3;cases e3
end
end Sm
namespace Sm
open PySem L2 PySem.Spec PyProof.Rows
section
variable {X:Cx} {a b c e tg iter elt:Expr} {es:List Expr} {pos:Pos} {ma mb:EM} {mt:TM} {ms mu:SM} {m:AM} {g:GM} {gs:GMs}
theorem bU (C:CompScope X N' caps scope) (hc:X.calm=true) (hi:SI X tg iter mi) (hg:∀C s₃ H₃ fp pl,SG (blk X N' scope C s₃ H₃ fp pl) tg g) (hif:∀C s₃ H₃ fp pl,SIf (blk X N' scope C s₃ H₃ fp pl) ifs mt) (he:∀C s₃ H₃ fp pl,SE (blk X N' scope C s₃ H₃ fp pl) elt ma) (hs:∀x,foldedSetIterable iter X.env x=pure x:=by intro _;kernel_rfl):
  SE X (.ListComp elt [⟨tg,iter,ifs,0⟩] scope pos) (eLv (bM caps mi g mt ma)):=(Bm (g:=tMG X.K g) (tc:=tMT X.K mt) (te:=tM X.K ma) C hc hi hg hif he hs).imp fun _ _ _=>yn
theorem km (hN:X.N.Nodup) (hi':X.N[i]?=some y) (hy:X.env.scope.names.lookup y=some .local) (C:CompScope X N' caps scope) (hc:X.calm=true) (hi:SI X tg iter mi) (hg:∀C s₃ H₃ fp pl,SG (blk X N' scope C s₃ H₃ fp pl) tg g) (hif:∀C s₃ H₃ fp pl,SIf (blk X N' scope C s₃ H₃ fp pl) ifs mt) (he:∀C s₃ H₃ fp pl,SE (blk X N' scope C s₃ H₃ fp pl) elt ma) (hsw:swapsWith (.ListComp elt [⟨tg,iter,ifs,0⟩] scope pos) (some (.Name y py)) spos.line X.env=pure true:=by kernel_rfl) (hs:∀x,foldedSetIterable iter X.env x=pure x:=by intro _;kernel_rfl):
  SS X (.Assign [.Name y py] (.ListComp elt [⟨tg,iter,ifs,0⟩] scope pos) spos) (a9 i (eLv (bM caps mi g mt ma))):=
 (Bg (g:=tMG X.K g) (tc:=tMT X.K mt) (te:=tM X.K ma) hN hi' hy C hc hi hg hif he hsw hs).imp fun E σ H hh=>by
  have q:=xf hh;exact yn q
end
inductive SPFi (K:FR) (n:Nat) (F:Fn) (vs:List V) (H:Hp) (Q:VK):Prop where
 | mk (ρ h ds d h'):Sim K ρ h H->RepL K ρ H vs ds->(ds.length=n)->(F ds h=some (d,h'))->(∀v H',dE K ρ H h' d v H'->Q v H')->SPFi K n F vs H Q
def spF (K:FR) (n:Nat) (F:Fn):Sp:=fun vs H Q _=>SPFi K n F vs H Q
theorem CZ (G:FnOk X.prog X.w X.K X.mg X.base CX0 k f fd ps (spF X.K n F)) (hr:Room k X.A) (hg:Gl X x) (hm:X.mg x=some (.ref f)) (hk:PySem.W.keepIn X.K (.ref f)=true) (hb:Binds X.K fd ps [])
  (ha:SA X (e::es) m) (hl:oz m n) (hdb:(x==("__debug__":Str))=false:=by kernel_rfl) (he:starEach (e::es) X.env=(false,eval e X.env)::starEach es X.env:=by kernel_rfl) (hpl:(backTo pos (starEach es X.env)).any (·.1)=false:=by kernel_rfl):
  SE X (.Call (.Name x p) (e::es) [] pos) (eFn F m):=(DI (E:=E0) G hr hg hm hk hb .nil Io ha hdb he hpl).imp fun σ H Q ⟨ρ,δ,h,d,h',R,S,e,q⟩=>by
 obtain ⟨⟨ds,h1⟩,e1,e2⟩:=bnd e;refine ⟨ρ,δ,h,ds,h1,R,S,e1,fun vs ρ1 H1 T1 S1 r1=>?_⟩;show spF X.K n F (vs++[]) H1 Q E0;rw [List.append_nil];exact ⟨ρ1,h1,ds,d,h',S1,r1,hl _ _ _ _ e1,e2,fun v H' P=>q v H' (P.step T1)⟩
noncomputable def C7 (r:Fl×DS×MH):Option (D×MH):=match r.1 with
 | .rt d=>some (d,r.2.2)
 | .nx=>some (.non,r.2.2)
 | _=>none
noncomputable def entry (len:Nat) (ds:List D):DS:=ds.map some++List.replicate (len-ds.length) none
noncomputable def mkF (len:Nat) (body:SM):Fn:=fun ds h=>(body (entry len ds) h).bind C7
theorem RepS.entry {K:FR} {ρ:Ad} {H:Hp} {vs:List V} {ds:List D} (N:List Str) (l:RepL K ρ H vs ds):RepS K ρ H (L2.start N vs) (Sm.entry N.length ds):=by
 refine ⟨by simp [L2.start,Sm.entry,l.length],fun i d hd=>?_⟩;unfold Sm.entry at hd;unfold L2.start
 by_cases hi:i < ds.length
 ·rw [List.getElem?_append_left (by simpa using hi),List.getElem?_map] at hd;obtain ⟨d',e1,e2⟩:=mpd hd;cases e2;obtain ⟨v,ev,r⟩:=l.got e1;refine ⟨v,?_,r⟩;rw [List.getElem?_append_left (by rw [List.length_map,l.length];exact hi),List.getElem?_map,ev];rfl
 ·rw [List.getElem?_append_right (by simpa using hi),List.getElem?_replicate] at hd
  split at hd <;> cases hd
section
variable {P:Program} {w:World} {K:FR} {mg:Str->Option Value} {base:Heap} {x qual:Str} {st:Stmt} {f:Addr} {fd:FuncData} {N ps:List Str} {k:Nat}
theorem aT (F:Fun K x qual st f fd) (Sc:FnScope N ps (aw st)) (hb:∀(cdv:Value) (A:Around) (outer:List Env) (s:Shared) (H:Hp) (E:XK),Room k (A.deeper (envOfC qual (aw st) s.heap.objs.size f cdv))->SSs (xU CX0 P w K mg base N qual (aw st) f cdv A outer s H E).nox (i8 st) body):
  FnOk P w K mg base CX0 (k+1) f fd ps (spF K ps.length (mkF N.length body)):=by
 refine F.ok Sc (fun vs H Q E h=>?_) (fun cdv A outer s H vs Q E hr h=>?_)
 ·obtain ⟨ρ,h,ds,d,h',S,r,hl,_⟩:=h;rw [r.length];exact hl
 ·obtain ⟨ρ,h,ds,d,h',S,r,hl,e,q⟩:=h;refine ⟨_,hb cdv A outer s H E hr,?_⟩;obtain ⟨⟨fl,δ1,h1⟩,e1,e2⟩:=bnd e;refine ⟨ρ,entry N.length ds,h,fl,δ1,h1,RepS.entry N r,S,e1,fun ρ1 H1 T1 S1=>?_⟩;cases fl with
  | nx=>cases e2;exact fun σ' R'=>q _ _ ⟨ρ1,T1,S1,.non⟩
  | rt d=>cases e2;exact fun v r=>q _ _ ⟨ρ1,T1,S1,r⟩
  | bk=>cases e2
  | ct=>cases e2
end
mutual
noncomputable def clD (n:Nat):D->Bool
 | .tup xs=>clL n xs
 | .lv xs=>clL n xs
 | .ro xs=>clL n xs
 | .dv kvs=>clK n kvs
 | .ob m=>decide (m < n)
 | _=>true
noncomputable def clL (n:Nat):List D->Bool
 | []=>true
 | x::r=>clD n x&&clL n r
noncomputable def clK (n:Nat):List (Key×D)->Bool
 | []=>true
 | (_,x)::r=>clD n x&&clK n r
end
noncomputable def clO (n:Nat):MO->Bool
 | .lst xs=>clL n xs
 | .dct kvs=>clK n kvs
abbrev Ad.cut (ρ:Ad) (n:Nat):Ad:=⟨ρ.ob.take n,ρ.rs⟩
theorem Ad.mV {ρ:Ad} {n:Nat} {a:Addr} (h:(ρ.cut n).has a):ρ.has a:=h.elim (fun m=>.inl (List.mem_of_mem_take m)) .inr
mutual
theorem Rep.cut {K:FR} {ρ:Ad} {H:Hp} {n:Nat}:∀{v:V} {d:D},Rep K ρ H v d->clD n d=true->Rep K (ρ.cut n) H v d
 | _,_,.non,_=>.non
 | _,_,.bl b,_=>.bl b
 | _,_,.int i,_=>.int i
 | _,_,.str x,_=>.str x
 | _,_,.ty n,_=>.ty n
 | _,_,.tup h l,c=>.tup (h.elim (fun ⟨a,n⟩=>.inl ⟨a,fun m=>n (Ad.mV m)⟩) .inr) (RepL.cut l (by simpa [clD] using c))
 | _,_,.lv h n l,c=>.lv h (fun m=>n (Ad.mV m)) (RepL.cut l (by simpa [clD] using c))
 | _,_,.ro h l,c=>.ro (h.elim (fun ⟨a,n⟩=>.inl ⟨a,fun m=>n (Ad.mV m)⟩) .inr) (RepL.cut l (by simpa [clD] using c))
 | _,_,.dv h n l,c=>.dv h (fun m=>n (Ad.mV m)) (RepK.cut l (by simpa [clD] using c))
 | _,_,.ob (n:=m) e,c=>.ob (by
   have hm:m < n:=by simpa [clD] using c
   show (ρ.ob.take n)[m]?=_;rw [List.getElem?_take_of_lt hm];exact e)
theorem RepL.cut {K:FR} {ρ:Ad} {H:Hp} {n:Nat}:∀{v:List V} {d:List D},RepL K ρ H v d->clL n d=true->RepL K (ρ.cut n) H v d
 | _,_,.nil,_=>.nil
 | _,_,.cons r l,c=>by
  simp only [clL,Bool.and_eq_true] at c;exact .cons (Rep.cut r c.1) (RepL.cut l c.2)
theorem RepK.cut {K:FR} {ρ:Ad} {H:Hp} {n:Nat}:∀{v:List (Key×V)} {d:List (Key×D)},RepK K ρ H v d->clK n d=true->RepK K (ρ.cut n) H v d
 | _,_,.nil,_=>.nil
 | _,_,.cons r l,c=>by
  simp only [clK,Bool.and_eq_true] at c;exact .cons (Rep.cut r c.1) (RepK.cut l c.2)
end
mutual
theorem Rep.clean {K:FR} {ρ:Ad} {H:Hp}:∀{v:V} {d:D},Rep K ρ H v d->clD ρ.ob.length d=true
 | _,_,.non=>rfl
 | _,_,.bl b=>rfl
 | _,_,.int i=>rfl
 | _,_,.str x=>rfl
 | _,_,.ty n=>rfl
 | _,_,.tup h l=>by simp [clD];exact RepL.clean l
 | _,_,.lv h n l=>by simp [clD];exact RepL.clean l
 | _,_,.ro h l=>by simp [clD];exact RepL.clean l
 | _,_,.dv h n l=>by simp [clD];exact RepK.clean l
 | _,_,.ob e=>by simp [clD];exact (List.getElem?_eq_some_iff.mp e).1
theorem RepL.clean {K:FR} {ρ:Ad} {H:Hp}:∀{v:List V} {d:List D},RepL K ρ H v d->clL ρ.ob.length d=true
 | _,_,.nil=>rfl
 | _,_,.cons r l=>by simp [clL];exact ⟨Rep.clean r,RepL.clean l⟩
theorem RepK.clean {K:FR} {ρ:Ad} {H:Hp}:∀{v:List (Key×V)} {d:List (Key×D)},RepK K ρ H v d->clK ρ.ob.length d=true
 | _,_,.nil=>rfl
 | _,_,.cons r l=>by simp [clK];exact ⟨Rep.clean r,RepK.clean l⟩
end
theorem ObR.cut {K:FR} {ρ:Ad} {H:Hp} {n:Nat} {a:Addr} {o:MO} (x:ObR K ρ H a o) (c:clO n o=true):ObR K (ρ.cut n) H a o:=by
 cases o with
 | lst ds=>obtain ⟨vs,e,l⟩:=x;exact ⟨vs,e,l.cut c⟩
 | dct ds=>obtain ⟨vs,e,l⟩:=x;exact ⟨vs,e,l.cut c⟩
theorem ObR.clean {K:FR} {ρ:Ad} {H:Hp} {a:Addr} {o:MO} (x:ObR K ρ H a o):clO ρ.ob.length o=true:=by
 cases o with
 | lst ds=>obtain ⟨vs,e,l⟩:=x;exact l.clean
 | dct ds=>obtain ⟨vs,e,l⟩:=x;exact l.clean
noncomputable def Ar (n:Nat) (h:MH) (d:D):D:=match d with
 | .ob m=>if m < n then .ob m else match h[m]? with
  | some (.lst xs)=>.lv xs
  | some (.dct kvs)=>.dv kvs
  | none=>.ob m
 | d=>d
noncomputable def leave (h:MH) (d:D) (h':MH):Option (D×MH):=
 if clD h.length (Ar h.length h' d)&&(x8 (h'.take h.length) h||(h'.take h.length).all (clO h.length)) then some (Ar h.length h' d,h'.take h.length) else none
noncomputable def mkL (len:Nat) (body:SM):Fn:=fun ds h=>((body (entry len ds) h).bind C7).bind fun p=>leave h p.1 p.2
theorem dE.leave {K:FR} {ρ:Ad} {H H':Hp} {h h1 h':MH} {d d':D} {v:V} (S:Sim K ρ h H) (p:dE K ρ H h1 d v H') (e:Sm.leave h d h1=some (d',h')):dE K ρ H h' d' v H':=by
 obtain ⟨ρ1,T,S1,r⟩:=p;unfold Sm.leave at e
 by_cases hc:(clD h.length (Ar h.length h1 d)&&(x8 (h1.take h.length) h||(h1.take h.length).all (clO h.length)))=true
 ·rw [if_pos hc] at e;cases e;rw [Bool.and_eq_true] at hc;obtain ⟨c1,c2⟩:=hc;have hle:h.length≤h1.length:=by
   rw [←S.len,←S1.len];refine Nat.le_of_not_lt fun hlt=>?_;have e1:ρ.ob[ρ1.ob.length]?=some ρ.ob[ρ1.ob.length]:=List.getElem?_eq_getElem hlt;have:=(List.getElem?_eq_some_iff.mp (T.pre _ _ e1)).1
   lia
  have hall:∀(m:Nat) o,m < h.length->h1[m]?=some o->clO h.length o=true:=by
   intro m o hm ho;rw [Bool.or_eq_true] at c2;rcases c2 with c2 | c2
   ·have e1:=yR c2;have e2:h[m]?=some o:=by rw [←e1,List.getElem?_take_of_lt hm];exact ho
    have hm':m < ρ.ob.length:=by rw [S.len];exact hm
    have:=(S.at_ m _ o (List.getElem?_eq_getElem hm') e2).clean;rw [S.len] at this;exact this
   ·rw [List.all_eq_true] at c2;exact c2 o (List.mem_of_getElem? (show (h1.take h.length)[m]?=some o by rw [List.getElem?_take_of_lt hm];exact ho))
  have Sc:Sim K (ρ1.cut h.length) (h1.take h.length) H':=by
   refine ⟨by simp [S1.len],S1.nd.sublist (List.take_sublist _ _),fun n a o e1 e2=>?_,fun b hb=>⟨(S1.rsv b hb).1,fun m=>(S1.rsv b hb).2 (List.mem_of_mem_take m)⟩⟩;have hn:n < h.length:=by
    have:=(List.getElem?_eq_some_iff.mp e2).1;rw [List.length_take] at this
    lia
   have e1:(ρ1.ob.take h.length)[n]?=some a:=e1;rw [List.getElem?_take_of_lt hn] at e1 e2;exact (S1.at_ n a o e1 e2).cut (hall n o hn e2)
  refine ⟨ρ1.cut h.length,⟨⟨fun n a e=>?_,fun b o n e=>?_⟩,T.rs,T.res⟩,Sc,?_⟩
  ·have hn:n < h.length:=by rw [←S.len];exact (List.getElem?_eq_some_iff.mp e).1
   show (ρ1.ob.take h.length)[n]?=some a;rw [List.getElem?_take_of_lt hn];exact T.pre n a e
  ·obtain ⟨n1,e1⟩:=T.old b o n e;exact ⟨fun m=>n1 (Ad.mV m),e1⟩
  ·cases d with
   | ob m=>
    unfold Ar at c1 ⊢;dsimp only at c1 ⊢
    by_cases hm:m < h.length
    ·rw [if_pos hm] at c1 ⊢;exact r.cut c1
    ·rw [if_neg hm] at c1 ⊢;cases r with
     | ob hn=>
      rename_i a;have na:¬(ρ1.cut h.length).has a:=by
       intro z;rcases z with z | z
       ·obtain ⟨j,hj⟩:=List.getElem?_of_mem z;have hj1:j < h.length:=by
         have:=(List.getElem?_eq_some_iff.mp hj).1;rw [List.length_take] at this
         lia
        rw [List.getElem?_take_of_lt hj1] at hj;have:=(List.getElem?_inj (List.getElem?_eq_some_iff.mp hj).1 S1.nd).mp (hj.trans hn.symm)
        lia
       ·exact (S1.rsv a z).2 (List.mem_of_getElem? hn)
      cases q:h1[m]? with
      | none=>rw [q] at c1;exact absurd c1 (by simp [clD];lia)
      | some o=>
       have x:=S1.at_ m a o hn q;cases o with
       | lst xs=>
        rw [q] at c1;obtain ⟨vs,e1,l⟩:=x;exact .lv e1 na (l.cut (by simpa [clD] using c1))
       | dct xs=>
        rw [q] at c1;obtain ⟨vs,e1,l⟩:=x;exact .dv e1 na (l.cut (by simpa [clD] using c1))
   | _=>exact r.cut c1
 ·rw [if_neg hc] at e;cases e
section
variable {P:Program} {w:World} {K:FR} {mg:Str->Option Value} {base:Heap} {x qual:Str} {st:Stmt} {f:Addr} {fd:FuncData} {N ps:List Str} {k:Nat}
theorem mO (G:FnOk P w K mg base CX0 k f fd ps (spF K ps.length (mkF N.length body))):FnOk P w K mg base CX0 k f fd ps (spF K ps.length (mkL N.length body)):=by
 refine G.imp fun vs H Q E hh=>?_;obtain ⟨ρ,h,ds,d,h',S,r,hl,e,q⟩:=hh;obtain ⟨⟨d1,h1⟩,e1,e2⟩:=bnd e;exact ⟨ρ,h,ds,d1,h1,S,r,hl,e1,fun v H' p=>q v H' (p.leave S e2)⟩
end
def spT (K:FR):Sp:=fun vs H Q _=>∃(a:Addr) (ns:List Int),vs=[.ref a]∧SqL K H a (ns.map V.int)∧ns.length≤63∧∀H',Q (.bl true) H'
theorem DY {P:Program} {w:World} {K:FR} {mg:Str->Option Value} {base:Heap} {k:Nat} {f:Addr} {fd:FuncData} {ps:List Str} {F:Fn} (G:FnOk P w K mg base CX0 k f fd ps (spF K 1 F))
  (hF:∀ns:List Int,ns.length≤63->∃h',F [.ro (ns.map D.int)] []=some (.bl true,h')):FnOk P w K mg base CX0 k f fd ps (spT K):=by
 refine G.imp fun vs H Q E hh=>?_;obtain ⟨a,ns,rfl,ha,hl,q⟩:=hh;obtain ⟨h',e⟩:=hF ns hl;refine ⟨⟨[],[]⟩,[],[.ro (ns.map D.int)],.bl true,h',⟨rfl,List.nodup_nil,fun n a o e=>by simp at e,fun b hb=>absurd hb (by simp)⟩,.cons (.ro ?_ (nO ns)) .nil,rfl,e,fun v H' ⟨ρ',T,S,r⟩=>?_⟩
 ·rcases ha with ha | ha
  ·exact .inl ⟨ha,fun z=>z.elim (fun z=>absurd z (by simp)) fun z=>absurd z (by simp)⟩
  ·exact .inr (.inr ha)
 ·cases r;exact q H'
mutual
noncomputable def pyD:D->Option PyData
 | .non=>some .none
 | .bl b=>some (.bool b)
 | .int i=>some (.int i)
 | .str x=>some (.str x)
 | .tup xs=>(pyL xs).map .tuple
 | .lv xs=>(pyL xs).map .list
 | .ro xs=>(pyL xs).map .list
 | _=>none
noncomputable def pyL:List D->Option (List PyData)
 | []=>some []
 | x::r=>(pyD x).bind fun a=>(pyL r).map fun b=>a::b
end
noncomputable def rdD (h:MH) (d:D):Option PyData:=match d with
 | .ob n=>match h[n]? with
  | some (.lst xs)=>(pyL xs).map .list
  | _=>none
 | d=>pyD d
mutual
theorem Rep.rds {K:FR} {ρ:Ad} {H:Hp}:∀{v:V} {d:D} {p:PyData},Rep K ρ H v d->pyD d=some p->Rds K H v p∧p.canLay0=true
 | _,_,_,.non,e=>by cases e;exact ⟨.non,rfl⟩
 | _,_,_,.bl b,e=>by cases e;exact ⟨.bl b,rfl⟩
 | _,_,_,.int i,e=>by cases e;exact ⟨.int i,rfl⟩
 | _,_,_,.str hs,e=>by cases e;exact ⟨.str _,by simpa [PyData.canLay0] using hs⟩
 | _,_,_,.ty n,e=>by cases e
 | _,_,_,.tup h l,e=>by
  simp only [pyD] at e;obtain ⟨q,e1,e2⟩:=mpd e;subst e2;obtain ⟨a,b⟩:=RepL.rds l e1;exact ⟨.tup h.sq a,by simpa [PyData.canLay0] using b⟩
 | _,_,_,.lv h n l,e=>by
  simp only [pyD] at e;obtain ⟨q,e1,e2⟩:=mpd e;subst e2;obtain ⟨a,b⟩:=RepL.rds l e1;exact ⟨.lst (SqL.of h) a,by simpa [PyData.canLay0] using b⟩
 | _,_,_,.ro h l,e=>by
  simp only [pyD] at e;obtain ⟨q,e1,e2⟩:=mpd e;subst e2;obtain ⟨a,b⟩:=RepL.rds l e1;exact ⟨.lst h.sq a,by simpa [PyData.canLay0] using b⟩
 | _,_,_,.dv h n l,e=>by simp [pyD] at e
 | _,_,_,.ob h,e=>by simp [pyD] at e
theorem RepL.rds {K:FR} {ρ:Ad} {H:Hp}:∀{v:List V} {d:List D} {p:List PyData},RepL K ρ H v d->pyL d=some p->RdsL K H v p∧PyData.canLayAll0 p=true
 | _,_,_,.nil,e=>by cases e;exact ⟨.nil,rfl⟩
 | _,_,_,.cons r l,e=>by
  simp only [pyL] at e;obtain ⟨a,e1,e2⟩:=bnd e;obtain ⟨b,e3,e4⟩:=mpd e2;subst e4;obtain ⟨a1,a2⟩:=Rep.rds r e1;obtain ⟨b1,b2⟩:=RepL.rds l e3;exact ⟨.cons a1 b1,by simp [PyData.canLayAll0,a2,b2]⟩
end
section
variable {K:FR} {ρ:Ad} {H:Hp} {h:MH} {v:V} {d:D}
theorem tZ (S:Sim K ρ h H) (r:Rep K ρ H v d) (e:rdD h d=some p):Rds K H v p∧p.canLay0=true:=by
 cases r with
 | @ob a n hn=>
  unfold rdD at e;dsimp only at e;cases q:h[n]? with
  | none=>rw [q] at e;cases e
  | some o=>
   rw [q] at e;cases o with
   | dct _=>cases e
   | lst xs=>
    obtain ⟨vs,e1,l⟩:=S.at_ n a _ hn q;obtain ⟨b,e3,e4⟩:=mpd e;subst e4;obtain ⟨b1,b2⟩:=l.rds e3;exact ⟨.lst (SqL.of e1) b1,by simpa [PyData.canLay0] using b2⟩
 | non=>exact Rep.rds (Rep.non (ρ:=ρ)) e
 | bl b=>exact Rep.rds (Rep.bl (ρ:=ρ) b) e
 | int i=>exact Rep.rds (Rep.int (ρ:=ρ) i) e
 | str x=>exact Rep.rds (Rep.str (ρ:=ρ) x) e
 | ty n=>exact Rep.rds (Rep.ty (ρ:=ρ) n) e
 | tup h l=>exact Rep.rds (.tup h l) e
 | lv h n l=>exact Rep.rds (.lv h n l) e
 | ro h l=>exact Rep.rds (.ro h l) e
 | dv h n l=>exact Rep.rds (.dv h n l) e
noncomputable def gy (d:D) (h:MH):Option (List D):=match d with
 | .lv xs=>some xs
 | .ob n=>match h[n]? with
  | some (.lst xs)=>some xs
  | _=>none
 | _=>none
theorem eQ (S:Sim K ρ h H) (r:Rep K ρ H v d) (e:gy d h=some xs):∃a vs,v=.ref a∧H a=some (.lst vs)∧RepL K ρ H vs xs:=by
 cases r with
 | @ob a n hn=>
  unfold gy at e;dsimp only at e;cases q:h[n]? with
  | none=>rw [q] at e;cases e
  | some o=>
   rw [q] at e;cases o with
   | dct _=>cases e
   | lst ys=>
    cases e;obtain ⟨vs,e1,l⟩:=S.at_ n a _ hn q;exact ⟨a,vs,rfl,e1,l⟩
 | lv h n l=>cases e;exact ⟨_,_,rfl,h,l⟩
 | _=>cases e
noncomputable def dw (d:D) (h:MH):Option (List (Key×D)):=match d with
 | .dv kvs=>some kvs
 | .ob n=>match h[n]? with
  | some (.dct kvs)=>some kvs
  | _=>none
 | _=>none
theorem gM (S:Sim K ρ h H) (r:Rep K ρ H v d) (e:dw d h=some xs):∃a vs,v=.ref a∧H a=some (.dK vs)∧RepK K ρ H vs xs:=by
 cases r with
 | @ob a n hn=>
  unfold dw at e;dsimp only at e;cases q:h[n]? with
  | none=>rw [q] at e;cases e
  | some o=>
   rw [q] at e;cases o with
   | lst _=>cases e
   | dct ys=>
    cases e;obtain ⟨vs,e1,l⟩:=S.at_ n a _ hn q;exact ⟨a,vs,rfl,e1,l⟩
 | dv h n l=>cases e;exact ⟨_,_,rfl,h,l⟩
 | _=>cases e
theorem pE (S:Sim K ρ h H) (r:Rep K ρ H v d) (e:ej d h=some (xs,ws)):∃a vs,v=.ref a∧(SqL K H a vs∨SqT K H a vs)∧RepL K ρ H vs xs:=by
 obtain ⟨a,e1,⟨vs,q,l⟩,_⟩:=nD S r e;refine ⟨a,vs,e1,?_,l⟩;generalize rX d=b at q;cases q with
 | l q=>exact .inl q
 | t q=>exact .inr q
noncomputable def mH:D->Option Key
 | .int i=>some (.inl i)
 | .str x=>some (.inr x)
 | _=>none
noncomputable def gZ (kvs:List (Key×D)) (k:Key):Option D:=(kvs.find? fun kv=>decide (kv.1=k)).map (·.2)
noncomputable def putD (kvs:List (Key×D)) (k:Key) (v:D):List (Key×D):=
 if (kvs.any fun kv=>decide (kv.1=k))=true then kvs.map (fun kv=>if kv.1=k then (kv.1,v) else kv) else kvs++[(k,v)]
theorem fY (r:Rep K ρ H v d) (e:mH d=some k):v=kV k:=by
 cases r with
 | int i=>cases e;rfl
 | str x=>cases e;rfl
 | _=>cases e
theorem RepK.val:∀{us:List (Key×V)} {kvs:List (Key×D)} (k:Key),RepK K ρ H us kvs->(gZ kvs k=none∧jg us k=none)∨∃d v,gZ kvs k=some d∧jg us k=some v∧Rep K ρ H v d
 | _,_,k,.nil=>.inl ⟨rfl,rfl⟩
 | _,_,k,.cons (k:=j) (v:=v) (vs:=vs) (d:=d) (ds:=ds) r l=>by
  by_cases z:j=k
  ·exact .inr ⟨d,v,by simp [gZ,z],by simp [jg,z],r⟩
  ·have h1:gZ ((j,d)::ds) k=gZ ds k:=by simp only [gZ,List.find?_cons,z,decide_false]
   have h2:jg ((j,v)::vs) k=jg vs k:=lW z;rw [h1,h2];exact RepK.val k l
theorem RepK.length:∀{us:List (Key×V)} {kvs:List (Key×D)},RepK K ρ H us kvs->us.length=kvs.length
 | _,_,.nil=>rfl
 | _,_,.cons _ l=>by rw [List.length_cons,List.length_cons,RepK.length l]
theorem RepK.any (k:Key):∀{us:List (Key×V)} {kvs:List (Key×D)},RepK K ρ H us kvs->(us.any fun kv=>decide (kv.1=k))=(kvs.any fun kv=>decide (kv.1=k))
 | _,_,.nil=>rfl
 | _,_,.cons _ l=>by rw [List.any_cons,List.any_cons,RepK.any k l]
theorem RepK.map (r:Rep K ρ H v d):∀{us:List (Key×V)} {kvs:List (Key×D)},RepK K ρ H us kvs->RepK K ρ H (us.map fun kv=>if kv.1=k then (kv.1,v) else kv) (kvs.map fun kv=>if kv.1=k then (kv.1,d) else kv)
 | _,_,.nil=>.nil
 | _,_,.cons (k:=j) q l=>by
  rw [List.map_cons,List.map_cons]
  by_cases z:j=k
  ·rw [if_pos z,if_pos z];exact .cons r (RepK.map r l)
  ·rw [if_neg z,if_neg z];exact .cons q (RepK.map r l)
theorem RepK.append:∀{us vs:List (Key×V)} {ks ls:List (Key×D)},RepK K ρ H us ks->RepK K ρ H vs ls->RepK K ρ H (us++vs) (ks++ls)
 | _,_,_,_,.nil,t=>t
 | _,_,_,_,.cons r l,t=>.cons r (RepK.append l t)
theorem RepK.put (l:RepK K ρ H us kvs) (r:Rep K ρ H v d):RepK K ρ H (putK us k v) (putD kvs k d):=by
 unfold putK putD;rw [l.any k]
 by_cases z:(kvs.any fun kv=>decide (kv.1=k))=true
 ·rw [if_pos z,if_pos z];exact l.map r
 ·rw [if_neg z,if_neg z];exact l.append (.cons r .nil)
end
noncomputable def zQ (d e:D) (h:MH):Option (D×MH):=match d,e with
 | .int i,.int j=>some (.int (i+j),h)
 | .str a,.str b=>if a.length+b.length≤sizeLine then some (.str (a++b),h) else none
 | .tup [],.tup _=>none
 | .tup (x::xs),.tup ys=>if xs.length+1+ys.length≤sizeLine then some (.tup (x::xs++ys),h) else none
 | d,e=>(gy d h).bind fun xs=>(gy e h).bind fun ys=>if xs.length+ys.length≤sizeLine then some (.lv (xs++ys),h) else none
noncomputable def uF (d e:D) (h:MH):Option (D×MH):=match d,e with
 | .int i,.int j=>some (.int (i-j),h)
 | _,_=>none
noncomputable def mC (i j:Int):Bool:=(decide (-(2^64) < i)&&decide (i < 2^64))||(decide (-(2^64) < j)&&decide (j < 2^64))
noncomputable def GV (d e:D) (h:MH):Option (D×MH):=match d,e with
 | .int i,.int j=>if mC i j then some (.int (i*j),h) else none
 | _,_=>none
noncomputable def qG (d e:D) (h:MH):Option (D×MH):=match d,e with
 | .int i,.int j=>if 0 < j then some (.int (i % j),h) else none
 | _,_=>none
noncomputable def BX (d e:D) (h:MH):Option (D×MH):=match d,e with
 | .int i,.int j=>if 0 < j∧j≤10^40 then some (.int (i / j),h) else none
 | _,_=>none
noncomputable def Eb (d e:D) (h:MH):Option (D×MH):=match d,e with
 | .int i,.int j=>if 0≤j∧j≤1000000∧i.natAbs < 2^64 then some (.int (i^j.toNat),h) else none
 | _,_=>none
noncomputable def Ci (f:Int->Int->Bool) (d e:D) (h:MH):Option (D×MH):=match d,e with
 | .int i,.int j=>some (.bl (f i j),h)
 | _,_=>none
noncomputable def fLt:=Ci fun i j=>decide (i < j)
noncomputable def fLe:=Ci fun i j=>decide (i≤j)
noncomputable def fGt:=Ci fun i j=>decide (j < i)
noncomputable def fGe:=Ci fun i j=>decide (j≤i)
noncomputable def eqD (d e:D) (h:MH):Option Bool:=(rdD h d).bind fun a=>(rdD h e).bind fun b=>if a.depth≤64∧b.depth≤64 then some (PyData.eqv a b) else none
noncomputable def isN:D->Bool
 | .non=>true
 | _=>false
noncomputable def Ee (d e:D) (h:MH):Option (D×MH):=match e with
 | .non=>some (.bl (isN d),h)
 | _=>none
noncomputable def pQ (d:D) (h:MH):Option (D×MH):=match d with
 | .int i=>some (.int (-i),h)
 | _=>none
noncomputable def inD (d e:D) (h:MH):Option Bool:=match dw e h with
 | some kvs=>(mH d).map fun k=>(gZ kvs k).isSome
 | none=>match d,e with
  | .str x,.str y=>some (!(Builtin.Str.occurrences y x 0 y.length 1).isEmpty)
  | d,e=>(ej e h).bind fun p=>(rdD h d).bind fun a=>(pyL p.1).bind fun bs=>if a.depth≤60∧PyData.depthAll bs≤60 then some (bs.any fun b=>PyData.eqv b a) else none
noncomputable def fIn (d e:D) (h:MH):Option (D×MH):=(inD d e h).map fun c=>(.bl c,h)
noncomputable def j2 (d e:D) (h:MH):Option (D×MH):=(inD d e h).map fun c=>(.bl (!c),h)
noncomputable def fIx (d e:D) (h:MH):Option (D×MH):=match dw d h with
 | some kvs=>(mH e).bind fun k=>(gZ kvs k).map fun z=>(z,h)
 | none=>match d,e with
  | .str z,.int i=>if z.length≤sizeLine then (atI z.cps.toList i).map fun c=>(.str ⟨#[c]⟩,h) else none
  | d,.int i=>(ej d h).bind fun p=>(atI p.1 i).map fun z=>(z,h)
  | _,_=>none
theorem ua (ho:OpR X g (rI C q)) (hf:∀d e h z h',f d e h=some (z,h')->∃i j,d=.int i∧e=.int j∧C i j∧h'=h∧∀ρ H,Rep X.K ρ H (q i j) z):OpS X g f:=by
 intro pins s σ H x y v u Q I rx ry hh;obtain ⟨ρ,h,d,e,z,h',S,rd,re,ee,k⟩:=hh;obtain ⟨i,j,rfl,rfl,c,rfl,rz⟩:=hf _ _ _ _ _ ee;cases rd;cases re;exact ho pins s σ H _ _ v u Q I rx ry ⟨i,j,rfl,rfl,c,k _ _ (.here S (rz _ _))⟩
theorem kr (ho:OpR X g (rI0 q)) (hf:∀d e h z h',f d e h=some (z,h')->∃i j,d=.int i∧e=.int j∧h'=h∧∀ρ H,Rep X.K ρ H (q i j) z):OpS X g f:=by
 intro pins s σ H x y v u Q I rx ry hh;obtain ⟨ρ,h,d,e,z,h',S,rd,re,ee,k⟩:=hh;obtain ⟨i,j,rfl,rfl,rfl,rz⟩:=hf _ _ _ _ _ ee;cases rd;cases re;exact ho pins s σ H _ _ v u Q I rx ry ⟨i,j,rfl,rfl,k _ _ (.here S (rz _ _))⟩
theorem qk:OpS X (binaryOp .Sub) uF:=kr Gb fun d e h z h' ee=>by
 cases d <;> first | (cases ee;done) | skip
 cases e <;> first | (cases ee;done) | skip
 cases ee;exact ⟨_,_,rfl,rfl,rfl,fun _ _=>.int _⟩
theorem F8:OpS X (binaryOp .Mult) GV:=ua Gg fun d e h z h' ee=>by
 cases d <;> first | (cases ee;done) | skip
 cases e <;> first | (cases ee;done) | skip
 rename_i i j;unfold GV at ee;dsimp only at ee
 by_cases c:mC i j=true
 ·rw [if_pos c] at ee;cases ee;refine ⟨i,j,rfl,rfl,?_,rfl,fun _ _=>.int _⟩;unfold mC at c;simp only [Bool.or_eq_true,Bool.and_eq_true,decide_eq_true_eq] at c;exact c
 ·rw [if_neg c] at ee;cases ee
theorem lH:OpS X (binaryOp .Mod) qG:=ua Gh fun d e h z h' ee=>by
 cases d <;> first | (cases ee;done) | skip
 cases e <;> first | (cases ee;done) | skip
 rename_i i j;unfold qG at ee;dsimp only at ee
 by_cases c:0 < j
 ·rw [if_pos c] at ee;cases ee;exact ⟨i,j,rfl,rfl,c,rfl,fun _ _=>.int _⟩
 ·rw [if_neg c] at ee;cases ee
theorem F9:OpS X (binaryOp .FloorDiv) BX:=ua Bu fun d e h z h' ee=>by
 cases d <;> first | (cases ee;done) | skip
 cases e <;> first | (cases ee;done) | skip
 rename_i i j;unfold BX at ee;dsimp only at ee
 by_cases c:0 < j∧j≤10^40
 ·rw [if_pos c] at ee;cases ee;exact ⟨i,j,rfl,rfl,c,rfl,fun _ _=>.int _⟩
 ·rw [if_neg c] at ee;cases ee
theorem Bq:OpS X (binaryOp .Pow) Eb:=ua Gf fun d e h z h' ee=>by
 cases d <;> first | (cases ee;done) | skip
 cases e <;> first | (cases ee;done) | skip
 rename_i i j;unfold Eb at ee;dsimp only at ee
 by_cases c:0≤j∧j≤1000000∧i.natAbs < 2^64
 ·rw [if_pos c] at ee;cases ee;exact ⟨i,j,rfl,rfl,c,rfl,fun _ _=>.int _⟩
 ·rw [if_neg c] at ee;cases ee
theorem yL (ee:Ci f d e h=some (z,h')):∃i j,d=.int i∧e=.int j∧h'=h∧z=.bl (f i j):=by
 cases d <;> first | (cases ee;done) | skip
 cases e <;> first | (cases ee;done) | skip
 cases ee;exact ⟨_,_,rfl,rfl,rfl,rfl⟩
theorem qo:OpS X (compareOp .Lt) fLt:=kr Ip fun d e h z h' ee=>by
 obtain ⟨i,j,rfl,rfl,rfl,rfl⟩:=yL ee;exact ⟨i,j,rfl,rfl,rfl,fun _ _=>.bl _⟩
theorem fK:OpS X (compareOp .LtE) fLe:=kr Iq fun d e h z h' ee=>by
 obtain ⟨i,j,rfl,rfl,rfl,rfl⟩:=yL ee;exact ⟨i,j,rfl,rfl,rfl,fun _ _=>.bl _⟩
theorem gE:OpS X (compareOp .Gt) fGt:=kr Ir fun d e h z h' ee=>by
 obtain ⟨i,j,rfl,rfl,rfl,rfl⟩:=yL ee;exact ⟨i,j,rfl,rfl,rfl,fun _ _=>.bl _⟩
theorem EK:OpS X (compareOp .GtE) fGe:=kr Iu fun d e h z h' ee=>by
 obtain ⟨i,j,rfl,rfl,rfl,rfl⟩:=yL ee;exact ⟨i,j,rfl,rfl,rfl,fun _ _=>.bl _⟩
theorem ji:UnR X (unaryOp .USub) (rU X.K pQ):=by
 intro pins s σ H x v Q I rx hh;obtain ⟨ρ,h,d,z,h',S,rd,ee,k⟩:=hh;cases rd <;> first | (cases ee;done) | skip
 cases ee;exact EW pins s σ H _ v Q I rx ⟨_,rfl,k _ _ (.here S (.int _))⟩
theorem Ga:OpS X (binaryOp .Add) zQ:=by
 intro pins s σ H x y v u Q I rx ry hh;obtain ⟨ρ,h,d,e,z,h',S,rd,re,ee,k⟩:=hh;have lists:((gy d h).bind fun xs=>(gy e h).bind fun ys=>if xs.length+ys.length≤sizeLine then some (D.lv (xs++ys),h) else none)=some (z,h')->wpAny (model X.prog X.w) X.A (binaryOp .Add v u) (EP X pins σ Q) X.xe s:=by
  intro ee;obtain ⟨xs,e1,e4⟩:=bnd ee;obtain ⟨ys,e2,e3⟩:=bnd e4
  by_cases c:xs.length+ys.length≤sizeLine
  ·rw [if_pos c] at e3;cases e3;obtain ⟨a,vs,rfl,ha,la⟩:=eQ S rd e1;obtain ⟨b,us,rfl,hb,lb⟩:=eQ S re e2;exact Bw pins s σ H _ _ v u Q I rx ry ⟨a,b,vs,us,rfl,rfl,ha,hb,by rw [la.length,lb.length];exact c,fun p hp=>k _ _ (.lv S (la.append lb) hp)⟩
  ·rw [if_neg c] at e3;cases e3
 cases d with
 | int i=>
  cases e <;> first | (cases ee;done) | skip
  cases ee;cases rd;cases re;exact Gk pins s σ H _ _ v u Q I rx ry ⟨_,_,rfl,rfl,k _ _ (.here S (.int _))⟩
 | str a=>
  cases e <;> first | (cases ee;done) | skip
  rename_i b;unfold zQ at ee;dsimp only at ee
  by_cases c:a.length+b.length≤sizeLine
  ·rw [if_pos c] at ee;cases ee;cases rd with | str h1=>cases re with | str h2=>
   exact xu pins s σ H _ _ v u Q I rx ry ⟨a,b,rfl,rfl,c,k _ _ (.here S (.str (y7 h1 h2)))⟩
  ·rw [if_neg c] at ee;cases ee
 | tup xs=>
  cases xs with
  | nil=>cases e <;> cases ee
  | cons x0 xs=>
   cases e <;> first | (cases ee;done) | skip
   rename_i ys;unfold zQ at ee;dsimp only at ee
   by_cases c:xs.length+1+ys.length≤sizeLine
   ·rw [if_pos c] at ee;cases ee;cases rd with | tup h1 l1=>cases re with | tup h2 l2=>
    rename_i a vs b us;refine DM pins s σ H _ _ v u Q I rx ry ⟨a,b,vs,us,rfl,rfl,h1.sq,h2.sq,?_,?_,fun z=>?_,fun _ p hp=>k _ _ (.tup S (l1.append l2) hp)⟩
    ·intro z;rw [z] at l1;cases l1
    ·rw [l1.length,l2.length];exact c
    ·rw [z] at l2;cases l2;rw [List.append_nil] at k;exact k _ _ (.here S (.tup h1 l1))
   ·rw [if_neg c] at ee;cases ee
 | lv xs=>exact lists (by cases e <;> exact ee)
 | ob n=>exact lists (by cases e <;> exact ee)
 | non=>exact lists (by cases e <;> exact ee)
 | bl b=>exact lists (by cases e <;> exact ee)
 | ty b=>exact lists (by cases e <;> exact ee)
 | ro b=>exact lists (by cases e <;> exact ee)
 | dv b=>exact lists (by cases e <;> exact ee)
theorem kF (h1:p.canLay0=true) (h2:p.depth≤64):SeqAt.shaped p=true:=by
 unfold PySem.SeqAt.shaped;rw [h1,decide_eq_true h2];rfl
theorem C8 {K:FR} {ρ:Ad} {H:Hp} {v:V} {d:D} (r:Rep K ρ H v d):decide (v=V.non)=isN d:=by
 cases r <;> rfl
theorem xr:OpS X (compareOp .Is) Ee:=by
 intro pins s σ H x y v u Q I rx ry hh;obtain ⟨ρ,h,d,e,z,h',S,rd,re,ee,k⟩:=hh;cases e <;> first | (cases ee;done) | skip
 cases ee;cases re;refine Gi pins s σ H _ _ v u Q I rx ry ⟨rfl,?_⟩;rw [C8 rd];exact k _ _ (.here S (.bl _))
theorem tf:∀{us:List Value} {ds:List PyData} {as:List Addr},ReadsAll h us ds as->(∀u d as,u∈us->Reads h u d as->d∈ds->f u=PyData.eqv d p)->us.any f=ds.any fun b=>PyData.eqv b p
 | _,_,_,.nil,_=>rfl
 | _,_,_,.cons r l,hf=>by
  rw [List.any_cons,List.any_cons,hf _ _ _ List.mem_cons_self r List.mem_cons_self,tf l fun u d as hu hr hd=>hf u d as (List.mem_cons_of_mem _ hu) hr (List.mem_cons_of_mem _ hd)]
open Classical in
noncomputable def eqF (h:Heap) (p:PyData) (u:Value):Bool:=if q:∃d as,Reads h u d as∧d.canLay0=true then PyData.eqv q.choose p else false
theorem B2 (r:Reads h u d as) (c:d.canLay0=true):eqF h p u=PyData.eqv d p:=by
 have q:∃d as,Reads h u d as∧d.canLay0=true:=⟨d,as,r,c⟩;unfold eqF;rw [dif_pos q];obtain ⟨as',r',c'⟩:=q.choose_spec;rw [PySem.SeqAt.Reads.unique _ _ _ _ _ c' r' r]
theorem ja:∀{ds:List PyData} {d:PyData},PyData.canLayAll0 ds=true->d∈ds->d.canLay0=true
 | x::r,d,c,m=>by
  simp only [PyData.canLayAll0,Bool.and_eq_true] at c;rcases List.mem_cons.mp m with rfl | m
  ·exact c.1
  ·exact ja c.2 m
theorem sR:∀{ds:List PyData} {d:PyData},d∈ds->d.depth≤PyData.depthAll ds
 | x::r,d,m=>by
  simp only [PyData.depthAll];rcases List.mem_cons.mp m with rfl | m
  ·lia
  ·have:=sR m;lia
theorem sx:∀{us:List Value} {ds:List PyData} {as:List Addr},ReadsAll h us ds as->∀y∈us,∃d as,Reads h y d as∧d∈ds
 | _,_,_,.nil,y,hy=>by cases hy
 | _,_,_,.cons r l,y,hy=>by
  rcases List.mem_cons.mp hy with rfl | hy
  ·exact ⟨_,_,r,List.mem_cons_self⟩
  ·obtain ⟨d,as,a1,a2⟩:=sx l y hy;exact ⟨d,as,a1,List.mem_cons_of_mem _ a2⟩
theorem in_of (hu:X.A.units+64 < cLine) (I:L2.Inv X pins σ H s) (rx:L2.RelV x v) (ry:L2.RelV y u) (S:Sim X.K ρ h H) (rd:Rep X.K ρ H x d) (re:Rep X.K ρ H y e) {c:Bool} (ee:inD d e h=some c) {Q:Bool->Shared->Prop} (hq:∀s',L2.Inv X pins σ H s'->Q c s'):
  wpAny (model X.prog X.w) X.A (compareOp .In v u) (fun r s'=>∃c,r=.bool c∧Q c s') X.xe s∧wpAny (model X.prog X.w) X.A (compareOp .NotIn v u) (fun r s'=>∃c,r=.bool (!c)∧Q c s') X.xe s:=by
 unfold inD at ee;cases qd:dw e h with
 | some kvs=>
  rw [qd] at ee;obtain ⟨k,e1,e2⟩:=mpd ee;obtain ⟨a,us,rfl,ha,l⟩:=gM S re qd;obtain rfl:u=Value.ref a:=ry;have ek:=fY rd e1;subst ek;have g:nq H a (kV k) (jg us k):=nq.k ha;have ec:(jg us k).isSome=c:=by
   rw [←e2];rcases l.val k with ⟨h1,h2⟩ | ⟨d,v,h1,h2,_⟩
   ·rw [h1,h2];rfl
   ·rw [h1,h2];rfl
  refine ⟨JS (by lia) I g rx fun s' I'=>⟨c,by rw [ec],hq s' I'⟩,Ei (by lia) I g rx fun s' I'=>⟨c,by rw [ec],hq s' I'⟩⟩
 | none=>
  rw [qd] at ee;dsimp only at ee;have seqs:((ej e h).bind fun p=>(rdD h d).bind fun a=>(pyL p.1).bind fun bs=>if a.depth≤60∧PyData.depthAll bs≤60 then some (bs.any fun b=>PyData.eqv b a) else none)=some c->
    wpAny (model X.prog X.w) X.A (compareOp .In v u) (fun r s'=>∃c,r=.bool c∧Q c s') X.xe s∧wpAny (model X.prog X.w) X.A (compareOp .NotIn v u) (fun r s'=>∃c,r=.bool (!c)∧Q c s') X.xe s:=by
   intro ee;obtain ⟨⟨xs,ws⟩,e1,e2⟩:=bnd ee;obtain ⟨p,e3,e4⟩:=bnd e2;obtain ⟨bs,e5,e6⟩:=bnd e4
   by_cases w:p.depth≤60∧PyData.depthAll bs≤60
   ·rw [if_pos w] at e6;cases e6;obtain ⟨a,vs,rfl,hq',l⟩:=pE S re e1;obtain rfl:u=Value.ref a:=ry;obtain ⟨r1,c1⟩:=tZ S rd e3;obtain ⟨r2,c2⟩:=l.rds e5;obtain ⟨as,ra⟩:=r1.reads I rx;have key:∀its:List Value,Vals vs its->(∀y,y∈its->PySem.SeqAt.EqAt X.A.in1 s y v (eqF s.heap p y))∧its.any (eqF s.heap p)=bs.any fun b=>PyData.eqv b p:=by
     intro its rv;obtain ⟨bs',rb⟩:=r2.reads I rv;refine ⟨fun y hy=>?_,tf rb fun u d as _ hr hd=>B2 hr (ja c2 hd)⟩;obtain ⟨d,as',hr,hd⟩:=sx rb y hy;rw [B2 hr (ja c2 hd)];refine PySem.SeqAt.eqAt_reads d p _ s y v as' as hr ra (ja c2 hd) c1 ?_;have h1:=sR hd;have h2:min d.depth p.depth≤d.depth:=Nat.min_le_left _ _;show X.A.units+1+min d.depth p.depth < cLine;have h3:=w.2
     lia
    rcases hq' with hq' | hq'
    ·obtain ⟨its,rv,pl,_⟩:=I.list hq';obtain ⟨k1,k2⟩:=key its rv;have k1':∀y,y∈its.toArray->PySem.SeqAt.EqAt X.A.in1 s y v (eqF s.heap p y):=fun y hy=>k1 y (by simpa using hy);have k2':its.toArray.any (eqF s.heap p)=bs.any fun b=>PyData.eqv b p:=by rw [←k2];simp
     exact ⟨PySem.SeqAt.in_listAt _ pl.isList k1' ⟨_,rfl,by rw [k2'];exact hq s I⟩,PySem.SeqAt.notIn_listAt _ pl.isList k1' ⟨_,rfl,by rw [k2'];exact hq s I⟩⟩
    ·obtain ⟨its,rv,pl,_⟩:=I.tuple hq';obtain ⟨k1,k2⟩:=key its rv;have k1':∀y,y∈its.toArray->PySem.SeqAt.EqAt X.A.in1 s y v (eqF s.heap p y):=fun y hy=>k1 y (by simpa using hy);have k2':its.toArray.any (eqF s.heap p)=bs.any fun b=>PyData.eqv b p:=by rw [←k2];simp
     exact ⟨PySem.SeqAt.in_tupleAt _ pl k1' ⟨_,rfl,by rw [k2'];exact hq s I⟩,PySem.SeqAt.notIn_tupleAt _ pl k1' ⟨_,rfl,by rw [k2'];exact hq s I⟩⟩
   ·rw [if_neg w] at e6;cases e6
  by_cases hs:(∃a,d=.str a)∧∃b,e=.str b
  ·obtain ⟨⟨a,rfl⟩,b,rfl⟩:=hs;cases ee;cases rd;cases re;obtain ⟨t,rfl⟩:=rx;obtain ⟨t',rfl⟩:=ry;exact ⟨in_str ⟨_,rfl,hq s I⟩,notIn_str ⟨_,rfl,hq s I⟩⟩
  ·refine seqs ?_;cases d <;> first | exact ee | skip
   cases e <;> first | exact ee | skip
   exact absurd ⟨⟨_,rfl⟩,_,rfl⟩ hs
theorem sE (hu:X.A.units+64 < cLine):OpS X (compareOp .In) fIn:=by
 intro pins s σ H x y v u Q I rx ry hh;obtain ⟨ρ,h,d,e,z,h',S,rd,re,ee,k⟩:=hh;obtain ⟨c,e1,e2⟩:=mpd ee;cases e2;refine thn (in_of hu I rx ry S rd re e1 (Q:=fun c' s'=>c'=c∧L2.Inv X pins σ H s') fun s' I'=>⟨rfl,I'⟩).1 fun r s' ⟨c',hr,hc,I'⟩=>?_;subst hr;subst hc;exact ⟨.bl _,H,I',rfl,k _ _ (.here S (.bl _))⟩
theorem qm (hu:X.A.units+64 < cLine):OpS X (compareOp .NotIn) j2:=by
 intro pins s σ H x y v u Q I rx ry hh;obtain ⟨ρ,h,d,e,z,h',S,rd,re,ee,k⟩:=hh;obtain ⟨c,e1,e2⟩:=mpd ee;cases e2;refine thn (in_of hu I rx ry S rd re e1 (Q:=fun c' s'=>c'=c∧L2.Inv X pins σ H s') fun s' I'=>⟨rfl,I'⟩).2 fun r s' ⟨c',hr,hc,I'⟩=>?_;subst hr;subst hc;exact ⟨.bl _,H,I',rfl,k _ _ (.here S (.bl _))⟩
theorem Ew {K:FR} {ρ:Ad} {H:Hp} {vs:List V} {ds:List D} {i:Int} {d:D} (l:RepL K ρ H vs ds) (e:atI ds i=some d):∃v,atI vs i=some v∧Rep K ρ H v d:=by
 unfold atI at e;obtain ⟨j,e1,e2⟩:=bnd e;obtain ⟨v,e3,r⟩:=l.got e2;exact ⟨v,by unfold atI;rw [l.length,e1];exact e3,r⟩
theorem IA (hu:X.A.units+64 < cLine):IxR X (rS X.K fIx):=by
 intro value slice pins s σ H x y v u Q I rx ry hh hs;obtain ⟨ρ,h,d,e,z,h',S,rd,re,ee,k⟩:=hh;unfold fIx at ee;cases qd:dw d h with
 | some kvs=>
  rw [qd] at ee;obtain ⟨ky,e1,e2⟩:=bnd ee;obtain ⟨z',e3,e4⟩:=mpd e2;cases e4;obtain ⟨a,us,rfl,ha,l⟩:=gM S rd qd;obtain rfl:v=Value.ref a:=rx;have ek:=fY re e1;subst ek;rcases l.val ky with ⟨h1,h2⟩ | ⟨d',w,h1,h2,r⟩
  ·rw [h1] at e3;cases e3
  ·rw [h1] at e3;cases e3;have g:nq H a (kV ky) (some w):=by rw [←h2];exact nq.k ha
   exact tail_any (wq I g) PySem.F.slot_dict_getitem.lookup (zW (by lia) I g ry fun w' s3 I3 rw'=>⟨w,H,I3,rw',k _ _ (.here S r)⟩) hs
 | none=>
  rw [qd] at ee;dsimp only at ee;cases e <;> first | (cases d <;> (cases ee;done)) | skip
  rename_i i;have seqs:((ej d h).bind fun p=>(atI p.1 i).map fun z=>(z,h))=some (z,h')->wpAny (model X.prog X.w) X.A (subscriptTail value slice v u) (EP X pins σ Q) X.xe s:=by
   intro ee;obtain ⟨⟨xs,ws⟩,e1,e2⟩:=bnd ee;obtain ⟨z',e3,e4⟩:=mpd e2;cases e4;obtain ⟨a,vs,rfl,hq',l⟩:=pE S rd e1;obtain ⟨w,e5,r⟩:=Ew l e3;cases re;rcases hq' with hq' | hq'
   ·exact D0 value slice pins s σ H _ _ v u Q I rx ry ⟨a,vs,i,w,rfl,rfl,hq',e5,k _ _ (.here S r)⟩ hs
   ·exact GI value slice pins s σ H _ _ v u Q I rx ry ⟨a,vs,i,w,rfl,rfl,hq',e5,k _ _ (.here S r)⟩ hs
  cases d with
  | str x0=>
   dsimp only at ee
   by_cases c:x0.length≤sizeLine
   ·rw [if_pos c] at ee;obtain ⟨ch,e3,e4⟩:=mpd ee;cases e4;cases rd with | str hs0=>
    cases re;exact GJ value slice pins s σ H _ _ v u Q I rx ry ⟨x0,i,ch,rfl,rfl,c,e3,k _ _ (.here S (.str (yZ hs0 e3)))⟩ hs
   ·rw [if_neg c] at ee;cases ee
  | _=>exact seqs ee
theorem HL (hu:X.A.units+64 < cLine) (ha:SE X a ma) (hb:SE X b mb) (hs:ni b:=by unfold ni;intro _ _;kernel_rfl):SE X (.Subscript a b pos) (eOp fIx ma mb):=(Ik (IA hu) ha hb hs).imp fun _ _ _=>ym
abbrev PM:=DS->MH->Option (Option Int×MH)
noncomputable def pNo:PM:=fun _ h=>some (none,h)
noncomputable def pAt (e:EM):PM:=fun δ h=>(e δ h).bind fun p=>match p.1 with
 | .int i=>some (some i,p.2)
 | _=>none
inductive TMOi (K:FR) (m:PM) (σ:L2.St) (H:Hp) (Q:Option Int->Hp->Prop):Prop where
 | mk (ρ δ h b h'):RepS K ρ H σ δ->Sim K ρ h H->(m δ h=some (b,h'))->(∀ρ' H',Stp ρ H ρ' H'->Sim K ρ' h' H'->Q b H')->TMOi K m σ H Q
noncomputable def tMO (K:FR) (m:PM):TO:=fun σ H Q=>TMOi K m σ H Q
def SP' (X:Cx) (e:Option Expr) (m:PM):Prop:=PO X e (tMO X.K m)
theorem dI:SP' X none pNo:=fun pins s σ H Q I hh=>by
 obtain ⟨ρ,δ,h,b,h',R,S,e,k⟩:=hh;cases e;exact Dy pins s σ H Q I (k ρ H (.refl _ _) S)
theorem cV (he:SE X e ma):SP' X (some e) (pAt ma):=fun pins s σ H Q I hh=>by
 obtain ⟨ρ,δ,h,b,h',R,S,e,k⟩:=hh;obtain ⟨⟨x,h1⟩,e1,e2⟩:=bnd e;cases x <;> first | (cases e2;done) | skip
 cases e2;refine Dx he pins s σ H Q I ⟨ρ,δ,h,_,_,R,S,e1,fun v H' ⟨ρ',T,S',r⟩=>?_⟩;cases r;exact ⟨_,rfl,k ρ' H' T S'⟩
noncomputable def cutD (xs:List D) (lo hi:Option Int):List D:=(xs.drop (HT.sIx xs.length 0 lo)).take (HT.sIx xs.length xs.length hi-HT.sIx xs.length 0 lo)
noncomputable def fSl (d:D) (lo hi:Option Int) (h:MH):Option (D×MH):=match d with
 | .str z=>if z.length≤sizeLine then some (.str (Txt.slice z lo hi),h) else none
 | .tup xs=>if HT.sIx xs.length 0 lo=0∧HT.sIx xs.length xs.length hi=xs.length then none else some (.tup (cutD xs lo hi),h)
 | d=>(ej d h).map fun p=>(.lv (cutD p.1 lo hi),h)
noncomputable def eSl (a:EM) (l u:PM):EM:=fun δ h=>(a δ h).bind fun p=>(l δ p.2).bind fun q=>(u δ q.2).bind fun r=>fSl p.1 q.1 r.1 r.2
inductive RSLi (K:FR) (x:V) (lo hi:Option Int) (H:Hp) (Q:VK):Prop where
 | mk (ρ h d z h'):Sim K ρ h H->Rep K ρ H x d->(fSl d lo hi h=some (z,h'))->(∀v H',dE K ρ H h' z v H'->Q v H')->RSLi K x lo hi H Q
def rSl (K:FR):V->Option Int->Option Int->Hp->VK->Prop:=fun x lo hi H Q=>RSLi K x lo hi H Q
theorem RepL.qK {K:FR} {ρ:Ad} {H:Hp} {vs:List V} {ds:List D} (l:RepL K ρ H vs ds) (lo hi:Option Int):RepL K ρ H (L2.qK vs lo hi) (cutD ds lo hi):=by
 unfold L2.qK cutD;rw [l.length];exact (l.drop _).take _
theorem EC:SlR X (rSl X.K):=by
 intro pins s σ H x v vl vu lo hi sl Q I rx hs pl pu hh;obtain ⟨ρ,h,d,z,h',S,rd,ee,k⟩:=hh;have lists:rX d=true->((ej d h).map fun p=>(D.lv (cutD p.1 lo hi),h))=some (z,h')->∃T id,typeLookup (.type T) "__getitem__"=pure (some (.builtin id))∧s.TypeIs v T∧wpAny (model X.prog X.w) X.A (getItem v (.ref sl)) (EP X pins σ Q) X.xe s:=by
  intro nt e2;obtain ⟨⟨xs,ws⟩,e1,e2⟩:=mpd e2;cases e2;obtain ⟨a,rfl,⟨vs,q,l⟩,_⟩:=nD S rd e1;rw [nt] at q;cases q with
  | l q=>exact CS pins s σ H _ v vl vu lo hi sl Q I rx hs pl pu ⟨a,vs,rfl,q,fun p hp=>k _ _ (.lv S (l.qK lo hi) hp)⟩
 cases d with
 | str x0=>
  unfold fSl at ee;dsimp only at ee
  by_cases c:x0.length≤sizeLine
  ·rw [if_pos c] at ee;cases ee;cases rd with | str hs0=>
   exact Fc pins s σ H _ v vl vu lo hi sl Q I rx hs pl pu ⟨x0,rfl,c,k _ _ (.here S (.str (ve _ _ hs0)))⟩
  ·rw [if_neg c] at ee;cases ee
 | tup xs=>
  unfold fSl at ee;dsimp only at ee
  by_cases c:HT.sIx xs.length 0 lo=0∧HT.sIx xs.length xs.length hi=xs.length
  ·rw [if_pos c] at ee;cases ee
  ·rw [if_neg c] at ee;cases ee;cases rd with | tup h0 l0=>
   exact Fb pins s σ H _ v vl vu lo hi sl Q I rx hs pl pu ⟨_,_,rfl,h0.sq,by rw [l0.length];exact c,fun p hp=>k _ _ (.tup S (l0.qK lo hi) hp)⟩
 | _=>exact lists rfl ee
theorem AK {x:Str} {id:String} {p pos:Pos} {e:Expr} {es:List Expr} {f:Fn} {m:AM} (hc:eZ X (.builtin id) f) (hg:Gl X x) (hm:X.mg x=none) (hv:bootBuiltins x=some (.builtin id)) (ha:SA X (e::es) m) (hn:x≠"__name__":=by decide) (hdb:(x==("__debug__":Str))=false:=by kernel_rfl)
  (he:starEach (e::es) X.env=(false,eval e X.env)::starEach es X.env:=by kernel_rfl) (hpl:(backTo pos (starEach es X.env)).any (·.1)=false:=by kernel_rfl):SE X (.Call (.Name x p) (e::es) [] pos) (eFn f m):=
 (vK hc hg hm hv ha hn hdb he hpl).imp fun σ H Q ⟨ρ,δ,h,d,h',R,S,e,k⟩=>by
  obtain ⟨⟨ds,h1⟩,e1,e2⟩:=bnd e;exact ⟨ρ,δ,h,ds,h1,R,S,e1,fun vs ρ1 H1 T1 S1 r1=>⟨ρ1,h1,ds,d,h',S1,r1,e2,fun v H' P=>k v H' (P.step T1)⟩⟩
theorem AJ {x:Str} {id:String} {p pos:Pos} {e:Expr} {es:List Expr} {f:Fn} {m:AM} (hc:eZ X (.type id) f) (hg:Gl X x) (hm:X.mg x=none) (hv:bootBuiltins x=some (.type id)) (ha:SA X (e::es) m) (hn:x≠"__name__":=by decide) (hdb:(x==("__debug__":Str))=false:=by kernel_rfl)
  (he:starEach (e::es) X.env=(false,eval e X.env)::starEach es X.env:=by kernel_rfl) (hpl:(backTo pos (starEach es X.env)).any (·.1)=false:=by kernel_rfl):SE X (.Call (.Name x p) (e::es) [] pos) (eFn f m):=
 (nV hc hg hm hv ha hn hdb he hpl).imp fun σ H Q ⟨ρ,δ,h,d,h',R,S,e,k⟩=>by
  obtain ⟨⟨ds,h1⟩,e1,e2⟩:=bnd e;exact ⟨ρ,δ,h,ds,h1,R,S,e1,fun vs ρ1 H1 T1 S1 r1=>⟨ρ1,h1,ds,d,h',S1,r1,e2,fun v H' P=>k v H' (P.step T1)⟩⟩
noncomputable def bE:Fn:=fun ds h=>match ds with
 | [.str z]=>if z.length≤sizeLine then some (.int z.length,h) else none
 | [d]=>match dw d h with
  | some kvs=>some (.int kvs.length,h)
  | none=>(ej d h).map fun p=>(.int p.1.length,h)
 | _=>none
noncomputable def GX:Fn:=fun ds h=>match ds with
 | [.int i]=>some (.int (if i < 0 then -i else i),h)
 | _=>none
noncomputable def tyD (d:D) (h:MH):Option String:=match d with
 | .non=>some "NoneType"
 | .bl _=>some "bool"
 | .int _=>some "int"
 | .str _=>some "str"
 | .tup _=>some "tuple"
 | .lv _=>some "list"
 | .dv _=>some "dict"
 | .ob n=>match h[n]? with
  | some (.lst _)=>some "list"
  | some (.dct _)=>some "dict"
  | none=>none
 | _=>none
noncomputable def Ax (t n:String):Bool:=t==n||(t=="bool"&&n=="int")
noncomputable def cN:Fn:=fun ds h=>match ds with
 | [d,.ty n]=>if n∈["int","str","bool","tuple","list","dict"] then (tyD d h).map fun t=>(.bl (Ax t n),h) else none
 | _=>none
noncomputable def eR:Fn:=fun ds h=>match ds with
 | [d]=>(ej d h).map fun p=>(.tup p.1,h)
 | _=>none
noncomputable def Ab:List D->Option (List Bool)
 | []=>some []
 | .bl b::r=>(Ab r).map fun bs=>b::bs
 | _=>none
noncomputable def j5:Fn:=fun ds h=>match ds with
 | [d]=>(gy d h).bind fun xs=>(Ab xs).map fun bs=>(.bl (bs.all id),h)
 | _=>none
theorem rep1 {K:FR} {ρ:Ad} {H:Hp} {vs:List V} {d:D} (l:RepL K ρ H vs [d]):∃v,vs=[v]∧Rep K ρ H v d:=by
 cases l with
 | cons r l=>cases l;exact ⟨_,rfl,r⟩
theorem rep2 {K:FR} {ρ:Ad} {H:Hp} {vs:List V} {d e:D} (l:RepL K ρ H vs [d,e]):∃v u,vs=[v,u]∧Rep K ρ H v d∧Rep K ρ H u e:=by
 cases l with
 | cons r l=>cases l with
  | cons r' l=>cases l;exact ⟨_,_,rfl,r,r'⟩
theorem aP:eZ X (.builtin "len") bE:=by
 intro pins s σ H xs us Q I r hh;obtain ⟨ρ,h,ds,z,h',S,l,ee,k⟩:=hh
 match ds,l,ee with
 | [],_,ee=>cases ee
 | _::_::_,_,ee=>exact absurd ee (by unfold bE;split <;> simp_all)
 | [d],l,ee=>
  obtain ⟨v,rfl,rd⟩:=rep1 l;have oth:(match dw d h with | some kvs=>some (D.int kvs.length,h) | none=>(ej d h).map fun p=>(D.int p.1.length,h))=some (z,h')->wpAny (model X.prog X.w) X.A (call (.builtin "len") us) (EP X pins σ Q) X.xe s:=by
   intro ee;cases q:dw d h with
   | some kvs=>
    rw [q] at ee;cases ee;obtain ⟨a,ws,rfl,ha,lk⟩:=gM S rd q;refine z8 pins s σ H _ us Q I r ⟨a,ws,rfl,ha,k _ _ ?_⟩;rw [lk.length];exact .here S (.int _)
   | none=>
    rw [q] at ee;obtain ⟨⟨ys,w⟩,e1,e2⟩:=mpd ee;cases e2;obtain ⟨a,vs,rfl,hq,l2⟩:=pE S rd e1;refine uQ pins s σ H _ us Q I r ⟨a,vs,rfl,hq,k _ _ ?_⟩;rw [l2.length];exact .here S (.int _)
  cases d with
  | str x0=>
   unfold bE at ee;dsimp only at ee
   by_cases c:x0.length≤sizeLine
   ·rw [if_pos c] at ee;cases ee;cases rd;exact uP pins s σ H _ us Q I r ⟨x0,rfl,c,k _ _ (.here S (.int _))⟩
   ·rw [if_neg c] at ee;cases ee
  | _=>exact oth ee
theorem Cg:eZ X (.builtin "abs") GX:=by
 intro pins s σ H xs us Q I r hh;obtain ⟨ρ,h,ds,z,h',S,l,ee,k⟩:=hh
 match ds,l,ee with
 | [],_,ee=>cases ee
 | d::_::_,_,ee=>cases d <;> cases ee
 | [d],l,ee=>
  obtain ⟨v,rfl,rd⟩:=rep1 l;cases rd <;> first | (cases ee;done) | skip
  cases ee;exact Cq pins s σ H _ us Q I r ⟨_,rfl,k _ _ (.here S (.int _))⟩
theorem dD:eZ X (.type "tuple") eR:=by
 intro pins s σ H xs us Q I r hh;obtain ⟨ρ,h,ds,z,h',S,l,ee,k⟩:=hh
 match ds,l,ee with
 | [],_,ee=>cases ee
 | _::_::_,_,ee=>cases ee
 | [d],l,ee=>
  obtain ⟨v,rfl,rd⟩:=rep1 l;obtain ⟨⟨ys,w⟩,e1,e2⟩:=mpd ee;cases e2;obtain ⟨a,rfl,⟨vs,q,l2⟩,_⟩:=nD S rd e1;refine r8 pins s σ H _ us Q I r ⟨a,vs,rfl,?_⟩;generalize hb:rX d=b at q;cases q with
  | l q=>exact .inl ⟨q,fun p hp=>k _ _ (.tup S l2 hp)⟩
  | t q=>
   refine .inr ⟨q,k _ _ ?_⟩;cases rd <;> first | (cases hb;done) | skip
   cases e1;exact .here S (.tup ‹_› ‹_›)
theorem Cu {K:FR} {ρ:Ad} {H:Hp}:∀{vs:List V} {xs:List D} {bs:List Bool},RepL K ρ H vs xs->Ab xs=some bs->vs=bs.map V.bl
 | _,_,_,.nil,e=>by cases e;rfl
 | _,_,_,.cons r l,e=>by
  cases r <;> first | (cases e;done) | skip
  obtain ⟨bs',e1,e2⟩:=mpd e;cases e2;rw [Cu l e1];rfl
theorem fS (hc:X.calm=true):eZ X (.builtin "all") j5:=by
 intro pins s σ H xs us Q I r hh;obtain ⟨ρ,h,ds,z,h',S,l,ee,k⟩:=hh
 match ds,l,ee with
 | [],_,ee=>cases ee
 | _::_::_,_,ee=>cases ee
 | [d],l,ee=>
  obtain ⟨v,rfl,rd⟩:=rep1 l;obtain ⟨ys,e1,e2⟩:=bnd ee;obtain ⟨bs,e3,e4⟩:=mpd e2;cases e4;obtain ⟨a,vs,rfl,ha,l2⟩:=eQ S rd e1;rw [Cu l2 e3] at ha;exact Co hc pins s σ H _ us Q I r ⟨a,bs,rfl,SqL.of ha,k _ _ (.here S (.bl _))⟩
theorem yz {K:FR} {t n:String} (ht:t∈["NoneType","bool","int","str","tuple","list","dict"]) (hn:n∈["int","str","bool","tuple","list","dict"]):PySem.W.kitOne K (.type t) (.type n)=some (Ax t n):=by
 simp only [List.mem_cons,List.mem_nil_iff,or_false] at ht hn;rcases ht with rfl | rfl | rfl | rfl | rfl | rfl | rfl <;> rcases hn with rfl | rfl | rfl | rfl | rfl | rfl <;> rfl
theorem bp:eZ X (.builtin "isinstance") cN:=by
 intro pins s σ H xs us Q I r hh;obtain ⟨ρ,h,ds,z,h',S,l,ee,k⟩:=hh
 match ds,l,ee with
 | [],_,ee=>cases ee
 | [_],_,ee=>cases ee
 | _::d::_::_,_,ee=>cases d <;> cases ee
 | [d,c],l,ee=>
  cases c <;> first | (cases ee;done) | skip
  rename_i n;unfold cN at ee;dsimp only at ee
  by_cases hn:n∈["int","str","bool","tuple","list","dict"]
  ·rw [if_pos hn] at ee;obtain ⟨t,e1,e2⟩:=mpd ee;cases e2;obtain ⟨v,u,rfl,rd,ru⟩:=rep2 l;cases ru;have fin:=k (.bl (Ax t n)) H (.here S (.bl _));have go:∀ty,TyOf X.K H v (.type ty)->t=ty->ty∈["NoneType","bool","int","str","tuple","list","dict"]->wpAny (model X.prog X.w) X.A (call (.builtin "isinstance") us) (EP X pins σ Q) X.xe s:=fun ty hty e hm=>by
    subst e;exact Cn pins s σ H _ us Q I r ⟨v,n,_,_,rfl,hty,yz hm hn,fin⟩
   cases rd with
   | non=>cases e1;exact go _ .non rfl (by decide)
   | bl b=>cases e1;exact go _ (.bl b) rfl (by decide)
   | int i=>cases e1;exact go _ (.int i) rfl (by decide)
   | str h0=>cases e1;exact go _ (.str _) rfl (by decide)
   | ty _=>cases e1
   | ro _ _=>cases e1
   | lv h0 _ _=>cases e1;exact go _ (.lst h0) rfl (by decide)
   | dv h0 _ _=>cases e1;exact go _ (.dK h0) rfl (by decide)
   | @ob a m hm=>
    unfold tyD at e1;dsimp only at e1;cases q:h[m]? with
    | none=>rw [q] at e1;cases e1
    | some o=>
     rw [q] at e1;have x:=S.at_ m a o hm q;cases o with
     | lst _=>cases e1;obtain ⟨vs,e3,_⟩:=x;exact go _ (.lst e3) rfl (by decide)
     | dct _=>cases e1;obtain ⟨vs,e3,_⟩:=x;exact go _ (.dK e3) rfl (by decide)
   | @tup a vs ds h0 l0=>
    cases e1;obtain ⟨u1,u2,rfl,r1,r2⟩:=Vals.two r;obtain rfl:u1=Value.ref a:=r1;obtain rfl:u2=Value.type n:=r2;obtain ⟨its,_,⟨o,h1,h2,_⟩,_⟩:=I.tuple h0.sq;exact PySem.W.kia_one PySem.W.kitx_tuple I.kIn ⟨o,h1,h2⟩ (yz (t:="tuple") (by decide) hn) (fun z=>nomatch z) fun tk=>⟨.bl _,H,I.tok tk,rfl,fin⟩
  ·rw [if_neg hn] at ee;cases ee
noncomputable def wH (m:AM):AM:=fun δ h=>(m δ h).bind fun p=>match p.1 with
 | [d]=>(ej d p.2).map fun q=>(q.1,p.2)
 | _=>none
theorem tO (hg:Gl X x) (hm:X.mg x=none) (hv:bootBuiltins x=some (.type "list")) (ha:SA X [e] m) (hl:oz m 1) (hn:x≠"__name__":=by decide) (hdb:(x==("__debug__":Str))=false:=by kernel_rfl) (he:starEach [e] X.env=(false,eval e X.env)::starEach [] X.env:=by kernel_rfl) (hpl:(backTo pos (starEach [] X.env)).any (·.1)=false:=by kernel_rfl):SFL X (.Call (.Name x p) [e] [] pos) (wH m):=
 (nV uO hg hm hv ha hn hdb he hpl).imp fun σ H Q ⟨ρ,δ,h,d,h',R,S,e,k⟩=>by
  obtain ⟨⟨ds,h1⟩,e1,e2⟩:=bnd e;refine ⟨ρ,δ,h,ds,h1,R,S,e1,fun vs ρ1 H1 T1 S1 r1=>?_⟩
  match ds,hl _ _ _ _ e1,e2,r1 with
  | [d],_,e2,r1=>
   obtain ⟨⟨ys,w⟩,e3,e4⟩:=mpd e2;cases e4;obtain ⟨v,rfl,rd⟩:=rep1 r1;obtain ⟨a,ws,rfl,hq,l2⟩:=pE S1 rd e3;exact ⟨a,ws,rfl,hq,fun l hl=>k ρ1 H1 l ws T1 S1 hl l2⟩
noncomputable def rZ (o i v:D) (h:MH):Option MH:=match o with
 | .ob n=>match h[n]? with
  | some (.lst xs)=>match i with
   | .int j=>(ixN xs.length j).map fun p=>h.set n (.lst (xs.set p v))
   | _=>none
  | some (.dct kvs)=>(mH i).bind fun k=>if kvs.length < sizeLine then some (h.set n (.dct (putD kvs k v))) else none
  | none=>none
 | _=>none
noncomputable def rY (o i:EM):GM:=fun v δ h=>(o δ h).bind fun p=>(i δ p.2).bind fun q=>(rZ p.1 q.1 v q.2).map fun h'=>(δ,h')
inductive RSETi (K:FR) (o i v:V) (H:Hp) (Q:Hp->Prop):Prop where
 | mk (ρ h a b c h'):Sim K ρ h H->Rep K ρ H o a->Rep K ρ H i b->Rep K ρ H v c->(rZ a b c h=some h')->(∀ρ' H',Stp ρ H ρ' H'->Sim K ρ' h' H'->Q H')->RSETi K o i v H Q
def Jw (K:FR):V->V->V->Hp->(Hp->Prop)->Prop:=fun o i v H Q=>RSETi K o i v H Q
theorem Ds (hu:X.A.units+64 < cLine):Hj X (Jw X.K):=by
 intro pins s σ H o i v ov iv u Q I ro ri rv hh;obtain ⟨ρ,h,a,b,c,h',S,ra,rb,rc,ee,k⟩:=hh;cases ra <;> first | (cases ee;done) | skip
 rename_i a n hn;unfold rZ at ee;dsimp only at ee;cases q:h[n]? with
 | none=>rw [q] at ee;cases ee
 | some w=>
  rw [q] at ee;have x:=S.at_ n a w hn q;have ma:=List.mem_of_getElem? hn;cases w with
  | lst xs=>
   dsimp only at ee;cases rb <;> first | (cases ee;done) | skip
   rename_i j;obtain ⟨p,e1,e2⟩:=mpd ee;cases e2;obtain ⟨vs,e3,l⟩:=x;have T:Stp ρ H ρ (upd H a (.lst (vs.set p v))):=Stp.wrote S ma;exact set_list pins s σ H _ _ v ov iv u Q I ro ri rv ⟨a,vs,j,p,rfl,rfl,e3,by rw [l.length];exact e1,k ρ _ T (S.wrote hn ⟨_,aY,(l.set rc p).mono T.toCh⟩)⟩
  | dct kvs=>
   dsimp only at ee;obtain ⟨ky,e1,e2⟩:=bnd ee
   by_cases z:kvs.length < sizeLine
   ·rw [if_pos z] at e2;cases e2;obtain ⟨us,e3,l⟩:=x;have ek:=fY rb e1;subst ek;obtain rfl:ov=Value.ref a:=ro;have T:Stp ρ H ρ (upd H a (.dK (putK us ky v))):=Stp.wrote S ma;exact zV (by lia) I (EA.k e3 (by rw [l.length];exact z)) ri rv fun s' I'=>⟨_,I',k ρ _ T (S.wrote hn ⟨_,aY,(l.put rc).mono T.toCh⟩)⟩
   ·rw [if_neg z] at e2;cases e2
theorem nC (hu:X.A.units+64 < cLine) (ho:SE X o mo) (hi:SE X i mi) (ha:∀v,assign (.Subscript o i pos) X.env v=(do
   let ov←holding [v] (eval o X.env);let iv←holding [v,ov] (eval i X.env)
   standAt pos
   holding [v,ov,iv] (setItem ov iv v)
   release [v,ov,iv] []):=by intro _;kernel_rfl):SG X (.Subscript o i pos) (rY mo mi):=
 (FT ho hi (Ds hu) ha).imp fun v σ H Q ⟨ρ,δ,h,d,δ',h',R,S,r,e,k⟩=>by
  obtain ⟨⟨x,h1⟩,e1,e2⟩:=bnd e;obtain ⟨⟨y,h2⟩,e3,e4⟩:=bnd e2;obtain ⟨h3,e5,e6⟩:=mpd e4;cases e6;exact ⟨ρ,δ,h,x,h1,R,S,e1,fun ov H1 ⟨ρ1,T1,S1,r1⟩=>⟨ρ1,δ,h1,y,h2,R.mono T1,S1,e3,fun iv H2 ⟨ρ2,T2,S2,r2⟩=>
   ⟨ρ2,h2,x,y,d,_,S2,r1.mono T2,r2,r.mono (T1.trans T2).toCh,e5,fun ρ3 H3 T3 S3=>k ρ3 H3 σ (T1.trans (T2.trans T3)) S3 (R.mono (T1.trans (T2.trans T3)).toCh)⟩⟩⟩
abbrev MFn:=D->List D->MH->Option (D×MH)
inductive RMi (K:FR) (f:MFn) (x:V) (vs:List V) (H:Hp) (Q:VK):Prop where
 | mk (ρ h d ds z h'):Sim K ρ h H->Rep K ρ H x d->RepL K ρ H vs ds->(f d ds h=some (z,h'))->(∀v H',dE K ρ H h' z v H'->Q v H')->RMi K f x vs H Q
def rM (K:FR) (f:MFn):V->List V->Hp->VK->Prop:=fun x vs H Q=>RMi K f x vs H Q
noncomputable def eM (isT:D->MH->Bool) (f:MFn) (o:EM) (m:AM):EM:=fun δ h=>(o δ h).bind fun p=>if isT p.1 p.2 then (m δ p.2).bind fun q=>f p.1 q.1 q.2 else none
noncomputable def jZ (d:D) (h:MH):Bool:=(gy d h).isSome
noncomputable def BJ (d:D) (h:MH):Bool:=(dw d h).isSome
noncomputable def gF:MFn:=fun d ds h=>match d,ds with
 | .ob n,[y]=>match h[n]? with
  | some (.lst xs)=>if xs.length < sizeLine then some (.non,h.set n (.lst (xs++[y]))) else none
  | _=>none
 | _,_=>none
theorem tG {K:FR} {ρ:Ad} {H:Hp} {h:MH} {v:V} {d:D} (S:Sim K ρ h H) (r:Rep K ρ H v d) (e:jZ d h=true):tyV K "list" v H:=by
 obtain ⟨xs,e1⟩:=Option.isSome_iff_exists.mp e;obtain ⟨a,vs,rfl,ha,_⟩:=eQ S r e1;exact .inl ⟨rfl,vs,SqL.of ha⟩
theorem EX {K:FR} {ρ:Ad} {H:Hp} {h:MH} {v:V} {d:D} (S:Sim K ρ h H) (r:Rep K ρ H v d) (e:BJ d h=true):tyV K "dict" v H:=by
 obtain ⟨xs,e1⟩:=Option.isSome_iff_exists.mp e;obtain ⟨a,vs,rfl,ha,_⟩:=gM S r e1;exact .inr (.inr (.inl ⟨rfl,.inl ⟨vs,ha⟩⟩))
theorem AH {T id:String} {name:Str} {o e:Expr} {es:List Expr} {apos cpos:Pos} {f:MFn} {mo:EM} {m:AM} {isT:D->MH->Bool} (hT:∀{K:FR} {ρ:Ad} {H:Hp} {h:MH} {v:V} {d:D},Sim K ρ h H->Rep K ρ H v d->isT d h=true->tyV K T v H)
  (pa:PlainAttrs T) (slot:Slot T name id) (hty:typeOf (.builtin id)=pure (.type "method_descriptor")) (hm:MtR X id (rM X.K f)) (ho:SE X o mo) (ha:SA X (e::es) m)
  (hbase:attributeBase o name X.env (eval o X.env)=eval o X.env:=by kernel_rfl)
  (hfew:((backTo cpos (starEach (e::es) X.env)).all (fun x=>!x.1)&&(backToKw cpos (keywordEach [] X.env)).all (fun x=>x.1.isSome)
   &&decide ((e::es).length+([]:List Keyword).length+(if ([]:List Keyword).isEmpty then 0 else 1) < 30))=true:=by kernel_rfl)
  (hline:(apos.endLine==cpos.line)=true:=by kernel_rfl) (hs:starEach (e::es) X.env=(false,eval e X.env)::starEach es X.env:=by kernel_rfl) (hplain:(backTo cpos (starEach es X.env)).any (·.1)=false:=by kernel_rfl):
  SE X (.Call (.Attribute o name apos) (e::es) [] cpos) (eM isT f mo m):=(Il pa slot hty hm ho ha hbase hfew hline hs hplain).imp fun σ H Q ⟨ρ,δ,h,d,h',R,S,e,k⟩=>by
 obtain ⟨⟨x,h1⟩,e1,e2⟩:=bnd e;dsimp only at e2
 by_cases c:isT x h1=true
 ·rw [if_pos c] at e2;obtain ⟨⟨ds,h2⟩,e3,e4⟩:=bnd e2;exact ⟨ρ,δ,h,x,h1,R,S,e1,fun v H1 ⟨ρ1,T1,S1,r1⟩=>⟨hT S1 r1 c,ρ1,δ,h1,ds,h2,R.mono T1,S1,e3,fun vs ρ2 H2 T2 S2 r2=>⟨ρ2,h2,x,ds,d,h',S2,r1.mono T2,r2,e4,fun w H3 p=>k w H3 (p.step (T1.trans T2))⟩⟩⟩
 ·rw [if_neg c] at e2;cases e2
theorem Gq {K:FR} {ρ:Ad} {H:Hp} {h:MH} {n:Nat} {xs:List D} {v:V} (S:Sim K ρ h H) (r:Rep K ρ H v (.ob n)) (q:h[n]?=some (.lst xs)):∃a vs,v=.ref a∧ρ.ob[n]?=some a∧H a=some (.lst vs)∧RepL K ρ H vs xs:=by
 cases r with
 | ob hn=>obtain ⟨vs,e,l⟩:=S.at_ n _ _ hn q;exact ⟨_,vs,rfl,hn,e,l⟩
theorem kA:MtR X "list.append" (rM X.K gF):=by
 intro pins s σ H x xs v us Q I rx rs hh;obtain ⟨ρ,h,d,ds,z,h',S,rd,l,ee,k⟩:=hh;cases d <;> first | (cases ee;done) | skip
 rename_i n
 match ds,l,ee with
 | [],_,ee=>cases ee
 | _::_::_,_,ee=>cases ee
 | [y],l,ee=>
  unfold gF at ee;dsimp only at ee;cases q:h[n]? with
  | none=>rw [q] at ee;cases ee
  | some w=>
   rw [q] at ee;cases w with
   | dct _=>cases ee
   | lst ys=>
    dsimp only at ee
    by_cases c:ys.length < sizeLine
    ·rw [if_pos c] at ee;cases ee;obtain ⟨a,vs,rfl,hn,e1,l1⟩:=Gq S rd q;obtain ⟨u,rfl,ru⟩:=rep1 l;have T:Stp ρ H ρ (upd H a (.lst (vs++[u]))):=Stp.wrote S (List.mem_of_getElem? hn);exact sG pins s σ H _ _ v us Q I rx rs ⟨a,vs,u,rfl,rfl,e1,by rw [l1.length];exact c,k _ _ ⟨ρ,T,S.wrote hn ⟨_,aY,(l1.snoc ru).mono T.toCh⟩,.non⟩⟩
    ·rw [if_neg c] at ee;cases ee
end Sm
namespace Sb
open PySem L2 PySem.Spec PyProof.Rows
open Builtin.SmallTypes (nextOf ownedTupleIsFree ownedTupleHandOut)
noncomputable def kn:Bool->String
 | true=>"list_iterator"
 | false=>"tuple_iterator"
def At (b:Bool) (h:Heap) (j l:Addr) (i:Nat):Prop:=∃o,h.get? j=some o∧o.cls=.type (kn b)∧o.data=.fields #[.ref l,.int i 0]
def Of (b:Bool) (h:Heap) (l:Addr) (items:Array Value):Prop:=match b with
 | true=>h.IsList l items
 | false=>h.IsTuple l items
theorem At.up (x:At b h j l i) (k:∀o,h.get? j=some o->h'.get? j=some o):At b h' j l i:=let ⟨o,e,r⟩:=x;⟨o,k o e,r⟩
theorem At.lt (x:At b h j l i):j < h.objs.size:=let ⟨_,e,_⟩:=x;Heap.lt_size e
theorem Iv (hj:At b s.heap j l i) (hl:Of b s.heap l items) (hx:items[i]?=some x) (k:∀h',At b h' j l (i+1)->Heap.SameBut j s.heap h'->Q x {s with heap:=h'}):wpAny (model P w) A (nextOf (.ref j)) Q E s:=by
 cases b with
 | true=>exact wpAny_nextOf_list_item (show s.heap.IsListIter j l i from hj) (show s.heap.IsList l items from hl) hx k
 | false=>
  have hj':s.heap.IsTupleIter j l i:=hj;obtain ⟨o,eo,ec,ed⟩:=hj';obtain ⟨ol,el,_,nl,edl⟩:=(show s.heap.IsTuple l items from hl);unfold nextOf;refine wpAny_bind (wpAny_callSpecial?_slot (name:=Str.ofString "__next__") (show s.TypeIs (.ref j) "tuple_iterator" from ⟨o,eo,ec⟩) F.slot_tuple_iterator_next
   (wpAny_call_entry F.slot_tuple_iterator_next (show s.TypeIs (.ref j) "tuple_iterator" from ⟨o,eo,ec⟩) F.entry_tuple_iterator_next ?_ (F.args_tuple_iterator_next_1 _)))
  show wpAny _ _ (field (.ref j) 0 >>=_) _ _ s;refine wpAny_bind (wpAny_field eo ed (x:=.ref l) rfl ?_);show wpAny _ _ (if (Value.ref l==Value.none)=true then _ else _) _ _ s;rw [if_neg (show ¬((Value.ref l==Value.none)=true) by exact Bool.false_ne_true)];show wpAny _ _ (field (.ref j) 1 >>=_) _ _ s;refine wpAny_bind (wpAny_field eo ed (x:=.int i 0) rfl ?_);show wpAny _ _ (seqItems? (.ref l) >>=_) _ _ s;refine wpAny_bind (wpAny_seqItems el edl ?_);simp only [Int.toNat_natCast,hx];refine wpAny_bind (wpAny_setField eo ed (by simp) (wpAny_pure ⟨x,rfl,wpAny_pure (k _ ?_ (Heap.SameBut.update ..))⟩));exact ⟨_,Heap.get?_update_self _ eo (Obj.isFreed_of_fields (Obj.data_mapFields ed _)),(Obj.cls_mapFields ..).trans ec,by rw [Obj.data_mapFields ed];simp [rawInt]⟩
theorem Iw (hh:A.handled=none) (hj:At b s.heap j l i) (hl:Of b s.heap l items) (hx:items[i]?=none) (k:∀h' e,Heap.ExtBut j s.heap h'->(∃o,h'.get? e=some o∧o.cls=.type "StopIteration")->E (.ref e) {s with heap:=h'}):wpAny (model P w) A (nextOf (.ref j)) Q E s:=by
 cases b with
 | true=>exact wpAny_nextOf_list_end hh (show s.heap.IsListIter j l i from hj) (show s.heap.IsList l items from hl) hx k
 | false=>
  have hj':s.heap.IsTupleIter j l i:=hj;obtain ⟨o,eo,ec,ed⟩:=hj';obtain ⟨ol,el,_,nl,edl⟩:=(show s.heap.IsTuple l items from hl);unfold nextOf;refine wpAny_bind (wpAny_callSpecial?_slot (name:=Str.ofString "__next__") (show s.TypeIs (.ref j) "tuple_iterator" from ⟨o,eo,ec⟩) F.slot_tuple_iterator_next
   (wpAny_call_entry F.slot_tuple_iterator_next (show s.TypeIs (.ref j) "tuple_iterator" from ⟨o,eo,ec⟩) F.entry_tuple_iterator_next ?_ (F.args_tuple_iterator_next_1 _)))
  show wpAny _ _ (field (.ref j) 0 >>=_) _ _ s;refine wpAny_bind (wpAny_field eo ed (x:=.ref l) rfl ?_);show wpAny _ _ (if (Value.ref l==Value.none)=true then _ else _) _ _ s;rw [if_neg (show ¬((Value.ref l==Value.none)=true) by exact Bool.false_ne_true)];show wpAny _ _ (field (.ref j) 1 >>=_) _ _ s;refine wpAny_bind (wpAny_field eo ed (x:=.int i 0) rfl ?_);show wpAny _ _ (seqItems? (.ref l) >>=_) _ _ s;refine wpAny_bind (wpAny_seqItems el edl ?_);simp only [Int.toNat_natCast,hx];refine wpAny_bind (wpAny_rule (wpAny_bind (wpAny_setField eo ed (by simp) ?_)));show wpAny _ _ (newExc (.type "StopIteration") [] >>=_) _ _ _;refine wpAny_bind ?_;simp only [newExc,newTuple];refine wpAny_bind (wpAny_newObj_type ?_ (by size_fits));refine wpAny_bind (m:=firstArgMember _ _) (wpAny_of_eq (a:=Value.none) (by first | (simp only [firstArgMember];rfl) | rfl) ?_);refine wpAny_newObj_type ?_ (by size_fits);simp only [raiseNew];refine wpAny_bind (wpAny_handled ?_)
  first | rw [hh] | rw [show A.in1.handled=none from hh]
  refine wpAny_bind (wpAny_pure (wpAny_throw (k _ _ (((Heap.SameBut.update ..).extBut.push _).push _) ⟨_,Heap.get?_push_size _ rfl,rfl⟩)))
open Builtin.SmallTypes (nextOf ownedTupleIsFree ownedTupleHandOut)
variable {P:Program} {w:World} {A:Around} {E:Value->Shared->Prop} {s:Shared} {b c:Bool}
theorem zS {e j l:Addr} {i:Nat} {items:Array Value} {x old:Value} {Q:Option Value->Shared->Prop} (hE:IsEnum s.heap e j i old) (hj:At b s.heap j l i) (hl:Of b s.heap l items) (hx:items[i]?=some x) (ne:e≠j)
  (k:∀h',IsEnumOut h' e j ((i:Int)+1) x s.heap.objs.size->At b h' j l (i+1)->h'.get? s.heap.objs.size=some {cls:=.type "tuple",data:=.seq #[.int i s.toks,x]}->h'.objs.size=s.heap.objs.size+1->
   (∀a o,a≠e->a≠j->s.heap.get? a=some o->h'.get? a=some o)->Q (some (.ref s.heap.objs.size)) {s with heap:=h',toks:=s.toks+1}):wpAny (model P w) A (pyNext (.ref e)) Q E s:=by
 have hT:s.TypeIs (.ref e) "enumerate":=⟨_,hE,rfl⟩;unfold pyNext;refine wpAny_bind (wpAny_attempt (wpAny_callSpecial?_slot (name:=Str.ofString "__next__") hT F.slot_enumerate_next (wpAny_call_entry F.slot_enumerate_next hT F.entry_enumerate_next ?_ (F.args_enumerate_next_1 _))));obtain ⟨hp,g,d,tk,os⟩:=s;show wpAny _ _ (field (.ref e) 2 >>=_) _ _ _;refine wpAny_bind (wpAny_field hE rfl (x:=.ref j) rfl (wpAny_bind (Iv hj hl hx fun k₁ j₁ t₁=>?_)));replace t₁:Heap.SameBut j hp k₁:=t₁;have E₁:IsEnum k₁ e j i old:=(t₁.2 e ne).trans hE;show wpAny _ _ (field (.ref e) 3 >>=_) _ _ ⟨k₁,g,d,tk,os⟩;refine wpAny_bind (wpAny_field E₁ rfl (x:=rawInt i) rfl ?_);show wpAny _ _ (field (.ref e) 4 >>=_) _ _ ⟨k₁,g,d,tk,os⟩;refine wpAny_bind (wpAny_field E₁ rfl (x:=.none) rfl ?_);show wpAny _ _ (mkInt i >>=_) _ _ ⟨k₁,g,d,tk,os⟩;refine wpAny_bind (wpAny_mkInt ?_);show wpAny _ _ (setField (.ref e) 3 (rawInt ((i:Int)+1)) >>=_) _ _ ⟨k₁,g,d,tk+1,os⟩;refine wpAny_bind (wpAny_setField_rec E₁ (by simp) fun k₂ E₂ t₂=>?_);replace t₂:Heap.SameBut e k₁ k₂:=t₂;replace E₂:IsEnum k₂ e j ((i:Int)+1) old:=E₂;show wpAny _ _ (setField (.ref e) 4 .none >>=_) _ _ ⟨k₂,g,d,tk+1,os⟩;refine wpAny_bind (wpAny_setField_rec E₂ (by simp) fun k₃ E₃ t₃=>?_);replace t₃:Heap.SameBut e k₂ k₃:=t₃;replace E₃:IsEnum k₃ e j ((i:Int)+1) old:=E₃;show wpAny _ _ (newTuple [.int i tk,x] >>=_) _ _ ⟨k₃,g,d,tk+1,os⟩;refine wpAny_bind (wpAny_newTuple ?_);have E₄:IsEnum (k₃.push {cls:=.type "tuple",data:=.seq #[.int i tk,x]}) e j ((i:Int)+1) old:=Heap.get?_push_of_some _ E₃;generalize eq₄:k₃.push {cls:=.type "tuple",data:=.seq #[.int i tk,x]}=k₄ at E₄;have sz:k₃.objs.size=hp.objs.size:=by rw [t₃.1,t₂.1,t₁.1]
 have lte:e < hp.objs.size:=Heap.lt_size hE;have tp:k₄.get? hp.objs.size=some {cls:=.type "tuple",data:=.seq #[.int i tk,x]}:=by rw [←eq₄,←sz];exact Heap.get?_push_size _ rfl
 have sz₄:k₄.objs.size=hp.objs.size+1:=by rw [←eq₄,Heap.size_push,sz]
 have up₄:∀a o,a≠e->a≠j->hp.get? a=some o->k₄.get? a=some o:=fun a o z1 z2 q=>by
  rw [←eq₄];exact Heap.get?_push_of_some _ (t₃.extBut a o z1 (t₂.extBut a o z1 (t₁.extBut a o z2 q)))
 have j₄:At b k₄ j l (i+1):=j₁.up fun o q=>by rw [←eq₄];exact Heap.get?_push_of_some _ (t₃.extBut j o (Ne.symm ne) (t₂.extBut j o (Ne.symm ne) q))
 show wpAny _ _ (ownedTupleIsFree (.ref e) >>=_) _ _ ⟨k₄,g,d,tk+1,os⟩;rw [sz];clear eq₄ E₃ t₃ E₂ t₂ E₁ t₁ j₁ sz k₃ k₂ k₁;refine wpAny_bind ?_;unfold ownedTupleIsFree;refine wpAny_bind (wpAny_field E₄ rfl (x:=.none) rfl (wpAny_pure ?_));simp only [if_true];refine wpAny_bind (wpAny_rule (wpAny_bind (wpAny_field E₄ rfl (x:=old) rfl (wpAny_bind (wpAny_setField_rec E₄ (by simp) fun k₅ E₅ t₅=>?_)))));replace t₅:Heap.SameBut e k₄ k₅:=t₅;replace E₅:IsEnum k₅ e j ((i:Int)+1) x:=E₅;show wpAny _ _ (ownedTupleHandOut (.ref e) (.ref hp.objs.size) >>=_) _ _ ⟨k₅,g,d,tk+1,os⟩;refine wpAny_bind ?_;unfold ownedTupleHandOut;refine wpAny_bind (wpAny_setField_rec E₅ (by simp) fun k₆ E₆ t₆=>?_);replace t₆:Heap.SameBut e k₅ k₆:=t₆;replace E₆:IsEnumOut k₆ e j ((i:Int)+1) x hp.objs.size:=E₆;refine wpAny_setField_rec E₆ (by simp) fun k₇ E₇ t₇=>?_;replace t₇:Heap.SameBut e k₆ k₇:=t₇;replace E₇:IsEnumOut k₇ e j ((i:Int)+1) x hp.objs.size:=E₇;have up:∀a o,a≠e->k₄.get? a=some o->k₇.get? a=some o:=fun a o z q=>t₇.extBut a o z (t₆.extBut a o z (t₅.extBut a o z q));refine wpAny_bind (wpAny_letGo (wpAny_pure ⟨_,rfl,wpAny_pure (k k₇ E₇ (j₄.up fun o q=>up j o (Ne.symm ne) q) (up _ _ (Nat.ne_of_gt lte) tp) ?_ fun a o z1 z2 q=>up a o z1 (up₄ a o z1 z2 q))⟩));rw [t₇.1,t₆.1,t₅.1,sz₄]
theorem B4 {e j l:Addr} {i:Nat} {items:Array Value} {old:Value} {Q:Option Value->Shared->Prop} (hh:A.handled=none) (hE:IsEnum s.heap e j i old) (hj:At b s.heap j l i) (hl:Of b s.heap l items) (hx:items[i]?=none)
  (k:∀h',Heap.ExtBut j s.heap h'->Q none {s with heap:=h'}):wpAny (model P w) A (pyNext (.ref e)) Q E s:=by
 have hT:s.TypeIs (.ref e) "enumerate":=⟨_,hE,rfl⟩;unfold pyNext;refine wpAny_bind (wpAny_attempt (wpAny_callSpecial?_slot (name:=Str.ofString "__next__") hT F.slot_enumerate_next (wpAny_call_entry F.slot_enumerate_next hT F.entry_enumerate_next ?_ (F.args_enumerate_next_1 _))));show wpAny _ _ (field (.ref e) 2 >>=_) _ _ _;refine wpAny_bind (wpAny_field hE rfl (x:=.ref j) rfl (wpAny_bind (Iw hh hj hl hx fun h' y he' ⟨o,ho,hc⟩=>?_)));exact wpAny_bind (wpAny_isInstance (T:="StopIteration") (b:=true) ⟨o,ho,hc⟩ isSubtype_stop (wpAny_pure (k _ he')))
theorem zR (x:Of b s.heap l items) (k:∀h',IsEnum h' (s.heap.objs.size+1) s.heap.objs.size 0 .none->At b h' s.heap.objs.size l 0->h'.objs.size=s.heap.objs.size+2->(∀a o,s.heap.get? a=some o->h'.get? a=some o)->Q (.ref (s.heap.objs.size+1)) {s with heap:=h'}):
  wpAny (model P w) A (call (.type "enumerate") [.ref l]) Q E s:=by
 cases b with
 | true=>exact call_enumerate_list (show s.heap.IsList l items from x) k
 | false=>
  have mt:PySem.Meets (Builtin.«enumerate.__new__» ⟨[.type "enumerate",.ref l],[]⟩) (fun _ R s=>s.heap.IsTuple l items∧
    R (.ok (.ret (.ref (s.heap.push {cls:=.type "tuple_iterator",data:=.fields #[.ref l,.int 0 0]}).objs.size)))
     {s with heap:=(s.heap.push {cls:=.type "tuple_iterator",data:=.fields #[.ref l,.int 0 0]}).push {cls:=.type "enumerate",data:=.fields #[.none,.bool false,.ref s.heap.objs.size,rawInt 0,.none,.none]}}):=
   .of_wp fun prog w A R s h=>by
    obtain ⟨hp,g,d,tk,os⟩:=s;obtain ⟨hl,h⟩:=h;have sub:=sub_enumerate;have hL:Heap.IsTuple (Shared.heap ⟨hp,g,d,tk,os⟩) l items:=hl;obtain ⟨o0,e0,c0,n0,d0⟩:=id hL
    wp_walk
    refine wpAny_stack_any fun st=>wpAny_pure ?_
    split
    ·rename_i c _ _ _ _ _;cases (c==Value.type "enumerate")
     ·wp_walk using wpAny_pyIter_tuple hL
      exact ⟨_,rfl,h⟩
     ·wp_walk using wpAny_pyIter_tuple hL
      exact ⟨_,rfl,h⟩
    ·wp_walk using wpAny_pyIter_tuple hL
     exact ⟨_,rfl,h⟩
  refine callType_new F.called_enumerate (by decide) (F.typeCall_enumerate_1 _) (F.newCall_enumerate_1 _) (fun obj=>F.args_object_init_2 obj _) F.entry_enumerate_new mt ⟨x,?_⟩;have z1:(s.heap.push {cls:=.type "tuple_iterator",data:=.fields #[.ref l,.int 0 0]}).objs.size=s.heap.objs.size+1:=Heap.size_push ..;show _∧_;rw [z1];have eE:IsEnum ((s.heap.push {cls:=.type "tuple_iterator",data:=.fields #[.ref l,.int 0 0]}).push
    {cls:=.type "enumerate",data:=.fields #[.none,.bool false,.ref s.heap.objs.size,rawInt 0,.none,.none]}) (s.heap.objs.size+1) s.heap.objs.size 0 .none:=by
   have q:=Heap.get?_push_size (s.heap.push {cls:=.type "tuple_iterator",data:=.fields #[.ref l,.int 0 0]}) (o:={cls:=.type "enumerate",data:=.fields #[.none,.bool false,.ref s.heap.objs.size,rawInt 0,.none,.none]}) rfl;rw [z1] at q;exact q
  refine ⟨⟨_,eE,rfl⟩,k _ eE ⟨_,Heap.get?_push_of_some _ (Heap.get?_push_size _ rfl),rfl,rfl⟩ (by rw [Heap.size_push,z1]) fun a o q=>Heap.get?_push_of_some _ (Heap.get?_push_of_some _ q)⟩
end Sb
namespace Sb
open PySem L2 PySem.Spec PyProof.Rows
open Builtin.SmallTypes (nextOf ownedTupleIsFree ownedTupleHandOut)
section
variable {X:Cx} {pins:List (Addr×Obj)} {σ:L2.St} {H:Hp} {s:Shared} {h':Heap} {fp:List Addr}
theorem yh (I:L2.Inv X pins σ H s) (k:∀b o,b∉fp->s.heap.get? b=some o->h'.get? b=some o) (hf:∀b∈fp,ib X pins H b):L2.Inv X pins σ H {s with heap:=h',toks:=t'}:=by
 have nit:∀b u,H b=some u->b∉fp:=fun b u e z=>by rw [(hf b z).1] at e;cases e
 have nL:X.env.locals∉fp:=fun z=>(hf _ z).2.1 rfl;refine I.step (g':=s.gens) (d':=s.drawn) (ch:=fp) (fun b hb=>?_) (fun b o _ _ hc e _=>k b o hc e) (fun b o _ _ hc e _=>⟨o.slots,k b o hc e⟩) (fun _ _ _ _ n=>n)
  (fun b o hc e=>⟨o,k b o hc e⟩) (fun _ _ e=>e) (fun _ _ _ e=>e) (fun b ps e=>⟨#[],by rw [e];simp⟩) (fun m hm=>?_) (fun b u e=>?_) I.bare
 ·obtain ⟨f0,f1,f2,f3,f4,f5⟩:=hf b hb;exact ⟨f3,f1,f4,f5⟩
 ·obtain ⟨o,es,ep,ho,r⟩:=hm;exact ⟨o,es,ep,k _ o nL ho,r⟩
 ·refine (I.hok b u e).vf (fun c v hc q=>k c v ?_ q) (fun _ q=>q) fun _ _ q=>q;rcases hc with z | z
  ·rw [z];exact nit b u e
  ·exact nit c _ z
theorem CI (I:L2.Inv X pins σ H s) (k:∀b o,b∉fp->s.heap.get? b=some o->h'.get? b=some o) (hf:∀b∈fp,ib X pins H b) (hlt:∀b∈fp,b < s.heap.objs.size) (ht:h'.get? s.heap.objs.size=some {cls:=.type "tuple",data:=.seq us.toArray n}) (r:Vals vs us) (hz:vs.length≤sizeLine):L2.Inv X pins σ (upd H s.heap.objs.size (.tup vs)) {s with heap:=h',toks:=t'}:=by
 have nit:∀b u,H b=some u->b∉fp:=fun b u e z=>by rw [(hf b z).1] at e;cases e
 have nL:X.env.locals∉fp:=fun z=>(hf _ z).2.1 rfl;have hp:H s.heap.objs.size=none:=I.hok.fresh (Nat.le_refl _);have np:∀b o,s.heap.get? b=some o->b≠s.heap.objs.size:=fun b o e=>Nat.ne_of_lt (Heap.lt_size e);have nH:∀b u,H b=some u->b≠s.heap.objs.size:=fun b u e=>aO e hp;refine I.step (g':=s.gens) (d':=s.drawn) (ch:=fp) (fun b hb=>?_) (fun b o _ _ hc e _=>k b o hc e) (fun b o _ _ hc e _=>⟨o.slots,k b o hc e⟩) (fun b o _ e n=>by rw [aB (np b o e)];exact n)
  (fun b o hc e=>⟨o,k b o hc e⟩) (fun b _ e=>by rw [aB (nH b _ e)];exact e) (fun b _ _ e=>by rw [aB (nH b _ e)];exact e) (fun b ps e=>⟨#[],by rw [aB (nH b _ e),e];simp⟩) (fun m hm=>?_) (fun b u e=>?_) I.bare
 ·obtain ⟨f0,f1,f2,f3,f4,f5⟩:=hf b hb;exact ⟨f3,f1,f4,f5⟩
 ·obtain ⟨o,es,ep,ho,q⟩:=hm;exact ⟨o,es,ep,k _ o nL ho,q⟩
 ·by_cases z:b=s.heap.objs.size
  ·subst z;rw [aY] at e;cases e;exact ⟨hz,us,r,⟨_,ht,rfl,⟨n,rfl⟩,rfl⟩⟩
  ·rw [aB z] at e;refine (I.hok b u e).vf (fun c v hc q=>k c v ?_ q) (fun c q=>?_) fun c u q=>?_
   ·rcases hc with y | y
    ·rw [y];exact nit b u e
    ·exact nit c _ y
   ·rw [aB (nH _ _ q)];exact q
   ·rw [aB (nH _ _ q)];exact q
end
def SqB (b:Bool) (K:FR) (H:Hp) (l:Addr) (xs:List V):Prop:=match b with
 | true=>SqL K H l xs
 | false=>SqT K H l xs
theorem SqB.of (I:L2.Inv X pins σ H s) (q:SqB b X.K H l xs):∃its:List Value,Vals xs its∧Of b s.heap l its.toArray:=by
 cases b with
 | true=>obtain ⟨its,r,p,_⟩:=I.list (show SqL X.K H l xs from q);exact ⟨its,r,p.isList⟩
 | false=>obtain ⟨its,r,p,_⟩:=I.tuple (show SqT X.K H l xs from q);exact ⟨its,r,p⟩
theorem SqB.inj (I:L2.Inv X pins σ H s) (q:SqB b X.K H l xs) (q':SqB b X.K H l ys):xs=ys:=by
 cases b with
 | true=>exact I.vU q q'
 | false=>exact I.si q q'
noncomputable def Ite (b:Bool) (K:FR) (l:Addr):It:=
 ⟨fun i H=>∃xs x,SqB b K H l xs∧xs[i]?=some x,fun i H x H'=>∃p y,H p=none∧x=.ref p∧H'=upd H p (.tup [.int (i:Int),y])∧∀xs,SqB b K H l xs->xs[i]?=some y,fun i H=>∃xs,SqB b K H l xs∧xs.length≤i⟩
theorem yV {P:Program} {w:World} {K:FR} {es:List Expr} {k0:Nat} {pos:Pos} (b:Bool) (l e j:Addr) (ne:e≠j):Turn P w K (.Tuple es k0 pos) (Ite b K l) [e,j] e (fun i h=>(∃old,IsEnum h e j i old)∧At b h j l i) where
 mem:=by simp
 obj:=fun i h st a ha=>by
  obtain ⟨⟨old,h1⟩,o,h2,_,d2⟩:=st;simp at ha;rcases ha with rfl | rfl
  ·exact ⟨_,h1,fun v z=>by cases z⟩
  ·exact ⟨o,h2,fun v z=>by rw [d2] at z;cases z⟩
 keep:=fun i h h' ⟨⟨old,h1⟩,h2⟩ k=>⟨⟨old,k e (by simp) _ h1⟩,h2.up fun o q=>k j (by simp) o q⟩
 item:=by
  intro X hP hw hK hc i pins s σ H E I hf st hg;subst hP hw hK;obtain ⟨xs,x,hq,hx⟩:=hg;obtain ⟨⟨old,h1⟩,h2⟩:=st;obtain ⟨its,rv,hO⟩:=hq.of I;obtain ⟨u,hu,ru⟩:=rv.get hx;have hlt:∀a∈[e,j],a < s.heap.objs.size:=fun a ha=>by
   simp at ha;rcases ha with rfl | rfl
   ·exact Heap.lt_size h1
   ·exact h2.lt
  refine zS h1 h2 hO (x:=u) (by simpa using hu) ne fun h' a1 a2 a3 a4 a5=>⟨_,rfl,wpAny_letOwnedTupleGo_enum a1 fun h'' b1 b2=>?_⟩;have hp:H s.heap.objs.size=none:=I.hok.fresh (Nat.le_refl _);have I1:=CI (t':=s.toks+1) (vs:=[.int (i:Int),x]) (us:=[.int i s.toks,u]) (n:=0) I (fun a o ha q=>a5 a o (fun z=>ha (by simp [z])) (fun z=>ha (by simp [z])) q) hf hlt a3 (.cons ⟨_,rfl⟩ (.cons ru .nil)) (show 2≤sizeLine by decide);have hf1:∀a∈[e,j],ib X pins (upd H s.heap.objs.size (.tup [.int (i:Int),x])) a:=fun a ha=>by
   obtain ⟨f0,f⟩:=hf a ha;exact ⟨by rw [aB (Nat.ne_of_lt (hlt a ha))];exact f0,f⟩
  have I2:=yh (t':=s.toks+1) I1 (h':=h'') (fun a o ha q=>b2.extBut a o (fun z=>ha (by simp [z])) q) hf1;exact ⟨.ref s.heap.objs.size,_,I2,rfl,⟨_,x,hp,rfl,rfl,fun ys hy=>by rw [hy.inj I hq];exact hx⟩,⟨⟨_,by simpa using b1⟩,a2.up fun o q=>b2.extBut j o (Ne.symm ne) q⟩,fun a ha=>(hf1 a ha).1⟩
 done:=by
  intro X hP hw hK hc i pins s σ H E I hf st hg;subst hP hw hK;obtain ⟨xs,hq,hx⟩:=hg;obtain ⟨⟨old,h1⟩,h2⟩:=st;obtain ⟨its,rv,hO⟩:=hq.of I;have hl:=rv.length;exact B4 (I.ok.hd hc) h1 h2 hO (by simp;lia) fun h' eb=>⟨rfl,yh (t':=s.toks) I (fun a o ha q=>eb a o (fun z=>ha (by simp [z])) q) hf⟩
 self:=fun A i s Q E ⟨⟨old,h1⟩,_⟩ q=>by
  have hT:s.TypeIs (.ref e) "enumerate":=⟨_,h1,rfl⟩;refine wpAny_pyIter_slot hT F.slot_enumerate_iter (wpAny_call_entry F.slot_enumerate_iter hT F.entry_enumerate_iter ?_ (F.args_enumerate_iter_1 _));show wpAny _ _ (ret (.ref e)) _ _ s;exact wpAny_pure ⟨_,rfl,"enumerate",_,hT,F.slot_enumerate_next.lookup,q⟩
theorem Aa:bootBuiltins "enumerate"=some (.type "enumerate"):=by decide+kernel
theorem DC (hg:Gl X "enumerate") (hm:X.mg "enumerate"=none) (ha:PA X [a] ta) (hs:starEach [a] X.env=[(false,eval a X.env)]:=by kernel_rfl):
  PI X (.Tuple es k0 tpos) (.Call (.Name "enumerate" p) [a] [] pos) (fun σ H R=>ta σ H fun vs H1=>∃l b,vs=[.ref l]∧(∃xs,SqB b X.K H1 l xs)∧R (Ite b X.K l) H1):=by
 intro pins s σ H R I h;refine Call_ (lM I hg hm Aa (PyProof.Rows.callWith_type1 (thn (ha pos pins s σ H _ I h) fun us s1 ⟨vs,H1,I1,r1,q1⟩=>?_) hs rfl));obtain ⟨l,b,e,⟨xs,hq⟩,q⟩:=q1;subst e;obtain ⟨u,rfl,ru⟩:=Vals.one r1;obtain rfl:u=Value.ref l:=ru;obtain ⟨its,rv,hO⟩:=hq.of I1;refine zR hO fun h' a1 a2 a3 a4=>?_;have I2:L2.Inv X pins σ H1 {s1 with heap:=h'}:=I1.kept (t':=s1.toks) a4;have hf:∀c∈[s1.heap.objs.size+1,s1.heap.objs.size],ib X pins H1 c:=fun c hc=>by
  simp at hc;rcases hc with rfl | rfl
  ·exact I1.uE (Nat.le_succ _) (I1.hok.fresh (Nat.le_succ _))
  ·exact I1.uE (Nat.le_refl _) (I1.hok.fresh (Nat.le_refl _))
 have T:=yV (P:=X.prog) (w:=X.w) (K:=X.K) (es:=es) (k0:=k0) (pos:=tpos) b l (s1.heap.objs.size+1) s1.heap.objs.size (Nat.succ_ne_self _);refine T.self X.A 0 {s1 with heap:=h'} _ X.xe ⟨⟨_,a1⟩,a2⟩ ?_;exact ⟨_,[s1.heap.objs.size+1,s1.heap.objs.size],_,_,H1,rfl,I2,T,⟨⟨_,a1⟩,a2⟩,hf,q⟩
end Sb
namespace Sm
open PySem L2 PySem.Spec PyProof.Rows
noncomputable def k3:Nat->List D->List D
 | _,[]=>[]
 | k,x::r=>.tup [.int (k:Int),x]::k3 (k+1) r
theorem om:∀(xs:List D) (k i:Nat),(k3 k xs)[i]?=(xs[i]?).map fun x=>.tup [.int ((k+i:Nat):Int),x]
 | [],k,i=>by simp [k3]
 | x::r,k,0=>by simp [k3]
 | x::r,k,i+1=>by
  show (k3 (k+1) r)[i]?=_;rw [om r (k+1) i];simp only [List.getElem?_cons_succ];congr 1
  funext y
  rw [show k+1+i=k+(i+1) by lia]
theorem i6:∀(xs:List D) (k:Nat),(k3 k xs).length=xs.length
 | [],_=>rfl
 | _::r,k=>by simp [k3,i6 r (k+1)]
theorem SeqAt.sqB {K:FR} {H:Hp} {a:Addr} {vs:List V} {b:Bool} (q:SeqAt K H a vs b):Sb.SqB b K H a vs:=by
 cases q with
 | l q=>exact q
 | t q=>exact q
noncomputable def BN (m:AM):IM:=fun δ h=>(m δ h).bind fun p=>match p.1 with
 | [d]=>(ej d p.2).map fun q=>(k3 0 q.1,q.2,p.2)
 | _=>none
theorem CT (hg:Gl X "enumerate") (hm:X.mg "enumerate"=none) (ha:SA X [a] m) (hl:oz m 1) (hs:starEach [a] X.env=[(false,eval a X.env)]:=by kernel_rfl):SI X (.Tuple es k0 tpos) (.Call (.Name "enumerate" p) [a] [] pos) (BN m):=
 (Sb.DC hg hm ha hs).imp fun σ H Q ⟨ρ,δ,h,xs,ws,h',R,S,e,k⟩=>by
  obtain ⟨⟨ds,h1⟩,e1,e2⟩:=bnd e;refine ⟨ρ,δ,h,ds,h1,R,S,e1,fun vs ρ1 H1 T1 S1 r1=>?_⟩
  match ds,hl _ _ _ _ e1,e2,r1 with
  | [d],_,e2,r1=>
   obtain ⟨⟨ys,w⟩,e3,e4⟩:=mpd e2;cases e4;obtain ⟨v,rfl,rd⟩:=rep1 r1;obtain ⟨a,rfl,⟨us,q,l⟩,st⟩:=nD S1 rd e3;refine ⟨a,rX d,rfl,⟨us,q.sqB⟩,k _ ρ1 H1 T1 S1 ⟨fun ρ2 H2 h2 T2 S2 hc i=>?_⟩⟩;obtain ⟨ws,l2,q2⟩:=st ρ2 H2 h2 T2 S2 hc;refine ⟨fun hi=>⟨ws,q2.sqB,by rw [l2.length];rw [i6] at hi;exact hi⟩,fun x hx=>?_⟩;rw [om] at hx;obtain ⟨y,ey,hx⟩:=mpd hx;subst hx;obtain ⟨v,ev,rv⟩:=l2.got ey;refine ⟨⟨ws,v,q2.sqB,ev⟩,fun u H3 ⟨p,y',hp,hu,hH,hy⟩=>?_⟩;subst hu;subst hH;have hy':y'=v:=by have:=hy ws q2.sqB;rw [ev] at this;exact (Option.some.inj this).symm
   subst hy';refine ⟨Stp.laid S2 hp,S2.laid hp,.tup (.inl ⟨.inl aY,S2.fresh hp⟩) (.cons ?_ (.cons (rv.mono (Stp.laid S2 hp).toCh) .nil))⟩;rw [Nat.zero_add];exact .int _
noncomputable def uK (ls:List (Key×D)):List (Key×D)->Option Bool
 | []=>some true
 | (k,v)::r=>match gZ ls k with
  | none=>some false
  | some u=>(pyD v).bind fun a=>(pyD u).bind fun b=>if a.depth≤60∧b.depth≤60 then (uK ls r).map fun c=>PyData.eqv a b&&c else none
noncomputable def B7 (ks ls:List (Key×D)):Option Bool:=if ks.length=ls.length then uK ls ks else some false
noncomputable def eqA (d e:D) (h:MH):Option Bool:=match dw d h,dw e h with
 | some ks,some ls=>B7 ks ls
 | _,_=>eqD d e h
noncomputable def bW (d e:D) (h:MH):Option (D×MH):=(eqA d e h).map fun c=>(.bl c,h)
noncomputable def hW (d e:D) (h:MH):Option (D×MH):=(eqA d e h).map fun c=>(.bl (!c),h)
theorem yD (hu:X.A.units+64 < cLine) (I:L2.Inv X pins σ H s) (lb:RepK X.K ρ H vs ls) (rb:KV vs kb):
  ∀{us:List (Key×V)} {ks:List (Key×D)} {ka:List (Key×Value)} {c:Bool},RepK X.K ρ H us ks->KV us ka->uK ls ks=some c->PySem.W.KeqHits X.A.in1 s kb ka c
 | _,_,_,c,.nil,ra,e=>by
  cases ra;cases e;exact .nil
 | _,_,_,c,.cons (k:=k) (v:=v) (d:=d) r l,ra,e=>by
  cases ra with
  | cons ra rr=>
   rename_i p ka;obtain ⟨k',y⟩:=p;obtain ⟨ek,ry⟩:=ra;dsimp only at ek ry;subst ek;simp only [uK] at e;have rel:=rb.val k;rcases lb.val k with ⟨h1,h2⟩ | ⟨d',v',h1,h2,r'⟩
   ·rw [h1] at e;cases e;rw [h2] at rel;refine .miss ?_;cases q:valueAt kb k with
    | none=>rfl
    | some _=>rw [q] at rel;exact rel.elim
   ·rw [h1] at e;obtain ⟨a,e1,e⟩:=bnd e;obtain ⟨b,e2,e⟩:=bnd e
    by_cases z:a.depth≤60∧b.depth≤60
    ·rw [if_pos z] at e;obtain ⟨c',e3,e4⟩:=mpd e;subst e4;rw [h2] at rel;cases q:valueAt kb k with
     | none=>rw [q] at rel;exact rel.elim
     | some y'=>
      rw [q] at rel;obtain ⟨r1,c1⟩:=r.rds e1;obtain ⟨r2,c2⟩:=r'.rds e2;obtain ⟨as,ra1⟩:=r1.reads I ry;obtain ⟨bs,ra2⟩:=r2.reads I rel;refine .hit q (PySem.SeqAt.eqAt_reads a b _ s y y' as bs ra1 ra2 c1 c2 ?_) (yD hu I lb rb l rr e3);have:min a.depth b.depth≤a.depth:=Nat.min_le_left _ _;show X.A.units+1+min a.depth b.depth < cLine
      lia
    ·rw [if_neg z] at e;cases e
theorem B3 (hu:X.A.units+64 < cLine) (I:L2.Inv X pins σ H s) (rx:L2.RelV x v) (ry:L2.RelV y u) (S:Sim X.K ρ h H) (rd:Rep X.K ρ H x d) (re:Rep X.K ρ H y e) (ee:eqA d e h=some c):
  (∀Q:Value->Shared->Prop,Q (.bool c) s->wpAny (model X.prog X.w) X.A (compareOp .Eq v u) Q X.xe s)∧∀Q:Value->Shared->Prop,Q (.bool (!c)) s->wpAny (model X.prog X.w) X.A (compareOp .NotEq v u) Q X.xe s:=by
 have data:eqD d e h=some c->(∀Q:Value->Shared->Prop,Q (.bool c) s->wpAny (model X.prog X.w) X.A (compareOp .Eq v u) Q X.xe s)∧∀Q:Value->Shared->Prop,Q (.bool (!c)) s->wpAny (model X.prog X.w) X.A (compareOp .NotEq v u) Q X.xe s:=by
  intro ee;obtain ⟨a,e3,e4⟩:=bnd ee;obtain ⟨b,e5,e6⟩:=bnd e4
  by_cases w:a.depth≤64∧b.depth≤64
  ·rw [if_pos w] at e6;cases e6;obtain ⟨r1,c1⟩:=tZ S rd e3;obtain ⟨r2,c2⟩:=tZ S re e5;obtain ⟨as,ra⟩:=r1.reads I rx;obtain ⟨bs,rb⟩:=r2.reads I ry;exact ⟨fun Q q=>eq_dataH ra rb (kF c1 w.1) (kF c2 w.2) hu q,fun Q q=>ne_dataH ra rb (kF c1 w.1) (kF c2 w.2) hu q⟩
  ·rw [if_neg w] at e6;cases e6
 unfold eqA at ee;cases q1:dw d h with
 | none=>rw [q1] at ee;exact data ee
 | some ks=>
  cases q2:dw e h with
  | none=>rw [q1,q2] at ee;exact data ee
  | some ls=>
   rw [q1,q2] at ee;obtain ⟨a,us,rfl,ha,la⟩:=gM S rd q1;obtain ⟨b,ws,rfl,hb,lb⟩:=gM S re q2;obtain rfl:v=Value.ref a:=rx;obtain rfl:u=Value.ref b:=ry;obtain ⟨_,na,ka,ra,da⟩:=qJ I.hok ha;obtain ⟨_,nb,kb,rb,db⟩:=qJ I.hok hb;have l1:ka.length=ks.length:=by rw [←la.length];exact (Paired.length ra).symm
   have l2:kb.length=ls.length:=by rw [←lb.length];exact (Paired.length rb).symm
   dsimp only [B7] at ee
   by_cases z:ks.length=ls.length
   ·rw [if_pos z] at ee;have hits:=yD hu I lb rb la ra ee;have ez:(ka.length==kb.length&&c)=c:=by rw [l1,l2,z,beq_self_eq_true,Bool.true_and]
    exact ⟨fun Q q=>PySem.W.keq_eq na nb da db (by lia) (fun _=>hits) (by rw [ez];exact q),fun Q q=>PySem.W.keq_ne na nb da db (by lia) (fun _=>hits) (by rw [ez];exact q)⟩
   ·rw [if_neg z] at ee;cases ee;have ez:(ka.length==kb.length&&false)=false:=Bool.and_false _;have nh:ka.length=kb.length->PySem.W.KeqHits X.A.in1 s kb ka false:=fun q=>absurd (by rw [←l1,←l2];exact q) z;exact ⟨fun Q q=>PySem.W.keq_eq na nb da db (by lia) nh (by rw [ez];exact q),fun Q q=>PySem.W.keq_ne na nb da db (by lia) nh (by rw [ez];exact q)⟩
theorem aW (hu:X.A.units+64 < cLine):OpS X (compareOp .Eq) bW:=by
 intro pins s σ H x y v u Q I rx ry hh;obtain ⟨ρ,h,d,e,z,h',S,rd,re,ee,k⟩:=hh;obtain ⟨c,e1,e2⟩:=mpd ee;cases e2;exact (B3 hu I rx ry S rd re e1).1 _ ⟨.bl _,H,I,rfl,k _ _ (.here S (.bl _))⟩
theorem hU (hu:X.A.units+64 < cLine):OpS X (compareOp .NotEq) hW:=by
 intro pins s σ H x y v u Q I rx ry hh;obtain ⟨ρ,h,d,e,z,h',S,rd,re,ee,k⟩:=hh;obtain ⟨c,e1,e2⟩:=mpd ee;cases e2;exact (B3 hu I rx ry S rd re e1).2 _ ⟨.bl _,H,I,rfl,k _ _ (.here S (.bl _))⟩
noncomputable def jI:List D->Option (List (Key×D))
 | []=>some []
 | .tup [k,v]::r=>(mH k).bind fun k=>(jI r).map fun q=>(k,v)::q
 | _=>none
noncomputable def dr (acc:List (Key×D)) (ps:List (Key×D)):List (Key×D):=ps.foldl (fun a p=>putD a p.1 p.2) acc
noncomputable def xP:Fn:=fun ds h=>match ds with
 | [d]=>match dw d h with
  | some kvs=>some (.dv kvs,h)
  | none=>(gy d h).bind fun xs=>(jI xs).bind fun ps=>if xs.length≤1000000 then some (.dv (dr [] ps),h) else none
 | _=>none
theorem qj {K:FR} {ρ:Ad} {H:Hp}:∀{vs:List V} {xs:List D} {ps:List (Key×D)},RepL K ρ H vs xs->jI xs=some ps->∃kvs,nj K H vs kvs∧RepK K ρ H kvs ps
 | _,_,_,.nil,e=>by cases e;exact ⟨[],.nil,.nil⟩
 | _,_,_,.cons r l,e=>by
  cases r <;> first | (cases e;done) | skip
  rename_i a ws ds h0 l0
  match ds,l0,e with
  | [],_,e=>cases e
  | [_],_,e=>cases e
  | _::_::_::_,_,e=>cases e
  | [k,v],l0,e=>
   obtain ⟨ky,e1,e2⟩:=bnd e;obtain ⟨q,e3,e4⟩:=mpd e2;subst e4;obtain ⟨x,y,rfl,rk,rv⟩:=rep2 l0;obtain ⟨kvs,p1,p2⟩:=qj l e3;have ek:=fY rk e1;subst ek;exact ⟨(ky,y)::kvs,.cons ⟨a,rfl,h0.sq⟩ p1,.cons rv p2⟩
theorem RepK.merge {K:FR} {ρ:Ad} {H:Hp}:∀{kvs:List (Key×V)} {ps:List (Key×D)} {acc:List (Key×V)} {ac:List (Key×D)},RepK K ρ H acc ac->RepK K ρ H kvs ps->RepK K ρ H (aX acc kvs) (dr ac ps)
 | _,_,_,_,a,.nil=>a
 | _,_,acc,ac,a,.cons (k:=k) (v:=v) (d:=d) r l=>RepK.merge (acc:=putK acc k v) (ac:=putD ac k d) (a.put r) l
theorem Cf (hc:X.calm=true):eZ X (.type "dict") xP:=by
 intro pins s σ H xs us Q I r hh;obtain ⟨ρ,h,ds,z,h',S,l,ee,k⟩:=hh
 match ds,l,ee with
 | [],_,ee=>cases ee
 | _::_::_,_,ee=>cases ee
 | [d],l,ee=>
  obtain ⟨v,rfl,rd⟩:=rep1 l;unfold xP at ee;dsimp only at ee;cases q:dw d h with
  | some kvs=>
   rw [q] at ee;cases ee;obtain ⟨a,ws,rfl,ha,lk⟩:=gM S rd q;obtain ⟨u,rfl,ru⟩:=Vals.one r;obtain rfl:u=Value.ref a:=ru;exact B8 I (.inl ha) fun p s' hp I'=>⟨.ref p,_,I',rfl,k _ _ (.dv S lk hp)⟩
  | none=>
   rw [q] at ee;obtain ⟨ys,e1,e2⟩:=bnd ee;obtain ⟨ps,e3,e4⟩:=bnd e2
   by_cases c:ys.length≤1000000
   ·rw [if_pos c] at e4;cases e4;obtain ⟨a,vs,rfl,ha,l2⟩:=eQ S rd e1;obtain ⟨kvs,p1,p2⟩:=qj l2 e3;exact qR hc pins s σ H _ us Q I r ⟨a,vs,kvs,rfl,ha,p1,by rw [l2.length];exact c,fun q hq=>k _ _ (.dv S (RepK.merge .nil p2) hq)⟩
   ·rw [if_neg c] at e4;cases e4
theorem E8 (hN:X.N.Nodup) (hi:X.N[i]?=some x) (hx:Loc X.env.scope x) (he:SE X e ma) (ho:PIp X op (rS X.K f)) (hf:X.fn x=true∨X.env.scope.names.lookup x=some .local:=by first | exact .inl rfl | exact .inr rfl | assumption):SS X (.AugAssign (.Name x pos') op e pos) (AO i f ma):=
 (FL hN hi hx he ho hf).imp fun E σ H ⟨ρ,δ,h,fl,δ',h',R,S,e,k⟩=>by
  obtain ⟨d,e1,e2⟩:=bnd e;obtain ⟨⟨y,h1⟩,e3,e4⟩:=bnd e2;obtain ⟨⟨z,h2⟩,e5,e6⟩:=bnd e4;cases e6;obtain ⟨v,ev,r⟩:=R.at_ i d (Option.join_eq_some_iff.mp e1);exact ⟨v,ev,ρ,δ,h,y,h1,R,S,e3,fun u H1 ⟨ρ1,T1,S1,r1⟩=>⟨ρ1,h1,d,y,z,h2,S1,r.mono T1,r1,e5,fun w H2 ⟨ρ2,T2,S2,r2⟩=>k ρ2 H2 (T1.trans T2) S2 _ ((R.mono (T1.trans T2).toCh).set r2 i)⟩⟩
theorem D3 (ho:OpR X (inplaceOp op) (rI0 q)) (hf:∀d e h z h',f d e h=some (z,h')->∃i j,d=.int i∧e=.int j∧h'=h∧∀ρ H,Rep X.K ρ H (q i j) z):PIp X op (rS X.K f):=kr ho hf
theorem D4:PIp X .Sub (rS X.K uF):=D3 D5 fun d e h z h' ee=>by
 cases d <;> first | (cases ee;done) | skip
 cases e <;> first | (cases ee;done) | skip
 cases ee;exact ⟨_,_,rfl,rfl,rfl,fun _ _=>.int _⟩
theorem pL:bootBuiltins "list"=some (.type "list"):=by decide+kernel
theorem aQ:bootBuiltins "tuple"=some (.type "tuple"):=by decide+kernel
theorem Es:bootBuiltins "dict"=some (.type "dict"):=by decide+kernel
theorem uT:bootBuiltins "bool"=some (.type "bool"):=by decide+kernel
theorem qU:bootBuiltins "int"=some (.type "int"):=by decide+kernel
theorem jb:bootBuiltins "str"=some (.type "str"):=by decide+kernel
theorem aR:bootBuiltins "len"=some (.builtin "len"):=by decide+kernel
theorem Ct:bootBuiltins "abs"=some (.builtin "abs"):=by decide+kernel
theorem ar:bootBuiltins "isinstance"=some (.builtin "isinstance"):=by decide+kernel
theorem fT:bootBuiltins "all"=some (.builtin "all"):=by decide+kernel
noncomputable def EV (sc:Scope) (x:Str):Bool:=match sc.names.lookup x with
 | some .local=>true
 | some .cell=>true
 | some .free=>true
 | _=>false
noncomputable def BE (sc:Scope) (x:Str):Bool:=match sc.names.lookup x with
 | some .local=>true
 | some .cell=>true
 | _=>false
noncomputable def fnB (X:Cx) (x:Str):Bool:=X.fn x||(match X.env.scope.names.lookup x with
 | some .local=>true
 | _=>false)
theorem EU (h:EV sc x=true):Vis sc x:=by
 unfold EV at h
 split at h <;> first | (cases h;done) | skip
 ·exact .inl ‹_›
 ·exact .inr (.inl ‹_›)
 ·exact .inr (.inr ‹_›)
theorem xG (h:BE sc x=true):Loc sc x:=by
 unfold BE at h
 split at h <;> first | (cases h;done) | skip
 ·exact .inl ‹_›
 ·exact .inr ‹_›
theorem xM (h:fnB X x=true):X.fn x=true∨X.env.scope.names.lookup x=some .local:=by
 unfold fnB at h;rw [Bool.or_eq_true] at h;rcases h with h | h
 ·exact .inl h
 ·split at h
  ·exact .inr ‹_›
  ·cases h
theorem sv (i:Nat) (hN:X.N[i]?=some x:=by kernel_rfl) (hv:EV X.env.scope x=true:=by kernel_rfl) (hd:(x==("__debug__":Str))=false:=by kernel_rfl) (hcd:(x==("__classdict__":Str))=false:=by kernel_rfl):SE X (.Name x pos) (ae i):=Ff hN (EU hv) hd hcd
theorem sset (i:Nat) (hN:X.N.Nodup) (he:SE X e ma) (hi:X.N[i]?=some x:=by kernel_rfl) (hx:BE X.env.scope x=true:=by kernel_rfl) (hs:swapsWith e (some (.Name x pos')) pos.line X.env=pure false:=by kernel_rfl) (hf:fnB X x=true:=by kernel_rfl):SS X (.Assign [.Name x pos'] e pos) (a9 i ma):=E7 hN hi (xG hx) he hs (xM hf)
theorem sgn (i:Nat) (hN:X.N.Nodup) (hi:X.N[i]?=some x:=by kernel_rfl) (hx:BE X.env.scope x=true:=by kernel_rfl) (hf:fnB X x=true:=by kernel_rfl):SG X (.Name x pos) (gN i):=CV hN hi (xG hx) (xM hf)
theorem Jg (i:Nat) (hN:X.N.Nodup) (he:SE X e ma) (ho:PIp X op (rS X.K f)) (hi:X.N[i]?=some x:=by kernel_rfl) (hx:BE X.env.scope x=true:=by kernel_rfl) (hf:fnB X x=true:=by kernel_rfl):SS X (.AugAssign (.Name x pos') op e pos) (AO i f ma):=E8 hN hi (xG hx) he ho (xM hf)
noncomputable def AL (i j:Nat) (m:AM):SM:=fun δ h=>(m δ h).bind fun p=>match p.1 with
 | [a,b]=>some (.nx,(δ.set i (some a)).set j (some b),p.2)
 | _=>none
theorem E9 (i j:Nat) {kt k2 pt2} (hN:X.N.Nodup) (hl:oz m 2) (hc:X.calm=true) (hij:i≠j) (P:PS X (.Assign [.Tuple [.Name x px,.Name y py] kt pt] (.Tuple [a,b] k2 pt2) pos) (HB i j (tMA X.K m))):
  SS X (.Assign [.Tuple [.Name x px,.Name y py] kt pt] (.Tuple [a,b] k2 pt2) pos) (AL i j m):=P.imp fun E σ H ⟨ρ,δ,h,fl,δ',h',R,S,e,k⟩=>by
 obtain ⟨⟨ds,h1⟩,e1,e2⟩:=bnd e;refine ⟨ρ,δ,h,ds,h1,R,S,e1,fun vs ρ1 H1 T1 S1 r1=>?_⟩
 match ds,hl _ _ _ _ e1,e2,r1 with
 | [d,d'],_,e2,r1=>
  cases e2;obtain ⟨v,u,rfl,rd,rd'⟩:=rep2 r1;exact ⟨v,u,rfl,k ρ1 H1 T1 S1 _ (((R.mono T1.toCh).set rd i).set rd' j)⟩
structure Df (P:Program) (w:World) (K:FR) (mg:Str->Option Value) (base:Heap) (nm:Str) (k:Nat) (ps:List Str) (n:Nat) (F:Fn):Prop where
 ex:∃(f:Addr) (fd:FuncData),FnOk P w K mg base CX0 k f fd ps (spF K n F)∧PySem.W.keepIn K (.ref f)=true∧Binds K fd ps []∧mg nm=some (.ref f)
theorem HN (d:Df X.prog X.w X.K X.mg X.base nm k ps n F) (hr:Room k' X.A) (hk:k≤k') (ha:SA X (e::es) m) (hl:oz m n) (hg:Gl X nm:=by unfold Gl;kernel_rfl) (hdb:(nm==("__debug__":Str))=false:=by kernel_rfl) (he:starEach (e::es) X.env=(false,eval e X.env)::starEach es X.env:=by kernel_rfl) (hpl:(backTo pos (starEach es X.env)).any (·.1)=false:=by kernel_rfl):SE X (.Call (.Name nm p) (e::es) [] pos) (eFn F m):=by
 obtain ⟨f,fd,G,kf,bf,mf⟩:=d.ex;exact CZ G (hr.mono hk) hg mf kf bf ha hl hdb he hpl
theorem fX {P:Program} {w:World} {K:FR} {mg:Str->Option Value} {base:Heap} {k n:Nat} {f:Addr} {fd:FuncData} {ps:List Str}:FnOk P w K mg base CX0 k f fd ps (spF K n fun _ _=>none):=
 ⟨fun vs H Q E hh=>(by obtain ⟨_,_,_,_,_,_,_,_,e,_⟩:=hh;cases e),fun A outer s H args us vs Q E _ _ _ _ hh=>(by obtain ⟨_,_,_,_,_,_,_,_,e,_⟩:=hh;cases e)⟩
end Sm
namespace L2
open PySem PySem.Spec PyProof.Rows
abbrev TK:=St->Hp->(St->Hp->Prop)->Prop
def PM (B:Cx) (act:Sem Unit) (t:TK):Prop:=
 ∀(pins:List (Addr×Obj)) (s:Shared) (τ:St) (H:Hp) (N:St->Hp->Prop),Inv B pins τ H s->t τ H N->wpAny (model B.prog B.w) B.A act (fun _ s'=>∃τ' H',Inv B pins τ' H' s'∧N τ' H') B.xe s
def u9 (J:It) (g:TG) (tc:TT) (tm:TK) (N:St->Hp->Prop) (τ0:St) (H0:Hp):Prop:=
 ∃W:Nat->Nat->St->Hp->Prop,(∃m,W 0 m τ0 H0)∧∀i m τ H2,W i m τ H2->
  (J.stop i H2∧N τ H2)∨(J.go i H2∧∃N':St->Hp->Prop,(∀τ' H',N' τ' H'->∃m',m' < m∧W (i+1) m' τ' H')∧∀x H',J.yld i H2 x H'->g x τ H' fun τ2 H3=>
   tc τ2 H3 fun b H4=>if b=true then tm τ2 H4 N' else N' τ2 H4)
noncomputable def pR (e:Expr) (d:Nat) (tg:Expr) (ifs:List Expr) (act:Sem Unit) (p:Pos) (it acc:Value) (env:Env):Sem Fin:=do
 standAt p
 match←pyNext it with
 | none=>pure (.done .next)
 | some v=>
  letOwnedTupleGo tg it v
  assign tg env v
  let mut ok:=true
  for c in ifs do
   if ok then ok←isTrue c env (eval c env)
  if ok then act
  again (.compLoop e d it acc env)
noncomputable def mR (k v:Expr) (d:Addr) (env:Env):Sem Unit:=do
 let kv←eval k env;let vv←holding [kv] (eval v env)
 standAt {k.pos with endLine:=v.pos.endLine,endCol:=v.pos.endCol}
 holding [kv,vv] (dictSet d kv vv)
theorem wL (k v t1 i1:Expr) (f1:List Expr) (sc:Scope) (pos:Pos) (it:Value) (d:Addr) (env:Env):
  compTurn (.DictComp k v [⟨t1,i1,f1,0⟩] sc pos) 0 it (.ref d) env=pR (.DictComp k v [⟨t1,i1,f1,0⟩] sc pos) 0 t1 f1 (mR k v d env) i1.pos it (.ref d) env:=by rfl
structure Plain (e:Expr):Prop where
 loop:∀(P:Program) (w:World) (d:Nat) (it acc:Value) (env:Env),(model P w).den (.compLoop e d it acc env)=(compTurn e d it acc env).onRaise (fun x=>do noteFrame x env;theTreesLotGoes x)
 start:∀(P:Program) (w:World) (d:Nat) (it acc:Value) (env:Env),(model P w).den (.compStart e d it acc env)=(compStart e d it acc env).onRaise (fun x=>do noteFrame x env;standAt theWindowsPlace)
 ul:∀(A:Around) (d:Nat) (it acc:Value) (env:Env),A.under (.compLoop e d it acc env)=A
 us:∀(A:Around) (d:Nat) (it acc:Value) (env:Env),A.under (.compStart e d it acc env)=A
theorem xn (k v:Expr) (gs:List Comprehension) (sc:Scope) (pos:Pos):Plain (.DictComp k v gs sc pos):=⟨fun _ _ _ _ _ _=>rfl,fun _ _ _ _ _ _=>rfl,fun _ _ _ _ _=>rfl,fun _ _ _ _ _=>rfl⟩
theorem IK (hk:Plain e) (ht:compTurn e d (.ref it) acc B.env=pR e d tg ifs act p (.ref it) acc B.env) (hc:B.calm=true) (hx:B.xe=fun _ _=>False) (hg:PG B tg g) (hif:PIf B ifs tc) (hm:PM B act tm) (I:Inv B pins τ H s) (T:Turn B.prog B.w B.K tg J fp it tn) (st:tn 0 s.heap) (hf:∀b∈fp,ib B pins H b) (hw:u9 J g tc tm N τ H):
  codeAny (model B.prog B.w) B.A (.compLoop e d (.ref it) acc B.env) (fun r s'=>r=.ok .next∧∃τ' H',Inv B pins τ' H' s'∧N τ' H') s:=by
 obtain ⟨W,⟨m0,w0⟩,turn⟩:=hw;have stat:∀{H':Hp},(∀b∈fp,H' b=none)->∀b∈fp,ib B pins H' b:=fun hn b hb=>⟨hn b hb,(hf b hb).2⟩;have up:∀{α:Type} {t:Sem α} {Q:α->Shared->Prop} {E:Value->Shared->Prop} {s:Shared},wpAny (model B.prog B.w) B.A t Q B.xe s->wpAny (model B.prog B.w) B.A t Q E s:=fun h=>upE (hx ▸ h);refine codeAny_loop rfl (fun n s'=>∃i τ' H',Inv B pins τ' H' s'∧tn i s'.heap∧(∀b∈fp,H' b=none)∧W i n τ' H') ?_ m0 ⟨0,_,_,I,st,fun b hb=>(hf b hb).1,w0⟩;rintro n s4 ⟨i,τ4,H4,J4,st4,fr4,w4⟩;rw [hk.ul,hk.loop];refine wpAny_noted ?_;rw [ht];unfold pR;rcases turn i n τ4 H4 w4 with ⟨stop,qn⟩ | ⟨go,N',hN,step⟩
 ·refine wpAny_bind (wpAny_standAt (wpAny_bind (wpAny_mono (T.done B rfl rfl rfl hc i pins s4 τ4 H4 _ J4 (stat fr4) st4 stop) (fun r s5 h5=>?_) fun _ _ e=>e)));obtain ⟨hr,J5⟩:=h5;subst hr;exact wpAny_pure ⟨rfl,_,_,J5,qn⟩
 ·refine wpAny_bind (wpAny_standAt (wpAny_bind (wpAny_mono (T.item B rfl rfl rfl hc i pins s4 τ4 H4 _ J4 (stat fr4) st4 go) (fun r s5 h5=>?_) fun _ _ e=>e)));obtain ⟨u,hr,h5⟩:=h5;subst hr;refine wpAny_bind (wpAny_mono h5 (fun _ s6 h6=>?_) fun _ _ e=>e);obtain ⟨x,H6,J6,r6,y6,st6,fr6⟩:=h6;have J6':=J6.pinned (stat fr6) (T.obj _ _ st6);refine wpAny_bind (wpAny_mono (up (hg _ s6 τ4 H6 x u _ J6' r6 (step x H6 y6))) (fun _ s7 h7=>?_) fun _ _ e=>e);obtain ⟨τ7,H7,J7,q7⟩:=h7;have again:∀{τ8:St} {H8:Hp} {s8:Shared},Inv B (pins++nU fp s6.heap) τ8 H8 s8->N' τ8 H8->
    ∃m,m < n∧∃i τ' H',Inv B pins τ' H' s8∧tn i s8.heap∧(∀b∈fp,H' b=none)∧W i m τ' H':=fun {τ8 H8 s8} J8 n8=>by
   obtain ⟨m',hm,w8⟩:=hN τ8 H8 n8;refine ⟨m',hm,i+1,τ8,H8,J8.jk,T.keep _ _ _ st6 fun b hb o e=>(J8.pin (b,o) (List.mem_append_right _ (List.mem_append_right _ (fv hb e)))).1,fun b hb=>?_,w8⟩;obtain ⟨o,e,d⟩:=T.obj _ _ st6 b hb;exact (J8.pin (b,o) (List.mem_append_right _ (List.mem_append_right _ (fv hb e)))).2.1
  refine wpAny_bind (wpAny_mono (up (hif _ s7 τ7 H7 _ J7 q7)) (fun ok s8 h8=>?_) fun _ _ e=>e);obtain ⟨H8,J8,q8⟩:=h8;cases ok with
  | false=>exact wpAny_pure ⟨rfl,again J8 (by simpa using q8)⟩
  | true=>
   have q8':tm τ7 H8 N':=by simpa using q8
   refine wpAny_bind (wpAny_mono (up (hm _ s8 τ7 H8 _ J8 q8')) (fun _ s9 h9=>?_) fun _ _ e=>e);obtain ⟨τ9,H9,J9,n9⟩:=h9;exact wpAny_pure ⟨rfl,again J9 n9⟩
theorem G2 {env:Env} {it acc:Value} {iter:Expr} {prog:Program} {w:World} {A:Around} {s:Shared} {R:Result->Shared->Prop} (hk:Plain e) (hcl:(clausesOf e)[d]?=some ⟨tg,iter,ifs,0⟩)
  (h0:codeAny (model prog w) A (.compLoop e d it acc env) R s)
  (h:wpAny (model prog w) A (pyIter it) (fun it' s'=>codeAny (model prog w) A (.compLoop e d it' acc env) R s') (notedBy (model prog w) A env fun x s'=>R (.error x) s') s):
  codeAny (model prog w) A (.compStart e d it acc env) R s:=by
 refine codeAny_of_tree ?_;rw [hk.us,hk.start];refine wpAny_notedAt ?_;unfold compStart;rw [hcl];show wpAny _ _ (ask >>=_) _ _ s;refine wpAny_bind (wpAny_askSetting (wpAny_ite ?_))
 split
 ·first
   | exact wpAny_bind (wpAny_pure (wpAny_pure (And.intro rfl h0)))
   | exact wpAny_pure (And.intro rfl h0)
 ·first
   | exact wpAny_bind (wpAny_rule (wpAny_bind (wpAny_standAt (wpAny_bind (wpAny_mono h (fun it' s' h'=>wpAny_pure (And.intro rfl h')) fun _ _ x=>x)))))
   | (refine wpAny_bind (wpAny_rule ?_);show wpAny _ _ (standAt iter.pos >>=_) _ _ s;exact wpAny_bind (wpAny_standAt (wpAny_bind (wpAny_mono h (fun it' s' h'=>wpAny_pure (And.intro rfl h')) fun _ _ x=>x))))
def Hk (X:Cx) (na:Sem Value) (o:Addr->HO):Prop:=∀(pins:List (Addr×Obj)) (s:Shared) (σ:St) (H:Hp) (Q:Value->Shared->Prop) (E:Value->Shared->Prop),Inv X pins σ H s->
 (∀(obj:Obj) (t':Nat),Inv X pins σ (upd H s.heap.objs.size (o s.heap.objs.size)) {s with heap:=s.heap.push obj,toks:=t'}->Q (.ref s.heap.objs.size) {s with heap:=s.heap.push obj,toks:=t'})->wpAny (model X.prog X.w) X.A na Q E s
def tI (caps:List (Option Nat)) (wi:TI) (o:Addr->HO) (g:TG) (tc:TT) (tm:Addr->TK):TE:=fun σ H Q=>wi σ H fun J H1=>∀l,H1 l=none->u9 J g tc (tm l) (fun _ H'=>Q (.ref l) H') (ou caps σ) (upd H1 l (o l))
section
variable {X:Cx} {N':List Str} {caps:List (Option Nat)} {scope:Scope} {e tg iter:Expr} {ifs:List Expr} {p:Pos} {wi:TI} {g:TG} {tc:TT} {tm:Addr->TK} {o:Addr->HO} {na:Sem Value} {act:Addr->Env->Sem Unit}
theorem G6 (S:CompScope X N' caps scope) (hc:X.calm=true) (hk:Plain e) (hcl:(clausesOf e)[0]?=some ⟨tg,iter,ifs,0⟩) (ht:∀(it l:Addr) (env:Env),compTurn e 0 (.ref it) (.ref l) env=pR e 0 tg ifs (act l env) p (.ref it) (.ref l) env)
  (hA:Hk X na o) (hg:∀C s₃ H₃ fp pl,PG (blk X N' scope C s₃ H₃ fp pl) tg g) (hif:∀C s₃ H₃ fp pl,PIf (blk X N' scope C s₃ H₃ fp pl) ifs tc)
  (hm:∀C s₃ H₃ fp pl l,PM (blk X N' scope C s₃ H₃ fp pl) (act l (blk X N' scope C s₃ H₃ fp pl).env) (tm l)) {pins:List (Addr×Obj)} {σ:St} {H:Hp} {s:Shared} {it:Addr} {fp:List Addr} {tn:Nat->Heap->Prop} {J:It}
  (I:Inv X pins σ H s) (T:Turn X.prog X.w X.K tg J fp it tn) (st:tn 0 s.heap) (hf:∀b∈fp,ib X pins H b) {Q:VK} {RR:Value->Addr->Result->Shared->Prop} {E:Value->Shared->Prop}
  (h:∀l,H l=none->u9 J g tc (tm l) (fun _ H'=>Q (.ref l) H') (ou caps σ) (upd H l (o l)))
  (hRR:∀(l C:Addr) (H':Hp) (s':Shared),H' C=none->C≠X.env.locals->X.s₀.heap.objs.size≤C->(∀x c,X.env.cells.lookup x=some c->c≠C)->(∀p∈X.pn++pins,p.1≠C)->(∃m,s'.heap.Ns C m)->Inv X pins σ H' s'->
   (∀h'':Heap,(∀b u,b≠C->s'.heap.get? b=some u->h''.get? b=some u)->Inv X pins σ H' {s' with heap:=h''})->Q (.ref l) H'->RR (.ref l) C (.ok .next) s'):
  wpAny (model X.prog X.w) X.A na (fun acc s₃=>wpAny (model X.prog X.w) X.A (newFunctionEnv scope X.env.globals (hZ X.env scope.names []) [] X.env.qual none .none (some X.env)) (fun cenv s₄=>
   codeAny (model X.prog X.w) X.A (.compStart e 0 (.ref it) acc {cenv with scope:=relabel scope X.env}) (RR acc cenv.locals) s₄) E s₃) E s:=by
 have hw:=h s.heap.objs.size I.fresh;refine hA pins s σ H _ _ I fun obj t' I3=>wpAny_newFunctionEnv S.nocell (by intro y hy;simp at hy) (fun h₁ hns₁ hsb₁=>?_) S.kind;have hltf:∀b∈fp,b < s.heap.objs.size:=fun b hb=>by
  obtain ⟨o,e,_⟩:=T.obj 0 _ st b hb;exact Heap.lt_size e
 have hf3:∀b∈fp,ib X pins (upd H s.heap.objs.size (o s.heap.objs.size)) b:=fun b hb=>⟨by rw [aB (Nat.ne_of_lt (hltf b hb))];exact (hf b hb).1,(hf b hb).2⟩;have keep3:∀b u,(s.heap.push obj).get? b=some u->h₁.get? b=some u:=fun b u e=>hsb₁.extBut b u (Nat.ne_of_lt (Heap.lt_size e)) (Heap.get?_push_of_some _ e);have st3:tn 0 h₁:=T.keep 0 _ _ st fun b hb o e=>keep3 b o (Heap.get?_push_of_some _ e);have hlt3:∀b∈fp,b < (s.heap.push obj).objs.size:=fun b hb=>by
  have:=hltf b hb;rw [Heap.size_push];exact Nat.lt_succ_of_lt this
 have J0:=Inv.block S I3 hc hf3 hlt3 hns₁ keep3 (t₄:=t');have fpB:∀b∈fp,ib (blk X N' scope (s.heap.push obj).objs.size {s with heap:=s.heap.push obj,toks:=t'} (upd H s.heap.objs.size (o s.heap.objs.size)) fp pins) [] (upd H s.heap.objs.size (o s.heap.objs.size)) b:=fun b hb=>by
  obtain ⟨f0,f1,f2,f3,f4,f5⟩:=hf3 b hb;refine ⟨f0,Nat.ne_of_lt (hlt3 b hb),fun z=>?_,.inl hb,fun x c e=>f4 x c (S.look I3.ok e),fun p hp=>?_⟩
  ·rcases List.mem_cons.mp (I3.nB b z) with q | q
   ·exact f1 q
   ·exact f2 q
  ·rcases List.mem_append.mp hp with q | q
   ·exact f5 p q
   ·cases q
 have lp:=IK hk (ht it s.heap.objs.size _) rfl rfl (hg _ _ _ _ _) (hif _ _ _ _ _) (hm _ _ _ _ _ s.heap.objs.size) J0 T st3 fpB hw;refine codeAny_mono (G2 hk hcl lp (T.self X.A 0 _ _ _ st3 lp)) fun r s' hr=>?_;obtain ⟨rfl,τ,H',J,q⟩:=hr;refine hRR _ _ H' s' J.free ?_ ?_ ?_ ?_ ?_ ?_ ?_ q
 ·exact (Nat.ne_of_lt I3.lt).symm
 ·exact I3.sz
 ·intro x c e z;obtain ⟨v,o,ho,_⟩:=I3.cell x c e;exact Nat.ne_of_lt (Heap.lt_size ho) z
 ·intro p hp z;obtain ⟨e,_⟩:=I3.pin p hp;exact Nat.ne_of_lt (Heap.lt_size e) z
 ·obtain ⟨m,hm,_⟩:=J.loc;exact ⟨m,hm⟩
 ·have:=Inv.pA S I3 hf3 J (h'':=s'.heap) fun b u _ e=>e;exact this
 ·exact fun h'' hs=>Inv.pA S I3 hf3 J hs
theorem Bh (hN:X.N.Nodup) (hi':X.N[i]?=some y) (hy:X.env.scope.names.lookup y=some .local) (S:CompScope X N' caps scope) (hc:X.calm=true) (hk:Plain e) (hcl:clausesOf e=⟨tg,iter,ifs,0⟩::gs) (ht:∀(it l:Addr) (env:Env),compTurn e 0 (.ref it) (.ref l) env=pR e 0 tg ifs (act l env) p (.ref it) (.ref l) env) (hA:Hk X na o) (hi:PI X tg iter wi) (hg:∀C s₃ H₃ fp pl,PG (blk X N' scope C s₃ H₃ fp pl) tg g) (hif:∀C s₃ H₃ fp pl,PIf (blk X N' scope C s₃ H₃ fp pl) ifs tc) (hm:∀C s₃ H₃ fp pl l,PM (blk X N' scope C s₃ H₃ fp pl) (act l (blk X N' scope C s₃ H₃ fp pl).env) (tm l)) (he:∀use,evalThenUse e X.env use=(do let _←comprehension e scope X.env p0 na false (eval iter X.env) (some use))) (hsw:swapsWith e (some (.Name y py)) spos.line X.env=pure true:=by rfl) (hs:∀x,foldedSetIterable iter X.env x=pure x:=by intro _;rfl):
  PS X (.Assign [.Name y py] e spos) (yY (tI caps wi o g tc tm) (oI i)):=by
 intro pins s σ H D I h;rw [exec_Assign_Name_used _ _ _ _ hsw];refine wpAny_bind (wpAny_standAt (wpAny_bind ?_));rw [he];refine wpAny_bind (wpAny_mono (wpAny_comprehension_free (use:=some (assign (.Name y py) X.env)) (Q:=fun _ s'=>SP X pins D .next s') hcl hs (lV (S.has I.ok)) S.kind S.names
  (thn (hi pins s σ H _ I h) fun v s1 h1=>thn h1 fun itv s2 h2=>?_)) (fun _ s' hq=>wpAny_pure (wpAny_pure hq)) fun _ _ e=>e)
 obtain ⟨it,fp,tn,J,H2,e,I2,T,st2,f2,hQ⟩:=h2;subst e;refine G6 (Q:=fun x H1=>oI i x σ H1 D.nx) (RR:=fun acc C=>compPost (model X.prog X.w) X.A X.xe (some (assign (.Name y py) X.env)) (fun _ s'=>SP X pins D .next s') acc C) S hc hk (by rw [hcl];rfl) ht hA hg hif hm I2 T st2 f2 hQ ?_;intro l C H' s' hC hCL hC0 hCc hCp hm hI0 hI q;obtain ⟨m,hm⟩:=hm;show wpAny _ X.A (assign (.Name y py) X.env (.ref l)) _ _ s';refine wpAny_assign_Name (nA (v:=.ref l) hI0 hN hi' (.inl hy) rfl (fun s5 I5 hch=>?_) (.inr hy));obtain ⟨a,hsa,ha⟩:=hch;have hCa:C≠a:=by
  rcases ha with z | z
  ·rw [z];exact hCL
  ·exact (hCc _ _ z).symm
 refine ⟨m,hm.sameBut hsa hCa,fun h'' hs''=>?_⟩;have I6:=I5.turned (t':=s5.toks) (h':=h'') (it:=C) (fun b o hb e=>hs''.extBut b o hb e) hC hCL (.inr hC0) hCc hCp;exact ⟨_,H',I6,q⟩
end
end L2
namespace Sm
open PySem L2 PySem.Spec PyProof.Rows
structure Ac (α:Type) where
 at_:FR->Ad->Hp->Addr->α->Prop
 mono:∀{K:FR} {ρ ρ':Ad} {H H':Hp} {l:Addr} {a:α},at_ K ρ H l a->Ch ρ H ρ' H'->H' l=H l->at_ K ρ' H' l a
abbrev MK (α:Type):=DS->MH->α->Option (DS×MH×α)
noncomputable def iw {α:Type} (ws:W) (g:GM) (c:TM) (m:MK α):List D->MK α
 | [],δ,h,a=>if chk ws h then some (δ,h,a) else none
 | x::r,δ,h,a=>if chk ws h then (g x δ h).bind fun q=>(c q.1 q.2).bind fun t=>if t.1 then (m q.1 t.2 a).bind fun z=>iw ws g c m r z.1 z.2.1 z.2.2 else iw ws g c m r q.1 t.2 a else none
structure StpL (l:Addr) (ρ:Ad) (H:Hp) (ρ':Ad) (H':Hp):Prop where
 ch:Ch ρ H ρ' H'
 rs:ρ'.rs=ρ.rs
 res:∀b∈ρ.rs,b≠l->H' b=H b
theorem StpL.refl:StpL l ρ H ρ H:=⟨.refl _ _,rfl,fun _ _ _=>rfl⟩
theorem StpL.trans (a:StpL l ρ H ρ1 H1) (b:StpL l ρ1 H1 ρ2 H2):StpL l ρ H ρ2 H2:=⟨a.ch.trans b.ch,b.rs.trans a.rs,fun x hx n=>(b.res x (a.rs ▸ hx) n).trans (a.res x hx n)⟩
theorem Stp.toL (a:Stp ρ H ρ1 H1):StpL l ρ H ρ1 H1:=⟨a.toCh,a.rs,fun b hb _=>a.res b hb⟩
inductive TMKi {α:Type} (K:FR) (A:Ac α) (l:Addr) (m:MK α) (τ:L2.St) (H:Hp) (N:L2.St->Hp->Prop):Prop where
 | mk (ρ δ h a δ' h' a'):RepS K ρ H τ δ->Sim K ρ h H->l∈ρ.rs->A.at_ K ρ H l a->(m δ h a=some (δ',h',a'))->(∀ρ' H' τ',StpL l ρ H ρ' H'->Sim K ρ' h' H'->RepS K ρ' H' τ' δ'->A.at_ K ρ' H' l a'->N τ' H')->TMKi K A l m τ H N
def tMK {α:Type} (K:FR) (A:Ac α) (l:Addr) (m:MK α):TK:=fun τ H N=>TMKi K A l m τ H N
section
variable {α:Type} {K:FR} {A:Ac α} {l:Addr} {g:GM} {mt:TM} {m:MK α}
theorem De (It:ItS K J ρ H ws xs) (T1:Ch ρ H ρ1 H1) (R:RepS K ρ1 H1 τ δ) (S:Sim K ρ1 h H1) (hl:l∈ρ1.rs) (hA:A.at_ K ρ1 H1 l a) (e:iw ws g mt m xs δ h a=some (δ',h',a')) (k:∀ρ2 H2 τ2,StpL l ρ1 H1 ρ2 H2->Sim K ρ2 h' H2->RepS K ρ2 H2 τ2 δ'->A.at_ K ρ2 H2 l a'->N τ2 H2):u9 J (tMG K g) (tMT K mt) (tMK K A l m) N τ H1:=by
 refine ⟨fun i n τ2 H2=>∃(ρ2:Ad) (δ2:DS) (h2:MH) (a2:α),n=xs.length-i∧i≤xs.length∧StpL l ρ1 H1 ρ2 H2∧RepS K ρ2 H2 τ2 δ2∧Sim K ρ2 h2 H2∧A.at_ K ρ2 H2 l a2∧iw ws g mt m (xs.drop i) δ2 h2 a2=some (δ',h',a'),
  ⟨_,ρ1,δ,h,a,rfl,Nat.zero_le _,.refl,R,S,hA,e⟩,?_⟩
 rintro i n τ2 H2 ⟨ρ2,δ2,h2,a2,rfl,hi,T2,R2,S2,hA2,e3⟩;have hl2:l∈ρ2.rs:=by rw [T2.rs];exact hl
 cases q:xs.drop i with
 | nil=>
  rw [q] at e3;unfold iw at e3
  by_cases hc:chk ws h2=true
  ·rw [if_pos hc] at e3;cases e3;have hle:xs.length≤i:=by have:=congrArg List.length q;rw [List.length_drop,List.length_nil] at this;lia
   exact .inl ⟨(It.run _ H2 _ (T1.trans T2.ch) S2 hc i).1 hle,k _ _ _ T2 S2 R2 hA2⟩
  ·rw [if_neg hc] at e3;cases e3
 | cons x r=>
  rw [q] at e3;unfold iw at e3
  by_cases hc:chk ws h2=true
  ·rw [if_pos hc] at e3;have hx:xs[i]?=some x:=by
    have:=congrArg (fun l=>l[0]?) q
    simpa using this
   have hlt:i < xs.length:=(List.getElem?_eq_some_iff.mp hx).1;have hr:xs.drop (i+1)=r:=by
    have:=congrArg List.tail q
    simpa using this
   obtain ⟨⟨δ3,h3⟩,e4,e5⟩:=bnd e3;obtain ⟨⟨t,h4⟩,e6,e7⟩:=bnd e5;dsimp only at e4 e5 e6 e7;obtain ⟨hgo,hy⟩:=(It.run _ H2 h2 (T1.trans T2.ch) S2 hc i).2 x hx;refine .inr ⟨hgo,fun τ5 H5=>∃(ρ5:Ad) (δ5:DS) (h5:MH) (a5:α),StpL l ρ1 H1 ρ5 H5∧RepS K ρ5 H5 τ5 δ5∧Sim K ρ5 h5 H5∧A.at_ K ρ5 H5 l a5∧iw ws g mt m r δ5 h5 a5=some (δ',h',a'),?_,?_⟩
   ·rintro τ5 H5 ⟨ρ5,δ5,h5,a5,T5,R5,S5,A5,e5⟩;exact ⟨xs.length-(i+1),by lia,ρ5,δ5,h5,a5,rfl,hlt,T5,R5,S5,A5,by rw [hr];exact e5⟩
   ·intro v H3 y3;obtain ⟨T3,S3,r3⟩:=hy v H3 y3;refine ⟨ρ2,δ2,h2,x,δ3,h3,R2.mono T3.toCh,S3,r3,e4,fun ρ4 H4 τ4 T4 S4 R4=>?_⟩;refine ⟨ρ4,δ3,h3,t,h4,R4,S4,e6,fun ρ5 H5 T5 S5=>?_⟩;have T25:Stp ρ2 H2 ρ5 H5:=T3.trans (T4.trans T5);have A5:A.at_ K ρ5 H5 l a2:=A.mono hA2 T25.toCh (T25.res l hl2);cases t with
    | false=>
     rw [if_neg (by simp)] at e7;exact GP ⟨ρ5,δ3,h4,a2,T2.trans T25.toL,R4.mono T5.toCh,S5,A5,e7⟩
    | true=>
     rw [if_pos rfl] at e7;obtain ⟨⟨δ6,h6,a6⟩,e8,e9⟩:=bnd e7;refine GO ⟨ρ5,δ3,h4,a2,δ6,h6,a6,R4.mono T5.toCh,S5,by rw [T25.rs];exact hl2,A5,e8,fun ρ7 H7 τ7 T7 S7 R7 A7=>?_⟩;exact ⟨ρ7,δ6,h6,a6,(T2.trans T25.toL).trans T7,R7,S7,A7,e9⟩
  ·rw [if_neg hc] at e3;cases e3
theorem AW (h0:∀ρ H l,A.at_ K ρ (upd H l (o l)) l a0) (hh:∃ρ δ h xs ws h1 δ' h' a',RepS K ρ H σ δ∧Sim K ρ h H∧mi δ h=some (xs,ws,h1)∧iw ws g mt m xs (ix caps δ) h1 a0=some (δ',h',a')∧∀l ρ' H',Stp ρ H ρ' H'->Sim K ρ' h' H'->¬ρ'.has l->A.at_ K ρ' H' l a'->Q (.ref l) H'):
  tI caps (tMI K mi) o (tMG K g) (tMT K mt) (fun l=>tMK K A l m) σ H Q:=by
 obtain ⟨ρ,δ,h,xs,ws,h1,δ',h',a',R,S,e1,e2,k⟩:=hh;refine ⟨ρ,δ,h,xs,ws,h1,R,S,e1,fun J ρ1 H1 T1 S1 It l hl=>?_⟩;have nl:¬ρ1.has l:=S1.fresh hl;have Tl:Ch ρ1 H1 (ρ1.keep l) (upd H1 l (o l)):=Ch.keep hl;refine De It Tl (((R.mono T1.toCh).ou caps).mono Tl) (S1.keep hl) (List.mem_cons_self) (h0 _ _ _) e2 fun ρ2 H2 τ2 T2 S2 R2 A2=>?_;obtain ⟨ob2,rs2⟩:=ρ2;have ers:rs2=l::ρ1.rs:=T2.rs;subst ers;have hsub:∀b∈ρ1.rs,b∈l::ρ1.rs:=fun b hb=>List.mem_cons_of_mem _ hb;have C2:Ch ⟨ob2,l::ρ1.rs⟩ H2 ⟨ob2,ρ1.rs⟩ H2:=Ch.free hsub;have hne:∀b∈ρ1.rs,b≠l:=fun b hb z=>nl (.inr (z ▸ hb));have T2':Stp ρ1 H1 ⟨ob2,ρ1.rs⟩ H2:=⟨(Tl.trans T2.ch).trans C2,rfl,fun b hb=>(T2.res b (hsub b hb) (hne b hb)).trans (aB (hne b hb))⟩;refine k l _ H2 (T1.trans T2') (S2.free hsub) (fun z=>?_) (A.mono A2 C2 rfl);rcases z with z | z
 ·exact (S2.rsv l List.mem_cons_self).2 z
 ·exact nl (.inr z)
end
def SMK {α:Type} (X:Cx) (act:Addr->Env->Sem Unit) (A:Ac α) (m:MK α):Prop:=∀l,L2.PM X (act l X.env) (tMK X.K A l m)
theorem _root_.L2.PM.imp (h:L2.PM X a t) (i:∀σ H Q,t' σ H Q->t σ H Q):L2.PM X a t':=fun pins s σ H Q I q=>h pins s σ H Q I (i σ H Q q)
section
variable {α:Type} {X:Cx} {A:Ac α} {g:GM} {mt:TM} {m:MK α} {mi:IM} {e tg iter:Expr} {ifs:List Expr} {d:Nat} {p:Pos} {act:Addr->Env->Sem Unit}
end
end Sm
namespace L2
open PySem PySem.Spec PyProof.Rows
section
variable {P:Program} {w:World} {A:Around} {E:Value->Shared->Prop} {s:Shared} {a:Addr} {ks:List Str}
end
noncomputable def leT (a b:Str):Bool:=!ltCps b.cps.toList a.cps.toList
theorem iZ:leT a b=true↔strKind.kle a.cps.toList b.cps.toList:=by
 unfold leT KeyOrd.kle;rw [ltCps_eq];simp
theorem sJ (a b c:Str) (h1:leT a b=true) (h2:leT b c=true):leT a c=true:=iZ.mpr (KeyOrd.kle_trans (iZ.mp h1) (iZ.mp h2))
theorem zC (a b:Str):(leT a b||leT b a)=true:=by
 rw [Bool.or_eq_true]
 by_cases z:strKind.klt b.cps.toList a.cps.toList
 ·exact .inr (iZ.mpr (KeyOrd.kle_of_klt z))
 ·exact .inl (iZ.mpr (KeyOrd.kle_of_not_klt z))
theorem vW (a b:Str) (h1:leT a b=true) (h2:leT b a=true):a=b:=by
 have:=KeyOrd.kle_antisymm (iZ.mp h1) (iZ.mp h2);cases a;cases b;congr 1;exact Array.toList_inj.mp this
noncomputable def cx (ks:List Str):List Str:=ks.mergeSort leT
theorem bV (ks:List Str):(cx ks).Perm ks:=List.mergeSort_perm _ _
theorem iF (ks:List Str):(cx ks).Pairwise fun a b=>leT a b=true:=List.pairwise_mergeSort sJ zC ks
theorem sA:∀(l:List Str) (p:Str),risingS p l=true->(p::l).Pairwise fun a b=>leT a b=true
 | [],p,_=>by simp
 | x::r,p,h=>by
  have h':(!ltCps x.cps.toList p.cps.toList&&risingS x r)=true:=h;rw [Bool.and_eq_true] at h';have ih:=sA r x h'.2;refine List.pairwise_cons.mpr ⟨fun y hy=>?_,ih⟩;rcases List.mem_cons.mp hy with rfl | hy
  ·exact h'.1
  ·exact sJ _ _ _ h'.1 ((List.pairwise_cons.mp ih).1 y hy)
theorem vg (hp:ss.Perm ks) (h:sortedS ss=true):ss=cx ks:=by
 refine List.Perm.eq_of_pairwise (fun a b _ _=>vW a b) ?_ (iF ks) (hp.trans (bV ks).symm)
 match ss,h with
 | [],_=>exact .nil
 | x::r,h=>exact sA r x h
theorem y9 {vs:List Value} {ss:List Str} {Q:Value->Shared->Prop} (hV:StrsAre vs ss) (h64:vs.length < 64)
  (h:∀h' n (out:Array Value),(∀b o,s.heap.get? b=some o->h'.get? b=some o)->h'.get? s.heap.objs.size=some (seqObj "list" out n)->StrsAre out.toList (cx ss)->Q (.ref s.heap.objs.size) {s with heap:=h'}):
  wpAny (model P w) A (do let l←newList vs;let _←holding [l] (call (.builtin "list.sort") [l] []);ret l) (fun fin s'=>∃v,fin=Fin.done (Flow.ret v)∧Q v s') E s:=by
 refine wpAny_bind (wpAny_newList ?_ (by rw [sizeLine_eq];lia));have hL:(s.heap.push (seqObj "list" vs.toArray 0)).get? s.heap.objs.size=some (seqObj "list" vs.toArray 0):=Heap.get?_push_size _ rfl;show wpAny _ _ _ _ _ {s with heap:=s.heap.push (seqObj "list" vs.toArray 0)};refine wpAny_bind (wpAny_holding (wpAny_call_entry slot_list_sort ⟨_,hL,rfl⟩ entry_list_sort (list_sort_treeK (s:={s with heap:=s.heap.push (seqObj "list" vs.toArray 0)}) strKind_oneLt hL hV.keysOf (fun v₁ v₂ rest e=>keyKind_strs (by rw [←e];exact hV)) h64 fun st' hp hs=>⟨_,rfl,?_⟩) (args_list_sort _)));obtain ⟨ss',g1,g2,g3⟩:=sorted_out_str hV hp hs;have:=vg g2 g3;subst this;have hlt:s.heap.objs.size < (s.heap.push (seqObj "list" vs.toArray 0)).objs.size:=by rw [Heap.size_push];exact Nat.lt_succ_self _
 obtain ⟨n,hn⟩:=sortedHeap_at (vs:=vs) (out:=(arrOf st').map (·.2)) hL;refine wpAny_pure ⟨_,rfl,h _ n _ (fun b o e=>?_) hn g1⟩;have hb:=Heap.lt_size e;rw [sortedHeap_old (Nat.ne_of_lt hb) (Nat.lt_trans hb hlt)];exact Heap.get?_push_of_some _ e
theorem zo:Hk X newDict (fun _=>.dK []):=fun pins s σ H Q E I h=>by
 unfold newDict;exact wpAny_newObj_type (h _ s.toks (I.laid (a:=s.heap.objs.size) (o:=.dK []) (t':=s.toks) (fun _ _ q=>Heap.get?_push_of_some _ q) (Nat.le_refl _) (j7 s.heap I.big)))
def E4 (tk tv:TE) (l:Addr):TK:=fun τ H N=>tk τ H fun x H1=>tv τ H1 fun y H2=>∃kvs kk,H2 l=some (.dK kvs)∧x=kV kk∧kvs.length < sizeLine∧N τ (upd H2 l (.dK (putK kvs kk y)))
theorem Dz (hk:PE B k tk) (hv:PE B v tv):PM B (mR k v l B.env) (E4 tk tv l):=fun pins s τ H N I h=>by
 unfold mR;refine wpAny_bind (thn (hk pins s τ H _ I h) fun ku s1 h1=>?_);obtain ⟨x,H1,I1,r1,q1⟩:=h1;refine wpAny_bind (wpAny_holding (thn (hv pins s1 τ H1 _ I1 q1) fun vu s2 h2=>?_));obtain ⟨y,H2,I2,r2,kvs,kk,e,rfl,hz,n2⟩:=h2;refine wpAny_bind (wpAny_standAt (wpAny_holding ?_));obtain ⟨z,hd,vs,rel,dd⟩:=qJ I2.hok e;have hzz:vs.length≤sizeLine:=by rw [←rel.length];exact z
 have hl:(putK kvs kk y).length≤sizeLine:=by have:=gG kvs kk y;lia
 refine wpAny_dictSet_pairs (hsz:=hzz) (gu r1) dd fun h' dd' hs=>?_;have he:∃q,h'.get? l=some q:=let ⟨q,_,_,hq,_⟩:=dd';⟨q,hq⟩;exact ⟨τ,_,kG I2 (by rw [e];exact True.intro) hs he (oo hl hd (rel.put kk r2) dd'),n2⟩
end L2
namespace Sm
open PySem L2 PySem.Spec PyProof.Rows
noncomputable def acD:Ac (List (Key×D)) where
 at_:=fun K ρ H l a=>∃us,H l=some (.dK us)∧RepK K ρ H us a
 mono:=fun ⟨vs,e,r⟩ T q=>⟨vs,q.trans e,r.mono T⟩
noncomputable def mD (k v:EM):MK (List (Key×D)):=fun δ h a=>(k δ h).bind fun p=>(v δ p.2).bind fun q=>(mH p.1).bind fun kk=>if a.length < sizeLine then some (δ,q.2,putD a kk q.1) else none
theorem StpL.put {K:FR} (T:Stp ρ H ρ1 H1) (hl:l∈ρ.rs):StpL l ρ H ρ1 (upd H1 l o):=by
 have hl1:l∈ρ1.rs:=by rw [T.rs];exact hl
 exact ⟨T.toCh.trans (Ch.put hl1),T.rs,fun b hb n=>(aB n).trans (T.res b hb)⟩
theorem RepK.len {K:FR} {ρ:Ad} {H:Hp}:∀{us:List (Key×V)} {ks:List (Key×D)},RepK K ρ H us ks->us.length=ks.length
 | _,_,.nil=>rfl
 | _,_,.cons _ r=>by rw [List.length_cons,List.length_cons,r.len]
theorem CQ (hk:SE X k mk) (hv:SE X v mv):SMK X (fun l env=>mR k v l env) acD (mD mk mv):=fun l=>(Dz hk hv).imp fun τ H N ⟨ρ,δ,h,a,δ',h',a',R,S,hl,⟨vs,hv,rl⟩,e,kk⟩=>by
 obtain ⟨⟨x,h1⟩,e1,e2⟩:=bnd e;obtain ⟨⟨y,h2⟩,e3,e4⟩:=bnd e2;obtain ⟨c,e5,e6⟩:=bnd e4;dsimp only at e3 e5 e6
 by_cases hz:a.length < sizeLine
 ·rw [if_pos hz] at e6;cases e6;refine ⟨ρ,δ,h,x,h1,R,S,e1,fun u H1 ⟨ρ1,T1,S1,r1⟩=>⟨ρ1,δ,h1,y,_,R.mono T1.toCh,S1,e3,fun u2 H2 ⟨ρ2,T2,S2,r2⟩=>⟨vs,c,((T1.trans T2).res l hl).trans hv,fY r1 e5,by rw [rl.len];exact hz,?_⟩⟩⟩;have T:=T1.trans T2;have hl2:l∈ρ2.rs:=by rw [T.rs];exact hl
  have Cp:Ch ρ2 H2 ρ2 (upd H2 l (.dK (putK vs c u2))):=Ch.put hl2;exact kk ρ2 _ τ (StpL.put (K:=X.K) T hl) (S2.put hl2) ((R.mono T.toCh).mono Cp) ⟨_,aY,((rl.mono T.toCh).put r2).mono Cp⟩
 ·rw [if_neg hz] at e6;cases e6
end Sm
namespace L2
open PySem PySem.Spec PyProof.Rows
theorem nu:∀{us:List Value} {ss:List Str},StrsAre us ss->Vals (ss.map V.str) us
 | _,_,.nil=>.nil
 | _,_,.cons x t r=>.cons ⟨t,rfl⟩ (nu r)
end L2
namespace Sm
open PySem L2 PySem.Spec PyProof.Rows
noncomputable def eAc {α:Type} (caps:List (Option Nat)) (i:IM) (g:GM) (c:TM) (m:MK α) (a0:α) (out:α->D):EM:=fun δ h=>(i δ h).bind fun p=>(iw p.2.1 g c m p.1 (ix caps δ) p.2.2 a0).map fun q=>(out q.2.2,q.2.1)
section
variable {α:Type} {K:FR} {A:Ac α} {g:GM} {mt:TM} {m:MK α}
theorem Ft (h0:∀ρ H l,A.at_ K ρ (upd H l (o l)) l a0) (hout:∀ρ H l a,A.at_ K ρ H l a->¬ρ.has l->Rep K ρ H (.ref l) (out a)) (hh:tM K (eAc caps mi g mt m a0 out) σ H Q):tI caps (tMI K mi) o (tMG K g) (tMT K mt) (fun l=>tMK K A l m) σ H Q:=by
 obtain ⟨ρ,δ,h,d,h',R,S,ee,k⟩:=hh;obtain ⟨⟨xs,ws,h1⟩,e1,e2⟩:=bnd ee;obtain ⟨⟨δ',h2,a'⟩,e3,e4⟩:=mpd e2;cases e4;exact AW h0 ⟨ρ,δ,h,xs,ws,h1,δ',_,a',R,S,e1,e3,fun l ρ' H' T S' n at'=>k _ _ ⟨ρ',T,S',hout _ _ _ _ at' n⟩⟩
theorem HQ {caps:List (Option Nat)} {mi:IM} {m:MK (List (Key×D))} {σ:L2.St} {H:Hp} {Q:VK} (hh:tM K (eAc caps mi g mt m [] .dv) σ H Q):tI caps (tMI K mi) (fun _=>.dK []) (tMG K g) (tMT K mt) (fun l=>tMK K acD l m) σ H Q:=
 Ft (A:=acD) (o:=fun _=>.dK []) (a0:=[]) (out:=.dv) (fun ρ H l=>show ∃us,_ from ⟨[],aY,.nil⟩) (fun ρ H l a h n=>by obtain ⟨us,e,r⟩:=h;exact .dv e n r) hh
end
theorem Dd {X:Cx} {i:Nat} {m:EM} {t:TE} {E:Ends} {σ:L2.St} {H:Hp} (hh:tMS X.K (a9 i m) E σ H) (imp:∀σ H Q,tM X.K m σ H Q->t σ H Q):yY t (oI i) E σ H:=imp _ _ _ (xf hh)
section
variable {X:Cx} {k v tg iter elt tg2 iter2:Expr} {pos:Pos} {mk mv me:EM} {mt mt2:TM} {g g2:GM} {N':List Str} {caps:List (Option Nat)} {scope:Scope} {ifs ifs2:List Expr} {mi mi2:IM}
theorem Az (hN:X.N.Nodup) (hi':X.N[i]?=some y) (hy:X.env.scope.names.lookup y=some .local) (C:CompScope X N' caps scope) (hc:X.calm=true) (hi:SI X tg iter mi) (hg:∀C s₃ H₃ fp pl,SG (blk X N' scope C s₃ H₃ fp pl) tg g) (hif:∀C s₃ H₃ fp pl,SIf (blk X N' scope C s₃ H₃ fp pl) ifs mt) (hk:∀C s₃ H₃ fp pl,SE (blk X N' scope C s₃ H₃ fp pl) k mk) (hv:∀C s₃ H₃ fp pl,SE (blk X N' scope C s₃ H₃ fp pl) v mv) (hsw:swapsWith (.DictComp k v [⟨tg,iter,ifs,0⟩] scope pos) (some (.Name y py)) spos.line X.env=pure true:=by kernel_rfl) (hs:∀x,foldedSetIterable iter X.env x=pure x:=by intro _;kernel_rfl):
  SS X (.Assign [.Name y py] (.DictComp k v [⟨tg,iter,ifs,0⟩] scope pos) spos) (a9 i (eAc caps mi g mt (mD mk mv) [] .dv)):=
 (Bh (g:=tMG X.K g) (tc:=tMT X.K mt) (tm:=fun l=>tMK X.K acD l (mD mk mv)) hN hi' hy C hc (xn ..) rfl (fun it l env=>wL ..) zo hi hg hif (fun C s₃ H₃ fp pl l=>CQ (hk C s₃ H₃ fp pl) (hv C s₃ H₃ fp pl) l) (fun _=>rfl) hsw hs).imp fun E σ H hh=>
  Dd hh fun _ _ _=>HQ
theorem nN {K:FR} {ρ:Ad} {H:Hp}:∀(ss:List Str),(∀k∈ss,PyData.strOk k=true)->RepL K ρ H (ss.map V.str) (ss.map D.str)
 | [],_=>.nil
 | x::r,h=>.cons (.str (h x List.mem_cons_self)) (nN r fun k hk=>h k (List.mem_cons_of_mem _ hk))
end
end Sm
namespace L2
open PySem PySem.Spec PyProof.Rows
theorem vJ (its:List Value):slicePick its.toArray none none (some (-1))=its.reverse.toArray:=by
 unfold slicePick;congr 1;have hb:sliceBounds none none (some (-1)) its.toArray.size=((its.length:Int)-1,-1,-1):=by
  unfold sliceBounds;simp
 rw [hb];dsimp only;have hr:sliceRange ((its.length:Int)-1) (-1) (-1)=(List.range its.length).map fun k=>its.length-1-k:=by
  unfold sliceRange;dsimp only;rw [if_neg (by decide)];have hc:(if (its.length:Int)-1 > -1 then ((its.length:Int)-1 - -1 - -1-1) / (- -1) else 0)=(its.length:Int):=by
   split
   ·simp
   ·lia
  rw [hc,Int.toNat_natCast];refine List.map_congr_left fun k hk=>?_;have:=List.mem_range.mp hk
  lia
 rw [hr];refine List.ext_getElem? fun i=>?_;rw [List.filterMap_map];have hall:∀k∈List.range its.length,((fun x=>its.toArray[x]?)∘fun k=>its.length-1-k) k=some (its.getD (its.length-1-k) .none):=fun k hk=>by
  have:=List.mem_range.mp hk;show its.toArray[its.length-1-k]?=_;rw [List.getElem?_toArray,List.getD_eq_getElem?_getD,List.getElem?_eq_getElem (by lia)];rfl
 have hm:∀l:List Nat,(∀k∈l,((fun x=>its.toArray[x]?)∘fun k=>its.length-1-k) k=some (its.getD (its.length-1-k) .none))->l.filterMap ((fun x=>its.toArray[x]?)∘fun k=>its.length-1-k)=l.map fun k=>its.getD (its.length-1-k) .none:=by
  intro l
  induction l with
  | nil=>intro _;rfl
  | cons k r ih=>intro h;rw [List.filterMap_cons,h k List.mem_cons_self,List.map_cons,ih fun x hx=>h x (List.mem_cons_of_mem _ hx)]
 rw [hm _ hall,List.getElem?_map]
 by_cases z:i < its.length
 ·rw [List.getElem?_range z,List.getElem?_reverse z];simp only [Option.map];rw [List.getD_eq_getElem?_getD,List.getElem?_eq_getElem (by lia)];rfl
 ·rw [List.getElem?_eq_none (by simpa using z),List.getElem?_eq_none (by simpa using z)];rfl
theorem sg:∀{xs:List V} {us:List Value} {x:V} {u:Value},Vals xs us->RelV x u->Vals (xs++[x]) (us++[u])
 | _,_,_,_,.nil,r=>.cons r .nil
 | _,_,_,_,.cons r l,r'=>.cons r (sg l r')
theorem pN:∀{xs:List V} {us:List Value},Vals xs us->Vals xs.reverse us.reverse
 | _,_,.nil=>.nil
 | _,_,.cons r l=>by
  rw [List.reverse_cons,List.reverse_cons];exact sg (pN l) r
section
variable {X:Cx} {e st:Expr} {te ts:TE} {pos p2:Pos}
end
end L2
namespace Sm
open PySem L2 PySem.Spec PyProof.Rows
section
variable {X:Cx} {e st a b c:Expr} {ma ms mb mc:EM} {pos p2:Pos}
theorem RepL.rev {K:FR} {ρ:Ad} {H:Hp}:∀{vs:List V} {ds:List D},RepL K ρ H vs ds->RepL K ρ H vs.reverse ds.reverse
 | _,_,.nil=>.nil
 | _,_,.cons r l=>by rw [List.reverse_cons,List.reverse_cons];exact (RepL.rev l).snoc r
abbrev PrM:=DS->MH->Option (List (Key×D)×MH)
noncomputable def zp:PrM:=fun _ h=>some ([],h)
noncomputable def bL (k v:EM) (r:PrM):PrM:=fun δ h=>(k δ h).bind fun p=>(v δ p.2).bind fun q=>(mH p.1).bind fun kk=>(r δ q.2).map fun z=>((kk,q.1)::z.1,z.2)
inductive TPri (K:FR) (m:PrM) (σ:L2.St) (H:Hp) (Q:List (V×V)->Hp->Prop):Prop where
 | mk (ρ δ h kvs h'):RepS K ρ H σ δ->Sim K ρ h H->(m δ h=some (kvs,h'))->(∀us ρ' H',Stp ρ H ρ' H'->Sim K ρ' h' H'->RepK K ρ' H' us kvs->Q (us.map fun kv=>(kV kv.1,kv.2)) H')->TPri K m σ H Q
def tPr (K:FR) (m:PrM):L2.St->Hp->(List (V×V)->Hp->Prop)->Prop:=fun σ H Q=>TPri K m σ H Q
def SP (X:Cx) (pos:Pos) (keys:List (Option Expr)) (vals:List Expr) (m:PrM):Prop:=∃trs,PPs X pos keys vals trs∧∀σ H Q,tPr X.K m σ H Q->tH trs σ H Q
theorem wU:SP X pos [] [] zp:=⟨[],Dw,fun σ H Q ⟨ρ,δ,h,kvs,h',R,S,e,k⟩=>by
 cases e;exact k [] ρ H (.refl _ _) S .nil⟩
theorem bI (hk:SE X kx mk) (hv:SE X vx mv) (hr:SP X pos ks vs m):SP X pos (some kx::ks) (vx::vs) (bL mk mv m):=by
 obtain ⟨trs,h1,h2⟩:=hr;refine ⟨_,Bi hk hv h1,fun σ H Q ⟨ρ,δ,h,kvs,h',R,S,ee,k⟩=>?_⟩;obtain ⟨⟨x,ha⟩,e1,e2⟩:=bnd ee;obtain ⟨⟨y,hb⟩,e3,e4⟩:=bnd e2;obtain ⟨kk,e5,e6⟩:=bnd e4;obtain ⟨⟨zs,hz⟩,e7,e8⟩:=mpd e6;cases e8;refine ⟨ρ,δ,h,x,ha,R,S,e1,fun v H1 ⟨ρ1,T1,S1,r1⟩=>⟨ρ1,δ,ha,y,hb,R.mono T1.toCh,S1,e3,fun u H2 ⟨ρ2,T2,S2,r2⟩=>?_⟩⟩;refine h2 σ H2 _ ⟨ρ2,δ,hb,zs,_,(R.mono T1.toCh).mono T2.toCh,S2,e7,fun us ρ3 H3 T3 S3 r3=>?_⟩;have ek:=fY r1 e5;subst ek;exact k ((kk,u)::us) ρ3 H3 ((T1.trans T2).trans T3) S3 (.cons (r2.mono T3.toCh) r3)
noncomputable def yI (m:PrM):EM:=fun δ h=>(m δ h).bind fun p=>if p.1.length≤15 then some (.dv (dr [] p.1),p.2) else none
theorem yk (h:SP X pos keys vals m) (hall:keys.all (·.isSome)=true) (hl:keys.length=vals.length) (h0:keys≠[]) (hp:∀trs,PPs X pos keys vals trs->PE X (.Dict keys vals pos) (Au trs)):SE X (.Dict keys vals pos) (yI m):=by
 obtain ⟨trs,h1,h2⟩:=h;refine (hp trs h1).imp fun σ H Q ⟨ρ,δ,h,d,h',R,S,ee,k⟩ p hpn=>?_;obtain ⟨⟨kvs,ha⟩,e1,e2⟩:=bnd ee;dsimp only at e2
 by_cases z:kvs.length≤15
 ·rw [if_pos z] at e2;cases e2;have Tl:Ch ρ H (ρ.keep p) (upd H p (.dK [])):=Ch.keep hpn;have nl:¬ρ.has p:=S.fresh hpn;refine h2 σ _ _ ⟨ρ.keep p,δ,h,kvs,_,R.mono Tl,S.keep hpn,e1,fun us ρ2 H2 T2 S2 r2=>?_⟩;have hp2:H2 p=some (.dK []):=(T2.res p List.mem_cons_self).trans aY;refine ⟨hp2,us,rfl,by rw [r2.len];exact z,?_⟩;obtain ⟨ob2,rs2⟩:=ρ2;have ers:rs2=p::ρ.rs:=T2.rs;subst ers;have hml:p∈(⟨ob2,p::ρ.rs⟩:Ad).rs:=List.mem_cons_self;have hsub:∀b∈ρ.rs,b∈p::ρ.rs:=fun b hb=>List.mem_cons_of_mem _ hb;have hne:∀b∈ρ.rs,b≠p:=fun b hb z=>nl (.inr (z ▸ hb));have Cp:Ch ⟨ob2,p::ρ.rs⟩ H2 ⟨ob2,p::ρ.rs⟩ (upd H2 p (.dK (aX [] us))):=Ch.put hml;have C2:Ch ⟨ob2,p::ρ.rs⟩ (upd H2 p (.dK (aX [] us))) ⟨ob2,ρ.rs⟩ (upd H2 p (.dK (aX [] us))):=Ch.free hsub;refine k _ _ ⟨⟨ob2,ρ.rs⟩,⟨((Tl.trans T2.toCh).trans Cp).trans C2,rfl,fun b hb=>?_⟩,(S2.put hml).free hsub,.dv aY (fun z=>?_) ((RepK.merge .nil r2).mono (Cp.trans C2))⟩
  ·show upd H2 p _ b=H b;rw [aB (hne b hb),T2.res b (hsub b hb)];exact aB (hne b hb)
  ·rcases z with z | z
   ·exact (S2.rsv p List.mem_cons_self).2 z
   ·exact nl (.inr z)
 ·rw [if_neg z] at e2;cases e2
end
end Sm
namespace L2
open PySem PySem.Spec PyProof.Rows
open HT in
theorem yW {t sl:Addr} {items:Array Value} {vl vu:Value} {lo hi:Option Int} {Q:Value->Shared->Prop} (ht:IsTup s.heap t items) (hs:s.heap.IsSliceOf sl vl vu .none) (pl:IsPart vl lo) (pu:IsPart vu hi)
  (hw:sIx items.size 0 lo=0∧sIx items.size items.size hi=items.size) (h:Q (.ref t) s):wpAny (model prog w) A (getItem (.ref t) (.ref sl)) Q E s:=by
 obtain ⟨os,hos,hcs,hds⟩:=id hs;have hTs:s.TypeIs (.ref sl) "slice":=⟨os,hos,hcs⟩;unfold getItem
 try with_reducible refine wpAny_holding ?_
 first | refine wpAny_bind (wpAny_pure ?_) | skip
 refine wpAny_bind (wpAny_sequenceKey ht.typeIs (by decide) ?_);refine wpAny_bind (wpAny_callSpecial?_slot (name:=Str.ofString "__getitem__") ht.typeIs PyProof.Rows.slot_tuple_getitem (wpAny_call_entry PyProof.Rows.slot_tuple_getitem ht.typeIs entry_tuple_getitem ?_ (args_tuple_getitem _ _)));show wpAny _ _ (Builtin.Tuple.tupleItemsOf (.ref t) >>=_) _ _ s;refine wpAny_bind (tupleItemsOf_ ht (wpAny_bind (wpAny_typeOf hTs ?_)));rw [if_pos (by decide)];refine wpAny_bind (ig hs pl pu ?_);show wpAny _ _ (if (((sIx items.size 0 lo:Nat):Int)==0&&(1:Int)==1&&(sIx items.size items.size hi-sIx items.size 0 lo)==items.size)=true then _ else _) _ _ s;rw [if_pos (by rw [hw.1,hw.2];simp)];unfold Builtin.Tuple.tupleIsExact;simp only [bind_assoc,pure_bind];refine wpAny_bind (wpAny_typeOf ht.typeIs ?_);rw [if_pos (by decide)]
 first
  | exact wpAny_bind (wpAny_rule (wpAny_pure ⟨_,rfl,wpAny_pure h⟩))
  | exact wpAny_bind (wpAny_rule (wpAny_bind (wpAny_pure (wpAny_pure ⟨_,rfl,wpAny_pure h⟩))))
def Jr (K:FR):V->Option Int->Option Int->Hp->VK->Prop:=fun x lo hi H Q=>∃a xs,x=.ref a∧SqT K H a xs∧(HT.sIx xs.length 0 lo=0∧HT.sIx xs.length xs.length hi=xs.length)∧Q (.ref a) H
theorem AB:SlR X (Jr X.K):=by
 intro pins s σ H x v vl vu lo hi sl Q I rx hs pl pu h;obtain ⟨a,xs,rfl,hx,hw,q⟩:=h;cases rx;obtain ⟨its,r,ht,hz⟩:=I.tuple hx;have hlen:its.toArray.size=xs.length:=by rw [List.size_toArray];exact r.length.symm
 exact ⟨"tuple",_,PyProof.Rows.slot_tuple_getitem.lookup,ht.typeIs,yW ht hs pl pu (by rw [hlen];exact hw) ⟨.ref a,H,I,rfl,q⟩⟩
end L2
namespace Sm
open PySem L2 PySem.Spec PyProof.Rows
section
variable {X:Cx}
noncomputable def we (d:D) (lo hi:Option Int) (h:MH):Option (D×MH):=match d with
 | .tup xs=>if HT.sIx xs.length 0 lo=0∧HT.sIx xs.length xs.length hi=xs.length then some (.tup xs,h) else some (.tup (cutD xs lo hi),h)
 | d=>fSl d lo hi h
noncomputable def kR (a:EM) (l u:PM):EM:=fun δ h=>(a δ h).bind fun p=>(l δ p.2).bind fun q=>(u δ q.2).bind fun r=>we p.1 q.1 r.1 r.2
inductive RSLAi (K:FR) (x:V) (lo hi:Option Int) (H:Hp) (Q:VK):Prop where
 | mk (ρ h d z h'):Sim K ρ h H->Rep K ρ H x d->(we d lo hi h=some (z,h'))->(∀v H',dE K ρ H h' z v H'->Q v H')->RSLAi K x lo hi H Q
def Jv (K:FR):V->Option Int->Option Int->Hp->VK->Prop:=fun x lo hi H Q=>RSLAi K x lo hi H Q
theorem E6:SlR X (Jv X.K):=by
 intro pins s σ H x v vl vu lo hi sl Q I rx hs pl pu hh;obtain ⟨ρ,h,d,z,h',S,rd,ee,k⟩:=hh;cases d with
 | tup xs=>
  unfold we at ee;dsimp only at ee
  by_cases c:HT.sIx xs.length 0 lo=0∧HT.sIx xs.length xs.length hi=xs.length
  ·rw [if_pos c] at ee;cases ee;have rd0:=rd;cases rd with | tup h0 l0=>
   exact AB pins s σ H _ v vl vu lo hi sl Q I rx hs pl pu ⟨_,_,rfl,h0.sq,by rw [l0.length];exact c,k _ _ (.here S rd0)⟩
  ·rw [if_neg c] at ee;exact EC pins s σ H x v vl vu lo hi sl Q I rx hs pl pu ⟨ρ,h,_,z,h',S,rd,by unfold fSl;dsimp only;rw [if_neg c];exact ee,k⟩
 | _=>exact EC pins s σ H x v vl vu lo hi sl Q I rx hs pl pu ⟨ρ,h,_,z,h',S,rd,ee,k⟩
theorem fe {a:Expr} {lo hi:Option Expr} {pos p2:Pos} {ma:EM} {ml mu:PM} (ha:SE X a ma) (hl:SP' X lo ml) (hu:SP' X hi mu):SE X (.Subscript a (.Slice lo hi none p2) pos) (kR ma ml mu):=
 (Bl E6 ha hl hu).imp fun σ H Q ⟨ρ,δ,h,d,h',R,S,e,k⟩=>by
  obtain ⟨⟨x,h1⟩,e1,e2⟩:=bnd e;obtain ⟨⟨l,h2⟩,e3,e4⟩:=bnd e2;obtain ⟨⟨u,h3⟩,e5,e6⟩:=bnd e4;exact ⟨ρ,δ,h,x,h1,R,S,e1,fun v H1 ⟨ρ1,T1,S1,r1⟩=>⟨ρ1,δ,h1,l,h2,R.mono T1.toCh,S1,e3,fun ρ2 H2 T2 S2=>⟨ρ2,δ,h2,u,h3,(R.mono T1.toCh).mono T2.toCh,S2,e5,fun ρ3 H3 T3 S3=>
   ⟨ρ3,h3,x,d,h',S3,r1.mono (T2.trans T3).toCh,e6,fun w H4 p=>k w H4 (p.step (T1.trans (T2.trans T3)))⟩⟩⟩⟩
noncomputable def wk:Fn:=fun ds h=>match ds with
 | [.bl b]=>some (.int (if b then 1 else 0),h)
 | _=>none
theorem xV:eZ X (.type "int") wk:=by
 intro pins s σ H xs us Q I r hh;obtain ⟨ρ,h,ds,z,h',S,l,ee,k⟩:=hh
 match ds,l,ee with
 | [],_,ee=>cases ee
 | _::_::_,_,ee=>exact absurd ee (by unfold wk;split <;> simp_all)
 | [d],l,ee=>
  obtain ⟨v,rfl,rd⟩:=rep1 l;cases rd <;> first | (cases ee;done) | skip
  cases ee;obtain ⟨u,rfl,ru⟩:=Vals.one r;cases ru;exact call_int_bool ⟨.int _,H,I.kept (t':=s.toks+1) (h':=s.heap) fun _ _ e=>e,⟨_,rfl⟩,k _ _ (.here S (.int _))⟩
noncomputable def j3 (d e:D) (h:MH):Option (D×MH):=match d,e with
 | .str x,.int n=>if x.length≤1000∧0≤n∧n≤1000∧PyData.strOk (Txt.mul x n)=true then some (.str (Txt.mul x n),h) else none
 | d,e=>GV d e h
theorem iX:OpS X (binaryOp .Mult) j3:=by
 intro pins s σ H x y v u Q I rx ry hh;obtain ⟨ρ,h,d,e,z,h',S,rd,re,ee,k⟩:=hh;unfold j3 at ee
 split at ee
 ·rename_i x0 n
  by_cases c:x0.length≤1000∧0≤n∧n≤1000∧PyData.strOk (Txt.mul x0 n)=true
  ·rw [if_pos c] at ee;cases ee;cases rd;cases re;obtain ⟨t1,rfl⟩:=rx;obtain ⟨t2,rfl⟩:=ry;obtain ⟨c1,c2,c3,c4⟩:=c;refine SB.mul ⟨?_,fun _ _=>?_,fun _ _=>?_⟩ fun t' k'=>⟨.str _,H,I.kept (t':=k') (h':=s.heap) fun _ _ e=>e,⟨t',rfl⟩,k _ _ (.here S (.str c4))⟩
   ·rw [decide_eq_false (by lia),decide_eq_false (by lia)];rfl
   ·have h1:(9007199254740991:Int)≤(2^63-1) / n:=by
     refine Int.le_ediv_of_mul_le (by lia) ?_;have:9007199254740991*n≤9007199254740991*1000:=Int.mul_le_mul_of_nonneg_left c3 (by decide)
     lia
    lia
   ·have h1:x0.length*n.toNat≤1000*1000:=Nat.mul_le_mul c1 (by lia);refine decide_eq_false ?_;have:=sizeLine_eq
    lia
  ·rw [if_neg c] at ee;cases ee
 ·exact F8 pins s σ H x y v u Q I rx ry ⟨ρ,h,_,_,z,h',S,rd,re,ee,k⟩
noncomputable def du (f f':D->D->MH->Option (D×MH)) (ma mb mc:EM):EM:=fun δ h=>(ma δ h).bind fun p=>(mb δ p.2).bind fun q=>(f p.1 q.1 q.2).bind fun r=>match r.1 with
 | .bl true=>(mc δ r.2).bind fun u=>f' q.1 u.1 u.2
 | .bl false=>some (.bl false,r.2)
 | _=>none
theorem vE (hh:tM X.K (du f f' ma mb mc) σ H Q):wQ (rS X.K f) (rS X.K f') (tM X.K ma) (tM X.K mb) (tM X.K mc) σ H Q:=by
 obtain ⟨ρ,δ,h,d,h',R,S,ee,k⟩:=hh;obtain ⟨⟨x,h1⟩,e1,e2⟩:=bnd ee;obtain ⟨⟨y,h2⟩,e3,e4⟩:=bnd e2;obtain ⟨⟨z,h3⟩,e5,e6⟩:=bnd e4;dsimp only at e3 e5 e6;refine ⟨ρ,δ,h,x,h1,R,S,e1,fun v H1 ⟨ρ1,T1,S1,r1⟩=>⟨ρ1,δ,h1,y,h2,R.mono T1.toCh,S1,e3,fun u H2 ⟨ρ2,T2,S2,r2⟩=>⟨ρ2,h2,x,y,z,h3,S2,r1.mono T2.toCh,r2,e5,fun w H3 ⟨ρ3,T3,S3,r3⟩=>?_⟩⟩⟩;cases z with
 | bl b=>
  cases r3;refine ⟨b,rfl,?_⟩;cases b with
  | false=>
   cases e6;exact GP (k _ _ (dE.step (T1.trans (T2.trans T3)) (.here S3 (.bl false))))
  | true=>
   obtain ⟨⟨u',h4⟩,e7,e8⟩:=bnd e6;have T:=T1.trans (T2.trans T3);exact GO ⟨ρ3,δ,h3,u',h4,R.mono T.toCh,S3,e7,fun v' H4 ⟨ρ4,T4,S4,r4⟩=>⟨ρ4,h4,y,u',d,h',S4,r2.mono (T3.trans T4).toCh,r4,e8,fun w' H5 P=>k w' H5 (P.step (T.trans T4))⟩⟩
 | _=>cases e6
theorem vj (ho:OpS X (compareOp op) f) (ho':OpS X (compareOp op') f') (ha:SE X a ma) (hb:SE X b mb) (hc:SE X c mc) (hm:lastMarks [op,op'] [b,c]=false:=by with_unfolding_all rfl):
  SE X (.Compare a [op,op'] [b,c] pos) (du f f' ma mb mc):=(Bo ho ho' ha hb hc hm).imp fun _ _ _=>vE
theorem f7 (ho:OpS X (compareOp op) f) (ho':OpS X (compareOp op') f') (ha:SE X a ma) (hb:SE X b mb) (hc:SE X c mc) (hm:lastMarks [op,op'] [b,c]=false:=by with_unfolding_all rfl):
  ST X (.Compare a [op,op'] [b,c] pos) (aA (du f f' ma mb mc)):=(Be ho ho' ha hb hc hm).imp fun σ H Q h=>vE (Dg h)
end
end Sm
namespace L2
open PySem PySem.Spec PyProof.Rows
theorem AU (its:List Value):((List.range its.length).filterMap fun (k:Nat)=>its.toArray[(((its.length:Int)-1)+(k:Int)*(-1)).toNat]?).toArray=its.reverse.toArray:=by
 rw [←vJ];unfold slicePick;have hb:sliceBounds none none (some (-1)) its.toArray.size=((its.length:Int)-1,-1,-1):=by
  unfold sliceBounds;simp
 rw [hb];dsimp only;unfold sliceRange;dsimp only;rw [if_neg (by decide)];have hc:(if (its.length:Int)-1 > -1 then ((its.length:Int)-1 - -1 - -1-1) / (- -1) else 0)=(its.length:Int):=by
  split
  ·simp
  ·lia
 rw [hc,Int.toNat_natCast,List.filterMap_map];congr 2
 funext k
 show _=its.toArray[((its.length:Int)-1+-1*(k:Int)).toNat]?;rw [Int.mul_comm]
open HT in
theorem CJ {t sl:Addr} {its:List Value} {tk:Tok} {Q:Value->Shared->Prop} (ht:IsTup s.heap t its.toArray) (hs:s.heap.IsSliceOf sl .none .none (.int (-1) tk))
  (h:Q (.ref s.heap.objs.size) {s with heap:=s.heap.push {cls:=.type "tuple",data:=.seq its.reverse.toArray}}) (hsz:its.length≤sizeLine):wpAny (model prog w) A (getItem (.ref t) (.ref sl)) Q E s:=by
 obtain ⟨os,hos,hcs,hds⟩:=id hs;have hTs:s.TypeIs (.ref sl) "slice":=⟨os,hos,hcs⟩;unfold getItem
 try with_reducible refine wpAny_holding ?_
 first | refine wpAny_bind (wpAny_pure ?_) | skip
 refine wpAny_bind (wpAny_sequenceKey ht.typeIs (by decide) ?_);refine wpAny_bind (wpAny_callSpecial?_slot (name:=Str.ofString "__getitem__") ht.typeIs PyProof.Rows.slot_tuple_getitem (wpAny_call_entry PyProof.Rows.slot_tuple_getitem ht.typeIs entry_tuple_getitem ?_ (args_tuple_getitem _ _)));show wpAny _ _ (Builtin.Tuple.tupleItemsOf (.ref t) >>=_) _ _ s;refine wpAny_bind (tupleItemsOf_ ht (wpAny_bind (wpAny_typeOf hTs ?_)));rw [if_pos (by decide)];refine wpAny_bind (m:=Builtin.Slice.sliceApplied _ _) ?_;unfold Builtin.Slice.sliceApplied Builtin.Slice.sliceFields;refine wpAny_bind (wpAny_bind (wpAny_field hos hds (x:=.none) rfl (wpAny_bind (wpAny_field hos hds (x:=.none) rfl (wpAny_bind (wpAny_field hos hds (x:=.int (-1) tk) rfl (wpAny_pure ?_)))))));refine wpAny_bind (slicePart_int ?_);show wpAny _ _ (if ((-1:Int)==0)=true then _ else _) _ _ s;rw [if_neg (by decide)];refine wpAny_bind (slicePart_none (wpAny_bind (slicePart_none (wpAny_bind (wpAny_pure ?_)))));have hadj:Builtin.Slice.sliceAdjust none none (-1) (its.toArray.size:Int)=((its.length:Int)-1,-1):=by
  unfold Builtin.Slice.sliceAdjust;simp
 have hpl:Builtin.Slice.slicePlaces ((its.length:Int)-1) (-1) (-1)=its.length:=by
  unfold Builtin.Slice.slicePlaces;rw [if_neg (by decide)]
  split
  ·simp
  ·lia
 show wpAny _ _ (match Builtin.Slice.sliceAdjust none none (-1) (its.toArray.size:Int) with | (lo,hi)=>pure (lo,(-1:Int),Builtin.Slice.slicePlaces lo hi (-1))) _ _ s;rw [hadj];show wpAny _ _ (pure ((its.length:Int)-1,(-1:Int),Builtin.Slice.slicePlaces ((its.length:Int)-1) (-1) (-1))) _ _ s;rw [hpl];refine wpAny_pure ?_;show wpAny _ _ (if ((its.length:Int)-1==0&&(-1:Int)==1&&its.length==its.toArray.size)=true then _ else _) _ _ s;rw [if_neg (by rw [show ((-1:Int)==1)=false from rfl];simp),AU];have htake:sizeOk (.seq its.reverse.toArray):=by
  show its.reverse.toArray.size≤sizeLine;rw [List.size_toArray,List.length_reverse];exact hsz
 first
  | exact wpAny_bind (m:=Builtin.Tuple.tupleExact _) (wpAny_newObj_type (wpAny_pure ⟨_,rfl,wpAny_pure h⟩) htake)
  | exact wpAny_bind (wpAny_bind (m:=Builtin.Tuple.tupleExact _) (wpAny_newObj_type (wpAny_pure (wpAny_pure ⟨_,rfl,wpAny_pure h⟩)) htake))
section
variable {X:Cx} {e st:Expr} {te ts:TE} {pos p2:Pos}
def Hz (K:FR) (te ts:TE):TE:=fun σ H Q=>te σ H fun x H1=>ts σ H1 fun y H2=>y=.int (-1)∧∃a xs,x=.ref a∧((SqL K H2 a xs∧∀p,H2 p=none->Q (.ref p) (upd H2 p (.lst xs.reverse)))∨(SqT K H2 a xs∧∀p,H2 p=none->Q (.ref p) (upd H2 p (.tup xs.reverse))))
theorem DF (he:PE X e te) (hs:PE X st ts):PE X (.Subscript e (.Slice none none (some st) p2) pos) (Hz X.K te ts):=by
 intro pins s σ H Q I h;refine Subscript_ (thn (he pins s σ H _ I h) fun v s1 ⟨x,H1,I1,r1,q1⟩=>?_);refine wpAny_Slice ?_;rw [evalPart_none];refine wpAny_pure (wpAny_pure ?_);rw [evalPart_some];refine thn (hs pins s1 σ H1 _ I1 q1) fun vs s3 ⟨y,H3,I3,r3,ey,a,xs,ex,q3⟩=>?_;subst ey ex;obtain ⟨tk,rfl⟩:=r3;cases r1;have I4:Inv X pins σ H3 {s3 with heap:=s3.heap.push {cls:=.type "slice",data:=.fields #[.none,.none,.int (-1) tk]}}:=I3.kept (t':=s3.toks) fun b ob q=>Heap.get?_push_of_some _ q;show wpAny (model X.prog X.w) X.A (subscriptTail e (.Slice none none (some st) p2) (.ref a) (.ref s3.heap.objs.size)) (EP X pins σ Q) X.xe {s3 with heap:=s3.heap.push {cls:=.type "slice",data:=.fields #[.none,.none,.int (-1) tk]}};rcases q3 with ⟨hx,q3⟩ | ⟨hx,q3⟩
 ·obtain ⟨its,r,ht,hz⟩:=I4.list hx;refine tail_any (ops:=[.ref a,.ref s3.heap.objs.size]) (T:="list") ht.isList.typeIs slot_list_getitem.lookup ?_ (by with_unfolding_all rfl);refine wpAny_getItem_list_slice ht.isList (Heap.IsSliceOf.new ..) .none .none (.int (-1) tk) (by decide) ?_ (by rw [List.size_toArray,←r.length];exact hz);rw [vJ];refine ⟨.ref _,_,I4.laid (t':=s3.toks) (o:=.lst xs.reverse) (fun b ob q=>Heap.get?_push_of_some _ q) (Nat.le_refl _) ?_,rfl,q3 _ (I4.hok.fresh (Nat.le_refl _))⟩;exact ⟨by rw [List.length_reverse];exact hz,its.reverse,0,pN r,Heap.get?_push_size _ rfl⟩
 ·obtain ⟨its,r,ht,hz⟩:=I4.tuple hx;refine tail_any (ops:=[.ref a,.ref s3.heap.objs.size]) (T:="tuple") ht.typeIs PyProof.Rows.slot_tuple_getitem.lookup ?_ (by with_unfolding_all rfl);refine CJ ht (Heap.IsSliceOf.new ..) ?_ (by rw [←r.length];exact hz);refine ⟨.ref _,_,I4.laid (t':=s3.toks) (o:=.tup xs.reverse) (fun b ob q=>Heap.get?_push_of_some _ q) (Nat.le_refl _) ?_,rfl,q3 _ (I4.hok.fresh (Nat.le_refl _))⟩;exact ⟨by rw [List.length_reverse];exact hz,its.reverse,pN r,se.new _ _⟩
end
end L2
namespace Sm
open PySem L2 PySem.Spec PyProof.Rows
section
variable {X:Cx} {e st:Expr} {ma ms:EM} {pos p2:Pos}
noncomputable def B5 (m s:EM):EM:=fun δ h=>(m δ h).bind fun p=>(s δ p.2).bind fun q=>match q.1 with
 | .int j=>if j=-1 then (ej p.1 q.2).map fun r=>(if rX p.1=true then .lv r.1.reverse else .tup r.1.reverse,q.2) else none
 | _=>none
theorem CW (he:SE X e ma) (hs:SE X st ms):SE X (.Subscript e (.Slice none none (some st) p2) pos) (B5 ma ms):=(DF he hs).imp fun σ H Q ⟨ρ,δ,h,d,h',R,S,ee,k⟩=>by
 obtain ⟨⟨x,h1⟩,e1,e2⟩:=bnd ee;obtain ⟨⟨y,h2⟩,e3,e4⟩:=bnd e2;dsimp only at e3 e4;cases y <;> first | (cases e4;done) | skip
 rename_i j;dsimp only at e4
 by_cases z:j=-1
 ·rw [if_pos z] at e4;subst z;obtain ⟨⟨xs,ws⟩,e5,e6⟩:=mpd e4;cases e6;refine ⟨ρ,δ,h,x,h1,R,S,e1,fun v H1 ⟨ρ1,T1,S1,r1⟩=>⟨ρ1,δ,h1,.int (-1),_,R.mono T1.toCh,S1,e3,fun u H2 ⟨ρ2,T2,S2,r2⟩=>⟨by cases r2;rfl,?_⟩⟩⟩;obtain ⟨a,rfl,⟨vs,q,l⟩,_⟩:=nD S2 (r1.mono T2.toCh) e5;refine ⟨a,vs,rfl,?_⟩;generalize rX x=b at q k;cases q with
  | l q=>exact .inl ⟨q,fun p hp=>k _ _ (dE.step (T1.trans T2) (.lv S2 l.rev hp))⟩
  | t q=>exact .inr ⟨q,fun p hp=>k _ _ (dE.step (T1.trans T2) (.tup S2 l.rev hp))⟩
 ·rw [if_neg z] at e4;cases e4
end
end Sm
namespace L2
open PySem PySem.Spec PyProof.Rows
open HT in
theorem Ck {t b:Addr} {vs ws:List Value} {Q:Value->Shared->Prop} (ht:IsTup s.heap t vs.toArray) (hb:IsTup s.heap b ws.toArray) (hv:vs=[]) (h:Q (.ref b) s):wpAny (model prog w) A (binaryOp .Add (.ref t) (.ref b)) Q E s:=by
 obtain ⟨⟨cls,dd,data,sl⟩,ho,hc,n,hd⟩:=id ht;obtain ⟨⟨cls2,dd2,data2,sl2⟩,ho2,hc2,n2,hd2⟩:=id hb;simp only at hc hd hc2 hd2;subst hc hd hc2 hd2;exact concat_meets ⟨_,ho,rfl⟩ ⟨_,ho2,rfl⟩ noFill_tuple_add seq_tuple_add PySem.F.slot_tuple_add PySem.F.entry_tuple_add (PySem.F.args_tuple_add_2 _ _)
   (tuple_addW0 t b vs.toArray ws.toArray n n2 dd dd2 sl sl2 (by simp [hv])) ⟨ho,ho2,h⟩
theorem Bv:OpR X (binaryOp .Add) (fun x y H Q=>∃a b ys,x=.ref a∧y=.ref b∧SqT X.K H a []∧SqT X.K H b ys∧Q (.ref b) H):=by
 intro pins s σ H x y v u Q I rx ry h;obtain ⟨a,b,ys,rfl,rfl,ha,hb,q⟩:=h;cases rx;cases ry;obtain ⟨its,r1,p1,_⟩:=I.tuple ha;obtain ⟨its2,r2,p2,_⟩:=I.tuple hb;exact Ck p1 p2 (r1.pI.mpr rfl) ⟨.ref b,H,I,rfl,q⟩
end L2
namespace Sm
open PySem L2 PySem.Spec PyProof.Rows
noncomputable def aS (d e:D) (h:MH):Option (D×MH):=match d,e with
 | .tup [],.tup ys=>some (.tup ys,h)
 | d,e=>zQ d e h
theorem aC:OpS X (binaryOp .Add) aS:=by
 intro pins s σ H x y v u Q I rx ry hh;obtain ⟨ρ,h,d,e,z,h',S,rd,re,ee,k⟩:=hh;unfold aS at ee
 split at ee
 ·cases ee;have re0:=re;cases rd with | tup h1 l1=>cases re with | tup h2 l2=>
  cases l1;exact Bv pins s σ H _ _ v u Q I rx ry ⟨_,_,_,rfl,rfl,h1.sq,h2.sq,k _ _ (.here S re0)⟩
 ·exact Ga pins s σ H _ _ v u Q I rx ry ⟨ρ,h,_,_,z,h',S,rd,re,ee,k⟩
noncomputable def BV:Fn:=fun ds h=>match ds with
 | [.int i,.int j]=>some (.int (if j < i then j else i),h)
 | _=>none
noncomputable def uI:Fn:=fun ds h=>match ds with
 | [.int i,.int j]=>some (.int (if j > i then j else i),h)
 | _=>none
theorem G3 (hc:X.calm=true):eZ X (.builtin "min") BV:=by
 intro pins s σ H xs us Q I r hh;obtain ⟨ρ,h,ds,z,h',S,l,ee,k⟩:=hh
 match ds,l,ee with
 | [],_,ee=>cases ee
 | [_],_,ee=>exact absurd ee (by unfold BV;split <;> simp_all)
 | _::_::_::_,_,ee=>exact absurd ee (by unfold BV;split <;> simp_all)
 | [d,e],l,ee=>
  obtain ⟨v,w,rfl,rd,re⟩:=rep2 l;cases rd <;> first | (cases ee;done) | skip
  cases re <;> first | (cases ee;done) | skip
  cases ee;exact z5 hc pins s σ H _ us Q I r ⟨_,_,rfl,k _ _ (.here S (.int _))⟩
theorem qL (hc:X.calm=true):eZ X (.builtin "max") uI:=by
 intro pins s σ H xs us Q I r hh;obtain ⟨ρ,h,ds,z,h',S,l,ee,k⟩:=hh
 match ds,l,ee with
 | [],_,ee=>cases ee
 | [_],_,ee=>exact absurd ee (by unfold uI;split <;> simp_all)
 | _::_::_::_,_,ee=>exact absurd ee (by unfold uI;split <;> simp_all)
 | [d,e],l,ee=>
  obtain ⟨v,w,rfl,rd,re⟩:=rep2 l;cases rd <;> first | (cases ee;done) | skip
  cases re <;> first | (cases ee;done) | skip
  cases ee;exact z6 hc pins s σ H _ us Q I r ⟨_,_,rfl,k _ _ (.here S (.int _))⟩
noncomputable def Iz:MFn:=fun d ds h=>(dw d h).bind fun kvs=>match ds with
 | [k]=>(mH k).map fun key=>((gZ kvs key).getD .non,h)
 | [k,x]=>(mH k).map fun key=>((gZ kvs key).getD x,h)
 | _=>none
theorem Gu (hu:X.A.units+1 < cLine):MtR X "dict.get" (rM X.K Iz):=by
 intro pins s σ H x xs v us Q I rx rs hh;obtain ⟨ρ,h,d,ds,z,h',S,rd,l,ee,k⟩:=hh;obtain ⟨kvs,e1,e2⟩:=bnd ee;obtain ⟨a,ws,rfl,ha,lk⟩:=gM S rd e1;obtain rfl:v=Value.ref a:=rx
 match ds,l,e2 with
 | [],_,e2=>cases e2
 | [y],l,e2=>
  obtain ⟨key,e3,e4⟩:=mpd e2;cases e4;obtain ⟨yv,rfl,ry⟩:=rep1 l;obtain ⟨u,rfl,ru⟩:=Vals.one rs;have hy:=fY ry e3;subst hy;refine G1 hu I (nq.k ha) ru fun w' s' I' r'=>⟨_,H,I',r',k _ _ ?_⟩;rcases lk.val key with ⟨q1,q2⟩ | ⟨d',v',q1,q2,q3⟩
  ·rw [q1,q2];exact .here S .non
  ·rw [q1,q2];exact .here S q3
 | [y,x0],l,e2=>
  obtain ⟨key,e3,e4⟩:=mpd e2;cases e4;obtain ⟨yv,xv,rfl,ry,rx0⟩:=rep2 l;obtain ⟨u,u2,rfl,ru,ru2⟩:=Vals.two rs;have hy:=fY ry e3;subst hy;refine G0 hu I (nq.k ha) ru ru2 fun w' s' I' r'=>⟨_,H,I',r',k _ _ ?_⟩;rcases lk.val key with ⟨q1,q2⟩ | ⟨d',v',q1,q2,q3⟩
  ·rw [q1,q2];exact .here S rx0
  ·rw [q1,q2];exact .here S q3
 | _::_::_::_,_,e2=>exact absurd e2 (by simp)
end Sm
namespace L2
open PySem PySem.Spec PyProof.Rows
section
variable {X:Cx} {a b:Expr} {rest:List Expr} {pos:Pos} {ta tb:TE}
end
end L2
namespace Sm
open PySem L2 PySem.Spec PyProof.Rows
section
variable {X:Cx} {a b:Expr} {pos:Pos} {ma mb:EM}
end
end Sm
namespace L2
open PySem PySem.Spec PyProof.Rows
end L2
namespace Sm
open PySem L2 PySem.Spec PyProof.Rows
theorem G9:bootBuiltins "min"=some (.builtin "min"):=by decide+kernel
theorem qT:bootBuiltins "max"=some (.builtin "max"):=by decide+kernel
section
variable {X:Cx} {g:GM} {mt:TM} {ma:EM}
end
end Sm
namespace L2
open PySem PySem.Spec PyProof.Rows
theorem DL:OpR X (compareOp .IsNot) (fun x y H Q=>∃a b,x=.bl a∧y=.bl b∧Q (.bl (!(a==b))) H):=by
 intro pins s σ H x y v u Q I rx ry h;obtain ⟨a,b,rfl,rfl,q⟩:=h;cases rx;cases ry;cases a <;> cases b <;> exact wpAny_pure ⟨.bl _,H,I,(by decide:(_:Value)=_),q⟩
noncomputable def ik:List Int->Int
 | []=>0
 | i::r=>i+ik r
theorem pO:∀{ns:List Int} {us:List Value},Vals (ns.map V.int) us->∃xs:List (Int×Tok),us=xs.map (fun p=>Value.int p.1 p.2)∧xs.map (·.1)=ns
 | [],_,.nil=>⟨[],rfl,rfl⟩
 | n::r,_,.cons q l=>by
  obtain ⟨t,rfl⟩:=q;obtain ⟨xs,rfl,e⟩:=pO l;exact ⟨(n,t)::xs,rfl,by rw [List.map_cons,e]⟩
theorem jH (f:Nat->Int) (ns:List Int) (hf:∀i n,ns[i]?=some n->f i=n):∀k,k≤ns.length->preSum f k=ik (ns.take k)
 | 0,_=>by rw [List.take_zero];rfl
 | k+1,h=>by
  have hk:k < ns.length:=by lia
  have e:ns[k]?=some ns[k]:=List.getElem?_eq_getElem hk;show preSum f k+f k=_;rw [jH f ns hf k (by lia),hf k _ e,List.take_add_one,e];have app:∀(a b:List Int),ik (a++b)=ik a+ik b:=fun a b=>by
   induction a with
   | nil=>show ik b=0+ik b;lia
   | cons x r ih=>show x+ik (r++b)=x+ik r+ik b;rw [ih];lia
  rw [app];show _=_+(ns[k]+0)
  lia
theorem qi:∀(ns:List Int),(∀n∈ns,-(2^40)≤n∧n≤2^40)->-(2^40*(ns.length:Int))≤ik ns∧ik ns≤2^40*(ns.length:Int)
 | [],_=>by simp [ik]
 | n::r,h=>by
  have h1:=h n List.mem_cons_self;have h2:=qi r fun m hm=>h m (List.mem_cons_of_mem _ hm);show -(2^40*(((n::r).length:Nat):Int))≤n+ik r∧n+ik r≤2^40*(((n::r).length:Nat):Int);rw [List.length_cons]
  push_cast
  lia
theorem Cm (hc:X.calm=true):dG X (.builtin "sum") (fun xs H Q=>∃a ns,xs=[.ref a]∧SqL X.K H a (ns.map V.int)∧ns.length≤1000∧(∀n∈ns,-(2^40)≤n∧n≤2^40)∧Q (.int (ik ns)) H):=by
 intro pins s σ H xs us Q I r h;obtain ⟨a,ns,rfl,ha,hl,hb,q⟩:=h;obtain ⟨u,rfl,ru⟩:=vals1 r;cases ru;obtain ⟨its,rv,p,hz⟩:=I.list ha;obtain ⟨ps,rfl,e⟩:=pO rv;have hlen:ps.length=ns.length:=by rw [←e,List.length_map]
 have hnum:∀(i:Nat) n,ns[i]?=some n->numAt ps.toArray i=n:=fun i n hi=>by
  unfold numAt;rw [←e,List.getElem?_map] at hi;rw [List.getElem?_toArray,hi];rfl
 have hI:s.heap.IsList a (intItems ps.toArray):=by
  have:intItems ps.toArray=(ps.map fun p=>Value.int p.1 p.2).toArray:=by unfold intItems;simp
  rw [this];exact p.isList
 refine sum_intList (xs:=ps.toArray) (I.ok.hd hc) hI (fun j hj=>?_) fun h' tk t' k=>⟨.int (ik ns),H,I.kept (t':=tk) k,⟨t',?_⟩,q⟩
 ·have hj:j < ns.length:=by rw [←hlen];simpa using hj
  rw [hnum j _ (List.getElem?_eq_getElem hj),jH _ ns hnum (j+1) (by lia)];have h1:=hb _ (List.getElem_mem hj);have h2:=qi (ns.take (j+1)) fun n hn=>hb n (List.mem_of_mem_take hn);have h3:((ns.take (j+1)).length:Int)≤1000:=by rw [List.length_take];lia
  refine ⟨⟨by lia,by lia⟩,?_,?_⟩ <;> lia
 ·rw [show ps.toArray.size=ns.length by simpa using hlen,jH _ ns hnum _ (Nat.le_refl _),List.take_length]
theorem nz:∀{ss:List Str} {us:List Value},Vals (ss.map V.str) us->StrsAre us ss
 | [],_,.nil=>.nil
 | x::r,_,.cons q l=>by obtain ⟨t,rfl⟩:=q;exact .cons x t (nz l)
theorem x3:dG X (.builtin "sorted") (fun xs H Q=>∃a ss,xs=[.ref a]∧SqL X.K H a (ss.map V.str)∧ss.length < 64∧∀l,H l=none->Q (.ref l) (upd H l (.lst ((cx ss).map V.str)))):=by
 intro pins s σ H xs us Q I r h;obtain ⟨a,ss,rfl,ha,h64,q⟩:=h;obtain ⟨u,rfl,ru⟩:=vals1 r;cases ru;obtain ⟨its,rv,p,hz⟩:=I.list ha;have hS:=nz rv;have hlen:its.length=ss.length:=by have:=rv.length;rw [List.length_map] at this;exact this.symm
 refine sorted_strs p.isList hS (by lia) fun out ss' h1 h2 h3=>?_;have:=vg h2 h3;subst this;have hl:s.heap.objs.size≤s.heap.objs.size+1:=Nat.le_succ _;obtain ⟨e,ho⟩:=sortedAll_at s.heap its out;have hz':((cx ss).map V.str).length≤sizeLine:=by rw [List.length_map,(bV ss).length_eq,sizeLine_eq];lia
 refine ⟨.ref (s.heap.objs.size+1),_,I.laid (t':=s.toks) (o:=.lst ((cx ss).map V.str)) (fun b o q=>sortedAll_old q) hl ⟨hz',out.toList,e,nu h1,?_⟩,rfl,q _ (I.hok.fresh hl)⟩;rw [ho]
end L2
namespace Sm
open PySem L2 PySem.Spec PyProof.Rows
noncomputable def EL (d e:D) (h:MH):Option (D×MH):=match d,e with
 | .bl a,.bl b=>some (.bl (!(a==b)),h)
 | _,_=>none
theorem DK:OpS X (compareOp .IsNot) EL:=by
 intro pins s σ H x y v u Q I rx ry hh;obtain ⟨ρ,h,d,e,z,h',S,rd,re,ee,k⟩:=hh;cases rd <;> first | (cases ee;done) | skip
 cases re <;> first | (cases ee;done) | skip
 cases ee;exact DL pins s σ H _ _ v u Q I rx ry ⟨_,_,rfl,rfl,k _ _ (.here S (.bl _))⟩
noncomputable def mJ:List D->Option (List Int)
 | []=>some []
 | .int i::r=>(mJ r).map fun is=>i::is
 | _=>none
theorem qB:∀{xs:List D} {ns:List Int},mJ xs=some ns->xs=ns.map D.int
 | [],_,e=>by cases e;rfl
 | d::r,ns,e=>by
  cases d <;> first | (cases e;done) | skip
  obtain ⟨is,e1,e2⟩:=mpd (show (mJ r).map _=some ns from e);cases e2;rw [qB e1];rfl
theorem oe:∀(ns:List Int),mJ (ns.map D.int)=some ns
 | []=>rfl
 | n::r=>by show (mJ (r.map D.int)).map _=_;rw [oe r];rfl
theorem ly {K:FR} {ρ:Ad} {H:Hp}:∀{vs:List V} {ns:List Int},RepL K ρ H vs (ns.map D.int)->vs=ns.map V.int
 | _,[],.nil=>rfl
 | _,n::r,.cons q l=>by cases q;rw [ly l];rfl
noncomputable def D9:Fn:=fun ds h=>match ds with
 | [d]=>(gy d h).bind fun xs=>(mJ xs).bind fun ns=>if ns.length≤1000∧(ns.all fun n=>decide (-(2^40)≤n)&&decide (n≤2^40))=true then some (.int (ik ns),h) else none
 | _=>none
theorem Ca (hc:X.calm=true):eZ X (.builtin "sum") D9:=by
 intro pins s σ H xs us Q I r hh;obtain ⟨ρ,h,ds,z,h',S,l,ee,k⟩:=hh
 match ds,l,ee with
 | [],_,ee=>cases ee
 | _::_::_,_,ee=>cases ee
 | [d],l,ee=>
  obtain ⟨v,rfl,rd⟩:=rep1 l;obtain ⟨ys,e1,e2⟩:=bnd ee;obtain ⟨ns,e3,e4⟩:=bnd e2
  by_cases c:ns.length≤1000∧(ns.all fun n=>decide (-(2^40)≤n)&&decide (n≤2^40))=true
  ·rw [if_pos c] at e4;cases e4;obtain ⟨a,vs,rfl,ha,la⟩:=eQ S rd e1;have:=qB e3;subst this;have:=ly la;subst this;refine Cm hc pins s σ H _ us Q I r ⟨a,ns,rfl,SqL.of ha,c.1,fun n hn=>?_,k _ _ (.here S (.int _))⟩;have:=List.all_eq_true.mp c.2 n hn
   simpa using this
  ·rw [if_neg c] at e4;cases e4
noncomputable def kT:List D->Option (List Str)
 | []=>some []
 | .str i::r=>(kT r).map fun is=>i::is
 | _=>none
theorem pT:∀{xs:List D} {ns:List Str},kT xs=some ns->xs=ns.map D.str
 | [],_,e=>by cases e;rfl
 | d::r,ns,e=>by
  cases d <;> first | (cases e;done) | skip
  obtain ⟨is,e1,e2⟩:=mpd (show (kT r).map _=some ns from e);cases e2;rw [pT e1];rfl
theorem kj:∀(ns:List Str),kT (ns.map D.str)=some ns
 | []=>rfl
 | n::r=>by show (kT (r.map D.str)).map _=_;rw [kj r];rfl
theorem lx {K:FR} {ρ:Ad} {H:Hp}:∀{vs:List V} {ns:List Str},RepL K ρ H vs (ns.map D.str)->vs=ns.map V.str∧∀k∈ns,PyData.strOk k=true
 | _,[],.nil=>⟨rfl,fun _ h=>(nomatch h)⟩
 | _,n::r,.cons q l=>by
  cases q with
  | str h=>
   obtain ⟨e,f⟩:=lx l;refine ⟨by rw [e];rfl,fun k hk=>?_⟩;rcases List.mem_cons.mp hk with rfl | hk
   ·exact h
   ·exact f k hk
noncomputable def BS:Fn:=fun ds h=>match ds with
 | [d]=>(gy d h).bind fun xs=>(kT xs).bind fun ns=>if ns.length < 64 then some (.lv ((cx ns).map D.str),h) else none
 | _=>none
theorem Cb:eZ X (.builtin "sorted") BS:=by
 intro pins s σ H xs us Q I r hh;obtain ⟨ρ,h,ds,z,h',S,l,ee,k⟩:=hh
 match ds,l,ee with
 | [],_,ee=>cases ee
 | _::_::_,_,ee=>cases ee
 | [d],l,ee=>
  obtain ⟨v,rfl,rd⟩:=rep1 l;obtain ⟨ys,e1,e2⟩:=bnd ee;obtain ⟨ns,e3,e4⟩:=bnd e2
  by_cases c:ns.length < 64
  ·rw [if_pos c] at e4;cases e4;obtain ⟨a,vs,rfl,ha,la⟩:=eQ S rd e1;have:=pT e3;subst this;obtain ⟨e5,f⟩:=lx la;subst e5;refine x3 pins s σ H _ us Q I r ⟨a,ns,rfl,SqL.of ha,c,fun l hl=>k _ _ (.lv S (nN _ fun x hx=>f x ((bV ns).mem_iff.mp hx)) hl)⟩
  ·rw [if_neg c] at e4;cases e4
section
variable {α:Type} {K:FR} {A:Ac α} {l:Addr} {g:GM} {mt:TM} {m:MK α}
mutual
theorem Rep.calm (hs:∀a,ρ'.has a->ρ.has a):∀{v:V} {d:D},Rep K ρ H v d->clD 0 d=true->Rep K ρ' H v d
 | _,_,.non,_=>.non
 | _,_,.bl b,_=>.bl b
 | _,_,.int i,_=>.int i
 | _,_,.str h,_=>.str h
 | _,_,.ty n,_=>.ty n
 | _,_,.tup h l,c=>.tup (h.elim (fun ⟨a,n⟩=>.inl ⟨a,fun z=>n (hs _ z)⟩) .inr) (RepL.calm hs l (by simpa [clD] using c))
 | _,_,.lv h n l,c=>.lv h (fun z=>n (hs _ z)) (RepL.calm hs l (by simpa [clD] using c))
 | _,_,.ro h l,c=>.ro (h.elim (fun ⟨a,n⟩=>.inl ⟨a,fun z=>n (hs _ z)⟩) .inr) (RepL.calm hs l (by simpa [clD] using c))
 | _,_,.dv h n l,c=>.dv h (fun z=>n (hs _ z)) (RepK.calm hs l (by simpa [clD] using c))
 | _,_,.ob e,c=>by simp [clD] at c
theorem RepL.calm (hs:∀a,ρ'.has a->ρ.has a):∀{vs:List V} {ds:List D},RepL K ρ H vs ds->clL 0 ds=true->RepL K ρ' H vs ds
 | _,_,.nil,_=>.nil
 | _,_,.cons r l,c=>by
  simp [clL] at c;exact .cons (Rep.calm hs r c.1) (RepL.calm hs l c.2)
theorem RepK.calm (hs:∀a,ρ'.has a->ρ.has a):∀{vs:List (Key×V)} {ds:List (Key×D)},RepK K ρ H vs ds->clK 0 ds=true->RepK K ρ' H vs ds
 | _,_,.nil,_=>.nil
 | _,_,.cons r l,c=>by
  simp [clK] at c;exact .cons (Rep.calm hs r c.1) (RepK.calm hs l c.2)
end
end
section
variable {X:Cx} {k v tg iter:Expr} {pos:Pos} {mk mv:EM} {mt:TM} {g:GM} {N':List Str} {caps:List (Option Nat)} {scope:Scope} {ifs:List Expr} {mi:IM}
end
theorem Cs:bootBuiltins "sum"=some (.builtin "sum"):=by decide+kernel
theorem kH:bootBuiltins "sorted"=some (.builtin "sorted"):=by decide+kernel
end Sm
namespace L2
open PySem PySem.Spec PyProof.Rows
theorem rW:typeLookup (.type "tuple") "keys"=pure none:=by rw [typeLookup_type,builtinLookup_eq_fast];kernel_rfl
theorem DP (hx:s.heap.get? a=some {cls:=.type "tuple",dict:=none,data:=.seq xs k,slots:=sl}) (hA:A.handled=none) (h:∀h' tk,(∀b o,s.heap.get? b=some o->h'.get? b=some o)->Q none {s with heap:=h',toks:=tk}):
  wpAny (model prog w) A (getAttr? (.ref a) "keys") Q E s:=by
 obtain ⟨hp,g,d,tk,os⟩:=s;have hT:∀tk',(⟨hp,g,d,tk',os⟩:Shared).TypeIs (.ref a) "tuple":=fun _=>⟨_,hx,rfl⟩;have f1:=sub_AttributeError;have f3:=F.slot_tuple_getattribute.lookup;have f4:=F.slot_tuple_getattribute.bind (.ref a);have f5:=am_tuple_getattr_none;unfold getAttr? getAttrBy? getAttrBy
 repeat (any_goals (first | assumption | exact hT _ | ((with_reducible show wpAny _ _ (call (Value.builtin "tuple.__getattribute__") _ _) _ _ _);refine call_meets F.slot_tuple_getattribute (hT _) am_entry_tuple_getattribute (F.args_tuple_getattribute_2 _ _) (meets_getattribute_miss_tuple a xs k sl "keys" _ rW (by decide+kernel) (by decide)) ⟨hx,hA,fun h' tk' e hx'=>?_⟩) | wp_step))
 obtain ⟨t',u',he⟩:=hx'.there;have hE:∀tk',(⟨h',g,d,tk',os⟩:Shared).TypeIs (.ref e) "AttributeError":=fun _=>⟨_,he,rfl⟩;show wpAny _ _ (getattributeRaised _ _ _ _ _ _ _) _ _ _;unfold getattributeRaised
 repeat (any_goals (first | assumption | exact hE _ | wp_step))
 exact h _ _ hx'.keeps
theorem SqT.off {K:FR} {H:Hp} {a d:Addr} {ys:List V} {o:HO} (h:SqT K H a ys) (hd:H d=none):SqT K (upd H d o) a ys:=by
 rcases h with h | h
 ·rcases h with h | ⟨u,h⟩
  ·exact .inl (.inl (by rw [aB (aO h hd)];exact h))
  ·exact .inl (.inr ⟨u,by rw [aB (aO h hd)];exact h⟩)
 ·exact .inr h
theorem xT {A:Around} {pins:List (Addr×Obj)} {σ:St} {H:Hp} {p d it:Addr} {ys:List V} {kvs:List (Key×V)} {R:Result->Shared->Prop} (hA:A.handled=none) (hp:SqT X.K H p ys) (hr:nj X.K H ys kvs) (hl:ys.length≤1000000) (hd:H d=none)
  (hit:it≠X.env.locals∧(it∈X.ex∨X.s₀.heap.objs.size≤it)∧(∀x c,X.env.cells.lookup x=some c->c≠it)∧∀q∈X.pn++pins,q.1≠it) (hin:H it=none) (hid:it≠d)
  (h:∀s',Inv X pins σ (upd H d (.dK (aX [] kvs))) s'->R (.ok (.ret .none)) s'):∀(n i:Nat) (s:Shared),kvs.length-i=n->i≤kvs.length->s.heap.IsTupleIter it p i->Inv X pins σ (upd H d (.dK (aX [] (kvs.take i)))) s->
   codeAny (model X.prog X.w) A (.builtin "dict.update.loop" ⟨[.ref d,.ref it,rawInt i,.none],[]⟩) R s:=by
 have hlen:=Paired.length hr;have hsz:sizeLine≥1000001:=by decide
 intro n
 induction n with
 | zero=>
  intro i s hn hi st I;have ei:i=kvs.length:=by lia
  refine codeAny_builtin dJ ?_;rw [Around.under_plainId bG _];obtain ⟨its,rv,pl,hz⟩:=I.tuple (hp.off (o:=.dK (aX [] (kvs.take i))) hd);have hl':=rv.length;show wpAny _ _ (pyNext (.ref it) >>=_) _ _ s;refine wpAny_bind (wpAny_pyNext_tuple_end hA st (show s.heap.IsTuple p its.toArray from pl) (by simp;lia) fun h' eb=>?_);show wpAny _ _ (Builtin.Dict.addKeywords d [] >>=fun _=>ret .none) _ _ _;have I':=I.turned (t':=s.toks) (h':=h') (it:=it) (fun b o hb e=>eb b o hb e) (by rw [aB hid];exact hin) hit.1 hit.2.1 hit.2.2.1 hit.2.2.2;refine wpAny_bind (wpAny_pure (wpAny_pure ?_));rw [ei,List.take_length] at I';exact h _ I'
 | succ n ih=>
  intro i s hn hi st I;have hi':i < kvs.length:=by lia
  refine codeAny_builtin dJ ?_;rw [Around.under_plainId bG _];obtain ⟨its,rv,pl,hz⟩:=I.tuple (hp.off (o:=.dK (aX [] (kvs.take i))) hd);have hyi:ys[i]?=some (ys[i]'(by lia)):=List.getElem?_eq_getElem _;generalize ys[i]'(by lia)=y at hyi;obtain ⟨u,hu,ru⟩:=rv.get hyi;obtain ⟨kv,hk,a,ea,hta⟩:=Paired.at hr hyi;subst ea;cases (show u=Value.ref a from ru);show wpAny _ _ (pyNext (.ref it) >>=_) _ _ s;refine wpAny_bind (wpAny_pyNext_tuple_item st (show s.heap.IsTuple p its.toArray from pl) (x:=.ref a) (by simpa using hu) fun h' st' sb=>?_);have I':=I.turned (t':=s.toks) (h':=h') (it:=it) (fun b o hb e=>(sb.2 b hb).trans e) (by rw [aB hid];exact hin) hit.1 hit.2.1 hit.2.2.1 hit.2.2.2;have hta':SqT X.K (upd H d (.dK (aX [] (kvs.take i)))) a [kV kv.1,kv.2]:=hta.off hd;obtain ⟨its2,rv2,pt,hz2⟩:=I'.tuple hta';obtain ⟨ku,vu,rfl,rk,rw2⟩:=vals2 rv2;obtain ⟨ot,ht1,ht2,nt,ht3⟩:=id pt;dsimp only;refine wpAny_bind (wpAny_holding ?_);refine wpAny_bind (wpAny_tryCatch ?_);unfold Builtin.Dict.pairItems;refine wpAny_bind (wpAny_typeOf pt.typeIs ?_);rw [if_pos (by decide)];refine wpAny_bind (wpAny_seqItems ht1 ht3 (wpAny_pure ?_));show wpAny _ _ (holding [ku,vu] (dictSet d ku vu)) _ _ _;refine wpAny_holding ?_;have ed:upd H d (.dK (aX [] (kvs.take i))) d=some (.dK (aX [] (kvs.take i))):=aY;obtain ⟨z,hdm,vs,rel,dd⟩:=qJ I'.hok ed;have hz3:vs.length≤sizeLine:=by rw [←rel.length];exact z
  unfold dictSet;refine wpAny_holding (wpAny_bind ((aZ X.prog X.w).pyHash (gu rk) ?_));refine wpAny_dictSetHashed_pairs (hsz:=hz3) (gu rk) dd fun h2 dd' hs=>?_;have he:∃q,h2.get? d=some q:=let ⟨q,_,_,hq,_⟩:=dd';⟨q,hq⟩;have e2:putK (aX [] (kvs.take i)) kv.1 kv.2=aX [] (kvs.take (i+1)):=by
   rw [List.take_succ,hk,←oG];rfl
  have hl2:(putK (aX [] (kvs.take i)) kv.1 kv.2).length≤sizeLine:=by
   rw [e2];have:=fB (kvs.take (i+1)) [];rw [List.length_take] at this;simp only [List.length_nil] at this
   lia
  have I2:=kG (t':=s.toks+1) I' (by rw [ed];exact True.intro) hs he (oo (H':=upd (upd H d (.dK (aX [] (kvs.take i)))) d (.dK (putK (aX [] (kvs.take i)) kv.1 kv.2))) hl2 hdm (rel.put kv.1 rw2) dd');rw [yg,e2] at I2;have hc:((i:Int)+1)=((i+1:Nat):Int):=by push_cast;rfl
  rw [hc];refine wpAny_pure ⟨plainId_quiet bG _,ih (i+1) _ (by lia) (by lia) ?_ I2⟩;obtain ⟨oi,e1,e2,e3⟩:=st';exact ⟨oi,hs.extBut _ _ hid e1,e2,e3⟩
theorem pj (hc:X.calm=true):dG X (.type "dict") (fun xs H Q=>∃p ys kvs,xs=[.ref p]∧SqT X.K H p ys∧nj X.K H ys kvs∧ys.length≤1000000∧∀q,H q=none->Q (.ref q) (upd H q (.dK (aX [] kvs)))):=by
 intro pins s σ H xs us Q I r h;obtain ⟨p,ys,kvs,rfl,hp,hr,hl,q⟩:=h;obtain ⟨u,rfl,ru⟩:=vals1 r;cases (show u=Value.ref p from ru);refine callType_codes (Q₁:=fun obj s₁=>obj=.ref s.heap.objs.size∧s₁={s with heap:=s.heap.push {cls:=.type "dict",data:=.dict #[]}}) F.kt_called_dict (F.kt_typeCall_dict_1 _) F.entry_dict_init (kt_code_dict_new _ ⟨rfl,rfl⟩) ?_;rintro obj s₁ ⟨rfl,rfl⟩;have hd:H s.heap.objs.size=none:=I.fresh;have hnew:(s.heap.push {cls:=.type "dict",data:=.dict #[]}).DictOf (aZ X.prog X.w) s.heap.objs.size []:=Heap.DictOf.new s.heap;have I1:Inv X pins σ (upd H s.heap.objs.size (.dK [])) {s with heap:=s.heap.push {cls:=.type "dict",data:=.dict #[]}}:=I.laid (t':=s.toks) (fun _ _ q=>Heap.get?_push_of_some _ q) (Nat.le_refl _) (j7 s.heap I.big);refine ⟨hnew.typeIs,F.args_dict_init_2 _ _,?_⟩;obtain ⟨its,rv,⟨⟨cl,dc,da,sl⟩,hx,hcl,⟨n,hdt⟩,hdc⟩,hz⟩:=I1.E1 (hp.off (o:=.dK []) hd);dsimp only at hcl hdt hdc;subst hcl hdt hdc;have hA:X.A.handled=none:=I.ok.hd hc;unfold Builtin.«dict.__init__»;refine wpAny_bind ?_;unfold Builtin.Dict.selfAndRest;refine wpAny_bind (wpAny_notOrdered_dict hnew.typeIs ?_);show wpAny _ _ (pure (s.heap.objs.size,[Value.ref p])) _ _ _;refine wpAny_pure ?_;show wpAny _ _ (Builtin.Dict.updateFrom "dict.__init__" s.heap.objs.size (.ref p) [] .none) _ _ _;unfold Builtin.Dict.updateFrom;refine wpAny_bind (wpAny_typeOf (T:="tuple") ⟨_,hx,rfl⟩ ?_);rw [if_pos (by decide)];refine wpAny_bind (DP hx (by exact hA) fun h2 tk keep=>?_);have I2:=I1.kept (t':=tk) keep;have hx2:=keep _ _ hx;have hil:h2.IsTuple p its.toArray:=⟨_,hx2,rfl,_,rfl⟩;simp only [Option.isNone_none,if_true];refine wpAny_bind (wpAny_rule (wpAny_bind (wpAny_pyIter_tuple hil ?_)));have I3:Inv X pins σ (upd H s.heap.objs.size (.dK [])) {s with heap:=h2.push {cls:=.type "tuple_iterator",data:=.fields #[.ref p,.int 0 0]},toks:=tk}:=I2.kept (t':=tk) fun b o e=>Heap.get?_push_of_some _ e;have hfp:=I2.uE (b:=h2.objs.size) (H':=upd H s.heap.objs.size (.dK [])) (Nat.le_refl _) (I2.hok.fresh (Nat.le_refl _));obtain ⟨f0,f1,f2,f3,f4,f5⟩:=hfp;have hne:h2.objs.size≠s.heap.objs.size:=by
  intro z;rw [z,aY] at f0;cases f0
 have hin:H h2.objs.size=none:=by rw [aB hne] at f0;exact f0
 refine wpAny_pure ⟨plainId_quiet bG _,?_⟩;exact xT (X:=X) (σ:=σ) (H:=H) (kvs:=kvs) (by exact hA) hp hr hl hd ⟨f1,f3,f4,f5⟩ hin hne (fun s' I'=>⟨rfl,⟨.ref _,_,I',rfl,q _ hd⟩⟩) kvs.length 0 _ (by lia) (Nat.zero_le _) ⟨_,Heap.get?_push_size _ rfl,rfl,rfl⟩ I3
end L2
namespace Sm
open PySem L2 PySem.Spec PyProof.Rows
noncomputable def uJ:Fn:=fun ds h=>match ds with
 | [.tup xs]=>(jI xs).bind fun ps=>if xs.length≤1000000 then some (.dv (dr [] ps),h) else none
 | ds=>xP ds h
theorem Ce (hc:X.calm=true):eZ X (.type "dict") uJ:=by
 intro pins s σ H xs us Q I r hh;obtain ⟨ρ,h,ds,z,h',S,l,ee,k⟩:=hh;unfold uJ at ee
 split at ee
 ·rename_i ys;obtain ⟨ps,e3,e4⟩:=bnd ee
  by_cases c:ys.length≤1000000
  ·rw [if_pos c] at e4;cases e4;obtain ⟨v,rfl,rd⟩:=rep1 l;cases rd with
   | tup ht l2=>
    obtain ⟨kvs,p1,p2⟩:=qj l2 e3;exact pj hc pins s σ H _ us Q I r ⟨_,_,kvs,rfl,ht.sq,p1,by rw [l2.length];exact c,fun q hq=>k _ _ (.dv S (RepK.merge .nil p2) hq)⟩
  ·rw [if_neg c] at e4;cases e4
 ·exact Cf hc pins s σ H _ us Q I r ⟨ρ,h,_,z,h',S,l,ee,k⟩
end Sm
namespace L2
open PySem PySem.Spec PyProof.Rows
end L2
namespace Sm
open PySem L2 PySem.Spec PyProof.Rows
noncomputable def Eg (d e:D) (h:MH):Option (D×MH):=match d,e with
 | .tup xs,.tup []=>some (.bl xs.isEmpty,h)
 | _,_=>none
theorem vw {K:FR} {ρ:Ad} {H:Hp}:∀{vs:List V} {ds:List D},RepL K ρ H vs ds->vs.length=ds.length
 | _,_,.nil=>rfl
 | _,_,.cons _ l=>by rw [List.length_cons,List.length_cons,vw l]
theorem GY (hu:X.A.units+64 < cLine) (I:L2.Inv X pins σ H s) (rx:L2.RelV x v) (ry:L2.RelV y u) (rd:Rep X.K ρ H x (.tup xs)) (re:Rep X.K ρ H y (.tup [])):
  (∀Q:Value->Shared->Prop,Q (.bool xs.isEmpty) s->wpAny (model X.prog X.w) X.A (compareOp .Eq v u) Q X.xe s)∧∀Q:Value->Shared->Prop,Q (.bool (!xs.isEmpty)) s->wpAny (model X.prog X.w) X.A (compareOp .NotEq v u) Q X.xe s:=by
 cases rd with
 | @tup a vs _ h0 l0=>
  cases re with
  | @tup b ws _ h1 l1=>
   cases rx;cases ry;obtain ⟨its,rv,p,_⟩:=I.tuple h0.sq;obtain ⟨jts,rw',q,_⟩:=I.tuple h1.sq;have n1:its.length=xs.length:=by rw [←vw l0];exact rv.length.symm
   have n2:jts=[]:=by
    cases l1;exact List.length_eq_zero_iff.mp (by have:=rw'.length;simpa using this.symm)
   subst n2;have hb:((List.range (min its.toArray.size ([]:List Value).toArray.size)).all (fun _=>true)&&its.toArray.size==([]:List Value).toArray.size)=xs.isEmpty:=by
    cases xs with
    | nil=>
     have:=List.length_eq_zero_iff.mp n1;subst this;rfl
    | cons x r=>
     rw [List.size_toArray,n1];simp
   have hlt:X.A.units < cLine:=by lia
   refine ⟨fun Q z=>PySem.SeqAt.eq_tupleAt (e:=fun _=>true) p q hlt (fun j _ h2=>absurd h2 (by simp)) (by rw [hb];exact z),fun Q z=>PySem.SeqAt.RcNeAt.tuples (e:=fun _=>true) p q hlt (fun j _ h2=>absurd h2 (by simp)) _ _ _ Q (by rw [hb];exact z)⟩
theorem Bt (hu:X.A.units+64 < cLine):OpS X (compareOp .Eq) Eg:=by
 intro pins s σ H x y v u Q I rx ry hh;obtain ⟨ρ,h,d,e,z,h',S,rd,re,ee,k⟩:=hh;unfold Eg at ee
 split at ee
 ·cases ee;exact (GY hu I rx ry rd re).1 _ ⟨.bl _,H,I,rfl,k _ _ (.here S (.bl _))⟩
 ·cases ee
end Sm
namespace Hd
open PySem PySem.W PySem.Spec PyProof.Rows L2 Sm
noncomputable def D1 (_:Obj):Bool:=true
noncomputable def kAt (h:Heap) (a:Addr):Option (Addr×Obj):=match h.get? a with
 | some o=>if D1 o then some (a,o) else none
 | none=>none
noncomputable def bq (h:Heap):Frag:=(List.range h.objs.size).filterMap (kAt h)
theorem oa (h:Heap) (a:Addr):∀l:List Addr,(l.filterMap (kAt h)).lookup a=if a∈l then (kAt h a).map (·.2) else none
 | []=>rfl
 | b::r=>by
  have ih:=oa h a r
  by_cases hb:a=b
  ·subst hb;rw [if_pos List.mem_cons_self];rw [List.filterMap_cons];cases e:kAt h a with
   | none=>
    dsimp only;rw [ih,e]
    split <;> rfl
   | some p=>
    have hp:p.1=a:=by
     unfold kAt at e
     split at e
     ·split at e
      ·cases e;rfl
      ·cases e
     ·cases e
    obtain ⟨p1,p2⟩:=p;dsimp only at hp;subst hp;simp
  ·have hm:(a∈b::r)↔a∈r:=by simp [hb]
   rw [List.filterMap_cons];cases e:kAt h b with
   | none=>dsimp only;rw [ih];simp only [hm]
   | some p=>
    have hp:p.1=b:=by
     unfold kAt at e
     split at e
     ·split at e
      ·cases e;rfl
      ·cases e
     ·cases e
    obtain ⟨p1,p2⟩:=p;dsimp only at hp;subst hp;have hab:(a==p1)=false:=by simpa using hb
    rw [List.lookup_cons,hab];dsimp only;rw [ih];simp only [hm]
theorem kB (e:h.get? a=some o) (f:D1 o=true):(bq h).lookup a=some o:=by
 unfold bq;rw [oa,if_pos]
 ·unfold kAt;rw [e];dsimp only;rw [if_pos f];rfl
 ·rw [List.mem_range];exact Heap.lt_size e
theorem DZ (h:Heap):(bq h).In h:=fun a o e=>by
 unfold bq at e;rw [oa] at e
 split at e
 ·unfold kAt at e;cases g:h.get? a with
  | none=>rw [g] at e;cases e
  | some o'=>
   rw [g] at e;dsimp only at e
   split at e
   ·cases e;rfl
   ·cases e
 ·cases e
noncomputable def posOf (s:Stmt):Pos:=match s with
 | .FunctionDef _ _ _ _ _ _ _ _ _ p=>p
 | _=>⟨0,0,0,0⟩
noncomputable def su (n:Str) (s:Stmt):DefRec:=⟨n,mT s,i8 s,aw s,posOf s⟩
theorem Ek (r:h.CodeRec cd q):codeIn (bq h) cd q=true:=by
 obtain ⟨c,o,vs,t,rfl,g,d,e⟩:=r;have f:D1 o=true:=rfl;unfold codeIn;dsimp only;rw [kB g f];obtain ⟨oc,od,dt,sl⟩:=o;dsimp only at d;subst d;dsimp only;obtain ⟨l⟩:=vs
 match l,e with
 | x::.str n _::r,e=>cases e;simp
theorem sP {q:Program} {loose:List Str} {mean:ExcName->Option Value} {mg mb:Str->Option Value} {h:Heap} (T:Top q loose mean mg mb h) {n:Str} {st:Stmt} (e:(recsOf q).find? (fun e=>e.name==n)=some (su n st)):
  ∃f fd,mg n=some (.ref f)∧Fun (bq h) n n st f fd:=by
 have hm:su n st∈recsOf q:=List.mem_of_find?_eq_some e;obtain ⟨a,o,pm,code,doc,m,g,d,c⟩:=T.fn _ hm;have f:D1 o=true:=rfl;have lk:=kB g f;have kp:keepIn (bq h) (.ref a)=true:=by
  unfold keepIn;dsimp only;rw [lk];obtain ⟨oc,od,dt,sl⟩:=o;dsimp only at d;subst d;rfl
 obtain ⟨oc,od,dt,sl⟩:=o;dsimp only at d;subst d;exact ⟨a,_,m,⟨oc,od,.none,doc,pm,_,code,_,sl,rfl,lk,Ek c⟩,kp⟩
theorem _root_.L2.Fun.one {K:Frag} {x qual:Str} {st:Stmt} {f:Addr} {fd:FuncData} {p:Str} (F:Fun K x qual st f fd)
  (h:∀(kV doc pm:Value) (an:Option Addr) (cdv ct:Value) (u:Value),bindArgs (PySem.W.fnOf x qual (mT st) (i8 st) (aw st) .none kV doc pm an cdv ct) ⟨[u],[]⟩=pure [(p,u)]) (s:Shared) (u:Value):BindsTo s fd ⟨[u],[]⟩ [(p,u)]:=by
 obtain ⟨oc,od,kV,doc,pm,an,cdv,ct,osl,rfl,lk,hcd⟩:=F.ex;exact .of_eq (h kV doc pm an cdv ct u)
theorem GS {l:OpenLaw} {q:Program} {loose:List Str} {XP:(Str->Option Value)->Heap->Prop} {YP:World->Heap->Prop} {d:DefRec} {k:Nat} (hn:l.most=some 63) (hdf:d.params.defaults=[]) (hr:Room k callerA)
  (F:∀(w:World) (s₀:Shared) (mg mb:Str->Option Value) (h:Heap),Ground q loose [] XP w s₀ mg mb h->YP w h->∃(fa:Addr) (fd:FuncData),mg d.name=some (.ref fa)∧(∀(s:Shared) (u:Value),BindsTo s fd ⟨[u],[]⟩ [("_law_script",u)])∧
   ∀base:Heap,(bq h).In base->base.Ns mainGlobals mg->FnOk l.prog w (bq h) mg base CX0 k fa fd ["_law_script"] (spT (bq h))):
  WalkO q loose XP YP l.row.toRowW d [] (fun f vs=>PySem.call f vs):=by
 refine Att.wD hn hdf fun w s₀ s₁ mg mb fa o pm cd doc a vs ns G Y ho hd hcd hmg hobj hints hlen hg=>?_;obtain ⟨fa',fd,e,hb,hF⟩:=F w s₀ mg mb _ G Y;rw [e] at hmg;cases hmg;exact BG (DZ _) G.T.g G.T.b G.T.builtins G.T.nolimit hg hobj hints (Nat.le_trans hlen (by decide)) hr hF hb (fun H hO hS=>⟨a,ns,rfl,hS,hlen,fun _=>rfl⟩) fun _ _ _ z=>z
noncomputable def freeOk (q:Program) (loose xs:List Str):Bool:=xs.all fun x=>!startupNames.contains x&&!(looseW q loose).contains x&&!((recsOf q).map (·.name)).contains x&&!((litsOf q).map (·.1)).contains x&&!((clssOf q (looseW q loose)).map (·.name)).contains x
theorem cA (T:Top q (looseW q loose) mean mg mb h) (e:freeOk q loose xs=true) (hx:x∈xs):mg x=none:=by
 have:=List.all_eq_true.mp e x hx;simp only [Bool.and_eq_true,Bool.not_eq_true',List.contains_eq_mem,decide_eq_false_iff_not] at this;exact T.free x this.1.1.1.1 this.1.1.1.2 this.1.1.2 this.1.2 this.2
end Hd
namespace Sm
open PySem L2
noncomputable def kDl (f:Expr->Option D):List Expr->Option (List D)
 | []=>some []
 | e::es=>(f e).bind fun d=>(kDl f es).bind fun ds=>some (d::ds)
noncomputable def kD:Nat->Expr->Option D
 | 0,_=>none
 | n+1,e=>match e with
  | .Constant .none _ _=>some .non
  | .Constant (.bool b) _ _=>some (.bl b)
  | .Constant (.int i) _ _=>some (.int i)
  | .Constant (.str x) _ _=>if PyData.strOk x then some (.str x) else none
  | .UnaryOp .USub (.Constant (.int i) _ _) _=>some (.int (-i))
  | .Tuple es _ _=>(kDl (kD n) es).bind fun ds=>if ds.length≤1000 then some (.tup ds) else none
  | .List es _=>(kDl (kD n) es).bind fun ds=>if ds.length≤1000 then some (.lv ds) else none
  | .Dict [] [] _=>some (.dv [])
  | _=>none
noncomputable def aK (ds:List D):AM:=fun _ h=>some (ds,h)
theorem IL (ds:List D):oz (aK ds) ds.length:=fun δ h xs h' e=>by cases e;rfl
section
variable {X:Cx}
theorem Ay (h:kD n e=some d) (es:List Expr):starEach (e::es) X.env=(false,eval e X.env)::starEach es X.env:=by
 cases n with
 | zero=>cases h
 | succ n=>cases e <;> first | rfl | (exfalso;exact (nomatch h))
theorem tT (hf:∀{e:Expr} {d:D},f e=some d->SE X e (eK d)) (hs:∀{e:Expr} {d:D},f e=some d->∀es:List Expr,starEach (e::es) X.env=(false,eval e X.env)::starEach es X.env):
  ∀{es:List Expr} {ds:List D},kDl f es=some ds->SA X es (aK ds)
 | [],ds,h=>by cases h;exact af
 | e::es,ds,h=>by
  unfold kDl at h;obtain ⟨d,e1,h⟩:=bnd h;obtain ⟨r,e2,h⟩:=bnd h;cases h;exact (aa (hf e1) (tT hf hs e2) (hs e1 es):SA X _ (ab (eK d) (aK r)))
theorem cW:∀(n:Nat) {e:Expr} {d:D},kD n e=some d->SE X e (eK d)
 | 0,_,_,h=>by cases h
 | n+1,e,d,h=>by
  unfold kD at h
  split at h
  ·cases h;exact g0
  ·cases h;exact br
  ·cases h;exact ag
  ·split at h
   ·rename_i hs;cases h;exact aq hs
   ·cases h
  ·cases h;exact (oA ji ag:SE X _ (eUn pQ (eK _)))
  ·obtain ⟨ds,e1,e2⟩:=bnd h
   split at e2
   ·rename_i hl;cases e2;exact (aL (tT (cW n) Ay e1) (IL ds) (Nat.le_trans hl (by decide)):SE X _ (eFn bR (aK ds)))
   ·cases e2
  ·obtain ⟨ds,e1,e2⟩:=bnd h
   split at e2
   ·rename_i hl;cases e2;exact (SFL.lv (cj (tT (cW n) Ay e1) (IL ds) (Nat.le_trans hl (by decide))):SE X _ (eLv (aK ds)))
   ·cases e2
  ·cases h;exact HM
  ·cases h
end
end Sm
namespace L2
open PySem PySem.Spec PyProof.Rows
noncomputable def kU (ns:List Int):List Int:=ns.mergeSort fun a b=>decide (a≤b)
theorem iE (ns:List Int):(kU ns).Perm ns:=List.mergeSort_perm _ _
theorem tK (ns:List Int):(kU ns).Pairwise (·≤·):=by
 have:=List.pairwise_mergeSort (le:=fun a b:Int=>decide (a≤b)) (fun a b c h1 h2=>by simp at h1 h2 ⊢;lia) (fun a b=>by simp;lia) ns;exact this.imp fun h=>by simpa using h
theorem AA (hp:ss.Perm ns) (h:ss.Pairwise (·≤·)):ss=kU ns:=
 List.Perm.eq_of_pairwise (fun a b _ _ h1 h2=>Int.le_antisymm h1 h2) h (tK ns) (hp.trans (iE ns).symm)
theorem x4:dG X (.builtin "sorted") (fun xs H Q=>∃a ss,xs=[.ref a]∧SqL X.K H a (ss.map V.int)∧ss.length < 64∧∀l,H l=none->Q (.ref l) (upd H l (.lst ((kU ss).map V.int)))):=by
 intro pins s σ H xs us Q I r h;obtain ⟨a,ss,rfl,ha,h64,q⟩:=h;obtain ⟨u,rfl,ru⟩:=vals1 r;cases ru;obtain ⟨its,rv,p,hz⟩:=I.list ha;have hS:=intsAre_of rv;have hlen:its.length=ss.length:=by have:=rv.length;rw [List.length_map] at this;exact this.symm
 refine sorted_ints p.isList hS (by lia) fun out ss' h1 h2 h3=>?_;have:=AA h2 h3;subst this;have hl:s.heap.objs.size≤s.heap.objs.size+1:=Nat.le_succ _;obtain ⟨e,ho⟩:=sortedAll_at s.heap its out;have hz':((kU ss).map V.int).length≤sizeLine:=by rw [List.length_map,(iE ss).length_eq,sizeLine_eq];lia
 refine ⟨.ref (s.heap.objs.size+1),_,I.laid (t':=s.toks) (o:=.lst ((kU ss).map V.int)) (fun b o q=>sortedAll_old q) hl ⟨hz',out.toList,e,kh h1,?_⟩,rfl,q _ (I.hok.fresh hl)⟩;rw [ho]
end L2
namespace Sm
open PySem L2 PySem.Spec PyProof.Rows
noncomputable def BU:Fn:=fun ds h=>match ds with
 | [d]=>(gy d h).bind fun xs=>(mJ xs).bind fun ns=>if ns.length < 64 then some (.lv ((kU ns).map D.int),h) else none
 | _=>none
theorem repL_ints' {K:FR} {ρ:Ad} {H:Hp}:∀(ns:List Int),RepL K ρ H (ns.map V.int) (ns.map D.int)
 | []=>.nil
 | n::r=>.cons (.int n) (repL_ints' r)
theorem Cc:eZ X (.builtin "sorted") BU:=by
 intro pins s σ H xs us Q I r hh;obtain ⟨ρ,h,ds,z,h',S,l,ee,k⟩:=hh
 match ds,l,ee with
 | [],_,ee=>cases ee
 | _::_::_,_,ee=>cases ee
 | [d],l,ee=>
  obtain ⟨v,rfl,rd⟩:=rep1 l;obtain ⟨ys,e1,e2⟩:=bnd ee;obtain ⟨ns,e3,e4⟩:=bnd e2
  by_cases c:ns.length < 64
  ·rw [if_pos c] at e4;cases e4;obtain ⟨a,vs,rfl,ha,la⟩:=eQ S rd e1;have:=qB e3;subst this;have:=ly la;subst this;exact x4 pins s σ H _ us Q I r ⟨a,ns,rfl,SqL.of ha,c,fun l hl=>k _ _ (.lv S (repL_ints' _) hl)⟩
  ·rw [if_neg c] at e4;cases e4
noncomputable def xR (m:PrM):EM:=fun δ h=>(m δ h).bind fun p=>if p.1.length≤15 then some (.ob p.2.length,p.2++[.dct (dr [] p.1)]) else none
theorem AI (h:SP X pos keys vals m) (hall:keys.all (·.isSome)=true) (hl:keys.length=vals.length) (h0:keys≠[]) (hp:∀trs,PPs X pos keys vals trs->PE X (.Dict keys vals pos) (Au trs)):SE X (.Dict keys vals pos) (xR m):=by
 obtain ⟨trs,h1,h2⟩:=h;refine (hp trs h1).imp fun σ H Q ⟨ρ,δ,h,d,h',R,S,ee,k⟩ p hpn=>?_;obtain ⟨⟨kvs,ha⟩,e1,e2⟩:=bnd ee;dsimp only at e2
 by_cases z:kvs.length≤15
 ·rw [if_pos z] at e2;cases e2;have Tl:Ch ρ H (ρ.keep p) (upd H p (.dK [])):=Ch.keep hpn;have nl:¬ρ.has p:=S.fresh hpn;refine h2 σ _ _ ⟨ρ.keep p,δ,h,kvs,_,R.mono Tl,S.keep hpn,e1,fun us ρ2 H2 T2 S2 r2=>?_⟩;have hp2:H2 p=some (.dK []):=(T2.res p List.mem_cons_self).trans aY;refine ⟨hp2,us,rfl,by rw [r2.len];exact z,?_⟩;obtain ⟨ob2,rs2⟩:=ρ2;have ers:rs2=p::ρ.rs:=T2.rs;subst ers;have hml:p∈(⟨ob2,p::ρ.rs⟩:Ad).rs:=List.mem_cons_self;have npo:p∉ob2:=(S2.rsv p hml).2;have hne:∀b∈ρ.rs,b≠p:=fun b hb z=>nl (.inr (z ▸ hb));generalize hH3:upd H2 p (.dK (aX [] us))=H3;have at3:∀b,b≠p->H3 b=H2 b:=fun b hb=>by rw [←hH3,aB hb]
  have C23:Ch ⟨ob2,p::ρ.rs⟩ H2 ⟨ob2++[p],ρ.rs⟩ H3:=by
   refine ⟨fun n a e=>?_,fun b o nb eb=>⟨fun z=>?_,?_⟩⟩
   ·show (ob2++[p])[n]?=_;rw [List.getElem?_append_left (List.getElem?_eq_some_iff.mp e).1];exact e
   ·rcases z with z | z
    ·rcases List.mem_append.mp z with z | z
     ·exact nb (.inl z)
     ·exact nb (.inr (by rw [List.mem_singleton.mp z];exact List.mem_cons_self))
    ·exact nb (.inr (List.mem_cons_of_mem _ z))
   ·rw [at3 b (fun z=>nb (.inr (by rw [z];exact List.mem_cons_self)))];exact eb
  refine k _ _ ⟨⟨ob2++[p],ρ.rs⟩,⟨(Tl.trans T2.toCh).trans C23,rfl,fun b hb=>?_⟩,?_,.ob (by show (ob2++[p])[ha.length]?=_;rw [←S2.len];simp)⟩
  ·rw [at3 b (hne b hb),T2.res b (List.mem_cons_of_mem _ hb)];exact aB (hne b hb)
  ·refine ⟨by show (ob2++[p]).length=_;simp;exact S2.len,?_,fun n a x e1 e2=>?_,fun b hb=>?_⟩
   ·show (ob2++[p]).Nodup;rw [List.nodup_append];exact ⟨S2.nd,by simp,fun a ha b hb z=>npo (by rw [←List.mem_singleton.mp hb,←z];exact ha)⟩
   ·have e1:(ob2++[p])[n]?=some a:=e1;have hlen:ob2.length=ha.length:=S2.len
    by_cases hn:n < ob2.length
    ·rw [List.getElem?_append_left hn] at e1;rw [List.getElem?_append_left (by lia)] at e2;exact (S2.at_ n a x e1 e2).mono C23 (at3 a fun z=>npo (z ▸ List.mem_of_getElem? e1))
    ·have l1:=(List.getElem?_eq_some_iff.mp e1).1;simp at l1;have hn':n=ob2.length:=by lia
     subst hn';rw [List.getElem?_append_right (Nat.le_refl _)] at e1;rw [List.getElem?_append_right (by lia),hlen] at e2;simp at e1 e2;subst e1;subst e2;exact ⟨aX [] us,by rw [←hH3];exact aY,(RepK.merge .nil r2).mono C23⟩
   ·obtain ⟨⟨o,eo⟩,nb⟩:=S2.rsv b (List.mem_cons_of_mem _ hb);refine ⟨⟨o,by rw [at3 b (hne b hb)];exact eo⟩,fun z=>?_⟩;rcases List.mem_append.mp z with z | z
    ·exact nb z
    ·exact hne b hb (List.mem_singleton.mp z)
 ·rw [if_neg z] at e2;cases e2
noncomputable def Ea (d e:D) (h:MH):Option (D×MH):=match e with
 | .int n=>(gy d h).bind fun xs=>if 0≤n∧n≤1000∧xs.length≤1000 then some (.lv (List.replicate n.toNat xs).flatten,h) else none
 | _=>none
theorem RepL.rep {K:FR} {ρ:Ad} {H:Hp} {vs:List V} {ds:List D} (h:RepL K ρ H vs ds):∀k:Nat,RepL K ρ H (List.replicate k vs).flatten (List.replicate k ds).flatten
 | 0=>.nil
 | k+1=>by
  rw [List.replicate_succ,List.replicate_succ,List.flatten_cons,List.flatten_cons];exact h.append (RepL.rep h k)
theorem Bp:OpS X (binaryOp .Mult) Ea:=by
 intro pins s σ H x y v u Q I rx ry hh;obtain ⟨ρ,h,d,e,z,h',S,rd,re,ee,k⟩:=hh;cases e <;> first | (cases ee;done) | skip
 rename_i n;obtain ⟨xs,e1,e2⟩:=bnd (show (gy d h).bind _=_ from ee)
 by_cases c:0≤n∧n≤1000∧xs.length≤1000
 ·rw [if_pos c] at e2;cases e2;obtain ⟨a,vs,rfl,ha,la⟩:=eQ S rd e1;cases re;have hb:xs.length*n.toNat≤1000*1000:=Nat.mul_le_mul c.2.2 (by lia);exact Ge pins s σ H _ _ v u Q I rx ry ⟨a,n,vs,rfl,rfl,ha,by lia,by lia,by rw [la.length,show sizeLine=16777216 from rfl];lia,fun l hl=>k _ _ (.lv S (la.rep _) hl)⟩
 ·rw [if_neg c] at e2;cases e2
end Sm
namespace L2
open PySem PySem.Spec PyProof.Rows
theorem sh:∀(us:List Value) (o:Nat),(∀(j:Nat) v,us[j]?=some v->∃t,v=.int ((o:Int)+j) t)->Vals ((List.range' o us.length).map fun (k:Nat)=>V.int k) us
 | [],_,_=>.nil
 | u::r,o,h=>by
  rw [List.length_cons,List.range'_succ,List.map_cons];obtain ⟨t,e⟩:=h 0 u rfl;refine .cons ⟨t,by rw [e];simp⟩ (sh r (o+1) fun j v hv=>?_);obtain ⟨t,e⟩:=h (j+1) v (by simpa using hv);exact ⟨t,by rw [e];congr 1;lia⟩
theorem zl (hc:X.calm=true) (hg1:Gl X "list") (hm1:X.mg "list"=none) (hg2:Gl X "range") (hm2:X.mg "range"=none) (hv:bootBuiltins "list"=some (.type "list")) (ha:PA X [a] ta) (hs:starEach [a] X.env=[(false,eval a X.env)]):
  PE X (.Call (.Name "list" p) [.Call (.Name "range" p2) [a] [] pos2] [] pos) (fun σ H Q=>ta σ H fun vs H1=>∃j:Int,vs=[.int j]∧0≤j∧j≤1000∧∀l,H1 l=none->Q (.ref l) (upd H1 l (.lst ((List.range j.toNat).map fun (k:Nat)=>V.int k)))):=by
 intro pins s σ H Q I h;refine wpAny_Call_Name_kw (lM I hg1 hm1 hv ?_);refine PyProof.Rows.callWith_type1 ?_ rfl rfl;show wpAny _ _ (spliced ((false,eval (.Call (.Name "range" p2) [a] [] pos2) X.env)::backTo pos (starEach [] X.env))) _ _ s;refine Calls.spliced_cons ?_;refine wpAny_Call_Name_kw (lM I hg2 hm2 boot_range (PyProof.Rows.callWith_type1 (thn (ha pos2 pins s σ H _ I h) fun us s1 ⟨vs,H1,I1,r1,q1⟩=>?_) hs rfl));obtain ⟨j,e,j0,j1,q⟩:=q1;subst e;cases r1 with
 | cons r rr=>
  cases rr;obtain ⟨t,rfl⟩:=r;refine call_range_1 ?_;have I2:Inv X pins σ H1 {s1 with heap:=s1.heap.push {cls:=.type "range",data:=.fields #[.int 0 s1.toks,.int j t,.int 1 (s1.toks+1)]},toks:=s1.toks+1+1}:=I1.kept fun b o e=>Heap.get?_push_of_some _ e;refine Calls.spliced_nil ?_;refine call_list_range (n:=j.toNat) (I1.ok.hd hc) (IsRange.new ..) (small_one (by lia) (by lia) (by lia) (by lia)) (by rw [rangeSize_one];split <;> lia) (by lia) fun h' tk acc' c' hk hS' hacc=>?_;have hlen:acc'.toList.length=j.toNat:=by rw [Array.length_toList];exact hacc.1
  have hv:Vals ((List.range j.toNat).map fun (k:Nat)=>V.int k) acc'.toList:=by
   have:=sh acc'.toList 0 fun i v hv=>by
    obtain ⟨t,e⟩:=hacc.2 i v (by simpa using hv);exact ⟨t,by rw [e];congr 1;simp⟩
   rw [hlen] at this;rw [List.range_eq_range'];exact this
  refine ⟨.ref _,_,I2.laid (t':=tk) (o:=.lst ((List.range j.toNat).map fun (k:Nat)=>V.int k)) hk (Nat.le_refl _) ⟨by rw [List.length_map,List.length_range,sizeLine_eq];lia,acc'.toList,c',hv,?_⟩,rfl,q _ (I2.hok.fresh (Nat.le_refl _))⟩;rw [hS']
end L2
namespace Sm
open PySem L2 PySem.Spec PyProof.Rows
noncomputable def Hb (m:AM):AM:=fun δ h=>(m δ h).bind fun p=>match p.1 with
 | [.int j]=>if 0≤j∧j≤1000 then some ((List.range j.toNat).map fun (k:Nat)=>D.int k,p.2) else none
 | _=>none
theorem p6 {K:FR} {ρ:Ad} {H:Hp}:∀l:List Nat,RepL K ρ H (l.map fun (k:Nat)=>V.int k) (l.map fun (k:Nat)=>D.int k)
 | []=>.nil
 | n::r=>.cons (.int n) (p6 r)
theorem za (hc:X.calm=true) (hg1:Gl X "list") (hm1:X.mg "list"=none) (hg2:Gl X "range") (hm2:X.mg "range"=none) (hv:bootBuiltins "list"=some (.type "list")) (ha:SA X [a] m) (hs:starEach [a] X.env=[(false,eval a X.env)]:=by kernel_rfl):
  SFL X (.Call (.Name "list" p) [.Call (.Name "range" p2) [a] [] pos2] [] pos) (Hb m):=(zl hc hg1 hm1 hg2 hm2 hv ha hs).imp fun σ H Q ⟨ρ,δ,h,ds,h',R,S,e,k⟩=>by
 obtain ⟨⟨xs,h1⟩,e1,e2⟩:=bnd e;dsimp only at e2
 split at e2
 ·rename_i j
  split at e2
  ·rename_i c;cases e2;refine ⟨ρ,δ,h,_,_,R,S,e1,fun vs ρ1 H1 T1 S1 r1=>?_⟩;obtain ⟨v,rfl,rd⟩:=rep1 r1;cases rd;exact ⟨j,rfl,c.1,c.2,fun l hl=>k ρ1 H1 l _ T1 S1 hl (p6 _)⟩
  ·cases e2
 ·cases e2
noncomputable def He (ma mb:EM):AM:=fun δ h=>(ma δ h).bind fun p=>(mb δ p.2).bind fun q=>(gy p.1 q.2).bind fun xs=>(gy q.1 q.2).bind fun ys=>if xs.length+ys.length≤sizeLine then some (xs++ys,q.2) else none
theorem Fd (ha:SE X a ma) (hb:SE X b mb):SFL X (.BinOp a .Add b pos) (He ma mb):=(EI Bw ha hb).imp fun σ H Q ⟨ρ,δ,h,ds,h',R,S,e,k⟩=>by
 obtain ⟨⟨x,h1⟩,e1,e2⟩:=bnd e;obtain ⟨⟨y,h2⟩,e3,e4⟩:=bnd e2;obtain ⟨xs,e5,e6⟩:=bnd e4;obtain ⟨ys,e7,e8⟩:=bnd e6;dsimp only at e3 e5 e7
 split at e8
 ·rename_i c;cases e8;refine ⟨ρ,δ,h,x,h1,R,S,e1,fun v H1 ⟨ρ1,T1,S1,r1⟩=>⟨ρ1,δ,h1,y,h2,R.mono T1.toCh,S1,e3,fun u H2 ⟨ρ2,T2,S2,r2⟩=>?_⟩⟩;obtain ⟨a,vs,rfl,hA,lA⟩:=eQ S2 (r1.mono T2.toCh) e5;obtain ⟨b,us,rfl,hB,lB⟩:=eQ S2 r2 e7;exact ⟨a,b,vs,us,rfl,rfl,hA,hB,by rw [lA.length,lB.length];exact c,fun p hp=>k ρ2 H2 p (vs++us) (T1.trans T2) S2 hp (lA.append lB)⟩
 ·cases e8
end Sm
namespace Sm
open PySem L2
theorem BW (a b:Int) (h:MH):bW (.int a) (.int b) h=some (.bl (a==b),h):=rfl
theorem wg (a b:Int) (h:MH):hW (.int a) (.int b) h=some (.bl (!(a==b)),h):=rfl
theorem qh:∀cs:List Int,pyL (cs.map D.int)=some (cs.map PyData.int)
 | []=>rfl
 | c::r=>by simp only [List.map_cons,pyL,pyD,qh r,Option.bind_some,Option.map_some]
theorem lU:∀cs:List Int,PyData.depthAll (cs.map PyData.int)=0
 | []=>rfl
 | c::r=>by simp only [List.map_cons,PyData.depthAll,lU r,PyData.depth];rfl
theorem zO {h:MH} {c:Nat} {cs:List Int} (hc:h[c]?=some (.lst (cs.map D.int))):hW (.ob c) (.lv []) h=some (.bl (!cs.isEmpty),h):=by
 simp only [hW,eqA,dw,hc,eqD,rdD,qh,pyD,pyL,Option.map_some,Option.bind_some,PyData.depth,lU];cases cs <;> rfl
theorem j4 (hn:h[n]?=some (.lst xs)) (e:atI xs i=some d):fIx (.ob n) (.int i) h=some (d,h):=by
 simp only [fIx,dw,hn,ej,Option.bind_some,e,Option.map_some]
theorem yF (hn:h[n]?=some (.lst xs)):bE [.ob n] h=some (.int xs.length,h):=by
 simp only [bE,dw,hn,ej,Option.map_some]
theorem uG (hn:h[n]?=some (.lst xs)) (e:ixN xs.length i=some p):rZ (.ob n) (.int i) d h=some (h.set n (.lst (xs.set p d))):=by
 simp only [rZ,hn,e,Option.map_some]
theorem Cw (cs:List Int) (i:Int) (h0:0≤i) (h1:i < cs.length):∃z,atI (cs.map D.int) i=some (.int z):=by
 have hlt:i.toNat < cs.length:=by lia
 refine ⟨cs[i.toNat]'hlt,?_⟩;have e:((i.toNat:Nat):Int)=i:=Int.toNat_of_nonneg h0;have q:atI (cs.map D.int) ((i.toNat:Nat):Int)=some (D.int (cs[i.toNat]'hlt)):=uW (by rw [List.getElem?_map,List.getElem?_eq_getElem hlt];rfl);rw [e] at q;exact q
theorem x9 (h0:0≤i) (h1:i < xs.length):∃v,atI xs i=some v∧v∈xs:=by
 have hlt:i.toNat < xs.length:=by lia
 have e:((i.toNat:Nat):Int)=i:=Int.toNat_of_nonneg h0;have q:atI xs ((i.toNat:Nat):Int)=some (xs[i.toNat]'hlt):=uW (List.getElem?_eq_getElem hlt);rw [e] at q;exact ⟨_,q,List.getElem_mem hlt⟩
end Sm
namespace Sm
open PySem
def Rn {α:Type} (o:Option α) (Q:α->Prop):Prop:=∃a,o=some a∧Q a
theorem rv (e:o=some a) (q:Q a):Rn o Q:=⟨a,e,q⟩
theorem Rn.imp (r:Rn o Q) (f:∀a,Q a->Q' a):Rn o Q':=let ⟨a,e,q⟩:=r;⟨a,e,f a q⟩
theorem aV (r:Rn o fun a=>Rn (f a) Q):Rn (o.bind f) Q:=by
 obtain ⟨a,e,b,e2,q⟩:=r;exact ⟨b,by rw [e];exact e2,q⟩
theorem AS (r:Rn o fun a=>Q (f a)):Rn (o.map f) Q:=by
 obtain ⟨a,e,q⟩:=r;exact ⟨f a,by rw [e];rfl,q⟩
theorem HR (e:δ[i]?=some (some d)) (q:Q (d,h)):Rn (ae i δ h) Q:=⟨(d,h),by unfold ae;rw [e];rfl,q⟩
theorem r_k (q:Q (d,h)):Rn (eK d δ h) Q:=⟨_,rfl,q⟩
theorem xh (r:Rn (a δ h) fun p=>Rn (b δ p.2) fun q=>Rn (f p.1 q.1 q.2) Q):Rn (eOp f a b δ h) Q:=aV (r.imp fun _ r=>aV r)
theorem Ji (r:Rn (a δ h) fun p=>Rn (f p.1 p.2) Q):Rn (eUn f a δ h) Q:=aV r
theorem HX (q:Q ([],h)):Rn (aj δ h) Q:=⟨_,rfl,q⟩
theorem nT (r:Rn (a δ h) fun p=>Rn (m δ p.2) fun q=>Q (p.1::q.1,q.2)):Rn (ab a m δ h) Q:=aV (r.imp fun _ r=>aV (r.imp fun _ q=>⟨_,rfl,q⟩))
theorem zh (r:Rn (m δ h) fun p=>Rn (f p.1 p.2) Q):Rn (eFn f m δ h) Q:=aV r
theorem Jn (r:Rn (t δ h) fun p=>(p.1=true->Rn (a δ p.2) Q)∧(p.1=false->Rn (b δ p.2) Q)):Rn (eIf t a b δ h) Q:=aV (r.imp fun p ⟨q1,q2⟩=>by
 obtain ⟨c,h⟩:=p;cases c with
 | true=>exact q1 rfl
 | false=>exact q2 rfl)
theorem lE (r:Rn (a δ h) fun p=>∃c,p.1=.bl c∧Q (c,p.2)):Rn (aA a δ h) Q:=aV (r.imp fun p ⟨c,e,q⟩=>⟨(c,p.2),by rw [e],q⟩)
theorem jG (r:Rn (a δ h) fun p=>∃c,An p.1 p.2=some c∧Q (c,p.2)):Rn (bK a δ h) Q:=aV (r.imp fun p ⟨c,e,q⟩=>⟨(c,p.2),by rw [e];rfl,q⟩)
theorem fk (r:Rn (t δ h) fun p=>Q (!p.1,p.2)):Rn (Sm.bz t δ h) Q:=AS r
theorem Fu (r:Rn (a δ h) fun p=>(p.1=true->Rn (b δ p.2) Q)∧(p.1=false->Q (false,p.2))):Rn (Sm.nv a b δ h) Q:=aV (r.imp fun p ⟨q1,q2⟩=>by
 obtain ⟨c,h⟩:=p;cases c with
 | true=>exact q1 rfl
 | false=>exact ⟨_,rfl,q2 rfl⟩)
theorem kW (r:Rn (a δ h) fun p=>(p.1=true->Q (true,p.2))∧(p.1=false->Rn (b δ p.2) Q)):Rn (Sm.tOr a b δ h) Q:=aV (r.imp fun p ⟨q1,q2⟩=>by
 obtain ⟨c,h⟩:=p;cases c with
 | true=>exact ⟨_,rfl,q1 rfl⟩
 | false=>exact q2 rfl)
theorem yq (r:Rn (a δ h) fun p=>∃c,p.1=.bl c∧(c=true->Rn (b δ p.2) Q)∧(c=false->Q (.bl false,p.2))):Rn (j6 a b δ h) Q:=aV (r.imp fun p ⟨c,e,q1,q2⟩=>by
 rw [e];cases c with
 | true=>exact q1 rfl
 | false=>exact ⟨_,rfl,q2 rfl⟩)
theorem Jk (r:Rn (a δ h) fun p=>∃c,p.1=.bl c∧(c=true->Q (.bl true,p.2))∧(c=false->Rn (b δ p.2) Q)):Rn (eOr a b δ h) Q:=aV (r.imp fun p ⟨c,e,q1,q2⟩=>by
 rw [e];cases c with
 | true=>exact ⟨_,rfl,q1 rfl⟩
 | false=>exact q2 rfl)
theorem HW (r:Rn (a δ h) fun p=>∃c,p.1=.bl c∧Q (.bl (!c),p.2)):Rn (GZ a δ h) Q:=aV (r.imp fun p ⟨c,e,q⟩=>⟨_,by rw [e],q⟩)
theorem AZ (r:Rn (m δ h) fun p=>Q (.lv p.1,p.2)):Rn (eLv m δ h) Q:=AS r
theorem Jl (r:Rn (m δ h) fun p=>Q (.ob p.2.length,p.2++[.lst p.1])):Rn (eOb m δ h) Q:=AS r
theorem Jp (q:Q (.dv [],h)):Rn (eDv δ h) Q:=⟨_,rfl,q⟩
theorem Jq (q:Q (.ob h.length,h++[.dct []])):Rn (eDo δ h) Q:=⟨_,rfl,q⟩
theorem xi (r:Rn (m δ h) fun p=>∃d xs ws,p.1=[d]∧ej d p.2=some (xs,ws)∧Q (xs,p.2)):Rn (wH m δ h) Q:=aV (r.imp fun p ⟨d,xs,ws,e,e2,q⟩=>⟨(xs,p.2),by rw [e];dsimp only;rw [e2];rfl,q⟩)
theorem HS (q:Q (none,h)):Rn (pNo δ h) Q:=⟨_,rfl,q⟩
theorem HU (r:Rn (a δ h) fun p=>∃i,p.1=.int i∧Q (some i,p.2)):Rn (pAt a δ h) Q:=aV (r.imp fun p ⟨c,e,q⟩=>⟨_,by rw [e],q⟩)
theorem Jj (r:Rn (a δ h) fun p=>Rn (l δ p.2) fun q=>Rn (u δ q.2) fun r=>Rn (fSl p.1 q.1 r.1 r.2) Q):Rn (eSl a l u δ h) Q:=aV (r.imp fun _ r=>aV (r.imp fun _ r=>aV r))
abbrev SQ:=Fl×DS×MH->Prop
theorem cY (q:Q (.nx,δ,h)):Rn (ba δ h) Q:=⟨_,rfl,q⟩
theorem Fv (q:Q (.bk,δ,h)):Rn (Jh δ h) Q:=⟨_,rfl,q⟩
theorem Dh (q:Q (.ct,δ,h)):Rn (HP δ h) Q:=⟨_,rfl,q⟩
def sk (b:SM) (Q:SQ):SQ:=fun r=>match r.1 with
 | .nx=>Rn (b r.2.1 r.2.2) Q
 | _=>Q r
theorem dq (r:Rn (a δ h) (sk b Q)):Rn (ax a b δ h) Q:=aV (r.imp fun p q=>by
 obtain ⟨f,δ',h'⟩:=p;cases f with
 | nx=>exact q
 | bk=>exact ⟨_,rfl,q⟩
 | ct=>exact ⟨_,rfl,q⟩
 | rt d=>exact ⟨_,rfl,q⟩)
theorem qf (r:Rn (e δ h) fun p=>Q (.nx,δ.set i (some p.1),p.2)):Rn (a9 i e δ h) Q:=aV (r.imp fun _ q=>⟨_,rfl,q⟩)
theorem Ib (r:Rn (e δ h) fun p=>Rn (g p.1 δ p.2) fun q=>Q (.nx,q.1,q.2)):Rn (ll e g δ h) Q:=aV (r.imp fun _ r=>aV (r.imp fun _ q=>⟨_,rfl,q⟩))
theorem Fz (r:Rn (e δ h) fun p=>Q (.nx,δ,p.2)):Rn (pX e δ h) Q:=aV (r.imp fun _ q=>⟨_,rfl,q⟩)
theorem kX (r:Rn (e δ h) fun p=>Q (.rt p.1,δ,p.2)):Rn (aF e δ h) Q:=aV (r.imp fun _ q=>⟨_,rfl,q⟩)
theorem gD (r:Rn (t δ h) fun p=>(p.1=true->Rn (a δ p.2) Q)∧(p.1=false->Rn (b δ p.2) Q)):Rn (sIf t a b δ h) Q:=aV (r.imp fun p ⟨q1,q2⟩=>by
 obtain ⟨c,h⟩:=p;cases c with
 | true=>exact q1 rfl
 | false=>exact q2 rfl)
theorem HV (r:Rn (m δ h) fun p=>∃a b,p.1=[a,b]∧Q (.nx,(δ.set i (some a)).set j (some b),p.2)):Rn (AL i j m δ h) Q:=aV (r.imp fun p ⟨a,b,e,q⟩=>⟨_,by rw [e],q⟩)
theorem Fy (q:Q (δ.set i (some d),h)):Rn (gN i d δ h) Q:=⟨_,rfl,q⟩
theorem Fx (r:Rn (o δ h) fun p=>Rn (i δ p.2) fun q=>Rn (rZ p.1 q.1 v q.2) fun h'=>Q (δ,h')):Rn (Sm.rY o i v δ h) Q:=aV (r.imp fun _ r=>aV (r.imp fun _ r=>AS r))
theorem Jo (hn:xs.length=n) (r:Rn (u xs δ h) Q):Rn (gT n u (.tup xs) δ h) Q:=by
 unfold gT;dsimp only;rw [if_pos hn];exact r
theorem A9 (r:Rn (g d δ h) fun p=>Rn (u xs p.1 p.2) Q):Rn (bD g u (d::xs) δ h) Q:=aV r
theorem Dj (q:Q (δ,h)):Rn (gJ [] δ h) Q:=⟨_,rfl,q⟩
def AV (Q:D×MH->Prop):SQ:=fun r=>match r.1 with
 | .rt d=>Q (d,r.2.2)
 | .nx=>Q (.non,r.2.2)
 | _=>False
theorem JC (q:Q (d,h)):AV Q (.rt d,δ,h):=q
theorem JD (q:Q (.non,h)):AV Q (.nx,δ,h):=q
theorem ie (r:Rn (b δ h) Q):sk b Q (.nx,δ,h):=r
theorem IX (q:Q (.rt d,δ,h)):sk b Q (.rt d,δ,h):=q
theorem IZ (q:Q (.bk,δ,h)):sk b Q (.bk,δ,h):=q
theorem IY (q:Q (.ct,δ,h)):sk b Q (.ct,δ,h):=q
def vQ (I:DS->MH->Prop) (Q:SQ):SQ:=fun z=>match z.1 with
 | .nx=>I z.2.1 z.2.2
 | .ct=>I z.2.1 z.2.2
 | .bk=>Q (.nx,z.2.1,z.2.2)
 | .rt d=>Q (.rt d,z.2.1,z.2.2)
theorem JL (q:I δ h):vQ I Q (.nx,δ,h):=q
theorem JM (q:I δ h):vQ I Q (.ct,δ,h):=q
theorem JN (q:Q (.nx,δ,h)):vQ I Q (.bk,δ,h):=q
theorem JK (q:Q (.rt d,δ,h)):vQ I Q (.rt d,δ,h):=q
theorem bt (r:Rn (b (entry len ds) h) (AV Q)):Rn (mkF len b ds h) Q:=aV (r.imp fun p q=>by
 obtain ⟨f,δ',h'⟩:=p;cases f with
 | nx=>exact ⟨_,rfl,q⟩
 | rt d=>exact ⟨_,rfl,q⟩
 | bk=>exact q.elim
 | ct=>exact q.elim)
theorem HZ (r:Rn (i δ h) fun p=>Rn (mN p.2.1 g b p.1 δ p.2.2) Q):Rn (jE i g b δ h) Q:=aV r
theorem dR:∀{xs:List D} {δ:DS} {h:MH} (I:Nat->DS->MH->Prop),I 0 δ h->(∀i δ h,i≤xs.length->I i δ h->chk ws h=true)->
  (∀i x δ h,xs[i]?=some x->I i δ h->Rn (g x δ h) fun q=>Rn (b q.1 q.2) (vQ (I (i+1)) Q))->(∀δ h,I xs.length δ h->Q (.nx,δ,h))->Rn (mN ws g b xs δ h) Q
 | [],δ,h,I,h0,hc,_,hq=>by
  unfold mN;rw [if_pos (hc 0 δ h (Nat.le_refl _) h0)];exact ⟨_,rfl,hq δ h h0⟩
 | x::xs,δ,h,I,h0,hc,ht,hq=>by
  unfold mN;rw [if_pos (hc 0 δ h (Nat.zero_le _) h0)];obtain ⟨q,e1,z,e2,hz⟩:=ht 0 x δ h rfl h0;rw [e1];show Rn ((b q.1 q.2).bind _) Q;rw [e2];obtain ⟨f,δ',h'⟩:=z;have next:I 1 δ' h'->Rn (mN ws g b xs δ' h') Q:=fun hi=>dR (fun i=>I (i+1)) hi (fun i δ h hl=>hc (i+1) δ h (Nat.succ_le_succ hl)) (fun i x δ h hx=>ht (i+1) x δ h (by simpa using hx)) hq
  cases f with
  | nx=>exact next hz
  | ct=>exact next hz
  | bk=>exact ⟨_,rfl,hz⟩
  | rt d=>exact ⟨_,rfl,hz⟩
theorem dQ (r:Rn (e δ h) fun p=>∃xs ws,ej p.1 p.2=some (xs,ws)∧Q (xs,ws,p.2)):Rn (c7 e δ h) Q:=aV (r.imp fun p ⟨xs,ws,e,q⟩=>⟨(xs,ws,p.2),by rw [e];rfl,q⟩)
theorem iR (r:Rn (m δ h) fun p=>∃j:Int,p.1=[.int j]∧-(2^62)≤j∧j < 2^62∧Q ((List.range j.toNat).map fun (k:Nat)=>D.int (k:Int),[],p.2)):Rn (qC m δ h) Q:=aV (r.imp fun p ⟨j,e,h1,h2,q⟩=>by
 rw [e];dsimp only;rw [if_pos ⟨h1,h2⟩];exact ⟨_,rfl,q⟩)
theorem Di (r:Rn (m δ h) fun p=>∃d xs ws,p.1=[d]∧ej d p.2=some (xs,ws)∧Q (k3 0 xs,ws,p.2)):Rn (BN m δ h) Q:=
 aV (r.imp fun p ⟨d,xs,ws,e1,e2,q⟩=>⟨_,by rw [e1];dsimp only;rw [e2];rfl,q⟩)
theorem FA (r:Rn (i δ h) fun p=>Rn (cp p.2.1 g c e p.1 (ix caps δ) p.2.2) fun q=>q.1.length≤sizeLine∧Q q):Rn (bM caps i g c e δ h) Q:=
 aV (r.imp fun p r=>aV (r.imp fun q ⟨hz,hq⟩=>⟨q,by rw [if_pos hz],hq⟩))
theorem t5 (hc:chk ws h=true) (f:D->Option D) (J:DS->Prop):∀{xs:List D} {δ:DS},J δ->
  (∀x∈xs,∀δ,J δ->Rn (g x δ h) fun q=>q.2=h∧Rn (c q.1 h) fun t=>t.2=h∧J q.1∧(t.1=true->∃y,f x=some y∧Rn (e q.1 h) fun p=>p=(y,h))∧(t.1=false->f x=none))->
  cp ws g c e xs δ h=some (xs.filterMap f,h)
 | [],δ,_,_=>by unfold cp;rw [if_pos hc];rfl
 | x::xs,δ,hJ,ht=>by
  unfold cp;rw [if_pos hc];obtain ⟨⟨δ1,h1⟩,e1,rfl,⟨t,h2⟩,e2,rfl,J1,q1,q2⟩:=ht x List.mem_cons_self δ hJ;rw [e1];dsimp only [Option.bind_some] at e2 q1 q2 ⊢;rw [e2];dsimp only [Option.bind_some];have ih:=t5 hc f J J1 (xs:=xs) fun y hy=>ht y (List.mem_cons_of_mem _ hy);cases t with
  | true=>
   obtain ⟨y,ef,p,ep,rfl⟩:=q1 rfl;rw [if_pos rfl,ep];dsimp only [Option.bind_some];rw [ih,List.filterMap_cons,ef];rfl
  | false=>
   rw [if_neg (by simp),ih,List.filterMap_cons,q2 rfl]
theorem vG (h:k∉kvs.map (·.1)):putD kvs k v=kvs++[(k,v)]:=by
 unfold putD;rw [if_neg];intro z;obtain ⟨p,hp,e⟩:=List.any_eq_true.mp z;exact h (List.mem_map.mpr ⟨p,hp,of_decide_eq_true e⟩)
theorem qu:∀{ps acc:List (L2.Key×D)},((acc++ps).map (·.1)).Nodup->dr acc ps=acc++ps
 | [],acc,_=>(List.append_nil acc).symm
 | p::r,acc,nd=>by
  obtain ⟨k,v⟩:=p;show dr (putD acc k v) r=_;have nk:k∉acc.map (·.1):=by
   rw [List.map_append,List.nodup_append] at nd;intro m;exact nd.2.2 k m k (by simp) rfl
  rw [vG nk,qu (by rw [List.append_assoc];exact nd),List.append_assoc];rfl
theorem yG (hd:dw d h=some kvs) (hv:gZ kvs (.inr x)=some v):fIx d (.str x) h=some (v,h):=by
 simp only [fIx,hd,mH,Option.bind_some,hv,Option.map_some]
theorem qF (hd:dw d h=some kvs):j2 (.str x) d h=some (.bl (!(gZ kvs (.inr x)).isSome),h):=by
 simp only [j2,inD,hd,mH,Option.map_some]
end Sm
namespace Sm
theorem xg (q:Q (d,h)) (e:δ[i]?=some (some d):=by with_unfolding_all rfl):Rn (ae i δ h) Q:=HR e q
theorem EH (r:Rn (u xs δ h) Q) (hn:xs.length=n:=by with_unfolding_all rfl):Rn (gT n u (.tup xs) δ h) Q:=Jo hn r
end Sm
namespace Sm
open PySem L2
theorem t6:∀(xs:List D) (P:List D->DS->MH->α->Prop) (δ:DS) (h:MH) (a:α),P xs δ h a->
  (∀x r δ h a,P (x::r) δ h a->chk ws h=true∧Rn (g x δ h) fun q=>Rn (c q.1 q.2) fun t=>if t.1=true then Rn (m q.1 t.2 a) fun z=>P r z.1 z.2.1 z.2.2 else P r q.1 t.2 a)->
  (∀δ h a,P [] δ h a->chk ws h=true∧Q (δ,h,a))->Rn (iw ws g c m xs δ h a) Q
 | [],P,δ,h,a,p,_,fin=>by
  obtain ⟨hc,q⟩:=fin δ h a p;exact ⟨_,by unfold iw;rw [if_pos hc],q⟩
 | x::r,P,δ,h,a,p,step,fin=>by
  obtain ⟨hc,q,e1,t,e2,q3⟩:=step x r δ h a p;unfold iw;rw [if_pos hc,e1];show Rn ((c q.1 q.2).bind _) Q;rw [e2];show Rn (if t.1=true then _ else _) Q
  by_cases z:t.1=true
  ·rw [if_pos z] at q3 ⊢;obtain ⟨y,e3,q4⟩:=q3;rw [e3];exact t6 r P _ _ _ q4 step fin
  ·rw [if_neg z] at q3 ⊢;exact t6 r P _ _ _ q3 step fin
theorem Ia {α:Type} {caps:List (Option Nat)} {i:IM} {g:GM} {c:TM} {m:MK α} {a0:α} {out:α->D} {Q:D×MH->Prop} (hh:Rn (i δ h) fun p=>Rn (iw p.2.1 g c m p.1 (ix caps δ) p.2.2 a0) fun q=>Q (out q.2.2,q.2.1)):Rn (eAc caps i g c m a0 out δ h) Q:=
 aV (hh.imp fun p r=>AS r)
theorem Jm (hh:Rn (k δ h) fun p=>Rn (v δ p.2) fun q=>∃kk,mH p.1=some kk∧a.length < sizeLine∧Q (δ,q.2,putD a kk q.1)):Rn (mD k v δ h a) Q:=
 aV (hh.imp fun p r=>aV (r.imp fun q ⟨kk,e1,l,k⟩=>by rw [e1];show Rn (if a.length < sizeLine then _ else _) Q;rw [if_pos l];exact ⟨_,rfl,k⟩))
theorem Dk (hh:Rn (m δ h) fun p=>Rn (s δ p.2) fun q=>q.1=.int (-1)∧∃xs ws,ej p.1 q.2=some (xs,ws)∧Q (if rX p.1=true then .lv xs.reverse else .tup xs.reverse,q.2)):Rn (B5 m s δ h) Q:=
 aV (hh.imp fun p x=>aV (x.imp fun q ⟨e1,xs,ws,e2,k⟩=>by rw [e1];show Rn (if (-1:Int)=-1 then _ else _) Q;rw [if_pos rfl,e2];exact ⟨_,rfl,k⟩))
theorem xj (hh:Rn (a δ h) fun p=>Rn (l δ p.2) fun q=>Rn (u δ q.2) fun r=>Rn (we p.1 q.1 r.1 r.2) Q):Rn (kR a l u δ h) Q:=aV (hh.imp fun _ x=>aV (x.imp fun _ y=>aV y))
theorem qg (hh:Rn (ma δ h) fun p=>Rn (mb δ p.2) fun q=>Rn (f p.1 q.1 q.2) fun r=>∃b,r.1=.bl b∧if b=true then Rn (mc δ r.2) fun u=>Rn (f' q.1 u.1 u.2) Q else Q (.bl false,r.2)):Rn (du f f' ma mb mc δ h) Q:=
 aV (hh.imp fun p x=>aV (x.imp fun q y=>aV (y.imp fun r ⟨b,e,k⟩=>by
  rw [e];cases b with
  | true=>rw [if_pos rfl] at k;exact aV k
  | false=>rw [if_neg (by simp)] at k;exact ⟨_,rfl,k⟩)))
theorem Hm (q:Q (.tup ds,h)):Rn (bR ds h) Q:=⟨_,rfl,q⟩
theorem Ho (q:Q (.int (-a),h)):Rn (pQ (.int a) h) Q:=⟨_,rfl,q⟩
theorem w_add (q:Q (.int (a+b),h)):Rn (aS (.int a) (.int b) h) Q:=⟨_,rfl,q⟩
theorem w_sub (q:Q (.int (a-b),h)):Rn (uF (.int a) (.int b) h) Q:=⟨_,rfl,q⟩
theorem w_lt (q:Q (.bl (decide (a < b)),h)):Rn (fLt (.int a) (.int b) h) Q:=⟨_,rfl,q⟩
theorem IU (q:Q (.bl (decide (a≤b)),h)):Rn (fLe (.int a) (.int b) h) Q:=⟨_,rfl,q⟩
theorem IV (q:Q (.bl (decide (b < a)),h)):Rn (fGt (.int a) (.int b) h) Q:=⟨_,rfl,q⟩
theorem IW (q:Q (.bl (decide (b≤a)),h)):Rn (fGe (.int a) (.int b) h) Q:=⟨_,rfl,q⟩
theorem Hx (q:Q (.bl (a==b),h)):Rn (bW (.int a) (.int b) h) Q:=⟨_,rfl,q⟩
theorem Hr (q:Q (.bl (!(a==b)),h)):Rn (hW (.int a) (.int b) h) Q:=⟨_,rfl,q⟩
theorem Hw (q:Q (.bl (x==y),h)):Rn (bW (.str x) (.str y) h) Q:=⟨_,rfl,q⟩
theorem Hq (q:Q (.bl (!(x==y)),h)):Rn (hW (.str x) (.str y) h) Q:=⟨_,rfl,q⟩
theorem Hv (q:Q (d,h)):Rn (fIx (.tup (d::r)) (.int 0) h) Q:=⟨_,by
 show ((atI (d::r) 0).map fun z=>(z,h))=_;have:atI (d::r) 0=some d:=by unfold atI;rw [show ixN (d::r).length 0=some 0 by unfold ixN;simp;try lia];rfl
 rw [this];rfl,q⟩
theorem Hu (q:Q (e,h)):Rn (fIx (.tup (d::e::r)) (.int 1) h) Q:=⟨_,by
 show ((atI (d::e::r) 1).map fun z=>(z,h))=_;have:atI (d::e::r) 1=some e:=by unfold atI;rw [show ixN (d::e::r).length 1=some 1 by unfold ixN;simp;try lia];rfl
 rw [this];rfl,q⟩
theorem Ht (q:Q (f,h)):Rn (fIx (.tup (d::e::f::r)) (.int 2) h) Q:=⟨_,by
 show ((atI (d::e::f::r) 2).map fun z=>(z,h))=_;have:atI (d::e::f::r) 2=some f:=by unfold atI;rw [show ixN (d::e::f::r).length 2=some 2 by unfold ixN;simp;try lia];rfl
 rw [this];rfl,q⟩
theorem ER (q:Q (.int r.length,h)):Rn (bE [.tup r] h) Q:=⟨_,rfl,q⟩
theorem ES (q:Q (.int r.length,h)):Rn (bE [.lv r] h) Q:=⟨_,rfl,q⟩
inductive All2 {α β:Type} (R:α->β->Prop):List α->List β->Prop where
 | nil:All2 R [] []
 | cons {x y xs ys}:R x y->All2 R xs ys->All2 R (x::xs) (y::ys)
theorem All2.length:∀{xs:List α} {ys:List β},All2 R xs ys->ys.length=xs.length
 | _,_,.nil=>rfl
 | _,_,.cons _ t=>by rw [List.length_cons,List.length_cons,All2.length t]
theorem All2.right:∀{xs:List α} {ys:List β},All2 R xs ys->∀y∈ys,∃x∈xs,R x y
 | _,_,.nil,_,h=>by cases h
 | _,_,.cons r t,y,h=>by
  rcases List.mem_cons.mp h with rfl | h
  ·exact ⟨_,List.mem_cons_self,r⟩
  ·obtain ⟨x,hx,r⟩:=All2.right t y h;exact ⟨x,List.mem_cons_of_mem _ hx,r⟩
theorem pG (R:D->D->Prop):∀{xs:List D} {δ:DS} {h:MH} (J:Nat->DS->MH->Prop),J 0 δ h->(∀i δ h,i≤xs.length->J i δ h->chk ws h=true)->
  (∀i x δ h,xs[i]?=some x->J i δ h->Rn (g x δ h) fun q=>Rn (e q.1 q.2) fun y=>R x y.1∧J (i+1) q.1 y.2)->Rn (cp ws g cg e xs δ h) fun p=>All2 R xs p.1∧∃δ',J xs.length δ' p.2
 | [],δ,h,J,hJ,hc,_=>by
  unfold cp;rw [if_pos (hc 0 δ h (Nat.le_refl _) hJ)];exact ⟨_,rfl,.nil,δ,hJ⟩
 | x::xs,δ,h,J,hJ,hc,ht=>by
  unfold cp;rw [if_pos (hc 0 δ h (Nat.zero_le _) hJ)];obtain ⟨⟨δ1,h1⟩,e1,⟨y,h2⟩,e2,r,J1⟩:=ht 0 x δ h rfl hJ;dsimp only at e2 r J1;obtain ⟨⟨ys,h3⟩,e3,a,δ',J2⟩:=pG R (xs:=xs) (fun i=>J (i+1)) J1 (fun i δ h hl=>hc (i+1) δ h (Nat.succ_le_succ hl)) fun i y δ h hy=>ht (i+1) y δ h (by simpa using hy);refine ⟨(y::ys,h3),?_,.cons r a,δ',J2⟩;rw [e1];dsimp only [Option.bind_some];show ((some (true,h1)).bind _)=_;dsimp only [Option.bind_some];rw [if_pos rfl,e2];dsimp only [Option.bind_some];rw [e3];rfl
theorem pF (R:D->D->Prop):∀{xs:List D} {δ:DS} {h:MH} (J:Nat->DS->MH->Prop),J 0 δ h->(∀i δ h,i≤xs.length->J i δ h->chk ws h=true)->
  (∀i x δ h,xs[i]?=some x->J i δ h->Rn (g x δ h) fun q=>Rn (c q.1 q.2) fun t=>(t.1=true->Rn (e q.1 t.2) fun y=>R x y.1∧J (i+1) q.1 y.2)∧(t.1=false->J (i+1) q.1 t.2))->Rn (cp ws g c e xs δ h) fun p=>p.1.length≤xs.length∧(∀y∈p.1,∃x∈xs,R x y)∧∃δ',J xs.length δ' p.2
 | [],δ,h,J,hJ,hc,_=>by
  unfold cp;rw [if_pos (hc 0 δ h (Nat.le_refl _) hJ)];exact ⟨_,rfl,Nat.le_refl _,fun _ z=>(nomatch z),δ,hJ⟩
 | x::xs,δ,h,J,hJ,hc,ht=>by
  unfold cp;rw [if_pos (hc 0 δ h (Nat.zero_le _) hJ)];obtain ⟨⟨δ1,h1⟩,e1,⟨t,h2⟩,e2,q1,q2⟩:=ht 0 x δ h rfl hJ;dsimp only at e2 q1 q2;rw [e1];dsimp only [Option.bind_some];rw [e2];dsimp only [Option.bind_some];have next:=fun {δ':DS} {h':MH} (J1:J 1 δ' h')=>pF R (xs:=xs) (fun i=>J (i+1)) J1 (fun i δ h hl=>hc (i+1) δ h (Nat.succ_le_succ hl)) fun i y δ h hy=>ht (i+1) y δ h (by simpa using hy)
  cases t with
  | true=>
   obtain ⟨⟨y,h3⟩,e3,r,J1⟩:=q1 rfl;dsimp only at r J1;obtain ⟨⟨ys,h4⟩,e4,l,a,δ',J2⟩:=next J1
   refine ⟨(y::ys,h4),?_,Nat.succ_le_succ l,fun z hz=>?_,δ',J2⟩
   ·rw [if_pos rfl,e3];dsimp only [Option.bind_some];rw [e4];rfl
   ·rcases List.mem_cons.mp hz with rfl | hz
    ·exact ⟨x,List.mem_cons_self,r⟩
    ·obtain ⟨u,hu,r⟩:=a z hz;exact ⟨u,List.mem_cons_of_mem _ hu,r⟩
  | false=>
   obtain ⟨⟨ys,h4⟩,e4,l,a,δ',J2⟩:=next (q2 rfl)
   refine ⟨(ys,h4),?_,Nat.le_succ_of_le l,fun z hz=>?_,δ',J2⟩
   ·rw [if_neg (by decide),e4]
   ·obtain ⟨u,hu,r⟩:=a z hz;exact ⟨u,List.mem_cons_of_mem _ hu,r⟩
end Sm
namespace L2
open PySem PySem.Spec PyProof.Rows
abbrev JG:Hp:=fun _=>none
structure Tab (P:Program) (w:World) (K:FR) (mg:Str->Option Value) (nm:Str) (tb:List (Str×List Int)):Prop where
 ex:∃(a:Addr) (o:Obj) (es:Array DictEntry) (ep:Nat) (kvs:List (Str×Value)),mg nm=some (.ref a)∧K.lookup a=some o∧o.ExactDict∧o.data=.dict es ep∧(a==sysModules)=false∧KeysOf (strKind P w) es∧Pairs (strKind P w) es.toList kvs∧(kvs.map (·.1)).Nodup∧
  Sm.All2 (fun (x:Str×List Int) (y:Str×Value)=>x.1=y.1∧∃(t:Addr) (u:Obj) (its:Array Value) (n:Nat),y.2=.ref t∧K.lookup t=some u∧u.cls=.type "tuple"∧u.dict=none∧u.data=.seq its n∧its.size≤sizeLine∧IntsAre its.toList x.2) tb kvs
theorem yX {K:FR}:∀{tb:List (Str×List Int)} {kvs:List (Str×Value)},Sm.All2 (fun (x:Str×List Int) (y:Str×Value)=>x.1=y.1∧∃(t:Addr) (u:Obj) (its:Array Value) (n:Nat),y.2=.ref t∧K.lookup t=some u∧u.cls=.type "tuple"∧u.dict=none∧u.data=.seq its n∧its.size≤sizeLine∧IntsAre its.toList x.2) tb kvs->∀x:Str,
  (∀is,tb.lookup x=some is->∃t,valueAt kvs x=some (.ref t)∧∀H,SqT K H t (is.map V.int))∧(valueAt kvs x).isSome=(tb.lookup x).isSome:=by
 intro tb kvs h
 induction h with
 | nil=>exact fun x=>⟨fun is e=>(nomatch e),rfl⟩
 | @cons p q tb kvs r l ih=>
  intro x;obtain ⟨a,is0⟩:=p;obtain ⟨b,v⟩:=q;obtain ⟨e0,t,u,its,n,e1,h1,h2,h3,h4,h5,h6⟩:=r;dsimp only at e0 e1 h6;subst e0;subst e1
  by_cases hx:x=a
  ·subst hx;have hv:valueAt ((x,Value.ref t)::kvs) x=some (.ref t):=by unfold valueAt;simp
   have hl:((x,is0)::tb).lookup x=some is0:=by simp
   refine ⟨fun is e=>?_,by rw [hv,hl];rfl⟩;rw [hl] at e;cases e;exact ⟨t,hv,fun H=>.inr ⟨u,its,n,h1,h2,h4,h5,kh h6,h3⟩⟩
  ·have hv:valueAt ((a,Value.ref t)::kvs) x=valueAt kvs x:=by
    unfold valueAt;rw [List.find?_cons_of_neg (by simpa using fun z=>hx z.symm)]
   have hl:((a,is0)::tb).lookup x=tb.lookup x:=by
    rw [List.lookup_cons,show (x==a)=false by simpa using hx]
   rw [hv,hl];exact ih x
theorem Tab.dict (T:Tab X.prog X.w X.K X.mg nm tb) (I:Inv X pins σ H s):∃(a:Addr) (kvs:List (Str×Value)),X.mg nm=some (.ref a)∧(a==sysModules)=false∧s.heap.DictOf (strKind X.prog X.w) a kvs∧∀x:Str,
  (∀is,tb.lookup x=some is->∃t,valueAt kvs x=some (.ref t)∧∀H,SqT X.K H t (is.map V.int))∧(valueAt kvs x).isSome=(tb.lookup x).isSome:=by
 obtain ⟨a,o,es,ep,kvs,h1,h2,h3,h4,h5,h6,h7,h8,h9⟩:=T.ex;exact ⟨a,kvs,h1,h5,⟨o,es,ep,I.kIn a o h2,h3,h4,h6,h7,h8⟩,yX h9⟩
theorem FW (T:Tab X.prog X.w X.K X.mg nm tb) (hg:Gl X nm) (hi:PE X i ti) (hs:Ez i) (hd:(nm==("__debug__":Str))=false):
  PE X (.Subscript (.Name nm p) i pos) (fun σ H Q=>ti σ H fun y H1=>∃x is,y=.str x∧tb.lookup x=some is∧∀t,SqT X.K JG t (is.map V.int)->Q (.ref t) H1):=by
 intro pins s σ H Q I h;obtain ⟨a,kvs,hm,hsm,dd,hv⟩:=T.dict I;refine CO PySem.F.slot_dict_getitem.lookup hs (pJ I hg hm (thn (hi pins s σ H _ I h) fun iv s2 ⟨y,H2,I2,ry,x,is,ey,l,q⟩=>?_) hd);subst ey;obtain ⟨t,rfl⟩:=ry;obtain ⟨a',kvs',hm',hsm',dd',hv'⟩:=T.dict I2;rw [hm] at hm';cases hm';obtain ⟨u,e,sq⟩:=(hv' x).1 is l;exact ⟨dd'.typeIs,wpAny_getItem_of (by show Value.isStrOf x (.str x t)=true;unfold Value.isStrOf;simp) dd'.mapOf e ⟨.ref u,H2,I2.tok _,rfl,q u (sq _)⟩⟩
theorem zm (T:Tab X.prog X.w X.K X.mg nm tb) (hg:Gl X nm) (ho:PE X o to) (hd:(nm==("__debug__":Str))=false):
  PC X .NotIn o (.Name nm p) (fun σ H Q=>to σ H fun y H1=>∃x,y=.str x∧Q (.bl (!(tb.lookup x).isSome)) H1):=by
 intro pins s σ H Q I h;refine thn (ho pins s σ H _ I h) fun iv s1 ⟨y,H1,I1,ry,x,ey,q⟩=>?_;subst ey;obtain ⟨t,rfl⟩:=ry;obtain ⟨a,kvs,hm,hsm,dd,hv⟩:=T.dict I1;refine pJ I1 hg hm ?_ hd;refine wpAny_notIn_of (knd:=PySem.strKind X.prog X.w) (k:=x) (by show Value.isStrOf x (.str x t)=true;unfold Value.isStrOf;simp) hsm dd.mapOf ?_;rw [(hv x).2];exact ⟨.bl _,H1,I1.tok _,rfl,q⟩
end L2
namespace Sm
open PySem L2 PySem.Spec PyProof.Rows
noncomputable def D8 (tb:List (Str×List Int)) (d:D) (h:MH):Option (D×MH):=match d with
 | .str x=>(tb.lookup x).map fun is=>(.tup (is.map D.int),h)
 | _=>none
noncomputable def BR (tb:List (Str×List Int)) (d:D) (h:MH):Option (D×MH):=match d with
 | .str x=>some (.bl (!(tb.lookup x).isSome),h)
 | _=>none
theorem AG (T:Tab X.prog X.w X.K X.mg nm tb) (hi:SE X i mi) (hg:Gl X nm:=by unfold Gl;kernel_rfl) (hs:Ez i:=by unfold Ez;intro _ _;kernel_rfl) (hd:(nm==("__debug__":Str))=false:=by kernel_rfl):SE X (.Subscript (.Name nm p) i pos) (eUn (D8 tb) mi):=
 (FW T hg hi hs hd).imp fun σ H Q ⟨ρ,δ,h,d,h',R,S,e,k⟩=>by
  obtain ⟨⟨x,h1⟩,e1,e2⟩:=bnd e;dsimp only at e2;refine ⟨ρ,δ,h,x,h1,R,S,e1,fun v H1 ⟨ρ1,T1,S1,r1⟩=>?_⟩;unfold D8 at e2
  split at e2
  ·rename_i y;obtain ⟨is,e3,e4⟩:=mpd e2;cases e4;cases r1;exact ⟨_,is,rfl,e3,fun t sq=>k _ _ ⟨ρ1,T1,S1,.tup (.inr sq) (repL_ints' is)⟩⟩
  ·cases e2
theorem CP (T:Tab X.prog X.w X.K X.mg nm tb) (hi:SE X i mi) (hg:Gl X nm:=by unfold Gl;kernel_rfl) (hd:(nm==("__debug__":Str))=false:=by kernel_rfl):ST X (.Compare i [.NotIn] [.Name nm p] pos) (aA (eUn (BR tb) mi)):=
 (FH (zm T hg hi hd) rfl).imp fun σ H Q ⟨ρ,δ,h,c,h',R,S,e,k⟩=>by
  obtain ⟨⟨y,h2⟩,e0,e9⟩:=bnd e;obtain ⟨⟨x,h1⟩,e1,e2⟩:=bnd e0;dsimp only at e2;refine ⟨ρ,δ,h,x,h1,R,S,e1,fun v H1 ⟨ρ1,T1,S1,r1⟩=>?_⟩;unfold BR at e2
  split at e2
  ·rename_i y;cases e2;cases e9;cases r1;exact ⟨_,rfl,_,rfl,k _ _ T1 S1⟩
  ·cases e2
end Sm
namespace Hd
open PySem PySem.W PySem.Spec PyProof.Rows L2 Sm
abbrev Sub (h h':Heap):Prop:=∀b o,h.get? b=some o->h'.get? b=some o
theorem xa (k:Sub h h') (x:rowAt h e=some r):rowAt h' e=some r:=by
 unfold rowAt at x ⊢
 split at x
 ·split at x
  ·split at x
   ·rename_i u hu;rw [k _ _ hu];exact x
   ·cases x
  ·cases x
 ·cases x
theorem oC (k:Sub h h'):∀{es:List DictEntry} {r:List (Str×Int×List Int)},lr h es=some r->lr h' es=some r
 | [],_,x=>x
 | e::es,r,x=>by
  unfold lr at x ⊢;obtain ⟨y,e1,x⟩:=Option.bind_eq_some_iff.mp x;obtain ⟨ys,e2,x⟩:=Option.map_eq_some_iff.mp x;rw [xa k e1,oC k e2];exact congrArg some x
theorem wO (k:Sub h h') (x:tabAt h nm=some r):tabAt h' nm=some r:=by
 have hg:∀v,h.nsMap mainGlobals nm=some v->h'.nsMap mainGlobals nm=some v:=fun v e=>by
  unfold Heap.nsMap at e ⊢
  split at e
  ·rename_i o ho;rw [k _ _ ho];exact e
  ·cases e
 unfold tabAt at x ⊢
 split at x
 ·rename_i a ha;rw [hg _ ha];dsimp only
  split at x
  ·cases x
  ·rename_i hs;rw [if_neg hs]
   split at x
   ·rename_i o ho;rw [k _ _ ho];dsimp only
    split at x
    ·rename_i hc;rw [if_pos hc]
     split at x
     ·exact oC k x
     ·cases x
    ·cases x
   ·cases x
 ·cases x
theorem v9:∀{vs:List Value} {is:List Int},yB vs=some is->IntsAre vs is
 | [],_,e=>by cases e;exact .nil
 | v::r,is,e=>by
  cases v <;> first | (cases e;done) | skip
  obtain ⟨js,e1,e2⟩:=Option.map_eq_some_iff.mp (show (yB r).map _=some is from e);subst e2;exact .cons _ _ (v9 e1)
theorem wy (h:yM v t=true):v=.type t:=by
 unfold yM at h
 split at h
 ·rw [of_decide_eq_true h]
 ·cases h
theorem pY:∀{es:List DictEntry} {tb:List (Str×List Int)},lr h es=some (tb.map fun x=>(x.1,hashStr w x.1,x.2))->
  ∃kvs:List (Str×Value),(∀e∈es,∃k,(PySem.strKind P w).is k e.key=true∧e.hash=(PySem.strKind P w).hash k)∧Pairs (PySem.strKind P w) es kvs∧kvs.map (·.1)=tb.map (·.1)∧
   All2 (fun (x:Str×List Int) (y:Str×Value)=>x.1=y.1∧∃(t:Addr) (u:Obj) (its:Array Value) (n:Nat),y.2=.ref t∧(bq h).lookup t=some u∧u.cls=.type "tuple"∧u.dict=none∧u.data=.seq its n∧its.size≤sizeLine∧IntsAre its.toList x.2) tb kvs
 | [],tb,x=>by
  have hz:tb=[]:=by
   have:=Option.some.inj x;exact List.map_eq_nil_iff.mp this.symm
  subst hz;exact ⟨[],fun _ z=>(nomatch z),.nil,rfl,.nil⟩
 | e::es,tb,x=>by
  unfold lr at x;obtain ⟨y,e1,x⟩:=Option.bind_eq_some_iff.mp x;obtain ⟨ys,e2,x⟩:=Option.map_eq_some_iff.mp x;cases tb with
  | nil=>cases x
  | cons q tb=>
   rw [List.map_cons] at x;obtain ⟨rfl,rfl⟩:=List.cons.inj x;obtain ⟨kvs,h1,h2,h3,h4⟩:=pY (P:=P) e2;unfold rowAt at e1
   split at e1
   ·rename_i x0 tk hk
    split at e1
    ·rename_i t hv
     split at e1
     ·rename_i u hu
      split at e1
      ·rename_i hc;rw [Bool.and_eq_true] at hc
       split at e1
       ·rename_i its n hd
        split at e1
        ·rename_i hs;obtain ⟨is,e3,e4⟩:=Option.map_eq_some_iff.mp e1;have e5:x0=q.1:=congrArg (·.1) e4;have e6:e.hash=hashStr w q.1:=congrArg (·.2.1) e4;have e7:is=q.2:=congrArg (·.2.2) e4;have hki:(PySem.strKind P w).is q.1 e.key=true:=by rw [hk,e5];show Value.isStrOf q.1 (.str q.1 tk)=true;unfold Value.isStrOf;simp
         refine ⟨(q.1,.ref t)::kvs,fun e' he'=>?_,.cons hki hv h2,by rw [List.map_cons,List.map_cons,h3],.cons ⟨rfl,t,u,its,n,rfl,kB hu rfl,wy hc.1,by simpa using hc.2,hd,Nat.le_trans hs (by decide),by rw [←e7];exact v9 e3⟩ h4⟩;rcases List.mem_cons.mp he' with rfl | he'
         ·exact ⟨q.1,hki,e6⟩
         ·exact h1 e' he'
        ·cases e1
       ·cases e1
      ·cases e1
     ·cases e1
    ·cases e1
   ·cases e1
theorem tab_of (x:tabAt h nm=some (tb.map fun x=>(x.1,hashStr w x.1,x.2))) (g:h.Ns mainGlobals mg) (nd:(tb.map (·.1)).Nodup):Tab P w (bq h) mg nm tb:=by
 unfold tabAt at x
 split at x
 ·rename_i a ha
  split at x
  ·cases x
  ·rename_i hs
   split at x
   ·rename_i o ho
    split at x
    ·rename_i hc;rw [Bool.and_eq_true,Bool.and_eq_true] at hc
     split at x
     ·rename_i es ep hd;obtain ⟨kvs,h1,h2,h3,h4⟩:=pY (P:=P) x;have hm:mg nm=some (.ref a):=by
       obtain ⟨o',es',ep',g1,g2,_,g3⟩:=g;rw [←g3 nm,←ha];unfold Heap.nsMap;rw [g1];dsimp only;rw [g2]
      exact ⟨a,o,es,ep,kvs,hm,kB ho rfl,⟨wy hc.1.1,by simpa using hc.1.2,of_decide_eq_true hc.2⟩,hd,by simpa using hs,fun e he=>h1 e (Array.mem_toList_iff.mpr he),h2,by rw [h3];exact nd,h4⟩
     ·cases x
    ·cases x
   ·cases x
 ·cases x
end Hd
namespace L2
open PySem PySem.Spec PyProof.Rows
end L2
namespace Sm
open PySem L2 PySem.Spec PyProof.Rows
end Sm
namespace Sb
open PySem L2 PySem.Spec PyProof.Rows
open Builtin.SmallTypes (nextOf ownedTupleIsFree ownedTupleHandOut)
end Sb
namespace PySem
end PySem
namespace L2
open PySem PySem.Spec PyProof.Rows
end L2
namespace L2
open PySem PySem.Spec PyProof.Rows Sb
end L2
namespace Sm
open PySem L2 PySem.Spec PyProof.Rows Sb
end Sm
namespace Sb
open PySem L2 PySem.Spec PyProof.Rows
variable {P:Program} {w:World} {A:Around} {E:Value->Shared->Prop} {s:Shared} {b c:Bool}
end Sb
namespace Sb
open PySem L2 PySem.Spec PyProof.Rows
variable {P:Program} {w:World} {A:Around} {E:Value->Shared->Prop} {s:Shared} {b c:Bool}
end Sb
namespace L2
open PySem PySem.Spec PyProof.Rows Sb
end L2
namespace Sm
open PySem L2 PySem.Spec PyProof.Rows Sb
end Sm
namespace PySem
end PySem
namespace L2
open PySem PySem.Spec PyProof.Rows
end L2
namespace Sm
open PySem L2 PySem.Spec PyProof.Rows
end Sm
namespace L2
open PySem PySem.Spec PyProof.Rows
def je (xs:Array Nat):Prop:=∀i j (hi:i < xs.size) (hj:j < xs.size),i < j->xs[i] < xs[j]
theorem qW (xs:Array Nat) (j:Nat) (hx:je xs):∀(fuel lo hi:Nat),hi-lo≤fuel->lo≤hi->hi≤xs.size->(∀i (h:i < xs.size),i < lo->xs[i] < j)->(∀i (h:i < xs.size),hi≤i->j≤xs[i])->
  SetTable.below.go xs j fuel lo hi≤xs.size∧(∀i (h:i < xs.size),i < SetTable.below.go xs j fuel lo hi->xs[i] < j)∧(∀i (h:i < xs.size),SetTable.below.go xs j fuel lo hi≤i->j≤xs[i])
 | 0,lo,hi,hf,hl,hs,h1,h2=>by
  have:lo=hi:=by lia
  subst this;unfold SetTable.below.go;exact ⟨hs,h1,h2⟩
 | fuel+1,lo,hi,hf,hl,hs,h1,h2=>by
  unfold SetTable.below.go
  by_cases hlt:lo < hi
  ·rw [if_pos hlt];dsimp only;have hm:(lo+hi) / 2 < xs.size:=by lia
   have hg:xs.getD ((lo+hi) / 2) j=xs[(lo+hi) / 2]:=by simp [Array.getD,hm]
   rw [hg]
   by_cases hc:xs[(lo+hi) / 2] < j
   ·rw [if_pos hc];refine qW xs j hx fuel _ _ (by lia) (by lia) hs (fun i h hi'=>?_) h2;rcases Nat.lt_or_ge i ((lo+hi) / 2) with q | q
    ·exact Nat.lt_trans (hx i _ h hm q) hc
    ·have:i=(lo+hi) / 2:=by lia
     subst this;exact hc
   ·rw [if_neg hc];refine qW xs j hx fuel _ _ (by lia) (by lia) (by lia) h1 (fun i h hi'=>?_);rcases Nat.lt_or_ge ((lo+hi) / 2) i with q | q
    ·have:=hx _ i hm h q;lia
    ·have:i=(lo+hi) / 2:=by lia
     subst this;lia
  ·rw [if_neg hlt];have:lo=hi:=by lia
   subst this;exact ⟨hs,h1,h2⟩
theorem jc (xs:Array Nat) (j:Nat) (hx:je xs):SetTable.below xs j≤xs.size∧(∀i (h:i < xs.size),i < SetTable.below xs j->xs[i] < j)∧(∀i (h:i < xs.size),SetTable.below xs j≤i->j≤xs[i]):=
 qW xs j hx _ _ _ (by lia) (by lia) (Nat.le_refl _) (fun i h z=>absurd z (Nat.not_lt_zero _)) (fun i h z=>absurd (Nat.lt_of_lt_of_le h z) (Nat.lt_irrefl _))
theorem iy (hx:je xs) (h:xs[i]?=some j):SetTable.below xs j=i:=by
 obtain ⟨hi,e⟩:=Array.getElem?_eq_some_iff.mp h;have b:=jc xs j hx;rcases Nat.lt_trichotomy (SetTable.below xs j) i with q | q | q
 ·have h1:=b.2.2 (SetTable.below xs j) (by lia) (Nat.le_refl _);have h2:=hx _ i (by lia) hi q
  lia
 ·exact q
 ·have:=b.2.1 i hi q
  lia
theorem so {t:SetTable} {i j:Nat} (hx:je t.place) (h:t.place[i]?=some j):t.slot j=.live i:=by
 unfold SetTable.slot;rw [iy hx h];dsimp only;rw [if_pos (by rw [h];simp)]
theorem wV {t:SetTable} {j:Nat} (hd:t.dummies=#[]) (h:j∉t.place.toList):t.slot j=.empty:=by
 unfold SetTable.slot;dsimp only;rw [if_neg (by
  intro z;have z:=eq_of_beq z;exact h (by rw [Array.mem_toList_iff];exact Array.mem_of_getElem? z)),hd]
 rfl
noncomputable def road (t:SetTable) (h:Int):Nat->SetTable.Probe
 | 0=>t.probeStart h
 | n+1=>t.advance (road t h n)
theorem sr (e:t.mask=t'.mask) (h:Int):∀n,road t h n=road t' h n
 | 0=>by show t.probeStart h=t'.probeStart h;unfold SetTable.probeStart;rw [e]
 | n+1=>by
  show t.advance (road t h n)=t'.advance (road t' h n);rw [sr e h n];unfold SetTable.advance;rw [e]
theorem pZ (t:SetTable) (h:Int):∀n,(road t h n).dummy=none
 | 0=>rfl
 | n+1=>by
  have:=pZ t h n;show (t.advance (road t h n)).dummy=none;unfold SetTable.advance
  split
  ·exact this
  ·exact this
theorem p5 (hm:t.mask=7) (h:Int):∀n,(road t h n).more=0∧(road t h n).j=(road t h n).i∧(road t h n).i < 8∧(road t h n).perturb=SetTable.bits h / 32^n
 | 0=>by
  show (t.probeStart h).more=0∧_;unfold road SetTable.probeStart SetTable.runEnd;rw [hm];dsimp only;refine ⟨by rw [if_neg (by lia)];lia,rfl,Nat.mod_lt _ (by lia),by simp⟩
 | n+1=>by
  obtain ⟨h1,h2,h3,h4⟩:=p5 hm h n;show (t.advance (road t h n)).more=0∧(t.advance (road t h n)).j=(t.advance (road t h n)).i∧(t.advance (road t h n)).i < 8∧(t.advance (road t h n)).perturb=_;unfold SetTable.advance SetTable.leap SetTable.runEnd;rw [hm,h1,if_neg (by lia)];dsimp only;refine ⟨by rw [if_neg (by lia)];lia,rfl,Nat.mod_lt _ (by lia),?_⟩;rw [h4,Nat.div_div_eq_div_mul,Nat.pow_succ]
theorem xb (hm:t.mask=7) (h:Int) (n:Nat):(road t h (n+1)).i=((road t h n).i*5+1+(road t h n).perturb / 32) % 8:=by
 obtain ⟨h1,h2,h3,h4⟩:=p5 hm h n;show (t.advance (road t h n)).i=_;unfold SetTable.advance SetTable.leap;rw [hm,h1,if_neg (by lia)]
theorem Et (h:Int):SetTable.bits h < 32^13:=by
 unfold SetTable.bits;have:h % (2^64:Int) < 2^64:=Int.emod_lt_of_pos _ (by decide);have h0:0≤h % (2^64:Int):=Int.emod_nonneg _ (by decide)
 lia
noncomputable def lcg (i:Nat):Nat:=(i*5+1) % 8
noncomputable def DW:Nat->Nat->Nat
 | 0,i=>i
 | n+1,i=>lcg (DW n i)
theorem p4 (hm:t.mask=7) (h:Int):∀k,(road t h (13+k)).j=DW k (road t h 13).j
 | 0=>rfl
 | k+1=>by
  have ih:=p4 hm h k;rw [(p5 hm h _).2.1] at ih;rw [(p5 hm h _).2.1,show 13+(k+1)=(13+k)+1 from rfl,xb hm h (13+k),(p5 hm h _).2.2.2];have hz:SetTable.bits h / 32^(13+k) / 32=0:=by
   have:SetTable.bits h / 32^(13+k)=0:=by
    refine Nat.div_eq_of_lt (Nat.lt_of_lt_of_le (Et h) ?_);exact Nat.pow_le_pow_right (by lia) (by lia)
   rw [this]
  rw [hz,ih];rfl
theorem DX:∀i:_root_.Fin 8,∀j:_root_.Fin 8,∃k:_root_.Fin 8,DW k.1 i.1=j.1:=by decide
theorem lcg_all' (i j:Nat) (hi:i < 8) (hj:j < 8):∃k,k < 8∧DW k i=j:=by
 obtain ⟨k,hk⟩:=DX ⟨i,hi⟩ ⟨j,hj⟩;exact ⟨k.1,k.2,hk⟩
theorem zf (hm:t.mask=7) (h:Int) (j:Nat) (hj:j < 8):∃n,n < 21∧(road t h n).j=j:=by
 have h13:(road t h 13).j < 8:=by rw [(p5 hm h 13).2.1];exact (p5 hm h 13).2.2.1
 have hl:=p4 hm h;revert h13 hl;generalize (road t h 13).j=r;intro h13 hl;obtain ⟨k,hk1,hk⟩:=lcg_all' r j h13 hj;exact ⟨13+k,by lia,(hl k).trans hk⟩
theorem qt [DecidableEq W]:∀(l ws:List W),l.Nodup->(∀x∈l,x∈ws)->l.length≤ws.length
 | [],ws,_,_=>Nat.zero_le _
 | x::l,ws,hn,hs=>by
  have hn:=List.nodup_cons.mp hn;have hx:=hs x (.head _);have:=qt l (ws.erase x) hn.2 fun y hy=>by
   have:y≠x:=fun e=>hn.1 (e ▸ hy);exact (List.mem_erase_of_ne this).mpr (hs y (.tail _ hy))
  rw [List.length_erase_of_mem hx] at this;have h0:0 < ws.length:=List.length_pos_of_mem hx;simp only [List.length_cons]
  lia
theorem xc (hm:t.mask=7) (h:Int) (hs:t.place.size < 8):∃n,n < 21∧(road t h n).j∉t.place.toList:=by
 have:∃j,j < 8∧j∉t.place.toList:=by
  apply Classical.byContradiction;intro z;have hsub:List.range 8 ⊆ t.place.toList:=fun j hj=>by
   apply Classical.byContradiction;intro q;exact z ⟨j,List.mem_range.mp hj,q⟩
  have:=qt (List.range 8) t.place.toList List.nodup_range hsub;simp at this
  lia
 obtain ⟨j,hj,hn⟩:=this;obtain ⟨n,h1,h2⟩:=zf hm h j hj;exact ⟨n,h1,by rw [h2];exact hn⟩
theorem BQ [DecidablePred p]:∀{n:Nat},p n->∃m,m≤n∧p m∧∀i,i < m->¬p i
 | 0,h=>⟨0,Nat.le_refl _,h,fun i hi=>absurd hi (Nat.not_lt_zero _)⟩
 | n+1,h=>by
  by_cases q:∃i,i≤n∧p i
  ·obtain ⟨i,hi,hp⟩:=q;have:∀k,k≤n->p k->∃m,m≤k∧p m∧∀i,i < m->¬p i:=by
    intro k
    induction k using Nat.strongRecOn with
    | _ k ih=>
     intro hk hpk
     by_cases q2:∃i,i < k∧p i
     ·obtain ⟨i,hi,hp⟩:=q2;obtain ⟨m,h1,h2,h3⟩:=ih i hi (by lia) hp;exact ⟨m,by lia,h2,h3⟩
     ·exact ⟨k,Nat.le_refl _,hpk,fun i hi hp=>q2 ⟨i,hi,hp⟩⟩
   obtain ⟨m,h1,h2,h3⟩:=this i hi hp;exact ⟨m,by lia,h2,h3⟩
  ·exact ⟨n+1,Nat.le_refl _,h,fun i hi hp=>q ⟨i,by lia,hp⟩⟩
theorem vH {t:SetTable} (hx:je t.place) (hd:t.dummies=#[]) (hashAt:Nat->Int) (h:Int) {N:Nat} (hN:(road t h N).j∉t.place.toList):∀(fuel m:Nat),m≤N->N-m < fuel->(∀i,i < N->(road t h i).j∈t.place.toList)->
  (SetTable.probe.go t hashAt h fuel (road t h m)=some (.empty (road t h N).j none)∧(∀c i,m≤c->c < N->t.place[i]?=some (road t h c).j->hashAt i≠h))∨
  ∃c i,m≤c∧c < N∧t.place[i]?=some (road t h c).j∧hashAt i=h∧(∀c' i,m≤c'->c' < c->t.place[i]?=some (road t h c').j->hashAt i≠h)∧SetTable.probe.go t hashAt h fuel (road t h m)=some (.candidate (road t h c).j i (road t h (c+1)))
 | 0,m,hm,hf,hl=>absurd hf (Nat.not_lt_zero _)
 | fuel+1,m,hm,hf,hl=>by
  unfold SetTable.probe.go
  by_cases e:m=N
  ·subst e;rw [wV hd hN];refine .inl ⟨?_,fun c i h1 h2=>absurd h2 (by lia)⟩;rw [pZ]
  ·have hlt:m < N:=by lia
   obtain ⟨i,hi,hv⟩:=Array.getElem_of_mem (Array.mem_toList_iff.mp (hl m hlt));have hg:t.place[i]?=some (road t h m).j:=by rw [Array.getElem?_eq_getElem hi,hv]
   rw [so hx hg];dsimp only;have uni:∀i',t.place[i']?=some (road t h m).j->i'=i:=fun i' h'=>(iy hx h').symm.trans (iy hx hg)
   by_cases hh:hashAt i=h
   ·refine .inr ⟨m,i,Nat.le_refl _,hlt,hg,hh,fun c' i' h1 h2=>absurd h2 (by lia),?_⟩;rw [if_pos (by rw [hh];simp)];rfl
   ·rw [if_neg (by simpa using hh)];show _∨_;rcases vH hx hd hashAt h hN fuel (m+1) hlt (by lia) hl with ⟨h1,h2⟩ | ⟨c,i2,h1,h2,h3,h4,h5,h6⟩
    ·refine .inl ⟨h1,fun c i' hc hcN hp=>?_⟩;rcases Nat.eq_or_lt_of_le hc with q | q
     ·subst q;rw [uni i' hp];exact hh
     ·exact h2 c i' q hcN hp
    ·refine .inr ⟨c,i2,by lia,h2,h3,h4,fun c' i' hc hcc hp=>?_,h6⟩;rcases Nat.eq_or_lt_of_le hc with q | q
     ·subst q;rw [uni i' hp];exact hh
     ·exact h5 c' i' q hcc hp
end L2
namespace L2
open PySem PySem.Spec PyProof.Rows PySem.SeqAt
noncomputable def plT:Nat->PyData->Bool
 | _,.int _=>true
 | _,.str x=>PyData.strOk x
 | n+1,.tuple xs=>xs.all (plT n)
 | _,_=>false
theorem t7:∀(n:Nat) {d e:PyData},plT n d=true->plT n e=true->PyData.eqv d e=true->d=e:=by
 intro n
 induction n with
 | zero=>
  intro d e hd he h;cases d <;> cases e <;> simp_all [plT,PyData.eqv]
 | succ n ih=>
  have hl:∀(xs ys:List PyData),xs.all (plT n)=true->ys.all (plT n)=true->PyData.eqvAll xs ys=true->xs=ys:=by
   intro xs
   induction xs with
   | nil=>intro ys _ _ h;cases ys with | nil=>rfl | cons _ _=>simp [PyData.eqvAll] at h
   | cons x xs ihx=>
    intro ys h1 h2 h;cases ys with
    | nil=>simp [PyData.eqvAll] at h
    | cons y ys=>
     rw [List.all_cons,Bool.and_eq_true] at h1 h2;rw [PyData.eqvAll,Bool.and_eq_true] at h;rw [ih h1.1 h2.1 h.1,ihx ys h1.2 h2.2 h.2]
  intro d e hd he h;cases d <;> cases e <;> first
   | (simp_all [plT,PyData.eqv];done)
   | (rename_i xs ys;rw [PyData.eqv] at h;rw [hl xs ys hd he h])
theorem pH:∀(n:Nat) {d:PyData},plT n d=true->d.canLay0=true∧d.depth≤n:=by
 intro n
 induction n with
 | zero=>
  intro d hd;cases d <;> simp_all [plT,PyData.canLay0,PyData.depth]
 | succ n ih=>
  have hl:∀(xs:List PyData),xs.all (plT n)=true->PyData.canLayAll0 xs=true∧PyData.depthAll xs≤n:=by
   intro xs
   induction xs with
   | nil=>intro _;exact ⟨by simp [PyData.canLayAll0],by simp [PyData.depthAll]⟩
   | cons x xs ihx=>
    intro h1;rw [List.all_cons,Bool.and_eq_true] at h1;obtain ⟨a1,a2⟩:=ih h1.1;obtain ⟨b1,b2⟩:=ihx h1.2;refine ⟨by rw [PyData.canLayAll0,a1,b1];rfl,?_⟩;rw [PyData.depthAll]
    lia
  intro d hd;cases d <;> first
   | (simp_all [plT,PyData.canLay0,PyData.depth];done)
   | (rename_i xs;obtain ⟨a1,a2⟩:=hl xs hd;refine ⟨(by rw [PyData.canLay0];exact a1),?_⟩;rw [PyData.depth];lia)
noncomputable def gz (w:World):Nat->PyData->Int
 | _,.int i=>GH w (.inl i)
 | _,.str x=>GH w (.inr x)
 | n+1,.tuple xs=>reduceHash (Builtin.Tuple.tupleHashOf (xs.map (gz w n)))
 | _,_=>0
theorem zH:∀(n:Nat) {A:Around} {s:Shared} {d:PyData} {v:Value} {as:List Addr} {Q:Int->Shared->Prop},A.units+n < cLine->plT n d=true->Reads s.heap v d as->(∀k,Q (gz w n d) {s with toks:=s.toks+k})->
  wpAny (model P w) A (pyHash v) Q E s:=by
 have leaf:∀(n:Nat) {A:Around} {s:Shared} {d:PyData} {v:Value} {as:List Addr} {Q:Int->Shared->Prop},(∀xs,d≠.tuple xs)->plT n d=true->Reads s.heap v d as->(∀k,Q (gz w n d) {s with toks:=s.toks+k})->wpAny (model P w) A (pyHash v) Q E s:=by
  intro n A s d v as Q hnt hp hr h;cases hr with
  | int i t=>exact (aZ P w).pyHash (k:=.inl i) (oF P w i t) (by have:=h 1;cases n <;> exact this)
  | str x t=>exact (aZ P w).pyHash (k:=.inr x) (oE P w x t) (by have:=h 1;cases n <;> exact this)
  | tuple=>exact absurd rfl (hnt _)
  | none=>cases n <;> simp [plT] at hp
  | bool=>cases n <;> simp [plT] at hp
  | list=>cases n <;> simp [plT] at hp
  | dict=>cases n <;> simp [plT] at hp
 intro n
 induction n with
 | zero=>
  intro A s d v as Q hu hp hr h;exact leaf 0 (fun xs e=>by subst e;simp [plT] at hp) hp hr h
 | succ n ih=>
  intro A s d v as Q hu hp hr h
  by_cases hnt:∀xs,d≠.tuple xs
  ·exact leaf (n+1) hnt hp hr h
  ·have:∃xs,d=.tuple xs:=Classical.byContradiction fun z=>hnt fun xs e=>z ⟨xs,e⟩;obtain ⟨xs,rfl⟩:=this;cases hr with
   | @tuple a o vs m _ _ ho hc hd hall=>
    have hT:s.TypeIs (.ref a) "tuple":=⟨o,ho,hc⟩;have hp':xs.all (plT n)=true:=hp;unfold pyHash
    first | unfold pyHashByItsType | skip
    first | refine wpAny_bind (wpAny_cRoomFor_or (.inr (by lia)) ?_) | skip
    refine wpAny_bind (wpAny_specialOf hT F.slot_tuple_hash.lookup ?_);show wpAny _ _ (if (some (Value.builtin "tuple.__hash__")==some Value.none)=true then _ else _) Q E s;rw [if_neg (by rw [beq_builtin_none];exact Bool.false_ne_true)];refine wpAny_bind (wpAny_specialOf hT F.slot_tuple_hash.lookup ?_);show wpAny _ _ (callSpecialIfBoundUnlessNone? (.ref a) "__hash__" _ >>=_) Q E s;refine wpAny_bind (wpAny_callSpecialIfBoundUnlessNone?_slot hT F.slot_tuple_hash (wpAny_call_entry F.slot_tuple_hash hT F.entry_tuple_hash ?_ (F.args_tuple_hash_1 _)));show wpAny _ _ (Builtin.Tuple.tupleItemsOf (.ref a) >>=_) _ _ s;refine wpAny_bind (wpAny_tupleItemsOf ho hd ?_);refine wpAny_bind ?_;rw [←Array.forIn_toList];refine wpAny_forIn_list _
     (fun rest (b:Array Int) s'=>∃done left as',xs=done++left∧ReadsAll s.heap rest left as'∧b.toList=done.map (gz w n)∧∃k,s'={s with toks:=s.toks+k})
     _ ?_ ?_ _ _ ⟨[],xs,_,rfl,hall,rfl,0,rfl⟩
    ·rintro x rest b s' ⟨done,left,as',e,hl,hb,k,rfl⟩;cases hl with
     | @cons _ _ d1 ds bs cs h1 hl'=>
      have hd1:plT n d1=true:=by
       rw [List.all_eq_true] at hp';exact hp' d1 (by rw [e];simp)
      refine wpAny_bind (ih (A:=A.in1) (s:={s with toks:=s.toks+k}) (by rw [Around.in1_units];lia) hd1 h1 fun k2=>?_)
      first
       | exact wpAny_pure ⟨done++[d1],ds,_,by rw [e];simp,hl',by simp [hb],k+k2,by simp [Nat.add_assoc]⟩
       | exact wpAny_bind (wpAny_pure (wpAny_pure ⟨done++[d1],ds,_,by rw [e];simp,hl',by simp [hb],k+k2,by simp [Nat.add_assoc]⟩))
    ·rintro b s' ⟨done,left,as',e,hl,hb,k,rfl⟩;cases hl;rw [List.append_nil] at e;subst e;show wpAny _ _ (retInt (Builtin.Tuple.tupleHashOf b.toList)) _ _ _;rw [hb];refine wpAny_ret_mkInt ?_;show wpAny _ _ (if (decide (-(2:Int)^63≤Builtin.Tuple.tupleHashOf (xs.map (gz w n)))&&decide (Builtin.Tuple.tupleHashOf (xs.map (gz w n)) < 2^63))=true then _ else _) Q E _;have h:=h (k+1);unfold gz reduceHash at h
     by_cases hr:(decide (-(2:Int)^63≤Builtin.Tuple.tupleHashOf (xs.map (gz w n)))&&decide (Builtin.Tuple.tupleHashOf (xs.map (gz w n)) < 2^63))=true
     ·rw [if_pos hr];rw [if_pos hr] at h;exact wpAny_pure (by simpa [Nat.add_assoc] using h)
     ·rw [if_neg hr];rw [if_neg hr] at h;exact wpAny_bind (wpAny_rule (wpAny_pure (by simpa [Nat.add_assoc] using h)))
theorem BZ (n:Nat) (hu:A.units+n < cLine) (pd:plT n d=true) (pe:plT n e=true) (rd:Reads s.heap u d as) (re:Reads s.heap v e bs) (h:Q (PyData.eqv d e) s):
  wpAny (model P w) A (eqBool u v) Q E s:=by
 have c1:=pH n pd;have c2:=pH n pe;refine eqBoolOverData P w A E s u v d e as bs Q rd re c1.1 c2.1 ?_ h;have:min d.depth e.depth≤d.depth:=Nat.min_le_left _ _
 lia
theorem oD:∀(n:Nat) {A:Around} {s:Shared} {d:PyData} {v:Value} {as:List Addr} {Q:Bool->Shared->Prop},plT n d=true->Reads s.heap v d as->Q true s->∀m,n≤m->wpAny (model P w) A (eqIsQuiet m v) Q E s:=by
 intro n
 induction n with
 | zero=>
  intro A s d v as Q hp hr h m hm;have:carriedByValue v=true:=by cases hr <;> first | rfl | simp [plT] at hp
  rw [eqIsQuiet_byValue _ this];exact wpAny_pure h
 | succ n ih=>
  intro A s d v as Q hp hr h m hm;cases hr with
  | @tuple a o vs k xs _ ho hc hd hall=>
   obtain ⟨m,rfl⟩:∃m',m=m'+1:=⟨m-1,by lia⟩;have hT:s.TypeIs (.ref a) "tuple":=⟨o,ho,hc⟩;have hp':xs.all (plT n)=true:=hp;unfold eqIsQuiet;refine wpAny_bind (wpAny_specialOf hT F.slot_tuple_eq.lookup ?_);show wpAny _ _ (isInstance (.ref a) (.type "tuple") >>=_) _ _ s;refine wpAny_bind (wpAny_isInstance hT isSubtype_tuple_tuple ?_);simp only [Bool.not_true,Bool.false_eq_true,if_false];refine wpAny_bind (wpAny_seqItems ho hd ?_);refine wpAny_bind ?_;show wpAny _ _ (forIn vs _ _) _ _ s;rw [←Array.forIn_toList];refine wpAny_forIn_list _ (fun rest r s'=>r.1=none∧s'=s∧∃ds as',ReadsAll s.heap rest ds as'∧ds.all (plT n)=true) _ ?_ ?_ _ _ ⟨rfl,rfl,xs,_,hall,hp'⟩
   ·rintro v rest r s' ⟨hr,rfl,ds,as',hl,hds⟩;cases hl with
    | cons h1 h2=>
     rw [List.all_cons,Bool.and_eq_true] at hds;refine wpAny_bind (ih hds.1 h1 ?_ m (by lia));simp only [Bool.not_true,Bool.false_eq_true,if_false];exact wpAny_pure ⟨rfl,rfl,_,_,h2,hds.2⟩
   ·rintro ⟨r1,r2⟩ s' ⟨hr,rfl,_⟩;simp only at hr;subst hr;exact wpAny_pure h
  | int i t=>rw [eqIsQuiet_byValue _ rfl];exact wpAny_pure h
  | str i t=>rw [eqIsQuiet_byValue _ rfl];exact wpAny_pure h
  | none=>simp [plT] at hp
  | bool=>simp [plT] at hp
  | list=>simp [plT] at hp
  | dict=>simp [plT] at hp
theorem hY (n:Nat) (h:carriedByValue v=true):ofAClassStatement n v=pure false:=by
 cases v with
 | ref a=>simp [carriedByValue] at h
 | _=>first | rfl | simp [ofAClassStatement] | (unfold ofAClassStatement;rfl)
theorem oM:∀(n:Nat) {A:Around} {s:Shared} {d:PyData} {v:Value} {as:List Addr} {Q:Bool->Shared->Prop},plT n d=true->Reads s.heap v d as->Q false s->∀m,n≤m->wpAny (model P w) A (ofAClassStatement m v) Q E s:=by
 intro n
 induction n with
 | zero=>
  intro A s d v as Q hp hr h m hm;have:carriedByValue v=true:=by cases hr <;> first | rfl | simp [plT] at hp
  rw [hY _ this];exact wpAny_pure h
 | succ n ih=>
  intro A s d v as Q hp hr h m hm;cases hr with
  | @tuple a o vs k xs _ ho hc hd hall=>
   obtain ⟨m,rfl⟩:∃m',m=m'+1:=⟨m-1,by lia⟩;have hT:s.TypeIs (.ref a) "tuple":=⟨o,ho,hc⟩;have hp':xs.all (plT n)=true:=hp;unfold ofAClassStatement;refine wpAny_bind (wpAny_typeOf hT ?_);dsimp only;refine wpAny_bind ?_;refine wpAny_pure ?_;simp only [Bool.not_true,Bool.false_eq_true,if_false];refine wpAny_bind (wpAny_seqItems ho hd ?_);dsimp only;refine wpAny_bind ?_;show wpAny _ _ (forIn vs _ _) _ _ s;rw [←Array.forIn_toList];refine wpAny_forIn_list _ (fun rest r s'=>r.1=none∧s'=s∧∃ds as',ReadsAll s.heap rest ds as'∧ds.all (plT n)=true) _ ?_ ?_ _ _ ⟨rfl,rfl,xs,_,hall,hp'⟩
   ·rintro v rest r s' ⟨hr,rfl,ds,as',hl,hds⟩;cases hl with
    | cons h1 h2=>
     rw [List.all_cons,Bool.and_eq_true] at hds;refine wpAny_bind (ih hds.1 h1 ?_ m (by lia));simp only [Bool.not_true,Bool.false_eq_true,if_false];exact wpAny_pure ⟨rfl,rfl,_,_,h2,hds.2⟩
   ·rintro ⟨r1,r2⟩ s' ⟨hr,rfl,_⟩;simp only at hr;subst hr;exact wpAny_pure h
  | int i t=>rw [hY _ rfl];exact wpAny_pure h
  | str i t=>rw [hY _ rfl];exact wpAny_pure h
  | none=>simp [plT] at hp
  | bool=>simp [plT] at hp
  | list=>simp [plT] at hp
  | dict=>simp [plT] at hp
theorem zJ:∀(n:Nat) {A:Around} {s:Shared} {d:PyData} {v:Value} {as:List Addr} {Q:Bool->Shared->Prop},plT n d=true->Reads s.heap v d as->(∀b,Q b s)->∀m,wpAny (model P w) A (hashByValue m v) Q E s:=by
 intro n
 induction n with
 | zero=>
  intro A s d v as Q hp hr h m;cases hr with
  | int i t=>rw [hashByValue_scannable m (x:=.int i t) rfl];exact wpAny_pure (h _)
  | str i t=>rw [hashByValue_scannable m (x:=.str i t) rfl];exact wpAny_pure (h _)
  | none=>simp [plT] at hp
  | bool=>simp [plT] at hp
  | list=>simp [plT] at hp
  | dict=>simp [plT] at hp
  | tuple=>simp [plT] at hp
 | succ n ih=>
  intro A s d v as Q hp hr h m;cases hr with
  | @tuple a o vs k xs _ ho hc hd hall=>
   have hT:s.TypeIs (.ref a) "tuple":=⟨o,ho,hc⟩;have hp':xs.all (plT n)=true:=hp;cases m with
   | zero=>unfold hashByValue;exact wpAny_pure (h _)
   | succ m=>
    unfold hashByValue;refine wpAny_bind (wpAny_specialOf hT F.slot_tuple_hash.lookup ?_);dsimp only;refine wpAny_bind (wpAny_seqItems ho hd ?_);refine wpAny_bind ?_;show wpAny _ _ (forIn vs _ _) _ _ s;rw [←Array.forIn_toList];refine wpAny_forIn_list _ (fun rest r s'=>r.1=none∧s'=s∧∃ds as',ReadsAll s.heap rest ds as'∧ds.all (plT n)=true) _ ?_ ?_ _ _ ⟨rfl,rfl,xs,_,hall,hp'⟩
    ·rintro v rest r s' ⟨hr,rfl,ds,as',hl,hds⟩;cases hl with
     | cons h1 h2=>
      rw [List.all_cons,Bool.and_eq_true] at hds;refine wpAny_bind (ih hds.1 h1 (fun b=>?_) m);cases b with
      | true=>
       simp only [Bool.not_true,Bool.false_eq_true,if_false];exact wpAny_pure ⟨rfl,rfl,_,_,h2,hds.2⟩
      | false=>
       simp only [Bool.not_false,if_true];exact wpAny_pure (wpAny_pure (h _))
    ·rintro ⟨r1,r2⟩ s' ⟨hr,rfl,_⟩;simp only at hr;subst hr;exact wpAny_pure (h _)
  | int i t=>rw [hashByValue_scannable m (x:=.int i t) rfl];exact wpAny_pure (h _)
  | str i t=>rw [hashByValue_scannable m (x:=.str i t) rfl];exact wpAny_pure (h _)
  | none=>simp [plT] at hp
  | bool=>simp [plT] at hp
  | list=>simp [plT] at hp
  | dict=>simp [plT] at hp
structure TabOk (es:Array (Int×Value)) (t:SetTable):Prop where
 mask:t.mask=7
 dum:t.dummies=#[]
 ris:je t.place
 sz:t.place.size=es.size
 le:es.size≤4
 reach:∀(i j:Nat) (e:Int×Value),t.place[i]?=some j->es[i]?=some e->∃n,(road t e.1 n).j=j∧∀m,m < n->(road t e.1 m).j∈t.place.toList
def CH (w:World) (h:Heap) (n:Nat) (e:Int×Value) (d:PyData):Prop:=plT n d=true∧(∃as,Reads h e.2 d as)∧e.1=gz w n d∧∃a,e.2=.ref a
def ic (w:World) (h:Heap) (n:Nat) (es:Array (Int×Value)) (ds:List PyData):Prop:=ds.length=es.size∧∀(i:Nat) (e:Int×Value) (d:PyData),es[i]?=some e->ds[i]?=some d->CH w h n e d
theorem ic.at {w:World} {h:Heap} {n:Nat} {es:Array (Int×Value)} {ds:List PyData} (E:ic w h n es ds) {i:Nat} {e:Int×Value} (he:es[i]?=some e):∃d,ds[i]?=some d∧CH w h n e d:=by
 have hi:i < es.size:=(Array.getElem?_eq_some_iff.mp he).1;have hd:ds[i]?=some (ds[i]'(by rw [E.1];exact hi)):=List.getElem?_eq_getElem _;exact ⟨_,hd,E.2 i e _ he hd⟩
theorem TabOk.fits (T:TabOk es t):t.fits es.size=true:=by
 unfold SetTable.fits SetTable.fill;rw [T.sz,T.dum,T.mask];have:=T.le;simp
 lia
theorem TabOk.zM (T:TabOk es t) (h:Int):∃N,N < 21∧(road t h N).j∉t.place.toList∧∀i,i < N->(road t h i).j∈t.place.toList:=by
 obtain ⟨n,h1,h2⟩:=xc T.mask h (by rw [T.sz];have:=T.le;lia);obtain ⟨m,m1,m2,m3⟩:=BQ (p:=fun i=>(road t h i).j∉t.place.toList) h2;exact ⟨m,by lia,m2,fun i hi=>Classical.byContradiction (m3 i hi)⟩
theorem AF (hn:n≤8) (px:plT n dx=true) (rx:Reads s.heap x dx as):∀(ys:List Value),(∀y∈ys,∃d as,plT n d=true∧Reads s.heap y d as)->∀{Q:Bool->Shared->Prop},Q false s->wpAny (model P w) A (searchCouldBeSeen x ys) Q E s:=by
 intro ys hys Q h;unfold searchCouldBeSeen;refine wpAny_bind ?_;refine wpAny_forIn_list _ (fun rest r s'=>r.1=none∧s'=s∧∀y∈rest,∃d as,plT n d=true∧Reads s.heap y d as) _ ?_ ?_ _ _ ⟨rfl,rfl,hys⟩
 ·rintro y rest r s' ⟨hr,rfl,hl⟩;obtain ⟨d,bs,pd,rd⟩:=hl y (.head _);have hl':=fun z hz=>hl z (.tail _ hz);dsimp only
  split
  all_goals
   split
   ·exact wpAny_pure ⟨rfl,rfl,hl'⟩
   ·refine wpAny_bind (oD n px rx ?_ 8 hn);simp only [Bool.not_true,Bool.false_eq_true,if_false];refine wpAny_bind (oD n pd rd ?_ 8 hn);simp only [Bool.not_true,Bool.false_eq_true,if_false];refine wpAny_bind (oM n px rx ?_ 8 hn);simp only [Bool.false_eq_true,if_false];refine wpAny_bind (oM n pd rd ?_ 8 hn);simp only [Bool.false_eq_true,if_false];exact wpAny_pure ⟨rfl,rfl,hl'⟩
 ·rintro ⟨r1,r2⟩ s' ⟨hr,rfl,_⟩;simp only at hr;subst hr;exact wpAny_pure h
theorem wX {a b:Addr} {ob:Obj} {es:Array (Int×Value)} {ep:Nat} {t:SetTable} {n:Nat} {ds:List PyData} {dx:PyData} {as:List Addr} {h:Int} {N:Nat} {Q:SetFound->Shared->Prop}
  (hob:s.heap.get? a=some ob) (hdt:ob.data=.set es ep t) (T:TabOk es t) (L:ic w s.heap n es ds) (hn:n≤8) (hu:A.units+n < cLine) (px:plT n dx=true) (rx:Reads s.heap (.ref b) dx as) (hh:h=gz w n dx)
  (hN:(road t h N).j∉t.place.toList) (hl:∀i,i < N->(road t h i).j∈t.place.toList) (hN21:N < 21)
  (hit:dx∈ds->Q (.there none) s) (miss:dx∉ds->Q (.free (road t h N).j false) s):
  ∀(k fuel m:Nat) (stand:Option SetTable.Probe),N-m=k->m≤N->N-m < fuel->stand.getD (t.probeStart h)=road t h m->(∀(c i:Nat) (d:PyData),c < m->t.place[i]?=some (road t h c).j->ds[i]?=some d->d≠dx)->
   wpAny (model P w) A (setSearchFrom a (.ref b) h true fuel stand) Q E s:=by
 intro k
 induction k using Nat.strongRecOn with
 | _ k ih=>
  intro fuel m stand hk hm hf hst hin;obtain ⟨fuel,rfl⟩:∃f,fuel=f+1:=⟨fuel-1,by lia⟩;unfold setSearchFrom;refine wpAny_bind (wpAny_setState_of hob hdt T.fits ?_);dsimp only;have hgw:t.gaveWay=false:=by unfold SetTable.gaveWay;rw [T.mask];rfl
  rw [hgw];simp only [Bool.false_eq_true,if_false];rw [hst];generalize hha:(fun (i:Nat)=>((es[i]?.map fun (e:Int×Value)=>e.1).getD 0:Int))=hashAt;have hfuel:N-m < 10*SetTable.turns t.mask:=by unfold SetTable.turns;rw [T.mask];lia
  have hpr:=vH T.ris T.dum hashAt h hN (10*SetTable.turns t.mask) m hm hfuel hl;have at_:∀i j,t.place[i]?=some j->∃e,es[i]?=some e:=fun i j hj=>by
   have:i < es.size:=by rw [←T.sz];exact (Array.getElem?_eq_some_iff.mp hj).1
   exact ⟨es[i],Array.getElem?_eq_getElem this⟩
  have hhe:∀i e,es[i]?=some e->hashAt i=e.1:=fun i e he=>by rw [←hha];simp [he]
  rcases hpr with ⟨p1,p2⟩ | ⟨c,i,c1,c2,c3,c4,c5,c6⟩
  ·have hp:t.probe hashAt h (road t h m)=some (.empty (road t h N).j none):=p1;subst hha
   erw [hp]
   dsimp only;refine wpAny_pure (miss fun hmem=>?_);obtain ⟨i,hi⟩:=List.mem_iff_getElem?.mp hmem;have his:i < es.size:=by rw [←L.1];exact (List.getElem?_eq_some_iff.mp hi).1
   have he:=Array.getElem?_eq_getElem (xs:=es) his;obtain ⟨hp1,hr1,hh1,_⟩:=L.2 i _ dx he hi;have hpl:i < t.place.size:=by rw [T.sz];exact his
   have hj:=Array.getElem?_eq_getElem (xs:=t.place) hpl;obtain ⟨n0,r1,r2⟩:=T.reach i _ _ hj he;rw [hh1,←hh] at r1 r2;have hn0:n0 < N:=by
    rcases Nat.lt_trichotomy n0 N with q | q | q
    ·exact q
    ·subst q;exact absurd (by rw [r1];simp) hN
    ·exact absurd (r2 N q) hN
   rcases Nat.lt_or_ge n0 m with q | q
   ·exact hin n0 i dx q (by rw [r1];exact hj) hi rfl
   ·exact p2 n0 i q hn0 (by rw [r1];exact hj) (by rw [hhe i _ he,hh1,hh])
  ·have hp:t.probe hashAt h (road t h m)=some (.candidate (road t h c).j i (road t h (c+1))):=c6;subst hha
   erw [hp]
   dsimp only;obtain ⟨⟨h',y⟩,he⟩:=at_ i _ c3
   obtain ⟨dy,hdy,py,⟨bs,ry⟩,hhy,⟨ya,hya⟩⟩:=L.at he;dsimp only at ry hhy hya;subst hya;have seen:∀{Q':Bool->Shared->Prop},Q' false s->wpAny (model P w) A (searchCouldBeSeen (.ref b) ((es.filter (·.1==h)).toList.map (·.2))) Q' E s:=fun {Q'} q=>by
    refine AF hn px rx _ (fun y hy=>?_) q;obtain ⟨e,he,rfl⟩:=List.mem_map.mp hy;have he':e∈es.toList:=by
     have:=Array.mem_toList_iff.mp he;exact Array.mem_toList_iff.mpr (Array.mem_filter.mp this).1
    obtain ⟨i,hi,hv⟩:=Array.getElem_of_mem (Array.mem_toList_iff.mp he');obtain ⟨d,_,pd,⟨bs,rd⟩,_,_⟩:=L.at (i:=i) (e:=e) (by rw [Array.getElem?_eq_getElem hi,hv]);exact ⟨d,bs,pd,rd⟩
   have go:wpAny (model P w) A (do
     let some (_,y):=es[i]? | unsupported "internal:set-entry"
     let equal←holding [y] (eqBool y (.ref b));let (es',_,t')←setState a
     if true&&equal then return .there none
     let some same:=t'.sameMemory t.moves t.mask | unsupported "set.changed-during-lookup:is-the-new-block-at-the-old-address"
     let still←match (if same then t'.slot (road t h c).j else .empty) with
      | .live i'=>match es'[i']? with
       | some (_,y')=>do pure (if←isSame y' y then some i' else none)
       | none=>pure none
      | _=>pure none
     match still with
     | none=>rule "set.search.anew";setSearchFrom a (.ref b) h true fuel none
     | some i'=>if equal then return .there (some i') else setSearchFrom a (.ref b) h true fuel (some (road t h (c+1)))) Q E s:=by
    rw [he];dsimp only;refine wpAny_bind (wpAny_holding (BZ n hu py px ry rx ?_));refine wpAny_bind (wpAny_setState_of hob hdt T.fits ?_);dsimp only;cases hq:PyData.eqv dy dx with
    | true=>
     rw [Bool.true_and,if_pos rfl];refine wpAny_pure (hit ?_);rw [←t7 n py px hq];exact List.mem_of_getElem? hdy
    | false=>
     rw [Bool.true_and,if_neg Bool.false_ne_true];have hsm:t.sameMemory t.moves t.mask=some true:=by unfold SetTable.sameMemory;rw [if_pos (by simp)]
     rw [hsm];dsimp only;rw [if_pos rfl,so T.ris c3];dsimp only;rw [he];dsimp only;refine wpAny_bind (wpAny_isSame_ref_self (wpAny_bind (wpAny_pure ?_)));rw [if_pos rfl];dsimp only;rw [if_neg Bool.false_ne_true];refine ih (N-(c+1)) (by lia) fuel (c+1) _ rfl (by lia) (by lia) rfl fun c' i' d' hc' hp' hd'=>?_;have his':i' < es.size:=by rw [←L.1];exact (List.getElem?_eq_some_iff.mp hd').1
     have he':=Array.getElem?_eq_getElem (xs:=es) his';obtain ⟨pd',_,hh',_⟩:=L.2 i' _ d' he' hd';rcases Nat.lt_or_ge c' m with q | q
     ·exact hin c' i' d' q hp' hd'
     ·rcases Nat.lt_or_ge c' c with q2 | q2
      ·intro z;subst z;exact c5 c' i' q q2 hp' (by rw [hhe i' _ he',hh',hh])
      ·have:c'=c:=by lia
       subst this;have:i'=i:=(iy T.ris hp').symm.trans (iy T.ris c3);subst this;intro z;rw [hdy] at hd';injection hd' with hd'
       rw [hd',z,eqv_refl dx (pH n px).1] at hq;cases hq
   cases hled:t.led with
   | true=>
    simp only [Bool.not_true,Bool.false_eq_true,if_false];exact go
   | false=>
    simp only [Bool.not_false,if_true];refine wpAny_bind (seen ?_);simp only [Bool.false_eq_true,if_false];exact go
theorem mK (xs:Array α) (p:Nat) (x:α) (hp:p≤xs.size) (i:Nat):(SetTable.insertAt xs p x)[i]?=if i < p then xs[i]? else if i=p then some x else xs[i-1]?:=by
 rw [←Array.getElem?_toList,SetTable.toList_insertAt]
 by_cases h1:i < p
 ·rw [if_pos h1,List.getElem?_append_left (by simp;lia),List.getElem?_take,if_pos h1,Array.getElem?_toList]
 ·rw [if_neg h1,List.getElem?_append_right (by simp;lia)];have hl:(xs.toList.take p).length=p:=by simp;lia
  rw [hl]
  by_cases h2:i=p
  ·subst h2;rw [if_pos rfl,Nat.sub_self];rfl
  ·rw [if_neg h2];obtain ⟨k,hk⟩:∃k,i-p=k+1:=⟨i-p-1,by lia⟩;rw [hk,List.getElem?_cons_succ,List.getElem?_drop,Array.getElem?_toList];congr 1
   lia
noncomputable def BL (ds:List PyData) (p:Nat) (d:PyData):List PyData:=ds.take p++d::ds.drop p
theorem sN (ds:List PyData) (p:Nat) (d:PyData):(BL ds p d).Perm (ds++[d]):=by
 unfold BL;have h1:(ds.take p++d::ds.drop p).Perm (d::(ds.take p++ds.drop p)):=List.perm_middle;rw [List.take_append_drop] at h1;exact h1.trans (List.perm_append_singleton d ds).symm
theorem BK (ds:List PyData) (p:Nat) (d:PyData) (hp:p≤ds.length) (i:Nat):(BL ds p d)[i]?=if i < p then ds[i]? else if i=p then some d else ds[i-1]?:=by
 unfold BL
 by_cases h1:i < p
 ·rw [if_pos h1,List.getElem?_append_left (by simp;lia),List.getElem?_take,if_pos h1]
 ·rw [if_neg h1,List.getElem?_append_right (by simp;lia)];have hl:(ds.take p).length=p:=by simp;lia
  rw [hl]
  by_cases h2:i=p
  ·subst h2;rw [if_pos rfl,Nat.sub_self];rfl
  ·rw [if_neg h2];obtain ⟨k,hk⟩:∃k,i-p=k+1:=⟨i-p-1,by lia⟩;rw [hk,List.getElem?_cons_succ,List.getElem?_drop];congr 1
   lia
theorem je.ins (hx:je xs) (hj:j∉xs.toList):je (SetTable.insertAt xs (SetTable.below xs j) j):=by
 obtain ⟨b1,b2,b3⟩:=jc xs j hx;have g:=mK xs (SetTable.below xs j) j b1;generalize SetTable.below xs j=p at b1 b2 b3 g;intro i k hi hk hik;have gi:=g i;have gk:=g k;rw [Array.getElem?_eq_getElem hi] at gi;rw [Array.getElem?_eq_getElem hk] at gk;have b3':∀i (h:i < xs.size),p≤i->j < xs[i]:=fun i h q=>by
  rcases Nat.lt_or_ge j xs[i] with z | z
  ·exact z
  ·have y0:=b3 i h q;have y1:xs[i]=j:=by lia
   have y2:xs[i]∈xs.toList:=by simp
   rw [y1] at y2;exact absurd y2 hj
 have some_lt:∀{i v:Nat},some v=xs[i]?->∃h:i < xs.size,v=xs[i]:=fun {i v} e=>by
  obtain ⟨h1,h2⟩:=Array.getElem?_eq_some_iff.mp e.symm;exact ⟨h1,h2.symm⟩
 by_cases i1:i < p
 ·rw [if_pos i1] at gi;obtain ⟨hi',ei⟩:=some_lt gi;rw [ei]
  by_cases k1:k < p
  ·rw [if_pos k1] at gk;obtain ⟨hk',ek⟩:=some_lt gk;rw [ek];exact hx i k hi' hk' hik
  ·rw [if_neg k1] at gk
   by_cases k2:k=p
   ·rw [if_pos k2] at gk;injection gk with gk
    rw [gk];exact b2 i hi' i1
   ·rw [if_neg k2] at gk;obtain ⟨hk',ek⟩:=some_lt gk;rw [ek];exact Nat.lt_trans (b2 i hi' i1) (b3' _ hk' (by lia))
 ·rw [if_neg i1] at gi;have k1:¬k < p:=by lia
  have k2:¬k=p:=by lia
  rw [if_neg k1,if_neg k2] at gk;obtain ⟨hk',ek⟩:=some_lt gk;rw [ek]
  by_cases i2:i=p
  ·rw [if_pos i2] at gi;injection gi with gi
   rw [gi];exact b3' _ hk' (by lia)
  ·rw [if_neg i2] at gi;obtain ⟨hi',ei⟩:=some_lt gi;rw [ei];exact hx _ _ hi' hk' (by lia)
theorem D6 (hp:p≤xs.size):k∈(SetTable.insertAt xs p j).toList↔k=j∨k∈xs.toList:=by
 rw [(SetTable.insertAt_perm xs p j).mem_iff];simp [or_comm]
theorem TabOk.put (T:TabOk es t) (hle:es.size≤3) (hN:(road t h N).j∉t.place.toList) (hl:∀i,i < N->(road t h i).j∈t.place.toList) (ht:t'.mask=t.mask∧t'.dummies=t.dummies∧t'.place=SetTable.insertAt t.place (SetTable.below t.place (road t h N).j) (road t h N).j):
  TabOk (SetTable.insertAt es (SetTable.below t.place (road t h N).j) (h,x)) t':=by
 obtain ⟨t1,t2,t3⟩:=ht;have hb:=(jc t.place (road t h N).j T.ris).1;have hb':SetTable.below t.place (road t h N).j≤es.size:=by rw [←T.sz];exact hb
 have hs1:(SetTable.insertAt t.place (SetTable.below t.place (road t h N).j) (road t h N).j).size=t.place.size+1:=by
  have:=(SetTable.insertAt_perm t.place (SetTable.below t.place (road t h N).j) (road t h N).j).length_eq
  simpa using this
 have hs2:(SetTable.insertAt es (SetTable.below t.place (road t h N).j) (h,x)).size=es.size+1:=by
  have:=(SetTable.insertAt_perm es (SetTable.below t.place (road t h N).j) (h,x)).length_eq
  simpa using this
 have hr:∀h' n,road t' h' n=road t h' n:=fun h' n=>sr t1 h' n;refine ⟨t1.trans T.mask,t2.trans T.dum,by rw [t3];exact T.ris.ins hN,by rw [t3,hs1,hs2,T.sz],by rw [hs2];lia,fun i j e hi he=>?_⟩;rw [t3,mK _ _ _ hb] at hi;rw [mK _ _ _ hb'] at he;simp only [hr,t3,D6 hb]
 by_cases i1:i < SetTable.below t.place (road t h N).j
 ·rw [if_pos i1] at hi he;obtain ⟨n,n1,n2⟩:=T.reach i j e hi he;exact ⟨n,n1,fun m hm=>.inr (n2 m hm)⟩
 ·rw [if_neg i1] at hi he
  by_cases i2:i=SetTable.below t.place (road t h N).j
  ·rw [if_pos i2] at hi he;injection hi with hi
   injection he with he
   subst hi;subst he;exact ⟨N,rfl,fun m hm=>.inr (hl m hm)⟩
  ·rw [if_neg i2] at hi he;obtain ⟨n,n1,n2⟩:=T.reach _ j e hi he;exact ⟨n,n1,fun m hm=>.inr (n2 m hm)⟩
theorem ic.put (L:ic w h n es ds) (hp:p≤es.size) (E:CH w h n e d):ic w h n (SetTable.insertAt es p e) (BL ds p d):=by
 have hpd:p≤ds.length:=by rw [L.1];exact hp
 refine ⟨?_,fun i e' d' he hd=>?_⟩
 ·have h1:=(SetTable.insertAt_perm es p e).length_eq;have h2:=(sN ds p d).length_eq;simp at h1 h2;rw [h2,h1,L.1]
 ·rw [mK _ _ _ hp] at he;rw [BK _ _ _ hpd] at hd
  by_cases i1:i < p
  ·rw [if_pos i1] at he hd;exact L.2 i e' d' he hd
  ·rw [if_neg i1] at he hd
   by_cases i2:i=p
   ·rw [if_pos i2] at he hd;injection he with he
    injection hd with hd
    subst he;subst hd;exact E
   ·rw [if_neg i2] at he hd;exact L.2 _ e' d' he hd
theorem lD (hk:∀b o vs m,h.get? b=some o->o.data=.seq vs m->h'.get? b=some o):∀(n:Nat) {d:PyData} {v:Value} {as:List Addr},plT n d=true->Reads h v d as->Reads h' v d as:=by
 intro n
 induction n with
 | zero=>
  intro d v as hp hr;cases hr with
  | int i t=>exact .int i t
  | str x t=>exact .str x t
  | none=>simp [plT] at hp
  | bool=>simp [plT] at hp
  | list=>simp [plT] at hp
  | dict=>simp [plT] at hp
  | tuple=>simp [plT] at hp
 | succ n ih=>
  have hl:∀(ds:List PyData) {vs:List Value} {as:List Addr},ds.all (plT n)=true->ReadsAll h vs ds as->ReadsAll h' vs ds as:=by
   intro ds
   induction ds with
   | nil=>intro vs as _ hr;cases hr;exact .nil
   | cons d ds ihd=>
    intro vs as hp hr;rw [List.all_cons,Bool.and_eq_true] at hp;cases hr with
    | cons h1 h2=>exact .cons (ih hp.1 h1) (ihd hp.2 h2)
  intro d v as hp hr;cases hr with
  | int i t=>exact .int i t
  | str x t=>exact .str x t
  | none=>simp [plT] at hp
  | bool=>simp [plT] at hp
  | list=>simp [plT] at hp
  | dict=>simp [plT] at hp
  | tuple h1 h2 h3 h4=>exact .tuple (hk _ _ _ _ h1 h3) h2 h3 (hl _ hp h4)
theorem ic.keep (L:ic w h n es ds) (hk:∀b o vs m,h.get? b=some o->o.data=.seq vs m->h'.get? b=some o):ic w h' n es ds:=
 ⟨L.1,fun i e d he hd=>by
  obtain ⟨a1,⟨as,a2⟩,a3,a4⟩:=L.2 i e d he hd;exact ⟨a1,⟨as,lD hk n a1 a2⟩,a3,a4⟩⟩
noncomputable def zK (ds:List PyData) (d:PyData):Bool:=ds.any fun e=>PyData.eqv e d
noncomputable def pq (ds:List PyData) (d:PyData):List PyData:=if zK ds d then ds else ds++[d]
theorem BP (hs:∀e∈ds,plT n e=true) (hd:plT n d=true):zK ds d=true↔d∈ds:=by
 unfold zK;rw [List.any_eq_true];constructor
 ·rintro ⟨e,he,q⟩;rw [←t7 n (hs e he) hd q];exact he
 ·intro h;exact ⟨d,h,eqv_refl d (pH n hd).1⟩
theorem sub_tuple_set':isSubtype (.type "tuple") (.type "set")=pure false:=by rw [isSubtype_type];kernel_rfl
theorem sub_tuple_frozenset':isSubtype (.type "tuple") (.type "frozenset")=pure false:=by rw [isSubtype_type];kernel_rfl
structure Adds (P:Program) (w:World) (A:Around) (h₀:Heap) (S:Addr) (items:Array Value) (J:Nat->Heap->Prop):Prop where
 frame:∀(i:Nat) (h h':Heap),(∀o,h.get? S=some o->h'.get? S=some o)->J i h->J i h'
 fresh:∀(led:Bool) (h:Heap),h.get? S=some {cls:=.type "set",dict:=none,data:=.set #[] 0 (.fresh 0 0 led)}->J 0 h
 step:∀(i:Nat) (v:Value) (s:Shared) (E:Value->Shared->Prop) (Q:Bool->Shared->Prop),items[i]?=some v->J i s.heap->(∀b o,h₀.get? b=some o->s.heap.get? b=some o)->
  (∀r h' tk,s.toks≤tk->Heap.SameBut S s.heap h'->J (i+1) h'->Q r {s with heap:=h',toks:=tk})->wpAny (model P w) A (setAdd S v) Q E s
theorem AE {A:Around} {R:Result->Shared->Prop} {I:Addr} {fp wr:List Addr} {G:Array GenState->Array GenState->Prop} {items:Array Value} {St:Nat->Shared->Prop} {h₀:Heap} {S:Addr} {J:Nat->Heap->Prop}
  (W:WalksS P w A.in1 I fp wr G items.size (fun i v=>items[i]?=some v) St) (hSf:S∉fp) (D:Adds P w A.in1 h₀ S items J) (hw0:∀b∈wr,h₀.get? b=none) (hS0:h₀.get? S=none):
  ∀(k i:Nat) (s:Shared),items.size-i=k->i≤items.size->St i s->J i s.heap->(∀b o,h₀.get? b=some o->s.heap.get? b=some o)->
   (∀s',Moved (S::wr) G s s'->J items.size s'.heap->R (.ok (.ret .none)) s')->
   codeAny (model P w) A (.builtin "set.update.loop" ⟨[.ref S,.ref I],[]⟩) R s:=by
 have hSw:S∉wr:=fun h=>hSf (W.sub _ h);have hsub:∀b∈wr,b∈S::wr:=fun b hb=>List.mem_cons_of_mem _ hb;intro k
 induction k with
 | zero=>
  intro i s hk hi hst hJ h0 hR;have hin:i=items.size:=by lia
  subst hin;refine codeAny_builtin F.entry_set_update_loop ?_;rw [Around.under_plainId F.plain_set_update_loop _];show wpAny _ A.in1 (pyNext (.ref I) >>=_) _ _ s;refine wpAny_bind (W.done s _ _ hst fun s' hm=>?_);show wpAny _ A.in1 (ret Value.none) _ _ s';exact wpAny_pure (hR s' (hm.mono hsub) (D.frame _ _ _ (fun o e=>hm.heap S o hSw e) hJ))
 | succ k ih=>
  intro i s hk hi hst hJ h0 hR;have hlt:i < items.size:=by lia
  refine codeAny_builtin F.entry_set_update_loop ?_;rw [Around.under_plainId F.plain_set_update_loop _];show wpAny _ A.in1 (pyNext (.ref I) >>=_) _ _ s;refine wpAny_bind (W.item i s _ _ hlt hst fun v s' hP hst' hm=>?_);have hJ':=D.frame i s.heap s'.heap (fun o e=>hm.heap S o hSw e) hJ;have h0':∀b o,h₀.get? b=some o->s'.heap.get? b=some o:=fun b o e=>hm.heap b o (fun hb=>by rw [hw0 b hb] at e;cases e) (h0 b o e);show wpAny _ A.in1 (holding [v] (setAdd S v) >>=_) _ _ s';refine wpAny_bind (wpAny_holding (D.step i v s' _ _ hP hJ' h0' fun r h' tk htk hsb hJ2=>?_));refine wpAny_pure ⟨plainId_quiet F.plain_set_update_loop _,ih (i+1) _ (by lia) hlt (W.frame _ s' _ _ hst' htk fun b hb o e=>?_) hJ2 (fun b o e=>?_) fun s'' hm'' hJ''=>?_⟩
  ·rw [hsb.2 b (fun h:b=S=>hSf (by rw [←h];exact hb))];exact e
  ·rw [hsb.2 b (fun h:b=S=>by rw [h,hS0] at e;cases e)];exact h0' b o e
  ·refine hR s'' (Moved.trans W.gtrans ((hm.mono hsub).then_heap htk fun b o hb e=>?_) hm'') hJ'';rw [hsb.2 b (fun h:b=S=>hb (by rw [h];exact List.mem_cons_self))];exact e
set_option maxHeartbeats 3200000 in
theorem j8 {l:Addr} {items:Array Value} {J:Nat->Heap->Prop} {Q:Value->Shared->Prop}
  (hh:A.handled=none) (hl:s.heap.IsTuple l items) (D:∀A':Around,A'.handled=none->A'.units≤A.units+8->Adds P w A' s.heap s.heap.objs.size items J)
  (h:∀(h':Heap) (tk:Nat),J items.size h'->(∀b o,b < s.heap.objs.size->s.heap.get? b=some o->h'.get? b=some o)->Q (.ref s.heap.objs.size) {s with heap:=h',toks:=tk}):
  wpAny (model P w) A (call (.type "set") [.ref l]) Q E s:=by
 obtain ⟨c,tl,hmro⟩:=F.called_set.mro;have hmade:=F.called_set.made;have hsub:=F.called_set.sub;refine wpAny_call (codeAny_of_tree ?_);show wpAny _ _ (callAny (.type "set") _) _ _ _;refine wpAny_pure ⟨Code.quiet_builtin _ (by decide+kernel),codeAny_builtin F.entry_type_call ?_⟩;rw [Around.under_plain (weight_type_call_type "set" [.ref l] []) rfl];have h1:=F.called_set.notType;have h2:=F.called_set.canCreate;have hct:=F.typeCall_set_1 (.ref l)
 repeat (any_goals (first | assumption | wp_step))
 refine codeAny_mono (code_set_new_1 (.ref l) (E:=E) (Q₁:=fun obj s₁=>∃led:Bool,obj=.ref s.heap.objs.size∧s₁={s with heap:=s.heap.push {cls:=.type "set",dict:=none,data:=.set #[] 0 (.fresh 0 0 led)}}) fun led=>⟨led,rfl,rfl⟩) fun r s₁ hr=>?_;cases r with
 | error e=>exact hr
 | ok fl=>
  cases fl with
  | ret obj=>
   obtain ⟨led,rfl,rfl⟩:=hr;have hS:(s.heap.push {cls:=.type "set",dict:=none,data:=.set #[] 0 (.fresh 0 0 led)}).get? s.heap.objs.size=some {cls:=.type "set",dict:=none,data:=.set #[] 0 (.fresh 0 0 led)}:=Heap.get?_push_size _ rfl;have hT:Shared.TypeIs {s with heap:=s.heap.push {cls:=.type "set",dict:=none,data:=.set #[] 0 (.fresh 0 0 led)}} (.ref s.heap.objs.size) "set":=⟨_,hS,rfl⟩;have hli:=F.called_set.init.lookup;have hbi:=F.called_set.init.bind (.ref s.heap.objs.size)
   repeat (any_goals (first | assumption | wp_step))
   refine codeAny_mono (codeAny_call_builtin (R:=wants (fun r s₂=>r=.none∧∃h' tk,s₂={s with heap:=h',toks:=tk}∧J items.size h'∧
     (∀b o,b < s.heap.objs.size->s.heap.get? b=some o->h'.get? b=some o)) E) F.called_set.init.plain F.entry_set_init (check_set_init_1 hT ?_)) fun r₂ s₂ hr₂=>?_
   ·obtain ⟨ol,hol,hcl,nl,hdl⟩:=hl;obtain ⟨ocls,odict,odata,oslots⟩:=ol;simp only at hcl hdl;subst hcl;subst hdl;have hol':(s.heap.push {cls:=.type "set",dict:=none,data:=.set #[] 0 (.fresh 0 0 led)}).get? l=some {cls:=.type "tuple",dict:=odict,data:=.seq items nl,slots:=oslots}:=Heap.get?_push_of_some _ hol;have hsls:=sub_tuple_set';have hslf:=sub_tuple_frozenset';have hne:(Value.type "tuple"==Value.type "dict")=false:=by decide
    have hl1:(s.heap.push {cls:=.type "set",dict:=none,data:=.set #[] 0 (.fresh 0 0 led)}).IsTuple l items:=⟨_,hol',rfl,nl,rfl⟩;unfold Builtin.«set.__init__» noKeywords Builtin.Frozenset.updateFrom;generalize hPI:pyIter=PI
    wp_walk
    subst hPI;refine wpAny_pyIter_tuple hl1 ?_;refine wpAny_bind (wpAny_runValue ?_);have hlS:l < s.heap.objs.size:=Heap.lt_size hol;have hh3:A.in1.in1.in1.handled=none:=by simp [hh]
    have hneI:l≠(s.heap.push {cls:=.type "set",dict:=none,data:=.set #[] 0 (.fresh 0 0 led)}).objs.size:=by
     rw [Heap.size_push];exact Nat.ne_of_lt (Nat.lt_succ_of_lt hlS)
    have hSf:s.heap.objs.size∉[(s.heap.push {cls:=.type "set",dict:=none,data:=.set #[] 0 (.fresh 0 0 led)}).objs.size,l]:=by
     rw [Heap.size_push];simp only [List.mem_cons,List.mem_singleton,List.not_mem_nil,or_false,not_or];exact ⟨Nat.ne_of_lt (Nat.lt_succ_self _),Nat.ne_of_gt hlS⟩
    have none_of:∀b,s.heap.objs.size≤b->s.heap.get? b=none:=fun b hb=>by
     cases q:s.heap.get? b with
     | none=>rfl
     | some o=>exact absurd (Heap.lt_size q) (Nat.not_lt.mpr hb)
    refine AE ((Walks.tuple hh3 _ l hneI items).toS) hSf (D _ hh3 (by simp only [Around.in1_units];lia)) (fun b hb=>?_) (none_of _ (Nat.le_refl _)) (items.size-0) 0 _ (by lia) (Nat.zero_le _)
     ⟨⟨_,Heap.get?_push_size _ rfl,rfl,rfl⟩,(hl1.push _)⟩ ?hS0 ?hK ?hR
    ·rw [List.mem_singleton] at hb;subst hb;exact none_of _ (by rw [Heap.size_push];lia)
    case hS0=>
     exact (D A hh (by lia)).fresh led _ (Heap.get?_push_of_some _ hS)
    case hK=>
     intro b o e;exact Heap.get?_push_of_some _ (Heap.get?_push_of_some _ e)
    case hR=>
     intro s' hm hJ';obtain ⟨h',g',d',tk',os'⟩:=s';have eg:g'=s.gens:=hm.gens;have ed:d'=s.drawn:=hm.drawn;have eo:os'=s.os:=hm.os;subst eg;subst ed;subst eo;show wpAny _ _ _ _ _ _;refine wpAny_pure ?_;show wpAny _ _ (ret Value.none) _ _ _;refine wpAny_pure ⟨rfl,h',tk',rfl,hJ',fun b o hb e=>?_⟩;have hb1:b≠s.heap.objs.size:=Nat.ne_of_lt hb;have hb2:b≠(s.heap.push {cls:=.type "set",dict:=none,data:=.set #[] 0 (.fresh 0 0 led)}).objs.size:=by
      rw [Heap.size_push];exact Nat.ne_of_lt (Nat.lt_succ_of_lt hb)
     exact hm.heap b o (by simp only [List.mem_cons,List.mem_singleton,List.not_mem_nil,or_false,not_or];exact ⟨hb1,hb2⟩) (Heap.get?_push_of_some _ (Heap.get?_push_of_some _ e))
   ·cases r₂ with
    | error e=>exact hr₂
    | ok fl₂=>
     cases fl₂ with
     | ret r=>
      obtain ⟨rfl,h',tk,rfl,hJ',hk'⟩:=hr₂
      repeat (any_goals (first | assumption | wp_step))
      exact h _ _ hJ' hk'
     | _=>exact hr₂.elim
  | _=>exact hr.elim
def TSB (w:World) (h₀ h:Heap) (a:Addr) (n:Nat) (ds:List PyData):Prop:=
 ∃o es ep t ds',h.get? a=some o∧o.ExactSet∧o.data=.set es ep t∧TabOk es t∧ic w h₀ n es ds'∧ds'.Perm ds
theorem rg (keep:∀b o,h₀.get? b=some o->s.heap.get? b=some o) (hS:TSB w h₀ s.heap a n ds) (hn:n≤8) (hu:A.units+n < cLine) (px:plT n dx=true) (rx0:Reads h₀ (.ref b) dx as) (hroom:ds.length≤3) (h:∀r h',Heap.SameBut a s.heap h'->TSB w h₀ h' a n (pq ds dx)->Q r {s with heap:=h'}):wpAny (model P w) A (setAddHashed a (.ref b) (gz w n dx)) Q E s:=by
 obtain ⟨ob,es,ep,t,ds',hob,hex,hdt,T,L0,hperm⟩:=id hS;have L:=L0.keep (h':=s.heap) fun b o _ _ e _=>keep b o e;have rx:=lD (h':=s.heap) (fun b o _ _ e _=>keep b o e) n px rx0;obtain ⟨N,N1,N2,N3⟩:=T.zM (gz w n dx);have hpl:∀e∈ds,plT n e=true:=fun e he=>by
  obtain ⟨i,hi⟩:=List.mem_iff_getElem?.mp (hperm.mem_iff.mpr he);have his:i < es.size:=by rw [←L.1];exact (List.getElem?_eq_some_iff.mp hi).1
  exact (L.2 i _ e (Array.getElem?_eq_getElem his) hi).1
 have hmem:=BP hpl px;unfold setAddHashed setAddHashedIn;refine wpAny_holding (wpAny_bind (wpAny_setState_of hob hdt T.fits ?_));dsimp only;rw [if_neg (by show ¬(byScan (Value.ref b) es=true);unfold byScan Value.scannable;simp)];refine wpAny_bind ?_;unfold setSearch;refine wX hob hdt T L hn hu px rx rfl N2 N3 N1 (fun hit=>?_) (fun miss=>?_) _ 100000 0 none rfl (Nat.zero_le _) (by lia) rfl (fun c i d hc=>absurd hc (Nat.not_lt_zero _))
 ·dsimp only;refine wpAny_pure ?_;refine h false s.heap (Heap.SameBut.refl a s.heap) ?_;unfold pq;rw [if_pos (hmem.mpr (hperm.mem_iff.mp hit))];exact hS
 ·dsimp only;have hno:zK ds dx=false:=by
   cases q:zK ds dx with
   | false=>rfl
   | true=>exact absurd (hperm.mem_iff.mpr (hmem.mp q)) miss
  refine wpAny_bind (wpAny_setState_of hob hdt T.fits ?_);dsimp only;have hlen:es.size≤3:=by rw [←L.1,hperm.length_eq];exact hroom
  have hb':SetTable.below t.place (road t (gz w n dx) N).j≤es.size:=by rw [←T.sz];exact (jc _ _ T.ris).1
  have hdm:(t.put (road t (gz w n dx) N).j).1.dummies=t.dummies:=by
   unfold SetTable.put;dsimp only;rw [T.dum];rfl
  have fin:∀(t2:SetTable),t2.mask=t.mask->t2.dummies=t.dummies->t2.place=SetTable.insertAt t.place (SetTable.below t.place (road t (gz w n dx) N).j) (road t (gz w n dx) N).j->t2.led=t.led->
    wpAny (model P w) A (do
     storeSet a (SetTable.insertAt es (SetTable.below t.place (road t (gz w n dx) N).j) (gz w n dx,.ref b)) t2
     if (!false&&t2.tooFull)=true then do
      setRelay a (SetTable.grown (es.size+1))
      pure true
     else pure true) Q E s:=fun t2 m1 m2 m3 m4=>by
   have T2:=T.put hlen (x:=.ref b) N2 N3 ⟨m1,m2,m3⟩;have hsz:=T2.le;refine wpAny_bind (wpAny_storeSet_of hob hdt ?_ (fits_of_scanBound (by unfold scanBound;lia)));have hnf:t2.tooFull=false:=by
    unfold SetTable.tooFull SetTable.fill;have h1:=T2.sz;rw [T2.mask,T2.dum];simp
    lia
   rw [hnf,if_neg (by simp)];refine wpAny_pure (h true _ (Heap.SameBut.update s.heap a (Obj.putSet _ t2)) ?_);have hget:=Heap.get?_update_self (Obj.putSet (SetTable.insertAt es (SetTable.below t.place (road t (gz w n dx) N).j) (gz w n dx,.ref b)) t2) hob (by rw [putSet_of _ t2 hdt];rfl);rw [putSet_of _ t2 hdt] at hget;unfold pq;rw [if_neg (by rw [hno];simp)];exact ⟨_,_,_,_,_,hget,hex,rfl,T2,L0.put hb' ⟨px,⟨as,rx0⟩,rfl,⟨b,rfl⟩⟩,(sN _ _ _).trans (hperm.append_right _)⟩
  cases hpn:(t.put (road t (gz w n dx) N).j).1.plain with
  | true=>
   rw [if_pos rfl];refine wpAny_bind (zJ n px rx (fun bv=>?_) 8);cases bv with
   | true=>exact fin _ rfl hdm rfl rfl
   | false=>exact fin _ rfl hdm rfl rfl
  | false=>
   rw [if_neg Bool.false_ne_true];refine wpAny_bind (wpAny_pure ?_);exact fin _ rfl hdm rfl rfl
noncomputable def fU (ds:List PyData):List PyData:=ds.foldl pq []
theorem wG (ds:List PyData) (d:PyData):fU (ds++[d])=pq (fU ds) d:=by unfold fU;rw [List.foldl_append];rfl
theorem CC (ds:List PyData) (d:PyData):(pq ds d).length≤ds.length+1:=by unfold pq;split <;> simp
theorem qZ (ds:List PyData):(fU ds).length≤ds.length:=by
 have:∀(ds acc:List PyData),(ds.foldl pq acc).length≤acc.length+ds.length:=by
  intro ds
  induction ds with
  | nil=>intro acc;simp
  | cons d ds ih=>intro acc;rw [List.foldl_cons];have:=ih (pq acc d);have:=CC acc d;simp only [List.length_cons];lia
 have:=this ds [];unfold fU
 simpa using this
theorem take_snoc {α:Type} {l:List α} {i:Nat} {x:α} (h:l[i]?=some x):l.take (i+1)=l.take i++[x]:=by rw [List.take_add_one,h];rfl
theorem ReadsAll.nth:∀{vs:List Value} {ds:List PyData} {as:List Addr} {i:Nat} {v:Value},ReadsAll h vs ds as->vs[i]?=some v->∃d bs,ds[i]?=some d∧Reads h v d bs
 | _,_,_,0,_,.cons h1 _,e=>by simp at e;subst e;exact ⟨_,_,rfl,h1⟩
 | _,_,_,i+1,_,.cons _ h2,e=>by
  rw [List.getElem?_cons_succ] at e;obtain ⟨d,bs,q1,q2⟩:=ReadsAll.nth h2 e;exact ⟨d,bs,q1,q2⟩
noncomputable def qz:PyData->Bool
 | .tuple _=>true
 | _=>false
theorem CA {P:Program} {w:World} {A:Around} {h₀:Heap} {S:Addr} {items:Array Value} {ds:List PyData} {as:List Addr} (hu:A.units+8 < cLine) (hr:ReadsAll h₀ items.toList ds as) (hp:ds.all (plT 8)=true) (ht:ds.all qz=true) (hl:ds.length≤4):
  Adds P w A h₀ S items (fun i h=>TSB w h₀ h S 8 (fU (ds.take i))) where
 frame:=fun i h h' k=>by
  rintro ⟨o,es,ep,t,ds',e,r⟩;exact ⟨o,es,ep,t,ds',k o e,r⟩
 fresh:=fun led h e=>by
  refine ⟨_,#[],0,_,[],e,⟨rfl,rfl,rfl⟩,rfl,⟨rfl,rfl,fun i j hi=>absurd hi (Nat.not_lt_zero _),rfl,Nat.zero_le _,fun i j e hi=>?_⟩,⟨rfl,fun i e d he=>?_⟩,?_⟩
  ·exact absurd hi (by simp [SetTable.fresh])
  ·exact absurd he (by simp)
  ·rw [List.take_zero];exact .refl _
 step:=fun i v s E Q hv hJ keep h=>by
  obtain ⟨d,bs,hd,rd⟩:=ReadsAll.nth hr (by rw [Array.getElem?_toList];exact hv);have hm:d∈ds:=List.mem_of_getElem? hd;have pd:=List.all_eq_true.mp hp d hm;have td:=List.all_eq_true.mp ht d hm;have hil:i < ds.length:=(List.getElem?_eq_some_iff.mp hd).1;have hroom:(fU (ds.take i)).length≤3:=by
   have h1:=qZ (ds.take i);have h2:(ds.take i).length≤i:=by rw [List.length_take];exact Nat.min_le_left _ _
   lia
  have hb:∃b,v=.ref b:=by cases rd <;> first | exact ⟨_,rfl⟩ | (simp [qz] at td;done)
  obtain ⟨b,rfl⟩:=hb;unfold setAdd;refine wpAny_holding ?_;have rd':=lD (h':=s.heap) (fun b o _ _ e _=>keep b o e) 8 pd rd;refine wpAny_bind (zH 8 hu pd rd' fun k=>?_);refine rg (s:={s with toks:=s.toks+k}) keep hJ (Nat.le_refl _) hu pd rd hroom fun r h' hsb hT=>?_;refine h r h' (s.toks+k) (by lia) hsb ?_;rw [take_snoc hd,wG];exact hT
noncomputable def fM (ks:List Key) (k:Key):List Key:=if ks.any (fun x=>decide (x=k)) then ks else ks++[k]
noncomputable def gP (ks:List Key):List Key:=ks.foldl fM []
theorem qY (ks:List Key) (d:Key):gP (ks++[d])=fM (gP ks) d:=by unfold gP;rw [List.foldl_append];rfl
theorem Ae (ds:List Key) (d:Key):(fM ds d).length≤ds.length+1:=by unfold fM;split <;> simp
theorem tj (ds:List Key):(gP ds).length≤ds.length:=by
 have:∀(ds acc:List Key),(ds.foldl fM acc).length≤acc.length+ds.length:=by
  intro ds
  induction ds with
  | nil=>intro acc;simp
  | cons d ds ih=>intro acc;rw [List.foldl_cons];have:=ih (fM acc d);have:=Ae acc d;simp only [List.length_cons];lia
 have:=this ds [];unfold gP
 simpa using this
theorem wW {P:Program} {w:World} {h:Heap} {a:Addr} {S S':Key->Bool} {n n':Nat} (hS:h.SetOf (aZ P w) a S n) (e:∀k,S k=S' k) (en:n=n'):h.SetOf (aZ P w) a S' n':=by
 have:S=S':=funext e;subst this;subst en;exact hS
theorem CB {P:Program} {w:World} {A:Around} {h₀:Heap} {S:Addr} {items:Array Value} {ks:List Key} (hk:∀(i:Nat) (v:Value),items[i]?=some v->∃k,ks[i]?=some k∧RelV (kV k) v) (hl:ks.length≤1000):
  Adds P w A h₀ S items (fun i h=>h.SetOf (aZ P w) S (fun k'=>(gP (ks.take i)).any fun x=>decide (x=k')) (gP (ks.take i)).length) where
 frame:=fun i h h' k=>by
  rintro ⟨o,es,ep,t,e,r⟩;exact ⟨o,es,ep,t,k o e,r⟩
 fresh:=fun led h e=>by
  rw [List.take_zero];exact ⟨_,#[],0,_,e,⟨rfl,rfl,rfl⟩,rfl,fun e he=>by simp at he,fun k=>by simp [gP],by decide,rfl,rfl⟩
 step:=fun i v s E Q hv hJ keep h=>by
  obtain ⟨k,hki,rk⟩:=hk i v hv;have hil:i < ks.length:=(List.getElem?_eq_some_iff.mp hki).1;have hroom:(gP (ks.take i)).length+1 < scanBound:=by
   have h1:=tj (ks.take i);have h2:(ks.take i).length≤i:=by rw [List.length_take];exact Nat.min_le_left _ _
   unfold scanBound
   lia
  have hsc:v.scannable=true:=by
   cases k with
   | inl i=>obtain ⟨t,e⟩:=(show ∃t,v=Value.int i t from rk);subst e;rfl
   | inr x=>obtain ⟨t,e⟩:=(show ∃t,v=Value.str x t from rk);subst e;rfl
  unfold setAdd;refine wpAny_holding ?_;refine wpAny_bind ((aZ P w).pyHash (k:=k) (gu rk) ?_);refine wpAny_setAddHashed_of (knd:=aZ P w) (s:={s with toks:=s.toks+1}) (gu rk) hsc hJ hroom fun h' hsb hS2=>?_;refine h _ h' (s.toks+1) (by lia) hsb (wW hS2 (fun k'=>?_) ?_)
  ·rw [take_snoc hki,qY];unfold fM
   by_cases c:((gP (ks.take i)).any fun x=>decide (x=k))=true
   ·rw [if_pos c]
    by_cases e:k'=k
    ·subst e;rw [c];rfl
    ·rw [decide_eq_false e,Bool.or_false]
   ·rw [if_neg c,List.any_append];congr 1;simp [eq_comm]
  ·rw [take_snoc hki,qY];unfold fM
   split <;> simp
def CF (h:Heap) (a:Addr) (n:Nat):Prop:=n≤4096∧∃o es ep t,h.get? a=some o∧o.ExactSet∧o.data=.set es ep t∧t.fits es.size=true∧es.size=n
noncomputable def ye (a:Addr) (n:Nat):HO:=.ext fun h=>CF h a n
theorem Gz (x:CF h a n):cF P w H h a (ye a n):=
 ⟨x,let ⟨_,o,_,_,_,e,_⟩:=x;⟨o,e⟩,fun h1 h2 y k=>let ⟨q,o,es,ep,t,e,r⟩:=y;⟨q,o,es,ep,t,k o e,r⟩⟩
theorem z7:dG X (.builtin "len") (fun xs H Q=>∃a n,xs=[.ref a]∧H a=some (ye a n)∧Q (.int n) H):=by
 intro pins s σ H xs us Q I r h;obtain ⟨a,n,rfl,e,q⟩:=h;obtain ⟨u,rfl,rx⟩:=vals1 r;cases rx;obtain ⟨⟨hn,o,es,ep,t,e1,e2,e3,e4,e5⟩,_,_⟩:=I.hok a _ e;subst e5;have hfit:(es.size:Int) < 2^63:=by
  have:(es.size:Int)≤4096:=by lia
  exact Int.lt_of_le_of_lt this (by decide)
 refine call_len_set e1 e2 e3 e4 hfit ?_;exact ⟨.int es.size,H,I.tok _,⟨_,rfl⟩,q⟩
theorem zZ (hc:X.calm=true) (hu:X.A.units+64 < cLine):dG X (.type "set") (fun xs H Q=>∃a vs n,xs=[.ref a]∧SqT X.K H a vs∧
  ((∃ks,vs=ks.map kV∧ks.length≤1000∧n=(gP ks).length)∨(∃ds,RdsL X.K H vs ds∧ds.all (plT 8)=true∧ds.all qz=true∧ds.length≤4∧n=(fU ds).length))∧∀l,H l=none->Q (.ref l) (upd H l (ye l n))):=by
 intro pins s σ H xs us Q I r h;obtain ⟨a,vs,n,rfl,hq,hcase,q⟩:=h;obtain ⟨u,rfl,rx⟩:=vals1 r;cases rx;obtain ⟨its,rv,pt,hz⟩:=I.tuple hq;have hlen:=rv.length;have fin:∀(h':Heap) (tk:Nat),CF h' s.heap.objs.size n->(∀b o,b < s.heap.objs.size->s.heap.get? b=some o->h'.get? b=some o)->EP X pins σ Q (.ref s.heap.objs.size) {s with heap:=h',toks:=tk}:=fun h' tk hL k=>
  ⟨.ref _,_,I.laid (t':=tk) (o:=ye s.heap.objs.size n) (fun b o e=>k b o (Heap.lt_size e) e) (Nat.le_refl _) (Gz hL),rfl,q _ I.fresh⟩
 rcases hcase with ⟨ks,rfl,hk1,rfl⟩ | ⟨ds,hr,h1,h2,h3,rfl⟩
 ·have hkl:ks.length=its.length:=by rw [←hlen,List.length_map]
  refine j8 (items:=its.toArray) (I.ok.hd hc) pt (fun A' _ _=>CB (ks:=ks) (fun i v hv=>?_) hk1) fun h' tk hJ k=>fin h' tk ?_ k
  ·have hv':its[i]?=some v:=by simpa using hv
   have hi:i < ks.length:=by rw [hkl];exact (List.getElem?_eq_some_iff.mp hv').1
   have hki:ks[i]?=some ks[i]:=List.getElem?_eq_getElem hi;obtain ⟨u,hu',ru⟩:=Vals.get rv (x:=kV ks[i]) (i:=i) (by rw [List.getElem?_map,hki];rfl);rw [hv'] at hu';cases hu';exact ⟨_,hki,ru⟩
  ·obtain ⟨o,es,ep,t,e1,e2,e3,_,_,e4,e5,e6⟩:=hJ;have hs:its.toArray.size=ks.length:=by rw [hkl];rfl
   rw [hs,List.take_length] at e6;have:=tj ks;exact ⟨by lia,o,es,ep,t,e1,e2,e3,e5,e6⟩
 ·obtain ⟨as,ra⟩:=hr.reads I rv;have hdl:ds.length=its.length:=by have:=ReadsAll.length _ _ _ ra;lia
  refine j8 (items:=its.toArray) (I.ok.hd hc) pt (fun A' _ hA=>CA (ds:=ds) (as:=as) (by lia) ra h1 h2 h3) fun h' tk hJ k=>fin h' tk ?_ k;obtain ⟨o,es,ep,t,ds',e1,e2,e3,e4,e5,e6⟩:=hJ;have hs:its.toArray.size=ds.length:=by rw [hdl];rfl
  rw [hs,List.take_length] at e6;have:=qZ ds;exact ⟨by lia,o,es,ep,t,e1,e2,e3,e4.fits,by rw [←e5.1,e6.length_eq]⟩
end L2
namespace Sm
open PySem L2 PySem.Spec PyProof.Rows
noncomputable def qy:List D->Option (List Key)
 | []=>some []
 | x::r=>(mH x).bind fun k=>(qy r).map fun ks=>k::ks
noncomputable def fC:D->Option Nat
 | .tup xs=>match qy xs with
  | some ks=>if ks.length≤1000 then some (gP ks).length else none
  | none=>(pyL xs).bind fun ds=>if (ds.all (plT 8)&&ds.all qz&&decide (ds.length≤4))=true then some (fU ds).length else none
 | _=>none
noncomputable def i7 (m:EM):EM:=fun δ h=>(m δ h).bind fun p=>(fC p.1).map fun (n:Nat)=>(D.int (n:Int),p.2)
theorem vZ {K:FR} {ρ:Ad} {H:Hp}:∀{vs:List V} {ds:List D} {ks:List Key},RepL K ρ H vs ds->qy ds=some ks->vs=ks.map kV
 | _,_,_,.nil,e=>by cases e;rfl
 | _,_,_,.cons r l,e=>by
  obtain ⟨k,e1,e2⟩:=bnd e;obtain ⟨ks,e3,e4⟩:=mpd e2;cases e4;rw [fY r e1,vZ l e3];rfl
theorem vt {K:FR} {ρ:Ad} {H:Hp}:∀{vs:List V} {ds:List D} {ps:List PyData},RepL K ρ H vs ds->pyL ds=some ps->RdsL K H vs ps
 | _,_,_,.nil,e=>by cases e;exact .nil
 | _,_,_,.cons r l,e=>by
  obtain ⟨k,e1,e2⟩:=bnd e;obtain ⟨ks,e3,e4⟩:=mpd e2;cases e4;exact .cons (r.rds e1).1 (vt l e3)
theorem ko (hc:X.calm=true) (hu:X.A.units+64 < cLine) (hgl:Gl X "len") (hml:X.mg "len"=none) (hgs:Gl X "set") (hms:X.mg "set"=none) (he:SE X e me) (hs:starEach [e] X.env=(false,eval e X.env)::starEach [] X.env:=by kernel_rfl):
  SE X (.Call (.Name "len" p) [.Call (.Name "set" p2) [e] [] pos2] [] pos) (i7 me):=
 (vK z7 hgl hml (by decide+kernel) (t9 (nV (zZ hc hu) hgs hms (by decide+kernel) (t9 he xq hs) (by decide) (by decide) hs) xq)).imp fun σ H Q ⟨ρ,δ,h,d,h',R,S,ee,k⟩=>by
  obtain ⟨⟨d1,h1⟩,e1,e2⟩:=bnd ee;obtain ⟨n,e3,e4⟩:=mpd e2;cases e4;refine ⟨ρ,δ,h,d1,h1,R,S,e1,fun v H1 ⟨ρ1,T1,S1,r1⟩=>?_⟩;have fin:∀l,H1 l=none->∃a n',[V.ref l]=[V.ref a]∧upd H1 l (ye l n) a=some (ye a n')∧Q (.int n') (upd H1 l (ye l n)):=fun l hl=>
   ⟨l,n,rfl,aY,k _ _ (dE.step (T1.trans (Stp.laid S1 hl)) (dE.here (S1.laid hl) (.int _)))⟩
  cases d1 with
  | tup xs=>
   cases r1 with
   | @tup a vs _ ht la=>
    refine ⟨a,vs,n,rfl,ht.sq,?_,fin⟩;unfold fC at e3;dsimp only at e3;cases q:qy xs with
    | some ks=>
     rw [q] at e3;dsimp only at e3
     by_cases c:ks.length≤1000
     ·rw [if_pos c] at e3;cases e3;exact .inl ⟨ks,vZ la q,c,rfl⟩
     ·rw [if_neg c] at e3;cases e3
    | none=>
     rw [q] at e3;obtain ⟨ds,e5,e6⟩:=bnd e3
     by_cases c:(ds.all (plT 8)&&ds.all qz&&decide (ds.length≤4))=true
     ·rw [if_pos c] at e6;cases e6;rw [Bool.and_eq_true,Bool.and_eq_true] at c;exact .inr ⟨ds,vt la e5,c.1.1,c.1.2,of_decide_eq_true c.2,rfl⟩
     ·rw [if_neg c] at e6;cases e6
  | _=>cases e3
def Con (mg:Str->Option Value) (x:Str) (d:D):Prop:=∃(v:V) (u:Value),mg x=some u∧RelV v u∧∀K ρ H,Rep K ρ H v d
theorem fQ (C:Con X.mg x d) (hg:Gl X x) (hd:(x==("__debug__":Str))=false:=by kernel_rfl):SE X (.Name x pos) (eK d):=by
 obtain ⟨v,u,h1,h2,h3⟩:=C;exact CY hg h1 h2 (fun ρ H=>h3 X.K ρ H) hd
end Sm
namespace Hd
open PySem PySem.W PySem.Spec PyProof.Rows L2 Sm
theorem fD (T:Top q loose mean mg mb h) (e:valOf q x=some (.int i)):Con mg x (.int i):=by
 obtain ⟨v,h1,h2⟩:=T.const x _ e;have:=h2 h;cases this with
 | int _ t=>exact ⟨.int i,_,h1,⟨t,rfl⟩,fun _ _ _=>.int i⟩
theorem Ej (T:Top q loose mean mg mb h) (e:valOf q x=some (.str s)) (ok:PyData.strOk s=true):Con mg x (.str s):=by
 obtain ⟨v,h1,h2⟩:=T.const x _ e;have:=h2 h;cases this with
 | str _ t=>exact ⟨.str s,_,h1,⟨t,rfl⟩,fun _ _ _=>.str ok⟩
end Hd
namespace L2
open PySem PySem.Spec PyProof.Rows
noncomputable def Itx (x:Str):It:=⟨fun i _=>i < x.cps.size,fun i H y H'=>H'=H∧∃c,x.cps[i]?=some c∧y=.str ⟨#[c]⟩,fun i _=>x.cps.size≤i⟩
theorem Am {P:Program} {w:World} {K:FR} {tg:Expr} (it:Addr) (x:Str) (t:Tok):Turn P w K tg (Itx x) [it] it (fun i h=>h.IsStrIter it "str_ascii_iterator" x t i) where
 mem:=by simp
 obj:=fun i h st b hb=>by
  have e:b=it:=by simpa using hb
  subst e;obtain ⟨o,h1,h2,h3⟩:=st;exact ⟨o,h1,fun v z=>by rw [h3] at z;cases z⟩
 keep:=fun i h h' st k=>let ⟨o,h1,r⟩:=st;⟨o,k it (by simp) o h1,r⟩
 item:=by
  intro X hP hw hK hc i pins s σ H E I hf st hg;subst hP hw hK;obtain ⟨f0,f1,f2,f3,f4,f5⟩:=hf it (by simp);have W:=Walks.strAscii (prog:=X.prog) (w:=X.w) (I.ok.hd hc) it x t;refine W.item i s _ _ hg st fun v h' tk hv st' kk=>?_;obtain ⟨c,u,hx,rfl⟩:=hv;have I1:Inv X pins σ H {s with heap:=h',toks:=tk}:=I.turned (fun b o hb e=>kk b o (by simpa using hb) e) f0 f1 f3 f4 f5;obtain ⟨o,h1,h2,h3⟩:=id st';exact ⟨_,rfl,yE (s:={s with heap:=h',toks:=tk}) (n:="str_ascii_iterator") h1 h2 h3 (by decide) ⟨.str ⟨#[c]⟩,H,I1,⟨u,rfl⟩,⟨rfl,c,hx,rfl⟩,st',fun b hb=>(hf b hb).1⟩⟩
 done:=by
  intro X hP hw hK hc i pins s σ H E I hf st hg;subst hP hw hK;obtain ⟨f0,f1,f2,f3,f4,f5⟩:=hf it (by simp);have hx:x.cps[i]?=none:=Array.getElem?_eq_none (show x.cps.size≤i from hg);exact wpAny_pyNext_ascii_end (I.ok.hd hc) st hx fun h' eb=>⟨rfl,I.turned (t':=s.toks) (fun b o hb e=>eb b o hb e) f0 f1 f3 f4 f5⟩
 self:=fun _ _ _ _ _ st h=>wpAny_pyIter_striter_ascii st h
theorem FO {X:Cx} {tg:Expr} {l:Expr} {tl:TE} (hl:PE X l tl):PI X tg l (fun σ H R=>tl σ H fun v H1=>∃x:Str,v=.str x∧x.cps.all (· < 128)=true∧R (Itx x) H1):=by
 intro pins s σ H R I h;refine thn (hl pins s σ H _ I h) fun v s1 ⟨y,H1,I1,r1,q1⟩=>?_;obtain ⟨x,e,ha,q⟩:=q1;subst e;obtain ⟨t,rfl⟩:=r1;refine wpAny_pyIter_ascii ha ?_;refine ⟨s1.heap.objs.size,[s1.heap.objs.size],_,_,H1,rfl,I1.kept (t':=s1.toks) fun b o e=>Heap.get?_push_of_some _ e,Am _ x t,⟨_,Heap.get?_push_size _ rfl,rfl,rfl⟩,fun b hb=>?_,q⟩;have e:b=s1.heap.objs.size:=by simpa using hb
 subst e;exact I1.uE (Nat.le_refl _) (I1.hok.fresh (Nat.le_refl _))
end L2
namespace Sm
open PySem L2 PySem.Spec PyProof.Rows
noncomputable def wa (e:EM):IM:=fun δ h=>(e δ h).bind fun p=>match p.1 with
 | .str x=>if x.cps.all (· < 128)=true then some (x.cps.toList.map fun c=>D.str ⟨#[c]⟩,[],p.2) else none
 | _=>none
theorem Gw (h:c < 128):PyData.strOk ⟨#[c]⟩=true:=by
 unfold PyData.strOk;simp
 lia
theorem vq {K:FR} {ρ:Ad} {H:Hp}:∀(cs:List Nat),(∀c∈cs,c < 128)->RepL K ρ H (cs.map fun c=>V.str ⟨#[c]⟩) (cs.map fun c=>D.str ⟨#[c]⟩)
 | [],_=>.nil
 | c::r,h=>.cons (.str (Gw (h c (.head _)))) (vq r fun d hd=>h d (.tail _ hd))
theorem AD (h:SE X e ma):SI X tg e (wa ma):=(FO h).imp fun σ H Q ⟨ρ,δ,h,xs,ws,h',R,S,e,k⟩=>by
 obtain ⟨⟨x,h1⟩,e1,e2⟩:=bnd e;refine ⟨ρ,δ,h,x,h1,R,S,e1,fun v H1 ⟨ρ1,T1,S1,r1⟩=>?_⟩;cases x with
 | str x=>
  by_cases c:x.cps.all (· < 128)=true
  ·rw [show (match D.str x with | .str x=>if x.cps.all (· < 128)=true then some (x.cps.toList.map fun c=>D.str ⟨#[c]⟩,([]:W),h1) else none | _=>none)=some (x.cps.toList.map fun c=>D.str ⟨#[c]⟩,([]:W),h1) from if_pos c] at e2;cases e2;cases r1;refine ⟨x,rfl,c,k _ ρ1 H1 T1 S1 ?_⟩;have hlow:∀d∈x.cps.toList,d < 128:=fun d hd=>by
    rw [Array.all_eq_true_iff_forall_mem] at c
    simpa using c d (Array.mem_toList_iff.mp hd)
   refine uA fun ρ2 H2 h2 T S2 hc=>⟨x.cps.toList.map fun c=>V.str ⟨#[c]⟩,vq _ hlow,fun i hi=>?_,fun i v hv=>?_⟩
   ·rw [List.length_map,Array.length_toList] at hi;exact hi
   ·rw [List.getElem?_map] at hv;obtain ⟨j,e3,e4⟩:=mpd hv;have hlt:i < x.cps.toList.length:=(List.getElem?_eq_some_iff.mp e3).1;rw [Array.length_toList] at hlt;refine ⟨hlt,fun u H3 ⟨y1,c',y2,y3⟩=>⟨y1,?_⟩⟩;rw [Array.getElem?_toList,y2] at e3;cases e3;rw [y3,e4]
  ·rw [show (match D.str x with | .str x=>if x.cps.all (· < 128)=true then some (x.cps.toList.map fun c=>D.str ⟨#[c]⟩,([]:W),h1) else none | _=>none)=none from if_neg c] at e2;cases e2
 | _=>cases e2
end Sm
namespace L2
open PySem PySem.Spec PyProof.Rows
theorem wB:dG X (.builtin "sorted") (fun xs H Q=>∃a ss,xs=[.ref a]∧SqT X.K H a (ss.map V.str)∧ss.length < 64∧∀l,H l=none->Q (.ref l) (upd H l (.lst ((cx ss).map V.str)))):=by
 intro pins s σ H xs us Q I r h;obtain ⟨a,ss,rfl,ha,h64,q⟩:=h;obtain ⟨u,rfl,ru⟩:=vals1 r;cases ru;obtain ⟨its,rv,p,hz⟩:=I.tuple ha;have hS:=nz rv;have hlen:its.length=ss.length:=by have:=rv.length;rw [List.length_map] at this;exact this.symm
 obtain ⟨o,e1,e2,n,e3⟩:=id p;refine Calls.call_function_entry kind_sorted plain_sorted entry_sorted (args_sorted1 _) ?_;unfold Builtin.«sorted»;refine wpAny_bind (m:=checkCount "sorted" 1 1 _) (wpAny_pure ?_);refine wpAny_bind (wpAny_collect_seq a (.inr rfl) e1 e2 e3 (fun h1 k1=>?_) (by simp;rw [sizeLine_eq];lia));refine y9 (s:={s with heap:=h1}) hS (by rw [hlen];exact h64) fun h' n out hk hl ho=>?_;have hz':((cx ss).map V.str).length≤sizeLine:=by rw [List.length_map,(bV ss).length_eq,sizeLine_eq];lia
 have I1:Inv X pins σ H {s with heap:=h1}:=I.kept (t':=s.toks) k1;refine ⟨.ref h1.objs.size,_,I1.laid (t':=s.toks) (o:=.lst ((cx ss).map V.str)) hk (Nat.le_refl _) ⟨hz',out.toList,n,nu ho,?_⟩,rfl,q _ (I1.hok.fresh (Nat.le_refl _))⟩;rw [hl]
end L2
namespace Sm
open PySem L2 PySem.Spec PyProof.Rows
noncomputable def mP:Fn:=fun ds h=>match ds with
 | [.tup xs]=>(kT xs).bind fun ns=>if ns.length < 64 then some (.lv ((cx ns).map D.str),h) else none
 | _=>none
theorem sS:eZ X (.builtin "sorted") mP:=by
 intro pins s σ H xs us Q I r hh;obtain ⟨ρ,h,ds,z,h',S,l,ee,k⟩:=hh
 match ds,l,ee with
 | [],_,ee=>cases ee
 | d::_::_,_,ee=>cases d <;> cases ee
 | [d],l,ee=>
  obtain ⟨v,rfl,rd⟩:=rep1 l;cases rd <;> first | (cases ee;done) | skip
  rename_i a vs ds ht la _;obtain ⟨ns,e3,e4⟩:=bnd (show ((kT ds).bind fun ns=>if ns.length < 64 then some (D.lv ((cx ns).map D.str),h) else none)=some (z,h') from ee)
  by_cases c:ns.length < 64
  ·rw [if_pos c] at e4;cases e4;have:=pT e3;subst this;obtain ⟨e5,f⟩:=lx la;subst e5;refine wB pins s σ H _ us Q I r ⟨a,ns,rfl,ht.sq,c,fun l hl=>k _ _ (.lv S (nN _ fun x hx=>f x ((bV ns).mem_iff.mp hx)) hl)⟩
  ·rw [if_neg c] at e4;cases e4
end Sm
namespace L2
open PySem PySem.Spec PyProof.Rows
end L2
namespace Sm
open PySem L2
end Sm
namespace Sm
open PySem L2 PySem.Spec PyProof.Rows
noncomputable def GW (d e:D) (h:MH):Option (D×MH):=match d,e with
 | .str x,.str y=>some (.bl (leT x y),h)
 | _,_=>none
theorem Br:OpS X (compareOp .LtE) GW:=by
 intro pins s σ H x y v u Q I rx ry hh;obtain ⟨ρ,h,d,e,z,h',S,rd,re,ee,k⟩:=hh;cases rd <;> first | (cases ee;done) | skip
 cases re <;> first | (cases ee;done) | skip
 cases ee;obtain ⟨t,rfl⟩:=rx;obtain ⟨t',rfl⟩:=ry;rename_i a ha b hb;refine PySem.P.le_str ?_;exact ⟨.bl (leT a b),H,I,(by show Value.bool _=Value.bool _;unfold leT;rw [ltCps_eq]),k _ _ (.here S (.bl _))⟩
end Sm
namespace L2
open PySem PySem.Spec PyProof.Rows
theorem Gj:OpR X (compareOp .Is) (fun x y H Q=>∃a b,x=.bl a∧y=.bl b∧Q (.bl (a==b)) H):=by
 intro pins s σ H x y v u Q I rx ry h;obtain ⟨a,b,rfl,rfl,q⟩:=h;cases rx;cases ry;cases a <;> cases b <;> exact wpAny_pure ⟨.bl _,H,I,(by decide:(_:Value)=_),q⟩
end L2
namespace Sm
open PySem L2 PySem.Spec PyProof.Rows
noncomputable def Ef (d e:D) (h:MH):Option (D×MH):=match d,e with
 | .bl a,.bl b=>some (.bl (a==b),h)
 | _,_=>none
theorem xt:OpS X (compareOp .Is) Ef:=by
 intro pins s σ H x y v u Q I rx ry hh;obtain ⟨ρ,h,d,e,z,h',S,rd,re,ee,k⟩:=hh;cases rd <;> first | (cases ee;done) | skip
 cases re <;> first | (cases ee;done) | skip
 cases ee;exact Gj pins s σ H _ _ v u Q I rx ry ⟨_,_,rfl,rfl,k _ _ (.here S (.bl _))⟩
theorem scl (d:Df X.prog X.w X.K X.mg X.base nm k ps n F) (hr:Room k' X.A) (ha:SA X (e::es) m) (hk:k≤k':=by decide) (hl:oz m n:=by repeat (first | exact au | refine ah ?_)) (hg:Gl X nm:=by unfold Gl;kernel_rfl) (hdb:(nm==("__debug__":Str))=false:=by kernel_rfl) (he:starEach (e::es) X.env=(false,eval e X.env)::starEach es X.env:=by kernel_rfl) (hpl:(backTo pos (starEach es X.env)).any (·.1)=false:=by kernel_rfl):SE X (.Call (.Name nm p) (e::es) [] pos) (eFn F m):=HN d hr hk ha hl hg hdb he hpl
theorem scb {x:Str} {id:String} {p pos:Pos} {e:Expr} {es:List Expr} {f:Fn} {m:AM} (hc:eZ X (.builtin id) f) (hm:X.mg x=none) (hv:bootBuiltins x=some (.builtin id)) (ha:SA X (e::es) m) (hg:Gl X x:=by unfold Gl;kernel_rfl) (hn:x≠"__name__":=by decide) (hdb:(x==("__debug__":Str))=false:=by kernel_rfl)
  (he:starEach (e::es) X.env=(false,eval e X.env)::starEach es X.env:=by kernel_rfl) (hpl:(backTo pos (starEach es X.env)).any (·.1)=false:=by kernel_rfl):SE X (.Call (.Name x p) (e::es) [] pos) (eFn f m):=AK hc hg hm hv ha hn hdb he hpl
theorem sct {x:Str} {id:String} {p pos:Pos} {e:Expr} {es:List Expr} {f:Fn} {m:AM} (hc:eZ X (.type id) f) (hm:X.mg x=none) (hv:bootBuiltins x=some (.type id)) (ha:SA X (e::es) m) (hg:Gl X x:=by unfold Gl;kernel_rfl) (hn:x≠"__name__":=by decide) (hdb:(x==("__debug__":Str))=false:=by kernel_rfl)
  (he:starEach (e::es) X.env=(false,eval e X.env)::starEach es X.env:=by kernel_rfl) (hpl:(backTo pos (starEach es X.env)).any (·.1)=false:=by kernel_rfl):SE X (.Call (.Name x p) (e::es) [] pos) (eFn f m):=AJ hc hg hm hv ha hn hdb he hpl
theorem sty (hm:X.mg x=none) (hv:bootBuiltins x=some (.type n)) (hg:Gl X x:=by unfold Gl;kernel_rfl) (hn:x≠"__name__":=by decide) (hd:(x==("__debug__":Str))=false:=by kernel_rfl):SE X (.Name x pos) (eK (.ty n)):=HJ hg hm hv hn hd
theorem six (hr:Room k X.A) (ha:SE X a ma) (hb:SE X b mb) (hs:ni b:=by unfold ni;intro _ _;kernel_rfl):SE X (.Subscript a b pos) (eOp fIx ma mb):=HL hr.units ha hb hs
end Sm
namespace Hd
open PySem PySem.W PySem.Spec PyProof.Rows L2 Sm
theorem u0 {P:List Value->Prop} (h:P []) (us:List Value) (hl:us.length=0):P us:=by cases us with | nil=>exact h | cons _ _=>cases hl
theorem u1 {P:List Value->Prop} (h:∀a,P [a]) (us:List Value) (hl:us.length=1):P us:=by
 cases us with
 | nil=>cases hl
 | cons a r=>exact u0 (P:=fun r=>P (a::r)) (h a) r (Nat.succ.inj hl)
theorem u2 {P:List Value->Prop} (h:∀a b,P [a,b]) (us:List Value) (hl:us.length=2):P us:=by
 cases us with
 | nil=>cases hl
 | cons a r=>exact u1 (P:=fun r=>P (a::r)) (h a) r (Nat.succ.inj hl)
theorem u3 {P:List Value->Prop} (h:∀a b c,P [a,b,c]) (us:List Value) (hl:us.length=3):P us:=by
 cases us with
 | nil=>cases hl
 | cons a r=>exact u2 (P:=fun r=>P (a::r)) (h a) r (Nat.succ.inj hl)
theorem u4 {P:List Value->Prop} (h:∀a b c d,P [a,b,c,d]) (us:List Value) (hl:us.length=4):P us:=by
 cases us with
 | nil=>cases hl
 | cons a r=>exact u3 (P:=fun r=>P (a::r)) (h a) r (Nat.succ.inj hl)
theorem u5 {P:List Value->Prop} (h:∀a b c d e,P [a,b,c,d,e]) (us:List Value) (hl:us.length=5):P us:=by
 cases us with
 | nil=>cases hl
 | cons a r=>exact u4 (P:=fun r=>P (a::r)) (h a) r (Nat.succ.inj hl)
theorem u6 {P:List Value->Prop} (h:∀a b c d e f,P [a,b,c,d,e,f]) (us:List Value) (hl:us.length=6):P us:=by
 cases us with
 | nil=>cases hl
 | cons a r=>exact u5 (P:=fun r=>P (a::r)) (h a) r (Nat.succ.inj hl)
theorem u7 {P:List Value->Prop} (h:∀a b c d e f g,P [a,b,c,d,e,f,g]) (us:List Value) (hl:us.length=7):P us:=by
 cases us with
 | nil=>cases hl
 | cons a r=>exact u6 (P:=fun r=>P (a::r)) (h a) r (Nat.succ.inj hl)
theorem bH {q:Program} {loose:List Str} {mean:ExcName->Option Value} {mg mb:Str->Option Value} {h base:Heap} {P:Program} {w:World} (T:Top q loose mean mg mb h) {n:Str} {st:Stmt} (e:(recsOf q).find? (fun e=>e.name==n)=some (su n st)) {ps:List Str} {k N:Nat} {F:Fn}
  (hb:∀{f:Addr} {fd:FuncData},Fun (bq h) n n st f fd->Binds (bq h) fd ps []) (ok:∀{f:Addr} {fd:FuncData},Fun (bq h) n n st f fd->keepIn (bq h) (.ref f)=true->Binds (bq h) fd ps []->mg n=some (.ref f)->FnOk P w (bq h) mg base CX0 k f fd ps (spF (bq h) N F)):Df P w (bq h) mg base n k ps N F:=by
 obtain ⟨f,fd,m,G⟩:=sP T e;exact ⟨f,fd,ok G G.kp (hb G) m,G.kp,hb G,m⟩
end Hd
namespace Pg
open PySem Sm L2
abbrev Term:=Str×Int
abbrev Lock:=Str×Term
inductive Row where
 | say (w:Str)
 | call (d:Str) (ts:List Term)
 | within (l:Lock) (b:List Row)
 | all (ls:List Lock) (b:List Row)
 | ask (l:Lock) (b e:List Row)
 | by_ (s t:Term) (a b c:List Row)
 | either (a b:List Row)
 | again (a:List Row)
noncomputable def bg (t:Term):D:=.tup [.str t.1,.int t.2]
noncomputable def aJ (l:Lock):D:=.tup [.str l.1,bg l.2]
mutual
noncomputable def bP:Row->D
 | .say w=>.tup [.str "say",.str w]
 | .call d ts=>.tup [.str "call",.str d,.tup (ts.map bg)]
 | .within l b=>.tup [.str "within",aJ l,.tup (bA b)]
 | .all ls b=>.tup [.str "all",.tup (ls.map aJ),.tup (bA b)]
 | .ask l b e=>.tup [.str "ask",aJ l,.tup (bA b),.tup (bA e)]
 | .by_ s t a b c=>.tup [.str "by",bg s,bg t,.tup (bA a),.tup (bA b),.tup (bA c)]
 | .either a b=>.tup [.str "either",.tup (bA a),.tup (bA b)]
 | .again a=>.tup [.str "again",.tup (bA a)]
noncomputable def bA:List Row->List D
 | []=>[]
 | r::rs=>bP r::bA rs
end
theorem dB:∀l:List Row,bA l=l.map bP
 | []=>by simp [bA]
 | r::rs=>by simp [bA,dB rs]
mutual
noncomputable def cnt:Row->Nat
 | .say _=>1
 | .call _ _=>1
 | .within _ b=>1+bZ b
 | .all _ b=>1+bZ b
 | .ask _ b e=>1+bZ b+bZ e
 | .by_ _ _ a b c=>1+bZ a+bZ b+bZ c
 | .either a b=>1+bZ a+bZ b
 | .again a=>1+bZ a
noncomputable def bZ:List Row->Nat
 | []=>0
 | r::rs=>cnt r+bZ rs
end
theorem wx:∀a b:List Row,bZ (a++b)=bZ a+bZ b
 | [],b=>by simp [bZ]
 | r::a,b=>by simp [bZ,wx a b];lia
structure Wd where
 names:List Str
 deeds:List Str
 params:List (List Str)
def eP (ps:List Str) (t:Term):Prop:=(t.1=Str.ofString ""∨t.1∈ps)∧-99≤t.2∧t.2≤99
def fu (W:Wd) (ps:List Str) (l:Lock):Prop:=l.1∈W.names∧eP ps l.2
mutual
def cG (W:Wd) (ps:List Str):Nat->Row->Prop
 | _,.say w=>w∈W.names++W.deeds
 | _,.call d ts=>(∃(j:Nat) (qs:List Str),W.deeds[j]?=some d∧W.params[j]?=some qs∧ts.length=qs.length)∧∀t∈ts,eP ps t
 | n,.within l b=>fu W ps l∧n < 5∧b.length≤12∧bX W ps (n+1) b
 | n,.all ls b=>(2≤ls.length∧ls.length≤4∧ls.Nodup∧∀l∈ls,fu W ps l)∧n < 5∧b.length≤12∧bX W ps (n+1) b
 | n,.ask l b e=>fu W ps l∧n < 5∧b.length≤12∧e.length≤12∧bX W ps (n+1) b∧bX W ps (n+1) e
 | n,.by_ s t a b c=>eP ps s∧eP ps t∧n < 5∧a.length≤12∧b.length≤12∧c.length≤12∧bX W ps (n+1) a∧bX W ps (n+1) b∧bX W ps (n+1) c
 | n,.either a b=>n < 5∧a.length≤12∧b.length≤12∧bX W ps (n+1) a∧bX W ps (n+1) b
 | n,.again a=>n < 5∧a.length≤12∧bX W ps (n+1) a
def bX (W:Wd) (ps:List Str):Nat->List Row->Prop
 | _,[]=>True
 | n,r::rs=>cG W ps n r∧bX W ps n rs
end
theorem sF {W:Wd} {ps:List Str} {n:Nat}:∀{a b:List Row},bX W ps n a->bX W ps n b->bX W ps n (a++b)
 | [],b,_,h=>h
 | r::a,b,h,h'=>by
  unfold bX at h;show bX W ps n (r::(a++b));unfold bX;exact ⟨h.1,sF h.2 h'⟩
theorem n6 {W:Wd} {ps:List Str} {n:Nat}:∀{a:List Row},bX W ps n a->∀r∈a,cG W ps n r
 | [],_,_,z=>by cases z
 | r::a,h,x,hx=>by
  unfold bX at h;rcases List.mem_cons.mp hx with rfl | hx
  ·exact h.1
  ·exact n6 h.2 x hx
end Pg
namespace Mi
open PySem L2 Sm PySem.Spec PyProof.Rows
structure Bs (P:Program) (w:World) (K:FR) (mg:Str->Option Value):Prop where
 b8:mg "abs"=none
 b13:mg "all"=none
 b1:mg "bool"=none
 b12:mg "dict"=none
 b4:mg "enumerate"=none
 b10:mg "int"=none
 b2:mg "isinstance"=none
 b7:mg "len"=none
 b3:mg "list"=none
 b9:mg "max"=none
 b11:mg "min"=none
 b0:mg "range"=none
 b15:mg "set"=none
 b6:mg "sorted"=none
 b16:mg "str"=none
 b14:mg "sum"=none
 b5:mg "tuple"=none
 C_MOST_ROWS:Con mg "MOST_ROWS" (.int (60))
 C_MOST_DEEDS:Con mg "MOST_DEEDS" (.int (6))
 C_MOST_PARAMS:Con mg "MOST_PARAMS" (.int (3))
 C_MOST_LETTERS:Con mg "MOST_LETTERS" (.int (8))
 C_LETTERS:Con mg "LETTERS" (.str "abcdefghijklmnopqrstuvwxyz")
 C_MOST_NAMES:Con mg "MOST_NAMES" (.int (6))
 C_MOST_IN_LOT:Con mg "MOST_IN_LOT" (.int (12))
 C_MOST_DEEP:Con mg "MOST_DEEP" (.int (5))
 C_MOST_FIGURE:Con mg "MOST_FIGURE" (.int (99))
 C_FEWEST_IN_ALL:Con mg "FEWEST_IN_ALL" (.int (2))
 C_MOST_IN_ALL:Con mg "MOST_IN_ALL" (.int (4))
 T_SHAPES:Tab P w K mg "SHAPES" cO
abbrev iN:Stmt:=top 30
abbrev iW:List Str:=["_law_script"]
theorem rm:FnScope ["_law_script"] iW (aw iN):=by walk_at "s"
noncomputable def eW:Fn:=mkF 1
  (aF (eOb (ab (eK (.int 0)) (ab (eOb (wH (ab (kR (ae 0) pNo (pAt (eK (.int 63)))) aj))) (ab (eK (.int 0)) aj)))))
abbrev jA:Stmt:=top 31
abbrev jR:List Str:=["_law_state"]
theorem cL:FnScope ["_law_state","_law_cells","_law_tour","_law_cell","_law_mixed"] jR (aw jA):=by walk_at "s"
noncomputable def gX:Fn:=mkF 5
  (ax (a9 1 (eOp fIx (ae 0) (eK (.int 1))))
  (ax (a9 2 (eOp fIx (ae 0) (eK (.int 2))))
  (ax (ll (eOp aS (ae 2) (eK (.int 1))) (rY (ae 0) (eK (.int 2))))
  (ax (a9 3 (eK (.int 0)))
  (ax (sIf (aA (eOp hW (ae 1) (eLv aj))) (a9 3 (eOp fIx (ae 1) (eOp qG (ae 2) (eFn bE (ab (ae 1) aj))))) ba)
  (sIf (nv (aA (eOp fLt (ae 2) (eFn bE (ab (ae 1) aj)))) (aA (eOp fGe (eFn GX (ab (ae 3) aj)) (eOp Eb (eK (.int 10)) (eK (.int 18)))))) (ll (eFn GX (ab (ae 3) aj)) (rY (ae 0) (eK (.int 0)))) (ax (a9 4 (eOp qG (eOp j3 (eOp aS (eOp aS (eOp qG (ae 3) (eK (.int 2305843009213693951))) (eOp j3 (eOp j3 (eK (.int 7919)) (ae 2)) (ae 2))) (eK (.int 11))) (eK (.int 48271))) (eK (.int 2305843009213693951))))
  (ax (a9 4 (eOp qG (eOp j3 (ae 4) (ae 4)) (eK (.int 2305843009213693921))))
  (ll (eOp aS (eOp qG (eOp aS (eOp aS (eOp j3 (ae 4) (eK (.int 69621))) (ae 2)) (eK (.int 104729))) (eK (.int 2305843009213693951))) (eOp Eb (eK (.int 10)) (eK (.int 9)))) (rY (ae 0) (eK (.int 0))))))))))))
abbrev jw:Stmt:=top 32
abbrev jO:List Str:=["_law_state","_law_many_here"]
theorem mj:FnScope ["_law_state","_law_many_here","_law_found"] jO (aw jw):=by walk_at "s"
noncomputable def aM:Fn:=mkF 3
  (ax (sIf (aA (eOp fLt (eOp fIx (ae 0) (eK (.int 0))) (ae 1))) (pX (eFn gX (ab (ae 0) aj))) ba)
  (ax (a9 2 (eOp qG (eOp fIx (ae 0) (eK (.int 0))) (ae 1)))
  (ax (ll (eOp BX (eOp fIx (ae 0) (eK (.int 0))) (ae 1)) (rY (ae 0) (eK (.int 0))))
  (aF (ae 2)))))
abbrev nK:Stmt:=top 33
abbrev n5:List Str:=["_law_state","_law_some"]
theorem w9:FnScope ["_law_state","_law_some"] n5 (aw nK):=by walk_at "s"
noncomputable def aH:Fn:=mkF 2
  (aF (eOp fIx (ae 1) (eFn aM (ab (ae 0) (ab (eFn bE (ab (ae 1) aj)) aj)))))
abbrev iK:Stmt:=top 34
abbrev iU:List Str:=["_law_state","_law_many_here"]
theorem cb:FnScope ["_law_state","_law_many_here","_law_letters","_law_stem","_law_k","_law_at","_law_first","_law_stride"] iU (aw iK):=by walk_at "s"
noncomputable def di:Fn:=mkF 8
  (ax (a9 2 (eK (.str "abcdefghijklmnopqrstuvwxyz")))
  (ax (a9 3 (eK (.str "")))
  (ax (jE (qC (ab (eFn aH (ab (ae 0) (ab (eK (.lv [.int 0,.int 1,.int 1,.int 2,.int 3,.int 6])) aj))) aj)) (gN 4) (a9 3 (eOp aS (ae 3) (eOp fIx (ae 2) (eFn aM (ab (ae 0) (ab (eK (.int 26)) aj)))))))
  (ax (a9 5 (eFn aM (ab (ae 0) (ab (eOp aS (eFn bE (ab (ae 3) aj)) (eK (.int 1))) aj))))
  (ax (a9 6 (eFn aM (ab (ae 0) (ab (eK (.int 26)) aj))))
  (ax (a9 7 (eFn aH (ab (ae 0) (ab (eK (.lv [.int 1,.int 3,.int 5,.int 7,.int 9,.int 11])) aj))))
  (aF (eLv (bM [none,some 5,some 6,some 2,some 3,some 7] (qC (ab (ae 1) aj)) (gN 0) cg (eOp aS (eOp aS (kR (ae 4) pNo (pAt (ae 1))) (eOp fIx (ae 3) (eOp qG (eOp aS (ae 2) (eOp j3 (ae 5) (ae 0))) (eK (.int 26))))) (kR (ae 4) (pAt (ae 1)) pNo)))))))))))
abbrev iJ:Stmt:=top 35
abbrev iT:List Str:=["_law_state","_law_most","_law_odd"]
theorem cD:FnScope ["_law_state","_law_most","_law_odd","_law_names","_law_deeds","_law_params","_law_many_here","_law_floors"] iT (aw iJ):=by walk_at "s"
noncomputable def fZ:Fn:=mkF 8
  (ax (a9 3 (eFn di (ab (ae 0) (ab (eFn aH (ab (ae 0) (ab (eK (.lv [.int 1,.int 2,.int 2,.int 3,.int 4,.int 6])) aj))) aj))))
  (ax (a9 4 (eFn di (ab (ae 0) (ab (eFn aH (ab (ae 0) (ab (eK (.lv [.int 1,.int 1,.int 2,.int 2,.int 3,.int 4,.int 6])) aj))) aj))))
  (ax (a9 5 (eFn di (ab (ae 0) (ab (eK (.int 3)) aj))))
  (ax (a9 6 (eLv (bM [none,some 0] (c7 (ae 4)) (gN 0) cg (eFn aH (ab (ae 1) (ab (eK (.lv [.int 0,.int 1,.int 1,.int 2,.int 2,.int 3])) aj))))))
  (ax (a9 7 (eFn BU (ab (eLv (bM [none,some 3,some 0] (c7 (ae 4)) (gN 0) cg (eFn aM (ab (ae 2) (ab (eFn bE (ab (ae 1) aj)) aj))))) aj)))
  (ax (a9 5 (eLv (bM [none,some 5] (c7 (ae 6)) (gN 0) cg (kR (ae 1) pNo (pAt (ae 0))))))
  (aF (xR (bL (eK (.str "names")) (ae 3) (bL (eK (.str "deeds")) (ae 4) (bL (eK (.str "params")) (ae 5) (bL (eK (.str "floors")) (ae 7) (bL (eK (.str "left")) (ae 1) (bL (eK (.str "odd")) (ae 2) zp))))))))))))))
abbrev g6:Stmt:=top 36
abbrev hG:List Str:=["_law_state","_law_world_here"]
theorem pW:FnScope ["_law_state","_law_world_here"] hG (aw g6):=by walk_at "s"
noncomputable def cT:Fn:=mkF 2
  (aF (j6 (eOp fGt (eOp fIx (ae 1) (eK (.str "odd"))) (eK (.int 0))) (eOp bW (eFn aM (ab (ae 0) (ab (eOp fIx (ae 1) (eK (.str "odd"))) aj))) (eK (.int 0)))))
abbrev jv:Stmt:=top 37
abbrev jN:List Str:=["_law_state","_law_params"]
theorem mh:FnScope ["_law_state","_law_params","_law_far"] jN (aw jv):=by walk_at "s"
noncomputable def bT:Fn:=mkF 3
  (ax (a9 2 (eOp uF (eFn aM (ab (ae 0) (ab (eK (.int 81)) aj))) (eK (.int 40))))
  (ax (sIf (nv (aA (eOp fGt (eFn bE (ab (ae 1) aj)) (eK (.int 0)))) (aA (eOp fGt (eFn aM (ab (ae 0) (ab (eK (.int 5)) aj))) (eK (.int 0))))) (aF (eFn bR (ab (eFn aH (ab (ae 0) (ab (ae 1) aj))) (ab (eFn aH (ab (ae 0) (ab (eLv (ab (eK (.int 0)) (ab (eK (.int 0)) (ab (eK (.int 0)) (ab (eK (.int 0)) (ab (eK (.int 1)) (ab (eK (.int 1)) (ab (eUn pQ (eK (.int 1))) (ab (eK (.int 2)) (ab (ae 2) aj)))))))))) aj))) aj)))) ba)
  (aF (eFn bR (ab (eK (.str "")) (ab (eFn aH (ab (ae 0) (ab (eLv (ab (eK (.int 0)) (ab (eK (.int 0)) (ab (eK (.int 1)) (ab (eK (.int 1)) (ab (eK (.int 2)) (ab (eK (.int 3)) (ab (eUn pQ (eK (.int 1))) (ab (ae 2) aj))))))))) aj))) aj))))))
abbrev jC:Stmt:=top 39
abbrev jT:List Str:=["_law_state","_law_world_here","_law_deed","_law_top"]
theorem eI:FnScope ["_law_state","_law_world_here","_law_deed","_law_top","_law_some","_law_other_here","_law_terms"] jT (aw jC):=by walk_at "s"
noncomputable def fO:Fn:=mkF 7
  (ax (a9 4 (eLv (bM [none,some 2,some 3,some 1] (qC (ab (eFn bE (ab (eOp fIx (ae 1) (eK (.str "deeds"))) aj)) aj)) (gN 0) (nv (aA (eOp fGt (eOp fIx (eOp fIx (ae 3) (eK (.str "floors"))) (ae 0)) (ae 2))) (aA (eOp fGe (ae 0) (ae 1)))) (ae 0))))
  (ax (sIf (bK (eFn cT (ab (ae 0) (ab (ae 1) aj)))) (a9 4 (eLv (Hb (ab (eFn bE (ab (eOp fIx (ae 1) (eK (.str "deeds"))) aj)) aj)))) ba)
  (ax (sIf (aA (eOp bW (ae 4) (eLv aj))) (aF (eFn bR (ab (eK (.str "say")) (ab (eOp fIx (eOp fIx (ae 1) (eK (.str "deeds"))) (ae 2)) aj)))) ba)
  (ax (a9 5 (eFn aH (ab (ae 0) (ab (ae 4) aj))))
  (ax (a9 6 (eLv (bM [none,some 2,some 0,some 1] (c7 (eOp fIx (eOp fIx (ae 1) (eK (.str "params"))) (ae 5))) (gN 0) cg (eFn bT (ab (ae 2) (ab (eOp fIx (eOp fIx (ae 3) (eK (.str "params"))) (ae 1)) aj))))))
  (aF (eFn bR (ab (eK (.str "call")) (ab (eOp fIx (eOp fIx (ae 1) (eK (.str "deeds"))) (ae 5)) (ab (eFn eR (ab (ae 6) aj)) aj))))))))))
abbrev jz:Stmt:=top 38
abbrev jQ:List Str:=["_law_state","_law_world_here","_law_deed","_law_top","_law_held"]
theorem cy:FnScope ["_law_state","_law_world_here","_law_deed","_law_top","_law_held","_law_low","_law_at","_law_name","_law_same","_law_word","_law_more"] jQ (aw jz):=by walk_at "s"
noncomputable def eh:Fn:=mkF 11
  (ax (a9 5 (eFn uI (ab (ae 3) (ab (eOp fIx (eOp fIx (ae 1) (eK (.str "floors"))) (ae 2)) aj))))
  (ax (sIf (aA (eOp bW (ae 5) (eFn bE (ab (eOp fIx (ae 1) (eK (.str "names"))) aj)))) (aF (eFn bR (ab (eK .non) (ab (eK .non) aj)))) ba)
  (ax (a9 6 (eOp aS (ae 5) (eFn aM (ab (ae 0) (ab (eOp uF (eFn bE (ab (eOp fIx (ae 1) (eK (.str "names"))) aj)) (ae 5)) aj)))))
  (ax (sIf (bK (eFn cT (ab (ae 0) (ab (ae 1) aj)))) (a9 6 (eFn aM (ab (ae 0) (ab (eFn bE (ab (eOp fIx (ae 1) (eK (.str "names"))) aj)) aj)))) ba)
  (ax (a9 7 (eOp fIx (eOp fIx (ae 1) (eK (.str "names"))) (ae 6)))
  (ax (a9 8 (eLv (bM [none,some 7] (c7 (ae 4)) (gN 0) (aA (eOp bW (eOp fIx (ae 0) (eK (.int 0))) (ae 1))) (eOp fIx (ae 0) (eK (.int 1))))))
  (ax (sIf (nv (aA (eOp hW (ae 8) (eLv aj))) (bz (bK (eFn cT (ab (ae 0) (ab (ae 1) aj)))))) (ax (ll (eOp fIx (ae 8) (eUn pQ (eK (.int 1)))) (gT 2 (bD (gN 9) (bD (gN 10) gJ))))
  (aF (eFn bR (ab (ae 6) (ab (eFn bR (ab (ae 7) (ab (eFn bR (ab (ae 9) (ab (eFn BV (ab (eK (.int 99)) (ab (eOp aS (eOp aS (ae 10) (eK (.int 1))) (eFn aM (ab (ae 0) (ab (eK (.int 2)) aj)))) aj))) aj))) aj))) aj))))) ba)
  (aF (eFn bR (ab (ae 6) (ab (eFn bR (ab (ae 7) (ab (eFn bT (ab (ae 0) (ab (eOp fIx (eOp fIx (ae 1) (eK (.str "params"))) (ae 2)) aj))) aj))) aj)))))))))))
abbrev lj:Stmt:=top 43
abbrev fq:List Str:=["_law_state","_law_world_here","_law_deed","_law_deep","_law_top","_law_held","_law_most"]
theorem jn:FnScope ["_law_state","_law_world_here","_law_deed","_law_deep","_law_top","_law_held","_law_most","_law_rows","_law_k"] fq (aw lj):=by walk_at "s"
abbrev lh:Stmt:=top 42
abbrev fo:List Str:=["_law_state","_law_world_here","_law_deed","_law_deep","_law_top","_law_held"]
theorem cX:FnScope ["_law_state","_law_world_here","_law_deed","_law_deep","_law_top","_law_held","_law_way","_law_one","_law_other_here","_law_lots_here","_law_sort"] fo (aw lh):=by walk_at "s"
abbrev g5:Stmt:=top 41
abbrev cQ:List Str:=["_law_state","_law_world_here","_law_deed","_law_deep","_law_top","_law_held","_law_way"]
theorem a8:FnScope ["_law_state","_law_world_here","_law_deed","_law_deep","_law_top","_law_held","_law_way","_law_at","_law_lock_here","_law_some","_law_high","_law_turn","_law_low","_law_other_here","_law_lot_here"] cQ (aw g5):=by walk_at "s"
abbrev fR:Stmt:=top 40
abbrev cv:List Str:=["_law_state","_law_world_here","_law_deed","_law_deep","_law_top","_law_held"]
theorem bj:FnScope ["_law_state","_law_world_here","_law_deed","_law_deep","_law_top","_law_held","_law_low","_law_name","_law_one","_law_other_here","_law_lots_here","_law_first","_law_second","_law_inner"] cv (aw fR):=by walk_at "s"
mutual
noncomputable def bF:Nat->Fn
 | 0=>fun _ _=>none
 | n+1=>mkL 9
  (ax (a9 7 (eOb aj))
  (ax (jE (qC (ab (eFn aM (ab (ae 0) (ab (eOp aS (eFn aH (ab (ae 0) (ab (eOp aS (eOp Ea (eLv (ab (ae 6) aj)) (eK (.int 15))) (eLv (ab (eK (.int 12)) aj))) aj))) (eK (.int 1))) aj))) aj)) (gN 8) (sIf (aA (eOp fGt (eOp fIx (ae 1) (eK (.str "left"))) (eK (.int 0)))) (ax (ll (eOp uF (eOp fIx (ae 1) (eK (.str "left"))) (eK (.int 1))) (rY (ae 1) (eK (.str "left"))))
  (pX (eM jZ gF (ae 7) (ab (eFn (fy n) (ab (ae 0) (ab (ae 1) (ab (ae 2) (ab (ae 3) (ab (ae 4) (ab (ae 5) aj))))))) aj)))) ba))
  (aF (eFn eR (ab (ae 7) aj)))))
noncomputable def fy:Nat->Fn
 | 0=>fun _ _=>none
 | n+1=>mkF 11
  (ax (a9 6 (eFn aM (ab (ae 0) (ab (eK (.int 16)) aj))))
  (ax (sIf (tOr (aA (eOp fLt (ae 6) (eK (.int 2)))) (nv (aA (eOp bW (ae 3) (eK (.int 5)))) (aA (eOp fLt (ae 6) (eK (.int 11)))))) (aF (eFn bR (ab (eK (.str "say")) (ab (eFn aH (ab (ae 0) (ab (eOp aS (eOp fIx (ae 1) (eK (.str "names"))) (eOp fIx (ae 1) (eK (.str "deeds")))) aj))) aj)))) ba)
  (ax (sIf (tOr (aA (eOp fGt (ae 6) (eK (.int 12)))) (aA (eOp bW (ae 3) (eK (.int 5))))) (aF (eFn fO (ab (ae 0) (ab (ae 1) (ab (ae 2) (ab (ae 4) aj)))))) ba)
  (ax (sIf (nv (aA (eOp bW (ae 6) (eK (.int 12)))) (nv (aA (eOp fLt (ae 3) (eK (.int 3)))) (aA (eOp fGt (eOp fIx (ae 1) (eK (.str "left"))) (eK (.int 5)))))) (aF (eFn (cw n) (ab (ae 0) (ab (ae 1) (ab (ae 2) (ab (ae 3) (ab (ae 4) (ab (ae 5) aj)))))))) ba)
  (ax (sIf (tOr (aA (eOp bW (ae 6) (eK (.int 11)))) (aA (eOp bW (ae 6) (eK (.int 12))))) (ax (AL 7 8 (ab (eFn bT (ab (ae 0) (ab (eOp fIx (eOp fIx (ae 1) (eK (.str "params"))) (ae 2)) aj))) (ab (eFn bT (ab (ae 0) (ab (eOp fIx (eOp fIx (ae 1) (eK (.str "params"))) (ae 2)) aj))) aj)))
  (ax (a9 9 (eLv (bM [none,some 2,some 3,some 5,some 0,some 4,some 1] (qC (ab (eK (.int 3)) aj)) (gN 0) cg (eFn (bF n) (ab (ae 4) (ab (ae 6) (ab (ae 1) (ab (eOp aS (ae 2) (eK (.int 1))) (ab (ae 5) (ab (ae 3) (ab (eK (.int 2)) aj)))))))))))
  (aF (eOp aS (eFn bR (ab (eK (.str "by")) (ab (ae 7) (ab (ae 8) aj)))) (eFn eR (ab (ae 9) aj)))))) ba)
  (ax (sIf (aA (eOp bW (ae 6) (eK (.int 10)))) (ax (a9 9 (eLv (bM [none,some 2,some 3,some 5,some 0,some 4,some 1] (qC (ab (eK (.int 2)) aj)) (gN 0) cg (eFn (bF n) (ab (ae 4) (ab (ae 6) (ab (ae 1) (ab (eOp aS (ae 2) (eK (.int 1))) (ab (ae 5) (ab (ae 3) (ab (eK (.int 2)) aj)))))))))))
  (aF (eOp aS (eFn bR (ab (eK (.str "either")) aj)) (eFn eR (ab (ae 9) aj))))) ba)
  (ax (sIf (aA (eOp bW (ae 6) (eK (.int 9)))) (aF (eFn bR (ab (eK (.str "again")) (ab (eFn (bF n) (ab (ae 0) (ab (ae 1) (ab (ae 2) (ab (eOp aS (ae 3) (eK (.int 1))) (ab (ae 4) (ab (ae 5) (ab (eK (.int 2)) aj)))))))) aj)))) ba)
  (ax (a9 10 (eFn aH (ab (ae 0) (ab (eK (.lv [.str "within",.str "within",.str "within",.str "within",.str "ask",.str "all"])) aj))))
  (aF (eFn (cS n) (ab (ae 0) (ab (ae 1) (ab (ae 2) (ab (ae 3) (ab (ae 4) (ab (ae 5) (ab (ae 10) aj)))))))))))))))))
noncomputable def cS:Nat->Fn
 | 0=>fun _ _=>none
 | n+1=>mkL 15
  (ax (ll (eFn eh (ab (ae 0) (ab (ae 1) (ab (ae 2) (ab (ae 4) (ab (ae 5) aj)))))) (gT 2 (bD (gN 7) (bD (gN 8) gJ))))
  (ax (sIf (aA (eOp Ee (ae 7) (eK .non))) (aF (eFn bR (ab (eK (.str "say")) (ab (eOp fIx (eOp fIx (ae 1) (eK (.str "deeds"))) (ae 2)) aj)))) ba)
  (ax (sIf (aA (eOp bW (ae 6) (eK (.str "all")))) (ax (AL 9 10 (ab (eOb (ab (ae 8) aj)) (ab (ae 7) aj)))
  (ax (jE (qC (ab (eFn aH (ab (ae 0) (ab (eK (.lv [.int 1,.int 1,.int 2,.int 3])) aj))) aj)) (gN 11) (ax (ll (eFn eh (ab (ae 0) (ab (ae 1) (ab (ae 2) (ab (ae 4) (ab (ae 5) aj)))))) (gT 2 (bD (gN 12) (bD (gN 13) gJ))))
  (ax (a9 10 (eFn uI (ab (ae 10) (ab (ae 12) aj))))
  (a9 9 (eOb (He (ae 9) (eOp Ea (eLv (ab (ae 13) aj)) (eFn wk (ab (eOp j2 (ae 13) (ae 9)) aj)))))))))
  (ax (sIf (aA (eOp bW (eFn bE (ab (ae 9) aj)) (eK (.int 1)))) (pX (eM jZ gF (ae 9) (ab (eFn bR (ab (eOp fIx (ae 8) (eK (.int 0))) (ab (eFn bR (ab (eOp fIx (eOp fIx (ae 8) (eK (.int 1))) (eK (.int 0))) (ab (eOp uF (eOp aS (eOp fIx (eOp fIx (ae 8) (eK (.int 1))) (eK (.int 1))) (eK (.int 1))) (eOp j3 (eK (.int 2)) (eFn wk (ab (eOp fGt (eOp fIx (eOp fIx (ae 8) (eK (.int 1))) (eK (.int 1))) (eK (.int 90))) aj)))) aj))) aj))) aj))) ba)
  (ax (a9 10 (eOp aS (ae 10) (eFn wk (ab (eOp bW (eOp fIx (ae 1) (eK (.str "odd"))) (eK (.int 0))) aj))))
  (aF (eFn bR (ab (eK (.str "all")) (ab (eFn eR (ab (ae 9) aj)) (ab (eFn (bF n) (ab (ae 0) (ab (ae 1) (ab (ae 2) (ab (eOp aS (ae 3) (eK (.int 1))) (ab (eFn uI (ab (ae 4) (ab (ae 10) aj))) (ab (eOp aS (ae 5) (ae 9)) (ab (eK (.int 3)) aj)))))))) aj))))))))) ba)
  (ax (a9 14 (eFn (bF n) (ab (ae 0) (ab (ae 1) (ab (ae 2) (ab (eOp aS (ae 3) (eK (.int 1))) (ab (eFn uI (ab (ae 4) (ab (ae 7) aj))) (ab (eOp aS (ae 5) (eLv (ab (ae 8) aj))) (ab (eK (.int 3)) aj)))))))))
  (ax (sIf (aA (eOp bW (ae 6) (eK (.str "ask")))) (aF (eFn bR (ab (eK (.str "ask")) (ab (ae 8) (ab (ae 14) (ab (eFn (bF n) (ab (ae 0) (ab (ae 1) (ab (ae 2) (ab (eOp aS (ae 3) (eK (.int 1))) (ab (ae 4) (ab (ae 5) (ab (eK (.int 2)) aj)))))))) aj)))))) ba)
  (aF (eFn bR (ab (eK (.str "within")) (ab (ae 8) (ab (ae 14) aj))))))))))
noncomputable def cw:Nat->Fn
 | 0=>fun _ _=>none
 | n+1=>mkL 14
  (ax (a9 6 (eFn uI (ab (ae 4) (ab (eOp fIx (eOp fIx (ae 1) (eK (.str "floors"))) (ae 2)) aj))))
  (ax (sIf (aA (eOp bW (ae 6) (eFn bE (ab (eOp fIx (ae 1) (eK (.str "names"))) aj)))) (aF (eFn bR (ab (eK (.str "say")) (ab (eOp fIx (eOp fIx (ae 1) (eK (.str "deeds"))) (ae 2)) aj)))) ba)
  (ax (sIf (aA (eOp hW (eLv (bM [none,some 6,some 1] (c7 (ae 5)) (gN 0) (aA (eOp bW (eOp fIx (ae 0) (eK (.int 0))) (eOp fIx (eOp fIx (ae 2) (eK (.str "names"))) (ae 1)))) (ae 0))) (eLv aj))) (aF (eFn bR (ab (eK (.str "say")) (ab (eOp fIx (eOp fIx (ae 1) (eK (.str "deeds"))) (ae 2)) aj)))) ba)
  (ax (a9 7 (eOp fIx (eOp fIx (ae 1) (eK (.str "names"))) (ae 6)))
  (ax (ll (eOp uF (eOp fIx (ae 1) (eK (.str "left"))) (eK (.int 5))) (rY (ae 1) (eK (.str "left"))))
  (ax (AL 8 9 (ab (eFn bT (ab (ae 0) (ab (eOp fIx (eOp fIx (ae 1) (eK (.str "params"))) (ae 2)) aj))) (ab (eFn bT (ab (ae 0) (ab (eOp fIx (eOp fIx (ae 1) (eK (.str "params"))) (ae 2)) aj))) aj)))
  (ax (a9 10 (eOb aj))
  (ax (jE (c7 (eLv (ab (eFn bR (ab (ae 8) (ab (ae 9) aj))) (ab (eFn bR (ab (ae 9) (ab (ae 8) aj))) aj)))) (gT 2 (bD (gN 11) (bD (gN 12) gJ))) (ax (a9 13 (eFn (bF n) (ab (ae 0) (ab (ae 1) (ab (ae 2) (ab (eOp aS (ae 3) (eK (.int 3))) (ab (ae 6) (ab (eOp aS (ae 5) (eLv (ab (eFn bR (ab (ae 7) (ab (ae 11) aj))) (ab (eFn bR (ab (ae 7) (ab (ae 12) aj))) aj)))) (ab (eK (.int 2)) aj)))))))))
  (pX (eM jZ gF (ae 10) (ab (eFn bR (ab (eFn bR (ab (eK (.str "within")) (ab (eFn bR (ab (ae 7) (ab (ae 11) aj))) (ab (eFn bR (ab (eFn bR (ab (eK (.str "within")) (ab (eFn bR (ab (ae 7) (ab (ae 12) aj))) (ab (ae 13) aj)))) aj)) aj)))) aj)) aj)))))
  (aF (eFn bR (ab (eK (.str "by")) (ab (ae 8) (ab (ae 9) (ab (eOp fIx (ae 10) (eK (.int 0))) (ab (eFn bR (ab (eFn bR (ab (eK (.str "within")) (ab (eFn bR (ab (ae 7) (ab (ae 8) aj))) (ab (eFn bR aj) aj)))) aj)) (ab (eOp fIx (ae 10) (eK (.int 1))) aj))))))))))))))))
end
abbrev gc:Stmt:=top 44
abbrev gh:List Str:=["_law_state","_law_most","_law_odd"]
theorem cu:FnScope ["_law_state","_law_most","_law_odd","_law_world_here","_law_deeds","_law_k","_law_deed","_law_rows"] gh (aw gc):=by walk_at "s"
noncomputable def eU:Fn:=mkL 8
  (ax (a9 3 (eFn fZ (ab (ae 0) (ab (ae 1) (ab (ae 2) aj)))))
  (ax (a9 4 (eOb aj))
  (ax (jE (BN (ab (eOp fIx (ae 3) (eK (.str "deeds"))) aj)) (gT 2 (bD (gN 5) (bD (gN 6) gJ))) (ax (a9 7 (eFn (bF 20) (ab (ae 0) (ab (ae 3) (ab (ae 5) (ab (eK (.int 1)) (ab (eUn pQ (eK (.int 1))) (ab (eLv aj) (ab (eFn aH (ab (ae 0) (ab (eK (.lv [.int 1,.int 2,.int 3,.int 4,.int 12])) aj))) aj)))))))))
  (pX (eM jZ gF (ae 4) (ab (eFn bR (ab (ae 6) (ab (eFn eR (ab (eOp fIx (eOp fIx (ae 3) (eK (.str "params"))) (ae 5)) aj)) (ab (ae 7) aj)))) aj)))))
  (aF (eFn bR (ab (eFn eR (ab (eFn BS (ab (eOp fIx (ae 3) (eK (.str "names"))) aj)) aj)) (ab (eFn eR (ab (ae 4) aj)) aj)))))))
abbrev gd:Stmt:=top 45
abbrev gj:List Str:=["_law_thing"]
theorem oZ:FnScope ["_law_thing"] gj (aw gd):=by walk_at "s"
noncomputable def cI:Fn:=mkF 1
  (ax (sIf (tOr (bz (bK (eFn cN (ab (ae 0) (ab (eK (.ty "str")) aj))))) (bz (aA (du fLe fLe (eK (.int 1)) (eFn bE (ab (ae 0) aj)) (eK (.int 8)))))) (aF (eK (.bl false))) ba)
  (aF (eFn j5 (ab (eLv (bM [none] (wa (ae 0)) (gN 0) cg (du GW GW (eK (.str "a")) (ae 0) (eK (.str "z"))))) aj))))
abbrev fh:Stmt:=top 52
abbrev ft:List Str:=["_law_thing","_law_most"]
theorem mq:FnScope ["_law_thing","_law_most"] ft (aw fh):=by walk_at "s"
noncomputable def cJ:Fn:=mkF 2
  (ax (sIf (tOr (bz (bK (eFn cN (ab (ae 0) (ab (eK (.ty "tuple")) aj))))) (tOr (aA (eOp fGt (eFn bE (ab (ae 0) aj)) (ae 1))) (bz (bK (eFn j5 (ab (eLv (bM [none] (c7 (ae 0)) (gN 0) cg (eFn cI (ab (ae 0) aj)))) aj)))))) (aF (eK (.bl false))) ba)
  (aF (eOp bW (i7 (ae 0)) (eFn bE (ab (ae 0) aj)))))
abbrev gf:Stmt:=top 46
abbrev gm:List Str:=["_law_thing","_law_params"]
theorem o2:FnScope ["_law_thing","_law_params"] gm (aw gf):=by walk_at "s"
noncomputable def cq:Fn:=mkF 2
  (ax (sIf (tOr (bz (bK (eFn cN (ab (ae 0) (ab (eK (.ty "tuple")) aj))))) (tOr (aA (eOp hW (eFn bE (ab (ae 0) aj)) (eK (.int 2)))) (bz (bK (eFn cN (ab (eOp fIx (ae 0) (eK (.int 0))) (ab (eK (.ty "str")) aj))))))) (aF (eK (.bl false))) ba)
  (ax (sIf (tOr (bK (eFn cN (ab (eOp fIx (ae 0) (eK (.int 1))) (ab (eK (.ty "bool")) aj)))) (tOr (bz (bK (eFn cN (ab (eOp fIx (ae 0) (eK (.int 1))) (ab (eK (.ty "int")) aj))))) (bz (aA (du fLe fLe (eUn pQ (eK (.int 99))) (eOp fIx (ae 0) (eK (.int 1))) (eK (.int 99))))))) (aF (eK (.bl false))) ba)
  (aF (eOp fIn (eOp fIx (ae 0) (eK (.int 0))) (eOp aS (eFn bR (ab (eK (.str "")) aj)) (ae 1))))))
abbrev gg:Stmt:=top 47
abbrev gn:List Str:=["_law_thing","_law_names","_law_params"]
theorem o3:FnScope ["_law_thing","_law_names","_law_params"] gn (aw gg):=by walk_at "s"
noncomputable def c8:Fn:=mkF 3
  (ax (sIf (tOr (bz (bK (eFn cN (ab (ae 0) (ab (eK (.ty "tuple")) aj))))) (tOr (aA (eOp hW (eFn bE (ab (ae 0) aj)) (eK (.int 2)))) (bz (bK (eFn cN (ab (eOp fIx (ae 0) (eK (.int 0))) (ab (eK (.ty "str")) aj))))))) (aF (eK (.bl false))) ba)
  (aF (j6 (eOp fIn (eOp fIx (ae 0) (eK (.int 0))) (ae 1)) (eFn cq (ab (eOp fIx (ae 0) (eK (.int 1))) (ab (ae 2) aj))))))
abbrev jB:Stmt:=top 48
abbrev jS:List Str:=["_law_row_here","_law_names","_law_many_here","_law_params"]
theorem mm:FnScope ["_law_row_here","_law_names","_law_many_here","_law_params","_law_word"] jS (aw jB):=by walk_at "s"
noncomputable def gY:Fn:=mkF 5
  (ax (a9 4 (eOp fIx (ae 0) (eK (.int 0))))
  (ax (sIf (aA (eOp bW (ae 4) (eK (.str "say")))) (aF (eFn cI (ab (eOp fIx (ae 0) (eK (.int 1))) aj))) ba)
  (ax (sIf (tOr (aA (eOp bW (ae 4) (eK (.str "within")))) (aA (eOp bW (ae 4) (eK (.str "ask"))))) (aF (eFn c8 (ab (eOp fIx (ae 0) (eK (.int 1))) (ab (ae 1) (ab (ae 3) aj))))) ba)
  (ax (sIf (aA (eOp bW (ae 4) (eK (.str "by")))) (aF (j6 (eFn cq (ab (eOp fIx (ae 0) (eK (.int 1))) (ab (ae 3) aj))) (eFn cq (ab (eOp fIx (ae 0) (eK (.int 2))) (ab (ae 3) aj))))) ba)
  (ax (sIf (aA (eOp bW (ae 4) (eK (.str "all")))) (ax (sIf (tOr (bz (bK (eFn cN (ab (eOp fIx (ae 0) (eK (.int 1))) (ab (eK (.ty "tuple")) aj))))) (bz (aA (du fLe fLe (eK (.int 2)) (eFn bE (ab (eOp fIx (ae 0) (eK (.int 1))) aj)) (eK (.int 4)))))) (aF (eK (.bl false))) ba)
  (ax (sIf (bz (bK (eFn j5 (ab (eLv (bM [none,some 1,some 3] (c7 (eOp fIx (ae 0) (eK (.int 1)))) (gN 0) cg (eFn c8 (ab (ae 0) (ab (ae 1) (ab (ae 2) aj)))))) aj)))) (aF (eK (.bl false))) ba)
  (aF (eOp bW (i7 (eOp fIx (ae 0) (eK (.int 1)))) (eFn bE (ab (eOp fIx (ae 0) (eK (.int 1))) aj)))))) ba)
  (ax (sIf (aA (eOp bW (ae 4) (eK (.str "call")))) (ax (sIf (tOr (bz (bK (eFn cN (ab (eOp fIx (ae 0) (eK (.int 1))) (ab (eK (.ty "str")) aj))))) (tOr (aA (eOp j2 (eOp fIx (ae 0) (eK (.int 1))) (ae 2))) (bz (bK (eFn cN (ab (eOp fIx (ae 0) (eK (.int 2))) (ab (eK (.ty "tuple")) aj))))))) (aF (eK (.bl false))) ba)
  (aF (j6 (eOp bW (eOp fIx (ae 2) (eOp fIx (ae 0) (eK (.int 1)))) (eFn bE (ab (eOp fIx (ae 0) (eK (.int 2))) aj))) (eFn j5 (ab (eLv (bM [none,some 3] (c7 (eOp fIx (ae 0) (eK (.int 2)))) (gN 0) cg (eFn cq (ab (ae 0) (ab (ae 1) aj))))) aj))))) ba)
  (aF (eK (.bl true)))))))))
abbrev jy:Stmt:=top 49
abbrev jP:List Str:=["_law_row_here"]
theorem tS:FnScope ["_law_row_here"] jP (aw jy):=by walk_at "s"
noncomputable def fN:Fn:=mkF 1
  (aF (kR (ae 0) (pAt (eOp fIx (yI (bL (eK (.str "say")) (eK (.int 2)) (bL (eK (.str "call")) (eK (.int 3)) (bL (eK (.str "within")) (eK (.int 2)) (bL (eK (.str "all")) (eK (.int 2)) (bL (eK (.str "ask")) (eK (.int 2)) (bL (eK (.str "by")) (eK (.int 3)) (bL (eK (.str "either")) (eK (.int 1)) (bL (eK (.str "again")) (eK (.int 1)) zp))))))))) (eOp fIx (ae 0) (eK (.int 0))))) pNo))
abbrev g7:Stmt:=top 50
abbrev dA:List Str:=["_law_lot_here","_law_names","_law_many_here","_law_params","_law_deep"]
theorem gb:FnScope ["_law_lot_here","_law_names","_law_many_here","_law_params","_law_deep","_law_long","_law_row_here"] dA (aw g7):=by walk_at "s"
noncomputable def cU:Nat->Fn
 | 0=>fun _ _=>none
 | n+1=>mkF 7
  (ax (sIf (tOr (bz (bK (eFn cN (ab (ae 0) (ab (eK (.ty "tuple")) aj))))) (tOr (aA (eOp fGt (eFn bE (ab (ae 0) aj)) (eK (.int 12)))) (aA (eOp fGt (ae 4) (eK (.int 5)))))) (aF (eK (.bl false))) ba)
  (ax (a9 5 (yI (bL (eK (.str "say")) (eK (.int 2)) (bL (eK (.str "call")) (eK (.int 3)) (bL (eK (.str "within")) (eK (.int 3)) (bL (eK (.str "all")) (eK (.int 3)) (bL (eK (.str "ask")) (eK (.int 4)) (bL (eK (.str "by")) (eK (.int 6)) (bL (eK (.str "either")) (eK (.int 3)) (bL (eK (.str "again")) (eK (.int 2)) zp))))))))))
  (ax (jE (c7 (ae 0)) (gN 6) (ax (sIf (tOr (bz (bK (eFn cN (ab (ae 6) (ab (eK (.ty "tuple")) aj))))) (tOr (aA (eOp fLt (eFn bE (ab (ae 6) aj)) (eK (.int 2)))) (bz (bK (eFn cN (ab (eOp fIx (ae 6) (eK (.int 0))) (ab (eK (.ty "str")) aj))))))) (aF (eK (.bl false))) ba)
  (ax (sIf (tOr (aA (eOp hW (eM BJ Iz (ae 5) (ab (eOp fIx (ae 6) (eK (.int 0))) aj)) (eFn bE (ab (ae 6) aj)))) (bz (bK (eFn gY (ab (ae 6) (ab (ae 1) (ab (ae 2) (ab (ae 3) aj)))))))) (aF (eK (.bl false))) ba)
  (sIf (bz (bK (eFn j5 (ab (eLv (bM [none,some 4,some 2,some 1,some 3] (c7 (eFn fN (ab (ae 6) aj))) (gN 0) cg (eFn (cU n) (ab (ae 0) (ab (ae 3) (ab (ae 2) (ab (ae 4) (ab (eOp aS (ae 1) (eK (.int 1))) aj)))))))) aj)))) (aF (eK (.bl false))) ba))))
  (aF (eK (.bl true))))))
abbrev jx:Stmt:=top 51
abbrev fI:List Str:=["_law_lot_here"]
theorem fV:FnScope ["_law_lot_here","_law_many_here","_law_row_here"] fI (aw jx):=by walk_at "s"
noncomputable def dZ:Nat->Fn
 | 0=>fun _ _=>none
 | n+1=>mkF 3
  (ax (a9 1 (eFn bE (ab (ae 0) aj)))
  (ax (jE (c7 (ae 0)) (gN 2) (a9 1 (eOp aS (ae 1) (eFn D9 (ab (eLv (bM [none] (c7 (eFn fN (ab (ae 2) aj))) (gN 0) cg (eFn (dZ n) (ab (ae 0) aj)))) aj)))))
  (aF (ae 1))))
abbrev eJ:Stmt:=top 53
abbrev eO:List Str:=["_law_thing"]
theorem dO:FnScope ["_law_thing","_law_deed","_law_many_here"] eO (aw eJ):=by walk_at "s"
noncomputable def cC:Fn:=mkF 3
  (ax (sIf (tOr (bz (bK (eFn cN (ab (ae 0) (ab (eK (.ty "tuple")) aj))))) (tOr (aA (eOp hW (eFn bE (ab (ae 0) aj)) (eK (.int 2)))) (tOr (bz (bK (eFn cJ (ab (eOp fIx (ae 0) (eK (.int 0))) (ab (eK (.int 6)) aj))))) (aA (eOp Eg (eOp fIx (ae 0) (eK (.int 0))) (eFn bR aj)))))) (aF (eK (.bl false))) ba)
  (ax (sIf (tOr (aA (eOp hW (eOp fIx (ae 0) (eK (.int 0))) (eFn eR (ab (eFn mP (ab (eOp fIx (ae 0) (eK (.int 0))) aj)) aj)))) (tOr (bz (bK (eFn cN (ab (eOp fIx (ae 0) (eK (.int 1))) (ab (eK (.ty "tuple")) aj))))) (bz (aA (du fLe fLe (eK (.int 1)) (eFn bE (ab (eOp fIx (ae 0) (eK (.int 1))) aj)) (eK (.int 6))))))) (aF (eK (.bl false))) ba)
  (ax (jE (c7 (eOp fIx (ae 0) (eK (.int 1)))) (gN 1) (ax (sIf (tOr (bz (bK (eFn cN (ab (ae 1) (ab (eK (.ty "tuple")) aj))))) (tOr (aA (eOp hW (eFn bE (ab (ae 1) aj)) (eK (.int 3)))) (bz (bK (eFn cI (ab (eOp fIx (ae 1) (eK (.int 0))) aj)))))) (aF (eK (.bl false))) ba)
  (sIf (bz (bK (eFn cJ (ab (eOp fIx (ae 1) (eK (.int 1))) (ab (eK (.int 3)) aj))))) (aF (eK (.bl false))) ba)))
  (ax (a9 2 (eFn uJ (ab (eLv (bM [none] (c7 (eOp fIx (ae 0) (eK (.int 1)))) (gN 0) cg (eFn bR (ab (eOp fIx (ae 0) (eK (.int 0))) (ab (eFn bE (ab (eOp fIx (ae 0) (eK (.int 1))) aj)) aj))))) aj)))
  (ax (sIf (aA (eOp fLt (eFn bE (ab (ae 2) aj)) (eFn bE (ab (eOp fIx (ae 0) (eK (.int 1))) aj)))) (aF (eK (.bl false))) ba)
  (ax (sIf (bz (bK (eFn j5 (ab (eLv (bM [none,some 2,some 0] (c7 (eOp fIx (ae 0) (eK (.int 1)))) (gN 0) cg (eFn (cU 8) (ab (eOp fIx (ae 0) (eK (.int 2))) (ab (eOp fIx (ae 2) (eK (.int 0))) (ab (ae 1) (ab (eOp fIx (ae 0) (eK (.int 1))) (ab (eK (.int 1)) aj)))))))) aj)))) (aF (eK (.bl false))) ba)
  (aF (eOp fLe (eFn D9 (ab (eLv (bM [none] (c7 (eOp fIx (ae 0) (eK (.int 1)))) (gN 0) cg (eFn (dZ 8) (ab (eOp fIx (ae 0) (eK (.int 2))) aj)))) aj)) (eK (.int 60))))))))))
abbrev g4:Stmt:=top 5
abbrev g9:List Str:=["thing","many"]
theorem pV:FnScope ["thing","many"] g9 (aw g4):=by walk_at "s"
noncomputable def cf:Fn:=mkF 2
  (aF (j6 (eFn cN (ab (ae 0) (ab (eK (.ty "tuple")) aj))) (eOp bW (eFn bE (ab (ae 0) aj)) (ae 1))))
abbrev nF:Stmt:=top 6
abbrev nY:List Str:=["thing"]
theorem wZ:FnScope ["thing"] nY (aw nF):=by walk_at "s"
noncomputable def f6:Fn:=mkF 1
  (ax (sIf (tOr (bz (bK (eFn cN (ab (ae 0) (ab (eK (.ty "str")) aj))))) (bz (aA (du fLe fLe (eK (.int 1)) (eFn bE (ab (ae 0) aj)) (eK (.int 8)))))) (aF (eK (.bl false))) ba)
  (aF (eFn j5 (ab (eLv (bM [none] (wa (ae 0)) (gN 0) cg (eOp fIn (ae 0) (eK (.str "abcdefghijklmnopqrstuvwxyz"))))) aj))))
abbrev dP:Stmt:=top 20
abbrev dS:List Str:=["thing","least","most"]
theorem kO:FnScope ["thing","least","most"] dS (aw dP):=by walk_at "s"
noncomputable def bN:Fn:=mkF 3
  (ax (sIf (tOr (bz (bK (eFn cN (ab (ae 0) (ab (eK (.ty "tuple")) aj))))) (bz (aA (du fLe fLe (ae 1) (eFn bE (ab (ae 0) aj)) (ae 2))))) (aF (eK (.bl false))) ba)
  (aF (j6 (eFn j5 (ab (eLv (bM [none] (c7 (ae 0)) (gN 0) cg (eFn f6 (ab (ae 0) aj)))) aj)) (eOp bW (i7 (ae 0)) (eFn bE (ab (ae 0) aj))))))
abbrev ju:Stmt:=top 22
abbrev jM:List Str:=["deeds"]
theorem tR:FnScope ["deeds"] jM (aw ju):=by walk_at "s"
noncomputable def gW:Fn:=mkF 1
  (ax (sIf (tOr (bz (bK (eFn cN (ab (ae 0) (ab (eK (.ty "tuple")) aj))))) (bz (bK (eFn j5 (ab (eLv (bM [none] (c7 (ae 0)) (gN 0) cg (eFn cf (ab (ae 0) (ab (eK (.int 3)) aj))))) aj))))) (aF (eK (.bl false))) ba)
  (ax (sIf (bz (bK (eFn bN (ab (eFn eR (ab (eLv (bM [none] (c7 (ae 0)) (gN 0) cg (eOp fIx (ae 0) (eK (.int 0))))) aj)) (ab (eK (.int 1)) (ab (eK (.int 6)) aj)))))) (aF (eK (.bl false))) ba)
  (aF (eFn j5 (ab (eLv (bM [none] (c7 (ae 0)) (gN 0) cg (eFn bN (ab (eOp fIx (ae 0) (eK (.int 1))) (ab (eK (.int 0)) (ab (eK (.int 3)) aj)))))) aj)))))
abbrev jr:Stmt:=top 21
abbrev jK:List Str:=["thing"]
theorem tP:FnScope ["thing"] jK (aw jr):=by walk_at "s"
noncomputable def gU:Fn:=mkF 1
  (aF (j6 (eFn bN (ab (ae 0) (ab (eK (.int 1)) (ab (eK (.int 6)) aj)))) (eOp bW (eLv (wH (ab (ae 0) aj))) (eFn mP (ab (ae 0) aj)))))
abbrev lg:Stmt:=top 4
abbrev lG:List Str:=["thing"]
theorem vm:FnScope ["thing"] lG (aw lg):=by walk_at "s"
noncomputable def jf:Fn:=mkF 1
  (aF (j6 (eFn cN (ab (ae 0) (ab (eK (.ty "int")) aj))) (GZ (eFn cN (ab (ae 0) (ab (eK (.ty "bool")) aj))))))
abbrev nG:Stmt:=top 7
abbrev nZ:List Str:=["thing","params"]
theorem k8:FnScope ["thing","params","word","figure"] nZ (aw nG):=by walk_at "s"
noncomputable def fx:Fn:=mkF 4
  (ax (sIf (bz (bK (eFn cf (ab (ae 0) (ab (eK (.int 2)) aj))))) (aF (eK (.bl false))) ba)
  (ax (ll (ae 0) (gT 2 (bD (gN 2) (bD (gN 3) gJ))))
  (ax (sIf (tOr (bz (bK (eFn cN (ab (ae 2) (ab (eK (.ty "str")) aj))))) (bz (bK (eFn jf (ab (ae 3) aj))))) (aF (eK (.bl false))) ba)
  (aF (j6 (eOr (eOp bW (ae 2) (eK (.str ""))) (eOp fIn (ae 2) (ae 1))) (du fLe fLe (eUn pQ (eK (.int 99))) (ae 3) (eK (.int 99))))))))
abbrev nJ:Stmt:=top 24
abbrev n4:List Str:=["deed","terms","counts","params"]
theorem w5:FnScope ["deed","terms","counts","params"] n4 (aw nJ):=by walk_at "s"
noncomputable def kN:Fn:=mkF 4
  (ax (sIf (tOr (bz (bK (eFn f6 (ab (ae 0) aj)))) (tOr (aA (eOp j2 (ae 0) (ae 2))) (bz (bK (eFn cf (ab (ae 1) (ab (eOp fIx (ae 2) (ae 0)) aj))))))) (aF (eK (.bl false))) ba)
  (aF (eFn j5 (ab (eLv (bM [none,some 3] (c7 (ae 1)) (gN 0) cg (eFn fx (ab (ae 0) (ab (ae 1) aj))))) aj))))
abbrev nI:Stmt:=top 8
abbrev n3:List Str:=["thing","names","params"]
theorem k9:FnScope ["thing","names","params","name","term"] n3 (aw nI):=by walk_at "s"
noncomputable def iB:Fn:=mkF 5
  (ax (sIf (bz (bK (eFn cf (ab (ae 0) (ab (eK (.int 2)) aj))))) (aF (eK (.bl false))) ba)
  (ax (ll (ae 0) (gT 2 (bD (gN 3) (bD (gN 4) gJ))))
  (aF (j6 (eFn cN (ab (ae 3) (ab (eK (.ty "str")) aj))) (j6 (eOp fIn (ae 3) (ae 1)) (eFn fx (ab (ae 4) (ab (ae 2) aj))))))))
abbrev jt:Stmt:=top 23
abbrev jL:List Str:=["thing","names","params"]
theorem tQ:FnScope ["thing","names","params"] jL (aw jt):=by walk_at "s"
noncomputable def gV:Fn:=mkF 3
  (ax (sIf (tOr (bz (bK (eFn cN (ab (ae 0) (ab (eK (.ty "tuple")) aj))))) (bz (aA (du fLe fLe (eK (.int 2)) (eFn bE (ab (ae 0) aj)) (eK (.int 4)))))) (aF (eK (.bl false))) ba)
  (aF (j6 (eFn j5 (ab (eLv (bM [none,some 1,some 2] (c7 (ae 0)) (gN 0) cg (eFn iB (ab (ae 0) (ab (ae 1) (ab (ae 2) aj)))))) aj)) (eOp bW (i7 (ae 0)) (eFn bE (ab (ae 0) aj))))))
abbrev fg:Stmt:=top 26
abbrev fm:List Str:=["row","names","counts","params"]
theorem gC:FnScope ["row","names","counts","params","sort"] fm (aw fg):=by walk_at "s"
noncomputable def dh:Fn:=mkF 5
  (ax (a9 4 (eOp fIx (ae 0) (eK (.int 0))))
  (ax (sIf (aA (eOp bW (ae 4) (eK (.str "say")))) (aF (eFn f6 (ab (eOp fIx (ae 0) (eK (.int 1))) aj))) ba)
  (ax (sIf (aA (eOp bW (ae 4) (eK (.str "call")))) (aF (eFn kN (ab (eOp fIx (ae 0) (eK (.int 1))) (ab (eOp fIx (ae 0) (eK (.int 2))) (ab (ae 2) (ab (ae 3) aj)))))) ba)
  (ax (sIf (aA (eOp bW (ae 4) (eK (.str "all")))) (aF (eFn gV (ab (eOp fIx (ae 0) (eK (.int 1))) (ab (ae 1) (ab (ae 3) aj))))) ba)
  (ax (sIf (aA (eOp fIn (ae 4) (eFn bR (ab (eK (.str "within")) (ab (eK (.str "ask")) aj))))) (aF (eFn iB (ab (eOp fIx (ae 0) (eK (.int 1))) (ab (ae 1) (ab (ae 3) aj))))) ba)
  (ax (sIf (aA (eOp bW (ae 4) (eK (.str "by")))) (aF (j6 (eFn fx (ab (eOp fIx (ae 0) (eK (.int 1))) (ab (ae 3) aj))) (eFn fx (ab (eOp fIx (ae 0) (eK (.int 2))) (ab (ae 3) aj))))) ba)
  (aF (eK (.bl true)))))))))
abbrev jq:Stmt:=top 25
abbrev jJ:List Str:=["row"]
theorem iH:FnScope ["row","ahead","lots"] jJ (aw jq):=by walk_at "s"
noncomputable def gS:Fn:=mkF 3
  (ax (sIf (tOr (bz (bK (eFn cN (ab (ae 0) (ab (eK (.ty "tuple")) aj))))) (aA (eOp bW (eFn bE (ab (ae 0) aj)) (eK (.int 0))))) (aF (eK (.bl false))) ba)
  (ax (sIf (tOr (bz (bK (eFn cN (ab (eOp fIx (ae 0) (eK (.int 0))) (ab (eK (.ty "str")) aj))))) (aA (eUn (BR cO) (eOp fIx (ae 0) (eK (.int 0)))))) (aF (eK (.bl false))) ba)
  (ax (ll (eUn (D8 cO) (eOp fIx (ae 0) (eK (.int 0)))) (gT 2 (bD (gN 1) (bD (gN 2) gJ))))
  (aF (eOp bW (eFn bE (ab (ae 0) aj)) (eOp aS (ae 1) (ae 2)))))))
abbrev nE:Stmt:=top 19
abbrev nX:List Str:=["row"]
theorem wY:FnScope ["row"] nX (aw nE):=by walk_at "s"
noncomputable def kM:Fn:=mkF 1
  (aF (kR (ae 0) (pAt (eOp fIx (eUn (D8 cO) (eOp fIx (ae 0) (eK (.int 0)))) (eK (.int 0)))) pNo))
abbrev jo:Stmt:=top 27
abbrev fH:List Str:=["lot","deep","left","names","counts","params"]
theorem eG:FnScope ["lot","deep","left","names","counts","params","row","inner"] fH (aw jo):=by walk_at "s"
noncomputable def dY:Nat->Fn
 | 0=>fun _ _=>none
 | n+1=>mkF 8
  (ax (sIf (tOr (aA (eOp fGt (ae 1) (eK (.int 5)))) (tOr (bz (bK (eFn cN (ab (ae 0) (ab (eK (.ty "tuple")) aj))))) (aA (eOp fGt (eFn bE (ab (ae 0) aj)) (eK (.int 12)))))) (aF (eK .non)) ba)
  (ax (jE (c7 (ae 0)) (gN 6) (ax (sIf (tOr (aA (eOp bW (ae 2) (eK (.int 0)))) (tOr (bz (bK (eFn gS (ab (ae 6) aj)))) (bz (bK (eFn dh (ab (ae 6) (ab (ae 3) (ab (ae 4) (ab (ae 5) aj))))))))) (aF (eK .non)) ba)
  (ax (AO 2 uF (eK (.int 1)))
  (jE (c7 (eFn kM (ab (ae 6) aj))) (gN 7) (ax (a9 2 (eFn (dY n) (ab (ae 7) (ab (eOp aS (ae 1) (eK (.int 1))) (ab (ae 2) (ab (ae 3) (ab (ae 4) (ab (ae 5) aj))))))))
  (sIf (aA (eOp Ee (ae 2) (eK .non))) (aF (eK .non)) ba))))))
  (aF (ae 2))))
abbrev iI:Stmt:=top 28
abbrev iS:List Str:=["thing"]
theorem bO:FnScope ["thing","names","deeds","counts","left","deed","params","rows"] iS (aw iI):=by walk_at "s"
noncomputable def cB:Fn:=mkF 8
  (ax (sIf (bz (bK (eFn cf (ab (ae 0) (ab (eK (.int 2)) aj))))) (aF (eK (.bl false))) ba)
  (ax (ll (ae 0) (gT 2 (bD (gN 1) (bD (gN 2) gJ))))
  (ax (sIf (tOr (bz (bK (eFn gU (ab (ae 1) aj)))) (bz (bK (eFn gW (ab (ae 2) aj))))) (aF (eK (.bl false))) ba)
  (ax (a9 3 (eAc [none,none,none] (c7 (ae 2)) (gT 3 (bD (gN 0) (bD (gN 1) (bD (gN 2) gJ)))) cg (mD (ae 0) (eFn bE (ab (ae 1) aj))) [] .dv))
  (ax (a9 4 (eK (.int 60)))
  (ax (jE (c7 (ae 2)) (gT 3 (bD (gN 5) (bD (gN 6) (bD (gN 7) gJ)))) (ax (a9 4 (eFn (dY 8) (ab (ae 7) (ab (eK (.int 1)) (ab (ae 4) (ab (ae 1) (ab (ae 3) (ab (ae 6) aj))))))))
  (sIf (aA (eOp Ee (ae 4) (eK .non))) (aF (eK (.bl false))) ba)))
  (aF (eK (.bl true)))))))))
abbrev iL:Stmt:=top 54
abbrev eN:List Str:=["_law_thing"]
theorem fz:FnScope ["_law_thing","_law_some","_law_one"] eN (aw iL):=by walk_at "s"
noncomputable def dm:Nat->Fn
 | 0=>fun _ _=>none
 | n+1=>mkF 3
  (ax (a9 1 (eLv (ab (ae 0) aj)))
  (ax (sIf (bK (eFn cN (ab (ae 0) (ab (eK (.ty "tuple")) aj)))) (jE (c7 (ae 0)) (gN 2) (a9 1 (eOp aS (ae 1) (eFn (dm n) (ab (ae 2) aj))))) ba)
  (aF (ae 1))))
abbrev iM:Stmt:=top 55
abbrev iV:List Str:=["_law_state","_law_thing","_law_some"]
theorem cP:FnScope ["_law_state","_law_thing","_law_some","_law_odd","_law_at"] iV (aw iM):=by walk_at "s"
noncomputable def eV:Fn:=mkF 5
  (ax (a9 3 (eK (.lv [.non,.int 0,.int 100,.int (-100),.bl true,.str "",.str "Ab",.str "abcdefghi",.str "zz",.tup [],.lv [],.dv [],.tup [.str "",.int 0],.tup [.str "zz",.int 0],.tup [.str "say",.str "zz"]])))
  (ax (a9 3 (eOp aS (ae 3) (eK (.lv [.tup [.str "again",.tup []],.tup [.str "either",.tup [],.tup []],.tup [.str "by",.tup [.str "",.int 0],.tup [.str "",.bl true],.tup [],.tup [],.tup []],.tup [.str "call",.str "zz",.tup []]]))))
  (ax (sIf (nv (bK (eFn cN (ab (ae 1) (ab (eK (.ty "tuple")) aj)))) (aA (eOp fGt (eFn bE (ab (ae 1) aj)) (eK (.int 0))))) (ax (a9 4 (eFn aM (ab (ae 0) (ab (eFn bE (ab (ae 1) aj)) aj))))
  (ax (a9 3 (eOp aS (ae 3) (eLv (ab (eOp aS (kR (ae 1) pNo (pAt (ae 4))) (kR (ae 1) (pAt (eOp aS (ae 4) (eK (.int 1)))) pNo)) (ab (eOp aS (ae 1) (kR (ae 1) (pAt (ae 4)) (pAt (eOp aS (ae 4) (eK (.int 1)))))) (ab (eOp aS (kR (ae 1) (pAt (ae 4)) pNo) (kR (ae 1) pNo (pAt (ae 4)))) aj))))))
  (a9 3 (eOp aS (ae 3) (eLv (ab (eLv (wH (ab (ae 1) aj))) (ab (B5 (ae 1) (eUn pQ (eK (.int 1)))) (ab (eFn bR (ab (ae 1) aj)) aj)))))))) ba)
  (aF (eFn aH (ab (ae 0) (ab (eLv (ab (eFn aH (ab (ae 0) (ab (ae 3) aj))) (ab (eFn aH (ab (ae 0) (ab (ae 2) aj))) aj))) aj)))))))
abbrev jD:Stmt:=top 56
abbrev fJ:List Str:=["_law_state","_law_thing","_law_some"]
theorem mn:FnScope ["_law_state","_law_thing","_law_some","_law_at"] fJ (aw jD):=by walk_at "s"
noncomputable def c9:Nat->Fn
 | 0=>fun _ _=>none
 | n+1=>mkF 4
  (ax (sIf (tOr (bz (bK (eFn cN (ab (ae 1) (ab (eK (.ty "tuple")) aj))))) (tOr (aA (eOp Eg (ae 1) (eFn bR aj))) (aA (eOp bW (eFn aM (ab (ae 0) (ab (eK (.int 6)) aj))) (eK (.int 0)))))) (aF (eFn eV (ab (ae 0) (ab (ae 1) (ab (ae 2) aj))))) ba)
  (ax (a9 3 (eFn aM (ab (ae 0) (ab (eFn bE (ab (ae 1) aj)) aj))))
  (aF (eOp aS (eOp aS (kR (ae 1) pNo (pAt (ae 3))) (eFn bR (ab (eFn (c9 n) (ab (ae 0) (ab (eOp fIx (ae 1) (ae 3)) (ab (ae 2) aj)))) aj))) (kR (ae 1) (pAt (eOp aS (ae 3) (eK (.int 1)))) pNo)))))
abbrev oB:Stmt:=top 57
abbrev EJ:List Str:=["_law_script"]
theorem iG:FnScope ["_law_script","_law_state","_law_k","_law_program_here","_law_some","_law_turn","_law_other_here","_law_told"] EJ (aw oB):=by walk_at "s"
noncomputable def yT:Fn:=mkF 8
  (ax (a9 1 (eFn eW (ab (ae 0) aj)))
  (ax (jE (qC (ab (eK (.int 4)) aj)) (gN 2) (ax (a9 3 (eFn eU (ab (ae 1) (ab (eFn aH (ab (ae 1) (ab (eK (.lv [.int 8,.int 14,.int 60])) aj))) (ab (eFn aH (ab (ae 1) (ab (eK (.lv [.int 0,.int 12,.int 4])) aj))) aj)))))
  (ax (sIf (tOr (aA (eOp EL (eFn cB (ab (ae 3) aj)) (eK (.bl true)))) (bz (bK (eFn cC (ab (ae 3) aj))))) (aF (eK (.bl false))) ba)
  (ax (a9 4 (eFn (dm 24) (ab (ae 3) aj)))
  (jE (qC (ab (eK (.int 16)) aj)) (gN 5) (ax (a9 6 (eFn (c9 60) (ab (ae 1) (ab (ae 3) (ab (ae 4) aj)))))
  (ax (sIf (aA (eOp bW (eFn aM (ab (ae 1) (ab (eK (.int 4)) aj))) (eK (.int 0)))) (a9 6 (eFn (c9 60) (ab (ae 1) (ab (ae 6) (ab (ae 4) aj))))) ba)
  (ax (a9 7 (eFn cB (ab (ae 6) aj)))
  (sIf (tOr (bz (bK (eFn cN (ab (ae 7) (ab (eK (.ty "bool")) aj))))) (aA (eOp hW (ae 7) (eFn cC (ab (ae 6) aj))))) (aF (eK (.bl false))) ba)))))))))
  (aF (j6 (eOp Ef (eFn cB (ab (eK .non) aj)) (eK (.bl false))) (j6 (eOp Ef (eFn cB (ab (eFn bR aj) aj)) (eK (.bl false))) (eOp Ef (eFn cB (ab (eFn bR (ab (eFn bR (ab (eK (.str "a")) aj)) (ab (eFn bR aj) aj))) aj)) (eK (.bl false))))))))
section
variable (P:Program) (w:World) (K:FR) (mg:Str->Option Value) (base:Heap)
abbrev ng:Prop:=Df P w K mg base "_law_drawn" 1 iW 1 eW
abbrev oU:Prop:=Df P w K mg base "_law_load" 1 jR 1 gX
abbrev bS:Prop:=Df P w K mg base "_law_next" 2 jO 2 aM
abbrev dg:Prop:=Df P w K mg base "_law_of" 3 n5 2 aH
abbrev m7:Prop:=Df P w K mg base "_law_words" 4 iU 2 di
abbrev m5:Prop:=Df P w K mg base "_law_world" 5 iT 3 fZ
abbrev ia:Prop:=Df P w K mg base "_law_is_odd" 3 hG 2 cT
abbrev gQ:Prop:=Df P w K mg base "_law_term" 4 jN 2 bT
abbrev oW:Prop:=Df P w K mg base "_law_call" 5 jT 4 fO
abbrev oT:Prop:=Df P w K mg base "_law_lock" 5 jQ 5 eh
abbrev q9:Prop:=Df P w K mg base "_law_lot" 26 fq 7 (bF 20)
abbrev yd:Prop:=Df P w K mg base "_law_row" 26 fo 6 (fy 20)
abbrev sf:Prop:=Df P w K mg base "_law_locked" 26 cQ 7 (cS 20)
abbrev pv:Prop:=Df P w K mg base "_law_two_ways" 26 cv 6 (cw 20)
abbrev kd:Prop:=Df P w K mg base "_law_program" 27 gh 3 eU
abbrev eT:Prop:=Df P w K mg base "_law_is_word" 1 gj 1 cI
abbrev iA:Prop:=Df P w K mg base "_law_are_words" 2 ft 2 cJ
abbrev gx:Prop:=Df P w K mg base "_law_is_term" 1 gm 2 cq
abbrev kg:Prop:=Df P w K mg base "_law_is_lock" 2 gn 3 c8
abbrev oV:Prop:=Df P w K mg base "_law_head" 3 jS 4 gY
abbrev ke:Prop:=Df P w K mg base "_law_lots" 1 jP 1 fN
abbrev k7:Prop:=Df P w K mg base "_law_is_lot" 12 dA 5 (cU 8)
abbrev oS:Prop:=Df P w K mg base "_law_many" 10 fI 1 (dZ 8)
abbrev gR:Prop:=Df P w K mg base "_law_is_program" 13 eO 1 cC
abbrev cR:Prop:=Df P w K mg base "is_tuple_of" 1 g9 2 cf
abbrev kJ:Prop:=Df P w K mg base "is_word" 1 nY 1 f6
abbrev dW:Prop:=Df P w K mg base "are_unlike_words" 2 dS 3 bN
abbrev oR:Prop:=Df P w K mg base "are_heads" 3 jM 1 gW
abbrev oP:Prop:=Df P w K mg base "are_names" 3 jK 1 gU
abbrev q0:Prop:=Df P w K mg base "is_whole" 1 lG 1 jf
abbrev kK:Prop:=Df P w K mg base "is_term" 2 nZ 2 fx
abbrev tE:Prop:=Df P w K mg base "is_call" 3 n4 4 kN
abbrev ow:Prop:=Df P w K mg base "is_lock" 3 n3 3 iB
abbrev oQ:Prop:=Df P w K mg base "are_locks" 4 jL 3 gV
abbrev iz:Prop:=Df P w K mg base "is_right_ahead" 5 fm 4 dh
abbrev oO:Prop:=Df P w K mg base "is_shaped" 1 jJ 1 gS
abbrev tD:Prop:=Df P w K mg base "lots_of" 1 nX 1 kM
abbrev oN:Prop:=Df P w K mg base "rows_left" 14 fH 6 (dY 8)
abbrev mZ:Prop:=Df P w K mg base "is_program" 15 iS 1 cB
abbrev m8:Prop:=Df P w K mg base "_law_parts" 25 eN 1 (dm 24)
abbrev m9:Prop:=Df P w K mg base "_law_other" 4 iV 3 eV
abbrev oX:Prop:=Df P w K mg base "_law_bent" 65 fJ 3 (c9 60)
end
section
variable {P:Program} {w:World} {K:FR} {mg:Str->Option Value} {base:Heap}
theorem rT (F:Fun K "_law_drawn" "_law_drawn" iN f fd) (B:Bs P w K mg):FnOk P w K mg base CX0 1 f fd iW (spF K 1 eW):=
 (aT F rm fun cdv A outer s H E hr=>by (conv=>arg 2;whnf);with_reducible exact (ak (ao (SFL.ob (cj (aa ag (aa (SFL.ob (tO (by unfold Gl;kernel_rfl) B.b3 pL (aa (fe (sv 0) dI (cV ag)) af) (ah au))) (aa ag af))) (ah (ah (ah au))))))))
theorem uo (F:Fun K "_law_load" "_law_load" jA f fd) (B:Bs P w K mg):FnOk P w K mg base CX0 1 f fd jR (spF K 1 gX):=
 (aT F cL fun cdv A outer s H E hr=>by (conv=>arg 2;whnf);with_reducible exact (ai (sset 1 cL.nd (six hr (sv 0) ag))
   (ai (sset 2 cL.nd (six hr (sv 0) ag))
   (ai (fc (aG aC (sv 2) ag) (nC hr.units (sv 0) ag))
   (ai (sset 3 cL.nd ag)
   (ai (aE (az (hU hr.units) (sv 1) (SFL.lv (cj af au)) (av _)) (ak (sset 3 cL.nd (six hr (sv 1) (aG lH (sv 2) (scb aP B.b7 aR (aa (sv 1) af)))))) ay)
   (ak (aE (SW.st (jl (az qo (sv 2) (scb aP B.b7 aR (aa (sv 1) af)) (av _)) (iD (az EK (scb Cg B.b8 Ct (aa (sv 3) af)) (aG Bq ag ag) (av _))))) (ak (fc (scb Cg B.b8 Ct (aa (sv 3) af)) (nC hr.units (sv 0) ag))) (ai (sset 4 cL.nd (aG lH (aG iX (aG aC (aG aC (aG lH (sv 3) ag) (aG iX (aG iX ag (sv 2)) (sv 2))) ag) ag) ag))
   (ai (sset 4 cL.nd (aG lH (aG iX (sv 4) (sv 4)) ag))
   (ak (fc (aG aC (aG lH (aG aC (aG aC (aG iX (sv 4) ag) (sv 2)) ag) ag) (aG Bq ag ag)) (nC hr.units (sv 0) ag)))))))))))))
theorem ug (F:Fun K "_law_next" "_law_next" jw f fd) (B:Bs P w K mg) (d16:oU P w K mg base):FnOk P w K mg base CX0 2 f fd jO (spF K 2 aM):=
 (aT F mj fun cdv A outer s H E hr=>by (conv=>arg 2;whnf);with_reducible exact (ai (aE (az qo (six hr (sv 0) ag) (sv 1) (av _)) (ak (md (scl d16 hr (aa (sv 0) af)))) ay)
   (ai (sset 2 mj.nd (aG lH (six hr (sv 0) ag) (sv 1)))
   (ai (fc (aG F9 (six hr (sv 0) ag) (sv 1)) (nC hr.units (sv 0) ag))
   (ak (ao (sv 2)))))))
theorem xC (F:Fun K "_law_of" "_law_of" nK f fd) (B:Bs P w K mg) (d17:bS P w K mg base):FnOk P w K mg base CX0 3 f fd n5 (spF K 2 aH):=
 (aT F w9 fun cdv A outer s H E hr=>by (conv=>arg 2;whnf);with_reducible exact (ak (ao (six hr (sv 1) (scl d17 hr (aa (sv 0) (aa (scb aP B.b7 aR (aa (sv 1) af)) af)))))))
theorem rQ (F:Fun K "_law_words" "_law_words" iK f fd) (B:Bs P w K mg) (d18:dg P w K mg base) (d17:bS P w K mg base):FnOk P w K mg base CX0 4 f fd iU (spF K 2 di):=
 (aT F cb fun cdv A outer s H E hr=>by (conv=>arg 2;whnf);with_reducible exact (ai (sset 2 cb.nd aq)
   (ai (sset 3 cb.nd aq)
   (ai (eC PassesOwn.never rfl (df (by unfold Gl;kernel_rfl) B.b0 (aa (scl d18 hr (aa (sv 0) (aa (cW 9 (by kernel_rfl)) af))) af) (hl:=(ah au))) (sgn 4 cb.nd) (ak (sset 3 cb.nd (aG aC (sv 3) (six hr (sv 2) (scl d17 hr (aa (sv 0) (aa ag af))))))))
   (ai (sset 5 cb.nd (scl d17 hr (aa (sv 0) (aa (aG aC (scb aP B.b7 aR (aa (sv 3) af)) ag) af))))
   (ai (sset 6 cb.nd (scl d17 hr (aa (sv 0) (aa ag af))))
   (ai (sset 7 cb.nd (scl d18 hr (aa (sv 0) (aa (cW 9 (by kernel_rfl)) af))))
   (ak (ao (bU (N':=["_law_k","_law_at","_law_first","_law_letters","_law_stem","_law_stride"]) (caps:=[none,some 5,some 6,some 2,some 3,some 7]) (aN (by kernel_rfl)) rfl (df (by unfold Gl;kernel_rfl) B.b0 (aa (sv 1) af) (hl:=(ah au))) (fun _ _ _ _ _=>(sgn 0 (by show (["_law_k","_law_at","_law_first","_law_letters","_law_stem","_law_stride"]:List Str).Nodup;decide+kernel))) (fun _ _ _ _ _=>bx) (fun _ _ _ _ _=>(aG aC (aG aC (fe (sv 4) dI (cV (sv 1))) (six hr (sv 3) (aG lH (aG aC (sv 2) (aG iX (sv 5) (sv 0))) ag))) (fe (sv 4) (cV (sv 1)) dI)))))))))))))
theorem rP (F:Fun K "_law_world" "_law_world" iJ f fd) (B:Bs P w K mg) (d19:m7 P w K mg base) (d18:dg P w K mg base) (d17:bS P w K mg base):FnOk P w K mg base CX0 5 f fd iT (spF K 3 fZ):=
 (aT F cD fun cdv A outer s H E hr=>by (conv=>arg 2;whnf);with_reducible exact (ai (sset 3 cD.nd (scl d19 hr (aa (sv 0) (aa (scl d18 hr (aa (sv 0) (aa (cW 9 (by kernel_rfl)) af))) af))))
   (ai (sset 4 cD.nd (scl d19 hr (aa (sv 0) (aa (scl d18 hr (aa (sv 0) (aa (cW 9 (by kernel_rfl)) af))) af))))
   (ai (sset 5 cD.nd (scl d19 hr (aa (sv 0) (aa ag af))))
   (ai (km (i:=6) cD.nd (by kernel_rfl) (by kernel_rfl) (N':=["_law_deed","_law_state"]) (caps:=[none,some 0]) (aN (by kernel_rfl)) rfl (bC (sv 4)) (fun _ _ _ _ _=>(sgn 0 (by show (["_law_deed","_law_state"]:List Str).Nodup;decide+kernel))) (fun _ _ _ _ _=>bx) (fun _ _ _ _ _=>(scl d18 hr (aa (sv 1) (aa (cW 9 (by kernel_rfl)) af)))))
   (ai (sset 7 cD.nd (scb Cc B.b6 kH (aa (bU (N':=["_law_deed","_law_names","_law_state"]) (caps:=[none,some 3,some 0]) (aN (by kernel_rfl)) rfl (bC (sv 4)) (fun _ _ _ _ _=>(sgn 0 (by show (["_law_deed","_law_names","_law_state"]:List Str).Nodup;decide+kernel))) (fun _ _ _ _ _=>bx) (fun _ _ _ _ _=>(scl d17 hr (aa (sv 2) (aa (scb aP B.b7 aR (aa (sv 1) af)) af))))) af)))
   (ai (sset 5 cD.nd (bU (N':=["_law_k","_law_params"]) (caps:=[none,some 5]) (aN (by kernel_rfl)) rfl (bC (sv 6)) (fun _ _ _ _ _=>(sgn 0 (by show (["_law_k","_law_params"]:List Str).Nodup;decide+kernel))) (fun _ _ _ _ _=>bx) (fun _ _ _ _ _=>(fe (sv 1) dI (cV (sv 0))))))
   (ak (ao (AI (bI aq (sv 3) (bI aq (sv 4) (bI aq (sv 5) (bI aq (sv 7) (bI aq (sv 1) (bI aq (sv 2) wU)))))) (by kernel_rfl) (by kernel_rfl) (by simp) fun trs h=>t8 h (by kernel_rfl) (by kernel_rfl) (by simp) (by decide)))))))))))
theorem qq (F:Fun K "_law_is_odd" "_law_is_odd" g6 f fd) (B:Bs P w K mg) (d17:bS P w K mg base):FnOk P w K mg base CX0 3 f fd hG (spF K 2 cT):=
 (aT F pW fun cdv A outer s H E hr=>by (conv=>arg 2;whnf);with_reducible exact (ak (ao (dN (ck gE (six hr (sv 1) aq) ag (av _)) (eF (ck (aW hr.units) (scl d17 hr (aa (sv 0) (aa (six hr (sv 1) aq) af))) ag (av _)))))))
theorem uf (F:Fun K "_law_term" "_law_term" jv f fd) (B:Bs P w K mg) (d17:bS P w K mg base) (d18:dg P w K mg base):FnOk P w K mg base CX0 4 f fd jN (spF K 2 bT):=
 (aT F mh fun cdv A outer s H E hr=>by (conv=>arg 2;whnf);with_reducible exact (ai (sset 2 mh.nd (aG qk (scl d17 hr (aa (sv 0) (aa ag af))) ag))
   (ai (aE (SW.st (jl (az gE (scb aP B.b7 aR (aa (sv 1) af)) ag (av _)) (iD (az gE (scl d17 hr (aa (sv 0) (aa ag af))) ag (av _))))) (ak (ao (aL (aa (scl d18 hr (aa (sv 0) (aa (sv 1) af))) (aa (scl d18 hr (aa (sv 0) (aa (SFL.lv (cj (aa ag (aa ag (aa ag (aa ag (aa ag (aa ag (aa (oA ji ag) (aa ag (aa (sv 2) af))))))))) (ah (ah (ah (ah (ah (ah (ah (ah (ah au))))))))))) af))) af)) (ah (ah au))))) ay)
   (ak (ao (aL (aa aq (aa (scl d18 hr (aa (sv 0) (aa (SFL.lv (cj (aa ag (aa ag (aa ag (aa ag (aa ag (aa ag (aa (oA ji ag) (aa (sv 2) af)))))))) (ah (ah (ah (ah (ah (ah (ah (ah au)))))))))) af))) af)) (ah (ah au))))))))
theorem ur (F:Fun K "_law_call" "_law_call" jC f fd) (B:Bs P w K mg) (d21:ia P w K mg base) (d18:dg P w K mg base) (d22:gQ P w K mg base):FnOk P w K mg base CX0 5 f fd jT (spF K 4 fO):=
 (aT F eI fun cdv A outer s H E hr=>by (conv=>arg 2;whnf);with_reducible exact (ai (km (i:=4) eI.nd (by kernel_rfl) (by kernel_rfl) (N':=["_law_k","_law_deed","_law_top","_law_world_here"]) (caps:=[none,some 2,some 3,some 1]) (aN (by kernel_rfl)) rfl (df (by unfold Gl;kernel_rfl) B.b0 (aa (scb aP B.b7 aR (aa (six hr (sv 1) aq) af)) af) (hl:=(ah au))) (fun _ _ _ _ _=>(sgn 0 (by show (["_law_k","_law_deed","_law_top","_law_world_here"]:List Str).Nodup;decide+kernel))) (fun _ _ _ _ _=>(tN (SW.st (jl (az gE (six hr (six hr (sv 3) aq) (sv 0)) (sv 2) (av _)) (iD (az EK (sv 0) (sv 1) (av _))))))) (fun _ _ _ _ _=>(sv 0)))
   (ai (aE (aI (scl d21 hr (aa (sv 0) (aa (sv 1) af)))) (ak (sset 4 eI.nd (SFL.lv (za rfl (by unfold Gl;kernel_rfl) B.b3 (by unfold Gl;kernel_rfl) B.b0 pL (aa (scb aP B.b7 aR (aa (six hr (sv 1) aq) af)) af))))) ay)
   (ai (aE (az (aW hr.units) (sv 4) (SFL.lv (cj af au)) (av _)) (ak (ao (aL (aa aq (aa (six hr (six hr (sv 1) aq) (sv 2)) af)) (ah (ah au))))) ay)
   (ai (sset 5 eI.nd (scl d18 hr (aa (sv 0) (aa (sv 4) af))))
   (ai (km (i:=6) eI.nd (by kernel_rfl) (by kernel_rfl) (N':=["_law_one","_law_deed","_law_state","_law_world_here"]) (caps:=[none,some 2,some 0,some 1]) (aN (by kernel_rfl)) rfl (bC (six hr (six hr (sv 1) aq) (sv 5))) (fun _ _ _ _ _=>(sgn 0 (by show (["_law_one","_law_deed","_law_state","_law_world_here"]:List Str).Nodup;decide+kernel))) (fun _ _ _ _ _=>bx) (fun _ _ _ _ _=>(scl d22 hr (aa (sv 2) (aa (six hr (six hr (sv 3) aq) (sv 1)) af)))))
   (ak (ao (aL (aa aq (aa (six hr (six hr (sv 1) aq) (sv 5)) (aa (sct dD B.b5 aQ (aa (sv 6) af)) af))) (ah (ah (ah au))))))))))))
theorem um (F:Fun K "_law_lock" "_law_lock" jz f fd) (B:Bs P w K mg) (d17:bS P w K mg base) (d21:ia P w K mg base) (d22:gQ P w K mg base):FnOk P w K mg base CX0 5 f fd jQ (spF K 5 eh):=
 (aT F cy fun cdv A outer s H E hr=>by (conv=>arg 2;whnf);with_reducible exact (ai (sset 5 cy.nd (scb (qL rfl) B.b9 qT (aa (sv 3) (aa (six hr (six hr (sv 1) aq) (sv 2)) af))))
   (ai (aE (az (aW hr.units) (sv 5) (scb aP B.b7 aR (aa (six hr (sv 1) aq) af)) (av _)) (ak (ao (aL (aa g0 (aa g0 af)) (ah (ah au))))) ay)
   (ai (sset 6 cy.nd (aG aC (sv 5) (scl d17 hr (aa (sv 0) (aa (aG qk (scb aP B.b7 aR (aa (six hr (sv 1) aq) af)) (sv 5)) af)))))
   (ai (aE (aI (scl d21 hr (aa (sv 0) (aa (sv 1) af)))) (ak (sset 6 cy.nd (scl d17 hr (aa (sv 0) (aa (scb aP B.b7 aR (aa (six hr (sv 1) aq) af)) af))))) ay)
   (ai (sset 7 cy.nd (six hr (six hr (sv 1) aq) (sv 6)))
   (ai (km (i:=8) cy.nd (by kernel_rfl) (by kernel_rfl) (N':=["_law_lock_here","_law_name"]) (caps:=[none,some 7]) (aN (by kernel_rfl)) rfl (bC (sv 4)) (fun _ _ _ _ _=>(sgn 0 (by show (["_law_lock_here","_law_name"]:List Str).Nodup;decide+kernel))) (fun _ _ _ _ _=>(tN (az (aW hr.units) (six hr (sv 0) ag) (sv 1) (av _)))) (fun _ _ _ _ _=>(six hr (sv 0) ag)))
   (ai (aE (SW.st (jl (az (hU hr.units) (sv 8) (SFL.lv (cj af au)) (av _)) (iD (aD (aI (scl d21 hr (aa (sv 0) (aa (sv 1) af)))))))) (ai (fc (six hr (sv 8) (oA ji ag)) (f9 rfl (bc (sgn 9 cy.nd) (bc (sgn 10 cy.nd) eD))))
   (ak (ao (aL (aa (sv 6) (aa (aL (aa (sv 7) (aa (aL (aa (sv 9) (aa (scb (G3 rfl) B.b11 G9 (aa ag (aa (aG aC (aG aC (sv 10) ag) (scl d17 hr (aa (sv 0) (aa ag af)))) af))) af)) (ah (ah au))) af)) (ah (ah au))) af)) (ah (ah au)))))) ay)
   (ak (ao (aL (aa (sv 6) (aa (aL (aa (sv 7) (aa (scl d22 hr (aa (sv 0) (aa (six hr (six hr (sv 1) aq) (sv 2)) af))) af)) (ah (ah au))) af)) (ah (ah au)))))))))))))
theorem yt {f1:Addr} {fd1:FuncData} (F1:Fun K "_law_lot" "_law_lot" lj f1 fd1) (kf1:PySem.W.keepIn K (.ref f1)=true) (bf1:Binds K fd1 fq []) (mf1:mg "_law_lot"=some (.ref f1)) {f2:Addr} {fd2:FuncData} (F2:Fun K "_law_row" "_law_row" lh f2 fd2) (kf2:PySem.W.keepIn K (.ref f2)=true) (bf2:Binds K fd2 fo []) (mf2:mg "_law_row"=some (.ref f2)) {f3:Addr} {fd3:FuncData} (F3:Fun K "_law_locked" "_law_locked" g5 f3 fd3) (kf3:PySem.W.keepIn K (.ref f3)=true) (bf3:Binds K fd3 cQ []) (mf3:mg "_law_locked"=some (.ref f3)) {f4:Addr} {fd4:FuncData} (F4:Fun K "_law_two_ways" "_law_two_ways" fR f4 fd4) (kf4:PySem.W.keepIn K (.ref f4)=true) (bf4:Binds K fd4 cv []) (mf4:mg "_law_two_ways"=some (.ref f4)) (B:Bs P w K mg) (d17:bS P w K mg base) (d18:dg P w K mg base) (d24:oW P w K mg base) (d22:gQ P w K mg base) (d23:oT P w K mg base):∀n,FnOk P w K mg base CX0 (6+n) f1 fd1 fq (spF K 7 (bF n))∧FnOk P w K mg base CX0 (6+n) f2 fd2 fo (spF K 6 (fy n))∧FnOk P w K mg base CX0 (6+n) f3 fd3 cQ (spF K 7 (cS n))∧FnOk P w K mg base CX0 (6+n) f4 fd4 cv (spF K 6 (cw n))
 | 0=>⟨fX,fX,fX,fX⟩
 | n+1=>by
  obtain ⟨i1,i2,i3,i4⟩:=yt F1 kf1 bf1 mf1 F2 kf2 bf2 mf2 F3 kf3 bf3 mf3 F4 kf4 bf4 mf4 B d17 d18 d24 d22 d23 n;have d28:Df P w K mg base "_law_lot" (6+n) fq 7 (bF n):=⟨f1,fd1,i1,kf1,bf1,mf1⟩;have d27:Df P w K mg base "_law_row" (6+n) fo 6 (fy n):=⟨f2,fd2,i2,kf2,bf2,mf2⟩;have d26:Df P w K mg base "_law_locked" (6+n) cQ 7 (cS n):=⟨f3,fd3,i3,kf3,bf3,mf3⟩;have d25:Df P w K mg base "_law_two_ways" (6+n) cv 6 (cw n):=⟨f4,fd4,i4,kf4,bf4,mf4⟩;refine ⟨?_,?_,?_,?_⟩
  ·exact mO (aT F1 jn fun cdv A outer s H E hr=>by (conv=>arg 2;whnf);with_reducible exact (ai (sset 7 jn.nd (SFL.ob (cj af au)))
   (ai (eC PassesOwn.never rfl (df (by unfold Gl;kernel_rfl) B.b0 (aa (scl d17 hr (aa (sv 0) (aa (aG aC (scl d18 hr (aa (sv 0) (aa (aG aC (aG Bp (SFL.lv (cj (aa (sv 6) af) (ah au))) ag) (SFL.lv (cj (aa ag af) (ah au)))) af)) (Nat.le_trans (by decide) (Nat.le_add_right _ _))) ag) af)) (Nat.le_trans (by decide) (Nat.le_add_right _ _))) af) (hl:=(ah au))) (sgn 8 jn.nd) (ak (aE (az gE (six hr (sv 1) aq) ag (av _)) (ai (fc (aG qk (six hr (sv 1) aq) ag) (nC hr.units (sv 1) aq))
   (ak (md (AH (isT:=jZ) tG PySem.F.plainAttrs_list PySem.F.slot_list_append PySem.F.type_list_append kA (sv 7) (aa (scl d27 hr (aa (sv 0) (aa (sv 1) (aa (sv 2) (aa (sv 3) (aa (sv 4) (aa (sv 5) af)))))) (Nat.le_refl _)) af))))) ay)))
   (ak (ao (sct dD B.b5 aQ (aa (sv 7) af)))))))
  ·exact (aT F2 cX fun cdv A outer s H E hr=>by (conv=>arg 2;whnf);with_reducible exact (ai (sset 6 cX.nd (scl d17 hr (aa (sv 0) (aa ag af)) (Nat.le_trans (by decide) (Nat.le_add_right _ _))))
   (ai (aE (SW.st (bh (az qo (sv 6) ag (av _)) (bu (SW.st (jl (az (aW hr.units) (sv 3) ag (av _)) (iD (az qo (sv 6) ag (av _)))))))) (ak (ao (aL (aa aq (aa (scl d18 hr (aa (sv 0) (aa (aG aC (six hr (sv 1) aq) (six hr (sv 1) aq)) af)) (Nat.le_trans (by decide) (Nat.le_add_right _ _))) af)) (ah (ah au))))) ay)
   (ai (aE (SW.st (bh (az gE (sv 6) ag (av _)) (bu (az (aW hr.units) (sv 3) ag (av _))))) (ak (ao (scl d24 hr (aa (sv 0) (aa (sv 1) (aa (sv 2) (aa (sv 4) af)))) (Nat.le_trans (by decide) (Nat.le_add_right _ _))))) ay)
   (ai (aE (SW.st (jl (az (aW hr.units) (sv 6) ag (av _)) (jl (az qo (sv 3) ag (av _)) (iD (az gE (six hr (sv 1) aq) ag (av _)))))) (ak (ao (scl d25 hr (aa (sv 0) (aa (sv 1) (aa (sv 2) (aa (sv 3) (aa (sv 4) (aa (sv 5) af)))))) (Nat.le_refl _)))) ay)
   (ai (aE (SW.st (bh (az (aW hr.units) (sv 6) ag (av _)) (bu (az (aW hr.units) (sv 6) ag (av _))))) (ai (E9 7 8 cX.nd (ah (ah au)) rfl (by decide) (by with_unfolding_all exact (xk rfl cX.nd rfl rfl (by decide) rfl rfl (aa (scl d22 hr (aa (sv 0) (aa (six hr (six hr (sv 1) aq) (sv 2)) af)) (Nat.le_trans (by decide) (Nat.le_add_right _ _))) (aa (scl d22 hr (aa (sv 0) (aa (six hr (six hr (sv 1) aq) (sv 2)) af)) (Nat.le_trans (by decide) (Nat.le_add_right _ _))) af)) rfl)))
   (ai (km (i:=9) cX.nd (by kernel_rfl) (by kernel_rfl) (N':=["_law_k","_law_deed","_law_deep","_law_held","_law_state","_law_top","_law_world_here"]) (caps:=[none,some 2,some 3,some 5,some 0,some 4,some 1]) (aN (by kernel_rfl)) rfl (df (by unfold Gl;kernel_rfl) B.b0 (aa ag af) (hl:=(ah au))) (fun _ _ _ _ _=>(sgn 0 (by show (["_law_k","_law_deed","_law_deep","_law_held","_law_state","_law_top","_law_world_here"]:List Str).Nodup;decide+kernel))) (fun _ _ _ _ _=>bx) (fun _ _ _ _ _=>(scl d28 hr (aa (sv 4) (aa (sv 6) (aa (sv 1) (aa (aG aC (sv 2) ag) (aa (sv 5) (aa (sv 3) (aa ag af))))))) (Nat.le_refl _))))
   (ak (ao (aG aC (aL (aa aq (aa (sv 7) (aa (sv 8) af))) (ah (ah (ah au)))) (sct dD B.b5 aQ (aa (sv 9) af))))))) ay)
   (ai (aE (az (aW hr.units) (sv 6) ag (av _)) (ai (km (i:=9) cX.nd (by kernel_rfl) (by kernel_rfl) (N':=["_law_k","_law_deed","_law_deep","_law_held","_law_state","_law_top","_law_world_here"]) (caps:=[none,some 2,some 3,some 5,some 0,some 4,some 1]) (aN (by kernel_rfl)) rfl (df (by unfold Gl;kernel_rfl) B.b0 (aa ag af) (hl:=(ah au))) (fun _ _ _ _ _=>(sgn 0 (by show (["_law_k","_law_deed","_law_deep","_law_held","_law_state","_law_top","_law_world_here"]:List Str).Nodup;decide+kernel))) (fun _ _ _ _ _=>bx) (fun _ _ _ _ _=>(scl d28 hr (aa (sv 4) (aa (sv 6) (aa (sv 1) (aa (aG aC (sv 2) ag) (aa (sv 5) (aa (sv 3) (aa ag af))))))) (Nat.le_refl _))))
   (ak (ao (aG aC (aL (aa aq af) (ah au)) (sct dD B.b5 aQ (aa (sv 9) af)))))) ay)
   (ai (aE (az (aW hr.units) (sv 6) ag (av _)) (ak (ao (aL (aa aq (aa (scl d28 hr (aa (sv 0) (aa (sv 1) (aa (sv 2) (aa (aG aC (sv 3) ag) (aa (sv 4) (aa (sv 5) (aa ag af))))))) (Nat.le_refl _)) af)) (ah (ah au))))) ay)
   (ai (sset 10 cX.nd (scl d18 hr (aa (sv 0) (aa (cW 9 (by kernel_rfl)) af)) (Nat.le_trans (by decide) (Nat.le_add_right _ _))))
   (ak (ao (scl d26 hr (aa (sv 0) (aa (sv 1) (aa (sv 2) (aa (sv 3) (aa (sv 4) (aa (sv 5) (aa (sv 10) af))))))) (Nat.le_refl _)))))))))))))
  ·exact mO (aT F3 a8 fun cdv A outer s H E hr=>by (conv=>arg 2;whnf);with_reducible exact (ai (fc (scl d23 hr (aa (sv 0) (aa (sv 1) (aa (sv 2) (aa (sv 4) (aa (sv 5) af))))) (Nat.le_trans (by decide) (Nat.le_add_right _ _))) (f9 rfl (bc (sgn 7 a8.nd) (bc (sgn 8 a8.nd) eD))))
   (ai (aE (az xr (sv 7) g0 (av _)) (ak (ao (aL (aa aq (aa (six hr (six hr (sv 1) aq) (sv 2)) af)) (ah (ah au))))) ay)
   (ai (aE (az (aW hr.units) (sv 6) aq (av _)) (ai (E9 9 10 a8.nd (ah (ah au)) rfl (by decide) (by with_unfolding_all exact (xk rfl a8.nd rfl rfl (by decide) rfl rfl (aa (SFL.ob (cj (aa (sv 8) af) (ah au))) (aa (sv 7) af)) rfl)))
   (ai (eC PassesOwn.never rfl (df (by unfold Gl;kernel_rfl) B.b0 (aa (scl d18 hr (aa (sv 0) (aa (cW 9 (by kernel_rfl)) af)) (Nat.le_trans (by decide) (Nat.le_add_right _ _))) af) (hl:=(ah au))) (sgn 11 a8.nd) (ai (fc (scl d23 hr (aa (sv 0) (aa (sv 1) (aa (sv 2) (aa (sv 4) (aa (sv 5) af))))) (Nat.le_trans (by decide) (Nat.le_add_right _ _))) (f9 rfl (bc (sgn 12 a8.nd) (bc (sgn 13 a8.nd) eD))))
   (ai (sset 10 a8.nd (scb (qL rfl) B.b9 qT (aa (sv 10) (aa (sv 12) af))))
   (ak (sset 9 a8.nd (SFL.ob (Fd (sv 9) (aG Bp (SFL.lv (cj (aa (sv 13) af) (ah au))) (sct xV B.b10 qU (aa (ck (qm hr.units) (sv 13) (sv 9) (by kernel_rfl)) af))))))))))
   (ai (aE (az (aW hr.units) (scb aP B.b7 aR (aa (sv 9) af)) ag (av _)) (ak (md (AH (isT:=jZ) tG PySem.F.plainAttrs_list PySem.F.slot_list_append PySem.F.type_list_append kA (sv 9) (aa (aL (aa (six hr (sv 8) ag) (aa (aL (aa (six hr (six hr (sv 8) ag) ag) (aa (aG qk (aG aC (six hr (six hr (sv 8) ag) ag) ag) (aG iX ag (sct xV B.b10 qU (aa (ck gE (six hr (six hr (sv 8) ag) ag) ag (av _)) af)))) af)) (ah (ah au))) af)) (ah (ah au))) af)))) ay)
   (ai (sset 10 a8.nd (aG aC (sv 10) (sct xV B.b10 qU (aa (ck (aW hr.units) (six hr (sv 1) aq) ag (av _)) af))))
   (ak (ao (aL (aa aq (aa (sct dD B.b5 aQ (aa (sv 9) af)) (aa (scl d28 hr (aa (sv 0) (aa (sv 1) (aa (sv 2) (aa (aG aC (sv 3) ag) (aa (scb (qL rfl) B.b9 qT (aa (sv 4) (aa (sv 10) af))) (aa (aG aC (sv 5) (sv 9)) (aa ag af))))))) (Nat.le_refl _)) af))) (ah (ah (ah au)))))))))) ay)
   (ai (sset 14 a8.nd (scl d28 hr (aa (sv 0) (aa (sv 1) (aa (sv 2) (aa (aG aC (sv 3) ag) (aa (scb (qL rfl) B.b9 qT (aa (sv 4) (aa (sv 7) af))) (aa (aG aC (sv 5) (SFL.lv (cj (aa (sv 8) af) (ah au)))) (aa ag af))))))) (Nat.le_refl _)))
   (ai (aE (az (aW hr.units) (sv 6) aq (av _)) (ak (ao (aL (aa aq (aa (sv 8) (aa (sv 14) (aa (scl d28 hr (aa (sv 0) (aa (sv 1) (aa (sv 2) (aa (aG aC (sv 3) ag) (aa (sv 4) (aa (sv 5) (aa ag af))))))) (Nat.le_refl _)) af)))) (ah (ah (ah (ah au))))))) ay)
   (ak (ao (aL (aa aq (aa (sv 8) (aa (sv 14) af))) (ah (ah (ah au))))))))))))
  ·exact mO (aT F4 bj fun cdv A outer s H E hr=>by (conv=>arg 2;whnf);with_reducible exact (ai (sset 6 bj.nd (scb (qL rfl) B.b9 qT (aa (sv 4) (aa (six hr (six hr (sv 1) aq) (sv 2)) af))))
   (ai (aE (az (aW hr.units) (sv 6) (scb aP B.b7 aR (aa (six hr (sv 1) aq) af)) (av _)) (ak (ao (aL (aa aq (aa (six hr (six hr (sv 1) aq) (sv 2)) af)) (ah (ah au))))) ay)
   (ai (aE (az (hU hr.units) (bU (N':=["_law_lock_here","_law_low","_law_world_here"]) (caps:=[none,some 6,some 1]) (aN (by kernel_rfl)) rfl (bC (sv 5)) (fun _ _ _ _ _=>(sgn 0 (by show (["_law_lock_here","_law_low","_law_world_here"]:List Str).Nodup;decide+kernel))) (fun _ _ _ _ _=>(tN (az (aW hr.units) (six hr (sv 0) ag) (six hr (six hr (sv 2) aq) (sv 1)) (av _)))) (fun _ _ _ _ _=>(sv 0))) (SFL.lv (cj af au)) (av _)) (ak (ao (aL (aa aq (aa (six hr (six hr (sv 1) aq) (sv 2)) af)) (ah (ah au))))) ay)
   (ai (sset 7 bj.nd (six hr (six hr (sv 1) aq) (sv 6)))
   (ai (fc (aG qk (six hr (sv 1) aq) ag) (nC hr.units (sv 1) aq))
   (ai (E9 8 9 bj.nd (ah (ah au)) rfl (by decide) (by with_unfolding_all exact (xk rfl bj.nd rfl rfl (by decide) rfl rfl (aa (scl d22 hr (aa (sv 0) (aa (six hr (six hr (sv 1) aq) (sv 2)) af)) (Nat.le_trans (by decide) (Nat.le_add_right _ _))) (aa (scl d22 hr (aa (sv 0) (aa (six hr (six hr (sv 1) aq) (sv 2)) af)) (Nat.le_trans (by decide) (Nat.le_add_right _ _))) af)) rfl)))
   (ai (sset 10 bj.nd (SFL.ob (cj af au)))
   (ai (eC PassesOwn.never rfl (bC (SFL.lv (cj (aa (aL (aa (sv 8) (aa (sv 9) af)) (ah (ah au))) (aa (aL (aa (sv 9) (aa (sv 8) af)) (ah (ah au))) af)) (ah (ah au))))) (f9 rfl (bc (sgn 11 bj.nd) (bc (sgn 12 bj.nd) eD))) (ai (sset 13 bj.nd (scl d28 hr (aa (sv 0) (aa (sv 1) (aa (sv 2) (aa (aG aC (sv 3) ag) (aa (sv 6) (aa (aG aC (sv 5) (SFL.lv (cj (aa (aL (aa (sv 7) (aa (sv 11) af)) (ah (ah au))) (aa (aL (aa (sv 7) (aa (sv 12) af)) (ah (ah au))) af)) (ah (ah au))))) (aa ag af))))))) (Nat.le_refl _)))
   (ak (md (AH (isT:=jZ) tG PySem.F.plainAttrs_list PySem.F.slot_list_append PySem.F.type_list_append kA (sv 10) (aa (aL (aa (aL (aa aq (aa (aL (aa (sv 7) (aa (sv 11) af)) (ah (ah au))) (aa (aL (aa (aL (aa aq (aa (aL (aa (sv 7) (aa (sv 12) af)) (ah (ah au))) (aa (sv 13) af))) (ah (ah (ah au)))) af) (ah au)) af))) (ah (ah (ah au)))) af) (ah au)) af))))))
   (ak (ao (aL (aa aq (aa (sv 8) (aa (sv 9) (aa (six hr (sv 10) ag) (aa (aL (aa (aL (aa aq (aa (aL (aa (sv 7) (aa (sv 8) af)) (ah (ah au))) (aa (aL af au) af))) (ah (ah (ah au)))) af) (ah au)) (aa (six hr (sv 10) ag) af)))))) (ah (ah (ah (ah (ah (ah au))))))))))))))))))
theorem o8 (F:Fun K "_law_program" "_law_program" gc f fd) (B:Bs P w K mg) (d20:m5 P w K mg base) (d28:q9 P w K mg base) (d18:dg P w K mg base):FnOk P w K mg base CX0 27 f fd gh (spF K 3 eU):=
 mO (aT F cu fun cdv A outer s H E hr=>by (conv=>arg 2;whnf);with_reducible exact (ai (sset 3 cu.nd (scl d20 hr (aa (sv 0) (aa (sv 1) (aa (sv 2) af)))))
   (ai (sset 4 cu.nd (SFL.ob (cj af au)))
   (ai (eC PassesOwn.never rfl (CT (by unfold Gl;kernel_rfl) B.b4 (aa (six hr (sv 3) aq) af) (ah au)) (f9 rfl (bc (sgn 5 cu.nd) (bc (sgn 6 cu.nd) eD))) (ai (sset 7 cu.nd (scl d28 hr (aa (sv 0) (aa (sv 3) (aa (sv 5) (aa ag (aa (oA ji ag) (aa (SFL.lv (cj af au)) (aa (scl d18 hr (aa (sv 0) (aa (cW 9 (by kernel_rfl)) af))) af)))))))))
   (ak (md (AH (isT:=jZ) tG PySem.F.plainAttrs_list PySem.F.slot_list_append PySem.F.type_list_append kA (sv 4) (aa (aL (aa (sv 6) (aa (sct dD B.b5 aQ (aa (six hr (six hr (sv 3) aq) (sv 5)) af)) (aa (sv 7) af))) (ah (ah (ah au)))) af))))))
   (ak (ao (aL (aa (sct dD B.b5 aQ (aa (scb Cb B.b6 kH (aa (six hr (sv 3) aq) af)) af)) (aa (sct dD B.b5 aQ (aa (sv 4) af)) af)) (ah (ah au)))))))))
theorem o9 (F:Fun K "_law_is_word" "_law_is_word" gd f fd) (B:Bs P w K mg):FnOk P w K mg base CX0 1 f fd gj (spF K 1 cI):=
 (aT F oZ fun cdv A outer s H E hr=>by (conv=>arg 2;whnf);with_reducible exact (ai (aE (SW.st (bh (aD (aI (scb bp B.b2 ar (aa (sv 0) (aa (sty B.b16 jb) af))))) (bu (aD (f7 fK fK ag (scb aP B.b7 aR (aa (sv 0) af)) ag))))) (ak (ao br)) ay)
   (ak (ao (scb (fS rfl) B.b13 fT (aa (bU (N':=["_law_sign"]) (caps:=[none]) (aN (by kernel_rfl)) rfl (AD (sv 0)) (fun _ _ _ _ _=>(sgn 0 (by show (["_law_sign"]:List Str).Nodup;decide+kernel))) (fun _ _ _ _ _=>bx) (fun _ _ _ _ _=>(vj Br Br aq (sv 0) aq))) af))))))
theorem mB (F:Fun K "_law_are_words" "_law_are_words" fh f fd) (B:Bs P w K mg) (d30:eT P w K mg base):FnOk P w K mg base CX0 2 f fd ft (spF K 2 cJ):=
 (aT F mq fun cdv A outer s H E hr=>by (conv=>arg 2;whnf);with_reducible exact (ai (aE (SW.st (bh (aD (aI (scb bp B.b2 ar (aa (sv 0) (aa (sty B.b5 aQ) af))))) (bh (az gE (scb aP B.b7 aR (aa (sv 0) af)) (sv 1) (av _)) (bu (aD (aI (scb (fS rfl) B.b13 fT (aa (bU (N':=["_law_one"]) (caps:=[none]) (aN (by kernel_rfl)) rfl (bC (sv 0)) (fun _ _ _ _ _=>(sgn 0 (by show (["_law_one"]:List Str).Nodup;decide+kernel))) (fun _ _ _ _ _=>bx) (fun _ _ _ _ _=>(scl d30 hr (aa (sv 0) af)))) af)))))))) (ak (ao br)) ay)
   (ak (ao (ck (aW hr.units) (ko rfl hr.units (by unfold Gl;kernel_rfl) B.b7 (by unfold Gl;kernel_rfl) B.b15 (sv 0)) (scb aP B.b7 aR (aa (sv 0) af)) (av _))))))
theorem pb (F:Fun K "_law_is_term" "_law_is_term" gf f fd) (B:Bs P w K mg):FnOk P w K mg base CX0 1 f fd gm (spF K 2 cq):=
 (aT F o2 fun cdv A outer s H E hr=>by (conv=>arg 2;whnf);with_reducible exact (ai (aE (SW.st (bh (aD (aI (scb bp B.b2 ar (aa (sv 0) (aa (sty B.b5 aQ) af))))) (bh (az (hU hr.units) (scb aP B.b7 aR (aa (sv 0) af)) ag (av _)) (bu (aD (aI (scb bp B.b2 ar (aa (six hr (sv 0) ag) (aa (sty B.b16 jb) af))))))))) (ak (ao br)) ay)
   (ai (aE (SW.st (bh (aI (scb bp B.b2 ar (aa (six hr (sv 0) ag) (aa (sty B.b1 uT) af)))) (bh (aD (aI (scb bp B.b2 ar (aa (six hr (sv 0) ag) (aa (sty B.b10 qU) af))))) (bu (aD (f7 fK fK (oA ji ag) (six hr (sv 0) ag) ag)))))) (ak (ao br)) ay)
   (ak (ao (ck (sE hr.units) (six hr (sv 0) ag) (aG aC (aL (aa aq af) (ah au)) (sv 1)) (by kernel_rfl)))))))
theorem pf (F:Fun K "_law_is_lock" "_law_is_lock" gg f fd) (B:Bs P w K mg) (d31:gx P w K mg base):FnOk P w K mg base CX0 2 f fd gn (spF K 3 c8):=
 (aT F o3 fun cdv A outer s H E hr=>by (conv=>arg 2;whnf);with_reducible exact (ai (aE (SW.st (bh (aD (aI (scb bp B.b2 ar (aa (sv 0) (aa (sty B.b5 aQ) af))))) (bh (az (hU hr.units) (scb aP B.b7 aR (aa (sv 0) af)) ag (av _)) (bu (aD (aI (scb bp B.b2 ar (aa (six hr (sv 0) ag) (aa (sty B.b16 jb) af))))))))) (ak (ao br)) ay)
   (ak (ao (dN (ck (sE hr.units) (six hr (sv 0) ag) (sv 1) (by kernel_rfl)) (eF (scl d31 hr (aa (six hr (sv 0) ag) (aa (sv 2) af)))))))))
theorem uq (F:Fun K "_law_head" "_law_head" jB f fd) (B:Bs P w K mg) (d30:eT P w K mg base) (d32:kg P w K mg base) (d31:gx P w K mg base):FnOk P w K mg base CX0 3 f fd jS (spF K 4 gY):=
 (aT F mm fun cdv A outer s H E hr=>by (conv=>arg 2;whnf);with_reducible exact (ai (sset 4 mm.nd (six hr (sv 0) ag))
   (ai (aE (az (aW hr.units) (sv 4) aq (av _)) (ak (ao (scl d30 hr (aa (six hr (sv 0) ag) af)))) ay)
   (ai (aE (SW.st (bh (az (aW hr.units) (sv 4) aq (av _)) (bu (az (aW hr.units) (sv 4) aq (av _))))) (ak (ao (scl d32 hr (aa (six hr (sv 0) ag) (aa (sv 1) (aa (sv 3) af)))))) ay)
   (ai (aE (az (aW hr.units) (sv 4) aq (av _)) (ak (ao (dN (scl d31 hr (aa (six hr (sv 0) ag) (aa (sv 3) af))) (eF (scl d31 hr (aa (six hr (sv 0) ag) (aa (sv 3) af))))))) ay)
   (ai (aE (az (aW hr.units) (sv 4) aq (av _)) (ai (aE (SW.st (bh (aD (aI (scb bp B.b2 ar (aa (six hr (sv 0) ag) (aa (sty B.b5 aQ) af))))) (bu (aD (f7 fK fK ag (scb aP B.b7 aR (aa (six hr (sv 0) ag) af)) ag))))) (ak (ao br)) ay)
   (ai (aE (aD (aI (scb (fS rfl) B.b13 fT (aa (bU (N':=["_law_one","_law_names","_law_params"]) (caps:=[none,some 1,some 3]) (aN (by kernel_rfl)) rfl (bC (six hr (sv 0) ag)) (fun _ _ _ _ _=>(sgn 0 (by show (["_law_one","_law_names","_law_params"]:List Str).Nodup;decide+kernel))) (fun _ _ _ _ _=>bx) (fun _ _ _ _ _=>(scl d32 hr (aa (sv 0) (aa (sv 1) (aa (sv 2) af)))))) af)))) (ak (ao br)) ay)
   (ak (ao (ck (aW hr.units) (ko rfl hr.units (by unfold Gl;kernel_rfl) B.b7 (by unfold Gl;kernel_rfl) B.b15 (six hr (sv 0) ag)) (scb aP B.b7 aR (aa (six hr (sv 0) ag) af)) (av _)))))) ay)
   (ai (aE (az (aW hr.units) (sv 4) aq (av _)) (ai (aE (SW.st (bh (aD (aI (scb bp B.b2 ar (aa (six hr (sv 0) ag) (aa (sty B.b16 jb) af))))) (bh (az (qm hr.units) (six hr (sv 0) ag) (sv 2) (by kernel_rfl)) (bu (aD (aI (scb bp B.b2 ar (aa (six hr (sv 0) ag) (aa (sty B.b5 aQ) af))))))))) (ak (ao br)) ay)
   (ak (ao (dN (ck (aW hr.units) (six hr (sv 2) (six hr (sv 0) ag)) (scb aP B.b7 aR (aa (six hr (sv 0) ag) af)) (av _)) (eF (scb (fS rfl) B.b13 fT (aa (bU (N':=["_law_one","_law_params"]) (caps:=[none,some 3]) (aN (by kernel_rfl)) rfl (bC (six hr (sv 0) ag)) (fun _ _ _ _ _=>(sgn 0 (by show (["_law_one","_law_params"]:List Str).Nodup;decide+kernel))) (fun _ _ _ _ _=>bx) (fun _ _ _ _ _=>(scl d31 hr (aa (sv 0) (aa (sv 1) af))))) af))))))) ay)
   (ak (ao br)))))))))
theorem uh (F:Fun K "_law_lots" "_law_lots" jy f fd) (B:Bs P w K mg):FnOk P w K mg base CX0 1 f fd jP (spF K 1 fN):=
 (aT F tS fun cdv A outer s H E hr=>by (conv=>arg 2;whnf);with_reducible exact (ak (ao (fe (sv 0) (cV (six hr (yk (bI aq ag (bI aq ag (bI aq ag (bI aq ag (bI aq ag (bI aq ag (bI aq ag (bI aq ag wU)))))))) (by kernel_rfl) (by kernel_rfl) (by simp) fun trs h=>t8 h (by kernel_rfl) (by kernel_rfl) (by simp) (by decide)) (six hr (sv 0) ag))) dI))))
theorem jU (F:Fun K "_law_is_lot" "_law_is_lot" g7 f fd) (B:Bs P w K mg) (kf:PySem.W.keepIn K (.ref f)=true) (bf:Binds K fd dA []) (mf:mg "_law_is_lot"=some (.ref f)) (d33:oV P w K mg base) (d34:ke P w K mg base):∀n,FnOk P w K mg base CX0 (4+n) f fd dA (spF K 5 (cU n))
 | 0=>fX
 | n+1=>by
  have d35:Df P w K mg base "_law_is_lot" (4+n) dA 5 (cU n):=⟨f,fd,jU F B kf bf mf d33 d34 n,kf,bf,mf⟩;exact (aT F gb fun cdv A outer s H E hr=>by (conv=>arg 2;whnf);with_reducible exact (ai (aE (SW.st (bh (aD (aI (scb bp B.b2 ar (aa (sv 0) (aa (sty B.b5 aQ) af))))) (bh (az gE (scb aP B.b7 aR (aa (sv 0) af)) ag (av _)) (bu (az gE (sv 4) ag (av _)))))) (ak (ao br)) ay)
   (ai (sset 5 gb.nd (yk (bI aq ag (bI aq ag (bI aq ag (bI aq ag (bI aq ag (bI aq ag (bI aq ag (bI aq ag wU)))))))) (by kernel_rfl) (by kernel_rfl) (by simp) fun trs h=>t8 h (by kernel_rfl) (by kernel_rfl) (by simp) (by decide)))
   (ai (eC PassesOwn.never rfl (bC (sv 0)) (sgn 6 gb.nd) (ai (aE (SW.st (bh (aD (aI (scb bp B.b2 ar (aa (sv 6) (aa (sty B.b5 aQ) af))))) (bh (az qo (scb aP B.b7 aR (aa (sv 6) af)) ag (av _)) (bu (aD (aI (scb bp B.b2 ar (aa (six hr (sv 6) ag) (aa (sty B.b16 jb) af))))))))) (ak (ao br)) ay)
   (ai (aE (SW.st (bh (az (hU hr.units) (AH (isT:=BJ) EX PySem.F.plainAttrs_dict PySem.F.slot_dict_get PySem.F.type_dict_get (Gu (IC hr)) (sv 5) (aa (six hr (sv 6) ag) af)) (scb aP B.b7 aR (aa (sv 6) af)) (av _)) (bu (aD (aI (scl d33 hr (aa (sv 6) (aa (sv 1) (aa (sv 2) (aa (sv 3) af)))) (Nat.le_trans (by decide) (Nat.le_add_right _ _)))))))) (ak (ao br)) ay)
   (ak (aE (aD (aI (scb (fS rfl) B.b13 fT (aa (bU (N':=["_law_one","_law_deep","_law_many_here","_law_names","_law_params"]) (caps:=[none,some 4,some 2,some 1,some 3]) (aN (by kernel_rfl)) rfl (bC (scl d34 hr (aa (sv 6) af) (Nat.le_trans (by decide) (Nat.le_add_right _ _)))) (fun _ _ _ _ _=>(sgn 0 (by show (["_law_one","_law_deep","_law_many_here","_law_names","_law_params"]:List Str).Nodup;decide+kernel))) (fun _ _ _ _ _=>bx) (fun _ _ _ _ _=>(scl d35 hr (aa (sv 0) (aa (sv 3) (aa (sv 2) (aa (sv 4) (aa (aG aC (sv 1) ag) af))))) (Nat.le_refl _)))) af)))) (ak (ao br)) ay)))))
   (ak (ao br))))))
theorem my (F:Fun K "_law_many" "_law_many" jx f fd) (B:Bs P w K mg) (kf:PySem.W.keepIn K (.ref f)=true) (bf:Binds K fd fI []) (mf:mg "_law_many"=some (.ref f)) (d34:ke P w K mg base):∀n,FnOk P w K mg base CX0 (2+n) f fd fI (spF K 1 (dZ n))
 | 0=>fX
 | n+1=>by
  have d36:Df P w K mg base "_law_many" (2+n) fI 1 (dZ n):=⟨f,fd,my F B kf bf mf d34 n,kf,bf,mf⟩;exact (aT F fV fun cdv A outer s H E hr=>by (conv=>arg 2;whnf);with_reducible exact (ai (sset 1 fV.nd (scb aP B.b7 aR (aa (sv 0) af)))
   (ai (eC PassesOwn.never rfl (bC (sv 0)) (sgn 2 fV.nd) (ak (sset 1 fV.nd (aG aC (sv 1) (scb (Ca rfl) B.b14 Cs (aa (bU (N':=["_law_one"]) (caps:=[none]) (aN (by kernel_rfl)) rfl (bC (scl d34 hr (aa (sv 2) af) (Nat.le_trans (by decide) (Nat.le_add_right _ _)))) (fun _ _ _ _ _=>(sgn 0 (by show (["_law_one"]:List Str).Nodup;decide+kernel))) (fun _ _ _ _ _=>bx) (fun _ _ _ _ _=>(scl d36 hr (aa (sv 0) af) (Nat.le_refl _)))) af))))))
   (ak (ao (sv 1))))))
theorem lI (F:Fun K "_law_is_program" "_law_is_program" eJ f fd) (B:Bs P w K mg) (d37:iA P w K mg base) (d30:eT P w K mg base) (d35:k7 P w K mg base) (d36:oS P w K mg base):FnOk P w K mg base CX0 13 f fd eO (spF K 1 cC):=
 (aT F dO fun cdv A outer s H E hr=>by (conv=>arg 2;whnf);with_reducible exact (ai (aE (SW.st (bh (aD (aI (scb bp B.b2 ar (aa (sv 0) (aa (sty B.b5 aQ) af))))) (bh (az (hU hr.units) (scb aP B.b7 aR (aa (sv 0) af)) ag (av _)) (bh (aD (aI (scl d37 hr (aa (six hr (sv 0) ag) (aa ag af))))) (bu (az (Bt hr.units) (six hr (sv 0) ag) (aL af au) (av _))))))) (ak (ao br)) ay)
   (ai (aE (SW.st (bh (az (hU hr.units) (six hr (sv 0) ag) (sct dD B.b5 aQ (aa (scb sS B.b6 kH (aa (six hr (sv 0) ag) af)) af)) (av _)) (bh (aD (aI (scb bp B.b2 ar (aa (six hr (sv 0) ag) (aa (sty B.b5 aQ) af))))) (bu (aD (f7 fK fK ag (scb aP B.b7 aR (aa (six hr (sv 0) ag) af)) ag)))))) (ak (ao br)) ay)
   (ai (eC PassesOwn.never rfl (bC (six hr (sv 0) ag)) (sgn 1 dO.nd) (ai (aE (SW.st (bh (aD (aI (scb bp B.b2 ar (aa (sv 1) (aa (sty B.b5 aQ) af))))) (bh (az (hU hr.units) (scb aP B.b7 aR (aa (sv 1) af)) ag (av _)) (bu (aD (aI (scl d30 hr (aa (six hr (sv 1) ag) af)))))))) (ak (ao br)) ay)
   (ak (aE (aD (aI (scl d37 hr (aa (six hr (sv 1) ag) (aa ag af))))) (ak (ao br)) ay))))
   (ai (sset 2 dO.nd (sct (Ce rfl) B.b12 Es (aa (bU (N':=["_law_deed"]) (caps:=[none]) (aN (by kernel_rfl)) rfl (bC (six hr (sv 0) ag)) (fun _ _ _ _ _=>(sgn 0 (by show (["_law_deed"]:List Str).Nodup;decide+kernel))) (fun _ _ _ _ _=>bx) (fun _ _ _ _ _=>(aL (aa (six hr (sv 0) ag) (aa (scb aP B.b7 aR (aa (six hr (sv 0) ag) af)) af)) (ah (ah au))))) af)))
   (ai (aE (az qo (scb aP B.b7 aR (aa (sv 2) af)) (scb aP B.b7 aR (aa (six hr (sv 0) ag) af)) (av _)) (ak (ao br)) ay)
   (ai (aE (aD (aI (scb (fS rfl) B.b13 fT (aa (bU (N':=["_law_deed","_law_many_here","_law_thing"]) (caps:=[none,some 2,some 0]) (aN (by kernel_rfl)) rfl (bC (six hr (sv 0) ag)) (fun _ _ _ _ _=>(sgn 0 (by show (["_law_deed","_law_many_here","_law_thing"]:List Str).Nodup;decide+kernel))) (fun _ _ _ _ _=>bx) (fun _ _ _ _ _=>(scl d35 hr (aa (six hr (sv 0) ag) (aa (six hr (sv 2) ag) (aa (sv 1) (aa (six hr (sv 0) ag) (aa ag af)))))))) af)))) (ak (ao br)) ay)
   (ak (ao (ck fK (scb (Ca rfl) B.b14 Cs (aa (bU (N':=["_law_deed"]) (caps:=[none]) (aN (by kernel_rfl)) rfl (bC (six hr (sv 0) ag)) (fun _ _ _ _ _=>(sgn 0 (by show (["_law_deed"]:List Str).Nodup;decide+kernel))) (fun _ _ _ _ _=>bx) (fun _ _ _ _ _=>(scl d36 hr (aa (six hr (sv 0) ag) af)))) af)) ag (av _)))))))))))
theorem qp (F:Fun K "is_tuple_of" "is_tuple_of" g4 f fd) (B:Bs P w K mg):FnOk P w K mg base CX0 1 f fd g9 (spF K 2 cf):=
 (aT F pV fun cdv A outer s H E hr=>by (conv=>arg 2;whnf);with_reducible exact (ak (ao (dN (scb bp B.b2 ar (aa (sv 0) (aa (sty B.b5 aQ) af))) (eF (ck (aW hr.units) (scb aP B.b7 aR (aa (sv 0) af)) (sv 1) (av _)))))))
theorem xx (F:Fun K "is_word" "is_word" nF f fd) (B:Bs P w K mg):FnOk P w K mg base CX0 1 f fd nY (spF K 1 f6):=
 (aT F wZ fun cdv A outer s H E hr=>by (conv=>arg 2;whnf);with_reducible exact (ai (aE (SW.st (bh (aD (aI (scb bp B.b2 ar (aa (sv 0) (aa (sty B.b16 jb) af))))) (bu (aD (f7 fK fK ag (scb aP B.b7 aR (aa (sv 0) af)) (fQ B.C_MOST_LETTERS (by unfold Gl;kernel_rfl))))))) (ak (ao br)) ay)
   (ak (ao (scb (fS rfl) B.b13 fT (aa (bU (N':=["letter"]) (caps:=[none]) (aN (by kernel_rfl)) rfl (AD (sv 0)) (fun _ _ _ _ _=>(sgn 0 (by show (["letter"]:List Str).Nodup;decide+kernel))) (fun _ _ _ _ _=>bx) (fun _ _ _ _ _=>(ck (sE hr.units) (sv 0) (fQ B.C_LETTERS (by unfold Gl;kernel_rfl)) (by kernel_rfl)))) af))))))
theorem kQ (F:Fun K "are_unlike_words" "are_unlike_words" dP f fd) (B:Bs P w K mg) (d2:kJ P w K mg base):FnOk P w K mg base CX0 2 f fd dS (spF K 3 bN):=
 (aT F kO fun cdv A outer s H E hr=>by (conv=>arg 2;whnf);with_reducible exact (ai (aE (SW.st (bh (aD (aI (scb bp B.b2 ar (aa (sv 0) (aa (sty B.b5 aQ) af))))) (bu (aD (f7 fK fK (sv 1) (scb aP B.b7 aR (aa (sv 0) af)) (sv 2)))))) (ak (ao br)) ay)
   (ak (ao (dN (scb (fS rfl) B.b13 fT (aa (bU (N':=["word"]) (caps:=[none]) (aN (by kernel_rfl)) rfl (bC (sv 0)) (fun _ _ _ _ _=>(sgn 0 (by show (["word"]:List Str).Nodup;decide+kernel))) (fun _ _ _ _ _=>bx) (fun _ _ _ _ _=>(scl d2 hr (aa (sv 0) af)))) af)) (eF (ck (aW hr.units) (ko rfl hr.units (by unfold Gl;kernel_rfl) B.b7 (by unfold Gl;kernel_rfl) B.b15 (sv 0)) (scb aP B.b7 aR (aa (sv 0) af)) (av _))))))))
theorem ue (F:Fun K "are_heads" "are_heads" ju f fd) (B:Bs P w K mg) (d1:cR P w K mg base) (d6:dW P w K mg base):FnOk P w K mg base CX0 3 f fd jM (spF K 1 gW):=
 (aT F tR fun cdv A outer s H E hr=>by (conv=>arg 2;whnf);with_reducible exact (ai (aE (SW.st (bh (aD (aI (scb bp B.b2 ar (aa (sv 0) (aa (sty B.b5 aQ) af))))) (bu (aD (aI (scb (fS rfl) B.b13 fT (aa (bU (N':=["deed"]) (caps:=[none]) (aN (by kernel_rfl)) rfl (bC (sv 0)) (fun _ _ _ _ _=>(sgn 0 (by show (["deed"]:List Str).Nodup;decide+kernel))) (fun _ _ _ _ _=>bx) (fun _ _ _ _ _=>(scl d1 hr (aa (sv 0) (aa ag af))))) af))))))) (ak (ao br)) ay)
   (ai (aE (aD (aI (scl d6 hr (aa (sct dD B.b5 aQ (aa (bU (N':=["deed"]) (caps:=[none]) (aN (by kernel_rfl)) rfl (bC (sv 0)) (fun _ _ _ _ _=>(sgn 0 (by show (["deed"]:List Str).Nodup;decide+kernel))) (fun _ _ _ _ _=>bx) (fun _ _ _ _ _=>(six hr (sv 0) ag))) af)) (aa ag (aa (fQ B.C_MOST_DEEDS (by unfold Gl;kernel_rfl)) af)))))) (ak (ao br)) ay)
   (ak (ao (scb (fS rfl) B.b13 fT (aa (bU (N':=["deed"]) (caps:=[none]) (aN (by kernel_rfl)) rfl (bC (sv 0)) (fun _ _ _ _ _=>(sgn 0 (by show (["deed"]:List Str).Nodup;decide+kernel))) (fun _ _ _ _ _=>bx) (fun _ _ _ _ _=>(scl d6 hr (aa (six hr (sv 0) ag) (aa ag (aa (fQ B.C_MOST_PARAMS (by unfold Gl;kernel_rfl)) af)))))) af)))))))
theorem uc (F:Fun K "are_names" "are_names" jr f fd) (B:Bs P w K mg) (d6:dW P w K mg base):FnOk P w K mg base CX0 3 f fd jK (spF K 1 gU):=
 (aT F tP fun cdv A outer s H E hr=>by (conv=>arg 2;whnf);with_reducible exact (ak (ao (dN (scl d6 hr (aa (sv 0) (aa ag (aa (fQ B.C_MOST_NAMES (by unfold Gl;kernel_rfl)) af)))) (eF (ck (aW hr.units) (SFL.lv (tO (by unfold Gl;kernel_rfl) B.b3 pL (aa (sv 0) af) (ah au))) (scb sS B.b6 kH (aa (sv 0) af)) (av _)))))))
theorem vN (F:Fun K "is_whole" "is_whole" lg f fd) (B:Bs P w K mg):FnOk P w K mg base CX0 1 f fd lG (spF K 1 jf):=
 (aT F vm fun cdv A outer s H E hr=>by (conv=>arg 2;whnf);with_reducible exact (ak (ao (dN (scb bp B.b2 ar (aa (sv 0) (aa (sty B.b10 qU) af))) (eF (Fg (scb bp B.b2 ar (aa (sv 0) (aa (sty B.b1 uT) af)))))))))
theorem xy (F:Fun K "is_term" "is_term" nG f fd) (B:Bs P w K mg) (d1:cR P w K mg base) (d0:q0 P w K mg base):FnOk P w K mg base CX0 2 f fd nZ (spF K 2 fx):=
 (aT F k8 fun cdv A outer s H E hr=>by (conv=>arg 2;whnf);with_reducible exact (ai (aE (aD (aI (scl d1 hr (aa (sv 0) (aa ag af))))) (ak (ao br)) ay)
   (ai (fc (sv 0) (f9 rfl (bc (sgn 2 k8.nd) (bc (sgn 3 k8.nd) eD))))
   (ai (aE (SW.st (bh (aD (aI (scb bp B.b2 ar (aa (sv 2) (aa (sty B.b16 jb) af))))) (bu (aD (aI (scl d0 hr (aa (sv 3) af))))))) (ak (ao br)) ay)
   (ak (ao (dN (HK (ck (aW hr.units) (sv 2) aq (av _)) (eF (ck (sE hr.units) (sv 2) (sv 1) (by kernel_rfl)))) (eF (vj fK fK (oA ji (fQ B.C_MOST_FIGURE (by unfold Gl;kernel_rfl))) (sv 3) (fQ B.C_MOST_FIGURE (by unfold Gl;kernel_rfl)))))))))))
theorem xB (F:Fun K "is_call" "is_call" nJ f fd) (B:Bs P w K mg) (d1:cR P w K mg base) (d2:kJ P w K mg base) (d3:kK P w K mg base):FnOk P w K mg base CX0 3 f fd n4 (spF K 4 kN):=
 (aT F w5 fun cdv A outer s H E hr=>by (conv=>arg 2;whnf);with_reducible exact (ai (aE (SW.st (bh (aD (aI (scl d2 hr (aa (sv 0) af)))) (bh (az (qm hr.units) (sv 0) (sv 2) (by kernel_rfl)) (bu (aD (aI (scl d1 hr (aa (sv 1) (aa (six hr (sv 2) (sv 0)) af))))))))) (ak (ao br)) ay)
   (ak (ao (scb (fS rfl) B.b13 fT (aa (bU (N':=["term","params"]) (caps:=[none,some 3]) (aN (by kernel_rfl)) rfl (bC (sv 1)) (fun _ _ _ _ _=>(sgn 0 (by show (["term","params"]:List Str).Nodup;decide+kernel))) (fun _ _ _ _ _=>bx) (fun _ _ _ _ _=>(scl d3 hr (aa (sv 0) (aa (sv 1) af))))) af))))))
theorem xA (F:Fun K "is_lock" "is_lock" nI f fd) (B:Bs P w K mg) (d1:cR P w K mg base) (d3:kK P w K mg base):FnOk P w K mg base CX0 3 f fd n3 (spF K 3 iB):=
 (aT F k9 fun cdv A outer s H E hr=>by (conv=>arg 2;whnf);with_reducible exact (ai (aE (aD (aI (scl d1 hr (aa (sv 0) (aa ag af))))) (ak (ao br)) ay)
   (ai (fc (sv 0) (f9 rfl (bc (sgn 3 k9.nd) (bc (sgn 4 k9.nd) eD))))
   (ak (ao (dN (scb bp B.b2 ar (aa (sv 3) (aa (sty B.b16 jb) af))) (dN (ck (sE hr.units) (sv 3) (sv 1) (by kernel_rfl)) (eF (scl d3 hr (aa (sv 4) (aa (sv 2) af)))))))))))
theorem ud (F:Fun K "are_locks" "are_locks" jt f fd) (B:Bs P w K mg) (d4:ow P w K mg base):FnOk P w K mg base CX0 4 f fd jL (spF K 3 gV):=
 (aT F tQ fun cdv A outer s H E hr=>by (conv=>arg 2;whnf);with_reducible exact (ai (aE (SW.st (bh (aD (aI (scb bp B.b2 ar (aa (sv 0) (aa (sty B.b5 aQ) af))))) (bu (aD (f7 fK fK (fQ B.C_FEWEST_IN_ALL (by unfold Gl;kernel_rfl)) (scb aP B.b7 aR (aa (sv 0) af)) (fQ B.C_MOST_IN_ALL (by unfold Gl;kernel_rfl))))))) (ak (ao br)) ay)
   (ak (ao (dN (scb (fS rfl) B.b13 fT (aa (bU (N':=["lock","names","params"]) (caps:=[none,some 1,some 2]) (aN (by kernel_rfl)) rfl (bC (sv 0)) (fun _ _ _ _ _=>(sgn 0 (by show (["lock","names","params"]:List Str).Nodup;decide+kernel))) (fun _ _ _ _ _=>bx) (fun _ _ _ _ _=>(scl d4 hr (aa (sv 0) (aa (sv 1) (aa (sv 2) af)))))) af)) (eF (ck (aW hr.units) (ko rfl hr.units (by unfold Gl;kernel_rfl) B.b7 (by unfold Gl;kernel_rfl) B.b15 (sv 0)) (scb aP B.b7 aR (aa (sv 0) af)) (av _))))))))
theorem mx (F:Fun K "is_right_ahead" "is_right_ahead" fg f fd) (B:Bs P w K mg) (d2:kJ P w K mg base) (d10:tE P w K mg base) (d9:oQ P w K mg base) (d4:ow P w K mg base) (d3:kK P w K mg base):FnOk P w K mg base CX0 5 f fd fm (spF K 4 dh):=
 (aT F gC fun cdv A outer s H E hr=>by (conv=>arg 2;whnf);with_reducible exact (ai (sset 4 gC.nd (six hr (sv 0) ag))
   (ai (aE (az (aW hr.units) (sv 4) aq (av _)) (ak (ao (scl d2 hr (aa (six hr (sv 0) ag) af)))) ay)
   (ai (aE (az (aW hr.units) (sv 4) aq (av _)) (ak (ao (scl d10 hr (aa (six hr (sv 0) ag) (aa (six hr (sv 0) ag) (aa (sv 2) (aa (sv 3) af))))))) ay)
   (ai (aE (az (aW hr.units) (sv 4) aq (av _)) (ak (ao (scl d9 hr (aa (six hr (sv 0) ag) (aa (sv 1) (aa (sv 3) af)))))) ay)
   (ai (aE (az (sE hr.units) (sv 4) (aL (aa aq (aa aq af)) (ah (ah au))) (by kernel_rfl)) (ak (ao (scl d4 hr (aa (six hr (sv 0) ag) (aa (sv 1) (aa (sv 3) af)))))) ay)
   (ai (aE (az (aW hr.units) (sv 4) aq (av _)) (ak (ao (dN (scl d3 hr (aa (six hr (sv 0) ag) (aa (sv 3) af))) (eF (scl d3 hr (aa (six hr (sv 0) ag) (aa (sv 3) af))))))) ay)
   (ak (ao br)))))))))
theorem ub (F:Fun K "is_shaped" "is_shaped" jq f fd) (B:Bs P w K mg):FnOk P w K mg base CX0 1 f fd jJ (spF K 1 gS):=
 (aT F iH fun cdv A outer s H E hr=>by (conv=>arg 2;whnf);with_reducible exact (ai (aE (SW.st (bh (aD (aI (scb bp B.b2 ar (aa (sv 0) (aa (sty B.b5 aQ) af))))) (bu (az (aW hr.units) (scb aP B.b7 aR (aa (sv 0) af)) ag (av _))))) (ak (ao br)) ay)
   (ai (aE (SW.st (bh (aD (aI (scb bp B.b2 ar (aa (six hr (sv 0) ag) (aa (sty B.b16 jb) af))))) (bu (CP B.T_SHAPES (six hr (sv 0) ag))))) (ak (ao br)) ay)
   (ai (fc (AG B.T_SHAPES (six hr (sv 0) ag)) (f9 rfl (bc (sgn 1 iH.nd) (bc (sgn 2 iH.nd) eD))))
   (ak (ao (ck (aW hr.units) (scb aP B.b7 aR (aa (sv 0) af)) (aG aC (sv 1) (sv 2)) (av _))))))))
theorem xw (F:Fun K "lots_of" "lots_of" nE f fd) (B:Bs P w K mg):FnOk P w K mg base CX0 1 f fd nX (spF K 1 kM):=
 (aT F wY fun cdv A outer s H E hr=>by (conv=>arg 2;whnf);with_reducible exact (ak (ao (fe (sv 0) (cV (six hr (AG B.T_SHAPES (six hr (sv 0) ag)) ag)) dI))))
theorem mw (F:Fun K "rows_left" "rows_left" jo f fd) (B:Bs P w K mg) (kf:PySem.W.keepIn K (.ref f)=true) (bf:Binds K fd fH []) (mf:mg "rows_left"=some (.ref f)) (d12:iz P w K mg base) (d11:oO P w K mg base) (d5:tD P w K mg base):∀n,FnOk P w K mg base CX0 (6+n) f fd fH (spF K 6 (dY n))
 | 0=>fX
 | n+1=>by
  have d13:Df P w K mg base "rows_left" (6+n) fH 6 (dY n):=⟨f,fd,mw F B kf bf mf d12 d11 d5 n,kf,bf,mf⟩;exact (aT F eG fun cdv A outer s H E hr=>by (conv=>arg 2;whnf);with_reducible exact (ai (aE (SW.st (bh (az gE (sv 1) (fQ B.C_MOST_DEEP (by unfold Gl;kernel_rfl)) (av _)) (bh (aD (aI (scb bp B.b2 ar (aa (sv 0) (aa (sty B.b5 aQ) af))))) (bu (az gE (scb aP B.b7 aR (aa (sv 0) af)) (fQ B.C_MOST_IN_LOT (by unfold Gl;kernel_rfl)) (av _)))))) (ak (ao g0)) ay)
   (ai (eC PassesOwn.never rfl (bC (sv 0)) (sgn 6 eG.nd) (ai (aE (SW.st (bh (az (aW hr.units) (sv 2) ag (av _)) (bh (aD (aI (scl d11 hr (aa (sv 6) af) (Nat.le_trans (by decide) (Nat.le_add_right _ _))))) (bu (aD (aI (scl d12 hr (aa (sv 6) (aa (sv 3) (aa (sv 4) (aa (sv 5) af)))) (Nat.le_trans (by decide) (Nat.le_add_right _ _))))))))) (ak (ao g0)) ay)
   (ai (Jg 2 eG.nd ag D4)
   (ak (eC PassesOwn.never rfl (bC (scl d5 hr (aa (sv 6) af) (Nat.le_trans (by decide) (Nat.le_add_right _ _)))) (sgn 7 eG.nd) (ai (sset 2 eG.nd (scl d13 hr (aa (sv 7) (aa (aG aC (sv 1) ag) (aa (sv 2) (aa (sv 3) (aa (sv 4) (aa (sv 5) af)))))) (Nat.le_refl _)))
   (ak (aE (az xr (sv 2) g0 (av _)) (ak (ao g0)) ay))))))))
   (ak (ao (sv 2))))))
theorem rO (F:Fun K "is_program" "is_program" iI f fd) (B:Bs P w K mg) (d1:cR P w K mg base) (d8:oR P w K mg base) (d7:oP P w K mg base) (d13:oN P w K mg base):FnOk P w K mg base CX0 15 f fd iS (spF K 1 cB):=
 (aT F bO fun cdv A outer s H E hr=>by (conv=>arg 2;whnf);with_reducible exact (ai (aE (aD (aI (scl d1 hr (aa (sv 0) (aa ag af))))) (ak (ao br)) ay)
   (ai (fc (sv 0) (f9 rfl (bc (sgn 1 bO.nd) (bc (sgn 2 bO.nd) eD))))
   (ai (aE (SW.st (bh (aD (aI (scl d7 hr (aa (sv 1) af)))) (bu (aD (aI (scl d8 hr (aa (sv 2) af))))))) (ak (ao br)) ay)
   (ai (Az (i:=3) bO.nd (by kernel_rfl) (by kernel_rfl) (N':=["deed","params","rows"]) (caps:=[none,none,none]) (aN (by kernel_rfl)) rfl (bC (sv 2)) (fun _ _ _ _ _=>(f9 rfl (bc (sgn 0 (by show (["deed","params","rows"]:List Str).Nodup;decide+kernel)) (bc (sgn 1 (by show (["deed","params","rows"]:List Str).Nodup;decide+kernel)) (bc (sgn 2 (by show (["deed","params","rows"]:List Str).Nodup;decide+kernel)) eD))))) (fun _ _ _ _ _=>bx) (fun _ _ _ _ _=>(sv 0)) (fun _ _ _ _ _=>(scb aP B.b7 aR (aa (sv 1) af))))
   (ai (sset 4 bO.nd (fQ B.C_MOST_ROWS (by unfold Gl;kernel_rfl)))
   (ai (eC PassesOwn.never rfl (bC (sv 2)) (f9 rfl (bc (sgn 5 bO.nd) (bc (sgn 6 bO.nd) (bc (sgn 7 bO.nd) eD)))) (ai (sset 4 bO.nd (scl d13 hr (aa (sv 7) (aa ag (aa (sv 4) (aa (sv 1) (aa (sv 3) (aa (sv 6) af))))))))
   (ak (aE (az xr (sv 4) g0 (av _)) (ak (ao br)) ay))))
   (ak (ao br)))))))))
theorem kY (F:Fun K "_law_parts" "_law_parts" iL f fd) (B:Bs P w K mg) (kf:PySem.W.keepIn K (.ref f)=true) (bf:Binds K fd eN []) (mf:mg "_law_parts"=some (.ref f)):∀n,FnOk P w K mg base CX0 (1+n) f fd eN (spF K 1 (dm n))
 | 0=>fX
 | n+1=>by
  have d39:Df P w K mg base "_law_parts" (1+n) eN 1 (dm n):=⟨f,fd,kY F B kf bf mf  n,kf,bf,mf⟩;exact (aT F fz fun cdv A outer s H E hr=>by (conv=>arg 2;whnf);with_reducible exact (ai (sset 1 fz.nd (SFL.lv (cj (aa (sv 0) af) (ah au))))
   (ai (aE (aI (scb bp B.b2 ar (aa (sv 0) (aa (sty B.b5 aQ) af)))) (ak (eC PassesOwn.never rfl (bC (sv 0)) (sgn 2 fz.nd) (ak (sset 1 fz.nd (aG aC (sv 1) (scl d39 hr (aa (sv 2) af) (Nat.le_refl _))))))) ay)
   (ak (ao (sv 1))))))
theorem rR (F:Fun K "_law_other" "_law_other" iM f fd) (B:Bs P w K mg) (d17:bS P w K mg base) (d18:dg P w K mg base):FnOk P w K mg base CX0 4 f fd iV (spF K 3 eV):=
 (aT F cP fun cdv A outer s H E hr=>by (conv=>arg 2;whnf);with_reducible exact (ai (sset 3 cP.nd (cW 9 (by kernel_rfl)))
   (ai (sset 3 cP.nd (aG aC (sv 3) (cW 9 (by kernel_rfl))))
   (ai (aE (SW.st (jl (aI (scb bp B.b2 ar (aa (sv 1) (aa (sty B.b5 aQ) af)))) (iD (az gE (scb aP B.b7 aR (aa (sv 1) af)) ag (av _))))) (ai (sset 4 cP.nd (scl d17 hr (aa (sv 0) (aa (scb aP B.b7 aR (aa (sv 1) af)) af))))
   (ai (sset 3 cP.nd (aG aC (sv 3) (SFL.lv (cj (aa (aG aC (fe (sv 1) dI (cV (sv 4))) (fe (sv 1) (cV (aG aC (sv 4) ag)) dI)) (aa (aG aC (sv 1) (fe (sv 1) (cV (sv 4)) (cV (aG aC (sv 4) ag)))) (aa (aG aC (fe (sv 1) (cV (sv 4)) dI) (fe (sv 1) dI (cV (sv 4)))) af))) (ah (ah (ah au)))))))
   (ak (sset 3 cP.nd (aG aC (sv 3) (SFL.lv (cj (aa (SFL.lv (tO (by unfold Gl;kernel_rfl) B.b3 pL (aa (sv 1) af) (ah au))) (aa (CW (sv 1) (oA ji ag)) (aa (aL (aa (sv 1) af) (ah au)) af))) (ah (ah (ah au)))))))))) ay)
   (ak (ao (scl d18 hr (aa (sv 0) (aa (SFL.lv (cj (aa (scl d18 hr (aa (sv 0) (aa (sv 3) af))) (aa (scl d18 hr (aa (sv 0) (aa (sv 2) af))) af)) (ah (ah au)))) af)))))))))
theorem mz (F:Fun K "_law_bent" "_law_bent" jD f fd) (B:Bs P w K mg) (kf:PySem.W.keepIn K (.ref f)=true) (bf:Binds K fd fJ []) (mf:mg "_law_bent"=some (.ref f)) (d17:bS P w K mg base) (d40:m9 P w K mg base):∀n,FnOk P w K mg base CX0 (5+n) f fd fJ (spF K 3 (c9 n))
 | 0=>fX
 | n+1=>by
  have d41:Df P w K mg base "_law_bent" (5+n) fJ 3 (c9 n):=⟨f,fd,mz F B kf bf mf d17 d40 n,kf,bf,mf⟩;exact (aT F mn fun cdv A outer s H E hr=>by (conv=>arg 2;whnf);with_reducible exact (ai (aE (SW.st (bh (aD (aI (scb bp B.b2 ar (aa (sv 1) (aa (sty B.b5 aQ) af))))) (bh (az (Bt hr.units) (sv 1) (aL af au) (av _)) (bu (az (aW hr.units) (scl d17 hr (aa (sv 0) (aa ag af)) (Nat.le_trans (by decide) (Nat.le_add_right _ _))) ag (av _)))))) (ak (ao (scl d40 hr (aa (sv 0) (aa (sv 1) (aa (sv 2) af))) (Nat.le_trans (by decide) (Nat.le_add_right _ _))))) ay)
   (ai (sset 3 mn.nd (scl d17 hr (aa (sv 0) (aa (scb aP B.b7 aR (aa (sv 1) af)) af)) (Nat.le_trans (by decide) (Nat.le_add_right _ _))))
   (ak (ao (aG aC (aG aC (fe (sv 1) dI (cV (sv 3))) (aL (aa (scl d41 hr (aa (sv 0) (aa (six hr (sv 1) (sv 3)) (aa (sv 2) af))) (Nat.le_refl _)) af) (ah au))) (fe (sv 1) (cV (aG aC (sv 3) ag)) dI)))))))
theorem Gn (F:Fun K "law" "law" oB f fd) (B:Bs P w K mg) (d15:ng P w K mg base) (d29:kd P w K mg base) (d18:dg P w K mg base) (d38:gR P w K mg base) (d14:mZ P w K mg base) (d39:m8 P w K mg base) (d41:oX P w K mg base) (d17:bS P w K mg base):FnOk P w K mg base CX0 66 f fd EJ (spF K 1 yT):=
 (aT F iG fun cdv A outer s H E hr=>by (conv=>arg 2;whnf);with_reducible exact (ai (sset 1 iG.nd (scl d15 hr (aa (sv 0) af)))
   (ai (eC PassesOwn.never rfl (df (by unfold Gl;kernel_rfl) B.b0 (aa ag af) (hl:=(ah au))) (sgn 2 iG.nd) (ai (sset 3 iG.nd (scl d29 hr (aa (sv 1) (aa (scl d18 hr (aa (sv 1) (aa (cW 9 (by kernel_rfl)) af))) (aa (scl d18 hr (aa (sv 1) (aa (cW 9 (by kernel_rfl)) af))) af)))))
   (ai (aE (SW.st (bh (az DK (scl d14 hr (aa (sv 3) af)) br (av _)) (bu (aD (aI (scl d38 hr (aa (sv 3) af))))))) (ak (ao br)) ay)
   (ai (sset 4 iG.nd (scl d39 hr (aa (sv 3) af)))
   (ak (eC PassesOwn.never rfl (df (by unfold Gl;kernel_rfl) B.b0 (aa ag af) (hl:=(ah au))) (sgn 5 iG.nd) (ai (sset 6 iG.nd (scl d41 hr (aa (sv 1) (aa (sv 3) (aa (sv 4) af)))))
   (ai (aE (az (aW hr.units) (scl d17 hr (aa (sv 1) (aa ag af))) ag (av _)) (ak (sset 6 iG.nd (scl d41 hr (aa (sv 1) (aa (sv 6) (aa (sv 4) af)))))) ay)
   (ai (sset 7 iG.nd (scl d14 hr (aa (sv 6) af)))
   (ak (aE (SW.st (bh (aD (aI (scb bp B.b2 ar (aa (sv 7) (aa (sty B.b1 uT) af))))) (bu (az (hU hr.units) (sv 7) (scl d38 hr (aa (sv 6) af)) (av _))))) (ak (ao br)) ay)))))))))))
   (ak (ao (dN (ck xt (scl d14 hr (aa g0 af)) br (av _)) (dN (ck xt (scl d14 hr (aa (aL af au) af)) br (av _)) (eF (ck xt (scl d14 hr (aa (aL (aa (aL (aa aq af) (ah au)) (aa (aL af au) af)) (ah (ah au))) af)) br (av _))))))))))
end
theorem fL:Hd.freeOk view (["SHAPES"]:List Str) ["abs","all","bool","dict","enumerate","int","isinstance","len","list","max","min","range","set","sorted","str","sum","tuple"]=true:=by decide+kernel
abbrev Rc (x:Str) (s:Stmt):Prop:=(recsOf view).find? (fun e=>e.name==x)=some (Hd.su x s)
theorem qe:Rc "_law_drawn" iN:=by kernel_rfl
theorem rJ:Rc "_law_load" jA:=by kernel_rfl
theorem rD:Rc "_law_next" jw:=by kernel_rfl
theorem vD:Rc "_law_of" nK:=by kernel_rfl
theorem p9:Rc "_law_words" iK:=by kernel_rfl
theorem p8:Rc "_law_world" iJ:=by kernel_rfl
theorem o6:Rc "_law_is_odd" g6:=by kernel_rfl
theorem rC:Rc "_law_term" jv:=by kernel_rfl
theorem rL:Rc "_law_call" jC:=by kernel_rfl
theorem rH:Rc "_law_lock" jz:=by kernel_rfl
theorem tY:Rc "_law_lot" lj:=by kernel_rfl
theorem tX:Rc "_law_row" lh:=by kernel_rfl
theorem o5:Rc "_law_locked" g5:=by kernel_rfl
theorem mr:Rc "_law_two_ways" fR:=by kernel_rfl
theorem nP:Rc "_law_program" gc:=by kernel_rfl
theorem nQ:Rc "_law_is_word" gd:=by kernel_rfl
theorem lC:Rc "_law_are_words" fh:=by kernel_rfl
theorem nR:Rc "_law_is_term" gf:=by kernel_rfl
theorem nS:Rc "_law_is_lock" gg:=by kernel_rfl
theorem rK:Rc "_law_head" jB:=by kernel_rfl
theorem rG:Rc "_law_lots" jy:=by kernel_rfl
theorem o7:Rc "_law_is_lot" g7:=by kernel_rfl
theorem rE:Rc "_law_many" jx:=by kernel_rfl
theorem kP:Rc "_law_is_program" eJ:=by kernel_rfl
theorem o4:Rc "is_tuple_of" g4:=by kernel_rfl
theorem vz:Rc "is_word" nF:=by kernel_rfl
theorem jF:Rc "are_unlike_words" dP:=by kernel_rfl
theorem rB:Rc "are_heads" ju:=by kernel_rfl
theorem rq:Rc "are_names" jr:=by kernel_rfl
theorem tW:Rc "is_whole" lg:=by kernel_rfl
theorem vA:Rc "is_term" nG:=by kernel_rfl
theorem vC:Rc "is_call" nJ:=by kernel_rfl
theorem vB:Rc "is_lock" nI:=by kernel_rfl
theorem rA:Rc "are_locks" jt:=by kernel_rfl
theorem lz:Rc "is_right_ahead" fg:=by kernel_rfl
theorem rp:Rc "is_shaped" jq:=by kernel_rfl
theorem vy:Rc "lots_of" nE:=by kernel_rfl
theorem rn:Rc "rows_left" jo:=by kernel_rfl
theorem p7:Rc "is_program" iI:=by kernel_rfl
theorem qb:Rc "_law_parts" iL:=by kernel_rfl
theorem qc:Rc "_law_other" iM:=by kernel_rfl
theorem rN:Rc "_law_bent" jD:=by kernel_rfl
theorem Dc:Rc "law" oB:=by kernel_rfl
theorem all_mk {l:PySem.W.OpenLaw} {w:World} {h:Heap} {mg mb:Str->Option Value} {mean:ExcName->Option Value} (T:Top view (PySem.W.looseW view (["SHAPES"]:List Str)) mean mg mb h)
  (Y_SHAPES:Hd.tabAt h "SHAPES"=some (cO.map fun x=>(x.1,hashStr w x.1,x.2)))
  (hF:∀ns:List Int,ns.length≤63->∃h',yT [.ro (ns.map D.int)] []=some (.bl true,h')):
  ∃(fa:Addr) (fd:FuncData),mg "law"=some (.ref fa)∧(∀(s:Shared) (v:Value),BindsTo s fd ⟨[v],[]⟩ [("_law_script",v)])∧∀base:Heap,(Hd.bq h).In base->base.Ns mainGlobals mg->FnOk l.prog w (Hd.bq h) mg base CX0 66 fa fd ["_law_script"] (spT (Hd.bq h)):=by
 have B:Bs l.prog w (Hd.bq h) mg:=⟨Hd.cA T fL (List.mem_of_getElem? (i:=0) rfl),Hd.cA T fL (List.mem_of_getElem? (i:=1) rfl),Hd.cA T fL (List.mem_of_getElem? (i:=2) rfl),Hd.cA T fL (List.mem_of_getElem? (i:=3) rfl),Hd.cA T fL (List.mem_of_getElem? (i:=4) rfl),Hd.cA T fL (List.mem_of_getElem? (i:=5) rfl),Hd.cA T fL (List.mem_of_getElem? (i:=6) rfl),Hd.cA T fL (List.mem_of_getElem? (i:=7) rfl),Hd.cA T fL (List.mem_of_getElem? (i:=8) rfl),Hd.cA T fL (List.mem_of_getElem? (i:=9) rfl),Hd.cA T fL (List.mem_of_getElem? (i:=10) rfl),Hd.cA T fL (List.mem_of_getElem? (i:=11) rfl),Hd.cA T fL (List.mem_of_getElem? (i:=12) rfl),Hd.cA T fL (List.mem_of_getElem? (i:=13) rfl),Hd.cA T fL (List.mem_of_getElem? (i:=14) rfl),Hd.cA T fL (List.mem_of_getElem? (i:=15) rfl),Hd.cA T fL (List.mem_of_getElem? (i:=16) rfl),Hd.fD T (by kernel_rfl),Hd.fD T (by kernel_rfl),Hd.fD T (by kernel_rfl),Hd.fD T (by kernel_rfl),Hd.Ej T (by kernel_rfl) (by decide+kernel),Hd.fD T (by kernel_rfl),Hd.fD T (by kernel_rfl),Hd.fD T (by kernel_rfl),Hd.fD T (by kernel_rfl),Hd.fD T (by kernel_rfl),Hd.fD T (by kernel_rfl),Hd.tab_of Y_SHAPES T.g (by decide+kernel)⟩;obtain ⟨f11,fd11,m11,F11⟩:=Hd.sP T tY;have k11:=F11.kp;have b11:=F11.binds (ps:=fq) fun _ _ _ _ _ _=>Hd.u7 (fun _ _ _ _ _ _ _=>rfl);obtain ⟨f12,fd12,m12,F12⟩:=Hd.sP T tX;have k12:=F12.kp;have b12:=F12.binds (ps:=fo) fun _ _ _ _ _ _=>Hd.u6 (fun _ _ _ _ _ _=>rfl);obtain ⟨f13,fd13,m13,F13⟩:=Hd.sP T o5;have k13:=F13.kp;have b13:=F13.binds (ps:=cQ) fun _ _ _ _ _ _=>Hd.u7 (fun _ _ _ _ _ _ _=>rfl);obtain ⟨f14,fd14,m14,F14⟩:=Hd.sP T mr;have k14:=F14.kp;have b14:=F14.binds (ps:=cv) fun _ _ _ _ _ _=>Hd.u6 (fun _ _ _ _ _ _=>rfl);obtain ⟨f43,fd43,m43,F43⟩:=Hd.sP T Dc;refine ⟨f43,fd43,m43,F43.one fun _ _ _ _ _ _ _=>rfl,fun base _ _=>?_⟩;have d15:ng l.prog w (Hd.bq h) mg base:=Hd.bH T qe (fun F=>F.binds fun _ _ _ _ _ _=>Hd.u1 (fun _=>rfl)) fun F _ _ _=>rT F B;have d16:oU l.prog w (Hd.bq h) mg base:=Hd.bH T rJ (fun F=>F.binds fun _ _ _ _ _ _=>Hd.u1 (fun _=>rfl)) fun F _ _ _=>uo F B;have d17:bS l.prog w (Hd.bq h) mg base:=Hd.bH T rD (fun F=>F.binds fun _ _ _ _ _ _=>Hd.u2 (fun _ _=>rfl)) fun F _ _ _=>ug F B d16;have d18:dg l.prog w (Hd.bq h) mg base:=Hd.bH T vD (fun F=>F.binds fun _ _ _ _ _ _=>Hd.u2 (fun _ _=>rfl)) fun F _ _ _=>xC F B d17;have d19:m7 l.prog w (Hd.bq h) mg base:=Hd.bH T p9 (fun F=>F.binds fun _ _ _ _ _ _=>Hd.u2 (fun _ _=>rfl)) fun F _ _ _=>rQ F B d18 d17;have d20:m5 l.prog w (Hd.bq h) mg base:=Hd.bH T p8 (fun F=>F.binds fun _ _ _ _ _ _=>Hd.u3 (fun _ _ _=>rfl)) fun F _ _ _=>rP F B d19 d18 d17;have d21:ia l.prog w (Hd.bq h) mg base:=Hd.bH T o6 (fun F=>F.binds fun _ _ _ _ _ _=>Hd.u2 (fun _ _=>rfl)) fun F _ _ _=>qq F B d17;have d22:gQ l.prog w (Hd.bq h) mg base:=Hd.bH T rC (fun F=>F.binds fun _ _ _ _ _ _=>Hd.u2 (fun _ _=>rfl)) fun F _ _ _=>uf F B d17 d18;have d24:oW l.prog w (Hd.bq h) mg base:=Hd.bH T rL (fun F=>F.binds fun _ _ _ _ _ _=>Hd.u4 (fun _ _ _ _=>rfl)) fun F _ _ _=>ur F B d21 d18 d22;have d23:oT l.prog w (Hd.bq h) mg base:=Hd.bH T rH (fun F=>F.binds fun _ _ _ _ _ _=>Hd.u5 (fun _ _ _ _ _=>rfl)) fun F _ _ _=>um F B d17 d21 d22;have okr:=yt (P:=l.prog) (w:=w) (base:=base) F11 k11 b11 m11 F12 k12 b12 m12 F13 k13 b13 m13 F14 k14 b14 m14 B d17 d18 d24 d22 d23 20;have d28:q9 l.prog w (Hd.bq h) mg base:=⟨f11,_,okr.1,k11,b11,m11⟩;have d27:yd l.prog w (Hd.bq h) mg base:=⟨f12,_,okr.2.1,k12,b12,m12⟩;have d26:sf l.prog w (Hd.bq h) mg base:=⟨f13,_,okr.2.2.1,k13,b13,m13⟩;have d25:pv l.prog w (Hd.bq h) mg base:=⟨f14,_,okr.2.2.2,k14,b14,m14⟩;have d29:kd l.prog w (Hd.bq h) mg base:=Hd.bH T nP (fun F=>F.binds fun _ _ _ _ _ _=>Hd.u3 (fun _ _ _=>rfl)) fun F _ _ _=>o8 F B d20 d28 d18;have d30:eT l.prog w (Hd.bq h) mg base:=Hd.bH T nQ (fun F=>F.binds fun _ _ _ _ _ _=>Hd.u1 (fun _=>rfl)) fun F _ _ _=>o9 F B;have d37:iA l.prog w (Hd.bq h) mg base:=Hd.bH T lC (fun F=>F.binds fun _ _ _ _ _ _=>Hd.u2 (fun _ _=>rfl)) fun F _ _ _=>mB F B d30;have d31:gx l.prog w (Hd.bq h) mg base:=Hd.bH T nR (fun F=>F.binds fun _ _ _ _ _ _=>Hd.u2 (fun _ _=>rfl)) fun F _ _ _=>pb F B;have d32:kg l.prog w (Hd.bq h) mg base:=Hd.bH T nS (fun F=>F.binds fun _ _ _ _ _ _=>Hd.u3 (fun _ _ _=>rfl)) fun F _ _ _=>pf F B d31;have d33:oV l.prog w (Hd.bq h) mg base:=Hd.bH T rK (fun F=>F.binds fun _ _ _ _ _ _=>Hd.u4 (fun _ _ _ _=>rfl)) fun F _ _ _=>uq F B d30 d32 d31;have d34:ke l.prog w (Hd.bq h) mg base:=Hd.bH T rG (fun F=>F.binds fun _ _ _ _ _ _=>Hd.u1 (fun _=>rfl)) fun F _ _ _=>uh F B;have d35:k7 l.prog w (Hd.bq h) mg base:=Hd.bH T o7 (fun F=>F.binds fun _ _ _ _ _ _=>Hd.u5 (fun _ _ _ _ _=>rfl)) fun F k b m=>jU F B k b m d33 d34 8;have d36:oS l.prog w (Hd.bq h) mg base:=Hd.bH T rE (fun F=>F.binds fun _ _ _ _ _ _=>Hd.u1 (fun _=>rfl)) fun F k b m=>my F B k b m d34 8;have d38:gR l.prog w (Hd.bq h) mg base:=Hd.bH T kP (fun F=>F.binds fun _ _ _ _ _ _=>Hd.u1 (fun _=>rfl)) fun F _ _ _=>lI F B d37 d30 d35 d36;have d1:cR l.prog w (Hd.bq h) mg base:=Hd.bH T o4 (fun F=>F.binds fun _ _ _ _ _ _=>Hd.u2 (fun _ _=>rfl)) fun F _ _ _=>qp F B;have d2:kJ l.prog w (Hd.bq h) mg base:=Hd.bH T vz (fun F=>F.binds fun _ _ _ _ _ _=>Hd.u1 (fun _=>rfl)) fun F _ _ _=>xx F B;have d6:dW l.prog w (Hd.bq h) mg base:=Hd.bH T jF (fun F=>F.binds fun _ _ _ _ _ _=>Hd.u3 (fun _ _ _=>rfl)) fun F _ _ _=>kQ F B d2;have d8:oR l.prog w (Hd.bq h) mg base:=Hd.bH T rB (fun F=>F.binds fun _ _ _ _ _ _=>Hd.u1 (fun _=>rfl)) fun F _ _ _=>ue F B d1 d6;have d7:oP l.prog w (Hd.bq h) mg base:=Hd.bH T rq (fun F=>F.binds fun _ _ _ _ _ _=>Hd.u1 (fun _=>rfl)) fun F _ _ _=>uc F B d6;have d0:q0 l.prog w (Hd.bq h) mg base:=Hd.bH T tW (fun F=>F.binds fun _ _ _ _ _ _=>Hd.u1 (fun _=>rfl)) fun F _ _ _=>vN F B;have d3:kK l.prog w (Hd.bq h) mg base:=Hd.bH T vA (fun F=>F.binds fun _ _ _ _ _ _=>Hd.u2 (fun _ _=>rfl)) fun F _ _ _=>xy F B d1 d0;have d10:tE l.prog w (Hd.bq h) mg base:=Hd.bH T vC (fun F=>F.binds fun _ _ _ _ _ _=>Hd.u4 (fun _ _ _ _=>rfl)) fun F _ _ _=>xB F B d1 d2 d3;have d4:ow l.prog w (Hd.bq h) mg base:=Hd.bH T vB (fun F=>F.binds fun _ _ _ _ _ _=>Hd.u3 (fun _ _ _=>rfl)) fun F _ _ _=>xA F B d1 d3;have d9:oQ l.prog w (Hd.bq h) mg base:=Hd.bH T rA (fun F=>F.binds fun _ _ _ _ _ _=>Hd.u3 (fun _ _ _=>rfl)) fun F _ _ _=>ud F B d4;have d12:iz l.prog w (Hd.bq h) mg base:=Hd.bH T lz (fun F=>F.binds fun _ _ _ _ _ _=>Hd.u4 (fun _ _ _ _=>rfl)) fun F _ _ _=>mx F B d2 d10 d9 d4 d3;have d11:oO l.prog w (Hd.bq h) mg base:=Hd.bH T rp (fun F=>F.binds fun _ _ _ _ _ _=>Hd.u1 (fun _=>rfl)) fun F _ _ _=>ub F B;have d5:tD l.prog w (Hd.bq h) mg base:=Hd.bH T vy (fun F=>F.binds fun _ _ _ _ _ _=>Hd.u1 (fun _=>rfl)) fun F _ _ _=>xw F B;have d13:oN l.prog w (Hd.bq h) mg base:=Hd.bH T rn (fun F=>F.binds fun _ _ _ _ _ _=>Hd.u6 (fun _ _ _ _ _ _=>rfl)) fun F k b m=>mw F B k b m d12 d11 d5 8;have d14:mZ l.prog w (Hd.bq h) mg base:=Hd.bH T p7 (fun F=>F.binds fun _ _ _ _ _ _=>Hd.u1 (fun _=>rfl)) fun F _ _ _=>rO F B d1 d8 d7 d13;have d39:m8 l.prog w (Hd.bq h) mg base:=Hd.bH T qb (fun F=>F.binds fun _ _ _ _ _ _=>Hd.u1 (fun _=>rfl)) fun F k b m=>kY F B k b m  24;have d40:m9 l.prog w (Hd.bq h) mg base:=Hd.bH T qc (fun F=>F.binds fun _ _ _ _ _ _=>Hd.u3 (fun _ _ _=>rfl)) fun F _ _ _=>rR F B d17 d18;have d41:oX l.prog w (Hd.bq h) mg base:=Hd.bH T rN (fun F=>F.binds fun _ _ _ _ _ _=>Hd.u3 (fun _ _ _=>rfl)) fun F k b m=>mz F B k b m d17 d40 60;exact DY (Gn F43 B d15 d29 d18 d38 d14 d39 d41 d17) hF
end Mi
local macro_rules | `(tactic| walk_at "o") => `(tactic| with_reducible first
 | refine Sm.dq ?_ | refine Sm.ie ?_ | refine Sm.qf ?_ | refine Sm.Ib ?_ | refine Sm.Fz ?_ | refine Sm.kX ?_ | refine Sm.gD ?_ | refine Sm.cY ?_ | refine Sm.HV ?_ | refine Sm.Fv ?_ | refine Sm.Dh ?_
 | refine Sm.xh ?_ | refine Sm.Ji ?_ | refine Sm.r_k ?_ | refine Sm.zh ?_ | refine Sm.nT ?_ | refine Sm.HX ?_ | refine Sm.Jn ?_ | refine Sm.AZ ?_ | refine Sm.Jl ?_ | refine Sm.Jp ?_ | refine Sm.Jq ?_
 | refine Sm.lE ?_ | refine Sm.jG ?_ | refine Sm.fk ?_ | refine Sm.Fu ?_ | refine Sm.kW ?_ | refine Sm.yq ?_ | refine Sm.Jk ?_ | refine Sm.HW ?_
 | refine Sm.Jj ?_ | refine Sm.HS ?_ | refine Sm.HU ?_ | refine Sm.Fy ?_ | refine Sm.Fx ?_ | refine Sm.A9 ?_ | refine Sm.Dj ?_ | refine Sm.HZ ?_ | refine Sm.FA ?_
 | refine Sm.JC ?_ | refine Sm.JD ?_ | refine Sm.IX ?_ | refine Sm.IZ ?_ | refine Sm.IY ?_ | refine Sm.JL ?_ | refine Sm.JM ?_ | refine Sm.JN ?_ | refine Sm.JK ?_)
local macro_rules | `(tactic| walk_at "g") => `(tactic| (repeat (first | walk_at "o" | with_reducible refine Sm.xg ?_ | with_reducible refine Sm.EH ?_)); (try dsimp only))
local macro_rules | `(tactic| walk_at "r") => `(tactic| (repeat (first | walk_at "o" | with_reducible refine Sm.xg ?_ | with_reducible refine Sm.EH ?_ | with_reducible refine Sm.Hm ?_ | with_reducible refine Sm.Ho ?_ | with_reducible refine Sm.w_add ?_ | with_reducible refine Sm.w_sub ?_ | with_reducible refine Sm.w_lt ?_ | with_reducible refine Sm.IU ?_ | with_reducible refine Sm.IV ?_ | with_reducible refine Sm.IW ?_ | with_reducible refine Sm.Hx ?_ | with_reducible refine Sm.Hr ?_ | with_reducible refine Sm.Hw ?_ | with_reducible refine Sm.Hq ?_ | with_reducible refine Sm.Hv ?_ | with_reducible refine Sm.Hu ?_ | with_reducible refine Sm.Ht ?_ | with_reducible refine Sm.ER ?_ | with_reducible refine Sm.ES ?_ | with_reducible refine Sm.xj ?_)); (try dsimp only))
namespace Mi
open PySem Sm
theorem lu {a b:Int} {h:MH} {Q:D×MH->Prop} (hb:0 < b) (q:Q (.int (a % b),h)):Rn (qG (.int a) (.int b) h) Q:=⟨_,by unfold qG;dsimp only;rw [if_pos hb],q⟩
theorem Fo {a b:Int} {h:MH} {Q:D×MH->Prop} (hb:0 < b) (hb2:b≤10^40) (q:Q (.int (a / b),h)):Rn (BX (.int a) (.int b) h) Q:=⟨_,by unfold BX;dsimp only;rw [if_pos ⟨hb,hb2⟩],q⟩
theorem nM {a b:Int} {h:MH} {Q:D×MH->Prop} (hb:mC a b=true) (q:Q (.int (a*b),h)):Rn (j3 (.int a) (.int b) h) Q:=⟨_,by show (if mC a b then _ else _)=_;rw [if_pos hb],q⟩
theorem mul_r {a b:Int} (h1:-(2^64) < b) (h2:b < 2^64):mC a b=true:=by unfold mC;simp only [Bool.or_eq_true,Bool.and_eq_true,decide_eq_true_eq];exact .inr ⟨h1,h2⟩
theorem Bz {a b:Int} (h1:-(2^64) < a) (h2:a < 2^64):mC a b=true:=by unfold mC;simp only [Bool.or_eq_true,Bool.and_eq_true,decide_eq_true_eq];exact .inl ⟨h1,h2⟩
theorem zy {h:MH} {s c:Nat} {cs:List Int} {n t:Int} (hs:h[s]?=some (.lst [.int n,.ob c,.int t])) (hc:h[c]?=some (.lst (cs.map D.int))) (ne:c≠s) (t0:0≤t) (tB:t < 2^60):
  Rn (gX [.ob s] h) fun p=>∃n',0≤n'∧p=(.non,h.set s (.lst [.int n',.ob c,.int (t+1)])):=by
 have hl:s < h.length:=(List.getElem?_eq_some_iff.mp hs).1;generalize hH:h.set s (.lst [.int n,.ob c,.int (t+1)])=H;have Hs:H[s]?=some (.lst [.int n,.ob c,.int (t+1)]):=by rw [←hH];exact List.getElem?_set_self hl
 have Hc:H[c]?=some (.lst (cs.map D.int)):=by rw [←hH,List.getElem?_set_ne (Ne.symm ne)];exact hc
 have set0:∀v:Int,rZ (.ob s) (.int 0) (.int v) H=some (h.set s (.lst [.int v,.ob c,.int (t+1)])):=fun v=>by
  rw [uG (p:=0) Hs rfl,←hH,List.set_set];rfl
 have e3:rZ (.ob s) (.int 2) (.int (t+1)) h=some H:=by rw [uG (p:=2) hs rfl,←hH];rfl
 have e4:bE [.ob c] H=some (.int cs.length,H):=by rw [yF Hc,List.length_map]
 refine bt ?_;walk_at "g";refine rv (j4 hs rfl) ?_;walk_at "g";refine rv (j4 hs rfl) ?_;walk_at "g";refine rv rfl ?_;walk_at "g";refine rv e3 ?_;walk_at "g";refine rv (zO Hc) ⟨_,rfl,fun hne=>?pos,fun hne=>?neg⟩
 case' pos=>
  have hpos:0 < cs.length:=by cases cs with | nil=>simp at hne | cons _ _=>simp
  walk_at "g";refine rv e4 (lu (by lia) ?_);obtain ⟨z,hz⟩:=Cw cs (t % (cs.length:Int)) (Int.emod_nonneg _ (by lia)) (Int.emod_lt_of_pos _ (by lia));refine rv (j4 Hc hz) ?_
 all_goals
  walk_at "g";refine rv e4 (rv rfl ⟨_,rfl,?_⟩);refine (fun mix=>⟨fun c1=>?thenA,fun _=>⟨fun z=>(nomatch z),fun _=>mix⟩⟩) ?thenB
  case thenA=>
   walk_at "g";refine rv rfl ?_;walk_at "g";refine rv rfl (rv rfl ⟨_,rfl,fun c2=>?_,fun _=>mix⟩);walk_at "g";refine rv rfl ?_;walk_at "g";refine rv (set0 _) ?_;walk_at "g";exact ⟨_,by split <;> lia,rfl⟩
  case thenB=>
   walk_at "g";refine lu (by decide) ?_;walk_at "g";refine nM (Bz (by decide) (by decide)) ?_;walk_at "g";refine nM (mul_r (by lia) (by lia)) (rv rfl ?_);walk_at "g";refine rv rfl ?_;walk_at "g";refine nM (mul_r (by decide) (by decide)) ?_;walk_at "g";refine lu (by decide) ?_;walk_at "g";refine nM (Bz (Int.lt_of_lt_of_le (by decide) (Int.emod_nonneg _ (by decide))) (Int.lt_trans (Int.emod_lt_of_pos _ (by decide)) (by decide))) ?_;walk_at "g";refine lu (by decide) ?_;walk_at "g";refine nM (mul_r (by decide) (by decide)) ?_;walk_at "g";refine rv rfl ?_;walk_at "g";refine rv rfl ?_;walk_at "g";refine lu (by decide) ?_;walk_at "g";refine rv rfl (rv rfl ?_);walk_at "g";refine rv (set0 _) ?_;walk_at "g";exact ⟨_,Int.add_nonneg (Int.emod_nonneg _ (by decide)) (by decide),rfl⟩
structure St (s c:Nat) (cs:List Int) (R:Nat) (h:MH):Prop where
 st:∃n t:Int,h[s]?=some (.lst [.int n,.ob c,.int t])∧0≤n∧0≤t∧t+R≤2^60
 ce:h[c]?=some (.lst (cs.map D.int))
 ne:c≠s
def But (s:Nat) (h h':MH):Prop:=h'.length=h.length∧∀k,k≠s->h'[k]?=h[k]?
theorem But.refl (s:Nat) (h:MH):But s h h:=⟨rfl,fun _ _=>rfl⟩
theorem But.trans {s:Nat} {h h1 h2:MH} (a:But s h h1) (b:But s h1 h2):But s h h2:=⟨b.1.trans a.1,fun k n=>(b.2 k n).trans (a.2 k n)⟩
theorem But.set {s:Nat} {h:MH} {o:MO}:But s h (h.set s o):=⟨List.length_set,fun k n=>List.getElem?_set_ne (Ne.symm n)⟩
section
variable {s c R:Nat} {cs:List Int} {h:MH}
theorem St.le {R':Nat} (S:St s c cs R h) (hB:R'≤R):St s c cs R' h:=by
 obtain ⟨n,t,e,a,b,d⟩:=S.st;exact ⟨⟨n,t,e,a,b,by lia⟩,S.ce,S.ne⟩
theorem St.dn (k:Nat) (S:St s c cs (R+k) h):St s c cs R h:=S.le (Nat.le_add_right _ _)
theorem St.set {R':Nat} {n t:Int} (S:St s c cs R h) (h1:0≤n) (h2:0≤t) (h3:t+R'≤2^60):St s c cs R' (h.set s (.lst [.int n,.ob c,.int t])):=by
 obtain ⟨n0,t0,e,_⟩:=S.st;exact ⟨⟨n,t,List.getElem?_set_self (List.getElem?_eq_some_iff.mp e).1,h1,h2,h3⟩,by rw [List.getElem?_set_ne (Ne.symm S.ne)];exact S.ce,S.ne⟩
theorem St.more (S:St s c cs R h) (g:MH):St s c cs R (h++g):=by
 obtain ⟨n,t,e,r⟩:=S.st;exact ⟨⟨n,t,by rw [List.getElem?_append_left (List.getElem?_eq_some_iff.mp e).1];exact e,r⟩,by rw [List.getElem?_append_left (List.getElem?_eq_some_iff.mp S.ce).1];exact S.ce,S.ne⟩
theorem St.off {k:Nat} {o:MO} (S:St s c cs R h) (h1:k≠s) (h2:k≠c):St s c cs R (h.set k o):=by
 obtain ⟨n,t,e,r⟩:=S.st;exact ⟨⟨n,t,by rw [List.getElem?_set_ne h1];exact e,r⟩,by rw [List.getElem?_set_ne h2];exact S.ce,S.ne⟩
theorem St.lt (S:St s c cs R h):s < h.length∧c < h.length:=by
 obtain ⟨n,t,e,r⟩:=S.st;exact ⟨(List.getElem?_eq_some_iff.mp e).1,(List.getElem?_eq_some_iff.mp S.ce).1⟩
structure Sb (s c:Nat) (cs:List Int) (h0:MH) (R:Nat) (h:MH):Prop where
 S:St s c cs R h
 b:But s h0 h
theorem St.sb (S:St s c cs R h):Sb s c cs h R h:=⟨S,But.refl _ _⟩
theorem Sb.dn {h0:MH} (k:Nat) (A:Sb s c cs h0 (R+k) h):Sb s c cs h0 R h:=⟨A.S.dn k,A.b⟩
theorem Sb.le {h0:MH} {R':Nat} (A:Sb s c cs h0 R h) (hR:R'≤R):Sb s c cs h0 R' h:=⟨A.S.le hR,A.b⟩
theorem Sb.at_ {h0:MH} {k:Nat} {o:MO} (A:Sb s c cs h0 R h) (e:h0[k]?=some o) (n:k≠s):h[k]?=some o:=(A.b.2 k n).trans e
variable {h0:MH}
theorem dz {m:Int} {Q:D×MH->Prop} (A:Sb s c cs h0 (R+1) h) (m0:0 < m) (m1:m≤10^40) (k:∀(r:Int) (h1:MH),0≤r->r < m->Sb s c cs h0 R h1->Q (.int r,h1)):Rn (aM [.ob s,.int m] h) Q:=by
 have S:=A.S;obtain ⟨n,t,hs,n0,t0,tB⟩:=S.st;refine bt ?_;walk_at "g";refine rv (j4 hs rfl) ?_;walk_at "g";refine rv rfl ⟨_,rfl,fun _=>?pos,fun _=>?neg⟩
 case' pos=>
  walk_at "g";obtain ⟨p,ep,n',n0',rfl⟩:=zy hs S.ce S.ne t0 (by lia);refine rv ep ?_;have S1:St s c cs R (h.set s (.lst [.int n',.ob c,.int (t+1)])):=S.set n0' (by lia) (by lia);have b1:But s h (h.set s (.lst [.int n',.ob c,.int (t+1)])):=But.set
 case' neg=>
  have S1:St s c cs R h:=S.dn 1;have b1:But s h h:=But.refl s h
 all_goals
  generalize h.set s (MO.lst [D.int _,D.ob c,D.int (t+1)])=h1 at*;obtain ⟨n2,t2,hs2,n02,t02,tB2⟩:=S1.st;walk_at "g";refine rv (j4 hs2 rfl) ?_;walk_at "g";refine lu m0 ?_;walk_at "g";refine rv (j4 hs2 rfl) ?_;walk_at "g";refine Fo m0 m1 ?_;walk_at "g";refine rv (uG (p:=0) hs2 rfl) ?_;walk_at "g";exact k _ _ (Int.emod_nonneg _ (by lia)) (Int.emod_lt_of_pos _ m0) ⟨S1.set (Int.ediv_nonneg n02 (by lia)) t02 tB2,A.b.trans (b1.trans But.set)⟩
theorem x5 {d:D} {xs:List D} {Q:D×MH->Prop} (A:Sb s c cs h0 (R+1) h) (hd:d=.lv xs∨d=.tup xs) (l0:0 < xs.length) (l1:xs.length≤1000000) (k:∀(x:D) (h1:MH),x∈xs->Sb s c cs h0 R h1->Q (x,h1)):Rn (aH [.ob s,d] h) Q:=by
 refine bt ?_;walk_at "g";have e1:bE [d] h=some (.int xs.length,h):=by rcases hd with rfl | rfl <;> rfl
 refine rv e1 ?_;walk_at "g";refine dz A (by lia) (by lia) fun r h' r0 r1 A1=>?_;obtain ⟨v,e3,hv⟩:=x9 r0 r1;have e4:fIx d (.int r) h'=some (v,h'):=by rcases hd with rfl | rfl <;> simp only [fIx,dw,ej,Option.bind_some,e3,Option.map_some]
 refine rv e4 ?_;walk_at "g";exact k v h' hv A1
theorem k5 {is:List Int} {Q:D×MH->Prop} (P:Int->Prop) (hP:∀i∈is,P i) (A:Sb s c cs h0 (R+1) h) (k:∀(i:Int) (h1:MH),P i->i∈is->Sb s c cs h0 R h1->Q (.int i,h1)) (l0:0 < is.length:=by simp) (l1:is.length≤1000:=by simp):Rn (aH [.ob s,.lv (is.map D.int)] h) Q:=
 x5 A (.inl rfl) (by rw [List.length_map];exact l0) (by rw [List.length_map];lia) fun x h1 hx A1=>by
  obtain ⟨i,hi,rfl⟩:=List.mem_map.mp hx;exact k i h1 (hP i hi) hi A1
end
theorem xS (ns:List Int) (hn:ns.length≤63) (R:Nat) (hR:R≤2^60):∃cs:List Int,eW [.ro (ns.map D.int)] []=some (.ob 1,[.lst (cs.map D.int),.lst [.int 0,.ob 0,.int 0]])∧St 1 0 cs R [.lst (cs.map D.int),.lst [.int 0,.ob 0,.int 0]]:=by
 refine ⟨(ns.drop (HT.sIx ns.length 0 none)).take (HT.sIx ns.length ns.length (some 63)-HT.sIx ns.length 0 none),?_,⟨⟨0,0,rfl,by decide,by decide,by lia⟩,rfl,by decide⟩⟩;have e:Rn (eW [.ro (ns.map D.int)] []) fun p=>p=(.ob 1,[.lst (((ns.drop (HT.sIx ns.length 0 none)).take (HT.sIx ns.length ns.length (some 63)-HT.sIx ns.length 0 none)).map D.int),.lst [.int 0,.ob 0,.int 0]]):=by
  refine bt ?_;walk_at "g";refine xi ?_;walk_at "g";refine ⟨_,rfl,rv rfl ?_⟩;walk_at "g";refine ⟨_,_,_,rfl,rfl,?_⟩;walk_at "g";simp only [cutD,List.length_map,List.map_drop,List.map_take,List.length_nil,List.nil_append,List.cons_append,List.length_cons]
 obtain ⟨p,ep,rfl⟩:=e;exact ep
end Mi
namespace Mi
open PySem Sm L2
theorem oh {a b:Str} {h:MH} (hl:a.length+b.length≤10000):aS (.str a) (.str b) h=some (.str (a++b),h):=by
 show (if a.length+b.length≤sizeLine then some (D.str (a++b),h) else none)=_;rw [if_pos (by rw [show sizeLine=16777216 from rfl];lia)]
theorem wj {a:Str} {h:MH} (hl:a.length≤10000):bE [.str a] h=some (.int a.length,h):=by
 show (if a.length≤sizeLine then some (D.int a.length,h) else none)=_;rw [if_pos (by rw [show sizeLine=16777216 from rfl];lia)]
theorem wc {a:Str} {lo hi:Option Int} {h:MH} (hl:a.length≤10000):we (.str a) lo hi h=some (.str (Txt.slice a lo hi),h):=by
 show (if a.length≤sizeLine then some (D.str (Txt.slice a lo hi),h) else none)=_;rw [if_pos (by rw [show sizeLine=16777216 from rfl];lia)]
noncomputable def qP (z:Str) (i:Int):Str:=match atI z.cps.toList i with
 | some c=>⟨#[c]⟩
 | none=>""
theorem Ed {z:Str} {i:Int} {h:MH} (hl:z.length≤10000) (h0:0≤i) (h1:i < z.cps.toList.length):(qP z i).length=1∧fIx (.str z) (.int i) h=some (.str (qP z i),h):=by
 obtain ⟨v,e,_⟩:=x9 (xs:=z.cps.toList) h0 h1;have e1:qP z i=⟨#[v]⟩:=by unfold qP;rw [e]
 rw [e1];refine ⟨rfl,?_⟩;show (if z.length≤sizeLine then (atI z.cps.toList i).map fun c=>(D.str ⟨#[c]⟩,h) else none)=_;rw [if_pos (by rw [show sizeLine=16777216 from rfl];lia),e];rfl
noncomputable def fA:Str:="abcdefghijklmnopqrstuvwxyz"
theorem lL {i:Int} {h:MH} (h0:0≤i) (h1:i < 26):(qP fA i).length=1∧fIx (.str "abcdefghijklmnopqrstuvwxyz") (.int i) h=some (.str (qP fA i),h):=
 Ed (z:=fA) (by decide) h0 (by rw [show (fA.cps.toList.length:Int)=26 by decide];exact h1)
def low (w:Str):Prop:=∀c∈w.cps,97≤c∧c≤122
theorem DR:low "":=fun c hc=>absurd (show c∈(#[]:Array Nat) from hc) (by simp)
theorem uu {a b:Str} (ha:low a) (hb:low b):low (a++b):=by
 intro c hc;have hc':c∈a.cps++b.cps:=hc;rcases Array.mem_append.mp hc' with z | z
 ·exact ha c z
 ·exact hb c z
theorem sH {x:Str} (l u:Option Int) (h:low x):low (Txt.slice x l u):=by
 unfold Txt.slice
 split
 ·exact h
 ·intro c hc;have hc':c∈(List.filterMap (x.cps[·]?) (Builtin.Str.strSliceIndices l u 1 x.length)).toArray:=hc;rw [List.mem_toArray] at hc';obtain ⟨i,_,e⟩:=List.mem_filterMap.mp hc';exact h c (Array.mem_of_getElem? e)
theorem xH:fA.cps.toList=(List.range 26).map (97+·):=by decide+kernel
theorem uN {i:Int} (h0:0≤i) (h1:i < 26):qP fA i=⟨#[97+i.toNat]⟩:=by
 obtain ⟨n,rfl⟩:=Int.eq_ofNat_of_zero_le h0;have:atI fA.cps.toList (n:Int)=some (97+n):=by
  rw [xH];exact uW (by rw [List.getElem?_map,List.getElem?_range (by lia)];rfl)
 unfold qP;rw [this];rfl
theorem wz {i:Int} (h0:0≤i) (h1:i < 26):low (qP fA i):=by
 rw [uN h0 h1];intro c hc;have:c=97+i.toNat:=by simpa using hc
 lia
theorem vi {x:Str} {j:Int} (h0:0≤j):(Txt.slice x none (some j)).length≤j.toNat:=by
 have key:(Builtin.Str.strSliceIndices none (some j) 1 x.length).length≤j.toNat:=by
  unfold Builtin.Str.strSliceIndices sliceRange;simp only [show (1:Int) > 0 by decide,if_true,List.length_map,List.length_range]
  (split <;> (try split) <;> (try split) <;> (try simp only [Int.ediv_one]) <;> lia)
 unfold Txt.slice
 split
 ·next z=>simp at z;have:x.cps.size=x.length:=rfl;lia
 ·show (List.filterMap _ (Builtin.Str.strSliceIndices none (some j) 1 x.length)).toArray.size≤_;rw [List.size_toArray];exact Nat.le_trans (List.length_filterMap_le _ _) key
theorem vh {x:Str} {j:Int} (h0:0≤j):(Txt.slice x (some j) none).length≤x.length-j.toNat:=by
 have key:(Builtin.Str.strSliceIndices (some j) none 1 x.length).length≤x.length-j.toNat:=by
  unfold Builtin.Str.strSliceIndices sliceRange;simp only [show (1:Int) > 0 by decide,if_true,List.length_map,List.length_range]
  (split <;> (try split) <;> (try split) <;> (try simp only [Int.ediv_one]) <;> lia)
 unfold Txt.slice
 split
 ·next z=>simp at z;have:x.cps.size=x.length:=rfl;lia
 ·show (List.filterMap _ (Builtin.Str.strSliceIndices (some j) none 1 x.length)).toArray.size≤_;rw [List.size_toArray];exact Nat.le_trans (List.length_filterMap_le _ _) key
theorem yb {a b x y:Str} (e:a++x++b=a++y++b):x=y:=by
 have e1:(a.cps++x.cps)++b.cps=(a.cps++y.cps)++b.cps:=congrArg Str.cps e;have e2:=congrArg Array.toList e1;simp only [Array.toList_append] at e2;have e3:=List.append_cancel_left (List.append_cancel_right e2);cases x;cases y;exact congrArg Str.mk (Array.toList_inj.mp e3)
noncomputable def wordAt (stem:Str) (at_ first stride:Int) (k:Int):Str:=Txt.slice stem none (some at_)++qP fA ((first+stride*k) % 26)++Txt.slice stem (some at_) none
theorem Ag {stem:Str} {at_ first stride:Int} {k j:Nat} (hs:stride∈[1,3,5,7,9,11]) (hk:k < 6) (hj:j < 6) (e:wordAt stem at_ first stride k=wordAt stem at_ first stride j):k=j:=by
 have e1:=yb (show Txt.slice stem none (some at_)++_++Txt.slice stem (some at_) none=Txt.slice stem none (some at_)++_++_ from e);rw [uN (Int.emod_nonneg _ (by decide)) (Int.emod_lt_of_pos _ (by decide)),uN (Int.emod_nonneg _ (by decide)) (Int.emod_lt_of_pos _ (by decide))] at e1;have e2:97+((first+stride*k) % 26).toNat=97+((first+stride*j) % 26).toNat:=by injection e1 with e1;injection e1 with e1;injection e1
 have e3:(first+stride*k) % 26=(first+stride*j) % 26:=by
  have a1:=Int.emod_nonneg (first+stride*k) (show (26:Int)≠0 by decide);have a2:=Int.emod_nonneg (first+stride*j) (show (26:Int)≠0 by decide)
  lia
 simp at hs;rcases hs with rfl | rfl | rfl | rfl | rfl | rfl <;> lia
theorem uR {h:MH} {s c R:Nat} {cs:List Int} {m:Int} {h0:MH} {Q:D×MH->Prop} (A:Sb s c cs h0 (R+20) h) (m0:0≤m) (m1:m≤6)
  (kk:∀(ws:List Str) (h1:MH),ws.length=m.toNat->(∀w∈ws,1≤w.length∧w.length≤7∧low w)->ws.Nodup->Sb s c cs h0 R h1->Q (.lv (ws.map D.str),h1)):Rn (di [.ob s,.int m] h) Q:=by
 refine bt ?_;walk_at "g";refine iR ?_;walk_at "g";refine k5 (is:=[0,1,1,2,3,6]) (fun i=>0≤i∧i≤6) (by decide) A fun k h1 hk _ A1=>?_;walk_at "g";refine ⟨k,rfl,by lia,by lia,?_⟩;refine dR (fun i δ h'=>∃stem d4,δ=[some (.ob s),some (.int m),some (.str "abcdefghijklmnopqrstuvwxyz"),some (.str stem),d4,none,none,none]∧stem.length≤i∧low stem∧Sb s c cs h0 (R+19-i) h')
  ⟨"",_,rfl,Nat.le_refl _,DR,A1⟩ (fun _ _ _ _ _=>rfl) ?_ ?_
 ·rintro i x δ h2 hx ⟨stem,d4,rfl,hst,hok,A2⟩;have hi:i < k.toNat:=by
   have:=(List.getElem?_eq_some_iff.mp hx).1
   simpa using this
  rw [show R+19-i=R+19-(i+1)+1 by lia] at A2;walk_at "g";refine dz A2 (by decide) (by decide) fun r h3 r0 r1 A3=>?_;walk_at "g";obtain ⟨hc,e4⟩:=lL (h:=h3) r0 r1;refine rv e4 ?_;walk_at "g";refine rv (oh (by lia)) ?_;walk_at "g";exact ⟨stem++qP fA r,_,rfl,by rw [PySem.Str.length_append];lia,uu hok (wz r0 r1),A3⟩
 ·rintro δ h2 ⟨stem,d4,rfl,hst,hok,A2⟩;rw [List.length_map,List.length_range] at hst A2;have A2:Sb s c cs h0 (R+3) h2:=A2.le (by lia);walk_at "g";refine rv (wj (by lia)) ?_;walk_at "g";refine rv (a:=(.int ((stem.length:Int)+1),h2)) rfl ?_;walk_at "g";refine dz A2 (by lia) (by lia) fun at_ h3 a0 a1 A3=>?_
  walk_at "g";refine dz A3 (by decide) (by decide) fun first h4 f0 f1 A4=>?_
  walk_at "g";refine k5 (is:=[1,3,5,7,9,11]) (fun i=>0≤i∧i≤11) (by decide) A4 fun stride h5 ht tm A5=>?_;obtain ⟨t0,t1⟩:=ht;walk_at "g";refine iR ?_;walk_at "g";refine ⟨m,rfl,by lia,by lia,?_⟩;have hw:∀k:Int,1≤(wordAt stem at_ first stride k).length∧(wordAt stem at_ first stride k).length≤7∧low (wordAt stem at_ first stride k):=by
   intro k;have c0:=Int.emod_nonneg (first+stride*k) (show (26:Int)≠0 by decide);have c1:=Int.emod_lt_of_pos (first+stride*k) (show (0:Int) < 26 by decide);obtain ⟨hc,e⟩:=lL (i:=(first+stride*k) % 26) (h:=[]) c0 c1;have s1:=vi (x:=stem) a0;have s2:=vh (x:=stem) a0;have s3:low (wordAt stem at_ first stride k):=uu (uu (sH _ _ hok) (wz c0 c1)) (sH _ _ hok);refine (fun (z:_∧_)=>⟨z.1,z.2,s3⟩) ?_;unfold wordAt;rw [PySem.Str.length_append,PySem.Str.length_append]
   lia
  refine rv (t5 rfl (fun x=>match x with | .int k=>some (.str (wordAt stem at_ first stride k)) | _=>none) (fun δ=>∃d0,δ=[d0,some (.int at_),some (.int first),some (.str "abcdefghijklmnopqrstuvwxyz"),some (.str stem),some (.int stride)]) ⟨_,rfl⟩ ?_) ⟨?_,?_⟩
  ·rintro x hx δ ⟨d0,rfl⟩;obtain ⟨k,hk,rfl⟩:=List.mem_map.mp hx;refine rv rfl ⟨rfl,rv rfl ⟨rfl,⟨_,rfl⟩,fun _=>⟨_,rfl,?_⟩,fun z=>(nomatch z)⟩⟩;refine xh (xh (xj ?_));walk_at "g";refine ⟨_,rfl,rv (wc (a:=stem) (by lia)) ?_⟩;walk_at "g";refine nM (Bz (by lia) (by lia)) ?_;refine rv (a:=(.int (first+stride*(k:Int)),h5)) rfl ?_;walk_at "g";refine lu (by decide) ?_;obtain ⟨hc,e⟩:=lL (i:=(first+stride*(k:Int)) % 26) (h:=h5) (Int.emod_nonneg _ (by decide)) (Int.emod_lt_of_pos _ (by decide));have s1:=Txt.slice_le stem none (some at_);have s2:=Txt.slice_le stem (some at_) none;refine rv e (rv (oh (by lia)) ?_);refine xj ?_;walk_at "g";refine ⟨_,rfl,?_⟩;walk_at "g";refine rv (wc (a:=stem) (by lia)) (rv (oh (by rw [PySem.Str.length_append];lia)) ?_);rfl
  ·rw [List.filterMap_map];exact Nat.le_trans (List.length_filterMap_le _ _) (by rw [List.length_range,show sizeLine=16777216 from rfl];lia)
  ·walk_at "g";rw [show List.filterMap (fun x=>match x with | D.int k=>some (D.str (wordAt stem at_ first stride k)) | _=>none) ((List.range m.toNat).map fun (k:Nat)=>D.int k)=((List.range m.toNat).map fun (k:Nat)=>wordAt stem at_ first stride (k:Int)).map D.str by
    rw [List.filterMap_map,List.map_map];exact congrFun (List.filterMap_eq_map (f:=D.str∘fun (k:Nat)=>wordAt stem at_ first stride (k:Int))) _]
   refine kk _ h5 (by simp) (fun w hw'=>?_) ?_ A5
   ·obtain ⟨k,_,rfl⟩:=List.mem_map.mp hw';exact hw k
   ·rw [List.nodup_iff_pairwise_ne,List.pairwise_map];refine (List.nodup_range (n:=m.toNat)).imp_of_mem fun {a b} ha hb hab e=>hab ?_;have:=List.mem_range.mp ha;have:=List.mem_range.mp hb;exact Ag tm (by lia) (by lia) e
theorem St.cut {s c:Nat} {cs:List Int} {B:Nat} {hb g:MH} (S:Mi.St s c cs B (hb++g)) (h1:s < hb.length) (h2:c < hb.length):Mi.St s c cs B hb:=by
 obtain ⟨n,t,e,r⟩:=S.st;have e2:=S.ce;rw [List.getElem?_append_left h1] at e;rw [List.getElem?_append_left h2] at e2;exact ⟨⟨n,t,e,r⟩,e2,S.ne⟩
def Cl (h:MH):Prop:=∀o∈h,clO h.length o=true
theorem yO (n:Nat):∀js:List Int,clL n (js.map D.int)=true
 | []=>rfl
 | j::r=>by rw [List.map_cons];show (clD n (.int _)&&clL n _)=true;rw [yO n r];rfl
theorem Cl.but {s c:Nat} {cs:List Int} {B:Nat} {h h':MH} (C:Cl h) (S:Mi.St s c cs B h') (b:But s h h'):Cl h':=by
 intro o ho;obtain ⟨k,hk⟩:=List.mem_iff_getElem?.mp ho
 by_cases z:k=s
 ·subst z;obtain ⟨n,t,e,_⟩:=S.st;rw [e] at hk;cases hk;show (true&&(decide (c < h'.length)&&(true&&true)))=true;rw [decide_eq_true S.lt.2];rfl
 ·rw [b.2 k z] at hk;rw [b.1];exact C o (List.mem_of_getElem? hk)
theorem qx {h hb g:MH} {d:D} (hl:hb.length=h.length) (C:Cl hb) (h1:∀n,d≠.ob n) (h2:clD h.length d=true):leave h d (hb++g)=some (d,hb):=by
 have h3:Ar h.length (hb++g) d=d:=by
  cases d with
  | ob n=>exact absurd rfl (h1 n)
  | _=>rfl
 unfold leave;rw [h3,←hl,List.take_append_of_le_length (Nat.le_refl _),List.take_length,hl,h2];have:(hb.all (clO h.length))=true:=by
  rw [List.all_eq_true];intro o ho;rw [←hl];exact C o ho
 rw [this,Bool.or_true];rfl
theorem Cl.add {h:MH} (C:Cl h) {o:MO} (ho:clO (h.length+1) o=true) (up:∀o∈h,clO h.length o=true->clO (h.length+1) o=true):Cl (h++[o]):=by
 intro x hx;rw [List.length_append,List.length_singleton];rcases List.mem_append.mp hx with z | z
 ·exact up x z (C x z)
 ·rw [List.mem_singleton.mp z];exact ho
mutual
theorem Cj {n m:Nat} (hm:n≤m):∀d:D,clD n d=true->clD m d=true
 | .non,_=>rfl
 | .bl _,_=>rfl
 | .int _,_=>rfl
 | .str _,_=>rfl
 | .ty _,_=>rfl
 | .ob k,h=>by simp only [clD,decide_eq_true_eq] at h ⊢;lia
 | .tup xs,h=>by simp only [clD] at h ⊢;exact qO hm xs h
 | .lv xs,h=>by simp only [clD] at h ⊢;exact qO hm xs h
 | .ro xs,h=>by simp only [clD] at h ⊢;exact qO hm xs h
 | .dv xs,h=>by simp only [clD] at h ⊢;exact xZ hm xs h
theorem qO {n m:Nat} (hm:n≤m):∀d:List D,clL n d=true->clL m d=true
 | [],_=>rfl
 | x::r,h=>by
  simp only [clL,Bool.and_eq_true] at h ⊢;exact ⟨Cj hm x h.1,qO hm r h.2⟩
theorem xZ {n m:Nat} (hm:n≤m):∀d:List (Key×D),clK n d=true->clK m d=true
 | [],_=>rfl
 | (_,x)::r,h=>by
  simp only [clK,Bool.and_eq_true] at h ⊢;exact ⟨Cj hm x h.1,xZ hm r h.2⟩
end
theorem G5 {n m:Nat} (hm:n≤m) (o:MO) (h:clO n o=true):clO m o=true:=by
 cases o with
 | lst xs=>exact qO hm xs h
 | dct xs=>exact xZ hm xs h
theorem Cl.snoc {h:MH} (C:Cl h) {o:MO} (ho:clO (h.length+1) o=true):Cl (h++[o]):=C.add ho fun x _ z=>G5 (Nat.le_succ _) x z
theorem Cl.set {h:MH} (C:Cl h) {n:Nat} {o:MO} (ho:clO h.length o=true):Cl (h.set n o):=by
 intro x hx;rw [List.length_set];rcases List.mem_or_eq_of_mem_set hx with z | z
 ·exact C x z
 ·rw [z];exact ho
end Mi
namespace Sm
open PySem L2
theorem yK {e:EM} {h:MH} {t:DS} (f:D->D):∀(xs:List D) (o:Option D),(∀x∈xs,e (some x::t) h=some (f x,h))->cp [] (gN 0) cg e xs (o::t) h=some (xs.map f,h)
 | [],o,_=>rfl
 | x::r,o,hx=>by
  have e1:e (some x::t) h=some (f x,h):=hx x List.mem_cons_self;have e2:=yK f r (some x) fun y hy=>hx y (List.mem_cons_of_mem _ hy);show ((some ((o::t).set 0 (some x),h)).bind fun q=>(cg q.1 q.2).bind fun t=>if t.1=true then (e q.1 t.2).bind fun y=>(cp [] (gN 0) cg e r q.1 y.2).map fun z=>(y.1::z.1,z.2) else cp [] (gN 0) cg e r q.1 t.2)=_;show ((e (some x::t) h).bind fun y=>(cp [] (gN 0) cg e r (some x::t) y.2).map fun z=>(y.1::z.1,z.2))=_;rw [e1];show ((cp [] (gN 0) cg e r (some x::t) h).map fun z=>(f x::z.1,z.2))=_;rw [e2];rfl
theorem yP {α:Type} (f:α->Bool):∀(l:List α),Ab (l.map fun x=>D.bl (f x))=some (l.map f)
 | []=>rfl
 | x::r=>by show (Ab (r.map fun x=>D.bl (f x))).map _=_;rw [yP f r];rfl
theorem yH {α:Type} (p:α->Bool) (xs:List α) (h:MH):j5 [.lv (xs.map fun x=>.bl (p x))] h=some (.bl (xs.all p),h):=by
 show (Ab (xs.map fun x=>D.bl (p x))).map (fun bs=>(D.bl (bs.all id),h))=_;rw [yP];show some (D.bl ((xs.map p).all id),h)=_;rw [List.all_map];rfl
theorem kc {caps:List (Option Nat)} {ei e:EM} {δ t:DS} {o:Option D} {h:MH} {d:D} {xs:List D} (f:D->D) (hi:ei δ h=some (d,h)) (hs:ej d h=some (xs,[])) (hc:ix caps δ=o::t) (hl:xs.length≤100000) (he:∀x∈xs,e (some x::t) h=some (f x,h)):
  bM caps (c7 ei) (gN 0) cg e δ h=some (xs.map f,h):=by
 unfold bM c7;rw [hi];dsimp only [Option.bind_some];rw [hs];dsimp only [Option.map_some,Option.bind_some];rw [hc,yK f xs o he];dsimp only [Option.bind_some];rw [if_pos (by rw [List.length_map,show sizeLine=16777216 from rfl];lia)]
theorem fE {caps:List (Option Nat)} {ei e:EM} {δ t:DS} {o:Option D} {h:MH} {d:D} {xs:List D} (p:D->Bool) (hi:ei δ h=some (d,h)) (hs:ej d h=some (xs,[])) (hc:ix caps δ=o::t) (hl:xs.length≤100000) (he:∀x∈xs,e (some x::t) h=some (.bl (p x),h)):
  eFn j5 (ab (eLv (bM caps (c7 ei) (gN 0) cg e)) aj) δ h=some (.bl (xs.all p),h):=by
 unfold eFn ab eLv aj;rw [kc (fun x=>.bl (p x)) hi hs hc hl he];exact yH p xs h
theorem cm {α:Type} {o:Option α} {a:α} (r:Rn o fun p=>p=a):o=some a:=let ⟨_,e,q⟩:=r;by rw [e,q]
theorem sQ {xs ys:List D} {h:MH} (hl:xs.length+ys.length≤10000):aS (.tup xs) (.tup ys) h=some (.tup (xs++ys),h):=by
 cases xs with
 | nil=>rfl
 | cons x xs=>
  show (if xs.length+1+ys.length≤sizeLine then some (D.tup (x::xs++ys),h) else none)=_;rw [if_pos (by rw [show sizeLine=16777216 from rfl];rw [List.length_cons] at hl;lia)]
theorem BM {α:Type} {E:Bool->Prop} {x y:Option α} {X Y:α->Prop} (r:∃c,E c∧(c=true->Rn x Y)∧(c=false->Rn y Y)) (f:∀p,Y p->X p):∃c,E c∧(c=true->Rn x X)∧(c=false->Rn y X):=
 let ⟨c,e,a,b⟩:=r
 ⟨c,e,fun z=>(a z).imp f,fun z=>(b z).imp f⟩
theorem iu {ea eb ec:EM} {δ:DS} {h:MH} {a n b:Int} (ha:ea δ h=some (.int a,h)) (hn:eb δ h=some (.int n,h)) (hb:ec δ h=some (.int b,h)):du fLe fLe ea eb ec δ h=some (.bl (decide (a≤n)&&decide (n≤b)),h):=by
 refine cm (qg (rv ha (rv hn (rv rfl ⟨_,rfl,?_⟩))))
 by_cases c:a≤n
 ·rw [if_pos (decide_eq_true c),decide_eq_true c];exact rv hb (rv rfl rfl)
 ·rw [if_neg (by simpa using c),decide_eq_false c];rfl
theorem tt {A B:Prop} (a:A):(true=true->A)∧(true=false->B):=⟨fun _=>a,fun z=>(nomatch z)⟩
theorem ff {A B:Prop} (b:B):(false=true->A)∧(false=false->B):=⟨fun z=>(nomatch z),fun _=>b⟩
theorem Fw {i:Nat} {f:D->D->MH->Option (D×MH)} {e:EM} {δ:DS} {h:MH} {Q:SQ} {x:D} (r:Rn (e δ h) fun p=>Rn (f x p.1 p.2) fun q=>Q (.nx,δ.set i (some q.1),q.2)) (hx:δ[i]?=some (some x):=by with_unfolding_all rfl):Rn (AO i f e δ h) Q:=by
 unfold AO;rw [hx];show Rn ((e δ h).bind fun p=>(f x p.1 p.2).bind fun q=>some (Fl.nx,δ.set i (some q.1),q.2)) Q;exact aV (r.imp fun _ r=>aV (r.imp fun _ q=>⟨_,rfl,q⟩))
end Sm
namespace Mi
open PySem Sm L2 Pg
noncomputable def wdO (W:Wd) (fl:List Int) (left odd:Int):MO:=.dct [(.inr (Str.ofString "names"),.lv (W.names.map D.str)),(.inr (Str.ofString "deeds"),.lv (W.deeds.map D.str)),(.inr (Str.ofString "params"),.lv (W.params.map fun ps=>.lv (ps.map D.str))),(.inr (Str.ofString "floors"),.lv (fl.map D.int)),(.inr (Str.ofString "left"),.int left),(.inr (Str.ofString "odd"),.int odd)]
structure WdOk (W:Wd) (fl:List Int) (odd:Int):Prop where
 n1:1≤W.names.length
 n2:W.names.length≤6
 d1:1≤W.deeds.length
 d2:W.deeds.length≤6
 pl:W.params.length=W.deeds.length
 p3:∀ps∈W.params,ps.length≤3
 fln:fl.length=W.deeds.length
 f0:∀f∈fl,0≤f∧f < W.names.length
 o0:0≤odd
 o1:odd≤1000
 sn:∀w∈W.names,1≤w.length∧w.length≤7∧low w
 sd:∀w∈W.deeds,1≤w.length∧w.length≤7∧low w
 sp:∀ps∈W.params,∀w∈ps,1≤w.length∧w.length≤7∧low w
 nn:W.names.Nodup
 nd:W.deeds.Nodup
 np:∀ps∈W.params,ps.Nodup
section
variable {h:MH} {wd:Nat} {W:Wd} {fl:List Int} {left odd:Int}
theorem eu (hw:h[wd]?=some (wdO W fl left odd)):fIx (.ob wd) (.str (Str.ofString "names")) h=some (.lv (W.names.map D.str),h):=by simp only [fIx,dw,hw,wdO];rfl
theorem eA (hw:h[wd]?=some (wdO W fl left odd)):fIx (.ob wd) (.str (Str.ofString "deeds")) h=some (.lv (W.deeds.map D.str),h):=by simp only [fIx,dw,hw,wdO];rfl
theorem de (hw:h[wd]?=some (wdO W fl left odd)):fIx (.ob wd) (.str (Str.ofString "params")) h=some (.lv (W.params.map fun ps=>.lv (ps.map D.str)),h):=by simp only [fIx,dw,hw,wdO];rfl
theorem nr (hw:h[wd]?=some (wdO W fl left odd)):fIx (.ob wd) (.str (Str.ofString "floors")) h=some (.lv (fl.map D.int),h):=by simp only [fIx,dw,hw,wdO];rfl
theorem pz (hw:h[wd]?=some (wdO W fl left odd)):fIx (.ob wd) (.str (Str.ofString "left")) h=some (.int left,h):=by simp only [fIx,dw,hw,wdO];rfl
theorem wI (hw:h[wd]?=some (wdO W fl left odd)):fIx (.ob wd) (.str (Str.ofString "odd")) h=some (.int odd,h):=by simp only [fIx,dw,hw,wdO];rfl
theorem Ah (hw:h[wd]?=some (wdO W fl left odd)) (v:Int):rZ (.ob wd) (.str (Str.ofString "left")) (.int v) h=some (h.set wd (wdO W fl v odd)):=by
 have h1:(6:Nat) < sizeLine:=by decide
 simp only [rZ,hw,wdO,mH,Option.bind_some,List.length_cons,List.length_nil];rw [if_pos h1];rfl
end
section
variable {h h0:MH} {s c wd R:Nat} {cs:List Int} {W:Wd} {fl:List Int} {left odd:Int} {Q:D×MH->Prop}
theorem Cr (A:Sb s c cs h0 (R+1) h) (hw:h[wd]?=some (wdO W fl left odd)) (ok:WdOk W fl odd) (k:∀(b:Bool) (h1:MH),Sb s c cs h0 R h1->Q (.bl b,h1)):Rn (cT [.ob s,.ob wd] h) Q:=by
 refine bt ?_;walk_at "r";refine rv (wI hw) ?_;walk_at "r";refine ⟨_,rfl,fun z=>?_,fun z=>?_⟩
 ·walk_at "r";refine rv (wI hw) ?_;walk_at "r";refine dz A (of_decide_eq_true z) (by have:=ok.o1;lia) fun m h1 _ _ A1=>?_;walk_at "r";exact k _ _ A1
 ·walk_at "r";exact k _ _ (A.dn 1)
theorem uS {ps:List Str} (A:Sb s c cs h0 (R+4) h) (hp:ps.length≤3) (k:∀(t:Term) (h1:MH),eP ps t->t.2≤40->Sb s c cs h0 R h1->Q (bg t,h1)):Rn (bT [.ob s,.lv (ps.map D.str)] h) Q:=by
 refine bt ?_;walk_at "r";refine dz A (by decide) (by decide) fun m h1 m0 m1 A1=>?_;walk_at "r";have plain:∀{h2:MH} {P:D×MH->Prop},Sb s c cs h0 (R+1) h2->(∀(i:Int) (h3:MH),-40≤i∧i≤40->Sb s c cs h0 R h3->P (.int i,h3))->Rn (aH [.ob s,.lv [.int 0,.int 0,.int 1,.int 1,.int 2,.int 3,.int (-1),.int (m-40)]] h2) P:=fun A2 kk=>
  k5 (is:=[0,0,1,1,2,3,-1,m-40]) (fun i=>-40≤i∧i≤40) (by intro x hx;simp at hx;lia) A2 fun i h3 hi _ A3=>kk i h3 hi A3
 refine ⟨_,rfl,fun z=>?_,fun z=>⟨fun z=>(nomatch z),fun _=>?_⟩⟩
 ·have z:0 < ps.length:=by simpa using z
  walk_at "r";refine dz A1 (by decide) (by decide) fun m2 h2 _ _ A2=>?_;walk_at "r";refine ⟨_,rfl,fun _=>?_,fun _=>?_⟩
  ·walk_at "r";refine x5 A2 (.inl rfl) (by simpa using z) (by simp;lia) fun d3 h3 hd3 A3=>?_;obtain ⟨w,hw,rfl⟩:=List.mem_map.mp hd3;walk_at "r";refine k5 (is:=[0,0,0,0,1,1,-1,2,m-40]) (fun i=>-40≤i∧i≤40) (by intro x hx;simp at hx;lia) A3 fun i h4 hi _ A4=>?_;walk_at "r";exact k (w,i) h4 ⟨.inr hw,by dsimp only;lia,by dsimp only;lia⟩ hi.2 A4
  ·walk_at "r";refine plain (A2.dn 1) fun i h3 hi A3=>?_;walk_at "r";exact k (Str.ofString "",i) h3 ⟨.inl rfl,by dsimp only;lia,by dsimp only;lia⟩ hi.2 A3
 ·walk_at "r";refine plain (A1.dn 2) fun i h3 hi A3=>?_;walk_at "r";exact k (Str.ofString "",i) h3 ⟨.inl rfl,by dsimp only;lia,by dsimp only;lia⟩ hi.2 A3
end
theorem cH {α:Type} {xs:List α} {f:α->D} {h:MH} {j:Nat} {x:α} (e:xs[j]?=some x):fIx (.lv (xs.map f)) (.int j) h=some (f x,h):=by
 have hj:j < xs.length:=by
  rcases Nat.lt_or_ge j xs.length with z | z
  ·exact z
  ·rw [List.getElem?_eq_none z] at e;cases e
 show ((atI (xs.map f) j).map fun z=>(z,h))=_;have:atI (xs.map f) j=some (f x):=by
  unfold atI;rw [show ixN (xs.map f).length j=some j by unfold ixN;simp;lia];show (xs.map f)[j]?=_;rw [List.getElem?_map,e];rfl
 rw [this];rfl
theorem mQ (i j:Int) (h:MH):uI [.int i,.int j] h=some (.int (max i j),h):=by
 show some (D.int (if j > i then j else i),h)=_;rw [show (if j > i then j else i)=max i j by split <;> lia]
theorem Ec (i j:Int) (h:MH):BV [.int i,.int j] h=some (.int (min i j),h):=by
 show some (D.int (if j < i then j else i),h)=_;rw [show (if j < i then j else i)=min i j by split <;> lia]
theorem yC {α:Type} {o:Option Bool} {x y:Option α} {X Y:α->Prop} (r:∃c,o=some c∧(c=true->Rn x Y)∧(c=false->Rn y Y)) (f:∀p,Y p->X p):∃c,o=some c∧(c=true->Rn x X)∧(c=false->Rn y X):=
 let ⟨c,e,a,b⟩:=r
 ⟨c,e,fun z=>(a z).imp f,fun z=>(b z).imp f⟩
noncomputable def kS (t:Term):PyData:=.tuple [.str t.1,.int t.2]
theorem sy:∀ts:List Term,pyL (ts.map bg)=some (ts.map kS)
 | []=>rfl
 | c::r=>by simp only [List.map_cons,pyL,sy r,bg,pyD,Option.bind_some,Option.map_some];rfl
theorem oJ:∀ts:List Term,PyData.depthAll (ts.map kS)≤1
 | []=>by simp [PyData.depthAll]
 | c::r=>by
  have:=oJ r;simp only [List.map_cons,PyData.depthAll,kS,PyData.depth]
  lia
theorem xN (ts:List Term) (h:MH):hW (.lv (ts.map bg)) (.lv []) h=some (.bl (!ts.isEmpty),h):=by
 have:=oJ ts;simp only [hW,eqA,dw,eqD,rdD,sy,pyD,pyL,Option.map_some,Option.bind_some];rw [if_pos ⟨show PyData.depthAll _+1≤64 by lia,by decide⟩];cases ts <;> rfl
section
variable {h h0:MH} {s c wd R:Nat} {cs:List Int} {W:Wd} {fl:List Int} {left odd:Int} {Q:D×MH->Prop}
theorem G7 {ps:List Str} {j:Nat} {top:Int} {held:List Lock} (A:Sb s c cs h0 (R+10) h) (hw0:h0[wd]?=some (wdO W fl left odd)) (hne:wd≠s) (ok:WdOk W fl odd) (hp:W.params[j]?=some ps) (hj:j < W.deeds.length) (ht:top≤W.names.length) (hh:∀l∈held,fu W ps l) (hl:held.length≤1000)
  (k1:∀(k:Int) (l:Lock) (h1:MH),max top (fl[j]?.getD 0) < W.names.length->0≤k->k < W.names.length->fu W ps l->Sb s c cs h0 R h1->Q (.tup [.int k,aJ l],h1))
  (k2:∀(h1:MH),max top (fl[j]?.getD 0)=W.names.length->Sb s c cs h0 R h1->Q (.tup [.non,.non],h1)):Rn (eh [.ob s,.ob wd,.int j,.int top,.lv (held.map aJ)] h) Q:=by
 have hw:=A.at_ hw0 hne;obtain ⟨f,hf⟩:∃f,fl[j]?=some f:=⟨_,List.getElem?_eq_getElem (by rw [ok.fln];exact hj)⟩;have hfm:=ok.f0 f (List.mem_of_getElem? hf);have n2:=ok.n2;rw [hf] at k1 k2;dsimp only [Option.getD_some] at k1 k2;refine bt ?_;walk_at "r";refine rv (nr hw) ?_;walk_at "r";refine rv (cH hf) ?_;walk_at "r";refine rv (mQ top f h) ?_;have lo0:0≤max top f:=by lia
 have lo1:max top f≤W.names.length:=by lia
 generalize max top f=lo at lo0 lo1 k1 k2 ⊢;walk_at "r";refine rv (eu hw) ?_;walk_at "r";refine ⟨_,rfl,fun z=>?_,fun z=>?_⟩
 ·have z:lo=W.names.length:=by simpa using z
  walk_at "r";exact k2 h z (A.dn 10)
 have z:lo≠W.names.length:=by simpa using z
 have z0:lo < W.names.length:=by lia
 have k1:=fun k l h1=>k1 k l h1 z0;clear k2;walk_at "r";refine rv (eu hw) ?_;walk_at "r";simp only [List.length_map];refine dz A (by lia) (by lia) fun m h1 m0 m1 A1=>?_;walk_at "r";refine Cr A1 (A1.at_ hw0 hne) ok fun b h2 A2=>?_;walk_at "r";refine yC (Y:=fun r=>∃(k:Int) (h3:MH),r=(Fl.nx,[some (.ob s),some (.ob wd),some (.int j),some (.int top),some (.lv (held.map aJ)),some (.int lo),some (.int k),none,none,none,none],h3)∧0≤k∧k < W.names.length∧Sb s c cs h0 (R+7) h3) ?_ ?_
 ·refine ⟨b,rfl,fun _=>?_,fun _=>?_⟩
  ·walk_at "r";refine rv (eu (A2.at_ hw0 hne)) ?_;walk_at "r";simp only [List.length_map];refine dz A2 (by lia) (by lia) fun k h3 k0 k1 A3=>?_;exact ⟨k,h3,rfl,k0,k1,A3⟩
  ·walk_at "r";exact ⟨lo+m,h2,rfl,by lia,by lia,A2.dn 1⟩
 rintro _ ⟨k,h3,rfl,k0,kL,A3⟩;have hw3:=A3.at_ hw0 hne;have k1:=fun l h1=>k1 k l h1 k0 kL;obtain ⟨kn,rfl⟩:=Int.eq_ofNat_of_zero_le k0;obtain ⟨nm,hnm⟩:∃f,W.names[kn]?=some f:=⟨_,List.getElem?_eq_getElem (by lia)⟩;show Rn _ _;walk_at "r";refine rv (eu hw3) ?_;walk_at "r";refine rv (cH hnm) ?_;walk_at "r";refine dQ ?_;walk_at "r";refine ⟨_,_,rfl,?_⟩;obtain ⟨⟨ys,h4⟩,e4,hyl,hym,δ4,hh4,_⟩:=pF (ws:=[]) (g:=gN 0) (c:=aA (eOp bW (eOp fIx (ae 0) (eK (D.int 0))) (ae 1))) (e:=eOp fIx (ae 0) (eK (D.int 1))) (fun x y=>∃l∈held,x=aJ l∧y=bg l.2)
  (xs:=held.map aJ) (δ:=[none,some (.str nm)]) (h:=h3) (fun j δ h'=>h'=h3∧∃d0,δ=[d0,some (.str nm)]) ⟨rfl,_,rfl⟩ (fun _ _ _ _ _=>rfl) (by
   rintro i x δ h' hx ⟨rfl,d0,rfl⟩;obtain ⟨l,hl,rfl⟩:=List.mem_map.mp (List.mem_of_getElem? hx);walk_at "r";refine rv (a:=(.str l.1,_)) rfl ?_;walk_at "r";refine ⟨_,rfl,fun _=>?_,fun _=>⟨rfl,_,rfl⟩⟩;walk_at "r";exact rv (a:=(bg l.2,_)) rfl ⟨⟨l,hl,rfl,rfl⟩,rfl,_,rfl⟩)
 dsimp only at hh4;subst hh4;refine rv e4 ⟨Nat.le_trans hyl (by rw [List.length_map,show sizeLine=16777216 from rfl];lia),?_⟩;obtain ⟨ts,rfl,htm⟩:∃ts:List Term,ys=ts.map bg∧∀t∈ts,eP ps t:=by
  clear e4 hyl
  induction ys with
  | nil=>exact ⟨[],rfl,fun _ z=>(nomatch z)⟩
  | cons y r ih=>
   obtain ⟨js,rfl,h1⟩:=ih fun z hz=>hym z (List.mem_cons_of_mem _ hz);obtain ⟨x,hx,l,hl,rfl,rfl⟩:=hym y List.mem_cons_self;exact ⟨l.2::js,rfl,List.forall_mem_cons.mpr ⟨(hh l hl).2,h1⟩⟩
 walk_at "r";have pl:=ok.p3 ps (List.mem_of_getElem? hp);refine rv (xN ts _) ⟨_,rfl,fun z=>?_,fun z=>⟨fun z=>(nomatch z),fun _=>?_⟩⟩
 ·walk_at "r";refine Cr A3 hw3 ok fun b' h5 A5=>⟨_,rfl,fun _=>?_,fun _=>?_⟩
  ·have hts:ts≠[]:=by rintro rfl;cases z
   obtain ⟨us,last,rfl⟩:∃us last,ts=us++[last]:=⟨ts.dropLast,ts.getLast hts,(List.dropLast_concat_getLast hts).symm⟩;have hlast:=htm last (by simp);walk_at "r";refine rv (a:=(bg last,_)) (by
    show ((atI ((us++[last]).map bg) (-1)).map fun z=>(z,h5))=_;rw [List.map_append];show ((atI (us.map bg++[bg last]) (-1)).map fun z=>(z,h5))=_;rw [Cv];rfl) ?_
   walk_at "r";refine rv (a:=_) rfl ?_;walk_at "r";refine dz A5 (by decide) (by decide) fun m6 h6 m60 m61 A6=>?_;walk_at "r";refine rv (Ec _ _ _) ?_;walk_at "r";exact k1 (nm,(last.1,min 99 (last.2+1+m6))) h6 ⟨List.mem_of_getElem? hnm,hlast.1,by dsimp only;have:=hlast.2;lia,by dsimp only;lia⟩ (A6.dn 5)
  ·walk_at "r";refine rv (de (A5.at_ hw0 hne)) ?_;walk_at "r";refine rv (cH hp) ?_;walk_at "r";refine uS (A5.dn 2) pl fun t h6 tk _ A6=>?_;walk_at "r";exact k1 (nm,t) h6 ⟨List.mem_of_getElem? hnm,tk⟩ A6
 ·walk_at "r";refine rv (de hw3) ?_;walk_at "r";refine rv (cH hp) ?_;walk_at "r";refine uS (A3.dn 3) pl fun t h6 tk _ A6=>?_;walk_at "r";exact k1 (nm,t) h6 ⟨List.mem_of_getElem? hnm,tk⟩ A6
end
theorem wm (cs:List Int) (h:MH):bW (.lv (cs.map D.int)) (.lv []) h=some (.bl cs.isEmpty,h):=by
 simp only [bW,eqA,dw,eqD,rdD,qh,pyD,pyL,Option.map_some,Option.bind_some,PyData.depth,lU];cases cs <;> rfl
theorem FC {m:AM} {δ:DS} {h:MH} {Q:List D×MH->Prop} (r:Rn (m δ h) fun p=>∃j:Int,p.1=[.int j]∧0≤j∧j≤1000∧Q ((List.range j.toNat).map fun (k:Nat)=>D.int (k:Int),p.2)):Rn (Hb m δ h) Q:=aV (r.imp fun p ⟨j,e,h1,h2,q⟩=>by
 rw [e];dsimp only;rw [if_pos ⟨h1,h2⟩];exact ⟨_,rfl,q⟩)
section
variable {h h0:MH} {s c wd R:Nat} {cs:List Int} {W:Wd} {fl:List Int} {left odd:Int} {Q:D×MH->Prop}
theorem G8 {ps:List Str} {j:Nat} {top:Int} (A:Sb s c cs h0 (R+14) h) (hw0:h0[wd]?=some (wdO W fl left odd)) (hne:wd≠s) (ok:WdOk W fl odd) (hp:W.params[j]?=some ps) (hj:j < W.deeds.length)
  (kk:∀(r:Row) (h1:MH),(∀n,cG W ps n r)->cnt r=1->Sb s c cs h0 R h1->Q (bP r,h1)):Rn (fO [.ob s,.ob wd,.int j,.int top] h) Q:=by
 have hw:=A.at_ hw0 hne;have d2:=ok.d2;have pl:=ok.p3 ps (List.mem_of_getElem? hp);obtain ⟨dj,hdj⟩:∃f,W.deeds[j]?=some f:=⟨_,List.getElem?_eq_getElem hj⟩;refine bt ?_;walk_at "r";refine iR ?_;walk_at "r";refine rv (eA hw) ?_;walk_at "r";refine ⟨(W.deeds.map D.str).length,rfl,by rw [List.length_map];lia,by rw [List.length_map];lia,?_⟩;rw [List.length_map,Int.toNat_natCast];obtain ⟨⟨ys,h1⟩,e1,hyl,hym,δ1,hh1,_⟩:=pF (ws:=[]) (g:=gN 0) (c:=nv (aA (eOp fGt (eOp fIx (eOp fIx (ae 3) (eK (.str "floors"))) (ae 0)) (ae 2))) (aA (eOp fGe (ae 0) (ae 1)))) (e:=ae 0) (fun x y=>y=x)
  (xs:=(List.range W.deeds.length).map fun (k:Nat)=>D.int (k:Int)) (δ:=[none,some (.int j),some (.int top),some (.ob wd)]) (h:=h) (fun i δ h'=>h'=h∧∃d0,δ=[d0,some (.int j),some (.int top),some (.ob wd)]) ⟨rfl,_,rfl⟩ (fun _ _ _ _ _=>rfl) (by
   rintro i x δ h' hx ⟨rfl,d0,rfl⟩;rw [List.getElem?_map] at hx;obtain ⟨k,hk,hk2⟩:=Option.map_eq_some_iff.mp hx;subst hk2;have hkl:k < fl.length:=by rw [ok.fln];exact List.mem_range.mp (List.mem_of_getElem? hk)
   obtain ⟨f,hf⟩:∃f,fl[k]?=some f:=⟨_,List.getElem?_eq_getElem hkl⟩;walk_at "r";refine rv (nr hw) ?_;walk_at "r";refine rv (cH hf) ?_;walk_at "r";refine ⟨_,rfl,fun _=>?_,fun _=>⟨fun z=>(nomatch z),fun _=>⟨rfl,_,rfl⟩⟩⟩;walk_at "r";refine ⟨_,rfl,fun _=>?_,fun _=>⟨rfl,_,rfl⟩⟩;walk_at "r";exact ⟨rfl,rfl,_,rfl⟩)
 dsimp only at hh1;subst hh1;refine rv e1 ⟨Nat.le_trans hyl (by rw [List.length_map,List.length_range,show sizeLine=16777216 from rfl];lia),?_⟩;have hint:∀zs:List D,(∀y∈zs,∃x,x∈(List.range W.deeds.length).map (fun (k:Nat)=>D.int (k:Int))∧y=x)->∃js:List Int,zs=js.map D.int∧∀k∈js,0≤k∧k < W.deeds.length:=by
  intro zs hz
  induction zs with
  | nil=>exact ⟨[],rfl,fun _ z=>(nomatch z)⟩
  | cons y r ih=>
   obtain ⟨js,rfl,q⟩:=ih fun z hz'=>hz z (List.mem_cons_of_mem _ hz');obtain ⟨x,hx,rfl⟩:=hz y List.mem_cons_self;obtain ⟨k,hk,rfl⟩:=List.mem_map.mp hx;exact ⟨k::js,rfl,fun i hi=>by
    rcases List.mem_cons.mp hi with rfl | hi
    ·have:=List.mem_range.mp hk;lia
    ·exact q i hi⟩
 have hyn:ys.length≤6:=by
  have h9:ys.length≤_:=hyl;rw [List.length_map,List.length_range] at h9
  lia
 obtain ⟨js,rfl,hjs⟩:=hint ys hym;rw [List.length_map] at hyn;walk_at "r";refine Cr A hw ok fun b h2 A2=>?_;have hw2:=A2.at_ hw0 hne;walk_at "r";refine yC (Y:=fun r=>∃(ks:List Int),r=(Fl.nx,[some (.ob s),some (.ob wd),some (.int j),some (.int top),some (.lv (ks.map D.int)),none,none],h2)∧ks.length≤6∧∀k∈ks,0≤k∧k < W.deeds.length) ?_ ?_
 ·refine ⟨b,rfl,fun _=>?_,fun _=>?_⟩
  ·walk_at "r";refine FC ?_;walk_at "r";refine rv (eA hw2) ?_;walk_at "r";refine ⟨(W.deeds.map D.str).length,rfl,by rw [List.length_map];lia,by rw [List.length_map];lia,?_⟩;rw [List.length_map,Int.toNat_natCast];obtain ⟨ks,hk1,hk2⟩:=hint _ fun y hy=>⟨y,hy,rfl⟩;refine ⟨ks,?_,?_,hk2⟩
   ·show _=_;rw [←hk1];rfl
   ·have:=congrArg List.length hk1;rw [List.length_map,List.length_map,List.length_range] at this
    lia
  ·walk_at "r";exact ⟨js,rfl,hyn,hjs⟩
 rintro _ ⟨ks,rfl,kn,hks⟩;show Rn _ _;walk_at "r";refine rv (wm ks _) ⟨_,rfl,fun z=>?_,fun z=>?_⟩
 ·walk_at "r";refine rv (eA hw2) ?_;walk_at "r";refine rv (cH hdj) ?_;walk_at "r";have:=kk (.say dj) h2 (fun n=>by unfold cG;exact List.mem_append_right _ (List.mem_of_getElem? hdj)) (by rw [cnt]) (A2.dn 13);rw [bP] at this;exact this
 have z0:0 < ks.length:=by cases ks with | nil=>cases z | cons _ _=>simp
 walk_at "r";refine x5 A2 (.inl rfl) (by simpa using z0) (by simp;lia) fun d3 h3 hd3 A3=>?_;have hw3:=A3.at_ hw0 hne;obtain ⟨k,hk,rfl⟩:=List.mem_map.mp hd3;obtain ⟨k0,k1⟩:=hks k hk;obtain ⟨kn',rfl⟩:=Int.eq_ofNat_of_zero_le k0;have hkl:kn' < W.deeds.length:=by lia
 obtain ⟨dk,hdk⟩:∃f,W.deeds[kn']?=some f:=⟨_,List.getElem?_eq_getElem hkl⟩;obtain ⟨qs,hqs⟩:∃f,W.params[kn']?=some f:=⟨_,List.getElem?_eq_getElem (by rw [ok.pl];exact hkl)⟩;have ql:=ok.p3 qs (List.mem_of_getElem? hqs);walk_at "r";refine dQ ?_;walk_at "r";refine rv (de hw3) ?_;walk_at "r";refine rv (cH hqs) ?_;refine ⟨_,_,rfl,?_⟩;obtain ⟨⟨zs,h4⟩,e4,hzs,δ4,_,A4⟩:=pG (ws:=[]) (g:=gN 0) (e:=eFn bT (ab (ae 2) (ab (eOp fIx (eOp fIx (ae 3) (eK (.str "params"))) (ae 1)) aj))) (fun _ y=>∃t:Term,y=bg t∧eP ps t)
  (xs:=qs.map D.str) (δ:=[none,some (.int j),some (.ob s),some (.ob wd)]) (h:=h3) (fun i δ h'=>(∃d0,δ=[d0,some (.int j),some (.ob s),some (.ob wd)])∧Sb s c cs h0 (R+4*(3-i)) h') ⟨⟨_,rfl⟩,A3⟩ (fun _ _ _ _ _=>rfl) (by
   rintro i x δ h' hx ⟨⟨d0,rfl⟩,Ai⟩;have hi:i < 3:=by
    have:=(List.getElem?_eq_some_iff.mp hx).1;rw [List.length_map] at this
    lia
   rw [show R+4*(3-i)=R+4*(3-(i+1))+4 by lia] at Ai;have hwi:=Ai.at_ hw0 hne;walk_at "r";refine rv (de hwi) ?_;walk_at "r";refine rv (cH hp) ?_;walk_at "r";exact uS Ai pl fun t h6 tk _ A6=>⟨⟨t,rfl,tk⟩,⟨_,rfl⟩,A6⟩)
 obtain ⟨ts,rfl,htm⟩:∃ts:List Term,zs=ts.map bg∧∀t∈ts,eP ps t:=by
  have hr:=hzs.right;clear e4 hzs A4;dsimp only at hr
  induction zs with
  | nil=>exact ⟨[],rfl,fun _ z=>(nomatch z)⟩
  | cons y r ih=>
   obtain ⟨js,rfl,h1⟩:=ih fun z hz=>hr z (List.mem_cons_of_mem _ hz);obtain ⟨x,hx,t,rfl,tk⟩:=hr y List.mem_cons_self;exact ⟨t::js,rfl,fun j hj=>by
    rcases List.mem_cons.mp hj with rfl | hj
    ·exact tk
    ·exact h1 j hj⟩
 have hzl:=hzs.length;dsimp only at hzl;rw [List.length_map,List.length_map] at hzl;refine rv e4 ⟨by dsimp only;rw [List.length_map,show sizeLine=16777216 from rfl];lia,?_⟩;have A4:Sb s c cs h0 R h4:=A4.le (Nat.le_add_right _ _);have hw4:=A4.at_ hw0 hne;walk_at "r";refine rv (eA hw4) ?_;walk_at "r";refine rv (cH hdk) ?_;walk_at "r";refine rv (a:=(.tup (ts.map bg),_)) rfl ?_;walk_at "r";have:=kk (.call dk ts) h4 (fun n=>by unfold cG;exact ⟨⟨kn',qs,hdk,hqs,hzl⟩,htm⟩) (by rw [cnt]) A4;rw [bP] at this;exact this
end
def gA (s wd:Nat) (h h':MH):Prop:=h'.length=h.length∧∀k,k≠s->k≠wd->h'[k]?=h[k]?
theorem gA.refl (s wd:Nat) (h:MH):gA s wd h h:=⟨rfl,fun _ _ _=>rfl⟩
theorem gA.trans (a:gA s wd h h1) (b:gA s wd h1 h2):gA s wd h h2:=⟨b.1.trans a.1,fun k n m=>(b.2 k n m).trans (a.2 k n m)⟩
theorem But.two (a:But s h h1):gA s wd h h1:=⟨a.1,fun k n _=>a.2 k n⟩
theorem gA.set:gA s wd h (h.set wd o):=⟨List.length_set,fun k _ n=>List.getElem?_set_ne (Ne.symm n)⟩
theorem gA.JT (b:gA s wd (hb++g) h2) (hs:s < hb.length) (hw:wd < hb.length):∃hb',h2=hb'++g∧gA s wd hb hb':=by
 have hl:h2.length=hb.length+g.length:=by rw [b.1];simp
 refine ⟨h2.take hb.length,?_,by rw [List.length_take];lia,fun k hk hk'=>?_⟩
 ·refine List.ext_getElem? fun k=>?_
  by_cases z:k < hb.length
  ·rw [List.getElem?_append_left (by rw [List.length_take];lia),List.getElem?_take_of_lt z]
  ·rw [b.2 _ (by lia) (by lia),List.getElem?_append_right (by lia),List.getElem?_append_right (by rw [List.length_take];lia),List.length_take];rw [show min hb.length h2.length=hb.length by lia]
 ·by_cases z:k < hb.length
  ·rw [List.getElem?_take_of_lt z,b.2 k hk hk',List.getElem?_append_left z]
  ·rw [List.getElem?_eq_none (by rw [List.length_take];lia),List.getElem?_eq_none (by lia)]
theorem ir (n:Nat):∀js:List Str,clL n (js.map D.str)=true
 | []=>rfl
 | j::r=>by rw [List.map_cons];show (clD n (.str _)&&clL n _)=true;rw [ir n r];rfl
theorem sT (n:Nat):∀js:List (List Str),clL n (js.map fun ps=>.lv (ps.map D.str))=true
 | []=>rfl
 | j::r=>by rw [List.map_cons];show (clL n (j.map D.str)&&clL n _)=true;rw [ir n j,sT n r];rfl
theorem xY (n:Nat) (W:Wd) (fl:List Int) (l odd:Int):clO n (wdO W fl l odd)=true:=by
 show (clL n _&&(clL n _&&(clL n _&&(clL n _&&(true&&(true&&true))))))=true;rw [ir,ir,sT,yO];rfl
structure En where
 s:Nat
 c:Nat
 wd:Nat
 cs:List Int
 W:Wd
 fl:List Int
 odd:Int
 ok:WdOk W fl odd
 ne:wd≠s
 nc:wd≠c
structure Wb (E:En) (h0:MH) (R l:Nat) (h:MH):Prop where
 S:St E.s E.c E.cs R h
 w:h[E.wd]?=some (wdO E.W E.fl l E.odd)
 C:Cl h
 b:gA E.s E.wd h0 h
section
variable {E:En} {h0 h h1 h' g:MH} {R R' l l' k:Nat} {Q:D×MH->Prop}
theorem Wb.lt (A:Wb E h0 R l h):E.s < h.length∧E.c < h.length∧E.wd < h.length:=⟨A.S.lt.1,A.S.lt.2,(List.getElem?_eq_some_iff.mp A.w).1⟩
theorem Wb.by (A:Wb E h0 R l h) (B:Sb E.s E.c E.cs h R' h1):Wb E h0 R' l h1:=⟨B.S,(B.b.2 _ E.ne).trans A.w,A.C.but B.S B.b,A.b.trans B.b.two⟩
theorem Wb.le (A:Wb E h0 R l h) (hR:R'≤R):Wb E h0 R' l h:=⟨A.S.le hR,A.w,A.C,A.b⟩
theorem Wb.here (A:Wb E h0 R l h):Wb E h R l h:=⟨A.S,A.w,A.C,gA.refl _ _ _⟩
theorem Wb.tr (A:Wb E h1 R l h) (b:gA E.s E.wd h0 h1):Wb E h0 R l h:=⟨A.S,A.w,A.C,b.trans A.b⟩
theorem Wb.set (A:Wb E h0 R l h) (v:Nat):Wb E h0 R v (h.set E.wd (wdO E.W E.fl v E.odd)):=
 ⟨A.S.off E.ne E.nc,List.getElem?_set_self A.lt.2.2,A.C.set (xY _ _ _ _ _),A.b.trans gA.set⟩
theorem Wb.push (A:Wb E h0 R l h) {o:MO} (ho:clO (h.length+1) o=true):Wb E (h++[o]) R l (h++[o]):=⟨A.S.more _,by rw [List.getElem?_append_left A.lt.2.2];exact A.w,A.C.snoc ho,gA.refl _ _ _⟩
theorem G4 (C:Cl h) (S:St E.s E.c E.cs R h') (w:h'[E.wd]?=some (wdO E.W E.fl l E.odd)) (b:gA E.s E.wd h h'):Cl h':=by
 intro o ho;obtain ⟨k,hk⟩:=List.mem_iff_getElem?.mp ho
 by_cases z:k=E.s
 ·subst z;obtain ⟨n,t,e,_⟩:=S.st;rw [e] at hk;cases hk;show (true&&(decide (E.c < h'.length)&&(true&&true)))=true;rw [decide_eq_true S.lt.2];rfl
 ·by_cases z2:k=E.wd
  ·subst z2;rw [w] at hk;cases hk;exact xY _ _ _ _ _
  ·rw [b.2 k z z2] at hk;rw [b.1];exact C o (List.mem_of_getElem? hk)
theorem Wb.pop {R0 l0:Nat} (A0:Wb E h0 R0 l0 h) (A:Wb E (h++g) R l h'):∃hb,h'=hb++g∧hb.length=h.length∧Wb E h0 R l hb:=by
 obtain ⟨h1,h2,h3⟩:=A0.lt;obtain ⟨hb,rfl,b⟩:=A.b.JT h1 h3;have e:=b.1;have S:=A.S.cut (by lia) (by lia);have w:=A.w;rw [List.getElem?_append_left (by lia)] at w;exact ⟨hb,rfl,e,S,w,G4 A0.C S w b,A0.b.trans b⟩
theorem w_next {m:Int} (A:Wb E h0 (R+1) l h) (m0:0 < m) (m1:m≤10^40) (k:∀(r:Int) (h1:MH),0≤r->r < m->Wb E h0 R l h1->Q (.int r,h1)):Rn (aM [.ob E.s,.int m] h) Q:=
 dz A.S.sb m0 m1 fun r h1 r0 r1 S1=>k r h1 r0 r1 (A.by S1)
theorem Hn {d:D} {xs:List D} (A:Wb E h0 (R+1) l h) (hd:d=.lv xs∨d=.tup xs) (l0:0 < xs.length) (l1:xs.length≤1000000) (k:∀(x:D) (h1:MH),x∈xs->Wb E h0 R l h1->Q (x,h1)):Rn (aH [.ob E.s,d] h) Q:=
 x5 A.S.sb hd l0 l1 fun x h1 hx S1=>k x h1 hx (A.by S1)
theorem Aj {is:List Int} (P:Int->Prop) (hP:∀i∈is,P i) (A:Wb E h0 (R+1) l h) (k:∀(i:Int) (h1:MH),P i->Wb E h0 R l h1->Q (.int i,h1)) (l0:0 < is.length:=by simp) (l1:is.length≤1000:=by simp):Rn (aH [.ob E.s,.lv (is.map D.int)] h) Q:=
 k5 P hP A.S.sb (fun i h1 hi _ S1=>k i h1 hi (A.by S1)) l0 l1
theorem tF {ps:List Str} (A:Wb E h0 (R+4) l h) (hp:ps.length≤3) (k:∀(t:Term) (h1:MH),eP ps t->Wb E h0 R l h1->Q (bg t,h1)):Rn (bT [.ob E.s,.lv (ps.map D.str)] h) Q:=
 uS A.S.sb hp fun t h1 ht _ S1=>k t h1 ht (A.by S1)
structure Cd (W:Wd) (j:Nat) (ps:List Str) (d:Nat) (top:Int) (held:List Lock):Prop where
 hp:W.params[j]?=some ps
 hj:j < W.deeds.length
 d1:1≤d
 ht:top≤W.names.length
 hh:∀x∈held,fu W ps x
 hl:held.length≤4*d
variable {j d f:Nat} {ps:List Str} {top:Int} {held:List Lock}
theorem Cd.more {W:Wd} {n:Nat} {top':Int} {ls:List Lock} (G:Cd W j ps d top held) (ht:top'≤W.names.length) (hl:ls.length≤4*n) (ho:∀x∈ls,fu W ps x):Cd W j ps (d+n) top' (held++ls):=
 ⟨G.hp,G.hj,Nat.le_trans G.d1 (Nat.le_add_right _ _),ht,fun x hx=>(List.mem_append.mp hx).elim (G.hh x) (ho x),by have:=G.hl;rw [List.length_append];lia⟩
theorem Cd.deep {W:Wd} (G:Cd W j ps d top held):Cd W j ps (d+1) top held:=⟨G.hp,G.hj,Nat.le_succ_of_le G.d1,G.ht,G.hh,by have:=G.hl;lia⟩
theorem Cd.pl (G:Cd E.W j ps d top held):ps.length≤3:=E.ok.p3 ps (List.mem_of_getElem? G.hp)
theorem Ak (A:Wb E h0 (R+10) l h) (G:Cd E.W j ps d top held) (hd:d≤5) (k1:∀(k:Int) (x:Lock) (h1:MH),max top (E.fl[j]?.getD 0) < E.W.names.length->0≤k->k < E.W.names.length->fu E.W ps x->Wb E h0 R l h1->Q (.tup [.int k,aJ x],h1))
  (k2:∀(h1:MH),max top (E.fl[j]?.getD 0)=E.W.names.length->Wb E h0 R l h1->Q (.tup [.non,.non],h1)):Rn (eh [.ob E.s,.ob E.wd,.int j,.int top,.lv (held.map aJ)] h) Q:=
 G7 A.S.sb A.w E.ne E.ok G.hp G.hj G.ht G.hh (by have:=G.hl;lia) (fun k x h1 a b c e S1=>k1 k x h1 a b c e (A.by S1)) fun h1 a S1=>k2 h1 a (A.by S1)
theorem ET (A:Wb E h0 (R+14) l h) (G:Cd E.W j ps d top held) (k:∀(r:Row) (h1:MH),(∀n,cG E.W ps n r)->cnt r=1->Wb E h0 R l h1->Q (bP r,h1)):Rn (fO [.ob E.s,.ob E.wd,.int j,.int top] h) Q:=
 G8 A.S.sb A.w E.ne E.ok G.hp G.hj fun r h1 a b S1=>k r h1 a b (A.by S1)
abbrev CG (E:En) (h0:MH) (R l:Nat) (ps:List Str) (d:Nat) (Q:D×MH->Prop):Prop:=∀(r:Row) (l':Nat) (h':MH),cG E.W ps d r->l'+cnt r=l+1->Wb E h0 (R+100*l') l' h'->Q (bP r,h')
abbrev JW (E:En) (h0:MH) (R l:Nat) (ps:List Str) (d:Nat) (Q:D×MH->Prop):Prop:=∀(t:List Row) (l':Nat) (h':MH),bX E.W ps d t->t.length≤12->l'+bZ t=l->Wb E h0 (R+100*l') l' h'->Q (.tup (bA t),h')
def Af (E:En) (f:Nat):Prop:=∀{h0 h:MH} {R l j:Nat} {ps:List Str} {d:Nat} {top:Int} {held:List Lock} {most:Int} {Q:D×MH->Prop},Wb E h0 (R+100*l+4) l h->Cd E.W j ps d top held->d≤5->3*(5-d)+2≤f->1≤most->most≤12->JW E h0 R l ps d Q->
 Rn (bF f [.ob E.s,.ob E.wd,.int j,.int d,.int top,.lv (held.map aJ),.int most] h) Q
def Hh (E:En) (f:Nat):Prop:=∀{h0 h:MH} {R l j:Nat} {ps:List Str} {d:Nat} {top:Int} {held:List Lock} {Q:D×MH->Prop},Wb E h0 (R+100*l+100) l h->Cd E.W j ps d top held->d≤5->3*(5-d)+1≤f->CG E h0 R l ps d Q->
 Rn (fy f [.ob E.s,.ob E.wd,.int j,.int d,.int top,.lv (held.map aJ)] h) Q
def CD (E:En) (f:Nat):Prop:=∀{h0 h:MH} {R l j:Nat} {ps:List Str} {d:Nat} {top:Int} {held:List Lock} {way:Str} {Q:D×MH->Prop},Wb E h0 (R+100*l+95) l h->Cd E.W j ps d top held->d < 5->3*(5-d)≤f->way∈[Str.ofString "within",Str.ofString "ask",Str.ofString "all"]->CG E h0 R l ps d Q->
 Rn (cS f [.ob E.s,.ob E.wd,.int j,.int d,.int top,.lv (held.map aJ),.str way] h) Q
def Hf (E:En) (f:Nat):Prop:=∀{h0 h:MH} {R l j:Nat} {ps:List Str} {d:Nat} {top:Int} {held:List Lock} {Q:D×MH->Prop},Wb E h0 (R+100*l+95) l h->Cd E.W j ps d top held->d < 3->5 < l->3*(5-d)≤f->CG E h0 R l ps d Q->
 Rn (cw f [.ob E.s,.ob E.wd,.int j,.int d,.int top,.lv (held.map aJ)] h) Q
end
theorem yo (r:Rn (b (entry len ds) h) (AV fun p=>Rn (leave h p.1 p.2) Q)):Rn (mkL len b ds h) Q:=by
 obtain ⟨p,e,q⟩:=bt r;obtain ⟨z,e2,k⟩:=q;refine ⟨z,?_,k⟩;have e:((b (entry len ds) h).bind C7)=some p:=e;show ((b (entry len ds) h).bind C7).bind _=_;rw [e];exact e2
theorem Ba {isT:D->MH->Bool} {f:MFn} {o:EM} {m:AM} {δ:DS} {h:MH} {Q:D×MH->Prop} (r:Rn (o δ h) fun p=>isT p.1 p.2=true∧Rn (m δ p.2) fun q=>Rn (f p.1 q.1 q.2) Q):Rn (eM isT f o m δ h) Q:=
 aV (r.imp fun p ⟨e,r⟩=>by rw [if_pos e];exact aV r)
theorem mI (e:h[n]?=some (.lst xs)):jZ (.ob n) h=true:=by unfold jZ gy;dsimp only;rw [e];rfl
theorem iY (e:h[n]?=some (.lst xs)) (hl:xs.length < sizeLine):gF (.ob n) [y] h=some (.non,h.set n (.lst (xs++[y]))):=by unfold gF;dsimp only;rw [e];dsimp only;rw [if_pos hl]
theorem uL (n:Nat) (t:Term):clD n (bg t)=true:=rfl
theorem pK (n:Nat) (t:Lock):clD n (aJ t)=true:=rfl
theorem i9 (n:Nat) (f:α->D) (hf:∀x,clD n (f x)=true):∀xs:List α,clL n (xs.map f)=true
 | []=>rfl
 | x::r=>by rw [List.map_cons];show (clD n (f x)&&clL n _)=true;rw [hf x,i9 n f hf r];rfl
mutual
theorem xX (n:Nat):∀r:Row,clD n (bP r)=true
 | .say w=>by rw [bP];rfl
 | .call d ts=>by rw [bP];show (true&&(true&&(clL n _&&true)))=true;rw [i9 n _ (uL n)];rfl
 | .within l b=>by rw [bP];show (true&&(clD n (aJ l)&&(clL n _&&true)))=true;rw [pK,eS n b];rfl
 | .all ls b=>by rw [bP];show (true&&(clL n _&&(clL n _&&true)))=true;rw [i9 n _ (pK n),eS n b];rfl
 | .ask l b e=>by rw [bP];show (true&&(clD n (aJ l)&&(clL n _&&(clL n _&&true))))=true;rw [pK,eS n b,eS n e];rfl
 | .by_ s t a b c=>by rw [bP];show (true&&(clD n (bg s)&&(clD n (bg t)&&(clL n _&&(clL n _&&(clL n _&&true))))))=true;rw [uL,uL,eS n a,eS n b,eS n c];rfl
 | .either a b=>by rw [bP];show (true&&(clL n _&&(clL n _&&true)))=true;rw [eS n a,eS n b];rfl
 | .again a=>by rw [bP];show (true&&(clL n _&&true))=true;rw [eS n a];rfl
theorem eS (n:Nat):∀r:List Row,clL n (bA r)=true
 | []=>by rw [bA];rfl
 | r::rs=>by rw [bA];show (clD n _&&clL n _)=true;rw [xX n r,eS n rs];rfl
end
theorem qD {H:MH} {a:MO} {n:Nat} (e:H.length=n):(H++[a])[n]?=some a:=by rw [←e];simp
theorem Fe {H:MH} {a b:MO} {n:Nat} (e:H.length=n):(H++[a]).set n b=H++[b]:=by rw [←e];simp
section
variable {E:En} {f:Nat}
theorem xF (hr:Hh E f):Af E (f+1):=by
 intro h0 h R l j ps d top held most Q A G d5 hf m0 m1 k;unfold bF;refine yo ?_;walk_at "r";refine iR ?_;walk_at "r";refine rv (a:=(.lv (List.replicate 15 (D.int most)),_)) rfl ?_;walk_at "r";refine rv (a:=(.lv ((List.replicate 15 most++[12]).map D.int),_)) rfl ?_;walk_at "r";refine Aj (fun i=>1≤i∧i≤12) (by intro x hx;simp at hx;lia) (A.push (o:=.lst []) rfl) fun i h2 hi A2=>?_;walk_at "r";refine w_next (m:=i+1) A2 (by lia) (by lia) fun m h3 n0 n1 A3=>?_;walk_at "r";refine ⟨m,rfl,by lia,by lia,?_⟩;obtain ⟨hb,rfl,hbl,A3⟩:=A.pop A3;refine dR (fun i δ h'=>∃(t:List Row) (l':Nat) (d8:Option D) (hb:MH),δ=[some (.ob E.s),some (.ob E.wd),some (.int j),some (.int d),some (.int top),some (.lv (held.map aJ)),some (.int most),some (.ob h.length),d8]∧h'=hb++[.lst (bA t)]∧hb.length=h.length∧bX E.W ps d t∧t.length≤i∧l'+bZ t=l∧Wb E h0 (R+100*l'+2) l' hb)
  ⟨[],l,_,hb,rfl,by rw [bA],hbl,by unfold bX;trivial,Nat.le_refl _,by simp [bZ],A3⟩ (fun _ _ _ _ _=>rfl) ?_ ?_
 ·rintro q x δ h' hx ⟨t,l',d8,hb,rfl,rfl,hbl,okl,hll,hc,A4⟩;have hq:q < 12:=by
   have:=(List.getElem?_eq_some_iff.mp hx).1;simp at this
   lia
  have A5:=A4.push (o:=.lst (bA t)) (eS _ t);walk_at "r";refine rv (pz A5.w) ?_;walk_at "r";refine ⟨_,rfl,fun z=>?_,fun z=>?_⟩
  ·obtain ⟨l1,rfl⟩:∃n,l'=n+1:=⟨l'-1,by have:=of_decide_eq_true z;lia⟩;walk_at "r";refine rv (pz A5.w) ?_;walk_at "r";refine rv (Ah A5.w _) ?_;rw [show ((l1+1:Nat):Int)-1=(l1:Int) by lia];have A6:=A5.set l1;walk_at "r";refine Ba ?_;walk_at "r";refine ⟨mI (xs:=bA t) (by rw [List.getElem?_set_ne (by have:=A4.lt;lia)];exact qD hbl),?_⟩;walk_at "r";refine hr (R:=R+2) (A6.le (by lia)) G d5 (by lia) fun r l6 h6 okr cr A7=>?_;obtain ⟨hb6,rfl,hbl6,A8⟩:=A4.pop A7;walk_at "r";have hl6:=hbl6.trans hbl;refine rv (iY (qD hl6) (by rw [dB,List.length_map,show sizeLine=16777216 from rfl];lia)) ?_;rw [Fe hl6];walk_at "r";have hcn:bZ (t++[r])=bZ t+cnt r:=by rw [wx];simp [bZ]
   exact ⟨t++[r],l6,_,hb6,rfl,by rw [dB,dB,List.map_append];rfl,hl6,sF okl (by unfold bX;exact ⟨okr,by unfold bX;trivial⟩),by simp;lia,by lia,A8.le (by lia)⟩
  ·walk_at "r";exact ⟨t,l',_,hb,rfl,rfl,hbl,okl,by lia,hc,A4⟩
 ·rintro δ h' ⟨t,l',d8,hb,rfl,rfl,hbl,okl,hll,hc,A4⟩;rw [List.length_map,List.length_range] at hll;walk_at "r";refine rv (a:=(.tup (bA t),hb++[.lst (bA t)])) (by simp only [eR,ej,qD hbl,Option.map_some]) ?_;walk_at "r";exact rv (qx hbl A4.C (fun n z=>(nomatch z)) (eS _ t)) (k t l' hb okl (by lia) hc (A4.le (by lia)))
end
theorem yp:∀{xs:List D} {δ:DS} {h:MH} (J:List D->DS->MH->Prop),J [] δ h->(∀ys δ h,J ys δ h->chk ws h=true)->
  (∀x ys δ h,x∈xs->ys.length < xs.length->J ys δ h->Rn (g x δ h) fun q=>Rn (e q.1 q.2) fun y=>J (ys++[y.1]) q.1 y.2)->Rn (cp ws g cg e xs δ h) fun p=>p.1.length=xs.length∧∃δ',J p.1 δ' p.2
 | [],δ,h,J,hJ,hc,_=>by
  unfold cp;rw [if_pos (hc [] δ h hJ)];exact ⟨_,rfl,rfl,δ,hJ⟩
 | x::xs,δ,h,J,hJ,hc,ht=>by
  unfold cp;rw [if_pos (hc [] δ h hJ)];obtain ⟨⟨δ1,h1⟩,e1,⟨y,h2⟩,e2,J1⟩:=ht x [] δ h List.mem_cons_self (Nat.succ_pos _) hJ;obtain ⟨⟨ys,h3⟩,e3,a,δ',J2⟩:=yp (ws:=ws) (g:=g) (e:=e) (xs:=xs) (fun ys=>J (y::ys)) J1 (fun ys δ h=>hc (y::ys) δ h) fun x ys δ h hx hl=>ht x (y::ys) δ h (List.mem_cons_of_mem _ hx) (Nat.succ_lt_succ hl);refine ⟨(y::ys,h3),?_,congrArg Nat.succ a,δ',J2⟩;rw [e1];dsimp only [Option.bind_some];show ((some (true,h1)).bind _)=_;dsimp only [Option.bind_some] at e2 e3 ⊢;rw [if_pos rfl,e2];dsimp only [Option.bind_some];rw [e3];rfl
theorem qH (f:α->D) (xs ys:List α) (h:MH) (hl:xs.length+ys.length≤1000):aS (.lv (xs.map f)) (.lv (ys.map f)) h=some (.lv ((xs++ys).map f),h):=by
 rw [List.map_append];simp only [aS,zQ,gy,Option.bind_some,List.length_map];rw [if_pos (by rw [show sizeLine=16777216 from rfl];lia)]
theorem HY (P:Prop) [Decidable P] (e:Rn (t δ h) fun p=>p=(decide P,h)) (q1:P->Rn (x δ h) Q) (q2:¬P->Rn (y δ h) Q):Rn (sIf t x y δ h) Q:=by
 refine gD (e.imp ?_);rintro _ rfl;exact ⟨fun z=>q1 (of_decide_eq_true z),fun z=>q2 (of_decide_eq_false z)⟩
theorem fW (P:Prop) [Decidable P] (e:Rn (t δ h) fun p=>p=(decide P,h)) (q1:P->Rn (x δ h) (sk b Q)) (q2:¬P->Rn (b δ h) Q):Rn (ax (sIf t x ba) b δ h) Q:=
 dq (HY P e q1 fun z=>⟨_,rfl,q2 z⟩)
theorem dT [Decidable P] (p:P) (h:MH):(true,h)=(decide P,h):=by rw [decide_eq_true p]
theorem dF [Decidable P] (p:¬P) (h:MH):(false,h)=(decide P,h):=by rw [decide_eq_false p]
section
variable {E:En} {f:Nat}
theorem sI {n:Nat} (hlot:Af E f) {h0 h:MH} {R l j:Nat} {ps:List Str} {d:Nat} {top:Int} {held:List Lock} {Q:List D×MH->Prop}
  (A:Wb E h0 (R+100*l+12) l h) (hn:n≤3) (G:Cd E.W j ps d top held) (d5:d < 5) (hf:3*(5-d)≤f) (k:∀(bY:List (List Row)) (l':Nat) (h':MH),bY.length=n->(∀t∈bY,t.length≤12∧bX E.W ps (d+1) t)->l'+(bY.map bZ).sum=l->Wb E h0 (R+100*l') l' h'->Q (bY.map (fun t=>D.tup (bA t)),h')):
  Rn (cp [] (gN 0) Sm.cg (eFn (bF f) (ab (ae 4) (ab (ae 6) (ab (ae 1) (ab (eOp aS (ae 2) (eK (.int 1))) (ab (ae 5) (ab (ae 3) (ab (eK (.int 2)) aj)))))))) ((List.range n).map fun (k:Nat)=>D.int k) [none,some (.int j),some (.int d),some (.lv (held.map aJ)),some (.ob E.s),some (.int top),some (.ob E.wd)] h) Q:=by
 refine (yp (ws:=[]) (fun ys δ h'=>∃(d0:Option D) (bY:List (List Row)) (l':Nat),δ=[d0,some (.int j),some (.int d),some (.lv (held.map aJ)),some (.ob E.s),some (.int top),some (.ob E.wd)]∧ys=bY.map (fun t=>D.tup (bA t))∧(∀t∈bY,t.length≤12∧bX E.W ps (d+1) t)∧l'+(bY.map bZ).sum=l∧Wb E h0 (R+100*l'+(12-4*bY.length)) l' h') ⟨none,[],l,rfl,rfl,fun _ z=>(nomatch z),by simp,A⟩ (fun _ _ _ _=>rfl) ?_).imp ?_
 ·rintro x _ δ h' hx hys ⟨d0,bY,l',rfl,rfl,hok,hc,A1⟩;rw [List.length_map,List.length_map,List.length_range] at hys;walk_at "r";refine hlot (R:=R+(8-4*bY.length)) (d:=d+1) (A1.le (by lia)) G.deep (by lia) (by lia) (by decide) (by decide) fun t l2 h2 okl hll cr A2=>?_;refine ⟨_,bY++[t],l2,rfl,by rw [List.map_append];rfl,fun u z=>?_,by simp;lia,A2.le (by rw [List.length_append,List.length_singleton];lia)⟩;rcases List.mem_append.mp z with z | z
  ·exact hok u z
  ·rw [List.mem_singleton.mp z];exact ⟨hll,okl⟩
 ·rintro ⟨ys,h2⟩ ⟨hy,_,d0,bY,l',_,he,hok,hc,A1⟩;dsimp only at hy he;subst he;rw [List.length_map,List.length_map,List.length_range] at hy;exact k bY l' h2 hy hok hc (A1.le (by lia))
theorem Fm (hlot:Af E f) (hlk:CD E f) (htw:Hf E f):Hh E (f+1):=by
 intro h0 h R l j ps d top held Q A G d5 hf k;have pl:=G.pl;have n1:=E.ok.n1;have n2:=E.ok.n2;have d2:=E.ok.d2;unfold fy;refine bt ?_;walk_at "r";refine w_next (m:=16) A (by decide) (by decide) fun w h1 w0 w1 A1=>?_;refine fW (w < 2∨(d=5∧w < 11)) ?_ (fun z=>?_) (fun z=>?_)
 ·walk_at "r";refine ⟨_,rfl,fun z=>?_,fun z=>?_⟩
  ·have z:w < 2:=by simpa using z
   exact dT (.inl z) _
  ·have z:¬w < 2:=by simpa using z
   walk_at "r";refine ⟨_,rfl,fun y=>?_,fun y=>?_⟩
   ·have y0:(d:Int)=5:=by simpa using y
    have y:d=5:=by lia
    walk_at "r";refine ⟨_,rfl,?_⟩;rw [show decide (w < 11)=decide (w < 2∨(d=5∧w < 11)) from decide_eq_decide.mpr (by lia)]
   ·have y0:(d:Int)≠5:=by simpa using y
    have y:d≠5:=by lia
    exact dF (by lia) _
 ·walk_at "r";refine rv (eu A1.w) ?_;walk_at "r";refine rv (eA A1.w) ?_;walk_at "r";refine rv (qH D.str E.W.names E.W.deeds _ (by lia)) ?_;walk_at "r";refine Hn (xs:=(E.W.names++E.W.deeds).map D.str) A1 (.inl rfl) (by simp;lia) (by simp;lia) fun x h2 hx A2=>?_;obtain ⟨w',hw',rfl⟩:=List.mem_map.mp hx;walk_at "r";rw [show D.tup [.str "say",.str w']=bP (.say w') by rw [bP]];exact k (.say w') l h2 (by unfold cG;exact hw') (by rw [cnt]) (A2.le (by lia))
 have nd:d=5->11≤w:=by lia
 have w2:2≤w:=by lia
 refine fW (12 < w∨d=5) ?_ (fun z=>?_) (fun z=>?_)
 ·walk_at "r";refine ⟨_,rfl,fun y=>?_,fun y=>?_⟩
  ·have y:12 < w:=by simpa using y
   exact dT (.inl y) _
  ·have y:¬12 < w:=by simpa using y
   walk_at "r";refine ⟨_,rfl,?_⟩;rw [show ((d:Int)==5)=decide (12 < w∨d=5) by
    rw [Bool.eq_iff_iff];simp only [beq_iff_eq,decide_eq_true_eq];lia]
 ·walk_at "r";refine ET (R:=R+100*l) (A1.le (by lia)) G fun r h2 okr cr A2=>?_;walk_at "r";exact k r l h2 (okr d) (by rw [cr]) A2
 have d4:d < 5:=by lia
 refine fW (w=12∧d < 3∧5 < (l:Int)) ?_ (fun z=>?_) (fun z=>?_)
 ·walk_at "r";refine ⟨_,rfl,fun y=>?_,fun y=>?_⟩
  ·have y:w=12:=by simpa using y
   walk_at "r";refine ⟨_,rfl,fun x=>?_,fun x=>?_⟩
   ·have x0:(d:Int) < 3:=by simpa using x
    have x:d < 3:=by lia
    walk_at "r";refine rv (pz A1.w) ?_;walk_at "r";refine ⟨_,rfl,?_⟩;rw [show decide (5 < (l:Int))=decide (w=12∧d < 3∧5 < (l:Int)) from decide_eq_decide.mpr (by lia)]
   ·have x0:¬(d:Int) < 3:=by simpa using x
    have x:¬d < 3:=by lia
    exact dF (by lia) _
  ·have y:w≠12:=by simpa using y
   exact dF (by lia) _
 ·walk_at "r";refine htw (R:=R) (A1.le (by lia)) G z.2.1 (by lia) (by lia) fun r l2 h2 okr cr A2=>?_;walk_at "r";exact k r l2 h2 okr cr A2
 refine fW (w=11∨w=12) ?_ (fun z=>?_) (fun z=>?_)
 ·walk_at "r";refine ⟨_,rfl,fun y=>?_,fun y=>?_⟩
  ·have y:w=11:=by simpa using y
   exact dT (.inl y) _
  ·have y:w≠11:=by simpa using y
   walk_at "r";refine ⟨_,rfl,?_⟩;rw [show (w==12)=decide (w=11∨w=12) by rw [Bool.eq_iff_iff];simp only [beq_iff_eq,decide_eq_true_eq];lia]
 ·show Rn (ax _ _ _ _) _;walk_at "r";refine rv (de A1.w) ?_;walk_at "r";refine rv (cH G.hp) ?_;walk_at "r";refine tF A1 pl fun t1 h2 tk1 A2=>?_;walk_at "r";refine rv (de A2.w) ?_;walk_at "r";refine rv (cH G.hp) ?_;walk_at "r";refine tF A2 pl fun t2 h3 tk2 A3=>?_;walk_at "r";refine ⟨_,_,rfl,?_⟩;walk_at "r";refine iR ?_;walk_at "r";refine ⟨3,rfl,by lia,by lia,?_⟩;refine sI (n:=3) (R:=R) hlot (A3.le (by lia)) (by lia) G d4 (by lia) fun bY l4 h4 hn hok cr A4=>?_
  match bY,hn with
  | [x,y,v],_=>
   refine ⟨by show 3≤sizeLine;decide,?_⟩;walk_at "r";refine rv (a:=(.tup [.tup (bA x),.tup (bA y),.tup (bA v)],_)) rfl ?_;walk_at "r";refine rv (a:=(bP (.by_ t1 t2 x y v),_)) (by rw [bP];rfl) ?_;walk_at "r";simp only [List.map_cons,List.map_nil,List.sum_cons,List.sum_nil] at cr;have hx:=hok x (by simp);have hy:=hok y (by simp);have hv:=hok v (by simp);exact k (.by_ t1 t2 x y v) l4 h4 (by unfold cG;exact ⟨tk1,tk2,d4,hx.1,hy.1,hv.1,hx.2,hy.2,hv.2⟩) (by rw [cnt];lia) A4
 refine fW (w=10) ?_ (fun z=>?_) (fun z=>?_)
 ·walk_at "r";refine ⟨_,rfl,?_⟩;rw [show (w==10)=decide (w=10) by rw [Bool.eq_iff_iff];simp only [beq_iff_eq,decide_eq_true_eq]]
 ·walk_at "r";refine iR ?_;walk_at "r";refine ⟨2,rfl,by lia,by lia,?_⟩;refine sI (n:=2) (R:=R) hlot (A1.le (by lia)) (by lia) G d4 (by lia) fun bY l2 h2 hn hok cr A2=>?_
  match bY,hn with
  | [x,y],_=>
   refine ⟨by show 2≤sizeLine;decide,?_⟩;walk_at "r";refine rv (a:=(.tup [.tup (bA x),.tup (bA y)],_)) rfl ?_;walk_at "r";refine rv (a:=(bP (.either x y),_)) (by rw [bP];rfl) ?_;walk_at "r";simp only [List.map_cons,List.map_nil,List.sum_cons,List.sum_nil] at cr;have hx:=hok x (by simp);have hy:=hok y (by simp);exact k (.either x y) l2 h2 (by unfold cG;exact ⟨d4,hx.1,hy.1,hx.2,hy.2⟩) (by rw [cnt];lia) A2
 refine fW (w=9) ?_ (fun z=>?_) (fun z=>?_)
 ·walk_at "r";refine ⟨_,rfl,?_⟩;rw [show (w==9)=decide (w=9) by rw [Bool.eq_iff_iff];simp only [beq_iff_eq,decide_eq_true_eq]]
 ·walk_at "r";refine hlot (R:=R) (d:=d+1) (A1.le (by lia)) G.deep (by lia) (by lia) (by decide) (by decide) fun t l2 h2 okl hll cr A2=>?_;walk_at "r";rw [show D.tup [.str "again",.tup (bA t)]=bP (.again t) by rw [bP]];exact k (.again t) l2 h2 (by unfold cG;exact ⟨d4,hll,okl⟩) (by rw [cnt];lia) A2
 walk_at "r";refine Hn (xs:=[Str.ofString "within",Str.ofString "within",Str.ofString "within",Str.ofString "within",Str.ofString "ask",Str.ofString "all"].map D.str) A1 (.inl rfl) (by simp) (by simp) fun x h2 hx A2=>?_;obtain ⟨w',hw',rfl⟩:=List.mem_map.mp hx;walk_at "r";refine hlk (R:=R) (A2.le (by lia)) G d4 (by lia) (by simp at hw' ⊢;lia) fun r l3 h3 okr cr A3=>?_;walk_at "r";exact k r l3 h3 okr cr A3
end
noncomputable def cK (t:Lock):PyData:=.tuple [.str t.1,kS t.2]
theorem Bb (t:Term):pyD (bg t)=some (kS t):=by simp only [bg,pyD,pyL,Option.bind_some,Option.map_some];rfl
theorem vF (t:Lock):pyD (aJ t)=some (cK t):=by simp only [aJ,pyD,pyL,Bb,Option.bind_some,Option.map_some];rfl
theorem kq:∀ts:List Lock,pyL (ts.map aJ)=some (ts.map cK)
 | []=>rfl
 | c::r=>by simp only [List.map_cons,pyL,kq r,vF,Option.bind_some,Option.map_some]
theorem gK:∀ts:List Lock,PyData.depthAll (ts.map cK)≤2
 | []=>by simp [PyData.depthAll]
 | c::r=>by
  have:=gK r;simp only [List.map_cons,PyData.depthAll,cK,kS,PyData.depth]
  lia
theorem uH {h:MH} {n:Nat} {ls:List Lock} (x:Lock) (e:h[n]?=some (.lst (ls.map aJ))):j2 (aJ x) (.ob n) h=some (.bl (!(ls.map cK).any fun b=>PyData.eqv b (cK x)),h):=by
 have h1:=gK ls;have h2:=gK [x];have h3:(cK x).depth≤60:=by
  simp only [List.map_cons,List.map_nil,PyData.depthAll] at h2
  lia
 unfold j2 inD;simp only [dw,e];show ((ej (.ob n) h).bind _).map _=_;simp only [ej,e,Option.bind_some,kq];show (((rdD h (aJ x)).bind _).map _)=_;rw [show rdD h (aJ x)=some (cK x) from vF x];dsimp only [Option.bind_some];rw [if_pos ⟨h3,by lia⟩];rfl
theorem FD (r:Rn (ma δ h) fun p=>Rn (mb δ p.2) fun q=>∃xs ys,gy p.1 q.2=some xs∧gy q.1 q.2=some ys∧xs.length+ys.length≤sizeLine∧Q (xs++ys,q.2)):Rn (He ma mb δ h) Q:=
 aV (r.imp fun p r=>aV (r.imp fun q ⟨xs,ys,e1,e2,hl,hq⟩=>⟨_,by rw [e1];dsimp only [Option.bind_some];rw [e2];dsimp only [Option.bind_some];rw [if_pos hl],hq⟩))
theorem BY (x:Lock):PyData.eqv (cK x) (cK x)=true:=by
 simp [cK,kS,PyData.eqv,PyData.eqvAll]
theorem C5 (r:Row) (n:Nat):bP r≠.ob n:=by cases r <;> rw [bP] <;> exact fun z=>(nomatch z)
theorem Wb.ext {E:En} {h0 h g:MH} {R l:Nat} (A:Wb E h0 R l h) (C:Cl (h++g)):Wb E (h++g) R l (h++g):=⟨A.S.more _,by rw [List.getElem?_append_left A.lt.2.2];exact A.w,C,gA.refl _ _ _⟩
theorem AY {E:En} {h0 h hb g:MH} {R l l' d:Nat} {ps:List Str} {Q:D×MH->Prop} (b:gA E.s E.wd h0 h) (k:CG E h0 R l ps d Q) (r:Row) (ok:cG E.W ps d r) (hc:l'+cnt r=l+1) (A:Wb E h (R+100*l') l' hb) {x:D} (e:bP r=x):Rn (leave h x (hb++g)) Q:=
 ⟨_,e ▸ qx A.b.1 A.C (C5 r) (xX _ r),k r l' hb ok hc (A.tr b)⟩
theorem t4 {E:En} {h0 h hb:MH} {R l l' d:Nat} {ps:List Str} {Q:D×MH->Prop} (b:gA E.s E.wd h0 h) (k:CG E h0 R l ps d Q) (r:Row) (ok:cG E.W ps d r) (hc:l'+cnt r=l+1) (A:Wb E h (R+100*l') l' hb) {x:D} (e:bP r=x):Rn (leave h x hb) Q:=by
 have:=AY (g:=[]) b k r ok hc A e
 rwa [List.append_nil] at this
section
variable {E:En} {f:Nat}
theorem zw (hlot:Af E f):CD E (f+1):=by
 intro h0 h R l j ps d top held way Q A G d5 hf hw k;obtain ⟨dj,hdj⟩:∃f,E.W.deeds[j]?=some f:=⟨_,List.getElem?_eq_getElem G.hj⟩;have hl:=G.hl;have ht:=G.ht;have b0:=A.b;replace A:=A.here;unfold cS;refine yo ?_;walk_at "r";refine Ak A G (by lia) (fun k1 lk h1 hmx k0 k2 okk A1=>?_) fun h1 _ A1=>?_
 ·walk_at "r";refine rv (a:=(.bl false,_)) rfl ⟨_,rfl,fun z=>(nomatch z),fun _=>?_⟩;refine ⟨_,rfl,?_⟩;show Rn (ax _ _ _ _) _;refine fW (way=Str.ofString "all") ?_ (fun z=>?_) (fun z=>?_)
  ·walk_at "r";refine ⟨_,rfl,?_⟩;rw [show (way==Str.ofString "all")=decide (way=Str.ofString "all") by rw [Bool.eq_iff_iff];simp only [beq_iff_eq,decide_eq_true_eq]]
  ·show Rn (ax _ _ _ _) _;walk_at "r";refine ⟨_,_,rfl,?_⟩;walk_at "r";refine iR ?_;walk_at "r";refine Aj (is:=[1,1,2,3]) (fun i=>1≤i∧i≤3) (by decide) (A1.push (o:=.lst [aJ lk]) rfl) fun i h2 hi A2=>?_;obtain ⟨hb2,rfl,e2,A2'⟩:=A1.pop A2;walk_at "r";refine ⟨i,rfl,by lia,by lia,?_⟩;refine dR (fun i δ h'=>∃(ls:List Lock) (hi:Int) (n:Nat) (d11 d12 d13:Option D) (hb g:MH),δ=[some (.ob E.s),some (.ob E.wd),some (.int j),some (.int d),some (.int top),some (.lv (held.map aJ)),some (.str way),some (.int k1),some (aJ lk),some (.ob n),some (.int hi),d11,d12,d13,none]∧h'=hb++g∧h'[n]?=some (.lst (ls.map aJ))∧h.length≤n∧lk∈ls∧ls.Nodup∧(∀x∈ls,fu E.W ps x)∧ls.length≤i+1∧0≤hi∧hi < E.W.names.length∧Wb E h (R+100*l+(80-10*i)) l hb∧Cl (hb++g))
    ⟨[lk],k1,h1.length,none,none,none,hb2,[.lst [aJ lk]],rfl,rfl,qD e2,by rw [A1.b.1];exact Nat.le_refl _,by simp,by simp,by simpa using okk,Nat.le_refl _,k0,k2,A2'.le (by lia),A2.C⟩ (fun _ _ _ _ _=>rfl) ?_ ?_
   ·rintro q x δ h' hx ⟨ls,hi',n,d11,d12,d13,hb,g,rfl,rfl,hn,hnl,hlk,nd,hok,hll,hi0,hi1,A3,C3⟩;have hq:q < 3:=by
     have:=(List.getElem?_eq_some_iff.mp hx).1;simp at this
     lia
    walk_at "r";refine Ak (R:=R+100*l+(80-10*(q+1))) ((A3.ext C3).le (by lia)) G (by lia) (fun k4 lk4 h4 _ k40 k41 okk4 A4=>?_) fun h1 z4 _=>absurd z4 (by lia)
    ·have hn4:h4[n]?=some (.lst (ls.map aJ)):=by
      have:=A.lt;rw [A4.b.2 n (by lia) (by lia)];exact hn
     obtain ⟨hb4,rfl,e4,A4'⟩:=A3.pop A4;walk_at "r";refine rv (mQ _ _ _) ?_;walk_at "r";refine FD ?_;walk_at "r";refine rv (uH lk4 hn4) ?_;obtain ⟨us,v,hv,hus,husl,hnd,hokk⟩:∃(us:List Lock) (v:Int),wk [.bl (!(ls.map cK).any fun b=>PyData.eqv b (cK lk4))] (hb4++g)=some (.int v,hb4++g)∧Ea (.lv [aJ lk4]) (.int v) (hb4++g)=some (.lv (us.map aJ),hb4++g)∧us.length≤1∧(ls++us).Nodup∧∀x∈ls++us,fu E.W ps x:=by
      cases hb0:((ls.map cK).any fun b=>PyData.eqv b (cK lk4)) with
      | true=>exact ⟨[],0,rfl,rfl,by simp,by simpa using nd,by simpa using hok⟩
      | false=>
       have hnot:lk4∉ls:=fun z=>by
        rw [List.any_eq_false] at hb0;exact hb0 (cK lk4) (List.mem_map_of_mem z) (BY lk4)
       refine ⟨[lk4],1,rfl,rfl,by simp,?_,?_⟩
       ·rw [List.nodup_append];refine ⟨nd,by simp,fun x hx y hy z=>hnot ?_⟩;rw [List.mem_singleton.mp hy] at z;rw [←z];exact hx
       ·intro x hx;rcases List.mem_append.mp hx with z | z
        ·exact hok x z
        ·rw [List.mem_singleton.mp z];exact okk4
     walk_at "r";refine rv hv ?_;walk_at "r";refine rv hus ?_;refine ⟨ls.map aJ,us.map aJ,by simp only [gy,hn4],rfl,by rw [List.length_map,List.length_map,show sizeLine=16777216 from rfl];lia,?_⟩;refine ⟨ls++us,max hi' k4,(hb4++g).length,_,_,_,hb4,g++[.lst ((ls++us).map aJ)],rfl,by rw [List.map_append];exact List.append_assoc _ _ _,by rw [List.map_append];simp,?_,List.mem_append_left _ hlk,hnd,hokk,by simp;lia,by lia,by lia,A4',?_⟩
     ·have:=A4'.b.1;rw [List.length_append];lia
     ·rw [←List.append_assoc];exact A4.C.snoc (o:=.lst _) (i9 _ _ (pK _) _)
   ·rintro δ h' ⟨ls,hi',n,d11,d12,d13,hb,g,rfl,rfl,hn,hnl,hlk,nd,hok,hll,hi0,hi1,A3,C3⟩;rw [List.length_map,List.length_range] at hll A3;replace A3:=A3.le (R':=R+100*l+10) (by lia);show Rn (ax _ _ _ _) _;refine dq ?_;refine Rn.imp (Q:=fun r=>∃(ls:List Lock) (g:MH),r=(Fl.nx,[some (.ob E.s),some (.ob E.wd),some (.int j),some (.int d),some (.int top),some (.lv (held.map aJ)),some (.str way),some (.int k1),some (aJ lk),some (.ob n),some (.int hi'),d11,d12,d13,none],hb++g)∧(hb++g)[n]?=some (.lst (ls.map aJ))∧2≤ls.length∧ls.length≤4∧ls.Nodup∧(∀x∈ls,fu E.W ps x)∧Cl (hb++g)) ?_ ?_
    ·walk_at "r";refine rv (yF hn) ?_;walk_at "r";refine ⟨_,rfl,fun z=>?_,fun z=>?_⟩
     ·have z:ls.length=1:=by
       have:((ls.map aJ).length:Int)=1:=by simpa using z
       rw [List.length_map] at this
       lia
      obtain ⟨x0,rfl⟩:∃x0,ls=[x0]:=List.length_eq_one_iff.mp z;obtain rfl:lk=x0:=List.mem_singleton.mp hlk;obtain ⟨nm,wo,fi⟩:=lk;have hok0:=hok _ (List.mem_singleton.mpr rfl);walk_at "r";refine Ba ?_;walk_at "r";refine ⟨mI hn,?_⟩;walk_at "r";refine rv (a:=(.str nm,_)) rfl ?_;walk_at "r";refine rv (a:=(bg (wo,fi),_)) rfl ?_;walk_at "r";refine rv (a:=(.str wo,_)) rfl ?_;walk_at "r";refine rv (a:=(bg (wo,fi),_)) rfl ?_;walk_at "r";refine rv (a:=(.int fi,_)) rfl ?_;walk_at "r";refine rv (a:=(bg (wo,fi),_)) rfl ?_;walk_at "r";refine rv (a:=(.int fi,_)) rfl ?_;walk_at "r";obtain ⟨v,hv,hm,v1,v0⟩:∃v:Int,wk [.bl (decide (90 < fi))] (hb++g)=some (.int v,hb++g)∧j3 (.int 2) (.int v) (hb++g)=some (.int (2*v),hb++g)∧(90 < fi->v=1)∧(¬90 < fi->v=0):=by
       by_cases z:90 < fi
       ·exact ⟨1,by rw [decide_eq_true z];rfl,rfl,fun _=>rfl,fun y=>absurd z y⟩
       ·exact ⟨0,by rw [decide_eq_false z];rfl,rfl,fun y=>absurd y z,fun _=>rfl⟩
      refine rv hv ?_;walk_at "r";refine rv hm ?_;walk_at "r";refine rv (iY hn (by rw [List.length_map,show sizeLine=16777216 from rfl];simp)) ?_;walk_at "r";have hlen:=A3.b.1;rw [List.set_append_right _ _ (by lia)];have okf:=hok0.2;have okn:=hok0.1;dsimp only at okn;unfold eP at okf;dsimp only at okf;have hvv:v=0∨v=1:=by by_cases z:90 < fi <;> lia
      refine ⟨[(nm,wo,fi),(nm,wo,fi+1-2*v)],_,rfl,?_,by simp,by simp,?_,?_,?_⟩
      ·rw [List.getElem?_append_right (by lia),List.getElem?_set_self]
       ·rfl
       ·have:=(List.getElem?_eq_some_iff.mp hn).1;rw [List.length_append] at this
        lia
      ·simp;lia
      ·intro x hx;rcases List.mem_cons.mp hx with rfl | hx
       ·exact hok0
       ·rw [List.mem_singleton.mp hx];exact ⟨okn,okf.1,by dsimp only;lia,by dsimp only;lia⟩
      ·rw [←List.set_append_right _ _ (by lia)];exact C3.set (o:=.lst _) rfl
     ·have z:ls.length≠1:=by
       have:((ls.map aJ).length:Int)≠1:=by simpa using z
       rw [List.length_map] at this
       lia
      have:0 < ls.length:=List.length_pos_of_mem hlk;exact ⟨_,rfl,ls,g,rfl,hn,by lia,by lia,nd,hok,C3⟩
    rintro _ ⟨ls,g,rfl,hn,l2,l4,nd,hok,C4⟩;have A4:=A3.ext C4;show Rn (ax _ _ _ _) _;walk_at "r";refine rv (wI A4.w) ?_;walk_at "r";obtain ⟨v,hv,v0,v1⟩:∃v:Int,wk [.bl (E.odd==0)] (hb++g)=some (.int v,hb++g)∧0≤v∧v≤1:=by
     cases E.odd==0
     ·exact ⟨0,rfl,by lia,by lia⟩
     ·exact ⟨1,rfl,by lia,by lia⟩
    refine rv hv ?_;walk_at "r";refine rv (a:=(.tup (ls.map aJ),_)) (by simp only [eR,ej,hn,Option.map_some];rfl) ?_;walk_at "r";refine rv (mQ _ _ _) ?_;walk_at "r";refine rv (a:=(.lv ((held++ls).map aJ),_)) (by
     rw [List.map_append];simp only [aS,zQ,gy,hn,Option.bind_some,List.length_map];rw [if_pos (by rw [show sizeLine=16777216 from rfl];lia)]) ?_
    walk_at "r";refine hlot (R:=R) (d:=d+1) (A4.le (by lia)) (G.more (n:=1) (by lia) (by lia) hok) (by lia) (by lia) (by decide) (by decide) fun t l5 h5 okl hll5 cr A5=>?_;obtain ⟨hb5,rfl,_,A5'⟩:=A3.pop A5;walk_at "r";exact AY b0 k (.all ls t) (by unfold cG;exact ⟨⟨l2,l4,nd,hok⟩,d5,hll5,okl⟩) (by rw [cnt];lia) A5' (by rw [bP])
  refine dq ?_;walk_at "r";refine rv (mQ _ _ _) ?_;walk_at "r";refine rv (qH aJ held [lk] _ (by simp;lia)) ?_;walk_at "r";refine hlot (R:=R+10) (d:=d+1) (A1.le (by lia)) (G.more (n:=1) (ls:=[lk]) (by lia) (by simp) (by simpa using okk)) (by lia) (by lia) (by decide) (by decide) fun t l2 h2 okl hll cr A2=>?_;refine Rn.imp (Q:=_) (fW (way=Str.ofString "ask") ?_ (fun z=>?_) (fun z=>?_)) fun _ z=>z
  ·walk_at "r";refine ⟨_,rfl,?_⟩;rw [show (way==Str.ofString "ask")=decide (way=Str.ofString "ask") by rw [Bool.eq_iff_iff];simp only [beq_iff_eq,decide_eq_true_eq]]
  ·walk_at "r";refine hlot (R:=R) (d:=d+1) (A2.le (by lia)) G.deep (by lia) (by lia) (by decide) (by decide) fun t3 l3 h3 okl3 hll3 cr3 A3=>?_;walk_at "r";exact t4 b0 k (.ask lk t t3) (by unfold cG;exact ⟨okk,d5,hll,hll3,okl,okl3⟩) (by rw [cnt];lia) A3 (by rw [bP])
  ·walk_at "r";exact t4 b0 k (.within lk t) (by unfold cG;exact ⟨okk,d5,hll,okl⟩) (by rw [cnt];lia) (A2.le (by lia)) (by rw [bP])
 ·walk_at "r";refine rv (a:=(.bl true,_)) rfl ⟨_,rfl,fun _=>?_,fun z=>(nomatch z)⟩;walk_at "r";refine rv (eA A1.w) ?_;walk_at "r";refine rv (cH hdj) ?_;walk_at "r";exact t4 b0 k (.say dj) (by unfold cG;exact List.mem_append_right _ (List.mem_of_getElem? hdj)) (by rw [cnt]) (A1.le (by lia)) (by rw [bP])
end
theorem xO (ts:List Lock) (h:MH):hW (.lv (ts.map aJ)) (.lv []) h=some (.bl (!ts.isEmpty),h):=by
 have:=gK ts;simp only [hW,eqA,dw,eqD,rdD,kq,pyD,pyL,Option.map_some,Option.bind_some];rw [if_pos ⟨show PyData.depthAll _+1≤64 by lia,by decide⟩];cases ts <;> rfl
section
variable {E:En}
theorem EZ {f:Nat} (hlot:Af E f):Hf E (f+1):=by
 intro h0 h R l j ps d top held Q A G d3 l5 hf k;have pl:=G.pl;have hl:=G.hl;have ht:=G.ht;have b0:=A.b;replace A:=A.here;obtain ⟨dj,hdj⟩:∃f,E.W.deeds[j]?=some f:=⟨_,List.getElem?_eq_getElem G.hj⟩;obtain ⟨fj,hfj⟩:∃f,E.fl[j]?=some f:=⟨_,List.getElem?_eq_getElem (by rw [E.ok.fln];exact G.hj)⟩;have hfm:=E.ok.f0 fj (List.mem_of_getElem? hfj);have hsay:Rn (leave h (.tup [.str "say",.str dj]) h) Q:=t4 b0 k (.say dj) (by unfold cG;exact List.mem_append_right _ (List.mem_of_getElem? hdj)) (by rw [cnt]) (A.le (by lia)) (by rw [bP]);unfold cw;refine yo ?_;walk_at "r";refine rv (nr A.w) ?_;walk_at "r";refine rv (cH hfj) ?_;walk_at "r";refine rv (mQ top fj h) ?_;have lo0:0≤max top fj:=by lia
 have lo1:max top fj≤E.W.names.length:=by lia
 generalize max top fj=lo at lo0 lo1 ⊢;refine fW (lo=E.W.names.length) ?_ (fun z=>?_) (fun z=>?_)
 ·walk_at "r";refine rv (eu A.w) ?_;walk_at "r";refine ⟨_,rfl,?_⟩;rw [List.length_map,show (lo==(E.W.names.length:Int))=decide (lo=E.W.names.length) by rw [Bool.eq_iff_iff];simp only [beq_iff_eq,decide_eq_true_eq]]
 ·walk_at "r";refine rv (eA A.w) ?_;walk_at "r";refine rv (cH hdj) ?_;walk_at "r";exact hsay
 obtain ⟨kn,rfl⟩:=Int.eq_ofNat_of_zero_le lo0;have hkn:kn < E.W.names.length:=by lia
 obtain ⟨nm,hnm⟩:∃f,E.W.names[kn]?=some f:=⟨_,List.getElem?_eq_getElem hkn⟩;refine dq ?_;walk_at "r";refine dQ ?_;walk_at "r";refine ⟨_,_,rfl,?_⟩;obtain ⟨⟨ys,h4⟩,e4,hyl,hym,δ4,hh4,_⟩:=pF (ws:=[]) (g:=gN 0) (c:=aA (eOp bW (eOp fIx (ae 0) (eK (.int 0))) (eOp fIx (eOp fIx (ae 2) (eK (.str "names"))) (ae 1)))) (e:=ae 0) (fun x y=>∃l∈held,y=aJ l)
  (xs:=held.map aJ) (δ:=[none,some (.int kn),some (.ob E.wd)]) (h:=h) (fun j δ h'=>h'=h∧∃d0,δ=[d0,some (.int kn),some (.ob E.wd)]) ⟨rfl,_,rfl⟩ (fun _ _ _ _ _=>rfl) (by
   rintro i x δ h' hx ⟨rfl,d0,rfl⟩;obtain ⟨l,hl,rfl⟩:=List.mem_map.mp (List.mem_of_getElem? hx);walk_at "r";refine rv (a:=(.str l.1,_)) rfl ?_;walk_at "r";refine rv (eu A.w) ?_;walk_at "r";refine rv (cH hnm) ?_;walk_at "r";refine ⟨_,rfl,fun _=>?_,fun _=>⟨rfl,_,rfl⟩⟩;walk_at "r";exact ⟨⟨l,hl,rfl⟩,rfl,_,rfl⟩)
 dsimp only at hh4;subst hh4;refine rv e4 ⟨Nat.le_trans hyl (by rw [List.length_map,show sizeLine=16777216 from rfl];lia),?_⟩;obtain ⟨ts,rfl⟩:∃ts:List Lock,ys=ts.map aJ:=by
  clear e4 hyl
  induction ys with
  | nil=>exact ⟨[],rfl⟩
  | cons y r ih=>
   obtain ⟨js,rfl⟩:=ih fun z hz=>hym z (List.mem_cons_of_mem _ hz);obtain ⟨x,hx,l,hl,rfl⟩:=hym y List.mem_cons_self;exact ⟨l::js,rfl⟩
 walk_at "r";refine rv (xO ts _) ⟨_,rfl,fun z=>?_,fun z=>?_⟩
 ·walk_at "r";refine rv (eA A.w) ?_;walk_at "r";refine rv (cH hdj) ?_;walk_at "r";exact hsay
 walk_at "r";refine rv (eu A.w) ?_;walk_at "r";refine rv (cH hnm) ?_;walk_at "r";refine rv (pz A.w) ?_;walk_at "r";refine rv (Ah A.w _) ?_;rw [show (l:Int)-5=((l-5:Nat):Int) by lia];have A1:=A.set (l-5);generalize h4.set E.wd (wdO E.W E.fl ((l-5:Nat):Int) E.odd)=h5 at A1 ⊢;walk_at "r";refine rv (de A1.w) ?_;walk_at "r";refine rv (cH G.hp) ?_;walk_at "r";refine tF A1 pl fun t1 h2 tk1 A2=>?_;walk_at "r";refine rv (de A2.w) ?_;walk_at "r";refine rv (cH G.hp) ?_;walk_at "r";refine tF A2 pl fun t2 h3 tk2 A3=>?_;walk_at "r";refine ⟨_,_,rfl,?_⟩;walk_at "r";refine dQ ?_;walk_at "r";refine ⟨_,_,rfl,?_⟩;have hlen3:=A3.b.1;have okn:=List.mem_of_getElem? hnm;refine dR (fun i δ h'=>∃(rows:List Row) (l':Nat) (d11 d12 d13:Option D) (hb:MH),δ=[some (.ob E.s),some (.ob E.wd),some (.int j),some (.int d),some (.int top),some (.lv (held.map aJ)),some (.int kn),some (.str nm),some (bg t1),some (bg t2),some (.ob h3.length),d11,d12,d13]∧h'=hb++[.lst (rows.map fun r=>.tup [bP r])]∧rows.length=i∧(∀r∈rows,cG E.W ps (d+1) r)∧l'+(rows.map cnt).sum+5=l+2*i∧Wb E h4 (R+100*l'+(8-4*i)) l' hb)
  ⟨[],l-5,_,_,_,h3,rfl,rfl,rfl,fun _ z=>(nomatch z),by simp;lia,A3.le (by lia)⟩ (fun _ _ _ _ _=>rfl) ?_ ?_
 ·rintro i x δ h' hx ⟨rows,l',d11,d12,d13,hb,rfl,rfl,hrl,hro,hc,A6⟩;have hi:i < 2:=(List.getElem?_eq_some_iff.mp hx).1;obtain ⟨u,v,rfl,uk,vk⟩:∃u v:Term,x=.tup [bg u,bg v]∧eP ps u∧eP ps v:=by
   rcases List.mem_cons.mp (List.mem_of_getElem? hx) with rfl | hx
   ·exact ⟨t1,t2,rfl,tk1,tk2⟩
   ·rw [List.mem_singleton.mp hx];exact ⟨t2,t1,rfl,tk2,tk1⟩
  have hlb:hb.length=h3.length:=A6.b.1.trans hlen3.symm;generalize hrs:rows.map (fun r=>D.tup [bP r])=rs;have hcl:clL (hb.length+1) rs=true:=by rw [←hrs];exact i9 _ _ (fun r=>by show (clD _ (bP r)&&true)=true;rw [xX];rfl) rows
  walk_at "r";refine rv (qH aJ held [(nm,u),(nm,v)] _ (by simp;lia)) ?_;walk_at "r";refine hlot (R:=R+(8-4*(i+1))) (d:=d+3) ((A6.push (o:=.lst rs) hcl).le (by lia)) (G.more (n:=3) (ls:=[(nm,u),(nm,v)]) lo1 (by simp) (by
   intro x hx;rcases List.mem_cons.mp hx with rfl | z
   ·exact ⟨okn,uk⟩
   ·rw [List.mem_singleton.mp z];exact ⟨okn,vk⟩)) (by lia) (by lia) (by decide) (by decide) fun t l7 h7 okl hll cr A7=>?_
  obtain ⟨hb7,rfl,e7,A7'⟩:=A6.pop A7;have hl7:=e7.trans hlb;walk_at "r";refine Ba ?_;walk_at "r";refine ⟨mI (qD hl7),?_⟩;walk_at "r";refine rv (iY (qD hl7) (by rw [←hrs,List.length_map,show sizeLine=16777216 from rfl];lia)) ?_;rw [Fe hl7];walk_at "r";have hcn:((rows++[Row.within (nm,u) [Row.within (nm,v) t]]).map cnt).sum=(rows.map cnt).sum+(2+bZ t):=by
   rw [List.map_append,List.sum_append];simp [cnt,bZ]
   lia
  refine ⟨rows++[.within (nm,u) [.within (nm,v) t]],l7,_,_,_,hb7,rfl,?_,by simp [hrl],?_,by rw [hcn];lia,A7'.le (by lia)⟩
  ·rw [List.map_append,hrs];simp [bP,bA,aJ]
  ·intro r hr;rcases List.mem_append.mp hr with z | z
   ·exact hro r z
   ·rw [List.mem_singleton.mp z];simp only [cG,bX];exact ⟨⟨okn,uk⟩,by lia,by simp,⟨⟨okn,vk⟩,by lia,hll,okl⟩,trivial⟩
 ·rintro δ h' ⟨rows,l',d11,d12,d13,hb,rfl,rfl,hrl,hro,hc,A6⟩
  match rows,hrl with
  | [r0,r1],_=>
   have hc:l'+(([r0,r1]:List Row).map cnt).sum+5=l+2*2:=hc;have hat:(hb++[MO.lst [.tup [bP r0],.tup [bP r1]]])[h3.length]?=some (.lst [.tup [bP r0],.tup [bP r1]]):=qD (A6.b.1.trans hlen3.symm);show Rn _ _;walk_at "r";refine rv (j4 hat (d:=.tup [bP r0]) rfl) ?_;walk_at "r";refine rv (j4 hat (d:=.tup [bP r1]) rfl) ?_;walk_at "r";refine AY b0 k (.by_ t1 t2 [r0] [.within (nm,t1) []] [r1]) ?_ ?_ (A6.le (by lia)) (by simp [bP,bA,aJ])
   ·simp only [cG,bX];exact ⟨tk1,tk2,by lia,by simp,by simp,by simp,⟨hro r0 (by simp),trivial⟩,⟨⟨⟨okn,tk1⟩,by lia,by simp,trivial⟩,trivial⟩,⟨hro r1 (by simp),trivial⟩⟩
   ·simp [cnt,bZ] at hc ⊢;lia
theorem ring:∀f,Af E f∧Hh E f∧CD E f∧Hf E f
 | 0=>⟨fun _ _ _ z=>absurd z (by lia),fun _ _ _ z=>absurd z (by lia),fun _ _ z1 z=>absurd z (by lia),fun _ _ z1 _ z=>absurd z (by lia)⟩
 | f+1=>let ⟨a,b,c,d⟩:=ring f;⟨xF b,Fm a c d,zw a,EZ a⟩
end
theorem uC {P:Int->Prop}:∀{zs:List D},(∀y∈zs,∃i,y=.int i∧P i)->∃js:List Int,zs=js.map D.int∧∀j∈js,P j
 | [],_=>⟨[],rfl,fun _ z=>(nomatch z)⟩
 | y::r,h=>by
  obtain ⟨js,rfl,q⟩:=uC (zs:=r) fun z hz=>h z (List.mem_cons_of_mem _ hz);obtain ⟨i,rfl,p⟩:=h y List.mem_cons_self;exact ⟨i::js,rfl,fun j hj=>by
   rcases List.mem_cons.mp hj with rfl | hj
   ·exact p
   ·exact q j hj⟩
theorem zN (f:α->D) (xs:List α) (k:Nat) (h:MH):we (.lv (xs.map f)) none (some (k:Int)) h=some (.lv ((xs.take k).map f),h):=by
 show some (D.lv (cutD (xs.map f) none (some (k:Int))),h)=_;unfold cutD;rw [HT.AN,HT.C0,List.drop_zero,Nat.sub_zero,List.length_map,←List.map_take]
 by_cases z:k≤xs.length
 ·rw [Nat.min_eq_left z]
 ·rw [Nat.min_eq_right (by lia),List.take_of_length_le (Nat.le_refl _),List.take_of_length_le (by lia)]
theorem Ep {h h0:MH} {s c R:Nat} {cs:List Int} {most odd:Int} {Q:D×MH->Prop} (A:Sb s c cs h0 (R+80) h) (o0:0≤odd) (o1:odd≤1000) (k:∀(W:Wd) (fl:List Int) (hb:MH),WdOk W fl odd->Sb s c cs h0 R hb->Q (.ob hb.length,hb++[wdO W fl most odd])):Rn (fZ [.ob s,.int most,.int odd] h) Q:=by
 refine bt ?_;walk_at "r";refine k5 (is:=[1,2,2,3,4,6]) (fun i=>1≤i∧i≤6) (by decide) A fun n1 h1 hn1 _ A1=>?_;walk_at "r";refine uR A1 (by lia) (by lia) fun ns h2 nl nk nnd A2=>?_;walk_at "r";refine k5 (is:=[1,1,2,2,3,4,6]) (fun i=>1≤i∧i≤6) (by decide) A2 fun n2 h3 hn2 _ A3=>?_;walk_at "r";refine uR A3 (by lia) (by lia) fun ds h4 dl dk dnd A4=>?_;walk_at "r";refine uR A4 (by lia) (by lia) fun ps h5 pl pk pnd A5=>?_;walk_at "r";refine dQ ?_;walk_at "r";refine ⟨_,_,rfl,?_⟩;obtain ⟨⟨ys,h6⟩,e6,a6,δ6,_,A6⟩:=pG (ws:=[]) (g:=gN 0) (e:=eFn aH (ab (ae 1) (ab (eK (.lv [.int 0,.int 1,.int 1,.int 2,.int 2,.int 3])) aj))) (fun _ y=>∃i,y=.int i∧0≤i∧i≤3)
  (xs:=ds.map D.str) (δ:=[none,some (.ob s)]) (h:=h5) (fun i δ h'=>(∃d0,δ=[d0,some (.ob s)])∧Sb s c cs h0 (R+18-i) h') ⟨⟨_,rfl⟩,A5⟩ (fun _ _ _ _ _=>rfl) (by
   rintro i x δ h' hx ⟨⟨d0,rfl⟩,A6⟩;have hi:i < 6:=by
    have:=(List.getElem?_eq_some_iff.mp hx).1;rw [List.length_map] at this
    lia
   walk_at "r";exact k5 (R:=R+18-(i+1)) (is:=[0,1,1,2,2,3]) (fun i=>0≤i∧i≤3) (by decide) (A6.le (by lia)) fun i h7 hi _ A7=>⟨⟨i,rfl,hi⟩,⟨_,rfl⟩,A7⟩)
 have l6:=a6.length;obtain ⟨many,rfl,hmany⟩:=uC (P:=fun i=>0≤i∧i≤3) fun y hy=>(let ⟨_,_,r⟩:=a6.right y hy;r);dsimp only at l6;rw [List.length_map,List.length_map] at l6;rw [List.length_map] at A6;refine rv e6 ⟨by dsimp only;rw [List.length_map,show sizeLine=16777216 from rfl];lia,?_⟩;walk_at "r";refine dQ ?_;walk_at "r";refine ⟨_,_,rfl,?_⟩;obtain ⟨⟨ys,h7⟩,e7,a7,δ7,_,A7⟩:=pG (ws:=[]) (g:=gN 0) (e:=eFn aM (ab (ae 2) (ab (eFn bE (ab (ae 1) aj)) aj))) (fun _ y=>∃i,y=.int i∧0≤i∧i < ns.length)
  (xs:=ds.map D.str) (δ:=[none,some (.lv (ns.map D.str)),some (.ob s)]) (h:=h6) (fun i δ h'=>(∃d0,δ=[d0,some (.lv (ns.map D.str)),some (.ob s)])∧Sb s c cs h0 (R+12-i) h') ⟨⟨_,rfl⟩,A6.le (by lia)⟩ (fun _ _ _ _ _=>rfl) (by
   rintro i x δ h' hx ⟨⟨d0,rfl⟩,A7⟩;have hi:i < 6:=by
    have:=(List.getElem?_eq_some_iff.mp hx).1;rw [List.length_map] at this
    lia
   walk_at "r";rw [List.length_map];exact dz (R:=R+12-(i+1)) (A7.le (by lia)) (by lia) (by lia) fun r h8 r0 r1 A8=>⟨⟨r,rfl,r0,r1⟩,⟨_,rfl⟩,A8⟩)
 have l7:=a7.length;obtain ⟨fls,rfl,hfls⟩:=uC (P:=fun i=>0≤i∧i < ns.length) fun y hy=>(let ⟨_,_,r⟩:=a7.right y hy;r);dsimp only at l7;rw [List.length_map,List.length_map] at l7;rw [List.length_map] at A7;refine rv e7 ⟨by dsimp only;rw [List.length_map,show sizeLine=16777216 from rfl];lia,?_⟩;walk_at "r";refine rv (a:=(.lv ((kU fls).map D.int),h7)) (by
  show (mJ (fls.map D.int)).bind _=_;rw [oe];show (if fls.length < 64 then _ else _)=_;rw [if_pos (by lia)]) ?_
 walk_at "r";refine dQ ?_;walk_at "r";refine ⟨_,_,rfl,?_⟩;have e8:cp [] (gN 0) cg (kR (ae 1) pNo (pAt (ae 0))) (many.map D.int) [none,some (.lv (ps.map D.str))] h7=some ((many.map D.int).filterMap fun d=>match d with | .int k=>some (.lv ((ps.take k.toNat).map D.str)) | _=>none,h7):=
  t5 rfl _ (fun δ=>∃d0,δ=[d0,some (.lv (ps.map D.str))]) ⟨_,rfl⟩ (by
   rintro x hx δ ⟨d0,rfl⟩;obtain ⟨k,hk,rfl⟩:=List.mem_map.mp hx;refine rv rfl ⟨rfl,rv rfl ⟨rfl,⟨_,rfl⟩,fun _=>⟨_,rfl,?_⟩,fun z=>(nomatch z)⟩⟩;obtain ⟨n,rfl⟩:=Int.eq_ofNat_of_zero_le (hmany k hk).1;walk_at "r";refine ⟨_,rfl,rv (zN D.str ps n _) ?_⟩;rfl)
 have e9:((many.map D.int).filterMap fun d=>match d with | .int k=>some (D.lv ((ps.take k.toNat).map D.str)) | _=>none)=(many.map fun k=>ps.take k.toNat).map fun ps=>D.lv (ps.map D.str):=by
  rw [List.filterMap_map,List.map_map];exact congrFun (List.filterMap_eq_map (f:=(fun ps:List Str=>D.lv (ps.map D.str))∘fun k:Int=>ps.take k.toNat)) _
 rw [e9] at e8;refine rv e8 ⟨by dsimp only;rw [List.length_map,List.length_map,show sizeLine=16777216 from rfl];lia,?_⟩;walk_at "r";have hfin:∀(a b c d e f:D),Rn (xR (bL (eK (.str "names")) (ae 3) (bL (eK (.str "deeds")) (ae 4) (bL (eK (.str "params")) (ae 5) (bL (eK (.str "floors")) (ae 7) (bL (eK (.str "left")) (ae 1) (bL (eK (.str "odd")) (ae 2) zp)))))) [some (.ob s),some (.int most),some (.int odd),some a,some b,some c,some d,some e] h7) fun p=>p=(.ob h7.length,h7++[.dct [(.inr (Str.ofString "names"),a),(.inr (Str.ofString "deeds"),b),(.inr (Str.ofString "params"),c),(.inr (Str.ofString "floors"),e),(.inr (Str.ofString "left"),.int most),(.inr (Str.ofString "odd"),.int odd)]]):=fun a b c d e f=>⟨_,rfl,rfl⟩;refine (hfin _ _ _ _ _ .non).imp ?_;rintro _ rfl;walk_at "r";refine k ⟨ns,ds,many.map fun k=>ps.take k.toNat⟩ (kU fls) h7 ⟨?_,?_,?_,?_,?_,?_,?_,?_,o0,o1,nk,dk,?_,nnd,dnd,?_⟩ (A7.le (by lia))
 ·show 1≤ns.length;lia
 ·show ns.length≤6;lia
 ·show 1≤ds.length;lia
 ·show ds.length≤6;lia
 ·show (many.map _).length=ds.length;rw [List.length_map];lia
 ·intro q hq;obtain ⟨k,hk,rfl⟩:=List.mem_map.mp hq;rw [List.length_take];have:=pl
  lia
 ·show (kU fls).length=ds.length;rw [(iE fls).length_eq];lia
 ·intro f hf;exact hfls f ((iE fls).mem_iff.mp hf)
 ·intro q hq w hw;obtain ⟨k,hk,rfl⟩:=List.mem_map.mp hq;exact pk w (List.mem_of_mem_take hw)
 ·intro q hq;obtain ⟨k,hk,rfl⟩:=List.mem_map.mp hq;exact pnd.sublist (List.take_sublist _ _)
end Mi
namespace Pg
open PySem Sm L2
abbrev oy:=Str×List Str×List Row
structure Prog where
 names:List Str
 deeds:List oy
noncomputable def eY (d:oy):D:=.tup [.str d.1,.tup (d.2.1.map D.str),.tup (bA d.2.2)]
noncomputable def eX (P:Prog):D:=.tup [.tup (P.names.map D.str),.tup (P.deeds.map eY)]
structure OkP (W:Wd) (most:Nat) (P:Prog):Prop where
 nm:P.names=cx W.names
 dl:P.deeds.length=W.deeds.length
 dd:∀(j:Nat) (d:oy),P.deeds[j]?=some d->W.deeds[j]?=some d.1∧W.params[j]?=some d.2.1∧bX W d.2.1 1 d.2.2∧d.2.2.length≤12
 ct:(P.deeds.map fun d=>bZ d.2.2).sum≤most
end Pg
namespace Mi
open PySem Sm L2 Pg
theorem uM (n:Nat) (d:oy):clD n (eY d)=true:=by
 show (true&&(clL n (d.2.1.map D.str)&&(clL n (bA d.2.2)&&true)))=true;rw [ir,eS];rfl
theorem El (n:Nat) (P:Prog):clD n (eX P)=true:=by
 show (clL n (P.names.map D.str)&&(clL n (P.deeds.map eY)&&true))=true;rw [ir,i9 n _ (uM n)];rfl
theorem Eh {α:Type} {f:α->D} {xs:List α} {i:Nat} {x:D} (h:(k3 0 (xs.map f))[i]?=some x):∃a,xs[i]?=some a∧x=.tup [.int (i:Int),f a]:=by
 rw [om,List.getElem?_map] at h;cases e:xs[i]? with
 | none=>rw [e] at h;cases h
 | some a=>
  rw [e] at h;cases h;exact ⟨a,rfl,by rw [Nat.zero_add]⟩
theorem Wb.out {E:En} {h h1:MH} {R l:Nat} {o:MO} (C:Cl h) (B:Sb E.s E.c E.cs h R' h0) (e:E.wd=h0.length) (A:Wb E (h0++[o]) R l h1):∃hb o',h1=hb++[o']∧Sb E.s E.c E.cs h R hb∧Cl hb:=by
 have b:=A.b;obtain ⟨hs,hc⟩:=B.S.lt;have hl:h1.length=h0.length+1:=by rw [b.1];simp
 have hx:h0.length < h1.length:=by lia
 have ee:h1=h1.take h0.length++[h1[h0.length]'hx]:=by rw [List.take_append_getElem,List.take_of_length_le (by lia)]
 have bb:But E.s h0 (h1.take h0.length):=⟨by rw [List.length_take];lia,fun k hk=>by
  by_cases z:k < h0.length
  ·rw [List.getElem?_take_of_lt z,b.2 k hk (by lia),List.getElem?_append_left z]
  ·rw [List.getElem?_eq_none (by rw [List.length_take];lia),List.getElem?_eq_none (by lia)]⟩
 have S:=A.S;rw [ee] at S;have S':=S.cut (by rw [bb.1];exact hs) (by rw [bb.1];exact hc);exact ⟨_,_,ee,⟨S',B.b.trans bb⟩,C.but S' (B.b.trans bb)⟩
theorem z9 {h h0:MH} {s c R most:Nat} {cs:List Int} {odd:Int} {Q:D×MH->Prop} (A:Sb s c cs h0 (R+100*most+120) h) (C:Cl h) (o0:0≤odd) (o1:odd≤1000) (k:∀(W:Wd) (fl:List Int) (P:Prog) (h1:MH),WdOk W fl odd->OkP W most P->Sb s c cs h0 R h1->Cl h1->Q (eX P,h1)):Rn (eU [.ob s,.int most,.int odd] h) Q:=by
 refine yo ?_;walk_at "r";refine Ep (R:=R+100*most+40) A.S.sb o0 o1 fun W fl hb ok A1=>?_;obtain ⟨lt1,lt2⟩:=A1.S.lt;have d2:=ok.d2;have n1:=ok.n1;have n2:=ok.n2;have hlen:=A1.b.1;let E:En:=⟨s,c,hb.length,cs,W,fl,odd,ok,by lia,by lia⟩;have B0:Wb E (hb++[wdO W fl most odd]) (R+100*most+40) most (hb++[wdO W fl most odd]):=⟨A1.S.more _,qD rfl,(C.but A1.S A1.b).snoc (xY _ _ _ _ _),gA.refl _ _ _⟩;walk_at "r";refine Di ?_;walk_at "r";refine rv (eA (B0.push (o:=.lst []) rfl).w) ?_;walk_at "r";refine ⟨_,_,_,rfl,rfl,?_⟩;have hobl:(hb++[wdO W fl most odd]).length=h.length+1:=by simp [hlen]
 rw [hobl];refine dR (fun i δ h'=>∃(dds:List oy) (l':Nat) (d5 d6 d7:Option D) (hw:MH),δ=[some (.ob s),some (.int most),some (.int odd),some (.ob hb.length),some (.ob (h.length+1)),d5,d6,d7]∧h'=hw++[.lst (dds.map eY)]∧hw.length=h.length+1∧dds.length=i∧(∀(j:Nat) (d:oy),dds[j]?=some d->W.deeds[j]?=some d.1∧W.params[j]?=some d.2.1∧bX W d.2.1 1 d.2.2∧d.2.2.length≤12)∧l'+(dds.map fun d=>bZ d.2.2).sum=most∧Wb E (hb++[wdO W fl most odd]) (R+100*l'+(40-5*i)) l' hw)
  ⟨[],most,_,_,_,_,rfl,rfl,hobl,rfl,fun _ _ z=>by simp at z,by simp,B0⟩ (fun _ _ _ _ _=>rfl) ?_ ?_
 ·rintro i x δ h' hx ⟨dds,l',d5,d6,d7,hw,rfl,rfl,hwl,hdl,hdd,hc,A6⟩;obtain ⟨dn,hdn,rfl⟩:=Eh hx;have hi:i < W.deeds.length:=(List.getElem?_eq_some_iff.mp hdn).1;obtain ⟨ps,hps⟩:∃f,W.params[i]?=some f:=⟨_,List.getElem?_eq_getElem (by rw [ok.pl];exact hi)⟩;walk_at "r";refine Aj (E:=E) (R:=R+100*l'+(39-5*i)) (is:=[1,2,3,4,12]) (fun i=>1≤i∧i≤12) (by decide) ((A6.push (o:=.lst (dds.map eY)) (i9 _ _ (uM _) dds)).le (by lia)) fun mo h7 hmo A7=>?_;walk_at "r";refine (ring (E:=E) 20).1 (R:=R+(40-5*(i+1))) (d:=1) (held:=[]) (A7.le (by lia)) ⟨hps,hi,by decide,show (-1:Int)≤W.names.length by lia,fun _ z=>(nomatch z),by simp⟩ (by decide) (by decide) hmo.1 hmo.2 fun t l8 h8 okl hll cr A8=>?_;have w8:=A8.w;obtain ⟨hw8,rfl,e8,A8'⟩:=A6.pop A8;have hl8:=e8.trans hwl;walk_at "r";refine Ba ?_;walk_at "r";refine ⟨mI (qD hl8),?_⟩;walk_at "r";refine rv (de w8) ?_;walk_at "r";refine rv (cH hps) ?_;walk_at "r";refine rv (a:=(.tup (ps.map D.str),_)) rfl ?_;walk_at "r";refine rv (iY (qD hl8) (by rw [List.length_map,show sizeLine=16777216 from rfl];lia)) ?_;rw [Fe hl8];walk_at "r";have hcn:((dds++[(dn,ps,t)]).map fun d:oy=>bZ d.2.2).sum=(dds.map fun d:oy=>bZ d.2.2).sum+bZ t:=by
   rw [List.map_append,List.sum_append];simp
  refine ⟨dds++[(dn,ps,t)],l8,_,_,_,hw8,rfl,by rw [List.map_append];rfl,hl8,by simp [hdl],?_,by rw [hcn];lia,A8'.le (by lia)⟩;intro j d hj
  by_cases z:j < dds.length
  ·rw [List.getElem?_append_left z] at hj;exact hdd j d hj
  ·rw [List.getElem?_append_right (by lia)] at hj;have hj0:j-dds.length=0:=by
    have:=(List.getElem?_eq_some_iff.mp hj).1;simp at this
    lia
   rw [hj0] at hj;cases hj;obtain rfl:j=i:=by lia
   exact ⟨hdn,hps,okl,hll⟩
 ·rintro δ h' ⟨dds,l',d5,d6,d7,hw,rfl,rfl,hwl,hdl,hdd,hc,A6⟩;rw [i6,List.length_map] at hdl;have w6:=(A6.push (o:=.lst (dds.map eY)) (i9 _ _ (uM _) dds)).w;have hat:(hw++[MO.lst (dds.map eY)])[h.length+1]?=some (.lst (dds.map eY)):=qD hwl;obtain ⟨hb',o',rfl,B9,C9⟩:=Wb.out (E:=E) C A1 rfl A6;walk_at "r";refine rv (eu w6) ?_;walk_at "r";refine rv (a:=(.lv ((cx W.names).map D.str),_)) (by
   show (kT (W.names.map D.str)).bind _=_;rw [kj];show (if W.names.length < 64 then _ else _)=_;rw [if_pos (by lia)]) ?_
  walk_at "r";refine rv (a:=(.tup ((cx W.names).map D.str),_)) rfl ?_;walk_at "r";refine rv (a:=(.tup (dds.map eY),_)) (by simp only [eR,ej,hat,Option.map_some];rfl) ?_;walk_at "r";rw [List.append_assoc];exact rv (qx B9.b.1 C9 (fun n z=>(nomatch z)) (El _ ⟨cx W.names,dds⟩)) (k W fl ⟨cx W.names,dds⟩ hb' ok ⟨rfl,hdl,hdd,by show _≤_;dsimp only;lia⟩ ⟨B9.S.le (by lia),A.b.trans B9.b⟩ C9)
end Mi
namespace Mi
open PySem L2 Sm PySem.Spec PyProof.Rows
mutual
noncomputable def tmN (m:Nat):D->Bool
 | .non=>true
 | .bl _=>true
 | .int _=>true
 | .str s=>decide (s.length≤1000)&&s.cps.all (· < 128)
 | .tup xs=>decide (xs.length≤m)&&tmL m xs
 | .lv xs=>decide (xs.length≤m)&&tmL m xs
 | .dv kvs=>kvs.isEmpty
 | _=>false
noncomputable def tmL (m:Nat):List D->Bool
 | []=>true
 | x::r=>tmN m x&&tmL m r
end
abbrev tmD:D->Bool:=tmN 1000
theorem lY {m:Nat}:∀{xs:List D},tmL m xs=true↔∀x∈xs,tmN m x=true
 | []=>by simp [tmL]
 | x::r=>by simp [tmL,lY (xs:=r)]
theorem aU {m:Nat} {xs:List D} (t:tmN m (.tup xs)=true):xs.length≤m∧∀x∈xs,tmN m x=true:=by
 rw [tmN,Bool.and_eq_true,lY] at t;exact ⟨of_decide_eq_true t.1,t.2⟩
theorem wN {m:Nat} {s:Str} (t:tmN m (.str s)=true):s.length≤1000∧s.cps.all (· < 128)=true:=by
 rw [tmN,Bool.and_eq_true] at t;exact ⟨of_decide_eq_true t.1,t.2⟩
noncomputable def BI:D->Bool
 | .tup _=>true
 | _=>false
noncomputable def GQ:D->Bool
 | .str _=>true
 | _=>false
noncomputable def EO:D->Bool
 | .int _=>true
 | _=>false
noncomputable def D2:D->Bool
 | .bl _=>true
 | _=>false
theorem bJ {d:D} {h:MH} (t:tmD d=true):cN [d,.ty "tuple"] h=some (.bl (BI d),h):=by cases d <;> first | rfl | cases t
theorem gI {d:D} {h:MH} (t:tmD d=true):cN [d,.ty "str"] h=some (.bl (GQ d),h):=by cases d <;> first | rfl | cases t
theorem BH {d:D} {h:MH} (t:tmD d=true):cN [d,.ty "bool"] h=some (.bl (D2 d),h):=by cases d <;> first | rfl | cases t
theorem v8 {d:D} {h:MH} (t:tmD d=true):jf [d] h=some (.bl (EO d),h):=by cases d <;> first | rfl | cases t
noncomputable def jh (d:D) (n:Int):Bool:=match d with
 | .tup xs=>(xs.length:Int)==n
 | _=>false
theorem bQ {d:D} {n:Int} {h:MH} (t:tmD d=true):cf [d,.int n] h=some (.bl (jh d n),h):=by cases d <;> first | rfl | cases t
noncomputable def zA (c:Nat):Bool:=decide (97≤c)&&decide (c≤122)
theorem Gy:∀c < 128,(!(Builtin.Str.occurrences (Str.ofString "abcdefghijklmnopqrstuvwxyz") ⟨#[c]⟩ 0 (Str.ofString "abcdefghijklmnopqrstuvwxyz").length 1).isEmpty)=zA c:=by decide+kernel
noncomputable def gB (s:Str):Bool:=decide (1≤(s.length:Int))&&decide ((s.length:Int)≤8)&&s.cps.toList.all zA
noncomputable def et:D->Bool
 | .str s=>gB s
 | _=>false
theorem wu {e:EM} {h:MH} {t:DS} (f:Nat->D):∀(cs:List Nat) (o:Option D),(∀c∈cs,e (some (.str ⟨#[c]⟩)::t) h=some (f c,h))->cp [] (gN 0) cg e (cs.map fun c=>D.str ⟨#[c]⟩) (o::t) h=some (cs.map f,h)
 | [],o,_=>rfl
 | x::r,o,hx=>by
  have e1:=hx x List.mem_cons_self;have e2:=wu f r (some (.str ⟨#[x]⟩)) fun y hy=>hx y (List.mem_cons_of_mem _ hy);show ((e (some (.str ⟨#[x]⟩)::t) h).bind fun y=>(cp [] (gN 0) cg e (r.map fun c=>D.str ⟨#[c]⟩) (some (.str ⟨#[x]⟩)::t) y.2).map fun z=>(y.1::z.1,z.2))=_;rw [e1];show ((cp [] (gN 0) cg e (r.map fun c=>D.str ⟨#[c]⟩) (some (.str ⟨#[x]⟩)::t) h).map fun z=>(f x::z.1,z.2))=_;rw [e2];rfl
theorem Ex {e:EM} {ei:EM} {δ t:DS} {o:Option D} {h:MH} {caps:List (Option Nat)} {s:Str} (p:Nat->Bool) (hi:ei δ h=some (.str s,h)) (hs:tmD (.str s)=true) (hc:ix caps δ=o::t) (he:∀c < 128,e (some (.str ⟨#[c]⟩)::t) h=some (.bl (p c),h)):
  eFn j5 (ab (eLv (bM caps (wa ei) (gN 0) cg e)) aj) δ h=some (.bl (s.cps.toList.all p),h):=by
 obtain ⟨hl,ha⟩:=wN hs;have hlow:∀d∈s.cps.toList,d < 128:=fun d hd=>by
  rw [Array.all_eq_true_iff_forall_mem] at ha
  simpa using ha d (Array.mem_toList_iff.mp hd)
 have e1:wa ei δ h=some (s.cps.toList.map fun c=>D.str ⟨#[c]⟩,[],h):=by
  unfold wa;rw [hi];show (if s.cps.all (· < 128)=true then _ else _)=_;rw [if_pos ha]
 have e2:bM caps (wa ei) (gN 0) cg e δ h=some (s.cps.toList.map fun c=>D.bl (p c),h):=by
  unfold bM;rw [e1];show ((cp [] (gN 0) cg e (s.cps.toList.map fun c=>D.str ⟨#[c]⟩) (ix caps δ) h).bind _)=_;rw [hc,wu (fun c=>D.bl (p c)) s.cps.toList o fun c hc=>he c (hlow c hc)];show (if (s.cps.toList.map fun c=>D.bl (p c)).length≤sizeLine then _ else _)=_;rw [if_pos (by rw [List.length_map,Array.length_toList,show sizeLine=16777216 from rfl];have:s.cps.size=s.length:=rfl;lia)]
 unfold eFn ab eLv aj;rw [e2];exact yH p _ h
theorem va {F:Fn} {e:EM} (hF:F=mkF 1 (ax (sIf (Sm.tOr (Sm.bz (bK (eFn cN (ab (ae 0) (ab (eK (.ty "str")) aj))))) (Sm.bz (aA (du fLe fLe (eK (.int 1)) (eFn bE (ab (ae 0) aj)) (eK (.int 8)))))) (aF (eK (.bl false))) ba) (aF (eFn j5 (ab (eLv (bM [none] (wa (ae 0)) (gN 0) Sm.cg e)) aj)))))
  (he:∀c < 128,∀h,e [some (.str ⟨#[c]⟩)] h=some (.bl (zA c),h)) {d:D} {h:MH} (t:tmD d=true):F [d] h=some (.bl (et d),h):=by
 subst hF;cases d with
 | str s=>
  obtain ⟨hl,ha⟩:=wN t;refine cm (bt ?_);walk_at "r";refine rv (gI t) ⟨_,rfl,fun z=>(nomatch z),fun _=>fk (lE (rv (iu (n:=s.length) rfl ?_ rfl) ⟨_,rfl,fun z=>?_,fun z=>?_⟩))⟩
  ·show bE [.str s] h=_;exact wj (by lia)
  ·have z:(decide (1≤(s.length:Int))&&decide ((s.length:Int)≤8))=false:=(Bool.not_eq_true' _).mp z;walk_at "r";show _=(D.bl (gB s),h);unfold gB;rw [z];rfl
  ·have z:(decide (1≤(s.length:Int))&&decide ((s.length:Int)≤8))=true:=(Bool.not_eq_false' _).mp z;refine cY (ie (kX (rv (Ex (t:=[]) zA rfl t rfl fun c hc=>he c hc h) ?_)));walk_at "r";show _=(D.bl (gB s),h);unfold gB;rw [z];rfl
 | ty _=>cases t
 | ro _=>cases t
 | ob _=>cases t
 | _=>rfl
theorem lQ {d:D} {h:MH} (t:tmD d=true):f6 [d] h=some (.bl (et d),h):=va rfl (fun c hc h=>by
 show some (D.bl (!(Builtin.Str.occurrences _ _ _ _ _).isEmpty),h)=_;rw [Gy c hc]) t
end Mi
namespace Mi
open PySem L2 Sm PySem.Spec PyProof.Rows Pg
theorem ij:∀ws:List Str,pyL (ws.map D.str)=some (ws.map PyData.str)
 | []=>rfl
 | c::r=>by simp only [List.map_cons,pyL,pyD,ij r,Option.bind_some,Option.map_some]
theorem fw:∀ws:List Str,PyData.depthAll (ws.map PyData.str)=0
 | []=>rfl
 | c::r=>by simp only [List.map_cons,PyData.depthAll,fw r,PyData.depth];rfl
theorem wF (w:Str):∀ws:List Str,((ws.map PyData.str).any fun b=>PyData.eqv b (.str w))=decide (w∈ws)
 | []=>by simp
 | c::r=>by
  rw [List.map_cons,List.any_cons,wF w r,show PyData.eqv (.str c) (.str w)=(c==w) by simp [PyData.eqv]]
  by_cases z:c=w
  ·subst z;simp
  ·have:(c==w)=false:=by simp [z]
   rw [this,Bool.false_or];simp [Ne.symm z]
theorem kC (w:Str) (ps:List Str) (h:MH):fIn (.str w) (.tup (ps.map D.str)) h=some (.bl (decide (w∈ps)),h):=by
 have e2:inD (.str w) (.tup (ps.map D.str)) h=some (decide (w∈ps)):=by
  show ((pyL (ps.map D.str)).bind fun bs=>if (PyData.str w).depth≤60∧PyData.depthAll bs≤60 then some (bs.any fun b=>PyData.eqv b (.str w)) else none)=_;rw [ij];show (if (PyData.str w).depth≤60∧PyData.depthAll (ps.map PyData.str)≤60 then some ((ps.map PyData.str).any fun b=>PyData.eqv b (.str w)) else none)=_;rw [if_pos ⟨by simp [PyData.depth],by rw [fw];lia⟩,wF]
 unfold fIn;rw [e2];rfl
noncomputable def eB (ps:List Str) (w:Str) (f:Int):Bool:=(w==Str.ofString ""||decide (w∈ps))&&(decide (-99≤f)&&decide (f≤99))
noncomputable def As (ps:List Str) (a b:D):Bool:=match a,b with
 | .str w,.int f=>eB ps w f
 | _,_=>false
noncomputable def cE (ps:List Str):D->Bool
 | .tup [a,b]=>As ps a b
 | _=>false
theorem zB (a b c:α) (r:List α) (n:Nat) (hn:n≤2):(((a::b::c::r).length:Int)==(n:Int))=false:=by
 simp only [List.length_cons];rw [beq_eq_false_iff_ne]
 lia
theorem i0:∀{d:D},tmD d=true->fx [d,.tup (ps.map D.str)] h=some (.bl (cE ps d),h)
 | .non,_=>rfl
 | .bl _,_=>rfl
 | .int _,_=>rfl
 | .str _,_=>rfl
 | .lv _,_=>rfl
 | .dv _,_=>rfl
 | .tup [],_=>rfl
 | .tup [_],_=>rfl
 | .tup (a::b::c::r),t=>by
  refine cm (bt ?_);walk_at "r";refine rv (bQ t) ⟨_,rfl,fun _=>?_,fun z=>?_⟩
  ·walk_at "r";rfl
  ·have:jh (.tup (a::b::c::r)) 2=false:=zB a b c r 2 (Nat.le_refl _);rw [this] at z;cases z
 | .tup [a,b],t=>by
  have ta:=(aU t).2 a (by simp);have tb:=(aU t).2 b (by simp);cases a <;> first | (cases ta;done) | skip
  case str w=>
   cases b <;> first | (cases tb;done) | skip
   case int f=>
    refine cm (bt ?_);walk_at "r";refine rv (bQ t) ⟨_,rfl,fun z=>(nomatch z),fun _=>?_⟩;walk_at "r";refine rv (gI ta) ⟨_,rfl,fun z=>(nomatch z),fun _=>?_⟩;walk_at "r";refine rv (v8 tb) ⟨_,rfl,fun z=>(nomatch z),fun _=>?_⟩;walk_at "r";have fin:Rn (du fLe fLe (eUn pQ (eK (.int 99))) (ae 3) (eK (.int 99)) [some (.tup [.str w,.int f]),some (.tup (ps.map D.str)),some (.str w),some (.int f)] h) fun p=>p=(.bl (decide (-99≤f)&&decide (f≤99)),h):=by
     exact ⟨_,iu (a:=-99) (n:=f) (b:=99) rfl rfl rfl,rfl⟩
    refine ⟨_,rfl,fun z=>⟨_,rfl,fun _=>?_,fun z=>(nomatch z)⟩,fun z=>?_⟩
    ·refine fin.imp ?_;rintro _ rfl;walk_at "r";show _=(D.bl (eB ps w f),h);unfold eB;rw [show (w==Str.ofString "")=true from z];rfl
    ·walk_at "r";refine rv (kC w ps h) ⟨_,rfl,fun y=>?_,fun y=>?_⟩
     ·refine fin.imp ?_;rintro _ rfl;walk_at "r";show _=(D.bl (eB ps w f),h);unfold eB;rw [show (w==Str.ofString "")=false from z,y];rfl
     ·walk_at "r";show _=(D.bl (eB ps w f),h);unfold eB;rw [show (w==Str.ofString "")=false from z,y];rfl
   all_goals rfl
  all_goals rfl
noncomputable def BD (ns ps:List Str) (a d:D):Bool:=match a with
 | .str w=>decide (w∈ns)&&cE ps d
 | _=>false
noncomputable def gr (ns ps:List Str):D->Bool
 | .tup [a,d]=>BD ns ps a d
 | _=>false
theorem lR:∀{d:D},tmD d=true->iB [d,.tup (ns.map D.str),.tup (ps.map D.str)] h=some (.bl (gr ns ps d),h)
 | .non,_=>rfl
 | .bl _,_=>rfl
 | .int _,_=>rfl
 | .str _,_=>rfl
 | .lv _,_=>rfl
 | .dv _,_=>rfl
 | .tup [],_=>rfl
 | .tup [_],_=>rfl
 | .tup (a::b::c::r),t=>by
  refine cm (bt ?_);walk_at "r";refine rv (bQ t) ⟨_,rfl,fun _=>?_,fun z=>?_⟩
  ·walk_at "r";rfl
  ·have:jh (.tup (a::b::c::r)) 2=false:=zB a b c r 2 (Nat.le_refl _);rw [this] at z;cases z
 | .tup [a,b],t=>by
  have ta:=(aU t).2 a (by simp);have tb:=(aU t).2 b (by simp);cases a <;> first | (cases ta;done) | skip
  case str w=>
   refine cm (bt ?_);walk_at "r";refine rv (bQ t) ⟨_,rfl,fun z=>(nomatch z),fun _=>?_⟩;walk_at "r";refine rv (gI ta) ⟨_,rfl,fun _=>?_,fun z=>(nomatch z)⟩;walk_at "r";refine rv (kC w ns h) ⟨_,rfl,fun y=>?_,fun y=>?_⟩
   ·walk_at "r";refine rv (i0 tb) ?_;walk_at "r";show _=(D.bl (decide (w∈ns)&&cE ps b),h);rw [y];rfl
   ·walk_at "r";show _=(D.bl (decide (w∈ns)&&cE ps b),h);rw [y];rfl
  all_goals rfl
noncomputable def k6 (xs:List D):Bool:=fC (.tup xs)==some xs.length
theorem ki (hi:ei δ h=some (.tup xs,h)) (hs:(fC (.tup xs)).isSome=true):eOp bW (i7 ei) (eFn bE (ab ei aj)) δ h=some (.bl (k6 xs),h):=by
 obtain ⟨n,hn⟩:=Option.isSome_iff_exists.mp hs;unfold eOp i7 eFn ab aj;rw [hi];dsimp only [Option.bind_some];rw [hn];dsimp only [Option.map_some,Option.bind_some];rw [hi];show bW (.int n) (.int xs.length) h=_;rw [BW];unfold k6;rw [hn];congr 3
 by_cases z:n=xs.length
 ·subst z;simp
 ·have:¬(n:Int)=xs.length:=by lia
  rw [beq_eq_false_iff_ne.mpr this];symm;rw [beq_eq_false_iff_ne];intro y;cases y;exact z rfl
theorem lN:∀{xs:List D},xs.all et=true->∃ws:List Str,xs=ws.map D.str∧∀w∈ws,gB w=true
 | [],_=>⟨[],rfl,fun _ z=>(nomatch z)⟩
 | x::r,h=>by
  rw [List.all_cons,Bool.and_eq_true] at h;obtain ⟨ws,rfl,hw⟩:=lN h.2;cases x <;> first | (cases h.1;done) | skip
  case str w=>exact ⟨w::ws,rfl,fun v hv=>by
   rcases List.mem_cons.mp hv with rfl | hv
   ·exact h.1
   ·exact hw v hv⟩
theorem lO:∀ws:List Str,qy (ws.map D.str)=some (ws.map .inr)
 | []=>rfl
 | w::r=>by show ((qy (r.map D.str)).map fun ks=>Sum.inr w::ks)=_;rw [lO r];rfl
theorem qv (h:xs.all et=true) (hl:xs.length≤1000):(fC (.tup xs)).isSome=true:=by
 obtain ⟨ws,rfl,_⟩:=lN h;unfold fC;dsimp only;rw [lO];dsimp only;rw [if_pos (by rw [List.length_map];rw [List.length_map] at hl;exact hl)];rfl
noncomputable def bB (d:D) (least most:Int):Bool:=match d with
 | .tup xs=>(decide (least≤(xs.length:Int))&&decide ((xs.length:Int)≤most))&&(xs.all et&&k6 xs)
 | _=>false
theorem fP (t:tmD d=true):bN [d,.int least,.int most] h=some (.bl (bB d least most),h):=by
 cases d <;> first | rfl | (cases t;done) | skip
 case tup xs=>
  obtain ⟨hl,ht⟩:=aU t;refine cm (bt ?_);walk_at "r";refine rv (bJ t) ⟨_,rfl,fun z=>(nomatch z),fun _=>?_⟩;refine fk (lE (rv (iu (a:=least) (n:=xs.length) (b:=most) rfl rfl rfl) ⟨_,rfl,fun z=>?_,fun z=>?_⟩))
  ·have z:(decide (least≤(xs.length:Int))&&decide ((xs.length:Int)≤most))=false:=(Bool.not_eq_true' _).mp z;walk_at "r";show _=(D.bl (_&&_),h);rw [z];rfl
  ·have z:(decide (least≤(xs.length:Int))&&decide ((xs.length:Int)≤most))=true:=(Bool.not_eq_false' _).mp z;refine cY (ie (kX (yq (rv (fE (t:=[]) et rfl rfl rfl (by lia) fun x hx=>lQ (ht x hx)) ⟨_,rfl,fun y=>rv (ki rfl (qv y hl)) ?_,fun y=>?_⟩))))
   ·walk_at "r";show _=(D.bl (_&&_),h);rw [z,y];rfl
   ·walk_at "r";show _=(D.bl (_&&_),h);rw [z,y];rfl
inductive Rw where
 | say (a:D) | call (a b:D) | within (a b:D) | all (a b:D) | ask (a b c:D) | by_ (a b c d e:D) | either (a b:D) | again (a:D)
noncomputable def Rw.toD:Rw->D
 | .say a=>.tup [.str "say",a]
 | .call a b=>.tup [.str "call",a,b]
 | .within a b=>.tup [.str "within",a,b]
 | .all a b=>.tup [.str "all",a,b]
 | .ask a b c=>.tup [.str "ask",a,b,c]
 | .by_ a b c d e=>.tup [.str "by",a,b,c,d,e]
 | .either a b=>.tup [.str "either",a,b]
 | .again a=>.tup [.str "again",a]
noncomputable def Rw.bY:Rw->List D
 | .say _=>[]
 | .call _ _=>[]
 | .within _ b=>[b]
 | .all _ b=>[b]
 | .ask _ b c=>[b,c]
 | .by_ _ _ c d e=>[c,d,e]
 | .either a b=>[a,b]
 | .again a=>[a]
noncomputable def rwS (s:Str) (xs:List D):Option Rw:=
 if s=Str.ofString "say" then (match xs with | [a]=>some (.say a) | _=>none)
 else if s=Str.ofString "call" then (match xs with | [a,b]=>some (.call a b) | _=>none)
 else if s=Str.ofString "within" then (match xs with | [a,b]=>some (.within a b) | _=>none)
 else if s=Str.ofString "all" then (match xs with | [a,b]=>some (.all a b) | _=>none)
 else if s=Str.ofString "ask" then (match xs with | [a,b,c]=>some (.ask a b c) | _=>none)
 else if s=Str.ofString "by" then (match xs with | [a,b,c,d,e]=>some (.by_ a b c d e) | _=>none)
 else if s=Str.ofString "either" then (match xs with | [a,b]=>some (.either a b) | _=>none)
 else if s=Str.ofString "again" then (match xs with | [a]=>some (.again a) | _=>none)
 else none
noncomputable def EE (a:D) (xs:List D):Option Rw:=match a with
 | .str s=>rwS s xs
 | _=>none
noncomputable def lq:D->Option Rw
 | .tup (a::xs)=>EE a xs
 | _=>none
theorem yl (h:lq r=some w):r=w.toD:=by
 unfold lq at h
 split at h
 ·next a xs=>
  unfold EE at h
  split at h
  ·next s=>
   unfold rwS at h
   repeat' split at h
   all_goals first | (cases h;done) | (cases h;subst_vars;rfl)
  ·cases h
 ·cases h
theorem tU (w:Rw):lq w.toD=some w:=by cases w <;> kernel_rfl
noncomputable def jV (xs:List D) (n:Nat):Bool:=((xs.length+1:Nat):Int)==(n:Int)
theorem BF (xs:List D) (f:D->Rw):jV xs 2=(match xs with | [a]=>some (f a) | _=>none).isSome:=by
 match xs with
 | []=>rfl
 | [a]=>rfl
 | a::b::r=>show jV _ _=false;unfold jV;rw [beq_eq_false_iff_ne];simp only [List.length_cons];lia
theorem uz (xs:List D) (f:D->D->Rw):jV xs 3=(match xs with | [a,b]=>some (f a b) | _=>none).isSome:=by
 match xs with
 | []=>rfl
 | [a]=>rfl
 | [a,b]=>rfl
 | a::b::c::r=>show jV _ _=false;unfold jV;rw [beq_eq_false_iff_ne];simp only [List.length_cons];lia
theorem GB (xs:List D) (f:D->D->D->Rw):jV xs 4=(match xs with | [a,b,c]=>some (f a b c) | _=>none).isSome:=by
 match xs with
 | []=>rfl
 | [a]=>rfl
 | [a,b]=>rfl
 | [a,b,c]=>rfl
 | a::b::c::d::r=>show jV _ _=false;unfold jV;rw [beq_eq_false_iff_ne];simp only [List.length_cons];lia
theorem GA (xs:List D) (f:D->D->D->D->D->Rw):jV xs 6=(match xs with | [a,b,c,d,e]=>some (f a b c d e) | _=>none).isSome:=by
 match xs with
 | []=>rfl
 | [a]=>rfl
 | [a,b]=>rfl
 | [a,b,c]=>rfl
 | [a,b,c,d]=>rfl
 | [a,b,c,d,e]=>rfl
 | a::b::c::d::e::f::r=>show jV _ _=false;unfold jV;rw [beq_eq_false_iff_ne];simp only [List.length_cons];lia
noncomputable def ip (s:Str):Option Nat:=
 if s=Str.ofString "say" then some 2 else if s=Str.ofString "call" then some 3 else if s=Str.ofString "within" then some 3 else if s=Str.ofString "all" then some 3
 else if s=Str.ofString "ask" then some 4 else if s=Str.ofString "by" then some 6 else if s=Str.ofString "either" then some 3 else if s=Str.ofString "again" then some 2 else none
theorem vn (s:Str) (xs:List D):(rwS s xs).isSome=(match ip s with | some n=>jV xs n | none=>false):=by
 unfold rwS ip
 by_cases h1:s=Str.ofString "say"
 ·rw [if_pos h1,if_pos h1];exact (BF xs .say).symm
 rw [if_neg h1,if_neg h1]
 by_cases h2:s=Str.ofString "call"
 ·rw [if_pos h2,if_pos h2];exact (uz xs .call).symm
 rw [if_neg h2,if_neg h2]
 by_cases h3:s=Str.ofString "within"
 ·rw [if_pos h3,if_pos h3];exact (uz xs .within).symm
 rw [if_neg h3,if_neg h3]
 by_cases h4:s=Str.ofString "all"
 ·rw [if_pos h4,if_pos h4];exact (uz xs .all).symm
 rw [if_neg h4,if_neg h4]
 by_cases h5:s=Str.ofString "ask"
 ·rw [if_pos h5,if_pos h5];exact (GB xs .ask).symm
 rw [if_neg h5,if_neg h5]
 by_cases h6:s=Str.ofString "by"
 ·rw [if_pos h6,if_pos h6];exact (GA xs .by_).symm
 rw [if_neg h6,if_neg h6]
 by_cases h7:s=Str.ofString "either"
 ·rw [if_pos h7,if_pos h7];exact (uz xs .either).symm
 rw [if_neg h7,if_neg h7]
 by_cases h8:s=Str.ofString "again"
 ·rw [if_pos h8,if_pos h8];exact (BF xs .again).symm
 rw [if_neg h8,if_neg h8];rfl
theorem il (s k:Str) (v:β) (l:List (Str×β)):List.lookup s ((k,v)::l)=if s=k then some v else List.lookup s l:=by
 rw [List.lookup_cons]
 by_cases h:s=k
 ·subst h;simp
 ·rw [if_neg h,beq_eq_false_iff_ne.mpr h]
theorem yf (s k:Str) (v:D) (l:List (Key×D)):gZ ((.inr k,v)::l) (.inr s)=if s=k then some v else gZ l (.inr s):=by
 by_cases h:s=k
 ·subst h;simp [gZ]
 ·rw [if_neg h];have:¬(Sum.inr k:Key)=.inr s:=fun z=>h (by injection z with z;exact z.symm);simp only [gZ,List.find?_cons,this,decide_false]
noncomputable def shS (s:Str):Option (List Int):=
 if s=Str.ofString "say" then some [2,0] else if s=Str.ofString "call" then some [3,0] else if s=Str.ofString "within" then some [2,1] else if s=Str.ofString "all" then some [2,1]
 else if s=Str.ofString "ask" then some [2,2] else if s=Str.ofString "by" then some [3,3] else if s=Str.ofString "either" then some [1,2] else if s=Str.ofString "again" then some [1,1] else none
theorem yw (s:Str):cO.lookup s=shS s:=by
 unfold cO shS;simp only [il];rfl
theorem CU (s:Str):(ip s=none∧shS s=none)∨∃(n:Nat) (p q:Int),ip s=some n∧shS s=some [p,q]∧p+q=n:=by
 unfold ip shS
 repeat' split
 all_goals first | exact .inl ⟨rfl,rfl⟩ | exact .inr ⟨_,_,_,rfl,rfl,rfl⟩
theorem uB:∀{d:D},tmD d=true->gS [d] h=some (.bl (lq d).isSome,h)
 | .non,_=>rfl
 | .bl _,_=>rfl
 | .int _,_=>rfl
 | .str _,_=>rfl
 | .lv _,_=>rfl
 | .dv _,_=>rfl
 | .tup [],_=>rfl
 | .tup (a::xs),t=>by
  have ta:=(aU t).2 a (by simp);refine cm (bt ?_);walk_at "r";refine rv (bJ t) ⟨_,rfl,fun z=>(nomatch z),fun _=>?_⟩;walk_at "r";refine ⟨_,rfl,fun z=>?_,fun _=>?_⟩
  ·exfalso;have:(((a::xs).length:Int)==0)=false:=by rw [beq_eq_false_iff_ne];simp only [List.length_cons];lia
   rw [this] at z;cases z
  walk_at "r";refine rv (gI ta) ⟨_,rfl,?_⟩;cases a with
  | ty _=>cases ta
  | ro _=>cases ta
  | ob _=>cases ta
  | str s=>
   refine ⟨fun z=>(nomatch z),fun _=>?_⟩;walk_at "r";refine rv (a:=(.bl (!(shS s).isSome),h)) (by show some (D.bl (!(cO.lookup s).isSome),h)=_;rw [yw]) ⟨_,rfl,?_⟩;have fin:(lq (.tup (.str s::xs))).isSome=(match ip s with | some n=>jV xs n | none=>false):=vn s xs;rw [fin];rcases CU s with ⟨e1,e2⟩ | ⟨n,p,q,e1,e2,e3⟩
   ·rw [e1,e2];refine ⟨fun _=>?_,fun z=>(nomatch z)⟩;walk_at "r"
   ·rw [e1,e2];refine ⟨fun z=>(nomatch z),fun _=>?_⟩;walk_at "r";refine rv (a:=(.tup [.int p,.int q],h)) (by show ((cO.lookup s).map fun is=>(D.tup (is.map D.int),h))=_;rw [yw,e2];rfl) ?_;walk_at "r";rw [e3];rfl
  | _=>
   refine ⟨fun _=>⟨fun _=>?_,fun z=>(nomatch z)⟩,fun z=>(nomatch z)⟩;walk_at "r";rfl
theorem xE (w:Rw) (h:MH):kM [w.toD] h=some (.tup w.bY,h):=by cases w <;> kernel_rfl
noncomputable def ctD (cts:List (Str×Int)):List (Key×D):=cts.map fun p=>(Sum.inr p.1,D.int p.2)
theorem lX (w:Str):∀cts:List (Str×Int),gZ (ctD cts) (.inr w)=(cts.lookup w).map D.int
 | []=>rfl
 | (k,v)::r=>by
  show gZ ((.inr k,.int v)::ctD r) (.inr w)=_;rw [yf,il,lX w r]
  split <;> rfl
noncomputable def Ey (ps:List Str):D->Bool
 | .tup ts=>ts.all (cE ps)
 | _=>false
noncomputable def qS (ps:List Str) (b:D):Option Int->Bool
 | some n=>jh b n&&Ey ps b
 | none=>false
noncomputable def EN (ps:List Str) (cts:List (Str×Int)) (a b:D):Bool:=match a with
 | .str w=>qS ps b (cts.lookup w)
 | _=>false
def mY (cts:List (Str×Int)):Prop:=∀w n,cts.lookup w=some n->gB w=true
theorem xJ (hw:mY cts) (ta:tmD a=true) (tb:tmD b=true):kN [a,b,.dv (ctD cts),.tup (ps.map D.str)] h=some (.bl (EN ps cts a b),h):=by
 cases a <;> first | rfl | (cases ta;done) | skip
 case str w=>
  refine cm (bt ?_);walk_at "r";refine rv (lQ ta) ⟨_,rfl,fun z=>tt ?_,fun z=>?_⟩
  ·walk_at "r";show _=(D.bl (qS ps b (cts.lookup w)),h);cases e:cts.lookup w with
   | none=>rfl
   | some n=>
    have:=hw w n e;rw [show et (.str w)=gB w from rfl,this] at z;cases z
  ·walk_at "r";refine rv (qF (kvs:=ctD cts) rfl) ⟨_,rfl,?_⟩;rw [lX];cases e:cts.lookup w with
   | none=>
    refine ⟨fun _=>tt ?_,fun z=>(nomatch z)⟩;walk_at "r";show _=(D.bl (qS ps b (cts.lookup w)),h);rw [e];rfl
   | some n=>
    refine ⟨fun z=>(nomatch z),fun _=>?_⟩;walk_at "r";refine rv (yG (kvs:=ctD cts) (v:=.int n) rfl (by rw [lX,e];rfl)) ?_;walk_at "r";refine rv (bQ tb) ⟨_,rfl,fun z=>?_,fun z=>?_⟩
    ·have z:jh b n=false:=by simpa using z
     walk_at "r";show _=(D.bl (qS ps b (cts.lookup w)),h);rw [e];show _=(D.bl (jh b n&&Ey ps b),h);rw [z];rfl
    ·have z:jh b n=true:=by simpa using z
     cases b with
     | tup ts=>
      obtain ⟨hl,ht⟩:=aU tb;refine cY (ie (kX (rv (fE (t:=[some (.tup (ps.map D.str))]) (cE ps) rfl rfl rfl (by lia) fun x hx=>i0 (ht x hx)) ?_)));walk_at "r";show _=(D.bl (qS ps (.tup ts) (cts.lookup w)),h);rw [e];show _=(D.bl (jh (.tup ts) n&&Ey ps (.tup ts)),h);rw [z];rfl
     | _=>cases z
noncomputable def BC (ns ps:List Str):D->Bool
 | .tup xs=>(decide (2≤(xs.length:Int))&&decide ((xs.length:Int)≤4))&&(xs.all (gr ns ps)&&k6 xs)
 | _=>false
theorem DU (h:gr ns ps d=true):∃l:Lock,d=aJ l∧l.1∈ns∧eB ps l.2.1 l.2.2=true:=by
 unfold gr at h
 split at h
 ·next a b=>
  unfold BD at h
  split at h
  ·next w=>
   rw [Bool.and_eq_true] at h;have h2:=h.2;unfold cE at h2
   split at h2
   ·next x y=>
    unfold As at h2
    split at h2
    ·next v f=>exact ⟨(w,(v,f)),rfl,of_decide_eq_true h.1,h2⟩
    ·cases h2
   ·cases h2
  ·cases h
 ·cases h
theorem mE:∀{xs:List D},xs.all (gr ns ps)=true->∃ls:List Lock,xs=ls.map aJ
 | [],_=>⟨[],rfl⟩
 | x::r,h=>by
  rw [List.all_cons,Bool.and_eq_true] at h;obtain ⟨ls,rfl⟩:=mE h.2;obtain ⟨l,rfl,_⟩:=DU h.1;exact ⟨l::ls,rfl⟩
theorem vd (t:tmD (.str s)=true):PyData.strOk s=true:=kl.mpr fun c hc=>by
 have:=(wN t).2;rw [Array.all_eq_true_iff_forall_mem] at this;have:=this c hc;simp at this
 lia
theorem qw {ls:List Lock} (h2:2≤ls.length) (h4:ls.length≤4) (hs:∀l∈ls,PyData.strOk l.1=true∧PyData.strOk l.2.1=true):fC (.tup (ls.map aJ))=some (fU (ls.map cK)).length:=by
 have hk:qy (ls.map aJ)=none:=by
  cases ls with
  | nil=>simp at h2
  | cons l r=>rfl
 unfold fC;dsimp only;rw [hk];dsimp only;rw [kq];dsimp only [Option.bind_some];rw [if_pos];rw [Bool.and_eq_true,Bool.and_eq_true];refine ⟨⟨?_,?_⟩,?_⟩
 ·rw [List.all_eq_true];intro x hx;obtain ⟨l,hl,rfl⟩:=List.mem_map.mp hx;obtain ⟨a,b⟩:=hs l hl;simp [cK,kS,plT,a,b]
 ·rw [List.all_eq_true];intro x hx;obtain ⟨l,hl,rfl⟩:=List.mem_map.mp hx;rfl
 ·rw [List.length_map];exact decide_eq_true h4
theorem yx {ns ps:List Str} {xs:List D} (hx:xs.all (gr ns ps)=true) (h2:2≤(xs.length:Int)) (h4:(xs.length:Int)≤4) (ht:∀x∈xs,tmD x=true):(fC (.tup xs)).isSome=true:=by
 obtain ⟨ls,rfl⟩:=mE hx;rw [List.length_map] at h2 h4;rw [qw (by lia) (by lia)]
 ·rfl
 ·intro l hl;have:=(aU (ht _ (List.mem_map.mpr ⟨l,hl,rfl⟩))).2;have t1:=this (.str l.1) (by simp);have t2:=(aU (this (bg l.2) (by simp))).2 (.str l.2.1) (by simp);exact ⟨vd t1,vd t2⟩
theorem uY (t:tmD d=true):gV [d,.tup (ns.map D.str),.tup (ps.map D.str)] h=some (.bl (BC ns ps d),h):=by
 cases d <;> first | rfl | (cases t;done) | skip
 case tup xs=>
  obtain ⟨hl,ht⟩:=aU t;refine cm (bt ?_);walk_at "r";refine rv (bJ t) ⟨_,rfl,fun z=>(nomatch z),fun _=>?_⟩;refine fk (lE (rv (iu (a:=2) (n:=xs.length) (b:=4) rfl rfl rfl) ⟨_,rfl,fun z=>?_,fun z=>?_⟩))
  ·have z:(decide (2≤(xs.length:Int))&&decide ((xs.length:Int)≤4))=false:=(Bool.not_eq_true' _).mp z;walk_at "r";show _=(D.bl (_&&_),h);rw [z];rfl
  ·have z:(decide (2≤(xs.length:Int))&&decide ((xs.length:Int)≤4))=true:=(Bool.not_eq_false' _).mp z;have zz:=Bool.and_eq_true_iff.mp z;refine cY (ie (kX (yq (rv (fE (t:=[some (.tup (ns.map D.str)),some (.tup (ps.map D.str))]) (gr ns ps) rfl rfl rfl (by lia) fun x hx=>lR (ht x hx)) ⟨_,rfl,fun y=>rv (ki rfl (yx y (of_decide_eq_true zz.1) (of_decide_eq_true zz.2) ht)) ?_,fun y=>?_⟩))))
   ·walk_at "r";show _=(D.bl (_&&_),h);rw [z,y];rfl
   ·walk_at "r";show _=(D.bl (_&&_),h);rw [z,y];rfl
noncomputable def j9 (ns ps:List Str) (cts:List (Str×Int)):Rw->Bool
 | .say a=>et a
 | .call a b=>EN ps cts a b
 | .within l _=>gr ns ps l
 | .all ls _=>BC ns ps ls
 | .ask l _ _=>gr ns ps l
 | .by_ s t _ _ _=>cE ps s&&cE ps t
 | .either _ _=>true
 | .again _=>true
theorem Aq {w:Rw} (t:tmD w.toD=true):∀x∈w.bY,tmD x=true:=by
 intro x hx;have key:∀xs,w.toD=.tup xs->(∀y∈w.bY,y∈xs)->tmD x=true:=fun xs e1 e2=>(aU (e1 ▸ t)).2 x (e2 x hx);cases w <;> exact key _ rfl (by simp [Rw.bY])
theorem Cz (hw:mY cts) (w:Rw) (t:tmD w.toD=true):dh [w.toD,.tup (ns.map D.str),.dv (ctD cts),.tup (ps.map D.str)] h=some (.bl (j9 ns ps cts w),h):=by
 have tt':=(aU (xs:=match w.toD with | .tup xs=>xs | _=>[]) (by cases w <;> exact t)).2;refine cm (bt ?_);cases w
 case say a=>
  have ta:=tt' a (by simp [Rw.toD]);unfold Rw.toD;walk_at "r";refine ⟨_,rfl,fun _=>?_,fun z=>absurd z (by decide)⟩;walk_at "r";refine rv (lQ ta) ?_;walk_at "r";rfl
 case call a b=>
  have ta:=tt' a (by simp [Rw.toD]);have tb:=tt' b (by simp [Rw.toD]);unfold Rw.toD;walk_at "r";refine ⟨_,rfl,fun z=>absurd z (by decide),fun _=>?_⟩;walk_at "r";refine ⟨_,rfl,fun _=>?_,fun z=>absurd z (by decide)⟩;walk_at "r";refine rv (xJ hw ta tb) ?_;walk_at "r";rfl
 case within a b=>
  have ta:=tt' a (by simp [Rw.toD]);unfold Rw.toD;walk_at "r";refine ⟨_,rfl,fun z=>absurd z (by decide),fun _=>?_⟩;walk_at "r";refine ⟨_,rfl,fun z=>absurd z (by decide),fun _=>?_⟩;walk_at "r";refine ⟨_,rfl,fun z=>absurd z (by decide),fun _=>?_⟩;walk_at "r";refine rv (a:=(.bl true,h)) (by kernel_rfl) ⟨_,rfl,tt ?_⟩;walk_at "r";refine rv (lR ta) ?_;walk_at "r";rfl
 case all a b=>
  have ta:=tt' a (by simp [Rw.toD]);unfold Rw.toD;walk_at "r";refine ⟨_,rfl,fun z=>absurd z (by decide),fun _=>?_⟩;walk_at "r";refine ⟨_,rfl,fun z=>absurd z (by decide),fun _=>?_⟩;walk_at "r";refine ⟨_,rfl,fun _=>?_,fun z=>absurd z (by decide)⟩;walk_at "r";refine rv (uY ta) ?_;walk_at "r";rfl
 case ask a b c=>
  have ta:=tt' a (by simp [Rw.toD]);unfold Rw.toD;walk_at "r";refine ⟨_,rfl,fun z=>absurd z (by decide),fun _=>?_⟩;walk_at "r";refine ⟨_,rfl,fun z=>absurd z (by decide),fun _=>?_⟩;walk_at "r";refine ⟨_,rfl,fun z=>absurd z (by decide),fun _=>?_⟩;walk_at "r";refine rv (a:=(.bl true,h)) (by kernel_rfl) ⟨_,rfl,tt ?_⟩;walk_at "r";refine rv (lR ta) ?_;walk_at "r";rfl
 case by_ a b c d e=>
  have ta:=tt' a (by simp [Rw.toD]);have tb:=tt' b (by simp [Rw.toD]);unfold Rw.toD;walk_at "r";refine ⟨_,rfl,fun z=>absurd z (by decide),fun _=>?_⟩;walk_at "r";refine ⟨_,rfl,fun z=>absurd z (by decide),fun _=>?_⟩;walk_at "r";refine ⟨_,rfl,fun z=>absurd z (by decide),fun _=>?_⟩;walk_at "r";refine rv (a:=(.bl false,h)) (by kernel_rfl) ⟨_,rfl,ff ?_⟩;walk_at "r";refine ⟨_,rfl,fun _=>?_,fun z=>absurd z (by decide)⟩;walk_at "r";refine rv (i0 ta) ⟨_,rfl,fun z=>?_,fun z=>?_⟩
  ·walk_at "r";refine rv (i0 tb) ?_;walk_at "r";show _=(D.bl (cE ps a&&cE ps b),h);rw [z];rfl
  ·walk_at "r";show _=(D.bl (cE ps a&&cE ps b),h);rw [z];rfl
 all_goals
  unfold Rw.toD;walk_at "r";refine ⟨_,rfl,fun z=>absurd z (by decide),fun _=>?_⟩;walk_at "r";refine ⟨_,rfl,fun z=>absurd z (by decide),fun _=>?_⟩;walk_at "r";refine ⟨_,rfl,fun z=>absurd z (by decide),fun _=>?_⟩;walk_at "r";refine rv (a:=(.bl false,h)) (by kernel_rfl) ⟨_,rfl,ff ?_⟩;walk_at "r";refine ⟨_,rfl,fun z=>absurd z (by decide),fun _=>?_⟩;walk_at "r";rfl
section
variable (ns ps:List Str) (cts:List (Str×Int))
noncomputable def g8 (f:D->Bool) (r:D):Bool:=match lq r with
 | some w=>j9 ns ps cts w&&w.bY.all f
 | none=>false
noncomputable def cM:Nat->D->Bool
 | 0,_=>false
 | n+1,.tup rows=>decide ((rows.length:Int)≤12)&&rows.all (g8 ns ps cts (cM n))
 | _+1,_=>false
end
noncomputable def fF (f:D->Nat) (r:D):Nat:=match lq r with
 | some w=>1+(w.bY.map f).sum
 | none=>1
noncomputable def bw:Nat->D->Nat
 | 0,_=>0
 | n+1,.tup rows=>(rows.map (fF (bw n))).sum
 | _+1,_=>0
theorem AR (f:D->Nat) (r:D):1≤fF f r:=by unfold fF;split <;> lia
theorem qX {α:Type} {p:α->Bool} {xs:List α} {i:Nat} {x:α} (hx:xs[i]?=some x) (h:xs.all p=true):p x=true:=List.all_eq_true.mp h x (List.mem_of_getElem? hx)
theorem wR {α:Type} {f:α->Nat} {xs:List α} {i:Nat} {x:α} (hx:xs[i]?=some x):((xs.take i).map f).sum+f x≤(xs.map f).sum:=by
 induction xs generalizing i with
 | nil=>simp at hx
 | cons y r ih=>
  cases i with
  | zero=>simp at hx;subst hx;simp
  | succ j=>
   have:=ih (i:=j) (by simpa using hx);rw [List.take_succ_cons,List.map_cons,List.map_cons,List.sum_cons,List.sum_cons]
   lia
theorem take_all {α:Type} {p:α->Bool} {xs:List α} {i:Nat} {x:α} (hx:xs[i]?=some x) (h:(xs.take i).all p=true) (px:p x=true):(xs.take (i+1)).all p=true:=by
 rw [take_snoc hx,List.all_append,h];simp [px]
theorem lZ {α:Type} {f:α->Nat} {xs:List α} {i:Nat} {x:α} (hx:xs[i]?=some x):((xs.take (i+1)).map f).sum=((xs.take i).map f).sum+f x:=by
 rw [take_snoc hx];simp
theorem tV {ns ps:List Str} {cts:List (Str×Int)} (hw:mY cts):∀(n f:Nat) (d:D) (left:Nat) (h:MH),n≤f->n≤6->tmD d=true->
  dY (f+1) [d,.int (6-n),.int left,.tup (ns.map D.str),.dv (ctD cts),.tup (ps.map D.str)] h=some (if cM ns ps cts n d=true∧bw n d≤left then .int (left-bw n d) else .non,h):=by
 intro n
 induction n with
 | zero=>
  intro f d left h _ _ t;refine cm (bt ?_);walk_at "r";refine ⟨_,rfl,fun _=>tt ?_,fun z=>absurd z (by decide)⟩;walk_at "r";rfl
 | succ n ih=>
  intro f d left h hf h6 t;obtain ⟨g,rfl⟩:∃g,f=g+1:=⟨f-1,by lia⟩;refine cm (bt ?_);walk_at "r";refine ⟨_,rfl,fun z=>?_,fun _=>?_⟩
  ·have:(5:Int) < 6-((n+1:Nat):Int):=of_decide_eq_true z
   lia
  walk_at "r";refine rv (bJ t) ⟨_,rfl,fun z=>tt ?_,fun z=>?_⟩
  ·walk_at "r";cases d <;> first | rfl | cases z
  cases d with
  | tup rows=>
   obtain ⟨hl,ht⟩:=aU t;walk_at "r";refine ⟨_,rfl,fun y=>?_,fun y=>?_⟩
   ·have y:(12:Int) < rows.length:=of_decide_eq_true y;walk_at "r";rw [if_neg];rintro ⟨q,_⟩;unfold cM at q;rw [Bool.and_eq_true] at q;have:=of_decide_eq_true q.1
    lia
   have y:¬(12:Int) < rows.length:=by simpa using y
   walk_at "r";refine dQ ?_;walk_at "r";refine ⟨_,_,rfl,?_⟩;refine dR (fun i δ h'=>h'=h∧∃(v6 v7:Option D) (l:Nat),δ=[some (.tup rows),some (.int (6-((n+1:Nat):Int))),some (.int l),some (.tup (ns.map D.str)),some (.dv (ctD cts)),some (.tup (ps.map D.str)),v6,v7]∧(rows.take i).all (g8 ns ps cts (cM ns ps cts n))=true∧((rows.take i).map (fF (bw n))).sum+l=left) ⟨rfl,none,none,left,rfl,rfl,by simp⟩ (fun _ _ _ _ _=>rfl) ?_ ?_
   ·rintro i r δ h' hr ⟨rfl,v6,v7,l,rfl,hall,hsum⟩;have tr:=ht r (List.mem_of_getElem? hr);have hge:=wR (f:=fF (bw n)) hr;have hpos:=AR (bw n) r;have none_:((cM ns ps cts (n+1) (.tup rows)=true∧bw (n+1) (.tup rows)≤left)->False)->(D.non,h')=(if cM ns ps cts (n+1) (.tup rows)=true∧bw (n+1) (.tup rows)≤left then D.int (left-bw (n+1) (.tup rows)) else .non,h'):=fun q=>by rw [if_neg q]
    have bY:cM ns ps cts (n+1) (.tup rows)=true->g8 ns ps cts (cM ns ps cts n) r=true:=fun q=>by
     unfold cM at q;rw [Bool.and_eq_true] at q;exact qX hr q.2
    walk_at "r";refine ⟨_,rfl,fun z=>tt ?_,fun z=>?_⟩
    ·have z:(l:Int)=0:=by simpa using z
     walk_at "r";refine none_ fun ⟨_,q⟩=>?_;have:bw (n+1) (.tup rows)=(rows.map (fF (bw n))).sum:=rfl
     lia
    have z:¬(l:Int)=0:=by simpa using z
    walk_at "r";refine rv (uB tr) ⟨_,rfl,fun z=>tt ?_,fun z=>?_⟩
    ·walk_at "r";refine none_ fun ⟨q,_⟩=>?_;have q:=bY q;unfold g8 at q;cases e:lq r with
     | none=>rw [e] at q;cases q
     | some w=>rw [e] at z;cases z
    cases e:lq r with
    | none=>rw [e] at z;cases z
    | some w=>
     obtain rfl:=yl e;walk_at "r";refine rv (Cz hw w tr) ⟨_,rfl,fun z=>?_,fun z=>?_⟩
     ·walk_at "r";refine none_ fun ⟨q,_⟩=>?_;have q:=bY q;unfold g8 at q;rw [e] at q;dsimp only at q;rw [Bool.and_eq_true] at q;rw [q.1] at z;cases z
     have z:j9 ns ps cts w=true:=by simpa using z
     walk_at "r";refine Fw ?_;walk_at "r";refine dQ ?_;walk_at "r";refine rv (xE w _) ⟨_,_,rfl,?_⟩;refine dR (fun k δ h2=>h2=h'∧∃(v7:Option D) (l':Nat),δ=[some (.tup rows),some (.int (6-((n+1:Nat):Int))),some (.int l'),some (.tup (ns.map D.str)),some (.dv (ctD cts)),some (.tup (ps.map D.str)),some w.toD,v7]∧(w.bY.take k).all (cM ns ps cts n)=true∧((w.bY.take k).map (bw n)).sum+l'+1=l) ⟨rfl,v7,l-1,by
      rw [show ((l-1:Nat):Int)=(l:Int)-1 by lia];rfl,rfl,by simp;lia⟩ (fun _ _ _ _ _=>rfl) ?_ ?_
     ·rintro k x δ h2 hx ⟨rfl,v7',l',rfl,hall',hsum'⟩;walk_at "r";have hd:(6-((n+1:Nat):Int))+1=6-(n:Int):=by lia
      rw [hd];refine rv (ih g x l' h2 (by lia) (by lia) (Aq tr x (List.mem_of_getElem? hx))) ?_
      by_cases c:cM ns ps cts n x=true∧bw n x≤l'
      ·rw [if_pos c];walk_at "r";refine rv (a:=(.bl false,h2)) rfl ⟨_,rfl,ff ?_⟩;walk_at "r";refine ⟨rfl,some x,l'-bw n x,?_,take_all hx hall' c.1,?_⟩
       ·rw [show ((l'-bw n x:Nat):Int)=(l':Int)-bw n x by lia];rfl
       ·rw [lZ hx];lia
      ·rw [if_neg c];walk_at "r";refine rv (a:=(.bl true,h2)) rfl ⟨_,rfl,tt ?_⟩;walk_at "r";refine none_ fun ⟨q,q2⟩=>c ?_;have q:=bY q;unfold g8 at q;rw [e] at q;dsimp only at q;rw [Bool.and_eq_true] at q;refine ⟨qX hx q.2,?_⟩;have q2:(rows.map (fF (bw n))).sum≤left:=q2;have h3:fF (bw n) w.toD=1+(w.bY.map (bw n)).sum:=by unfold fF;rw [e]
       have h4:=wR (f:=bw n) hx
       lia
     ·rintro δ h2 ⟨rfl,v7',l',rfl,hall',hsum'⟩;rw [List.take_length] at hall' hsum';walk_at "r";refine ⟨rfl,_,_,l',rfl,take_all hr hall ?_,?_⟩
      ·unfold g8;rw [e];dsimp only;rw [z,hall'];rfl
      ·rw [lZ hr,show fF (bw n) w.toD=1+(w.bY.map (bw n)).sum by unfold fF;rw [e]]
       lia
   ·rintro δ h' ⟨rfl,v6,v7,l,rfl,hall,hsum⟩;rw [List.take_length] at hall hsum;walk_at "r";have hc:bw (n+1) (.tup rows)=(rows.map (fF (bw n))).sum:=rfl;have hlot:cM ns ps cts (n+1) (.tup rows)=true:=by
     unfold cM;rw [hall,Bool.and_true];exact decide_eq_true (by lia)
    rw [if_pos ⟨hlot,by lia⟩,hc];rw [show (l:Int)=(left:Int)-((rows.map (fF (bw n))).sum:Nat) by lia]
  | _=>cases z
noncomputable def vp (xs:List D):Bool:=match kT xs with
 | some ss=>decide (ss=cx ss)
 | none=>false
noncomputable def gq (d:D):Bool:=bB d 1 6&&(match d with | .tup xs=>vp xs | _=>false)
theorem oj:∀(A B:List Str),PyData.eqvAll (A.map PyData.str) (B.map PyData.str)=decide (A=B)
 | [],[]=>by simp [PyData.eqvAll]
 | [],_::_=>by simp [PyData.eqvAll]
 | _::_,[]=>by simp [PyData.eqvAll]
 | a::A,b::B=>by
  rw [List.map_cons,List.map_cons,PyData.eqvAll,oj A B];simp only [PyData.eqv]
  by_cases z:a=b
  ·subst z;by_cases y:A=B <;> simp [y]
  ·simp [z]
theorem B1 (A B:List Str) (h:MH):bW (.lv (A.map D.str)) (.lv (B.map D.str)) h=some (.bl (decide (A=B)),h):=by
 show ((((pyL (A.map D.str)).map PyData.list).bind fun a=>((pyL (B.map D.str)).map PyData.list).bind fun b=>if a.depth≤64∧b.depth≤64 then some (PyData.eqv a b) else none)).map (fun c=>(D.bl c,h))=_;rw [ij,ij];show (if (PyData.list (A.map PyData.str)).depth≤64∧(PyData.list (B.map PyData.str)).depth≤64 then some (PyData.eqv (.list (A.map PyData.str)) (.list (B.map PyData.str))) else none).map _=_;rw [if_pos ⟨by rw [PyData.depth,fw];lia,by rw [PyData.depth,fw];lia⟩,PyData.eqv,oj];rfl
theorem By (A B:List Str) (h:MH):hW (.tup (A.map D.str)) (.tup (B.map D.str)) h=some (.bl (!decide (A=B)),h):=by
 show ((((pyL (A.map D.str)).map PyData.tuple).bind fun a=>((pyL (B.map D.str)).map PyData.tuple).bind fun b=>if a.depth≤64∧b.depth≤64 then some (PyData.eqv a b) else none)).map (fun c=>(D.bl (!c),h))=_;rw [ij,ij];show (if (PyData.tuple (A.map PyData.str)).depth≤64∧(PyData.tuple (B.map PyData.str)).depth≤64 then some (PyData.eqv (.tuple (A.map PyData.str)) (.tuple (B.map PyData.str))) else none).map _=_;rw [if_pos ⟨by rw [PyData.depth,fw];lia,by rw [PyData.depth,fw];lia⟩,PyData.eqv,oj];rfl
theorem dX (u:bB d a b=true) (hb:b≤60):∃ws:List Str,d=.tup (ws.map D.str)∧(∀w∈ws,gB w=true)∧ws.length < 64∧k6 (ws.map D.str)=true:=by
 unfold bB at u
 split at u
 ·next xs=>
  rw [Bool.and_eq_true,Bool.and_eq_true,Bool.and_eq_true] at u;obtain ⟨ws,rfl,hw⟩:=lN u.2.1;have:=of_decide_eq_true u.1.2;rw [List.length_map] at this;exact ⟨ws,rfl,hw,by lia,u.2.2⟩
 ·cases u
theorem sm (ws:List Str) (hl:ws.length < 64) (h:MH):mP [.tup (ws.map D.str)] h=some (.lv ((cx ws).map D.str),h):=by
 unfold mP;dsimp only;rw [kj];dsimp only [Option.bind_some];rw [if_pos hl]
theorem iO (ws:List Str):vp (ws.map D.str)=decide (ws=cx ws):=by unfold vp;rw [kj]
theorem uX (t:tmD d=true):gU [d] h=some (.bl (gq d),h):=by
 refine cm (bt ?_);walk_at "r";refine rv (fP t) ⟨_,rfl,fun z=>?_,fun z=>?_⟩
 ·obtain ⟨ws,rfl,_,hl,_⟩:=dX z (by decide);walk_at "r";refine xi ?_;walk_at "r";refine ⟨_,_,_,rfl,rfl,?_⟩;walk_at "r";refine rv (sm ws hl h) ?_;refine rv (B1 ws (cx ws) h) ?_;walk_at "r";unfold gq;rw [z];dsimp only;rw [iO];rfl
 ·walk_at "r";unfold gq;rw [z];rfl
noncomputable def i5:D->D
 | .tup (a::_)=>a
 | _=>.non
noncomputable def rh:D->D
 | .tup (_::a::_)=>a
 | _=>.non
noncomputable def oY:D->D
 | .tup (_::_::a::_)=>a
 | _=>.non
theorem three (h:jh d 3=true):∃a b c,d=.tup [a,b,c]:=by
 cases d <;> first | (cases h;done) | skip
 case tup xs=>
  have h:(xs.length:Int)=3:=by simpa [jh] using h
  match xs,h with
  | [a,b,c],_=>exact ⟨a,b,c,rfl⟩
  | [],h=>simp at h
  | [_],h=>simp at h
  | [_,_],h=>simp at h
  | _::_::_::_::_,h=>simp at h;lia
noncomputable def dU (d:D):Bool:=match d with
 | .tup xs=>xs.all (fun x=>jh x 3)&&(bB (.tup (xs.map i5)) 1 6&&xs.all (fun x=>bB (rh x) 0 3))
 | _=>false
theorem E3 {xs:List D} (hl:xs.length≤1000) (ht:∀x∈xs,tmD x=true) (hx:xs.all (fun x=>jh x 3)=true):tmD (.tup (xs.map i5))=true:=by
 show tmN 1000 (.tup (xs.map i5))=true;rw [tmN,Bool.and_eq_true,lY,List.length_map];refine ⟨decide_eq_true hl,fun y hy=>?_⟩;obtain ⟨x,hx',rfl⟩:=List.mem_map.mp hy;obtain ⟨a,b,c,rfl⟩:=three (List.all_eq_true.mp hx x hx');exact (aU (ht _ hx')).2 a (by simp)
theorem uZ {h:MH} {d:D} (t:tmD d=true):gW [d] h=some (.bl (dU d),h):=by
 cases d <;> first | rfl | (cases t;done) | skip
 case tup xs=>
  obtain ⟨hl,ht⟩:=aU t;refine cm (bt ?_);refine dq (gD (kW ?_));walk_at "r";refine rv (bJ t) ⟨_,rfl,fun z=>(nomatch z),fun _=>?_⟩;refine fk (jG (rv (fE (t:=[]) (fun x=>jh x 3) rfl rfl rfl (by lia) fun x hx=>bQ (ht x hx)) ⟨_,rfl,fun z=>?_,fun z=>?_⟩))
  ·walk_at "r";have z:xs.all (fun x=>jh x 3)=false:=by simpa using z
   show _=(D.bl (_&&_),h);rw [z];rfl
  have z:xs.all (fun x=>jh x 3)=true:=by simpa using z
  have z3:=List.all_eq_true.mp z;refine cY (ie (dq (gD (fk (jG (zh (nT (zh (nT (AZ (rv (kc (t:=[]) i5 rfl rfl rfl (by lia) fun x hx=>?_) ?_)))))))))))
  ·obtain ⟨a,b,c,rfl⟩:=three (z3 x hx);rfl
  walk_at "r";refine rv (a:=(.tup (xs.map i5),h)) rfl ?_;walk_at "r";refine rv (fP (E3 hl ht z)) ⟨_,rfl,fun y=>?_,fun y=>?_⟩
  ·walk_at "r";have y:bB (.tup (xs.map i5)) 1 6=false:=by simpa using y
   show _=(D.bl (_&&(_&&_)),h);rw [z,y];rfl
  have y:bB (.tup (xs.map i5)) 1 6=true:=by simpa using y
  refine cY (ie (kX (rv (fE (t:=[]) (fun x=>bB (rh x) 0 3) rfl rfl rfl (by lia) fun x hx=>?_) ?_)))
  ·obtain ⟨a,b,c,rfl⟩:=three (z3 x hx);exact fP ((aU (ht _ hx)).2 b (by simp))
  walk_at "r";show _=(D.bl (_&&(_&&_)),h);rw [z,y];rfl
theorem jd:∀(ks acc:List Key),acc.Nodup->((ks.foldl fM acc).length=acc.length+ks.length↔(acc++ks).Nodup)∧(ks.foldl fM acc).length≤acc.length+ks.length
 | [],acc,h=>by simp [h]
 | k::r,acc,h=>by
  rw [List.foldl_cons]
  by_cases z:k∈acc
  ·have e:fM acc k=acc:=by unfold fM;rw [if_pos];exact List.any_eq_true.mpr ⟨k,z,by simp⟩
   rw [e];have h2:=(jd r acc h).2;refine ⟨⟨fun q=>?_,fun q=>?_⟩,?_⟩
   ·rw [List.length_cons] at q;lia
   ·exfalso;rw [List.nodup_append] at q;exact q.2.2 k z k (by simp) rfl
   ·rw [List.length_cons];lia
  ·have e:fM acc k=acc++[k]:=by
    unfold fM;rw [if_neg];intro q;obtain ⟨x,hx,e⟩:=List.any_eq_true.mp q;exact z (of_decide_eq_true e ▸ hx)
   have hn:(acc++[k]).Nodup:=List.nodup_append.mpr ⟨h,by simp,fun a ha b hb q=>z (by rw [List.mem_singleton] at hb;subst hb;subst q;exact ha)⟩;obtain ⟨i1,i2⟩:=jd r (acc++[k]) hn;rw [e];rw [List.length_append,List.length_singleton] at i1 i2;rw [List.append_assoc] at i1;rw [List.length_cons];refine ⟨⟨fun q=>i1.mp (by lia),fun q=>?_⟩,by lia⟩;have:=i1.mpr q
   lia
theorem tq (ks:List Key):(gP ks).length=ks.length↔ks.Nodup:=by
 have:=(jd ks [] (by simp)).1
 simpa [gP] using this
theorem og {ws:List Str}:(ws.map (Sum.inr:Str->Key)).Nodup↔ws.Nodup:=by
 induction ws with
 | nil=>simp
 | cons w r ih=>simp [List.nodup_cons,ih]
theorem pB {ws:List Str} (hl:ws.length≤1000):k6 (ws.map D.str)=true↔ws.Nodup:=by
 unfold k6 fC;dsimp only;rw [lO];dsimp only;rw [if_pos (by rw [List.length_map];exact hl),List.length_map,beq_iff_eq,Option.some.injEq];have:=tq (ws.map (Sum.inr:Str->Key));rw [List.length_map,og] at this;exact this
noncomputable def strOfD:D->Str
 | .str s=>s
 | _=>""
noncomputable def lenOf:D->Int
 | .tup xs=>xs.length
 | _=>0
noncomputable def strsOf (d:D):List Str:=match d with
 | .tup xs=>xs.map strOfD
 | _=>[]
noncomputable def cn (xs:List D):List (Str×Int):=xs.map fun x=>(strOfD (i5 x),lenOf (rh x))
noncomputable def kZ (n:D) (xs:List D):Bool:=xs.all fun x=>cM (strsOf n) (strsOf (rh x)) (cn xs) 5 (oY x)
noncomputable def gO (xs:List D):Nat:=(xs.map fun x=>bw 5 (oY x)).sum
noncomputable def eL (n d:D):Bool:=gq n&&dU d&&(match d with | .tup xs=>kZ n xs&&decide (gO xs≤60) | _=>false)
noncomputable def sC (d:D):Bool:=match d with
 | .tup [n,d]=>eL n d
 | _=>false
theorem fb (ws:List Str):strsOf (.tup (ws.map D.str))=ws:=by
 show (ws.map D.str).map strOfD=ws;rw [List.map_map];exact List.map_id'' (fun _=>rfl) ws
theorem mL (h:dU (.tup xs)=true):(∀x∈xs,∃(w:Str) (ps:List Str) (c:D),x=.tup [.str w,.tup (ps.map D.str),c]∧gB w=true∧(∀p∈ps,gB p=true))∧xs.length≤6∧(xs.map fun x=>strOfD (i5 x)).Nodup:=by
 unfold dU at h;dsimp only at h;rw [Bool.and_eq_true,Bool.and_eq_true] at h;obtain ⟨h3,hu,hp⟩:=h;have hu':=hu;unfold bB at hu';dsimp only at hu';rw [Bool.and_eq_true,Bool.and_eq_true,Bool.and_eq_true,List.length_map] at hu';have hl:=of_decide_eq_true hu'.1.2;refine ⟨fun x hx=>?_,by lia,?_⟩
 ·obtain ⟨a,b,c,rfl⟩:=three (List.all_eq_true.mp h3 x hx);obtain ⟨ps,e,hw,_⟩:=dX (List.all_eq_true.mp hp _ hx) (by decide);have e:b=.tup (ps.map D.str):=e;subst e;have ha:et a=true:=List.all_eq_true.mp hu'.2.1 a (List.mem_map.mpr ⟨_,hx,rfl⟩);cases a <;> first | (cases ha;done) | skip
  case str w=>exact ⟨w,ps,c,rfl,ha,hw⟩
 ·obtain ⟨ws,e,hw,hl,un⟩:=dX hu (by decide);injection e with e
  have e2:ws=xs.map fun x=>strOfD (i5 x):=by
   have:=congrArg (List.map strOfD) e;rw [List.map_map,List.map_map] at this;rw [show (strOfD∘D.str)=id from rfl,List.map_id] at this;exact this.symm
  rw [←e2];exact (pB (by lia)).mp un
theorem vb (h:dU (.tup xs)=true):mY (cn xs):=by
 intro w n e;have hx:=(mL h).1;have:(w,n)∈cn xs:=by
  clear h hx;unfold cn at e ⊢
  induction xs with
  | nil=>cases e
  | cons x r ih=>
   rw [List.map_cons,il] at e
   split at e
   ·next q=>cases e;subst q;simp
   ·exact List.mem_cons_of_mem _ (ih e)
 obtain ⟨x,hx',e⟩:=List.mem_map.mp this;obtain ⟨v,ps,c,rfl,hv,_⟩:=hx x hx';cases e;exact hv
theorem Dn (h:w∉cts.map (·.1)):putD (ctD cts) (.inr w) (.int n)=ctD (cts++[(w,n)]):=by
 rw [vG]
 ·unfold ctD;rw [List.map_append];rfl
 ·intro q;unfold ctD at q;rw [List.map_map] at q;obtain ⟨p,hp,e⟩:=List.mem_map.mp q;exact h (List.mem_map.mpr ⟨p,hp,by injection e⟩)
theorem zX (hi:ei δ h=some (.tup xs,h)) (hh:dU (.tup xs)=true):
  eAc [none,none,none] (c7 ei) (gT 3 (bD (gN 0) (bD (gN 1) (bD (gN 2) gJ)))) cg (mD (ae 0) (eFn bE (ab (ae 1) aj))) [] .dv δ h=some (.dv (ctD (cn xs)),h):=by
 obtain ⟨hx,h6,hn⟩:=mL hh;refine cm (Ia (dQ (rv hi ⟨_,_,rfl,?_⟩)));refine t6 xs (fun r δ' h' a=>h'=h∧(∃v0 v1 v2,δ'=[v0,v1,v2])∧∃l,l++r=xs∧a=ctD (cn l)) _ _ _ ⟨rfl,⟨none,none,none,rfl⟩,[],rfl,rfl⟩ ?_ ?_
 ·rintro x r δ' h' a ⟨rfl,⟨v0,v1,v2,rfl⟩,l,e,rfl⟩;obtain ⟨w,ps,c,rfl,_,_⟩:=hx x (by rw [←e];simp);refine ⟨rfl,?_⟩;walk_at "r";refine rv (a:=(true,h')) rfl ?_;rw [if_pos rfl];refine Jm ?_;walk_at "r";have hlen:l.length < 6:=by have:=congrArg List.length e;simp at this;lia
  refine ⟨_,rfl,by unfold ctD cn;rw [List.length_map,List.length_map,show sizeLine=16777216 from rfl];lia,rfl,⟨_,_,_,rfl⟩,l++[.tup [.str w,.tup (ps.map D.str),c]],by rw [List.append_assoc];exact e,?_⟩;rw [Dn]
  ·unfold cn;rw [List.map_append];rfl
  ·intro q;rw [←e,List.map_append,List.nodup_append] at hn;refine hn.2.2 w ?_ w (by simp [i5,strOfD]) rfl;unfold cn at q;rw [List.map_map] at q;exact q
 ·rintro δ' h' a ⟨rfl,_,l,e,rfl⟩;rw [List.append_nil] at e;subst e;exact ⟨rfl,rfl⟩
theorem dC:∀{d:D},tmD d=true->cB [d] h=some (.bl (sC d),h)
 | .non,_=>rfl
 | .bl _,_=>rfl
 | .int _,_=>rfl
 | .str _,_=>rfl
 | .lv _,_=>rfl
 | .dv _,_=>rfl
 | .tup [],_=>rfl
 | .tup [_],_=>rfl
 | .tup (a::b::c::r),t=>by
  refine cm (bt ?_);walk_at "r";refine rv (bQ t) ⟨_,rfl,fun _=>?_,fun z=>?_⟩
  ·walk_at "r";rfl
  ·have:jh (.tup (a::b::c::r)) 2=false:=zB a b c r 2 (Nat.le_refl _);rw [this] at z;cases z
 | .tup [n,d],t=>by
  have tn:=(aU t).2 n (by simp);have td:=(aU t).2 d (by simp);refine cm (bt ?_);walk_at "r";refine rv (bQ t) ⟨_,rfl,fun z=>(nomatch z),fun _=>?_⟩;walk_at "r";refine rv (uX tn) ⟨_,rfl,fun z=>tt ?_,fun z=>?_⟩
  ·walk_at "r";have z:gq n=false:=by simpa using z
   show _=(D.bl (_&&_&&_),h);rw [z];rfl
  have z:gq n=true:=by simpa using z
  walk_at "r";refine rv (uZ td) ⟨_,rfl,fun y=>?_,fun y=>?_⟩
  ·walk_at "r";have y:dU d=false:=by simpa using y
   show _=(D.bl (_&&_&&_),h);rw [z,y];rfl
  have y:dU d=true:=by simpa using y
  cases d with
  | tup xs=>
   obtain ⟨hl,ht⟩:=aU td;obtain ⟨hx,h6,hn⟩:=mL y;have hw:=vb y;obtain ⟨nss,rfl,_,_,_⟩:=dX (d:=n) (a:=1) (b:=6) (by unfold gq at z;rw [Bool.and_eq_true] at z;exact z.1) (by decide);have fin:eL (.tup (nss.map D.str)) (.tup xs)=(kZ (.tup (nss.map D.str)) xs&&decide (gO xs≤60)):=by
    unfold eL;rw [z,y];rfl
   refine cY (ie (dq (qf (rv (zX rfl y) ?_))));walk_at "r";refine dQ ?_;walk_at "r";refine ⟨_,_,rfl,?_⟩;refine dR (fun i δ h'=>h'=h∧∃(v5 v6 v7:Option D) (l:Nat),δ=[some (.tup [.tup (nss.map D.str),.tup xs]),some (.tup (nss.map D.str)),some (.tup xs),some (.dv (ctD (cn xs))),some (.int l),v5,v6,v7]∧(xs.take i).all (fun x=>cM (strsOf (.tup (nss.map D.str))) (strsOf (rh x)) (cn xs) 5 (oY x))=true∧((xs.take i).map fun x=>bw 5 (oY x)).sum+l=60) ⟨rfl,none,none,none,60,rfl,rfl,rfl⟩ (fun _ _ _ _ _=>rfl) ?_ ?_
   ·rintro i x δ h' hxi ⟨rfl,v5,v6,v7,l,rfl,hall,hsum⟩;have hm:=List.mem_of_getElem? hxi;obtain ⟨w,ps,c,rfl,_,_⟩:=hx x hm;have tc:=(aU (ht _ hm)).2 c (by simp);walk_at "r";refine rv (tV (ns:=nss) (ps:=ps) hw 5 7 c l h' (by decide) (by decide) tc) ?_;have key:cM (strsOf (.tup (nss.map D.str))) (strsOf (rh (.tup [.str w,.tup (ps.map D.str),c]))) (cn xs) 5 (oY (.tup [.str w,.tup (ps.map D.str),c]))=cM nss ps (cn xs) 5 c:=by
     rw [fb];show cM nss (strsOf (.tup (ps.map D.str))) (cn xs) 5 c=_;rw [fb]
    by_cases cc:cM nss ps (cn xs) 5 c=true∧bw 5 c≤l
    ·rw [if_pos cc];walk_at "r";refine rv (a:=(.bl false,h')) rfl ⟨_,rfl,ff ?_⟩;walk_at "r";refine ⟨rfl,some (.str w),some (.tup (ps.map D.str)),some c,l-bw 5 c,?_,take_all hxi hall (key.trans cc.1),?_⟩
     ·rw [show ((l-bw 5 c:Nat):Int)=(l:Int)-bw 5 c by lia];rfl
     ·rw [lZ hxi];show _+bw 5 c+_=_
      lia
    ·rw [if_neg cc];walk_at "r";refine rv (a:=(.bl true,h')) rfl ⟨_,rfl,tt ?_⟩;walk_at "r";show _=(D.bl (eL _ _),h');rw [fin];symm;rw [show (kZ (.tup (nss.map D.str)) xs&&decide (gO xs≤60))=false from ?_];rw [Bool.eq_false_iff];intro q;rw [Bool.and_eq_true] at q;have q1:=qX hxi q.1;have q2:gO xs≤60:=of_decide_eq_true q.2;refine cc ⟨key.symm.trans q1,?_⟩;have h4:=wR (f:=fun x=>bw 5 (oY x)) hxi;have h5:gO xs=(xs.map fun x=>bw 5 (oY x)).sum:=rfl;have h7:bw 5 (oY (.tup [.str w,.tup (ps.map D.str),c]))=bw 5 c:=rfl;rw [h7] at h4
     lia
   ·rintro δ h' ⟨rfl,v5,v6,v7,l,rfl,hall,hsum⟩;rw [List.take_length] at hall hsum;walk_at "r";show _=(D.bl (eL _ _),h');rw [fin,show kZ (.tup (nss.map D.str)) xs=true from hall,decide_eq_true (show gO xs≤60 by show (xs.map fun x=>bw 5 (oY x)).sum≤60;lia)];rfl
  | _=>cases y
theorem JJ:∀c < 128,leT (Str.ofString "a") ⟨#[c]⟩=decide (97≤c):=by decide+kernel
theorem JI:∀c < 128,leT ⟨#[c]⟩ (Str.ofString "z")=decide (c≤122):=by decide+kernel
theorem jW (t:tmD d=true):cI [d] h=some (.bl (et d),h):=va rfl (fun c hc h=>by
 refine cm (qg ?_);walk_at "r";refine rv (a:=(.bl (leT (Str.ofString "a") ⟨#[c]⟩),h)) rfl ⟨_,rfl,?_⟩;rw [JJ c hc];unfold zA
 by_cases q:97≤c
 ·rw [if_pos (decide_eq_true q)];walk_at "r";refine rv (a:=(.bl (leT ⟨#[c]⟩ (Str.ofString "z")),h)) rfl ?_;rw [JI c hc,decide_eq_true q];rfl
 ·rw [if_neg (by simpa using q),decide_eq_false q];rfl) t
theorem mF (t:tmD d=true):cJ [d,.int most] h=some (.bl (bB d 0 most),h):=by
 cases d <;> first | rfl | (cases t;done) | skip
 case tup xs=>
  obtain ⟨hl,ht⟩:=aU t;have h0:decide ((0:Int)≤(xs.length:Int))=true:=decide_eq_true (by lia);refine cm (bt ?_);refine dq (gD (kW ?_));walk_at "r";refine rv (bJ t) ⟨_,rfl,fun z=>(nomatch z),fun _=>kW ?_⟩;walk_at "r";refine ⟨_,rfl,fun z=>tt ?_,fun z=>fk (jG (rv (fE (t:=[]) et rfl rfl rfl (by lia) fun x hx=>jW (ht x hx)) ⟨_,rfl,fun y=>?_,fun y=>?_⟩))⟩
  ·walk_at "r";have z:¬(xs.length:Int)≤most:=by have:=of_decide_eq_true z;lia
   show _=(D.bl (_&&_),h);rw [decide_eq_false z,Bool.and_false];rfl
  ·walk_at "r";have y:xs.all et=false:=by simpa using y
   show _=(D.bl (_&&_),h);rw [y,Bool.false_and,Bool.and_false]
  ·have z:(xs.length:Int)≤most:=by have:=of_decide_eq_false z;lia
   have y:xs.all et=true:=by simpa using y
   refine cY (ie (kX (rv (ki rfl (qv y hl)) ?_)));walk_at "r";show _=(D.bl (_&&_),h);rw [h0,decide_eq_true z,y];rfl
theorem gH (hp:ps.length≤100):∀{d:D},tmD d=true->cq [d,.tup (ps.map D.str)] h=some (.bl (cE ps d),h)
 | .non,_=>rfl
 | .bl _,_=>rfl
 | .int _,_=>rfl
 | .str _,_=>rfl
 | .lv _,_=>rfl
 | .dv _,_=>rfl
 | .tup [],_=>rfl
 | .tup [_],_=>rfl
 | .tup (a::b::c::r),t=>by
  refine cm (bt ?_);walk_at "r";refine rv (bJ t) ⟨_,rfl,fun z=>(nomatch z),fun _=>?_⟩;walk_at "r";refine ⟨_,rfl,fun _=>tt ?_,fun z=>?_⟩
  ·walk_at "r";rfl
  ·have:(((a::b::c::r).length:Int)==2)=false:=zB a b c r 2 (Nat.le_refl _);rw [this] at z;cases z
 | .tup [a,b],t=>by
  have ta:=(aU t).2 a (by simp);have tb:=(aU t).2 b (by simp);cases a with
  | str w=>
   cases b with
   | int f=>
    refine cm (bt ?_);walk_at "r";refine rv (bJ t) ⟨_,rfl,fun z=>(nomatch z),fun _=>?_⟩;walk_at "r";refine ⟨_,rfl,fun z=>(nomatch z),fun _=>?_⟩;walk_at "r";refine rv (gI ta) ⟨_,rfl,fun z=>(nomatch z),fun _=>?_⟩;walk_at "r";refine rv (BH tb) ⟨_,rfl,fun z=>(nomatch z),fun _=>?_⟩;walk_at "r";refine rv (a:=(.bl true,h)) rfl ⟨_,rfl,fun z=>(nomatch z),fun _=>?_⟩;refine fk (lE (rv (iu (a:=-99) (n:=f) (b:=99) rfl rfl rfl) ⟨_,rfl,fun z=>?_,fun z=>?_⟩))
    ·have z:(decide (-99≤f)&&decide (f≤99))=false:=(Bool.not_eq_true' _).mp z;walk_at "r";show _=(D.bl (eB ps w f),h);unfold eB;rw [z,Bool.and_false]
    ·have z:(decide (-99≤f)&&decide (f≤99))=true:=(Bool.not_eq_false' _).mp z;walk_at "r";refine rv (sQ (by simp;lia)) ?_;refine rv (kC w (Str.ofString ""::ps) h) ?_;walk_at "r";show _=(D.bl (eB ps w f),h);unfold eB;rw [z,Bool.and_true];congr 2
     by_cases q:w=Str.ofString ""
     ·subst q;simp
     ·have:(w==Str.ofString "")=false:=beq_eq_false_iff_ne.mpr q;rw [this];simp [q]
   | ty _=>cases tb
   | ro _=>cases tb
   | ob _=>cases tb
   | _=>rfl
  | ty _=>cases ta
  | ro _=>cases ta
  | ob _=>cases ta
  | _=>rfl
theorem jY (hp:ps.length≤100):∀{d:D},tmD d=true->c8 [d,.tup (ns.map D.str),.tup (ps.map D.str)] h=some (.bl (gr ns ps d),h)
 | .non,_=>rfl
 | .bl _,_=>rfl
 | .int _,_=>rfl
 | .str _,_=>rfl
 | .lv _,_=>rfl
 | .dv _,_=>rfl
 | .tup [],_=>rfl
 | .tup [_],_=>rfl
 | .tup (a::b::c::r),t=>by
  refine cm (bt ?_);walk_at "r";refine rv (bJ t) ⟨_,rfl,fun z=>(nomatch z),fun _=>?_⟩;walk_at "r";refine ⟨_,rfl,fun _=>tt ?_,fun z=>?_⟩
  ·walk_at "r";rfl
  ·have:(((a::b::c::r).length:Int)==2)=false:=zB a b c r 2 (Nat.le_refl _);rw [this] at z;cases z
 | .tup [a,b],t=>by
  have ta:=(aU t).2 a (by simp);have tb:=(aU t).2 b (by simp);cases a with
  | str w=>
   refine cm (bt ?_);walk_at "r";refine rv (bJ t) ⟨_,rfl,fun z=>(nomatch z),fun _=>?_⟩;walk_at "r";refine ⟨_,rfl,fun z=>(nomatch z),fun _=>?_⟩;walk_at "r";refine rv (gI ta) ⟨_,rfl,fun z=>(nomatch z),fun _=>?_⟩;walk_at "r";refine rv (kC w ns h) ⟨_,rfl,fun y=>?_,fun y=>?_⟩
   ·walk_at "r";refine rv (gH hp tb) ?_;walk_at "r";show _=(D.bl (decide (w∈ns)&&cE ps b),h);rw [y];rfl
   ·walk_at "r";show _=(D.bl (decide (w∈ns)&&cE ps b),h);rw [y];rfl
  | ty _=>cases ta
  | ro _=>cases ta
  | ob _=>cases ta
  | _=>rfl
theorem oH (w:Rw) (h:MH):fN [w.toD] h=some (.tup w.bY,h):=by cases w <;> kernel_rfl
theorem vY (hp:ps.length≤100) (w:Rw) (t:tmD w.toD=true):gY [w.toD,.tup (ns.map D.str),.dv (ctD cts),.tup (ps.map D.str)] h=some (.bl (j9 ns ps cts w),h):=by
 have tt':=(aU (xs:=match w.toD with | .tup xs=>xs | _=>[]) (by cases w <;> exact t)).2;refine cm (bt ?_);cases w
 case say a=>
  have ta:=tt' a (by simp [Rw.toD]);unfold Rw.toD;walk_at "r";refine ⟨_,rfl,fun _=>?_,fun z=>absurd z (by decide)⟩;walk_at "r";refine rv (jW ta) ?_;walk_at "r";rfl
 case within a b=>
  have ta:=tt' a (by simp [Rw.toD]);unfold Rw.toD;walk_at "r";refine ⟨_,rfl,fun z=>absurd z (by decide),fun _=>?_⟩;walk_at "r";refine ⟨_,rfl,fun _=>tt ?_,fun z=>absurd z (by decide)⟩;walk_at "r";refine rv (jY hp ta) ?_;walk_at "r";rfl
 case ask a b c=>
  have ta:=tt' a (by simp [Rw.toD]);unfold Rw.toD;walk_at "r";refine ⟨_,rfl,fun z=>absurd z (by decide),fun _=>?_⟩;walk_at "r";refine ⟨_,rfl,fun z=>absurd z (by decide),fun _=>?_⟩;walk_at "r";refine ⟨_,rfl,fun _=>?_,fun z=>absurd z (by decide)⟩;walk_at "r";refine rv (jY hp ta) ?_;walk_at "r";rfl
 case by_ a b c d e=>
  have ta:=tt' a (by simp [Rw.toD]);have tb:=tt' b (by simp [Rw.toD]);unfold Rw.toD;walk_at "r";refine ⟨_,rfl,fun z=>absurd z (by decide),fun _=>?_⟩;walk_at "r";refine ⟨_,rfl,fun z=>absurd z (by decide),fun _=>?_⟩;walk_at "r";refine ⟨_,rfl,fun z=>absurd z (by decide),fun _=>?_⟩;walk_at "r";refine ⟨_,rfl,fun _=>?_,fun z=>absurd z (by decide)⟩;walk_at "r";refine rv (gH hp ta) ⟨_,rfl,fun z=>?_,fun z=>?_⟩
  ·walk_at "r";refine rv (gH hp tb) ?_;walk_at "r";show _=(D.bl (cE ps a&&cE ps b),h);rw [z];rfl
  ·walk_at "r";show _=(D.bl (cE ps a&&cE ps b),h);rw [z];rfl
 case all a b=>
  have ta:=tt' a (by simp [Rw.toD]);unfold Rw.toD;walk_at "r";refine ⟨_,rfl,fun z=>absurd z (by decide),fun _=>?_⟩;walk_at "r";refine ⟨_,rfl,fun z=>absurd z (by decide),fun _=>?_⟩;walk_at "r";refine ⟨_,rfl,fun z=>absurd z (by decide),fun _=>?_⟩;walk_at "r";refine ⟨_,rfl,fun z=>absurd z (by decide),fun _=>?_⟩;walk_at "r";refine ⟨_,rfl,fun _=>?_,fun z=>absurd z (by decide)⟩;refine dq (gD (kW ?_));walk_at "r";refine rv (bJ ta) ⟨_,rfl,fun z=>tt ?_,fun z=>?_⟩
  ·walk_at "r";cases a <;> first | rfl | cases z
  cases a with
  | tup xs=>
   obtain ⟨hl,ht⟩:=aU ta;refine fk (lE (rv (iu (a:=2) (n:=xs.length) (b:=4) rfl rfl rfl) ⟨_,rfl,fun z=>?_,fun z=>?_⟩))
   ·have z:(decide (2≤(xs.length:Int))&&decide ((xs.length:Int)≤4))=false:=(Bool.not_eq_true' _).mp z;walk_at "r";show _=(D.bl (_&&_),h);rw [z];rfl
   ·have z:(decide (2≤(xs.length:Int))&&decide ((xs.length:Int)≤4))=true:=(Bool.not_eq_false' _).mp z;have zz:=Bool.and_eq_true_iff.mp z;refine cY (ie (dq (gD (fk (jG (rv (fE (t:=[some (.tup (ns.map D.str)),some (.tup (ps.map D.str))]) (gr ns ps) rfl rfl rfl (by lia) fun x hx=>jY hp (ht x hx)) ⟨_,rfl,fun y=>?_,fun y=>?_⟩))))))
    ·walk_at "r";have y:xs.all (gr ns ps)=false:=(Bool.not_eq_true' _).mp y;show _=(D.bl (_&&_),h);rw [y,Bool.false_and,Bool.and_false]
    ·have y:xs.all (gr ns ps)=true:=(Bool.not_eq_false' _).mp y;refine cY (ie (kX (rv (ki rfl (yx y (of_decide_eq_true zz.1) (of_decide_eq_true zz.2) ht)) ?_)));walk_at "r";show _=(D.bl (_&&_),h);rw [z,y];rfl
  | _=>cases z
 case call a b=>
  have ta:=tt' a (by simp [Rw.toD]);have tb:=tt' b (by simp [Rw.toD]);unfold Rw.toD;walk_at "r";refine ⟨_,rfl,fun z=>absurd z (by decide),fun _=>?_⟩;walk_at "r";refine ⟨_,rfl,fun z=>absurd z (by decide),fun _=>?_⟩;walk_at "r";refine ⟨_,rfl,fun z=>absurd z (by decide),fun _=>?_⟩;walk_at "r";refine ⟨_,rfl,fun z=>absurd z (by decide),fun _=>?_⟩;walk_at "r";refine ⟨_,rfl,fun z=>absurd z (by decide),fun _=>?_⟩;walk_at "r";refine ⟨_,rfl,fun _=>?_,fun z=>absurd z (by decide)⟩;refine dq (gD (kW ?_));walk_at "r";refine rv (gI ta) ⟨_,rfl,fun z=>tt ?_,fun z=>?_⟩
  ·walk_at "r";cases a <;> first | rfl | cases z
  cases a with
  | str w=>
   walk_at "r";refine rv (qF (kvs:=ctD cts) rfl) ⟨_,rfl,?_⟩;rw [lX];have fin:j9 ns ps cts (.call (.str w) b)=qS ps b (cts.lookup w):=rfl;cases e:cts.lookup w with
   | none=>
    refine tt (tt ?_);walk_at "r";rw [fin,e];rfl
   | some n=>
    refine ff ?_;walk_at "r";refine rv (bJ tb) ⟨_,rfl,fun z=>?_,fun z=>?_⟩
    ·walk_at "r";rw [fin,e];show _=(D.bl (jh b n&&Ey ps b),h);cases b <;> first | rfl | cases z
    ·cases b with
     | tup ts=>
      obtain ⟨hl,ht⟩:=aU tb;refine cY (ie (kX (yq ?_)));walk_at "r";refine rv (yG (kvs:=ctD cts) (v:=.int n) rfl (by rw [lX,e];rfl)) ?_;walk_at "r";refine ⟨_,rfl,fun y=>rv (fE (t:=[some (.tup (ps.map D.str))]) (cE ps) rfl rfl rfl (by lia) fun x hx=>gH hp (ht x hx)) ?_,fun y=>?_⟩
      ·have y:n=(ts.length:Int):=by simpa using y
       walk_at "r";rw [fin,e];show _=(D.bl ((ts.length:Int)==n&&ts.all (cE ps)),h);rw [←y];simp
      ·have y:¬n=(ts.length:Int):=by simpa using y
       walk_at "r";rw [fin,e];show _=(D.bl ((ts.length:Int)==n&&ts.all (cE ps)),h);rw [beq_eq_false_iff_ne.mpr (Ne.symm y)];rfl
     | _=>cases z
  | _=>cases z
 all_goals
  unfold Rw.toD;walk_at "r";refine ⟨_,rfl,fun z=>absurd z (by decide),fun _=>?_⟩;walk_at "r";refine ⟨_,rfl,fun z=>absurd z (by decide),fun _=>?_⟩;walk_at "r";refine ⟨_,rfl,fun z=>absurd z (by decide),fun _=>?_⟩;walk_at "r";refine ⟨_,rfl,fun z=>absurd z (by decide),fun _=>?_⟩;walk_at "r";refine ⟨_,rfl,fun z=>absurd z (by decide),fun _=>?_⟩;walk_at "r";refine ⟨_,rfl,fun z=>absurd z (by decide),fun _=>?_⟩;walk_at "r";rfl
noncomputable def vS:List (Key×D):=[(.inr (Str.ofString "say"),.int 2),(.inr (Str.ofString "call"),.int 3),(.inr (Str.ofString "within"),.int 3),(.inr (Str.ofString "all"),.int 3),(.inr (Str.ofString "ask"),.int 4),(.inr (Str.ofString "by"),.int 6),(.inr (Str.ofString "either"),.int 3),(.inr (Str.ofString "again"),.int 2)]
theorem DT (s:Str):gZ vS (.inr s)=(ip s).map fun (n:Nat)=>D.int n:=by
 unfold vS ip;simp only [yf]
 repeat' split
 all_goals rfl
theorem zu (δ:DS) (h:MH):yI (bL (eK (.str "say")) (eK (.int 2)) (bL (eK (.str "call")) (eK (.int 3)) (bL (eK (.str "within")) (eK (.int 3)) (bL (eK (.str "all")) (eK (.int 3)) (bL (eK (.str "ask")) (eK (.int 4)) (bL (eK (.str "by")) (eK (.int 6)) (bL (eK (.str "either")) (eK (.int 3)) (bL (eK (.str "again")) (eK (.int 2)) zp)))))))) δ h=some (.dv vS,h):=by kernel_rfl
theorem xI (hp:ps.length≤100):∀(n f:Nat) (d:D) (h:MH),n≤f->n≤6->tmD d=true->
  cU (f+1) [d,.tup (ns.map D.str),.dv (ctD cts),.tup (ps.map D.str),.int (6-n)] h=some (.bl (cM ns ps cts n d),h):=by
 intro n
 induction n with
 | zero=>
  intro f d h _ _ t;refine cm (bt ?_);refine dq (gD (kW ?_));walk_at "r";refine rv (bJ t) ⟨_,rfl,fun z=>tt ?_,fun z=>?_⟩
  ·walk_at "r";rfl
  cases d with
  | tup rows=>
   walk_at "r";refine ⟨_,rfl,fun _=>tt ?_,fun _=>?_⟩
   ·walk_at "r";rfl
   walk_at "r";refine ⟨_,rfl,fun _=>?_,fun z=>absurd z (by decide)⟩;walk_at "r";rfl
  | _=>cases z
 | succ n ih=>
  intro f d h hf h6 t;obtain ⟨g,rfl⟩:∃g,f=g+1:=⟨f-1,by lia⟩;refine cm (bt ?_);refine dq (gD (kW ?_));walk_at "r";refine rv (bJ t) ⟨_,rfl,fun z=>tt ?_,fun z=>?_⟩
  ·walk_at "r";cases d <;> first | rfl | cases z
  cases d with
  | tup rows=>
   obtain ⟨hl,ht⟩:=aU t;walk_at "r";refine ⟨_,rfl,fun y=>tt ?_,fun y=>?_⟩
   ·have y:(12:Int) < rows.length:=of_decide_eq_true y;walk_at "r";unfold cM;rw [decide_eq_false (by lia)];rfl
   have y:(rows.length:Int)≤12:=by have:=of_decide_eq_false y;lia
   walk_at "r";refine ⟨_,rfl,fun z=>?_,fun _=>?_⟩
   ·have:(5:Int) < 6-((n+1:Nat):Int):=of_decide_eq_true z
    lia
   refine cY (ie (dq (qf (rv (zu _ _) ?_))));walk_at "r";refine dQ ?_;walk_at "r";refine ⟨_,_,rfl,?_⟩;have fin:cM ns ps cts (n+1) (.tup rows)=rows.all (g8 ns ps cts (cM ns ps cts n)):=by
    show (decide _&&_)=_;rw [decide_eq_true y];rfl
   refine dR (fun i δ h'=>h'=h∧(∃v6:Option D,δ=[some (.tup rows),some (.tup (ns.map D.str)),some (.dv (ctD cts)),some (.tup (ps.map D.str)),some (.int (6-((n+1:Nat):Int))),some (.dv vS),v6])∧(rows.take i).all (g8 ns ps cts (cM ns ps cts n))=true) ⟨rfl,⟨none,rfl⟩,rfl⟩ (fun _ _ _ _ _=>rfl) ?_ ?_
   ·rintro i r δ h' hr ⟨rfl,⟨v6,rfl⟩,hall⟩;have tr:=ht r (List.mem_of_getElem? hr);have no:g8 ns ps cts (cM ns ps cts n) r=false->(D.bl false,h')=(.bl (cM ns ps cts (n+1) (.tup rows)),h'):=fun q=>by
     rw [fin];congr 2;symm;rw [Bool.eq_false_iff];intro q2;rw [qX hr q2] at q;cases q
    refine Fy (dq (gD (kW ?_)));walk_at "r";refine rv (bJ tr) ⟨_,rfl,fun z=>tt ?_,fun z=>?_⟩
    ·walk_at "r";refine no ?_;cases r <;> first | rfl | cases z
    cases r with
    | tup xs=>
     walk_at "r";refine ⟨_,rfl,fun q=>tt ?_,fun q=>?_⟩
     ·walk_at "r";refine no ?_;have q:(xs.length:Int) < 2:=of_decide_eq_true q
      match xs,q with
      | [],_=>rfl
      | [a],_=>
       unfold g8;cases e:lq (.tup [a]) with
       | none=>rfl
       | some w=>have:=yl e;cases w <;> cases this
      | _::_::_,q=>simp at q;lia
     have q:¬(xs.length:Int) < 2:=of_decide_eq_false q
     match xs,q with
     | [],q=>simp at q
     | [_],q=>simp at q
     | a::b::r,_=>
      have ta:=(aU tr).2 a (by simp);walk_at "r";refine rv (gI ta) ⟨_,rfl,fun z=>?_,fun z=>?_⟩
      ·walk_at "r";refine no ?_;cases a <;> first | rfl | cases z
      cases a with
      | str s=>
       refine cY (ie (dq (gD (kW (lE (xh (Ba ?_)))))));walk_at "r";refine ⟨rfl,?_⟩;walk_at "r";refine rv (a:=((match ip s with | some n=>D.int n | none=>.non),h')) (by
        show some ((gZ vS (.inr s)).getD .non,h')=_;rw [DT];cases ip s <;> rfl) ?_
       walk_at "r";have e0:(lq (.tup (.str s::b::r))).isSome=(match ip s with | some n=>jV (b::r) n | none=>false):=vn s (b::r);cases e:lq (.tup (.str s::b::r)) with
       | none=>
        rw [e] at e0;refine rv (a:=(.bl true,h')) ?_ ⟨_,rfl,tt (tt ?_)⟩
        ·cases e1:ip s with
         | none=>rfl
         | some m=>
          rw [e1] at e0;dsimp only;rw [wg];congr 3;have:(((b::r).length+1:Nat):Int)≠m:=by
           have:=e0.symm;unfold jV at this;exact beq_eq_false_iff_ne.mp this
          rw [show ((m:Int)==((D.str s::b::r).length:Int))=false from beq_eq_false_iff_ne.mpr (Ne.symm this)];rfl
        ·walk_at "r";refine no ?_;unfold g8;rw [e]
       | some w=>
        rw [e] at e0;refine rv (a:=(.bl false,h')) ?_ ⟨_,rfl,ff ?_⟩
        ·cases e1:ip s with
         | none=>rw [e1] at e0;cases e0
         | some m=>
          rw [e1] at e0;dsimp only;rw [wg];congr 3;have:(((b::r).length+1:Nat):Int)=m:=by
           have:=e0.symm;unfold jV at this;exact beq_iff_eq.mp this
          rw [show ((m:Int)==((D.str s::b::r).length:Int))=true from beq_iff_eq.mpr this.symm];rfl
        ·have er:=yl e;rw [er] at tr hr no ⊢;refine fk (jG ?_);walk_at "r";refine rv (vY hp w tr) ⟨_,rfl,fun z=>?_,fun z=>?_⟩
         ·walk_at "r";refine no ?_;have z:j9 ns ps cts w=false:=by simpa using z
          unfold g8;rw [tU];dsimp only;rw [z];rfl
         have z:j9 ns ps cts w=true:=by simpa using z
         refine cY (ie (gD (fk (jG (rv (fE (t:=[some (.int (6-((n+1:Nat):Int))),some (.dv (ctD cts)),some (.tup (ns.map D.str)),some (.tup (ps.map D.str))]) (cM ns ps cts n) (oH w h') rfl rfl ?_ fun x hx=>?_) ⟨_,rfl,fun y=>?_,fun y=>?_⟩)))))
         ·cases w <;> simp [Rw.bY]
         ·have hd:(6-((n+1:Nat):Int))+1=6-(n:Int):=by lia
          have:=ih g x h' (by lia) (by lia) (Aq tr x hx);rw [←hd] at this;exact this
         ·walk_at "r";refine no ?_;have y:w.bY.all (cM ns ps cts n)=false:=by simpa using y
          unfold g8;rw [tU];dsimp only;rw [y,Bool.and_false]
         ·walk_at "r";have y:w.bY.all (cM ns ps cts n)=true:=by simpa using y
          refine ⟨rfl,⟨_,rfl⟩,take_all hr hall ?_⟩;unfold g8;rw [tU];dsimp only;rw [y,z];rfl
      | _=>cases z
    | _=>cases z
   ·rintro δ h' ⟨rfl,⟨v6,rfl⟩,hall⟩;rw [List.take_length] at hall;walk_at "r";rw [fin,hall]
  | _=>cases z
theorem ny:∀{xs:List α},(∀x∈xs,f x≤b)->(xs.map f).sum≤xs.length*b
 | [],_=>by simp
 | x::r,h=>by
  have h1:=h x List.mem_cons_self;have h2:=ny (xs:=r) fun y hy=>h y (List.mem_cons_of_mem _ hy);rw [List.map_cons,List.sum_cons,List.length_cons,Nat.add_mul]
  lia
theorem BA (w:Rw):w.bY.length≤3:=by cases w <;> simp [Rw.bY]
theorem xW:∀(n:Nat) (d:D),cM ns ps cts n d=true->bw n d≤40^n
 | 0,d,h=>by simp [bw]
 | n+1,d,h=>by
  cases d with
  | tup rows=>
   have h:(decide ((rows.length:Int)≤12)&&rows.all (g8 ns ps cts (cM ns ps cts n)))=true:=h;rw [Bool.and_eq_true] at h;have hl:=of_decide_eq_true h.1;have hr:∀r∈rows,fF (bw n) r≤1+3*40^n:=fun r hr=>by
    have q:=List.all_eq_true.mp h.2 r hr;unfold g8 at q;unfold fF;cases e:lq r with
    | none=>dsimp only;lia
    | some w=>
     rw [e] at q;dsimp only at q ⊢;rw [Bool.and_eq_true] at q;have h1:=ny (f:=bw n) (xs:=w.bY) fun x hx=>xW n x (List.all_eq_true.mp q.2 x hx);have h2:=BA w;have h3:w.bY.length*40^n≤3*40^n:=Nat.mul_le_mul_right _ h2
     lia
   have h1:=ny hr;have h2:rows.length*(1+3*40^n)≤12*(1+3*40^n):=Nat.mul_le_mul_right _ (by lia);show (rows.map (fF (bw n))).sum≤_;have h3:40^(n+1)=40^n*40:=Nat.pow_succ ..;cases n with
   | zero=>
    have h4:(rows.map (fF (bw 0))).sum≤rows.length*1:=ny fun r hr=>by
     unfold fF
     split
     ·next w e=>
      have:(w.bY.map (bw 0)).sum≤w.bY.length*0:=ny fun _ _=>by simp [bw]
      lia
     ·lia
    lia
   | succ m=>
    have h5:40^(m+1)=40^m*40:=Nat.pow_succ ..;have h6:1≤40^m:=Nat.pow_pos (by decide)
    lia
  | _=>cases h
theorem vI (f:α->Nat):∀xs:List α,ik (xs.map fun x=>(f x:Int))=((xs.map f).sum:Nat)
 | []=>rfl
 | x::r=>by
  show (f x:Int)+ik (r.map fun x=>(f x:Int))=_;rw [vI f r,List.map_cons,List.sum_cons]
  lia
theorem wb (f:α->Nat) (xs:List α) (h:MH) (hl:xs.length≤1000) (hb:∀x∈xs,f x≤2^40):D9 [.lv (xs.map fun x=>.int (f x))] h=some (.int ((xs.map f).sum:Nat),h):=by
 have e:xs.map (fun x=>D.int (f x))=(xs.map fun x=>(f x:Int)).map D.int:=by rw [List.map_map];rfl
 rw [e];show ((mJ _).bind _)=_;rw [oe];dsimp only [Option.bind_some];rw [if_pos,vI];refine ⟨by rw [List.length_map];exact hl,?_⟩;rw [List.all_map,List.all_eq_true];intro x hx;have:=hb x hx;simp only [Function.comp,Bool.and_eq_true,decide_eq_true_eq]
 lia
theorem vX:∀(n f:Nat) (d:D) (h:MH),n≤f->n≤6->tmD d=true->cM ns ps cts n d=true->dZ (f+1) [d] h=some (.int (bw n d),h):=by
 intro n
 induction n with
 | zero=>intro f d h _ _ _ q;cases q
 | succ n ih=>
  intro f d h hf h6 t q;obtain ⟨g,rfl⟩:∃g,f=g+1:=⟨f-1,by lia⟩;cases d with
  | tup rows=>
   obtain ⟨hl,ht⟩:=aU t;have q:(decide ((rows.length:Int)≤12)&&rows.all (g8 ns ps cts (cM ns ps cts n)))=true:=q;rw [Bool.and_eq_true] at q;refine cm (bt ?_);walk_at "r";refine dQ ?_;walk_at "r";refine ⟨_,_,rfl,?_⟩;refine dR (fun i δ h'=>h'=h∧∃(v2:Option D) (c:Nat),δ=[some (.tup rows),some (.int c),v2]∧c+i=rows.length+((rows.take i).map (fF (bw n))).sum) ⟨rfl,none,rows.length,rfl,by simp⟩ (fun _ _ _ _ _=>rfl) ?_ ?_
   ·rintro i r δ h' hr ⟨rfl,v2,c,rfl,hc⟩;have hm:=List.mem_of_getElem? hr;have tr:=ht r hm;have qr:=List.all_eq_true.mp q.2 r hm;unfold g8 at qr;cases e:lq r with
    | none=>rw [e] at qr;cases qr
    | some w=>
     rw [e] at qr;dsimp only at qr;rw [Bool.and_eq_true] at qr;have er:=yl e;subst er;have qa:=List.all_eq_true.mp qr.2;refine Fy (qf (xh (Sm.xg ?_)));refine zh (nT (AZ ?_));refine rv (kc (t:=[]) (fun x=>D.int (bw n x)) (oH w h') rfl rfl (by have:=BA w;lia) fun x hx=>?_) ?_
     ·exact ih g x h' (by lia) (by lia) (Aq tr x hx) (qa x hx)
     walk_at "r";refine rv (wb (bw n) w.bY h' (by have:=BA w;lia) fun x hx=>Nat.le_trans (xW n x (qa x hx)) (Nat.le_trans (Nat.pow_le_pow_right (by decide) (show n≤5 by lia)) (by decide))) ?_;walk_at "r";refine ⟨rfl,some w.toD,c+(w.bY.map (bw n)).sum,?_,?_⟩
     ·rw [show ((c+(w.bY.map (bw n)).sum:Nat):Int)=(c:Int)+((w.bY.map (bw n)).sum:Nat) by lia];rfl
     ·rw [lZ hr,show fF (bw n) w.toD=1+(w.bY.map (bw n)).sum by unfold fF;rw [e]]
      lia
   ·rintro δ h' ⟨rfl,v2,c,rfl,hc⟩;rw [List.take_length] at hc;walk_at "r";have:c=bw (n+1) (.tup rows):=by
     show c=(rows.map (fF (bw n))).sum
     lia
    rw [this]
  | _=>cases q
theorem Bc (kvs:List (Key×D)) (k:Key) (v:D):(putD kvs k v).map (·.1)=fM (kvs.map (·.1)) k:=by
 unfold putD fM;have e:(kvs.map (·.1)).any (fun x=>decide (x=k))=kvs.any (fun kv=>decide (kv.1=k)):=by rw [List.any_map];rfl
 rw [e]
 split
 ·rw [List.map_map];refine List.map_congr_left fun p _=>?_;show (if p.1=k then (p.1,v) else p).1=p.1
  split <;> rfl
 ·rw [List.map_append];rfl
theorem lJ:∀(ps acc:List (Key×D)),(dr acc ps).map (·.1)=(ps.map (·.1)).foldl fM (acc.map (·.1))
 | [],acc=>rfl
 | p::r,acc=>by
  show (dr (putD acc p.1 p.2) r).map (·.1)=_;rw [lJ r,Bc];rfl
theorem zr (ps:List (Key×D)):(dr [] ps).length=ps.length↔(ps.map (·.1)).Nodup:=by
 have h1:=congrArg List.length (lJ ps []);rw [List.length_map] at h1;have h2:=tq (ps.map (·.1));rw [List.length_map] at h2;rw [h1];exact h2
theorem merge_le (ps:List (Key×D)):(dr [] ps).length≤ps.length:=by
 have h1:=congrArg List.length (lJ ps []);rw [List.length_map] at h1;have h2:=(jd (ps.map (·.1)) [] (by simp)).2;rw [h1]
 simpa using h2
noncomputable def gL (x:D):Bool:=jh x 3&&(et (i5 x)&&bB (rh x) 0 3)
noncomputable def pairOf (x:D):D:=.tup [i5 x,.int (lenOf (rh x))]
theorem mU (h:gL x=true):∃(w:Str) (ps:List Str) (c:D),x=.tup [.str w,.tup (ps.map D.str),c]∧gB w=true∧ps.length≤3:=by
 unfold gL at h;rw [Bool.and_eq_true,Bool.and_eq_true] at h;obtain ⟨a,b,c,rfl⟩:=three h.1;have h3:=h.2.2;have h3':=h3;obtain ⟨ps,e,hw,_⟩:=dX h3 (by decide);have e:b=.tup (ps.map D.str):=e;subst e;have hl:ps.length≤3:=by
  unfold bB at h3';simp only [rh] at h3';rw [Bool.and_eq_true,Bool.and_eq_true,List.length_map] at h3';have:=of_decide_eq_true h3'.1.2
  lia
 cases a <;> first | (cases h.2.1;done) | skip
 case str w=>exact ⟨w,ps,c,rfl,h.2.1,hl⟩
theorem vM:∀{xs:List D},xs.all gL=true->jI (xs.map pairOf)=some (ctD (cn xs))
 | [],_=>rfl
 | x::r,h=>by
  rw [List.all_cons,Bool.and_eq_true] at h;obtain ⟨w,ps,c,rfl,_⟩:=mU h.1;show ((jI (r.map pairOf)).map fun q=>((Sum.inr w:Key),D.int (lenOf (.tup (ps.map D.str))))::q)=_;rw [vM h.2];rfl
theorem yJ (xs:List D):(ctD (cn xs)).map (·.1)=(xs.map fun x=>strOfD (i5 x)).map (Sum.inr:Str->Key):=by
 unfold ctD cn;simp [List.map_map,Function.comp_def]
theorem sO (hl:xs.length≤1000):dU (.tup xs)=((decide (1≤(xs.length:Int))&&decide ((xs.length:Int)≤6))&&(xs.all gL&&decide (xs.map fun x=>strOfD (i5 x)).Nodup)):=by
 rw [Bool.eq_iff_iff];constructor
 ·intro h;obtain ⟨h1,h2,h3⟩:=mL h;unfold dU at h;dsimp only at h;rw [Bool.and_eq_true,Bool.and_eq_true] at h;have hu:=h.2.1;unfold bB at hu;dsimp only at hu;rw [Bool.and_eq_true,Bool.and_eq_true,List.length_map] at hu;rw [Bool.and_eq_true,Bool.and_eq_true,Bool.and_eq_true];refine ⟨hu.1,List.all_eq_true.mpr fun x hx=>?_,decide_eq_true h3⟩;obtain ⟨w,ps,c,rfl,hw,hp⟩:=h1 x hx;unfold gL;rw [Bool.and_eq_true,Bool.and_eq_true];exact ⟨rfl,hw,List.all_eq_true.mp h.2.2 _ hx⟩
 ·intro h;rw [Bool.and_eq_true,Bool.and_eq_true,Bool.and_eq_true] at h;obtain ⟨⟨h1,h2⟩,h3,h4⟩:=h;have h3':=List.all_eq_true.mp h3;unfold dU;dsimp only;rw [Bool.and_eq_true,Bool.and_eq_true];refine ⟨List.all_eq_true.mpr fun x hx=>?_,?_,List.all_eq_true.mpr fun x hx=>?_⟩
  ·have:=h3' x hx;unfold gL at this;rw [Bool.and_eq_true] at this;exact this.1
  ·unfold bB;dsimp only;rw [Bool.and_eq_true,Bool.and_eq_true,Bool.and_eq_true,List.length_map];refine ⟨⟨h1,h2⟩,List.all_eq_true.mpr fun x hx=>?_,?_⟩
   ·obtain ⟨y,hy,rfl⟩:=List.mem_map.mp hx;have:=h3' y hy;unfold gL at this;rw [Bool.and_eq_true,Bool.and_eq_true] at this;exact this.2.1
   ·have e:xs.map i5=(xs.map fun x=>strOfD (i5 x)).map D.str:=by
     rw [List.map_map];refine List.map_congr_left fun x hx=>?_;obtain ⟨w,ps,c,rfl,_⟩:=mU (h3' x hx);rfl
    rw [e];exact (pB (by rw [List.length_map];exact hl)).mpr (of_decide_eq_true h4)
  ·have:=h3' x hx;unfold gL at this;rw [Bool.and_eq_true,Bool.and_eq_true] at this;exact this.2.2
theorem kz (n:D):gq n=(bB n 0 6&&((match n with | .tup xs=>!xs.isEmpty | _=>false)&&(match n with | .tup xs=>vp xs | _=>false))):=by
 unfold gq bB;cases n <;> try rfl
 case tup xs=>
  dsimp only;cases xs with
  | nil=>rfl
  | cons x r=>
   have:decide ((1:Int)≤((x::r).length:Int))=true:=decide_eq_true (by simp;lia);have h2:decide ((0:Int)≤((x::r).length:Int))=true:=decide_eq_true (by lia);rw [this,h2];rfl
theorem zP (xs:List D) (ps:List (Key×D)) (h:MH) (hp:jI xs=some ps) (hl:xs.length≤1000):uJ [.lv xs] h=some (.dv (dr [] ps),h):=by
 show ((jI xs).bind fun ps=>if xs.length≤1000000 then some (D.dv (dr [] ps),h) else none)=_;rw [hp];show (if xs.length≤1000000 then some (D.dv (dr [] ps),h) else none)=_;rw [if_pos (by lia)]
noncomputable def EF (n d:D):Bool:=match d with
 | .tup xs=>kZ n xs&&decide (gO xs≤60)
 | _=>false
theorem jX:∀{d:D},tmD d=true->cC [d] h=some (.bl (sC d),h)
 | .non,_=>rfl
 | .bl _,_=>rfl
 | .int _,_=>rfl
 | .str _,_=>rfl
 | .lv _,_=>rfl
 | .dv _,_=>rfl
 | .tup [],_=>rfl
 | .tup [_],_=>rfl
 | .tup (a::b::c::r),t=>by
  refine cm (bt ?_);walk_at "r";refine rv (bJ t) ⟨_,rfl,fun z=>(nomatch z),fun _=>?_⟩;walk_at "r";refine ⟨_,rfl,fun _=>tt ?_,fun z=>?_⟩
  ·walk_at "r";rfl
  ·have:(((a::b::c::r).length:Int)==2)=false:=zB a b c r 2 (Nat.le_refl _);rw [this] at z;cases z
 | .tup [n,d],t=>by
  have tn:=(aU t).2 n (by simp);have td:=(aU t).2 d (by simp);refine cm (bt ?_);walk_at "r";refine rv (bJ t) ⟨_,rfl,fun z=>(nomatch z),fun _=>?_⟩;walk_at "r";refine ⟨_,rfl,fun z=>(nomatch z),fun _=>?_⟩;walk_at "r";refine rv (mF tn) ⟨_,rfl,fun z=>tt ?_,fun z=>?_⟩
  ·walk_at "r";have z:bB n 0 6=false:=by simpa using z
   show _=(D.bl (_&&_&&_),h);rw [kz,z];rfl
  have z:bB n 0 6=true:=by simpa using z
  obtain ⟨nss,rfl,_,hnl,_⟩:=dX z (by decide);walk_at "r";refine rv (a:=(.bl (nss.map D.str).isEmpty,h)) rfl ⟨_,rfl,fun y=>?_,fun y=>?_⟩
  ·walk_at "r";show _=(D.bl (_&&_&&_),h);rw [kz];dsimp only;rw [y];simp
  walk_at "r";refine rv (sm nss hnl h) ?_;walk_at "r";refine rv (a:=(.tup ((cx nss).map D.str),h)) rfl ?_;refine rv (By nss (cx nss) h) ⟨_,rfl,fun x=>tt ?_,fun x=>?_⟩
  ·walk_at "r";have x:decide (nss=cx nss)=false:=by simpa using x
   show _=(D.bl (_&&_&&_),h);rw [kz];dsimp only;rw [iO,x];simp
  have x:decide (nss=cx nss)=true:=by simpa using x
  have hnm:gq (.tup (nss.map D.str))=true:=by
   rw [kz];dsimp only;rw [iO,x,z,y];rfl
  have fin0:eL (.tup (nss.map D.str)) d=(dU d&&EF (.tup (nss.map D.str)) d):=by
   show (_&&_&&EF (.tup (nss.map D.str)) d)=_;rw [hnm];rfl
  walk_at "r";refine rv (bJ td) ⟨_,rfl,fun q=>tt ?_,fun q=>?_⟩
  ·walk_at "r";show _=(D.bl (eL _ _),h);rw [fin0];cases d <;> first | rfl | cases q
  cases d with
  | tup xs=>
   obtain ⟨hl,ht⟩:=aU td;have fin:eL (.tup (nss.map D.str)) (.tup xs)=(((decide (1≤(xs.length:Int))&&decide ((xs.length:Int)≤6))&&(xs.all gL&&decide (xs.map fun x=>strOfD (i5 x)).Nodup))&&(kZ (.tup (nss.map D.str)) xs&&decide (gO xs≤60))):=by
    rw [fin0,sO hl];rfl
   walk_at "r";refine qg ?_;walk_at "r";refine ⟨_,rfl,?_⟩
   by_cases h1:¬(1≤(xs.length:Int))
   ·rw [if_neg (by simpa using h1)];refine ⟨_,rfl,fun _=>?_,fun z=>(nomatch z)⟩;walk_at "r";show _=(D.bl (eL _ _),h);rw [fin,decide_eq_false h1];rfl
   have h1:=Decidable.not_not.mp h1;rw [if_pos (decide_eq_true h1)];walk_at "r"
   by_cases h2:¬((xs.length:Int)≤6)
   ·refine ⟨_,rfl,fun _=>?_,fun z=>?_⟩
    ·walk_at "r";show _=(D.bl (eL _ _),h);rw [fin,decide_eq_false h2];simp
    ·rw [decide_eq_false h2] at z;cases z
   have h2:=Decidable.not_not.mp h2;refine ⟨_,rfl,fun z=>?_,fun _=>?_⟩
   ·rw [decide_eq_true h2] at z;cases z
   rw [decide_eq_true h1,decide_eq_true h2] at fin;walk_at "r";refine dQ ?_;walk_at "r";refine ⟨_,_,rfl,?_⟩;refine dR (fun i δ h'=>h'=h∧(∃v1:Option D,δ=[some (.tup [.tup (nss.map D.str),.tup xs]),v1,none])∧(xs.take i).all gL=true) ⟨rfl,⟨none,rfl⟩,rfl⟩ (fun _ _ _ _ _=>rfl) ?_ ?_
   ·rintro i x δ h' hx ⟨rfl,⟨v1,rfl⟩,hall⟩;have hm:=List.mem_of_getElem? hx;have tx:=ht x hm;have no:gL x=false->(D.bl false,h')=(.bl (eL (.tup (nss.map D.str)) (.tup xs)),h'):=fun q=>by
     rw [fin];have:xs.all gL=false:=by
      rw [Bool.eq_false_iff];intro q2;rw [qX hx q2] at q;cases q
     rw [this];simp
    walk_at "r";refine rv (bJ tx) ⟨_,rfl,fun q=>tt ?_,fun q=>?_⟩
    ·walk_at "r";refine no ?_;cases x <;> first | rfl | cases q
    cases x with
    | tup ys=>
     walk_at "r";refine ⟨_,rfl,fun q=>tt ?_,fun q=>?_⟩
     ·walk_at "r";refine no ?_;have q:((ys.length:Int)==3)=false:=by simpa using q
      show (((ys.length:Int)==3)&&_)=false;rw [q];rfl
     have q:((ys.length:Int)==3)=true:=by simpa using q
     obtain ⟨a,b,c,e⟩:=three (d:=.tup ys) q;injection e with e
     subst e;have ta:=(aU tx).2 a (by simp);have tb:=(aU tx).2 b (by simp);walk_at "r";refine rv (jW ta) ⟨_,rfl,fun z=>?_,fun z=>?_⟩
     ·walk_at "r";refine no ?_;have z:et a=false:=by simpa using z
      show (_&&(et a&&_))=false;rw [z];simp
     have z:et a=true:=by simpa using z
     walk_at "r";refine rv (mF tb) ⟨_,rfl,fun y=>?_,fun y=>?_⟩
     ·walk_at "r";refine no ?_;have y:bB b 0 3=false:=by simpa using y
      show (_&&(et a&&bB b 0 3))=false;rw [y];simp
     have y:bB b 0 3=true:=by simpa using y
     walk_at "r";refine ⟨rfl,⟨_,rfl⟩,take_all hx hall ?_⟩;show (_&&(et a&&bB b 0 3))=true;rw [y,z];rfl
    | _=>cases q
   ·rintro δ h' ⟨rfl,⟨v1,rfl⟩,hall⟩;rw [List.take_length] at hall;have hd:=List.all_eq_true.mp hall;rw [hall] at fin;refine ie (dq (qf (zh (nT (AZ (rv (kc (t:=[]) pairOf rfl rfl rfl (by lia) fun x hx=>?_) ?_))))))
    ·obtain ⟨w,ps,c,rfl,_⟩:=mU (hd x hx);rfl
    walk_at "r";refine rv (zP _ _ _ (vM hall) (by rw [List.length_map];exact hl)) ?_;walk_at "r";refine rv (a:=(.int (dr [] (ctD (cn xs))).length,h')) rfl ?_;walk_at "r";have hlen:(ctD (cn xs)).length=xs.length:=by unfold ctD cn;simp
    have m1:=zr (ctD (cn xs));have m2:=merge_le (ctD (cn xs));rw [yJ,og,hlen] at m1;rw [hlen] at m2;refine ⟨_,rfl,fun q=>?_,fun q=>?_⟩
    ·have q:=of_decide_eq_true q;walk_at "r";show _=(D.bl (eL _ _),h');rw [fin,decide_eq_false (fun nd=>by have:=m1.mpr nd;lia)];rfl
    have q:=of_decide_eq_false q;have nd:=m1.mp (by lia);rw [decide_eq_true nd] at fin;have em:dr [] (ctD (cn xs))=ctD (cn xs):=qu (by rw [List.nil_append,yJ,og];exact nd);rw [em];refine cY (ie (dq (gD (fk (jG (rv (fE (t:=[some (.dv (ctD (cn xs))),some (.tup [.tup (nss.map D.str),.tup xs])]) (fun x=>cM (strsOf (.tup (nss.map D.str))) (strsOf (rh x)) (cn xs) 5 (oY x)) rfl rfl rfl (by lia) fun x hx=>?_) ⟨_,rfl,fun y=>?_,fun y=>?_⟩))))))
    ·obtain ⟨w,ps,c,rfl,_,hp3⟩:=mU (hd x hx);have tc:=(aU (ht _ hx)).2 c (by simp);have:=xI (ns:=nss) (ps:=ps) (cts:=cn xs) (by lia) 5 7 c h' (by decide) (by decide) tc;rw [fb];show _=some (D.bl (cM nss (strsOf (.tup (ps.map D.str))) (cn xs) 5 c),h');rw [fb];exact this
    ·walk_at "r";show _=(D.bl (eL _ _),h');rw [fin,show kZ (.tup (nss.map D.str)) xs=false from (Bool.not_eq_true' _).mp y];rfl
    have y:kZ (.tup (nss.map D.str)) xs=true:=(Bool.not_eq_false' _).mp y;rw [y] at fin;refine cY (ie (kX (xh (zh (nT (AZ (rv (kc (t:=[]) (fun x=>D.int (bw 5 (oY x))) rfl rfl rfl (by lia) fun x hx=>?_) ?_)))))))
    ·obtain ⟨w,ps,c,rfl,_,hp3⟩:=mU (hd x hx);have tc:=(aU (ht _ hx)).2 c (by simp);exact vX 5 7 c h' (by decide) (by decide) tc (List.all_eq_true.mp y _ hx)
    walk_at "r";refine rv (wb (fun x=>bw 5 (oY x)) xs h' (by lia) fun x hx=>Nat.le_trans (xW 5 _ (List.all_eq_true.mp y _ hx)) (by decide)) ?_;walk_at "r";show _=(D.bl (eL _ _),h');rw [fin];show (D.bl (decide (((gO xs:Nat):Int)≤60)),h')=(D.bl (decide (gO xs≤60)),h');congr 2
    by_cases q:gO xs≤60
    ·rw [decide_eq_true q,decide_eq_true (by lia)]
    ·rw [decide_eq_false q,decide_eq_false (by lia)]
  | _=>cases q
end Mi
namespace Mi
open PySem L2 Sm Pg
def Wo (w:Str):Prop:=1≤w.length∧w.length≤7∧low w
theorem Wo.tm (h:Wo w):tmN m (.str w)=true:=by
 rw [tmN,Bool.and_eq_true];refine ⟨decide_eq_true (by have:=h.2.1;lia),?_⟩;rw [Array.all_eq_true_iff_forall_mem];intro c hc;have:=h.2.2 c hc;simp;lia
theorem Wo.word (h:Wo w):gB w=true:=by
 unfold gB;rw [Bool.and_eq_true,Bool.and_eq_true];refine ⟨⟨decide_eq_true (by have:=h.1;lia),decide_eq_true (by have:=h.2.1;lia)⟩,?_⟩;rw [List.all_eq_true];intro c hc;have:=h.2.2 c (Array.mem_toList_iff.mp hc);unfold zA;simp;lia
theorem Ap:tmN m (.str (Str.ofString ""))=true:=by rw [tmN];decide+kernel
theorem iC (hl:xs.length≤m) (h:∀x∈xs,tmN m x=true):tmN m (.tup xs)=true:=by
 rw [tmN,Bool.and_eq_true,lY];exact ⟨decide_eq_true hl,h⟩
section
variable {W:Wd} {ps:List Str} (hn:∀w∈W.names,Wo w) (hd:∀w∈W.deeds,Wo w) (hp:∀w∈ps,Wo w)
include hp
theorem pC (h:eP ps t):cE ps (bg t)=true:=by
 show eB ps t.1 t.2=true;unfold eB;rw [Bool.and_eq_true,Bool.and_eq_true,Bool.or_eq_true];refine ⟨?_,decide_eq_true h.2.1,decide_eq_true h.2.2⟩;rcases h.1 with e | e
 ·exact .inl (by rw [e];simp)
 ·exact .inr (decide_eq_true e)
include hn
theorem uw (hs:∀w∈W.names,w∈ns) (h:fu W ps l):gr ns ps (aJ l)=true:=by
 show (decide (l.1∈ns)&&cE ps (bg l.2))=true;rw [decide_eq_true (hs _ h.1),pC hp h.2];rfl
end
noncomputable def Ao:Row->Rw
 | .say w=>.say (.str w)
 | .call d ts=>.call (.str d) (.tup (ts.map bg))
 | .within l b=>.within (aJ l) (.tup (bA b))
 | .all ls b=>.all (.tup (ls.map aJ)) (.tup (bA b))
 | .ask l b e=>.ask (aJ l) (.tup (bA b)) (.tup (bA e))
 | .by_ s t a b c=>.by_ (bg s) (bg t) (.tup (bA a)) (.tup (bA b)) (.tup (bA c))
 | .either a b=>.either (.tup (bA a)) (.tup (bA b))
 | .again a=>.again (.tup (bA a))
noncomputable def fG:Row->List (List Row)
 | .say _=>[]
 | .call _ _=>[]
 | .within _ b=>[b]
 | .all _ b=>[b]
 | .ask _ b e=>[b,e]
 | .by_ _ _ a b c=>[a,b,c]
 | .either a b=>[a,b]
 | .again a=>[a]
theorem sj (r:Row):(Ao r).bY=(fG r).map fun l=>.tup (bA l):=by cases r <;> rfl
theorem CM (r:Row):bP r=(Ao r).toD:=by cases r <;> rw [bP] <;> rfl
theorem vo (r:Row):lq (bP r)=some (Ao r):=by rw [CM,tU]
theorem tw:∀(ds acc:List PyData),(∀d∈acc++ds,plT 8 d=true)->(acc++ds).Nodup->ds.foldl pq acc=acc++ds
 | [],acc,_,_=>by simp
 | d::r,acc,hp,nd=>by
  have e:pq acc d=acc++[d]:=by
   unfold pq;rw [if_neg];intro q;unfold zK at q;obtain ⟨x,hx,e⟩:=List.any_eq_true.mp q;have:=t7 8 (hp x (by simp [hx])) (hp d (by simp)) e;subst this;rw [List.nodup_append] at nd;exact nd.2.2 x hx x (by simp) rfl
  rw [List.foldl_cons,e,tw r (acc++[d]) (fun x hx=>hp x (by simpa using hx)) (by rw [List.append_assoc];exact nd),List.append_assoc];rfl
theorem zx (h:cK a=cK b):a=b:=by
 obtain ⟨x,y,z⟩:=a;obtain ⟨u,v,w⟩:=b;unfold cK kS at h;injection h with h
 injection h with h1 h
 injection h with h2 _
 injection h2 with h2
 injection h2 with h2 h3
 injection h3 with h3 _
 injection h1 with h1
 injection h2 with h2
 injection h3 with h3
 dsimp only at h1 h2 h3;rw [h1,h2,h3]
theorem vT {ls:List Lock} (h:ls.Nodup):(ls.map cK).Nodup:=by
 induction ls with
 | nil=>simp
 | cons l r ih=>
  rw [List.nodup_cons] at h;rw [List.map_cons,List.nodup_cons];refine ⟨fun q=>?_,ih h.2⟩;obtain ⟨x,hx,e⟩:=List.mem_map.mp q;exact h.1 (zx e ▸ hx)
theorem Al {ls:List Lock} (h2:2≤ls.length) (h4:ls.length≤4) (nd:ls.Nodup) (hs:∀l∈ls,PyData.strOk l.1=true∧PyData.strOk l.2.1=true):k6 (ls.map aJ)=true:=by
 unfold k6;rw [qw h2 h4 hs,beq_iff_eq,List.length_map];have:fU (ls.map cK)=ls.map cK:=by
  have:=tw (ls.map cK) [] (fun d hd=>by
   rw [List.nil_append] at hd;obtain ⟨l,hl,rfl⟩:=List.mem_map.mp hd;obtain ⟨a,b⟩:=hs l hl;simp [cK,kS,plT,a,b]) (by simpa using vT nd)
  simpa [fU] using this
 rw [this,List.length_map]
structure Wr (W:Wd) (ns ps:List Str) (cts:List (Str×Int)):Prop where
 hn:∀w∈W.names,Wo w
 hd:∀w∈W.deeds,Wo w
 hp:∀w∈ps,Wo w
 hs:∀w∈W.names,w∈ns
 hc:∀(j:Nat) (d:Str) (qs:List Str),W.deeds[j]?=some d->W.params[j]?=some qs->cts.lookup d=some (qs.length:Int)
 h3:∀qs∈W.params,qs.length≤3
theorem yu (l:List Row):(bA l).length=l.length:=by rw [dB,List.length_map]
section
variable {W:Wd} {ns ps:List Str} {cts:List (Str×Int)} (E:Wr W ns ps cts)
include E
theorem ze {n:Nat} {r:Row} (h:cG W ps n r):j9 ns ps cts (Ao r)=true:=by
 cases r <;> rw [cG] at h
 case say w=>
  rcases List.mem_append.mp h with q | q
  ·exact (E.hn w q).word
  ·exact (E.hd w q).word
 case call d ts=>
  obtain ⟨⟨j,qs,h1,h2,h3⟩,h4⟩:=h;show qS ps (.tup (ts.map bg)) (cts.lookup d)=true;rw [E.hc j d qs h1 h2];show (((ts.map bg).length:Int)==(qs.length:Int)&&(ts.map bg).all (cE ps))=true;rw [List.length_map,h3,beq_self_eq_true,Bool.true_and,List.all_eq_true];intro x hx;obtain ⟨t,ht,rfl⟩:=List.mem_map.mp hx;exact pC E.hp (h4 t ht)
 case within l b=>exact uw E.hn E.hp E.hs h.1
 case ask l b e=>exact uw E.hn E.hp E.hs h.1
 case all ls b=>
  obtain ⟨⟨h2,h4,nd,hl⟩,_⟩:=h;show ((decide (2≤((ls.map aJ).length:Int))&&decide (((ls.map aJ).length:Int)≤4))&&((ls.map aJ).all (gr ns ps)&&k6 (ls.map aJ)))=true;rw [List.length_map,decide_eq_true (by lia),decide_eq_true (by lia),Al h2 h4 nd fun l h=>⟨vd (E.hn _ (hl l h).1).tm,(by
   rcases (hl l h).2.1 with e | e
   ·rw [e];exact vd Ap
   ·exact vd (E.hp _ e).tm)⟩]
  rw [Bool.and_true,Bool.and_true,Bool.true_and,List.all_eq_true];intro x hx;obtain ⟨t,ht,rfl⟩:=List.mem_map.mp hx;exact uw E.hn E.hp E.hs (hl t ht)
 case by_ s t a b c=>
  show (cE ps (bg s)&&cE ps (bg t))=true;rw [pC E.hp h.1,pC E.hp h.2.1];rfl
 case either a b=>rfl
 case again a=>rfl
theorem AQ (h:cG W ps n r):∀l∈fG r,n < 5∧l.length≤12∧bX W ps (n+1) l:=by
 intro x hx;cases r <;> simp [fG] at hx <;> rw [cG] at h
 case within l b=>subst hx;exact h.2
 case all l b=>subst hx;exact h.2
 case ask l b e=>
  obtain ⟨_,h5,h1,h2,h3,h4⟩:=h;rcases hx with rfl | rfl
  ·exact ⟨h5,h1,h3⟩
  ·exact ⟨h5,h2,h4⟩
 case by_ s t a b c=>
  obtain ⟨_,_,h5,h1,h2,h3,h4,h6,h7⟩:=h;rcases hx with rfl | rfl | rfl
  ·exact ⟨h5,h1,h4⟩
  ·exact ⟨h5,h2,h6⟩
  ·exact ⟨h5,h3,h7⟩
 case either a b=>
  obtain ⟨h5,h1,h2,h3,h4⟩:=h;rcases hx with rfl | rfl
  ·exact ⟨h5,h1,h3⟩
  ·exact ⟨h5,h2,h4⟩
 case again a=>subst hx;exact h
omit E in
theorem C1 (r:Row) (hf:∀l∈fG r,f (.tup (bA l))=bZ l):1+((Ao r).bY.map f).sum=cnt r:=by
 have:cnt r=1+((fG r).map bZ).sum:=by cases r <;> simp [cnt,fG] <;> lia
 rw [this,sj,List.map_map];congr 2;exact List.map_congr_left hf
theorem uv:∀(k n:Nat) (l:List Row),n+k=6->1≤k->bX W ps n l->l.length≤12->cM ns ps cts k (.tup (bA l))=true∧bw k (.tup (bA l))=bZ l
 | 0,_,_,_,h,_,_=>by lia
 | k+1,n,l,e,_,h,hl=>by
  have hr:=n6 h;have inner:∀r∈l,∀l'∈fG r,cM ns ps cts k (.tup (bA l'))=true∧bw k (.tup (bA l'))=bZ l':=fun r hm l' hx=>by
   obtain ⟨h5,h12,ho⟩:=AQ E (hr r hm) l' hx;exact uv k (n+1) l' (by lia) (by lia) ho h12
  constructor
  ·show (decide (((bA l).length:Int)≤12)&&(bA l).all (g8 ns ps cts (cM ns ps cts k)))=true;rw [yu,decide_eq_true (by lia),Bool.true_and,List.all_eq_true];intro x hx;rw [dB] at hx;obtain ⟨r,hm,rfl⟩:=List.mem_map.mp hx;unfold g8;rw [vo];dsimp only;rw [ze E (hr r hm),Bool.true_and,List.all_eq_true];intro y hy;rw [sj] at hy;obtain ⟨l',hl',rfl⟩:=List.mem_map.mp hy;exact (inner r hm l' hl').1
  ·show ((bA l).map (fF (bw k))).sum=bZ l;rw [dB,List.map_map];have:∀l':List Row,(∀r∈l',r∈l)->(l'.map (fF (bw k)∘bP)).sum=bZ l':=by
    intro l'
    induction l' with
    | nil=>intro _;simp [bZ]
    | cons r rs ih=>
     intro hs;rw [List.map_cons,List.sum_cons,ih fun x hx=>hs x (List.mem_cons_of_mem _ hx),bZ];congr 1;show fF (bw k) (bP r)=cnt r;unfold fF;rw [vo];exact C1 r fun l' hl'=>(inner r (hs r List.mem_cons_self) l' hl').2
   exact this l fun _ h=>h
end
mutual
noncomputable def dpD:D->Nat
 | .tup xs=>1+dpL xs
 | .lv xs=>1+dpL xs
 | _=>0
noncomputable def dpL:List D->Nat
 | []=>0
 | x::r=>max (dpD x) (dpL r)
end
mutual
noncomputable def szD:D->Nat
 | .tup xs=>1+szL xs
 | _=>1
noncomputable def szL:List D->Nat
 | []=>0
 | x::r=>szD x+szL r
end
theorem B6:∀{xs:List D},(∀x∈xs,dpD x≤n)->dpL xs≤n
 | [],_=>by simp [dpL]
 | x::r,h=>by
  have:=B6 (xs:=r) fun y hy=>h y (List.mem_cons_of_mem _ hy);have:=h x List.mem_cons_self;rw [dpL];lia
theorem lT:∀{xs:List D},x∈xs->dpD x≤dpL xs
 | y::r,h=>by
  rw [dpL];rcases List.mem_cons.mp h with rfl | h
  ·lia
  ·have:=lT h;lia
theorem lS (h:∀x∈xs,dpD x≤n):dpD (.tup xs)≤n+1:=by
 have:=B6 h;rw [dpD];lia
theorem l9:∀xs:List D,szL xs=(xs.map szD).sum
 | []=>rfl
 | x::r=>by rw [szL,l9 r];rfl
theorem tJ (xs ys:List D):szL (xs++ys)=szL xs+szL ys:=by rw [l9,l9,l9,List.map_append,List.sum_append]
theorem Aw (h:∀x∈xs,szD x≤n):szL xs≤xs.length*n:=by rw [l9];exact ny h
structure Gd (d:D) (p s:Nat):Prop where
 tm:tmN 12 d=true
 dp:dpD d≤p
 sz:szD d≤s
theorem Gd.up (g:Gd d p s) (h1:p≤p') (h2:s≤s'):Gd d p' s':=⟨g.tm,Nat.le_trans g.dp h1,Nat.le_trans g.sz h2⟩
theorem Gd.tup (hl:xs.length≤12) (h:∀x∈xs,Gd x p s):Gd (.tup xs) (p+1) (1+xs.length*s):=
 ⟨iC hl fun x hx=>(h x hx).tm,lS fun x hx=>(h x hx).dp,by rw [szD];have:=Aw fun x hx=>(h x hx).sz;lia⟩
theorem Gd.word (h:Wo w):Gd (.str w) 0 1:=⟨h.tm,by simp [dpD],by simp [szD]⟩
noncomputable def hdR:Row->List D
 | .say w=>[.str w]
 | .call d ts=>[.str d,.tup (ts.map bg)]
 | .within l _=>[aJ l]
 | .all ls _=>[.tup (ls.map aJ)]
 | .ask l _ _=>[aJ l]
 | .by_ s t _ _ _=>[bg s,bg t]
 | .either _ _=>[]
 | .again _=>[]
noncomputable def ED:Row->Str
 | .say _=>"say"
 | .call _ _=>"call"
 | .within _ _=>"within"
 | .all _ _=>"all"
 | .ask _ _ _=>"ask"
 | .by_ _ _ _ _ _=>"by"
 | .either _ _=>"either"
 | .again _=>"again"
theorem zd (r:Row):bP r=.tup (.str (ED r)::(hdR r++(fG r).map fun l=>.tup (bA l))):=by cases r <;> rw [bP] <;> rfl
theorem yj (r:Row):Gd (.str (ED r)) 0 1:=by
 refine ⟨?_,by simp [dpD],by simp [szD]⟩;cases r <;> kernel_rfl
section
variable {W:Wd} {ns ps:List Str} {cts:List (Str×Int)} (E:Wr W ns ps cts)
include E
theorem pD (h:eP ps t):Gd (bg t) 1 3:=by
 refine (Gd.tup (p:=0) (s:=1) (by simp) fun x hx=>?_).up (by lia) (by simp);simp at hx;rcases hx with rfl | rfl
 ·refine ⟨?_,by simp [dpD],by simp [szD]⟩;rcases h.1 with e | e
  ·rw [e];exact Ap
  ·exact (E.hp _ e).tm
 ·exact ⟨rfl,by simp [dpD],by simp [szD]⟩
theorem ux (h:fu W ps t):Gd (aJ t) 2 7:=by
 refine (Gd.tup (p:=1) (s:=3) (by simp) fun x hx=>?_).up (by lia) (by simp);simp at hx;rcases hx with rfl | rfl
 ·exact (Gd.word (E.hn _ h.1)).up (by lia) (by lia)
 ·exact pD E h.2
theorem ID (h:cG W ps n r):∀x∈hdR r,Gd x 3 30:=by
 intro x hx;cases r <;> simp [hdR] at hx <;> rw [cG] at h
 case say w=>
  subst hx;refine (Gd.word ?_).up (by lia) (by lia);rcases List.mem_append.mp h with q | q
  ·exact E.hn w q
  ·exact E.hd w q
 case call d ts=>
  obtain ⟨⟨j,qs,h1,h2,h3⟩,h4⟩:=h;have:=E.h3 qs (List.mem_of_getElem? h2);rcases hx with rfl | rfl
  ·exact (Gd.word (E.hd d (List.mem_of_getElem? h1))).up (by lia) (by lia)
  ·refine (Gd.tup (p:=1) (s:=3) (by rw [List.length_map];lia) fun x hx=>?_).up (by lia) (by rw [List.length_map];lia);obtain ⟨t,ht,rfl⟩:=List.mem_map.mp hx;exact pD E (h4 t ht)
 case within l b=>subst hx;exact (ux E h.1).up (by lia) (by lia)
 case ask l b e=>subst hx;exact (ux E h.1).up (by lia) (by lia)
 case all ls b=>
  subst hx;refine (Gd.tup (p:=2) (s:=7) (by rw [List.length_map];lia) fun x hx=>?_).up (by lia) (by rw [List.length_map];lia);obtain ⟨t,ht,rfl⟩:=List.mem_map.mp hx;exact ux E (h.1.2.2.2 t ht)
 case by_ s t a b c=>
  rcases hx with rfl | rfl
  ·exact (pD E h.1).up (by lia) (by lia)
  ·exact (pD E h.2.1).up (by lia) (by lia)
omit E in
theorem GR (r:Row):(hdR r).length≤2∧(fG r).length≤3:=by cases r <;> simp [hdR,fG]
theorem BB:∀(k n:Nat) (l:List Row),n+k=6->1≤k->bX W ps n l->l.length≤12->Gd (.tup (bA l)) (2*k+4) (1+70*bZ l)
 | 0,_,_,_,h,_,_=>by lia
 | k+1,n,l,e,_,h,hl=>by
  have hr:=n6 h;have row:∀r∈l,Gd (bP r) (2*k+5) (70*cnt r):=fun r hm=>by
   have hh:=ID E (hr r hm);obtain ⟨l1,l2⟩:=GR r;have hlot:∀l'∈fG r,Gd (.tup (bA l')) (2*k+4) (1+70*bZ l'):=fun l' hx=>by
    obtain ⟨h5,h12,ho⟩:=AQ E (hr r hm) l' hx;exact BB k (n+1) l' (by lia) (by lia) ho h12
   rw [zd];refine ⟨iC (by simp;lia) fun x hx=>?_,lS fun x hx=>?_,?_⟩
   ·rcases List.mem_cons.mp hx with rfl | hx
    ·exact (yj r).tm
    ·rcases List.mem_append.mp hx with hx | hx
     ·exact (hh x hx).tm
     ·obtain ⟨l',hl',rfl⟩:=List.mem_map.mp hx;exact (hlot l' hl').tm
   ·rcases List.mem_cons.mp hx with rfl | hx
    ·simp [dpD]
    ·rcases List.mem_append.mp hx with hx | hx
     ·have:=(hh x hx).dp;lia
     ·obtain ⟨l',hl',rfl⟩:=List.mem_map.mp hx;exact (hlot l' hl').dp
   ·rw [szD,szL,tJ];have a1:=(yj r).sz;have a2:=Aw fun x hx=>(hh x hx).sz;have a3:szL ((fG r).map fun l=>D.tup (bA l))≤(fG r).length+70*((fG r).map bZ).sum:=by
     clear hh l1 l2 a1 a2;generalize fG r=ls at hlot ⊢
     induction ls with
     | nil=>simp [szL]
     | cons x xs ih=>
      have b1:=(hlot x List.mem_cons_self).sz;have b2:=ih fun y hy=>hlot y (List.mem_cons_of_mem _ hy);simp only [List.map_cons,szL,List.length_cons,List.sum_cons]
      lia
    have a4:cnt r=1+((fG r).map bZ).sum:=by cases r <;> simp [cnt,fG] <;> lia
    have a5:(hdR r).length*30≤60:=by lia
    lia
  refine ⟨iC (by rw [yu];lia) fun x hx=>?_,lS fun x hx=>?_,?_⟩
  ·rw [dB] at hx;obtain ⟨r,hm,rfl⟩:=List.mem_map.mp hx;exact (row r hm).tm
  ·rw [dB] at hx;obtain ⟨r,hm,rfl⟩:=List.mem_map.mp hx;exact (row r hm).dp
  ·rw [szD,dB];have:∀l':List Row,(∀r∈l',r∈l)->szL (l'.map bP)≤70*bZ l':=by
    intro l'
    induction l' with
    | nil=>intro _;simp [szL]
    | cons r rs ih=>
     intro hs;have b1:=ih fun x hx=>hs x (List.mem_cons_of_mem _ hx);have b2:=(row r (hs r List.mem_cons_self)).sz;rw [List.map_cons,szL,bZ]
     lia
   have:=this l fun _ h=>h
   lia
end
theorem vV:∀{a b:List α},a.length=b.length->(∀(j:Nat) x,a[j]?=some x->b[j]?=some x)->a=b
 | [],[],_,_=>rfl
 | [],_::_,h,_=>by simp at h
 | _::_,[],h,_=>by simp at h
 | x::a,y::b,h,q=>by
  have h0:=q 0 x rfl;simp at h0;rw [h0,vV (a:=a) (b:=b) (by simpa using h) fun j z hz=>by simpa using q (j+1) z (by simpa using hz)]
theorem y8 (ws:List Str):cx (cx ws)=cx ws:=
 List.Perm.eq_of_pairwise (fun a b _ _=>vW a b) (iF _) (iF _) (bV _)
theorem lookup_at {α β:Type} {f:α->Str} {g:α->β}:∀{l:List α} {j:Nat} {x:α},(l.map f).Nodup->l[j]?=some x->(l.map fun y=>(f y,g y)).lookup (f x)=some (g x)
 | y::r,0,x,_,h=>by simp at h;subst h;rw [List.map_cons,il,if_pos rfl]
 | y::r,j+1,x,nd,h=>by
  rw [List.map_cons,List.nodup_cons] at nd;have hx:r[j]?=some x:=by simpa using h
  have:¬f x=f y:=fun e=>nd.1 (e ▸ List.mem_map.mpr ⟨x,List.mem_of_getElem? hx,rfl⟩);rw [List.map_cons,il,if_neg this];exact lookup_at nd.2 hx
section
variable {W:Wd} {fl:List Int} {odd:Int} {P:Prog} {m:Nat} (ok:WdOk W fl odd) (o:OkP W m P)
include ok o
theorem wt:P.deeds.map (·.1)=W.deeds:=vV (by rw [List.length_map];exact o.dl) fun j x hx=>by
 rw [List.getElem?_map] at hx;obtain ⟨d,e1,e2⟩:=mpd hx;have:=(o.dd j d e1).1;rw [←e2];exact this
theorem zL:(P.deeds.map eY).map (fun x=>strOfD (i5 x))=W.deeds:=by
 rw [List.map_map,←wt ok o];rfl
theorem xQ {j:Nat} {d:oy} (hj:P.deeds[j]?=some d):Wr W P.names d.2.1 (cn (P.deeds.map eY)) where
 hn:=ok.sn
 hd:=ok.sd
 hp:=fun w hw=>ok.sp d.2.1 (List.mem_of_getElem? (o.dd j d hj).2.1) w hw
 hs:=fun w hw=>by rw [o.nm];exact (bV _).mem_iff.mpr hw
 h3:=ok.p3
 hc:=fun i e qs h1 h2=>by
  have hi:i < P.deeds.length:=by rw [o.dl];exact (List.getElem?_eq_some_iff.mp h1).1
  have hx:P.deeds[i]?=some P.deeds[i]:=List.getElem?_eq_getElem hi;obtain ⟨a1,a2,_⟩:=o.dd i _ hx;rw [a1] at h1;rw [a2] at h2;cases h1;cases h2;have:=lookup_at (f:=fun d:oy=>d.1) (g:=fun d:oy=>(d.2.1.length:Int)) (by rw [wt ok o];exact ok.nd) hx;unfold cn;rw [List.map_map];refine Eq.trans ?_ this;congr 1;refine List.map_congr_left fun d _=>?_;show (d.1,((d.2.1.map D.str).length:Int))=_;rw [List.length_map]
theorem xl:gq (.tup (P.names.map D.str))=true:=by
 have hl:=(bV W.names).length_eq;have n1:=ok.n1;have n2:=ok.n2;show (((decide _&&decide _)&&(_&&_))&&vp (P.names.map D.str))=true;rw [iO,o.nm,y8,decide_eq_true rfl,Bool.and_true,List.length_map,hl,decide_eq_true (by lia),decide_eq_true (by lia),(pB (by lia)).mpr ((bV _).nodup_iff.mpr ok.nn),Bool.and_true,Bool.true_and,Bool.and_true,List.all_eq_true];intro x hx;obtain ⟨w,hw,rfl⟩:=List.mem_map.mp hx;exact Wo.word (ok.sn w ((bV _).mem_iff.mp hw))
theorem zU {j:Nat} {d:oy} (hj:P.deeds[j]?=some d):gL (eY d)=true:=by
 obtain ⟨a1,a2,_⟩:=o.dd j d hj;have hm:=List.mem_of_getElem? a2;have h3:=ok.p3 _ hm;unfold gL;rw [Bool.and_eq_true,Bool.and_eq_true];refine ⟨rfl,Wo.word (ok.sd _ (List.mem_of_getElem? a1)),?_⟩;show ((decide _&&decide _)&&(_&&_))=true;rw [List.length_map,decide_eq_true (by lia),decide_eq_true (by lia),(pB (by lia)).mpr (ok.np _ hm),Bool.and_true,Bool.true_and,Bool.and_true,List.all_eq_true];intro x hx;obtain ⟨w,hw,rfl⟩:=List.mem_map.mp hx;exact Wo.word (ok.sp _ hm w hw)
theorem xm:dU (.tup (P.deeds.map eY))=true:=by
 have d1:=ok.d1;have d2:=ok.d2;have dl:=o.dl;rw [sO (by rw [List.length_map];lia),zL ok o,decide_eq_true ok.nd,List.length_map,decide_eq_true (by lia),decide_eq_true (by lia),Bool.and_true,Bool.true_and,Bool.and_true,List.all_eq_true];intro x hx;obtain ⟨d,hd,rfl⟩:=List.mem_map.mp hx;obtain ⟨j,hj⟩:=List.getElem?_of_mem hd;exact zU ok o hj
theorem zi:gO (P.deeds.map eY)=(P.deeds.map fun d=>bZ d.2.2).sum:=by
 unfold gO;rw [List.map_map];congr 1;refine List.map_congr_left fun d hd=>?_;obtain ⟨j,hj⟩:=List.getElem?_of_mem hd;obtain ⟨_,_,a3,a4⟩:=o.dd j d hj;exact (uv (xQ ok o hj) 5 1 d.2.2 rfl (by decide) a3 a4).2
theorem Du (hm:m≤60):sC (eX P)=true:=by
 show (_&&_&&(kZ _ _&&decide (gO _≤60)))=true;rw [xl ok o,xm ok o,zi ok o,decide_eq_true (Nat.le_trans o.ct hm),Bool.and_true,Bool.true_and,Bool.and_true];unfold kZ;rw [fb,List.all_eq_true];intro x hx;obtain ⟨d,hd,rfl⟩:=List.mem_map.mp hx;obtain ⟨j,hj⟩:=List.getElem?_of_mem hd;obtain ⟨_,_,a3,a4⟩:=o.dd j d hj;show cM P.names (strsOf (.tup (d.2.1.map D.str))) _ 5 (.tup (bA d.2.2))=true;rw [fb];exact (uv (xQ ok o hj) 5 1 d.2.2 rfl (by decide) a3 a4).1
theorem Dv (hm:m≤60):Gd (eX P) 17 5000:=by
 have d2:=ok.d2;have dl:=o.dl;have hl:=(bV W.names).length_eq;have n2:=ok.n2;have names:Gd (.tup (P.names.map D.str)) 1 7:=by
  refine (Gd.tup (p:=0) (s:=1) (by rw [List.length_map,o.nm];lia) fun x hx=>?_).up (by lia) (by rw [List.length_map,o.nm];lia);obtain ⟨w,hw,rfl⟩:=List.mem_map.mp hx;exact Gd.word (ok.sn w ((bV _).mem_iff.mp (o.nm ▸ hw)))
 have deed:∀d∈P.deeds,Gd (eY d) 15 (7+70*bZ d.2.2):=fun d hd=>by
  obtain ⟨j,hj⟩:=List.getElem?_of_mem hd;obtain ⟨a1,a2,a3,a4⟩:=o.dd j d hj;have g:=BB (xQ ok o hj) 5 1 d.2.2 rfl (by decide) a3 a4;have hpm:=List.mem_of_getElem? a2;have h3:=ok.p3 _ hpm;have gw:Gd (.str d.1) 0 1:=Gd.word (ok.sd _ (List.mem_of_getElem? a1));have gp:Gd (.tup (d.2.1.map D.str)) 1 4:=by
   refine (Gd.tup (p:=0) (s:=1) (by rw [List.length_map];lia) fun x hx=>?_).up (by lia) (by rw [List.length_map];lia);obtain ⟨w,hw,rfl⟩:=List.mem_map.mp hx;exact Gd.word (ok.sp _ hpm w hw)
  refine ⟨iC (by simp) fun x hx=>?_,lS fun x hx=>?_,?_⟩
  ·simp at hx;rcases hx with rfl | rfl | rfl
   ·exact gw.tm
   ·exact gp.tm
   ·exact g.tm
  ·simp at hx;rcases hx with rfl | rfl | rfl
   ·have:=gw.dp;lia
   ·have:=gp.dp;lia
   ·exact g.dp
  ·have:=gw.sz;have:=gp.sz;have:=g.sz;unfold eY;simp only [szD,szL] at*
   lia
 have deeds:Gd (.tup (P.deeds.map eY)) 16 4300:=by
  refine ⟨iC (by rw [List.length_map];lia) fun x hx=>?_,lS fun x hx=>?_,?_⟩
  ·obtain ⟨d,hd,rfl⟩:=List.mem_map.mp hx;exact (deed d hd).tm
  ·obtain ⟨d,hd,rfl⟩:=List.mem_map.mp hx;exact (deed d hd).dp
  ·have:∀l:List oy,(∀d∈l,d∈P.deeds)->szL (l.map eY)≤7*l.length+70*(l.map fun d=>bZ d.2.2).sum:=by
    intro l
    induction l with
    | nil=>intro _;simp [szL]
    | cons d r ih=>
     intro hs;have b1:=ih fun x hx=>hs x (List.mem_cons_of_mem _ hx);have b2:=(deed d (hs d List.mem_cons_self)).sz;simp only [List.map_cons,szL,List.length_cons,List.sum_cons]
     lia
   have:=this P.deeds fun _ h=>h;have:=o.ct;rw [szD]
   lia
 refine ⟨iC (by simp) fun x hx=>?_,lS fun x hx=>?_,?_⟩
 ·simp at hx;rcases hx with rfl | rfl
  ·exact names.tm
  ·exact deeds.tm
 ·simp at hx;rcases hx with rfl | rfl
  ·have:=names.dp;lia
  ·exact deeds.dp
 ·have:=names.sz;have:=deeds.sz;unfold eX;simp only [szD,szL] at*
  lia
end
mutual
theorem dH (h:m≤m'):∀d:D,tmN m d=true->tmN m' d=true
 | .non,_=>rfl
 | .bl _,_=>rfl
 | .int _,_=>rfl
 | .str s,t=>by rw [tmN] at t ⊢;exact t
 | .tup xs,t=>by
  rw [tmN,Bool.and_eq_true] at t ⊢;exact ⟨decide_eq_true (Nat.le_trans (of_decide_eq_true t.1) h),pS h xs t.2⟩
 | .lv xs,t=>by
  rw [tmN,Bool.and_eq_true] at t ⊢;exact ⟨decide_eq_true (Nat.le_trans (of_decide_eq_true t.1) h),pS h xs t.2⟩
 | .dv kvs,t=>by rw [tmN] at t ⊢;exact t
 | .ty _,t=>by cases t
 | .ro _,t=>by cases t
 | .ob _,t=>by cases t
theorem pS (h:m≤m'):∀xs:List D,tmL m xs=true->tmL m' xs=true
 | [],_=>by rw [tmL]
 | x::r,t=>by
  rw [tmL,Bool.and_eq_true] at t ⊢;exact ⟨dH h x t.1,pS h r t.2⟩
end
mutual
noncomputable def bo:D->List D
 | .tup xs=>.tup xs::cZ xs
 | d=>[d]
noncomputable def cZ:List D->List D
 | []=>[]
 | x::r=>bo x++cZ r
end
mutual
theorem nW:∀d:D,(bo d).length=szD d
 | .tup xs=>by rw [bo,szD,List.length_cons,lF xs];lia
 | .non=>by simp [bo,szD]
 | .bl _=>by simp [bo,szD]
 | .int _=>by simp [bo,szD]
 | .str _=>by simp [bo,szD]
 | .lv _=>by simp [bo,szD]
 | .dv _=>by simp [bo,szD]
 | .ty _=>by simp [bo,szD]
 | .ro _=>by simp [bo,szD]
 | .ob _=>by simp [bo,szD]
theorem lF:∀xs:List D,(cZ xs).length=szL xs
 | []=>by simp [cZ,szL]
 | x::r=>by rw [cZ,szL,List.length_append,nW x,lF r]
end
def Tp (m p:Nat) (d:D):Prop:=tmN m d=true∧dpD d≤p
mutual
theorem vL:∀d:D,Tp m p d->∀x∈bo d,Tp m p x
 | .tup xs,h,x,hx=>by
  rw [bo] at hx;rcases List.mem_cons.mp hx with rfl | hx
  ·exact h
  ·refine sD xs (fun y hy=>⟨(aU h.1).2 y hy,?_⟩) x hx;have:=lT hy;have:=h.2;rw [dpD] at this
   lia
 | .non,h,x,hx=>by simp [bo] at hx;subst hx;exact h
 | .bl _,h,x,hx=>by simp [bo] at hx;subst hx;exact h
 | .int _,h,x,hx=>by simp [bo] at hx;subst hx;exact h
 | .str _,h,x,hx=>by simp [bo] at hx;subst hx;exact h
 | .lv _,h,x,hx=>by simp [bo] at hx;subst hx;exact h
 | .dv _,h,x,hx=>by simp [bo] at hx;subst hx;exact h
 | .ty _,h,x,hx=>by simp [bo] at hx;subst hx;exact h
 | .ro _,h,x,hx=>by simp [bo] at hx;subst hx;exact h
 | .ob _,h,x,hx=>by simp [bo] at hx;subst hx;exact h
theorem sD:∀xs:List D,(∀x∈xs,Tp m p x)->∀x∈cZ xs,Tp m p x
 | [],_,x,hx=>by simp [cZ] at hx
 | y::r,h,x,hx=>by
  rw [cZ] at hx;rcases List.mem_append.mp hx with hx | hx
  ·exact vL y (h y List.mem_cons_self) x hx
  ·exact sD r (fun z hz=>h z (List.mem_cons_of_mem _ hz)) x hx
end
theorem xp (h:BI d=false):bo d=[d]:=by cases d <;> first | rfl | (cases h) | simp [bo]
theorem kE (hl:xs.length+ys.length≤1000000):aS (.lv xs) (.lv ys) h=some (.lv (xs++ys),h):=by
 show (if xs.length+ys.length≤sizeLine then some (D.lv (xs++ys),h) else none)=_;rw [if_pos (by rw [show sizeLine=16777216 from rfl];lia)]
theorem mG:∀(f:Nat) (d:D) (h:MH),tmD d=true->dpD d < f->szD d≤10000->dm f [d] h=some (.lv (bo d),h)
 | 0,_,_,_,h,_=>by lia
 | f+1,d,h,t,hd,hs=>by
  refine cm (bt ?_);walk_at "r";refine rv (bJ t) ⟨_,rfl,fun z=>?_,fun z=>?_⟩
  ·cases d with
   | tup xs=>
    obtain ⟨hl,ht⟩:=aU t;have hz:szL xs≤10000:=by rw [szD] at hs;lia
    walk_at "r";refine dQ ?_;walk_at "r";refine ⟨_,_,rfl,?_⟩;have tk:∀(i:Nat) (x:D),xs[i]?=some x->cZ (xs.take (i+1))=cZ (xs.take i)++bo x:=fun i x hx=>by
     rw [take_snoc hx];have:∀l:List D,cZ (l++[x])=cZ l++bo x:=by
      intro l
      induction l with
      | nil=>simp [cZ]
      | cons y r ih=>rw [List.cons_append,cZ,ih,cZ,List.append_assoc]
     exact this _
    have szt:∀i,szL (xs.take i)≤szL xs:=fun i=>by
     have:=tJ (xs.take i) (xs.drop i);rw [List.take_append_drop] at this
     lia
    refine dR (fun i δ h'=>h'=h∧∃v2:Option D,δ=[some (.tup xs),some (.lv (.tup xs::cZ (xs.take i))),v2]) ⟨rfl,none,by simp [cZ];rfl⟩ (fun _ _ _ _ _=>rfl) ?_ ?_
    ·rintro i x δ h' hx ⟨rfl,v2,rfl⟩;have hm:=List.mem_of_getElem? hx;have hdx:=lT hm;have hdd:1+dpL xs < f+1:=by rw [dpD] at hd;exact hd
     have szx:szL (xs.take i)+szD x≤szL xs:=by
      have h1:=szt (i+1);rw [take_snoc hx,tJ] at h1;simp only [szL] at h1
      lia
     walk_at "r";refine rv (mG f x h' (ht x hm) (by lia) (by lia)) ?_;walk_at "r";refine rv (kE (by rw [List.length_cons,lF,nW];lia)) ?_;walk_at "r";refine ⟨rfl,some x,?_⟩;rw [tk i x hx];rfl
    ·rintro δ h' ⟨rfl,v2,rfl⟩;rw [List.take_length];walk_at "r";rw [bo]
   | _=>cases z
  ·walk_at "r";rw [xp z]
theorem dM (xs:List D) (lo hi:Option Int) (h:MH):∃ys,we (.tup xs) lo hi h=some (.tup ys,h)∧(∀y∈ys,y∈xs)∧ys.length≤xs.length:=by
 unfold we;dsimp only
 split
 ·exact ⟨xs,rfl,fun _ h=>h,Nat.le_refl _⟩
 ·refine ⟨cutD xs lo hi,rfl,fun y hy=>?_,?_⟩
  ·unfold cutD at hy;exact List.mem_of_mem_drop (List.mem_of_mem_take hy)
  ·unfold cutD;rw [List.length_take,List.length_drop]
   lia
theorem wM (hl:xs.length≤m) (h:∀x∈xs,Tp m p x):Tp m (p+1) (.tup xs):=⟨iC hl fun x hx=>(h x hx).1,lS fun x hx=>(h x hx).2⟩
theorem Tp.up (t:Tp m p d) (h1:m≤m') (h2:p≤p'):Tp m' p' d:=⟨dH h1 d t.1,Nat.le_trans t.2 h2⟩
noncomputable def rV:List D:=[.non,.int 0,.int 100,.int (-100),.bl true,.str (Str.ofString ""),.str (Str.ofString "Ab"),.str (Str.ofString "abcdefghi"),.str (Str.ofString "zz"),.tup [],.lv [],.dv [],.tup [.str (Str.ofString ""),.int 0],.tup [.str (Str.ofString "zz"),.int 0],.tup [.str (Str.ofString "say"),.str (Str.ofString "zz")]]
noncomputable def vO:List D:=[.tup [.str (Str.ofString "again"),.tup []],.tup [.str (Str.ofString "either"),.tup [],.tup []],.tup [.str (Str.ofString "by"),.tup [.str (Str.ofString ""),.int 0],.tup [.str (Str.ofString ""),.bl true],.tup [],.tup [],.tup []],.tup [.str (Str.ofString "call"),.str (Str.ofString "zz"),.tup []]]
theorem Gp:∀x∈rV++vO,Tp 12 3 x:=by
 have:(rV++vO).all (fun x=>tmN 12 x&&decide (dpD x≤3))=true:=by kernel_rfl
 intro x hx;have:=List.all_eq_true.mp this x hx;rw [Bool.and_eq_true] at this;exact ⟨this.1,of_decide_eq_true this.2⟩
section
variable {s c:Nat} {cs:List Int}
theorem Er {Q:D×MH->Prop} (A:Sb s c cs h0 (R+4) h) (hm:12≤m) (hm2:m≤300) (td:tmN m d=true) (hy:∀y∈ys,Tp m 17 y) (l0:0 < ys.length) (l1:ys.length≤10000) (k:∀(x:D) (h1:MH),Tp (3*m) (dpD d+18) x->Sb s c cs h0 R h1->Q (x,h1)):Rn (eV [.ob s,d,.lv ys] h) Q:=by
 have t1:tmD d=true:=dH (by lia) d td;have fin:∀(L:List D) (h2:MH) (v4:Option D),Sb s c cs h0 (R+3) h2->0 < L.length->L.length≤100->(∀x∈L,Tp (3*m) (dpD d+18) x)->
   Rn (aF (eFn aH (ab (ae 0) (ab (eLv (ab (eFn aH (ab (ae 0) (ab (ae 3) aj))) (ab (eFn aH (ab (ae 0) (ab (ae 2) aj))) aj))) aj))) [some (.ob s),some d,some (.lv ys),some (.lv L),v4] h2) (AV Q):=by
  intro L h2 v4 A2 n0 n1 hL;walk_at "r";refine x5 A2 (.inl rfl) n0 (by lia) fun a h3 ha A3=>?_;walk_at "r";refine x5 A3 (.inl rfl) l0 (by lia) fun b h4 hb A4=>?_;walk_at "r";refine x5 (xs:=[a,b]) A4 (.inl rfl) (by simp) (by simp) fun x h5 hx A5=>?_;walk_at "r";refine k x h5 ?_ A5;simp at hx;rcases hx with rfl | rfl
  ·exact hL _ ha
  ·exact (hy _ hb).up (by lia) (by lia)
 have odd3:∀x∈rV++vO,Tp (3*m) (dpD d+18) x:=fun x hx=>(Gp x hx).up (by lia) (by lia);refine bt (dq (qf (r_k (ie (dq (qf (xh ?_)))))));walk_at "r";refine rv (kE (xs:=rV) (ys:=vO) (by decide)) ?_;refine ie (dq (Rn.imp (Q:=fun r=>∃(L:List D) (h2:MH) (v4:Option D),r=(Fl.nx,[some (.ob s),some d,some (.lv ys),some (.lv L),v4],h2)∧Sb s c cs h0 (R+3) h2∧0 < L.length∧L.length≤100∧∀x∈L,Tp (3*m) (dpD d+18) x) ?_ ?_));rotate_left
 ·rintro _ ⟨L,h2,v4,rfl,A2,n0,n1,hL⟩;exact fin L h2 v4 A2 n0 n1 hL
 have idle:∃(L:List D) (h2:MH) (v4:Option D),(Fl.nx,(List.set (List.set (entry 5 [D.ob s,d,D.lv ys]) 3 (some (D.lv rV))) 3 (some (D.lv (rV++vO)))),h)=(Fl.nx,[some (.ob s),some d,some (.lv ys),some (.lv L),v4],h2)∧Sb s c cs h0 (R+3) h2∧0 < L.length∧L.length≤100∧∀x∈L,Tp (3*m) (dpD d+18) x:=⟨_,h,none,rfl,A.dn 1,by decide,by decide,odd3⟩;walk_at "r";refine rv (bJ t1) ⟨_,rfl,fun z=>?_,fun z=>?_⟩
 ·cases d with
  | tup xs=>
   obtain ⟨hl,ht⟩:=aU td;have hdp:dpD (.tup xs)=1+dpL xs:=by rw [dpD]
   have big:∀zs:List D,zs.length≤3*m->(∀z∈zs,z∈xs)->Tp (3*m) (dpD (.tup xs)+18) (.tup zs):=fun zs l3 hz=>by
    have:=wM (m:=3*m) (p:=dpL xs) l3 fun z h=>⟨dH (by lia) z (ht z (hz z h)),lT (hz z h)⟩;exact this.up (by lia) (by lia)
   walk_at "r";refine ⟨_,rfl,fun y=>?_,fun y=>?_⟩
   ·have y:(0:Int) < xs.length:=of_decide_eq_true y;walk_at "r";refine dz A y (by lia) fun r h2 r0 r1 A2=>?_;walk_at "r";obtain ⟨y1,q1,a1,l1⟩:=dM xs none (some r) h2;obtain ⟨y2,q2,a2,l2⟩:=dM xs (some (r+1)) none h2;obtain ⟨y3,q3,a3,l3⟩:=dM xs (some r) (some (r+1)) h2;obtain ⟨y4,q4,a4,l4⟩:=dM xs (some r) none h2;obtain ⟨y5,q5,a5,l5⟩:=dM xs none (some r) h2;refine ⟨_,rfl,?_⟩;refine rv q1 ?_;walk_at "r";refine ⟨_,rfl,?_⟩;walk_at "r";refine rv q2 ?_;refine rv (sQ (by lia)) ?_;walk_at "r";refine ⟨_,rfl,?_⟩;walk_at "r";refine ⟨_,rfl,?_⟩;refine rv q3 ?_;refine rv (sQ (by lia)) ?_;walk_at "r";refine ⟨_,rfl,?_⟩;walk_at "r";refine rv q4 ?_;walk_at "r";refine ⟨_,rfl,?_⟩;refine rv q5 ?_;refine rv (sQ (by lia)) ?_;walk_at "r";refine rv (kE (by simp [rV,vO])) ?_;walk_at "r";refine xi ?_;walk_at "r";refine ⟨_,_,_,rfl,rfl,?_⟩;walk_at "r";refine Dk ?_;walk_at "r";refine ⟨rfl,_,_,rfl,?_⟩;walk_at "r";refine rv (kE (by simp [rV,vO])) ?_;walk_at "r";refine ⟨_,h2,_,rfl,A2,by simp [rV],by simp [rV,vO],fun x hx=>?_⟩;rcases List.mem_append.mp hx with hx | hx
    ·rcases List.mem_append.mp hx with hx | hx
     ·exact odd3 x hx
     ·simp at hx;rcases hx with rfl | rfl | rfl
      ·exact big _ (by simp;lia) fun z hz=>(List.mem_append.mp hz).elim (a1 z) (a2 z)
      ·exact big _ (by simp;lia) fun z hz=>(List.mem_append.mp hz).elim id (a3 z)
      ·exact big _ (by simp;lia) fun z hz=>(List.mem_append.mp hz).elim (a4 z) (a5 z)
    ·simp at hx;rcases hx with rfl | rfl | rfl
     ·refine ⟨?_,?_⟩
      ·show tmN (3*m) (.lv xs)=true;rw [tmN,Bool.and_eq_true,lY];exact ⟨decide_eq_true (by lia),fun x hx=>dH (by lia) x (ht x hx)⟩
      ·have:dpD (.lv xs)=1+dpL xs:=by rw [dpD]
       show dpD (.lv xs)≤_
       lia
     ·exact big _ (by simp;lia) fun z hz=>List.mem_reverse.mp hz
     ·refine (wM (m:=3*m) (p:=dpD (.tup xs)) (by simp;lia) fun x hx=>?_).up (by lia) (by lia);rw [List.mem_singleton.mp hx];exact ⟨dH (by lia) _ td,Nat.le_refl _⟩
   ·walk_at "r";exact idle
  | _=>cases z
 ·refine ff ?_;walk_at "r";exact idle
end
theorem CK (r0:0≤r) (r1:r < xs.length) (h:MH):∃x∈xs,fIx (.tup xs) (.int r) h=some (x,h):=by
 obtain ⟨v,e,hv⟩:=x9 r0 r1;exact ⟨v,hv,by show ((atI xs r).map fun z=>(z,h))=_;rw [e];rfl⟩
section
variable {s c:Nat} {cs:List Int}
theorem x6:∀(f:Nat) {h0 h:MH} {R m:Nat} {d:D} {ys:List D} {Q:D×MH->Prop},Sb s c cs h0 (R+4+2*f) h->12≤m->m≤300->tmN m d=true->dpD d < f->(∀y∈ys,Tp m 17 y)->0 < ys.length->ys.length≤10000->
  (∀(x:D) (h1:MH),Tp (3*m) (dpD d+18) x->Sb s c cs h0 R h1->Q (x,h1))->Rn (c9 f [.ob s,d,.lv ys] h) Q
 | 0,_,_,_,_,_,_,_,_,_,_,_,hd,_,_,_,_=>by lia
 | f+1,h0,h,R,m,d,ys,Q,A,hm,hm2,td,hd,hy,l0,l1,k=>by
  have t1:tmD d=true:=dH (by lia) d td;have oth:∀{h2:MH} {Q':D×MH->Prop},Sb s c cs h0 (R+4) h2->(∀p,Q p->Q' p)->Rn (eV [.ob s,d,.lv ys] h2) Q':=fun A2 q=>Er A2 hm hm2 td hy l0 l1 fun x h1 t S=>q _ (k x h1 t S);refine bt ?_;walk_at "r";refine rv (bJ t1) ⟨_,rfl,fun z=>tt ?_,fun z=>?_⟩
  ·walk_at "r";exact oth (A.le (by lia)) fun _ q=>q
  cases d with
  | tup xs=>
   obtain ⟨hl,ht⟩:=aU td;have hdp:dpD (.tup xs)=1+dpL xs:=by rw [dpD]
   walk_at "r";refine rv (a:=(.bl xs.isEmpty,h)) rfl ⟨_,rfl,fun y=>tt ?_,fun y=>?_⟩
   ·walk_at "r";exact oth (A.le (by lia)) fun _ q=>q
   have hpos:(0:Int) < xs.length:=by cases xs with | nil=>cases y | cons _ _=>simp
   walk_at "r";refine dz (R:=R+5+2*f) (A.le (by lia)) (by decide) (by decide) fun r h2 _ _ A2=>?_;walk_at "r";refine ⟨_,rfl,fun w=>?_,fun w=>?_⟩
   ·walk_at "r";exact oth (A2.le (by lia)) fun _ q=>q
   walk_at "r";refine dz (R:=R+4+2*f) (A2.le (by lia)) hpos (by lia) fun r3 h3 r30 r31 A3=>?_;walk_at "r";obtain ⟨y1,q1,a1,l3⟩:=dM xs none (some r3) h3;obtain ⟨x,hx,ex⟩:=CK r30 r31 h3;refine ⟨_,rfl,?_⟩;refine rv q1 ?_;walk_at "r";refine rv ex ?_;walk_at "r";have hxd:=lT hx;refine x6 f A3 hm hm2 (ht x hx) (by lia) hy l0 l1 fun b h4 tb A4=>?_;obtain ⟨tb,db⟩:=tb;obtain ⟨y2,q2,a2,l2⟩:=dM xs (some (r3+1)) none h4;walk_at "r";refine rv (sQ (by simp;lia)) ?_;walk_at "r";refine ⟨_,rfl,?_⟩;walk_at "r";refine rv q2 ?_;refine rv (sQ (by simp;lia)) ?_;walk_at "r";refine k _ _ ?_ A4;refine (wM (m:=3*m) (p:=dpL xs+18) (by simp;lia) fun w hw=>?_).up (Nat.le_refl _) (by lia);rcases List.mem_append.mp hw with hw | hw
   ·rcases List.mem_append.mp hw with hw | hw
    ·exact ⟨dH (by lia) w (ht w (a1 w hw)),by have:=lT (a1 w hw);lia⟩
    ·rw [List.mem_singleton.mp hw];exact ⟨tb,by lia⟩
   ·exact ⟨dH (by lia) w (ht w (a2 w hw)),by have:=lT (a2 w hw);lia⟩
  | _=>cases z
end
theorem Cl0 (cs:List Int):Cl [.lst (cs.map D.int),.lst [.int 0,.ob 0,.int 0]]:=by
 intro o ho;rcases List.mem_cons.mp ho with rfl | ho
 ·exact i9 _ D.int (fun _=>rfl) _
 ·rw [List.mem_singleton.mp ho];rfl
theorem law_true (ns:List Int) (hn:ns.length≤63):∃h',yT [.ro (ns.map D.int)] []=some (.bl true,h'):=by
 have e:Rn (yT [.ro (ns.map D.int)] []) fun p=>p.1=.bl true:=by
  obtain ⟨cs,ed,S0⟩:=xS ns hn 90000 (by decide);refine bt ?_;walk_at "r";refine rv ed ?_;walk_at "r";refine iR ?_;walk_at "r";refine ⟨4,rfl,by decide,by decide,?_⟩;refine dR (fun i δ h=>∃(v2 v3 v4 v5 v6 v7:Option D),δ=[some (.ro (ns.map D.int)),some (.ob 1),v2,v3,v4,v5,v6,v7]∧St 1 0 cs (90000-20000*i) h∧Cl h)
   ⟨_,_,_,_,_,_,rfl,S0,Cl0 cs⟩ (fun _ _ _ _ _=>rfl) ?_ ?_
  ·rintro i x δ h hx ⟨v2,v3,v4,v5,v6,v7,rfl,S,C⟩;have hi:i < 4:=by
    have:=(List.getElem?_eq_some_iff.mp hx).1
    simpa using this
   walk_at "r";refine k5 (is:=[8,14,60]) (fun i=>0≤i∧i≤60) (by decide) ((S.le (R':=90000-20000*(i+1)+19999+1) (by lia)).sb) fun most h1 hm _ A1=>?_;walk_at "r";refine k5 (is:=[0,12,4]) (fun i=>0≤i∧i≤12) (by decide) A1 fun odd h2 ho _ A2=>?_;walk_at "r";obtain ⟨most,rfl⟩:=Int.eq_ofNat_of_zero_le hm.1;have hmm:most≤60:=by lia
   refine z9 (R:=90000-20000*(i+1)+8000) (A2.le (by lia)) (C.but A2.S A2.b) ho.1 (by lia) fun W fl P h3 ok okp A3 C3=>?_;have g:=Dv ok okp hmm;have tg:tmD (eX P)=true:=dH (by decide) _ g.tm;have hok:=Du ok okp hmm;walk_at "r";refine rv (dC tg) ?_;rw [hok];walk_at "r";refine rv (a:=(.bl false,h3)) rfl ⟨_,rfl,ff ?_⟩;walk_at "r";refine rv (jX tg) ?_;rw [hok];refine ⟨true,rfl,ff ?_⟩;walk_at "r";have g2:=g.dp;have g3:=g.sz;refine rv (mG 24 (eX P) h3 tg (by lia) (by lia)) ?_;walk_at "r";refine iR ?_;walk_at "r";refine ⟨16,rfl,by decide,by decide,?_⟩;have parts:=vL (eX P) (show Tp 12 17 (eX P) from ⟨g.tm,g.dp⟩);have plen:0 < (bo (eX P)).length∧(bo (eX P)).length≤10000:=by
    rw [nW];refine ⟨?_,by lia⟩;unfold eX;rw [szD];lia
   refine dR (fun j δ h=>∃(v5 v6 v7:Option D),δ=[some (.ro (ns.map D.int)),some (.ob 1),some x,some (eX P),some (.lv (bo (eX P))),v5,v6,v7]∧St 1 0 cs (90000-20000*(i+1)+(8000-500*j)) h∧Cl h)
    ⟨_,_,_,rfl,A3.S,C3⟩ (fun _ _ _ _ _=>rfl) ?_ ?_
   ·rintro j y δ h hx ⟨v5,v6,v7,rfl,S,C⟩;have hj:j < 16:=by
     have:=(List.getElem?_eq_some_iff.mp hx).1
     simpa using this
    walk_at "r";refine x6 60 (R:=90000-20000*(i+1)+(8000-500*(j+1))+300) (d:=eX P) (ys:=bo (eX P)) ((S.le (by lia)).sb) (Nat.le_refl 12) (by decide) g.tm (by lia) parts plen.1 plen.2 fun b h4 tb A4=>?_;obtain ⟨tb,db⟩:=tb;walk_at "r";refine dz (R:=90000-20000*(i+1)+(8000-500*(j+1))+124) (A4.le (by lia)) (by decide) (by decide) fun r h5 _ _ A5=>?_;walk_at "r";refine BM (E:=fun c=>D.bl (r==0)=D.bl c) (Y:=fun q=>∃(u:D) (h6:MH),q=(Fl.nx,[some (.ro (ns.map D.int)),some (.ob 1),some x,some (eX P),some (.lv (bo (eX P))),some y,some u,v7],h6)∧tmD u=true∧St 1 0 cs (90000-20000*(i+1)+(8000-500*(j+1))) h6∧Cl h6) ?_ ?_
    ·refine ⟨_,rfl,fun _=>?_,fun _=>?_⟩
     ·walk_at "r";refine x6 60 A5 (show 12≤3*12 by decide) (by decide) tb (by lia) (fun z hz=>(parts z hz).up (by decide) (Nat.le_refl _)) plen.1 plen.2 fun u h6 tu A6=>?_;exact ⟨u,h6,rfl,dH (by decide) u tu.1,A6.S,C.but A6.S A6.b⟩
     ·walk_at "r";exact ⟨b,h5,rfl,dH (by decide) b tb,A5.S.le (by lia),C.but A5.S A5.b⟩
    ·rintro _ ⟨u,h6,rfl,tu,S6,C6⟩;show Rn _ _;walk_at "r";refine rv (dC tu) ?_;walk_at "r";refine rv (a:=(.bl true,h6)) rfl ⟨true,rfl,ff ?_⟩;walk_at "r";refine rv (jX tu) ?_;refine rv (a:=(.bl (!(sC u==sC u)),h6)) rfl ?_;rw [beq_self_eq_true];refine ⟨_,rfl,ff ?_⟩;walk_at "r";exact ⟨_,_,_,rfl,S6,C6⟩
   ·rintro δ h ⟨v5,v6,v7,rfl,S,C⟩;walk_at "r";exact ⟨_,_,_,_,_,_,rfl,S.le (by lia),C⟩
  ·rintro δ h ⟨v2,v3,v4,v5,v6,v7,rfl,S,C⟩;walk_at "r";refine rv (dC (d:=.non) rfl) ?_;walk_at "r";refine rv (a:=(.bl true,h)) rfl ⟨_,rfl,fun _=>?_,fun z=>(nomatch z)⟩;walk_at "r";refine rv (dC (d:=.tup []) rfl) ?_;walk_at "r";refine rv (a:=(.bl true,h)) rfl ⟨_,rfl,fun _=>?_,fun z=>(nomatch z)⟩;walk_at "r";refine rv (dC (d:=.tup [.tup [.str (Str.ofString "a")],.tup []]) (by decide+kernel)) ?_;walk_at "r";have:sC (.tup [.tup [.str (Str.ofString "a")],.tup []])=false:=by
    show (_&&dU (.tup [])&&_)=false;rw [show dU (.tup [])=false by kernel_rfl];simp
   rw [this];refine rv (a:=(.bl true,h)) rfl ?_;walk_at "r"
 obtain ⟨⟨d,h'⟩,e1,rfl⟩:=e;exact ⟨h',e1⟩
end Mi
open PySem PySem.W PyProof.Rows
theorem Mi.JO:defOf Mi.view "law"=some (Hd.su "law" Mi.oB,[]):=by kernel_rfl
theorem Mi.hp:PySem.Program.theDef Mi.pw "law"=some (L2.mT Mi.oB,L2.i8 Mi.oB,L2.aw Mi.oB):=by kernel_rfl
theorem PySem.Challenge.cw_neverstuck_k02_programs_or_not_holds : PySem.Challenge.rw_neverstuck_k02_programs_or_not.Holds := by
 refine holds_law Mi.Fh fun Fh=>?_;refine PySem.W.holds_open (q:=Mi.view) (loose:=["SHAPES"]) (Xt:=Mi.Xt) (XP:=XL Mi.view []) (Yf:=Mi.Yf) (Ya:=Mi.ya) (YP:=fun w h=>Hd.tabAt h "SHAPES"=Mi.ya w) (N:=20000) (d:=Hd.su "law" Mi.oB) (kwd:=[]) Mi.left (fun _ _ e=>e) (fun _ _ _ y k=>Hd.wO k y) (fun s e=>xl_of s (Bool.and_eq_true_iff.mp e).1) XL.keeps Mi.JO Mi.hp (by kernel_rfl) (fun s e=>recFacts_of (Bool.and_eq_true_iff.mp e).2) (by kernel_rfl) Fh (by decide+kernel) ⟨rfl,rfl,rfl,rfl,rfl,by decide+kernel⟩ (by w_witness2) ?_;exact Hd.GS (k:=66) (by kernel_rfl) (by kernel_rfl) ⟨rfl,by decide,by decide⟩ fun w s₀ mg mb h G Y=>Mi.all_mk G.T Y Mi.law_true
