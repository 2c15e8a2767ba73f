import PyProof.Rows.All
import Wide.All
import OpenK.AllK
import Wide.FinOn
import Lean
import PyProof.EqAt
import PyProof.EqKinds
import PyProof.TupleCall
import PyProof.AttrMissHeap
import KE.KDictOf
import PyProof.ConsumeWalk
import PyProof.ZipIter
import PyProof.EnumMake
import KE.KEqDict
import KE.KDictSum
import KE.KItemsList
import PyProof.FactsAll.tuple_2
import PyProof.FactsAll.zip_1
import PyProof.ListMulRoad
import PyProof.ListRange
import PyProof.NeKinds
import PyProof.Rows.SortShell
import PyProof.StrWalks
import PySem.Challenge.RW_neverstuck_k03_programs_at_their_bounds
set_option Elab.async false
set_option linter.all false
set_option maxRecDepth 100000
set_option maxHeartbeats 4000000
noncomputable section
namespace L2
open PySem PySem.Spec PyProof.Rows
abbrev Key:=Sum Int Str
def iX:Key→Value→Bool
 | .inl k,v=>Value.isInt k v
 | .inr x,v=>Value.isStrOf x v
def vi (w:World):Key→Int
 | .inl k=>hashInt k
 | .inr x=>hashStr w x
theorem bo:∀{k:Key} {v:Value},iX k v=true→(∃i t,k=Sum.inl i∧v=Value.int i t)∨(∃x t,k=Sum.inr x∧v=Value.str x t)
 | .inl i,v,h=>by
  obtain ⟨t,e⟩:=Value.isInt_shape (k:=i) (v:=v) h
  exact .inl ⟨i,t,rfl,e⟩
 | .inr x,v,h=>by
  obtain ⟨t,e⟩:=Value.isStrOf_shape (x:=x) (v:=v) h
  exact .inr ⟨x,t,rfl,e⟩
theorem nJ (i:Int) (t:Tok):iX (.inl i) (.int i t)=true:=by simp [iX,Value.isInt]
theorem nI (x:Str) (t:Tok):iX (.inr x) (.str x t)=true:=by simp [iX,Value.isStrOf]
theorem vh (a b:Int):decide ((Sum.inl a:Key)=Sum.inl b)=(a==b):=by
 by_cases e:a=b
 ·subst e;simp
 ·have h:¬(Sum.inl a:Key)=Sum.inl b:=fun q=>e (Sum.inl.inj q)
  rw [decide_eq_false h]
  exact (beq_eq_false_iff_ne.mpr e).symm
theorem ve (a b:Str):decide ((Sum.inr a:Key)=Sum.inr b)=decide (a=b):=by
 by_cases e:a=b
 ·subst e;simp
 ·have h:¬(Sum.inr a:Key)=Sum.inr b:=fun q=>e (Sum.inr.inj q)
  rw [decide_eq_false h,decide_eq_false e]
theorem vg (a:Int) (b:Str):decide ((Sum.inl a:Key)=Sum.inr b)=false:=decide_eq_false (fun q=>nomatch q)
theorem vf (a:Str) (b:Int):decide ((Sum.inr a:Key)=Sum.inl b)=false:=decide_eq_false (fun q=>nomatch q)
def aV (prog:Program) (w:World):PySem.KeyKind prog w Key where
 is:=iX
 hash:=vi w
 inj:=fun v a b ha hb=>by
  rcases bo ha with ⟨i,t,rfl,rfl⟩ | ⟨x,t,rfl,rfl⟩
  ·rcases bo hb with ⟨j,u,rfl,e⟩ | ⟨y,u,rfl,e⟩
   ·injection e with e1 _;rw [e1]
   ·exact nomatch e
  ·rcases bo hb with ⟨j,u,rfl,e⟩ | ⟨y,u,rfl,e⟩
   ·exact nomatch e
   ·injection e with e1 _;rw [e1]
 byValue:=fun k v h=>by
  rcases bo h with ⟨i,t,rfl,rfl⟩ | ⟨x,t,rfl,rfl⟩ <;> rfl
 pyHash:=fun hv h=>by
  rcases bo hv with ⟨i,t,rfl,rfl⟩ | ⟨x,t,rfl,rfl⟩
  ·exact wpAny_pyHash_int h
  ·exact wpAny_pyHash_str h
 eqBool:=fun hu hv h=>by
  rcases bo hu with ⟨i,t,rfl,rfl⟩ | ⟨x,t,rfl,rfl⟩
  ·rcases bo hv with ⟨j,u,rfl,rfl⟩ | ⟨y,u,rfl,rfl⟩
   ·rw [vh] at h;exact wpAny_eqBool_int h
   ·rw [vg] at h;exact SeqAt.EqAt.int_str i t y u _ _ _ _ h
  ·rcases bo hv with ⟨j,u,rfl,rfl⟩ | ⟨y,u,rfl,rfl⟩
   ·rw [vf] at h;exact SeqAt.EqAt.str_int x t j u _ _ _ _ h
   ·rw [ve] at h;exact wpAny_eqBool_str h
 «strs»:=fun k x t v h=>by
  rcases bo h with ⟨i,u,rfl,e⟩ | ⟨y,u,rfl,e⟩
  ·exact nomatch e
  ·injection e with e1 _
   subst e1
   cases v <;> rfl
theorem gg (prog:Program) (w:World) (i:Int) (t:Tok):(aV prog w).is (.inl i) (.int i t)=true:=nJ i t
theorem gf (prog:Program) (w:World) (x:Str) (t:Tok):(aV prog w).is (.inr x) (.str x t)=true:=nI x t
end L2
namespace L2
open PySem PySem.Spec PyProof.Rows
inductive V where
 | non | bl (b:Bool) | int (i:Int) | str (x:Str) | byt (b:Array UInt8) | flt (b:UInt64) | ref (a:Addr) | ty (n:String)
 deriving DecidableEq
def RelV:V→Value→Prop
 | .non,u=>u=Value.none
 | .bl b,u=>u=Value.bool b
 | .int i,u=>∃t,u=Value.int i t
 | .str x,u=>∃t,u=Value.str x t
 | .byt b,u=>∃t,u=Value.bytes b t
 | .flt b,u=>∃t,u=Value.float b t
 | .ref a,u=>u=Value.ref a
 | .ty n,u=>u=Value.type n
abbrev Vals:List V→List Value→Prop:=Paired RelV
theorem Vals.length {xs:List V} {us:List Value} (r:Vals xs us):xs.length=us.length:=Paired.length r
theorem Vals.get:∀{xs:List V} {us:List Value} {i:Nat} {x:V},Vals xs us→xs[i]?=some x→∃u,us[i]?=some u∧RelV x u
 | _,_,_,_,.nil,e=>by simp at e
 | _,_,0,_,.cons r _,e=>by simp at e;subst e;exact ⟨_,rfl,r⟩
 | _,_,i+1,x,.cons _ t,e=>by
  obtain ⟨u,h1,h2⟩:=Vals.get (i:=i) (x:=x) t (by simpa using e)
  exact ⟨u,by simpa using h1,h2⟩
theorem Vals.set {x:V} {u:Value} (r:RelV x u):∀{xs:List V} {us:List Value} (i:Nat),Vals xs us→Vals (xs.set i x) (us.set i u)
 | _,_,_,.nil=>.nil
 | _,_,0,.cons _ t=>.cons r t
 | _,_,i+1,.cons q t=>.cons q (Vals.set r i t)
theorem Vals.append:∀{xs ys:List V} {us ws:List Value},Vals xs us→Vals ys ws→Vals (xs++ys) (us++ws)
 | _,_,_,_,.nil,s=>s
 | _,_,_,_,.cons r t,s=>.cons r (Vals.append t s)
theorem Vals.take:∀{xs:List V} {us:List Value} (n:Nat),Vals xs us→Vals (xs.take n) (us.take n)
 | _,_,0,_=>.nil
 | _,_,_+1,.nil=>.nil
 | _,_,n+1,.cons r t=>.cons r (Vals.take n t)
theorem Vals.drop:∀{xs:List V} {us:List Value} (n:Nat),Vals xs us→Vals (xs.drop n) (us.drop n)
 | _,_,0,r=>r
 | _,_,_+1,.nil=>.nil
 | _,_,n+1,.cons _ t=>Vals.drop n t
def iu:Option V→Option Value→Prop
 | some v,some u=>RelV v u
 | none,none=>True
 | _,_=>False
def KV {κ:Type}:List (κ×V)→List (κ×Value)→Prop:=Paired fun (p:κ×V) (q:κ×Value)=>p.1=q.1∧RelV p.2 q.2
def kV:Key→V
 | .inl i=>.int i
 | .inr x=>.str x
inductive HO where
 | lst (xs:List V)
 | tup (xs:List V)
 | dK (kvs:List (Key×V)) | dT (kvs:List (List Key×V))
 | set (S:Int→Bool) (n:Nat)
 | ins (C dx:Addr) (fs:List (Str×V))
 | own (x:Addr)
 | xd (fs:List (Str×V))
 | met (f x:Addr)
 | rng (lo hi:Int)
 | frz (o:Obj) (u:HO)
 | tbl (ps:Array Value)
 | ext (φ:Heap→Prop)
abbrev Hp:=Addr→Option HO
def upd (H:Hp) (a:Addr) (o:HO):Hp:=fun b=>if b=a then some o else H b
theorem aT {H:Hp} {a:Addr} {o:HO}:upd H a o a=some o:=by unfold upd;rw [if_pos rfl]
theorem aC {H:Hp} {a b:Addr} {o:HO} (h:b≠a):upd H a o b=H b:=by unfold upd;rw [if_neg h]
theorem wZ {H:Hp} {a b:Addr} {o u:HO} (h:H a=some o) (h':H b=some u) (d:o≠u):a≠b:=by
 intro e;subst e;rw [h] at h';exact d (Option.some.inj h')
theorem aI {H:Hp} {a b:Addr} {o:HO} (h:H a=some o) (h':H b=none):a≠b:=by
 intro e;subst e;rw [h] at h';cases h'
def jX (h:Heap) (a:Addr) (items:Array Value):Prop:=∃o,h.get? a=some o∧o.cls=.type "tuple"∧(∃n,o.data=.seq items n)∧o.dict=none
theorem jX.tup {h:Heap} {a:Addr} {items:Array Value} (x:jX h a items):IsTup h a items:=let ⟨o,e,c,d,_⟩:=x;⟨o,e,c,d⟩
theorem jX.new (h:Heap) (items:Array Value):jX (h.push {cls:=.type "tuple",data:=.seq items}) h.objs.size items:=⟨_,Heap.get?_push_size _ rfl,rfl,⟨_,rfl⟩,rfl⟩
section
variable (P:Program) (w:World)
def bp (H:Hp) (h:Heap) (a:Addr):HO→Prop
 | .lst xs=>xs.length≤sizeLine∧∃(its:List Value) (n:Nat),Vals xs its∧h.get? a=some {cls:=.type "list",data:=.seq its.toArray n}
 | .tup xs=>xs.length≤sizeLine∧∃its:List Value,Vals xs its∧jX h a its.toArray
 | .dK kvs=>kvs.length≤sizeLine∧(a==sysModules)=false∧∃vs,KV kvs vs∧h.DictOf (aV P w) a vs
 | .dT kvs=>kvs.length≤sizeLine∧(a==sysModules)=false∧∃xs:List (List Key×Addr×Value),
   Paired (fun (p:List Key×V) (q:List Key×Addr×Value)=>p.1=q.1∧H q.2.1=some (.tup (p.1.map kV))∧RelV p.2 q.2.2) kvs xs∧
   ∃o es ep,h.get? a=some o∧o.ExactDict∧o.data=.dict es ep∧es.toList=xs.map (entryOfKey (tupleKind (aV P w)))∧(xs.map (·.1)).Nodup
 | .set S n=>h.SetOf (intKind P w) a S n
 | .ins C dx fs=>H dx=some (.own a)∧fs.length≤1000∧dx≠a∧h.get? a=some (PySem.W.instObj C dx)∧
   ∃mA,h.Ns1 dx mA∧(∀f,iu (fs.lookup f) (mA f))∧PySem.Within mA (fs.map (·.1))
 | .own _=>∃o,h.get? a=some o
 | .xd fs=>∃mA,h.Ns1 a mA∧∀f,iu (fs.lookup f) (mA f)
 | .rng lo hi=>∃t u v,h.get? a=some {cls:=.type "range",data:=.fields #[.int lo t,.int hi u,.int 1 v]}
 | .frz o u=>h.get? a=some o∧bp H h a u
 | .tbl ps=>h.get? a=some {cls:=.none,data:=.fields ps}
 | .met f x=>h.get? a=some (PySem.W.methodObj (.ref f) (.ref x))
 | .ext φ=>φ h∧(∃o,h.get? a=some o)∧∀h1 h2:Heap,φ h1→(∀o,h1.get? a=some o→h2.get? a=some o)→φ h2
def HOk (H:Hp) (h:Heap):Prop:=∀a o,H a=some o→bp P w H h a o
end
section
variable {P:Program} {w:World} {H H':Hp} {h h':Heap} {a:Addr} {o:HO}
theorem bp.lt (x:bp P w H h a o):a < h.objs.size:=by
 cases o with
 | lst xs=>obtain ⟨_,_,_,_,e⟩:=x;exact Heap.lt_size e
 | tup xs=>obtain ⟨_,_,_,p⟩:=x;exact p.tup.lt
 | dK kvs=>obtain ⟨_,_,_,_,o,_,_,e,_⟩:=x;exact Heap.lt_size e
 | dT kvs=>obtain ⟨_,_,_,_,o,_,_,e,_⟩:=x;exact Heap.lt_size e
 | set S n=>obtain ⟨o,_,_,_,e,_⟩:=x;exact Heap.lt_size e
 | ins C dx fs=>obtain ⟨_,_,_,e,_⟩:=x;exact Heap.lt_size e
 | own y=>obtain ⟨_,e⟩:=x;exact Heap.lt_size e
 | xd fs=>obtain ⟨_,⟨_,_,_,e,_⟩,_⟩:=x;exact Heap.lt_size e
 | rng lo hi=>obtain ⟨_,_,_,e⟩:=x;exact Heap.lt_size e
 | frz ob u=>obtain ⟨e,_⟩:=x;exact Heap.lt_size e
 | tbl ps=>exact Heap.lt_size (show h.get? a=some _ from x)
 | met f y=>exact Heap.lt_size (show h.get? a=some _ from x)
 | ext φ=>obtain ⟨_,⟨_,e⟩,_⟩:=x;exact Heap.lt_size e
theorem Paired.u9 {α β:Type} {F G:α→β→Prop}:∀{l₁:List α} {l₂:List β},Paired F l₁ l₂→(∀a b,F a b→G a b)→Paired G l₁ l₂
 | _,_,.nil,_=>.nil
 | _,_,.cons r t,f=>.cons (f _ _ r) (Paired.u9 t f)
theorem bp.j4 (x:bp P w H h a o) (k:∀b u,(b=a∨H b=some (.own a))→h.get? b=some u→h'.get? b=some u)
  (ho:∀b,H b=some (.own a)→H' b=some (.own a)) (ht:∀b xs,H b=some (.tup xs)→H' b=some (.tup xs)):bp P w H' h' a o:=by
 induction o with
 | lst xs=>obtain ⟨z,its,n,r,e⟩:=x;exact ⟨z,its,n,r,k _ _ (.inl rfl) e⟩
 | tup xs=>obtain ⟨z,its,r,ob,e,c⟩:=x;exact ⟨z,its,r,ob,k _ _ (.inl rfl) e,c⟩
 | dK kvs=>obtain ⟨z,y,vs,r,ob,es,ep,e,c⟩:=x;exact ⟨z,y,vs,r,ob,es,ep,k _ _ (.inl rfl) e,c⟩
 | dT kvs=>
  obtain ⟨z,y,xs,r,ob,es,ep,e,c⟩:=x
  exact ⟨z,y,xs,Paired.u9 r fun p q z=>⟨z.1,ht _ _ z.2.1,z.2.2⟩,ob,es,ep,k _ _ (.inl rfl) e,c⟩
 | set S n=>obtain ⟨ob,es,ep,t,e,c⟩:=x;exact ⟨ob,es,ep,t,k _ _ (.inl rfl) e,c⟩
 | ins C dx fs=>
  obtain ⟨d,z,ne,e,mA,⟨od,es,ep,e2,c⟩,r⟩:=x
  exact ⟨ho _ d,z,ne,k _ _ (.inl rfl) e,mA,⟨od,es,ep,k _ _ (.inr d) e2,c⟩,r⟩
 | own y=>obtain ⟨ob,e⟩:=x;exact ⟨ob,k _ _ (.inl rfl) e⟩
 | xd fs=>obtain ⟨mA,⟨od,es,ep,e,c⟩,r⟩:=x;exact ⟨mA,⟨od,es,ep,k _ _ (.inl rfl) e,c⟩,r⟩
 | rng lo hi=>obtain ⟨t,u,v,e⟩:=x;exact ⟨t,u,v,k _ _ (.inl rfl) e⟩
 | frz ob u ih=>obtain ⟨e,q⟩:=x;exact ⟨k _ _ (.inl rfl) e,ih q⟩
 | tbl ps=>
  have e:h.get? a=some {cls:=.none,data:=.fields ps}:=x
  show h'.get? a=some {cls:=.none,data:=.fields ps}
  exact k a _ (.inl rfl) e
 | met f y=>
  have e:h.get? a=some (PySem.W.methodObj (.ref f) (.ref y)):=x
  show h'.get? a=some (PySem.W.methodObj (.ref f) (.ref y))
  exact k a _ (.inl rfl) e
 | ext φ=>obtain ⟨p,⟨o,e⟩,st⟩:=x;exact ⟨st _ _ p fun o q=>k _ _ (.inl rfl) q,⟨o,k _ _ (.inl rfl) e⟩,st⟩
theorem HOk.lt (x:HOk P w H h) (e:H a=some o):a < h.objs.size:=(x a o e).lt
theorem HOk.fresh (x:HOk P w H h) (e:h.objs.size≤a):H a=none:=by
 cases q:H a with
 | none=>rfl
 | some u=>exact absurd (Nat.lt_of_lt_of_le (x.lt q) e) (Nat.lt_irrefl _)
theorem HOk.kept (x:HOk P w H h) (k:∀b u,h.get? b=some u→h'.get? b=some u):HOk P w H h':=fun a o e=>
 (x a o e).j4 (fun b u _ q=>k b u q) (fun _ q=>q) fun _ _ q=>q
theorem HOk.laid (x:HOk P w H h) (k:∀b u,h.get? b=some u→h'.get? b=some u) (hp:h.objs.size≤a) (new:bp P w (upd H a o) h' a o):HOk P w (upd H a o) h':=fun b u e=>by
 have hn:=x.fresh hp
 by_cases hb:b=a
 ·subst hb;rw [aT] at e;cases e;exact new
 ·rw [aC hb] at e
  exact (x b u e).j4 (fun c v _ q=>k c v q) (fun c q=>by rw [aC (aI q hn)];exact q) fun c xs q=>by rw [aC (aI q hn)];exact q
end
def Rd (H:Hp) (a:Addr) (u:HO):Prop:=H a=some u∨∃o,H a=some (.frz o u)
theorem Rd.ok {P:Program} {w:World} {H:Hp} {h:Heap} {a:Addr} {u:HO} (r:Rd H a u) (x:HOk P w H h):bp P w H h a u:=by
 rcases r with r | ⟨o,r⟩
 ·exact x a u r
 ·obtain ⟨_,q⟩:=x a _ r
  exact q
def Mut:Option HO→Prop
 | some (.lst _)=>True
 | some (.dK _)=>True
 | some (.dT _)=>True
 | some (.set _ _)=>True
 | some (.ins _ _ _)=>True
 | some (.ext _)=>True
 | _=>False
section
variable {P:Program} {w:World} {H:Hp} {h h':Heap} {x e:Addr} {o':HO}
theorem HOk.write (ok:HOk P w H h) (mu:Mut (H x)) (he:e=x∨H e=some (.own x)) (k:∀b u,b≠e→h.get? b=some u→h'.get? b=some u) (heo:∃u,h'.get? e=some u)
  (new:bp P w (upd H x o') h' x o'):HOk P w (upd H x o') h':=fun b u q=>by
 have nown:∀c y,H c=some (.own y)→c≠x:=fun c y r z=>by subst z;rw [r] at mu;exact mu
 have ntup:∀c xs,H c=some (.tup xs)→c≠x:=fun c xs r z=>by subst z;rw [r] at mu;exact mu
 by_cases hb:b=x
 ·subst hb;rw [aT] at q;cases q;exact new
 ·rw [aC hb] at q
  by_cases hbe:b=e
  ·have q':H b=some (.own x):=by
    rcases he with z | z
    ·exact absurd (hbe.trans z) hb
    ·rw [hbe];exact z
   rw [q] at q';cases q'
   obtain ⟨v,hv⟩:=heo
   exact ⟨v,by rw [hbe];exact hv⟩
  ·refine (ok b u q).j4 (fun c v hc r=>k c v ?_ r) (fun c r=>by rw [aC (nown c b r)];exact r) fun c xs r=>by rw [aC (ntup c xs r)];exact r
   rcases hc with rfl | hc
   ·exact hbe
   ·rintro rfl
    rcases he with z | z
    ·exact nown c b hc z
    ·rw [hc] at z;cases z;exact hb rfl
end
structure Un (fs ex:List Addr) (H H':Hp) (h h':Heap):Prop where
 keep:∀b o,h.get? b=some o→H b=none→b∉fs→b∉ex→h'.get? b=some o
 slot:∀b o,h.get? b=some o→H b=none→b∈fs→b∉ex→∃sl,h'.get? b=some {o with slots:=sl}
 free:∀b o,h.get? b=some o→H b=none→b∉ex→H' b=none
 there:∀b o,h.get? b=some o→b∉ex→∃o',h'.get? b=some o'
 tups:∀b xs,H b=some (.tup xs)→H' b=some (.tup xs)
 frzs:∀b o u,H b=some (.frz o u)→H' b=some (.frz o u)
 tbls:∀b ps,H b=some (.tbl ps)→∃more,H' b=some (.tbl (ps++more))
section
variable {fs fs' ex ex':List Addr} {H H1 H2:Hp} {h h1 h2 h':Heap} {a x e:Addr} {o:HO}
theorem Un.any (u:Un fs ex H H1 h h1) {b:Addr} {ob:Obj} (q:h.get? b=some ob) (n:H b=none) (hx:b∉ex):∃sl,h1.get? b=some {ob with slots:=sl}:=by
 by_cases hb:b∈fs
 ·exact u.slot b ob q n hb hx
 ·exact ⟨ob.slots,u.keep b ob q n hb hx⟩
theorem Un.kept (k:∀b u,h.get? b=some u→h'.get? b=some u):Un fs ex H H h h':=
 ⟨fun b ob q _ _ _=>k b ob q,fun b ob q _ _ _=>⟨ob.slots,k b ob q⟩,fun _ _ _ n _=>n,fun b ob q _=>⟨ob,k b ob q⟩,fun _ _ q=>q,fun _ _ _ q=>q,fun _ ps q=>⟨#[],by rw [q];simp⟩⟩
theorem Un.refl:Un fs ex H H h h:=Un.kept fun _ _ q=>q
theorem Un.laid (k:∀b u,h.get? b=some u→h'.get? b=some u) (hp:h.objs.size≤a) (hn:H a=none):Un fs ex H (upd H a o) h h' where
 keep:=fun b u q _ _ _=>k b u q
 slot:=fun b u q _ _ _=>⟨u.slots,k b u q⟩
 free:=fun b u q n _=>by rw [aC (Nat.ne_of_lt (Nat.lt_of_lt_of_le (Heap.lt_size q) hp))];exact n
 there:=fun b u q _=>⟨u,k b u q⟩
 tups:=fun b xs q=>by rw [aC (aI q hn)];exact q
 frzs:=fun b u xs q=>by rw [aC (aI q hn)];exact q
 tbls:=fun b ps q=>⟨#[],by rw [aC (aI q hn),q];simp⟩
theorem Un.write (mu:Mut (H x)) (he:e=x∨H e=some (.own x)) (k:∀b u,b≠e→h.get? b=some u→h'.get? b=some u) (heo:∃u,h'.get? e=some u):Un fs ex H (upd H x o) h h':=by
 have hx:∀b,H b=none→b≠x:=fun b n z=>by subst z;rw [n] at mu;exact mu
 have hb:∀b,H b=none→b≠e:=fun b n z=>by
  subst z
  rcases he with r | r
  ·exact hx b n r
  ·rw [n] at r;cases r
 have hm:∀b u,H b=some u→¬Mut (some u)→b≠x:=fun b u q nm z=>by subst z;rw [q] at mu;exact nm mu
 refine ⟨fun b u q n _ _=>k b u (hb b n) q,fun b u q n _ _=>⟨u.slots,k b u (hb b n) q⟩,fun b u q n _=>by rw [aC (hx b n)];exact n,fun b u q _=>?_,
  fun b xs q=>by rw [aC (hm b _ q fun z=>z)];exact q,fun b u xs q=>by rw [aC (hm b _ q fun z=>z)];exact q,fun b ps q=>⟨#[],by rw [aC (hm b _ q fun z=>z),q];simp⟩⟩
 by_cases hbe:b=e
 ·subst hbe;exact heo
 ·exact ⟨u,k b u hbe q⟩
end
def trk (h:Heap) (H:Hp):List Addr:=(List.range h.objs.size).filter fun a=>(H a).isSome
def jJ (h:Heap) (H:Hp):Heap:=PySem.W.hideAll h (trk h H)
theorem nP (h:Heap) (H:Hp):(jJ h H).objs.size=h.objs.size:=PySem.W.hideAll_size _ _
theorem pH {h:Heap} {H:Hp} {b:Addr} {o:Obj} (e:h.get? b=some o) (n:H b=none):(jJ h H).get? b=some o:=
 PySem.W.hideAll_get _ e fun hm=>by
  have q:(H b).isSome=true:=(List.mem_filter.mp hm).2
  rw [n] at q;simp at q
theorem rq {h:Heap} {H:Hp} {b:Addr} {o:Obj} (e:(jJ h H).get? b=some o):h.get? b=some o∧H b=none:=by
 have e':h.get? b=some o:=PySem.W.of_hideAll (trk h H) e
 refine ⟨e',?_⟩
 cases q:H b with
 | none=>rfl
 | some x=>
  have hm:b∈trk h H:=List.mem_filter.mpr ⟨List.mem_range.mpr (Heap.lt_size e'),by simp [q]⟩
  have z:(jJ h H).get? b=none:=PySem.W.hideAll_none (trk h H) hm
  rw [z] at e;cases e
end L2
namespace L2
open PySem PySem.Spec PyProof.Rows
structure Mod (K:PySem.W.Frag) (mg:Str→Option Value) (base:Heap):Prop where
 kin:K.In base
 glob:base.Ns mainGlobals mg
 blt:∃mb,base.Ns builtinsNs mb∧∀x:Str,x≠"__name__"→mb x=bootBuiltins x
 nolimit:base.NoLimit
structure Cx where
 prog:Program
 w:World
 K:PySem.W.Frag
 mg:Str→Option Value
 base:Heap
 A:Around
 N:List Str
 s₀:Shared
 H₀:Hp
 env:Env
 outer:List Env
 stack:List Env
 ex:List Addr
 fn:Str→Bool
 calm:Bool
 pn:List (Addr×Obj)
 xe:Value→Shared→Prop
def frs (l:List Env):List Addr:=l.filterMap (·.frame)
abbrev Cx.fs (X:Cx):List Addr:=frs X.outer
def Vis (sc:Scope) (x:Str):Prop:=sc.names.lookup x=some .local∨sc.names.lookup x=some .cell∨sc.names.lookup x=some .free
def Loc (sc:Scope) (x:Str):Prop:=sc.names.lookup x=some .local∨sc.names.lookup x=some .cell
def Look (env:Env) (h:Heap) (m:Str→Option Value) (x:Str) (u:Value):Prop:=
 (env.kindOf x=some .local∧m x=some u)∨((env.kindOf x=some .cell∨env.kindOf x=some .free)∧∃c,env.cells.lookup x=some c∧h.IsCell c (some u))
structure Cx.Ok (X:Cx):Prop where
 mod:Mod X.K X.mg X.base
 kind:X.env.scope.kind=.function
 glob:X.env.globals=mainGlobals
 blt:X.env.builtins=builtinsNs
 above:X.s₀.heap.objs.size≤X.env.locals
 inj:∀x y c,X.env.cells.lookup x=some c→X.env.cells.lookup y=some c→x=y
 has:∀x,(X.env.kindOf x=some .cell∨X.env.kindOf x=some .free)→∃c,X.env.cells.lookup x=some c
 cab:∀x c,X.fn x=true→X.env.cells.lookup x=some c→X.s₀.heap.objs.size≤c
 hd:X.calm=true→X.A.handled=none
 frames:X.A.frames=some X.stack
 stk:X.stack=X.outer∨(X.stack=X.env::X.outer∧X.env.frame=some X.env.locals)
 exf:∀b∈X.ex,b≠X.env.locals∧∀x c,X.env.cells.lookup x=some c→c≠b
 bs:∀b o,X.base.get? b=some o→X.s₀.heap.get? b=some o∧X.H₀ b=none
 bsz:X.base.objs.size≤X.s₀.heap.objs.size
 noex:∀b o,X.base.get? b=some o→b∉X.ex
 exfs:∀b∈X.ex,b∉X.fs
 ic:X.s₀.heap.FunFrames X.base X.outer
 frf:∀b∈X.fs,X.H₀ b=none
structure Inv (X:Cx) (pins:List (Addr×Obj)) (σ:List (Option V)) (H:Hp) (s:Shared):Prop where
 ok:X.Ok
 os:s.os=X.s₀.os
 bare:AllBare s.gens
 base:Un X.fs X.ex X.H₀ H X.s₀.heap s.heap
 loc:∃m,s.heap.Ns X.env.locals m∧∀(i:Nat) (x:Str) (v:V),X.N[i]?=some x→σ[i]?=some (some v)→Vis X.env.scope x→∃u,RelV v u∧Look X.env s.heap m x u
 cell:∀x c,X.env.cells.lookup x=some c→∃v,s.heap.IsCell c v
 free:H X.env.locals=none
 freeC:∀x c,X.env.cells.lookup x=some c→H c=none
 pin:∀p∈X.pn++pins,s.heap.get? p.1=some p.2∧H p.1=none∧p.1≠X.env.locals∧p.1∉X.fs∧∀v,p.2.data≠.cell v
 hok:HOk X.prog X.w H s.heap
 len:σ.length=X.N.length
section
variable {X:Cx} {pins:List (Addr×Obj)} {σ:List (Option V)} {H H':Hp} {s:Shared} {h':Heap}
theorem Cx.Ok.ym (ok:X.Ok) {b:Addr} {o:Obj} (e:X.base.get? b=some o):b∉X.fs:=fun hb=>by
 have:=(ok.ic.mem hb).1
 rw [e] at this;cases this
theorem Inv.bs (I:Inv X pins σ H s):∀b o,X.base.get? b=some o→s.heap.get? b=some o∧H b=none:=fun b o e=>
 ⟨I.base.keep b o (I.ok.bs b o e).1 (I.ok.bs b o e).2 (I.ok.ym e) (I.ok.noex b o e),I.base.free b o (I.ok.bs b o e).1 (I.ok.bs b o e).2 (I.ok.noex b o e)⟩
theorem Inv.bk (I:Inv X pins σ H s):∀b o,X.base.get? b=some o→s.heap.get? b=some o:=fun b o e=>(I.bs b o e).1
theorem Inv.mod (I:Inv X pins σ H s):Mod X.K X.mg X.base:=I.ok.mod
theorem Inv.kIn (I:Inv X pins σ H s):X.K.In s.heap:=I.ok.mod.kin.keeps I.bk
theorem Inv.lt (I:Inv X pins σ H s):X.env.locals < s.heap.objs.size:=let ⟨_,hn,_⟩:=I.loc;hn.lt
theorem Inv.sz (I:Inv X pins σ H s):X.s₀.heap.objs.size≤s.heap.objs.size:=Nat.le_trans I.ok.above (Nat.le_of_lt I.lt)
theorem Inv.yl (I:Inv X pins σ H s) {a:Addr} (h:s.heap.objs.size≤a):a∉X.fs:=fun hb=>by
 obtain ⟨_,o,ho,_⟩:=I.ok.ic.mem hb
 exact absurd (Nat.lt_of_lt_of_le (Heap.lt_size ho) (Nat.le_trans I.sz h)) (Nat.lt_irrefl _)
theorem Inv.cne (I:Inv X pins σ H s):∀x c,X.env.cells.lookup x=some c→c≠X.env.locals:=fun x c e z=>by
 obtain ⟨v,o,ho,hd⟩:=I.cell x c e
 obtain ⟨m,⟨o',es,ep,ho',hd',_⟩,_⟩:=I.loc
 rw [z,ho'] at ho;cases ho;rw [hd'] at hd;cases hd
theorem Inv.ic (I:Inv X pins σ H s):s.heap.FunFrames X.base X.outer:=by
 have all:∀(l:List Env),(∀b∈frs l,b∈X.fs)→X.s₀.heap.FunFrames X.base l→s.heap.FunFrames X.base l:=by
  intro l
  induction l with
  | nil=>intro _ _;trivial
  | cons env r ih=>
   intro hs hl
   obtain ⟨hk,⟨L,o,hf,hn,ho,hd⟩,hr⟩:=hl
   have hL:L∈X.fs:=hs L (by unfold frs;rw [List.filterMap_cons,hf];exact List.mem_cons_self)
   obtain ⟨sl,e⟩:=I.base.slot L o ho (I.ok.frf L hL) hL fun z=>I.ok.exfs L z hL
   exact ⟨hk,⟨L,_,hf,hn,e,hd⟩,ih (fun b hb=>hs b (by unfold frs;rw [List.filterMap_cons,hf];exact List.mem_cons_of_mem _ hb)) hr⟩
 exact all X.outer (fun _ hb=>hb) I.ok.ic
theorem Inv.stack (I:Inv X pins σ H s):s.heap.FunFrames X.base X.stack:=by
 rcases I.ok.stk with e | ⟨e,hf⟩
 ·rw [e];exact I.ic
 ·rw [e]
  obtain ⟨m,hn,_⟩:=I.loc
  refine .cons (by rw [I.ok.kind];decide) hf hn ?_ I.ic
  exact Heap.get?_none_of_le (Nat.le_trans I.ok.bsz I.ok.above)
theorem Inv.fB (I:Inv X pins σ H s):∀b∈frs X.stack,b∈X.env.locals::X.fs:=fun b hb=>by
 rcases I.ok.stk with e | ⟨e,hf⟩
 ·rw [e] at hb;exact List.mem_cons_of_mem _ hb
 ·rw [e] at hb
  unfold frs at hb
  rw [List.filterMap_cons,hf] at hb
  exact hb
theorem Inv.mj (I:Inv X pins σ H s):∀b∈frs X.stack,H b=none:=fun b hb=>by
 rcases List.mem_cons.mp (I.fB b hb) with e | hb
 ·rw [e];exact I.free
 ·obtain ⟨_,o,ho,_⟩:=I.ok.ic.mem hb
  exact I.base.free b o ho (I.ok.frf b hb) fun z=>I.ok.exfs b z hb
theorem Inv.step {g':Array GenState} {t':Nat} {d':Drawn} {ch:List Addr} (I:Inv X pins σ H s)
  (hch:∀b∈ch,(b∈X.ex∨X.s₀.heap.objs.size≤b)∧b≠X.env.locals∧(∀x c,X.env.cells.lookup x=some c→c≠b)∧∀p∈X.pn++pins,p.1≠b)
  (keep:∀b o,b≠X.env.locals→b∉X.fs→b∉ch→s.heap.get? b=some o→H b=none→h'.get? b=some o)
  (slot:∀b o,b≠X.env.locals→b∈X.fs→b∉ch→s.heap.get? b=some o→H b=none→∃sl,h'.get? b=some {o with slots:=sl}) (free:∀b o,b∉ch→s.heap.get? b=some o→H b=none→H' b=none)
  (there:∀b o,b∉ch→s.heap.get? b=some o→∃o',h'.get? b=some o')
  (tups:∀b xs,H b=some (.tup xs)→H' b=some (.tup xs)) (frzs:∀b o u,H b=some (.frz o u)→H' b=some (.frz o u)) (tbls:∀b ps,H b=some (.tbl ps)→∃more,H' b=some (.tbl (ps++more)))
  (ns:∀m,s.heap.Ns X.env.locals m→h'.Ns X.env.locals m) (hok:HOk X.prog X.w H' h') (hg:AllBare g'):
  Inv X pins σ H' {s with heap:=h',gens:=g',drawn:=d',toks:=t'}:=by
 have neL:∀b o,X.s₀.heap.get? b=some o→b≠X.env.locals:=fun b o e=>Nat.ne_of_lt (Nat.lt_of_lt_of_le (Heap.lt_size e) I.ok.above)
 have neC:∀b o,X.s₀.heap.get? b=some o→b∉X.ex→b∉ch:=fun b o e hx hb=>by
  rcases (hch b hb).1 with z | z
  ·exact hx z
  ·exact absurd (Nat.lt_of_lt_of_le (Heap.lt_size e) z) (Nat.lt_irrefl _)
 have cellK:∀x c,X.env.cells.lookup x=some c→∀v,s.heap.IsCell c v→h'.IsCell c v:=fun x c e v ⟨o,ho,hd⟩=>by
  have nch:c∉ch:=fun z=>(hch c z).2.2.1 x c e rfl
  by_cases hc:c∈X.fs
  ·obtain ⟨sl,q⟩:=slot c o (I.cne x c e) hc nch ho (I.freeC x c e)
   exact ⟨_,q,hd⟩
  ·exact ⟨o,keep c o (I.cne x c e) hc nch ho (I.freeC x c e),hd⟩
 refine ⟨I.ok,I.os,hg,⟨fun b o e n hb hx=>?_,fun b o e n hb hx=>?_,fun b o e n hx=>?_,fun b o e hx=>?_,fun b xs e=>tups b xs (I.base.tups b xs e),fun b o xs e=>frzs b o xs (I.base.frzs b o xs e),fun b ps e=>?_⟩,?_,fun x c e=>?_,?_,fun x c e=>?_,fun p hp=>?_,hok,I.len⟩
 ·exact keep b o (neL b o e) hb (neC b o e hx) (I.base.keep b o e n hb hx) (I.base.free b o e n hx)
 ·obtain ⟨sl,e1⟩:=I.base.slot b o e n hb hx
  obtain ⟨sl',e2⟩:=slot b _ (neL b o e) hb (neC b o e hx) e1 (I.base.free b o e n hx)
  exact ⟨sl',e2⟩
 ·obtain ⟨o',e1⟩:=I.base.there b o e hx
  exact free b o' (neC b o e hx) e1 (I.base.free b o e n hx)
 ·obtain ⟨o',e1⟩:=I.base.there b o e hx
  exact there b o' (neC b o e hx) e1
 ·obtain ⟨m1,e1⟩:=I.base.tbls b ps e
  obtain ⟨m2,e2⟩:=tbls b _ e1
  exact ⟨m1++m2,by rw [e2,Array.append_assoc]⟩
 ·obtain ⟨m,hn,hl⟩:=I.loc
  refine ⟨m,ns m hn,fun i x v e1 e2 e3=>?_⟩
  obtain ⟨u,r,l⟩:=hl i x v e1 e2 e3
  refine ⟨u,r,?_⟩
  rcases l with l | ⟨k,c,e,z⟩
  ·exact .inl l
  ·exact .inr ⟨k,c,e,cellK x c e _ z⟩
 ·obtain ⟨v,z⟩:=I.cell x c e
  exact ⟨v,cellK x c e v z⟩
 ·obtain ⟨m,⟨o,_,_,ho,_⟩,_⟩:=I.loc
  exact free _ o (fun z=>(hch _ z).2.1 rfl) ho I.free
 ·obtain ⟨v,o,ho,hd⟩:=I.cell x c e
  exact free c o (fun z=>(hch c z).2.2.1 x c e rfl) ho (I.freeC x c e)
 ·obtain ⟨e,n,ne,nf,d⟩:=I.pin p hp
  have nch:p.1∉ch:=fun z=>(hch p.1 z).2.2.2 p hp rfl
  exact ⟨keep p.1 p.2 ne nf nch e n,free p.1 p.2 nch e n,ne,nf,d⟩
theorem Inv.un {t':Nat} (I:Inv X pins σ H s) (u:Un X.fs [] H H' s.heap h') (hok:HOk X.prog X.w H' h'):Inv X pins σ H' {s with heap:=h',toks:=t'}:=by
 obtain ⟨m,⟨o,es,ep,ho,r⟩,_⟩:=id I.loc
 obtain ⟨sl,hL⟩:=u.any ho I.free (by simp)
 exact I.step (g':=s.gens) (d':=s.drawn) (ch:=[]) (fun _ z=>nomatch z) (fun b o _ hb _ e n=>u.keep b o e n hb (by simp)) (fun b o _ hb _ e n=>u.slot b o e n hb (by simp)) (fun b o _ e n=>u.free b o e n (by simp)) (fun b o _ e=>u.there b o e (by simp)) u.tups u.frzs u.tbls (fun m' hm=>by
  obtain ⟨o',es',ep',ho',r'⟩:=hm
  rw [ho] at ho';cases ho'
  exact ⟨_,es',ep',hL,r'⟩) hok I.bare
theorem Inv.call {g':Array GenState} {t':Nat} {d':Drawn} {ch:List Addr} (I:Inv X pins σ H s) (u:Un (frs X.stack) ch H H' s.heap h') (hok:HOk X.prog X.w H' h') (hg:AllBare g')
  (hch:∀b∈ch,(b∈X.ex∨X.s₀.heap.objs.size≤b)∧b≠X.env.locals∧(∀x c,X.env.cells.lookup x=some c→c≠b)∧∀p∈X.pn++pins,p.1≠b):
  Inv X pins σ H' {s with heap:=h',gens:=g',drawn:=d',toks:=t'}:=by
 obtain ⟨m,⟨o,es,ep,ho,r⟩,_⟩:=id I.loc
 obtain ⟨sl,hL⟩:=u.any ho I.free fun z=>(hch _ z).2.1 rfl
 exact I.step (ch:=ch) hch (fun b o hL hb hc e n=>u.keep b o e n (fun z=>(List.mem_cons.mp (I.fB b z)).elim hL hb) hc) (fun b o _ _ hc e n=>u.any e n hc) (fun b o hc e n=>u.free b o e n hc) (fun b o hc e=>u.there b o e hc) u.tups u.frzs u.tbls (fun m' hm=>by
  obtain ⟨o',es',ep',ho',r'⟩:=hm
  rw [ho] at ho';cases ho'
  exact ⟨_,es',ep',hL,r'⟩) hok hg
theorem Inv.turned {t':Nat} {it:Addr} (I:Inv X pins σ H s) (k:∀b o,b≠it→s.heap.get? b=some o→h'.get? b=some o) (hn:H it=none) (hL:it≠X.env.locals)
  (h1:it∈X.ex∨X.s₀.heap.objs.size≤it) (h2:∀x c,X.env.cells.lookup x=some c→c≠it) (h3:∀p∈X.pn++pins,p.1≠it):Inv X pins σ H {s with heap:=h',toks:=t'}:=by
 have nit:∀b u,H b=some u→b≠it:=fun b u e z=>by rw [z,hn] at e;cases e
 refine I.step (g':=s.gens) (d':=s.drawn) (ch:=[it]) (fun b hb=>?_) (fun b o _ _ hc e _=>k b o (fun z=>hc (by simp [z])) e) (fun b o _ _ hc e _=>⟨o.slots,k b o (fun z=>hc (by simp [z])) e⟩) (fun _ _ _ _ n=>n)
  (fun b o hc e=>⟨o,k b o (fun z=>hc (by simp [z])) e⟩) (fun _ _ e=>e) (fun _ _ _ e=>e) (fun b ps e=>⟨#[],by rw [e];simp⟩) (fun m hm=>?_) (fun b u e=>?_) I.bare
 ·have e:b=it:=by simpa using hb
  subst e
  exact ⟨h1,hL,h2,h3⟩
 ·obtain ⟨o,es,ep,ho,r⟩:=hm
  exact ⟨o,es,ep,k _ o (Ne.symm hL) ho,r⟩
 ·refine (I.hok b u e).j4 (fun c v hc q=>k c v ?_ q) (fun _ q=>q) fun _ _ q=>q
  rcases hc with z | z
  ·rw [z];exact nit b u e
  ·exact nit c _ z
theorem Inv.tok (I:Inv X pins σ H s) (t:Nat):Inv X pins σ H {s with toks:=t}:=I.un (h':=s.heap) (t':=t) Un.refl I.hok
theorem Inv.kept {t':Nat} (I:Inv X pins σ H s) (k:∀b u,s.heap.get? b=some u→h'.get? b=some u):Inv X pins σ H {s with heap:=h',toks:=t'}:=I.un (Un.kept k) (I.hok.kept k)
theorem Inv.laid {a:Addr} {o:HO} {t':Nat} (I:Inv X pins σ H s) (k:∀b u,s.heap.get? b=some u→h'.get? b=some u) (hp:s.heap.objs.size≤a) (new:bp X.prog X.w (upd H a o) h' a o):
  Inv X pins σ (upd H a o) {s with heap:=h',toks:=t'}:=I.un (Un.laid k hp (I.hok.fresh hp)) (I.hok.laid k hp new)
theorem Inv.write {x e:Addr} {o:HO} {t':Nat} (I:Inv X pins σ H s) (mu:Mut (H x)) (he:e=x∨H e=some (.own x)) (k:∀b u,b≠e→s.heap.get? b=some u→h'.get? b=some u) (heo:∃u,h'.get? e=some u)
  (new:bp X.prog X.w (upd H x o) h' x o):Inv X pins σ (upd H x o) {s with heap:=h',toks:=t'}:=I.un (Un.write mu he k heo) (I.hok.write mu he k heo new)
theorem Inv.mB {pins':List (Addr×Obj)} (I:Inv X pins σ H s) (h:∀p∈pins',s.heap.get? p.1=some p.2∧H p.1=none∧p.1≠X.env.locals∧p.1∉X.fs∧∀v,p.2.data≠.cell v):Inv X pins' σ H s:=
 ⟨I.ok,I.os,I.bare,I.base,I.loc,I.cell,I.free,I.freeC,fun p hp=>(List.mem_append.mp hp).elim (fun z=>I.pin p (List.mem_append_left _ z)) (h p),I.hok,I.len⟩
theorem kz {N:List Str} (hN:N.Nodup) {i j:Nat} {x:Str} (a:N[i]?=some x) (b:N[j]?=some x):i=j:=by
 obtain ⟨h1,e1⟩:=List.getElem?_eq_some_iff.mp a
 obtain ⟨h2,e2⟩:=List.getElem?_eq_some_iff.mp b
 exact (List.getElem_inj hN).mp (e1.trans e2.symm)
theorem fA {M:Model} {A:Around} {E:Value→Shared→Prop} {i:Nat} {x:Str} {v:V} {u:Value} {Q:Unit→Shared→Prop} (I:Inv X pins σ H s) (hN:X.N.Nodup) (hi:X.N[i]?=some x) (hx:Loc X.env.scope x) (r:RelV v u)
  (h:∀s',Inv X pins (σ.set i (some v)) H s'→(∃a,Heap.SameBut a s.heap s'.heap∧(a=X.env.locals∨X.env.cells.lookup x=some a))→Q () s') (hf:X.fn x=true∨X.env.scope.names.lookup x=some .local:=by first | exact .inl rfl | exact .inr rfl | assumption):wpAny M A (storeName X.env x u) Q E s:=by
 obtain ⟨m,hn,hl⟩:=id I.loc
 have hcls:(X.env.scope.kind==.class||(X.env.scope.kind==.module&&X.env.locals !=X.env.globals))=false:=by rw [I.ok.kind];rfl
 have hiσ:i < σ.length:=by rw [I.len];exact (List.getElem?_eq_some_iff.mp hi).1
 have cne:=I.cne
 have tracked:∀{a:Addr} {h':Heap},(∃o,s.heap.get? a=some o∧H a=none)→Heap.SameBut a s.heap h'→HOk X.prog X.w H h':=fun {a h'} ha hs b ob e=>by
  obtain ⟨_,_,hfree⟩:=ha
  refine (I.hok b ob e).j4 (fun c w' hc q=>(hs.2 c ?_).trans q) (fun _ q=>q) fun _ _ q=>q
  rintro rfl
  rcases hc with rfl | hc
  ·rw [hfree] at e;cases e
  ·rw [hfree] at hc;cases hc
 rcases hx with hk | hk
 ·refine wpAny_storeName_local hk hn (fun h' hn' hs=>?_) hcls
  obtain ⟨oL,_,_,hoL,_⟩:=id hn
  refine h _ ⟨I.ok,I.os,I.bare,⟨fun b o e n hb hx=>?_,fun b o e n hb hx=>?_,I.base.free,fun b o e hx=>?_,I.base.tups,I.base.frzs,I.base.tbls⟩,⟨_,hn',fun j y v' e1 e2 e3=>?_⟩,fun y c e=>?_,I.free,I.freeC,fun p hp=>?_,tracked ⟨oL,hoL,I.free⟩ hs,by simpa using I.len⟩ ⟨_,hs,.inl rfl⟩
  ·exact (hs.2 b (Nat.ne_of_lt (Nat.lt_of_lt_of_le (Heap.lt_size e) I.ok.above))).trans (I.base.keep b o e n hb hx)
  ·obtain ⟨sl,e1⟩:=I.base.slot b o e n hb hx
   exact ⟨sl,(hs.2 b (Nat.ne_of_lt (Nat.lt_of_lt_of_le (Heap.lt_size e) I.ok.above))).trans e1⟩
  ·obtain ⟨o',e1⟩:=I.base.there b o e hx
   exact ⟨o',(hs.2 b (Nat.ne_of_lt (Nat.lt_of_lt_of_le (Heap.lt_size e) I.ok.above))).trans e1⟩
  ·by_cases hj:j=i
   ·subst hj
    rw [hi] at e1;cases e1
    rw [List.getElem?_set_self hiσ] at e2
    cases e2
    exact ⟨u,r,.inl ⟨hk,by simp⟩⟩
   ·rw [List.getElem?_set_ne (Ne.symm hj)] at e2
    obtain ⟨u',r',q⟩:=hl j y v' e1 e2 e3
    refine ⟨u',r',?_⟩
    rcases q with ⟨k,e⟩ | ⟨k,c,e,z⟩
    ·refine .inl ⟨k,?_⟩
     have:y≠x:=fun e=>hj (kz hN e1 (e ▸ hi))
     simp [this,e]
    ·exact .inr ⟨k,c,e,z.sameBut hs (cne y c e)⟩
  ·obtain ⟨w',z⟩:=I.cell y c e
   exact ⟨w',z.sameBut hs (cne y c e)⟩
  ·obtain ⟨e,n,ne,nf,d⟩:=I.pin p hp
   exact ⟨(hs.2 p.1 ne).trans e,n,ne,nf,d⟩
 ·have hfn:X.fn x=true:=by
   rcases hf with z | z
   ·exact z
   ·rw [z] at hk;cases hk
  obtain ⟨c,hc⟩:=I.ok.has x (.inl hk)
  obtain ⟨w',z⟩:=I.cell x c hc
  refine wpAny_storeName_cell I.ok.kind hk hc z (fun h' hc' hs=>?_)
  obtain ⟨oc,hoc,hocd⟩:=id z
  refine h {s with heap:=h'} ⟨I.ok,I.os,I.bare,⟨fun b o e n hb hx=>?_,fun b o e n hb hx=>?_,I.base.free,fun b o e hx=>?_,I.base.tups,I.base.frzs,I.base.tbls⟩,⟨m,hn.sameBut hs (Ne.symm (cne x c hc)),fun j y v' e1 e2 e3=>?_⟩,fun y c' e=>?_,I.free,I.freeC,fun p hp=>?_,tracked ⟨oc,hoc,I.freeC x c hc⟩ hs,by simpa using I.len⟩ ⟨c,hs,.inr hc⟩
  ·exact (hs.2 b (Nat.ne_of_lt (Nat.lt_of_lt_of_le (Heap.lt_size e) (I.ok.cab x c hfn hc)))).trans (I.base.keep b o e n hb hx)
  ·obtain ⟨sl,e1⟩:=I.base.slot b o e n hb hx
   exact ⟨sl,(hs.2 b (Nat.ne_of_lt (Nat.lt_of_lt_of_le (Heap.lt_size e) (I.ok.cab x c hfn hc)))).trans e1⟩
  ·obtain ⟨o',e1⟩:=I.base.there b o e hx
   exact ⟨o',(hs.2 b (Nat.ne_of_lt (Nat.lt_of_lt_of_le (Heap.lt_size e) (I.ok.cab x c hfn hc)))).trans e1⟩
  ·by_cases hj:j=i
   ·subst hj
    rw [hi] at e1;cases e1
    rw [List.getElem?_set_self hiσ] at e2
    cases e2
    exact ⟨u,r,.inr ⟨.inl hk,c,hc,hc'⟩⟩
   ·rw [List.getElem?_set_ne (Ne.symm hj)] at e2
    obtain ⟨u',r',q⟩:=hl j y v' e1 e2 e3
    refine ⟨u',r',?_⟩
    rcases q with q | ⟨k,c',e,z'⟩
    ·exact .inl q
    ·refine .inr ⟨k,c',e,z'.sameBut hs ?_⟩
     rintro rfl
     exact hj (kz hN e1 (I.ok.inj _ _ _ e hc ▸ hi))
  ·by_cases hcc:c'=c
   ·subst hcc;exact ⟨_,hc'⟩
   ·obtain ⟨w2,z2⟩:=I.cell y c' e
    exact ⟨w2,z2.sameBut hs hcc⟩
  ·obtain ⟨e,n,ne,nf,d⟩:=I.pin p hp
   refine ⟨(hs.2 p.1 ?_).trans e,n,ne,nf,d⟩
   intro q
   rw [q,hoc] at e
   have q':oc=p.2:=Option.some.inj e
   exact d w' (by rw [←q'];exact hocd)
theorem gM {M:Model} {A:Around} {E:Value→Shared→Prop} {i:Nat} {x:Str} {v:V} {u:Value} {Q:Unit→Shared→Prop} (I:Inv X pins σ H s) (hN:X.N.Nodup) (hi:X.N[i]?=some x) (hx:Loc X.env.scope x) (r:RelV v u)
  (h:∀s',Inv X pins (σ.set i (some v)) H s'→Q () s') (hf:X.fn x=true∨X.env.scope.names.lookup x=some .local:=by first | exact .inl rfl | exact .inr rfl | assumption):wpAny M A (storeName X.env x u) Q E s:=
 fA I hN hi hx r (fun s' I' _=>h s' I') hf
theorem Inv.call' {s':Shared} {ch:List Addr} (I:Inv X pins σ H s) (ho:s'.os=s.os) (u:Un (frs X.stack) ch H H' s.heap s'.heap) (hok:HOk X.prog X.w H' s'.heap) (hg:AllBare s'.gens)
  (hch:∀b∈ch,(b∈X.ex∨X.s₀.heap.objs.size≤b)∧b≠X.env.locals∧(∀x c,X.env.cells.lookup x=some c→c≠b)∧∀p∈X.pn++pins,p.1≠b):Inv X pins σ H' s':=by
 obtain ⟨h',g',d',t',o'⟩:=s'
 have e:o'=s.os:=ho
 subst e
 exact I.call (g':=g') (t':=t') (d':=d') u hok hg hch
end
abbrev XK:=Value→Option Addr→Hp→Prop
abbrev St:=List (Option V)
abbrev VK:=V→Hp→Prop
abbrev TE:=St→Hp→VK→Prop
abbrev TT:=St→Hp→(Bool→Hp→Prop)→Prop
abbrev TA:=St→Hp→(List V→Hp→Prop)→Prop
structure Ends where
 nx:St→Hp→Prop
 rt:VK
 bk:St→Hp→Prop:=fun _ _=>False
 ct:St→Hp→Prop:=fun _ _=>False
abbrev TS:=Ends→St→Hp→Prop
inductive EPi (X:Cx) (pins:List (Addr×Obj)) (σ:St) (Q:VK) (u:Value) (s':Shared):Prop where
 | mk (v H'):Inv X pins σ H' s'→RelV v u→Q v H'→EPi X pins σ Q u s'
def EP (X:Cx) (pins:List (Addr×Obj)) (σ:St) (Q:VK) (u:Value) (s':Shared):Prop:=EPi X pins σ Q u s'
def TP (X:Cx) (pins:List (Addr×Obj)) (σ:St) (Q:Bool→Hp→Prop) (b:Bool) (s':Shared):Prop:=∃H',Inv X pins σ H' s'∧Q b H'
inductive APi (X:Cx) (pins:List (Addr×Obj)) (σ:St) (Q:List V→Hp→Prop) (us:List Value) (s':Shared):Prop where
 | mk (vs H'):Inv X pins σ H' s'→Vals vs us→Q vs H'→APi X pins σ Q us s'
def AP (X:Cx) (pins:List (Addr×Obj)) (σ:St) (Q:List V→Hp→Prop) (us:List Value) (s':Shared):Prop:=APi X pins σ Q us s'
def SP (X:Cx) (pins:List (Addr×Obj)) (D:Ends) (f:Flow) (s':Shared):Prop:=
 match f with
 | .next=>∃σ' H',Inv X pins σ' H' s'∧D.nx σ' H'
 | .brk=>∃σ' H',Inv X pins σ' H' s'∧D.bk σ' H'
 | .cont=>∃σ' H',Inv X pins σ' H' s'∧D.ct σ' H'
 | .ret u=>∃v σ' H',Inv X pins σ' H' s'∧RelV v u∧D.rt v H'
def PE (X:Cx) (e:Expr) (t:TE):Prop:=
 ∀(pins:List (Addr×Obj)) (s:Shared) (σ:St) (H:Hp) (Q:VK),Inv X pins σ H s→t σ H Q→wpAny (model X.prog X.w) X.A (eval e X.env) (EP X pins σ Q) X.xe s
def PT (X:Cx) (e:Expr) (t:TT):Prop:=
 ∀(pins:List (Addr×Obj)) (s:Shared) (σ:St) (H:Hp) (Q:Bool→Hp→Prop),Inv X pins σ H s→t σ H Q→wpAny (model X.prog X.w) X.A (isTrue e X.env (eval e X.env)) (TP X pins σ Q) X.xe s
def PW (X:Cx) (e:Expr) (t:TT):Prop:=
 ∀(whole:Sem Value) (pins:List (Addr×Obj)) (s:Shared) (σ:St) (H:Hp) (Q:Bool→Hp→Prop),Inv X pins σ H s→t σ H Q→wpAny (model X.prog X.w) X.A (isTrue e X.env whole) (TP X pins σ Q) X.xe s
theorem PW.pt {X:Cx} {e:Expr} {t:TT} (h:PW X e t):PT X e t:=h _
def PA (X:Cx) (es:List Expr) (t:TA):Prop:=
 ∀(pos:Pos) (pins:List (Addr×Obj)) (s:Shared) (σ:St) (H:Hp) (Q:List V→Hp→Prop),Inv X pins σ H s→t σ H Q→wpAny (model X.prog X.w) X.A (spliced (backTo pos (starEach es X.env))) (AP X pins σ Q) X.xe s
def PS (X:Cx) (st:Stmt) (t:TS):Prop:=
 ∀(pins:List (Addr×Obj)) (s:Shared) (σ:St) (H:Hp) (D:Ends),Inv X pins σ H s→t D σ H→wpAny (model X.prog X.w) X.A (exec st X.env) (SP X pins D) X.xe s
def PSs (X:Cx) (st:List Stmt) (t:TS):Prop:=
 ∀(pins:List (Addr×Obj)) (s:Shared) (σ:St) (H:Hp) (D:Ends),Inv X pins σ H s→t D σ H→wpAny (model X.prog X.w) X.A (execs st X.env) (SP X pins D) X.xe s
theorem thn {α:Type} {t:Sem α} {Q Q':α→Shared→Prop} {M:Model} {A:Around} {E:Value→Shared→Prop} {s:Shared} (h:wpAny M A t Q E s) (hQ:∀a s,Q a s→Q' a s):wpAny M A t Q' E s:=wpAny_mono h hQ fun _ _ x=>x
end L2
namespace L2
open PySem PySem.Spec PyProof.Rows
section
variable {X:Cx}
def xE (i:Nat):TE:=fun σ H Q=>∃v,σ[i]?=some (some v)∧Q v H
def tC (v:V):TE:=fun _ H Q=>Q v H
theorem ub {i:Nat} {x:Str} {pos:Pos} (hN:X.N[i]?=some x) (hv:Vis X.env.scope x) (hd:(x==("__debug__":Str))=false:=by decide) (hcd:(x==("__classdict__":Str))=false:=by decide):PE X (.Name x pos) (xE i):=by
 intro pins s σ H Q I h
 obtain ⟨v,e,h⟩:=h
 obtain ⟨m,hn,hl⟩:=I.loc
 obtain ⟨u,r,l⟩:=hl i x v hN e hv
 have fin:EP X pins σ Q u s:=⟨v,H,I,r,h⟩
 rcases l with ⟨hk,hm⟩ | ⟨hk,c,hc,hcell⟩
 ·exact wpAny_Name (wpAny_loadName_local I.ok.kind hk hn hm fin) hd
 ·rcases hk with hk | hk
  ·exact wpAny_Name (wpAny_loadName_cell I.ok.kind hk hc hcell fin) hd
  ·exact wpAny_Name (wpAny_loadName_free I.ok.kind hk hc hcell fin hcd) hd
theorem um {i j pos}:PE X (.Constant (.int i) j pos) (tC (.int i)):=fun _ _ _ H _ I h=>wpAny_Constant_int ⟨.int i,H,I.tok _,⟨_,rfl⟩,h⟩
theorem wQ {b j pos}:PE X (.Constant (.bool b) j pos) (tC (.bl b)):=fun _ _ _ H _ I h=>Constant_bool ⟨.bl b,H,I,rfl,h⟩
theorem uh {j pos}:PE X (.Constant .none j pos) (tC .non):=fun _ _ _ H _ I h=>Constant_none ⟨.non,H,I,rfl,h⟩
theorem ue {x j pos}:PE X (.Constant (.str x) j pos) (tC (.str x)):=fun _ _ _ H _ I h=>Calls.Constant_str ⟨.str x,H,I.tok _,⟨_,rfl⟩,h⟩
def Gl (X:Cx) (x:Str):Prop:=X.env.kindOf x=some .globalImplicit
theorem gF {E:Value→Shared→Prop} {pins:List (Addr×Obj)} {s:Shared} {σ:St} {H:Hp} {x:Str} {u:Value} {pos:Pos} {Q:Value→Shared→Prop} (I:Inv X pins σ H s) (hg:Gl X x) (hm:X.mg x=some u) (h:Q u s)
  (hd:(x==("__debug__":Str))=false:=by decide):wpAny (model X.prog X.w) X.A (eval (.Name x pos) X.env) Q E s:=
 Calls.Name_function_global I.ok.kind hg (Calls.loadGlobal_global (by rw [I.ok.glob];exact I.mod.glob.keeps I.bk) hm h) hd
theorem fR {E:Value→Shared→Prop} {pins:List (Addr×Obj)} {s:Shared} {σ:St} {H:Hp} {x:Str} {u:Value} {pos:Pos} {Q:Value→Shared→Prop} (I:Inv X pins σ H s) (hg:Gl X x) (hm:X.mg x=none) (hv:bootBuiltins x=some u) (h:Q u s)
  (hn:x≠"__name__":=by decide) (hd:(x==("__debug__":Str))=false:=by decide):wpAny (model X.prog X.w) X.A (eval (.Name x pos) X.env) Q E s:=by
 obtain ⟨mb,h1,h2⟩:=I.mod.blt
 exact Calls.Name_function_global I.ok.kind hg (Calls.loadGlobal_builtin (by rw [I.ok.glob];exact I.mod.glob.keeps I.bk) hm (by rw [I.ok.blt];exact h1.keeps I.bk) ((h2 x hn).trans hv) h) hd
theorem qR {x:Str} {v:V} {u:Value} {pos:Pos} (hg:Gl X x) (hm:X.mg x=some u) (r:RelV v u) (hd:(x==("__debug__":Str))=false:=by decide):PE X (.Name x pos) (tC v):=
 fun _ _ _ H _ I h=>gF I hg hm ⟨v,H,I,r,h⟩ hd
theorem qU {x:Str} {v:V} {u:Value} {pos:Pos} (hg:Gl X x) (hm:X.mg x=none) (hv:bootBuiltins x=some u) (r:RelV v u) (hn:x≠"__name__":=by decide) (hd:(x==("__debug__":Str))=false:=by decide):PE X (.Name x pos) (tC v):=
 fun _ _ _ H _ I h=>fR I hg hm hv ⟨v,H,I,r,h⟩ hn hd
variable {a b:Expr} {ta tb:TE} {pos:Pos}
def PC (X:Cx) (op:CmpOp) (a b:Expr) (t:TE):Prop:=
 ∀(pins:List (Addr×Obj)) (s:Shared) (σ:St) (H:Hp) (Q:VK),Inv X pins σ H s→t σ H Q→
  wpAny (model X.prog X.w) X.A (eval a X.env) (fun v s₁=>wpAny (model X.prog X.w) X.A (eval b X.env) (fun u s₂=>wpAny (model X.prog X.w) X.A (compareOp op v u) (EP X pins σ Q) X.xe s₂) X.xe s₁) X.xe s
def tB (t:TE):TT:=fun σ H Q=>t σ H fun x H1=>∃c,x=.bl c∧Q c H1
theorem tV {op:CmpOp} {t:TE} (h:PC X op a b t) (h1:behindInMarks op b=false:=by first | exact nobehind _ (by decide) (by decide) | rfl):PT X (.Compare a [op] [b] pos) (tB t):=by
 intro pins s σ H Q I hw
 refine wpAny_isTrue_Compare1 (thn (h pins s σ H _ I hw) fun v s1 h1=>thn h1 fun u s2 h2=>thn h2 fun c s3 ⟨x,H1,I1,r1,q1⟩=>?_) h1
 obtain ⟨d,rfl,q⟩:=q1
 cases r1
 exact wpAny_truthy_bool ⟨H1,I1,q⟩
variable {tA tB':TT} {rest:List Expr}
def ox (t u:TT):TT:=fun σ H Q=>t σ H fun c H1=>if c=true then u σ H1 Q else Q false H1
def tOr (t u:TT):TT:=fun σ H Q=>t σ H fun c H1=>if c=true then Q true H1 else u σ H1 Q
def bP (t:TT):TT:=fun σ H Q=>t σ H fun c H1=>Q (!c) H1
theorem qE (ha:PT X a tA):PW X (.BoolOp .And [a] pos) tA:=by
 intro wh pins s σ H Q I h
 refine isTrue_and (thn (ha pins s σ H Q I h) fun c s1 e=>?_)
 cases c with
 | true=>exact isTrue_and_nil e
 | false=>exact e
theorem tS (ha:PT X a tA):PW X (.BoolOp .Or [a] pos) tA:=by
 intro wh pins s σ H Q I h
 refine isTrue_or (thn (ha pins s σ H Q I h) fun c s1 e=>?_)
 cases c with
 | false=>exact isTrue_or_nil e
 | true=>exact e
theorem tT (ha:PT X a tA) (hb:PW X (.BoolOp .And (b::rest) pos) tB'):PW X (.BoolOp .And (a::b::rest) pos) (ox tA tB'):=by
 intro wh pins s σ H Q I h
 refine isTrue_and (thn (ha pins s σ H _ I h) fun c s1 ⟨H1,I1,q1⟩=>?_)
 cases c with
 | true=>exact hb wh pins s1 σ H1 Q I1 q1
 | false=>exact ⟨H1,I1,q1⟩
theorem wJ (ha:PT X a tA) (hb:PW X (.BoolOp .Or (b::rest) pos) tB'):PW X (.BoolOp .Or (a::b::rest) pos) (tOr tA tB'):=by
 intro wh pins s σ H Q I h
 refine isTrue_or (thn (ha pins s σ H _ I h) fun c s1 ⟨H1,I1,q1⟩=>?_)
 cases c with
 | true=>exact ⟨H1,I1,q1⟩
 | false=>exact hb wh pins s1 σ H1 Q I1 q1
theorem tU (ha:PT X a tA):PT X (.UnaryOp .Not a pos) (bP tA):=by
 intro pins s σ H Q I h
 exact isTrue_not (ha pins s σ H (fun c H1=>Q (!c) H1) I h)
def wg (ta tb:TE):TE:=fun σ H Q=>ta σ H fun x H1=>∃c,x=.bl c∧if c=true then tb σ H1 Q else Q (.bl false) H1
def xH (ta tb:TE):TE:=fun σ H Q=>ta σ H fun x H1=>∃c,x=.bl c∧if c=true then Q (.bl true) H1 else tb σ H1 Q
def v3 (ta:TE):TE:=fun σ H Q=>ta σ H fun x H1=>∃c,x=.bl c∧Q (.bl (!c)) H1
theorem uf {op} {t:TE} (h:PE X a t):PE X (.BoolOp op [a] pos) t:=fun pins s σ H Q I hw=>BoolOp_one (h pins s σ H Q I hw)
theorem uo (ha:PE X a ta) (hb:PE X (.BoolOp .And (b::rest) pos) tb):PE X (.BoolOp .And (a::b::rest) pos) (wg ta tb):=by
 intro pins s σ H Q I h
 refine BoolOp_and (thn (ha pins s σ H _ I h) fun v s1 ⟨x,H1,I1,r1,q1⟩=>?_)
 obtain ⟨c,rfl,q1⟩:=q1
 cases r1
 refine wpAny_truthy_bool ?_
 cases c with
 | true=>exact hb pins s1 σ H1 Q I1 q1
 | false=>exact ⟨.bl false,H1,I1,rfl,q1⟩
theorem wM (ha:PE X a ta) (hb:PE X (.BoolOp .Or (b::rest) pos) tb):PE X (.BoolOp .Or (a::b::rest) pos) (xH ta tb):=by
 intro pins s σ H Q I h
 refine BoolOp_or (thn (ha pins s σ H _ I h) fun v s1 ⟨x,H1,I1,r1,q1⟩=>?_)
 obtain ⟨c,rfl,q1⟩:=q1
 cases r1
 refine wpAny_truthy_bool ?_
 cases c with
 | false=>exact hb pins s1 σ H1 Q I1 q1
 | true=>exact ⟨.bl true,H1,I1,rfl,q1⟩
theorem ug (ha:PE X a ta):PE X (.UnaryOp .Not a pos) (v3 ta):=by
 intro pins s σ H Q I h
 refine UnaryOp_ (thn (ha pins s σ H _ I h) fun v s1 ⟨x,H1,I1,r1,q1⟩=>?_)
 obtain ⟨c,rfl,q1⟩:=q1
 cases r1
 exact not_of (wpAny_truthy_bool ⟨.bl (!c),H1,I1,rfl,q1⟩)
end
end L2
namespace L2
open PySem PySem.Spec PyProof.Rows
def SqL (K:PySem.W.Frag) (H:Hp) (a:Addr) (xs:List V):Prop:=
 Rd H a (.lst xs)∨
  ∃(o:Obj) (its:Array Value) (n:Nat),K.lookup a=some o∧o.cls=.type "list"∧o.dict=none∧o.data=.seq its n∧its.size≤sizeLine∧Vals xs its.toList
def SqT (K:PySem.W.Frag) (H:Hp) (a:Addr) (xs:List V):Prop:=
 Rd H a (.tup xs)∨
  ∃(o:Obj) (its:Array Value) (n:Nat),K.lookup a=some o∧o.cls=.type "tuple"∧o.data=.seq its n∧its.size≤sizeLine∧Vals xs its.toList∧o.dict=none
def yC:Value→Option V
 | .none=>some .non
 | .bool b=>some (.bl b)
 | .int i _=>some (.int i)
 | .str x _=>some (.str x)
 | .bytes b _=>some (.byt b)
 | .float b _=>some (.flt b)
 | .ref a=>some (.ref a)
 | .type n=>some (.ty n)
 | _=>none
theorem RelV.abs {x:V} {u:Value} (r:RelV x u):yC u=some x:=by
 cases x with
 | non=>cases r;rfl
 | bl _=>cases r;rfl
 | int _=>obtain ⟨t,rfl⟩:=r;rfl
 | str _=>obtain ⟨t,rfl⟩:=r;rfl
 | byt _=>obtain ⟨t,rfl⟩:=r;rfl
 | flt _=>obtain ⟨t,rfl⟩:=r;rfl
 | ref _=>cases r;rfl
 | ty _=>cases r;rfl
theorem RelV.inj {x y:V} {u:Value} (r:RelV x u) (q:RelV y u):x=y:=Option.some.inj (r.abs.symm.trans q.abs)
theorem Vals.inj:∀{xs ys:List V} {us:List Value},Vals xs us→Vals ys us→xs=ys
 | _,_,_,.nil,.nil=>rfl
 | _,_,_,.cons r t,.cons r' t'=>by rw [r.inj r',Vals.inj t t']
section
variable {X:Cx} {pins:List (Addr×Obj)} {σ:St} {H:Hp} {s:Shared} {a:Addr} {xs ys:List V}
theorem SqL.of {K:PySem.W.Frag} (h:H a=some (.lst xs)):SqL K H a xs:=.inl (.inl h)
theorem Inv.list (I:Inv X pins σ H s) (h:SqL X.K H a xs):∃its:List Value,Vals xs its∧PlainL s.heap a its.toArray∧xs.length≤sizeLine:=by
 rcases h with h | ⟨o,its,n,hk,hc,hd,hs,hz,r⟩
 ·obtain ⟨z,its,n,r,e⟩:=h.ok I.hok
  exact ⟨its,r,⟨_,n,e,rfl,rfl,rfl⟩,z⟩
 ·refine ⟨its.toList,r,⟨o,n,I.kIn a o hk,hc,hd,by simpa using hs⟩,?_⟩
  have e:=r.length
  simp only [Array.length_toList] at e
  omega
theorem Inv.tuple (I:Inv X pins σ H s) (h:SqT X.K H a xs):∃its:List Value,Vals xs its∧IsTup s.heap a its.toArray∧xs.length≤sizeLine:=by
 rcases h with h | ⟨o,its,n,hk,hc,hs,hz,r,_⟩
 ·obtain ⟨z,its,r,p⟩:=h.ok I.hok
  exact ⟨its,r,p.tup,z⟩
 ·refine ⟨its.toList,r,⟨o,I.kIn a o hk,hc,n,by simpa using hs⟩,?_⟩
  have e:=r.length
  simp only [Array.length_toList] at e
  omega
theorem Inv.kC (I:Inv X pins σ H s) (h:SqL X.K H a xs) (h':SqL X.K H a ys):xs=ys:=by
 obtain ⟨its,r,⟨o,n,e,_,_,d⟩,_⟩:=I.list h
 obtain ⟨its',r',⟨o',n',e',_,_,d'⟩,_⟩:=I.list h'
 rw [e] at e';cases e'
 rw [d] at d'
 injection d' with d1 _
 have:its=its':=by simpa using congrArg Array.toList d1
 subst this
 exact r.inj r'
theorem Inv.iQ (I:Inv X pins σ H s) (h:SqT X.K H a xs) (h':SqT X.K H a ys):xs=ys:=by
 obtain ⟨its,r,⟨o,e,_,n,d⟩,_⟩:=I.tuple h
 obtain ⟨its',r',⟨o',e',_,n',d'⟩,_⟩:=I.tuple h'
 rw [e] at e';cases e'
 rw [d] at d'
 injection d' with d1 _
 have:its=its':=by simpa using congrArg Array.toList d1
 subst this
 exact r.inj r'
end
abbrev Cx.iw (X:Cx) (E:Value→Shared→Prop):Cx:={X with xe:=E}
abbrev Cx.nox (X:Cx):Cx:=X.iw fun _ _=>False
theorem Cx.Ok.iw {X:Cx} (ok:X.Ok) (E:Value→Shared→Prop):(X.iw E).Ok:=
 ⟨ok.mod,ok.kind,ok.glob,ok.blt,ok.above,ok.inj,ok.has,ok.cab,ok.hd,ok.frames,ok.stk,ok.exf,ok.bs,ok.bsz,ok.noex,ok.exfs,ok.ic,ok.frf⟩
theorem Cx.Ok.dB {X:Cx} {E:Value→Shared→Prop} (ok:(X.iw E).Ok):X.Ok:=
 ⟨ok.mod,ok.kind,ok.glob,ok.blt,ok.above,ok.inj,ok.has,ok.cab,ok.hd,ok.frames,ok.stk,ok.exf,ok.bs,ok.bsz,ok.noex,ok.exfs,ok.ic,ok.frf⟩
section
variable {X:Cx} {pins:List (Addr×Obj)} {σ:St} {H:Hp} {s:Shared} {E:Value→Shared→Prop}
theorem Inv.iw (I:Inv X pins σ H s) (E:Value→Shared→Prop):Inv (X.iw E) pins σ H s:=⟨I.ok.iw E,I.os,I.bare,I.base,I.loc,I.cell,I.free,I.freeC,I.pin,I.hok,I.len⟩
theorem Inv.dB (I:Inv (X.iw E) pins σ H s):Inv X pins σ H s:=⟨I.ok.dB,I.os,I.bare,I.base,I.loc,I.cell,I.free,I.freeC,I.pin,I.hok,I.len⟩
theorem SP.dB {D:Ends} {f:Flow} {s':Shared} (h:SP (X.iw E) pins D f s'):SP X pins D f s':=by
 cases f with
 | next=>obtain ⟨σ',H',I,q⟩:=h;exact ⟨σ',H',I.dB,q⟩
 | brk=>obtain ⟨σ',H',I,q⟩:=h;exact ⟨σ',H',I.dB,q⟩
 | cont=>obtain ⟨σ',H',I,q⟩:=h;exact ⟨σ',H',I.dB,q⟩
 | ret u=>obtain ⟨v,σ',H',I,r,q⟩:=h;exact ⟨v,σ',H',I.dB,r,q⟩
theorem PSs.nox {st:List Stmt} {t:TS} (h:PSs X.nox st t):PSs X st t:=fun pins s σ H D I hw=>
 wpAny_mono (h pins s σ H D (I.iw _) hw) (fun _ _ q=>q.dB) fun _ _ z=>False.elim z
end
section
variable {X:Cx} {st:Stmt} {rest:List Stmt} {t u:TS} {e:Expr} {te:TE} {pos:Pos}
def wa:TS:=fun D σ H=>D.nx σ H
def vY (t u:TS):TS:=fun D σ H=>t {D with nx:=u D} σ H
theorem qH:PSs X [] wa:=fun _ _ σ H _ I h=>wpAny_execs_nil ⟨σ,H,I,h⟩
theorem oU (h1:PS X st t) (h2:PSs X rest u):PSs X (st::rest) (vY t u):=by
 intro pins s σ H D I h
 refine wpAny_execs_cons (thn (h1 pins s σ H {D with nx:=u D} I h) fun f s1 q=>?_)
 cases f with
 | next=>
  obtain ⟨σ',H',I',q⟩:=q
  exact h2 pins s1 σ' H' D I' q
 | ret v=>exact q
 | brk=>exact q
 | cont=>exact q
theorem qG (h1:PS X st t):PSs X [st] t:=by
 intro pins s σ H D I h
 refine wpAny_execs_cons (thn (h1 pins s σ H D I h) fun f s1 q=>?_)
 cases f with
 | next=>exact wpAny_execs_nil q
 | ret v=>exact q
 | brk=>exact q
 | cont=>exact q
theorem Inv.quiet {pins:List (Addr×Obj)} {σ:St} {H:Hp} {s:Shared} (I:Inv X pins σ H s):interactive X.env=false:=by simp [interactive,I.ok.kind]
def wc (te:TE):TS:=fun D σ H=>te σ H fun _ H1=>D.nx σ H1
theorem qJ (he:PE X e te) (hs:swapsWith e none pos.line X.env=pure false:=by rfl):PS X (.Expr e pos) (wc te):=by
 intro pins s σ H D I h
 exact wpAny_Expr_any (thn (he pins s σ H _ I h) fun v s1 ⟨x,H1,I1,r1,q1⟩=>⟨σ,H1,I1,q1⟩) I.quiet hs
def xG (te:TE):TS:=fun D σ H=>te σ H D.rt
theorem tX (he:PE X e te):PS X (.Return (some e) pos) (xG te):=by
 intro pins s σ H D I h
 exact wpAny_Return_some (thn (he pins s σ H _ I h) fun v s1 ⟨x,H1,I1,r1,q1⟩=>⟨x,σ,H1,I1,r1,q1⟩)
def xM (c:TT) (t u:TS):TS:=fun D σ H=>c σ H fun b H1=>if b=true then t D σ H1 else u D σ H1
theorem wK {c:Expr} {a b:List Stmt} {tc:TT} (hc:PT X c tc) (ha:PSs X a t) (hb:PSs X b u):PS X (.If c a b pos) (xM tc t u):=by
 intro pins s σ H D I h
 refine wpAny_If (thn (hc pins s σ H _ I h) fun d s1 ⟨H1,I1,q1⟩=>?_)
 cases d with
 | true=>exact ha pins s1 σ H1 D I1 q1
 | false=>exact hb pins s1 σ H1 D I1 q1
end
abbrev TG:=V→St→Hp→(St→Hp→Prop)→Prop
abbrev TGs:=List V→St→Hp→(St→Hp→Prop)→Prop
def PG (X:Cx) (target:Expr) (t:TG):Prop:=
 ∀(pins:List (Addr×Obj)) (s:Shared) (σ:St) (H:Hp) (v:V) (u:Value) (Q:St→Hp→Prop),Inv X pins σ H s→RelV v u→t v σ H Q→
  wpAny (model X.prog X.w) X.A (assign target X.env u) (fun _ s'=>∃σ' H',Inv X pins σ' H' s'∧Q σ' H') X.xe s
def PGs (X:Cx) (ts:List Expr) (t:TGs):Prop:=
 ∀(pins:List (Addr×Obj)) (s:Shared) (σ:St) (H:Hp) (vs:List V) (us:List Value) (Q:St→Hp→Prop),Inv X pins σ H s→Vals vs us→t vs σ H Q→
  wpAny (model X.prog X.w) X.A (assignInOrder ((assignEach ts X.env).map (·.2)) us) (fun _ s'=>∃σ' H',Inv X pins σ' H' s'∧Q σ' H') X.xe s
abbrev vJ:=V→V→V→Hp→(Hp→Prop)→Prop
def vL (X:Cx) (t:vJ):Prop:=
 ∀(pins:List (Addr×Obj)) (s:Shared) (σ:St) (H:Hp) (o i v:V) (ov iv u:Value) (Q:Hp→Prop),Inv X pins σ H s→RelV o ov→RelV i iv→RelV v u→t o i v H Q→
  wpAny (model X.prog X.w) X.A (setItem ov iv u) (fun _ s'=>∃H',Inv X pins σ H' s'∧Q H') X.xe s
abbrev TIp:=V→V→Hp→VK→Prop
def PIp (X:Cx) (op:Operator) (t:TIp):Prop:=
 ∀(pins:List (Addr×Obj)) (s:Shared) (σ:St) (H:Hp) (x y:V) (v u:Value) (Q:VK),Inv X pins σ H s→RelV x v→RelV y u→t x y H Q→
  wpAny (model X.prog X.w) X.A (inplaceOp op v u) (EP X pins σ Q) X.xe s
section
variable {X:Cx} {pos:Pos}
def gm (i:Nat):TG:=fun v σ H Q=>Q (σ.set i (some v)) H
theorem qQ {i:Nat} {x:Str} (hN:X.N.Nodup) (hi:X.N[i]?=some x) (hx:Loc X.env.scope x) (hf:X.fn x=true∨X.env.scope.names.lookup x=some .local:=by first | exact .inl rfl | exact .inr rfl | assumption):PG X (.Name x pos) (gm i):=by
 intro pins s σ H v u Q I r h
 exact wpAny_assign_Name (gM I hN hi hx r (fun s' I'=>⟨_,H,I',h⟩) hf)
def yx:TGs:=fun vs σ H Q=>vs=[]∧Q σ H
def xc (t:TG) (u:TGs):TGs:=fun vs σ H Q=>∃v r,vs=v::r∧t v σ H fun σ' H'=>u r σ' H' Q
theorem qP:PGs X [] yx:=by
 intro pins s σ H vs us Q I r h
 obtain ⟨e,h⟩:=h
 subst e
 cases r
 exact assignInOrder_nil ⟨σ,H,I,h⟩
theorem oY {e:Expr} {es:List Expr} {t:TG} {u:TGs} (h1:PG X e t) (h2:PGs X es u)
  (hs:(assignEach (e::es) X.env).map (·.2)=assign e X.env::(assignEach es X.env).map (·.2):=by rfl):PGs X (e::es) (xc t u):=by
 intro pins s σ H vs us Q I r h
 obtain ⟨v,vr,e1,h⟩:=h
 subst e1
 cases r with
 | cons r rr=>
  rw [hs]
  refine assignInOrder_cons (thn (h1 pins s σ H _ _ _ I r h) fun _ s1 ⟨σ1,H1,I1,q1⟩=>?_)
  exact h2 pins s1 σ1 H1 _ _ Q I1 rr q1
def yw (K:PySem.W.Frag) (n:Nat) (t:TGs):TG:=fun v σ H Q=>∃a xs,v=.ref a∧SqT K H a xs∧xs.length=n∧t xs σ H Q
theorem t8 {es:List Expr} {k:Nat} {t:TGs} {n:Nat} (hc:X.calm=true) (h:PGs X es t)
  (hn:(assignEach es X.env).length=n:=by rfl) (hst:(assignEach es X.env).findIdx? (·.1)=none:=by rfl):PG X (.Tuple es k pos) (yw X.K n t):=by
 intro pins s σ H v u Q I r hw
 obtain ⟨a,xs,e1,hq,hl,hw⟩:=hw
 subst e1
 cases r
 obtain ⟨its,rv,ht,hz⟩:=I.tuple hq
 refine assign_Tuple_tuple (I.ok.hd hc) ht (by simp [hn,←hl,rv.length]) hst fun h' hx=>?_
 have I1:Inv X pins σ H {s with heap:=h'}:=I.kept (t':=s.toks) fun b o e=>hx b o (Nat.ne_of_lt (Heap.lt_size e)) e
 exact h pins _ σ H xs _ Q I1 (by simpa using rv) hw
def ib (to ti:TE) (t:vJ):TG:=fun v σ H Q=>to σ H fun o H1=>ti σ H1 fun i H2=>t o i v H2 fun H3=>Q σ H3
theorem t9 {o i:Expr} {to ti:TE} {t:vJ} (ho:PE X o to) (hi:PE X i ti) (hs:vL X t)
  (ha:∀v,assign (.Subscript o i pos) X.env v=(do
   let ov←holding [v] (eval o X.env)
   let iv←holding [v,ov] (eval i X.env)
   standAt pos
   holding [v,ov,iv] (setItem ov iv v)
   release [v,ov,iv] []):=by intro _;rfl):PG X (.Subscript o i pos) (ib to ti t):=by
 intro pins s σ H v u Q I r h
 rw [ha]
 refine wpAny_bind (wpAny_holding (thn (ho pins s σ H _ I h) fun ov s1 ⟨x,H1,I1,r1,q1⟩=>?_))
 refine wpAny_bind (wpAny_holding (thn (hi pins s1 σ H1 _ I1 q1) fun iv s2 ⟨y,H2,I2,r2,q2⟩=>?_))
 refine wpAny_bind (wpAny_standAt (wpAny_bind (wpAny_holding (thn (hs pins s2 σ H2 x y v ov iv u _ I2 r1 r2 r q2) fun _ s3 ⟨H3,I3,q3⟩=>?_))))
 exact wpAny_release ⟨σ,H3,I3,q3⟩
def ni (te:TE) (g:TG):TS:=fun D σ H=>te σ H fun x H1=>g x σ H1 D.nx
theorem t4 {tg e:Expr} {te:TE} {g:TG} (he:PE X e te) (hg:PG X tg g) (hs:swapsWithSole [tg] e pos.line X.env=pure false:=by rfl) (hw:swappedStores [tg] e X.env=pure none:=by rfl)
  (h1:(assignEach [tg] X.env).map (·.2)=[assign tg X.env]:=by rfl):PS X (.Assign [tg] e pos) (ni te g):=by
 intro pins s σ H D I h
 refine wpAny_Assign_stores (thn (he pins s σ H _ I h) fun v s1 ⟨x,H1,I1,r1,q1⟩=>?_) hs hw
 rw [h1]
 exact thn (hg pins s1 σ H1 x v _ I1 r1 q1) fun _ s2 q=>q
theorem tW {i:Nat} {x:Str} {e:Expr} {te:TE} {pos':Pos} (hN:X.N.Nodup) (hi:X.N[i]?=some x) (hx:Loc X.env.scope x) (he:PE X e te) (hs:swapsWith e (some (.Name x pos')) pos.line X.env=pure false:=by rfl) (hf:X.fn x=true∨X.env.scope.names.lookup x=some .local:=by first | exact .inl rfl | exact .inr rfl | assumption):
  PS X (.Assign [.Name x pos'] e pos) (ni te (gm i)):=by
 intro pins s σ H D I h
 refine wpAny_Assign_Name (thn (he pins s σ H _ I h) fun v s1 ⟨y,H1,I1,r1,q1⟩=>?_) hs
 exact gM I1 hN hi hx r1 (fun s2 I2=>⟨_,H1,I2,q1⟩) hf
def xN (i:Nat) (te:TE) (ti:TIp):TS:=fun D σ H=>∃x,σ[i]?=some (some x)∧te σ H fun y H1=>ti x y H1 fun z H2=>D.nx (σ.set i (some z)) H2
theorem tZ {i:Nat} {x:Str} {e:Expr} {te:TE} {op:Operator} {ti:TIp} {pos':Pos} (hN:X.N.Nodup) (hi:X.N[i]?=some x) (hx:Loc X.env.scope x) (he:PE X e te) (ho:PIp X op ti) (hf:X.fn x=true∨X.env.scope.names.lookup x=some .local:=by first | exact .inl rfl | exact .inr rfl | assumption):
  PS X (.AugAssign (.Name x pos') op e pos) (xN i te ti):=by
 intro pins s σ H D I h
 obtain ⟨v,e1,h⟩:=h
 obtain ⟨m,hn,hl⟩:=I.loc
 have vis:Vis X.env.scope x:=by rcases hx with k | k;exact .inl k;exact .inr (.inl k)
 obtain ⟨u,r,l⟩:=hl i x v hi e1 vis
 refine wpAny_AugAssign_Name ?_
 have go:wpAny (model X.prog X.w) X.A (eval e X.env) (fun w s₂=>wpAny (model X.prog X.w) X.A (inplaceOp op u w) (fun r s₃=>wpAny (model X.prog X.w) X.A (storeName X.env x r) (fun _=>SP X pins D .next) X.xe s₃) X.xe s₂) X.xe s:=by
  refine thn (he pins s σ H _ I h) fun w s1 ⟨y,H1,I1,r1,q1⟩=>?_
  refine thn (ho pins s1 σ H1 v y u w _ I1 r r1 q1) fun z s2 ⟨zv,H2,I2,r2,q2⟩=>?_
  exact gM I2 hN hi hx r2 (fun s3 I3=>⟨_,H2,I3,q2⟩) hf
 rcases l with ⟨hk,hm⟩ | ⟨hk,c,hc,hcell⟩
 ·exact wpAny_loadName_local I.ok.kind hk hn hm go
 ·rcases hk with hk | hk
  ·exact wpAny_loadName_cell I.ok.kind hk hc hcell go
  ·rcases hx with k | k
   ·have:X.env.scope.names.lookup x=some .free:=hk
    rw [k] at this;cases this
   ·have:X.env.scope.names.lookup x=some .free:=hk
    rw [k] at this;cases this
end
section
variable {X:Cx} {pos:Pos}
end
structure It where
 go:Nat→Hp→Prop
 yld:Nat→Hp→V→Hp→Prop
 stop:Nat→Hp→Prop
def cD (X:Cx) (pins:List (Addr×Obj)) (H:Hp) (b:Addr):Prop:=
 H b=none∧b≠X.env.locals∧b∉X.fs∧(b∈X.ex∨X.s₀.heap.objs.size≤b)∧(∀x c,X.env.cells.lookup x=some c→c≠b)∧∀p∈X.pn++pins,p.1≠b
theorem Inv.kJ {X:Cx} {pins:List (Addr×Obj)} {σ:St} {H H':Hp} {s:Shared} {b:Addr} (I:Inv X pins σ H s) (hb:s.heap.objs.size≤b) (hn:H' b=none):cD X pins H' b:=by
 refine ⟨hn,Nat.ne_of_gt (Nat.lt_of_lt_of_le I.lt hb),I.yl hb,.inr (Nat.le_trans I.sz hb),fun x c e z=>?_,fun p hp z=>?_⟩
 ·obtain ⟨v,q⟩:=I.cell x c e
  exact absurd (Nat.lt_of_lt_of_le q.lt (by rw [z];exact hb)) (Nat.lt_irrefl _)
 ·exact absurd (Nat.lt_of_lt_of_le (Heap.lt_size (I.pin p hp).1) (by rw [z];exact hb)) (Nat.lt_irrefl _)
structure Turn (P:Program) (w:World) (K:PySem.W.Frag) (tg:Expr) (J:It) (fp:List Addr) (it:Addr) (tn:Nat→Heap→Prop):Prop where
 mem:it∈fp
 obj:∀i h,tn i h→∀b∈fp,∃o,h.get? b=some o∧∀v,o.data≠.cell v
 keep:∀i h h',tn i h→(∀b∈fp,∀o,h.get? b=some o→h'.get? b=some o)→tn i h'
 item:∀(X:Cx),X.prog=P→X.w=w→X.K=K→X.calm=true→∀(i:Nat) (pins:List (Addr×Obj)) (s:Shared) (σ:St) (H:Hp) (E:Value→Shared→Prop),Inv X pins σ H s→(∀b∈fp,cD X pins H b)→tn i s.heap→J.go i H→
  wpAny (model P w) X.A (pyNext (.ref it)) (fun r s1=>∃u,r=some u∧
   wpAny (model P w) X.A (letOwnedTupleGo tg (.ref it) u) (fun _ s2=>∃x H',Inv X pins σ H' s2∧RelV x u∧J.yld i H x H'∧tn (i+1) s2.heap∧∀b∈fp,H' b=none) E s1) E s
 done:∀(X:Cx),X.prog=P→X.w=w→X.K=K→X.calm=true→∀(i:Nat) (pins:List (Addr×Obj)) (s:Shared) (σ:St) (H:Hp) (E:Value→Shared→Prop),Inv X pins σ H s→(∀b∈fp,cD X pins H b)→tn i s.heap→J.stop i H→
  wpAny (model P w) X.A (pyNext (.ref it)) (fun r s1=>r=none∧Inv X pins σ H s1) E s
 self:∀(A:Around) (i:Nat) (s:Shared) (Q:Value→Shared→Prop) (E:Value→Shared→Prop),tn i s.heap→Q (.ref it) s→wpAny (model P w) A (pyIter (.ref it)) Q E s
abbrev TI:=St→Hp→(It→Hp→Prop)→Prop
def PIE (X:Cx) (pins:List (Addr×Obj)) (σ:St) (tg:Expr) (R:It→Hp→Prop) (itv:Value) (s2:Shared):Prop:=
 ∃(it:Addr) (fp:List Addr) (tn:Nat→Heap→Prop) (J:It) (H':Hp),itv=.ref it∧Inv X pins σ H' s2∧Turn X.prog X.w X.K tg J fp it tn∧tn 0 s2.heap∧(∀b∈fp,cD X pins H' b)∧R J H'
def PI (X:Cx) (tg iter:Expr) (wi:TI):Prop:=
 ∀(pins:List (Addr×Obj)) (s:Shared) (σ:St) (H:Hp) (R:It→Hp→Prop),Inv X pins σ H s→wi σ H R→
  wpAny (model X.prog X.w) X.A (eval iter X.env) (fun v s1=>wpAny (model X.prog X.w) X.A (pyIter v) (PIE X pins σ tg R) X.xe s1) X.xe s
theorem mM {M:Model} {A:Around} {E:Value→Shared→Prop} {s:Shared} {tg:Expr} {it:Addr} {u:Value} {o:Obj} {n:String} {vs:Array Value} {Q:Unit→Shared→Prop} (ho:s.heap.get? it=some o) (hc:o.cls=.type n) (hd:o.data=.fields vs)
  (hn:["enumerate","zip","dict_itemiterator","dict_reverseitemiterator","odict_iterator","itertools.zip_longest","itertools.pairwise"].contains n=false) (hQ:Q () s):wpAny M A (letOwnedTupleGo tg (.ref it) u) Q E s:=by
 unfold letOwnedTupleGo
 cases tg <;> first
  | exact wpAny_pure hQ
  | (cases u <;> first
    | exact wpAny_pure hQ
    | (refine wpAny_bind (wpAny_load ho ?_);rw [hc,hd];show wpAny M A (if (["enumerate","zip","dict_itemiterator","dict_reverseitemiterator","odict_iterator","itertools.zip_longest","itertools.pairwise"].contains n&&vs[0]?==some (rawInt _))=true then _ else _) Q E s;rw [if_neg (by intro h;rw [hn,Bool.false_and] at h;cases h)];exact wpAny_pure hQ))
def Itl (K:PySem.W.Frag) (a:Addr):It:=
 ⟨fun i H=>∃xs x,SqL K H a xs∧xs[i]?=some x,fun i H x H'=>H'=H∧∀xs,SqL K H a xs→xs[i]?=some x,fun i H=>∃xs,SqL K H a xs∧xs.length≤i⟩
def Itt (K:PySem.W.Frag) (a:Addr):It:=
 ⟨fun i H=>∃xs x,SqT K H a xs∧xs[i]?=some x,fun i H x H'=>H'=H∧∀xs,SqT K H a xs→xs[i]?=some x,fun i H=>∃xs,SqT K H a xs∧xs.length≤i⟩
def Itr (lo:Int) (n:Nat):It:=⟨fun i _=>i < n,fun i H x H'=>H'=H∧x=.int (lo+i),fun i _=>n≤i⟩
theorem mY {P:Program} {w:World} {K:PySem.W.Frag} {tg:Expr} (a it:Addr):Turn P w K tg (Itl K a) [it] it (fun i h=>h.IsListIter it a i) where
 mem:=by simp
 obj:=fun i h st b hb=>by
  have e:b=it:=by simpa using hb
  subst e
  obtain ⟨o,e,c,d⟩:=st
  exact ⟨o,e,fun v z=>by rw [d] at z;cases z⟩
 keep:=fun i h h' st k=>st.at fun o e=>k it (by simp) o e
 item:=by
  intro X hP hw hK hc i pins s σ H E I hf st hg
  subst hP hw hK
  obtain ⟨xs,x,hq,hx⟩:=hg
  obtain ⟨its,rv,p,hz⟩:=I.list hq
  obtain ⟨u,hu,ru⟩:=rv.get hx
  obtain ⟨f0,f1,f2,f3,f4,f5⟩:=hf it (by simp)
  refine wpAny_pyNext_list_item st p.isList (x:=u) (by simpa using hu) fun h' st' sb=>?_
  have I1:Inv X pins σ H {s with heap:=h'}:=I.turned (t':=s.toks) (fun b o hb e=>(sb.2 b hb).trans e) f0 f1 f3 f4 f5
  obtain ⟨o,e,c,d⟩:=id st'
  exact ⟨u,rfl,mM (s:={s with heap:=h'}) e c d (by decide) ⟨x,H,I1,ru,⟨rfl,fun ys hy=>by rw [I.kC hy hq];exact hx⟩,st',fun b hb=>(hf b hb).1⟩⟩
 done:=by
  intro X hP hw hK hc i pins s σ H E I hf st hg
  subst hP hw hK
  obtain ⟨xs,hq,hx⟩:=hg
  obtain ⟨its,rv,p,hz⟩:=I.list hq
  obtain ⟨f0,f1,f2,f3,f4,f5⟩:=hf it (by simp)
  have hl:=rv.length
  exact wpAny_pyNext_list_end (I.ok.hd hc) st p.isList (by simp;omega) fun h' eb=>⟨rfl,I.turned (t':=s.toks) (fun b o hb e=>eb b o hb e) f0 f1 f3 f4 f5⟩
 self:=fun _ _ _ _ _ st h=>wpAny_pyIter_listiter st h
theorem kZ {P:Program} {w:World} {K:PySem.W.Frag} {tg:Expr} (a it:Addr):Turn P w K tg (Itt K a) [it] it (fun i h=>h.IsTupleIter it a i) where
 mem:=by simp
 obj:=fun i h st b hb=>by
  have e:b=it:=by simpa using hb
  subst e
  obtain ⟨o,e,c,d⟩:=st
  exact ⟨o,e,fun v z=>by rw [d] at z;cases z⟩
 keep:=fun i h h' st k=>st.at fun o e=>k it (by simp) o e
 item:=by
  intro X hP hw hK hc i pins s σ H E I hf st hg
  subst hP hw hK
  obtain ⟨xs,x,hq,hx⟩:=hg
  obtain ⟨its,rv,p,hz⟩:=I.tuple hq
  obtain ⟨u,hu,ru⟩:=rv.get hx
  obtain ⟨f0,f1,f2,f3,f4,f5⟩:=hf it (by simp)
  refine wpAny_pyNext_tuple_item st (show s.heap.IsTuple a its.toArray from p) (x:=u) (by simpa using hu) fun h' st' sb=>?_
  have I1:Inv X pins σ H {s with heap:=h'}:=I.turned (t':=s.toks) (fun b o hb e=>(sb.2 b hb).trans e) f0 f1 f3 f4 f5
  obtain ⟨o,e,c,d⟩:=id st'
  exact ⟨u,rfl,mM (s:={s with heap:=h'}) e c d (by decide) ⟨x,H,I1,ru,⟨rfl,fun ys hy=>by rw [I.iQ hy hq];exact hx⟩,st',fun b hb=>(hf b hb).1⟩⟩
 done:=by
  intro X hP hw hK hc i pins s σ H E I hf st hg
  subst hP hw hK
  obtain ⟨xs,hq,hx⟩:=hg
  obtain ⟨its,rv,p,hz⟩:=I.tuple hq
  obtain ⟨f0,f1,f2,f3,f4,f5⟩:=hf it (by simp)
  have hl:=rv.length
  exact wpAny_pyNext_tuple_end (I.ok.hd hc) st (show s.heap.IsTuple a its.toArray from p) (by simp;omega) fun h' eb=>⟨rfl,I.turned (t':=s.toks) (fun b o hb e=>eb b o hb e) f0 f1 f3 f4 f5⟩
 self:=fun _ _ _ _ _ st h=>wpAny_pyIter_tupleiter st h
theorem lg {P:Program} {w:World} {K:PySem.W.Frag} {tg:Expr} (it:Addr) (lo:Int) (n:Nat):Turn P w K tg (Itr lo n) [it] it (fun i h=>IsRangeIter h it (lo+(i:Nat)*1) ((n:Int)-(i:Nat)) 1) where
 mem:=by simp
 obj:=fun i h st b hb=>by
  have e:b=it:=by simpa using hb
  subst e
  exact ⟨_,st,fun v z=>by
   have z':Data.fields _=Data.cell v:=z
   cases z'⟩
 keep:=fun i h h' st k=>k it (by simp) _ st
 item:=by
  intro X hP hw hK hc i pins s σ H E I hf st hg
  subst hP hw hK
  obtain ⟨f0,f1,f2,f3,f4,f5⟩:=hf it (by simp)
  have W:=Walks.range (prog:=X.prog) (w:=X.w) (I.ok.hd hc) it lo 1 n
  refine W.item i s _ _ hg st fun v h' tk hv st' kk=>?_
  obtain ⟨t,rfl⟩:=hv
  have I1:Inv X pins σ H {s with heap:=h',toks:=tk}:=I.turned (fun b o hb e=>kk b o (by simpa using hb) e) f0 f1 f3 f4 f5
  refine ⟨_,rfl,mM (s:={s with heap:=h',toks:=tk}) (n:="range_iterator") st' rfl rfl (by decide) ⟨.int (lo+i),H,I1,⟨t,?_⟩,⟨rfl,rfl⟩,st',fun b hb=>(hf b hb).1⟩⟩
  rw [Int.mul_one]
 done:=by
  intro X hP hw hK hc i pins s σ H E I hf st hg
  subst hP hw hK
  obtain ⟨f0,f1,f2,f3,f4,f5⟩:=hf it (by simp)
  exact wpAny_pyNext_range_end (I.ok.hd hc) st (by have:n≤i:=hg;omega) fun h' eb=>⟨rfl,I.turned (t':=s.toks) (fun b o hb e=>eb b o hb e) f0 f1 f3 f4 f5⟩
 self:=fun _ _ _ _ _ st h=>wpAny_pyIter_rangeiter st h
end L2
namespace L2
open PySem PySem.Spec PyProof.Rows
section
variable {X:Cx} {tg:Expr}
theorem oM {pins:List (Addr×Obj)} {σ:St} {H:Hp} {s:Shared} {R:It→Hp→Prop} {E:Value→Shared→Prop} {lo hi:Int} {t u v:Tok} {tk:Nat} (I:Inv X pins σ H s) (h1:-(2^62)≤lo) (h2:lo < 2^62) (h3:-(2^62)≤hi) (h4:hi < 2^62)
  (q:R (Itr lo (hi-lo).toNat) H):wpAny (model X.prog X.w) X.A (pyIter (.ref s.heap.objs.size)) (PIE X pins σ tg R) E {s with heap:=s.heap.push {cls:=.type "range",data:=.fields #[.int lo t,.int hi u,.int 1 v]},toks:=tk}:=by
 refine wpAny_pyIter_range (IsRange.new ..) (small_one h1 h2 h3 h4) ?_
 have I1:Inv X pins σ H {s with heap:=s.heap.push {cls:=.type "range",data:=.fields #[.int lo t,.int hi u,.int 1 v]},toks:=tk}:=I.kept fun b o e=>Heap.get?_push_of_some _ e
 refine ⟨(s.heap.push {cls:=.type "range",data:=.fields #[.int lo t,.int hi u,.int 1 v]}).objs.size,[(s.heap.push {cls:=.type "range",data:=.fields #[.int lo t,.int hi u,.int 1 v]}).objs.size],_,_,H,rfl,
  I1.kept (t':=tk) fun b o e=>Heap.get?_push_of_some _ e,lg _ lo (hi-lo).toNat,?_,fun b hb=>?_,q⟩
 ·have e1:lo+((0:Nat):Int)*1=lo:=by simp
  have e2:(((hi-lo).toNat:Nat):Int)-((0:Nat):Int)=Builtin.Range.rangeSize lo hi 1:=by rw [rangeSize_one];split <;> omega
  show IsRangeIter _ _ (lo+((0:Nat):Int)*1) ((((hi-lo).toNat:Nat):Int)-((0:Nat):Int)) 1
  rw [e1,e2]
  exact Heap.get?_push_size _ rfl
 ·have e:b=(s.heap.push {cls:=.type "range",data:=.fields #[.int lo t,.int hi u,.int 1 v]}).objs.size:=by simpa using hb
  subst e
  exact I1.kJ (Nat.le_refl _) (I1.hok.fresh (Nat.le_refl _))
def xb (ta:TA):TI:=fun σ H R=>ta σ H fun vs H1=>∃j:Int,vs=[.int j]∧-(2^62)≤j∧j < 2^62∧R (Itr 0 j.toNat) H1
theorem nA {a:Expr} {ta:TA} {p pos:Pos} (hg:Gl X "range") (hm:X.mg "range"=none) (ha:PA X [a] ta) (hs:starEach [a] X.env=[(false,eval a X.env)]:=by rfl):PI X tg (.Call (.Name "range" p) [a] [] pos) (xb ta):=by
 intro pins s σ H R I h
 refine Call_ (fR I hg hm boot_range (PyProof.Rows.callWith_type1 (thn (ha pos pins s σ H _ I h) fun us s1 ⟨vs,H1,I1,r1,q1⟩=>?_) hs rfl))
 obtain ⟨j,e,q1,q2,q⟩:=q1
 subst e
 cases r1 with
 | cons r rr=>
  cases rr
  obtain ⟨t,rfl⟩:=r
  exact call_range_1 (oM I1 (by omega) (by omega) q1 q2 (by simpa using q))
def wb (wi:TI) (g:TG) (tb:TS):TS:=fun D σ H=>wi σ H fun J H1=>∃W:Nat→Nat→St→Hp→Prop,(∃m,W 0 m σ H1)∧∀i m σ H,W i m σ H→
 (J.stop i H∧D.nx σ H)∨(J.go i H∧∃N:St→Hp→Prop,(∀σ' H',N σ' H'→∃m',m' < m∧W (i+1) m' σ' H')∧∀x H',J.yld i H x H'→g x σ H' fun σ2 H2=>tb {D with nx:=N,ct:=N,bk:=D.nx} σ2 H2)
def fM (fp:List Addr) (h:Heap):List (Addr×Obj):=fp.filterMap fun b=>(h.get? b).map fun o=>(b,o)
theorem b0 {fp:List Addr} {h:Heap} {b:Addr} {o:Obj} (hb:b∈fp) (e:h.get? b=some o):(b,o)∈fM fp h:=List.mem_filterMap.mpr ⟨b,hb,by rw [e];rfl⟩
theorem nD {fp:List Addr} {h:Heap} {p:Addr×Obj} (hp:p∈fM fp h):p.1∈fp∧h.get? p.1=some p.2:=by
 obtain ⟨b,hb,e⟩:=List.mem_filterMap.mp hp
 cases q:h.get? b with
 | none=>rw [q] at e;cases e
 | some o=>
  rw [q] at e
  have e':(b,o)=p:=Option.some.inj e
  subst e'
  exact ⟨hb,q⟩
theorem Inv.pinned {pins:List (Addr×Obj)} {σ:St} {H:Hp} {s:Shared} {fp:List Addr} (I:Inv X pins σ H s) (hf:∀b∈fp,cD X pins H b) (ho:∀b∈fp,∃o,s.heap.get? b=some o∧∀v,o.data≠.cell v):Inv X (pins++fM fp s.heap) σ H s:=
 I.mB fun p hp=>(List.mem_append.mp hp).elim (fun z=>I.pin p (List.mem_append_right _ z)) fun z=>by
  obtain ⟨hb,e⟩:=nD z
  obtain ⟨f0,f1,f2,_⟩:=hf p.1 hb
  obtain ⟨o,e',d⟩:=ho p.1 hb
  rw [e] at e';cases e'
  exact ⟨e,f0,f1,f2,d⟩
theorem Inv.dC {pins pl:List (Addr×Obj)} {σ:St} {H:Hp} {s:Shared} (I:Inv X (pins++pl) σ H s):Inv X pins σ H s:=I.mB fun p hp=>I.pin p (List.mem_append_right _ (List.mem_append_left _ hp))
theorem tY {iter:Expr} {body:List Stmt} {wi:TI} {g:TG} {tb:TS} {pos:Pos} (hp:PassesOwn (model X.prog X.w) X.A X.env X.xe) (hc:X.calm=true) (hi:PI X tg iter wi) (hg:PG X tg g) (hb:PSs X body tb)
  (hs:∀x,foldedSetIterable iter X.env x=pure x:=by intro _;rfl):PS X (.For tg iter body [] pos) (wb wi g tb):=by
 intro pins s σ H D I h
 refine wpAny_For (thn (hi pins s σ H _ I h) fun v s1 h1=>thn h1 fun itv s2 h2=>?_) hs
 obtain ⟨it,fp,tn,J,H2,e,I2,T,st2,f2,W,⟨m0,w0⟩,turn⟩:=h2
 subst e
 have stat:∀{H':Hp},(∀b∈fp,H' b=none)→∀b∈fp,cD X pins H' b:=fun hn b hb=>⟨hn b hb,(f2 b hb).2⟩
 refine codeAny_forLoop_any (fun n s'=>∃i σ' H',Inv X pins σ' H' s'∧tn i s'.heap∧(∀b∈fp,H' b=none)∧W i n σ' H') ?_ m0 ⟨0,σ,H2,I2,st2,fun b hb=>(f2 b hb).1,w0⟩
 rintro n s3 ⟨i,σ3,H3,I3,st3,fr3,w3⟩
 rcases turn i n σ3 H3 w3 with ⟨stop,qn⟩ | ⟨go,N,hN,step⟩
 ·refine wpAny_passesOwn hp (thn (T.done X rfl rfl rfl hc i pins s3 σ3 H3 X.xe I3 (stat fr3) st3 stop) fun r s4 ⟨hr,I4⟩=>?_)
  subst hr
  exact wpAny_execs_nil ⟨σ3,H3,I4,qn⟩
 ·refine wpAny_passesOwn hp (thn (T.item X rfl rfl rfl hc i pins s3 σ3 H3 X.xe I3 (stat fr3) st3 go) fun r s4 ⟨u,hr,h4⟩=>?_)
  subst hr
  refine wpAny_passesOwn hp (thn h4 fun _ s5 ⟨x,H5,I5,r5,y5,st5,fr5⟩=>?_)
  have I5':=I5.pinned (stat fr5) (T.obj _ _ st5)
  refine wpAny_passesOwn hp (thn (hg _ s5 σ3 H5 x u _ I5' r5 (step x H5 y5)) fun _ s6 ⟨σ6,H6,I6,q6⟩=>?_)
  refine wpAny_passesOwn hp (thn (hb _ s6 σ6 H6 _ I6 q6) fun f s7 q7=>?_)
  have again:∀{σ7:St} {H7:Hp},Inv X (pins++fM fp s5.heap) σ7 H7 s7→N σ7 H7→∃m,m < n∧∃i σ' H',Inv X pins σ' H' s7∧tn i s7.heap∧(∀b∈fp,H' b=none)∧W i m σ' H':=fun {σ7 H7} I7 n7=>by
   obtain ⟨m',hm,w7⟩:=hN σ7 H7 n7
   refine ⟨m',hm,i+1,σ7,H7,I7.dC,T.keep _ _ _ st5 fun b hb o e=>(I7.pin (b,o) (List.mem_append_right _ (List.mem_append_right _ (b0 hb e)))).1,fun b hb=>?_,w7⟩
   obtain ⟨o,e,d⟩:=T.obj _ _ st5 b hb
   exact (I7.pin (b,o) (List.mem_append_right _ (List.mem_append_right _ (b0 hb e)))).2.1
  cases f with
  | next=>obtain ⟨σ7,H7,I7,n7⟩:=q7;exact again I7 n7
  | cont=>obtain ⟨σ7,H7,I7,n7⟩:=q7;exact again I7 n7
  | brk=>obtain ⟨σ7,H7,I7,q7⟩:=q7;exact ⟨σ7,H7,I7.dC,q7⟩
  | ret v=>obtain ⟨x7,σ7,H7,I7,r7,q7⟩:=q7;exact ⟨x7,σ7,H7,I7.dC,r7,q7⟩
end
end L2
namespace L2
open PySem PySem.Spec PyProof.Rows
abbrev R2:=V→V→Hp→VK→Prop
def OpR (X:Cx) (f:Value→Value→Sem Value) (r:R2):Prop:=
 ∀(pins:List (Addr×Obj)) (s:Shared) (σ:St) (H:Hp) (x y:V) (v u:Value) (Q:VK),Inv X pins σ H s→RelV x v→RelV y u→r x y H Q→
  wpAny (model X.prog X.w) X.A (f v u) (EP X pins σ Q) X.xe s
def UnR (X:Cx) (f:Value→Sem Value) (r:V→Hp→VK→Prop):Prop:=
 ∀(pins:List (Addr×Obj)) (s:Shared) (σ:St) (H:Hp) (x:V) (v:Value) (Q:VK),Inv X pins σ H s→RelV x v→r x H Q→
  wpAny (model X.prog X.w) X.A (f v) (EP X pins σ Q) X.xe s
def cE (X:Cx) (f:Value) (r:List V→Hp→VK→Prop):Prop:=
 ∀(pins:List (Addr×Obj)) (s:Shared) (σ:St) (H:Hp) (xs:List V) (us:List Value) (Q:VK),Inv X pins σ H s→Vals xs us→r xs H Q→
  wpAny (model X.prog X.w) X.A (call f us) (EP X pins σ Q) X.xe s
def yD (X:Cx) (r:V→Hp→(Bool→Hp→Prop)→Prop):Prop:=
 ∀(pins:List (Addr×Obj)) (s:Shared) (σ:St) (H:Hp) (x:V) (v:Value) (Q:Bool→Hp→Prop),Inv X pins σ H s→RelV x v→r x H Q→
  wpAny (model X.prog X.w) X.A (truthy v) (TP X pins σ Q) X.xe s
def tOp (r:R2) (ta tb:TE):TE:=fun σ H Q=>ta σ H fun x H1=>tb σ H1 fun y H2=>r x y H2 Q
def tUn (r:V→Hp→VK→Prop) (ta:TE):TE:=fun σ H Q=>ta σ H fun x H1=>r x H1 Q
def rI (C:Int→Int→Prop) (g:Int→Int→V):R2:=fun x y H Q=>∃i j,x=.int i∧y=.int j∧C i j∧Q (g i j) H
def rI0 (g:Int→Int→V):R2:=fun x y H Q=>∃i j,x=.int i∧y=.int j∧Q (g i j) H
def rU (g:Int→V):V→Hp→VK→Prop:=fun x H Q=>∃i,x=.int i∧Q (g i) H
section
variable {X:Cx} {a b c:Expr} {ta tb tc:TE} {pos:Pos}
theorem vF (ha:PE X a ta) (hb:PE X b tb) {pins:List (Addr×Obj)} {s:Shared} {σ:St} {H:Hp} {R:V→V→Hp→Prop} (I:Inv X pins σ H s)
  (h:ta σ H fun x H1=>tb σ H1 fun y H2=>R x y H2) {Q:Value→Shared→Prop} {f:Value→Value→Sem Value}
  (hf:∀v u s2 x y H2,Inv X pins σ H2 s2→RelV x v→RelV y u→R x y H2→wpAny (model X.prog X.w) X.A (f v u) Q X.xe s2):
  wpAny (model X.prog X.w) X.A (eval a X.env) (fun v s₁=>wpAny (model X.prog X.w) X.A (eval b X.env) (fun u s₂=>wpAny (model X.prog X.w) X.A (f v u) Q X.xe s₂) X.xe s₁) X.xe s:=by
 refine thn (ha pins s σ H _ I h) fun v s1 ⟨x,H1,I1,r1,q1⟩=>?_
 refine thn (hb pins s1 σ H1 _ I1 q1) fun u s2 ⟨y,H2,I2,r2,q2⟩=>?_
 exact hf v u s2 x y H2 I2 r1 r2 q2
theorem wN {op:Operator} {r:R2} (ho:OpR X (binaryOp op) r) (ha:PE X a ta) (hb:PE X b tb):PE X (.BinOp a op b pos) (tOp r ta tb):=by
 intro pins s σ H Q I h
 exact wpAny_BinOp (vF ha hb I h fun v u s2 x y H2 I2 rx ry q=>ho pins s2 σ H2 x y v u Q I2 rx ry q)
theorem wL {op:UnaryOp} {r:V→Hp→VK→Prop} (ho:UnR X (unaryOp op) r) (ha:PE X a ta):PE X (.UnaryOp op a pos) (tUn r ta):=by
 intro pins s σ H Q I h
 exact UnaryOp_ (thn (ha pins s σ H _ I h) fun v s1 ⟨x,H1,I1,r1,q1⟩=>ho pins s1 σ H1 x v Q I1 r1 q1)
theorem opI {f:Value→Value→Sem Value} {C:Int→Int→Prop} {g:Int→Int→Int}
  (rule:∀(i j:Int) (t u:Tok) (s:Shared) (Q:Value→Shared→Prop) (E:Value→Shared→Prop),C i j→Q (.int (g i j) s.toks) {s with toks:=s.toks+1}→wpAny (model X.prog X.w) X.A (f (.int i t) (.int j u)) Q E s):
  OpR X f (rI C fun i j=>.int (g i j)):=by
 intro pins s σ H x y v u Q I rx ry h
 obtain ⟨i,j,rfl,rfl,hc,q⟩:=h
 obtain ⟨t,rfl⟩:=rx
 obtain ⟨t',rfl⟩:=ry
 exact rule i j t t' s _ _ hc ⟨.int (g i j),H,I.tok _,⟨_,rfl⟩,q⟩
theorem u6 {f:Value→Value→Sem Value} {g:Int→Int→Int}
  (rule:∀(i j:Int) (t u:Tok) (s:Shared) (Q:Value→Shared→Prop) (E:Value→Shared→Prop),Q (.int (g i j) s.toks) {s with toks:=s.toks+1}→wpAny (model X.prog X.w) X.A (f (.int i t) (.int j u)) Q E s):
  OpR X f (rI0 fun i j=>.int (g i j)):=by
 intro pins s σ H x y v u Q I rx ry h
 obtain ⟨i,j,rfl,rfl,q⟩:=h
 obtain ⟨t,rfl⟩:=rx
 obtain ⟨t',rfl⟩:=ry
 exact rule i j t t' s _ _ ⟨.int (g i j),H,I.tok _,⟨_,rfl⟩,q⟩
theorem rn {f:Value→Value→Sem Value} {g:Int→Int→Bool}
  (rule:∀(i j:Int) (t u:Tok) (s:Shared) (Q:Value→Shared→Prop) (E:Value→Shared→Prop),Q (.bool (g i j)) s→wpAny (model X.prog X.w) X.A (f (.int i t) (.int j u)) Q E s):
  OpR X f (rI0 fun i j=>.bl (g i j)):=by
 intro pins s σ H x y v u Q I rx ry h
 obtain ⟨i,j,rfl,rfl,q⟩:=h
 obtain ⟨t,rfl⟩:=rx
 obtain ⟨t',rfl⟩:=ry
 exact rule i j t t' s _ _ ⟨.bl (g i j),H,I,rfl,q⟩
def yE (i j:Int):Prop:=0≤j∧j≤1000000∧i.natAbs < 2^64
def vN (i j:Int):Prop:=(-(2^64) < i∧i < 2^64)∨(-(2^64) < j∧j < 2^64)
theorem vN.ok {i j:Int} (h:vN i j):IntMulOk i j:=by
 rcases h with ⟨h1,h2⟩ | ⟨h1,h2⟩
 ·exact .of_left (intBits_le_64 h1 h2)
 ·exact .of_right (intBits_le_64 h1 h2)
theorem u5:OpR X (binaryOp .Add) (rI0 fun i j=>.int (i+j)):=u6 fun _ _ _ _ _ _ _ q=>add_int q
theorem uX:OpR X (binaryOp .Sub) (rI0 fun i j=>.int (i-j)):=u6 fun _ _ _ _ _ _ _ q=>sub_int q
theorem uZ:OpR X (binaryOp .Mult) (rI vN fun i j=>.int (i*j)):=opI fun _ _ _ _ _ _ _ hc q=>mul_int q hc.ok
theorem u0:OpR X (binaryOp .Mod) (rI (fun _ j=>0 < j) fun i j=>.int (i % j)):=opI fun i j _ _ _ _ _ hc q=>by
 have h1:(0:Int) < j:=hc
 exact mod_int' (by omega) (by rw [Int.fmod_eq_emod_of_nonneg i (by omega)];exact q)
theorem uY:OpR X (binaryOp .Pow) (rI yE fun i j=>.int (i^j.toNat)):=opI fun _ _ _ _ _ _ _ hc q=>pow_int_small hc.1 hc.2.1 hc.2.2 q
theorem rL:OpR X (inplaceOp .Sub) (rI0 fun i j=>.int (i-j)):=u6 fun _ _ _ _ _ _ _ q=>isub_int q
theorem unI {f:Value→Sem Value} {g:Int→Int}
  (rule:∀(i:Int) (t:Tok) (s:Shared) (Q:Value→Shared→Prop) (E:Value→Shared→Prop),Q (.int (g i) s.toks) {s with toks:=s.toks+1}→wpAny (model X.prog X.w) X.A (f (.int i t)) Q E s):
  UnR X f (rU fun i=>.int (g i)):=by
 intro pins s σ H x v Q I rx h
 obtain ⟨i,rfl,q⟩:=h
 obtain ⟨t,rfl⟩:=rx
 exact rule i t s _ _ ⟨.int (g i),H,I.tok _,⟨_,rfl⟩,q⟩
theorem sG:UnR X (unaryOp .USub) (rU fun i=>.int (-i)):=unI fun _ _ _ _ _ q=>neg_int q
end
section
variable {X:Cx} {a b c:Expr} {ta tb tc:TE} {pos:Pos}
theorem vw {pins:List (Addr×Obj)} {σ:St} {H:Hp} {s:Shared} {Q:VK} {k k':Bool} (I:Inv X pins σ H s) (q:Q (.bl k) H) (e:k=k'):EP X pins σ Q (.bool k') s:=by
 subst e
 exact ⟨.bl k,H,I,rfl,q⟩
theorem wV:OpR X (compareOp .Lt) (rI0 fun i j=>.bl (decide (i < j))):=rn fun _ _ _ _ _ _ _ q=>lt_int q
theorem wW:OpR X (compareOp .LtE) (rI0 fun i j=>.bl (decide (i≤j))):=rn fun _ _ _ _ _ _ _ q=>le_int q
theorem wX:OpR X (compareOp .Gt) (rI0 fun i j=>.bl (decide (j < i))):=rn fun _ _ _ _ _ _ _ q=>gt_int q
theorem wY:OpR X (compareOp .GtE) (rI0 fun i j=>.bl (decide (j≤i))):=rn fun _ _ _ _ _ _ _ q=>ge_int q
theorem u3:OpR X (compareOp .Is) (fun x y H Q=>y=.non∧Q (.bl (decide (x=.non))) H):=by
 intro pins s σ H x y v u Q I rx ry h
 obtain ⟨rfl,q⟩:=h
 cases ry
 refine is_none_gen (vw I q ?_)
 cases x <;> first
  | (cases rx;rfl)
  | (obtain ⟨t,rfl⟩:=rx;rfl)
theorem aS (b:Expr) {op:CmpOp} (h:op≠.In:=by decide) (h2:op≠.NotIn:=by decide):behindInMarks op b=false:=by
 have e1:(op==CmpOp.In)=false:=by cases op <;> first | rfl | exact absurd rfl h
 have e2:(op==CmpOp.NotIn)=false:=by cases op <;> first | rfl | exact absurd rfl h2
 cases b <;> simp [behindInMarks,e1,e2]
theorem qS {op:CmpOp} {r:R2} (ho:OpR X (compareOp op) r) (ha:PE X a ta) (hb:PE X b tb) (hm:behindInMarks op b=false):PE X (.Compare a [op] [b] pos) (tOp r ta tb):=by
 intro pins s σ H Q I h
 exact wpAny_Compare1 (vF ha hb I h fun v u s2 x y H2 I2 rx ry q=>ho pins s2 σ H2 x y v u Q I2 rx ry q) hm
def sk (t:TE):TT:=fun σ H Q=>t σ H fun x H'=>∃k,x=.bl k∧Q k H'
theorem qF {op:CmpOp} {r:R2} (ho:OpR X (compareOp op) r) (ha:PE X a ta) (hb:PE X b tb) (hm:behindInMarks op b=false):PT X (.Compare a [op] [b] pos) (sk (tOp r ta tb)):=by
 intro pins s σ H Q I h
 refine wpAny_isTrue_Compare1 (thn (ha pins s σ H _ I h) fun v s1 ⟨x,H1,I1,r1,q1⟩=>thn (hb pins s1 σ H1 _ I1 q1) fun u s2 ⟨y,H2,I2,r2,q2⟩=>
  thn (ho pins s2 σ H2 x y v u _ I2 r1 r2 q2) fun c s3 ⟨z,H3,I3,r3,k,e,q3⟩=>?_) hm
 subst e
 cases r3
 exact wpAny_truthy_bool ⟨H3,I3,q3⟩
def lr (r r':R2) (ta tb tc:TE):TE:=fun σ H Q=>ta σ H fun x H1=>tb σ H1 fun y H2=>r x y H2 fun z H3=>∃k,z=.bl k∧
 (if k=true then tc σ H3 fun w' H4=>r' y w' H4 Q else Q (.bl false) H3)
theorem o3 {op op':CmpOp} {r r':R2} (ho:OpR X (compareOp op) r) (ho':OpR X (compareOp op') r') (ha:PE X a ta) (hb:PE X b tb) (hc:PE X c tc)
  (hm:lastMarks [op,op'] [b,c]=false:=by with_unfolding_all rfl):PE X (.Compare a [op,op'] [b,c] pos) (lr r r' ta tb tc):=by
 intro pins s σ H Q I h
 refine Compare_chain (thn (ha pins s σ H _ I h) fun v s1 ⟨x,H1,I1,r1,q1⟩=>chain_link (thn (hb pins s1 σ H1 _ I1 q1) fun u s2 ⟨y,H2,I2,r2,q2⟩=>
  thn (ho pins s2 σ H2 x y v u _ I2 r1 r2 q2) fun d s3 ⟨z,H3,I3,r3,k,e,q3⟩=>?_)) hm
 subst e
 cases r3
 refine wpAny_truthy_bool ?_
 cases k with
 | false=>exact ite_ff ⟨.bl false,H3,I3,rfl,q3⟩
 | true=>exact ite_tt (chain_last (thn (hc pins s3 σ H3 _ I3 q3) fun w' s4 ⟨z',H4,I4,r4,q4⟩=>ho' pins s4 σ H4 y z' u w' Q I4 r2 r4 q4))
theorem oT {op op':CmpOp} {r r':R2} (ho:OpR X (compareOp op) r) (ho':OpR X (compareOp op') r') (ha:PE X a ta) (hb:PE X b tb) (hc:PE X c tc)
  (hm:lastMarks [op,op'] [b,c]=false:=by with_unfolding_all rfl):PT X (.Compare a [op,op'] [b,c] pos) (sk (lr r r' ta tb tc)):=by
 intro pins s σ H Q I h
 refine isTrue_chain (thn (ha pins s σ H _ I h) fun v s1 ⟨x,H1,I1,r1,q1⟩=>test_link (thn (hb pins s1 σ H1 _ I1 q1) fun u s2 ⟨y,H2,I2,r2,q2⟩=>
  thn (ho pins s2 σ H2 x y v u _ I2 r1 r2 q2) fun d s3 ⟨z,H3,I3,r3,k,e,q3⟩=>?_)) hm
 subst e
 cases r3
 refine wpAny_truthy_bool ?_
 cases k with
 | false=>
  obtain ⟨k',e',q'⟩:=q3
  cases e'
  exact ite_ff ⟨H3,I3,q'⟩
 | true=>
  refine ite_tt (test_last (thn (hc pins s3 σ H3 _ I3 q3) fun w' s4 ⟨z',H4,I4,r4,q4⟩=>thn (ho' pins s4 σ H4 y z' u w' _ I4 r2 r4 q4) fun d' s5 ⟨z2,H5,I5,r5,k2,e2,q5⟩=>?_))
  subst e2
  cases r5
  exact wpAny_truthy_bool ⟨H5,I5,q5⟩
def vI (K:PySem.W.Frag) (x:V) (H:Hp) (k:Bool):Prop:=
 match x with
 | .non=>k=false
 | .bl b=>k=b
 | .int i=>k=(i !=0)
 | .str y=>y.length≤sizeLine∧k=((y.length:Int) !=0)
 | .byt y=>y.size≤sizeLine∧k=((y.size:Int) !=0)
 | .ref p=>(∃xs,SqL K H p xs∧k=!xs.isEmpty)∨(∃xs,SqT K H p xs∧k=!xs.isEmpty)∨∃kvs,H p=some (.dK kvs)∧k=!kvs.isEmpty
 | _=>False
theorem lW {κ:Type} {kvs:List (κ×V)} {vs:List (κ×Value)} (r:KV kvs vs):(!vs.isEmpty)=!kvs.isEmpty:=by
 cases r <;> rfl
theorem hZ {xs:List V} {its:List Value} (r:Vals xs its):(!its.toArray.isEmpty)=!xs.isEmpty:=by
 cases r <;> simp
theorem eN:(sizeLine:Nat) < 2^63:=by rw [sizeLine_eq];decide
theorem sH:yD X (fun x H Q=>∃k,vI X.K x H k∧Q k H):=by
 intro pins s σ H x v Q I rx h
 obtain ⟨k,e,q⟩:=h
 have hl:=eN
 have hs:sizeLine=16777216:=sizeLine_eq
 cases x with
 | non=>
  cases rx
  have e':k=false:=e
  subst e'
  exact truthy_none ⟨H,I,q⟩
 | bl b=>
  cases rx
  have e':k=b:=e
  subst e'
  exact wpAny_truthy_bool ⟨H,I,q⟩
 | int i=>
  obtain ⟨t,rfl⟩:=rx
  have e':k=(i !=0):=e
  subst e'
  exact PySem.P.truthy_int ⟨H,I,q⟩
 | str y=>
  obtain ⟨t,rfl⟩:=rx
  obtain ⟨hy,e'⟩:y.length≤sizeLine∧k=((y.length:Int) !=0):=e
  subst e'
  exact PySem.P.truthy_str (by omega) ⟨H,I.tok _,q⟩
 | byt y=>
  obtain ⟨t,rfl⟩:=rx
  obtain ⟨hy,e'⟩:y.size≤sizeLine∧k=((y.size:Int) !=0):=e
  subst e'
  exact PySem.W.truthy_bytes (by omega) ⟨H,I.tok _,q⟩
 | ref p=>
  cases rx
  have e':(∃xs,SqL X.K H p xs∧k=!xs.isEmpty)∨(∃xs,SqT X.K H p xs∧k=!xs.isEmpty)∨∃kvs,H p=some (.dK kvs)∧k=!kvs.isEmpty:=e
  rcases e' with ⟨xs,hx,e'⟩ | ⟨xs,hx,e'⟩ | ⟨kvs,hx,e'⟩
  ·subst e'
   obtain ⟨its,r,pl,hz⟩:=I.list hx
   have hlen:=r.length
   exact wpAny_truthy_list pl.isList (by simp only [List.size_toArray];omega) ⟨H,I.tok _,by rw [hZ r];exact q⟩
  ·subst e'
   obtain ⟨its,r,pl,hz⟩:=I.tuple hx
   have hlen:=r.length
   exact truthy_tuple pl (by simp only [List.size_toArray];omega) ⟨H,I.tok _,by rw [hZ r];exact q⟩
  ·subst e'
   obtain ⟨hz,hS,vs,r,m⟩:kvs.length≤sizeLine∧(p==sysModules)=false∧∃vs,KV kvs vs∧s.heap.DictOf (aV X.prog X.w) p vs:=I.hok p _ hx
   have hlen:kvs.length=vs.length:=Paired.length r
   exact wpAny_truthy_dict hS m (by omega) ⟨H,I.tok _,by rw [lW r];exact q⟩
 | _=>exact (show False from e).elim
theorem oS (ha:PE X a ta) (he:∀whole,isTrue a X.env whole=(do let v←whole;standAt a.pos;holding [v] (truthy v))):
  PT X a (fun σ H Q=>ta σ H fun x H'=>∃k,vI X.K x H' k∧Q k H'):=by
 intro pins s σ H Q I h
 exact isTrue_plain (thn (ha pins s σ H _ I h) fun v s1 ⟨x,H1,I1,r1,q1⟩=>sH pins s1 σ H1 x v Q I1 r1 q1) (he _)
theorem lM:OpR X (binaryOp .Add) (fun x y H Q=>∃i j,x=.str i∧y=.str j∧i.length+j.length≤sizeLine∧Q (.str (i++j)) H):=by
 intro pins s σ H x y v u Q I rx ry h
 obtain ⟨i,j,rfl,rfl,hz,q⟩:=h
 obtain ⟨t,rfl⟩:=rx
 obtain ⟨t',rfl⟩:=ry
 exact add_str (fun t' tk=>⟨.str (i++j),H,I.tok _,⟨_,rfl⟩,q⟩) hz
theorem vals1 {x:V} {us:List Value} (r:Vals [x] us):∃u,us=[u]∧RelV x u:=by
 cases r with
 | cons r1 r2=>cases r2;exact ⟨_,rfl,r1⟩
theorem vals2 {x y:V} {us:List Value} (r:Vals [x,y] us):∃u w',us=[u,w']∧RelV x u∧RelV y w':=by
 cases r with
 | cons r1 r2=>
  cases r2 with
  | cons r3 r4=>cases r4;exact ⟨_,_,rfl,r1,r3⟩
theorem pZ:cE X (.builtin "abs") (fun xs H Q=>∃i,xs=[.int i]∧Q (.int (if i < 0 then -i else i)) H):=by
 intro pins s σ H xs us Q I r h
 obtain ⟨i,rfl,q⟩:=h
 obtain ⟨u,rfl,t,rfl⟩:=vals1 r
 exact call_abs_int fun u tk=>⟨.int (if i < 0 then -i else i),H,I.tok _,⟨_,rfl⟩,q⟩
end
end L2
namespace L2
open PySem PySem.Spec PyProof.Rows
structure ObjM (h:Heap) (x dx C:Addr) (mA:Str→Option Value):Prop where
 obj:h.get? x=some (PySem.W.instObj C dx)
 ns:h.Ns1 dx mA
 ne:dx≠x
theorem nF {h:Heap} {dx:Addr} {mA:Str→Option Value} (n:h.Ns1 dx mA):∃od,h.get? dx=some od∧∀name,PySem.W.lookIn name od=some (mA name):=by
 obtain ⟨o,es,ep,ho,hd,hk,_,hm⟩:=n
 refine ⟨o,ho,fun name=>?_⟩
 have e:=hm name
 unfold nsFind findBy at e
 rw [←Array.find?_toList] at e
 unfold PySem.W.lookIn
 rw [hd]
 dsimp only
 split
 ·rename_i y q
  rw [q] at e
  exact congrArg some e
 ·rename_i q
  rw [q] at e
  have a:es.toList.any (·.refKey)=false:=by
   rw [List.any_eq_false]
   intro y hy
   obtain ⟨z,t,hkey⟩:=hk y (Array.mem_toList_iff.mp hy)
   simp [DictEntry.refKey,hkey]
  have a':¬es.toList.any (·.refKey)=true:=by rw [a];exact Bool.false_ne_true
  rw [if_neg a']
  exact congrArg some e
theorem ObjM.look {h:Heap} {x dx C:Addr} {mA:Str→Option Value} (I:ObjM h x dx C mA):∃od,PySem.W.InstAt h x (PySem.W.instObj C dx) C (some od)∧∀name,PySem.W.lookIn name od=some (mA name):=
 let ⟨od,ho,hl⟩:=nF I.ns
 ⟨od,⟨I.obj,rfl,rfl,ho⟩,hl⟩
section
variable {prog:Program} {w:World} {A:Around} {E:Value→Shared→Prop} {s:Shared} {K:PySem.W.Frag} {x dx C f:Addr} {mA:Str→Option Value} {name:Str} {v:Value}
end
theorem iu.some_of {v:V} {o:Option Value} (r:iu (some v) o):∃u,o=some u∧RelV v u:=by
 cases o with
 | none=>exact (show False from r).elim
 | some u=>exact ⟨u,rfl,r⟩
section
variable {P:Program} {w:World} {H H':Hp} {h h':Heap} {a C dx:Addr} {fs fs':List (Str×V)}
theorem rN (hok:HOk P w H h) (e:H a=some (.ins C dx fs)):∃mA,ObjM h a dx C mA∧(∀f,iu (fs.lookup f) (mA f))∧PySem.Within mA (fs.map (·.1))∧fs.length≤1000∧H dx=some (.own a):=by
 obtain ⟨d,z,ne,ob,mA,n,r,q⟩:=(show bp P w H h a (.ins C dx fs) from hok a _ e)
 exact ⟨mA,⟨ob,n,ne⟩,r,q,z,d⟩
end
structure Cls (K:PySem.W.Frag) (C:Addr):Prop where
 pg:PySem.W.plainGet K C Str.empty=true
 hd:PySem.W.hasDictIn K C=true
 po:PySem.W.plainOver K C=true
 sa:PySem.W.findIn K (.ref C) "__setattr__"=some (some (.builtin "object.__setattr__"))
theorem Cls.get {K:PySem.W.Frag} {C:Addr} (c:Cls K C) (f:Str):PySem.W.plainGet K C f=true:=c.pg
section
variable {X:Cx} {pins:List (Addr×Obj)} {σ:St} {H:Hp} {s:Shared} {a C dx:Addr} {fs:List (Str×V)} {f:Str} {v:V} {A:Around} {E:Value→Shared→Prop}
end
section
variable {X:Cx} {o e value:Expr} {f:Str} {pos pos' tpos:Pos} {ta tv:TE}
end
section
variable {X:Cx} {pins:List (Addr×Obj)} {σ:St} {H:Hp} {s:Shared} {A:Around} {E:Value→Shared→Prop} {Q:Value→Shared→Prop} {c:Value} {b:Bool}
inductive TyOf (K:PySem.W.Frag) (H:Hp):V→Value→Prop where
 | non:TyOf K H .non (.type "NoneType")
 | bl (x:Bool):TyOf K H (.bl x) (.type "bool")
 | int (i:Int):TyOf K H (.int i) (.type "int")
 | str (x:Str):TyOf K H (.str x) (.type "str")
 | flt (x:UInt64):TyOf K H (.flt x) (.type "float")
 | lst {a:Addr} {xs:List V} (e:H a=some (.lst xs)):TyOf K H (.ref a) (.type "list")
 | frz {a:Addr} {o:Obj} {xs:List V} (e:H a=some (.frz o (.lst xs))):TyOf K H (.ref a) (.type "list")
 | tup {a:Addr} {xs:List V} (e:H a=some (.tup xs)):TyOf K H (.ref a) (.type "tuple")
 | dK {a:Addr} {kvs:List (Key×V)} (e:H a=some (.dK kvs)):TyOf K H (.ref a) (.type "dict")
 | dT {a:Addr} {kvs:List (List Key×V)} (e:H a=some (.dT kvs)):TyOf K H (.ref a) (.type "dict")
 | ins {a C dx:Addr} {fs:List (Str×V)} (e:H a=some (.ins C dx fs)) (cl:Cls K C) (ha:PySem.W.findIn K (.ref C) "__class__"=some (some (.builtin "object.__class__")))
   (hn:PySem.W.specialIn K (.builtin "object.__class__") "__get__"=some (some (.builtin "getset_descriptor.__get__"))) (htk:PySem.W.takesIn K (.builtin "object.__class__")=some true)
   (hm:PySem.W.mroIn K C (.type "object")=some true):TyOf K H (.ref a) (.ref C)
theorem nM {x:V} {u t:Value} (I:Inv X pins σ H s) (rx:RelV x u) (ty:TyOf X.K H x t) (e:PySem.W.kitOne X.K t c=some b) (h:∀tk,Q (.bool b) {s with toks:=tk}):
  wpAny (model X.prog X.w) A (call (.builtin "isinstance") [u,c]) Q E s:=by
 cases ty with
 | non=>cases (show u=Value.none from rx);exact PySem.W.kia_one PySem.W.kitx_none I.kIn True.intro e (fun z=>nomatch z) h
 | bl y=>cases (show u=Value.bool y from rx);exact PySem.W.kia_one PySem.W.kitx_bool I.kIn True.intro e (fun z=>nomatch z) h
 | int i=>obtain ⟨t,q⟩:=(show ∃t,u=Value.int i t from rx);cases q;exact PySem.W.kia_one PySem.W.kitx_int I.kIn True.intro e (fun z=>nomatch z) h
 | str y=>obtain ⟨t,q⟩:=(show ∃t,u=Value.str y t from rx);cases q;exact PySem.W.kia_one PySem.W.kitx_str I.kIn True.intro e (fun z=>nomatch z) h
 | flt y=>obtain ⟨t,q⟩:=(show ∃t,u=Value.float y t from rx);cases q;exact PySem.W.kia_one PySem.W.kitx_float I.kIn True.intro e (fun z=>nomatch z) h
 | @lst a xs ea=>
  cases (show u=Value.ref a from rx)
  obtain ⟨_,_,n,_,h1⟩:=(show bp X.prog X.w H s.heap a (.lst xs) from I.hok a _ ea)
  exact PySem.W.kia_one PySem.W.kitx_list I.kIn ⟨_,h1,rfl⟩ e (fun z=>nomatch z) h
 | @frz a ob xs ea=>
  cases (show u=Value.ref a from rx)
  obtain ⟨_,_,_,n,_,h1⟩:=(show bp X.prog X.w H s.heap a (.frz ob (.lst xs)) from I.hok a _ ea)
  exact PySem.W.kia_one PySem.W.kitx_list I.kIn ⟨_,h1,rfl⟩ e (fun z=>nomatch z) h
 | @tup a xs ea=>
  cases (show u=Value.ref a from rx)
  obtain ⟨_,_,_,p⟩:=(show bp X.prog X.w H s.heap a (.tup xs) from I.hok a _ ea)
  obtain ⟨o,h1,h2,_⟩:=p
  exact PySem.W.kia_one PySem.W.kitx_tuple I.kIn ⟨o,h1,h2⟩ e (fun z=>nomatch z) h
 | @dK a kvs ea=>
  cases (show u=Value.ref a from rx)
  obtain ⟨_,_,vs,_,p⟩:=(show bp X.prog X.w H s.heap a (.dK kvs) from I.hok a _ ea)
  obtain ⟨o,es,ep,h1,h2,_⟩:=p
  exact PySem.W.kia_one PySem.W.kitx_dict I.kIn ⟨o,h1,h2.1⟩ e (fun z=>nomatch z) h
 | @dT a kvs ea=>
  cases (show u=Value.ref a from rx)
  obtain ⟨_,_,xs,_,o,es,ep,h1,h2,_⟩:=(show bp X.prog X.w H s.heap a (.dT kvs) from I.hok a _ ea)
  exact PySem.W.kia_one PySem.W.kitx_dict I.kIn ⟨o,h1,h2.1⟩ e (fun z=>nomatch z) h
 | @ins a C dx fs ea cl ha hn htk hm=>
  cases (show u=Value.ref a from rx)
  obtain ⟨mA,O,_⟩:=rN I.hok ea
  obtain ⟨od,J,_⟩:=O.look
  exact PySem.W.kia_one (PySem.W.kitx_own (cl.get _) cl.hd ha hn htk hm) I.kIn J e (fun z=>nomatch z) h
end
end L2
namespace L2
open PySem PySem.Spec PyProof.Rows
structure Room (k:Nat) (A:Around):Prop where
 hd:A.handled=none
 dp:A.depth+3*k+5 < recursionLimit
 un:A.units+16*k+200 < cLine
theorem Room.mono {j k:Nat} {A:Around} (r:Room k A) (h:j≤k):Room j A:=⟨r.hd,by have:=r.dp;omega,by have:=r.un;omega⟩
theorem Room.deeper {k:Nat} {A:Around} (r:Room (k+1) A) (env:Env):Room k (A.deeper env):=
 ⟨r.hd,by have:=r.dp;show A.depth+1+3*k+5 < _;omega,by have:=r.un;show A.units+3+16*k+200 < _;omega⟩
theorem Room.depth {k:Nat} {A:Around} (r:Room k A):A.depth < recursionLimit:=by have:=r.dp;omega
theorem Room.units {k:Nat} {A:Around} (r:Room k A):A.units+64 < cLine:=by have:=r.un;omega
def xI:TA:=fun _ H Q=>Q [] H
def wd (ta:TE) (tr:TA):TA:=fun σ H Q=>ta σ H fun x H1=>tr σ H1 fun xs H2=>Q (x::xs) H2
section
variable {X:Cx} {e:Expr} {es:List Expr} {te:TE} {t:TA} {pos:Pos}
theorem lK:PA X [] xI:=fun _ _ _ _ H Q I h=>Calls.spliced_nil ⟨[],H,I,.nil,h⟩
theorem jw (ha:PE X e te) (hr:PA X es t) (hs:starEach (e::es) X.env=(false,eval e X.env)::starEach es X.env:=by rfl):PA X (e::es) (wd te t):=by
 intro pos pins s σ H Q I h
 rw [hs]
 show wpAny _ _ (spliced ((false,eval e X.env)::backTo pos (starEach es X.env))) _ _ s
 refine Calls.spliced_cons (thn (ha pins s σ H _ I h) fun u s1 ⟨x,H1,I1,r1,q1⟩=>?_)
 exact thn (hr pos pins s1 σ H1 _ I1 q1) fun us s2 ⟨xs,H2,I2,r2,q2⟩=>⟨x::xs,H2,I2,.cons r1 r2,q2⟩
def xF (t:TA):TE:=fun σ H Q=>t σ H fun xs H1=>xs.length≤sizeLine∧∀p,H1 p=none→Q (.ref p) (upd H1 p (.tup xs))
def xK (t:TA):TE:=fun σ H Q=>t σ H fun xs H1=>xs.length≤sizeLine∧∀p,H1 p=none→Q (.ref p) (upd H1 p (.lst xs))
theorem uc {x1} (h:PA X es t):PE X (.Tuple es x1 pos) (xF t):=by
 intro pins s σ H Q I hq
 refine wpAny_Tuple_spliced (thn (h pos pins s σ H _ I hq) fun us s1 ⟨xs,H1,I1,r,z,q⟩=>⟨by rw [←r.length];exact z,?_⟩)
 have hf:H1 s1.heap.objs.size=none:=I1.hok.fresh (Nat.le_refl _)
 refine ⟨.ref s1.heap.objs.size,upd H1 s1.heap.objs.size (.tup xs),I1.laid (t':=s1.toks) (fun b u e=>Heap.get?_push_of_some _ e) (Nat.le_refl _) ?_,rfl,q _ hf⟩
 exact ⟨z,us,r,⟨_,Heap.get?_push_size _ rfl,rfl,⟨_,rfl⟩,rfl⟩⟩
theorem uk (h:PA X es t):PE X (.List es pos) (xK t):=by
 intro pins s σ H Q I hq
 refine wpAny_List_spliced (thn (h pos pins s σ H _ I hq) fun us s1 ⟨xs,H1,I1,r,z,q⟩=>⟨by rw [←r.length];exact z,?_⟩)
 have hf:H1 s1.heap.objs.size=none:=I1.hok.fresh (Nat.le_refl _)
 refine ⟨.ref s1.heap.objs.size,upd H1 s1.heap.objs.size (.lst xs),I1.laid (t':=s1.toks) (fun b u e=>Heap.get?_push_of_some _ e) (Nat.le_refl _) ?_,rfl,q _ hf⟩
 exact ⟨z,us,0,r,Heap.get?_push_size _ rfl⟩
end
abbrev Sp:=List V→Hp→VK→XK→Prop
abbrev CXT:=List Env→Hp→Shared→XK→Value→Shared→Prop
structure Env0 (P:Program) (w:World) (K:PySem.W.Frag) (mg:Str→Option Value) (base:Heap) (A:Around) (outer:List Env) (s:Shared) (H:Hp):Prop where
 frames:A.frames=some outer
 mod:Mod K mg base
 bs:∀b o,base.get? b=some o→s.heap.get? b=some o∧H b=none
 bsz:base.objs.size≤s.heap.objs.size
 ic:s.heap.FunFrames base outer
 frf:∀b∈frs outer,H b=none
 hok:HOk P w H s.heap
 bare:AllBare s.gens
def CE (outer:List Env) (P:Program) (w:World) (H:Hp) (s:Shared) (Q:VK) (u:Value) (s':Shared):Prop:=
 ∃v H',s'.os=s.os∧AllBare s'.gens∧Un (frs outer) [] H H' s.heap s'.heap∧HOk P w H' s'.heap∧RelV v u∧Q v H'
def CR (CX:CXT) (outer:List Env) (P:Program) (w:World) (H:Hp) (s:Shared) (Q:VK) (E:XK) (r:Result) (s':Shared):Prop:=
 match r with
 | .ok (.ret u)=>CE outer P w H s Q u s'
 | .ok _=>False
 | .error e=>CX outer H s E e s'
structure FnOk (P:Program) (w:World) (K:PySem.W.Frag) (mg:Str→Option Value) (base:Heap) (CX:CXT) (k:Nat) (f:Addr) (fd:FuncData) (ps:List Str) (sp:Sp):Prop where
 len:∀vs H Q E,sp vs H Q E→vs.length=ps.length
 run:∀(A:Around) (outer:List Env) (s:Shared) (H:Hp) (args:Args) (us:List Value) (vs:List V) (Q:VK) (E:XK),Room k A→Env0 P w K mg base A outer s H→BindsTo s fd args (ps.zip us)→Vals vs us→sp vs H Q E→
  codeAny (model P w) A (.call (.ref f) args) (CR CX outer P w H s Q E) s
theorem FnOk.imp {P:Program} {w:World} {K:PySem.W.Frag} {mg:Str→Option Value} {base:Heap} {CX:CXT} {k:Nat} {f:Addr} {fd:FuncData} {ps:List Str} {sp sp':Sp} (F:FnOk P w K mg base CX k f fd ps sp)
  (h:∀vs H Q E,sp' vs H Q E→sp vs H Q E):FnOk P w K mg base CX k f fd ps sp':=
 ⟨fun vs H Q E q=>F.len vs H Q E (h _ _ _ _ q),fun A outer s H args us vs Q E hr he hb hv hs=>F.run A outer s H args us vs Q E hr he hb hv (h _ _ _ _ hs)⟩
section
variable {X:Cx} {pins:List (Addr×Obj)} {σ:St} {H:Hp} {s s':Shared}
theorem Inv.yA (I:Inv X pins σ H s):Env0 X.prog X.w X.K X.mg X.base X.A X.stack s H:=
 ⟨I.ok.frames,I.ok.mod,I.bs,Nat.le_trans I.ok.bsz I.sz,I.stack,I.mj,I.hok,I.bare⟩
theorem Inv.after {Q:VK} {u:Value} (I:Inv X pins σ H s) (h:CE X.stack X.prog X.w H s Q u s'):EP X pins σ Q u s':=by
 obtain ⟨v,H',os,bare,un,hok,r,q⟩:=h
 obtain ⟨hh,g,d,t,os'⟩:=s'
 obtain rfl:os'=s.os:=os
 exact ⟨v,H',I.call (h':=hh) (g':=g) (d':=d) (t':=t) (ch:=[]) un hok bare (fun b z=>absurd z (by simp)),r,q⟩
end
def we (sp:Sp) (dvs:List V) (E:XK) (t:TA):TE:=fun σ H Q=>t σ H fun vs H1=>sp (vs++dvs) H1 Q E
def Binds (K:PySem.W.Frag) (fd:FuncData) (ps:List Str) (ds:List Value):Prop:=
 ∀(s:Shared) (us:List Value),K.In s.heap→(us++ds).length=ps.length→BindsTo s fd ⟨us,[]⟩ (ps.zip (us++ds))
theorem Binds.all {K:PySem.W.Frag} {fd:FuncData} {ps:List Str} (h:∀us:List Value,us.length=ps.length→bindArgs fd ⟨us,[]⟩=pure (ps.zip us)):Binds K fd ps []:=fun s us _ hl=>by
 rw [List.append_nil] at hl ⊢
 exact .of_eq (h us hl)
def Passes (CX:CXT) (X:Cx) (E:XK):Prop:=∀(pins:List (Addr×Obj)) (σ:St) (H:Hp) (s:Shared) (e:Value) (s':Shared),Inv X pins σ H s→CX X.stack H s E e s'→X.xe e s'
section
variable {X:Cx} {CX:CXT} {k:Nat} {f C:Addr} {fd:FuncData} {ps:List Str} {sp:Sp} {dvs:List V} {ds:List Value} {E:XK} {x m:Str} {p pos apos:Pos} {e o:Expr} {es:List Expr} {ta:TE} {t:TA}
theorem sY {pins:List (Addr×Obj)} {σ:St} {H:Hp} {s:Shared} {Q:VK} {us:List Value} {vs:List V} (F:FnOk X.prog X.w X.K X.mg X.base CX k f fd ps sp) (hr:Room k X.A) (hb:Binds X.K fd ps ds) (hd:Vals dvs ds) (hx:Passes CX X E)
  (I:Inv X pins σ H s) (r:Vals vs us) (h:sp (vs++dvs) H Q E):wpAny (model X.prog X.w) X.A (call (.ref f) us) (EP X pins σ Q) X.xe s:=by
 have r2:Vals (vs++dvs) (us++ds):=r.append hd
 have hl:(us++ds).length=ps.length:=by rw [←r2.length];exact F.len _ _ _ _ h
 refine wpAny_call (codeAny_mono (F.run X.A X.stack s H ⟨us,[]⟩ (us++ds) (vs++dvs) Q E hr I.yA (hb s us I.kIn hl) r2 h) fun r s' hq=>?_)
 cases r with
 | error e=>exact hx pins σ H s e s' I hq
 | ok fl=>
  cases fl with
  | ret u=>exact I.after hq
  | next=>exact False.elim hq
  | brk=>exact False.elim hq
  | cont=>exact False.elim hq
theorem qT (F:FnOk X.prog X.w X.K X.mg X.base CX k f fd ps sp) (hr:Room k X.A) (hg:Gl X x) (hm:X.mg x=some (.ref f)) (hk:PySem.W.keepIn X.K (.ref f)=true) (hb:Binds X.K fd ps ds) (hd:Vals dvs ds) (hx:Passes CX X E)
  (ha:PA X (e::es) t) (hdb:(x==("__debug__":Str))=false:=by decide) (he:starEach (e::es) X.env=(false,eval e X.env)::starEach es X.env:=by rfl) (hpl:(backTo pos (starEach es X.env)).any (·.1)=false:=by rfl):
  PE X (.Call (.Name x p) (e::es) [] pos) (we sp dvs E t):=by
 intro pins s σ H Q I h
 refine wpAny_Call_Name_kw (gF I hg hm ?_ hdb)
 refine PySem.W.callWith_K (h₀:=X.base) I.ok.mod.kin hk (thn (ha pos pins s σ H _ I h) fun us s1 ⟨vs,H1,I1,r,q⟩=>⟨I1.kIn,?_⟩) he hpl
 exact sY F hr hb hd hx I1 r q
end
section
variable {X:Cx} {CX:CXT} {k:Nat} {f C:Addr} {fd:FuncData} {ps ks:List Str} {sp:Sp} {E:XK} {x m:Str} {p pos apos kpos:Pos} {e o:Expr} {es:List Expr} {kws:List Keyword} {te ta:TE} {t tk:TA} {nm:Option Str}
variable {g:List Value→List Value→List Value} {gV:List V→List V→List V}
end
structure FnScope (N P:List Str) (sc:Scope):Prop where
 kind:sc.kind=.function
 co:sc.isCoroutine=false
 gen:sc.isGenerator=false
 nd:N.Nodup
 pre:N.take P.length=P
 par:∀x∈P,sc.names.lookup x=some .local∨sc.names.lookup x=some .cell
 nofree:∀y∈sc.names,y.2≠.free
theorem ja {kindOf:Str→Option NameKind} {x:Str}:∀{binds:List (Str×Value)} {m:Str→Option Value},(∀v,(x,v)∉binds)→bindL kindOf binds m x=m x
 | [],_,_=>rfl
 | (n,v)::r,m,h=>by
  unfold bindL
  rw [ja fun w hw=>h w (List.mem_cons_of_mem _ hw)]
  split
  ·have:x≠n:=by rintro rfl;exact h v List.mem_cons_self
   simp [this]
  ·rfl
theorem jc {kindOf:Str→Option NameKind} {x:Str}:∀{binds:List (Str×Value)} {m:Str→Option Value},(∀v,(x,v)∉binds)→bindC kindOf binds m x=m x
 | [],_,_=>rfl
 | (n,v)::r,m,h=>by
  unfold bindC
  rw [jc fun w hw=>h w (List.mem_cons_of_mem _ hw)]
  split
  ·rfl
  ·have:x≠n:=by rintro rfl;exact h v List.mem_cons_self
   simp [this]
theorem jb {kindOf:Str→Option NameKind} {x:Str} {v:Value}:∀{P:List Str} {vs:List Value} {i:Nat} {m:Str→Option Value},P.Nodup→P[i]?=some x→vs[i]?=some v→kindOf x=some .local→
  bindL kindOf (P.zip vs) m x=some v
 | [],_,_,_,_,h,_,_=>by simp at h
 | _::_,[],_,_,_,_,h,_=>by simp at h
 | p::P,w::vs,0,m,nd,h1,h2,hk=>by
  simp at h1 h2;subst h1;subst h2
  show bindL kindOf ((p,w)::P.zip vs) m p=_
  unfold bindL
  rw [ja fun v hv=>(List.nodup_cons.mp nd).1 (List.of_mem_zip hv).1,if_pos hk]
  simp
 | p::P,w::vs,i+1,m,nd,h1,h2,hk=>by
  show bindL kindOf ((p,w)::P.zip vs) m x=_
  unfold bindL
  exact jb (i:=i) (List.nodup_cons.mp nd).2 (by simpa using h1) (by simpa using h2) hk
theorem jd {kindOf:Str→Option NameKind} {x:Str} {v:Value}:∀{P:List Str} {vs:List Value} {i:Nat} {m:Str→Option Value},P.Nodup→P[i]?=some x→vs[i]?=some v→kindOf x≠some .local→
  bindC kindOf (P.zip vs) m x=some v
 | [],_,_,_,_,h,_,_=>by simp at h
 | _::_,[],_,_,_,_,h,_=>by simp at h
 | p::P,w::vs,0,m,nd,h1,h2,hk=>by
  simp at h1 h2;subst h1;subst h2
  show bindC kindOf ((p,w)::P.zip vs) m p=_
  unfold bindC
  rw [jc fun v hv=>(List.nodup_cons.mp nd).1 (List.of_mem_zip hv).1,if_neg hk]
  simp
 | p::P,w::vs,i+1,m,nd,h1,h2,hk=>by
  show bindC kindOf ((p,w)::P.zip vs) m x=_
  unfold bindC
  exact jd (i:=i) (List.nodup_cons.mp nd).2 (by simpa using h1) (by simpa using h2) hk
def start (N:List Str) (vs:List V):St:=vs.map some++List.replicate (N.length-vs.length) none
abbrev l4 (CX:CXT) (P:Program) (w:World) (K:PySem.W.Frag) (mg:Str→Option Value) (base:Heap) (N:List Str) (qual:Str) (scope:Scope) (f:Addr) (cd:Value) (A:Around) (outer:List Env) (s:Shared) (H:Hp) (E:XK):Cx where
 prog:=P
 w:=w
 K:=K
 mg:=mg
 base:=base
 A:=A.deeper (envOfC qual scope s.heap.objs.size f cd)
 N:=N
 s₀:=s
 H₀:=H
 env:=envOfC qual scope s.heap.objs.size f cd
 outer:=outer
 stack:=envOfC qual scope s.heap.objs.size f cd::outer
 ex:=[]
 calm:=true
 fn:=fun _=>true
 pn:=[]
 xe:=fun e s'=>wpAny (model P w) (A.deeper (envOfC qual scope s.heap.objs.size f cd)) (leaving (envOfC qual scope s.heap.objs.size f cd) e) (fun _ s''=>CX outer H s E e s'') (fun e' s''=>CX outer H s E e' s'') s'
theorem kP {sc:Scope} {n:Nat} {x:Str} (h:sc.names.lookup x=some .cell):∃c,(cellsFrom n sc.names []).lookup x=some c:=by
 have q:=PySem.W.cellsFrom_some sc.names n [] (.inl h)
 exact Option.isSome_iff_exists.mp q
theorem nN {CX:CXT} {P:Program} {w:World} {K:PySem.W.Frag} {mg:Str→Option Value} {base:Heap} {N ps:List Str} {qual:Str} {scope:Scope} {f:Addr} {cd:Value} {A:Around} {outer:List Env} {s s1:Shared} {H:Hp} {E:XK} {us:List Value} {vs:List V}
  (S:FnScope N ps scope) (hd:A.handled=none) (e0:Env0 P w K mg base A outer s H) (hl:vs.length=ps.length) (r:Vals vs us)
  (x:InCallC s s.heap.objs.size (bindL (envOfC qual scope s.heap.objs.size f cd).kindOf (ps.zip us) fun _=>none) (cellsFrom (s.heap.objs.size+1) scope.names []) (bindC (envOfC qual scope s.heap.objs.size f cd).kindOf (ps.zip us) fun _=>none) s1):
  Inv (l4 CX P w K mg base N qual scope f cd A outer s H E) [] (start N vs) H s1:=by
 have hpl:ps.length≤N.length:=by have:=congrArg List.length S.pre;rw [List.length_take] at this;omega
 obtain ⟨h1,tk,rfl,hk⟩:=x.done
 have noA:∀b:Addr,b∉(l4 CX P w K mg base N qual scope f cd A outer s H E).ex:=fun b z=>absurd (show b∈([]:List Addr) from z) (by simp)
 refine ⟨⟨e0.mod,S.kind,rfl,rfl,Nat.le_refl _,fun y z c h1 h2=>?_,fun y hy=>?_,fun y c _ h=>?_,fun _=>hd,Around.frames_deeper e0.frames,.inr ⟨rfl,rfl⟩,fun b z=>absurd z (noA b),e0.bs,e0.bsz,fun b _ _=>noA b,fun b z=>absurd z (noA b),e0.ic,e0.frf⟩,
  rfl,e0.bare,Un.kept hk,⟨_,x.toInCall.ns,fun i y v h1 h2 h3=>?_⟩,fun y c h=>⟨_,x.cell y c h⟩,e0.hok.fresh (Nat.le_refl _),fun y c h=>?_,fun p hp=>absurd (show p∈([]:List (Addr×Obj)) from hp) (by simp),e0.hok.kept hk,?_⟩
 ·exact name_of_addr x.apart (PySem.mem_of_lookup h1) (PySem.mem_of_lookup h2)
 ·have hy:scope.names.lookup y=some .cell∨scope.names.lookup y=some .free:=hy
  rcases hy with hy | hy
  ·exact kP hy
  ·exact absurd rfl (S.nofree _ (PySem.mem_of_lookup hy))
 ·exact Nat.le_of_lt (x.above y c (PySem.mem_of_lookup h))
 ·have hi:i < vs.length:=by
   unfold start at h2
   by_cases hi:i < vs.length
   ·exact hi
   ·rw [List.getElem?_append_right (by simpa using hi)] at h2
    rw [List.getElem?_replicate] at h2
    split at h2 <;> cases h2
  have ha:vs[i]?=some v:=by
   unfold start at h2
   rw [List.getElem?_append_left (by simpa using hi),List.getElem?_map] at h2
   cases e:vs[i]? with
   | none=>rw [e] at h2;cases h2
   | some a=>rw [e] at h2;cases h2;rfl
  obtain ⟨u,hu,rv⟩:=r.get ha
  have hp:ps[i]?=some y:=by
   rw [←S.pre,List.getElem?_take_of_lt (by omega)];exact h1
  have ndP:ps.Nodup:=by rw [←S.pre];exact S.nd.sublist (List.take_sublist _ _)
  refine ⟨u,rv,?_⟩
  rcases S.par y (List.mem_of_getElem? hp) with k | k
  ·exact .inl ⟨k,jb ndP hp hu k⟩
  ·obtain ⟨c,e⟩:=kP (n:=s.heap.objs.size+1) k
   refine .inr ⟨.inl k,c,e,?_⟩
   have q:=x.cell y c e
   rw [jd ndP hp hu (by show scope.names.lookup y≠_;rw [k];decide)] at q
   exact q
 ·exact e0.hok.fresh (Nat.le_of_lt (x.above y c (PySem.mem_of_lookup h)))
 ·unfold start
  show _=N.length
  rw [List.length_append,List.length_map,List.length_replicate]
  omega
theorem xf {CX:CXT} {P:Program} {w:World} {K:PySem.W.Frag} {mg:Str→Option Value} {base:Heap} {k:Nat} {f:Addr} {name qual:Str} {params:Arguments} {body:List Stmt} {scope:Scope} {dV kV doc pm cdv ct oc:Value} {an od:Option Addr}
  {osl:Array (Option Value)} {N ps:List Str} {sp:Sp} (lk:K.lookup f=some ⟨oc,od,.func (PySem.W.fnOf name qual params body scope dV kV doc pm an cdv ct),osl⟩) (hcd:PySem.W.codeIn K cdv qual=true) (S:FnScope N ps scope)
  (len:∀vs H Q E,sp vs H Q E→vs.length=ps.length)
  (hbody:∀(A:Around) (outer:List Env) (s:Shared) (H:Hp) (vs:List V) (Q:VK) (E:XK),Room k (A.deeper (envOfC qual scope s.heap.objs.size f cdv))→sp vs H Q E→
   ∃t,PSs (l4 CX P w K mg base N qual scope f cdv A outer s H E) body t∧t {nx:=fun _ H'=>Q .non H',rt:=Q} (start N vs) H):
  FnOk P w K mg base CX (k+1) f (PySem.W.fnOf name qual params body scope dV kV doc pm an cdv ct) ps sp:=by
 refine ⟨len,fun A outer s H args us vs Q E hr e0 hb r hsp=>?_⟩
 have hl:=len _ _ _ _ hsp
 have KX:K.In s.heap:=e0.mod.kin.keeps fun b o e=>(e0.bs b o e).1
 have lim:s.heap.NoLimit:=e0.mod.nolimit.keeps fun b o e=>(e0.bs b o e).1
 have hkind:∀y∈ps.zip us,scope.names.lookup y.1=some .local∨(scope.names.lookup y.1=some .cell∧((cellsFrom (s.heap.objs.size+1) scope.names []).lookup y.1).isSome=true):=fun ⟨n,v⟩ hy=>by
  rcases S.par n (List.of_mem_zip hy).1 with q | q
  ·exact .inl q
  ·exact .inr ⟨q,PySem.W.cellsFrom_some _ _ _ (.inl q)⟩
 refine codeAny_call_function hr.depth (KX _ _ lk) rfl S.co S.gen rfl (PySem.W.codeRec_of KX hcd) (hb _ _ _ _ ?_)
 refine wpAny_newFunctionEnv_cells S.kind hkind fun env he s1 x=>?_
 subst he
 refine ⟨lim.keeps x.toInCall.keep,codeAny_func ?_⟩
 obtain ⟨t,ht,hq⟩:=hbody A outer s H vs Q E (hr.deeper _) hsp
 have I:Inv (l4 CX P w K mg base N qual scope f cdv A outer s H E) [] (start N vs) H s1:=nN S hr.hd e0 hl r x
 refine wpAny_mono (ht [] s1 (start N vs) H _ I hq) (fun fl s' hs=>?_) fun e s' hs=>hs
 have fin:∀{σ':St} {H':Hp} {v:V} {u:Value},Inv (l4 CX P w K mg base N qual scope f cdv A outer s H E) [] σ' H' s'→RelV v u→Q v H'→CE outer P w H s Q u s':=
  fun {σ' H' v u} J rv q=>⟨v,H',J.os,J.bare,J.base,J.hok,rv,q⟩
 cases fl with
 | ret u=>
  obtain ⟨v,σ',H',J,rv,q⟩:=hs
  exact fin J rv q
 | next=>
  obtain ⟨σ',H',J,q⟩:=hs
  exact fin (v:=V.non) (u:=Value.none) J rfl q
 | brk=>
  obtain ⟨_,_,_,q⟩:=hs
  exact False.elim q
 | cont=>
  obtain ⟨_,_,_,q⟩:=hs
  exact False.elim q
end L2
namespace L2
open PySem PySem.Spec PyProof.Rows
section
variable {X:Cx} {x:Str} {p pos:Pos} {e:Expr} {es:List Expr} {t:TA} {id T:String} {r:List V→Hp→VK→Prop}
def tCB (r:List V→Hp→VK→Prop) (t:TA):TE:=fun σ H Q=>t σ H fun vs H1=>r vs H1 Q
theorem kr (hc:cE X (.builtin id) r) (hg:Gl X x) (hm:X.mg x=none) (hv:bootBuiltins x=some (.builtin id)) (ha:PA X (e::es) t) (hn:x≠"__name__":=by decide) (hdb:(x==("__debug__":Str))=false:=by decide)
  (he:starEach (e::es) X.env=(false,eval e X.env)::starEach es X.env:=by rfl) (hpl:(backTo pos (starEach es X.env)).any (·.1)=false:=by rfl):PE X (.Call (.Name x p) (e::es) [] pos) (tCB r t):=by
 intro pins s σ H Q I h
 refine wpAny_Call_Name_kw (fR I hg hm hv ?_ hn hdb)
 exact PyProof.Rows.callWith_builtin1 (thn (ha pos pins s σ H _ I h) fun us s1 ⟨vs,H1,I1,r1,q1⟩=>hc pins s1 σ H1 vs us Q I1 r1 q1) he hpl
theorem fN (hc:cE X (.type T) r) (hg:Gl X x) (hm:X.mg x=none) (hv:bootBuiltins x=some (.type T)) (ha:PA X (e::es) t) (hn:x≠"__name__":=by decide) (hdb:(x==("__debug__":Str))=false:=by decide)
  (he:starEach (e::es) X.env=(false,eval e X.env)::starEach es X.env:=by rfl) (hpl:(backTo pos (starEach es X.env)).any (·.1)=false:=by rfl):PE X (.Call (.Name x p) (e::es) [] pos) (tCB r t):=by
 intro pins s σ H Q I h
 refine wpAny_Call_Name_kw (fR I hg hm hv ?_ hn hdb)
 exact PyProof.Rows.callWith_type1 (thn (ha pos pins s σ H _ I h) fun us s1 ⟨vs,H1,I1,r1,q1⟩=>hc pins s1 σ H1 vs us Q I1 r1 q1) he hpl
end
end L2
namespace HT
open PySem PyProof.Rows
section
open PySem.SeqAt
open PySem.AutoSeq1 (wpAny_loadPart')
open PySem.MeetsSeq PySem.MeetsSeq2 PySem.MeetsSeq3
end
section
variable {prog:Program} {w:World} {A:Around} {E:Value→Shared→Prop} {s:Shared}
theorem sd {t b:Addr} {vs ws:List Value} {Q:Value→Shared→Prop} (ht:IsTup s.heap t vs.toArray) (hb:IsTup s.heap b ws.toArray) (hv:vs≠[])
  (h1:ws=[]→Q (.ref t) s) (h2:ws≠[]→Q (.ref s.heap.objs.size) {s with heap:=s.heap.push {cls:=.type "tuple",data:=.seq (vs++ws).toArray}})
  (hsz:vs.length+ws.length≤sizeLine):wpAny (model prog w) A (binaryOp .Add (.ref t) (.ref b)) Q E s:=by
 obtain ⟨⟨cls,dd,data,sl⟩,ho,hc,n,hd⟩:=id ht
 obtain ⟨⟨cls2,dd2,data2,sl2⟩,ho2,hc2,n2,hd2⟩:=id hb
 simp only at hc hd hc2 hd2
 subst hc hd hc2 hd2
 have e:vs.toArray++ws.toArray=(vs++ws).toArray:=by simp
 by_cases hw:ws=[]
 ·exact concat_meets ⟨_,ho,rfl⟩ ⟨_,ho2,rfl⟩ noFill_tuple_add seq_tuple_add PySem.F.slot_tuple_add PySem.F.entry_tuple_add (PySem.F.args_tuple_add_2 _ _)
   (tuple_addW1 t b vs.toArray ws.toArray n n2 dd dd2 sl sl2 (by simpa using hv) (by simp [hw])) ⟨ho,ho2,h1 hw⟩
 ·refine concat_meets ⟨_,ho,rfl⟩ ⟨_,ho2,rfl⟩ noFill_tuple_add seq_tuple_add PySem.F.slot_tuple_add PySem.F.entry_tuple_add (PySem.F.args_tuple_add_2 _ _)
   (tuple_addW2 t b vs.toArray ws.toArray n n2 dd dd2 sl sl2 (by simpa using hv) (by simpa using hw) (by rw [List.size_toArray,List.size_toArray];exact hsz)) ⟨ho,ho2,?_⟩
  rw [e]
  exact h2 hw
def sIx (n d:Nat):Option Int→Nat
 | none=>d
 | some v=>if v < 0 then (v+(n:Int)).toNat else min v.toNat n
theorem sW (n d:Nat) (hd:d≤n) (o:Option Int):sIx n d o≤n:=by
 cases o with
 | none=>exact hd
 | some v=>
  show (if v < 0 then (v+(n:Int)).toNat else min v.toNat n)≤n
  by_cases hv:v < 0
  ·rw [if_pos hv];omega
  ·rw [if_neg hv];exact Nat.min_le_right _ _
theorem mS (v:Int) (n d:Nat):(if v < 0 then max (v+(n:Int)) 0 else min v (n:Int))=((sIx n d (some v):Nat):Int):=by
 show (if v < 0 then max (v+(n:Int)) 0 else min v (n:Int))=(((if v < 0 then (v+(n:Int)).toNat else min v.toNat n):Nat):Int)
 by_cases hv:v < 0
 ·simp only [if_pos hv];omega
 ·simp only [if_neg hv];omega
theorem l8 (lo hi:Option Int) (n:Nat):Builtin.Slice.sliceAdjust lo hi 1 (n:Int)=(((sIx n 0 lo:Nat):Int),((sIx n n hi:Nat):Int)):=by
 have h1:¬((1:Int) < 0):=by omega
 unfold Builtin.Slice.sliceAdjust
 simp only [h1,if_false]
 refine Prod.ext ?_ ?_
 ·cases lo with
  | none=>rfl
  | some v=>exact mS v n 0
 ·cases hi with
  | none=>rfl
  | some v=>exact mS v n n
theorem lJ (i j:Nat):Builtin.Slice.slicePlaces (i:Int) (j:Int) 1=j-i:=by
 unfold Builtin.Slice.slicePlaces
 have h1:(1:Int) > 0:=by omega
 simp only [h1,if_true,Int.ediv_one]
 split <;> omega
theorem gQ {v:Value} {o:Option Int} {Q:Option Int→Shared→Prop} (p:IsPart v o) (h:Q o s):wpAny (model prog w) A (Builtin.Slice.slicePartIndex v) Q E s:=by
 cases p with
 | none=>exact slicePart_none h
 | int i t=>exact slicePart_int h
theorem cS {sl:Addr} {vl vu:Value} {lo hi:Option Int} {n:Nat} {Q:Int×Int×Nat→Shared→Prop} (hs:s.heap.IsSliceOf sl vl vu .none) (pl:IsPart vl lo) (pu:IsPart vu hi)
  (h:Q (((sIx n 0 lo:Nat):Int),1,sIx n n hi-sIx n 0 lo) s):wpAny (model prog w) A (Builtin.Slice.sliceApplied (.ref sl) (pure (n:Int))) Q E s:=by
 obtain ⟨os,hos,hcs,hds⟩:=id hs
 unfold Builtin.Slice.sliceApplied Builtin.Slice.sliceFields
 refine wpAny_bind (wpAny_bind (wpAny_field hos hds (x:=vl) rfl (wpAny_bind (wpAny_field hos hds (x:=vu) rfl (wpAny_bind (wpAny_field hos hds (x:=.none) rfl (wpAny_pure ?_)))))))
 refine wpAny_bind (slicePart_none ?_)
 show wpAny _ _ (if ((1:Int)==0)=true then _ else _) _ _ s
 rw [if_neg (by decide)]
 refine wpAny_bind (gQ pl (wpAny_bind (gQ pu (wpAny_bind (wpAny_pure ?_)))))
 show wpAny _ _ (match Builtin.Slice.sliceAdjust lo hi 1 (n:Int) with | (lo,hi)=>pure (lo,(1:Int),Builtin.Slice.slicePlaces lo hi 1)) _ _ s
 rw [l8 lo hi n]
 show wpAny _ _ (pure (((sIx n 0 lo:Nat):Int),(1:Int),Builtin.Slice.slicePlaces ((sIx n 0 lo:Nat):Int) ((sIx n n hi:Nat):Int) 1)) _ _ s
 rw [lJ]
 exact wpAny_pure h
theorem oX (xs:Array Value) (i k:Nat):((List.range k).filterMap fun (m:Nat)=>xs[((i:Int)+(m:Int)*1).toNat]?).toArray=((xs.toList.drop i).take k).toArray:=by
 have e:(fun (m:Nat)=>xs[((i:Int)+(m:Int)*1).toNat]?)=fun m=>xs[i+m]?:=by
  funext m
  have:((i:Int)+(m:Int)*1).toNat=i+m:=by omega
  rw [this]
 rw [e]
 have:=pick_run xs i k
 rw [List.filterMap_map] at this
 have e2:((fun x=>xs[x]?)∘fun x=>i+x)=fun m=>xs[i+m]?:=rfl
 rw [e2] at this
 rw [this]
theorem ff {t sl:Addr} {items:Array Value} {vl vu:Value} {lo hi:Option Int} {Q:Value→Shared→Prop} (ht:IsTup s.heap t items) (hs:s.heap.IsSliceOf sl vl vu .none) (pl:IsPart vl lo) (pu:IsPart vu hi)
  (hw:¬(sIx items.size 0 lo=0∧sIx items.size items.size hi=items.size))
  (h:Q (.ref s.heap.objs.size) {s with heap:=s.heap.push {cls:=.type "tuple",data:=.seq ((items.toList.drop (sIx items.size 0 lo)).take (sIx items.size items.size hi-sIx items.size 0 lo)).toArray}})
  (hsz:items.size≤sizeLine):wpAny (model prog w) A (getItem (.ref t) (.ref sl)) Q E s:=by
 have htake:sizeOk (.seq ((items.toList.drop (sIx items.size 0 lo)).take (sIx items.size items.size hi-sIx items.size 0 lo)).toArray):=by
  show ((items.toList.drop (sIx items.size 0 lo)).take (sIx items.size items.size hi-sIx items.size 0 lo)).toArray.size≤sizeLine
  rw [List.size_toArray,List.length_take,List.length_drop,Array.length_toList]
  omega
 have hj:sIx items.size items.size hi≤items.size:=sW _ _ (Nat.le_refl _) hi
 obtain ⟨os,hos,hcs,hds⟩:=id hs
 have hTs:s.TypeIs (.ref sl) "slice":=⟨os,hos,hcs⟩
 unfold getItem
 try with_reducible refine wpAny_holding ?_
 first | refine wpAny_bind (wpAny_pure ?_) | skip
 refine wpAny_bind (wpAny_sequenceKey ht.typeIs (by decide) ?_)
 refine wpAny_bind (wpAny_callSpecial?_slot (name:=Str.ofString "__getitem__") ht.typeIs PyProof.Rows.slot_tuple_getitem
  (wpAny_call_entry PyProof.Rows.slot_tuple_getitem ht.typeIs entry_tuple_getitem ?_ (args_tuple_getitem _ _)))
 show wpAny _ _ (Builtin.Tuple.tupleItemsOf (.ref t) >>=_) _ _ s
 refine wpAny_bind (tupleItemsOf_ ht ?_)
 refine wpAny_bind (wpAny_typeOf hTs ?_)
 rw [if_pos (by decide)]
 refine wpAny_bind (cS hs pl pu ?_)
 have hno:¬((((sIx items.size 0 lo:Nat):Int)==0&&(1:Int)==1&&(sIx items.size items.size hi-sIx items.size 0 lo)==items.size)=true):=by
  intro q
  rw [Bool.and_eq_true,Bool.and_eq_true] at q
  have q1:((sIx items.size 0 lo:Nat):Int)=0:=eq_of_beq q.1.1
  have q2:sIx items.size items.size hi-sIx items.size 0 lo=items.size:=eq_of_beq q.2
  exact hw ⟨by omega,by omega⟩
 show wpAny _ _ (if (((sIx items.size 0 lo:Nat):Int)==0&&(1:Int)==1&&(sIx items.size items.size hi-sIx items.size 0 lo)==items.size)=true then _ else _) _ _ s
 rw [if_neg hno,oX]
 first
  | exact wpAny_bind (m:=Builtin.Tuple.tupleExact _) (wpAny_newObj_type (wpAny_pure ⟨_,rfl,wpAny_pure h⟩) htake)
  | exact wpAny_bind (m:=Builtin.Tuple.tupleExact _) (wpAny_newObj_type (wpAny_bind (wpAny_pure (wpAny_pure ⟨_,rfl,wpAny_pure h⟩))) htake)
  | exact wpAny_bind (wpAny_bind (m:=Builtin.Tuple.tupleExact _) (wpAny_newObj_type (wpAny_pure (wpAny_pure ⟨_,rfl,wpAny_pure h⟩)) htake))
  | exact wpAny_bind (wpAny_bind (m:=Builtin.Tuple.tupleExact _) (wpAny_newObj_type (wpAny_pure ⟨_,rfl,wpAny_pure h⟩) htake))
end
end HT
namespace L2
open PySem PySem.Spec PyProof.Rows
abbrev TO:=St→Hp→(Option Int→Hp→Prop)→Prop
def PO (X:Cx) (e:Option Expr) (t:TO):Prop:=
 ∀(pins:List (Addr×Obj)) (s:Shared) (σ:St) (H:Hp) (Q:Option Int→Hp→Prop),Inv X pins σ H s→t σ H Q→
  wpAny (model X.prog X.w) X.A (evalPart e X.env) (fun u s'=>∃o H',Inv X pins σ H' s'∧IsPart u o∧Q o H') X.xe s
def qg:TO:=fun _ H Q=>Q none H
def vZ (t:TE):TO:=fun σ H Q=>t σ H fun x H1=>∃i,x=.int i∧Q (some i) H1
section
variable {X:Cx} {e:Expr} {te:TE} {lo hi:Option Expr} {tl th:TO} {pos p2:Pos}
theorem qL:PO X none qg:=by
 intro pins s σ H Q I h
 rw [evalPart_none]
 exact wpAny_pure ⟨none,H,I,.none,h⟩
theorem qK (h:PE X e te):PO X (some e) (vZ te):=by
 intro pins s σ H Q I hw
 rw [evalPart_some]
 refine thn (h pins s σ H _ I hw) fun u s1 ⟨x,H1,I1,r1,q1⟩=>?_
 obtain ⟨i,rfl,q⟩:=q1
 obtain ⟨t,rfl⟩:=r1
 exact ⟨some i,H1,I1,.int i t,q⟩
def SlR (X:Cx) (r:V→Option Int→Option Int→Hp→VK→Prop):Prop:=
 ∀(pins:List (Addr×Obj)) (s:Shared) (σ:St) (H:Hp) (x:V) (v vl vu:Value) (lo hi:Option Int) (sl:Addr) (Q:VK),Inv X pins σ H s→RelV x v→s.heap.IsSliceOf sl vl vu .none→IsPart vl lo→IsPart vu hi→r x lo hi H Q→
  ∃T id,typeLookup (.type T) "__getitem__"=pure (some (.builtin id))∧s.TypeIs v T∧wpAny (model X.prog X.w) X.A (getItem v (.ref sl)) (EP X pins σ Q) X.xe s
def tSl (r:V→Option Int→Option Int→Hp→VK→Prop) (te:TE) (tl th:TO):TE:=fun σ H Q=>te σ H fun x H1=>tl σ H1 fun l H2=>th σ H2 fun u H3=>r x l u H3 Q
theorem oZ {r:V→Option Int→Option Int→Hp→VK→Prop} (hr:SlR X r) (he:PE X e te) (hl:PO X lo tl) (hu:PO X hi th):PE X (.Subscript e (.Slice lo hi none p2) pos) (tSl r te tl th):=by
 intro pins s σ H Q I h
 refine Subscript_ (thn (he pins s σ H _ I h) fun v s1 ⟨x,H1,I1,r1,q1⟩=>?_)
 refine wpAny_Slice (thn (hl pins s1 σ H1 _ I1 q1) fun vl s2 ⟨l,H2,I2,pl,q2⟩=>thn (hu pins s2 σ H2 _ I2 q2) fun vu s3 ⟨u,H3,I3,pu,q3⟩=>?_)
 rw [evalPart_none]
 refine wpAny_pure ?_
 have I4:Inv X pins σ H3 {s3 with heap:=s3.heap.push {cls:=.type "slice",data:=.fields #[vl,vu,.none]}}:=I3.kept (t':=s3.toks) fun b ob q=>Heap.get?_push_of_some _ q
 obtain ⟨T,id,hT,ht,hg⟩:=hr pins {s3 with heap:=s3.heap.push {cls:=.type "slice",data:=.fields #[vl,vu,.none]}} σ H3 x v vl vu l u s3.heap.objs.size Q I4 r1 (Heap.IsSliceOf.new ..) pl pu q3
 show wpAny (model X.prog X.w) X.A (subscriptTail e (.Slice lo hi none p2) v (.ref s3.heap.objs.size)) (EP X pins σ Q) X.xe {s3 with heap:=s3.heap.push {cls:=.type "slice",data:=.fields #[vl,vu,.none]}}
 exact tail_any (ops:=[.ref s3.heap.objs.size,v]) ht hT hg (by with_unfolding_all rfl)
def ig (xs:List V) (lo hi:Option Int):List V:=(xs.drop (HT.sIx xs.length 0 lo)).take (HT.sIx xs.length xs.length hi-HT.sIx xs.length 0 lo)
theorem gp (xs:List V) (lo hi:Option Int):(ig xs lo hi).length≤xs.length:=by
 unfold ig
 rw [List.length_take,List.length_drop]
 omega
def x9 (K:PySem.W.Frag):V→Option Int→Option Int→Hp→VK→Prop:=fun x lo hi H Q=>∃a xs,x=.ref a∧SqT K H a xs∧
 ¬(HT.sIx xs.length 0 lo=0∧HT.sIx xs.length xs.length hi=xs.length)∧∀p,H p=none→Q (.ref p) (upd H p (.tup (ig xs lo hi)))
theorem sP:SlR X (x9 X.K):=by
 intro pins s σ H x v vl vu lo hi sl Q I rx hs pl pu h
 obtain ⟨a,xs,rfl,hx,hw,q⟩:=h
 cases rx
 obtain ⟨its,r,ht,hz⟩:=I.tuple hx
 have hlen:its.toArray.size=xs.length:=by rw [List.size_toArray];exact r.length.symm
 refine ⟨"tuple",_,PyProof.Rows.slot_tuple_getitem.lookup,ht.typeIs,?_⟩
 refine HT.ff ht hs pl pu (by rw [hlen];exact hw) ?_ (by rw [hlen];exact hz)
 rw [hlen]
 refine ⟨.ref s.heap.objs.size,_,I.laid (t':=s.toks) (o:=.tup (ig xs lo hi)) (fun b ob q=>Heap.get?_push_of_some _ q) (Nat.le_refl _) ?_,rfl,q _ (I.hok.fresh (Nat.le_refl _))⟩
 exact ⟨Nat.le_trans (gp xs lo hi) hz,_,(r.drop (HT.sIx xs.length 0 lo)).take (HT.sIx xs.length xs.length hi-HT.sIx xs.length 0 lo),jX.new _ _⟩
def wI (K:PySem.W.Frag):R2:=fun x y H Q=>∃a b xs ys,x=.ref a∧y=.ref b∧SqT K H a xs∧SqT K H b ys∧xs≠[]∧xs.length+ys.length≤sizeLine∧
 (ys=[]→Q (.ref a) H)∧(ys≠[]→∀p,H p=none→Q (.ref p) (upd H p (.tup (xs++ys))))
theorem Vals.gE {xs:List V} {us:List Value} (r:Vals xs us):us=[]↔xs=[]:=by
 cases r with
 | nil=>simp
 | cons _ _=>simp
theorem rm:OpR X (binaryOp .Add) (wI X.K):=by
 intro pins s σ H x y v u Q I rx ry h
 obtain ⟨a,b,xs,ys,rfl,rfl,ha,hb,hx,hz,q1,q2⟩:=h
 cases rx
 cases ry
 obtain ⟨its,r1,p1,_⟩:=I.tuple ha
 obtain ⟨its2,r2,p2,_⟩:=I.tuple hb
 refine HT.sd p1 p2 (fun z=>hx (r1.gE.mp z)) (fun z=>⟨.ref a,H,I,rfl,q1 (r2.gE.mp z)⟩) (fun z=>?_) (by rw [←r1.length,←r2.length];exact hz)
 refine ⟨.ref s.heap.objs.size,_,I.laid (t':=s.toks) (o:=.tup (xs++ys)) (fun b ob q=>Heap.get?_push_of_some _ q) (Nat.le_refl _) ?_,rfl,q2 (fun w=>z (r2.gE.mpr w)) _ (I.hok.fresh (Nat.le_refl _))⟩
 exact ⟨by rw [List.length_append];exact hz,_,r1.append r2,jX.new _ _⟩
end
end L2
namespace L2
open PySem PySem.Spec PyProof.Rows
def ixN (n:Nat) (i:Int):Option Nat:=if 0≤i then (if i < n then some i.toNat else none) else if -(n:Int)≤i then some (i+n).toNat else none
def atI {α:Type} (xs:List α) (i:Int):Option α:=(ixN xs.length i).bind fun j=>xs[j]?
theorem mJ {n:Nat} {i:Int} {j:Nat} (h:ixN n i=some j):seqIndex? i n=some j∧j < n∧-(n:Int)≤i∧i < n:=by
 unfold ixN at h
 by_cases h0:0≤i
 ·rw [if_pos h0] at h
  by_cases h1:i < n
  ·rw [if_pos h1] at h
   have e:i.toNat=j:=Option.some.inj h
   exact ⟨by rw [seqIndex_of h0 h1,e],by omega,by omega,h1⟩
  ·rw [if_neg h1] at h;cases h
 ·rw [if_neg h0] at h
  by_cases h1:-(n:Int)≤i
  ·rw [if_pos h1] at h
   have e:(i+n).toNat=j:=Option.some.inj h
   exact ⟨by rw [seqIndex_neg (by omega) h1,e],by omega,h1,by omega⟩
  ·rw [if_neg h1] at h;cases h
theorem gI {α:Type} {xs:List α} {i:Int} {v:α} (h:atI xs i=some v):∃j,seqIndex? i xs.length=some j∧xs[j]?=some v∧j < xs.length∧-(xs.length:Int)≤i∧i < xs.length:=by
 unfold atI at h
 cases e:ixN xs.length i with
 | none=>rw [e] at h;cases h
 | some j=>
  rw [e] at h
  obtain ⟨h1,h2,h3,h4⟩:=mJ e
  exact ⟨j,h1,h,h2,h3,h4⟩
theorem mV {α:Type} {xs:List α} {j:Nat} {v:α} (h:xs[j]?=some v):atI xs (j:Int)=some v:=by
 have hj:j < xs.length:=(List.getElem?_eq_some_iff.mp h).1
 have e:ixN xs.length (j:Int)=some j:=by
  unfold ixN
  rw [if_pos (by omega),if_pos (by omega)];simp
 unfold atI;rw [e];exact h
def jY (b:Expr):Prop:=∀o i,subscripted b false o i=operate [o,i] (getItem o i)
def IxR (X:Cx) (r:R2):Prop:=
 ∀(value slice:Expr) (pins:List (Addr×Obj)) (s:Shared) (σ:St) (H:Hp) (x y:V) (v u:Value) (Q:VK),Inv X pins σ H s→RelV x v→RelV y u→r x y H Q→
  subscripted slice false v u=operate [v,u] (getItem v u)→wpAny (model X.prog X.w) X.A (subscriptTail value slice v u) (EP X pins σ Q) X.xe s
section
variable {X:Cx} {a b:Expr} {ta tb:TE} {pos:Pos}
theorem wO {r:R2} (hr:IxR X r) (ha:PE X a ta) (hb:PE X b tb) (hs:jY b):PE X (.Subscript a b pos) (tOp r ta tb):=by
 intro pins s σ H Q I h
 exact Subscript_ (vF ha hb I h fun v u s2 x y H2 I2 rx ry q=>hr a b pins s2 σ H2 x y v u Q I2 rx ry q (hs _ _))
def yh (K:PySem.W.Frag):R2:=fun x y H Q=>∃p xs i v,x=.ref p∧y=.int i∧SqL K H p xs∧atI xs i=some v∧Q v H
def yf (K:PySem.W.Frag):R2:=fun x y H Q=>∃p xs i v,x=.ref p∧y=.int i∧SqT K H p xs∧atI xs i=some v∧Q v H
def yg:R2:=fun x y H Q=>∃z i c,x=.str z∧y=.int i∧z.length≤sizeLine∧atI z.cps.toList i=some c∧Q (.str ⟨#[c]⟩) H
theorem rG:IxR X (yh X.K):=by
 intro value slice pins s σ H x y v u Q I rx ry h hs
 obtain ⟨p,xs,i,z,rfl,rfl,hq,he,q⟩:=h
 cases rx
 obtain ⟨t,rfl⟩:=ry
 obtain ⟨its,r,pl,hz⟩:=I.list hq
 obtain ⟨j,h1,h2,h3,h4,h5⟩:=gI he
 obtain ⟨w,ew,rw'⟩:=r.get h2
 have hl:=r.length
 have hn:=eN
 have fin:EP X pins σ Q w s:=⟨z,H,I,rw',q⟩
 by_cases h0:0≤i
 ·have hj:i.toNat=j:=by
   rw [seqIndex_of h0 h5] at h1
   exact Option.some.inj h1
  exact item_listR pl.isList h0 (by omega) (by rw [hj];simpa using ew) fin hs
 ·have hj:(i+(its.toArray.size:Int)).toNat=j:=by
   rw [seqIndex_neg (by omega) h4] at h1
   rw [List.size_toArray,←hl]
   exact Option.some.inj h1
  exact subscriptTail_builtinR (x:=w) pl.isList.typeIs slot_list_getitem.lookup
   (wpAny_getItem_list_neg (Q:=fun r s'=>r=w∧EP X pins σ Q r s') pl.isList (by omega) (by rw [List.size_toArray] <;> omega) (by omega) (by rw [hj];simpa using ew) ⟨rfl,fin⟩) hs
theorem vj:IxR X (yf X.K):=by
 intro value slice pins s σ H x y v u Q I rx ry h hs
 obtain ⟨p,xs,i,z,rfl,rfl,hq,he,q⟩:=h
 cases rx
 obtain ⟨t,rfl⟩:=ry
 obtain ⟨its,r,pl,hz⟩:=I.tuple hq
 obtain ⟨j,h1,h2,h3,h4,h5⟩:=gI he
 obtain ⟨w,ew,rw'⟩:=r.get h2
 have hl:=r.length
 have hn:=eN
 have fin:EP X pins σ Q w s:=⟨z,H,I,rw',q⟩
 exact subscriptTail_builtinR (x:=w) pl.typeIs slot_tuple_getitem.lookup
  (getItem_tuple (j:=j) (Q:=fun r s'=>r=w∧EP X pins σ Q r s') pl (by omega) (by omega) (by rw [List.size_toArray,←hl];exact h1) (by simpa using ew) ⟨rfl,fin⟩) hs
theorem vk:IxR X yg:=by
 intro value slice pins s σ H x y v u Q I rx ry h hs
 obtain ⟨z,i,c,rfl,rfl,hz,he,q⟩:=h
 obtain ⟨t,rfl⟩:=rx
 obtain ⟨t',rfl⟩:=ry
 obtain ⟨j,h1,h2,h3,h4,h5⟩:=gI he
 have hl:z.cps.toList.length=z.length:=by simp [Str.length]
 rw [hl] at h1 h4 h5
 have hn:=eN
 exact tail_any (typeIs_str s z t) slot_str_getitem.lookup (getItem_str (c:=c) (by
  have e1:decide (i < -(2^63:Int))=false:=decide_eq_false (by omega)
  have e2:decide (i≥2^63)=false:=decide_eq_false (by omega)
  rw [e1,e2,Bool.or_false]) (by rw [h1];simpa using h2) ⟨.str ⟨#[c]⟩,H,I.tok _,⟨_,rfl⟩,q⟩) hs
theorem lT (its:List Value) (n j:Nat) (u:Value):Obj.mapSeq (·.setIfInBounds j u) {cls:=.type "list",data:=.seq its.toArray n}={cls:=.type "list",data:=.seq (its.set j u).toArray n}:=by
 simp [Obj.mapSeq]
theorem Inv.lst {pins:List (Addr×Obj)} {σ:St} {H:Hp} {s:Shared} {p:Addr} {xs:List V} (I:Inv X pins σ H s) (h:H p=some (.lst xs)):
  ∃(its:List Value) (n:Nat),Vals xs its∧s.heap.get? p=some {cls:=.type "list",data:=.seq its.toArray n}∧xs.length≤sizeLine:=by
 obtain ⟨z,its,n,r,e⟩:=I.hok p _ h
 exact ⟨its,n,r,e,z⟩
theorem Inv.va {pins:List (Addr×Obj)} {σ:St} {H:Hp} {s:Shared} {p:Addr} {xs ys:List V} {its its':List Value} {n n':Nat} {f:Obj→Obj} (I:Inv X pins σ H s) (h:H p=some (.lst xs))
  (ho:s.heap.get? p=some {cls:=.type "list",data:=.seq its.toArray n}) (hf:f {cls:=.type "list",data:=.seq its.toArray n}={cls:=.type "list",data:=.seq its'.toArray n'}) (r:Vals ys its') (hz:ys.length≤sizeLine) (t:Nat):
  Inv X pins σ (upd H p (.lst ys)) {s with heap:=s.heap.update p f,toks:=t}:=by
 have e:(s.heap.update p f).get? p=some {cls:=.type "list",data:=.seq its'.toArray n'}:=by
  rw [Heap.get?_update_self f ho (by rw [hf] <;> rfl),hf]
 refine I.write (x:=p) (e:=p) (by rw [h];trivial) (.inl rfl) (fun b u hb q=>(Heap.get?_update_other _ _ (Ne.symm hb)).trans q) ⟨_,e⟩ ?_
 exact ⟨hz,its',n',r,e⟩
def wG:V→V→V→Hp→(Hp→Prop)→Prop:=fun o i v H Q=>∃p xs k j,o=.ref p∧i=.int k∧H p=some (.lst xs)∧ixN xs.length k=some j∧Q (upd H p (.lst (xs.set j v)))
theorem set_list:vL X wG:=by
 intro pins s σ H o i v ov iv u Q I ro ri rv h
 obtain ⟨p,xs,k,j,rfl,rfl,hp,hj,q⟩:=h
 cases ro
 obtain ⟨t,rfl⟩:=ri
 obtain ⟨its,n,r,ho,hz⟩:=I.lst hp
 obtain ⟨h1,h2,h3,h4⟩:=mJ hj
 have hl:=r.length
 have hn:=eN
 have I':Inv X pins σ (upd H p (.lst (xs.set j v))) {s with heap:=s.heap.update p (Obj.mapSeq (·.setIfInBounds j u))}:=
  I.va hp ho (lT its n j u) (r.set rv j) (by rw [List.length_set];exact hz) s.toks
 by_cases h0:0≤k
 ·have hk:k.toNat=j:=by
   rw [seqIndex_of h0 h4] at h1
   exact Option.some.inj h1
  exact PySem.W.ki_setAt ho h0 (by omega) (by rw [List.size_toArray,←hl];exact h4) (by rw [hk];exact ⟨_,I',q⟩)
 ·have hk:(k+(its.toArray.size:Int)).toNat=j:=by
   rw [seqIndex_neg (by omega) h3] at h1
   rw [List.size_toArray,←hl]
   exact Option.some.inj h1
  exact PySem.W.ki_setBack ho (by omega) (by rw [List.size_toArray,←hl];exact h3) (by omega) (by rw [hk];exact ⟨_,I',q⟩)
theorem jj (lo hi:Option Int) (n:Nat):(sliceBounds lo hi none n).1=((HT.sIx n 0 lo:Nat):Int)∧(sliceBounds lo hi none n).2.1=((HT.sIx n n hi:Nat):Int)∧(sliceBounds lo hi none n).2.2=1:=by
 refine ⟨?_,?_,rfl⟩
 ·cases lo with
  | none=>simp [sliceBounds,HT.sIx]
  | some i=>
   simp only [sliceBounds,HT.sIx,Option.getD_none,show (1:Int) > 0 by decide,if_true]
   by_cases h:i < 0
   ·simp only [h,if_true] <;> omega
   ·simp only [h,if_false] <;> omega
 ·cases hi with
  | none=>simp [sliceBounds,HT.sIx]
  | some i=>
   simp only [sliceBounds,HT.sIx,Option.getD_none,show (1:Int) > 0 by decide,if_true]
   by_cases h:i < 0
   ·simp only [h,if_true] <;> omega
   ·simp only [h,if_false] <;> omega
theorem iy (its:List Value) (lo hi:Option Int):slicePick its.toArray lo hi none=((its.drop (HT.sIx its.length 0 lo)).take (HT.sIx its.length its.length hi-HT.sIx its.length 0 lo)).toArray:=by
 obtain ⟨h1,h2,h3⟩:=jj lo hi its.toArray.size
 unfold slicePick
 rw [h1,h2,h3]
 simp only [sliceRange_one,pick_run,List.size_toArray] <;> rfl
def yc (K:PySem.W.Frag):V→Option Int→Option Int→Hp→VK→Prop:=fun x lo hi H Q=>∃a xs,x=.ref a∧SqL K H a xs∧∀p,H p=none→Q (.ref p) (upd H p (.lst (ig xs lo hi)))
theorem qo:SlR X (yc X.K):=by
 intro pins s σ H x v vl vu lo hi sl Q I rx hs pl pu h
 obtain ⟨a,xs,rfl,hx,q⟩:=h
 cases rx
 obtain ⟨its,r,ht,hz⟩:=I.list hx
 have hlen:=r.length
 refine ⟨"list",_,slot_list_getitem.lookup,ht.isList.typeIs,?_⟩
 refine wpAny_getItem_list_slice ht.isList hs pl pu .none (by simp) ?_ (by rw [List.size_toArray] <;> omega)
 rw [iy,←hlen]
 refine ⟨.ref s.heap.objs.size,_,I.laid (t':=s.toks) (o:=.lst (ig xs lo hi)) (fun b ob q=>Heap.get?_push_of_some _ q) (Nat.le_refl _) ?_,rfl,q _ (I.hok.fresh (Nat.le_refl _))⟩
 exact ⟨Nat.le_trans (gp xs lo hi) hz,_,0,(r.drop (HT.sIx xs.length 0 lo)).take (HT.sIx xs.length xs.length hi-HT.sIx xs.length 0 lo),Heap.get?_push_size _ rfl⟩
theorem jQ:cE X (.builtin "len") (fun xs H Q=>∃p ys,xs=[.ref p]∧(SqL X.K H p ys∨SqT X.K H p ys)∧Q (.int ys.length) H):=by
 intro pins s σ H xs us Q I r h
 obtain ⟨p,ys,rfl,hq,q⟩:=h
 obtain ⟨u,rfl,rx⟩:=vals1 r
 cases rx
 have hn:=eN
 rcases hq with hq | hq
 ·obtain ⟨its,r',pl,hz⟩:=I.list hq
  have hlen:=r'.length
  exact Calls.call_len_list pl.isList (by simp only [List.size_toArray] <;> omega) ⟨.int ys.length,H,I.tok _,⟨s.toks+1,by rw [List.size_toArray,hlen]⟩,q⟩
 ·obtain ⟨its,r',pl,hz⟩:=I.tuple hq
  have hlen:=r'.length
  exact len_tuple pl (by simp only [List.size_toArray] <;> omega) ⟨.int ys.length,H,I.tok _,⟨s.toks+1,by rw [List.size_toArray,hlen]⟩,q⟩
theorem jP:cE X (.builtin "len") (fun xs H Q=>∃z,xs=[.str z]∧z.length≤sizeLine∧Q (.int z.length) H):=by
 intro pins s σ H xs us Q I r h
 obtain ⟨z,rfl,hz,q⟩:=h
 obtain ⟨u,rfl,t,rfl⟩:=vals1 r
 have hn:=eN
 exact len_str (by omega) ⟨.int z.length,H,I.tok _,⟨_,rfl⟩,q⟩
theorem jO:cE X (.type "list") (fun xs H Q=>∃p ys,xs=[.ref p]∧(SqL X.K H p ys∨SqT X.K H p ys)∧∀l,H l=none→Q (.ref l) (upd H l (.lst ys))):=by
 intro pins s σ H xs us Q I r h
 obtain ⟨p,ys,rfl,hq,q⟩:=h
 obtain ⟨u,rfl,rx⟩:=vals1 r
 cases rx
 have fin:∀(its:List Value),Vals ys its→ys.length≤sizeLine→∀(h':Heap) (c':Nat),(∀b o',s.heap.get? b=some o'→h'.get? b=some o')→
   h'.get? s.heap.objs.size=some {cls:=.type "list",dict:=none,data:=.seq its.toArray c',slots:=#[]}→EP X pins σ Q (.ref s.heap.objs.size) {s with heap:=h'}:=fun its r' hz h' c' kp e=>
  ⟨.ref s.heap.objs.size,_,I.laid (t':=s.toks) kp (Nat.le_refl _) (show bp X.prog X.w _ h' _ (.lst ys) from ⟨hz,its,c',r',e⟩),rfl,q _ (I.hok.fresh (Nat.le_refl _))⟩
 rcases hq with hq | hq
 ·obtain ⟨its,r',pl,hz⟩:=I.list hq
  have hlen:=r'.length
  obtain ⟨o,ho,hc,n,hd⟩:=pl.isList
  exact call_list_seq p (.inl rfl) ho hc hd (fun h' c' kp e=>fin its r' hz h' c' kp e) (by simp only [List.size_toArray] <;> omega)
 ·obtain ⟨its,r',pl,hz⟩:=I.tuple hq
  have hlen:=r'.length
  obtain ⟨o,ho,hc,n,hd⟩:=pl
  exact call_list_seq p (.inr rfl) ho hc hd (fun h' c' kp e=>fin its r' hz h' c' kp e) (by simp only [List.size_toArray] <;> omega)
theorem iO:cE X (.type "tuple") (fun xs H Q=>∃p ys,xs=[.ref p]∧((SqL X.K H p ys∧∀l,H l=none→Q (.ref l) (upd H l (.tup ys)))∨(SqT X.K H p ys∧Q (.ref p) H))):=by
 intro pins s σ H xs us Q I r h
 obtain ⟨p,ys,rfl,h⟩:=h
 obtain ⟨u,rfl,rx⟩:=vals1 r
 cases rx
 rcases h with ⟨hq,q⟩ | ⟨hq,q⟩
 ·obtain ⟨its,r',pl,hz⟩:=I.list hq
  have hlen:=r'.length
  refine call_tuple_list pl.isList (fun h' kp=>?_) (by simp only [List.size_toArray] <;> omega)
  have I1:Inv X pins σ H {s with heap:=h'}:=I.kept (t':=s.toks) kp
  have I2:Inv X pins σ (upd H h'.objs.size (.tup ys)) {s with heap:=h'.push {cls:=.type "tuple",data:=.seq its.toArray}}:=
   I1.laid (t':=s.toks) (fun b o e=>Heap.get?_push_of_some _ e) (Nat.le_refl _) (show bp X.prog X.w _ _ _ (.tup ys) from ⟨hz,its,r',jX.new _ _⟩)
  exact ⟨.ref h'.objs.size,_,I2,rfl,q _ (I1.hok.fresh (Nat.le_refl _))⟩
 ·obtain ⟨its,r',pl,hz⟩:=I.tuple hq
  exact call_tuple_same pl ⟨.ref p,H,I,rfl,q⟩
variable {o e:Expr} {es:List Expr} {to:TE} {t:TA} {name:Str} {apos cpos:Pos} {T id:String} {r:V→List V→Hp→VK→Prop}
end
end L2
namespace L2
open PySem PySem.Spec PyProof.Rows
def MtM (X:Cx) (id:String) (r:V→List V→Hp→VK→Prop):Prop:=
 ∀(pins:List (Addr×Obj)) (s:Shared) (σ:St) (H:Hp) (x:V) (xs:List V) (v:Value) (us:List Value) (Q:VK),Inv X pins σ H s→RelV x v→Vals xs us→r x xs H Q→
  wpAny (model X.prog X.w) X.A (call (.builtin id) (v::us)) (EP X pins σ Q) X.xe s
theorem Vals.one:∀{x:V} {us:List Value},Vals [x] us→∃u,us=[u]∧RelV x u
 | _,_,.cons r .nil=>⟨_,rfl,r⟩
theorem Vals.two:∀{x y:V} {us:List Value},Vals [x,y] us→∃u v,us=[u,v]∧RelV x u∧RelV y v
 | _,_,_,.cons r (.cons q .nil)=>⟨_,_,rfl,r,q⟩
theorem Vals.rep {xs:List V} {us:List Value} (h:Vals xs us):∀k:Nat,Vals (List.replicate k xs).flatten (List.replicate k us).flatten
 | 0=>.nil
 | k+1=>by
  rw [List.replicate_succ,List.replicate_succ,List.flatten_cons,List.flatten_cons]
  exact Vals.append h (Vals.rep h k)
theorem foldl_rep (its:List Value):∀(k:Nat) (acc:List Value),
  List.foldl (fun x1 x2=>x1++x2) acc.toArray (List.replicate k its.toArray)=(acc++(List.replicate k its).flatten).toArray
 | 0,acc=>by simp
 | k+1,acc=>by
  have e:acc.toArray++its.toArray=(acc++its).toArray:=by simp
  have e2:(acc++its)++(List.replicate k its).flatten=acc++(List.replicate (k+1) its).flatten:=by
   rw [List.replicate_succ,List.flatten_cons,List.append_assoc]
  rw [←e2,←foldl_rep its k (acc++its),←e,List.replicate_succ,List.foldl_cons]
section
variable {X:Cx} {pins:List (Addr×Obj)} {σ:St} {H:Hp} {s:Shared} {l b:Addr} {xs ys zs:List V}
theorem Inv.yo {its its':List Value} {n:Nat} {f:Array Value→Array Value} {t':Nat} (I:Inv X pins σ H s) (hH:H l=some (.lst xs))
  (e:s.heap.get? l=some {cls:=.type "list",data:=.seq its.toArray n}) (hf:f its.toArray=its'.toArray) (hv:Vals ys its') (hz:ys.length≤sizeLine):
  Inv X pins σ (upd H l (.lst ys)) {s with heap:=s.heap.update l (Obj.mapSeq f),toks:=t'}:=by
 have q:=PySem.IsL.update e f
 rw [hf] at q
 refine I.write (x:=l) (e:=l) (by rw [hH];exact trivial) (.inl rfl) (fun b' u hb hu=>(Heap.get?_update_other s.heap (Obj.mapSeq f) (Ne.symm hb)).trans hu) ⟨_,q⟩ ?_
 exact ⟨hz,its',_,hv,q⟩
theorem Inv.w5 {its:List Value} {t':Nat} (I:Inv X pins σ H s) (hv:Vals ys its) (hz:ys.length≤sizeLine):
  Inv X pins σ (upd H s.heap.objs.size (.lst ys)) {s with heap:=s.heap.push {cls:=.type "list",data:=.seq its.toArray},toks:=t'}:=
 I.laid (fun _ _ q=>Heap.get?_push_of_some _ q) (Nat.le_refl _) ⟨hz,its,0,hv,Heap.get?_push_size _ rfl⟩
theorem Inv.fresh (I:Inv X pins σ H s):H s.heap.objs.size=none:=I.hok.fresh (Nat.le_refl _)
theorem Inv.vb (I:Inv X pins σ H s) (hH:H l=some (.lst xs)):xs.length≤sizeLine∧∃(its:List Value) (n:Nat),Vals xs its∧xs.length=its.length∧s.heap.get? l=some {cls:=.type "list",data:=.seq its.toArray n}:=by
 obtain ⟨z,its,n,r,e⟩:=I.hok l _ hH
 exact ⟨z,its,n,r,r.length,e⟩
end
section
variable {X:Cx}
def qD:V→List V→Hp→VK→Prop:=fun x vs H Q=>∃l xs y,x=.ref l∧vs=[y]∧H l=some (.lst xs)∧xs.length < sizeLine∧Q .non (upd H l (.lst (xs++[y])))
theorem nE:MtM X "list.append" qD:=by
 intro pins s σ H x vs v us Q I rx rv h
 obtain ⟨l,xs,y,rfl,rfl,hH,hz,q⟩:=h
 cases rx
 obtain ⟨u,rfl,ru⟩:=rv.one
 obtain ⟨z,its,n,r,hl,e⟩:=I.vb hH
 refine call_meets F.slot_list_append ⟨_,e,rfl⟩ F.entry_list_append (F.args_list_append_2 _ _) (PySem.list_append l its.toArray n u (by rw [List.size_toArray];omega)) ⟨e,?_⟩
 refine ⟨.non,_,I.yo (its':=its++[u]) hH e (by simp) (r.append (.cons ru .nil)) ?_,rfl,q⟩
 rw [List.length_append,List.length_singleton]
 omega
def yi:R2:=fun x y H Q=>∃l b xs zs,x=.ref l∧y=.ref b∧H l=some (.lst xs)∧H b=some (.lst zs)∧xs.length+zs.length≤sizeLine∧∀p,H p=none→Q (.ref p) (upd H p (.lst (xs++zs)))
theorem u4:OpR X (binaryOp .Add) yi:=by
 intro pins s σ H x y v u Q I rx ry h
 obtain ⟨l,b,xs,zs,rfl,rfl,hH,hB,hz,q⟩:=h
 cases rx
 cases ry
 obtain ⟨z,its,n,r,hl,e⟩:=I.vb hH
 obtain ⟨z2,its2,n2,r2,hl2,e2⟩:=I.vb hB
 refine PySem.P.add_list e e2 ?_ (by rw [List.size_toArray,List.size_toArray];omega)
 have ea:its.toArray++its2.toArray=(its++its2).toArray:=by simp
 rw [ea]
 exact ⟨.ref _,_,I.w5 (t':=s.toks) (r.append r2) (by rw [List.length_append];omega),rfl,q _ I.fresh⟩
theorem len_rep {α:Type} (xs:List α) (k:Nat):(List.replicate k xs).flatten.length=k*xs.length:=by
 induction k with
 | zero=>simp
 | succ k ih=>rw [List.replicate_succ,List.flatten_cons,List.length_append,ih,Nat.succ_mul,Nat.add_comm]
end
section
variable {prog:Program} {w:World} {A:Around} {E:Value→Shared→Prop} {s:Shared}
set_option maxRecDepth 100000 in
end
section
variable {X:Cx}
end
end L2
namespace L2
open PySem PySem.Spec PyProof.Rows
section
variable {κ:Type} [DecidableEq κ]
def dw (kvs:List (κ×V)) (k:κ):Option V:=(kvs.find? fun kv=>decide (kv.1=k)).map (·.2)
def putK (kvs:List (κ×V)) (k:κ) (v:V):List (κ×V):=
 if (kvs.any fun kv=>decide (kv.1=k))=true then kvs.map (fun kv=>if kv.1=k then (kv.1,v) else kv) else kvs++[(k,v)]
theorem gJ {p:κ×V} {r:List (κ×V)} {k:κ} (e:p.1=k):dw (p::r) k=some p.2:=by simp [dw,List.find?_cons,e]
theorem eU {p:κ×V} {r:List (κ×V)} {k:κ} (e:¬p.1=k):dw (p::r) k=dw r k:=by simp [dw,List.find?_cons,e]
theorem j1 (k:κ):∀kvs:List (κ×V),(kvs.any fun kv=>decide (kv.1=k))=(dw kvs k).isSome
 | []=>rfl
 | p::r=>by
  rw [List.any_cons]
  by_cases e:p.1=k
  ·simp only [gJ e,decide_eq_true e,Bool.true_or,Option.isSome_some]
  ·rw [eU e,decide_eq_false e,Bool.false_or];exact j1 k r
theorem dU (kvs:List (κ×V)) (k:κ) (v:V):(putK kvs k v).length≤kvs.length+1:=by
 unfold putK
 split
 ·rw [List.length_map];omega
 ·rw [List.length_append,List.length_cons,List.length_nil];omega
theorem iu.cU {o:Option V} {u:Option Value} (r:iu o u):o.isSome=u.isSome:=by
 cases o with
 | none=>cases u with
  | none=>rfl
  | some _=>exact (show False from r).elim
 | some _=>cases u with
  | none=>exact (show False from r).elim
  | some _=>rfl
theorem KV.val {kvs:List (κ×V)} {vs:List (κ×Value)} (r:KV kvs vs) (k:κ):iu (dw kvs k) (valueAt vs k):=by
 unfold KV at r
 induction r with
 | nil=>exact True.intro
 | @cons p q ps qs h t ih=>
  obtain ⟨h1,h2⟩:=h
  by_cases e:p.1=k
  ·have e':q.1=k:=h1.symm.trans e
   have b:valueAt (q::qs) k=some q.2:=by simp [valueAt,List.find?_cons,e']
   rw [gJ e,b];exact h2
  ·have e':¬q.1=k:=fun z=>e (h1.trans z)
   have b:valueAt (q::qs) k=valueAt qs k:=by simp [valueAt,List.find?_cons,e']
   rw [eU e,b];exact ih
theorem KV.any {kvs:List (κ×V)} {vs:List (κ×Value)} (r:KV kvs vs) (k:κ):(kvs.any fun kv=>decide (kv.1=k))=vs.any fun kv=>decide (kv.1=k):=by
 unfold KV at r
 induction r with
 | nil=>rfl
 | cons h t ih=>rw [List.any_cons,List.any_cons,ih,h.1]
theorem KV.tj {kvs:List (κ×V)} {vs:List (κ×Value)} (r:KV kvs vs) (k:κ) {y:V} {u:Value} (ry:RelV y u):
  KV (kvs.map fun kv=>if kv.1=k then (kv.1,y) else kv) (vs.map fun kv=>if kv.1=k then (kv.1,u) else kv):=by
 unfold KV at r ⊢
 induction r with
 | nil=>exact .nil
 | @cons p q ps qs h t ih=>
  rw [List.map_cons,List.map_cons]
  refine .cons ?_ ih
  obtain ⟨h1,h2⟩:=h
  by_cases e:p.1=k
  ·rw [if_pos e,if_pos (h1.symm.trans e)];exact ⟨h1,ry⟩
  ·rw [if_neg e,if_neg (fun z=>e (h1.trans z))];exact ⟨h1,h2⟩
theorem KV.put {kvs:List (κ×V)} {vs:List (κ×Value)} (r:KV kvs vs) (k:κ) {y:V} {u:Value} (ry:RelV y u):KV (putK kvs k y) (stored vs k u):=by
 unfold putK stored
 rw [r.any k]
 by_cases e:(vs.any fun kv=>decide (kv.1=k))=true
 ·rw [if_pos e,if_pos e];exact r.tj k ry
 ·rw [if_neg e,if_neg e];exact Paired.snoc r ⟨rfl,ry⟩
theorem KV.length {kvs:List (κ×V)} {vs:List (κ×Value)} (r:KV kvs vs):kvs.length=vs.length:=Paired.length r
end
theorem gh {P:Program} {w:World} {k:Key} {u:Value} (r:RelV (kV k) u):(aV P w).is k u=true:=by
 cases k with
 | inl i=>obtain ⟨t,e⟩:=(show ∃t,u=Value.int i t from r);subst e;exact gg P w i t
 | inr x=>obtain ⟨t,e⟩:=(show ∃t,u=Value.str x t from r);subst e;exact gf P w x t
theorem iY {P:Program} {w:World}:∀{ks:List Key} {us:List Value},Vals (ks.map kV) us→ItemsAre (aV P w) ks us
 | [],_,r=>by rw [List.map_nil] at r;cases r;exact .nil
 | k::ks,_,r=>by
  rw [List.map_cons] at r
  cases r with
  | cons h t=>exact .cons (gh h) (iY t)
abbrev KT (H:Hp):List (List Key×V)→List (List Key×Addr×Value)→Prop:=Paired fun p q=>p.1=q.1∧H q.2.1=some (.tup (p.1.map kV))∧RelV p.2 q.2.2
theorem KT.val {H:Hp} {kvs:List (List Key×V)} {xs:List (List Key×Addr×Value)} (r:KT H kvs xs) (k:List Key):iu (dw kvs k) ((atKey xs k).map (·.2)):=by
 induction r with
 | nil=>exact True.intro
 | @cons p q ps qs h t ih=>
  obtain ⟨h1,_,h2⟩:=h
  by_cases e:p.1=k
  ·have e':q.1=k:=h1.symm.trans e
   have b:atKey (q::qs) k=some q.2:=by simp [atKey,List.find?_cons,e']
   rw [gJ e,b];exact h2
  ·have e':¬q.1=k:=fun z=>e (h1.trans z)
   have b:atKey (q::qs) k=atKey qs k:=by simp [atKey,List.find?_cons,e']
   rw [eU e,b];exact ih
theorem KT.tj {H:Hp} {kvs:List (List Key×V)} {xs:List (List Key×Addr×Value)} (r:KT H kvs xs) (k:List Key) {y:V} {u:Value} (ry:RelV y u):
  KT H (kvs.map fun kv=>if kv.1=k then (kv.1,y) else kv) (xs.map (putAt k u)):=by
 induction r with
 | nil=>exact .nil
 | @cons p q ps qs h t ih=>
  rw [List.map_cons,List.map_cons]
  refine .cons ?_ ih
  obtain ⟨h1,h2,h3⟩:=h
  unfold putAt
  by_cases e:p.1=k
  ·rw [if_pos e,if_pos (h1.symm.trans e)];exact ⟨h1,h2,ry⟩
  ·rw [if_neg e,if_neg (fun z=>e (h1.trans z))];exact ⟨h1,h2,h3⟩
theorem KT.put {H:Hp} {kvs:List (List Key×V)} {xs:List (List Key×Addr×Value)} (r:KT H kvs xs) (k:List Key) {b:Addr} {y:V} {u:Value} (hb:H b=some (.tup (k.map kV))) (ry:RelV y u):
  KT H (putK kvs k y) (storedH xs k b u):=by
 have e:(kvs.any fun kv=>decide (kv.1=k))=(atKey xs k).isSome:=by
  rw [j1,(r.val k).cU,Option.isSome_map]
 unfold putK storedH
 rw [e]
 by_cases q:(atKey xs k).isSome=true
 ·rw [if_pos q,if_pos q];exact r.tj k ry
 ·rw [if_neg q,if_neg q];exact Paired.snoc r ⟨rfl,hb,ry⟩
theorem KT.keeps {H H':Hp} {kvs:List (List Key×V)} {xs:List (List Key×Addr×Value)} (r:KT H kvs xs) (ht:∀b ys,H b=some (.tup ys)→H' b=some (.tup ys)):KT H' kvs xs:=
 Paired.u9 r fun _ _ z=>⟨z.1,ht _ _ z.2.1,z.2.2⟩
section
variable {P:Program} {w:World} {H:Hp} {h:Heap} {a:Addr}
theorem so {u:HO} (ok:HOk P w H h) (e:Rd H a u):bp P w H h a u:=e.ok ok
theorem i6 {kvs:List (Key×V)} (ok:HOk P w H h) (e:Rd H a (.dK kvs)):kvs.length≤sizeLine∧(a==sysModules)=false∧∃vs,KV kvs vs∧h.DictOf (aV P w) a vs:=
 show bp P w H h a (.dK kvs) from so ok e
theorem mP {kvs:List (Key×V)} (ok:HOk P w H h) (e:H a=some (.dK kvs)):kvs.length≤sizeLine∧(a==sysModules)=false∧∃vs,KV kvs vs∧h.DictOf (aV P w) a vs:=i6 ok (.inl e)
theorem hG {ks:List Key} (ok:HOk P w H h) (e:H a=some (.tup (ks.map kV))):(tupleKind (aV P w)).is h ks a:=by
 obtain ⟨_,its,r,o,h1,h2,⟨n,h3⟩,_⟩:=(show bp P w H h a (.tup (ks.map kV)) from ok a _ e)
 exact ⟨o,its.toArray,n,h1,h2,h3,by simpa using iY r⟩
theorem kL {kvs:List (List Key×V)} (ok:HOk P w H h) (e:Rd H a (.dT kvs)):kvs.length≤sizeLine∧(a==sysModules)=false∧
  ∃xs,KT H kvs xs∧h.DictOfH (tupleKind (aV P w)) a xs:=by
 obtain ⟨z,y,xs,r,o,es,ep,h1,h2,h3,h4,h5⟩:=(show bp P w H h a (.dT kvs) from so ok e)
 refine ⟨z,y,xs,r,o,es,ep,h1,h2,h3,h4,fun x hx=>?_,h5⟩
 have all:∀{l:List (List Key×V)} {m:List (List Key×Addr×Value)},KT H l m→∀x∈m,(tupleKind (aV P w)).is h x.1 x.2.1:=by
  intro l m q
  induction q with
  | nil=>intro x hx;exact nomatch hx
  | @cons p q ps qs hq t ih=>
   intro x hx
   rcases List.mem_cons.mp hx with e | hx
   ·subst e
    exact hG ok (by rw [←hq.1];exact hq.2.1)
   ·exact ih x hx
 exact all r x hx
theorem xo {kvs:List (List Key×V)} (ok:HOk P w H h) (e:H a=some (.dT kvs)):kvs.length≤sizeLine∧(a==sysModules)=false∧
  ∃xs,KT H kvs xs∧h.DictOfH (tupleKind (aV P w)) a xs:=kL ok (.inl e)
end
def iP (H:Hp) (a:Addr) (y:V) (r:Option V):Prop:=
 (∃kvs k,Rd H a (.dK kvs)∧y=kV k∧r=dw kvs k)∨∃kvs k b,Rd H a (.dT kvs)∧y=.ref b∧H b=some (.tup (k.map kV))∧r=dw kvs k
def sj (H:Hp) (a:Addr) (y v:V) (H':Hp):Prop:=
 (∃kvs k,H a=some (.dK kvs)∧y=kV k∧kvs.length < sizeLine∧H'=upd H a (.dK (putK kvs k v)))∨
 ∃kvs k b,H a=some (.dT kvs)∧y=.ref b∧H b=some (.tup (k.map kV))∧kvs.length < sizeLine∧H'=upd H a (.dT (putK kvs k v))
theorem iP.k {H:Hp} {a:Addr} {kvs:List (Key×V)} {k:Key} (e:H a=some (.dK kvs)):iP H a (kV k) (dw kvs k):=.inl ⟨kvs,k,.inl e,rfl,rfl⟩
theorem sj.k {H:Hp} {a:Addr} {kvs:List (Key×V)} {k:Key} {v:V} (e:H a=some (.dK kvs)) (hl:kvs.length < sizeLine):sj H a (kV k) v (upd H a (.dK (putK kvs k v))):=.inl ⟨kvs,k,e,rfl,hl,rfl⟩
section
variable {X:Cx} {pins:List (Addr×Obj)} {σ:St} {H:Hp} {s:Shared} {a:Addr} {y v:V} {u r:Value} {o:Option V} {A:Around} {E:Value→Shared→Prop}
theorem Inv.big (I:Inv X pins σ H s):sysModules < s.heap.objs.size:=by
 have h:mainGlobals < s.heap.objs.size:=(I.mod.glob.keeps I.bk).lt
 exact Nat.lt_trans (by decide) h
theorem nX {Q:Value→Shared→Prop} (hu:A.units+1 < cLine) (I:Inv X pins σ H s) (g:iP H a y (some v)) (ry:RelV y u) (h:∀w' s',Inv X pins σ H s'→RelV v w'→Q w' s'):
  wpAny (model X.prog X.w) A (getItem (.ref a) u) Q E s:=by
 rcases g with ⟨kvs,k,e,ey,l⟩ | ⟨kvs,k,b,e,ey,eb,l⟩
 ·subst ey
  obtain ⟨z,hd,vs,rel,dd⟩:=i6 I.hok e
  obtain ⟨w',hw,rw'⟩:=iu.some_of (v:=v) (o:=valueAt vs k) (by rw [l];exact rel.val k)
  exact wpAny_getItem_of (gh ry) dd.mapOf hw (h w' _ (I.tok _) rw')
 ·subst ey
  cases (show u=Value.ref b from ry)
  obtain ⟨z,hd,xs,rel,dd⟩:=kL I.hok e
  obtain ⟨w',hw,rw'⟩:=iu.some_of (v:=v) (o:=(atKey xs k).map (·.2)) (by rw [l];exact rel.val k)
  obtain ⟨p,hp,hp2⟩:=Option.map_eq_some_iff.mp hw
  refine wpAny_getItem_heap (tupleKind_room_in1 hu) (hG I.hok eb) dd hp ?_
  rw [hp2]
  exact h w' _ (I.tok _) rw'
theorem yB {Q:Value→Shared→Prop} (hu:A.units+1 < cLine) (I:Inv X pins σ H s) (g:iP H a y o) (ry:RelV y u) (h:∀s',Inv X pins σ H s'→Q (.bool o.isSome) s'):
  wpAny (model X.prog X.w) A (compareOp .In u (.ref a)) Q E s:=by
 rcases g with ⟨kvs,k,e,ey,l⟩ | ⟨kvs,k,b,e,ey,eb,l⟩
 ·subst ey
  obtain ⟨z,hd,vs,rel,dd⟩:=i6 I.hok e
  refine wpAny_in_of (gh ry) hd dd.mapOf ?_
  rw [←(rel.val k).cU,←l]
  exact h _ (I.tok _)
 ·subst ey
  cases (show u=Value.ref b from ry)
  obtain ⟨z,hd,xs,rel,dd⟩:=kL I.hok e
  refine wpAny_in_heap (tupleKind_room_in1 hu) (hG I.hok eb) hd dd ?_
  have q:=(rel.val k).cU
  rw [Option.isSome_map] at q
  rw [←q,←l]
  exact h _ (I.tok _)
theorem rX {Q:Value→Shared→Prop} (hu:A.units+1 < cLine) (I:Inv X pins σ H s) (g:iP H a y o) (ry:RelV y u) (h:∀s',Inv X pins σ H s'→Q (.bool (!o.isSome)) s'):
  wpAny (model X.prog X.w) A (compareOp .NotIn u (.ref a)) Q E s:=by
 rcases g with ⟨kvs,k,e,ey,l⟩ | ⟨kvs,k,b,e,ey,eb,l⟩
 ·subst ey
  obtain ⟨z,hd,vs,rel,dd⟩:=i6 I.hok e
  refine wpAny_notIn_of (gh ry) hd dd.mapOf ?_
  rw [←(rel.val k).cU,←l]
  exact h _ (I.tok _)
 ·subst ey
  cases (show u=Value.ref b from ry)
  obtain ⟨z,hd,xs,rel,dd⟩:=kL I.hok e
  refine wpAny_notIn_heap (tupleKind_room_in1 hu) (hG I.hok eb) hd dd ?_
  have q:=(rel.val k).cU
  rw [Option.isSome_map] at q
  rw [←q,←l]
  exact h _ (I.tok _)
theorem jN {h':Heap} {t':Nat} {ob:HO} (I:Inv X pins σ H s) (mu:Mut (H a)) (hs:Heap.SameBut a s.heap h') (he:∃q,h'.get? a=some q) (new:bp X.prog X.w (upd H a ob) h' a ob):
  Inv X pins σ (upd H a ob) {s with heap:=h',toks:=t'}:=
 I.write (x:=a) (e:=a) mu (.inl rfl) (fun b q hb z=>(hs.2 b hb).trans z) he new
theorem pR {P:Program} {w:World} {H':Hp} {h':Heap} {kvs:List (Key×V)} {vs:List (Key×Value)} (z:kvs.length≤sizeLine) (hd:(a==sysModules)=false) (rel:KV kvs vs) (dd:h'.DictOf (aV P w) a vs):
  bp P w H' h' a (.dK kvs):=⟨z,hd,vs,rel,dd⟩
theorem nW {H':Hp} {Q:Unit→Shared→Prop} (hu:A.units+1 < cLine) (I:Inv X pins σ H s) (g:sj H a y v H') (ry:RelV y u) (rv:RelV v r) (h:∀s',Inv X pins σ H' s'→Q () s'):
  wpAny (model X.prog X.w) A (setItem (.ref a) u r) Q E s:=by
 rcases g with ⟨kvs,k,e,ey,l,eH⟩ | ⟨kvs,k,b,e,ey,eb,l,eH⟩
 ·subst ey eH
  obtain ⟨z,hd,vs,rel,dd⟩:=mP I.hok e
  have hz:vs.length≤sizeLine:=by rw [←rel.length];exact z
  have hl:(putK kvs k v).length≤sizeLine:=by have:=dU kvs k v;omega
  refine wpAny_setItem_pairs (hsz:=hz) (gh ry) dd fun h' dd' hs=>h _ ?_
  have he:∃q,h'.get? a=some q:=let ⟨q,_,_,hq,_⟩:=dd';⟨q,hq⟩
  exact jN I (by rw [e];exact True.intro) hs he (pR hl hd (rel.put k rv) dd')
 ·subst ey eH
  cases (show u=Value.ref b from ry)
  obtain ⟨z,hd,xs,rel,dd⟩:=xo I.hok e
  have hz:xs.length≤sizeLine:=by rw [←Paired.length rel];exact z
  have hl:(putK kvs k v).length≤sizeLine:=by have:=dU kvs k v;omega
  refine wpAny_setItem_heap (hsz:=hz) (tupleKind_room_in1 hu) (hG I.hok eb) dd fun h' dd' hs=>h _ ?_
  obtain ⟨q,es,ep,hq,h2,h3,h4,_,h5⟩:=dd'
  refine jN I (by rw [e];exact True.intro) hs ⟨q,hq⟩ ⟨hl,hd,_,(rel.put k eb rv).keeps fun c ys ec=>?_,q,es,ep,hq,h2,h3,h4,h5⟩
  rw [aC (wZ ec e (fun z=>nomatch z))]
  exact ec
end
section
variable {X:Cx} {pins:List (Addr×Obj)} {σ:St} {H:Hp} {s:Shared} {a:Addr} {kvs:List (Key×V)} {k:Key} {u:Value} {A:Around} {E:Value→Shared→Prop}
theorem xp {Q:Value→Shared→Prop} (I:Inv X pins σ H s) (e:Rd H a (.dK kvs)) (h:∀t s',Inv X pins σ H s'→Q (.int kvs.length t) s'):wpAny (model X.prog X.w) A (call (.builtin "len") [.ref a]) Q E s:=by
 obtain ⟨z,hd,vs,rel,dd⟩:=i6 I.hok e
 refine call_len_dict hd dd (by rw [←rel.length];rw [sizeLine_eq] at z;omega) ?_
 rw [←rel.length]
 exact h _ _ (I.tok _)
end
def sh (i:Expr):Prop:=∀ov iv,subscripted i false ov iv=operate [ov,iv] (getItem ov iv)
theorem qi {prog:Program} {w:World} {A:Around} {E:Value→Shared→Prop} {s:Shared} {env:Env} {value slice:Expr} {pos:Pos} {T id:String} {Q:Value→Shared→Prop}
  (hl:typeLookup (.type T) "__getitem__"=pure (some (.builtin id))) (hs:sh slice)
  (h:wpAny (model prog w) A (eval value env) (fun o s₁=>wpAny (model prog w) A (eval slice env) (fun i s₂=>s₂.TypeIs o T∧wpAny (model prog w) A (getItem o i) Q E s₂) E s₁) E s):
  wpAny (model prog w) A (eval (.Subscript value slice pos) env) Q E s:=by
 refine Subscript_ (wpAny_mono h (fun o s₁ h₁=>wpAny_mono h₁ (fun i s₂ h₂=>?_) fun _ _ x=>x) fun _ _ x=>x)
 obtain ⟨hT,h₂⟩:=h₂
 unfold subscriptTail
 refine wpAny_bind ?_
 rw [getitemInPython_of_ne hT.not_modules]
 refine wpAny_bind (wpAny_specialOf hT hl ?_)
 have fin:wpAny (model prog w) A (subscripted slice false o i) (fun r s₃=>wpAny (model prog w) A (letTemporaryGo value o r >>=fun _=>pure r) Q E s₃) E s₂:=by
  rw [hs o i]
  exact wpAny_operating (wpAny_mono h₂ (fun r s₃ h₃=>wpAny_bind (wpAny_letTemporaryGo (wpAny_pure h₃))) fun _ _ x=>x)
 first
  | exact wpAny_pure (wpAny_bind fin)
  | exact wpAny_bind (wpAny_pure (wpAny_bind fin))
  | exact wpAny_bind fin
theorem kN {X:Cx} {pins:List (Addr×Obj)} {σ:St} {H:Hp} {s:Shared} {a:Addr} {y:V} {o:Option V} (I:Inv X pins σ H s) (g:iP H a y o):s.TypeIs (.ref a) "dict":=by
 rcases g with ⟨kvs,k,e,_,_⟩ | ⟨kvs,k,b,e,_,_,_⟩
 ·obtain ⟨_,_,vs,_,dd⟩:=i6 I.hok e
  exact dd.typeIs
 ·obtain ⟨_,_,xs,_,dd⟩:=kL I.hok e
  exact dd.typeIs
section
variable {X:Cx} {o i e value:Expr} {pos pos' tpos:Pos} {td ty tv:TE}
end
theorem kM {P:Program} {w:World} {H:Hp} (h:Heap) (hb:sysModules < h.objs.size):bp P w H (h.push {cls:=.type "dict",data:=.dict #[]}) h.objs.size (.dK []):=
 ⟨Nat.zero_le _,beq_eq_false_iff_ne.mpr (Ne.symm (Nat.ne_of_lt hb)),[],.nil,Heap.DictOf.new h⟩
def sJ:TE:=fun _ H Q=>∀p,H p=none→Q (.ref p) (upd H p (.dK []))
section
variable {X:Cx} {pos:Pos}
theorem o2:PE X (.Dict [] [] pos) sJ:=fun pins s σ H Q I h=>
 wpAny_Dict_empty ⟨.ref s.heap.objs.size,_,I.laid (a:=s.heap.objs.size) (o:=.dK []) (t':=s.toks) (fun _ _ q=>Heap.get?_push_of_some _ q) (Nat.le_refl _) (kM s.heap I.big),rfl,h _ (I.hok.fresh (Nat.le_refl _))⟩
end
section
variable {X:Cx} {pins:List (Addr×Obj)} {σ:St} {H:Hp} {s:Shared} {a:Addr} {y d:V} {u r:Value} {o:Option V} {A:Around} {E:Value→Shared→Prop}
end
section
variable {X:Cx} {o e f:Expr} {apos cpos:Pos} {td ty tx:TE}
end
section
variable {X:Cx} {pins:List (Addr×Obj)} {σ:St} {H:Hp} {s:Shared} {a:Addr} {kvs:List (Key×V)} {A:Around} {E:Value→Shared→Prop}
end
section
variable {X:Cx} {pins:List (Addr×Obj)} {σ:St} {H:Hp} {s:Shared} {a:Addr} {y:V} {u:Value} {A:Around} {E:Value→Shared→Prop}
end
end L2
namespace Att
open PySem PySem.W PySem.Calls PyProof.Rows
theorem gw {P:Params} {h:Heap}:∀(ns:List Int) (vs:List Value),WellAll P h vs (ns.map WData.int)→IntsAre vs ns:=by
 intro ns
 induction ns with
 | nil=>
  intro vs w
  rw [List.map_nil] at w
  cases w
  exact .nil
 | cons n ns ih=>
  intro vs w
  rw [List.map_cons] at w
  cases w with
  | cons a b=>
   cases a
   exact .cons _ _ (ih _ b)
theorem nu {l:OpenLaw} {n:Nat} (hn:l.most=some n) {P:Params} {h:Heap} {args:List WData} {vals:List Value}
  (hpre:l.row.toRowW.claim.pre args=true) (hwl:WellAll P h vals args):
  ∃a vs ns,vals=[Value.ref a]∧args=[WData.list (ns.map WData.int)]∧h.get? a=some {cls:=.type "list",data:=.seq vs.toArray}∧IntsAre vs ns∧ns.length≤n:=by
 have hsh:WShape.hasAll [] args [.list .int]=true:=(pre_splitW hpre).1
 have hc:l.pre.holds [] {args:=args}=true:=(pre_splitW hpre).2
 obtain ⟨d,r,rfl,h1,h2⟩:=hasAllW_cons hsh
 obtain rfl:=hasAllW_nil h2
 obtain ⟨xs,rfl,h3⟩:=hasW_list h1
 obtain ⟨ns,rfl⟩:=items_int h3
 have hlen:ns.length≤n:=by
  unfold OpenLaw.pre at hc
  have h4:(WTm.not (.lt (.lit (.int (n:Int))) (.len (.arg 0)))).holds [] {args:=[.list (ns.map .int)]}=true:=by
   have h4:=(holds_andW hc).1
   rw [hn] at h4
   exact h4
  have h5:=condW_of h4 (w_not (w_lt w_lit (w_len_list (w_arg rfl))))
  rw [List.length_map] at h5
  refine Nat.le_of_not_lt fun q=>?_
  have q':(n:Int) < ((ns.length:Nat):Int):=by omega
  first
   | (rw [decide_eq_true q'] at h5;exact absurd h5 (by decide))
   | (simp at h5;omega)
 cases hwl with
 | cons w1 w2=>
  cases w2
  cases w1 with
  | list ho hall=>exact ⟨_,_,ns,rfl,rfl,ho,gw ns _ hall,hlen⟩
theorem nz (l:OpenLaw) (args:List WData):l.row.toRowW.claim.post args (.bool true) args=true:=
 postW_of (r:=l.row.toRowW) (X:=(true==true))
  (show WShape.has [] (.bool true) .bool=true by first | rfl | decide | simp [WShape.has,WShape.arms,WShape.armsAll])
  (show (WTm.eq .res (.lit (.bool true))).value [] {args:=args,res:=some (.bool true),after:=args}=some (.bool (true==true)) from w_eq_bool (w_res rfl) w_lit) rfl
theorem kT {l:OpenLaw} {n:Nat} {q:Program} {loose:List Str} {XP:(Str→Option Value)→Heap→Prop} {YP:World→Heap→Prop} {d:DefRec}
  (hn:l.most=some n) (hdf:d.params.defaults=[])
  (call:∀(w:World) (s₀ s₁:Shared) (mg mb:Str→Option Value) (fa:Addr) (o:Obj) (pm cd doc:Value) (a:Addr) (vs:List Value) (ns:List Int),
   Ground q loose [] XP w s₀ mg mb s₁.heap→YP w s₁.heap→
   s₁.heap.get? fa=some o→o.data=.func (docDef d.name d.params d.body d.scope pm cd doc)→s₁.heap.CodeRec cd d.name→mg d.name=some (.ref fa)→
   s₁.heap.get? a=some {cls:=.type "list",data:=.seq vs.toArray}→IntsAre vs ns→ns.length≤n→s₁.gens=#[]→
   codeAny (model l.prog w) callerA (.call (.ref fa) ⟨[.ref a],[]⟩) (fun r s'=>r=.ok (.ret (.bool true))∧OldK s₁.heap s'.heap∧s'.os=s₁.os∧AllBare s'.gens) s₁):
  WalkO q loose XP YP l.row.toRowW d [] (fun f vs=>PySem.call f vs):=by
 intro w s₀ s₁ mg mb G Y fa o pm cd doc dV kV ho hd hcd hD hmg hg args vals as hpre hlay hrd hwl hlo
 obtain rfl:dV=.none:=Dflts.none hD hdf
 obtain rfl:kV=.none:=Dflts.noKw hD
 obtain ⟨a,vs,ns,rfl,rfl,hobj,hints,hlen⟩:=nu hn hpre hwl
 refine enter_call (codeAny_mono (call w s₀ s₁ mg mb fa o pm cd doc a vs ns G Y ho (fd_plain hd) hcd hmg hobj hints hlen hg) fun r s' hq=>?_)
 obtain ⟨rfl,h2,h3,h4⟩:=hq
 exact ⟨.inl ⟨.bool true,.bool true,[],rfl,fun _=>rfl,.bool true,nz l _,fun _=>⟨List.Pairwise.nil,fun _ hm=>(nomatch hm)⟩⟩,h2,h3,h4⟩
section
variable {prog:Program} {w:World} {A:Around} {E:Value→Shared→Prop} {s:Shared} {K:Frag}
end
end Att
namespace L2
open PySem PySem.Spec PyProof.Rows
theorem fx:∀{vs:List Value} {ns:List Int},IntsAre vs ns→Vals (ns.map V.int) vs
 | _,_,.nil=>.nil
 | _,_,.cons n t h=>.cons ⟨t,rfl⟩ (fx h)
def xt (H:Hp):Prop:=∀b,H b=none∨∃o xs,H b=some (.frz o (.lst xs))
theorem pC {P:Program} {w:World} {K:PySem.W.Frag} {mg mb:Str→Option Value} {CX:CXT} {k:Nat} {fa a:Addr} {fd:FuncData} {x:Str} {sp:Sp} {s₁:Shared} {vs:List Value} {ns:List Int}
  (KX:K.In s₁.heap) (hns:s₁.heap.Ns mainGlobals mg) (hb:s₁.heap.Ns builtinsNs mb) (hbb:∀x:Str,x≠"__name__"→mb x=bootBuiltins x) (hlim:s₁.heap.NoLimit) (hg:s₁.gens=#[])
  (ha:s₁.heap.get? a=some {cls:=.type "list",data:=.seq vs.toArray}) (hi:IntsAre vs ns) (hl:ns.length≤sizeLine) (hr:Room k callerA)
  (F:∀base:Heap,K.In base→base.Ns mainGlobals mg→FnOk P w K mg base CX k fa fd [x] sp) (hbind:∀(s:Shared) (u:Value),BindsTo s fd ⟨[u],[]⟩ [(x,u)])
  (hsp:∀H:Hp,xt H→SqL K H a (ns.map V.int)→sp [.ref a] H (fun v _=>v=.bl true) fun _ _ _=>False)
  (hCX:∀H e s',CX [] H s₁ (fun _ _ _=>False) e s'→False):
  codeAny (model P w) callerA (.call (.ref fa) ⟨[.ref a],[]⟩) (fun r s'=>r=.ok (.ret (.bool true))∧OldK s₁.heap s'.heap∧s'.os=s₁.os∧AllBare s'.gens) s₁:=by
 have rv:=fx hi
 have lenV:=hi.length
 have core:∀H:Hp,xt H→SqL K H a (ns.map V.int)→HOk P w H s₁.heap→(∀b,H b≠none→b=a)→(H a≠none→K.lookup a=none)→
   codeAny (model P w) callerA (.call (.ref fa) ⟨[.ref a],[]⟩) (fun r s'=>r=.ok (.ret (.bool true))∧OldK s₁.heap s'.heap∧s'.os=s₁.os∧AllBare s'.gens) s₁:=by
  intro H hO hS hok hA hK
  have base_of:∀{b:Addr} {o:Obj},s₁.heap.get? b=some o→H b=none→(jJ s₁.heap H).get? b=some o:=fun e n=>pH e n
  have noA:∀{b:Addr} {o:Obj} {es:Array DictEntry} {ep:Nat},s₁.heap.get? b=some o→o.data=.dict es ep→H b=none:=fun {b o es ep} e d=>by
   cases q:H b with
   | none=>rfl
   | some u=>
    have e':b=a:=hA b (by rw [q];simp)
    subst e'
    rw [ha] at e;cases e
    have d':Data.seq vs.toArray _=Data.dict es ep:=d
    cases d'
  have nsK:∀{b:Addr} {m:Str→Option Value},s₁.heap.Ns b m→(jJ s₁.heap H).Ns b m:=fun {b m} ⟨o,es,ep,e,d,r⟩=>⟨o,es,ep,base_of e (noA e d),d,r⟩
  have hKb:K.In (jJ s₁.heap H):=fun b o e=>base_of (KX b o e) (by
   cases q:H b with
   | none=>rfl
   | some u=>
    have e':b=a:=hA b (by rw [q];simp)
    subst e'
    rw [hK (by rw [q];simp)] at e;cases e)
  have hM:Mod K mg (jJ s₁.heap H):=⟨hKb,nsK hns,⟨mb,nsK hb,hbb⟩,let ⟨mc,h1,h2⟩:=hlim;⟨mc,nsK h1,h2⟩⟩
  have e0:Env0 P w K mg (jJ s₁.heap H) callerA [] s₁ H:=⟨rfl,hM,fun b o e=>rq e,Nat.le_of_eq (nP _ _),trivial,fun b hb=>absurd (show b∈([]:List Addr) from hb) (by simp),hok,.of_eq hg⟩
  refine codeAny_mono ((F _ hKb (nsK hns)).run callerA [] s₁ H ⟨[.ref a],[]⟩ [.ref a] [.ref a] _ _ hr e0 (hbind s₁ (.ref a)) (.cons rfl .nil) (hsp H hO hS)) fun r s' h=>?_
  cases r with
  | error e=>exact (hCX H e s' h).elim
  | ok fl=>
   cases fl with
   | next=>exact False.elim h
   | brk=>exact False.elim h
   | cont=>exact False.elim h
   | ret u=>
    obtain ⟨v,H',os,bare,un,hok',r',q⟩:=h
    have q':v=.bl true:=q
    subst q'
    obtain rfl:u=Value.bool true:=r'
    refine ⟨rfl,OldK.of_keep fun b o e=>?_,os,bare⟩
    cases q:H b with
    | none=>exact un.keep b o e q (by intro z;exact absurd (show b∈([]:List Addr) from z) (by simp)) (by simp)
    | some u=>
     rcases hO b with z | ⟨ob,xs,z⟩
     ·rw [q] at z;cases z
     ·have z2:=un.frzs b ob _ z
      obtain ⟨e1,_⟩:=hok b _ z
      obtain ⟨e2,_⟩:=hok' b _ z2
      rw [e] at e1;cases e1
      exact e2
 cases hk:K.lookup a with
 | some o=>
  have e:=KX a o hk
  rw [ha] at e
  cases e
  refine core (fun _=>none) (fun _=>.inl rfl) (.inr ⟨_,vs.toArray,_,hk,rfl,rfl,rfl,by rw [List.size_toArray,lenV];exact hl,by simpa using rv⟩) (fun b u z=>by have z':(none:Option HO)=some u:=z;cases z') (fun b z=>absurd rfl z) fun z=>absurd rfl z
 | none=>
  refine core (fun b=>if b=a then some (.frz {cls:=.type "list",data:=.seq vs.toArray} (.lst (ns.map V.int))) else none) (fun b=>?_) (.inl (.inr ⟨{cls:=.type "list",data:=.seq vs.toArray},if_pos rfl⟩)) (fun b u z=>?_) (fun b z=>?_) fun _=>hk
  ·by_cases hb:b=a
   ·exact .inr ⟨_,_,if_pos hb⟩
   ·exact .inl (if_neg hb)
  ·by_cases hb:b=a
   ·have z':=(if_pos hb).symm.trans z
    cases z'
    subst hb
    exact ⟨ha,by rw [List.length_map];exact hl,vs,_,rv,ha⟩
   ·have z':=(if_neg hb).symm.trans z
    cases z'
  ·by_cases hb:b=a
   ·exact hb
   ·exact absurd (if_neg hb) z
end L2
namespace L2
open PySem PySem.Spec PyProof.Rows
end L2
namespace L2
open PySem PySem.Spec PyProof.Rows
def fk (s:Stmt):Arguments:=match s with
 | .FunctionDef _ a _ _ _ _ _ _ _ _=>a
 | _=>{posonlyargs:=[],args:=[],vararg:=none,kwonlyargs:=[],kw_defaults:=[],kwarg:=none,defaults:=[]}
def dj (s:Stmt):List Stmt:=match s with
 | .FunctionDef _ _ b _ _ _ _ _ _ _=>b
 | _=>[]
def az (s:Stmt):Scope:=match s with
 | .FunctionDef _ _ _ _ _ _ sc _ _ _=>sc
 | _=>{kind:=.function,names:=[],isGenerator:=false,isCoroutine:=false}
abbrev CX0:CXT:=fun _ _ _ _ _ _=>False
abbrev E0:XK:=fun _ _ _=>False
theorem wR {X:Cx}:Passes CX0 X E0:=fun _ _ _ _ _ _ _ h=>h.elim
structure Fun (K:PySem.W.Frag) (x qual:Str) (st:Stmt) (f:Addr) (fd:FuncData):Prop where
 ex:∃(oc:Value) (od:Option Addr) (kV doc pm:Value) (an:Option Addr) (cdv ct:Value) (osl:Array (Option Value)),
  fd=PySem.W.fnOf x qual (fk st) (dj st) (az st) .none kV doc pm an cdv ct∧K.lookup f=some ⟨oc,od,.func fd,osl⟩∧PySem.W.codeIn K cdv qual=true
 kp:PySem.W.keepIn K (.ref f)=true
section
variable {P:Program} {w:World} {K:PySem.W.Frag} {mg:Str→Option Value} {base:Heap}
theorem Fun.ok {x qual:Str} {st:Stmt} {f:Addr} {fd:FuncData} {N ps:List Str} {k:Nat} {sp:Sp} (F:Fun K x qual st f fd) (S:FnScope N ps (az st)) (len:∀vs H Q E,sp vs H Q E→vs.length=ps.length)
  (hbody:∀(cdv:Value) (A:Around) (outer:List Env) (s:Shared) (H:Hp) (vs:List V) (Q:VK) (E:XK),Room k (A.deeper (envOfC qual (az st) s.heap.objs.size f cdv))→sp vs H Q E→
   ∃t,PSs (l4 CX0 P w K mg base N qual (az st) f cdv A outer s H E).nox (dj st) t∧t {nx:=fun _ H'=>Q .non H',rt:=Q} (start N vs) H):FnOk P w K mg base CX0 (k+1) f fd ps sp:=by
 obtain ⟨oc,od,kV,doc,pm,an,cdv,ct,osl,rfl,lk,hcd⟩:=F.ex
 refine xf lk hcd S len fun A outer s H vs Q E hr hsp=>?_
 obtain ⟨t,h,q⟩:=hbody cdv A outer s H vs Q E hr hsp
 exact ⟨t,h.nox,q⟩
theorem Fun.binds {x qual:Str} {st:Stmt} {f:Addr} {fd:FuncData} {ps:List Str} (F:Fun K x qual st f fd)
  (h:∀(kV doc pm:Value) (an:Option Addr) (cdv ct:Value) (us:List Value),us.length=ps.length→bindArgs (PySem.W.fnOf x qual (fk st) (dj st) (az st) .none kV doc pm an cdv ct) ⟨us,[]⟩=pure (ps.zip us)):Binds K fd ps []:=by
 obtain ⟨oc,od,kV,doc,pm,an,cdv,ct,osl,rfl,lk,hcd⟩:=F.ex
 exact .all (h kV doc pm an cdv ct)
end
section
variable {X:Cx}
theorem n5:cE X (.builtin "len") (fun xs H Q=>∃a kvs,xs=[V.ref a]∧H a=some (.dK kvs)∧Q (.int kvs.length) H):=by
 intro pins s σ H xs us Q I r h
 obtain ⟨a,kvs,rfl,ha,q⟩:=h
 obtain ⟨u,rfl,ru⟩:=vals1 r
 cases ru
 exact xp I (.inl ha) fun t s' I'=>⟨.int kvs.length,H,I',⟨t,rfl⟩,q⟩
end
theorem vq {A B:Prop} (h:B):if false=true then A else B:=by
 rw [if_neg Bool.false_ne_true]
 exact h
theorem vp {A B:Prop} (h:A):if true=true then A else B:=by
 rw [if_pos rfl]
 exact h
section
variable {κ:Type} [DecidableEq κ]
end
end L2
namespace L2
open PySem PySem.Spec PyProof.Rows
theorem HOk.off {P:Program} {w:World} {H:Hp} {h h':Heap} {C:Addr} (ok:HOk P w H h) (hC:H C=none) (k:∀b u,b≠C→h.get? b=some u→h'.get? b=some u):HOk P w H h':=by
 intro a o e
 have ne:a≠C:=by rintro rfl;rw [hC] at e;cases e
 refine (ok a o e).j4 (fun b u hb q=>k b u ?_ q) (fun _ x=>x) (fun _ _ x=>x)
 rcases hb with rfl | hb
 ·exact ne
 ·rintro rfl;rw [hC] at hb;cases hb
def cQ (env:Env):List (Str×NameKind)→List (Str×Addr)→List (Str×Addr)
 | [],acc=>acc
 | (n,k)::r,acc=>if (k==NameKind.free)=true then cQ env r ((n,(env.cells.lookup n).getD 0)::acc) else cQ env r acc
theorem eS {env:Env} {scope:Scope} (h:∀y∈scope.names,y.2=.free→∃c,env.cells.lookup y.1=some c):closureFor scope env=pure (cQ env scope.names []):=by
 have key:∀(names:List (Str×NameKind)) (acc:List (Str×Addr)),(∀y∈names,y.2=.free→∃c,env.cells.lookup y.1=some c)→
   (forIn names acc (fun (x:Str×NameKind) (r:List (Str×Addr))=>match x with
    | (name,kind)=>if (kind==NameKind.free)=true then do let a←cellOf env name;pure (ForInStep.yield ((name,a)::r)) else pure (ForInStep.yield r)):Sem (List (Str×Addr)))=pure (cQ env names acc):=by
  intro names
  induction names with
  | nil=>intro acc _;rfl
  | cons y r ih=>
   intro acc hy
   obtain ⟨n,k⟩:=y
   have hr:=fun a=>ih a fun z hz=>hy z (List.mem_cons_of_mem _ hz)
   rw [List.forIn_cons]
   unfold cQ
   by_cases hk:(k==NameKind.free)=true
   ·have hk':k=.free:=by simpa using hk
    obtain ⟨c,hc⟩:=hy (n,k) List.mem_cons_self hk'
    have e:cellOf env n=pure c:=by unfold cellOf;rw [hc]
    simp only [hk,if_true,e,hc,Option.getD_some]
    exact hr _
   ·simp only [hk,if_false]
    exact hr _
 have k:=key scope.names [] h
 unfold closureFor
 dsimp only
 rw [k]
 rfl
theorem fV {env:Env} {x:Str} {c:Addr}:∀(names:List (Str×NameKind)) (acc:List (Str×Addr)),(∀y∈names,y.2=.free→∃c,env.cells.lookup y.1=some c)→
  (∀d,acc.lookup x=some d→env.cells.lookup x=some d)→(cQ env names acc).lookup x=some c→env.cells.lookup x=some c
 | [],acc,_,ha,h=>ha c h
 | (n,k)::r,acc,hy,ha,h=>by
  unfold cQ at h
  have hr:=fun z hz=>hy z (List.mem_cons_of_mem _ hz)
  by_cases hk:(k==NameKind.free)=true
  ·rw [if_pos hk] at h
   refine fV r _ hr (fun d hd=>?_) h
   have hk':k=.free:=by simpa using hk
   obtain ⟨c',hc⟩:=hy (n,k) List.mem_cons_self hk'
   rw [List.lookup_cons] at hd
   cases hx:x==n with
   | true=>
    rw [hx] at hd
    have e:x=n:=by simpa using hx
    rw [e,hc]
    rw [hc] at hd
    exact hd
   | false=>
    rw [hx] at hd
    exact ha d hd
  ·rw [if_neg hk] at h
   exact fV r _ hr ha h
theorem ik {env:Env} {x:Str}:∀(names:List (Str×NameKind)) (acc:List (Str×Addr)),(∃c,acc.lookup x=some c)→∃c,(cQ env names acc).lookup x=some c
 | [],_,h=>h
 | (n,k)::r,acc,h=>by
  unfold cQ
  by_cases hk:(k==NameKind.free)=true
  ·rw [if_pos hk]
   refine ik r _ ?_
   rw [List.lookup_cons]
   cases hx:x==n with
   | true=>exact ⟨_,rfl⟩
   | false=>exact h
  ·rw [if_neg hk]
   exact ik r _ h
theorem fo {env:Env} {x:Str}:∀(names:List (Str×NameKind)) (acc:List (Str×Addr)),(x,NameKind.free)∈names→∃c,(cQ env names acc).lookup x=some c
 | [],_,h=>by cases h
 | (n,k)::r,acc,h=>by
  unfold cQ
  rcases List.mem_cons.mp h with e | h'
  ·injection e with e1 e2
   subst e1 e2
   rw [if_pos (by rfl)]
   refine ik r _ ⟨(env.cells.lookup x).getD 0,?_⟩
   rw [List.lookup_cons,beq_self_eq_true]
  ·by_cases hk:(k==NameKind.free)=true
   ·rw [if_pos hk];exact fo r _ h'
   ·rw [if_neg hk];exact fo r _ h'
theorem df {env:Env}:∀{names:List (Str×NameKind)} {x:Str} {j:NameKind},
  (names.map fun (n,k)=>if (k==NameKind.free&&env.scope.kind==.function&&env.kindOf n==some .cell) then (n,NameKind.cell) else (n,k)).lookup x=some j→
  ∃k,names.lookup x=some k∧(j=k∨(k=.free∧j=.cell))
 | [],_,_,h=>by simp at h
 | (n,k)::r,x,j,h=>by
  have h':List.lookup x ((if (k==NameKind.free&&env.scope.kind==.function&&env.kindOf n==some .cell)=true then (n,NameKind.cell) else (n,k))::_)=some j:=h
  rw [List.lookup_cons]
  cases hx:x==n with
  | true=>
   refine ⟨k,rfl,?_⟩
   by_cases hc:(k==NameKind.free&&env.scope.kind==.function&&env.kindOf n==some .cell)=true
   ·rw [if_pos hc,List.lookup_cons,hx] at h'
    simp only [Bool.and_eq_true,beq_iff_eq] at hc
    exact .inr ⟨hc.1.1,(Option.some.inj h').symm⟩
   ·rw [if_neg hc,List.lookup_cons,hx] at h'
    exact .inl (Option.some.inj h').symm
  | false=>
   by_cases hc:(k==NameKind.free&&env.scope.kind==.function&&env.kindOf n==some .cell)=true
   ·rw [if_pos hc,List.lookup_cons,hx] at h'
    exact df h'
   ·rw [if_neg hc,List.lookup_cons,hx] at h'
    exact df h'
theorem dg {env:Env}:∀{names:List (Str×NameKind)} {x:Str},names.lookup x=some .free→
  (names.map fun (n,k)=>if (k==NameKind.free&&env.scope.kind==.function&&env.kindOf n==some .cell) then (n,NameKind.cell) else (n,k)).lookup x=some .cell∨
  (names.map fun (n,k)=>if (k==NameKind.free&&env.scope.kind==.function&&env.kindOf n==some .cell) then (n,NameKind.cell) else (n,k)).lookup x=some .free
 | [],_,h=>by simp at h
 | (n,k)::r,x,h=>by
  rw [List.map_cons]
  show List.lookup x ((if (k==NameKind.free&&env.scope.kind==.function&&env.kindOf n==some .cell)=true then (n,NameKind.cell) else (n,k))::_)=_∨List.lookup x ((if (k==NameKind.free&&env.scope.kind==.function&&env.kindOf n==some .cell)=true then (n,NameKind.cell) else (n,k))::_)=_
  rw [List.lookup_cons] at h
  cases hx:x==n with
  | true=>
   rw [hx] at h
   have hk:k=.free:=Option.some.inj h
   by_cases hc:(k==NameKind.free&&env.scope.kind==.function&&env.kindOf n==some .cell)=true
   ·rw [if_pos hc,List.lookup_cons,hx];exact .inl rfl
   ·rw [if_neg hc,List.lookup_cons,hx,hk];exact .inr rfl
  | false=>
   rw [hx] at h
   by_cases hc:(k==NameKind.free&&env.scope.kind==.function&&env.kindOf n==some .cell)=true
   ·rw [if_pos hc,List.lookup_cons,hx];exact dg h
   ·rw [if_neg hc,List.lookup_cons,hx];exact dg h
abbrev blk (X:Cx) (N':List Str) (scope:Scope) (C:Addr) (s₃:Shared) (H₃:Hp) (fp:List Addr) (pl:List (Addr×Obj)):Cx:=
 {X with N:=N',s₀:=s₃,H₀:=H₃,env:=compEnvC scope (cQ X.env scope.names []) C X.env,outer:=X.stack,ex:=fp,fn:=fun _=>false,calm:=true,pn:=X.pn++pl,xe:=fun _ _=>False}
structure CompScope (X:Cx) (N':List Str) (caps:List (Option Nat)) (scope:Scope):Prop where
 kind:scope.kind=.function
 nocell:∀y∈scope.names,y.2≠.cell
 names:∀y∈scope.names,y.2=.local→scope.names.lookup y.1=some .local
 caught:∀y∈scope.names,y.2=.free→X.env.kindOf y.1=some .cell∨X.env.kindOf y.1=some .free
 len:caps.length=N'.length
 cap:∀(j i:Nat) (x:Str),caps[j]?=some (some i)→N'[j]?=some x→X.N[i]?=some x∧scope.names.lookup x=some .free
 nd:N'.Nodup
def fW (caps:List (Option Nat)) (σ:St):St:=caps.map fun o=>o.bind fun i=>(σ[i]?).join
section
variable {X:Cx} {N':List Str} {caps:List (Option Nat)} {scope:Scope} {pins:List (Addr×Obj)} {σ:St} {H:Hp} {s₃:Shared} {fp:List Addr}
theorem CompScope.has (S:CompScope X N' caps scope) (ok:X.Ok):∀y∈scope.names,y.2=.free→∃c,X.env.cells.lookup y.1=some c:=fun y hy e=>ok.has y.1 (S.caught y hy e)
theorem CompScope.look (S:CompScope X N' caps scope) (ok:X.Ok) {x:Str} {c:Addr} (h:(cQ X.env scope.names []).lookup x=some c):X.env.cells.lookup x=some c:=
 fV scope.names [] (S.has ok) (fun _ z=>by simp at z) h
theorem Inv.block (S:CompScope X N' caps scope) (I:Inv X pins σ H s₃) (hc:X.calm=true) (hf:∀b∈fp,cD X pins H b) (hlt:∀b∈fp,b < s₃.heap.objs.size) {h₄:Heap} {t₄:Nat} {m₄:Str→Option Value}
  (hn:h₄.Ns s₃.heap.objs.size m₄) (hk:∀b o,s₃.heap.get? b=some o→h₄.get? b=some o):
  Inv (blk X N' scope s₃.heap.objs.size s₃ H fp pins) [] (fW caps σ) H {s₃ with heap:=h₄,toks:=t₄}:=by
 have ok:=I.ok
 have fresh:∀b o,s₃.heap.get? b=some o→b≠s₃.heap.objs.size:=fun b o e=>Nat.ne_of_lt (Heap.lt_size e)
 have cellOk:∀x c,(cQ X.env scope.names []).lookup x=some c→∃v,s₃.heap.IsCell c v:=fun x c e=>I.cell x c (S.look ok e)
 refine ⟨⟨ok.mod,?_,ok.glob,ok.blt,Nat.le_refl _,?_,?_,?_,fun _=>ok.hd hc,ok.frames,.inl rfl,?_,I.bs,?_,?_,?_,I.stack,I.mj⟩,rfl,I.bare,Un.kept hk,?_,?_,I.hok.fresh (Nat.le_refl _),?_,?_,I.hok.kept hk,?_⟩
 ·show (relabel scope X.env).kind=.function
  exact S.kind
 ·intro x y c h1 h2
  exact ok.inj x y c (S.look ok h1) (S.look ok h2)
 ·intro x hx
  have hx':(relabel scope X.env).names.lookup x=some .cell∨(relabel scope X.env).names.lookup x=some .free:=hx
  have key:∀j,(relabel scope X.env).names.lookup x=some j→j=.cell∨j=.free→∃c,(cQ X.env scope.names []).lookup x=some c:=by
   intro j hj hjk
   obtain ⟨k,hk1,hk2⟩:=df hj
   have hm:=PySem.mem_of_lookup hk1
   have hkf:k=.free:=by
    rcases hk2 with rfl | ⟨e,_⟩
    ·rcases hjk with rfl | e
     ·exact absurd rfl (S.nocell _ hm)
     ·exact e
    ·exact e
   subst hkf
   exact fo scope.names [] hm
  rcases hx' with h | h
  ·exact key _ h (.inl rfl)
  ·exact key _ h (.inr rfl)
 ·intro x c h _
  exact absurd (show false=true from h) (by decide)
 ·intro b hb
  refine ⟨Nat.ne_of_lt (hlt b hb),fun x c h=>(hf b hb).2.2.2.2.1 x c (S.look ok h)⟩
 ·exact Nat.le_trans ok.bsz I.sz
 ·intro b o e hb
  rcases (hf b hb).2.2.2.1 with z | z
  ·exact ok.noex b o e z
  ·exact absurd (Nat.lt_of_lt_of_le (Heap.lt_size e) ok.bsz) (Nat.not_lt.mpr z)
 ·intro b hb z
  rcases List.mem_cons.mp (I.fB b z) with e | e
  ·exact (hf b hb).2.1 e
  ·exact (hf b hb).2.2.1 e
 ·refine ⟨m₄,hn,fun j x v e1 e2 e3=>?_⟩
  have e2':(caps.map fun o=>o.bind fun i=>(σ[i]?).join)[j]?=some (some v):=e2
  rw [List.getElem?_map] at e2'
  cases hcj:caps[j]? with
  | none=>rw [hcj] at e2';cases e2'
  | some oi=>
   rw [hcj] at e2'
   have e2'':(oi.bind fun i=>(σ[i]?).join)=some v:=Option.some.inj e2'
   cases oi with
   | none=>cases e2''
   | some i=>
    have hσ:(σ[i]?).join=some v:=e2''
    have hσ':σ[i]?=some (some v):=by
     cases hs:σ[i]? with
     | none=>rw [hs] at hσ;cases hσ
     | some w=>rw [hs] at hσ;rw [show w=some v from hσ]
    obtain ⟨hX,hfr⟩:=S.cap j i x hcj e1
    obtain ⟨m,_,hl⟩:=I.loc
    have hcgt:=S.caught _ (PySem.mem_of_lookup hfr) rfl
    have hvis:Vis X.env.scope x:=by
     rcases hcgt with z | z
     ·exact .inr (.inl z)
     ·exact .inr (.inr z)
    obtain ⟨u,ru,lk⟩:=hl i x v hX hσ' hvis
    refine ⟨u,ru,.inr ⟨?_,?_⟩⟩
    ·exact dg hfr
    ·obtain ⟨c,hcc⟩:=fo (env:=X.env) scope.names [] (PySem.mem_of_lookup hfr)
     refine ⟨c,hcc,?_⟩
     rcases lk with ⟨z,_⟩ | ⟨_,c',hc',hcell⟩
     ·have z':X.env.kindOf x=some .local:=z
      rcases hcgt with q | q
      ·rw [z'] at q;cases q
      ·rw [z'] at q;cases q
     ·have:=S.look I.ok hcc
      rw [this] at hc'
      cases hc'
      obtain ⟨o,ho,hd⟩:=hcell
      exact ⟨o,hk _ _ ho,hd⟩
 ·intro x c h
  obtain ⟨v,o,ho,hd⟩:=cellOk x c h
  exact ⟨v,o,hk _ _ ho,hd⟩
 ·intro x c h
  exact I.freeC x c (S.look ok h)
 ·intro p hp
  have hp':p∈X.pn++pins:=by
   rcases List.mem_append.mp hp with z | z
   ·exact z
   ·cases z
  obtain ⟨e,n,ne,nf,d⟩:=I.pin p hp'
  refine ⟨hk _ _ e,n,fresh _ _ e,fun z=>?_,d⟩
  rcases List.mem_cons.mp (I.fB p.1 z) with q | q
  ·exact ne q
  ·exact nf q
 ·show (caps.map _).length=N'.length
  rw [List.length_map]
  exact S.len
theorem Inv.gA (S:CompScope X N' caps scope) (I:Inv X pins σ H s₃) (hf:∀b∈fp,cD X pins H b) {τ:St} {H':Hp} {s':Shared} (J:Inv (blk X N' scope s₃.heap.objs.size s₃ H fp pins) [] τ H' s') {h'':Heap}
  (hs:∀b u,b≠s₃.heap.objs.size→s'.heap.get? b=some u→h''.get? b=some u):Inv X pins σ H' {s' with heap:=h''}:=by
 have hC:H' s₃.heap.objs.size=none:=J.free
 have u:Un (frs X.stack) fp H H' s₃.heap h'':=by
  have b:=J.base
  have ne:∀x o,s₃.heap.get? x=some o→x≠s₃.heap.objs.size:=fun x o e=>Nat.ne_of_lt (Heap.lt_size e)
  refine ⟨fun x o e n hx hb=>hs _ _ (ne x o e) (b.keep x o e n hx hb),fun x o e n hx hb=>?_,b.free,fun x o e hb=>?_,b.tups,b.frzs,b.tbls⟩
  ·obtain ⟨sl,q⟩:=b.slot x o e n hx hb
   exact ⟨sl,hs _ _ (ne x o e) q⟩
  ·obtain ⟨o',q⟩:=b.there x o e hb
   exact ⟨o',hs _ _ (ne x o e) q⟩
 exact I.call' (s':={s' with heap:=h''}) (ch:=fp) J.os u (J.hok.off hC hs) J.bare fun b hb=>⟨(hf b hb).2.2.2.1,(hf b hb).2.1,(hf b hb).2.2.2.2.1,(hf b hb).2.2.2.2.2⟩
end
end L2
namespace L2
open PySem PySem.Spec PyProof.Rows
def PIf (X:Cx) (ifs:List Expr) (t:TT):Prop:=
 ∀(pins:List (Addr×Obj)) (s:Shared) (σ:St) (H:Hp) (Q:Bool→Hp→Prop),Inv X pins σ H s→t σ H Q→
  wpAny (model X.prog X.w) X.A (forIn ifs true fun c r=>if r=true then do let ok←isTrue c X.env (eval c X.env);pure (ForInStep.yield ok) else pure (ForInStep.yield r)) (TP X pins σ Q) X.xe s
def c7:TT:=fun _ H Q=>Q true H
theorem qN {X:Cx}:PIf X [] c7:=fun pins s σ H Q I h=>wpAny_tests_nil ⟨H,I,h⟩
def xu (J:It) (g:TG) (tc:TT) (te:TE) (l:Addr) (Q:VK) (τ0:St) (H0:Hp):Prop:=
 ∃W:Nat→Nat→St→Hp→Prop,(∃m,W 0 m τ0 H0)∧∀i m τ H2,W i m τ H2→
  (J.stop i H2∧Q (.ref l) H2)∨(J.go i H2∧∃N:St→Hp→Prop,(∀τ' H',N τ' H'→∃m',m' < m∧W (i+1) m' τ' H')∧∀x H',J.yld i H2 x H'→g x τ H' fun τ2 H3=>
   tc τ2 H3 fun b H4=>if b=true then te τ2 H4 fun y H5=>∃xs,H5 l=some (.lst xs)∧xs.length < sizeLine∧N τ2 (upd H5 l (.lst (xs++[y]))) else N τ2 H4)
def ow (caps:List (Option Nat)) (wi:TI) (g:TG) (tc:TT) (te:TE):TE:=fun σ H Q=>wi σ H fun J H1=>∀l,H1 l=none→xu J g tc te l Q (fW caps σ) (upd H1 l (.lst []))
section
variable {X:Cx} {N':List Str} {caps:List (Option Nat)} {scope:Scope} {tg iter elt:Expr} {ifs:List Expr} {pos:Pos} {wi:TI} {g:TG} {tc:TT} {te:TE}
theorem upE {M:Model} {A:Around} {α:Type} {t:Sem α} {Q:α→Shared→Prop} {E:Value→Shared→Prop} {s:Shared} (h:wpAny M A t Q (fun _ _=>False) s):wpAny M A t Q E s:=wpAny_mono h (fun _ _ q=>q) fun _ _ f=>f.elim
theorem nZ (S:CompScope X N' caps scope) (hc:X.calm=true) (hg:∀C s₃ H₃ fp pl,PG (blk X N' scope C s₃ H₃ fp pl) tg g) (hif:∀C s₃ H₃ fp pl,PIf (blk X N' scope C s₃ H₃ fp pl) ifs tc)
  (he:∀C s₃ H₃ fp pl,PE (blk X N' scope C s₃ H₃ fp pl) elt te) {pins:List (Addr×Obj)} {σ:St} {H3:Hp} {s3:Shared} {h₁:Heap} {t₁:Nat} {m₁:Str→Option Value} {it l:Addr} {fp:List Addr} {tn:Nat→Heap→Prop} {J:It}
  (I3:Inv X pins σ H3 s3) (T:Turn X.prog X.w X.K tg J fp it tn) (st3:tn 0 h₁) (hf3:∀b∈fp,cD X pins H3 b) (hlt3:∀b∈fp,b < s3.heap.objs.size) (hns₁:h₁.Ns s3.heap.objs.size m₁) (keep3:∀b o,s3.heap.get? b=some o→h₁.get? b=some o)
  {Q:VK} {RR:Value→Addr→Result→Shared→Prop} {W:Nat→Nat→St→Hp→Prop} {m0:Nat} (w0:W 0 m0 (fW caps σ) H3) (turn:∀i m τ H2,W i m τ H2→
   (J.stop i H2∧Q (.ref l) H2)∨(J.go i H2∧∃N:St→Hp→Prop,(∀τ' H',N τ' H'→∃m',m' < m∧W (i+1) m' τ' H')∧∀x H',J.yld i H2 x H'→g x τ H' fun τ2 H3=>
    tc τ2 H3 fun b H4=>if b=true then te τ2 H4 fun y H5=>∃xs,H5 l=some (.lst xs)∧xs.length < sizeLine∧N τ2 (upd H5 l (.lst (xs++[y]))) else N τ2 H4))
  (hRR:∀(l C:Addr) (H':Hp) (s':Shared),H' C=none→C≠X.env.locals→X.s₀.heap.objs.size≤C→(∀x c,X.env.cells.lookup x=some c→c≠C)→(∀p∈X.pn++pins,p.1≠C)→(∃m,s'.heap.Ns C m)→Inv X pins σ H' s'→
   (∀h'':Heap,(∀b u,b≠C→s'.heap.get? b=some u→h''.get? b=some u)→Inv X pins σ H' {s' with heap:=h''})→Q (.ref l) H'→RR (.ref l) C (.ok .next) s'):
  codeAny (model X.prog X.w) X.A (.compStart (.ListComp elt [⟨tg,iter,ifs,0⟩] scope pos) 0 (.ref it) (.ref l) (compEnvC scope (cQ X.env scope.names []) s3.heap.objs.size X.env))
   (RR (.ref l) s3.heap.objs.size) {s3 with heap:=h₁,toks:=t₁}:=by
 have J0:Inv (blk X N' scope s3.heap.objs.size s3 H3 fp pins) [] (fW caps σ) H3 {s3 with heap:=h₁,toks:=t₁}:=Inv.block S I3 hc hf3 hlt3 hns₁ keep3
 have fpB:∀{H':Hp},(∀b∈fp,H' b=none)→∀b∈fp,cD (blk X N' scope s3.heap.objs.size s3 H3 fp pins) [] H' b:=fun {H'} hn b hb=>by
  obtain ⟨f0,f1,f2,f3,f4,f5⟩:=hf3 b hb
  refine ⟨hn b hb,Nat.ne_of_lt (hlt3 b hb),fun z=>?_,.inl hb,fun x c e=>f4 x c (S.look I3.ok e),fun p hp=>?_⟩
  ·rcases List.mem_cons.mp (I3.fB b z) with q | q
   ·exact f1 q
   ·exact f2 q
  ·rcases List.mem_append.mp hp with q | q
   ·exact f5 p q
   ·cases q
 have fin:∀{τ:St} {H':Hp} {s':Shared},Inv (blk X N' scope s3.heap.objs.size s3 H3 fp pins) [] τ H' s'→Q (.ref l) H'→RR (.ref l) s3.heap.objs.size (.ok .next) s':=fun {τ H' s'} J q=>by
  refine hRR _ _ H' s' J.free ?_ ?_ ?_ ?_ ?_ ?_ ?_ q
  ·exact (Nat.ne_of_lt I3.lt).symm
  ·exact I3.sz
  ·intro x c e z
   obtain ⟨v,o,ho,_⟩:=I3.cell x c e
   exact Nat.ne_of_lt (Heap.lt_size ho) z
  ·intro p hp z
   obtain ⟨e,_⟩:=I3.pin p hp
   exact Nat.ne_of_lt (Heap.lt_size e) z
  ·obtain ⟨m,hm,_⟩:=J.loc
   exact ⟨m,hm⟩
  ·have:=Inv.gA S I3 hf3 J (h'':=s'.heap) fun b u _ e=>e
   exact this
  ·exact fun h'' hs=>Inv.gA S I3 hf3 J hs
 have loop:codeAny (model X.prog X.w) X.A (.compLoop (.ListComp elt [⟨tg,iter,ifs,0⟩] scope pos) 0 (.ref it) (.ref l) (compEnvC scope (cQ X.env scope.names []) s3.heap.objs.size X.env))
   (RR (.ref l) s3.heap.objs.size) {s3 with heap:=h₁,toks:=t₁}:=by
  refine codeAny_loop rfl (fun n s'=>∃i τ H',Inv (blk X N' scope s3.heap.objs.size s3 H3 fp pins) [] τ H' s'∧tn i s'.heap∧(∀b∈fp,H' b=none)∧W i n τ H') ?_ m0 ⟨0,_,_,J0,st3,fun b hb=>(hf3 b hb).1,w0⟩
  rintro n s4 ⟨i,τ,H4,J4,st4,fr4,w4⟩
  show wpAny _ X.A ((compTurn (.ListComp elt [⟨tg,iter,ifs,0⟩] scope pos) 0 (.ref it) (.ref l) (compEnvC scope (cQ X.env scope.names []) s3.heap.objs.size X.env)).onRaise (fun x=>do noteFrame x (compEnvC scope (cQ X.env scope.names []) s3.heap.objs.size X.env);theTreesLotGoes x)) _ _ s4
  refine wpAny_noted ?_
  rw [compTurn_list]
  rcases turn i n τ H4 w4 with ⟨stop,qn⟩ | ⟨go,N,hN,step⟩
  ·refine wpAny_bind (wpAny_standAt (wpAny_bind (wpAny_mono (T.done (blk X N' scope s3.heap.objs.size s3 H3 fp pins) rfl rfl rfl rfl i [] s4 τ H4 _ J4 (fpB fr4) st4 stop) (fun r s5 h5=>?_) fun _ _ e=>e)))
   obtain ⟨hr,J5⟩:=h5
   subst hr
   exact wpAny_pure (fin J5 qn)
  ·refine wpAny_bind (wpAny_standAt (wpAny_bind (wpAny_mono (T.item (blk X N' scope s3.heap.objs.size s3 H3 fp pins) rfl rfl rfl rfl i [] s4 τ H4 _ J4 (fpB fr4) st4 go) (fun r s5 h5=>?_) fun _ _ e=>e)))
   obtain ⟨u,hr,h5⟩:=h5
   subst hr
   refine wpAny_bind (wpAny_mono h5 (fun _ s6 h6=>?_) fun _ _ e=>e)
   obtain ⟨x,H6,J6,r6,y6,st6,fr6⟩:=h6
   have J6':=J6.pinned (fpB fr6) (T.obj _ _ st6)
   refine wpAny_bind (wpAny_mono (upE (hg _ _ _ _ _ _ s6 τ H6 x u _ J6' r6 (step x H6 y6))) (fun _ s7 h7=>?_) fun _ _ e=>e)
   obtain ⟨τ7,H7,J7,q7⟩:=h7
   have again:∀{τ8:St} {H8:Hp} {s8:Shared},Inv (blk X N' scope s3.heap.objs.size s3 H3 fp pins) ([]++fM fp s6.heap) τ8 H8 s8→N τ8 H8→
     ∃m,m < n∧∃i τ' H',Inv (blk X N' scope s3.heap.objs.size s3 H3 fp pins) [] τ' H' s8∧tn i s8.heap∧(∀b∈fp,H' b=none)∧W i m τ' H':=fun {τ8 H8 s8} J8 n8=>by
    obtain ⟨m',hm,w8⟩:=hN τ8 H8 n8
    refine ⟨m',hm,i+1,τ8,H8,J8.dC,T.keep _ _ _ st6 fun b hb o e=>(J8.pin (b,o) (List.mem_append_right _ (List.mem_append_right _ (b0 hb e)))).1,fun b hb=>?_,w8⟩
    obtain ⟨o,e,d⟩:=T.obj _ _ st6 b hb
    exact (J8.pin (b,o) (List.mem_append_right _ (List.mem_append_right _ (b0 hb e)))).2.1
   refine wpAny_bind (wpAny_mono (upE (hif _ _ _ _ _ _ s7 τ7 H7 _ J7 q7)) (fun ok s8 h8=>?_) fun _ _ e=>e)
   obtain ⟨H8,J8,q8⟩:=h8
   cases ok with
   | false=>exact wpAny_pure ⟨rfl,again J8 (by simpa using q8)⟩
   | true=>
    have q8':te τ7 H8 fun y H5=>∃xs,H5 l=some (.lst xs)∧xs.length < sizeLine∧N τ7 (upd H5 l (.lst (xs++[y]))):=by simpa using q8
    refine wpAny_bind (wpAny_bind (wpAny_mono (upE (he _ _ _ _ _ _ s8 τ7 H8 _ J8 q8')) (fun y s9 h9=>?_) fun _ _ e=>e))
    obtain ⟨yv,H9,J9,r9,xs,hx,hz,n9⟩:=h9
    refine wpAny_bind (wpAny_mono (upE (nE (X:=blk X N' scope s3.heap.objs.size s3 H3 fp pins) _ s9 τ7 H9 (.ref l) [yv] (.ref l) [y] (fun _ H'=>N τ7 H') J9 rfl (.cons r9 .nil) ⟨_,xs,yv,rfl,rfl,hx,hz,n9⟩)) (fun _ s10 h10=>?_) fun _ _ e=>e)
    obtain ⟨_,H10,J10,_,n10⟩:=h10
    exact wpAny_pure (wpAny_pure ⟨rfl,again J10 n10⟩)
 exact codeAny_compStart_list loop (T.self X.A 0 _ _ _ st3 loop)
theorem ij (S:CompScope X N' caps scope) (hc:X.calm=true) (hg:∀C s₃ H₃ fp pl,PG (blk X N' scope C s₃ H₃ fp pl) tg g) (hif:∀C s₃ H₃ fp pl,PIf (blk X N' scope C s₃ H₃ fp pl) ifs tc)
  (he:∀C s₃ H₃ fp pl,PE (blk X N' scope C s₃ H₃ fp pl) elt te) {pins:List (Addr×Obj)} {σ:St} {H:Hp} {s:Shared} {it:Addr} {fp:List Addr} {tn:Nat→Heap→Prop} {J:It}
  (I:Inv X pins σ H s) (T:Turn X.prog X.w X.K tg J fp it tn) (st:tn 0 s.heap) (hf:∀b∈fp,cD X pins H b) {Q:VK} {RR:Value→Addr→Result→Shared→Prop} {E:Value→Shared→Prop}
  (h:∀l,H l=none→∃W:Nat→Nat→St→Hp→Prop,(∃m,W 0 m (fW caps σ) (upd H l (.lst [])))∧∀i m τ H2,W i m τ H2→
   (J.stop i H2∧Q (.ref l) H2)∨(J.go i H2∧∃N:St→Hp→Prop,(∀τ' H',N τ' H'→∃m',m' < m∧W (i+1) m' τ' H')∧∀x H',J.yld i H2 x H'→g x τ H' fun τ2 H3=>
    tc τ2 H3 fun b H4=>if b=true then te τ2 H4 fun y H5=>∃xs,H5 l=some (.lst xs)∧xs.length < sizeLine∧N τ2 (upd H5 l (.lst (xs++[y]))) else N τ2 H4))
  (hRR:∀(l C:Addr) (H':Hp) (s':Shared),H' C=none→C≠X.env.locals→X.s₀.heap.objs.size≤C→(∀x c,X.env.cells.lookup x=some c→c≠C)→(∀p∈X.pn++pins,p.1≠C)→(∃m,s'.heap.Ns C m)→Inv X pins σ H' s'→
   (∀h'':Heap,(∀b u,b≠C→s'.heap.get? b=some u→h''.get? b=some u)→Inv X pins σ H' {s' with heap:=h''})→Q (.ref l) H'→RR (.ref l) C (.ok .next) s'):
  wpAny (model X.prog X.w) X.A (newList []) (fun acc s₃=>wpAny (model X.prog X.w) X.A (newFunctionEnv scope X.env.globals (cQ X.env scope.names []) [] X.env.qual none .none (some X.env)) (fun cenv s₄=>
   codeAny (model X.prog X.w) X.A (.compStart (.ListComp elt [⟨tg,iter,ifs,0⟩] scope pos) 0 (.ref it) acc {cenv with scope:=relabel scope X.env}) (RR acc cenv.locals) s₄) E s₃) E s:=by
 obtain ⟨W,⟨m0,w0⟩,turn⟩:=h s.heap.objs.size I.fresh
 refine wpAny_newObj_type (wpAny_newFunctionEnv S.nocell (by intro y hy;simp at hy) (fun h₁ hns₁ hsb₁=>?_) S.kind)
 have I3:Inv X pins σ (upd H s.heap.objs.size (.lst [])) {s with heap:=s.heap.push {cls:=.type "list",data:=.seq ([]:List Value).toArray}}:=I.w5 (t':=s.toks) (its:=[]) (ys:=[]) .nil (Nat.zero_le _)
 have hltf:∀b∈fp,b < s.heap.objs.size:=fun b hb=>by
  obtain ⟨o,e,_⟩:=T.obj 0 _ st b hb
  exact Heap.lt_size e
 have hf3:∀b∈fp,cD X pins (upd H s.heap.objs.size (.lst [])) b:=fun b hb=>⟨by rw [aC (Nat.ne_of_lt (hltf b hb))];exact (hf b hb).1,(hf b hb).2⟩
 have keep3:∀b o,(s.heap.push {cls:=.type "list",data:=.seq ([]:List Value).toArray}).get? b=some o→h₁.get? b=some o:=fun b o e=>hsb₁.extBut b o (Nat.ne_of_lt (Heap.lt_size e)) (Heap.get?_push_of_some _ e)
 have st3:tn 0 h₁:=T.keep 0 _ _ st fun b hb o e=>keep3 b o (Heap.get?_push_of_some _ e)
 have hlt3:∀b∈fp,b < (s.heap.push {cls:=.type "list",data:=.seq ([]:List Value).toArray}).objs.size:=fun b hb=>by
  have:=hltf b hb
  rw [Heap.size_push]
  exact Nat.lt_succ_of_lt this
 exact nZ (s3:={s with heap:=s.heap.push {cls:=.type "list",data:=.seq ([]:List Value).toArray}}) S hc hg hif he I3 T st3 hf3 hlt3 hns₁ keep3 w0 turn hRR
theorem o1 (S:CompScope X N' caps scope) (hc:X.calm=true) (hi:PI X tg iter wi) (hg:∀C s₃ H₃ fp pl,PG (blk X N' scope C s₃ H₃ fp pl) tg g) (hif:∀C s₃ H₃ fp pl,PIf (blk X N' scope C s₃ H₃ fp pl) ifs tc)
  (he:∀C s₃ H₃ fp pl,PE (blk X N' scope C s₃ H₃ fp pl) elt te) (hs:∀x,foldedSetIterable iter X.env x=pure x:=by intro _;rfl):PE X (.ListComp elt [⟨tg,iter,ifs,0⟩] scope pos) (ow caps wi g tc te):=by
 intro pins s σ H Q I h
 rw [eval_ListComp]
 refine wpAny_comprehension_free (use:=none) rfl hs (eS (S.has I.ok)) S.kind S.names (thn (hi pins s σ H _ I h) fun v s1 h1=>thn h1 fun itv s2 h2=>?_)
 obtain ⟨it,fp,tn,J,H2,e,I2,T,st2,f2,hQ⟩:=h2
 subst e
 refine ij (RR:=fun acc C=>compPost (model X.prog X.w) X.A X.xe none (EP X pins σ Q) acc C) S hc hg hif he I2 T st2 f2 hQ ?_
 intro l C H' s' _ _ _ _ _ hm _ hI q
 obtain ⟨m,hm⟩:=hm
 exact ⟨m,hm,fun h'' hs''=>⟨.ref l,H',hI h'' fun b u hb e=>hs''.extBut b u hb e,rfl,q⟩⟩
theorem oV {i:Nat} {y:Str} {py spos:Pos} (hN:X.N.Nodup) (hi':X.N[i]?=some y) (hy:X.env.scope.names.lookup y=some .local) (S:CompScope X N' caps scope) (hc:X.calm=true) (hi:PI X tg iter wi)
  (hg:∀C s₃ H₃ fp pl,PG (blk X N' scope C s₃ H₃ fp pl) tg g) (hif:∀C s₃ H₃ fp pl,PIf (blk X N' scope C s₃ H₃ fp pl) ifs tc)
  (he:∀C s₃ H₃ fp pl,PE (blk X N' scope C s₃ H₃ fp pl) elt te)
  (hsw:swapsWith (.ListComp elt [⟨tg,iter,ifs,0⟩] scope pos) (some (.Name y py)) spos.line X.env=pure true:=by rfl) (hs:∀x,foldedSetIterable iter X.env x=pure x:=by intro _;rfl):
  PS X (.Assign [.Name y py] (.ListComp elt [⟨tg,iter,ifs,0⟩] scope pos) spos) (ni (ow caps wi g tc te) (gm i)):=by
 intro pins s σ H D I h
 rw [exec_Assign_Name_used _ _ _ _ hsw]
 refine wpAny_bind (wpAny_standAt (wpAny_bind ?_))
 show wpAny _ X.A (do let _←comprehension (.ListComp elt [⟨tg,iter,ifs,0⟩] scope pos) scope X.env _ (newList []) false (eval iter X.env) (some (assign (.Name y py) X.env))) _ _ s
 refine wpAny_bind (wpAny_mono (wpAny_comprehension_free (use:=some (assign (.Name y py) X.env)) (Q:=fun _ s'=>SP X pins D .next s') rfl hs (eS (S.has I.ok)) S.kind S.names
  (thn (hi pins s σ H _ I h) fun v s1 h1=>thn h1 fun itv s2 h2=>?_)) (fun _ s' hq=>wpAny_pure (wpAny_pure hq)) fun _ _ e=>e)
 obtain ⟨it,fp,tn,J,H2,e,I2,T,st2,f2,hQ⟩:=h2
 subst e
 refine ij (Q:=fun x H1=>gm i x σ H1 D.nx) (RR:=fun acc C=>compPost (model X.prog X.w) X.A X.xe (some (assign (.Name y py) X.env)) (fun _ s'=>SP X pins D .next s') acc C) S hc hg hif he I2 T st2 f2 hQ ?_
 intro l C H' s' hC hCL hC0 hCc hCp hm hI0 hI q
 obtain ⟨m,hm⟩:=hm
 show wpAny _ X.A (assign (.Name y py) X.env (.ref l)) _ _ s'
 refine wpAny_assign_Name (fA (v:=.ref l) hI0 hN hi' (.inl hy) rfl (fun s5 I5 hch=>?_) (.inr hy))
 obtain ⟨a,hsa,ha⟩:=hch
 have hCa:C≠a:=by
  rcases ha with z | z
  ·rw [z];exact hCL
  ·exact (hCc _ _ z).symm
 refine ⟨m,hm.sameBut hsa hCa,fun h'' hs''=>?_⟩
 have I6:=I5.turned (t':=s5.toks) (h':=h'') (it:=C) (fun b o hb e=>hs''.extBut b o hb e) hC hCL (.inr hC0) hCc hCp
 exact ⟨_,H',I6,q⟩
end
end L2
namespace L2
open PySem PySem.Spec PyProof.Rows
def xv (_ j:Int):Prop:=0 < j∧j≤10^40
theorem log2_small {n:Nat} (h:n≤10^40):n.log2 < 9000:=by
 by_cases h0:n=0
 ·rw [h0];decide
 ·refine (Nat.log2_lt h0).mpr (Nat.lt_of_le_of_lt h ?_)
  exact Nat.lt_of_lt_of_le (show 10^40 < 2^200 by decide) (Nat.pow_le_pow_right (by decide) (by decide))
section
variable {X:Cx}
theorem pk:OpR X (binaryOp .FloorDiv) (rI xv fun i j=>.int (i / j)):=opI fun i j _ _ _ _ _ hc q=>by
 have h1:(0:Int) < j:=hc.1
 have h2:j≤10^40:=hc.2
 exact floordiv_int (by omega) (by rw [Int.fdiv_eq_ediv_of_nonneg i (by omega)];exact q) (.inl (PyProof.noPylong_of_log2 (log2_small (by omega))))
mutual
inductive Rds (K:PySem.W.Frag) (H:Hp):V→PyData→Prop where
 | non:Rds K H .non .none
 | bl (b:Bool):Rds K H (.bl b) (.bool b)
 | int (i:Int):Rds K H (.int i) (.int i)
 | str (x:Str):Rds K H (.str x) (.str x)
 | tup {a:Addr} {xs:List V} {ds:List PyData}:SqT K H a xs→RdsL K H xs ds→Rds K H (.ref a) (.tuple ds)
 | lst {a:Addr} {xs:List V} {ds:List PyData}:SqL K H a xs→RdsL K H xs ds→Rds K H (.ref a) (.list ds)
inductive RdsL (K:PySem.W.Frag) (H:Hp):List V→List PyData→Prop where
 | nil:RdsL K H [] []
 | cons {x:V} {xs:List V} {d:PyData} {ds:List PyData}:Rds K H x d→RdsL K H xs ds→RdsL K H (x::xs) (d::ds)
end
variable {pins:List (Addr×Obj)} {σ:St} {H:Hp} {s:Shared}
mutual
theorem Rds.reads (I:Inv X pins σ H s):∀{x:V} {u:Value} {d:PyData},Rds X.K H x d→RelV x u→∃as,Reads s.heap u d as
 | _,_,_,.non,r=>by cases (show _=Value.none from r);exact ⟨_,.none⟩
 | _,_,_,.bl b,r=>by cases (show _=Value.bool b from r);exact ⟨_,.bool b⟩
 | _,_,_,.int i,r=>by obtain ⟨t,e⟩:=(show ∃t,_=Value.int i t from r);cases e;exact ⟨_,.int i t⟩
 | _,_,_,.str x,r=>by obtain ⟨t,e⟩:=(show ∃t,_=Value.str x t from r);cases e;exact ⟨_,.str x t⟩
 | _,_,_,.tup (a:=a) hq hl,r=>by
  cases (show _=Value.ref a from r)
  obtain ⟨its,rv,⟨o,h1,h2,n,h3⟩,_⟩:=I.tuple hq
  obtain ⟨as,q⟩:=RdsL.reads I hl rv
  exact ⟨_,.tuple h1 h2 h3 (by simpa using q)⟩
 | _,_,_,.lst (a:=a) hq hl,r=>by
  cases (show _=Value.ref a from r)
  obtain ⟨its,rv,pl,_⟩:=I.list hq
  obtain ⟨o,h1,h2,n,h3⟩:=pl.isList
  obtain ⟨as,q⟩:=RdsL.reads I hl rv
  exact ⟨_,.list h1 h2 h3 (by simpa using q)⟩
theorem RdsL.reads (I:Inv X pins σ H s):∀{xs:List V} {us:List Value} {ds:List PyData},RdsL X.K H xs ds→Vals xs us→∃as,ReadsAll s.heap us ds as
 | _,_,_,.nil,.nil=>⟨_,.nil⟩
 | _,_,_,.cons h t,.cons r q=>by
  obtain ⟨as,p⟩:=Rds.reads I h r
  obtain ⟨bs,p'⟩:=RdsL.reads I t q
  exact ⟨_,.cons p p'⟩
end
def yb:V→Option Int→Option Int→Hp→VK→Prop:=fun x lo hi H Q=>∃z,x=.str z∧z.length≤sizeLine∧Q (.str (Txt.slice z lo hi)) H
theorem sQ:SlR X yb:=by
 intro pins s σ H x v vl vu lo hi sl Q I rx hs pl pu h
 obtain ⟨z,rfl,hz,q⟩:=h
 obtain ⟨t,rfl⟩:=(show ∃t,v=Value.str z t from rx)
 refine ⟨"str",_,F.slot_str_getitem.lookup,typeIs_str _ _ _,?_⟩
 obtain ⟨o,h1,h2,h3⟩:=hs
 have fin:(Txt.slice z lo hi).length≤sizeLine∧∀t' k,EP X pins σ Q (.str (Txt.slice z lo hi) t') {s with toks:=k}:=⟨Nat.le_trans (Txt.slice_le z _ _) hz,fun t' k=>⟨.str _,H,I.tok k,⟨t',rfl⟩,q⟩⟩
 cases pl with
 | none=>
  cases pu with
  | none=>exact wpAny_getItem_str_slice (l:=none) (u:=none) (st:=none) ⟨o,h1,h2,h3⟩ rfl (post_val_or_str fin)
  | int j uj=>exact wpAny_getItem_str_slice (l:=none) (u:=some (j,uj)) (st:=none) ⟨o,h1,h2,h3⟩ rfl (post_val_or_str fin)
 | int i ui=>
  cases pu with
  | none=>exact wpAny_getItem_str_slice (l:=some (i,ui)) (u:=none) (st:=none) ⟨o,h1,h2,h3⟩ rfl (post_val_or_str fin)
  | int j uj=>exact wpAny_getItem_str_slice (l:=some (i,ui)) (u:=some (j,uj)) (st:=none) ⟨o,h1,h2,h3⟩ rfl (post_val_or_str fin)
theorem pX:cE X (.builtin "isinstance") (fun xs H Q=>∃x n t b,xs=[x,.ty n]∧TyOf X.K H x t∧PySem.W.kitOne X.K t (.type n)=some b∧Q (.bl b) H):=by
 intro pins s σ H xs us Q I r h
 obtain ⟨x,n,t,b,rfl,ty,e,q⟩:=h
 obtain ⟨u,w',rfl,ru,rw'⟩:=vals2 r
 cases (show w'=Value.type n from rw')
 exact nM I ru ty e fun tk=>⟨.bl b,H,I.tok tk,rfl,q⟩
end
end L2
namespace L2
open PySem PySem.Spec PyProof.Rows
end L2
namespace L2
open PySem PySem.Spec PyProof.Rows
section
variable {X:Cx}
end
end L2
namespace L2
open PySem PySem.Spec PyProof.Rows
section
variable {g:TG} {tc:TT} {te:TE} {l:Addr} {Q:VK} {τ0:St} {H0:Hp}
end
end L2
namespace L2
open PySem PySem.Spec PyProof.Rows
def kB (out:List (Str×NameKind)) (N N':List Str) (caps:List (Option Nat)) (scope:Scope):Bool:=
 decide (scope.kind=.function)&&scope.names.all (fun y=>decide (y.2≠.cell))&&scope.names.all (fun y=>!decide (y.2=.local)||decide (scope.names.lookup y.1=some .local))&&
 scope.names.all (fun y=>!decide (y.2=.free)||decide (out.lookup y.1=some .cell)||decide (out.lookup y.1=some .free))&&decide (caps.length=N'.length)&&
 (List.range caps.length).all (fun j=>match caps[j]?,N'[j]? with
  | some (some i),some x=>decide (N[i]?=some x)&&decide (scope.names.lookup x=some .free)
  | _,_=>true)&&decide N'.Nodup
theorem aW {X:Cx} {N':List Str} {caps:List (Option Nat)} {scope:Scope} (h:kB X.env.scope.names X.N N' caps scope=true):CompScope X N' caps scope:=by
 unfold kB at h
 simp only [Bool.and_eq_true,decide_eq_true_eq,List.all_eq_true,Bool.or_eq_true,Bool.not_eq_true',decide_eq_false_iff_not] at h
 obtain ⟨⟨⟨⟨⟨⟨h1,h2⟩,h3⟩,h4⟩,h5⟩,h6⟩,h7⟩:=h
 refine ⟨h1,h2,fun y hy e=>?_,fun y hy e=>?_,h5,fun j i x hj hx=>?_,h7⟩
 ·rcases h3 y hy with z | z
  ·exact absurd e z
  ·exact z
 ·rcases h4 y hy with (z | z) | z
  ·exact absurd e z
  ·exact .inl z
  ·exact .inr z
 ·have hlt:j < caps.length:=(List.getElem?_eq_some_iff.mp hj).1
  have:=h6 j (List.mem_range.mpr hlt)
  rw [hj,hx] at this
  simp only [Bool.and_eq_true,decide_eq_true_eq] at this
  exact this
end L2
namespace L2
end L2
namespace L2
open PySem PySem.Spec PyProof.Rows
theorem fz {x:Str}:PyData.strOk x=true↔∀c∈x.cps,c < 0x110000:=by
 unfold PyData.strOk
 rw [Array.all_eq_true_iff_forall_mem]
 simp
theorem nk {a b:Str} (ha:PyData.strOk a=true) (hb:PyData.strOk b=true):PyData.strOk (a++b)=true:=by
 rw [fz] at*
 intro c hc
 have hc':c∈a.cps++b.cps:=hc
 rcases Array.mem_append.mp hc' with z | z
 ·exact ha c z
 ·exact hb c z
theorem j3 {x:Str} (l u:Option Int) (h:PyData.strOk x=true):PyData.strOk (Txt.slice x l u)=true:=by
 unfold Txt.slice
 split
 ·exact h
 ·rw [fz] at*
  intro c hc
  have hc':c∈(List.filterMap (x.cps[·]?) (Builtin.Str.strSliceIndices l u 1 x.length)).toArray:=hc
  rw [List.mem_toArray] at hc'
  obtain ⟨i,_,e⟩:=List.mem_filterMap.mp hc'
  exact h c (Array.mem_of_getElem? e)
theorem nj {z:Str} {c:Nat} {i:Int} (h:PyData.strOk z=true) (hc:atI z.cps.toList i=some c):PyData.strOk (⟨#[c]⟩:Str)=true:=by
 rw [fz] at*
 intro d hd
 have e:d=c:=by simpa using hd
 subst e
 obtain ⟨j,_,hj,_⟩:=gI hc
 exact h d (by have:=List.mem_of_getElem? hj;simpa using this)
end L2
namespace L2
open PySem PySem.Spec PyProof.Rows
theorem entry_all_loop:entryFor table "all.loop"=some Builtin.«all.loop»:=entryFor_of_tree (by kernel_rfl)
theorem plain_all_loop:plainId "all.loop"=true:=by decide+kernel
section
variable {X:Cx}
theorem p6 {A:Around} {pins:List (Addr×Obj)} {σ:St} {H:Hp} {p it:Addr} {bs:List Bool} {R:Result→Shared→Prop} (hA:A.handled=none) (hp:SqL X.K H p (bs.map V.bl))
  (hit:it≠X.env.locals∧(it∈X.ex∨X.s₀.heap.objs.size≤it)∧(∀x c,X.env.cells.lookup x=some c→c≠it)∧∀q∈X.pn++pins,q.1≠it) (hin:H it=none)
  (h:∀s',Inv X pins σ H s'→R (.ok (.ret (.bool (bs.all id)))) s'):∀(n i:Nat) (s:Shared),bs.length-i=n→i≤bs.length→(bs.take i).all id=true→s.heap.IsListIter it p i→Inv X pins σ H s→
   codeAny (model X.prog X.w) A (.builtin "all.loop" ⟨[.ref it],[]⟩) R s:=by
 intro n
 induction n with
 | zero=>
  intro i s hn hi ht st I
  have ei:i=bs.length:=by omega
  refine codeAny_builtin entry_all_loop ?_
  rw [Around.under_plainId plain_all_loop _]
  obtain ⟨its,rv,pl,hz⟩:=I.list hp
  have hl':=rv.length
  rw [List.length_map] at hl'
  show wpAny _ _ (pyNext (.ref it) >>=_) _ _ s
  refine wpAny_bind (wpAny_pyNext_list_end hA st pl.isList (by simp;omega) fun h' eb=>?_)
  have I':=I.turned (t':=s.toks) (h':=h') (it:=it) (fun b o hb e=>eb b o hb e) hin hit.1 hit.2.1 hit.2.2.1 hit.2.2.2
  refine wpAny_bind (wpAny_rule (wpAny_pure ?_))
  rw [ei,List.take_length] at ht
  have:=h _ I'
  rw [ht] at this
  exact this
 | succ n ih=>
  intro i s hn hi ht st I
  have hi':i < bs.length:=by omega
  refine codeAny_builtin entry_all_loop ?_
  rw [Around.under_plainId plain_all_loop _]
  obtain ⟨its,rv,pl,hz⟩:=I.list hp
  have hyi:(bs.map V.bl)[i]?=some (.bl bs[i]):=by rw [List.getElem?_map,List.getElem?_eq_getElem hi'];rfl
  obtain ⟨u,hu,ru⟩:=rv.get hyi
  cases (show u=Value.bool bs[i] from ru)
  show wpAny _ _ (pyNext (.ref it) >>=_) _ _ s
  refine wpAny_bind (wpAny_pyNext_list_item st pl.isList (x:=.bool bs[i]) (by simpa using hu) fun h' st' sb=>?_)
  have I':=I.turned (t':=s.toks) (h':=h') (it:=it) (fun b o hb e=>(sb.2 b hb).trans e) hin hit.1 hit.2.1 hit.2.2.1 hit.2.2.2
  dsimp only
  refine wpAny_bind (wpAny_holding (wpAny_truthy_bool ?_))
  refine wpAny_bind (wpAny_letGo ?_)
  by_cases hb:bs[i]=true
  ·rw [if_pos hb]
   refine wpAny_pure ⟨plainId_quiet plain_all_loop _,ih (i+1) _ (by omega) (by omega) ?_ st' I'⟩
   rw [List.take_succ,List.getElem?_eq_getElem hi',List.all_append,ht,hb]
   rfl
  ·rw [if_neg hb]
   refine wpAny_bind (wpAny_rule (wpAny_pure ?_))
   have:=h _ I'
   have e:bs.all id=false:=by
    rw [List.all_eq_false]
    exact ⟨bs[i],List.getElem_mem hi',by simpa using hb⟩
   rw [e] at this
   exact this
theorem pY (hc:X.calm=true):cE X (.builtin "all") (fun xs H Q=>∃(p:Addr) (bs:List Bool),xs=[.ref p]∧SqL X.K H p (bs.map V.bl)∧Q (.bl (bs.all id)) H):=by
 intro pins s σ H xs us Q I r h
 obtain ⟨p,bs,rfl,hp,q⟩:=h
 obtain ⟨u,rfl,ru⟩:=vals1 r
 cases (show u=Value.ref p from ru)
 have hA:X.A.handled=none:=I.ok.hd hc
 obtain ⟨its,rv,pl,hz⟩:=I.list hp
 refine call_function_tree F.kind_all F.plain_all F.entry_all (F.args_all1 _) ?_
 unfold Builtin.«all»
 show wpAny _ _ (pyIter (.ref p) >>=_) _ _ s
 refine wpAny_bind (wpAny_pyIter_list pl.isList ?_)
 have I3:Inv X pins σ H {s with heap:=s.heap.push {cls:=.type "list_iterator",data:=.fields #[.ref p,.int 0 0]}}:=I.kept (t':=s.toks) fun b o e=>Heap.get?_push_of_some _ e
 obtain ⟨f0,f1,f2,f3,f4,f5⟩:=I.kJ (b:=s.heap.objs.size) (H':=H) (Nat.le_refl _) (I.hok.fresh (Nat.le_refl _))
 refine wpAny_pure ⟨plainId_quiet plain_all_loop _,?_⟩
 exact p6 (X:=X) (σ:=σ) (H:=H) (by exact hA) hp ⟨f1,f3,f4,f5⟩ f0 (fun s' I'=>⟨.bl _,H,I',rfl,q⟩) bs.length 0 _ (by omega) (Nat.zero_le _) rfl ⟨_,Heap.get?_push_size _ rfl,rfl,rfl⟩ I3
end
section
variable {X:Cx}
end
end L2
namespace Sm
open PySem L2
inductive D where
 | non | bl (b:Bool) | int (i:Int) | str (x:Str) | ty (n:String)
 | tup (xs:List D) | lv (xs:List D) | ro (xs:List D) | dv (kvs:List (Key×D)) | ob (n:Nat)
inductive MO where
 | lst (xs:List D) | dct (kvs:List (Key×D))
abbrev MH:=List MO
abbrev DS:=List (Option D)
abbrev noH:Hp:=fun _=>none
structure Ad where
 ob:List Addr
 rs:List Addr
def Ad.has (ρ:Ad) (a:Addr):Prop:=a∈ρ.ob∨a∈ρ.rs
def TupAt (K:PySem.W.Frag) (ρ:Ad) (H:Hp) (a:Addr) (vs:List V):Prop:=(Rd H a (.tup vs)∧¬ρ.has a)∨SqT K noH a vs
def vK (K:PySem.W.Frag) (ρ:Ad) (H:Hp) (a:Addr) (vs:List V):Prop:=(Rd H a (.lst vs)∧¬ρ.has a)∨SqL K noH a vs
mutual
inductive Rep (K:PySem.W.Frag) (ρ:Ad) (H:Hp):V→D→Prop where
 | non:Rep K ρ H .non .non
 | bl (b:Bool):Rep K ρ H (.bl b) (.bl b)
 | int (i:Int):Rep K ρ H (.int i) (.int i)
 | str {x:Str} (h:PyData.strOk x=true):Rep K ρ H (.str x) (.str x)
 | ty (n:String):Rep K ρ H (.ty n) (.ty n)
 | tup {a:Addr} {vs:List V} {ds:List D}:TupAt K ρ H a vs→RepL K ρ H vs ds→Rep K ρ H (.ref a) (.tup ds)
 | lv {a:Addr} {vs:List V} {ds:List D}:H a=some (.lst vs)→¬ρ.has a→RepL K ρ H vs ds→Rep K ρ H (.ref a) (.lv ds)
 | ro {a:Addr} {vs:List V} {ds:List D}:vK K ρ H a vs→RepL K ρ H vs ds→Rep K ρ H (.ref a) (.ro ds)
 | dv {a:Addr} {us:List (Key×V)} {kvs:List (Key×D)}:H a=some (.dK us)→¬ρ.has a→RepK K ρ H us kvs→Rep K ρ H (.ref a) (.dv kvs)
 | ob {a:Addr} {n:Nat}:ρ.ob[n]?=some a→Rep K ρ H (.ref a) (.ob n)
inductive RepL (K:PySem.W.Frag) (ρ:Ad) (H:Hp):List V→List D→Prop where
 | nil:RepL K ρ H [] []
 | cons {v:V} {vs:List V} {d:D} {ds:List D}:Rep K ρ H v d→RepL K ρ H vs ds→RepL K ρ H (v::vs) (d::ds)
inductive RepK (K:PySem.W.Frag) (ρ:Ad) (H:Hp):List (Key×V)→List (Key×D)→Prop where
 | nil:RepK K ρ H [] []
 | cons {k:Key} {v:V} {vs:List (Key×V)} {d:D} {ds:List (Key×D)}:Rep K ρ H v d→RepK K ρ H vs ds→RepK K ρ H ((k,v)::vs) ((k,d)::ds)
end
structure Ch (ρ:Ad) (H:Hp) (ρ':Ad) (H':Hp):Prop where
 pre:∀(n:Nat) a,ρ.ob[n]?=some a→ρ'.ob[n]?=some a
 old:∀b o,¬ρ.has b→H b=some o→¬ρ'.has b∧H' b=some o
theorem Ch.refl (ρ:Ad) (H:Hp):Ch ρ H ρ H:=⟨fun _ _ e=>e,fun _ _ n e=>⟨n,e⟩⟩
theorem Ch.trans {ρ ρ1 ρ2:Ad} {H H1 H2:Hp} (a:Ch ρ H ρ1 H1) (b:Ch ρ1 H1 ρ2 H2):Ch ρ H ρ2 H2:=
 ⟨fun n x e=>b.pre n x (a.pre n x e),fun x o n e=>let ⟨n',e'⟩:=a.old x o n e;b.old x o n' e'⟩
structure Stp (ρ:Ad) (H:Hp) (ρ':Ad) (H':Hp):Prop extends Ch ρ H ρ' H' where
 rs:ρ'.rs=ρ.rs
 res:∀b∈ρ.rs,H' b=H b
theorem Stp.refl (ρ:Ad) (H:Hp):Stp ρ H ρ H:=⟨.refl _ _,rfl,fun _ _=>rfl⟩
theorem Stp.trans {ρ ρ1 ρ2:Ad} {H H1 H2:Hp} (a:Stp ρ H ρ1 H1) (b:Stp ρ1 H1 ρ2 H2):Stp ρ H ρ2 H2:=
 ⟨a.toCh.trans b.toCh,b.rs.trans a.rs,fun x hx=>(b.res x (by rw [a.rs];exact hx)).trans (a.res x hx)⟩
instance {ρ ρ':Ad} {H H':Hp}:CoeOut (Stp ρ H ρ' H') (Ch ρ H ρ' H'):=⟨Stp.toCh⟩
theorem Ch.rd {ρ ρ':Ad} {H H':Hp} {a:Addr} {u:HO} (S:Ch ρ H ρ' H') (h:Rd H a u) (n:¬ρ.has a):Rd H' a u∧¬ρ'.has a:=by
 rcases h with h | ⟨o,h⟩
 ·obtain ⟨q,e⟩:=S.old a _ n h;exact ⟨.inl e,q⟩
 ·obtain ⟨q,e⟩:=S.old a _ n h;exact ⟨.inr ⟨o,e⟩,q⟩
mutual
theorem Rep.mono {K:PySem.W.Frag} {ρ ρ':Ad} {H H':Hp} (S:Ch ρ H ρ' H'):∀{v:V} {d:D},Rep K ρ H v d→Rep K ρ' H' v d
 | _,_,.non=>.non
 | _,_,.bl b=>.bl b
 | _,_,.int i=>.int i
 | _,_,.str x=>.str x
 | _,_,.ty n=>.ty n
 | _,_,.tup h l=>.tup (h.elim (fun ⟨a,n⟩=>.inl (S.rd a n)) .inr) (RepL.mono S l)
 | _,_,.lv h n l=>let ⟨n',h'⟩:=S.old _ _ n h;.lv h' n' (RepL.mono S l)
 | _,_,.ro h l=>.ro (h.elim (fun ⟨a,n⟩=>.inl (S.rd a n)) .inr) (RepL.mono S l)
 | _,_,.dv h n l=>let ⟨n',h'⟩:=S.old _ _ n h;.dv h' n' (RepK.mono S l)
 | _,_,.ob e=>.ob (S.pre _ _ e)
theorem RepL.mono {K:PySem.W.Frag} {ρ ρ':Ad} {H H':Hp} (S:Ch ρ H ρ' H'):∀{vs:List V} {ds:List D},RepL K ρ H vs ds→RepL K ρ' H' vs ds
 | _,_,.nil=>.nil
 | _,_,.cons h t=>.cons (Rep.mono S h) (RepL.mono S t)
theorem RepK.mono {K:PySem.W.Frag} {ρ ρ':Ad} {H H':Hp} (S:Ch ρ H ρ' H'):∀{vs:List (Key×V)} {ds:List (Key×D)},RepK K ρ H vs ds→RepK K ρ' H' vs ds
 | _,_,.nil=>.nil
 | _,_,.cons h t=>.cons (Rep.mono S h) (RepK.mono S t)
end
section
variable {K:PySem.W.Frag} {ρ ρ':Ad} {H H':Hp}
theorem RepL.length:∀{vs:List V} {ds:List D},RepL K ρ H vs ds→vs.length=ds.length
 | _,_,.nil=>rfl
 | _,_,.cons _ t=>by rw [List.length_cons,List.length_cons,RepL.length t]
theorem RepL.got:∀{vs:List V} {ds:List D} {i:Nat} {d:D},RepL K ρ H vs ds→ds[i]?=some d→∃v,vs[i]?=some v∧Rep K ρ H v d
 | _,_,_,_,.nil,e=>by simp at e
 | _,_,0,_,.cons r _,e=>by simp at e;subst e;exact ⟨_,rfl,r⟩
 | _,_,i+1,d,.cons _ t,e=>by
  obtain ⟨u,h1,h2⟩:=RepL.got (i:=i) (d:=d) t (by simpa using e)
  exact ⟨u,by simpa using h1,h2⟩
theorem RepL.append:∀{vs ws:List V} {ds es:List D},RepL K ρ H vs ds→RepL K ρ H ws es→RepL K ρ H (vs++ws) (ds++es)
 | _,_,_,_,.nil,s=>s
 | _,_,_,_,.cons r t,s=>.cons r (RepL.append t s)
theorem RepL.take:∀{vs:List V} {ds:List D} (n:Nat),RepL K ρ H vs ds→RepL K ρ H (vs.take n) (ds.take n)
 | _,_,0,_=>.nil
 | _,_,_+1,.nil=>.nil
 | _,_,n+1,.cons r t=>.cons r (RepL.take n t)
theorem RepL.drop:∀{vs:List V} {ds:List D} (n:Nat),RepL K ρ H vs ds→RepL K ρ H (vs.drop n) (ds.drop n)
 | _,_,0,r=>r
 | _,_,_+1,.nil=>.nil
 | _,_,n+1,.cons _ t=>RepL.drop n t
theorem RepL.set {v:V} {d:D} (r:Rep K ρ H v d):∀{vs:List V} {ds:List D} (i:Nat),RepL K ρ H vs ds→RepL K ρ H (vs.set i v) (ds.set i d)
 | _,_,_,.nil=>.nil
 | _,_,0,.cons _ t=>.cons r t
 | _,_,i+1,.cons q t=>.cons q (RepL.set r i t)
theorem RepL.snoc {v:V} {d:D} {vs:List V} {ds:List D} (t:RepL K ρ H vs ds) (r:Rep K ρ H v d):RepL K ρ H (vs++[v]) (ds++[d]):=t.append (.cons r .nil)
theorem RepL.isEmpty {vs:List V} {ds:List D} (t:RepL K ρ H vs ds):vs.isEmpty=ds.isEmpty:=by cases t <;> rfl
theorem TupAt.sq {a:Addr} {vs:List V} (h:TupAt K ρ H a vs):SqT K H a vs:=by
 rcases h with ⟨h,_⟩ | h
 ·exact .inl h
 ·rcases h with (h | ⟨o,h⟩) | h
  ·cases h
  ·cases h
  ·exact .inr h
theorem vK.sq {a:Addr} {vs:List V} (h:vK K ρ H a vs):SqL K H a vs:=by
 rcases h with ⟨h,_⟩ | h
 ·exact .inl h
 ·rcases h with (h | ⟨o,h⟩) | h
  ·cases h
  ·cases h
  ·exact .inr h
end
def ObR (K:PySem.W.Frag) (ρ:Ad) (H:Hp) (a:Addr):MO→Prop
 | .lst ds=>∃vs,H a=some (.lst vs)∧RepL K ρ H vs ds
 | .dct kvs=>∃us,H a=some (.dK us)∧RepK K ρ H us kvs
structure Sim (K:PySem.W.Frag) (ρ:Ad) (h:MH) (H:Hp):Prop where
 len:ρ.ob.length=h.length
 nd:ρ.ob.Nodup
 at_:∀(n:Nat) a o,ρ.ob[n]?=some a→h[n]?=some o→ObR K ρ H a o
 rsv:∀b∈ρ.rs,(∃o,H b=some o)∧b∉ρ.ob
section
variable {K:PySem.W.Frag} {ρ ρ':Ad} {H H':Hp} {h:MH}
theorem ObR.has {a:Addr} {o:MO} (x:ObR K ρ H a o):∃u,H a=some u:=by
 cases o with
 | lst ds=>obtain ⟨vs,e,_⟩:=x;exact ⟨_,e⟩
 | dct ds=>obtain ⟨vs,e,_⟩:=x;exact ⟨_,e⟩
theorem ObR.mono {a:Addr} {o:MO} (x:ObR K ρ H a o) (T:Ch ρ H ρ' H') (e:H' a=H a):ObR K ρ' H' a o:=by
 cases o with
 | lst ds=>obtain ⟨vs,x,r⟩:=x;exact ⟨vs,e.trans x,r.mono T⟩
 | dct ds=>obtain ⟨vs,x,r⟩:=x;exact ⟨vs,e.trans x,r.mono T⟩
theorem Sim.mem (S:Sim K ρ h H) {a:Addr} (ha:a∈ρ.ob):∃(n:Nat) (o:MO),ρ.ob[n]?=some a∧h[n]?=some o∧ObR K ρ H a o:=by
 obtain ⟨n,hn,e⟩:=List.mem_iff_getElem.mp ha
 have hn':n < h.length:=by rw [←S.len];exact hn
 have e1:ρ.ob[n]?=some a:=by rw [List.getElem?_eq_getElem hn,e]
 exact ⟨n,h[n],e1,List.getElem?_eq_getElem hn',S.at_ n a _ e1 (List.getElem?_eq_getElem hn')⟩
theorem Sim.has (S:Sim K ρ h H) {a:Addr} (ha:ρ.has a):∃u,H a=some u:=by
 rcases ha with ha | ha
 ·obtain ⟨_,_,_,_,x⟩:=S.mem ha;exact x.has
 ·exact (S.rsv a ha).1
theorem Sim.fresh (S:Sim K ρ h H) {p:Addr} (hp:H p=none):¬ρ.has p:=fun m=>by
 obtain ⟨u,e⟩:=S.has m
 rw [hp] at e;cases e
theorem Stp.laid (S:Sim K ρ h H) {p:Addr} {o:HO} (hp:H p=none):Stp ρ H ρ (upd H p o):=
 ⟨⟨fun _ _ e=>e,fun b u n e=>⟨n,by rw [aC (aI e hp)];exact e⟩⟩,rfl,fun b hb=>by
  obtain ⟨u,e⟩:=(S.rsv b hb).1
  rw [aC (aI e hp)]⟩
theorem Sim.same (S:Sim K ρ h H) (T:Stp ρ H ρ H') (k:∀a∈ρ.ob,H' a=H a):Sim K ρ h H':=
 ⟨S.len,S.nd,fun n a o e1 e2=>(S.at_ n a o e1 e2).mono T.toCh (k a (List.mem_of_getElem? e1)),fun b hb=>⟨by rw [T.res b hb];exact (S.rsv b hb).1,(S.rsv b hb).2⟩⟩
theorem Sim.laid (S:Sim K ρ h H) {p:Addr} {o:HO} (hp:H p=none):Sim K ρ h (upd H p o):=
 S.same (Stp.laid S hp) fun a ha=>by
  obtain ⟨u,e⟩:=S.has (.inl ha)
  rw [aC (aI e hp)]
abbrev Ad.more (ρ:Ad) (p:Addr):Ad:=⟨ρ.ob++[p],ρ.rs⟩
theorem Stp.made (S:Sim K ρ h H) {p:Addr} {o:HO} (hp:H p=none):Stp ρ H (ρ.more p) (upd H p o):=by
 refine ⟨⟨fun n a e=>?_,fun b u n e=>?_⟩,rfl,(Stp.laid S hp).res⟩
 ·show (ρ.ob++[p])[n]?=_
  rw [List.getElem?_append_left (List.getElem?_eq_some_iff.mp e).1];exact e
 ·refine ⟨fun m=>?_,by rw [aC (aI e hp)];exact e⟩
  rcases m with m | m
  ·rcases List.mem_append.mp m with m | m
   ·exact n (.inl m)
   ·exact aI e hp (List.mem_singleton.mp m)
  ·exact n (.inr m)
theorem Sim.made (S:Sim K ρ h H) {p:Addr} {u:HO} {o:MO} (hp:H p=none) (ho:ObR K (ρ.more p) (upd H p u) p o):Sim K (ρ.more p) (h++[o]) (upd H p u):=by
 refine ⟨by simp [S.len],?_,fun n a x e1 e2=>?_,fun b hb=>?_⟩
 ·show (ρ.ob++[p]).Nodup
  rw [List.nodup_append]
  refine ⟨S.nd,by simp,fun a ha b hb z=>?_⟩
  rw [List.mem_singleton.mp hb] at z
  exact S.fresh hp (.inl (z ▸ ha))
 ·by_cases hn:n < ρ.ob.length
  ·have e1:(ρ.ob++[p])[n]?=some a:=e1
   rw [List.getElem?_append_left hn] at e1
   rw [List.getElem?_append_left (by rw [←S.len];exact hn)] at e2
   have q:=S.at_ n a x e1 e2
   obtain ⟨w,ew⟩:=q.has
   exact q.mono (Stp.made S hp).toCh (aC (aI ew hp))
  ·have l1:=(List.getElem?_eq_some_iff.mp e1).1
   simp at l1
   have hn':n=ρ.ob.length:=by omega
   subst hn'
   have e1:(ρ.ob++[p])[ρ.ob.length]?=some a:=e1
   rw [List.getElem?_append_right (Nat.le_refl _)] at e1
   rw [List.getElem?_append_right (by rw [S.len];exact Nat.le_refl _)] at e2
   simp at e1
   rw [S.len] at e2
   simp at e2
   subst e1;subst e2
   exact ho
 ·obtain ⟨⟨v,e⟩,n⟩:=S.rsv b hb
  have z:=aI e hp
  refine ⟨⟨v,by rw [aC z];exact e⟩,fun m=>?_⟩
  rcases List.mem_append.mp m with m | m
  ·exact n m
  ·exact z (List.mem_singleton.mp m)
theorem Stp.wrote (S:Sim K ρ h H) {a:Addr} {o:HO} (ha:a∈ρ.ob):Stp ρ H ρ (upd H a o):=
 ⟨⟨fun _ _ e=>e,fun b u n e=>⟨n,by rw [aC (fun (z:b=a)=>n (.inl (by rw [z];exact ha)))];exact e⟩⟩,rfl,fun b hb=>aC fun (z:b=a)=>(S.rsv b hb).2 (by rw [z];exact ha)⟩
theorem Sim.wrote (S:Sim K ρ h H) {n:Nat} {a:Addr} {u:HO} {o:MO} (e:ρ.ob[n]?=some a) (ho:ObR K ρ (upd H a u) a o):Sim K ρ (h.set n o) (upd H a u):=by
 have ha:=List.mem_of_getElem? e
 have T:Stp ρ H ρ (upd H a u):=Stp.wrote S ha
 refine ⟨by rw [List.length_set];exact S.len,S.nd,fun m b x e1 e2=>?_,fun b hb=>⟨by rw [T.res b hb];exact (S.rsv b hb).1,(S.rsv b hb).2⟩⟩
 by_cases hm:n=m
 ·subst hm
  have l2:n < h.length:=by rw [←S.len];exact (List.getElem?_eq_some_iff.mp e).1
  rw [e] at e1;cases e1
  rw [List.getElem?_set_self l2] at e2;cases e2
  exact ho
 ·rw [List.getElem?_set_ne hm] at e2
  have q:=S.at_ m b x e1 e2
  have hb:b≠a:=by
   intro z
   subst z
   exact hm ((List.getElem?_inj (List.getElem?_eq_some_iff.mp e).1 S.nd).mp (e.trans e1.symm))
  exact q.mono T.toCh (aC hb)
abbrev Ad.keep (ρ:Ad) (l:Addr):Ad:=⟨ρ.ob,l::ρ.rs⟩
theorem Ch.keep {l:Addr} {o:HO} (hl:H l=none):Ch ρ H (ρ.keep l) (upd H l o):=by
 refine ⟨fun n a e=>e,fun b u n e=>⟨fun m=>?_,by rw [aC (aI e hl)];exact e⟩⟩
 rcases m with m | m
 ·exact n (.inl m)
 ·rcases List.mem_cons.mp m with m | m
  ·exact aI e hl m
  ·exact n (.inr m)
theorem Sim.keep (S:Sim K ρ h H) {l:Addr} {o:HO} (hl:H l=none):Sim K (ρ.keep l) h (upd H l o):=by
 refine ⟨S.len,S.nd,fun n a x e1 e2=>?_,fun b hb=>?_⟩
 ·have q:=S.at_ n a x e1 e2
  obtain ⟨w,ew⟩:=q.has
  exact q.mono (Ch.keep hl) (aC (aI ew hl))
 ·rcases List.mem_cons.mp hb with rfl | hb
  ·exact ⟨⟨_,aT⟩,fun m=>S.fresh hl (.inl m)⟩
  ·obtain ⟨⟨v,e⟩,n⟩:=S.rsv b hb
   exact ⟨⟨v,by rw [aC (aI e hl)];exact e⟩,n⟩
theorem Ch.put {l:Addr} {o:HO} (hl:l∈ρ.rs):Ch ρ H ρ (upd H l o):=⟨fun n a e=>e,fun b u n e=>⟨n,by rw [aC (fun (z:b=l)=>n (.inr (by rw [z];exact hl)))];exact e⟩⟩
theorem Sim.put (S:Sim K ρ h H) {l:Addr} {o:HO} (hl:l∈ρ.rs):Sim K ρ h (upd H l o):=by
 refine ⟨S.len,S.nd,fun n a x e1 e2=>(S.at_ n a x e1 e2).mono (Ch.put hl) (aC fun (z:a=l)=>(S.rsv l hl).2 (by rw [←z];exact List.mem_of_getElem? e1)),fun b hb=>⟨?_,(S.rsv b hb).2⟩⟩
 by_cases z:b=l
 ·subst z;exact ⟨_,aT⟩
 ·rw [aC z];exact (S.rsv b hb).1
theorem Ch.free {os rs rs':List Addr} {H:Hp} (hs:∀b∈rs',b∈rs):Ch ⟨os,rs⟩ H ⟨os,rs'⟩ H:=⟨fun n a e=>e,fun b u n e=>⟨fun m=>n (m.elim .inl fun m=>.inr (hs b m)),e⟩⟩
theorem Sim.free {os rs rs':List Addr} {H:Hp} (S:Sim K ⟨os,rs⟩ h H) (hs:∀b∈rs',b∈rs):Sim K ⟨os,rs'⟩ h H:=
 ⟨S.len,S.nd,fun n a x e1 e2=>(S.at_ n a x e1 e2).mono (Ch.free hs) rfl,fun b hb=>S.rsv b (hs b hb)⟩
end
structure RepS (K:PySem.W.Frag) (ρ:Ad) (H:Hp) (σ:St) (δ:DS):Prop where
 len:σ.length=δ.length
 at_:∀(i:Nat) d,δ[i]?=some (some d)→∃v,σ[i]?=some (some v)∧Rep K ρ H v d
section
variable {K:PySem.W.Frag} {ρ ρ':Ad} {H H':Hp} {h:MH} {σ:St} {δ:DS}
theorem RepS.mono (R:RepS K ρ H σ δ) (S:Ch ρ H ρ' H'):RepS K ρ' H' σ δ:=⟨R.len,fun i d e=>let ⟨v,a,b⟩:=R.at_ i d e;⟨v,a,b.mono S⟩⟩
theorem RepS.set (R:RepS K ρ H σ δ) {v:V} {d:D} (r:Rep K ρ H v d) (i:Nat):RepS K ρ H (σ.set i (some v)) (δ.set i (some d)):=by
 refine ⟨by rw [List.length_set,List.length_set];exact R.len,fun j e he=>?_⟩
 by_cases hij:i=j
 ·subst hij
  have hl:i < δ.length:=by
   have:=(List.getElem?_eq_some_iff.mp he).1
   rw [List.length_set] at this
   exact this
  rw [List.getElem?_set_self hl] at he
  cases he
  exact ⟨v,by rw [List.getElem?_set_self (by rw [R.len];exact hl)],r⟩
 ·rw [List.getElem?_set_ne hij] at he ⊢
  exact R.at_ j e he
end
abbrev EM:=DS→MH→Option (D×MH)
abbrev TM:=DS→MH→Option (Bool×MH)
abbrev AM:=DS→MH→Option (List D×MH)
inductive Fl where
 | nx | bk | ct | rt (d:D)
abbrev SM:=DS→MH→Option (Fl×DS×MH)
abbrev GM:=D→DS→MH→Option (DS×MH)
abbrev Fn:=List D→MH→Option (D×MH)
inductive PostI (K:PySem.W.Frag) (ρ:Ad) (H:Hp) (h':MH) (d:D) (v:V) (H':Hp):Prop where
 | mk (ρ'):Stp ρ H ρ' H'→Sim K ρ' h' H'→Rep K ρ' H' v d→PostI K ρ H h' d v H'
def cb (K:PySem.W.Frag) (ρ:Ad) (H:Hp) (h':MH) (d:D):VK:=fun v H'=>PostI K ρ H h' d v H'
inductive TMi (K:PySem.W.Frag) (m:EM) (σ:L2.St) (H:Hp) (Q:VK):Prop where
 | mk (ρ δ h d h'):RepS K ρ H σ δ→Sim K ρ h H→(m δ h=some (d,h'))→(∀v H',cb K ρ H h' d v H'→Q v H')→TMi K m σ H Q
def tM (K:PySem.W.Frag) (m:EM):TE:=fun σ H Q=>TMi K m σ H Q
inductive TMTi (K:PySem.W.Frag) (m:TM) (σ:L2.St) (H:Hp) (Q:Bool→Hp→Prop):Prop where
 | mk (ρ δ h b h'):RepS K ρ H σ δ→Sim K ρ h H→(m δ h=some (b,h'))→(∀ρ' H',Stp ρ H ρ' H'→Sim K ρ' h' H'→Q b H')→TMTi K m σ H Q
def tMT (K:PySem.W.Frag) (m:TM):TT:=fun σ H Q=>TMTi K m σ H Q
inductive TMAi (K:PySem.W.Frag) (m:AM) (σ:L2.St) (H:Hp) (Q:List V→Hp→Prop):Prop where
 | mk (ρ δ h ds h'):RepS K ρ H σ δ→Sim K ρ h H→(m δ h=some (ds,h'))→(∀vs ρ' H',Stp ρ H ρ' H'→Sim K ρ' h' H'→RepL K ρ' H' vs ds→Q vs H')→TMAi K m σ H Q
def tMA (K:PySem.W.Frag) (m:AM):TA:=fun σ H Q=>TMAi K m σ H Q
inductive TMSi (K:PySem.W.Frag) (m:SM) (E:Ends) (σ:L2.St) (H:Hp):Prop where
 | mk (ρ δ h fl δ' h'):RepS K ρ H σ δ→Sim K ρ h H→(m δ h=some (fl,δ',h'))→(∀ρ' H',Stp ρ H ρ' H'→Sim K ρ' h' H'→
 match fl with
 | .nx=>∀σ',RepS K ρ' H' σ' δ'→E.nx σ' H'
 | .bk=>∀σ',RepS K ρ' H' σ' δ'→E.bk σ' H'
 | .ct=>∀σ',RepS K ρ' H' σ' δ'→E.ct σ' H'
 | .rt d=>∀v,Rep K ρ' H' v d→E.rt v H')→TMSi K m E σ H
def tMS (K:PySem.W.Frag) (m:SM):TS:=fun E σ H=>TMSi K m E σ H
inductive TMGi (K:PySem.W.Frag) (m:GM) (v:V) (σ:L2.St) (H:Hp) (Q:L2.St→Hp→Prop):Prop where
 | mk (ρ δ h d δ' h'):RepS K ρ H σ δ→Sim K ρ h H→Rep K ρ H v d→(m d δ h=some (δ',h'))→(∀ρ' H' σ',Stp ρ H ρ' H'→Sim K ρ' h' H'→RepS K ρ' H' σ' δ'→Q σ' H')→TMGi K m v σ H Q
def tMG (K:PySem.W.Frag) (m:GM):TG:=fun v σ H Q=>TMGi K m v σ H Q
def SE (X:Cx) (e:Expr) (m:EM):Prop:=PE X e (tM X.K m)
def ST (X:Cx) (e:Expr) (m:TM):Prop:=PT X e (tMT X.K m)
def SW (X:Cx) (e:Expr) (m:TM):Prop:=PW X e (tMT X.K m)
def SA (X:Cx) (es:List Expr) (m:AM):Prop:=PA X es (tMA X.K m)
def SS (X:Cx) (s:Stmt) (m:SM):Prop:=PS X s (tMS X.K m)
def SSs (X:Cx) (s:List Stmt) (m:SM):Prop:=PSs X s (tMS X.K m)
def SG (X:Cx) (e:Expr) (m:GM):Prop:=PG X e (tMG X.K m)
theorem _root_.L2.PE.imp {X:Cx} {e:Expr} {t t':TE} (h:PE X e t) (i:∀σ H Q,t' σ H Q→t σ H Q):PE X e t':=fun pins s σ H Q I q=>h pins s σ H Q I (i σ H Q q)
theorem _root_.L2.PT.imp {X:Cx} {e:Expr} {t t':TT} (h:PT X e t) (i:∀σ H Q,t' σ H Q→t σ H Q):PT X e t':=fun pins s σ H Q I q=>h pins s σ H Q I (i σ H Q q)
theorem _root_.L2.PW.imp {X:Cx} {e:Expr} {t t':TT} (h:PW X e t) (i:∀σ H Q,t' σ H Q→t σ H Q):PW X e t':=fun wh pins s σ H Q I q=>h wh pins s σ H Q I (i σ H Q q)
theorem _root_.L2.PA.imp {X:Cx} {e:List Expr} {t t':TA} (h:PA X e t) (i:∀σ H Q,t' σ H Q→t σ H Q):PA X e t':=fun pos pins s σ H Q I q=>h pos pins s σ H Q I (i σ H Q q)
theorem _root_.L2.PS.imp {X:Cx} {e:Stmt} {t t':TS} (h:PS X e t) (i:∀E σ H,t' E σ H→t E σ H):PS X e t':=fun pins s σ H E I q=>h pins s σ H E I (i E σ H q)
theorem _root_.L2.PSs.imp {X:Cx} {e:List Stmt} {t t':TS} (h:PSs X e t) (i:∀E σ H,t' E σ H→t E σ H):PSs X e t':=fun pins s σ H E I q=>h pins s σ H E I (i E σ H q)
theorem _root_.L2.PG.imp {X:Cx} {e:Expr} {t t':TG} (h:PG X e t) (i:∀v σ H Q,t' v σ H Q→t v σ H Q):PG X e t':=fun pins s σ H v u Q I r q=>h pins s σ H v u Q I r (i v σ H Q q)
end Sm
namespace Sm
open PySem L2
theorem bnd {α β:Type} {o:Option α} {f:α→Option β} {b:β} (h:o.bind f=some b):∃a,o=some a∧f a=some b:=Option.bind_eq_some_iff.mp h
theorem mpd {α β:Type} {o:Option α} {f:α→β} {b:β} (h:o.map f=some b):∃a,o=some a∧f a=b:=Option.map_eq_some_iff.mp h
theorem kS {x:D} {α:Type} {g:Bool→Option α} {z:α} (e:(match x with | .bl c=>g c | _=>none)=some z):∃c,x=.bl c∧g c=some z:=by
 cases x <;> first | exact absurd e (by intro z;cases z) | exact ⟨_,rfl,e⟩
section
variable {K:PySem.W.Frag} {ρ ρ':Ad} {H H':Hp} {h h':MH} {d:D} {v:V}
theorem cb.here (S:Sim K ρ h H) (r:Rep K ρ H v d):cb K ρ H h d v H:=⟨ρ,.refl _ _,S,r⟩
theorem cb.step {ρ1:Ad} {H1:Hp} (T:Stp ρ H ρ1 H1) (p:cb K ρ1 H1 h' d v H'):cb K ρ H h' d v H':=let ⟨ρ2,T2,S2,r2⟩:=p;⟨ρ2,T.trans T2,S2,r2⟩
theorem cb.tup {p:Addr} {vs:List V} {ds:List D} (S:Sim K ρ h H) (r:RepL K ρ H vs ds) (hp:H p=none):cb K ρ H h (.tup ds) (.ref p) (upd H p (.tup vs)):=
 ⟨ρ,Stp.laid S hp,S.laid hp,.tup (.inl ⟨.inl aT,S.fresh hp⟩) (r.mono (Stp.laid S hp).toCh)⟩
theorem cb.lv {p:Addr} {vs:List V} {ds:List D} (S:Sim K ρ h H) (r:RepL K ρ H vs ds) (hp:H p=none):cb K ρ H h (.lv ds) (.ref p) (upd H p (.lst vs)):=
 ⟨ρ,Stp.laid S hp,S.laid hp,.lv aT (S.fresh hp) (r.mono (Stp.laid S hp).toCh)⟩
theorem cb.dv {p:Addr} {us:List (Key×V)} {ds:List (Key×D)} (S:Sim K ρ h H) (r:RepK K ρ H us ds) (hp:H p=none):cb K ρ H h (.dv ds) (.ref p) (upd H p (.dK us)):=
 ⟨ρ,Stp.laid S hp,S.laid hp,.dv aT (S.fresh hp) (r.mono (Stp.laid S hp).toCh)⟩
end
def ai (i:Nat):EM:=fun δ h=>(δ[i]?).join.map fun d=>(d,h)
def eK (d:D):EM:=fun _ h=>some (d,h)
def eOp (f:D→D→MH→Option (D×MH)) (a b:EM):EM:=fun δ h=>(a δ h).bind fun p=>(b δ p.2).bind fun q=>f p.1 q.1 q.2
def eUn (f:D→MH→Option (D×MH)) (a:EM):EM:=fun δ h=>(a δ h).bind fun p=>f p.1 p.2
def au:AM:=fun _ h=>some ([],h)
def ae (a:EM) (r:AM):AM:=fun δ h=>(a δ h).bind fun p=>(r δ p.2).bind fun q=>some (p.1::q.1,q.2)
def eFn (f:Fn) (a:AM):EM:=fun δ h=>(a δ h).bind fun p=>f p.1 p.2
def eIf (t:TM) (a b:EM):EM:=fun δ h=>(t δ h).bind fun p=>if p.1 then a δ p.2 else b δ p.2
def bc (a:EM):TM:=fun δ h=>(a δ h).bind fun p=>match p.1 with
 | .bl b=>some (b,p.2)
 | _=>none
def bP (t:TM):TM:=fun δ h=>(t δ h).map fun p=>(!p.1,p.2)
def ox (a b:TM):TM:=fun δ h=>(a δ h).bind fun p=>if p.1 then b δ p.2 else some (false,p.2)
def tOr (a b:TM):TM:=fun δ h=>(a δ h).bind fun p=>if p.1 then some (true,p.2) else b δ p.2
def eQ (a b:EM):EM:=fun δ h=>(a δ h).bind fun p=>match p.1 with
 | .bl c=>if c then b δ p.2 else some (.bl false,p.2)
 | _=>none
def eOr (a b:EM):EM:=fun δ h=>(a δ h).bind fun p=>match p.1 with
 | .bl c=>if c then some (.bl true,p.2) else b δ p.2
 | _=>none
def bH:Fn:=fun ds h=>some (.tup ds,h)
inductive RSi (K:PySem.W.Frag) (f:D→D→MH→Option (D×MH)) (x y:V) (H:Hp) (Q:VK):Prop where
 | mk (ρ h d e z h'):Sim K ρ h H→Rep K ρ H x d→Rep K ρ H y e→(f d e h=some (z,h'))→(∀v H',cb K ρ H h' z v H'→Q v H')→RSi K f x y H Q
def rS (K:PySem.W.Frag) (f:D→D→MH→Option (D×MH)):R2:=fun x y H Q=>RSi K f x y H Q
def OpS (X:Cx) (g:Value→Value→Sem Value) (f:D→D→MH→Option (D×MH)):Prop:=OpR X g (rS X.K f)
inductive RUi (K:PySem.W.Frag) (f:D→MH→Option (D×MH)) (x:V) (H:Hp) (Q:VK):Prop where
 | mk (ρ h d z h'):Sim K ρ h H→Rep K ρ H x d→(f d h=some (z,h'))→(∀v H',cb K ρ H h' z v H'→Q v H')→RUi K f x H Q
def rU (K:PySem.W.Frag) (f:D→MH→Option (D×MH)):V→Hp→VK→Prop:=fun x H Q=>RUi K f x H Q
inductive RFi (K:PySem.W.Frag) (f:Fn) (vs:List V) (H:Hp) (Q:VK):Prop where
 | mk (ρ h ds z h'):Sim K ρ h H→RepL K ρ H vs ds→(f ds h=some (z,h'))→(∀v H',cb K ρ H h' z v H'→Q v H')→RFi K f vs H Q
def rF (K:PySem.W.Frag) (f:Fn):List V→Hp→VK→Prop:=fun vs H Q=>RFi K f vs H Q
def fv (X:Cx) (g:Value) (f:Fn):Prop:=cE X g (rF X.K f)
section
variable {X:Cx} {a b c e:Expr} {es:List Expr} {pos:Pos} {ma mb mc:EM} {mt mu:TM} {m:AM} {f:D→D→MH→Option (D×MH)}
theorem sU {i:Nat} {x:Str} (hN:X.N[i]?=some x) (hv:Vis X.env.scope x) (hd:(x==("__debug__":Str))=false:=by kernel_rfl) (hcd:(x==("__classdict__":Str))=false:=by kernel_rfl):SE X (.Name x pos) (ai i):=
 (ub hN hv hd hcd).imp fun σ H Q ⟨ρ,δ,h,d,h',R,S,e,k⟩=>by
  obtain ⟨d',e1,e2⟩:=mpd e
  cases e2
  obtain ⟨v,ev,r⟩:=R.at_ i _ (Option.join_eq_some_iff.mp e1)
  exact ⟨v,ev,k v H (.here S r)⟩
theorem nr {v:V} {d:D} (hp:PE X e (tC v)) (hr:∀ρ H,Rep X.K ρ H v d):SE X e (eK d):=hp.imp fun σ H Q ⟨ρ,δ,h,d',h',R,S,ee,k⟩=>by
 cases ee
 exact k v H (.here S (hr _ _))
theorem aq {i j}:SE X (.Constant (.int i) j pos) (eK (.int i)):=nr um fun _ _=>.int i
theorem bK {b j}:SE X (.Constant (.bool b) j pos) (eK (.bl b)):=nr wQ fun _ _=>.bl b
theorem fC {j}:SE X (.Constant .none j pos) (eK .non):=nr uh fun _ _=>.non
theorem aY {x j} (h:PyData.strOk x=true:=by decide+kernel):SE X (.Constant (.str x) j pos) (eK (.str x)):=nr ue fun _ _=>.str h
theorem cG {x:Str} {n:String} (hg:Gl X x) (hm:X.mg x=none) (hv:bootBuiltins x=some (.type n)) (hn:x≠"__name__":=by decide) (hd:(x==("__debug__":Str))=false:=by kernel_rfl):SE X (.Name x pos) (eK (.ty n)):=
 nr (qU (v:=.ty n) hg hm hv rfl hn hd) fun _ _=>.ty n
theorem qr {x:Str} {v:V} {u:Value} {d:D} (hg:Gl X x) (hm:X.mg x=some u) (r:RelV v u) (hr:∀ρ H,Rep X.K ρ H v d) (hd:(x==("__debug__":Str))=false:=by kernel_rfl):SE X (.Name x pos) (eK d):=
 nr (qR hg hm r hd) hr
theorem mr {σ:St} {H:Hp} {Q:VK} (h:tM X.K (eOp f ma mb) σ H Q):tOp (rS X.K f) (tM X.K ma) (tM X.K mb) σ H Q:=by
 obtain ⟨ρ,δ,h,d,h',R,S,e,k⟩:=h
 obtain ⟨⟨x,h1⟩,e1,e⟩:=bnd e
 obtain ⟨⟨y,h2⟩,e2,e3⟩:=bnd e
 refine ⟨ρ,δ,h,x,h1,R,S,e1,fun v H1 ⟨ρ1,T1,S1,r1⟩=>?_⟩
 refine ⟨ρ1,δ,h1,y,h2,R.mono T1,S1,e2,fun u H2 ⟨ρ2,T2,S2,r2⟩=>?_⟩
 exact ⟨ρ2,h2,x,y,d,h',S2,r1.mono T2,r2,e3,fun w H3 p=>k w H3 (p.step (T1.trans T2))⟩
theorem aL {op:Operator} (ho:OpS X (binaryOp op) f) (ha:SE X a ma) (hb:SE X b mb):SE X (.BinOp a op b pos) (eOp f ma mb):=(wN ho ha hb).imp fun _ _ _=>mr
theorem bY {op:CmpOp} (ho:OpS X (compareOp op) f) (ha:SE X a ma) (hb:SE X b mb) (hm:behindInMarks op b=false):SE X (.Compare a [op] [b] pos) (eOp f ma mb):=(qS ho ha hb hm).imp fun _ _ _=>mr
theorem bq {op:CmpOp} (ho:OpS X (compareOp op) f) (ha:SE X a ma) (hb:SE X b mb) (hm:behindInMarks op b=false):ST X (.Compare a [op] [b] pos) (bc (eOp f ma mb)):=
 (qF ho ha hb hm).imp fun σ H Q ⟨ρ,δ,h,c,h',R,S,e,k⟩=>by
  obtain ⟨⟨x,h1⟩,e1,e2⟩:=bnd e
  obtain ⟨c',rfl,e2⟩:=kS e2
  cases e2
  refine mr ⟨ρ,δ,h,.bl c,h1,R,S,e1,fun v H' ⟨ρ',T,S',r⟩=>?_⟩
  cases r
  exact ⟨c,rfl,k ρ' H' T S'⟩
theorem oF {op:UnaryOp} {f:D→MH→Option (D×MH)} (ho:UnR X (unaryOp op) (rU X.K f)) (ha:SE X a ma):SE X (.UnaryOp op a pos) (eUn f ma):=(wL ho ha).imp fun σ H Q ⟨ρ,δ,h,d,h',R,S,e,k⟩=>by
 obtain ⟨⟨x,h1⟩,e1,e⟩:=bnd e
 exact ⟨ρ,δ,h,x,h1,R,S,e1,fun v H1 ⟨ρ1,T1,S1,r1⟩=>⟨ρ1,h1,x,d,h',S1,r1,e,fun w H3 p=>k w H3 (p.step T1)⟩⟩
theorem af:SA X [] au:=lK.imp fun σ H Q ⟨ρ,δ,h,d,h',R,S,e,k⟩=>by
 cases e
 exact k [] ρ H (.refl _ _) S .nil
theorem aa (ha:SE X e ma) (hr:SA X es m) (hs:starEach (e::es) X.env=(false,eval e X.env)::starEach es X.env:=by kernel_rfl):SA X (e::es) (ae ma m):=
 (jw ha hr hs).imp fun σ H Q ⟨ρ,δ,h,d,h',R,S,e,k⟩=>by
  obtain ⟨⟨x,h1⟩,e1,e⟩:=bnd e
  obtain ⟨⟨ys,h2⟩,e2,e3⟩:=bnd e
  cases e3
  refine ⟨ρ,δ,h,x,h1,R,S,e1,fun v H1 ⟨ρ1,T1,S1,r1⟩=>?_⟩
  exact ⟨ρ1,δ,h1,ys,h2,R.mono T1,S1,e2,fun vs ρ2 H2 T2 S2 rs=>k _ ρ2 H2 (T1.trans T2) S2 (.cons (r1.mono T2) rs)⟩
def gz (m:AM) (n:Nat):Prop:=∀δ h ds h',m δ h=some (ds,h')→ds.length=n
theorem ak:gz au 0:=fun δ h ds h' e=>by cases e;rfl
theorem ab {n:Nat} (hr:gz m n):gz (ae ma m) (n+1):=fun δ h ds h' e=>by
 obtain ⟨⟨x,h1⟩,e1,e⟩:=bnd e
 obtain ⟨⟨ys,h2⟩,e2,e3⟩:=bnd e
 cases e3
 rw [List.length_cons,hr _ _ _ _ e2]
theorem aP {x1} {n:Nat} (h:SA X es m) (hl:gz m n) (hn:n≤sizeLine:=by decide):SE X (.Tuple es x1 pos) (eFn bH m):=(uc h).imp fun σ H Q ⟨ρ,δ,h,d,h',R,S,e,k⟩=>by
 obtain ⟨⟨x,h1⟩,e1,e⟩:=bnd e
 cases e
 refine ⟨ρ,δ,h,x,h1,R,S,e1,fun vs ρ1 H1 T1 S1 r1=>⟨by rw [r1.length,hl _ _ _ _ e1];exact hn,fun p hp=>k _ _ (cb.step T1 (.tup S1 r1 hp))⟩⟩
inductive TFLi (K:PySem.W.Frag) (m:AM) (σ:L2.St) (H:Hp) (Q:VK):Prop where
 | mk (ρ δ h ds h'):RepS K ρ H σ δ→Sim K ρ h H→(m δ h=some (ds,h'))→(∀ρ1 H1 p vs,Stp ρ H ρ1 H1→Sim K ρ1 h' H1→H1 p=none→RepL K ρ1 H1 vs ds→Q (.ref p) (upd H1 p (.lst vs)))→TFLi K m σ H Q
def tFL (K:PySem.W.Frag) (m:AM):TE:=fun σ H Q=>TFLi K m σ H Q
def SFL (X:Cx) (e:Expr) (m:AM):Prop:=PE X e (tFL X.K m)
def eLv (m:AM):EM:=fun δ h=>(m δ h).map fun p=>(.lv p.1,p.2)
def eOb (m:AM):EM:=fun δ h=>(m δ h).map fun p=>(.ob p.2.length,p.2++[.lst p.1])
theorem cb.ob {K:PySem.W.Frag} {ρ:Ad} {H:Hp} {h:MH} {p:Addr} {vs:List V} {ds:List D} (S:Sim K ρ h H) (r:RepL K ρ H vs ds) (hp:H p=none):cb K ρ H (h++[.lst ds]) (.ob h.length) (.ref p) (upd H p (.lst vs)):=
 ⟨ρ.more p,Stp.made S hp,S.made hp ⟨vs,aT,r.mono (Stp.made S hp).toCh⟩,.ob (show (ρ.ob++[p])[h.length]?=_ by rw [←S.len,List.getElem?_append_right (Nat.le_refl _)];simp)⟩
theorem SFL.lv (h:SFL X e m):SE X e (eLv m):=h.imp fun σ H Q ⟨ρ,δ,h,d,h',R,S,e,k⟩=>by
 obtain ⟨⟨ds,h1⟩,e1,e2⟩:=mpd e
 cases e2
 exact ⟨ρ,δ,h,ds,h1,R,S,e1,fun ρ1 H1 p vs T S1 hp r=>k _ _ (cb.step T (.lv S1 r hp))⟩
theorem SFL.ob (h:SFL X e m):SE X e (eOb m):=h.imp fun σ H Q ⟨ρ,δ,h,d,h',R,S,e,k⟩=>by
 obtain ⟨⟨ds,h1⟩,e1,e2⟩:=mpd e
 cases e2
 exact ⟨ρ,δ,h,ds,h1,R,S,e1,fun ρ1 H1 p vs T S1 hp r=>k _ _ (cb.step T (.ob S1 r hp))⟩
theorem jk {n:Nat} (h:SA X es m) (hl:gz m n) (hn:n≤sizeLine:=by decide):SFL X (.List es pos) m:=(uk h).imp fun σ H Q ⟨ρ,δ,h,ds,h',R,S,e,k⟩=>
 ⟨ρ,δ,h,ds,h',R,S,e,fun vs ρ1 H1 T1 S1 r1=>⟨by rw [r1.length,hl _ _ _ _ e];exact hn,fun p hp=>k ρ1 H1 p vs T1 S1 hp r1⟩⟩
def eDv:EM:=fun _ h=>some (.dv [],h)
def eDo:EM:=fun _ h=>some (.ob h.length,h++[.dct []])
theorem wk:SE X (.Dict [] [] pos) eDv:=o2.imp fun σ H Q ⟨ρ,δ,h,d,h',R,S,e,k⟩ p hp=>by
 cases e
 exact k _ _ (.dv S .nil hp)
theorem qA {σ:St} {H:Hp} {Q:Bool→Hp→Prop} (h:tMT X.K (bc ma) σ H Q):tM X.K ma σ H fun x H1=>∃c,x=.bl c∧Q c H1:=by
 obtain ⟨ρ,δ,h,c,h',R,S,e,k⟩:=h
 obtain ⟨⟨x,h1⟩,e1,e2⟩:=bnd e
 obtain ⟨c',rfl,e2⟩:=kS e2
 cases e2
 refine ⟨ρ,δ,h,.bl c,h1,R,S,e1,fun v H' ⟨ρ',T,S',r⟩=>?_⟩
 cases r
 exact ⟨c,rfl,k ρ' H' T S'⟩
theorem aX (h:ST X a mt):ST X (.UnaryOp .Not a pos) (bP mt):=(tU h).imp fun σ H Q ⟨ρ,δ,h,c,h',R,S,e,k⟩=>by
 obtain ⟨⟨x,h1⟩,e1,e2⟩:=mpd e
 cases e2
 exact ⟨ρ,δ,h,x,h1,R,S,e1,fun ρ' H' T S'=>k ρ' H' T S'⟩
theorem qh (h:ST X a mt):SW X (.BoolOp .And [a] pos) mt:=qE h
theorem bW (h:ST X a mt):SW X (.BoolOp .Or [a] pos) mt:=tS h
theorem sL {rest:List Expr} (ha:ST X a mt) (hb:SW X (.BoolOp .And (b::rest) pos) mu):SW X (.BoolOp .And (a::b::rest) pos) (ox mt mu):=(tT ha hb).imp fun σ H Q ⟨ρ,δ,h,c,h',R,S,e,k⟩=>by
 obtain ⟨⟨x,h1⟩,e1,e2⟩:=bnd e
 refine ⟨ρ,δ,h,x,h1,R,S,e1,fun ρ' H' T S'=>?_⟩
 cases x with
 | true=>rw [if_pos rfl] at e2 ⊢;exact ⟨ρ',δ,h1,c,h',R.mono T,S',e2,fun ρ2 H2 T2 S2=>k ρ2 H2 (T.trans T2) S2⟩
 | false=>rw [if_neg (by simp)] at e2 ⊢;cases e2;exact k ρ' H' T S'
theorem cn {rest:List Expr} (ha:ST X a mt) (hb:SW X (.BoolOp .Or (b::rest) pos) mu):SW X (.BoolOp .Or (a::b::rest) pos) (tOr mt mu):=(wJ ha hb).imp fun σ H Q ⟨ρ,δ,h,c,h',R,S,e,k⟩=>by
 obtain ⟨⟨x,h1⟩,e1,e2⟩:=bnd e
 refine ⟨ρ,δ,h,x,h1,R,S,e1,fun ρ' H' T S'=>?_⟩
 cases x with
 | false=>rw [if_neg (by simp)] at e2 ⊢;exact ⟨ρ',δ,h1,c,h',R.mono T,S',e2,fun ρ2 H2 T2 S2=>k ρ2 H2 (T.trans T2) S2⟩
 | true=>rw [if_pos rfl] at e2 ⊢;cases e2;exact k ρ' H' T S'
theorem SW.st (h:SW X a mt):ST X a mt:=PW.pt h
theorem cN {op} (h:SE X a ma):SE X (.BoolOp op [a] pos) ma:=uf h
theorem cz {rest:List Expr} (ha:SE X a ma) (hb:SE X (.BoolOp .And (b::rest) pos) mb):SE X (.BoolOp .And (a::b::rest) pos) (eQ ma mb):=(uo ha hb).imp fun σ H Q ⟨ρ,δ,h,d,h',R,S,e,k⟩=>by
 obtain ⟨⟨x,h1⟩,e1,e2⟩:=bnd e
 obtain ⟨c,rfl,e2⟩:=kS e2
 refine ⟨ρ,δ,h,.bl c,h1,R,S,e1,fun v H' ⟨ρ',T,S',r⟩=>?_⟩
 cases r
 refine ⟨c,rfl,?_⟩
 cases c with
 | true=>rw [if_pos rfl] at e2 ⊢;exact ⟨ρ',δ,h1,d,h',R.mono T,S',e2,fun v H2 p=>k v H2 (p.step T)⟩
 | false=>rw [if_neg (by simp)] at e2 ⊢;cases e2;exact k _ _ ⟨ρ',T,S',.bl _⟩
theorem wj {rest:List Expr} (ha:SE X a ma) (hb:SE X (.BoolOp .Or (b::rest) pos) mb):SE X (.BoolOp .Or (a::b::rest) pos) (eOr ma mb):=(wM ha hb).imp fun σ H Q ⟨ρ,δ,h,d,h',R,S,e,k⟩=>by
 obtain ⟨⟨x,h1⟩,e1,e2⟩:=bnd e
 obtain ⟨c,rfl,e2⟩:=kS e2
 refine ⟨ρ,δ,h,.bl c,h1,R,S,e1,fun v H' ⟨ρ',T,S',r⟩=>?_⟩
 cases r
 refine ⟨c,rfl,?_⟩
 cases c with
 | false=>rw [if_neg (by simp)] at e2 ⊢;exact ⟨ρ',δ,h1,d,h',R.mono T,S',e2,fun v H2 p=>k v H2 (p.step T)⟩
 | true=>rw [if_pos rfl] at e2 ⊢;cases e2;exact k _ _ ⟨ρ',T,S',.bl _⟩
def vA (a:EM):EM:=fun δ h=>(a δ h).bind fun p=>match p.1 with
 | .bl c=>some (.bl (!c),p.2)
 | _=>none
theorem sV (ha:SE X a ma):SE X (.UnaryOp .Not a pos) (vA ma):=(ug ha).imp fun σ H Q ⟨ρ,δ,h,d,h',R,S,e,k⟩=>by
 obtain ⟨⟨x,h1⟩,e1,e2⟩:=bnd e
 obtain ⟨c,rfl,e2⟩:=kS e2
 cases e2
 refine ⟨ρ,δ,h,.bl c,h1,R,S,e1,fun v H' ⟨ρ',T,S',r⟩=>?_⟩
 cases r
 exact ⟨c,rfl,k _ _ ⟨ρ',T,S',.bl _⟩⟩
def ou (d:D) (h:MH):Option Bool:=match d with
 | .non=>some false
 | .bl b=>some b
 | .int i=>some (i !=0)
 | .str x=>if x.length≤sizeLine then some ((x.length:Int) !=0) else none
 | .tup xs=>some (!xs.isEmpty)
 | .dv kvs=>some (!kvs.isEmpty)
 | .ob n=>match h[n]? with
  | some (.lst xs)=>some (!xs.isEmpty)
  | some (.dct kvs)=>some (!kvs.isEmpty)
  | none=>none
 | .lv xs=>some (!xs.isEmpty)
 | .ro xs=>some (!xs.isEmpty)
 | .ty _=>none
def cp (a:EM):TM:=fun δ h=>(a δ h).bind fun p=>(ou p.1 p.2).map fun c=>(c,p.2)
theorem RepK.isEmpty {K:PySem.W.Frag} {ρ:Ad} {H:Hp} {us:List (Key×V)} {ds:List (Key×D)} (t:RepK K ρ H us ds):us.isEmpty=ds.isEmpty:=by cases t <;> rfl
theorem qf {K:PySem.W.Frag} {ρ:Ad} {H:Hp} {h:MH} {v:V} {d:D} {c:Bool} (S:Sim K ρ h H) (r:Rep K ρ H v d) (e:ou d h=some c):vI K v H c:=by
 cases r with
 | non=>cases e;exact rfl
 | bl b=>cases e;exact rfl
 | int i=>cases e;exact rfl
 | str hs=>
  unfold ou at e
  by_cases z:‹Str›.length≤sizeLine
  ·simp only [if_pos z] at e;cases e;exact ⟨z,rfl⟩
  ·simp only [if_neg z] at e;cases e
 | ty n=>cases e
 | tup ht l=>cases e;exact .inr (.inl ⟨_,ht.sq,by rw [l.isEmpty]⟩)
 | lv ht n l=>cases e;exact .inl ⟨_,SqL.of ht,by rw [l.isEmpty]⟩
 | ro ht l=>cases e;exact .inl ⟨_,ht.sq,by rw [l.isEmpty]⟩
 | dv ht n l=>cases e;exact .inr (.inr ⟨_,ht,by rw [l.isEmpty]⟩)
 | ob hn=>
  unfold ou at e
  rename_i a n
  cases q:h[n]? with
  | none=>simp only [q] at e;cases e
  | some o=>
   have x:=S.at_ n a o hn q
   cases o with
   | lst ds=>simp only [q] at e;cases e;obtain ⟨vs,e1,l⟩:=x;exact .inl ⟨_,SqL.of e1,by rw [l.isEmpty]⟩
   | dct ds=>simp only [q] at e;cases e;obtain ⟨vs,e1,l⟩:=x;exact .inr (.inr ⟨_,e1,by rw [l.isEmpty]⟩)
theorem ba (ha:SE X a ma) (he:∀whole,isTrue a X.env whole=(do let v←whole;standAt a.pos;holding [v] (truthy v)):=by intro _;kernel_rfl):ST X a (cp ma):=(oS ha he).imp fun σ H Q ⟨ρ,δ,h,c,h',R,S,e,k⟩=>by
 obtain ⟨⟨x,h1⟩,e1,e2⟩:=bnd e
 obtain ⟨c',e3,e4⟩:=mpd e2
 cases e4
 exact ⟨ρ,δ,h,x,h1,R,S,e1,fun v H' ⟨ρ',T,S',r⟩=>⟨c,qf S' r e3,k ρ' H' T S'⟩⟩
end
end Sm
namespace Sm
open PySem L2
mutual
def cC:D→D→Bool
 | .non,.non=>true
 | .bl a,.bl b=>a==b
 | .int a,.int b=>a==b
 | .str a,.str b=>decide (a=b)
 | .ty a,.ty b=>a==b
 | .tup a,.tup b=>il a b
 | .lv a,.lv b=>il a b
 | .ro a,.ro b=>il a b
 | .dv a,.dv b=>jV a b
 | .ob a,.ob b=>a==b
 | _,_=>false
def il:List D→List D→Bool
 | [],[]=>true
 | a::r,b::s=>cC a b&&il r s
 | _,_=>false
def jV:List (Key×D)→List (Key×D)→Bool
 | [],[]=>true
 | (k,a)::r,(j,b)::s=>decide (k=j)&&cC a b&&jV r s
 | _,_=>false
end
mutual
theorem mT:∀(a b:D),cC a b=true→a=b
 | .non,b,h=>by cases b <;> first | rfl | simp [cC] at h
 | .bl x,b,h=>by cases b <;> simp [cC] at h;rw [h]
 | .int x,b,h=>by cases b <;> simp [cC] at h;rw [h]
 | .str x,b,h=>by cases b <;> simp [cC] at h;rw [h]
 | .ty x,b,h=>by cases b <;> simp [cC] at h;rw [h]
 | .ob x,b,h=>by cases b <;> simp [cC] at h;rw [h]
 | .tup x,b,h=>by cases b <;> simp [cC] at h;rw [ft _ _ h]
 | .lv x,b,h=>by cases b <;> simp [cC] at h;rw [ft _ _ h]
 | .ro x,b,h=>by cases b <;> simp [cC] at h;rw [ft _ _ h]
 | .dv x,b,h=>by cases b <;> simp [cC] at h;rw [jU _ _ h]
theorem ft:∀(a b:List D),il a b=true→a=b
 | [],b,h=>by cases b <;> first | rfl | simp [il] at h
 | x::r,b,h=>by
  cases b with
  | nil=>simp [il] at h
  | cons y s=>simp [il] at h;rw [mT _ _ h.1,ft _ _ h.2]
theorem jU:∀(a b:List (Key×D)),jV a b=true→a=b
 | [],b,h=>by cases b <;> first | rfl | simp [jV] at h
 | (k,x)::r,b,h=>by
  cases b with
  | nil=>simp [jV] at h
  | cons y s=>
   obtain ⟨j,y⟩:=y
   simp [jV] at h
   rw [h.1.1,mT _ _ h.1.2,jU _ _ h.2]
end
mutual
theorem je:∀(a:D),cC a a=true
 | .non=>rfl
 | .bl x=>by simp [cC]
 | .int x=>by simp [cC]
 | .str x=>by simp [cC]
 | .ty x=>by simp [cC]
 | .ob x=>by simp [cC]
 | .tup x=>by simp [cC];exact cX x
 | .lv x=>by simp [cC];exact cX x
 | .ro x=>by simp [cC];exact cX x
 | .dv x=>by simp [cC];exact fX x
theorem cX:∀(a:List D),il a a=true
 | []=>rfl
 | x::r=>by simp [il];exact ⟨je x,cX r⟩
theorem fX:∀(a:List (Key×D)),jV a a=true
 | []=>rfl
 | (k,x)::r=>by simp [jV];exact ⟨je x,fX r⟩
end
def oh:MO→MO→Bool
 | .lst a,.lst b=>il a b
 | .dct a,.dct b=>jV a b
 | _,_=>false
theorem sf {a b:MO} (h:oh a b=true):a=b:=by
 cases a <;> cases b <;> simp [oh] at h
 ·rw [ft _ _ h]
 ·rw [jU _ _ h]
theorem og (a:MO):oh a a=true:=by
 cases a with
 | lst x=>exact cX x
 | dct x=>exact fX x
def bO:SM:=fun δ h=>some (.nx,δ,h)
def xQ:SM:=fun δ h=>some (.bk,δ,h)
def wm:SM:=fun δ h=>some (.ct,δ,h)
def aH (a b:SM):SM:=fun δ h=>(a δ h).bind fun r=>match r.1 with
 | .nx=>b r.2.1 r.2.2
 | _=>some r
def bw (i:Nat) (e:EM):SM:=fun δ h=>(e δ h).bind fun p=>some (.nx,δ.set i (some p.1),p.2)
def eG (e:EM) (g:GM):SM:=fun δ h=>(e δ h).bind fun p=>(g p.1 δ p.2).bind fun q=>some (.nx,q.1,q.2)
def oJ (e:EM):SM:=fun δ h=>(e δ h).bind fun p=>some (.nx,δ,p.2)
def a8 (e:EM):SM:=fun δ h=>(e δ h).bind fun p=>some (.rt p.1,δ,p.2)
def sIf (t:TM) (a b:SM):SM:=fun δ h=>(t δ h).bind fun p=>if p.1 then a δ p.2 else b δ p.2
def sX (i:Nat) (f:D→D→MH→Option (D×MH)) (e:EM):SM:=fun δ h=>((δ[i]?).join).bind fun x=>(e δ h).bind fun p=>(f x p.1 p.2).bind fun q=>some (.nx,δ.set i (some q.1),q.2)
def gN (i:Nat):GM:=fun d δ h=>some (δ.set i (some d),h)
abbrev GMs:=List D→DS→MH→Option (DS×MH)
def cV:GMs:=fun ds δ h=>match ds with
 | []=>some (δ,h)
 | _=>none
def aN (g:GM) (u:GMs):GMs:=fun ds δ h=>match ds with
 | []=>none
 | d::r=>(g d δ h).bind fun p=>u r p.1 p.2
def gT (n:Nat) (u:GMs):GM:=fun d δ h=>match d with
 | .tup xs=>if xs.length=n then u xs δ h else none
 | _=>none
abbrev W:=List (Nat×MO)
abbrev IM:=DS→MH→Option (List D×W×MH)
def chk:W→MH→Bool
 | [],_=>true
 | (n,o)::r,h=>(match h[n]? with | some u=>oh u o | none=>false)&&chk r h
def fg (ws:W) (g:GM) (b:SM):List D→SM
 | [],δ,h=>if chk ws h then some (.nx,δ,h) else none
 | x::r,δ,h=>if chk ws h then (g x δ h).bind fun q=>(b q.1 q.2).bind fun z=>match z.1 with
  | .nx=>fg ws g b r z.2.1 z.2.2
  | .ct=>fg ws g b r z.2.1 z.2.2
  | .bk=>some (.nx,z.2.1,z.2.2)
  | .rt d=>some (.rt d,z.2.1,z.2.2)
  else none
def j8 (i:IM) (g:GM) (b:SM):SM:=fun δ h=>(i δ h).bind fun p=>fg p.2.1 g b p.1 δ p.2.2
section
variable {X:Cx} {a b c e tg iter:Expr} {es:List Expr} {st:Stmt} {sts rest:List Stmt} {pos:Pos} {ma mb:EM} {mt:TM} {ms mu:SM} {m:AM} {g:GM} {gs:GMs}
theorem aR:SSs X [] bO:=qH.imp fun E σ H ⟨ρ,δ,h,fl,δ',h',R,S,e,k⟩=>by
 cases e
 exact k ρ H (.refl _ _) S σ R
theorem tq {E:Ends} {σ:St} {H:Hp} (hh:tMS X.K (aH ms mu) E σ H):vY (tMS X.K ms) (tMS X.K mu) E σ H:=by
 obtain ⟨ρ,δ,h,fl,δ',h',R,S,e,k⟩:=hh
 obtain ⟨⟨f1,δ1,h1⟩,e1,e2⟩:=bnd e
 cases f1 with
 | nx=>exact ⟨ρ,δ,h,.nx,δ1,h1,R,S,e1,fun ρ1 H1 T1 S1 σ' R'=>⟨ρ1,δ1,h1,fl,δ',h',R',S1,e2,fun ρ2 H2 T2 S2=>k ρ2 H2 (T1.trans T2) S2⟩⟩
 | bk=>cases e2;exact ⟨ρ,δ,h,.bk,_,_,R,S,e1,fun ρ1 H1 T1 S1=>k ρ1 H1 T1 S1⟩
 | ct=>cases e2;exact ⟨ρ,δ,h,.ct,_,_,R,S,e1,fun ρ1 H1 T1 S1=>k ρ1 H1 T1 S1⟩
 | rt d=>cases e2;exact ⟨ρ,δ,h,.rt d,_,_,R,S,e1,fun ρ1 H1 T1 S1=>k ρ1 H1 T1 S1⟩
theorem ao (h1:SS X st ms) (h2:SSs X rest mu):SSs X (st::rest) (aH ms mu):=(oU h1 h2).imp fun _ _ _=>tq
theorem ax (h1:SS X st ms):SSs X [st] ms:=qG h1
theorem lH {E:Ends} {σ:St} {H:Hp} {i:Nat} (hh:tMS X.K (bw i ma) E σ H):ni (tM X.K ma) (gm i) E σ H:=by
 obtain ⟨ρ,δ,h,fl,δ',h',R,S,e,k⟩:=hh
 obtain ⟨⟨x,h1⟩,e1,e2⟩:=bnd e
 cases e2
 exact ⟨ρ,δ,h,x,h1,R,S,e1,fun v H1 ⟨ρ1,T1,S1,r1⟩=>k ρ1 H1 T1 S1 _ ((R.mono T1).set r1 i)⟩
theorem sN {i:Nat} {x:Str} {pos':Pos} (hN:X.N.Nodup) (hi:X.N[i]?=some x) (hx:Loc X.env.scope x) (he:SE X e ma) (hs:swapsWith e (some (.Name x pos')) pos.line X.env=pure false:=by kernel_rfl)
  (hf:X.fn x=true∨X.env.scope.names.lookup x=some .local:=by first | exact .inl rfl | exact .inr rfl | assumption):SS X (.Assign [.Name x pos'] e pos) (bw i ma):=(tW hN hi hx he hs hf).imp fun _ _ _=>lH
theorem qq {i:Nat} {x:Str} (hN:X.N.Nodup) (hi:X.N[i]?=some x) (hx:Loc X.env.scope x) (hf:X.fn x=true∨X.env.scope.names.lookup x=some .local:=by first | exact .inl rfl | exact .inr rfl | assumption):SG X (.Name x pos) (gN i):=
 (qQ hN hi hx hf).imp fun v σ H Q ⟨ρ,δ,h,d,δ',h',R,S,r,e,k⟩=>by
  cases e
  exact k ρ H _ (.refl _ _) S (R.set r i)
inductive TMGsi (K:PySem.W.Frag) (m:GMs) (vs:List V) (σ:L2.St) (H:Hp) (Q:L2.St→Hp→Prop):Prop where
 | mk (ρ δ h ds δ' h'):RepS K ρ H σ δ→Sim K ρ h H→RepL K ρ H vs ds→(m ds δ h=some (δ',h'))→(∀ρ' H' σ',Stp ρ H ρ' H'→Sim K ρ' h' H'→RepS K ρ' H' σ' δ'→Q σ' H')→TMGsi K m vs σ H Q
def xJ (K:PySem.W.Frag) (m:GMs):TGs:=fun vs σ H Q=>TMGsi K m vs σ H Q
def SGs (X:Cx) (es:List Expr) (m:GMs):Prop:=PGs X es (xJ X.K m)
theorem _root_.L2.PGs.imp {X:Cx} {e:List Expr} {t t':TGs} (h:PGs X e t) (i:∀v σ H Q,t' v σ H Q→t v σ H Q):PGs X e t':=fun pins s σ H v u Q I r q=>h pins s σ H v u Q I r (i v σ H Q q)
theorem cq:SGs X [] cV:=qP.imp fun v σ H Q ⟨ρ,δ,h,d,δ',h',R,S,r,e,k⟩=>by
 cases r with
 | nil=>cases e;exact ⟨rfl,k ρ H σ (.refl _ _) S R⟩
 | cons _ _=>cases e
theorem aG (h1:SG X e g) (h2:SGs X es gs) (hs:(assignEach (e::es) X.env).map (·.2)=assign e X.env::(assignEach es X.env).map (·.2):=by kernel_rfl):SGs X (e::es) (aN g gs):=(oY h1 h2 hs).imp fun v σ H Q ⟨ρ,δ,h,d,δ',h',R,S,r,e,k⟩=>by
 cases r with
 | nil=>cases e
 | cons r rs=>
  obtain ⟨⟨δ1,h1⟩,e1,e2⟩:=bnd e
  exact ⟨_,_,rfl,ρ,δ,h,_,δ1,h1,R,S,r,e1,fun ρ1 H1 σ1 T1 S1 R1=>⟨ρ1,δ1,h1,_,δ',h',R1,S1,rs.mono T1,e2,fun ρ2 H2 σ2 T2 S2 R2=>k ρ2 H2 σ2 (T1.trans T2) S2 R2⟩⟩
theorem dE {k0:Nat} {n:Nat} (hc:X.calm=true) (h:SGs X es gs) (hn:(assignEach es X.env).length=n:=by kernel_rfl) (hst:(assignEach es X.env).findIdx? (·.1)=none:=by kernel_rfl):SG X (.Tuple es k0 pos) (gT n gs):=
 (t8 hc h hn hst).imp fun v σ H Q ⟨ρ,δ,h,d,δ',h',R,S,r,e,k⟩=>by
  cases r <;> first | (exact absurd e (by intro z;cases z)) | skip
  rename_i a vs ds ht l _
  unfold gT at e
  dsimp only at e
  by_cases z:ds.length=n
  ·rw [if_pos z] at e
   exact ⟨a,vs,rfl,ht.sq,by rw [l.length];exact z,ρ,δ,h,ds,δ',h',R,S,l,e,k⟩
  ·rw [if_neg z] at e;cases e
theorem cj (he:SE X e ma) (hg:SG X tg g) (hs:swapsWithSole [tg] e pos.line X.env=pure false:=by kernel_rfl) (hw:swappedStores [tg] e X.env=pure none:=by kernel_rfl)
  (h1:(assignEach [tg] X.env).map (·.2)=[assign tg X.env]:=by kernel_rfl):SS X (.Assign [tg] e pos) (eG ma g):=(t4 he hg hs hw h1).imp fun E σ H ⟨ρ,δ,h,fl,δ',h',R,S,e,k⟩=>by
 obtain ⟨⟨x,h1⟩,e1,e2⟩:=bnd e
 obtain ⟨⟨δ2,h2⟩,e4,e3⟩:=bnd e2
 cases e3
 exact ⟨ρ,δ,h,x,h1,R,S,e1,fun v H1 ⟨ρ1,T1,S1,r1⟩=>⟨ρ1,δ,h1,x,_,_,R.mono T1,S1,r1,e4,fun ρ2 H2 σ2 T2 S2 R2=>k ρ2 H2 (T1.trans T2) S2 σ2 R2⟩⟩
theorem qk (he:SE X e ma) (hs:swapsWith e none pos.line X.env=pure false:=by kernel_rfl):SS X (.Expr e pos) (oJ ma):=(qJ he hs).imp fun E σ H ⟨ρ,δ,h,fl,δ',h',R,S,e,k⟩=>by
 obtain ⟨⟨x,h1⟩,e1,e2⟩:=bnd e
 cases e2
 exact ⟨ρ,δ,h,x,h1,R,S,e1,fun v H1 ⟨ρ1,T1,S1,r1⟩=>k ρ1 H1 T1 S1 σ (R.mono T1)⟩
theorem aB (he:SE X e ma):SS X (.Return (some e) pos) (a8 ma):=(tX he).imp fun E σ H ⟨ρ,δ,h,fl,δ',h',R,S,e,k⟩=>by
 obtain ⟨⟨x,h1⟩,e1,e2⟩:=bnd e
 cases e2
 exact ⟨ρ,δ,h,x,h1,R,S,e1,fun v H1 ⟨ρ1,T1,S1,r1⟩=>k ρ1 H1 T1 S1 v r1⟩
theorem bg {sa sb:List Stmt} (hc:ST X c mt) (ha:SSs X sa ms) (hb:SSs X sb mu):SS X (.If c sa sb pos) (sIf mt ms mu):=(wK hc ha hb).imp fun E σ H ⟨ρ,δ,h,fl,δ',h',R,S,e,k⟩=>by
 obtain ⟨⟨x,h1⟩,e1,e2⟩:=bnd e
 refine ⟨ρ,δ,h,x,h1,R,S,e1,fun ρ1 H1 T1 S1=>?_⟩
 cases x with
 | true=>rw [if_pos rfl] at e2 ⊢;exact ⟨ρ1,δ,h1,fl,δ',h',R.mono T1,S1,e2,fun ρ2 H2 T2 S2=>k ρ2 H2 (T1.trans T2) S2⟩
 | false=>rw [if_neg (by simp)] at e2 ⊢;exact ⟨ρ1,δ,h1,fl,δ',h',R.mono T1,S1,e2,fun ρ2 H2 T2 S2=>k ρ2 H2 (T1.trans T2) S2⟩
structure ItS (K:PySem.W.Frag) (J:It) (ρ:Ad) (H:Hp) (ws:W) (xs:List D):Prop where
 run:∀ρ1 H1 h1,Ch ρ H ρ1 H1→Sim K ρ1 h1 H1→chk ws h1=true→∀i:Nat,(xs.length≤i→J.stop i H1)∧∀x,xs[i]?=some x→J.go i H1∧∀v H2,J.yld i H1 v H2→Stp ρ1 H1 ρ1 H2∧Sim K ρ1 h1 H2∧Rep K ρ1 H2 v x
inductive TMIi (K:PySem.W.Frag) (m:IM) (σ:L2.St) (H:Hp) (R:It→Hp→Prop):Prop where
 | mk (ρ δ h xs ws h'):RepS K ρ H σ δ→Sim K ρ h H→(m δ h=some (xs,ws,h'))→(∀J ρ1 H1,Stp ρ H ρ1 H1→Sim K ρ1 h' H1→ItS K J ρ1 H1 ws xs→R J H1)→TMIi K m σ H R
def tMI (K:PySem.W.Frag) (m:IM):TI:=fun σ H R=>TMIi K m σ H R
def SI (X:Cx) (tg iter:Expr) (m:IM):Prop:=PI X tg iter (tMI X.K m)
theorem _root_.L2.PI.imp {X:Cx} {tg e:Expr} {t t':TI} (h:PI X tg e t) (i:∀σ H Q,t' σ H Q→t σ H Q):PI X tg e t':=fun pins s σ H R I q=>h pins s σ H R I (i σ H R q)
theorem tu {E:Ends} {σ:St} {H:Hp} {mi:IM} (hh:tMS X.K (j8 mi g ms) E σ H):wb (tMI X.K mi) (tMG X.K g) (tMS X.K ms) E σ H:=by
 obtain ⟨ρ,δ,h,fl,δ',h',R,S,e,k⟩:=hh
 obtain ⟨⟨xs,ws,h1⟩,e1,e2⟩:=bnd e
 refine ⟨ρ,δ,h,xs,ws,h1,R,S,e1,fun J ρ1 H1 T1 S1 It=>?_⟩
 refine ⟨fun i m σ2 H2=>∃ρ2 δ2 h2,m=xs.length-i∧i≤xs.length∧Stp ρ1 H1 ρ2 H2∧RepS X.K ρ2 H2 σ2 δ2∧Sim X.K ρ2 h2 H2∧fg ws g ms (xs.drop i) δ2 h2=some (fl,δ',h'),⟨_,ρ1,δ,h1,rfl,Nat.zero_le _,.refl _ _,R.mono T1,S1,e2⟩,?_⟩
 rintro i m σ2 H2 ⟨ρ2,δ2,h2,rfl,hi,T2,R2,S2,e3⟩
 cases q:xs.drop i with
 | nil=>
  rw [q] at e3
  unfold fg at e3
  by_cases hc:chk ws h2=true
  ·rw [if_pos hc] at e3
   cases e3
   have hl:xs.length≤i:=by have:=congrArg List.length q;rw [List.length_drop,List.length_nil] at this;omega
   exact .inl ⟨(It.run ρ2 H2 _ T2 S2 hc i).1 hl,k ρ2 H2 (T1.trans T2) S2 σ2 R2⟩
  ·rw [if_neg hc] at e3;cases e3
 | cons x r=>
  rw [q] at e3
  unfold fg at e3
  by_cases hc:chk ws h2=true
  ·rw [if_pos hc] at e3
   have hx:xs[i]?=some x:=by
    have:=congrArg (fun l=>l[0]?) q
    simpa using this
   have hlt:i < xs.length:=(List.getElem?_eq_some_iff.mp hx).1
   have hr:xs.drop (i+1)=r:=by
    have:=congrArg List.tail q
    simpa using this
   obtain ⟨⟨δ3,h3⟩,e4,e5⟩:=bnd e3
   obtain ⟨⟨f4,δ4,h4⟩,e6,e7⟩:=bnd e5
   obtain ⟨hgo,hy⟩:=(It.run ρ2 H2 h2 T2 S2 hc i).2 x hx
   have NN:∀ρ5 H5 σ5,Stp ρ2 H2 ρ5 H5→Sim X.K ρ5 h4 H5→RepS X.K ρ5 H5 σ5 δ4→fg ws g ms r δ4 h4=some (fl,δ',h')→
     ∃m',m' < xs.length-i∧(∃ρ2 δ2 h2,m'=xs.length-(i+1)∧i+1≤xs.length∧Stp ρ1 H1 ρ2 H5∧RepS X.K ρ2 H5 σ5 δ2∧Sim X.K ρ2 h2 H5∧fg ws g ms (xs.drop (i+1)) δ2 h2=some (fl,δ',h')):=
    fun ρ5 H5 σ5 T5 S5 R5 e8=>⟨xs.length-(i+1),by omega,ρ5,δ4,h4,rfl,hlt,T2.trans T5,R5,S5,by rw [hr];exact e8⟩
   refine .inr ⟨hgo,fun σ5 H5=>∃ρ5,Stp ρ2 H2 ρ5 H5∧Sim X.K ρ5 h4 H5∧RepS X.K ρ5 H5 σ5 δ4∧fg ws g ms r δ4 h4=some (fl,δ',h'),fun σ5 H5 ⟨ρ5,T5,S5,R5,e8⟩=>NN ρ5 H5 σ5 T5 S5 R5 e8,fun v H3 y3=>?_⟩
   obtain ⟨T3,S3,r3⟩:=hy v H3 y3
   refine ⟨ρ2,δ2,h2,x,δ3,h3,R2.mono T3,S3,r3,e4,fun ρ4 H4 σ4 T4 S4 R4=>?_⟩
   refine ⟨ρ4,δ3,h3,f4,δ4,h4,R4,S4,e6,fun ρ5 H5 T5 S5=>?_⟩
   have T25:Stp ρ2 H2 ρ5 H5:=T3.trans (T4.trans T5)
   cases f4 with
   | nx=>exact fun σ' R'=>⟨ρ5,T25,S5,R',e7⟩
   | ct=>exact fun σ' R'=>⟨ρ5,T25,S5,R',e7⟩
   | bk=>cases e7;exact fun σ' R'=>k ρ5 H5 (T1.trans (T2.trans T25)) S5 σ' R'
   | rt d=>cases e7;exact fun v r=>k ρ5 H5 (T1.trans (T2.trans T25)) S5 v r
  ·rw [if_neg hc] at e3;cases e3
theorem gP {body:List Stmt} {mi:IM} (hp:PassesOwn (model X.prog X.w) X.A X.env X.xe) (hc:X.calm=true) (hi:SI X tg iter mi) (hg:SG X tg g) (hb:SSs X body ms) (hs:∀x,foldedSetIterable iter X.env x=pure x:=by intro _;kernel_rfl):SS X (.For tg iter body [] pos) (j8 mi g ms):=
 (tY hp hc hi hg hb hs).imp fun _ _ _=>tu
end
end Sm
namespace L2
open PySem PySem.Spec PyProof.Rows
theorem t7 {X:Cx} {tg:Expr} {l:Expr} {tl:TE} (hl:PE X l tl):PI X tg l (fun σ H R=>tl σ H fun x H1=>∃a,x=.ref a∧(((∃xs,SqL X.K H1 a xs)∧R (Itl X.K a) H1)∨((∃xs,SqT X.K H1 a xs)∧R (Itt X.K a) H1))):=by
 intro pins s σ H R I h
 refine thn (hl pins s σ H _ I h) fun v s1 ⟨x,H1,I1,r1,q1⟩=>?_
 obtain ⟨a,e,q1⟩:=q1
 subst e
 cases r1
 rcases q1 with ⟨⟨xs,hq⟩,q⟩ | ⟨⟨xs,hq⟩,q⟩
 ·obtain ⟨its,rv,p,hz⟩:=I1.list hq
  refine wpAny_pyIter_list p.isList ?_
  refine ⟨s1.heap.objs.size,[s1.heap.objs.size],_,_,H1,rfl,I1.kept (t':=s1.toks) fun b o e=>Heap.get?_push_of_some _ e,mY a _,⟨_,Heap.get?_push_size _ rfl,rfl,rfl⟩,fun b hb=>?_,q⟩
  have e:b=s1.heap.objs.size:=by simpa using hb
  subst e
  exact I1.kJ (Nat.le_refl _) (I1.hok.fresh (Nat.le_refl _))
 ·obtain ⟨its,rv,p,hz⟩:=I1.tuple hq
  refine wpAny_pyIter_tuple (show s1.heap.IsTuple a its.toArray from p) ?_
  refine ⟨s1.heap.objs.size,[s1.heap.objs.size],_,_,H1,rfl,I1.kept (t':=s1.toks) fun b o e=>Heap.get?_push_of_some _ e,kZ a _,⟨_,Heap.get?_push_size _ rfl,rfl,rfl⟩,fun b hb=>?_,q⟩
  have e:b=s1.heap.objs.size:=by simpa using hb
  subst e
  exact I1.kJ (Nat.le_refl _) (I1.hok.fresh (Nat.le_refl _))
end L2
namespace Sm
open PySem L2
def ck (d:D) (h:MH):Option (List D×W):=match d with
 | .lv xs=>some (xs,[])
 | .ro xs=>some (xs,[])
 | .tup xs=>some (xs,[])
 | .ob n=>match h[n]? with
  | some (.lst xs)=>some (xs,[(n,.lst xs)])
  | _=>none
 | _=>none
def ia (e:EM):IM:=fun δ h=>(e δ h).bind fun p=>(ck p.1 p.2).map fun q=>(q.1,q.2,p.2)
def kI (m:AM):IM:=fun δ h=>(m δ h).bind fun p=>match p.1 with
 | [.int j]=>if -(2^62)≤j∧j < 2^62 then some ((List.range j.toNat).map fun (k:Nat)=>D.int (k:Int),[],p.2) else none
 | [.int i,.int j]=>if -(2^62)≤i∧i < 2^62∧-(2^62)≤j∧j < 2^62 then some ((List.range (j-i).toNat).map fun (k:Nat)=>D.int (i+(k:Int)),[],p.2) else none
 | _=>none
section
variable {K:PySem.W.Frag} {ρ:Ad} {H:Hp} {h:MH} {a:Addr} {vs:List V} {xs:List D}
theorem jH {J:It} {ws:W} (hl:∀ρ1 H1 h1,Ch ρ H ρ1 H1→Sim K ρ1 h1 H1→chk ws h1=true→∃vs,RepL K ρ1 H1 vs xs∧(∀i:Nat,vs.length≤i→J.stop i H1)∧∀(i:Nat) v,vs[i]?=some v→J.go i H1∧∀u H2,J.yld i H1 u H2→H2=H1∧u=v):ItS K J ρ H ws xs:=by
 refine ⟨fun ρ1 H1 h1 T S hc i=>?_⟩
 obtain ⟨vs,l,s1,s2⟩:=hl ρ1 H1 h1 T S hc
 refine ⟨fun hi=>s1 i (by rw [l.length];exact hi),fun x hx=>?_⟩
 obtain ⟨v,hv,r⟩:=l.got hx
 obtain ⟨g,y⟩:=s2 i v hv
 refine ⟨g,fun u H2 yy=>?_⟩
 obtain ⟨rfl,rfl⟩:=y u H2 yy
 exact ⟨.refl _ _,S,r⟩
theorem vo {ws:W} (hl:∀ρ1 H1 h1,Ch ρ H ρ1 H1→Sim K ρ1 h1 H1→chk ws h1=true→∃vs,RepL K ρ1 H1 vs xs∧SqL K H1 a vs):ItS K (Itl K a) ρ H ws xs:=
 jH fun ρ1 H1 h1 T S hc=>by
  obtain ⟨vs,l,q⟩:=hl ρ1 H1 h1 T S hc
  refine ⟨vs,l,fun i hi=>⟨vs,q,hi⟩,fun i v hv=>⟨⟨vs,v,q,hv⟩,fun u H2 ⟨e,y⟩=>⟨e,?_⟩⟩⟩
  have:=y vs q
  rw [hv] at this
  exact (Option.some.inj this).symm
theorem vm {ws:W} (hl:∀ρ1 H1 h1,Ch ρ H ρ1 H1→Sim K ρ1 h1 H1→chk ws h1=true→∃vs,RepL K ρ1 H1 vs xs∧SqT K H1 a vs):ItS K (Itt K a) ρ H ws xs:=
 jH fun ρ1 H1 h1 T S hc=>by
  obtain ⟨vs,l,q⟩:=hl ρ1 H1 h1 T S hc
  refine ⟨vs,l,fun i hi=>⟨vs,q,hi⟩,fun i v hv=>⟨⟨vs,v,q,hv⟩,fun u H2 ⟨e,y⟩=>⟨e,?_⟩⟩⟩
  have:=y vs q
  rw [hv] at this
  exact (Option.some.inj this).symm
theorem r8 {n:Nat} {o:MO} {h:MH} (hc:chk [(n,o)] h=true):h[n]?=some o:=by
 unfold chk at hc
 cases q:h[n]? with
 | none=>rw [q] at hc;cases hc
 | some u=>
  rw [q] at hc
  simp [chk] at hc
  rw [sf hc]
inductive SeqAt (K:PySem.W.Frag) (H:Hp) (a:Addr) (vs:List V):Bool→Prop where
 | l:SqL K H a vs→SeqAt K H a vs true
 | t:SqT K H a vs→SeqAt K H a vs false
def jI:D→Bool
 | .tup _=>false
 | _=>true
theorem eB {v:V} {d:D} {ws:W} (S:Sim K ρ h H) (r:Rep K ρ H v d) (e:ck d h=some (xs,ws)):∃a,v=.ref a∧(∃vs,SeqAt K H a vs (jI d)∧RepL K ρ H vs xs)∧
  ∀ρ1 H1 h1,Ch ρ H ρ1 H1→Sim K ρ1 h1 H1→chk ws h1=true→∃vs,RepL K ρ1 H1 vs xs∧SeqAt K H1 a vs (jI d):=by
 cases r with
 | tup ht l=>
  cases e
  refine ⟨_,rfl,⟨_,.t ht.sq,l⟩,fun ρ1 H1 h1 T S1 _=>?_⟩
  cases (Rep.tup ht l).mono T with
  | tup h1 l1=>exact ⟨_,l1,.t h1.sq⟩
 | lv ht n l=>
  cases e
  refine ⟨_,rfl,⟨_,.l (SqL.of ht),l⟩,fun ρ1 H1 h1 T S1 _=>?_⟩
  cases (Rep.lv ht n l).mono T with
  | lv h1 _ l1=>exact ⟨_,l1,.l (SqL.of h1)⟩
 | ro ht l=>
  cases e
  refine ⟨_,rfl,⟨_,.l ht.sq,l⟩,fun ρ1 H1 h1 T S1 _=>?_⟩
  cases (Rep.ro ht l).mono T with
  | ro h1 l1=>exact ⟨_,l1,.l h1.sq⟩
 | @ob a n hn=>
  unfold ck at e
  dsimp only at e
  cases q:h[n]? with
  | none=>rw [q] at e;cases e
  | some o=>
   rw [q] at e
   cases o with
   | dct _=>cases e
   | lst ys=>
    cases e
    obtain ⟨vs,e1,l⟩:=S.at_ n a _ hn q
    refine ⟨a,rfl,⟨vs,.l (SqL.of e1),l⟩,fun ρ1 H1 h1 T S1 hc=>?_⟩
    obtain ⟨us,e2,l2⟩:=S1.at_ n a _ (T.pre n a hn) (r8 hc)
    exact ⟨us,l2,.l (SqL.of e2)⟩
 | non=>cases e
 | bl b=>cases e
 | int i=>cases e
 | str x=>cases e
 | ty x=>cases e
 | dv _ _ _=>cases e
end
section
variable {X:Cx} {a b c e tg iter:Expr} {es:List Expr} {pos:Pos} {ma mb:EM} {mt:TM} {ms mu:SM} {m:AM} {g:GM} {gs:GMs}
theorem cM (h:SE X e ma):SI X tg e (ia ma):=(t7 h).imp fun σ H Q ⟨ρ,δ,h,xs,ws,h',R,S,e,k⟩=>by
 obtain ⟨⟨x,h1⟩,e1,e2⟩:=bnd e
 obtain ⟨⟨ys,w⟩,e3,e4⟩:=mpd e2
 cases e4
 refine ⟨ρ,δ,h,x,h1,R,S,e1,fun v H1 ⟨ρ1,T1,S1,r1⟩=>?_⟩
 obtain ⟨a,rfl,⟨vs,q,l⟩,st⟩:=eB S1 r1 e3
 refine ⟨a,rfl,?_⟩
 generalize jI x=b at q st
 cases q with
 | l q=>exact .inl ⟨⟨vs,q⟩,k _ ρ1 H1 T1 S1 (vo fun ρ2 H2 h2 T2 S2 hc=>by obtain ⟨us,l2,q2⟩:=st ρ2 H2 h2 T2 S2 hc;cases q2 with | l q2=>exact ⟨us,l2,q2⟩)⟩
 | t q=>exact .inr ⟨⟨vs,q⟩,k _ ρ1 H1 T1 S1 (vm fun ρ2 H2 h2 T2 S2 hc=>by obtain ⟨us,l2,q2⟩:=st ρ2 H2 h2 T2 S2 hc;cases q2 with | t q2=>exact ⟨us,l2,q2⟩)⟩
theorem fL {K:PySem.W.Frag} {ρ:Ad} {H:Hp}:∀(ns:List Int),RepL K ρ H (ns.map V.int) (ns.map D.int)
 | []=>.nil
 | _::r=>.cons (.int _) (fL r)
theorem vn {K:PySem.W.Frag} {ρ:Ad} {H:Hp} (lo:Int) (n:Nat):ItS K (Itr lo n) ρ H [] ((List.range n).map fun (k:Nat)=>D.int (lo+(k:Int))):=by
 refine jH fun ρ1 H1 h1 T S hc=>⟨(List.range n).map fun (k:Nat)=>V.int (lo+(k:Int)),?_,fun i hi=>?_,fun i v hv=>?_⟩
 ·have:=fL (K:=K) (ρ:=ρ1) (H:=H1) ((List.range n).map fun (k:Nat)=>lo+(k:Int))
  rw [List.map_map,List.map_map] at this
  exact this
 ·rw [List.length_map,List.length_range] at hi;exact hi
 ·rw [List.getElem?_map] at hv
  obtain ⟨j,e1,e2⟩:=mpd hv
  obtain ⟨hlt,e3⟩:=List.getElem?_eq_some_iff.mp e1
  rw [List.length_range] at hlt
  rw [List.getElem_range] at e3
  subst e3;subst e2
  exact ⟨hlt,fun u H2 ⟨p,q⟩=>⟨p,q⟩⟩
theorem ny {K:PySem.W.Frag} {ρ:Ad} {H:Hp} {vs:List V} {j:Int} (l:RepL K ρ H vs [.int j]):vs=[.int j]:=by
 cases l with
 | cons r l=>cases l;cases r;rfl
theorem cw {p:Pos} (hg:Gl X "range") (hm:X.mg "range"=none) (ha:SA X [a] m) (hs:starEach [a] X.env=[(false,eval a X.env)]:=by kernel_rfl) (hl:gz m 1):SI X tg (.Call (.Name "range" p) [a] [] pos) (kI m):=
 (nA hg hm ha hs).imp fun σ H Q ⟨ρ,δ,h,xs,ws,h',R,S,e,k⟩=>by
  obtain ⟨⟨x,h1⟩,e1,e2⟩:=bnd e
  refine ⟨ρ,δ,h,x,h1,R,S,e1,fun vs ρ1 H1 T1 S1 r1=>?_⟩
  match x,hl _ _ _ _ e1,e2,r1 with
  | [d],hl1,e2,r1=>
   cases d <;> first | exact absurd e2 (by intro z;cases z) | skip
   rename_i j
   dsimp only at e2
   by_cases z:-(2^62)≤j∧j < 2^62
   ·rw [if_pos z] at e2
    cases e2
    refine ⟨j,ny r1,z.1,z.2,k _ ρ1 H1 T1 S1 ?_⟩
    have:=vn (K:=X.K) (ρ:=ρ1) (H:=H1) 0 j.toNat
    simpa using this
   ·rw [if_neg z] at e2;cases e2
def gr (caps:List (Option Nat)) (δ:DS):DS:=caps.map fun o=>o.bind fun i=>(δ[i]?).join
def c7:TM:=fun _ h=>some (true,h)
def dX (ws:W) (g:GM) (c:TM) (e:EM):List D→DS→MH→Option (List D×MH)
 | [],_,h=>if chk ws h then some ([],h) else none
 | x::r,δ,h=>if chk ws h then (g x δ h).bind fun q=>(c q.1 q.2).bind fun t=>if t.1 then (e q.1 t.2).bind fun y=>(dX ws g c e r q.1 y.2).map fun z=>(y.1::z.1,z.2) else dX ws g c e r q.1 t.2 else none
def bV (caps:List (Option Nat)) (i:IM) (g:GM) (c:TM) (e:EM):AM:=fun δ h=>(i δ h).bind fun p=>(dX p.2.1 g c e p.1 (gr caps δ) p.2.2).bind fun q=>if q.1.length≤sizeLine then some q else none
theorem RepS.fW {K:PySem.W.Frag} {ρ:Ad} {H:Hp} {σ:St} {δ:DS} (R:RepS K ρ H σ δ) (caps:List (Option Nat)):RepS K ρ H (fW caps σ) (gr caps δ):=by
 refine ⟨by simp [L2.fW,gr],fun i d hd=>?_⟩
 unfold gr at hd
 rw [List.getElem?_map] at hd
 obtain ⟨o,e1,e2⟩:=mpd hd
 cases o with
 | none=>cases e2
 | some j=>
  have e3:δ[j]?=some (some d):=Option.join_eq_some_iff.mp e2
  obtain ⟨v,ev,r⟩:=R.at_ j d e3
  refine ⟨v,?_,r⟩
  unfold L2.fW
  rw [List.getElem?_map,e1]
  simp [ev]
def SIf (X:Cx) (ifs:List Expr) (m:TM):Prop:=PIf X ifs (tMT X.K m)
theorem bA:SIf X [] c7:=fun pins s σ H Q I hh=>by
 obtain ⟨ρ,δ,h,b,h',R,S,e,k⟩:=hh
 cases e
 exact qN pins s σ H Q I (k ρ H (.refl _ _) S)
theorem mw {caps:List (Option Nat)} {mi:IM} {σ:St} {H:Hp} {Q:VK} (hh:tM X.K (eLv (bV caps mi g mt ma)) σ H Q):ow caps (tMI X.K mi) (tMG X.K g) (tMT X.K mt) (tM X.K ma) σ H Q:=by
 obtain ⟨ρ,δ,h,d,h',R,S,ee,k⟩:=hh
 obtain ⟨⟨out,h0⟩,ea,e0⟩:=mpd ee
 cases e0
 obtain ⟨⟨xs,ws,h1⟩,e1,eb⟩:=bnd ea
 obtain ⟨⟨ys,h2⟩,e2,e3⟩:=bnd eb
 dsimp only at e2 e3
 by_cases hz:ys.length≤sizeLine
 ·rw [if_pos hz] at e3
  cases e3
  refine ⟨ρ,δ,h,xs,ws,h1,R,S,e1,fun J ρ1 H1 T1 S1 It l hl=>?_⟩
  have nl:¬ρ1.has l:=S1.fresh hl
  have Tl:Ch ρ1 H1 (ρ1.keep l) (upd H1 l (.lst [])):=Ch.keep hl
  refine ⟨fun i m τ2 H2=>∃(ob2:List Addr) (δ2:DS) (h2:MH) (vs:List V) (as bs:List D),m=xs.length-i∧i≤xs.length∧Ch ρ1 H1 ⟨ob2,l::ρ1.rs⟩ H2∧(∀b∈ρ1.rs,H2 b=H1 b)∧RepS X.K ⟨ob2,l::ρ1.rs⟩ H2 τ2 δ2∧Sim X.K ⟨ob2,l::ρ1.rs⟩ h2 H2∧
    H2 l=some (.lst vs)∧RepL X.K ⟨ob2,l::ρ1.rs⟩ H2 vs as∧out=as++bs∧dX ws g mt ma (xs.drop i) δ2 h2=some (bs,h0),
   ⟨_,ρ1.ob,gr caps δ,h1,[],[],out,rfl,Nat.zero_le _,Tl,fun b hb=>aC fun z=>nl (.inr (z ▸ hb)),((R.mono T1).fW caps).mono Tl,S1.keep hl,aT,.nil,rfl,e2⟩,?_⟩
  rintro i m τ2 H2 ⟨ob2,δ2,h2,vs,as,bs,rfl,hi,T2,rs2,R2,S2,hl2,l2,eo,e3⟩
  have hsub:∀b∈ρ1.rs,b∈l::ρ1.rs:=fun b hb=>List.mem_cons_of_mem _ hb
  have C2:Ch ⟨ob2,l::ρ1.rs⟩ H2 ⟨ob2,ρ1.rs⟩ H2:=Ch.free hsub
  have T2':Stp ρ1 H1 ⟨ob2,ρ1.rs⟩ H2:=⟨T2.trans C2,rfl,rs2⟩
  have S2':Sim X.K ⟨ob2,ρ1.rs⟩ h2 H2:=S2.free hsub
  cases q:xs.drop i with
  | nil=>
   rw [q] at e3
   unfold dX at e3
   by_cases hc:chk ws h2=true
   ·rw [if_pos hc] at e3
    cases e3
    rw [List.append_nil] at eo
    subst eo
    have hle:xs.length≤i:=by have:=congrArg List.length q;rw [List.length_drop,List.length_nil] at this;omega
    refine .inl ⟨(It.run _ H2 _ T2 S2 hc i).1 hle,k _ _ ⟨_,T1.trans T2',S2',.lv hl2 (fun z=>?_) (l2.mono C2)⟩⟩
    rcases z with z | z
    ·exact (S2.rsv l List.mem_cons_self).2 z
    ·exact nl (.inr z)
   ·rw [if_neg hc] at e3;cases e3
  | cons x r=>
   rw [q] at e3
   unfold dX at e3
   by_cases hc:chk ws h2=true
   ·rw [if_pos hc] at e3
    have hx:xs[i]?=some x:=by
     have:=congrArg (fun l=>l[0]?) q
     simpa using this
    have hlt:i < xs.length:=(List.getElem?_eq_some_iff.mp hx).1
    have hr:xs.drop (i+1)=r:=by
     have:=congrArg List.tail q
     simpa using this
    obtain ⟨⟨δ3,h3⟩,e4,e5⟩:=bnd e3
    obtain ⟨⟨t,h4⟩,e6,e7⟩:=bnd e5
    dsimp only at e4 e5 e6 e7
    obtain ⟨hgo,hy⟩:=(It.run _ H2 h2 T2 S2 hc i).2 x hx
    refine .inr ⟨hgo,fun τ5 H5=>∃(ob5:List Addr) (h5:MH) (vs:List V) (as bs:List D),Ch ρ1 H1 ⟨ob5,l::ρ1.rs⟩ H5∧(∀b∈ρ1.rs,H5 b=H1 b)∧RepS X.K ⟨ob5,l::ρ1.rs⟩ H5 τ5 δ3∧Sim X.K ⟨ob5,l::ρ1.rs⟩ h5 H5∧
     H5 l=some (.lst vs)∧RepL X.K ⟨ob5,l::ρ1.rs⟩ H5 vs as∧out=as++bs∧dX ws g mt ma r δ3 h5=some (bs,h0),?_,?_⟩
    ·rintro τ5 H5 ⟨ob5,h5,vs5,as5,bs5,T5,rs5,R5,S5,hl5,l5,eo5,e5⟩
     exact ⟨xs.length-(i+1),by omega,ob5,δ3,h5,vs5,as5,bs5,rfl,hlt,T5,rs5,R5,S5,hl5,l5,eo5,by rw [hr];exact e5⟩
    ·intro v H3 y3
     obtain ⟨T3,S3,r3⟩:=hy v H3 y3
     refine ⟨⟨ob2,l::ρ1.rs⟩,δ2,h2,x,δ3,h3,R2.mono T3,S3,r3,e4,fun ρ4 H4 τ4 T4 S4 R4=>?_⟩
     refine ⟨ρ4,δ3,h3,t,h4,R4,S4,e6,fun ρ5 H5 T5 S5=>?_⟩
     have T25:Stp ⟨ob2,l::ρ1.rs⟩ H2 ρ5 H5:=T3.trans (T4.trans T5)
     obtain ⟨ob5,rs5⟩:=ρ5
     have ers:rs5=l::ρ1.rs:=T25.rs
     subst ers
     cases t with
     | false=>
      rw [if_neg (by simp)] at e7
      refine vq ?_
      exact ⟨ob5,h4,vs,as,bs,T2.trans T25.toCh,fun b hb=>(T25.res b (hsub b hb)).trans (rs2 b hb),R4.mono T5,S5,(T25.res l List.mem_cons_self).trans hl2,l2.mono T25.toCh,eo,e7⟩
     | true=>
      rw [if_pos rfl] at e7
      refine vp ?_
      obtain ⟨⟨y,h6⟩,e8,e9⟩:=bnd e7
      obtain ⟨⟨zs,h7⟩,e10,e11⟩:=mpd e9
      cases e11
      refine ⟨⟨ob5,l::ρ1.rs⟩,δ3,h4,y,h6,R4.mono T5,S5,e8,fun u H6 ⟨ρ6,T6,S6,r6⟩=>?_⟩
      have T26:Stp ⟨ob2,l::ρ1.rs⟩ H2 ρ6 H6:=T25.trans T6
      obtain ⟨ob6,rs6⟩:=ρ6
      have ers:rs6=l::ρ1.rs:=T26.rs
      subst ers
      have hl6:H6 l=some (.lst vs):=(T26.res l List.mem_cons_self).trans hl2
      have hml:l∈(⟨ob6,l::ρ1.rs⟩:Ad).rs:=List.mem_cons_self
      have hlen:vs.length < sizeLine:=by
       have h1:=l2.length
       have h2:=congrArg List.length eo
       rw [List.length_append,List.length_cons] at h2
       omega
      have Cp:Ch ⟨ob6,l::ρ1.rs⟩ H6 ⟨ob6,l::ρ1.rs⟩ (upd H6 l (.lst (vs++[u]))):=Ch.put hml
      refine ⟨vs,hl6,hlen,ob6,h6,vs++[u],as++[y],zs,(T2.trans T26.toCh).trans Cp,fun b hb=>?_,((R4.mono T5.toCh).mono T6.toCh).mono Cp,S6.put hml,aT,((l2.mono T26.toCh).snoc r6).mono Cp,by rw [eo];simp,e10⟩
      rw [aC (fun (z:b=l)=>nl (.inr (z ▸ hb)))]
      exact (T26.res b (hsub b hb)).trans (rs2 b hb)
   ·rw [if_neg hc] at e3;cases e3
 ·rw [if_neg hz] at e3;cases e3
end
end Sm
namespace Sm
open PySem L2 PySem.Spec PyProof.Rows
section
variable {X:Cx} {a b c e tg iter elt:Expr} {es:List Expr} {pos:Pos} {ma mb:EM} {mt:TM} {ms mu:SM} {m:AM} {g:GM} {gs:GMs}
theorem bI {N':List Str} {caps:List (Option Nat)} {scope:Scope} {ifs:List Expr} {mi:IM} (C:CompScope X N' caps scope) (hc:X.calm=true) (hi:SI X tg iter mi) (hg:∀C s₃ H₃ fp pl,SG (blk X N' scope C s₃ H₃ fp pl) tg g)
  (hif:∀C s₃ H₃ fp pl,SIf (blk X N' scope C s₃ H₃ fp pl) ifs mt) (he:∀C s₃ H₃ fp pl,SE (blk X N' scope C s₃ H₃ fp pl) elt ma) (hs:∀x,foldedSetIterable iter X.env x=pure x:=by intro _;kernel_rfl):
  SE X (.ListComp elt [⟨tg,iter,ifs,0⟩] scope pos) (eLv (bV caps mi g mt ma)):=(o1 (g:=tMG X.K g) (tc:=tMT X.K mt) (te:=tM X.K ma) C hc hi hg hif he hs).imp fun _ _ _=>mw
theorem ql {N':List Str} {caps:List (Option Nat)} {scope:Scope} {ifs:List Expr} {mi:IM} {i:Nat} {y:Str} {py spos:Pos} (hN:X.N.Nodup) (hi':X.N[i]?=some y) (hy:X.env.scope.names.lookup y=some .local) (C:CompScope X N' caps scope) (hc:X.calm=true)
  (hi:SI X tg iter mi) (hg:∀C s₃ H₃ fp pl,SG (blk X N' scope C s₃ H₃ fp pl) tg g) (hif:∀C s₃ H₃ fp pl,SIf (blk X N' scope C s₃ H₃ fp pl) ifs mt) (he:∀C s₃ H₃ fp pl,SE (blk X N' scope C s₃ H₃ fp pl) elt ma)
  (hsw:swapsWith (.ListComp elt [⟨tg,iter,ifs,0⟩] scope pos) (some (.Name y py)) spos.line X.env=pure true:=by kernel_rfl) (hs:∀x,foldedSetIterable iter X.env x=pure x:=by intro _;kernel_rfl):
  SS X (.Assign [.Name y py] (.ListComp elt [⟨tg,iter,ifs,0⟩] scope pos) spos) (bw i (eLv (bV caps mi g mt ma))):=
 (oV (g:=tMG X.K g) (tc:=tMT X.K mt) (te:=tM X.K ma) hN hi' hy C hc hi hg hif he hsw hs).imp fun E σ H hh=>by
  have q:=lH hh
  exact mw q
end
inductive SPFi (K:PySem.W.Frag) (n:Nat) (F:Fn) (vs:List V) (H:Hp) (Q:VK):Prop where
 | mk (ρ h ds d h'):Sim K ρ h H→RepL K ρ H vs ds→(ds.length=n)→(F ds h=some (d,h'))→(∀v H',cb K ρ H h' d v H'→Q v H')→SPFi K n F vs H Q
def spF (K:PySem.W.Frag) (n:Nat) (F:Fn):Sp:=fun vs H Q _=>SPFi K n F vs H Q
section
variable {X:Cx} {e:Expr} {es:List Expr} {pos p:Pos} {m:AM} {k n:Nat} {f:Addr} {fd:FuncData} {ps:List Str} {F:Fn} {x:Str}
theorem qt (G:FnOk X.prog X.w X.K X.mg X.base CX0 k f fd ps (spF X.K n F)) (hr:Room k X.A) (hg:Gl X x) (hm:X.mg x=some (.ref f)) (hk:PySem.W.keepIn X.K (.ref f)=true) (hb:Binds X.K fd ps [])
  (ha:SA X (e::es) m) (hl:gz m n) (hdb:(x==("__debug__":Str))=false:=by kernel_rfl) (he:starEach (e::es) X.env=(false,eval e X.env)::starEach es X.env:=by kernel_rfl) (hpl:(backTo pos (starEach es X.env)).any (·.1)=false:=by kernel_rfl):
  SE X (.Call (.Name x p) (e::es) [] pos) (eFn F m):=(qT (E:=E0) G hr hg hm hk hb .nil wR ha hdb he hpl).imp fun σ H Q ⟨ρ,δ,h,d,h',R,S,e,q⟩=>by
 obtain ⟨⟨ds,h1⟩,e1,e2⟩:=bnd e
 refine ⟨ρ,δ,h,ds,h1,R,S,e1,fun vs ρ1 H1 T1 S1 r1=>?_⟩
 show spF X.K n F (vs++[]) H1 Q E0
 rw [List.append_nil]
 exact ⟨ρ1,h1,ds,d,h',S1,r1,hl _ _ _ _ e1,e2,fun v H' P=>q v H' (P.step T1)⟩
end
def xR (r:Fl×DS×MH):Option (D×MH):=match r.1 with
 | .rt d=>some (d,r.2.2)
 | .nx=>some (.non,r.2.2)
 | _=>none
def entry (len:Nat) (ds:List D):DS:=ds.map some++List.replicate (len-ds.length) none
def mkF (len:Nat) (body:SM):Fn:=fun ds h=>(body (entry len ds) h).bind xR
theorem RepS.entry {K:PySem.W.Frag} {ρ:Ad} {H:Hp} {vs:List V} {ds:List D} (N:List Str) (l:RepL K ρ H vs ds):RepS K ρ H (L2.start N vs) (Sm.entry N.length ds):=by
 refine ⟨by simp [L2.start,Sm.entry,l.length],fun i d hd=>?_⟩
 unfold Sm.entry at hd
 unfold L2.start
 by_cases hi:i < ds.length
 ·rw [List.getElem?_append_left (by simpa using hi),List.getElem?_map] at hd
  obtain ⟨d',e1,e2⟩:=mpd hd
  cases e2
  obtain ⟨v,ev,r⟩:=l.got e1
  refine ⟨v,?_,r⟩
  rw [List.getElem?_append_left (by rw [List.length_map,l.length];exact hi),List.getElem?_map,ev];rfl
 ·rw [List.getElem?_append_right (by simpa using hi),List.getElem?_replicate] at hd
  split at hd <;> cases hd
section
variable {P:Program} {w:World} {K:PySem.W.Frag} {mg:Str→Option Value} {base:Heap} {x qual:Str} {st:Stmt} {f:Addr} {fd:FuncData} {N ps:List Str} {k:Nat}
theorem a9 {body:SM} (F:Fun K x qual st f fd) (Sc:FnScope N ps (az st))
  (hb:∀(cdv:Value) (A:Around) (outer:List Env) (s:Shared) (H:Hp) (E:XK),Room k (A.deeper (envOfC qual (az st) s.heap.objs.size f cdv))→SSs (l4 CX0 P w K mg base N qual (az st) f cdv A outer s H E).nox (dj st) body):
  FnOk P w K mg base CX0 (k+1) f fd ps (spF K ps.length (mkF N.length body)):=by
 refine F.ok Sc (fun vs H Q E h=>?_) (fun cdv A outer s H vs Q E hr h=>?_)
 ·obtain ⟨ρ,h,ds,d,h',S,r,hl,_⟩:=h
  rw [r.length];exact hl
 ·obtain ⟨ρ,h,ds,d,h',S,r,hl,e,q⟩:=h
  refine ⟨_,hb cdv A outer s H E hr,?_⟩
  obtain ⟨⟨fl,δ1,h1⟩,e1,e2⟩:=bnd e
  refine ⟨ρ,entry N.length ds,h,fl,δ1,h1,RepS.entry N r,S,e1,fun ρ1 H1 T1 S1=>?_⟩
  cases fl with
  | nx=>cases e2;exact fun σ' R'=>q _ _ ⟨ρ1,T1,S1,.non⟩
  | rt d=>cases e2;exact fun v r=>q _ _ ⟨ρ1,T1,S1,r⟩
  | bk=>cases e2
  | ct=>cases e2
end
mutual
def clD (n:Nat):D→Bool
 | .tup xs=>clL n xs
 | .lv xs=>clL n xs
 | .ro xs=>clL n xs
 | .dv kvs=>clK n kvs
 | .ob m=>decide (m < n)
 | _=>true
def clL (n:Nat):List D→Bool
 | []=>true
 | x::r=>clD n x&&clL n r
def clK (n:Nat):List (Key×D)→Bool
 | []=>true
 | (_,x)::r=>clD n x&&clK n r
end
abbrev Ad.cut (ρ:Ad) (n:Nat):Ad:=⟨ρ.ob.take n,ρ.rs⟩
theorem Ad.gH {ρ:Ad} {n:Nat} {a:Addr} (h:(ρ.cut n).has a):ρ.has a:=h.elim (fun m=>.inl (List.mem_of_mem_take m)) .inr
mutual
theorem Rep.cut {K:PySem.W.Frag} {ρ:Ad} {H:Hp} {n:Nat}:∀{v:V} {d:D},Rep K ρ H v d→clD n d=true→Rep K (ρ.cut n) H v d
 | _,_,.non,_=>.non
 | _,_,.bl b,_=>.bl b
 | _,_,.int i,_=>.int i
 | _,_,.str x,_=>.str x
 | _,_,.ty n,_=>.ty n
 | _,_,.tup h l,c=>.tup (h.elim (fun ⟨a,n⟩=>.inl ⟨a,fun m=>n (Ad.gH m)⟩) .inr) (RepL.cut l (by simpa [clD] using c))
 | _,_,.lv h n l,c=>.lv h (fun m=>n (Ad.gH m)) (RepL.cut l (by simpa [clD] using c))
 | _,_,.ro h l,c=>.ro (h.elim (fun ⟨a,n⟩=>.inl ⟨a,fun m=>n (Ad.gH m)⟩) .inr) (RepL.cut l (by simpa [clD] using c))
 | _,_,.dv h n l,c=>.dv h (fun m=>n (Ad.gH m)) (RepK.cut l (by simpa [clD] using c))
 | _,_,.ob (n:=m) e,c=>.ob (by
   have hm:m < n:=by simpa [clD] using c
   show (ρ.ob.take n)[m]?=_
   rw [List.getElem?_take_of_lt hm];exact e)
theorem RepL.cut {K:PySem.W.Frag} {ρ:Ad} {H:Hp} {n:Nat}:∀{v:List V} {d:List D},RepL K ρ H v d→clL n d=true→RepL K (ρ.cut n) H v d
 | _,_,.nil,_=>.nil
 | _,_,.cons r l,c=>by
  simp only [clL,Bool.and_eq_true] at c
  exact .cons (Rep.cut r c.1) (RepL.cut l c.2)
theorem RepK.cut {K:PySem.W.Frag} {ρ:Ad} {H:Hp} {n:Nat}:∀{v:List (Key×V)} {d:List (Key×D)},RepK K ρ H v d→clK n d=true→RepK K (ρ.cut n) H v d
 | _,_,.nil,_=>.nil
 | _,_,.cons r l,c=>by
  simp only [clK,Bool.and_eq_true] at c
  exact .cons (Rep.cut r c.1) (RepK.cut l c.2)
end
mutual
theorem Rep.clean {K:PySem.W.Frag} {ρ:Ad} {H:Hp}:∀{v:V} {d:D},Rep K ρ H v d→clD ρ.ob.length d=true
 | _,_,.non=>rfl
 | _,_,.bl b=>rfl
 | _,_,.int i=>rfl
 | _,_,.str x=>rfl
 | _,_,.ty n=>rfl
 | _,_,.tup h l=>by simp [clD];exact RepL.clean l
 | _,_,.lv h n l=>by simp [clD];exact RepL.clean l
 | _,_,.ro h l=>by simp [clD];exact RepL.clean l
 | _,_,.dv h n l=>by simp [clD];exact RepK.clean l
 | _,_,.ob e=>by simp [clD];exact (List.getElem?_eq_some_iff.mp e).1
theorem RepL.clean {K:PySem.W.Frag} {ρ:Ad} {H:Hp}:∀{v:List V} {d:List D},RepL K ρ H v d→clL ρ.ob.length d=true
 | _,_,.nil=>rfl
 | _,_,.cons r l=>by simp [clL];exact ⟨Rep.clean r,RepL.clean l⟩
theorem RepK.clean {K:PySem.W.Frag} {ρ:Ad} {H:Hp}:∀{v:List (Key×V)} {d:List (Key×D)},RepK K ρ H v d→clK ρ.ob.length d=true
 | _,_,.nil=>rfl
 | _,_,.cons r l=>by simp [clK];exact ⟨Rep.clean r,RepK.clean l⟩
end
section
variable {P:Program} {w:World} {K:PySem.W.Frag} {mg:Str→Option Value} {base:Heap} {x qual:Str} {st:Stmt} {f:Addr} {fd:FuncData} {N ps:List Str} {k:Nat}
end
def spT (K:PySem.W.Frag):Sp:=fun vs H Q _=>∃(a:Addr) (ns:List Int),vs=[.ref a]∧SqL K H a (ns.map V.int)∧ns.length≤63∧∀H',Q (.bl true) H'
theorem rD {P:Program} {w:World} {K:PySem.W.Frag} {mg:Str→Option Value} {base:Heap} {k:Nat} {f:Addr} {fd:FuncData} {ps:List Str} {F:Fn} (G:FnOk P w K mg base CX0 k f fd ps (spF K 1 F))
  (hF:∀ns:List Int,ns.length≤63→∃h',F [.ro (ns.map D.int)] []=some (.bl true,h')):FnOk P w K mg base CX0 k f fd ps (spT K):=by
 refine G.imp fun vs H Q E hh=>?_
 obtain ⟨a,ns,rfl,ha,hl,q⟩:=hh
 obtain ⟨h',e⟩:=hF ns hl
 refine ⟨⟨[],[]⟩,[],[.ro (ns.map D.int)],.bl true,h',⟨rfl,List.nodup_nil,fun n a o e=>by simp at e,fun b hb=>absurd hb (by simp)⟩,.cons (.ro ?_ (fL ns)) .nil,rfl,e,fun v H' ⟨ρ',T,S,r⟩=>?_⟩
 ·rcases ha with ha | ha
  ·exact .inl ⟨ha,fun z=>z.elim (fun z=>absurd z (by simp)) fun z=>absurd z (by simp)⟩
  ·exact .inr (.inr ha)
 ·cases r
  exact q H'
end Sm
namespace Sm
open PySem L2 PySem.Spec PyProof.Rows
mutual
def pyD:D→Option PyData
 | .non=>some .none
 | .bl b=>some (.bool b)
 | .int i=>some (.int i)
 | .str x=>some (.str x)
 | .tup xs=>(pyL xs).map .tuple
 | .lv xs=>(pyL xs).map .list
 | .ro xs=>(pyL xs).map .list
 | _=>none
def pyL:List D→Option (List PyData)
 | []=>some []
 | x::r=>(pyD x).bind fun a=>(pyL r).map fun b=>a::b
end
def rdD (h:MH) (d:D):Option PyData:=match d with
 | .ob n=>match h[n]? with
  | some (.lst xs)=>(pyL xs).map .list
  | _=>none
 | d=>pyD d
mutual
theorem Rep.rds {K:PySem.W.Frag} {ρ:Ad} {H:Hp}:∀{v:V} {d:D} {p:PyData},Rep K ρ H v d→pyD d=some p→Rds K H v p∧p.canLay0=true
 | _,_,_,.non,e=>by cases e;exact ⟨.non,rfl⟩
 | _,_,_,.bl b,e=>by cases e;exact ⟨.bl b,rfl⟩
 | _,_,_,.int i,e=>by cases e;exact ⟨.int i,rfl⟩
 | _,_,_,.str hs,e=>by cases e;exact ⟨.str _,by simpa [PyData.canLay0] using hs⟩
 | _,_,_,.ty n,e=>by cases e
 | _,_,_,.tup h l,e=>by
  simp only [pyD] at e
  obtain ⟨q,e1,e2⟩:=mpd e
  subst e2
  obtain ⟨a,b⟩:=RepL.rds l e1
  exact ⟨.tup h.sq a,by simpa [PyData.canLay0] using b⟩
 | _,_,_,.lv h n l,e=>by
  simp only [pyD] at e
  obtain ⟨q,e1,e2⟩:=mpd e
  subst e2
  obtain ⟨a,b⟩:=RepL.rds l e1
  exact ⟨.lst (SqL.of h) a,by simpa [PyData.canLay0] using b⟩
 | _,_,_,.ro h l,e=>by
  simp only [pyD] at e
  obtain ⟨q,e1,e2⟩:=mpd e
  subst e2
  obtain ⟨a,b⟩:=RepL.rds l e1
  exact ⟨.lst h.sq a,by simpa [PyData.canLay0] using b⟩
 | _,_,_,.dv h n l,e=>by simp [pyD] at e
 | _,_,_,.ob h,e=>by simp [pyD] at e
theorem RepL.rds {K:PySem.W.Frag} {ρ:Ad} {H:Hp}:∀{v:List V} {d:List D} {p:List PyData},RepL K ρ H v d→pyL d=some p→RdsL K H v p∧PyData.canLayAll0 p=true
 | _,_,_,.nil,e=>by cases e;exact ⟨.nil,rfl⟩
 | _,_,_,.cons r l,e=>by
  simp only [pyL] at e
  obtain ⟨a,e1,e2⟩:=bnd e
  obtain ⟨b,e3,e4⟩:=mpd e2
  subst e4
  obtain ⟨a1,a2⟩:=Rep.rds r e1
  obtain ⟨b1,b2⟩:=RepL.rds l e3
  exact ⟨.cons a1 b1,by simp [PyData.canLayAll0,a2,b2]⟩
end
section
variable {K:PySem.W.Frag} {ρ:Ad} {H:Hp} {h:MH} {v:V} {d:D}
theorem jv {p:PyData} (S:Sim K ρ h H) (r:Rep K ρ H v d) (e:rdD h d=some p):Rds K H v p∧p.canLay0=true:=by
 cases r with
 | @ob a n hn=>
  unfold rdD at e
  dsimp only at e
  cases q:h[n]? with
  | none=>rw [q] at e;cases e
  | some o=>
   rw [q] at e
   cases o with
   | dct _=>cases e
   | lst xs=>
    obtain ⟨vs,e1,l⟩:=S.at_ n a _ hn q
    obtain ⟨b,e3,e4⟩:=mpd e
    subst e4
    obtain ⟨b1,b2⟩:=l.rds e3
    exact ⟨.lst (SqL.of e1) b1,by simpa [PyData.canLay0] using b2⟩
 | non=>exact Rep.rds (Rep.non (ρ:=ρ)) e
 | bl b=>exact Rep.rds (Rep.bl (ρ:=ρ) b) e
 | int i=>exact Rep.rds (Rep.int (ρ:=ρ) i) e
 | str x=>exact Rep.rds (Rep.str (ρ:=ρ) x) e
 | ty n=>exact Rep.rds (Rep.ty (ρ:=ρ) n) e
 | tup h l=>exact Rep.rds (.tup h l) e
 | lv h n l=>exact Rep.rds (.lv h n l) e
 | ro h l=>exact Rep.rds (.ro h l) e
 | dv h n l=>exact Rep.rds (.dv h n l) e
def g9 (d:D) (h:MH):Option (List D):=match d with
 | .lv xs=>some xs
 | .ob n=>match h[n]? with
  | some (.lst xs)=>some xs
  | _=>none
 | _=>none
theorem fb {xs:List D} (S:Sim K ρ h H) (r:Rep K ρ H v d) (e:g9 d h=some xs):∃a vs,v=.ref a∧H a=some (.lst vs)∧RepL K ρ H vs xs:=by
 cases r with
 | @ob a n hn=>
  unfold g9 at e
  dsimp only at e
  cases q:h[n]? with
  | none=>rw [q] at e;cases e
  | some o=>
   rw [q] at e
   cases o with
   | dct _=>cases e
   | lst ys=>
    cases e
    obtain ⟨vs,e1,l⟩:=S.at_ n a _ hn q
    exact ⟨a,vs,rfl,e1,l⟩
 | lv h n l=>cases e;exact ⟨_,_,rfl,h,l⟩
 | _=>cases e
def dz (d:D) (h:MH):Option (List (Key×D)):=match d with
 | .dv kvs=>some kvs
 | .ob n=>match h[n]? with
  | some (.dct kvs)=>some kvs
  | _=>none
 | _=>none
theorem fm {xs:List (Key×D)} (S:Sim K ρ h H) (r:Rep K ρ H v d) (e:dz d h=some xs):∃a vs,v=.ref a∧H a=some (.dK vs)∧RepK K ρ H vs xs:=by
 cases r with
 | @ob a n hn=>
  unfold dz at e
  dsimp only at e
  cases q:h[n]? with
  | none=>rw [q] at e;cases e
  | some o=>
   rw [q] at e
   cases o with
   | lst _=>cases e
   | dct ys=>
    cases e
    obtain ⟨vs,e1,l⟩:=S.at_ n a _ hn q
    exact ⟨a,vs,rfl,e1,l⟩
 | dv h n l=>cases e;exact ⟨_,_,rfl,h,l⟩
 | _=>cases e
theorem gC {xs:List D} {ws:W} (S:Sim K ρ h H) (r:Rep K ρ H v d) (e:ck d h=some (xs,ws)):∃a vs,v=.ref a∧(SqL K H a vs∨SqT K H a vs)∧RepL K ρ H vs xs:=by
 obtain ⟨a,e1,⟨vs,q,l⟩,_⟩:=eB S r e
 refine ⟨a,vs,e1,?_,l⟩
 generalize jI d=b at q
 cases q with
 | l q=>exact .inl q
 | t q=>exact .inr q
def nK:D→Option Key
 | .int i=>some (.inl i)
 | .str x=>some (.inr x)
 | _=>none
def jh (kvs:List (Key×D)) (k:Key):Option D:=(kvs.find? fun kv=>decide (kv.1=k)).map (·.2)
def putD (kvs:List (Key×D)) (k:Key) (v:D):List (Key×D):=
 if (kvs.any fun kv=>decide (kv.1=k))=true then kvs.map (fun kv=>if kv.1=k then (kv.1,v) else kv) else kvs++[(k,v)]
theorem fc {k:Key} (r:Rep K ρ H v d) (e:nK d=some k):v=kV k:=by
 cases r with
 | int i=>cases e;rfl
 | str x=>cases e;rfl
 | _=>cases e
theorem RepK.val:∀{us:List (Key×V)} {kvs:List (Key×D)} (k:Key),RepK K ρ H us kvs→(jh kvs k=none∧dw us k=none)∨∃d v,jh kvs k=some d∧dw us k=some v∧Rep K ρ H v d
 | _,_,k,.nil=>.inl ⟨rfl,rfl⟩
 | _,_,k,.cons (k:=j) (v:=v) (vs:=vs) (d:=d) (ds:=ds) r l=>by
  by_cases z:j=k
  ·exact .inr ⟨d,v,by simp [jh,z],by simp [dw,z],r⟩
  ·have h1:jh ((j,d)::ds) k=jh ds k:=by simp only [jh,List.find?_cons,z,decide_false]
   have h2:dw ((j,v)::vs) k=dw vs k:=eU z
   rw [h1,h2]
   exact RepK.val k l
theorem RepK.length:∀{us:List (Key×V)} {kvs:List (Key×D)},RepK K ρ H us kvs→us.length=kvs.length
 | _,_,.nil=>rfl
 | _,_,.cons _ l=>by rw [List.length_cons,List.length_cons,RepK.length l]
theorem RepK.any (k:Key):∀{us:List (Key×V)} {kvs:List (Key×D)},RepK K ρ H us kvs→(us.any fun kv=>decide (kv.1=k))=(kvs.any fun kv=>decide (kv.1=k))
 | _,_,.nil=>rfl
 | _,_,.cons _ l=>by rw [List.any_cons,List.any_cons,RepK.any k l]
theorem RepK.map {k:Key} {v:V} {d:D} (r:Rep K ρ H v d):∀{us:List (Key×V)} {kvs:List (Key×D)},RepK K ρ H us kvs→RepK K ρ H (us.map fun kv=>if kv.1=k then (kv.1,v) else kv) (kvs.map fun kv=>if kv.1=k then (kv.1,d) else kv)
 | _,_,.nil=>.nil
 | _,_,.cons (k:=j) q l=>by
  rw [List.map_cons,List.map_cons]
  by_cases z:j=k
  ·rw [if_pos z,if_pos z];exact .cons r (RepK.map r l)
  ·rw [if_neg z,if_neg z];exact .cons q (RepK.map r l)
theorem RepK.append:∀{us vs:List (Key×V)} {ks ls:List (Key×D)},RepK K ρ H us ks→RepK K ρ H vs ls→RepK K ρ H (us++vs) (ks++ls)
 | _,_,_,_,.nil,t=>t
 | _,_,_,_,.cons r l,t=>.cons r (RepK.append l t)
theorem RepK.put {us:List (Key×V)} {kvs:List (Key×D)} {k:Key} (l:RepK K ρ H us kvs) {v:V} {d:D} (r:Rep K ρ H v d):RepK K ρ H (putK us k v) (putD kvs k d):=by
 unfold putK putD
 rw [l.any k]
 by_cases z:(kvs.any fun kv=>decide (kv.1=k))=true
 ·rw [if_pos z,if_pos z];exact l.map r
 ·rw [if_neg z,if_neg z];exact l.append (.cons r .nil)
end
def rV (d e:D) (h:MH):Option (D×MH):=match d,e with
 | .int i,.int j=>some (.int (i+j),h)
 | .str a,.str b=>if a.length+b.length≤sizeLine then some (.str (a++b),h) else none
 | .tup [],.tup _=>none
 | .tup (x::xs),.tup ys=>if xs.length+1+ys.length≤sizeLine then some (.tup (x::xs++ys),h) else none
 | d,e=>(g9 d h).bind fun xs=>(g9 e h).bind fun ys=>if xs.length+ys.length≤sizeLine then some (.lv (xs++ys),h) else none
def gx (d e:D) (h:MH):Option (D×MH):=match d,e with
 | .int i,.int j=>some (.int (i-j),h)
 | _,_=>none
def eZ (i j:Int):Bool:=(decide (-(2^64) < i)&&decide (i < 2^64))||(decide (-(2^64) < j)&&decide (j < 2^64))
def vx (d e:D) (h:MH):Option (D×MH):=match d,e with
 | .int i,.int j=>if eZ i j then some (.int (i*j),h) else none
 | _,_=>none
def gy (d e:D) (h:MH):Option (D×MH):=match d,e with
 | .int i,.int j=>if 0 < j then some (.int (i % j),h) else none
 | _,_=>none
def nT (d e:D) (h:MH):Option (D×MH):=match d,e with
 | .int i,.int j=>if 0 < j∧j≤10^40 then some (.int (i / j),h) else none
 | _,_=>none
def rR (d e:D) (h:MH):Option (D×MH):=match d,e with
 | .int i,.int j=>if 0≤j∧j≤1000000∧i.natAbs < 2^64 then some (.int (i^j.toNat),h) else none
 | _,_=>none
def pV (f:Int→Int→Bool) (d e:D) (h:MH):Option (D×MH):=match d,e with
 | .int i,.int j=>some (.bl (f i j),h)
 | _,_=>none
def fLt:=pV fun i j=>decide (i < j)
def fLe:=pV fun i j=>decide (i≤j)
def fGt:=pV fun i j=>decide (j < i)
def fGe:=pV fun i j=>decide (j≤i)
def eqD (d e:D) (h:MH):Option Bool:=(rdD h d).bind fun a=>(rdD h e).bind fun b=>if a.depth≤64∧b.depth≤64 then some (PyData.eqv a b) else none
def isN:D→Bool
 | .non=>true
 | _=>false
def vy (d e:D) (h:MH):Option (D×MH):=match e with
 | .non=>some (.bl (isN d),h)
 | _=>none
def mX (d:D) (h:MH):Option (D×MH):=match d with
 | .int i=>some (.int (-i),h)
 | _=>none
def inD (d e:D) (h:MH):Option Bool:=match dz e h with
 | some kvs=>(nK d).map fun k=>(jh kvs k).isSome
 | none=>match d,e with
  | .str x,.str y=>some (!(Builtin.Str.occurrences y x 0 y.length 1).isEmpty)
  | d,e=>(ck e h).bind fun p=>(rdD h d).bind fun a=>(pyL p.1).bind fun bs=>if a.depth≤60∧PyData.depthAll bs≤60 then some (bs.any fun b=>PyData.eqv b a) else none
def fIn (d e:D) (h:MH):Option (D×MH):=(inD d e h).map fun c=>(.bl c,h)
def pM (d e:D) (h:MH):Option (D×MH):=(inD d e h).map fun c=>(.bl (!c),h)
def fIx (d e:D) (h:MH):Option (D×MH):=match dz d h with
 | some kvs=>(nK e).bind fun k=>(jh kvs k).map fun z=>(z,h)
 | none=>match d,e with
  | .str z,.int i=>if z.length≤sizeLine then (atI z.cps.toList i).map fun c=>(.str ⟨#[c]⟩,h) else none
  | d,.int i=>(ck d h).bind fun p=>(atI p.1 i).map fun z=>(z,h)
  | _,_=>none
end Sm
namespace Sm
open PySem L2 PySem.Spec PyProof.Rows
section
variable {X:Cx}
theorem jy {g:Value→Value→Sem Value} {C:Int→Int→Prop} {q:Int→Int→V} {f:D→D→MH→Option (D×MH)} (ho:OpR X g (rI C q))
  (hf:∀d e h z h',f d e h=some (z,h')→∃i j,d=.int i∧e=.int j∧C i j∧h'=h∧∀ρ H,Rep X.K ρ H (q i j) z):OpS X g f:=by
 intro pins s σ H x y v u Q I rx ry hh
 obtain ⟨ρ,h,d,e,z,h',S,rd,re,ee,k⟩:=hh
 obtain ⟨i,j,rfl,rfl,c,rfl,rz⟩:=hf _ _ _ _ _ ee
 cases rd;cases re
 exact ho pins s σ H _ _ v u Q I rx ry ⟨i,j,rfl,rfl,c,k _ _ (.here S (rz _ _))⟩
theorem d6 {g:Value→Value→Sem Value} {q:Int→Int→V} {f:D→D→MH→Option (D×MH)} (ho:OpR X g (rI0 q))
  (hf:∀d e h z h',f d e h=some (z,h')→∃i j,d=.int i∧e=.int j∧h'=h∧∀ρ H,Rep X.K ρ H (q i j) z):OpS X g f:=by
 intro pins s σ H x y v u Q I rx ry hh
 obtain ⟨ρ,h,d,e,z,h',S,rd,re,ee,k⟩:=hh
 obtain ⟨i,j,rfl,rfl,rfl,rz⟩:=hf _ _ _ _ _ ee
 cases rd;cases re
 exact ho pins s σ H _ _ v u Q I rx ry ⟨i,j,rfl,rfl,k _ _ (.here S (rz _ _))⟩
theorem dR:OpS X (binaryOp .Sub) gx:=d6 uX fun d e h z h' ee=>by
 cases d <;> first | (cases ee;done) | skip
 cases e <;> first | (cases ee;done) | skip
 cases ee;exact ⟨_,_,rfl,rfl,rfl,fun _ _=>.int _⟩
theorem uV:OpS X (binaryOp .Mult) vx:=jy uZ fun d e h z h' ee=>by
 cases d <;> first | (cases ee;done) | skip
 cases e <;> first | (cases ee;done) | skip
 rename_i i j
 unfold vx at ee
 dsimp only at ee
 by_cases c:eZ i j=true
 ·rw [if_pos c] at ee;cases ee
  refine ⟨i,j,rfl,rfl,?_,rfl,fun _ _=>.int _⟩
  unfold eZ at c
  simp only [Bool.or_eq_true,Bool.and_eq_true,decide_eq_true_eq] at c
  exact c
 ·rw [if_neg c] at ee;cases ee
theorem dS:OpS X (binaryOp .Mod) gy:=jy u0 fun d e h z h' ee=>by
 cases d <;> first | (cases ee;done) | skip
 cases e <;> first | (cases ee;done) | skip
 rename_i i j
 unfold gy at ee
 dsimp only at ee
 by_cases c:0 < j
 ·rw [if_pos c] at ee;cases ee;exact ⟨i,j,rfl,rfl,c,rfl,fun _ _=>.int _⟩
 ·rw [if_neg c] at ee;cases ee
theorem pj:OpS X (binaryOp .FloorDiv) nT:=jy pk fun d e h z h' ee=>by
 cases d <;> first | (cases ee;done) | skip
 cases e <;> first | (cases ee;done) | skip
 rename_i i j
 unfold nT at ee
 dsimp only at ee
 by_cases c:0 < j∧j≤10^40
 ·rw [if_pos c] at ee;cases ee;exact ⟨i,j,rfl,rfl,c,rfl,fun _ _=>.int _⟩
 ·rw [if_neg c] at ee;cases ee
theorem pb:OpS X (binaryOp .Pow) rR:=jy uY fun d e h z h' ee=>by
 cases d <;> first | (cases ee;done) | skip
 cases e <;> first | (cases ee;done) | skip
 rename_i i j
 unfold rR at ee
 dsimp only at ee
 by_cases c:0≤j∧j≤1000000∧i.natAbs < 2^64
 ·rw [if_pos c] at ee;cases ee;exact ⟨i,j,rfl,rfl,c,rfl,fun _ _=>.int _⟩
 ·rw [if_neg c] at ee;cases ee
theorem mQ {f:Int→Int→Bool} {d e z:D} {h h':MH} (ee:pV f d e h=some (z,h')):∃i j,d=.int i∧e=.int j∧h'=h∧z=.bl (f i j):=by
 cases d <;> first | (cases ee;done) | skip
 cases e <;> first | (cases ee;done) | skip
 cases ee;exact ⟨_,_,rfl,rfl,rfl,rfl⟩
theorem sx:OpS X (compareOp .Lt) fLt:=d6 wV fun d e h z h' ee=>by
 obtain ⟨i,j,rfl,rfl,rfl,rfl⟩:=mQ ee;exact ⟨i,j,rfl,rfl,rfl,fun _ _=>.bl _⟩
theorem eu:OpS X (compareOp .LtE) fLe:=d6 wW fun d e h z h' ee=>by
 obtain ⟨i,j,rfl,rfl,rfl,rfl⟩:=mQ ee;exact ⟨i,j,rfl,rfl,rfl,fun _ _=>.bl _⟩
theorem mE:OpS X (compareOp .Gt) fGt:=d6 wX fun d e h z h' ee=>by
 obtain ⟨i,j,rfl,rfl,rfl,rfl⟩:=mQ ee;exact ⟨i,j,rfl,rfl,rfl,fun _ _=>.bl _⟩
theorem wU:OpS X (compareOp .GtE) fGe:=d6 wY fun d e h z h' ee=>by
 obtain ⟨i,j,rfl,rfl,rfl,rfl⟩:=mQ ee;exact ⟨i,j,rfl,rfl,rfl,fun _ _=>.bl _⟩
theorem kY:UnR X (unaryOp .USub) (rU X.K mX):=by
 intro pins s σ H x v Q I rx hh
 obtain ⟨ρ,h,d,z,h',S,rd,ee,k⟩:=hh
 cases rd <;> first | (cases ee;done) | skip
 cases ee
 exact sG pins s σ H _ v Q I rx ⟨_,rfl,k _ _ (.here S (.int _))⟩
theorem uW:OpS X (binaryOp .Add) rV:=by
 intro pins s σ H x y v u Q I rx ry hh
 obtain ⟨ρ,h,d,e,z,h',S,rd,re,ee,k⟩:=hh
 have lists:((g9 d h).bind fun xs=>(g9 e h).bind fun ys=>if xs.length+ys.length≤sizeLine then some (D.lv (xs++ys),h) else none)=some (z,h')→wpAny (model X.prog X.w) X.A (binaryOp .Add v u) (EP X pins σ Q) X.xe s:=by
  intro ee
  obtain ⟨xs,e1,e4⟩:=bnd ee
  obtain ⟨ys,e2,e3⟩:=bnd e4
  by_cases c:xs.length+ys.length≤sizeLine
  ·rw [if_pos c] at e3;cases e3
   obtain ⟨a,vs,rfl,ha,la⟩:=fb S rd e1
   obtain ⟨b,us,rfl,hb,lb⟩:=fb S re e2
   exact u4 pins s σ H _ _ v u Q I rx ry ⟨a,b,vs,us,rfl,rfl,ha,hb,by rw [la.length,lb.length];exact c,fun p hp=>k _ _ (.lv S (la.append lb) hp)⟩
  ·rw [if_neg c] at e3;cases e3
 cases d with
 | int i=>
  cases e <;> first | (cases ee;done) | skip
  cases ee;cases rd;cases re
  exact u5 pins s σ H _ _ v u Q I rx ry ⟨_,_,rfl,rfl,k _ _ (.here S (.int _))⟩
 | str a=>
  cases e <;> first | (cases ee;done) | skip
  rename_i b
  unfold rV at ee
  dsimp only at ee
  by_cases c:a.length+b.length≤sizeLine
  ·rw [if_pos c] at ee;cases ee
   cases rd with | str h1=>cases re with | str h2=>
   exact lM pins s σ H _ _ v u Q I rx ry ⟨a,b,rfl,rfl,c,k _ _ (.here S (.str (nk h1 h2)))⟩
  ·rw [if_neg c] at ee;cases ee
 | tup xs=>
  cases xs with
  | nil=>cases e <;> cases ee
  | cons x0 xs=>
   cases e <;> first | (cases ee;done) | skip
   rename_i ys
   unfold rV at ee
   dsimp only at ee
   by_cases c:xs.length+1+ys.length≤sizeLine
   ·rw [if_pos c] at ee;cases ee
    cases rd with | tup h1 l1=>cases re with | tup h2 l2=>
    rename_i a vs b us
    refine rm pins s σ H _ _ v u Q I rx ry ⟨a,b,vs,us,rfl,rfl,h1.sq,h2.sq,?_,?_,fun z=>?_,fun _ p hp=>k _ _ (.tup S (l1.append l2) hp)⟩
    ·intro z;rw [z] at l1;cases l1
    ·rw [l1.length,l2.length];exact c
    ·rw [z] at l2
     cases l2
     rw [List.append_nil] at k
     exact k _ _ (.here S (.tup h1 l1))
   ·rw [if_neg c] at ee;cases ee
 | lv xs=>exact lists (by cases e <;> exact ee)
 | ob n=>exact lists (by cases e <;> exact ee)
 | non=>exact lists (by cases e <;> exact ee)
 | bl b=>exact lists (by cases e <;> exact ee)
 | ty b=>exact lists (by cases e <;> exact ee)
 | ro b=>exact lists (by cases e <;> exact ee)
 | dv b=>exact lists (by cases e <;> exact ee)
theorem d8 {p:PyData} (h1:p.canLay0=true) (h2:p.depth≤64):SeqAt.shaped p=true:=by
 unfold PySem.SeqAt.shaped;rw [h1,decide_eq_true h2];rfl
theorem qv {K:PySem.W.Frag} {ρ:Ad} {H:Hp} {v:V} {d:D} (r:Rep K ρ H v d):decide (v=V.non)=isN d:=by
 cases r <;> rfl
theorem ph:OpS X (compareOp .Is) vy:=by
 intro pins s σ H x y v u Q I rx ry hh
 obtain ⟨ρ,h,d,e,z,h',S,rd,re,ee,k⟩:=hh
 cases e <;> first | (cases ee;done) | skip
 cases ee;cases re
 refine u3 pins s σ H _ _ v u Q I rx ry ⟨rfl,?_⟩
 rw [qv rd]
 exact k _ _ (.here S (.bl _))
theorem jf {h:Heap} {p:PyData} {f:Value→Bool}:∀{us:List Value} {ds:List PyData} {as:List Addr},ReadsAll h us ds as→(∀u d as,u∈us→Reads h u d as→d∈ds→f u=PyData.eqv d p)→us.any f=ds.any fun b=>PyData.eqv b p
 | _,_,_,.nil,_=>rfl
 | _,_,_,.cons r l,hf=>by
  rw [List.any_cons,List.any_cons,hf _ _ _ List.mem_cons_self r List.mem_cons_self,jf l fun u d as hu hr hd=>hf u d as (List.mem_cons_of_mem _ hu) hr (List.mem_cons_of_mem _ hd)]
open Classical in
noncomputable def eqF (h:Heap) (p:PyData) (u:Value):Bool:=if q:∃d as,Reads h u d as∧d.canLay0=true then PyData.eqv q.choose p else false
theorem pO {h:Heap} {p d:PyData} {u:Value} {as:List Addr} (r:Reads h u d as) (c:d.canLay0=true):eqF h p u=PyData.eqv d p:=by
 have q:∃d as,Reads h u d as∧d.canLay0=true:=⟨d,as,r,c⟩
 unfold eqF
 rw [dif_pos q]
 obtain ⟨as',r',c'⟩:=q.choose_spec
 rw [PySem.SeqAt.Reads.unique _ _ _ _ _ c' r' r]
theorem dk:∀{ds:List PyData} {d:PyData},PyData.canLayAll0 ds=true→d∈ds→d.canLay0=true
 | x::r,d,c,m=>by
  simp only [PyData.canLayAll0,Bool.and_eq_true] at c
  rcases List.mem_cons.mp m with rfl | m
  ·exact c.1
  ·exact dk c.2 m
theorem i8:∀{ds:List PyData} {d:PyData},d∈ds→d.depth≤PyData.depthAll ds
 | x::r,d,m=>by
  simp only [PyData.depthAll]
  rcases List.mem_cons.mp m with rfl | m
  ·omega
  ·have:=i8 m;omega
end
end Sm
namespace Sm
open PySem L2 PySem.Spec PyProof.Rows
theorem iU {h:Heap}:∀{us:List Value} {ds:List PyData} {as:List Addr},ReadsAll h us ds as→∀y∈us,∃d as,Reads h y d as∧d∈ds
 | _,_,_,.nil,y,hy=>by cases hy
 | _,_,_,.cons r l,y,hy=>by
  rcases List.mem_cons.mp hy with rfl | hy
  ·exact ⟨_,_,r,List.mem_cons_self⟩
  ·obtain ⟨d,as,a1,a2⟩:=iU l y hy
   exact ⟨d,as,a1,List.mem_cons_of_mem _ a2⟩
section
variable {X:Cx} {pins:List (Addr×Obj)} {σ:L2.St} {H:Hp} {s:Shared} {ρ:Ad} {h:MH} {x y:V} {v u:Value} {d e:D}
theorem in_of (hu:X.A.units+64 < cLine) (I:L2.Inv X pins σ H s) (rx:L2.RelV x v) (ry:L2.RelV y u) (S:Sim X.K ρ h H) (rd:Rep X.K ρ H x d) (re:Rep X.K ρ H y e) {c:Bool} (ee:inD d e h=some c) {Q:Bool→Shared→Prop} (hq:∀s',L2.Inv X pins σ H s'→Q c s'):
  wpAny (model X.prog X.w) X.A (compareOp .In v u) (fun r s'=>∃c,r=.bool c∧Q c s') X.xe s∧wpAny (model X.prog X.w) X.A (compareOp .NotIn v u) (fun r s'=>∃c,r=.bool (!c)∧Q c s') X.xe s:=by
 unfold inD at ee
 cases qd:dz e h with
 | some kvs=>
  rw [qd] at ee
  obtain ⟨k,e1,e2⟩:=mpd ee
  obtain ⟨a,us,rfl,ha,l⟩:=fm S re qd
  obtain rfl:u=Value.ref a:=ry
  have ek:=fc rd e1
  subst ek
  have g:iP H a (kV k) (dw us k):=iP.k ha
  have ec:(dw us k).isSome=c:=by
   rw [←e2]
   rcases l.val k with ⟨h1,h2⟩ | ⟨d,v,h1,h2,_⟩
   ·rw [h1,h2];rfl
   ·rw [h1,h2];rfl
  refine ⟨yB (by omega) I g rx fun s' I'=>⟨c,by rw [ec],hq s' I'⟩,rX (by omega) I g rx fun s' I'=>⟨c,by rw [ec],hq s' I'⟩⟩
 | none=>
  rw [qd] at ee
  dsimp only at ee
  have seqs:((ck e h).bind fun p=>(rdD h d).bind fun a=>(pyL p.1).bind fun bs=>if a.depth≤60∧PyData.depthAll bs≤60 then some (bs.any fun b=>PyData.eqv b a) else none)=some c→
    wpAny (model X.prog X.w) X.A (compareOp .In v u) (fun r s'=>∃c,r=.bool c∧Q c s') X.xe s∧wpAny (model X.prog X.w) X.A (compareOp .NotIn v u) (fun r s'=>∃c,r=.bool (!c)∧Q c s') X.xe s:=by
   intro ee
   obtain ⟨⟨xs,ws⟩,e1,e2⟩:=bnd ee
   obtain ⟨p,e3,e4⟩:=bnd e2
   obtain ⟨bs,e5,e6⟩:=bnd e4
   by_cases w:p.depth≤60∧PyData.depthAll bs≤60
   ·rw [if_pos w] at e6;cases e6
    obtain ⟨a,vs,rfl,hq',l⟩:=gC S re e1
    obtain rfl:u=Value.ref a:=ry
    obtain ⟨r1,c1⟩:=jv S rd e3
    obtain ⟨r2,c2⟩:=l.rds e5
    obtain ⟨as,ra⟩:=r1.reads I rx
    have key:∀its:List Value,Vals vs its→(∀y,y∈its→PySem.SeqAt.EqAt X.A.in1 s y v (eqF s.heap p y))∧its.any (eqF s.heap p)=bs.any fun b=>PyData.eqv b p:=by
     intro its rv
     obtain ⟨bs',rb⟩:=r2.reads I rv
     refine ⟨fun y hy=>?_,jf rb fun u d as _ hr hd=>pO hr (dk c2 hd)⟩
     obtain ⟨d,as',hr,hd⟩:=iU rb y hy
     rw [pO hr (dk c2 hd)]
     refine PySem.SeqAt.eqAt_reads d p _ s y v as' as hr ra (dk c2 hd) c1 ?_
     have h1:=i8 hd
     have h2:min d.depth p.depth≤d.depth:=Nat.min_le_left _ _
     show X.A.units+1+min d.depth p.depth < cLine
     have h3:=w.2
     omega
    rcases hq' with hq' | hq'
    ·obtain ⟨its,rv,pl,_⟩:=I.list hq'
     obtain ⟨k1,k2⟩:=key its rv
     have k1':∀y,y∈its.toArray→PySem.SeqAt.EqAt X.A.in1 s y v (eqF s.heap p y):=fun y hy=>k1 y (by simpa using hy)
     have k2':its.toArray.any (eqF s.heap p)=bs.any fun b=>PyData.eqv b p:=by rw [←k2];simp
     exact ⟨PySem.SeqAt.in_listAt _ pl.isList k1' ⟨_,rfl,by rw [k2'];exact hq s I⟩,PySem.SeqAt.notIn_listAt _ pl.isList k1' ⟨_,rfl,by rw [k2'];exact hq s I⟩⟩
    ·obtain ⟨its,rv,pl,_⟩:=I.tuple hq'
     obtain ⟨k1,k2⟩:=key its rv
     have k1':∀y,y∈its.toArray→PySem.SeqAt.EqAt X.A.in1 s y v (eqF s.heap p y):=fun y hy=>k1 y (by simpa using hy)
     have k2':its.toArray.any (eqF s.heap p)=bs.any fun b=>PyData.eqv b p:=by rw [←k2];simp
     exact ⟨PySem.SeqAt.in_tupleAt _ pl k1' ⟨_,rfl,by rw [k2'];exact hq s I⟩,PySem.SeqAt.notIn_tupleAt _ pl k1' ⟨_,rfl,by rw [k2'];exact hq s I⟩⟩
   ·rw [if_neg w] at e6;cases e6
  by_cases hs:(∃a,d=.str a)∧∃b,e=.str b
  ·obtain ⟨⟨a,rfl⟩,b,rfl⟩:=hs
   cases ee
   cases rd;cases re
   obtain ⟨t,rfl⟩:=rx
   obtain ⟨t',rfl⟩:=ry
   exact ⟨in_str ⟨_,rfl,hq s I⟩,notIn_str ⟨_,rfl,hq s I⟩⟩
  ·refine seqs ?_
   cases d <;> first | exact ee | skip
   cases e <;> first | exact ee | skip
   exact absurd ⟨⟨_,rfl⟩,_,rfl⟩ hs
theorem mC (hu:X.A.units+64 < cLine):OpS X (compareOp .In) fIn:=by
 intro pins s σ H x y v u Q I rx ry hh
 obtain ⟨ρ,h,d,e,z,h',S,rd,re,ee,k⟩:=hh
 obtain ⟨c,e1,e2⟩:=mpd ee
 cases e2
 refine thn (in_of hu I rx ry S rd re e1 (Q:=fun c' s'=>c'=c∧L2.Inv X pins σ H s') fun s' I'=>⟨rfl,I'⟩).1 fun r s' ⟨c',hr,hc,I'⟩=>?_
 subst hr;subst hc
 exact ⟨.bl _,H,I',rfl,k _ _ (.here S (.bl _))⟩
theorem pf (hu:X.A.units+64 < cLine):OpS X (compareOp .NotIn) pM:=by
 intro pins s σ H x y v u Q I rx ry hh
 obtain ⟨ρ,h,d,e,z,h',S,rd,re,ee,k⟩:=hh
 obtain ⟨c,e1,e2⟩:=mpd ee
 cases e2
 refine thn (in_of hu I rx ry S rd re e1 (Q:=fun c' s'=>c'=c∧L2.Inv X pins σ H s') fun s' I'=>⟨rfl,I'⟩).2 fun r s' ⟨c',hr,hc,I'⟩=>?_
 subst hr;subst hc
 exact ⟨.bl _,H,I',rfl,k _ _ (.here S (.bl _))⟩
end
end Sm
namespace Sm
open PySem L2 PySem.Spec PyProof.Rows
theorem sg {K:PySem.W.Frag} {ρ:Ad} {H:Hp} {vs:List V} {ds:List D} {i:Int} {d:D} (l:RepL K ρ H vs ds) (e:atI ds i=some d):∃v,atI vs i=some v∧Rep K ρ H v d:=by
 unfold atI at e
 obtain ⟨j,e1,e2⟩:=bnd e
 obtain ⟨v,e3,r⟩:=l.got e2
 exact ⟨v,by unfold atI;rw [l.length,e1];exact e3,r⟩
section
variable {X:Cx}
theorem w9 (hu:X.A.units+64 < cLine):IxR X (rS X.K fIx):=by
 intro value slice pins s σ H x y v u Q I rx ry hh hs
 obtain ⟨ρ,h,d,e,z,h',S,rd,re,ee,k⟩:=hh
 unfold fIx at ee
 cases qd:dz d h with
 | some kvs=>
  rw [qd] at ee
  obtain ⟨ky,e1,e2⟩:=bnd ee
  obtain ⟨z',e3,e4⟩:=mpd e2
  cases e4
  obtain ⟨a,us,rfl,ha,l⟩:=fm S rd qd
  obtain rfl:v=Value.ref a:=rx
  have ek:=fc re e1
  subst ek
  rcases l.val ky with ⟨h1,h2⟩ | ⟨d',w,h1,h2,r⟩
  ·rw [h1] at e3;cases e3
  ·rw [h1] at e3;cases e3
   have g:iP H a (kV ky) (some w):=by rw [←h2];exact iP.k ha
   exact tail_any (kN I g) PySem.F.slot_dict_getitem.lookup (nX (by omega) I g ry fun w' s3 I3 rw'=>⟨w,H,I3,rw',k _ _ (.here S r)⟩) hs
 | none=>
  rw [qd] at ee
  dsimp only at ee
  cases e <;> first | (cases d <;> (cases ee;done)) | skip
  rename_i i
  have seqs:((ck d h).bind fun p=>(atI p.1 i).map fun z=>(z,h))=some (z,h')→wpAny (model X.prog X.w) X.A (subscriptTail value slice v u) (EP X pins σ Q) X.xe s:=by
   intro ee
   obtain ⟨⟨xs,ws⟩,e1,e2⟩:=bnd ee
   obtain ⟨z',e3,e4⟩:=mpd e2
   cases e4
   obtain ⟨a,vs,rfl,hq',l⟩:=gC S rd e1
   obtain ⟨w,e5,r⟩:=sg l e3
   cases re
   rcases hq' with hq' | hq'
   ·exact rG value slice pins s σ H _ _ v u Q I rx ry ⟨a,vs,i,w,rfl,rfl,hq',e5,k _ _ (.here S r)⟩ hs
   ·exact vj value slice pins s σ H _ _ v u Q I rx ry ⟨a,vs,i,w,rfl,rfl,hq',e5,k _ _ (.here S r)⟩ hs
  cases d with
  | str x0=>
   dsimp only at ee
   by_cases c:x0.length≤sizeLine
   ·rw [if_pos c] at ee
    obtain ⟨ch,e3,e4⟩:=mpd ee
    cases e4
    cases rd with | str hs0=>
    cases re
    exact vk value slice pins s σ H _ _ v u Q I rx ry ⟨x0,i,ch,rfl,rfl,c,e3,k _ _ (.here S (.str (nj hs0 e3)))⟩ hs
   ·rw [if_neg c] at ee;cases ee
  | _=>exact seqs ee
theorem bh {a b:Expr} {pos:Pos} {ma mb:EM} (hu:X.A.units+64 < cLine) (ha:SE X a ma) (hb:SE X b mb) (hs:jY b:=by unfold jY;intro _ _;kernel_rfl):SE X (.Subscript a b pos) (eOp fIx ma mb):=(wO (w9 hu) ha hb hs).imp fun _ _ _=>mr
abbrev PM:=DS→MH→Option (Option Int×MH)
def pNo:PM:=fun _ h=>some (none,h)
def pAt (e:EM):PM:=fun δ h=>(e δ h).bind fun p=>match p.1 with
 | .int i=>some (some i,p.2)
 | _=>none
inductive TMOi (K:PySem.W.Frag) (m:PM) (σ:L2.St) (H:Hp) (Q:Option Int→Hp→Prop):Prop where
 | mk (ρ δ h b h'):RepS K ρ H σ δ→Sim K ρ h H→(m δ h=some (b,h'))→(∀ρ' H',Stp ρ H ρ' H'→Sim K ρ' h' H'→Q b H')→TMOi K m σ H Q
def tMO (K:PySem.W.Frag) (m:PM):TO:=fun σ H Q=>TMOi K m σ H Q
def SP' (X:Cx) (e:Option Expr) (m:PM):Prop:=PO X e (tMO X.K m)
theorem mn:SP' X none pNo:=fun pins s σ H Q I hh=>by
 obtain ⟨ρ,δ,h,b,h',R,S,e,k⟩:=hh
 cases e
 exact qL pins s σ H Q I (k ρ H (.refl _ _) S)
theorem mm {e:Expr} {ma:EM} (he:SE X e ma):SP' X (some e) (pAt ma):=fun pins s σ H Q I hh=>by
 obtain ⟨ρ,δ,h,b,h',R,S,e,k⟩:=hh
 obtain ⟨⟨x,h1⟩,e1,e2⟩:=bnd e
 cases x <;> first | (cases e2;done) | skip
 cases e2
 refine qK he pins s σ H Q I ⟨ρ,δ,h,_,_,R,S,e1,fun v H' ⟨ρ',T,S',r⟩=>?_⟩
 cases r
 exact ⟨_,rfl,k ρ' H' T S'⟩
def cutD (xs:List D) (lo hi:Option Int):List D:=(xs.drop (HT.sIx xs.length 0 lo)).take (HT.sIx xs.length xs.length hi-HT.sIx xs.length 0 lo)
def fSl (d:D) (lo hi:Option Int) (h:MH):Option (D×MH):=match d with
 | .str z=>if z.length≤sizeLine then some (.str (Txt.slice z lo hi),h) else none
 | .tup xs=>if HT.sIx xs.length 0 lo=0∧HT.sIx xs.length xs.length hi=xs.length then none else some (.tup (cutD xs lo hi),h)
 | d=>(ck d h).map fun p=>(.lv (cutD p.1 lo hi),h)
def eSl (a:EM) (l u:PM):EM:=fun δ h=>(a δ h).bind fun p=>(l δ p.2).bind fun q=>(u δ q.2).bind fun r=>fSl p.1 q.1 r.1 r.2
inductive RSLi (K:PySem.W.Frag) (x:V) (lo hi:Option Int) (H:Hp) (Q:VK):Prop where
 | mk (ρ h d z h'):Sim K ρ h H→Rep K ρ H x d→(fSl d lo hi h=some (z,h'))→(∀v H',cb K ρ H h' z v H'→Q v H')→RSLi K x lo hi H Q
def rSl (K:PySem.W.Frag):V→Option Int→Option Int→Hp→VK→Prop:=fun x lo hi H Q=>RSLi K x lo hi H Q
theorem RepL.ig {K:PySem.W.Frag} {ρ:Ad} {H:Hp} {vs:List V} {ds:List D} (l:RepL K ρ H vs ds) (lo hi:Option Int):RepL K ρ H (L2.ig vs lo hi) (cutD ds lo hi):=by
 unfold L2.ig cutD
 rw [l.length]
 exact (l.drop _).take _
theorem sm:SlR X (rSl X.K):=by
 intro pins s σ H x v vl vu lo hi sl Q I rx hs pl pu hh
 obtain ⟨ρ,h,d,z,h',S,rd,ee,k⟩:=hh
 have lists:jI d=true→((ck d h).map fun p=>(D.lv (cutD p.1 lo hi),h))=some (z,h')→∃T id,typeLookup (.type T) "__getitem__"=pure (some (.builtin id))∧s.TypeIs v T∧wpAny (model X.prog X.w) X.A (getItem v (.ref sl)) (EP X pins σ Q) X.xe s:=by
  intro nt e2
  obtain ⟨⟨xs,ws⟩,e1,e2⟩:=mpd e2
  cases e2
  obtain ⟨a,rfl,⟨vs,q,l⟩,_⟩:=eB S rd e1
  rw [nt] at q
  cases q with
  | l q=>exact qo pins s σ H _ v vl vu lo hi sl Q I rx hs pl pu ⟨a,vs,rfl,q,fun p hp=>k _ _ (.lv S (l.ig lo hi) hp)⟩
 cases d with
 | str x0=>
  unfold fSl at ee
  dsimp only at ee
  by_cases c:x0.length≤sizeLine
  ·rw [if_pos c] at ee;cases ee
   cases rd with | str hs0=>
   exact sQ pins s σ H _ v vl vu lo hi sl Q I rx hs pl pu ⟨x0,rfl,c,k _ _ (.here S (.str (j3 _ _ hs0)))⟩
  ·rw [if_neg c] at ee;cases ee
 | tup xs=>
  unfold fSl at ee
  dsimp only at ee
  by_cases c:HT.sIx xs.length 0 lo=0∧HT.sIx xs.length xs.length hi=xs.length
  ·rw [if_pos c] at ee;cases ee
  ·rw [if_neg c] at ee;cases ee
   cases rd with | tup h0 l0=>
   exact sP pins s σ H _ v vl vu lo hi sl Q I rx hs pl pu ⟨_,_,rfl,h0.sq,by rw [l0.length];exact c,fun p hp=>k _ _ (.tup S (l0.ig lo hi) hp)⟩
 | _=>exact lists rfl ee
theorem aw {x:Str} {id:String} {p pos:Pos} {e:Expr} {es:List Expr} {f:Fn} {m:AM} (hc:fv X (.builtin id) f) (hg:Gl X x) (hm:X.mg x=none) (hv:bootBuiltins x=some (.builtin id)) (ha:SA X (e::es) m) (hn:x≠"__name__":=by decide) (hdb:(x==("__debug__":Str))=false:=by kernel_rfl)
  (he:starEach (e::es) X.env=(false,eval e X.env)::starEach es X.env:=by kernel_rfl) (hpl:(backTo pos (starEach es X.env)).any (·.1)=false:=by kernel_rfl):SE X (.Call (.Name x p) (e::es) [] pos) (eFn f m):=
 (kr hc hg hm hv ha hn hdb he hpl).imp fun σ H Q ⟨ρ,δ,h,d,h',R,S,e,k⟩=>by
  obtain ⟨⟨ds,h1⟩,e1,e2⟩:=bnd e
  exact ⟨ρ,δ,h,ds,h1,R,S,e1,fun vs ρ1 H1 T1 S1 r1=>⟨ρ1,h1,ds,d,h',S1,r1,e2,fun v H' P=>k v H' (P.step T1)⟩⟩
theorem cT {x:Str} {id:String} {p pos:Pos} {e:Expr} {es:List Expr} {f:Fn} {m:AM} (hc:fv X (.type id) f) (hg:Gl X x) (hm:X.mg x=none) (hv:bootBuiltins x=some (.type id)) (ha:SA X (e::es) m) (hn:x≠"__name__":=by decide) (hdb:(x==("__debug__":Str))=false:=by kernel_rfl)
  (he:starEach (e::es) X.env=(false,eval e X.env)::starEach es X.env:=by kernel_rfl) (hpl:(backTo pos (starEach es X.env)).any (·.1)=false:=by kernel_rfl):SE X (.Call (.Name x p) (e::es) [] pos) (eFn f m):=
 (fN hc hg hm hv ha hn hdb he hpl).imp fun σ H Q ⟨ρ,δ,h,d,h',R,S,e,k⟩=>by
  obtain ⟨⟨ds,h1⟩,e1,e2⟩:=bnd e
  exact ⟨ρ,δ,h,ds,h1,R,S,e1,fun vs ρ1 H1 T1 S1 r1=>⟨ρ1,h1,ds,d,h',S1,r1,e2,fun v H' P=>k v H' (P.step T1)⟩⟩
def cB:Fn:=fun ds h=>match ds with
 | [.str z]=>if z.length≤sizeLine then some (.int z.length,h) else none
 | [d]=>match dz d h with
  | some kvs=>some (.int kvs.length,h)
  | none=>(ck d h).map fun p=>(.int p.1.length,h)
 | _=>none
def vz:Fn:=fun ds h=>match ds with
 | [.int i]=>some (.int (if i < 0 then -i else i),h)
 | _=>none
def tyD (d:D) (h:MH):Option String:=match d with
 | .non=>some "NoneType"
 | .bl _=>some "bool"
 | .int _=>some "int"
 | .str _=>some "str"
 | .tup _=>some "tuple"
 | .lv _=>some "list"
 | .dv _=>some "dict"
 | .ob n=>match h[n]? with
  | some (.lst _)=>some "list"
  | some (.dct _)=>some "dict"
  | none=>none
 | _=>none
def oy (t n:String):Bool:=t==n||(t=="bool"&&n=="int")
def et:Fn:=fun ds h=>match ds with
 | [d,.ty n]=>if n∈["int","str","bool","tuple","list","dict"] then (tyD d h).map fun t=>(.bl (oy t n),h) else none
 | _=>none
def eO:Fn:=fun ds h=>match ds with
 | [d]=>(ck d h).map fun p=>(.tup p.1,h)
 | _=>none
def oa:List D→Option (List Bool)
 | []=>some []
 | .bl b::r=>(oa r).map fun bs=>b::bs
 | _=>none
def iN:Fn:=fun ds h=>match ds with
 | [d]=>(g9 d h).bind fun xs=>(oa xs).map fun bs=>(.bl (bs.all id),h)
 | _=>none
theorem rep1 {K:PySem.W.Frag} {ρ:Ad} {H:Hp} {vs:List V} {d:D} (l:RepL K ρ H vs [d]):∃v,vs=[v]∧Rep K ρ H v d:=by
 cases l with
 | cons r l=>cases l;exact ⟨_,rfl,r⟩
theorem rep2 {K:PySem.W.Frag} {ρ:Ad} {H:Hp} {vs:List V} {d e:D} (l:RepL K ρ H vs [d,e]):∃v u,vs=[v,u]∧Rep K ρ H v d∧Rep K ρ H u e:=by
 cases l with
 | cons r l=>cases l with
  | cons r' l=>cases l;exact ⟨_,_,rfl,r,r'⟩
theorem bS:fv X (.builtin "len") cB:=by
 intro pins s σ H xs us Q I r hh
 obtain ⟨ρ,h,ds,z,h',S,l,ee,k⟩:=hh
 match ds,l,ee with
 | [],_,ee=>cases ee
 | _::_::_,_,ee=>exact absurd ee (by unfold cB;split <;> simp_all)
 | [d],l,ee=>
  obtain ⟨v,rfl,rd⟩:=rep1 l
  have oth:(match dz d h with | some kvs=>some (D.int kvs.length,h) | none=>(ck d h).map fun p=>(D.int p.1.length,h))=some (z,h')→wpAny (model X.prog X.w) X.A (call (.builtin "len") us) (EP X pins σ Q) X.xe s:=by
   intro ee
   cases q:dz d h with
   | some kvs=>
    rw [q] at ee;cases ee
    obtain ⟨a,ws,rfl,ha,lk⟩:=fm S rd q
    refine n5 pins s σ H _ us Q I r ⟨a,ws,rfl,ha,k _ _ ?_⟩
    rw [lk.length]
    exact .here S (.int _)
   | none=>
    rw [q] at ee
    obtain ⟨⟨ys,w⟩,e1,e2⟩:=mpd ee
    cases e2
    obtain ⟨a,vs,rfl,hq,l2⟩:=gC S rd e1
    refine jQ pins s σ H _ us Q I r ⟨a,vs,rfl,hq,k _ _ ?_⟩
    rw [l2.length]
    exact .here S (.int _)
  cases d with
  | str x0=>
   unfold cB at ee
   dsimp only at ee
   by_cases c:x0.length≤sizeLine
   ·rw [if_pos c] at ee;cases ee
    cases rd
    exact jP pins s σ H _ us Q I r ⟨x0,rfl,c,k _ _ (.here S (.int _))⟩
   ·rw [if_neg c] at ee;cases ee
  | _=>exact oth ee
theorem pU:fv X (.builtin "abs") vz:=by
 intro pins s σ H xs us Q I r hh
 obtain ⟨ρ,h,ds,z,h',S,l,ee,k⟩:=hh
 match ds,l,ee with
 | [],_,ee=>cases ee
 | d::_::_,_,ee=>cases d <;> cases ee
 | [d],l,ee=>
  obtain ⟨v,rfl,rd⟩:=rep1 l
  cases rd <;> first | (cases ee;done) | skip
  cases ee
  exact pZ pins s σ H _ us Q I r ⟨_,rfl,k _ _ (.here S (.int _))⟩
theorem cW:fv X (.type "tuple") eO:=by
 intro pins s σ H xs us Q I r hh
 obtain ⟨ρ,h,ds,z,h',S,l,ee,k⟩:=hh
 match ds,l,ee with
 | [],_,ee=>cases ee
 | _::_::_,_,ee=>cases ee
 | [d],l,ee=>
  obtain ⟨v,rfl,rd⟩:=rep1 l
  obtain ⟨⟨ys,w⟩,e1,e2⟩:=mpd ee
  cases e2
  obtain ⟨a,rfl,⟨vs,q,l2⟩,_⟩:=eB S rd e1
  refine iO pins s σ H _ us Q I r ⟨a,vs,rfl,?_⟩
  generalize hb:jI d=b at q
  cases q with
  | l q=>exact .inl ⟨q,fun p hp=>k _ _ (.tup S l2 hp)⟩
  | t q=>
   refine .inr ⟨q,k _ _ ?_⟩
   cases rd <;> first | (cases hb;done) | skip
   cases e1
   exact .here S (.tup ‹_› ‹_›)
theorem p4 {K:PySem.W.Frag} {ρ:Ad} {H:Hp}:∀{vs:List V} {xs:List D} {bs:List Bool},RepL K ρ H vs xs→oa xs=some bs→vs=bs.map V.bl
 | _,_,_,.nil,e=>by cases e;rfl
 | _,_,_,.cons r l,e=>by
  cases r <;> first | (cases e;done) | skip
  obtain ⟨bs',e1,e2⟩:=mpd e
  cases e2
  rw [p4 l e1];rfl
theorem eR (hc:X.calm=true):fv X (.builtin "all") iN:=by
 intro pins s σ H xs us Q I r hh
 obtain ⟨ρ,h,ds,z,h',S,l,ee,k⟩:=hh
 match ds,l,ee with
 | [],_,ee=>cases ee
 | _::_::_,_,ee=>cases ee
 | [d],l,ee=>
  obtain ⟨v,rfl,rd⟩:=rep1 l
  obtain ⟨ys,e1,e2⟩:=bnd ee
  obtain ⟨bs,e3,e4⟩:=mpd e2
  cases e4
  obtain ⟨a,vs,rfl,ha,l2⟩:=fb S rd e1
  rw [p4 l2 e3] at ha
  exact pY hc pins s σ H _ us Q I r ⟨a,bs,rfl,SqL.of ha,k _ _ (.here S (.bl _))⟩
end
end Sm
namespace Sm
open PySem L2 PySem.Spec PyProof.Rows
section
variable {X:Cx}
theorem mH {K:PySem.W.Frag} {t n:String} (ht:t∈["NoneType","bool","int","str","tuple","list","dict"]) (hn:n∈["int","str","bool","tuple","list","dict"]):PySem.W.kitOne K (.type t) (.type n)=some (oy t n):=by
 simp only [List.mem_cons,List.mem_nil_iff,or_false] at ht hn
 rcases ht with rfl | rfl | rfl | rfl | rfl | rfl | rfl <;> rcases hn with rfl | rfl | rfl | rfl | rfl | rfl <;> rfl
theorem bT:fv X (.builtin "isinstance") et:=by
 intro pins s σ H xs us Q I r hh
 obtain ⟨ρ,h,ds,z,h',S,l,ee,k⟩:=hh
 match ds,l,ee with
 | [],_,ee=>cases ee
 | [_],_,ee=>cases ee
 | _::d::_::_,_,ee=>cases d <;> cases ee
 | [d,c],l,ee=>
  cases c <;> first | (cases ee;done) | skip
  rename_i n
  unfold et at ee
  dsimp only at ee
  by_cases hn:n∈["int","str","bool","tuple","list","dict"]
  ·rw [if_pos hn] at ee
   obtain ⟨t,e1,e2⟩:=mpd ee
   cases e2
   obtain ⟨v,u,rfl,rd,ru⟩:=rep2 l
   cases ru
   have fin:=k (.bl (oy t n)) H (.here S (.bl _))
   have go:∀ty,TyOf X.K H v (.type ty)→t=ty→ty∈["NoneType","bool","int","str","tuple","list","dict"]→wpAny (model X.prog X.w) X.A (call (.builtin "isinstance") us) (EP X pins σ Q) X.xe s:=fun ty hty e hm=>by
    subst e
    exact pX pins s σ H _ us Q I r ⟨v,n,_,_,rfl,hty,mH hm hn,fin⟩
   cases rd with
   | non=>cases e1;exact go _ .non rfl (by decide)
   | bl b=>cases e1;exact go _ (.bl b) rfl (by decide)
   | int i=>cases e1;exact go _ (.int i) rfl (by decide)
   | str h0=>cases e1;exact go _ (.str _) rfl (by decide)
   | ty _=>cases e1
   | ro _ _=>cases e1
   | lv h0 _ _=>cases e1;exact go _ (.lst h0) rfl (by decide)
   | dv h0 _ _=>cases e1;exact go _ (.dK h0) rfl (by decide)
   | @ob a m hm=>
    unfold tyD at e1
    dsimp only at e1
    cases q:h[m]? with
    | none=>rw [q] at e1;cases e1
    | some o=>
     rw [q] at e1
     have x:=S.at_ m a o hm q
     cases o with
     | lst _=>cases e1;obtain ⟨vs,e3,_⟩:=x;exact go _ (.lst e3) rfl (by decide)
     | dct _=>cases e1;obtain ⟨vs,e3,_⟩:=x;exact go _ (.dK e3) rfl (by decide)
   | @tup a vs ds h0 l0=>
    cases e1
    obtain ⟨u1,u2,rfl,r1,r2⟩:=Vals.two r
    obtain rfl:u1=Value.ref a:=r1
    obtain rfl:u2=Value.type n:=r2
    obtain ⟨its,_,⟨o,h1,h2,_⟩,_⟩:=I.tuple h0.sq
    exact PySem.W.kia_one PySem.W.kitx_tuple I.kIn ⟨o,h1,h2⟩ (mH (t:="tuple") (by decide) hn) (fun z=>nomatch z) fun tk=>⟨.bl _,H,I.tok tk,rfl,fin⟩
  ·rw [if_neg hn] at ee;cases ee
def kW (m:AM):AM:=fun δ h=>(m δ h).bind fun p=>match p.1 with
 | [d]=>(ck d p.2).map fun q=>(q.1,p.2)
 | _=>none
theorem jl {x:Str} {p pos:Pos} {e:Expr} {m:AM} (hg:Gl X x) (hm:X.mg x=none) (hv:bootBuiltins x=some (.type "list")) (ha:SA X [e] m) (hl:gz m 1) (hn:x≠"__name__":=by decide) (hdb:(x==("__debug__":Str))=false:=by kernel_rfl)
  (he:starEach [e] X.env=(false,eval e X.env)::starEach [] X.env:=by kernel_rfl) (hpl:(backTo pos (starEach [] X.env)).any (·.1)=false:=by kernel_rfl):SFL X (.Call (.Name x p) [e] [] pos) (kW m):=
 (fN jO hg hm hv ha hn hdb he hpl).imp fun σ H Q ⟨ρ,δ,h,d,h',R,S,e,k⟩=>by
  obtain ⟨⟨ds,h1⟩,e1,e2⟩:=bnd e
  refine ⟨ρ,δ,h,ds,h1,R,S,e1,fun vs ρ1 H1 T1 S1 r1=>?_⟩
  match ds,hl _ _ _ _ e1,e2,r1 with
  | [d],_,e2,r1=>
   obtain ⟨⟨ys,w⟩,e3,e4⟩:=mpd e2
   cases e4
   obtain ⟨v,rfl,rd⟩:=rep1 r1
   obtain ⟨a,ws,rfl,hq,l2⟩:=gC S1 rd e3
   exact ⟨a,ws,rfl,hq,fun l hl=>k ρ1 H1 l ws T1 S1 hl l2⟩
def kK (o i v:D) (h:MH):Option MH:=match o with
 | .ob n=>match h[n]? with
  | some (.lst xs)=>match i with
   | .int j=>(ixN xs.length j).map fun p=>h.set n (.lst (xs.set p v))
   | _=>none
  | some (.dct kvs)=>(nK i).bind fun k=>if kvs.length < sizeLine then some (h.set n (.dct (putD kvs k v))) else none
  | none=>none
 | _=>none
def ib (o i:EM):GM:=fun v δ h=>(o δ h).bind fun p=>(i δ p.2).bind fun q=>(kK p.1 q.1 v q.2).map fun h'=>(δ,h')
inductive RSETi (K:PySem.W.Frag) (o i v:V) (H:Hp) (Q:Hp→Prop):Prop where
 | mk (ρ h a b c h'):Sim K ρ h H→Rep K ρ H o a→Rep K ρ H i b→Rep K ρ H v c→(kK a b c h=some h')→(∀ρ' H',Stp ρ H ρ' H'→Sim K ρ' h' H'→Q H')→RSETi K o i v H Q
def ye (K:PySem.W.Frag):V→V→V→Hp→(Hp→Prop)→Prop:=fun o i v H Q=>RSETi K o i v H Q
theorem qI (hu:X.A.units+64 < cLine):vL X (ye X.K):=by
 intro pins s σ H o i v ov iv u Q I ro ri rv hh
 obtain ⟨ρ,h,a,b,c,h',S,ra,rb,rc,ee,k⟩:=hh
 cases ra <;> first | (cases ee;done) | skip
 rename_i a n hn
 unfold kK at ee
 dsimp only at ee
 cases q:h[n]? with
 | none=>rw [q] at ee;cases ee
 | some w=>
  rw [q] at ee
  have x:=S.at_ n a w hn q
  have ma:=List.mem_of_getElem? hn
  cases w with
  | lst xs=>
   dsimp only at ee
   cases rb <;> first | (cases ee;done) | skip
   rename_i j
   obtain ⟨p,e1,e2⟩:=mpd ee
   cases e2
   obtain ⟨vs,e3,l⟩:=x
   have T:Stp ρ H ρ (upd H a (.lst (vs.set p v))):=Stp.wrote S ma
   exact set_list pins s σ H _ _ v ov iv u Q I ro ri rv ⟨a,vs,j,p,rfl,rfl,e3,by rw [l.length];exact e1,k ρ _ T (S.wrote hn ⟨_,aT,(l.set rc p).mono T.toCh⟩)⟩
  | dct kvs=>
   dsimp only at ee
   obtain ⟨ky,e1,e2⟩:=bnd ee
   by_cases z:kvs.length < sizeLine
   ·rw [if_pos z] at e2;cases e2
    obtain ⟨us,e3,l⟩:=x
    have ek:=fc rb e1
    subst ek
    obtain rfl:ov=Value.ref a:=ro
    have T:Stp ρ H ρ (upd H a (.dK (putK us ky v))):=Stp.wrote S ma
    exact nW (by omega) I (sj.k e3 (by rw [l.length];exact z)) ri rv fun s' I'=>⟨_,I',k ρ _ T (S.wrote hn ⟨_,aT,(l.put rc).mono T.toCh⟩)⟩
   ·rw [if_neg z] at e2;cases e2
theorem eA {o i:Expr} {pos:Pos} {mo mi:EM} (hu:X.A.units+64 < cLine) (ho:SE X o mo) (hi:SE X i mi)
  (ha:∀v,assign (.Subscript o i pos) X.env v=(do
   let ov←holding [v] (eval o X.env)
   let iv←holding [v,ov] (eval i X.env)
   standAt pos
   holding [v,ov,iv] (setItem ov iv v)
   release [v,ov,iv] []):=by intro _;kernel_rfl):SG X (.Subscript o i pos) (ib mo mi):=
 (t9 ho hi (qI hu) ha).imp fun v σ H Q ⟨ρ,δ,h,d,δ',h',R,S,r,e,k⟩=>by
  obtain ⟨⟨x,h1⟩,e1,e2⟩:=bnd e
  obtain ⟨⟨y,h2⟩,e3,e4⟩:=bnd e2
  obtain ⟨h3,e5,e6⟩:=mpd e4
  cases e6
  exact ⟨ρ,δ,h,x,h1,R,S,e1,fun ov H1 ⟨ρ1,T1,S1,r1⟩=>⟨ρ1,δ,h1,y,h2,R.mono T1,S1,e3,fun iv H2 ⟨ρ2,T2,S2,r2⟩=>
   ⟨ρ2,h2,x,y,d,_,S2,r1.mono T2,r2,r.mono (T1.trans T2).toCh,e5,fun ρ3 H3 T3 S3=>k ρ3 H3 σ (T1.trans (T2.trans T3)) S3 (R.mono (T1.trans (T2.trans T3)).toCh)⟩⟩⟩
end
end Sm
namespace Sb
open PySem L2 PySem.Spec PyProof.Rows
open Builtin.SmallTypes (nextOf ownedTupleIsFree ownedTupleHandOut)
def kn:Bool→String
 | true=>"list_iterator"
 | false=>"tuple_iterator"
def At (b:Bool) (h:Heap) (j l:Addr) (i:Nat):Prop:=∃o,h.get? j=some o∧o.cls=.type (kn b)∧o.data=.fields #[.ref l,.int i 0]
def Of (b:Bool) (h:Heap) (l:Addr) (items:Array Value):Prop:=match b with
 | true=>h.IsList l items
 | false=>h.IsTuple l items
variable {P:Program} {w:World} {A:Around} {E:Value→Shared→Prop} {s:Shared} {b c:Bool}
theorem At.up {h h':Heap} {j l:Addr} {i:Nat} (x:At b h j l i) (k:∀o,h.get? j=some o→h'.get? j=some o):At b h' j l i:=let ⟨o,e,r⟩:=x;⟨o,k o e,r⟩
theorem At.lt {h:Heap} {j l:Addr} {i:Nat} (x:At b h j l i):j < h.objs.size:=let ⟨_,e,_⟩:=x;Heap.lt_size e
theorem Of.data {h:Heap} {l:Addr} {items:Array Value} (x:Of b h l items):∃o n,h.get? l=some o∧o.data=.seq items n:=by
 cases b with
 | true=>obtain ⟨o,e,_,n,d⟩:=(show h.IsList l items from x);exact ⟨o,n,e,d⟩
 | false=>obtain ⟨o,e,_,n,d⟩:=(show h.IsTuple l items from x);exact ⟨o,n,e,d⟩
theorem Of.up {h h':Heap} {l:Addr} {items:Array Value} (x:Of b h l items) (k:∀o,h.get? l=some o→h'.get? l=some o):Of b h' l items:=by
 cases b with
 | true=>obtain ⟨o,e,r⟩:=(show h.IsList l items from x);exact ⟨o,k o e,r⟩
 | false=>obtain ⟨o,e,r⟩:=(show h.IsTuple l items from x);exact ⟨o,k o e,r⟩
theorem mF {j l:Addr} {i:Nat} {items:Array Value} {x:Value} {Q:Value→Shared→Prop} (hj:At b s.heap j l i) (hl:Of b s.heap l items) (hx:items[i]?=some x)
  (k:∀h',At b h' j l (i+1)→Heap.SameBut j s.heap h'→Q x {s with heap:=h'}):wpAny (model P w) A (nextOf (.ref j)) Q E s:=by
 cases b with
 | true=>exact wpAny_nextOf_list_item (show s.heap.IsListIter j l i from hj) (show s.heap.IsList l items from hl) hx k
 | false=>
  have hj':s.heap.IsTupleIter j l i:=hj
  obtain ⟨o,eo,ec,ed⟩:=hj'
  obtain ⟨ol,el,_,nl,edl⟩:=(show s.heap.IsTuple l items from hl)
  unfold nextOf
  refine wpAny_bind (wpAny_callSpecial?_slot (name:=Str.ofString "__next__") (show s.TypeIs (.ref j) "tuple_iterator" from ⟨o,eo,ec⟩) F.slot_tuple_iterator_next
   (wpAny_call_entry F.slot_tuple_iterator_next (show s.TypeIs (.ref j) "tuple_iterator" from ⟨o,eo,ec⟩) F.entry_tuple_iterator_next ?_ (F.args_tuple_iterator_next_1 _)))
  show wpAny _ _ (field (.ref j) 0 >>=_) _ _ s
  refine wpAny_bind (wpAny_field eo ed (x:=.ref l) rfl ?_)
  show wpAny _ _ (if (Value.ref l==Value.none)=true then _ else _) _ _ s
  rw [if_neg (show ¬((Value.ref l==Value.none)=true) by exact Bool.false_ne_true)]
  show wpAny _ _ (field (.ref j) 1 >>=_) _ _ s
  refine wpAny_bind (wpAny_field eo ed (x:=.int i 0) rfl ?_)
  show wpAny _ _ (seqItems? (.ref l) >>=_) _ _ s
  refine wpAny_bind (wpAny_seqItems el edl ?_)
  simp only [Int.toNat_natCast,hx]
  refine wpAny_bind (wpAny_setField eo ed (by simp) (wpAny_pure ⟨x,rfl,wpAny_pure (k _ ?_ (Heap.SameBut.update ..))⟩))
  exact ⟨_,Heap.get?_update_self _ eo (Obj.isFreed_of_fields (Obj.data_mapFields ed _)),(Obj.cls_mapFields ..).trans ec,by rw [Obj.data_mapFields ed];simp [rawInt]⟩
theorem pA {j l:Addr} {i:Nat} {items:Array Value} {Q:Value→Shared→Prop} (hh:A.handled=none) (hj:At b s.heap j l i) (hl:Of b s.heap l items) (hx:items[i]?=none)
  (k:∀h' e,Heap.ExtBut j s.heap h'→(∃o,h'.get? e=some o∧o.cls=.type "StopIteration")→E (.ref e) {s with heap:=h'}):wpAny (model P w) A (nextOf (.ref j)) Q E s:=by
 cases b with
 | true=>exact wpAny_nextOf_list_end hh (show s.heap.IsListIter j l i from hj) (show s.heap.IsList l items from hl) hx k
 | false=>
  have hj':s.heap.IsTupleIter j l i:=hj
  obtain ⟨o,eo,ec,ed⟩:=hj'
  obtain ⟨ol,el,_,nl,edl⟩:=(show s.heap.IsTuple l items from hl)
  unfold nextOf
  refine wpAny_bind (wpAny_callSpecial?_slot (name:=Str.ofString "__next__") (show s.TypeIs (.ref j) "tuple_iterator" from ⟨o,eo,ec⟩) F.slot_tuple_iterator_next
   (wpAny_call_entry F.slot_tuple_iterator_next (show s.TypeIs (.ref j) "tuple_iterator" from ⟨o,eo,ec⟩) F.entry_tuple_iterator_next ?_ (F.args_tuple_iterator_next_1 _)))
  show wpAny _ _ (field (.ref j) 0 >>=_) _ _ s
  refine wpAny_bind (wpAny_field eo ed (x:=.ref l) rfl ?_)
  show wpAny _ _ (if (Value.ref l==Value.none)=true then _ else _) _ _ s
  rw [if_neg (show ¬((Value.ref l==Value.none)=true) by exact Bool.false_ne_true)]
  show wpAny _ _ (field (.ref j) 1 >>=_) _ _ s
  refine wpAny_bind (wpAny_field eo ed (x:=.int i 0) rfl ?_)
  show wpAny _ _ (seqItems? (.ref l) >>=_) _ _ s
  refine wpAny_bind (wpAny_seqItems el edl ?_)
  simp only [Int.toNat_natCast,hx]
  refine wpAny_bind (wpAny_rule (wpAny_bind (wpAny_setField eo ed (by simp) ?_)))
  show wpAny _ _ (newExc (.type "StopIteration") [] >>=_) _ _ _
  refine wpAny_bind ?_
  simp only [newExc,newTuple];refine wpAny_bind (wpAny_newObj_type ?_ (by size_fits))
  refine wpAny_bind (m:=firstArgMember _ _) (wpAny_of_eq (a:=Value.none) (by first | (simp only [firstArgMember];rfl) | rfl) ?_)
  refine wpAny_newObj_type ?_ (by size_fits)
  simp only [raiseNew]
  refine wpAny_bind (wpAny_handled ?_)
  first | rw [hh] | rw [show A.in1.handled=none from hh]
  refine wpAny_bind (wpAny_pure (wpAny_throw (k _ _ (((Heap.SameBut.update ..).extBut.push _).push _) ⟨_,Heap.get?_push_size _ rfl,rfl⟩)))
end Sb
namespace Sb
open PySem L2 PySem.Spec PyProof.Rows
open Builtin.SmallTypes (nextOf ownedTupleIsFree ownedTupleHandOut)
variable {P:Program} {w:World} {A:Around} {E:Value→Shared→Prop} {s:Shared} {b c:Bool}
theorem pD {l:Addr} {items:Array Value} {Q:Value→Shared→Prop} (x:Of b s.heap l items) (k:Q (.ref s.heap.objs.size) {s with heap:=s.heap.push {cls:=.type (kn b),data:=.fields #[.ref l,.int 0 0]}}):wpAny (model P w) A (pyIter (.ref l)) Q E s:=by
 cases b with
 | true=>exact wpAny_pyIter_list (show s.heap.IsList l items from x) k
 | false=>exact wpAny_pyIter_tuple (show s.heap.IsTuple l items from x) k
theorem nV {e j l:Addr} {i:Nat} {items:Array Value} {x old:Value} {Q:Option Value→Shared→Prop} (hE:IsEnum s.heap e j i old) (hj:At b s.heap j l i) (hl:Of b s.heap l items) (hx:items[i]?=some x) (ne:e≠j)
  (k:∀h',IsEnumOut h' e j ((i:Int)+1) x s.heap.objs.size→At b h' j l (i+1)→h'.get? s.heap.objs.size=some {cls:=.type "tuple",data:=.seq #[.int i s.toks,x]}→h'.objs.size=s.heap.objs.size+1→
   (∀a o,a≠e→a≠j→s.heap.get? a=some o→h'.get? a=some o)→Q (some (.ref s.heap.objs.size)) {s with heap:=h',toks:=s.toks+1}):wpAny (model P w) A (pyNext (.ref e)) Q E s:=by
 have hT:s.TypeIs (.ref e) "enumerate":=⟨_,hE,rfl⟩
 unfold pyNext
 refine wpAny_bind (wpAny_attempt (wpAny_callSpecial?_slot (name:=Str.ofString "__next__") hT F.slot_enumerate_next (wpAny_call_entry F.slot_enumerate_next hT F.entry_enumerate_next ?_ (F.args_enumerate_next_1 _))))
 obtain ⟨hp,g,d,tk,os⟩:=s
 show wpAny _ _ (field (.ref e) 2 >>=_) _ _ _
 refine wpAny_bind (wpAny_field hE rfl (x:=.ref j) rfl (wpAny_bind (mF hj hl hx fun k₁ j₁ t₁=>?_)))
 replace t₁:Heap.SameBut j hp k₁:=t₁
 have E₁:IsEnum k₁ e j i old:=(t₁.2 e ne).trans hE
 show wpAny _ _ (field (.ref e) 3 >>=_) _ _ ⟨k₁,g,d,tk,os⟩
 refine wpAny_bind (wpAny_field E₁ rfl (x:=rawInt i) rfl ?_)
 show wpAny _ _ (field (.ref e) 4 >>=_) _ _ ⟨k₁,g,d,tk,os⟩
 refine wpAny_bind (wpAny_field E₁ rfl (x:=.none) rfl ?_)
 show wpAny _ _ (mkInt i >>=_) _ _ ⟨k₁,g,d,tk,os⟩
 refine wpAny_bind (wpAny_mkInt ?_)
 show wpAny _ _ (setField (.ref e) 3 (rawInt ((i:Int)+1)) >>=_) _ _ ⟨k₁,g,d,tk+1,os⟩
 refine wpAny_bind (wpAny_setField_rec E₁ (by simp) fun k₂ E₂ t₂=>?_)
 replace t₂:Heap.SameBut e k₁ k₂:=t₂
 replace E₂:IsEnum k₂ e j ((i:Int)+1) old:=E₂
 show wpAny _ _ (setField (.ref e) 4 .none >>=_) _ _ ⟨k₂,g,d,tk+1,os⟩
 refine wpAny_bind (wpAny_setField_rec E₂ (by simp) fun k₃ E₃ t₃=>?_)
 replace t₃:Heap.SameBut e k₂ k₃:=t₃
 replace E₃:IsEnum k₃ e j ((i:Int)+1) old:=E₃
 show wpAny _ _ (newTuple [.int i tk,x] >>=_) _ _ ⟨k₃,g,d,tk+1,os⟩
 refine wpAny_bind (wpAny_newTuple ?_)
 have E₄:IsEnum (k₃.push {cls:=.type "tuple",data:=.seq #[.int i tk,x]}) e j ((i:Int)+1) old:=Heap.get?_push_of_some _ E₃
 generalize eq₄:k₃.push {cls:=.type "tuple",data:=.seq #[.int i tk,x]}=k₄ at E₄
 have sz:k₃.objs.size=hp.objs.size:=by rw [t₃.1,t₂.1,t₁.1]
 have lte:e < hp.objs.size:=Heap.lt_size hE
 have tp:k₄.get? hp.objs.size=some {cls:=.type "tuple",data:=.seq #[.int i tk,x]}:=by rw [←eq₄,←sz];exact Heap.get?_push_size _ rfl
 have sz₄:k₄.objs.size=hp.objs.size+1:=by rw [←eq₄,Heap.size_push,sz]
 have up₄:∀a o,a≠e→a≠j→hp.get? a=some o→k₄.get? a=some o:=fun a o z1 z2 q=>by
  rw [←eq₄];exact Heap.get?_push_of_some _ (t₃.extBut a o z1 (t₂.extBut a o z1 (t₁.extBut a o z2 q)))
 have j₄:At b k₄ j l (i+1):=j₁.up fun o q=>by rw [←eq₄];exact Heap.get?_push_of_some _ (t₃.extBut j o (Ne.symm ne) (t₂.extBut j o (Ne.symm ne) q))
 show wpAny _ _ (ownedTupleIsFree (.ref e) >>=_) _ _ ⟨k₄,g,d,tk+1,os⟩
 rw [sz]
 clear eq₄ E₃ t₃ E₂ t₂ E₁ t₁ j₁ sz k₃ k₂ k₁
 refine wpAny_bind ?_
 unfold ownedTupleIsFree
 refine wpAny_bind (wpAny_field E₄ rfl (x:=.none) rfl (wpAny_pure ?_))
 simp only [if_true]
 refine wpAny_bind (wpAny_rule (wpAny_bind (wpAny_field E₄ rfl (x:=old) rfl (wpAny_bind (wpAny_setField_rec E₄ (by simp) fun k₅ E₅ t₅=>?_)))))
 replace t₅:Heap.SameBut e k₄ k₅:=t₅
 replace E₅:IsEnum k₅ e j ((i:Int)+1) x:=E₅
 show wpAny _ _ (ownedTupleHandOut (.ref e) (.ref hp.objs.size) >>=_) _ _ ⟨k₅,g,d,tk+1,os⟩
 refine wpAny_bind ?_
 unfold ownedTupleHandOut
 refine wpAny_bind (wpAny_setField_rec E₅ (by simp) fun k₆ E₆ t₆=>?_)
 replace t₆:Heap.SameBut e k₅ k₆:=t₆
 replace E₆:IsEnumOut k₆ e j ((i:Int)+1) x hp.objs.size:=E₆
 refine wpAny_setField_rec E₆ (by simp) fun k₇ E₇ t₇=>?_
 replace t₇:Heap.SameBut e k₆ k₇:=t₇
 replace E₇:IsEnumOut k₇ e j ((i:Int)+1) x hp.objs.size:=E₇
 have up:∀a o,a≠e→k₄.get? a=some o→k₇.get? a=some o:=fun a o z q=>t₇.extBut a o z (t₆.extBut a o z (t₅.extBut a o z q))
 refine wpAny_bind (wpAny_letGo (wpAny_pure ⟨_,rfl,wpAny_pure (k k₇ E₇ (j₄.up fun o q=>up j o (Ne.symm ne) q) (up _ _ (Nat.ne_of_gt lte) tp) ?_ fun a o z1 z2 q=>up a o z1 (up₄ a o z1 z2 q))⟩))
 rw [t₇.1,t₆.1,t₅.1,sz₄]
theorem pQ {e j l:Addr} {i:Nat} {items:Array Value} {old:Value} {Q:Option Value→Shared→Prop} (hh:A.handled=none) (hE:IsEnum s.heap e j i old) (hj:At b s.heap j l i) (hl:Of b s.heap l items) (hx:items[i]?=none)
  (k:∀h',Heap.ExtBut j s.heap h'→Q none {s with heap:=h'}):wpAny (model P w) A (pyNext (.ref e)) Q E s:=by
 have hT:s.TypeIs (.ref e) "enumerate":=⟨_,hE,rfl⟩
 unfold pyNext
 refine wpAny_bind (wpAny_attempt (wpAny_callSpecial?_slot (name:=Str.ofString "__next__") hT F.slot_enumerate_next (wpAny_call_entry F.slot_enumerate_next hT F.entry_enumerate_next ?_ (F.args_enumerate_next_1 _))))
 show wpAny _ _ (field (.ref e) 2 >>=_) _ _ _
 refine wpAny_bind (wpAny_field hE rfl (x:=.ref j) rfl (wpAny_bind (pA hh hj hl hx fun h' y he' ⟨o,ho,hc⟩=>?_)))
 exact wpAny_bind (wpAny_isInstance (T:="StopIteration") (b:=true) ⟨o,ho,hc⟩ isSubtype_stop (wpAny_pure (k _ he')))
theorem nU {l:Addr} {items:Array Value} {Q:Value→Shared→Prop} (x:Of b s.heap l items)
  (k:∀h',IsEnum h' (s.heap.objs.size+1) s.heap.objs.size 0 .none→At b h' s.heap.objs.size l 0→h'.objs.size=s.heap.objs.size+2→(∀a o,s.heap.get? a=some o→h'.get? a=some o)→Q (.ref (s.heap.objs.size+1)) {s with heap:=h'}):
  wpAny (model P w) A (call (.type "enumerate") [.ref l]) Q E s:=by
 cases b with
 | true=>exact call_enumerate_list (show s.heap.IsList l items from x) k
 | false=>
  have mt:PySem.Meets (Builtin.«enumerate.__new__» ⟨[.type "enumerate",.ref l],[]⟩) (fun _ R s=>s.heap.IsTuple l items∧
    R (.ok (.ret (.ref (s.heap.push {cls:=.type "tuple_iterator",data:=.fields #[.ref l,.int 0 0]}).objs.size)))
     {s with heap:=(s.heap.push {cls:=.type "tuple_iterator",data:=.fields #[.ref l,.int 0 0]}).push {cls:=.type "enumerate",data:=.fields #[.none,.bool false,.ref s.heap.objs.size,rawInt 0,.none,.none]}}):=
   .of_wp fun prog w A R s h=>by
    obtain ⟨hp,g,d,tk,os⟩:=s;obtain ⟨hl,h⟩:=h
    have sub:=sub_enumerate
    have hL:Heap.IsTuple (Shared.heap ⟨hp,g,d,tk,os⟩) l items:=hl
    obtain ⟨o0,e0,c0,n0,d0⟩:=id hL
    wp_walk
    refine wpAny_stack_any fun st=>wpAny_pure ?_
    split
    ·rename_i c _ _ _ _ _
     cases (c==Value.type "enumerate")
     ·wp_walk using wpAny_pyIter_tuple hL
      exact ⟨_,rfl,h⟩
     ·wp_walk using wpAny_pyIter_tuple hL
      exact ⟨_,rfl,h⟩
    ·wp_walk using wpAny_pyIter_tuple hL
     exact ⟨_,rfl,h⟩
  refine callType_new F.called_enumerate (by decide) (F.typeCall_enumerate_1 _) (F.newCall_enumerate_1 _) (fun obj=>F.args_object_init_2 obj _) F.entry_enumerate_new mt ⟨x,?_⟩
  have z1:(s.heap.push {cls:=.type "tuple_iterator",data:=.fields #[.ref l,.int 0 0]}).objs.size=s.heap.objs.size+1:=Heap.size_push ..
  show _∧_
  rw [z1]
  have eE:IsEnum ((s.heap.push {cls:=.type "tuple_iterator",data:=.fields #[.ref l,.int 0 0]}).push
    {cls:=.type "enumerate",data:=.fields #[.none,.bool false,.ref s.heap.objs.size,rawInt 0,.none,.none]}) (s.heap.objs.size+1) s.heap.objs.size 0 .none:=by
   have q:=Heap.get?_push_size (s.heap.push {cls:=.type "tuple_iterator",data:=.fields #[.ref l,.int 0 0]}) (o:={cls:=.type "enumerate",data:=.fields #[.none,.bool false,.ref s.heap.objs.size,rawInt 0,.none,.none]}) rfl
   rw [z1] at q;exact q
  refine ⟨⟨_,eE,rfl⟩,k _ eE ⟨_,Heap.get?_push_of_some _ (Heap.get?_push_size _ rfl),rfl,rfl⟩ (by rw [Heap.size_push,z1]) fun a o q=>Heap.get?_push_of_some _ (Heap.get?_push_of_some _ q)⟩
end Sb
namespace Sb
open PySem L2 PySem.Spec PyProof.Rows
open Builtin.SmallTypes (nextOf ownedTupleIsFree ownedTupleHandOut)
variable {P:Program} {w:World} {A:Around} {E:Value→Shared→Prop} {s:Shared} {b c:Bool}
structure Zp (z T U p q l m:Addr):Prop where
 Tz:T≠z
 Uz:U≠z
 pz:p≠z
 qz:q≠z
 TU:T≠U
 Tp:T≠p
 Tq:T≠q
 Up:U≠p
 Uq:U≠q
 pq:p≠q
 lz:l≠z
 lU:l≠U
 lp:l≠p
 lq:l≠q
 mz:m≠z
 mU:m≠U
 mp:m≠p
 mq:m≠q
theorem oo {z T U p q l m:Addr} {i:Nat} {xs ys:Array Value} {x y u v:Value} {Q:Option Value→Shared→Prop} (D:Zp z T U p q l m) (hz:IsZip s.heap z T U .none) (hT:IsPair s.heap T (.ref p) (.ref q)) (hU:IsPair s.heap U u v)
  (h1:At b s.heap p l i) (h2:At c s.heap q m i) (hl:Of b s.heap l xs) (hm:Of c s.heap m ys) (hx:xs[i]?=some x) (hy:ys[i]?=some y)
  (k:∀h',IsZip h' z T U (rawInt s.heap.objs.size)→IsPair h' U x y→At b h' p l (i+1)→At c h' q m (i+1)→IsPair h' s.heap.objs.size x y→h'.objs.size=s.heap.objs.size+1→
   (∀a o,a≠z→a≠U→a≠p→a≠q→s.heap.get? a=some o→h'.get? a=some o)→Q (some (.ref s.heap.objs.size)) {s with heap:=h'}):wpAny (model P w) A (pyNext (.ref z)) Q E s:=by
 have ty:s.TypeIs (.ref z) "zip":=⟨_,hz,rfl⟩
 unfold pyNext
 refine wpAny_bind (wpAny_attempt (wpAny_callSpecial?_slot (name:=Str.ofString "__next__") ty F.slot_zip_next (wpAny_call_entry F.slot_zip_next ty F.entry_zip_next ?_ (F.args_zip_next_1 _))))
 show wpAny _ _ (field (.ref z) 2 >>=_) _ _ _
 refine wpAny_bind (wpAny_field hz rfl (x:=.bool false) rfl ?_)
 show wpAny _ _ (field (.ref z) 3 >>=_) _ _ _
 refine wpAny_bind (wpAny_field hz rfl (x:=.ref T) rfl (wpAny_bind (wpAny_seqItems hT rfl ?_)))
 show wpAny _ _ (ownedTupleIsFree (.ref z) >>=_) _ _ _
 refine wpAny_bind ?_
 unfold ownedTupleIsFree
 refine wpAny_bind (wpAny_field hz rfl (x:=.none) rfl (wpAny_pure ?_))
 simp only [if_true]
 refine wpAny_bind (wpAny_rule (wpAny_bind (wpAny_field hz rfl (x:=.ref U) rfl (wpAny_bind (wpAny_setField_rec hz (by simp) fun k₁ z₁ t₁=>?_)))))
 replace z₁:IsZip k₁ z T U .ellipsis:=z₁
 refine wpAny_bind ?_
 simp only [List.zipIdx_cons,List.zipIdx_nil,List.forIn_cons,List.forIn_nil]
 refine wpAny_bind (wpAny_bind (wpAny_onRaise ?_))
 show wpAny _ _ (nextOf (.ref p) >>=_) _ _ _
 refine wpAny_bind (mF (h1.up fun o e=>t₁.extBut _ o D.pz e) (hl.up fun o e=>t₁.extBut _ o D.lz e) hx fun k₂ p₂ t₂=>wpAny_pure ?_)
 have U₂:IsPair k₂ U u v:=t₂.extBut _ _ D.Up (t₁.extBut _ _ D.Uz hU)
 refine wpAny_bind (wpAny_seqItems U₂ rfl (wpAny_bind (wpAny_updateSeq_pair U₂ fun k₃ U₃ t₃=>wpAny_bind (wpAny_letGo (wpAny_pure ?_)))))
 replace U₃:IsPair k₃ U x v:=U₃
 refine wpAny_bind (wpAny_bind (wpAny_onRaise ?_))
 show wpAny _ _ (nextOf (.ref q) >>=_) _ _ _
 refine wpAny_bind (mF (h2.up fun o e=>t₃.extBut _ o D.Uq.symm (t₂.extBut _ o D.pq.symm (t₁.extBut _ o D.qz e))) (hm.up fun o e=>t₃.extBut _ o D.mU (t₂.extBut _ o D.mp (t₁.extBut _ o D.mz e))) hy fun k₄ q₄ t₄=>wpAny_pure ?_)
 have U₄:IsPair k₄ U x v:=t₄.extBut _ _ D.Uq U₃
 refine wpAny_bind (wpAny_seqItems U₄ rfl (wpAny_bind (wpAny_updateSeq_pair U₄ fun k₅ U₅ t₅=>wpAny_bind (wpAny_letGo (wpAny_pure (wpAny_pure ?_))))))
 replace U₅:IsPair k₅ U x y:=U₅
 refine wpAny_bind (wpAny_seqItems U₅ rfl (wpAny_bind (wpAny_newTuple ?_)))
 have sz:k₅.objs.size=s.heap.objs.size:=by rw [t₅.1,t₄.1,t₃.1,t₂.1,t₁.1]
 have z₅:IsZip k₅ z T U .ellipsis:=t₅.extBut _ _ D.Uz.symm (t₄.extBut _ _ D.qz.symm (t₃.extBut _ _ D.Uz.symm (t₂.extBut _ _ D.pz.symm z₁)))
 have up₅:∀a o,a≠z→a≠U→a≠p→a≠q→s.heap.get? a=some o→k₅.get? a=some o:=fun a o a1 a2 a3 a4 e=>t₅.extBut _ _ a2 (t₄.extBut _ _ a4 (t₃.extBut _ _ a2 (t₂.extBut _ _ a3 (t₁.extBut _ _ a1 e))))
 have p₅:At b k₅ p l (i+1):=p₂.up fun o e=>t₅.extBut _ o D.Up.symm (t₄.extBut _ o D.pq (t₃.extBut _ o D.Up.symm e))
 have q₅:At c k₅ q m (i+1):=q₄.up fun o e=>t₅.extBut _ o D.Uq.symm e
 have zlt:z < k₅.objs.size:=Heap.lt_size z₅
 show wpAny _ _ (ownedTupleHandOut (.ref z) (.ref k₅.objs.size) >>=_) _ _ _
 refine wpAny_bind ?_
 unfold ownedTupleHandOut
 have z₆:IsZip (k₅.push {cls:=.type "tuple",data:=.seq #[x,y]}) z T U .ellipsis:=Heap.get?_push_of_some _ z₅
 refine wpAny_bind (wpAny_setField_rec z₆ (by simp) fun k₇ z₇ t₇=>?_)
 replace z₇:IsZip k₇ z T U (rawInt k₅.objs.size):=z₇
 refine wpAny_setField_rec z₇ (by simp) fun k₈ z₈ t₈=>?_
 replace z₈:IsZip k₈ z T U (rawInt k₅.objs.size):=z₈
 have up:∀a o,a≠z→k₅.get? a=some o→k₈.get? a=some o:=fun a o a1 e=>t₈.extBut _ _ a1 (t₇.extBut _ _ a1 (Heap.get?_push_of_some _ e))
 have T₈:IsPair k₈ k₅.objs.size x y:=t₈.extBut _ _ (Nat.ne_of_gt zlt) (t₇.extBut _ _ (Nat.ne_of_gt zlt) (Heap.get?_push_size _ rfl))
 have s8:k₈.objs.size=k₅.objs.size+1:=by rw [t₈.1,t₇.1,Heap.size_push]
 rw [sz] at z₈ T₈ s8
 refine wpAny_pure ⟨_,rfl,wpAny_pure ?_⟩
 show Q (some (.ref k₅.objs.size)) _
 rw [sz]
 exact k k₈ z₈ (up _ _ D.Uz U₅) (p₅.up fun o e=>up _ o D.pz e) (q₅.up fun o e=>up _ o D.qz e) T₈ s8 fun a o a1 a2 a3 a4 e=>up a o a1 (up₅ a o a1 a2 a3 a4 e)
theorem qe {z T U p q l m:Addr} {i:Nat} {xs ys:Array Value} {u v:Value} {Q:Option Value→Shared→Prop} (hh:A.handled=none) (D:Zp z T U p q l m) (hz:IsZip s.heap z T U .none) (hT:IsPair s.heap T (.ref p) (.ref q)) (hU:IsPair s.heap U u v)
  (h1:At b s.heap p l i) (h2:At c s.heap q m i) (hl:Of b s.heap l xs) (hm:Of c s.heap m ys) (he:xs[i]?=none∨ys[i]?=none)
  (k:∀h',(∀a o,a≠z→a≠U→a≠p→a≠q→s.heap.get? a=some o→h'.get? a=some o)→Q none {s with heap:=h'}):wpAny (model P w) A (pyNext (.ref z)) Q E s:=by
 have ty:s.TypeIs (.ref z) "zip":=⟨_,hz,rfl⟩
 unfold pyNext
 refine wpAny_bind (wpAny_attempt (wpAny_callSpecial?_slot (name:=Str.ofString "__next__") ty F.slot_zip_next (wpAny_call_entry F.slot_zip_next ty F.entry_zip_next ?_ (F.args_zip_next_1 _))))
 have fin:∀h' e,(∀a o,a≠z→a≠U→a≠p→a≠q→s.heap.get? a=some o→h'.get? a=some o)→(∃o,h'.get? e=some o∧o.cls=.type "StopIteration")→
   (fun e s'=>wpAny (model P w) A (isInstance e (.type "StopIteration")) (fun r s''=>(if r=true then Q none s'' else E e s'')) E s') (.ref e) {s with heap:=h'}:=fun h' e up ⟨o,ho,hc⟩=>
  wpAny_isInstance (T:="StopIteration") (b:=true) ⟨o,ho,hc⟩ isSubtype_stop (by rw [if_pos rfl];exact k h' up)
 show wpAny _ _ (field (.ref z) 2 >>=_) _ _ _
 refine wpAny_bind (wpAny_field hz rfl (x:=.bool false) rfl ?_)
 show wpAny _ _ (field (.ref z) 3 >>=_) _ _ _
 refine wpAny_bind (wpAny_field hz rfl (x:=.ref T) rfl (wpAny_bind (wpAny_seqItems hT rfl ?_)))
 show wpAny _ _ (ownedTupleIsFree (.ref z) >>=_) _ _ _
 refine wpAny_bind ?_
 unfold ownedTupleIsFree
 refine wpAny_bind (wpAny_field hz rfl (x:=.none) rfl (wpAny_pure ?_))
 simp only [if_true]
 refine wpAny_bind (wpAny_rule (wpAny_bind (wpAny_field hz rfl (x:=.ref U) rfl (wpAny_bind (wpAny_setField_rec hz (by simp) fun k₁ z₁ t₁=>?_)))))
 replace z₁:IsZip k₁ z T U .ellipsis:=z₁
 refine wpAny_bind ?_
 simp only [List.zipIdx_cons,List.zipIdx_nil,List.forIn_cons,List.forIn_nil]
 refine wpAny_bind (wpAny_bind (wpAny_onRaise ?_))
 show wpAny _ _ (nextOf (.ref p) >>=_) _ _ _
 cases ex:xs[i]? with
 | none=>
  refine wpAny_bind (pA hh (h1.up fun o e=>t₁.extBut _ o D.pz e) (hl.up fun o e=>t₁.extBut _ o D.lz e) ex fun k₂ e t₂ ⟨oe,hoe,hce⟩=>?_)
  have z₂:IsZip k₂ z T U .ellipsis:=t₂ _ _ D.pz.symm z₁
  have ez:e≠z:=fun r=>by subst r;rw [z₂] at hoe;cases hoe;simp at hce
  refine wpAny_setField_rec z₂ (by simp) fun k₃ _ t₃=>?_
  refine wpAny_bind (wpAny_isInstance (T:="StopIteration") (b:=true) ⟨oe,t₃.extBut _ _ ez hoe,hce⟩ isSubtype_stop (wpAny_pure (k _ fun a o a1 _ a3 _ r=>t₃.extBut _ _ a1 (t₂ _ _ a3 (t₁.extBut _ _ a1 r)))))
 | some x=>
  have ey:ys[i]?=none:=by rcases he with r | r;rw [ex] at r;cases r;exact r
  refine wpAny_bind (mF (h1.up fun o e=>t₁.extBut _ o D.pz e) (hl.up fun o e=>t₁.extBut _ o D.lz e) ex fun k₂ p₂ t₂=>wpAny_pure ?_)
  have U₂:IsPair k₂ U u v:=t₂.extBut _ _ D.Up (t₁.extBut _ _ D.Uz hU)
  refine wpAny_bind (wpAny_seqItems U₂ rfl (wpAny_bind (wpAny_updateSeq_pair U₂ fun k₃ U₃ t₃=>wpAny_bind (wpAny_letGo (wpAny_pure ?_)))))
  refine wpAny_bind (wpAny_bind (wpAny_onRaise ?_))
  show wpAny _ _ (nextOf (.ref q) >>=_) _ _ _
  refine wpAny_bind (pA hh (h2.up fun o e=>t₃.extBut _ o D.Uq.symm (t₂.extBut _ o D.pq.symm (t₁.extBut _ o D.qz e))) (hm.up fun o e=>t₃.extBut _ o D.mU (t₂.extBut _ o D.mp (t₁.extBut _ o D.mz e))) ey fun k₄ e t₄ ⟨oe,hoe,hce⟩=>?_)
  have z₄:IsZip k₄ z T U .ellipsis:=t₄ _ _ D.qz.symm (t₃.extBut _ _ D.Uz.symm (t₂.extBut _ _ D.pz.symm z₁))
  have ez:e≠z:=fun r=>by subst r;rw [z₄] at hoe;cases hoe;simp at hce
  refine wpAny_setField_rec z₄ (by simp) fun k₅ _ t₅=>?_
  refine wpAny_bind (wpAny_isInstance (T:="StopIteration") (b:=true) ⟨oe,t₅.extBut _ _ ez hoe,hce⟩ isSubtype_stop (wpAny_pure (k _ fun a o a1 a2 a3 a4 r=>t₅.extBut _ _ a1 (t₄ _ _ a4 (t₃.extBut _ _ a2 (t₂.extBut _ _ a3 (t₁.extBut _ _ a1 r)))))))
abbrev g1 (b:Bool) (h:Heap) (l:Addr):Heap:=h.push {cls:=.type (kn b),data:=.fields #[.ref l,.int 0 0]}
abbrev g2 (b c:Bool) (h:Heap) (l m:Addr):Heap:=(g1 b h l).push {cls:=.type (kn c),data:=.fields #[.ref m,.int 0 0]}
abbrev g3 (b c:Bool) (h:Heap) (l m:Addr):Heap:=(g2 b c h l m).push {cls:=.type "tuple",data:=.seq #[.ref h.objs.size,.ref (g1 b h l).objs.size]}
abbrev g4 (b c:Bool) (h:Heap) (l m:Addr):Heap:=(g3 b c h l m).push {cls:=.type "tuple",data:=.seq #[.none,.none]}
abbrev g5 (b c:Bool) (h:Heap) (l m:Addr):Heap:=(g4 b c h l m).push {cls:=.type "zip",data:=.fields #[.none,.bool false,.bool false,.ref (g2 b c h l m).objs.size,.ref (g3 b c h l m).objs.size]}
theorem qc (b c:Bool) (l m:Addr) (xs ys:Array Value):PySem.Meets (Builtin.«zip.__new__» ⟨[.type "zip",.ref l,.ref m],[]⟩) (fun _ R s=>Of b s.heap l xs∧Of c s.heap m ys∧R (.ok (.ret (.ref (g4 b c s.heap l m).objs.size))) {s with heap:=g5 b c s.heap l m}):=
 .of_wp fun prog w A R s h=>by
  obtain ⟨hp,g,d,tk,os⟩:=s;obtain ⟨hl,hm,h⟩:=h
  have sub:=sub_zip
  have L1:Of b (Shared.heap ⟨hp,g,d,tk,os⟩) l xs:=hl
  have L2:Of c (Shared.heap ⟨hp.push {cls:=.type (kn b),data:=.fields #[.ref l,.int 0 0]},g,d,tk,os⟩) m ys:=hm.up fun o e=>Heap.get?_push_of_some _ e
  wp_walk using pD L1,pD L2
  exact ⟨_,rfl,h⟩
theorem om {l m:Addr} {xs ys:Array Value} {Q:Value→Shared→Prop} (hl:Of b s.heap l xs) (hm:Of c s.heap m ys)
  (k:∀h',IsZip h' (s.heap.objs.size+4) (s.heap.objs.size+2) (s.heap.objs.size+3) .none→IsPair h' (s.heap.objs.size+2) (.ref s.heap.objs.size) (.ref (s.heap.objs.size+1))→IsPair h' (s.heap.objs.size+3) .none .none→
   At b h' s.heap.objs.size l 0→At c h' (s.heap.objs.size+1) m 0→h'.objs.size=s.heap.objs.size+5→(∀a o,s.heap.get? a=some o→h'.get? a=some o)→Q (.ref (s.heap.objs.size+4)) {s with heap:=h'}):
  wpAny (model P w) A (call (.type "zip") [.ref l,.ref m]) Q E s:=by
 refine callType_new F.called_zip (by decide) (F.typeCall_zip_2 _ _) (F.newCall_zip_2 _ _) (fun obj=>F.args_object_init_3 obj _ _) F.entry_zip_new (qc b c l m xs ys) ⟨hl,hm,?_⟩
 have z1:(g1 b s.heap l).objs.size=s.heap.objs.size+1:=Heap.size_push ..
 have z2:(g2 b c s.heap l m).objs.size=s.heap.objs.size+2:=by rw [Heap.size_push,z1]
 have z3:(g3 b c s.heap l m).objs.size=s.heap.objs.size+3:=by rw [Heap.size_push,z2]
 have z4:(g4 b c s.heap l m).objs.size=s.heap.objs.size+4:=by rw [Heap.size_push,z3]
 have z5:(g5 b c s.heap l m).objs.size=s.heap.objs.size+5:=by rw [Heap.size_push,z4]
 have e5:(g5 b c s.heap l m).get? (g4 b c s.heap l m).objs.size=some _:=Heap.get?_push_size _ rfl
 have e4:(g5 b c s.heap l m).get? (g3 b c s.heap l m).objs.size=some _:=Heap.get?_push_of_some _ (Heap.get?_push_size _ rfl)
 have e3:(g5 b c s.heap l m).get? (g2 b c s.heap l m).objs.size=some _:=Heap.get?_push_of_some _ (Heap.get?_push_of_some _ (Heap.get?_push_size _ rfl))
 have e2:(g5 b c s.heap l m).get? (g1 b s.heap l).objs.size=some _:=Heap.get?_push_of_some _ (Heap.get?_push_of_some _ (Heap.get?_push_of_some _ (Heap.get?_push_size _ rfl)))
 have e1:(g5 b c s.heap l m).get? s.heap.objs.size=some _:=Heap.get?_push_of_some _ (Heap.get?_push_of_some _ (Heap.get?_push_of_some _ (Heap.get?_push_of_some _ (Heap.get?_push_size _ rfl))))
 show _∧_
 rw [z2,z3,z4] at e5
 rw [z1,z2] at e3
 rw [z3] at e4
 rw [z1] at e2
 rw [z4]
 exact ⟨⟨_,e5,rfl⟩,k _ e5 e3 e4 ⟨_,e1,rfl,rfl⟩ ⟨_,e2,rfl,rfl⟩ z5 fun a o x=>Heap.get?_push_of_some _ (Heap.get?_push_of_some _ (Heap.get?_push_of_some _ (Heap.get?_push_of_some _ (Heap.get?_push_of_some _ x))))⟩
end Sb
namespace Sb
open PySem L2 PySem.Spec PyProof.Rows
section
variable {X:Cx} {pins:List (Addr×Obj)} {σ:L2.St} {H:Hp} {s:Shared} {h':Heap} {fp:List Addr}
theorem gB {t':Nat} (I:L2.Inv X pins σ H s) (k:∀b o,b∉fp→s.heap.get? b=some o→h'.get? b=some o) (hf:∀b∈fp,cD X pins H b):L2.Inv X pins σ H {s with heap:=h',toks:=t'}:=by
 have nit:∀b u,H b=some u→b∉fp:=fun b u e z=>by rw [(hf b z).1] at e;cases e
 have nL:X.env.locals∉fp:=fun z=>(hf _ z).2.1 rfl
 refine I.step (g':=s.gens) (d':=s.drawn) (ch:=fp) (fun b hb=>?_) (fun b o _ _ hc e _=>k b o hc e) (fun b o _ _ hc e _=>⟨o.slots,k b o hc e⟩) (fun _ _ _ _ n=>n)
  (fun b o hc e=>⟨o,k b o hc e⟩) (fun _ _ e=>e) (fun _ _ _ e=>e) (fun b ps e=>⟨#[],by rw [e];simp⟩) (fun m hm=>?_) (fun b u e=>?_) I.bare
 ·obtain ⟨f0,f1,f2,f3,f4,f5⟩:=hf b hb
  exact ⟨f3,f1,f4,f5⟩
 ·obtain ⟨o,es,ep,ho,r⟩:=hm
  exact ⟨o,es,ep,k _ o nL ho,r⟩
 ·refine (I.hok b u e).j4 (fun c v hc q=>k c v ?_ q) (fun _ q=>q) fun _ _ q=>q
  rcases hc with z | z
  ·rw [z];exact nit b u e
  ·exact nit c _ z
theorem mh {t':Nat} {vs:List V} {us:List Value} {n:Nat} (I:L2.Inv X pins σ H s) (k:∀b o,b∉fp→s.heap.get? b=some o→h'.get? b=some o) (hf:∀b∈fp,cD X pins H b) (hlt:∀b∈fp,b < s.heap.objs.size)
  (ht:h'.get? s.heap.objs.size=some {cls:=.type "tuple",data:=.seq us.toArray n}) (r:Vals vs us) (hz:vs.length≤sizeLine):L2.Inv X pins σ (upd H s.heap.objs.size (.tup vs)) {s with heap:=h',toks:=t'}:=by
 have nit:∀b u,H b=some u→b∉fp:=fun b u e z=>by rw [(hf b z).1] at e;cases e
 have nL:X.env.locals∉fp:=fun z=>(hf _ z).2.1 rfl
 have hp:H s.heap.objs.size=none:=I.hok.fresh (Nat.le_refl _)
 have np:∀b o,s.heap.get? b=some o→b≠s.heap.objs.size:=fun b o e=>Nat.ne_of_lt (Heap.lt_size e)
 have nH:∀b u,H b=some u→b≠s.heap.objs.size:=fun b u e=>aI e hp
 refine I.step (g':=s.gens) (d':=s.drawn) (ch:=fp) (fun b hb=>?_) (fun b o _ _ hc e _=>k b o hc e) (fun b o _ _ hc e _=>⟨o.slots,k b o hc e⟩) (fun b o _ e n=>by rw [aC (np b o e)];exact n)
  (fun b o hc e=>⟨o,k b o hc e⟩) (fun b _ e=>by rw [aC (nH b _ e)];exact e) (fun b _ _ e=>by rw [aC (nH b _ e)];exact e) (fun b ps e=>⟨#[],by rw [aC (nH b _ e),e];simp⟩) (fun m hm=>?_) (fun b u e=>?_) I.bare
 ·obtain ⟨f0,f1,f2,f3,f4,f5⟩:=hf b hb
  exact ⟨f3,f1,f4,f5⟩
 ·obtain ⟨o,es,ep,ho,q⟩:=hm
  exact ⟨o,es,ep,k _ o nL ho,q⟩
 ·by_cases z:b=s.heap.objs.size
  ·subst z
   rw [aT] at e
   cases e
   exact ⟨hz,us,r,⟨_,ht,rfl,⟨n,rfl⟩,rfl⟩⟩
  ·rw [aC z] at e
   refine (I.hok b u e).j4 (fun c v hc q=>k c v ?_ q) (fun c q=>?_) fun c u q=>?_
   ·rcases hc with y | y
    ·rw [y];exact nit b u e
    ·exact nit c _ y
   ·rw [aC (nH _ _ q)];exact q
   ·rw [aC (nH _ _ q)];exact q
end
def SqB (b:Bool) (K:PySem.W.Frag) (H:Hp) (l:Addr) (xs:List V):Prop:=match b with
 | true=>SqL K H l xs
 | false=>SqT K H l xs
theorem SqB.of {X:Cx} {pins:List (Addr×Obj)} {σ:L2.St} {H:Hp} {s:Shared} {b:Bool} {l:Addr} {xs:List V} (I:L2.Inv X pins σ H s) (q:SqB b X.K H l xs):∃its:List Value,Vals xs its∧Of b s.heap l its.toArray:=by
 cases b with
 | true=>obtain ⟨its,r,p,_⟩:=I.list (show SqL X.K H l xs from q);exact ⟨its,r,p.isList⟩
 | false=>obtain ⟨its,r,p,_⟩:=I.tuple (show SqT X.K H l xs from q);exact ⟨its,r,p⟩
theorem SqB.inj {X:Cx} {pins:List (Addr×Obj)} {σ:L2.St} {H:Hp} {s:Shared} {b:Bool} {l:Addr} {xs ys:List V} (I:L2.Inv X pins σ H s) (q:SqB b X.K H l xs) (q':SqB b X.K H l ys):xs=ys:=by
 cases b with
 | true=>exact I.kC q q'
 | false=>exact I.iQ q q'
def Ite (b:Bool) (K:PySem.W.Frag) (l:Addr):It:=
 ⟨fun i H=>∃xs x,SqB b K H l xs∧xs[i]?=some x,fun i H x H'=>∃p y,H p=none∧x=.ref p∧H'=upd H p (.tup [.int (i:Int),y])∧∀xs,SqB b K H l xs→xs[i]?=some y,fun i H=>∃xs,SqB b K H l xs∧xs.length≤i⟩
def Itz (b c:Bool) (K:PySem.W.Frag) (l m:Addr):It:=
 ⟨fun i H=>∃xs ys x y,SqB b K H l xs∧SqB c K H m ys∧xs[i]?=some x∧ys[i]?=some y,
  fun i H x H'=>∃p u v,H p=none∧x=.ref p∧H'=upd H p (.tup [u,v])∧(∀xs,SqB b K H l xs→xs[i]?=some u)∧∀xs,SqB c K H m xs→xs[i]?=some v,
  fun i H=>∃xs ys,SqB b K H l xs∧SqB c K H m ys∧(xs.length≤i∨ys.length≤i)⟩
theorem mZ {P:Program} {w:World} {K:PySem.W.Frag} {es:List Expr} {k0:Nat} {pos:Pos} (b:Bool) (l e j:Addr) (ne:e≠j):Turn P w K (.Tuple es k0 pos) (Ite b K l) [e,j] e (fun i h=>(∃old,IsEnum h e j i old)∧At b h j l i) where
 mem:=by simp
 obj:=fun i h st a ha=>by
  obtain ⟨⟨old,h1⟩,o,h2,_,d2⟩:=st
  simp at ha
  rcases ha with rfl | rfl
  ·exact ⟨_,h1,fun v z=>by cases z⟩
  ·exact ⟨o,h2,fun v z=>by rw [d2] at z;cases z⟩
 keep:=fun i h h' ⟨⟨old,h1⟩,h2⟩ k=>⟨⟨old,k e (by simp) _ h1⟩,h2.up fun o q=>k j (by simp) o q⟩
 item:=by
  intro X hP hw hK hc i pins s σ H E I hf st hg
  subst hP hw hK
  obtain ⟨xs,x,hq,hx⟩:=hg
  obtain ⟨⟨old,h1⟩,h2⟩:=st
  obtain ⟨its,rv,hO⟩:=hq.of I
  obtain ⟨u,hu,ru⟩:=rv.get hx
  have hlt:∀a∈[e,j],a < s.heap.objs.size:=fun a ha=>by
   simp at ha
   rcases ha with rfl | rfl
   ·exact Heap.lt_size h1
   ·exact h2.lt
  refine nV h1 h2 hO (x:=u) (by simpa using hu) ne fun h' a1 a2 a3 a4 a5=>⟨_,rfl,wpAny_letOwnedTupleGo_enum a1 fun h'' b1 b2=>?_⟩
  have hp:H s.heap.objs.size=none:=I.hok.fresh (Nat.le_refl _)
  have I1:=mh (t':=s.toks+1) (vs:=[.int (i:Int),x]) (us:=[.int i s.toks,u]) (n:=0) I (fun a o ha q=>a5 a o (fun z=>ha (by simp [z])) (fun z=>ha (by simp [z])) q) hf hlt a3 (.cons ⟨_,rfl⟩ (.cons ru .nil)) (show 2≤sizeLine by decide)
  have hf1:∀a∈[e,j],cD X pins (upd H s.heap.objs.size (.tup [.int (i:Int),x])) a:=fun a ha=>by
   obtain ⟨f0,f⟩:=hf a ha
   exact ⟨by rw [aC (Nat.ne_of_lt (hlt a ha))];exact f0,f⟩
  have I2:=gB (t':=s.toks+1) I1 (h':=h'') (fun a o ha q=>b2.extBut a o (fun z=>ha (by simp [z])) q) hf1
  exact ⟨.ref s.heap.objs.size,_,I2,rfl,⟨_,x,hp,rfl,rfl,fun ys hy=>by rw [hy.inj I hq];exact hx⟩,⟨⟨_,by simpa using b1⟩,a2.up fun o q=>b2.extBut j o (Ne.symm ne) q⟩,fun a ha=>(hf1 a ha).1⟩
 done:=by
  intro X hP hw hK hc i pins s σ H E I hf st hg
  subst hP hw hK
  obtain ⟨xs,hq,hx⟩:=hg
  obtain ⟨⟨old,h1⟩,h2⟩:=st
  obtain ⟨its,rv,hO⟩:=hq.of I
  have hl:=rv.length
  exact pQ (I.ok.hd hc) h1 h2 hO (by simp;omega) fun h' eb=>⟨rfl,gB (t':=s.toks) I (fun a o ha q=>eb a o (fun z=>ha (by simp [z])) q) hf⟩
 self:=fun A i s Q E ⟨⟨old,h1⟩,_⟩ q=>by
  have hT:s.TypeIs (.ref e) "enumerate":=⟨_,h1,rfl⟩
  refine wpAny_pyIter_slot hT F.slot_enumerate_iter (wpAny_call_entry F.slot_enumerate_iter hT F.entry_enumerate_iter ?_ (F.args_enumerate_iter_1 _))
  show wpAny _ _ (ret (.ref e)) _ _ s
  exact wpAny_pure ⟨_,rfl,"enumerate",_,hT,F.slot_enumerate_next.lookup,q⟩
theorem oq {P:Program} {w:World} {K:PySem.W.Frag} {es:List Expr} {k0:Nat} {pos:Pos} (b c:Bool) (z T U p q l m:Addr) (D:Zp z T U p q l m):
  Turn P w K (.Tuple es k0 pos) (Itz b c K l m) [z,T,U,p,q] z (fun i h=>IsZip h z T U .none∧IsPair h T (.ref p) (.ref q)∧(∃u v,IsPair h U u v)∧At b h p l i∧At c h q m i) where
 mem:=by simp
 obj:=fun i h st a ha=>by
  obtain ⟨h1,h2,⟨u,v,h3⟩,⟨o4,h4,_,d4⟩,⟨o5,h5,_,d5⟩⟩:=st
  simp at ha
  rcases ha with rfl | rfl | rfl | rfl | rfl
  ·exact ⟨_,h1,fun v z=>by cases z⟩
  ·exact ⟨_,h2,fun v z=>by cases z⟩
  ·exact ⟨_,h3,fun v z=>by cases z⟩
  ·exact ⟨o4,h4,fun v z=>by rw [d4] at z;cases z⟩
  ·exact ⟨o5,h5,fun v z=>by rw [d5] at z;cases z⟩
 keep:=fun i h h' ⟨h1,h2,⟨u,v,h3⟩,h4,h5⟩ k=>⟨k z (by simp) _ h1,k T (by simp) _ h2,⟨u,v,k U (by simp) _ h3⟩,h4.up fun o e=>k p (by simp) o e,h5.up fun o e=>k q (by simp) o e⟩
 item:=by
  intro X hP hw hK hc i pins s σ H E I hf st hg
  subst hP hw hK
  obtain ⟨xs,ys,x,y,hq1,hq2,hx,hy⟩:=hg
  obtain ⟨h1,h2,⟨u,v,h3⟩,h4,h5⟩:=st
  obtain ⟨is1,rv1,hO1⟩:=hq1.of I
  obtain ⟨is2,rv2,hO2⟩:=hq2.of I
  obtain ⟨u1,hu1,ru1⟩:=rv1.get hx
  obtain ⟨u2,hu2,ru2⟩:=rv2.get hy
  have hlt:∀a∈[z,T,U,p,q],a < s.heap.objs.size:=fun a ha=>by
   simp at ha
   rcases ha with rfl | rfl | rfl | rfl | rfl
   ·exact Heap.lt_size h1
   ·exact Heap.lt_size h2
   ·exact Heap.lt_size h3
   ·exact h4.lt
   ·exact h5.lt
  refine oo D h1 h2 h3 h4 h5 hO1 hO2 (x:=u1) (y:=u2) (by simpa using hu1) (by simpa using hu2) fun h' a1 a2 a3 a4 a5 a6 a7=>⟨_,rfl,wpAny_letOwnedTupleGo_zip a1 fun h'' b1 b2=>?_⟩
  have hp:H s.heap.objs.size=none:=I.hok.fresh (Nat.le_refl _)
  have I1:=mh (t':=s.toks) (vs:=[x,y]) (us:=[u1,u2]) (n:=0) I (h':=h') (fp:=[z,T,U,p,q]) (fun a o ha e=>a7 a o (fun r=>ha (by simp [r])) (fun r=>ha (by simp [r])) (fun r=>ha (by simp [r])) (fun r=>ha (by simp [r])) e) hf hlt a5 (.cons ru1 (.cons ru2 .nil)) (show 2≤sizeLine by decide)
  have hf1:∀a∈[z,T,U,p,q],cD X pins (upd H s.heap.objs.size (.tup [x,y])) a:=fun a ha=>by
   obtain ⟨f0,f⟩:=hf a ha
   exact ⟨by rw [aC (Nat.ne_of_lt (hlt a ha))];exact f0,f⟩
  have I2:=gB (t':=s.toks) I1 (h':=h'') (fp:=[z,T,U,p,q]) (fun a o ha e=>b2.extBut a o (fun r=>ha (by simp [r])) e) hf1
  have hT':=a7 T _ D.Tz D.TU D.Tp D.Tq h2
  exact ⟨.ref s.heap.objs.size,_,I2,rfl,⟨_,x,y,hp,rfl,rfl,fun zs hz=>by rw [hz.inj I hq1];exact hx,fun zs hz=>by rw [hz.inj I hq2];exact hy⟩,
   ⟨b1,b2.extBut T _ D.Tz hT',⟨_,_,b2.extBut U _ D.Uz a2⟩,a3.up fun o e=>b2.extBut p o D.pz e,a4.up fun o e=>b2.extBut q o D.qz e⟩,fun a ha=>(hf1 a ha).1⟩
 done:=by
  intro X hP hw hK hc i pins s σ H E I hf st hg
  subst hP hw hK
  obtain ⟨xs,ys,hq1,hq2,hx⟩:=hg
  obtain ⟨h1,h2,⟨u,v,h3⟩,h4,h5⟩:=st
  obtain ⟨is1,rv1,hO1⟩:=hq1.of I
  obtain ⟨is2,rv2,hO2⟩:=hq2.of I
  have hl1:=rv1.length
  have hl2:=rv2.length
  exact qe (I.ok.hd hc) D h1 h2 h3 h4 h5 hO1 hO2 (by simp;omega) fun h' eb=>⟨rfl,gB (t':=s.toks) I (fp:=[z,T,U,p,q]) (fun a o ha e=>eb a o (fun r=>ha (by simp [r])) (fun r=>ha (by simp [r])) (fun r=>ha (by simp [r])) (fun r=>ha (by simp [r])) e) hf⟩
 self:=fun A i s Q E st h=>wpAny_pyIter_zip st.1 h
end Sb
namespace Sb
open PySem L2 PySem.Spec PyProof.Rows
theorem boot_zip:bootBuiltins "zip"=some (.type "zip"):=by decide+kernel
theorem n6:bootBuiltins "enumerate"=some (.type "enumerate"):=by decide+kernel
theorem vO (n l m:Nat) (hl:l < n) (hm:m < n):Zp (n+4) (n+2) (n+3) n (n+1) l m:=by
 constructor <;> (intro h;have h:(_:Nat)=_:=h;omega)
section
variable {X:Cx} {es:List Expr} {k0:Nat} {tpos:Pos}
theorem qO {a:Expr} {ta:TA} {p pos:Pos} (hg:Gl X "enumerate") (hm:X.mg "enumerate"=none) (ha:PA X [a] ta) (hs:starEach [a] X.env=[(false,eval a X.env)]:=by kernel_rfl):
  PI X (.Tuple es k0 tpos) (.Call (.Name "enumerate" p) [a] [] pos) (fun σ H R=>ta σ H fun vs H1=>∃l b,vs=[.ref l]∧(∃xs,SqB b X.K H1 l xs)∧R (Ite b X.K l) H1):=by
 intro pins s σ H R I h
 refine Call_ (fR I hg hm n6 (PyProof.Rows.callWith_type1 (thn (ha pos pins s σ H _ I h) fun us s1 ⟨vs,H1,I1,r1,q1⟩=>?_) hs rfl))
 obtain ⟨l,b,e,⟨xs,hq⟩,q⟩:=q1
 subst e
 obtain ⟨u,rfl,ru⟩:=Vals.one r1
 obtain rfl:u=Value.ref l:=ru
 obtain ⟨its,rv,hO⟩:=hq.of I1
 refine nU hO fun h' a1 a2 a3 a4=>?_
 have I2:L2.Inv X pins σ H1 {s1 with heap:=h'}:=I1.kept (t':=s1.toks) a4
 have hf:∀c∈[s1.heap.objs.size+1,s1.heap.objs.size],cD X pins H1 c:=fun c hc=>by
  simp at hc
  rcases hc with rfl | rfl
  ·exact I1.kJ (Nat.le_succ _) (I1.hok.fresh (Nat.le_succ _))
  ·exact I1.kJ (Nat.le_refl _) (I1.hok.fresh (Nat.le_refl _))
 have T:=mZ (P:=X.prog) (w:=X.w) (K:=X.K) (es:=es) (k0:=k0) (pos:=tpos) b l (s1.heap.objs.size+1) s1.heap.objs.size (Nat.succ_ne_self _)
 refine T.self X.A 0 {s1 with heap:=h'} _ X.xe ⟨⟨_,a1⟩,a2⟩ ?_
 exact ⟨_,[s1.heap.objs.size+1,s1.heap.objs.size],_,_,H1,rfl,I2,T,⟨⟨_,a1⟩,a2⟩,hf,q⟩
theorem t5 {a a':Expr} {ta:TA} {p pos:Pos} (hg:Gl X "zip") (hm:X.mg "zip"=none) (ha:PA X [a,a'] ta) (hs:starEach [a,a'] X.env=[(false,eval a X.env),(false,eval a' X.env)]:=by kernel_rfl) (hs2:starEach [a'] X.env=[(false,eval a' X.env)]:=by kernel_rfl):
  PI X (.Tuple es k0 tpos) (.Call (.Name "zip" p) [a,a'] [] pos) (fun σ H R=>ta σ H fun vs H1=>∃l m b c,vs=[.ref l,.ref m]∧(∃xs,SqB b X.K H1 l xs)∧(∃xs,SqB c X.K H1 m xs)∧R (Itz b c X.K l m) H1):=by
 intro pins s σ H R I h
 refine Call_ (fR I hg hm boot_zip (PyProof.Rows.callWith_type1 (thn (ha pos pins s σ H _ I h) fun us s1 ⟨vs,H1,I1,r1,q1⟩=>?_) (by rw [hs,hs2]) (by rw [hs2];rfl)))
 obtain ⟨l,m,b,c,e,⟨xs,hq⟩,⟨ys,hq'⟩,q⟩:=q1
 subst e
 obtain ⟨u,v,rfl,ru,rv'⟩:=Vals.two r1
 obtain rfl:u=Value.ref l:=ru
 obtain rfl:v=Value.ref m:=rv'
 obtain ⟨its,rv,hO⟩:=hq.of I1
 obtain ⟨its',rv',hO'⟩:=hq'.of I1
 refine om hO hO' fun h' a1 a2 a3 a4 a5 a6 a7=>?_
 have I2:L2.Inv X pins σ H1 {s1 with heap:=h'}:=I1.kept (t':=s1.toks) a7
 have hf:∀d∈[s1.heap.objs.size+4,s1.heap.objs.size+2,s1.heap.objs.size+3,s1.heap.objs.size,s1.heap.objs.size+1],cD X pins H1 d:=fun d hd=>by
  simp at hd
  have:s1.heap.objs.size≤d:=by omega
  exact I1.kJ this (I1.hok.fresh this)
 have ll:l < s1.heap.objs.size:=by obtain ⟨o,n,e,_⟩:=hO.data;exact Heap.lt_size e
 have lm:m < s1.heap.objs.size:=by obtain ⟨o,n,e,_⟩:=hO'.data;exact Heap.lt_size e
 have D:Zp (s1.heap.objs.size+4) (s1.heap.objs.size+2) (s1.heap.objs.size+3) s1.heap.objs.size (s1.heap.objs.size+1) l m:=vO _ _ _ ll lm
 have T:=oq (P:=X.prog) (w:=X.w) (K:=X.K) (es:=es) (k0:=k0) (pos:=tpos) b c _ _ _ _ _ l m D
 refine T.self X.A 0 {s1 with heap:=h'} _ X.xe ⟨a1,a2,⟨_,_,a3⟩,a4,a5⟩ ?_
 exact ⟨_,[s1.heap.objs.size+4,s1.heap.objs.size+2,s1.heap.objs.size+3,s1.heap.objs.size,s1.heap.objs.size+1],_,_,H1,rfl,I2,T,⟨a1,a2,⟨_,_,a3⟩,a4,a5⟩,hf,q⟩
end
end Sb
namespace Sm
open PySem L2 PySem.Spec PyProof.Rows
def gn:Nat→List D→List D
 | _,[]=>[]
 | k,x::r=>.tup [.int (k:Int),x]::gn (k+1) r
def dA:List D→List D→List D
 | x::r,y::s=>.tup [x,y]::dA r s
 | _,_=>[]
theorem i3:∀(xs:List D) (k i:Nat),(gn k xs)[i]?=(xs[i]?).map fun x=>.tup [.int ((k+i:Nat):Int),x]
 | [],k,i=>by simp [gn]
 | x::r,k,0=>by simp [gn]
 | x::r,k,i+1=>by
  show (gn (k+1) r)[i]?=_
  rw [i3 r (k+1) i]
  simp only [List.getElem?_cons_succ]
  congr 1
  funext y
  rw [show k+1+i=k+(i+1) by omega]
theorem fi:∀(xs:List D) (k:Nat),(gn k xs).length=xs.length
 | [],_=>rfl
 | _::r,k=>by simp [gn,fi r (k+1)]
theorem j0:∀(xs ys:List D) (i:Nat),(dA xs ys)[i]?=(xs[i]?).bind fun x=>(ys[i]?).map fun y=>.tup [x,y]
 | [],_,i=>by simp [dA]
 | _::_,[],i=>by simp [dA]
 | x::r,y::s,0=>by simp [dA]
 | x::r,y::s,i+1=>by
  show (dA r s)[i]?=_
  rw [j0 r s i]
  simp
theorem fY:∀(xs ys:List D),(dA xs ys).length=min xs.length ys.length
 | [],_=>by simp [dA]
 | _::_,[]=>by simp [dA]
 | x::r,y::s=>by simp [dA,fY r s]
theorem SeqAt.sqB {K:PySem.W.Frag} {H:Hp} {a:Addr} {vs:List V} {b:Bool} (q:SeqAt K H a vs b):Sb.SqB b K H a vs:=by
 cases q with
 | l q=>exact q
 | t q=>exact q
theorem l6 {ws ws':W} {h:MH} (hc:chk (ws++ws') h=true):chk ws h=true∧chk ws' h=true:=by
 induction ws with
 | nil=>exact ⟨rfl,hc⟩
 | cons x r ih=>
  obtain ⟨n,o⟩:=x
  simp only [List.cons_append,chk,Bool.and_eq_true] at hc ⊢
  obtain ⟨h1,h2⟩:=ih hc.2
  exact ⟨⟨hc.1,h1⟩,h2⟩
def sA (m:AM):IM:=fun δ h=>(m δ h).bind fun p=>match p.1 with
 | [d]=>(ck d p.2).map fun q=>(gn 0 q.1,q.2,p.2)
 | _=>none
def pG (m:AM):IM:=fun δ h=>(m δ h).bind fun p=>match p.1 with
 | [d,e]=>(ck d p.2).bind fun q=>(ck e p.2).map fun r=>(dA q.1 r.1,q.2++r.2,p.2)
 | _=>none
section
variable {X:Cx} {es:List Expr} {k0:Nat} {tpos:Pos} {a b:Expr} {p pos:Pos} {m:AM}
theorem qp (hg:Gl X "enumerate") (hm:X.mg "enumerate"=none) (ha:SA X [a] m) (hl:gz m 1) (hs:starEach [a] X.env=[(false,eval a X.env)]:=by kernel_rfl):SI X (.Tuple es k0 tpos) (.Call (.Name "enumerate" p) [a] [] pos) (sA m):=
 (Sb.qO hg hm ha hs).imp fun σ H Q ⟨ρ,δ,h,xs,ws,h',R,S,e,k⟩=>by
  obtain ⟨⟨ds,h1⟩,e1,e2⟩:=bnd e
  refine ⟨ρ,δ,h,ds,h1,R,S,e1,fun vs ρ1 H1 T1 S1 r1=>?_⟩
  match ds,hl _ _ _ _ e1,e2,r1 with
  | [d],_,e2,r1=>
   obtain ⟨⟨ys,w⟩,e3,e4⟩:=mpd e2
   cases e4
   obtain ⟨v,rfl,rd⟩:=rep1 r1
   obtain ⟨a,rfl,⟨us,q,l⟩,st⟩:=eB S1 rd e3
   refine ⟨a,jI d,rfl,⟨us,q.sqB⟩,k _ ρ1 H1 T1 S1 ⟨fun ρ2 H2 h2 T2 S2 hc i=>?_⟩⟩
   obtain ⟨ws,l2,q2⟩:=st ρ2 H2 h2 T2 S2 hc
   refine ⟨fun hi=>⟨ws,q2.sqB,by rw [l2.length];rw [fi] at hi;exact hi⟩,fun x hx=>?_⟩
   rw [i3] at hx
   obtain ⟨y,ey,hx⟩:=mpd hx
   subst hx
   obtain ⟨v,ev,rv⟩:=l2.got ey
   refine ⟨⟨ws,v,q2.sqB,ev⟩,fun u H3 ⟨p,y',hp,hu,hH,hy⟩=>?_⟩
   subst hu;subst hH
   have hy':y'=v:=by have:=hy ws q2.sqB;rw [ev] at this;exact (Option.some.inj this).symm
   subst hy'
   refine ⟨Stp.laid S2 hp,S2.laid hp,.tup (.inl ⟨.inl aT,S2.fresh hp⟩) (.cons ?_ (.cons (rv.mono (Stp.laid S2 hp).toCh) .nil))⟩
   rw [Nat.zero_add]
   exact .int _
theorem sR (hg:Gl X "zip") (hm:X.mg "zip"=none) (ha:SA X [a,b] m) (hl:gz m 2) (hs:starEach [a,b] X.env=[(false,eval a X.env),(false,eval b X.env)]:=by kernel_rfl) (hs2:starEach [b] X.env=[(false,eval b X.env)]:=by kernel_rfl):
  SI X (.Tuple es k0 tpos) (.Call (.Name "zip" p) [a,b] [] pos) (pG m):=
 (Sb.t5 hg hm ha hs hs2).imp fun σ H Q ⟨ρ,δ,h,xs,ws,h',R,S,e,k⟩=>by
  obtain ⟨⟨ds,h1⟩,e1,e2⟩:=bnd e
  refine ⟨ρ,δ,h,ds,h1,R,S,e1,fun vs ρ1 H1 T1 S1 r1=>?_⟩
  match ds,hl _ _ _ _ e1,e2,r1 with
  | [d,d'],_,e2,r1=>
   obtain ⟨⟨ys,w⟩,e3,e4⟩:=bnd e2
   obtain ⟨⟨zs,w'⟩,e5,e6⟩:=mpd e4
   cases e6
   obtain ⟨v,v',rfl,rd,rd'⟩:=rep2 r1
   obtain ⟨a,rfl,⟨us,q,l⟩,st⟩:=eB S1 rd e3
   obtain ⟨a',rfl,⟨us',q',l'⟩,st'⟩:=eB S1 rd' e5
   refine ⟨a,a',jI d,jI d',rfl,⟨us,q.sqB⟩,⟨us',q'.sqB⟩,k _ ρ1 H1 T1 S1 ⟨fun ρ2 H2 h2 T2 S2 hc i=>?_⟩⟩
   obtain ⟨c1,c2⟩:=l6 hc
   obtain ⟨ws,l2,q2⟩:=st ρ2 H2 h2 T2 S2 c1
   obtain ⟨ws',l2',q2'⟩:=st' ρ2 H2 h2 T2 S2 c2
   refine ⟨fun hi=>⟨ws,ws',q2.sqB,q2'.sqB,by rw [l2.length,l2'.length];rw [fY] at hi;dsimp only at hi;omega⟩,fun x hx=>?_⟩
   rw [j0] at hx
   obtain ⟨y,ey,hx⟩:=bnd hx
   obtain ⟨y',ey',hx⟩:=mpd hx
   subst hx
   obtain ⟨v,ev,rv⟩:=l2.got ey
   obtain ⟨v',ev',rv'⟩:=l2'.got ey'
   refine ⟨⟨ws,ws',v,v',q2.sqB,q2'.sqB,ev,ev'⟩,fun u H3 ⟨p,x1,x2,hp,hu,hH,hy1,hy2⟩=>?_⟩
   subst hu;subst hH
   have z1:x1=v:=by have:=hy1 ws q2.sqB;rw [ev] at this;exact (Option.some.inj this).symm
   have z2:x2=v':=by have:=hy2 ws' q2'.sqB;rw [ev'] at this;exact (Option.some.inj this).symm
   subst z1;subst z2
   exact ⟨Stp.laid S2 hp,S2.laid hp,.tup (.inl ⟨.inl aT,S2.fresh hp⟩) (.cons (rv.mono (Stp.laid S2 hp).toCh) (.cons (rv'.mono (Stp.laid S2 hp).toCh) .nil))⟩
end
end Sm
namespace Sm
open PySem L2 PySem.Spec PyProof.Rows
def jL (ls:List (Key×D)):List (Key×D)→Option Bool
 | []=>some true
 | (k,v)::r=>match jh ls k with
  | none=>some false
  | some u=>(pyD v).bind fun a=>(pyD u).bind fun b=>if a.depth≤60∧b.depth≤60 then (jL ls r).map fun c=>PyData.eqv a b&&c else none
def pS (ks ls:List (Key×D)):Option Bool:=if ks.length=ls.length then jL ls ks else some false
def eqA (d e:D) (h:MH):Option Bool:=match dz d h,dz e h with
 | some ks,some ls=>pS ks ls
 | _,_=>eqD d e h
def dW (d e:D) (h:MH):Option (D×MH):=(eqA d e h).map fun c=>(.bl c,h)
def iM (d e:D) (h:MH):Option (D×MH):=(eqA d e h).map fun c=>(.bl (!c),h)
section
variable {X:Cx}
theorem mL {pins:List (Addr×Obj)} {σ:L2.St} {H:Hp} {s:Shared} {ρ:Ad} (hu:X.A.units+64 < cLine) (I:L2.Inv X pins σ H s) {vs:List (Key×V)} {ls:List (Key×D)} {kb:List (Key×Value)} (lb:RepK X.K ρ H vs ls) (rb:KV vs kb):
  ∀{us:List (Key×V)} {ks:List (Key×D)} {ka:List (Key×Value)} {c:Bool},RepK X.K ρ H us ks→KV us ka→jL ls ks=some c→PySem.W.KeqHits X.A.in1 s kb ka c
 | _,_,_,c,.nil,ra,e=>by
  cases ra
  cases e
  exact .nil
 | _,_,_,c,.cons (k:=k) (v:=v) (d:=d) r l,ra,e=>by
  cases ra with
  | cons ra rr=>
   rename_i p ka
   obtain ⟨k',y⟩:=p
   obtain ⟨ek,ry⟩:=ra
   dsimp only at ek ry
   subst ek
   simp only [jL] at e
   have rel:=rb.val k
   rcases lb.val k with ⟨h1,h2⟩ | ⟨d',v',h1,h2,r'⟩
   ·rw [h1] at e
    cases e
    rw [h2] at rel
    refine .miss ?_
    cases q:valueAt kb k with
    | none=>rfl
    | some _=>rw [q] at rel;exact rel.elim
   ·rw [h1] at e
    obtain ⟨a,e1,e⟩:=bnd e
    obtain ⟨b,e2,e⟩:=bnd e
    by_cases z:a.depth≤60∧b.depth≤60
    ·rw [if_pos z] at e
     obtain ⟨c',e3,e4⟩:=mpd e
     subst e4
     rw [h2] at rel
     cases q:valueAt kb k with
     | none=>rw [q] at rel;exact rel.elim
     | some y'=>
      rw [q] at rel
      obtain ⟨r1,c1⟩:=r.rds e1
      obtain ⟨r2,c2⟩:=r'.rds e2
      obtain ⟨as,ra1⟩:=r1.reads I ry
      obtain ⟨bs,ra2⟩:=r2.reads I rel
      refine .hit q (PySem.SeqAt.eqAt_reads a b _ s y y' as bs ra1 ra2 c1 c2 ?_) (mL hu I lb rb l rr e3)
      have:min a.depth b.depth≤a.depth:=Nat.min_le_left _ _
      show X.A.units+1+min a.depth b.depth < cLine
      omega
    ·rw [if_neg z] at e;cases e
theorem pP {pins:List (Addr×Obj)} {σ:L2.St} {H:Hp} {s:Shared} {ρ:Ad} {h:MH} {x y:V} {v u:Value} {d e:D} {c:Bool} (hu:X.A.units+64 < cLine) (I:L2.Inv X pins σ H s) (rx:L2.RelV x v) (ry:L2.RelV y u) (S:Sim X.K ρ h H) (rd:Rep X.K ρ H x d) (re:Rep X.K ρ H y e) (ee:eqA d e h=some c):
  (∀Q:Value→Shared→Prop,Q (.bool c) s→wpAny (model X.prog X.w) X.A (compareOp .Eq v u) Q X.xe s)∧∀Q:Value→Shared→Prop,Q (.bool (!c)) s→wpAny (model X.prog X.w) X.A (compareOp .NotEq v u) Q X.xe s:=by
 have data:eqD d e h=some c→(∀Q:Value→Shared→Prop,Q (.bool c) s→wpAny (model X.prog X.w) X.A (compareOp .Eq v u) Q X.xe s)∧∀Q:Value→Shared→Prop,Q (.bool (!c)) s→wpAny (model X.prog X.w) X.A (compareOp .NotEq v u) Q X.xe s:=by
  intro ee
  obtain ⟨a,e3,e4⟩:=bnd ee
  obtain ⟨b,e5,e6⟩:=bnd e4
  by_cases w:a.depth≤64∧b.depth≤64
  ·rw [if_pos w] at e6;cases e6
   obtain ⟨r1,c1⟩:=jv S rd e3
   obtain ⟨r2,c2⟩:=jv S re e5
   obtain ⟨as,ra⟩:=r1.reads I rx
   obtain ⟨bs,rb⟩:=r2.reads I ry
   exact ⟨fun Q q=>eq_dataH ra rb (d8 c1 w.1) (d8 c2 w.2) hu q,fun Q q=>ne_dataH ra rb (d8 c1 w.1) (d8 c2 w.2) hu q⟩
  ·rw [if_neg w] at e6;cases e6
 unfold eqA at ee
 cases q1:dz d h with
 | none=>rw [q1] at ee;exact data ee
 | some ks=>
  cases q2:dz e h with
  | none=>rw [q1,q2] at ee;exact data ee
  | some ls=>
   rw [q1,q2] at ee
   obtain ⟨a,us,rfl,ha,la⟩:=fm S rd q1
   obtain ⟨b,ws,rfl,hb,lb⟩:=fm S re q2
   obtain rfl:v=Value.ref a:=rx
   obtain rfl:u=Value.ref b:=ry
   obtain ⟨_,na,ka,ra,da⟩:=mP I.hok ha
   obtain ⟨_,nb,kb,rb,db⟩:=mP I.hok hb
   have l1:ka.length=ks.length:=by rw [←la.length];exact (Paired.length ra).symm
   have l2:kb.length=ls.length:=by rw [←lb.length];exact (Paired.length rb).symm
   dsimp only [pS] at ee
   by_cases z:ks.length=ls.length
   ·rw [if_pos z] at ee
    have hits:=mL hu I lb rb la ra ee
    have ez:(ka.length==kb.length&&c)=c:=by rw [l1,l2,z,beq_self_eq_true,Bool.true_and]
    exact ⟨fun Q q=>PySem.W.keq_eq na nb da db (by omega) (fun _=>hits) (by rw [ez];exact q),fun Q q=>PySem.W.keq_ne na nb da db (by omega) (fun _=>hits) (by rw [ez];exact q)⟩
   ·rw [if_neg z] at ee
    cases ee
    have ez:(ka.length==kb.length&&false)=false:=Bool.and_false _
    have nh:ka.length=kb.length→PySem.W.KeqHits X.A.in1 s kb ka false:=fun q=>absurd (by rw [←l1,←l2];exact q) z
    exact ⟨fun Q q=>PySem.W.keq_eq na nb da db (by omega) nh (by rw [ez];exact q),fun Q q=>PySem.W.keq_ne na nb da db (by omega) nh (by rw [ez];exact q)⟩
theorem bR (hu:X.A.units+64 < cLine):OpS X (compareOp .Eq) dW:=by
 intro pins s σ H x y v u Q I rx ry hh
 obtain ⟨ρ,h,d,e,z,h',S,rd,re,ee,k⟩:=hh
 obtain ⟨c,e1,e2⟩:=mpd ee
 cases e2
 exact (pP hu I rx ry S rd re e1).1 _ ⟨.bl _,H,I,rfl,k _ _ (.here S (.bl _))⟩
theorem lL (hu:X.A.units+64 < cLine):OpS X (compareOp .NotEq) iM:=by
 intro pins s σ H x y v u Q I rx ry hh
 obtain ⟨ρ,h,d,e,z,h',S,rd,re,ee,k⟩:=hh
 obtain ⟨c,e1,e2⟩:=mpd ee
 cases e2
 exact (pP hu I rx ry S rd re e1).2 _ ⟨.bl _,H,I,rfl,k _ _ (.here S (.bl _))⟩
theorem sO {i:Nat} {x:Str} {e:Expr} {ma:EM} {op:Operator} {f:D→D→MH→Option (D×MH)} {pos pos':Pos} (hN:X.N.Nodup) (hi:X.N[i]?=some x) (hx:Loc X.env.scope x) (he:SE X e ma) (ho:PIp X op (rS X.K f))
  (hf:X.fn x=true∨X.env.scope.names.lookup x=some .local:=by first | exact .inl rfl | exact .inr rfl | assumption):SS X (.AugAssign (.Name x pos') op e pos) (sX i f ma):=
 (tZ hN hi hx he ho hf).imp fun E σ H ⟨ρ,δ,h,fl,δ',h',R,S,e,k⟩=>by
  obtain ⟨d,e1,e2⟩:=bnd e
  obtain ⟨⟨y,h1⟩,e3,e4⟩:=bnd e2
  obtain ⟨⟨z,h2⟩,e5,e6⟩:=bnd e4
  cases e6
  obtain ⟨v,ev,r⟩:=R.at_ i d (Option.join_eq_some_iff.mp e1)
  exact ⟨v,ev,ρ,δ,h,y,h1,R,S,e3,fun u H1 ⟨ρ1,T1,S1,r1⟩=>⟨ρ1,h1,d,y,z,h2,S1,r.mono T1,r1,e5,fun w H2 ⟨ρ2,T2,S2,r2⟩=>k ρ2 H2 (T1.trans T2) S2 _ ((R.mono (T1.trans T2).toCh).set r2 i)⟩⟩
theorem rJ {op:Operator} {q:Int→Int→V} {f:D→D→MH→Option (D×MH)} (ho:OpR X (inplaceOp op) (rI0 q))
  (hf:∀d e h z h',f d e h=some (z,h')→∃i j,d=.int i∧e=.int j∧h'=h∧∀ρ H,Rep X.K ρ H (q i j) z):PIp X op (rS X.K f):=d6 ho hf
theorem rK:PIp X .Sub (rS X.K gx):=rJ rL fun d e h z h' ee=>by
 cases d <;> first | (cases ee;done) | skip
 cases e <;> first | (cases ee;done) | skip
 cases ee;exact ⟨_,_,rfl,rfl,rfl,fun _ _=>.int _⟩
end
end Sm
namespace Sm
open PySem L2 PySem.Spec PyProof.Rows
theorem jS:bootBuiltins "list"=some (.type "list"):=by decide+kernel
theorem bz:bootBuiltins "tuple"=some (.type "tuple"):=by decide+kernel
theorem jT:bootBuiltins "bool"=some (.type "bool"):=by decide+kernel
theorem vE:bootBuiltins "int"=some (.type "int"):=by decide+kernel
theorem jR:bootBuiltins "str"=some (.type "str"):=by decide+kernel
theorem bU:bootBuiltins "len"=some (.builtin "len"):=by decide+kernel
theorem p3:bootBuiltins "abs"=some (.builtin "abs"):=by decide+kernel
theorem aF:bootBuiltins "isinstance"=some (.builtin "isinstance"):=by decide+kernel
theorem eT:bootBuiltins "all"=some (.builtin "all"):=by decide+kernel
def sF (sc:Scope) (x:Str):Bool:=match sc.names.lookup x with
 | some .local=>true
 | some .cell=>true
 | some .free=>true
 | _=>false
def pB (sc:Scope) (x:Str):Bool:=match sc.names.lookup x with
 | some .local=>true
 | some .cell=>true
 | _=>false
def fnB (X:Cx) (x:Str):Bool:=X.fn x||(match X.env.scope.names.lookup x with
 | some .local=>true
 | _=>false)
theorem sE {sc:Scope} {x:Str} (h:sF sc x=true):Vis sc x:=by
 unfold sF at h
 split at h <;> first | (cases h;done) | skip
 ·exact .inl ‹_›
 ·exact .inr (.inl ‹_›)
 ·exact .inr (.inr ‹_›)
theorem lV {sc:Scope} {x:Str} (h:pB sc x=true):Loc sc x:=by
 unfold pB at h
 split at h <;> first | (cases h;done) | skip
 ·exact .inl ‹_›
 ·exact .inr ‹_›
theorem lZ {X:Cx} {x:Str} (h:fnB X x=true):X.fn x=true∨X.env.scope.names.lookup x=some .local:=by
 unfold fnB at h
 rw [Bool.or_eq_true] at h
 rcases h with h | h
 ·exact .inl h
 ·split at h
  ·exact .inr ‹_›
  ·cases h
section
variable {X:Cx} {pos:Pos}
theorem sv (i:Nat) {x:Str} (hN:X.N[i]?=some x:=by kernel_rfl) (hv:sF X.env.scope x=true:=by kernel_rfl) (hd:(x==("__debug__":Str))=false:=by kernel_rfl)
  (hcd:(x==("__classdict__":Str))=false:=by kernel_rfl):SE X (.Name x pos) (ai i):=sU hN (sE hv) hd hcd
theorem sset (i:Nat) {x:Str} {pos':Pos} {e:Expr} {ma:EM} (hN:X.N.Nodup) (he:SE X e ma) (hi:X.N[i]?=some x:=by kernel_rfl) (hx:pB X.env.scope x=true:=by kernel_rfl) (hs:swapsWith e (some (.Name x pos')) pos.line X.env=pure false:=by kernel_rfl)
  (hf:fnB X x=true:=by kernel_rfl):SS X (.Assign [.Name x pos'] e pos) (bw i ma):=sN hN hi (lV hx) he hs (lZ hf)
theorem sgn (i:Nat) {x:Str} (hN:X.N.Nodup) (hi:X.N[i]?=some x:=by kernel_rfl) (hx:pB X.env.scope x=true:=by kernel_rfl) (hf:fnB X x=true:=by kernel_rfl):SG X (.Name x pos) (gN i):=qq hN hi (lV hx) (lZ hf)
theorem xO (i:Nat) {x:Str} {pos':Pos} {e:Expr} {ma:EM} {op:Operator} {f:D→D→MH→Option (D×MH)} (hN:X.N.Nodup) (he:SE X e ma) (ho:PIp X op (rS X.K f)) (hi:X.N[i]?=some x:=by kernel_rfl) (hx:pB X.env.scope x=true:=by kernel_rfl)
  (hf:fnB X x=true:=by kernel_rfl):SS X (.AugAssign (.Name x pos') op e pos) (sX i f ma):=sO hN hi (lV hx) he ho (lZ hf)
def xP (i j:Nat) (m:AM):SM:=fun δ h=>(m δ h).bind fun p=>match p.1 with
 | [a,b]=>some (.nx,(δ.set i (some a)).set j (some b),p.2)
 | _=>none
structure Df (P:Program) (w:World) (K:PySem.W.Frag) (mg:Str→Option Value) (base:Heap) (nm:Str) (k:Nat) (ps:List Str) (n:Nat) (F:Fn):Prop where
 ex:∃(f:Addr) (fd:FuncData),FnOk P w K mg base CX0 k f fd ps (spF K n F)∧PySem.W.keepIn K (.ref f)=true∧Binds K fd ps []∧mg nm=some (.ref f)
theorem aM {nm:Str} {k k' n:Nat} {ps:List Str} {F:Fn} {e:Expr} {es:List Expr} {p:Pos} {m:AM} (d:Df X.prog X.w X.K X.mg X.base nm k ps n F) (hr:Room k' X.A) (hk:k≤k') (ha:SA X (e::es) m) (hl:gz m n) (hg:Gl X nm:=by unfold Gl;kernel_rfl) (hdb:(nm==("__debug__":Str))=false:=by kernel_rfl)
  (he:starEach (e::es) X.env=(false,eval e X.env)::starEach es X.env:=by kernel_rfl) (hpl:(backTo pos (starEach es X.env)).any (·.1)=false:=by kernel_rfl):SE X (.Call (.Name nm p) (e::es) [] pos) (eFn F m):=by
 obtain ⟨f,fd,G,kf,bf,mf⟩:=d.ex
 exact qt G (hr.mono hk) hg mf kf bf ha hl hdb he hpl
theorem rA {P:Program} {w:World} {K:PySem.W.Frag} {mg:Str→Option Value} {base:Heap} {k n:Nat} {f:Addr} {fd:FuncData} {ps:List Str}:FnOk P w K mg base CX0 k f fd ps (spF K n fun _ _=>none):=
 ⟨fun vs H Q E hh=>(by obtain ⟨_,_,_,_,_,_,_,_,e,_⟩:=hh;cases e),fun A outer s H args us vs Q E _ _ _ _ hh=>(by obtain ⟨_,_,_,_,_,_,_,_,e,_⟩:=hh;cases e)⟩
end
end Sm
namespace L2
open PySem PySem.Spec PyProof.Rows
abbrev TK:=St→Hp→(St→Hp→Prop)→Prop
def PM (B:Cx) (act:Sem Unit) (t:TK):Prop:=
 ∀(pins:List (Addr×Obj)) (s:Shared) (τ:St) (H:Hp) (N:St→Hp→Prop),Inv B pins τ H s→t τ H N→wpAny (model B.prog B.w) B.A act (fun _ s'=>∃τ' H',Inv B pins τ' H' s'∧N τ' H') B.xe s
def jZ (J:It) (g:TG) (tc:TT) (tm:TK) (N:St→Hp→Prop) (τ0:St) (H0:Hp):Prop:=
 ∃W:Nat→Nat→St→Hp→Prop,(∃m,W 0 m τ0 H0)∧∀i m τ H2,W i m τ H2→
  (J.stop i H2∧N τ H2)∨(J.go i H2∧∃N':St→Hp→Prop,(∀τ' H',N' τ' H'→∃m',m' < m∧W (i+1) m' τ' H')∧∀x H',J.yld i H2 x H'→g x τ H' fun τ2 H3=>
   tc τ2 H3 fun b H4=>if b=true then tm τ2 H4 N' else N' τ2 H4)
def gK (e:Expr) (d:Nat) (tg:Expr) (ifs:List Expr) (act:Sem Unit) (p:Pos) (it acc:Value) (env:Env):Sem Fin:=do
 standAt p
 match←pyNext it with
 | none=>pure (.done .next)
 | some v=>
  letOwnedTupleGo tg it v
  assign tg env v
  let mut ok:=true
  for c in ifs do
   if ok then ok←isTrue c env (eval c env)
  if ok then act
  again (.compLoop e d it acc env)
def fj (k v:Expr) (d:Addr) (env:Env):Sem Unit:=do
 let kv←eval k env
 let vv←holding [kv] (eval v env)
 standAt {k.pos with endLine:=v.pos.endLine,endCol:=v.pos.endCol}
 holding [kv,vv] (dictSet d kv vv)
theorem lh (k v t1 i1:Expr) (f1:List Expr) (sc:Scope) (pos:Pos) (it:Value) (d:Addr) (env:Env):
  compTurn (.DictComp k v [⟨t1,i1,f1,0⟩] sc pos) 0 it (.ref d) env=gK (.DictComp k v [⟨t1,i1,f1,0⟩] sc pos) 0 t1 f1 (fj k v d env) i1.pos it (.ref d) env:=by rfl
structure Plain (e:Expr):Prop where
 loop:∀(P:Program) (w:World) (d:Nat) (it acc:Value) (env:Env),(model P w).den (.compLoop e d it acc env)=(compTurn e d it acc env).onRaise (fun x=>do noteFrame x env;theTreesLotGoes x)
 start:∀(P:Program) (w:World) (d:Nat) (it acc:Value) (env:Env),(model P w).den (.compStart e d it acc env)=(compStart e d it acc env).onRaise (fun x=>do noteFrame x env;standAt theWindowsPlace)
 ul:∀(A:Around) (d:Nat) (it acc:Value) (env:Env),A.under (.compLoop e d it acc env)=A
 us:∀(A:Around) (d:Nat) (it acc:Value) (env:Env),A.under (.compStart e d it acc env)=A
theorem lI (k v:Expr) (gs:List Comprehension) (sc:Scope) (pos:Pos):Plain (.DictComp k v gs sc pos):=⟨fun _ _ _ _ _ _=>rfl,fun _ _ _ _ _ _=>rfl,fun _ _ _ _ _=>rfl,fun _ _ _ _ _=>rfl⟩
section
variable {B:Cx} {e:Expr} {d:Nat} {tg:Expr} {ifs:List Expr} {act:Sem Unit} {p:Pos} {it:Addr} {acc:Value} {g:TG} {tc:TT} {tm:TK}
theorem xq (hk:Plain e) (ht:compTurn e d (.ref it) acc B.env=gK e d tg ifs act p (.ref it) acc B.env) (hc:B.calm=true) (hx:B.xe=fun _ _=>False) (hg:PG B tg g) (hif:PIf B ifs tc) (hm:PM B act tm)
  {pins:List (Addr×Obj)} {τ:St} {H:Hp} {s:Shared} {fp:List Addr} {tn:Nat→Heap→Prop} {J:It} (I:Inv B pins τ H s) (T:Turn B.prog B.w B.K tg J fp it tn) (st:tn 0 s.heap) (hf:∀b∈fp,cD B pins H b)
  {N:St→Hp→Prop} (hw:jZ J g tc tm N τ H):
  codeAny (model B.prog B.w) B.A (.compLoop e d (.ref it) acc B.env) (fun r s'=>r=.ok .next∧∃τ' H',Inv B pins τ' H' s'∧N τ' H') s:=by
 obtain ⟨W,⟨m0,w0⟩,turn⟩:=hw
 have stat:∀{H':Hp},(∀b∈fp,H' b=none)→∀b∈fp,cD B pins H' b:=fun hn b hb=>⟨hn b hb,(hf b hb).2⟩
 have up:∀{α:Type} {t:Sem α} {Q:α→Shared→Prop} {E:Value→Shared→Prop} {s:Shared},wpAny (model B.prog B.w) B.A t Q B.xe s→wpAny (model B.prog B.w) B.A t Q E s:=fun h=>upE (hx ▸ h)
 refine codeAny_loop rfl (fun n s'=>∃i τ' H',Inv B pins τ' H' s'∧tn i s'.heap∧(∀b∈fp,H' b=none)∧W i n τ' H') ?_ m0 ⟨0,_,_,I,st,fun b hb=>(hf b hb).1,w0⟩
 rintro n s4 ⟨i,τ4,H4,J4,st4,fr4,w4⟩
 rw [hk.ul,hk.loop]
 refine wpAny_noted ?_
 rw [ht]
 unfold gK
 rcases turn i n τ4 H4 w4 with ⟨stop,qn⟩ | ⟨go,N',hN,step⟩
 ·refine wpAny_bind (wpAny_standAt (wpAny_bind (wpAny_mono (T.done B rfl rfl rfl hc i pins s4 τ4 H4 _ J4 (stat fr4) st4 stop) (fun r s5 h5=>?_) fun _ _ e=>e)))
  obtain ⟨hr,J5⟩:=h5
  subst hr
  exact wpAny_pure ⟨rfl,_,_,J5,qn⟩
 ·refine wpAny_bind (wpAny_standAt (wpAny_bind (wpAny_mono (T.item B rfl rfl rfl hc i pins s4 τ4 H4 _ J4 (stat fr4) st4 go) (fun r s5 h5=>?_) fun _ _ e=>e)))
  obtain ⟨u,hr,h5⟩:=h5
  subst hr
  refine wpAny_bind (wpAny_mono h5 (fun _ s6 h6=>?_) fun _ _ e=>e)
  obtain ⟨x,H6,J6,r6,y6,st6,fr6⟩:=h6
  have J6':=J6.pinned (stat fr6) (T.obj _ _ st6)
  refine wpAny_bind (wpAny_mono (up (hg _ s6 τ4 H6 x u _ J6' r6 (step x H6 y6))) (fun _ s7 h7=>?_) fun _ _ e=>e)
  obtain ⟨τ7,H7,J7,q7⟩:=h7
  have again:∀{τ8:St} {H8:Hp} {s8:Shared},Inv B (pins++fM fp s6.heap) τ8 H8 s8→N' τ8 H8→
    ∃m,m < n∧∃i τ' H',Inv B pins τ' H' s8∧tn i s8.heap∧(∀b∈fp,H' b=none)∧W i m τ' H':=fun {τ8 H8 s8} J8 n8=>by
   obtain ⟨m',hm,w8⟩:=hN τ8 H8 n8
   refine ⟨m',hm,i+1,τ8,H8,J8.dC,T.keep _ _ _ st6 fun b hb o e=>(J8.pin (b,o) (List.mem_append_right _ (List.mem_append_right _ (b0 hb e)))).1,fun b hb=>?_,w8⟩
   obtain ⟨o,e,d⟩:=T.obj _ _ st6 b hb
   exact (J8.pin (b,o) (List.mem_append_right _ (List.mem_append_right _ (b0 hb e)))).2.1
  refine wpAny_bind (wpAny_mono (up (hif _ s7 τ7 H7 _ J7 q7)) (fun ok s8 h8=>?_) fun _ _ e=>e)
  obtain ⟨H8,J8,q8⟩:=h8
  cases ok with
  | false=>exact wpAny_pure ⟨rfl,again J8 (by simpa using q8)⟩
  | true=>
   have q8':tm τ7 H8 N':=by simpa using q8
   refine wpAny_bind (wpAny_mono (up (hm _ s8 τ7 H8 _ J8 q8')) (fun _ s9 h9=>?_) fun _ _ e=>e)
   obtain ⟨τ9,H9,J9,n9⟩:=h9
   exact wpAny_pure ⟨rfl,again J9 n9⟩
theorem vC {env:Env} {it acc:Value} {iter:Expr} {prog:Program} {w:World} {A:Around} {s:Shared} {R:Result→Shared→Prop} (hk:Plain e) (hcl:(clausesOf e)[d]?=some ⟨tg,iter,ifs,0⟩)
  (h0:codeAny (model prog w) A (.compLoop e d it acc env) R s)
  (h:wpAny (model prog w) A (pyIter it) (fun it' s'=>codeAny (model prog w) A (.compLoop e d it' acc env) R s') (notedBy (model prog w) A env fun x s'=>R (.error x) s') s):
  codeAny (model prog w) A (.compStart e d it acc env) R s:=by
 refine codeAny_of_tree ?_
 rw [hk.us,hk.start]
 refine wpAny_notedAt ?_
 unfold compStart
 rw [hcl]
 show wpAny _ _ (ask >>=_) _ _ s
 refine wpAny_bind (wpAny_askSetting (wpAny_ite ?_))
 split
 ·first
   | exact wpAny_bind (wpAny_pure (wpAny_pure (And.intro rfl h0)))
   | exact wpAny_pure (And.intro rfl h0)
 ·first
   | exact wpAny_bind (wpAny_rule (wpAny_bind (wpAny_standAt (wpAny_bind (wpAny_mono h (fun it' s' h'=>wpAny_pure (And.intro rfl h')) fun _ _ x=>x)))))
   | (refine wpAny_bind (wpAny_rule ?_);show wpAny _ _ (standAt iter.pos >>=_) _ _ s;exact wpAny_bind (wpAny_standAt (wpAny_bind (wpAny_mono h (fun it' s' h'=>wpAny_pure (And.intro rfl h')) fun _ _ x=>x))))
end
end L2
namespace L2
open PySem PySem.Spec PyProof.Rows
def vM (X:Cx) (na:Sem Value) (o:Addr→HO):Prop:=∀(pins:List (Addr×Obj)) (s:Shared) (σ:St) (H:Hp) (Q:Value→Shared→Prop) (E:Value→Shared→Prop),Inv X pins σ H s→
 (∀(obj:Obj) (t':Nat),Inv X pins σ (upd H s.heap.objs.size (o s.heap.objs.size)) {s with heap:=s.heap.push obj,toks:=t'}→Q (.ref s.heap.objs.size) {s with heap:=s.heap.push obj,toks:=t'})→wpAny (model X.prog X.w) X.A na Q E s
def ji (caps:List (Option Nat)) (wi:TI) (o:Addr→HO) (g:TG) (tc:TT) (tm:Addr→TK):TE:=fun σ H Q=>wi σ H fun J H1=>∀l,H1 l=none→jZ J g tc (tm l) (fun _ H'=>Q (.ref l) H') (fW caps σ) (upd H1 l (o l))
section
variable {X:Cx} {N':List Str} {caps:List (Option Nat)} {scope:Scope} {e tg iter:Expr} {ifs:List Expr} {p:Pos} {wi:TI} {g:TG} {tc:TT} {tm:Addr→TK} {o:Addr→HO} {na:Sem Value} {act:Addr→Env→Sem Unit}
theorem vD (S:CompScope X N' caps scope) (hc:X.calm=true) (hk:Plain e) (hcl:(clausesOf e)[0]?=some ⟨tg,iter,ifs,0⟩) (ht:∀(it l:Addr) (env:Env),compTurn e 0 (.ref it) (.ref l) env=gK e 0 tg ifs (act l env) p (.ref it) (.ref l) env)
  (hA:vM X na o) (hg:∀C s₃ H₃ fp pl,PG (blk X N' scope C s₃ H₃ fp pl) tg g) (hif:∀C s₃ H₃ fp pl,PIf (blk X N' scope C s₃ H₃ fp pl) ifs tc)
  (hm:∀C s₃ H₃ fp pl l,PM (blk X N' scope C s₃ H₃ fp pl) (act l (blk X N' scope C s₃ H₃ fp pl).env) (tm l)) {pins:List (Addr×Obj)} {σ:St} {H:Hp} {s:Shared} {it:Addr} {fp:List Addr} {tn:Nat→Heap→Prop} {J:It}
  (I:Inv X pins σ H s) (T:Turn X.prog X.w X.K tg J fp it tn) (st:tn 0 s.heap) (hf:∀b∈fp,cD X pins H b) {Q:VK} {RR:Value→Addr→Result→Shared→Prop} {E:Value→Shared→Prop}
  (h:∀l,H l=none→jZ J g tc (tm l) (fun _ H'=>Q (.ref l) H') (fW caps σ) (upd H l (o l)))
  (hRR:∀(l C:Addr) (H':Hp) (s':Shared),H' C=none→C≠X.env.locals→X.s₀.heap.objs.size≤C→(∀x c,X.env.cells.lookup x=some c→c≠C)→(∀p∈X.pn++pins,p.1≠C)→(∃m,s'.heap.Ns C m)→Inv X pins σ H' s'→
   (∀h'':Heap,(∀b u,b≠C→s'.heap.get? b=some u→h''.get? b=some u)→Inv X pins σ H' {s' with heap:=h''})→Q (.ref l) H'→RR (.ref l) C (.ok .next) s'):
  wpAny (model X.prog X.w) X.A na (fun acc s₃=>wpAny (model X.prog X.w) X.A (newFunctionEnv scope X.env.globals (cQ X.env scope.names []) [] X.env.qual none .none (some X.env)) (fun cenv s₄=>
   codeAny (model X.prog X.w) X.A (.compStart e 0 (.ref it) acc {cenv with scope:=relabel scope X.env}) (RR acc cenv.locals) s₄) E s₃) E s:=by
 have hw:=h s.heap.objs.size I.fresh
 refine hA pins s σ H _ _ I fun obj t' I3=>wpAny_newFunctionEnv S.nocell (by intro y hy;simp at hy) (fun h₁ hns₁ hsb₁=>?_) S.kind
 have hltf:∀b∈fp,b < s.heap.objs.size:=fun b hb=>by
  obtain ⟨o,e,_⟩:=T.obj 0 _ st b hb
  exact Heap.lt_size e
 have hf3:∀b∈fp,cD X pins (upd H s.heap.objs.size (o s.heap.objs.size)) b:=fun b hb=>⟨by rw [aC (Nat.ne_of_lt (hltf b hb))];exact (hf b hb).1,(hf b hb).2⟩
 have keep3:∀b u,(s.heap.push obj).get? b=some u→h₁.get? b=some u:=fun b u e=>hsb₁.extBut b u (Nat.ne_of_lt (Heap.lt_size e)) (Heap.get?_push_of_some _ e)
 have st3:tn 0 h₁:=T.keep 0 _ _ st fun b hb o e=>keep3 b o (Heap.get?_push_of_some _ e)
 have hlt3:∀b∈fp,b < (s.heap.push obj).objs.size:=fun b hb=>by
  have:=hltf b hb
  rw [Heap.size_push]
  exact Nat.lt_succ_of_lt this
 have J0:=Inv.block S I3 hc hf3 hlt3 hns₁ keep3 (t₄:=t')
 have fpB:∀b∈fp,cD (blk X N' scope (s.heap.push obj).objs.size {s with heap:=s.heap.push obj,toks:=t'} (upd H s.heap.objs.size (o s.heap.objs.size)) fp pins) [] (upd H s.heap.objs.size (o s.heap.objs.size)) b:=fun b hb=>by
  obtain ⟨f0,f1,f2,f3,f4,f5⟩:=hf3 b hb
  refine ⟨f0,Nat.ne_of_lt (hlt3 b hb),fun z=>?_,.inl hb,fun x c e=>f4 x c (S.look I3.ok e),fun p hp=>?_⟩
  ·rcases List.mem_cons.mp (I3.fB b z) with q | q
   ·exact f1 q
   ·exact f2 q
  ·rcases List.mem_append.mp hp with q | q
   ·exact f5 p q
   ·cases q
 have lp:=xq hk (ht it s.heap.objs.size _) rfl rfl (hg _ _ _ _ _) (hif _ _ _ _ _) (hm _ _ _ _ _ s.heap.objs.size) J0 T st3 fpB hw
 refine codeAny_mono (vC hk hcl lp (T.self X.A 0 _ _ _ st3 lp)) fun r s' hr=>?_
 obtain ⟨rfl,τ,H',J,q⟩:=hr
 refine hRR _ _ H' s' J.free ?_ ?_ ?_ ?_ ?_ ?_ ?_ q
 ·exact (Nat.ne_of_lt I3.lt).symm
 ·exact I3.sz
 ·intro x c e z
  obtain ⟨v,o,ho,_⟩:=I3.cell x c e
  exact Nat.ne_of_lt (Heap.lt_size ho) z
 ·intro p hp z
  obtain ⟨e,_⟩:=I3.pin p hp
  exact Nat.ne_of_lt (Heap.lt_size e) z
 ·obtain ⟨m,hm,_⟩:=J.loc
  exact ⟨m,hm⟩
 ·have:=Inv.gA S I3 hf3 J (h'':=s'.heap) fun b u _ e=>e
  exact this
 ·exact fun h'' hs=>Inv.gA S I3 hf3 J hs
theorem oW {p0:Pos} {i:Nat} {y:Str} {py spos:Pos} (hN:X.N.Nodup) (hi':X.N[i]?=some y) (hy:X.env.scope.names.lookup y=some .local)
  (S:CompScope X N' caps scope) (hc:X.calm=true) (hk:Plain e) (hcl:clausesOf e=⟨tg,iter,ifs,0⟩::gs) (ht:∀(it l:Addr) (env:Env),compTurn e 0 (.ref it) (.ref l) env=gK e 0 tg ifs (act l env) p (.ref it) (.ref l) env)
  (hA:vM X na o) (hi:PI X tg iter wi) (hg:∀C s₃ H₃ fp pl,PG (blk X N' scope C s₃ H₃ fp pl) tg g) (hif:∀C s₃ H₃ fp pl,PIf (blk X N' scope C s₃ H₃ fp pl) ifs tc)
  (hm:∀C s₃ H₃ fp pl l,PM (blk X N' scope C s₃ H₃ fp pl) (act l (blk X N' scope C s₃ H₃ fp pl).env) (tm l))
  (he:∀use,evalThenUse e X.env use=(do let _←comprehension e scope X.env p0 na false (eval iter X.env) (some use)))
  (hsw:swapsWith e (some (.Name y py)) spos.line X.env=pure true:=by rfl) (hs:∀x,foldedSetIterable iter X.env x=pure x:=by intro _;rfl):
  PS X (.Assign [.Name y py] e spos) (ni (ji caps wi o g tc tm) (gm i)):=by
 intro pins s σ H D I h
 rw [exec_Assign_Name_used _ _ _ _ hsw]
 refine wpAny_bind (wpAny_standAt (wpAny_bind ?_))
 rw [he]
 refine wpAny_bind (wpAny_mono (wpAny_comprehension_free (use:=some (assign (.Name y py) X.env)) (Q:=fun _ s'=>SP X pins D .next s') hcl hs (eS (S.has I.ok)) S.kind S.names
  (thn (hi pins s σ H _ I h) fun v s1 h1=>thn h1 fun itv s2 h2=>?_)) (fun _ s' hq=>wpAny_pure (wpAny_pure hq)) fun _ _ e=>e)
 obtain ⟨it,fp,tn,J,H2,e,I2,T,st2,f2,hQ⟩:=h2
 subst e
 refine vD (Q:=fun x H1=>gm i x σ H1 D.nx) (RR:=fun acc C=>compPost (model X.prog X.w) X.A X.xe (some (assign (.Name y py) X.env)) (fun _ s'=>SP X pins D .next s') acc C) S hc hk (by rw [hcl];rfl) ht hA hg hif hm I2 T st2 f2 hQ ?_
 intro l C H' s' hC hCL hC0 hCc hCp hm hI0 hI q
 obtain ⟨m,hm⟩:=hm
 show wpAny _ X.A (assign (.Name y py) X.env (.ref l)) _ _ s'
 refine wpAny_assign_Name (fA (v:=.ref l) hI0 hN hi' (.inl hy) rfl (fun s5 I5 hch=>?_) (.inr hy))
 obtain ⟨a,hsa,ha⟩:=hch
 have hCa:C≠a:=by
  rcases ha with z | z
  ·rw [z];exact hCL
  ·exact (hCc _ _ z).symm
 refine ⟨m,hm.sameBut hsa hCa,fun h'' hs''=>?_⟩
 have I6:=I5.turned (t':=s5.toks) (h':=h'') (it:=C) (fun b o hb e=>hs''.extBut b o hb e) hC hCL (.inr hC0) hCc hCp
 exact ⟨_,H',I6,q⟩
end
end L2
namespace Sm
open PySem L2 PySem.Spec PyProof.Rows
structure Ac (α:Type) where
 at_:PySem.W.Frag→Ad→Hp→Addr→α→Prop
 mono:∀{K:PySem.W.Frag} {ρ ρ':Ad} {H H':Hp} {l:Addr} {a:α},at_ K ρ H l a→Ch ρ H ρ' H'→H' l=H l→at_ K ρ' H' l a
abbrev MK (α:Type):=DS→MH→α→Option (DS×MH×α)
def fq {α:Type} (ws:W) (g:GM) (c:TM) (m:MK α):List D→MK α
 | [],δ,h,a=>if chk ws h then some (δ,h,a) else none
 | x::r,δ,h,a=>if chk ws h then (g x δ h).bind fun q=>(c q.1 q.2).bind fun t=>if t.1 then (m q.1 t.2 a).bind fun z=>fq ws g c m r z.1 z.2.1 z.2.2 else fq ws g c m r q.1 t.2 a else none
structure StpL (l:Addr) (ρ:Ad) (H:Hp) (ρ':Ad) (H':Hp):Prop where
 ch:Ch ρ H ρ' H'
 rs:ρ'.rs=ρ.rs
 res:∀b∈ρ.rs,b≠l→H' b=H b
theorem StpL.refl {l:Addr} {ρ:Ad} {H:Hp}:StpL l ρ H ρ H:=⟨.refl _ _,rfl,fun _ _ _=>rfl⟩
theorem StpL.trans {l:Addr} {ρ ρ1 ρ2:Ad} {H H1 H2:Hp} (a:StpL l ρ H ρ1 H1) (b:StpL l ρ1 H1 ρ2 H2):StpL l ρ H ρ2 H2:=⟨a.ch.trans b.ch,b.rs.trans a.rs,fun x hx n=>(b.res x (a.rs ▸ hx) n).trans (a.res x hx n)⟩
theorem Stp.toL {l:Addr} {ρ ρ1:Ad} {H H1:Hp} (a:Stp ρ H ρ1 H1):StpL l ρ H ρ1 H1:=⟨a.toCh,a.rs,fun b hb _=>a.res b hb⟩
inductive TMKi {α:Type} (K:PySem.W.Frag) (A:Ac α) (l:Addr) (m:MK α) (τ:L2.St) (H:Hp) (N:L2.St→Hp→Prop):Prop where
 | mk (ρ δ h a δ' h' a'):RepS K ρ H τ δ→Sim K ρ h H→l∈ρ.rs→A.at_ K ρ H l a→(m δ h a=some (δ',h',a'))→(∀ρ' H' τ',StpL l ρ H ρ' H'→Sim K ρ' h' H'→RepS K ρ' H' τ' δ'→A.at_ K ρ' H' l a'→N τ' H')→TMKi K A l m τ H N
def tMK {α:Type} (K:PySem.W.Frag) (A:Ac α) (l:Addr) (m:MK α):TK:=fun τ H N=>TMKi K A l m τ H N
section
variable {α:Type} {K:PySem.W.Frag} {A:Ac α} {l:Addr} {g:GM} {mt:TM} {m:MK α}
theorem qy {J:It} {ρ ρ1:Ad} {H H1:Hp} {ws:W} {xs:List D} {δ δ':DS} {h h':MH} {a a':α} {τ:L2.St} {N:L2.St→Hp→Prop} (It:ItS K J ρ H ws xs) (T1:Ch ρ H ρ1 H1) (R:RepS K ρ1 H1 τ δ) (S:Sim K ρ1 h H1) (hl:l∈ρ1.rs) (hA:A.at_ K ρ1 H1 l a)
  (e:fq ws g mt m xs δ h a=some (δ',h',a')) (k:∀ρ2 H2 τ2,StpL l ρ1 H1 ρ2 H2→Sim K ρ2 h' H2→RepS K ρ2 H2 τ2 δ'→A.at_ K ρ2 H2 l a'→N τ2 H2):jZ J (tMG K g) (tMT K mt) (tMK K A l m) N τ H1:=by
 refine ⟨fun i n τ2 H2=>∃(ρ2:Ad) (δ2:DS) (h2:MH) (a2:α),n=xs.length-i∧i≤xs.length∧StpL l ρ1 H1 ρ2 H2∧RepS K ρ2 H2 τ2 δ2∧Sim K ρ2 h2 H2∧A.at_ K ρ2 H2 l a2∧fq ws g mt m (xs.drop i) δ2 h2 a2=some (δ',h',a'),
  ⟨_,ρ1,δ,h,a,rfl,Nat.zero_le _,.refl,R,S,hA,e⟩,?_⟩
 rintro i n τ2 H2 ⟨ρ2,δ2,h2,a2,rfl,hi,T2,R2,S2,hA2,e3⟩
 have hl2:l∈ρ2.rs:=by rw [T2.rs];exact hl
 cases q:xs.drop i with
 | nil=>
  rw [q] at e3
  unfold fq at e3
  by_cases hc:chk ws h2=true
  ·rw [if_pos hc] at e3
   cases e3
   have hle:xs.length≤i:=by have:=congrArg List.length q;rw [List.length_drop,List.length_nil] at this;omega
   exact .inl ⟨(It.run _ H2 _ (T1.trans T2.ch) S2 hc i).1 hle,k _ _ _ T2 S2 R2 hA2⟩
  ·rw [if_neg hc] at e3;cases e3
 | cons x r=>
  rw [q] at e3
  unfold fq at e3
  by_cases hc:chk ws h2=true
  ·rw [if_pos hc] at e3
   have hx:xs[i]?=some x:=by
    have:=congrArg (fun l=>l[0]?) q
    simpa using this
   have hlt:i < xs.length:=(List.getElem?_eq_some_iff.mp hx).1
   have hr:xs.drop (i+1)=r:=by
    have:=congrArg List.tail q
    simpa using this
   obtain ⟨⟨δ3,h3⟩,e4,e5⟩:=bnd e3
   obtain ⟨⟨t,h4⟩,e6,e7⟩:=bnd e5
   dsimp only at e4 e5 e6 e7
   obtain ⟨hgo,hy⟩:=(It.run _ H2 h2 (T1.trans T2.ch) S2 hc i).2 x hx
   refine .inr ⟨hgo,fun τ5 H5=>∃(ρ5:Ad) (δ5:DS) (h5:MH) (a5:α),StpL l ρ1 H1 ρ5 H5∧RepS K ρ5 H5 τ5 δ5∧Sim K ρ5 h5 H5∧A.at_ K ρ5 H5 l a5∧fq ws g mt m r δ5 h5 a5=some (δ',h',a'),?_,?_⟩
   ·rintro τ5 H5 ⟨ρ5,δ5,h5,a5,T5,R5,S5,A5,e5⟩
    exact ⟨xs.length-(i+1),by omega,ρ5,δ5,h5,a5,rfl,hlt,T5,R5,S5,A5,by rw [hr];exact e5⟩
   ·intro v H3 y3
    obtain ⟨T3,S3,r3⟩:=hy v H3 y3
    refine ⟨ρ2,δ2,h2,x,δ3,h3,R2.mono T3.toCh,S3,r3,e4,fun ρ4 H4 τ4 T4 S4 R4=>?_⟩
    refine ⟨ρ4,δ3,h3,t,h4,R4,S4,e6,fun ρ5 H5 T5 S5=>?_⟩
    have T25:Stp ρ2 H2 ρ5 H5:=T3.trans (T4.trans T5)
    have A5:A.at_ K ρ5 H5 l a2:=A.mono hA2 T25.toCh (T25.res l hl2)
    cases t with
    | false=>
     rw [if_neg (by simp)] at e7
     exact vq ⟨ρ5,δ3,h4,a2,T2.trans T25.toL,R4.mono T5.toCh,S5,A5,e7⟩
    | true=>
     rw [if_pos rfl] at e7
     obtain ⟨⟨δ6,h6,a6⟩,e8,e9⟩:=bnd e7
     refine vp ⟨ρ5,δ3,h4,a2,δ6,h6,a6,R4.mono T5.toCh,S5,by rw [T25.rs];exact hl2,A5,e8,fun ρ7 H7 τ7 T7 S7 R7 A7=>?_⟩
     exact ⟨ρ7,δ6,h6,a6,(T2.trans T25.toL).trans T7,R7,S7,A7,e9⟩
  ·rw [if_neg hc] at e3;cases e3
theorem oK {caps:List (Option Nat)} {mi:IM} {o:Addr→HO} {a0:α} (h0:∀ρ H l,A.at_ K ρ (upd H l (o l)) l a0) {σ:L2.St} {H:Hp} {Q:VK}
  (hh:∃ρ δ h xs ws h1 δ' h' a',RepS K ρ H σ δ∧Sim K ρ h H∧mi δ h=some (xs,ws,h1)∧fq ws g mt m xs (gr caps δ) h1 a0=some (δ',h',a')∧∀l ρ' H',Stp ρ H ρ' H'→Sim K ρ' h' H'→¬ρ'.has l→A.at_ K ρ' H' l a'→Q (.ref l) H'):
  ji caps (tMI K mi) o (tMG K g) (tMT K mt) (fun l=>tMK K A l m) σ H Q:=by
 obtain ⟨ρ,δ,h,xs,ws,h1,δ',h',a',R,S,e1,e2,k⟩:=hh
 refine ⟨ρ,δ,h,xs,ws,h1,R,S,e1,fun J ρ1 H1 T1 S1 It l hl=>?_⟩
 have nl:¬ρ1.has l:=S1.fresh hl
 have Tl:Ch ρ1 H1 (ρ1.keep l) (upd H1 l (o l)):=Ch.keep hl
 refine qy It Tl (((R.mono T1.toCh).fW caps).mono Tl) (S1.keep hl) (List.mem_cons_self) (h0 _ _ _) e2 fun ρ2 H2 τ2 T2 S2 R2 A2=>?_
 obtain ⟨ob2,rs2⟩:=ρ2
 have ers:rs2=l::ρ1.rs:=T2.rs
 subst ers
 have hsub:∀b∈ρ1.rs,b∈l::ρ1.rs:=fun b hb=>List.mem_cons_of_mem _ hb
 have C2:Ch ⟨ob2,l::ρ1.rs⟩ H2 ⟨ob2,ρ1.rs⟩ H2:=Ch.free hsub
 have hne:∀b∈ρ1.rs,b≠l:=fun b hb z=>nl (.inr (z ▸ hb))
 have T2':Stp ρ1 H1 ⟨ob2,ρ1.rs⟩ H2:=⟨(Tl.trans T2.ch).trans C2,rfl,fun b hb=>(T2.res b (hsub b hb) (hne b hb)).trans (aC (hne b hb))⟩
 refine k l _ H2 (T1.trans T2') (S2.free hsub) (fun z=>?_) (A.mono A2 C2 rfl)
 rcases z with z | z
 ·exact (S2.rsv l List.mem_cons_self).2 z
 ·exact nl (.inr z)
end
def SMK {α:Type} (X:Cx) (act:Addr→Env→Sem Unit) (A:Ac α) (m:MK α):Prop:=∀l,L2.PM X (act l X.env) (tMK X.K A l m)
theorem _root_.L2.PM.imp {X:Cx} {a:Sem Unit} {t t':TK} (h:L2.PM X a t) (i:∀σ H Q,t' σ H Q→t σ H Q):L2.PM X a t':=fun pins s σ H Q I q=>h pins s σ H Q I (i σ H Q q)
section
variable {α:Type} {X:Cx} {A:Ac α} {g:GM} {mt:TM} {m:MK α} {mi:IM} {e tg iter:Expr} {ifs:List Expr} {d:Nat} {p:Pos} {act:Addr→Env→Sem Unit}
end
end Sm
namespace L2
open PySem PySem.Spec PyProof.Rows
section
variable {P:Program} {w:World} {A:Around} {E:Value→Shared→Prop} {s:Shared} {a:Addr} {ks:List Str} {x:Str} {u:Tok}
end
end L2
namespace L2
open PySem PySem.Spec PyProof.Rows
section
variable {P:Program} {w:World} {A:Around} {E:Value→Shared→Prop} {s:Shared} {a:Addr} {ks:List Str}
end
end L2
namespace L2
open PySem PySem.Spec PyProof.Rows
section
variable {P:Program} {w:World} {A:Around} {E:Value→Shared→Prop} {s:Shared} {a:Addr} {ks:List Str}
end
end L2
namespace L2
open PySem PySem.Spec PyProof.Rows
def leT (a b:Str):Bool:=!ltCps b.cps.toList a.cps.toList
theorem dh {a b:Str}:leT a b=true↔strKind.kle a.cps.toList b.cps.toList:=by
 unfold leT KeyOrd.kle
 rw [ltCps_eq]
 simp
theorem fQ (a b c:Str) (h1:leT a b=true) (h2:leT b c=true):leT a c=true:=dh.mpr (KeyOrd.kle_trans (dh.mp h1) (dh.mp h2))
theorem iW (a b:Str):(leT a b||leT b a)=true:=by
 rw [Bool.or_eq_true]
 by_cases z:strKind.klt b.cps.toList a.cps.toList
 ·exact .inr (dh.mpr (KeyOrd.kle_of_klt z))
 ·exact .inl (dh.mpr (KeyOrd.kle_of_not_klt z))
theorem kE (a b:Str) (h1:leT a b=true) (h2:leT b a=true):a=b:=by
 have:=KeyOrd.kle_antisymm (dh.mp h1) (dh.mp h2)
 cases a;cases b
 congr 1
 exact Array.toList_inj.mp this
def cy (ks:List Str):List Str:=ks.mergeSort leT
theorem bX (ks:List Str):(cy ks).Perm ks:=List.mergeSort_perm _ _
theorem eV (ks:List Str):(cy ks).Pairwise fun a b=>leT a b=true:=List.pairwise_mergeSort fQ iW ks
theorem iV:∀(l:List Str) (p:Str),risingS p l=true→(p::l).Pairwise fun a b=>leT a b=true
 | [],p,_=>by simp
 | x::r,p,h=>by
  have h':(!ltCps x.cps.toList p.cps.toList&&risingS x r)=true:=h
  rw [Bool.and_eq_true] at h'
  have ih:=iV r x h'.2
  refine List.pairwise_cons.mpr ⟨fun y hy=>?_,ih⟩
  rcases List.mem_cons.mp hy with rfl | hy
  ·exact h'.1
  ·exact fQ _ _ _ h'.1 ((List.pairwise_cons.mp ih).1 y hy)
theorem j5 {ss ks:List Str} (hp:ss.Perm ks) (h:sortedS ss=true):ss=cy ks:=by
 refine List.Perm.eq_of_pairwise (fun a b _ _=>kE a b) ?_ (eV ks) (hp.trans (bX ks).symm)
 match ss,h with
 | [],_=>exact .nil
 | x::r,h=>exact iV r x h
section
variable {P:Program} {w:World} {A:Around} {E:Value→Shared→Prop} {s:Shared} {a:Addr} {ks:List Str}
theorem nq {vs:List Value} {ss:List Str} {Q:Value→Shared→Prop} (hV:StrsAre vs ss) (h64:vs.length < 64)
  (h:∀h' n (out:Array Value),(∀b o,s.heap.get? b=some o→h'.get? b=some o)→h'.get? s.heap.objs.size=some (seqObj "list" out n)→StrsAre out.toList (cy ss)→Q (.ref s.heap.objs.size) {s with heap:=h'}):
  wpAny (model P w) A (do let l←newList vs;let _←holding [l] (call (.builtin "list.sort") [l] []);ret l) (fun fin s'=>∃v,fin=Fin.done (Flow.ret v)∧Q v s') E s:=by
 refine wpAny_bind (wpAny_newList ?_ (by rw [sizeLine_eq];omega))
 have hL:(s.heap.push (seqObj "list" vs.toArray 0)).get? s.heap.objs.size=some (seqObj "list" vs.toArray 0):=Heap.get?_push_size _ rfl
 show wpAny _ _ _ _ _ {s with heap:=s.heap.push (seqObj "list" vs.toArray 0)}
 refine wpAny_bind (wpAny_holding (wpAny_call_entry slot_list_sort ⟨_,hL,rfl⟩ entry_list_sort (list_sort_treeK (s:={s with heap:=s.heap.push (seqObj "list" vs.toArray 0)}) strKind_oneLt hL hV.keysOf (fun v₁ v₂ rest e=>keyKind_strs (by rw [←e];exact hV)) h64 fun st' hp hs=>⟨_,rfl,?_⟩) (args_list_sort _)))
 obtain ⟨ss',g1,g2,g3⟩:=sorted_out_str hV hp hs
 have:=j5 g2 g3
 subst this
 have hlt:s.heap.objs.size < (s.heap.push (seqObj "list" vs.toArray 0)).objs.size:=by rw [Heap.size_push];exact Nat.lt_succ_self _
 obtain ⟨n,hn⟩:=sortedHeap_at (vs:=vs) (out:=(arrOf st').map (·.2)) hL
 refine wpAny_pure ⟨_,rfl,h _ n _ (fun b o e=>?_) hn g1⟩
 have hb:=Heap.lt_size e
 rw [sortedHeap_old (Nat.ne_of_lt hb) (Nat.lt_trans hb hlt)]
 exact Heap.get?_push_of_some _ e
end
end L2
namespace L2
open PySem PySem.Spec PyProof.Rows
theorem nC {X:Cx}:vM X newDict (fun _=>.dK []):=fun pins s σ H Q E I h=>by
 unfold newDict
 exact wpAny_newObj_type (h _ s.toks (I.laid (a:=s.heap.objs.size) (o:=.dK []) (t':=s.toks) (fun _ _ q=>Heap.get?_push_of_some _ q) (Nat.le_refl _) (kM s.heap I.big)))
section
variable {B:Cx} {elt k v:Expr} {te tk tv:TE} {l:Addr}
def sI (tk tv:TE) (l:Addr):TK:=fun τ H N=>tk τ H fun x H1=>tv τ H1 fun y H2=>∃kvs kk,H2 l=some (.dK kvs)∧x=kV kk∧kvs.length < sizeLine∧N τ (upd H2 l (.dK (putK kvs kk y)))
theorem qM (hk:PE B k tk) (hv:PE B v tv):PM B (fj k v l B.env) (sI tk tv l):=fun pins s τ H N I h=>by
 unfold fj
 refine wpAny_bind (thn (hk pins s τ H _ I h) fun ku s1 h1=>?_)
 obtain ⟨x,H1,I1,r1,q1⟩:=h1
 refine wpAny_bind (wpAny_holding (thn (hv pins s1 τ H1 _ I1 q1) fun vu s2 h2=>?_))
 obtain ⟨y,H2,I2,r2,kvs,kk,e,rfl,hz,n2⟩:=h2
 refine wpAny_bind (wpAny_standAt (wpAny_holding ?_))
 obtain ⟨z,hd,vs,rel,dd⟩:=mP I2.hok e
 have hzz:vs.length≤sizeLine:=by rw [←rel.length];exact z
 have hl:(putK kvs kk y).length≤sizeLine:=by have:=dU kvs kk y;omega
 refine wpAny_dictSet_pairs (hsz:=hzz) (gh r1) dd fun h' dd' hs=>?_
 have he:∃q,h'.get? l=some q:=let ⟨q,_,_,hq,_⟩:=dd';⟨q,hq⟩
 exact ⟨τ,_,jN I2 (by rw [e];exact True.intro) hs he (pR hl hd (rel.put kk r2) dd'),n2⟩
end
end L2
namespace Sm
open PySem L2 PySem.Spec PyProof.Rows
def acD:Ac (List (Key×D)) where
 at_:=fun K ρ H l a=>∃us,H l=some (.dK us)∧RepK K ρ H us a
 mono:=fun ⟨vs,e,r⟩ T q=>⟨vs,q.trans e,r.mono T⟩
def mD (k v:EM):MK (List (Key×D)):=fun δ h a=>(k δ h).bind fun p=>(v δ p.2).bind fun q=>(nK p.1).bind fun kk=>if a.length < sizeLine then some (δ,q.2,putD a kk q.1) else none
section
variable {X:Cx} {elt k v:Expr} {me mk mv:EM}
theorem StpL.put {K:PySem.W.Frag} {ρ ρ1:Ad} {H H1:Hp} {l:Addr} {o:HO} (T:Stp ρ H ρ1 H1) (hl:l∈ρ.rs):StpL l ρ H ρ1 (upd H1 l o):=by
 have hl1:l∈ρ1.rs:=by rw [T.rs];exact hl
 exact ⟨T.toCh.trans (Ch.put hl1),T.rs,fun b hb n=>(aC n).trans (T.res b hb)⟩
theorem RepK.len {K:PySem.W.Frag} {ρ:Ad} {H:Hp}:∀{us:List (Key×V)} {ks:List (Key×D)},RepK K ρ H us ks→us.length=ks.length
 | _,_,.nil=>rfl
 | _,_,.cons _ r=>by rw [List.length_cons,List.length_cons,r.len]
theorem qm (hk:SE X k mk) (hv:SE X v mv):SMK X (fun l env=>fj k v l env) acD (mD mk mv):=fun l=>(qM hk hv).imp fun τ H N ⟨ρ,δ,h,a,δ',h',a',R,S,hl,⟨vs,hv,rl⟩,e,kk⟩=>by
 obtain ⟨⟨x,h1⟩,e1,e2⟩:=bnd e
 obtain ⟨⟨y,h2⟩,e3,e4⟩:=bnd e2
 obtain ⟨c,e5,e6⟩:=bnd e4
 dsimp only at e3 e5 e6
 by_cases hz:a.length < sizeLine
 ·rw [if_pos hz] at e6
  cases e6
  refine ⟨ρ,δ,h,x,h1,R,S,e1,fun u H1 ⟨ρ1,T1,S1,r1⟩=>⟨ρ1,δ,h1,y,_,R.mono T1.toCh,S1,e3,fun u2 H2 ⟨ρ2,T2,S2,r2⟩=>⟨vs,c,((T1.trans T2).res l hl).trans hv,fc r1 e5,by rw [rl.len];exact hz,?_⟩⟩⟩
  have T:=T1.trans T2
  have hl2:l∈ρ2.rs:=by rw [T.rs];exact hl
  have Cp:Ch ρ2 H2 ρ2 (upd H2 l (.dK (putK vs c u2))):=Ch.put hl2
  exact kk ρ2 _ τ (StpL.put (K:=X.K) T hl) (S2.put hl2) ((R.mono T.toCh).mono Cp) ⟨_,aT,((rl.mono T.toCh).put r2).mono Cp⟩
 ·rw [if_neg hz] at e6;cases e6
end
end Sm
namespace L2
open PySem PySem.Spec PyProof.Rows
theorem fw:∀{us:List Value} {ss:List Str},StrsAre us ss→Vals (ss.map V.str) us
 | _,_,.nil=>.nil
 | _,_,.cons x t r=>.cons ⟨t,rfl⟩ (fw r)
end L2
namespace Sm
open PySem L2 PySem.Spec PyProof.Rows
def eAc {α:Type} (caps:List (Option Nat)) (i:IM) (g:GM) (c:TM) (m:MK α) (a0:α) (out:α→D):EM:=fun δ h=>(i δ h).bind fun p=>(fq p.2.1 g c m p.1 (gr caps δ) p.2.2 a0).map fun q=>(out q.2.2,q.2.1)
section
variable {α:Type} {K:PySem.W.Frag} {A:Ac α} {g:GM} {mt:TM} {m:MK α}
theorem tw {caps:List (Option Nat)} {mi:IM} {o:Addr→HO} {a0:α} {out:α→D} (h0:∀ρ H l,A.at_ K ρ (upd H l (o l)) l a0) (hout:∀ρ H l a,A.at_ K ρ H l a→¬ρ.has l→Rep K ρ H (.ref l) (out a)) {σ:L2.St} {H:Hp} {Q:VK}
  (hh:tM K (eAc caps mi g mt m a0 out) σ H Q):ji caps (tMI K mi) o (tMG K g) (tMT K mt) (fun l=>tMK K A l m) σ H Q:=by
 obtain ⟨ρ,δ,h,d,h',R,S,ee,k⟩:=hh
 obtain ⟨⟨xs,ws,h1⟩,e1,e2⟩:=bnd ee
 obtain ⟨⟨δ',h2,a'⟩,e3,e4⟩:=mpd e2
 cases e4
 exact oK h0 ⟨ρ,δ,h,xs,ws,h1,δ',_,a',R,S,e1,e3,fun l ρ' H' T S' n at'=>k _ _ ⟨ρ',T,S',hout _ _ _ _ at' n⟩⟩
theorem wo {caps:List (Option Nat)} {mi:IM} {m:MK (List (Key×D))} {σ:L2.St} {H:Hp} {Q:VK} (hh:tM K (eAc caps mi g mt m [] .dv) σ H Q):ji caps (tMI K mi) (fun _=>.dK []) (tMG K g) (tMT K mt) (fun l=>tMK K acD l m) σ H Q:=
 tw (A:=acD) (o:=fun _=>.dK []) (a0:=[]) (out:=.dv) (fun ρ H l=>show ∃us,_ from ⟨[],aT,.nil⟩) (fun ρ H l a h n=>by obtain ⟨us,e,r⟩:=h;exact .dv e n r) hh
end
theorem qx {X:Cx} {i:Nat} {m:EM} {t:TE} {E:Ends} {σ:L2.St} {H:Hp} (hh:tMS X.K (bw i m) E σ H) (imp:∀σ H Q,tM X.K m σ H Q→t σ H Q):ni t (gm i) E σ H:=imp _ _ _ (lH hh)
section
variable {X:Cx} {k v tg iter elt tg2 iter2:Expr} {pos:Pos} {mk mv me:EM} {mt mt2:TM} {g g2:GM} {N':List Str} {caps:List (Option Nat)} {scope:Scope} {ifs ifs2:List Expr} {mi mi2:IM}
theorem oA {i:Nat} {y:Str} {py spos:Pos} (hN:X.N.Nodup) (hi':X.N[i]?=some y) (hy:X.env.scope.names.lookup y=some .local) (C:CompScope X N' caps scope) (hc:X.calm=true) (hi:SI X tg iter mi)
  (hg:∀C s₃ H₃ fp pl,SG (blk X N' scope C s₃ H₃ fp pl) tg g) (hif:∀C s₃ H₃ fp pl,SIf (blk X N' scope C s₃ H₃ fp pl) ifs mt)
  (hk:∀C s₃ H₃ fp pl,SE (blk X N' scope C s₃ H₃ fp pl) k mk) (hv:∀C s₃ H₃ fp pl,SE (blk X N' scope C s₃ H₃ fp pl) v mv)
  (hsw:swapsWith (.DictComp k v [⟨tg,iter,ifs,0⟩] scope pos) (some (.Name y py)) spos.line X.env=pure true:=by kernel_rfl) (hs:∀x,foldedSetIterable iter X.env x=pure x:=by intro _;kernel_rfl):
  SS X (.Assign [.Name y py] (.DictComp k v [⟨tg,iter,ifs,0⟩] scope pos) spos) (bw i (eAc caps mi g mt (mD mk mv) [] .dv)):=
 (oW (g:=tMG X.K g) (tc:=tMT X.K mt) (tm:=fun l=>tMK X.K acD l (mD mk mv)) hN hi' hy C hc (lI ..) rfl (fun it l env=>lh ..) nC hi hg hif (fun C s₃ H₃ fp pl l=>qm (hk C s₃ H₃ fp pl) (hv C s₃ H₃ fp pl) l) (fun _=>rfl) hsw hs).imp fun E σ H hh=>
  qx hh fun _ _ _=>wo
theorem fK {K:PySem.W.Frag} {ρ:Ad} {H:Hp}:∀(ss:List Str),(∀k∈ss,PyData.strOk k=true)→RepL K ρ H (ss.map V.str) (ss.map D.str)
 | [],_=>.nil
 | x::r,h=>.cons (.str (h x List.mem_cons_self)) (fK r fun k hk=>h k (List.mem_cons_of_mem _ hk))
end
end Sm
namespace L2
open PySem PySem.Spec PyProof.Rows
section
variable {X:Cx} {e st:Expr} {te ts:TE} {pos p2:Pos}
end
end L2
namespace Sm
open PySem L2 PySem.Spec PyProof.Rows
section
variable {X:Cx} {e st a b c:Expr} {ma ms mb mc:EM} {pos p2:Pos}
end
end Sm
namespace L2
open PySem PySem.Spec PyProof.Rows
section
variable {prog:Program} {w:World} {A:Around} {E:Value→Shared→Prop} {s:Shared}
open HT in
theorem nc {t sl:Addr} {items:Array Value} {vl vu:Value} {lo hi:Option Int} {Q:Value→Shared→Prop} (ht:IsTup s.heap t items) (hs:s.heap.IsSliceOf sl vl vu .none) (pl:IsPart vl lo) (pu:IsPart vu hi)
  (hw:sIx items.size 0 lo=0∧sIx items.size items.size hi=items.size) (h:Q (.ref t) s):wpAny (model prog w) A (getItem (.ref t) (.ref sl)) Q E s:=by
 obtain ⟨os,hos,hcs,hds⟩:=id hs
 have hTs:s.TypeIs (.ref sl) "slice":=⟨os,hos,hcs⟩
 unfold getItem
 try with_reducible refine wpAny_holding ?_
 first | refine wpAny_bind (wpAny_pure ?_) | skip
 refine wpAny_bind (wpAny_sequenceKey ht.typeIs (by decide) ?_)
 refine wpAny_bind (wpAny_callSpecial?_slot (name:=Str.ofString "__getitem__") ht.typeIs PyProof.Rows.slot_tuple_getitem (wpAny_call_entry PyProof.Rows.slot_tuple_getitem ht.typeIs entry_tuple_getitem ?_ (args_tuple_getitem _ _)))
 show wpAny _ _ (Builtin.Tuple.tupleItemsOf (.ref t) >>=_) _ _ s
 refine wpAny_bind (tupleItemsOf_ ht (wpAny_bind (wpAny_typeOf hTs ?_)))
 rw [if_pos (by decide)]
 refine wpAny_bind (cS hs pl pu ?_)
 show wpAny _ _ (if (((sIx items.size 0 lo:Nat):Int)==0&&(1:Int)==1&&(sIx items.size items.size hi-sIx items.size 0 lo)==items.size)=true then _ else _) _ _ s
 rw [if_pos (by rw [hw.1,hw.2];simp)]
 unfold Builtin.Tuple.tupleIsExact
 simp only [bind_assoc,pure_bind]
 refine wpAny_bind (wpAny_typeOf ht.typeIs ?_)
 rw [if_pos (by decide)]
 first
  | exact wpAny_bind (wpAny_rule (wpAny_pure ⟨_,rfl,wpAny_pure h⟩))
  | exact wpAny_bind (wpAny_rule (wpAny_bind (wpAny_pure (wpAny_pure ⟨_,rfl,wpAny_pure h⟩))))
end
section
variable {X:Cx}
def x8 (K:PySem.W.Frag):V→Option Int→Option Int→Hp→VK→Prop:=fun x lo hi H Q=>∃a xs,x=.ref a∧SqT K H a xs∧(HT.sIx xs.length 0 lo=0∧HT.sIx xs.length xs.length hi=xs.length)∧Q (.ref a) H
theorem oC:SlR X (x8 X.K):=by
 intro pins s σ H x v vl vu lo hi sl Q I rx hs pl pu h
 obtain ⟨a,xs,rfl,hx,hw,q⟩:=h
 cases rx
 obtain ⟨its,r,ht,hz⟩:=I.tuple hx
 have hlen:its.toArray.size=xs.length:=by rw [List.size_toArray];exact r.length.symm
 exact ⟨"tuple",_,PyProof.Rows.slot_tuple_getitem.lookup,ht.typeIs,nc ht hs pl pu (by rw [hlen];exact hw) ⟨.ref a,H,I,rfl,q⟩⟩
end
end L2
namespace Sm
open PySem L2 PySem.Spec PyProof.Rows
section
variable {X:Cx}
def rQ (d:D) (lo hi:Option Int) (h:MH):Option (D×MH):=match d with
 | .tup xs=>if HT.sIx xs.length 0 lo=0∧HT.sIx xs.length xs.length hi=xs.length then some (.tup xs,h) else some (.tup (cutD xs lo hi),h)
 | d=>fSl d lo hi h
def rW (a:EM) (l u:PM):EM:=fun δ h=>(a δ h).bind fun p=>(l δ p.2).bind fun q=>(u δ q.2).bind fun r=>rQ p.1 q.1 r.1 r.2
inductive RSLAi (K:PySem.W.Frag) (x:V) (lo hi:Option Int) (H:Hp) (Q:VK):Prop where
 | mk (ρ h d z h'):Sim K ρ h H→Rep K ρ H x d→(rQ d lo hi h=some (z,h'))→(∀v H',cb K ρ H h' z v H'→Q v H')→RSLAi K x lo hi H Q
def yd (K:PySem.W.Frag):V→Option Int→Option Int→Hp→VK→Prop:=fun x lo hi H Q=>RSLAi K x lo hi H Q
theorem sM:SlR X (yd X.K):=by
 intro pins s σ H x v vl vu lo hi sl Q I rx hs pl pu hh
 obtain ⟨ρ,h,d,z,h',S,rd,ee,k⟩:=hh
 cases d with
 | tup xs=>
  unfold rQ at ee
  dsimp only at ee
  by_cases c:HT.sIx xs.length 0 lo=0∧HT.sIx xs.length xs.length hi=xs.length
  ·rw [if_pos c] at ee
   cases ee
   have rd0:=rd
   cases rd with | tup h0 l0=>
   exact oC pins s σ H _ v vl vu lo hi sl Q I rx hs pl pu ⟨_,_,rfl,h0.sq,by rw [l0.length];exact c,k _ _ (.here S rd0)⟩
  ·rw [if_neg c] at ee
   exact sm pins s σ H x v vl vu lo hi sl Q I rx hs pl pu ⟨ρ,h,_,z,h',S,rd,by unfold fSl;dsimp only;rw [if_neg c];exact ee,k⟩
 | _=>exact sm pins s σ H x v vl vu lo hi sl Q I rx hs pl pu ⟨ρ,h,_,z,h',S,rd,ee,k⟩
theorem oH {a:Expr} {lo hi:Option Expr} {pos p2:Pos} {ma:EM} {ml mu:PM} (ha:SE X a ma) (hl:SP' X lo ml) (hu:SP' X hi mu):SE X (.Subscript a (.Slice lo hi none p2) pos) (rW ma ml mu):=
 (oZ sM ha hl hu).imp fun σ H Q ⟨ρ,δ,h,d,h',R,S,e,k⟩=>by
  obtain ⟨⟨x,h1⟩,e1,e2⟩:=bnd e
  obtain ⟨⟨l,h2⟩,e3,e4⟩:=bnd e2
  obtain ⟨⟨u,h3⟩,e5,e6⟩:=bnd e4
  exact ⟨ρ,δ,h,x,h1,R,S,e1,fun v H1 ⟨ρ1,T1,S1,r1⟩=>⟨ρ1,δ,h1,l,h2,R.mono T1.toCh,S1,e3,fun ρ2 H2 T2 S2=>⟨ρ2,δ,h2,u,h3,(R.mono T1.toCh).mono T2.toCh,S2,e5,fun ρ3 H3 T3 S3=>
   ⟨ρ3,h3,x,d,h',S3,r1.mono (T2.trans T3).toCh,e6,fun w H4 p=>k w H4 (p.step (T1.trans (T2.trans T3)))⟩⟩⟩⟩
def fh (d e:D) (h:MH):Option (D×MH):=match d,e with
 | .str x,.int n=>if x.length≤1000∧0≤n∧n≤1000∧PyData.strOk (Txt.mul x n)=true then some (.str (Txt.mul x n),h) else none
 | d,e=>vx d e h
theorem d3:OpS X (binaryOp .Mult) fh:=by
 intro pins s σ H x y v u Q I rx ry hh
 obtain ⟨ρ,h,d,e,z,h',S,rd,re,ee,k⟩:=hh
 unfold fh at ee
 split at ee
 ·rename_i x0 n
  by_cases c:x0.length≤1000∧0≤n∧n≤1000∧PyData.strOk (Txt.mul x0 n)=true
  ·rw [if_pos c] at ee
   cases ee
   cases rd
   cases re
   obtain ⟨t1,rfl⟩:=rx
   obtain ⟨t2,rfl⟩:=ry
   obtain ⟨c1,c2,c3,c4⟩:=c
   refine SB.mul ⟨?_,fun _ _=>?_,fun _ _=>?_⟩ fun t' k'=>⟨.str _,H,I.kept (t':=k') (h':=s.heap) fun _ _ e=>e,⟨t',rfl⟩,k _ _ (.here S (.str c4))⟩
   ·rw [decide_eq_false (by omega),decide_eq_false (by omega)];rfl
   ·have h1:(9007199254740991:Int)≤(2^63-1) / n:=by
     refine Int.le_ediv_of_mul_le (by omega) ?_
     have:9007199254740991*n≤9007199254740991*1000:=Int.mul_le_mul_of_nonneg_left c3 (by decide)
     omega
    omega
   ·have h1:x0.length*n.toNat≤1000*1000:=Nat.mul_le_mul c1 (by omega)
    refine decide_eq_false ?_
    have:=sizeLine_eq
    omega
  ·rw [if_neg c] at ee;cases ee
 ·exact uV pins s σ H x y v u Q I rx ry ⟨ρ,h,_,_,z,h',S,rd,re,ee,k⟩
def eP (f f':D→D→MH→Option (D×MH)) (ma mb mc:EM):EM:=fun δ h=>(ma δ h).bind fun p=>(mb δ p.2).bind fun q=>(f p.1 q.1 q.2).bind fun r=>match r.1 with
 | .bl true=>(mc δ r.2).bind fun u=>f' q.1 u.1 u.2
 | .bl false=>some (.bl false,r.2)
 | _=>none
theorem kl {f f':D→D→MH→Option (D×MH)} {ma mb mc:EM} {σ:L2.St} {H:Hp} {Q:VK} (hh:tM X.K (eP f f' ma mb mc) σ H Q):lr (rS X.K f) (rS X.K f') (tM X.K ma) (tM X.K mb) (tM X.K mc) σ H Q:=by
 obtain ⟨ρ,δ,h,d,h',R,S,ee,k⟩:=hh
 obtain ⟨⟨x,h1⟩,e1,e2⟩:=bnd ee
 obtain ⟨⟨y,h2⟩,e3,e4⟩:=bnd e2
 obtain ⟨⟨z,h3⟩,e5,e6⟩:=bnd e4
 dsimp only at e3 e5 e6
 refine ⟨ρ,δ,h,x,h1,R,S,e1,fun v H1 ⟨ρ1,T1,S1,r1⟩=>⟨ρ1,δ,h1,y,h2,R.mono T1.toCh,S1,e3,fun u H2 ⟨ρ2,T2,S2,r2⟩=>⟨ρ2,h2,x,y,z,h3,S2,r1.mono T2.toCh,r2,e5,fun w H3 ⟨ρ3,T3,S3,r3⟩=>?_⟩⟩⟩
 cases z with
 | bl b=>
  cases r3
  refine ⟨b,rfl,?_⟩
  cases b with
  | false=>
   cases e6
   exact vq (k _ _ (cb.step (T1.trans (T2.trans T3)) (.here S3 (.bl false))))
  | true=>
   obtain ⟨⟨u',h4⟩,e7,e8⟩:=bnd e6
   have T:=T1.trans (T2.trans T3)
   exact vp ⟨ρ3,δ,h3,u',h4,R.mono T.toCh,S3,e7,fun v' H4 ⟨ρ4,T4,S4,r4⟩=>⟨ρ4,h4,y,u',d,h',S4,r2.mono (T3.trans T4).toCh,r4,e8,fun w' H5 P=>k w' H5 (P.step (T.trans T4))⟩⟩
 | _=>cases e6
theorem oI {op op':CmpOp} {a b c:Expr} {pos:Pos} {f f':D→D→MH→Option (D×MH)} {ma mb mc:EM} (ho:OpS X (compareOp op) f) (ho':OpS X (compareOp op') f') (ha:SE X a ma) (hb:SE X b mb) (hc:SE X c mc) (hm:lastMarks [op,op'] [b,c]=false:=by with_unfolding_all rfl):
  SE X (.Compare a [op,op'] [b,c] pos) (eP f f' ma mb mc):=(o3 ho ho' ha hb hc hm).imp fun _ _ _=>kl
theorem gO {op op':CmpOp} {a b c:Expr} {pos:Pos} {f f':D→D→MH→Option (D×MH)} {ma mb mc:EM} (ho:OpS X (compareOp op) f) (ho':OpS X (compareOp op') f') (ha:SE X a ma) (hb:SE X b mb) (hc:SE X c mc) (hm:lastMarks [op,op'] [b,c]=false:=by with_unfolding_all rfl):
  ST X (.Compare a [op,op'] [b,c] pos) (bc (eP f f' ma mb mc)):=(oT ho ho' ha hb hc hm).imp fun σ H Q h=>kl (qA h)
end
end Sm
namespace L2
open PySem PySem.Spec PyProof.Rows
section
variable {prog:Program} {w:World} {A:Around} {E:Value→Shared→Prop} {s:Shared}
open HT in
end
section
variable {X:Cx} {e st:Expr} {te ts:TE} {pos p2:Pos}
end
end L2
namespace Sm
open PySem L2 PySem.Spec PyProof.Rows
section
variable {X:Cx} {e st:Expr} {ma ms:EM} {pos p2:Pos}
end
end Sm
namespace L2
open PySem PySem.Spec PyProof.Rows
section
variable {prog:Program} {w:World} {A:Around} {E:Value→Shared→Prop} {s:Shared}
open HT in
theorem pW {t b:Addr} {vs ws:List Value} {Q:Value→Shared→Prop} (ht:IsTup s.heap t vs.toArray) (hb:IsTup s.heap b ws.toArray) (hv:vs=[]) (h:Q (.ref b) s):wpAny (model prog w) A (binaryOp .Add (.ref t) (.ref b)) Q E s:=by
 obtain ⟨⟨cls,dd,data,sl⟩,ho,hc,n,hd⟩:=id ht
 obtain ⟨⟨cls2,dd2,data2,sl2⟩,ho2,hc2,n2,hd2⟩:=id hb
 simp only at hc hd hc2 hd2
 subst hc hd hc2 hd2
 exact concat_meets ⟨_,ho,rfl⟩ ⟨_,ho2,rfl⟩ noFill_tuple_add seq_tuple_add PySem.F.slot_tuple_add PySem.F.entry_tuple_add (PySem.F.args_tuple_add_2 _ _)
   (tuple_addW0 t b vs.toArray ws.toArray n n2 dd dd2 sl sl2 (by simp [hv])) ⟨ho,ho2,h⟩
end
section
variable {X:Cx}
theorem pv:OpR X (binaryOp .Add) (fun x y H Q=>∃a b ys,x=.ref a∧y=.ref b∧SqT X.K H a []∧SqT X.K H b ys∧Q (.ref b) H):=by
 intro pins s σ H x y v u Q I rx ry h
 obtain ⟨a,b,ys,rfl,rfl,ha,hb,q⟩:=h
 cases rx
 cases ry
 obtain ⟨its,r1,p1,_⟩:=I.tuple ha
 obtain ⟨its2,r2,p2,_⟩:=I.tuple hb
 exact pW p1 p2 (r1.gE.mpr rfl) ⟨.ref b,H,I,rfl,q⟩
end
end L2
namespace Sm
open PySem L2 PySem.Spec PyProof.Rows
section
variable {X:Cx}
def bL (d e:D) (h:MH):Option (D×MH):=match d,e with
 | .tup [],.tup ys=>some (.tup ys,h)
 | d,e=>rV d e h
theorem bj:OpS X (binaryOp .Add) bL:=by
 intro pins s σ H x y v u Q I rx ry hh
 obtain ⟨ρ,h,d,e,z,h',S,rd,re,ee,k⟩:=hh
 unfold bL at ee
 split at ee
 ·cases ee
  have re0:=re
  cases rd with | tup h1 l1=>cases re with | tup h2 l2=>
  cases l1
  exact pv pins s σ H _ _ v u Q I rx ry ⟨_,_,_,rfl,rfl,h1.sq,h2.sq,k _ _ (.here S re0)⟩
 ·exact uW pins s σ H _ _ v u Q I rx ry ⟨ρ,h,_,_,z,h',S,rd,re,ee,k⟩
end
end Sm
namespace Sm
open PySem L2 PySem.Spec PyProof.Rows
section
variable {X:Cx}
end
end Sm
namespace L2
open PySem PySem.Spec PyProof.Rows
section
variable {X:Cx} {a b:Expr} {rest:List Expr} {pos:Pos} {ta tb:TE}
end
end L2
namespace Sm
open PySem L2 PySem.Spec PyProof.Rows
section
variable {X:Cx} {a b:Expr} {pos:Pos} {ma mb:EM}
end
end Sm
namespace L2
open PySem PySem.Spec PyProof.Rows
section
variable {X:Cx} {pins:List (Addr×Obj)} {σ:St} {H:Hp} {s:Shared} {a:Addr} {o:Obj} {kvs:List (Key×V)}
end
end L2
namespace Sm
open PySem L2 PySem.Spec PyProof.Rows
section
variable {X:Cx}
end
end Sm
namespace Sm
open PySem L2 PySem.Spec PyProof.Rows
section
variable {X:Cx} {g:GM} {mt:TM} {ma:EM}
end
end Sm
namespace L2
open PySem PySem.Spec PyProof.Rows
section
variable {X:Cx}
end
end L2
namespace L2
open PySem PySem.Spec PyProof.Rows
section
variable {X:Cx}
theorem fy:∀{ss:List Str} {us:List Value},Vals (ss.map V.str) us→StrsAre us ss
 | [],_,.nil=>.nil
 | x::r,_,.cons q l=>by obtain ⟨t,rfl⟩:=q;exact .cons x t (fy l)
theorem l7:cE X (.builtin "sorted") (fun xs H Q=>∃a ss,xs=[.ref a]∧SqL X.K H a (ss.map V.str)∧ss.length < 64∧∀l,H l=none→Q (.ref l) (upd H l (.lst ((cy ss).map V.str)))):=by
 intro pins s σ H xs us Q I r h
 obtain ⟨a,ss,rfl,ha,h64,q⟩:=h
 obtain ⟨u,rfl,ru⟩:=vals1 r
 cases ru
 obtain ⟨its,rv,p,hz⟩:=I.list ha
 have hS:=fy rv
 have hlen:its.length=ss.length:=by have:=rv.length;rw [List.length_map] at this;exact this.symm
 refine sorted_strs p.isList hS (by omega) fun out ss' h1 h2 h3=>?_
 have:=j5 h2 h3
 subst this
 have hl:s.heap.objs.size≤s.heap.objs.size+1:=Nat.le_succ _
 obtain ⟨e,ho⟩:=sortedAll_at s.heap its out
 have hz':((cy ss).map V.str).length≤sizeLine:=by rw [List.length_map,(bX ss).length_eq,sizeLine_eq];omega
 refine ⟨.ref (s.heap.objs.size+1),_,I.laid (t':=s.toks) (o:=.lst ((cy ss).map V.str)) (fun b o q=>sortedAll_old q) hl ⟨hz',out.toList,e,fw h1,?_⟩,rfl,q _ (I.hok.fresh hl)⟩
 rw [ho]
end
end L2
namespace Sm
open PySem L2 PySem.Spec PyProof.Rows
section
variable {X:Cx}
def fZ:List D→Option (List Str)
 | []=>some []
 | .str i::r=>(fZ r).map fun is=>i::is
 | _=>none
theorem gL:∀{xs:List D} {ns:List Str},fZ xs=some ns→xs=ns.map D.str
 | [],_,e=>by cases e;rfl
 | d::r,ns,e=>by
  cases d <;> first | (cases e;done) | skip
  obtain ⟨is,e1,e2⟩:=mpd (show (fZ r).map _=some ns from e)
  cases e2
  rw [gL e1];rfl
theorem eJ {K:PySem.W.Frag} {ρ:Ad} {H:Hp}:∀{vs:List V} {ns:List Str},RepL K ρ H vs (ns.map D.str)→vs=ns.map V.str∧∀k∈ns,PyData.strOk k=true
 | _,[],.nil=>⟨rfl,fun _ h=>(nomatch h)⟩
 | _,n::r,.cons q l=>by
  cases q with
  | str h=>
   obtain ⟨e,f⟩:=eJ l
   refine ⟨by rw [e];rfl,fun k hk=>?_⟩
   rcases List.mem_cons.mp hk with rfl | hk
   ·exact h
   ·exact f k hk
def jK:Fn:=fun ds h=>match ds with
 | [d]=>(g9 d h).bind fun xs=>(fZ xs).bind fun ns=>if ns.length < 64 then some (.lv ((cy ns).map D.str),h) else none
 | _=>none
theorem pT:fv X (.builtin "sorted") jK:=by
 intro pins s σ H xs us Q I r hh
 obtain ⟨ρ,h,ds,z,h',S,l,ee,k⟩:=hh
 match ds,l,ee with
 | [],_,ee=>cases ee
 | _::_::_,_,ee=>cases ee
 | [d],l,ee=>
  obtain ⟨v,rfl,rd⟩:=rep1 l
  obtain ⟨ys,e1,e2⟩:=bnd ee
  obtain ⟨ns,e3,e4⟩:=bnd e2
  by_cases c:ns.length < 64
  ·rw [if_pos c] at e4
   cases e4
   obtain ⟨a,vs,rfl,ha,la⟩:=fb S rd e1
   have:=gL e3
   subst this
   obtain ⟨e5,f⟩:=eJ la
   subst e5
   refine l7 pins s σ H _ us Q I r ⟨a,ns,rfl,SqL.of ha,c,fun l hl=>k _ _ (.lv S (fK _ fun x hx=>f x ((bX ns).mem_iff.mp hx)) hl)⟩
  ·rw [if_neg c] at e4;cases e4
end
end Sm
namespace Sm
open PySem L2 PySem.Spec PyProof.Rows
section
variable {α:Type} {K:PySem.W.Frag} {A:Ac α} {l:Addr} {g:GM} {mt:TM} {m:MK α}
mutual
theorem Rep.calm {ρ ρ':Ad} {H:Hp} (hs:∀a,ρ'.has a→ρ.has a):∀{v:V} {d:D},Rep K ρ H v d→clD 0 d=true→Rep K ρ' H v d
 | _,_,.non,_=>.non
 | _,_,.bl b,_=>.bl b
 | _,_,.int i,_=>.int i
 | _,_,.str h,_=>.str h
 | _,_,.ty n,_=>.ty n
 | _,_,.tup h l,c=>.tup (h.elim (fun ⟨a,n⟩=>.inl ⟨a,fun z=>n (hs _ z)⟩) .inr) (RepL.calm hs l (by simpa [clD] using c))
 | _,_,.lv h n l,c=>.lv h (fun z=>n (hs _ z)) (RepL.calm hs l (by simpa [clD] using c))
 | _,_,.ro h l,c=>.ro (h.elim (fun ⟨a,n⟩=>.inl ⟨a,fun z=>n (hs _ z)⟩) .inr) (RepL.calm hs l (by simpa [clD] using c))
 | _,_,.dv h n l,c=>.dv h (fun z=>n (hs _ z)) (RepK.calm hs l (by simpa [clD] using c))
 | _,_,.ob e,c=>by simp [clD] at c
theorem RepL.calm {ρ ρ':Ad} {H:Hp} (hs:∀a,ρ'.has a→ρ.has a):∀{vs:List V} {ds:List D},RepL K ρ H vs ds→clL 0 ds=true→RepL K ρ' H vs ds
 | _,_,.nil,_=>.nil
 | _,_,.cons r l,c=>by
  simp [clL] at c
  exact .cons (Rep.calm hs r c.1) (RepL.calm hs l c.2)
theorem RepK.calm {ρ ρ':Ad} {H:Hp} (hs:∀a,ρ'.has a→ρ.has a):∀{vs:List (Key×V)} {ds:List (Key×D)},RepK K ρ H vs ds→clK 0 ds=true→RepK K ρ' H vs ds
 | _,_,.nil,_=>.nil
 | _,_,.cons r l,c=>by
  simp [clK] at c
  exact .cons (Rep.calm hs r c.1) (RepK.calm hs l c.2)
end
end
section
variable {X:Cx} {k v tg iter:Expr} {pos:Pos} {mk mv:EM} {mt:TM} {g:GM} {N':List Str} {caps:List (Option Nat)} {scope:Scope} {ifs:List Expr} {mi:IM}
end
theorem i9:bootBuiltins "sorted"=some (.builtin "sorted"):=by decide+kernel
end Sm
namespace L2
open PySem PySem.Spec PyProof.Rows
section
variable {X:Cx}
end
end L2
namespace Sm
open PySem L2 PySem.Spec PyProof.Rows
section
variable {X:Cx}
end
end Sm
namespace L2
open PySem PySem.Spec PyProof.Rows
section
variable {X:Cx}
end
end L2
namespace Sm
open PySem L2 PySem.Spec PyProof.Rows
section
variable {X:Cx}
end
end Sm
namespace Hd
open PySem PySem.W PySem.Spec PyProof.Rows L2 Sm
def rH (_:Obj):Bool:=true
def kAt (h:Heap) (a:Addr):Option (Addr×Obj):=match h.get? a with
 | some o=>if rH o then some (a,o) else none
 | none=>none
def bx (h:Heap):Frag:=(List.range h.objs.size).filterMap (kAt h)
theorem fP (h:Heap) (a:Addr):∀l:List Addr,(l.filterMap (kAt h)).lookup a=if a∈l then (kAt h a).map (·.2) else none
 | []=>rfl
 | b::r=>by
  have ih:=fP h a r
  by_cases hb:a=b
  ·subst hb
   rw [if_pos List.mem_cons_self]
   rw [List.filterMap_cons]
   cases e:kAt h a with
   | none=>
    dsimp only
    rw [ih,e]
    split <;> rfl
   | some p=>
    have hp:p.1=a:=by
     unfold kAt at e
     split at e
     ·split at e
      ·cases e;rfl
      ·cases e
     ·cases e
    obtain ⟨p1,p2⟩:=p
    dsimp only at hp
    subst hp
    simp
  ·have hm:(a∈b::r)↔a∈r:=by simp [hb]
   rw [List.filterMap_cons]
   cases e:kAt h b with
   | none=>dsimp only;rw [ih];simp only [hm]
   | some p=>
    have hp:p.1=b:=by
     unfold kAt at e
     split at e
     ·split at e
      ·cases e;rfl
      ·cases e
     ·cases e
    obtain ⟨p1,p2⟩:=p
    dsimp only at hp
    subst hp
    have hab:(a==p1)=false:=by simpa using hb
    rw [List.lookup_cons,hab]
    dsimp only
    rw [ih];simp only [hm]
theorem d7 {h:Heap} {a:Addr} {o:Obj} (e:h.get? a=some o) (f:rH o=true):(bx h).lookup a=some o:=by
 unfold bx
 rw [fP,if_pos]
 ·unfold kAt;rw [e];dsimp only;rw [if_pos f];rfl
 ·rw [List.mem_range]
  exact Heap.lt_size e
theorem rE (h:Heap):(bx h).In h:=fun a o e=>by
 unfold bx at e
 rw [fP] at e
 split at e
 ·unfold kAt at e
  cases g:h.get? a with
  | none=>rw [g] at e;cases e
  | some o'=>
   rw [g] at e
   dsimp only at e
   split at e
   ·cases e;rfl
   ·cases e
 ·cases e
def posOf (s:Stmt):Pos:=match s with
 | .FunctionDef _ _ _ _ _ _ _ _ _ p=>p
 | _=>⟨0,0,0,0⟩
def br (n:Str) (s:Stmt):DefRec:=⟨n,fk s,dj s,az s,posOf s⟩
theorem rZ {h:Heap} {cd:Value} {q:Str} (r:h.CodeRec cd q):codeIn (bx h) cd q=true:=by
 obtain ⟨c,o,vs,t,rfl,g,d,e⟩:=r
 have f:rH o=true:=rfl
 unfold codeIn
 dsimp only
 rw [d7 g f]
 obtain ⟨oc,od,dt,sl⟩:=o
 dsimp only at d
 subst d
 dsimp only
 obtain ⟨l⟩:=vs
 match l,e with
 | x::.str n _::r,e=>cases e;simp
theorem bC {q:Program} {loose:List Str} {mean:ExcName→Option Value} {mg mb:Str→Option Value} {h:Heap} (T:Top q loose mean mg mb h) {n:Str} {st:Stmt} (e:(recsOf q).find? (fun e=>e.name==n)=some (br n st)):
  ∃f fd,mg n=some (.ref f)∧Fun (bx h) n n st f fd:=by
 have hm:br n st∈recsOf q:=List.mem_of_find?_eq_some e
 obtain ⟨a,o,pm,code,doc,m,g,d,c⟩:=T.fn _ hm
 have f:rH o=true:=rfl
 have lk:=d7 g f
 have kp:keepIn (bx h) (.ref a)=true:=by
  unfold keepIn
  dsimp only
  rw [lk]
  obtain ⟨oc,od,dt,sl⟩:=o
  dsimp only at d
  subst d
  rfl
 obtain ⟨oc,od,dt,sl⟩:=o
 dsimp only at d
 subst d
 exact ⟨a,_,m,⟨oc,od,.none,doc,pm,_,code,_,sl,rfl,lk,rZ c⟩,kp⟩
theorem _root_.L2.Fun.one {K:Frag} {x qual:Str} {st:Stmt} {f:Addr} {fd:FuncData} {p:Str} (F:Fun K x qual st f fd)
  (h:∀(kV doc pm:Value) (an:Option Addr) (cdv ct:Value) (u:Value),bindArgs (PySem.W.fnOf x qual (fk st) (dj st) (az st) .none kV doc pm an cdv ct) ⟨[u],[]⟩=pure [(p,u)]) (s:Shared) (u:Value):BindsTo s fd ⟨[u],[]⟩ [(p,u)]:=by
 obtain ⟨oc,od,kV,doc,pm,an,cdv,ct,osl,rfl,lk,hcd⟩:=F.ex
 exact .of_eq (h kV doc pm an cdv ct u)
theorem vt {l:OpenLaw} {q:Program} {loose:List Str} {XP:(Str→Option Value)→Heap→Prop} {YP:World→Heap→Prop} {d:DefRec} {k:Nat} (hn:l.most=some 63) (hdf:d.params.defaults=[]) (hr:Room k callerA)
  (F:∀(w:World) (s₀:Shared) (mg mb:Str→Option Value) (h:Heap),Ground q loose [] XP w s₀ mg mb h→YP w h→∃(fa:Addr) (fd:FuncData),mg d.name=some (.ref fa)∧(∀(s:Shared) (u:Value),BindsTo s fd ⟨[u],[]⟩ [("_law_script",u)])∧
   ∀base:Heap,(bx h).In base→base.Ns mainGlobals mg→FnOk l.prog w (bx h) mg base CX0 k fa fd ["_law_script"] (spT (bx h))):
  WalkO q loose XP YP l.row.toRowW d [] (fun f vs=>PySem.call f vs):=by
 refine Att.kT hn hdf fun w s₀ s₁ mg mb fa o pm cd doc a vs ns G Y ho hd hcd hmg hobj hints hlen hg=>?_
 obtain ⟨fa',fd,e,hb,hF⟩:=F w s₀ mg mb _ G Y
 rw [e] at hmg
 cases hmg
 exact pC (rE _) G.T.g G.T.b G.T.builtins G.T.nolimit hg hobj hints (Nat.le_trans hlen (by decide)) hr hF hb (fun H hO hS=>⟨a,ns,rfl,hS,hlen,fun _=>rfl⟩) fun _ _ _ z=>z
def freeOk (q:Program) (loose xs:List Str):Bool:=xs.all fun x=>!startupNames.contains x&&!(looseW q loose).contains x&&!((recsOf q).map (·.name)).contains x&&!((litsOf q).map (·.1)).contains x&&!((clssOf q (looseW q loose)).map (·.name)).contains x
theorem bB {q:Program} {loose xs:List Str} {mean:ExcName→Option Value} {mg mb:Str→Option Value} {h:Heap} (T:Top q (looseW q loose) mean mg mb h) (e:freeOk q loose xs=true) {x:Str} (hx:x∈xs):mg x=none:=by
 have:=List.all_eq_true.mp e x hx
 simp only [Bool.and_eq_true,Bool.not_eq_true',List.contains_eq_mem,decide_eq_false_iff_not] at this
 exact T.free x this.1.1.1.1 this.1.1.1.2 this.1.1.2 this.1.2 this.2
end Hd
namespace Sm
open PySem L2
def kDl (f:Expr→Option D):List Expr→Option (List D)
 | []=>some []
 | e::es=>(f e).bind fun d=>(kDl f es).bind fun ds=>some (d::ds)
def kD:Nat→Expr→Option D
 | 0,_=>none
 | n+1,e=>match e with
  | .Constant .none _ _=>some .non
  | .Constant (.bool b) _ _=>some (.bl b)
  | .Constant (.int i) _ _=>some (.int i)
  | .Constant (.str x) _ _=>if PyData.strOk x then some (.str x) else none
  | .UnaryOp .USub (.Constant (.int i) _ _) _=>some (.int (-i))
  | .Tuple es _ _=>(kDl (kD n) es).bind fun ds=>if ds.length≤1000 then some (.tup ds) else none
  | .List es _=>(kDl (kD n) es).bind fun ds=>if ds.length≤1000 then some (.lv ds) else none
  | .Dict [] [] _=>some (.dv [])
  | _=>none
def aK (ds:List D):AM:=fun _ h=>some (ds,h)
theorem xr (ds:List D):gz (aK ds) ds.length:=fun δ h xs h' e=>by cases e;rfl
section
variable {X:Cx}
theorem oz {n:Nat} {e:Expr} {d:D} (h:kD n e=some d) (es:List Expr):starEach (e::es) X.env=(false,eval e X.env)::starEach es X.env:=by
 cases n with
 | zero=>cases h
 | succ n=>cases e <;> first | rfl | (exfalso;exact (nomatch h))
theorem jr {f:Expr→Option D} (hf:∀{e:Expr} {d:D},f e=some d→SE X e (eK d)) (hs:∀{e:Expr} {d:D},f e=some d→∀es:List Expr,starEach (e::es) X.env=(false,eval e X.env)::starEach es X.env):
  ∀{es:List Expr} {ds:List D},kDl f es=some ds→SA X es (aK ds)
 | [],ds,h=>by cases h;exact af
 | e::es,ds,h=>by
  unfold kDl at h
  obtain ⟨d,e1,h⟩:=bnd h
  obtain ⟨r,e2,h⟩:=bnd h
  cases h
  exact (aa (hf e1) (jr hf hs e2) (hs e1 es):SA X _ (ae (eK d) (aK r)))
theorem dZ:∀(n:Nat) {e:Expr} {d:D},kD n e=some d→SE X e (eK d)
 | 0,_,_,h=>by cases h
 | n+1,e,d,h=>by
  unfold kD at h
  split at h
  ·cases h;exact fC
  ·cases h;exact bK
  ·cases h;exact aq
  ·split at h
   ·rename_i hs;cases h;exact aY hs
   ·cases h
  ·cases h;exact (oF kY aq:SE X _ (eUn mX (eK _)))
  ·obtain ⟨ds,e1,e2⟩:=bnd h
   split at e2
   ·rename_i hl;cases e2
    exact (aP (jr (dZ n) oz e1) (xr ds) (Nat.le_trans hl (by decide)):SE X _ (eFn bH (aK ds)))
   ·cases e2
  ·obtain ⟨ds,e1,e2⟩:=bnd h
   split at e2
   ·rename_i hl;cases e2
    exact (SFL.lv (jk (jr (dZ n) oz e1) (xr ds) (Nat.le_trans hl (by decide))):SE X _ (eLv (aK ds)))
   ·cases e2
  ·cases h;exact wk
  ·cases h
end
end Sm
namespace L2
open PySem PySem.Spec PyProof.Rows
section
variable {X:Cx}
end
end L2
namespace Sm
open PySem L2 PySem.Spec PyProof.Rows
section
variable {X:Cx}
theorem repL_ints' {K:PySem.W.Frag} {ρ:Ad} {H:Hp}:∀(ns:List Int),RepL K ρ H (ns.map V.int) (ns.map D.int)
 | []=>.nil
 | n::r=>.cons (.int n) (repL_ints' r)
end
end Sm
namespace Sm
open PySem L2 PySem.Spec PyProof.Rows
section
variable {X:Cx}
theorem RepL.rep {K:PySem.W.Frag} {ρ:Ad} {H:Hp} {vs:List V} {ds:List D} (h:RepL K ρ H vs ds):∀k:Nat,RepL K ρ H (List.replicate k vs).flatten (List.replicate k ds).flatten
 | 0=>.nil
 | k+1=>by
  rw [List.replicate_succ,List.replicate_succ,List.flatten_cons,List.flatten_cons]
  exact h.append (RepL.rep h k)
end
end Sm
namespace L2
open PySem PySem.Spec PyProof.Rows
section
variable {X:Cx}
end
end L2
namespace Sm
open PySem L2 PySem.Spec PyProof.Rows
section
variable {X:Cx} {a b:Expr} {pos:Pos} {ma mb:EM}
end
end Sm
namespace Sm
open PySem L2
theorem ko:∀cs:List Int,pyL (cs.map D.int)=some (cs.map PyData.int)
 | []=>rfl
 | c::r=>by simp only [List.map_cons,pyL,pyD,ko r,Option.bind_some,Option.map_some]
theorem ie:∀cs:List Int,PyData.depthAll (cs.map PyData.int)=0
 | []=>rfl
 | c::r=>by simp only [List.map_cons,PyData.depthAll,ie r,PyData.depth];rfl
theorem nS {h:MH} {c:Nat} {cs:List Int} (hc:h[c]?=some (.lst (cs.map D.int))):iM (.ob c) (.lv []) h=some (.bl (!cs.isEmpty),h):=by
 simp only [iM,eqA,dz,hc,eqD,rdD,ko,pyD,pyL,Option.map_some,Option.bind_some,PyData.depth,ie]
 cases cs <;> rfl
theorem fT {h:MH} {n:Nat} {xs:List D} {i:Int} {d:D} (hn:h[n]?=some (.lst xs)) (e:atI xs i=some d):fIx (.ob n) (.int i) h=some (d,h):=by
 simp only [fIx,dz,hn,ck,Option.bind_some,e,Option.map_some]
theorem rT {h:MH} {n:Nat} {xs:List D} (hn:h[n]?=some (.lst xs)):cB [.ob n] h=some (.int xs.length,h):=by
 simp only [cB,dz,hn,ck,Option.map_some]
theorem bD {h:MH} {n:Nat} {xs:List D} {i:Int} {p:Nat} {d:D} (hn:h[n]?=some (.lst xs)) (e:ixN xs.length i=some p):kK (.ob n) (.int i) d h=some (h.set n (.lst (xs.set p d))):=by
 simp only [kK,hn,e,Option.map_some]
theorem p5 (cs:List Int) (i:Int) (h0:0≤i) (h1:i < cs.length):∃z,atI (cs.map D.int) i=some (.int z):=by
 have hlt:i.toNat < cs.length:=by omega
 refine ⟨cs[i.toNat]'hlt,?_⟩
 have e:((i.toNat:Nat):Int)=i:=Int.toNat_of_nonneg h0
 have q:atI (cs.map D.int) ((i.toNat:Nat):Int)=some (D.int (cs[i.toNat]'hlt)):=mV (by rw [List.getElem?_map,List.getElem?_eq_getElem hlt];rfl)
 rw [e] at q
 exact q
theorem vG {α:Type} {xs:List α} {i:Int} (h0:0≤i) (h1:i < xs.length):∃v,atI xs i=some v∧v∈xs:=by
 have hlt:i.toNat < xs.length:=by omega
 have e:((i.toNat:Nat):Int)=i:=Int.toNat_of_nonneg h0
 have q:atI xs ((i.toNat:Nat):Int)=some (xs[i.toNat]'hlt):=mV (List.getElem?_eq_getElem hlt)
 rw [e] at q
 exact ⟨_,q,List.getElem_mem hlt⟩
end Sm
namespace Sm
open PySem
def Rn {α:Type} (o:Option α) (Q:α→Prop):Prop:=∃a,o=some a∧Q a
theorem rv {α:Type} {o:Option α} {a:α} {Q:α→Prop} (e:o=some a) (q:Q a):Rn o Q:=⟨a,e,q⟩
theorem Rn.imp {α:Type} {o:Option α} {Q Q':α→Prop} (r:Rn o Q) (f:∀a,Q a→Q' a):Rn o Q':=let ⟨a,e,q⟩:=r;⟨a,e,f a q⟩
theorem aQ {α β:Type} {o:Option α} {f:α→Option β} {Q:β→Prop} (r:Rn o fun a=>Rn (f a) Q):Rn (o.bind f) Q:=by
 obtain ⟨a,e,b,e2,q⟩:=r
 exact ⟨b,by rw [e];exact e2,q⟩
theorem qu {α β:Type} {o:Option α} {f:α→β} {Q:β→Prop} (r:Rn o fun a=>Q (f a)):Rn (o.map f) Q:=by
 obtain ⟨a,e,q⟩:=r
 exact ⟨f a,by rw [e];rfl,q⟩
section
variable {δ:DS} {h:MH}
theorem wq {i:Nat} {d:D} {Q:D×MH→Prop} (e:δ[i]?=some (some d)) (q:Q (d,h)):Rn (ai i δ h) Q:=⟨(d,h),by unfold ai;rw [e];rfl,q⟩
theorem r_k {d:D} {Q:D×MH→Prop} (q:Q (d,h)):Rn (eK d δ h) Q:=⟨_,rfl,q⟩
theorem xV {f:D→D→MH→Option (D×MH)} {a b:EM} {Q:D×MH→Prop} (r:Rn (a δ h) fun p=>Rn (b δ p.2) fun q=>Rn (f p.1 q.1 q.2) Q):Rn (eOp f a b δ h) Q:=aQ (r.imp fun _ r=>aQ r)
theorem xS {f:D→MH→Option (D×MH)} {a:EM} {Q:D×MH→Prop} (r:Rn (a δ h) fun p=>Rn (f p.1 p.2) Q):Rn (eUn f a δ h) Q:=aQ r
theorem wC {Q:List D×MH→Prop} (q:Q ([],h)):Rn (au δ h) Q:=⟨_,rfl,q⟩
theorem tP {a:EM} {m:AM} {Q:List D×MH→Prop} (r:Rn (a δ h) fun p=>Rn (m δ p.2) fun q=>Q (p.1::q.1,q.2)):Rn (ae a m δ h) Q:=aQ (r.imp fun _ r=>aQ (r.imp fun _ q=>⟨_,rfl,q⟩))
theorem x4 {f:Fn} {m:AM} {Q:D×MH→Prop} (r:Rn (m δ h) fun p=>Rn (f p.1 p.2) Q):Rn (eFn f m δ h) Q:=aQ r
theorem xY {t:TM} {a b:EM} {Q:D×MH→Prop} (r:Rn (t δ h) fun p=>(p.1=true→Rn (a δ p.2) Q)∧(p.1=false→Rn (b δ p.2) Q)):Rn (eIf t a b δ h) Q:=aQ (r.imp fun p ⟨q1,q2⟩=>by
 obtain ⟨c,h⟩:=p
 cases c with
 | true=>exact q1 rfl
 | false=>exact q2 rfl)
theorem tR {a:EM} {Q:Bool×MH→Prop} (r:Rn (a δ h) fun p=>∃c,p.1=.bl c∧Q (c,p.2)):Rn (bc a δ h) Q:=aQ (r.imp fun p ⟨c,e,q⟩=>⟨(c,p.2),by rw [e],q⟩)
theorem tD {a:EM} {Q:Bool×MH→Prop} (r:Rn (a δ h) fun p=>∃c,ou p.1 p.2=some c∧Q (c,p.2)):Rn (cp a δ h) Q:=aQ (r.imp fun p ⟨c,e,q⟩=>⟨(c,p.2),by rw [e];rfl,q⟩)
theorem tE {t:TM} {Q:Bool×MH→Prop} (r:Rn (t δ h) fun p=>Q (!p.1,p.2)):Rn (Sm.bP t δ h) Q:=qu r
theorem tF {a b:TM} {Q:Bool×MH→Prop} (r:Rn (a δ h) fun p=>(p.1=true→Rn (b δ p.2) Q)∧(p.1=false→Q (false,p.2))):Rn (Sm.ox a b δ h) Q:=aQ (r.imp fun p ⟨q1,q2⟩=>by
 obtain ⟨c,h⟩:=p
 cases c with
 | true=>exact q1 rfl
 | false=>exact ⟨_,rfl,q2 rfl⟩)
theorem wt {a b:TM} {Q:Bool×MH→Prop} (r:Rn (a δ h) fun p=>(p.1=true→Q (true,p.2))∧(p.1=false→Rn (b δ p.2) Q)):Rn (Sm.tOr a b δ h) Q:=aQ (r.imp fun p ⟨q1,q2⟩=>by
 obtain ⟨c,h⟩:=p
 cases c with
 | true=>exact ⟨_,rfl,q1 rfl⟩
 | false=>exact q2 rfl)
theorem oR {a b:EM} {Q:D×MH→Prop} (r:Rn (a δ h) fun p=>∃c,p.1=.bl c∧(c=true→Rn (b δ p.2) Q)∧(c=false→Q (.bl false,p.2))):Rn (eQ a b δ h) Q:=aQ (r.imp fun p ⟨c,e,q1,q2⟩=>by
 rw [e]
 cases c with
 | true=>exact q1 rfl
 | false=>exact ⟨_,rfl,q2 rfl⟩)
theorem xU {a b:EM} {Q:D×MH→Prop} (r:Rn (a δ h) fun p=>∃c,p.1=.bl c∧(c=true→Q (.bl true,p.2))∧(c=false→Rn (b δ p.2) Q)):Rn (eOr a b δ h) Q:=aQ (r.imp fun p ⟨c,e,q1,q2⟩=>by
 rw [e]
 cases c with
 | true=>exact ⟨_,rfl,q1 rfl⟩
 | false=>exact q2 rfl)
theorem wB {a:EM} {Q:D×MH→Prop} (r:Rn (a δ h) fun p=>∃c,p.1=.bl c∧Q (.bl (!c),p.2)):Rn (vA a δ h) Q:=aQ (r.imp fun p ⟨c,e,q⟩=>⟨_,by rw [e],q⟩)
theorem xX {m:AM} {Q:D×MH→Prop} (r:Rn (m δ h) fun p=>Q (.lv p.1,p.2)):Rn (eLv m δ h) Q:=qu r
theorem xW {m:AM} {Q:D×MH→Prop} (r:Rn (m δ h) fun p=>Q (.ob p.2.length,p.2++[.lst p.1])):Rn (eOb m δ h) Q:=qu r
theorem x5 {Q:D×MH→Prop} (q:Q (.dv [],h)):Rn (eDv δ h) Q:=⟨_,rfl,q⟩
theorem x6 {Q:D×MH→Prop} (q:Q (.ob h.length,h++[.dct []])):Rn (eDo δ h) Q:=⟨_,rfl,q⟩
theorem tI {m:AM} {Q:List D×MH→Prop} (r:Rn (m δ h) fun p=>∃d xs ws,p.1=[d]∧ck d p.2=some (xs,ws)∧Q (xs,p.2)):Rn (kW m δ h) Q:=aQ (r.imp fun p ⟨d,xs,ws,e,e2,q⟩=>⟨(xs,p.2),by rw [e];dsimp only;rw [e2];rfl,q⟩)
theorem wy {Q:Option Int×MH→Prop} (q:Q (none,h)):Rn (pNo δ h) Q:=⟨_,rfl,q⟩
theorem wz {a:EM} {Q:Option Int×MH→Prop} (r:Rn (a δ h) fun p=>∃i,p.1=.int i∧Q (some i,p.2)):Rn (pAt a δ h) Q:=aQ (r.imp fun p ⟨c,e,q⟩=>⟨_,by rw [e],q⟩)
theorem xT {a:EM} {l u:PM} {Q:D×MH→Prop} (r:Rn (a δ h) fun p=>Rn (l δ p.2) fun q=>Rn (u δ q.2) fun r=>Rn (fSl p.1 q.1 r.1 r.2) Q):Rn (eSl a l u δ h) Q:=aQ (r.imp fun _ r=>aQ (r.imp fun _ r=>aQ r))
abbrev SQ:=Fl×DS×MH→Prop
theorem tG {Q:SQ} (q:Q (.nx,δ,h)):Rn (bO δ h) Q:=⟨_,rfl,q⟩
theorem tH {Q:SQ} (q:Q (.bk,δ,h)):Rn (xQ δ h) Q:=⟨_,rfl,q⟩
theorem qB {Q:SQ} (q:Q (.ct,δ,h)):Rn (wm δ h) Q:=⟨_,rfl,q⟩
def j2 (b:SM) (Q:SQ):SQ:=fun r=>match r.1 with
 | .nx=>Rn (b r.2.1 r.2.2) Q
 | _=>Q r
theorem oO {a b:SM} {Q:SQ} (r:Rn (a δ h) (j2 b Q)):Rn (aH a b δ h) Q:=aQ (r.imp fun p q=>by
 obtain ⟨f,δ',h'⟩:=p
 cases f with
 | nx=>exact q
 | bk=>exact ⟨_,rfl,q⟩
 | ct=>exact ⟨_,rfl,q⟩
 | rt d=>exact ⟨_,rfl,q⟩)
theorem sr {i:Nat} {e:EM} {Q:SQ} (r:Rn (e δ h) fun p=>Q (.nx,δ.set i (some p.1),p.2)):Rn (bw i e δ h) Q:=aQ (r.imp fun _ q=>⟨_,rfl,q⟩)
theorem wF {e:EM} {g:GM} {Q:SQ} (r:Rn (e δ h) fun p=>Rn (g p.1 δ p.2) fun q=>Q (.nx,q.1,q.2)):Rn (eG e g δ h) Q:=aQ (r.imp fun _ r=>aQ (r.imp fun _ q=>⟨_,rfl,q⟩))
theorem tN {e:EM} {Q:SQ} (r:Rn (e δ h) fun p=>Q (.nx,δ,p.2)):Rn (oJ e δ h) Q:=aQ (r.imp fun _ q=>⟨_,rfl,q⟩)
theorem wx {e:EM} {Q:SQ} (r:Rn (e δ h) fun p=>Q (.rt p.1,δ,p.2)):Rn (a8 e δ h) Q:=aQ (r.imp fun _ q=>⟨_,rfl,q⟩)
theorem wu {t:TM} {a b:SM} {Q:SQ} (r:Rn (t δ h) fun p=>(p.1=true→Rn (a δ p.2) Q)∧(p.1=false→Rn (b δ p.2) Q)):Rn (sIf t a b δ h) Q:=aQ (r.imp fun p ⟨q1,q2⟩=>by
 obtain ⟨c,h⟩:=p
 cases c with
 | true=>exact q1 rfl
 | false=>exact q2 rfl)
theorem wA {i j:Nat} {m:AM} {Q:SQ} (r:Rn (m δ h) fun p=>∃a b,p.1=[a,b]∧Q (.nx,(δ.set i (some a)).set j (some b),p.2)):Rn (xP i j m δ h) Q:=aQ (r.imp fun p ⟨a,b,e,q⟩=>⟨_,by rw [e],q⟩)
theorem x3 {i:Nat} {d:D} {Q:DS×MH→Prop} (q:Q (δ.set i (some d),h)):Rn (gN i d δ h) Q:=⟨_,rfl,q⟩
theorem tL {o i:EM} {v:D} {Q:DS×MH→Prop} (r:Rn (o δ h) fun p=>Rn (i δ p.2) fun q=>Rn (kK p.1 q.1 v q.2) fun h'=>Q (δ,h')):Rn (Sm.ib o i v δ h) Q:=aQ (r.imp fun _ r=>aQ (r.imp fun _ r=>qu r))
theorem xZ {n:Nat} {u:GMs} {xs:List D} {Q:DS×MH→Prop} (hn:xs.length=n) (r:Rn (u xs δ h) Q):Rn (gT n u (.tup xs) δ h) Q:=by
 unfold gT;dsimp only;rw [if_pos hn];exact r
theorem oP {g:GM} {u:GMs} {d:D} {xs:List D} {Q:DS×MH→Prop} (r:Rn (g d δ h) fun p=>Rn (u xs p.1 p.2) Q):Rn (aN g u (d::xs) δ h) Q:=aQ r
theorem qC {Q:DS×MH→Prop} (q:Q (δ,h)):Rn (cV [] δ h) Q:=⟨_,rfl,q⟩
end
def tf (Q:D×MH→Prop):SQ:=fun r=>match r.1 with
 | .rt d=>Q (d,r.2.2)
 | .nx=>Q (.non,r.2.2)
 | _=>False
theorem yj {Q:D×MH→Prop} {d:D} {δ:DS} {h:MH} (q:Q (d,h)):tf Q (.rt d,δ,h):=q
theorem yk {Q:D×MH→Prop} {δ:DS} {h:MH} (q:Q (.non,h)):tf Q (.nx,δ,h):=q
theorem xB {b:SM} {Q:SQ} {δ:DS} {h:MH} (r:Rn (b δ h) Q):j2 b Q (.nx,δ,h):=r
theorem xA {b:SM} {Q:SQ} {d:D} {δ:DS} {h:MH} (q:Q (.rt d,δ,h)):j2 b Q (.rt d,δ,h):=q
theorem xD {b:SM} {Q:SQ} {δ:DS} {h:MH} (q:Q (.bk,δ,h)):j2 b Q (.bk,δ,h):=q
theorem xC {b:SM} {Q:SQ} {δ:DS} {h:MH} (q:Q (.ct,δ,h)):j2 b Q (.ct,δ,h):=q
def kA (I:DS→MH→Prop) (Q:SQ):SQ:=fun z=>match z.1 with
 | .nx=>I z.2.1 z.2.2
 | .ct=>I z.2.1 z.2.2
 | .bk=>Q (.nx,z.2.1,z.2.2)
 | .rt d=>Q (.rt d,z.2.1,z.2.2)
theorem yq {I:DS→MH→Prop} {Q:SQ} {δ:DS} {h:MH} (q:I δ h):kA I Q (.nx,δ,h):=q
theorem yr {I:DS→MH→Prop} {Q:SQ} {δ:DS} {h:MH} (q:I δ h):kA I Q (.ct,δ,h):=q
theorem yt {I:DS→MH→Prop} {Q:SQ} {δ:DS} {h:MH} (q:Q (.nx,δ,h)):kA I Q (.bk,δ,h):=q
theorem yp {I:DS→MH→Prop} {Q:SQ} {d:D} {δ:DS} {h:MH} (q:Q (.rt d,δ,h)):kA I Q (.rt d,δ,h):=q
theorem km {len:Nat} {b:SM} {ds:List D} {h:MH} {Q:D×MH→Prop} (r:Rn (b (entry len ds) h) (tf Q)):Rn (mkF len b ds h) Q:=aQ (r.imp fun p q=>by
 obtain ⟨f,δ',h'⟩:=p
 cases f with
 | nx=>exact ⟨_,rfl,q⟩
 | rt d=>exact ⟨_,rfl,q⟩
 | bk=>exact q.elim
 | ct=>exact q.elim)
theorem wD {i:IM} {g:GM} {b:SM} {δ:DS} {h:MH} {Q:SQ} (r:Rn (i δ h) fun p=>Rn (fg p.2.1 g b p.1 δ p.2.2) Q):Rn (j8 i g b δ h) Q:=aQ r
theorem oQ {ws:W} {g:GM} {b:SM} {Q:SQ}:∀{xs:List D} {δ:DS} {h:MH} (I:Nat→DS→MH→Prop),I 0 δ h→(∀i δ h,i≤xs.length→I i δ h→chk ws h=true)→
  (∀i x δ h,xs[i]?=some x→I i δ h→Rn (g x δ h) fun q=>Rn (b q.1 q.2) (kA (I (i+1)) Q))→(∀δ h,I xs.length δ h→Q (.nx,δ,h))→Rn (fg ws g b xs δ h) Q
 | [],δ,h,I,h0,hc,_,hq=>by
  unfold fg
  rw [if_pos (hc 0 δ h (Nat.le_refl _) h0)]
  exact ⟨_,rfl,hq δ h h0⟩
 | x::xs,δ,h,I,h0,hc,ht,hq=>by
  unfold fg
  rw [if_pos (hc 0 δ h (Nat.zero_le _) h0)]
  obtain ⟨q,e1,z,e2,hz⟩:=ht 0 x δ h rfl h0
  rw [e1]
  show Rn ((b q.1 q.2).bind _) Q
  rw [e2]
  obtain ⟨f,δ',h'⟩:=z
  have next:I 1 δ' h'→Rn (fg ws g b xs δ' h') Q:=fun hi=>oQ (fun i=>I (i+1)) hi (fun i δ h hl=>hc (i+1) δ h (Nat.succ_le_succ hl)) (fun i x δ h hx=>ht (i+1) x δ h (by simpa using hx)) hq
  cases f with
  | nx=>exact next hz
  | ct=>exact next hz
  | bk=>exact ⟨_,rfl,hz⟩
  | rt d=>exact ⟨_,rfl,hz⟩
theorem tK {m:AM} {δ:DS} {h:MH} {Q:List D×W×MH→Prop} (r:Rn (m δ h) fun p=>∃j:Int,p.1=[.int j]∧-(2^62)≤j∧j < 2^62∧Q ((List.range j.toNat).map fun (k:Nat)=>D.int (k:Int),[],p.2)):Rn (kI m δ h) Q:=aQ (r.imp fun p ⟨j,e,h1,h2,q⟩=>by
 rw [e];dsimp only;rw [if_pos ⟨h1,h2⟩];exact ⟨_,rfl,q⟩)
theorem tJ {m:AM} {δ:DS} {h:MH} {Q:List D×W×MH→Prop} (r:Rn (m δ h) fun p=>∃d e xs ys ws ws',p.1=[d,e]∧ck d p.2=some (xs,ws)∧ck e p.2=some (ys,ws')∧Q (dA xs ys,ws++ws',p.2)):Rn (pG m δ h) Q:=
 aQ (r.imp fun p ⟨d,e,xs,ys,ws,ws',e1,e2,e3,q⟩=>⟨_,by rw [e1];dsimp only;rw [e2];dsimp only [Option.bind_some];rw [e3];rfl,q⟩)
theorem tQ {caps:List (Option Nat)} {i:IM} {g:GM} {c:TM} {e:EM} {δ:DS} {h:MH} {Q:List D×MH→Prop} (r:Rn (i δ h) fun p=>Rn (dX p.2.1 g c e p.1 (gr caps δ) p.2.2) fun q=>q.1.length≤sizeLine∧Q q):Rn (bV caps i g c e δ h) Q:=
 aQ (r.imp fun p r=>aQ (r.imp fun q ⟨hz,hq⟩=>⟨q,by rw [if_pos hz],hq⟩))
theorem mx {ws:W} {g:GM} {c:TM} {e:EM} {h:MH} (hc:chk ws h=true) (f:D→Option D) (J:DS→Prop):∀{xs:List D} {δ:DS},J δ→
  (∀x∈xs,∀δ,J δ→Rn (g x δ h) fun q=>q.2=h∧Rn (c q.1 h) fun t=>t.2=h∧J q.1∧(t.1=true→∃y,f x=some y∧Rn (e q.1 h) fun p=>p=(y,h))∧(t.1=false→f x=none))→
  dX ws g c e xs δ h=some (xs.filterMap f,h)
 | [],δ,_,_=>by unfold dX;rw [if_pos hc];rfl
 | x::xs,δ,hJ,ht=>by
  unfold dX
  rw [if_pos hc]
  obtain ⟨⟨δ1,h1⟩,e1,rfl,⟨t,h2⟩,e2,rfl,J1,q1,q2⟩:=ht x List.mem_cons_self δ hJ
  rw [e1]
  dsimp only [Option.bind_some] at e2 q1 q2 ⊢
  rw [e2]
  dsimp only [Option.bind_some]
  have ih:=mx hc f J J1 (xs:=xs) fun y hy=>ht y (List.mem_cons_of_mem _ hy)
  cases t with
  | true=>
   obtain ⟨y,ef,p,ep,rfl⟩:=q1 rfl
   rw [if_pos rfl,ep]
   dsimp only [Option.bind_some]
   rw [ih,List.filterMap_cons,ef];rfl
  | false=>
   rw [if_neg (by simp),ih,List.filterMap_cons,q2 rfl]
end Sm
namespace Sm
open PySem
end Sm
namespace Sm
theorem oN {δ:DS} {h:MH} {i:Nat} {d:D} {Q:D×MH→Prop} (q:Q (d,h)) (e:δ[i]?=some (some d):=by with_unfolding_all rfl):Rn (ai i δ h) Q:=wq e q
theorem su {δ:DS} {h:MH} {n:Nat} {u:GMs} {xs:List D} {Q:DS×MH→Prop} (r:Rn (u xs δ h) Q) (hn:xs.length=n:=by with_unfolding_all rfl):Rn (gT n u (.tup xs) δ h) Q:=xZ hn r
end Sm
namespace Sm
open PySem L2
section
variable {δ:DS} {h:MH}
theorem tO {a:EM} {l u:PM} {Q:D×MH→Prop} (hh:Rn (a δ h) fun p=>Rn (l δ p.2) fun q=>Rn (u δ q.2) fun r=>Rn (rQ p.1 q.1 r.1 r.2) Q):Rn (rW a l u δ h) Q:=aQ (hh.imp fun _ x=>aQ (x.imp fun _ y=>aQ y))
end
end Sm
namespace Sm
open PySem L2
section
variable {h:MH} {Q:D×MH→Prop} {a b:Int} {x y:Str} {d e f g:D} {r:List D}
theorem vP {ds:List D} (q:Q (.tup ds,h)):Rn (bH ds h) Q:=⟨_,rfl,q⟩
theorem vQ (q:Q (.int (-a),h)):Rn (mX (.int a) h) Q:=⟨_,rfl,q⟩
theorem w_add (q:Q (.int (a+b),h)):Rn (bL (.int a) (.int b) h) Q:=⟨_,rfl,q⟩
theorem w_sub (q:Q (.int (a-b),h)):Rn (gx (.int a) (.int b) h) Q:=⟨_,rfl,q⟩
theorem w_lt (q:Q (.bl (decide (a < b)),h)):Rn (fLt (.int a) (.int b) h) Q:=⟨_,rfl,q⟩
theorem xw (q:Q (.bl (decide (a≤b)),h)):Rn (fLe (.int a) (.int b) h) Q:=⟨_,rfl,q⟩
theorem xx (q:Q (.bl (decide (b < a)),h)):Rn (fGt (.int a) (.int b) h) Q:=⟨_,rfl,q⟩
theorem xy (q:Q (.bl (decide (b≤a)),h)):Rn (fGe (.int a) (.int b) h) Q:=⟨_,rfl,q⟩
theorem vX (q:Q (.bl (a==b),h)):Rn (dW (.int a) (.int b) h) Q:=⟨_,rfl,q⟩
theorem vS (q:Q (.bl (!(a==b)),h)):Rn (iM (.int a) (.int b) h) Q:=⟨_,rfl,q⟩
theorem vW (q:Q (.bl (x==y),h)):Rn (dW (.str x) (.str y) h) Q:=⟨_,rfl,q⟩
theorem vR (q:Q (.bl (!(x==y)),h)):Rn (iM (.str x) (.str y) h) Q:=⟨_,rfl,q⟩
theorem vV (q:Q (d,h)):Rn (fIx (.tup (d::r)) (.int 0) h) Q:=⟨_,by
 show ((atI (d::r) 0).map fun z=>(z,h))=_
 have:atI (d::r) 0=some d:=by unfold atI;rw [show ixN (d::r).length 0=some 0 by unfold ixN;simp;try omega];rfl
 rw [this];rfl,q⟩
theorem vU (q:Q (e,h)):Rn (fIx (.tup (d::e::r)) (.int 1) h) Q:=⟨_,by
 show ((atI (d::e::r) 1).map fun z=>(z,h))=_
 have:atI (d::e::r) 1=some e:=by unfold atI;rw [show ixN (d::e::r).length 1=some 1 by unfold ixN;simp;try omega];rfl
 rw [this];rfl,q⟩
theorem vT (q:Q (f,h)):Rn (fIx (.tup (d::e::f::r)) (.int 2) h) Q:=⟨_,by
 show ((atI (d::e::f::r) 2).map fun z=>(z,h))=_
 have:atI (d::e::f::r) 2=some f:=by unfold atI;rw [show ixN (d::e::f::r).length 2=some 2 by unfold ixN;simp;try omega];rfl
 rw [this];rfl,q⟩
theorem sC (q:Q (.int r.length,h)):Rn (cB [.tup r] h) Q:=⟨_,rfl,q⟩
theorem sD (q:Q (.int r.length,h)):Rn (cB [.lv r] h) Q:=⟨_,rfl,q⟩
end
inductive All2 {α β:Type} (R:α→β→Prop):List α→List β→Prop where
 | nil:All2 R [] []
 | cons {x y xs ys}:R x y→All2 R xs ys→All2 R (x::xs) (y::ys)
end Sm
namespace L2
open PySem PySem.Spec PyProof.Rows
abbrev yn:Hp:=fun _=>none
structure Tab (P:Program) (w:World) (K:PySem.W.Frag) (mg:Str→Option Value) (nm:Str) (tb:List (Str×List Int)):Prop where
 ex:∃(a:Addr) (o:Obj) (es:Array DictEntry) (ep:Nat) (kvs:List (Str×Value)),mg nm=some (.ref a)∧K.lookup a=some o∧o.ExactDict∧o.data=.dict es ep∧(a==sysModules)=false∧KeysOf (strKind P w) es∧Pairs (strKind P w) es.toList kvs∧(kvs.map (·.1)).Nodup∧
  Sm.All2 (fun (x:Str×List Int) (y:Str×Value)=>x.1=y.1∧∃(t:Addr) (u:Obj) (its:Array Value) (n:Nat),y.2=.ref t∧K.lookup t=some u∧u.cls=.type "tuple"∧u.dict=none∧u.data=.seq its n∧its.size≤sizeLine∧IntsAre its.toList x.2) tb kvs
theorem ng {K:PySem.W.Frag}:∀{tb:List (Str×List Int)} {kvs:List (Str×Value)},Sm.All2 (fun (x:Str×List Int) (y:Str×Value)=>x.1=y.1∧∃(t:Addr) (u:Obj) (its:Array Value) (n:Nat),y.2=.ref t∧K.lookup t=some u∧u.cls=.type "tuple"∧u.dict=none∧u.data=.seq its n∧its.size≤sizeLine∧IntsAre its.toList x.2) tb kvs→∀x:Str,
  (∀is,tb.lookup x=some is→∃t,valueAt kvs x=some (.ref t)∧∀H,SqT K H t (is.map V.int))∧(valueAt kvs x).isSome=(tb.lookup x).isSome:=by
 intro tb kvs h
 induction h with
 | nil=>exact fun x=>⟨fun is e=>(nomatch e),rfl⟩
 | @cons p q tb kvs r l ih=>
  intro x
  obtain ⟨a,is0⟩:=p
  obtain ⟨b,v⟩:=q
  obtain ⟨e0,t,u,its,n,e1,h1,h2,h3,h4,h5,h6⟩:=r
  dsimp only at e0 e1 h6
  subst e0
  subst e1
  by_cases hx:x=a
  ·subst hx
   have hv:valueAt ((x,Value.ref t)::kvs) x=some (.ref t):=by unfold valueAt;simp
   have hl:((x,is0)::tb).lookup x=some is0:=by simp
   refine ⟨fun is e=>?_,by rw [hv,hl];rfl⟩
   rw [hl] at e
   cases e
   exact ⟨t,hv,fun H=>.inr ⟨u,its,n,h1,h2,h4,h5,fx h6,h3⟩⟩
  ·have hv:valueAt ((a,Value.ref t)::kvs) x=valueAt kvs x:=by
    unfold valueAt
    rw [List.find?_cons_of_neg (by simpa using fun z=>hx z.symm)]
   have hl:((a,is0)::tb).lookup x=tb.lookup x:=by
    rw [List.lookup_cons,show (x==a)=false by simpa using hx]
   rw [hv,hl]
   exact ih x
section
variable {X:Cx} {nm:Str} {tb:List (Str×List Int)} {i:Expr} {ti:TE} {p pos:Pos}
theorem Tab.dict {pins:List (Addr×Obj)} {σ:St} {H:Hp} {s:Shared} (T:Tab X.prog X.w X.K X.mg nm tb) (I:Inv X pins σ H s):∃(a:Addr) (kvs:List (Str×Value)),X.mg nm=some (.ref a)∧(a==sysModules)=false∧s.heap.DictOf (strKind X.prog X.w) a kvs∧∀x:Str,
  (∀is,tb.lookup x=some is→∃t,valueAt kvs x=some (.ref t)∧∀H,SqT X.K H t (is.map V.int))∧(valueAt kvs x).isSome=(tb.lookup x).isSome:=by
 obtain ⟨a,o,es,ep,kvs,h1,h2,h3,h4,h5,h6,h7,h8,h9⟩:=T.ex
 exact ⟨a,kvs,h1,h5,⟨o,es,ep,I.kIn a o h2,h3,h4,h6,h7,h8⟩,ng h9⟩
theorem ud (T:Tab X.prog X.w X.K X.mg nm tb) (hg:Gl X nm) (hi:PE X i ti) (hs:sh i) (hd:(nm==("__debug__":Str))=false):
  PE X (.Subscript (.Name nm p) i pos) (fun σ H Q=>ti σ H fun y H1=>∃x is,y=.str x∧tb.lookup x=some is∧∀t,SqT X.K yn t (is.map V.int)→Q (.ref t) H1):=by
 intro pins s σ H Q I h
 obtain ⟨a,kvs,hm,hsm,dd,hv⟩:=T.dict I
 refine qi PySem.F.slot_dict_getitem.lookup hs (gF I hg hm (thn (hi pins s σ H _ I h) fun iv s2 ⟨y,H2,I2,ry,x,is,ey,l,q⟩=>?_) hd)
 subst ey
 obtain ⟨t,rfl⟩:=ry
 obtain ⟨a',kvs',hm',hsm',dd',hv'⟩:=T.dict I2
 rw [hm] at hm'
 cases hm'
 obtain ⟨u,e,sq⟩:=(hv' x).1 is l
 exact ⟨dd'.typeIs,wpAny_getItem_of (by show Value.isStrOf x (.str x t)=true;unfold Value.isStrOf;simp) dd'.mapOf e ⟨.ref u,H2,I2.tok _,rfl,q u (sq _)⟩⟩
theorem nB {o:Expr} {to:TE} (T:Tab X.prog X.w X.K X.mg nm tb) (hg:Gl X nm) (ho:PE X o to) (hd:(nm==("__debug__":Str))=false):
  PC X .NotIn o (.Name nm p) (fun σ H Q=>to σ H fun y H1=>∃x,y=.str x∧Q (.bl (!(tb.lookup x).isSome)) H1):=by
 intro pins s σ H Q I h
 refine thn (ho pins s σ H _ I h) fun iv s1 ⟨y,H1,I1,ry,x,ey,q⟩=>?_
 subst ey
 obtain ⟨t,rfl⟩:=ry
 obtain ⟨a,kvs,hm,hsm,dd,hv⟩:=T.dict I1
 refine gF I1 hg hm ?_ hd
 refine wpAny_notIn_of (knd:=PySem.strKind X.prog X.w) (k:=x) (by show Value.isStrOf x (.str x t)=true;unfold Value.isStrOf;simp) hsm dd.mapOf ?_
 rw [(hv x).2]
 exact ⟨.bl _,H1,I1.tok _,rfl,q⟩
end
end L2
namespace Sm
open PySem L2 PySem.Spec PyProof.Rows
section
variable {X:Cx} {nm:Str} {tb:List (Str×List Int)} {i:Expr} {mi:EM} {p pos:Pos}
def rP (tb:List (Str×List Int)) (d:D) (h:MH):Option (D×MH):=match d with
 | .str x=>(tb.lookup x).map fun is=>(.tup (is.map D.int),h)
 | _=>none
def pL (tb:List (Str×List Int)) (d:D) (h:MH):Option (D×MH):=match d with
 | .str x=>some (.bl (!(tb.lookup x).isSome),h)
 | _=>none
theorem oG (T:Tab X.prog X.w X.K X.mg nm tb) (hi:SE X i mi) (hg:Gl X nm:=by unfold Gl;kernel_rfl) (hs:sh i:=by unfold sh;intro _ _;kernel_rfl) (hd:(nm==("__debug__":Str))=false:=by kernel_rfl):SE X (.Subscript (.Name nm p) i pos) (eUn (rP tb) mi):=
 (ud T hg hi hs hd).imp fun σ H Q ⟨ρ,δ,h,d,h',R,S,e,k⟩=>by
  obtain ⟨⟨x,h1⟩,e1,e2⟩:=bnd e
  dsimp only at e2
  refine ⟨ρ,δ,h,x,h1,R,S,e1,fun v H1 ⟨ρ1,T1,S1,r1⟩=>?_⟩
  unfold rP at e2
  split at e2
  ·rename_i y
   obtain ⟨is,e3,e4⟩:=mpd e2
   cases e4
   cases r1
   exact ⟨_,is,rfl,e3,fun t sq=>k _ _ ⟨ρ1,T1,S1,.tup (.inr sq) (repL_ints' is)⟩⟩
  ·cases e2
theorem qj (T:Tab X.prog X.w X.K X.mg nm tb) (hi:SE X i mi) (hg:Gl X nm:=by unfold Gl;kernel_rfl) (hd:(nm==("__debug__":Str))=false:=by kernel_rfl):ST X (.Compare i [.NotIn] [.Name nm p] pos) (bc (eUn (pL tb) mi)):=
 (tV (nB T hg hi hd) rfl).imp fun σ H Q ⟨ρ,δ,h,c,h',R,S,e,k⟩=>by
  obtain ⟨⟨y,h2⟩,e0,e9⟩:=bnd e
  obtain ⟨⟨x,h1⟩,e1,e2⟩:=bnd e0
  dsimp only at e2
  refine ⟨ρ,δ,h,x,h1,R,S,e1,fun v H1 ⟨ρ1,T1,S1,r1⟩=>?_⟩
  unfold pL at e2
  split at e2
  ·rename_i y
   cases e2
   cases e9
   cases r1
   exact ⟨_,rfl,_,rfl,k _ _ T1 S1⟩
  ·cases e2
end
end Sm
namespace Hd
open PySem PySem.W PySem.Spec PyProof.Rows L2 Sm
def mK:List Value→Option (List Int)
 | []=>some []
 | .int i _::r=>(mK r).map fun is=>i::is
 | _=>none
def mR (v:Value) (t:String):Bool:=match v with
 | .type s=>decide (s=t)
 | _=>false
def rowAt (h:Heap) (e:DictEntry):Option (Str×Int×List Int):=match e.key with
 | .str x _=>match e.val with
  | .ref t=>match h.get? t with
   | some u=>if mR u.cls "tuple"&&u.dict.isNone then (match u.data with
     | .seq its _=>if its.size≤100 then (mK its.toList).map fun is=>(x,e.hash,is) else none
     | _=>none) else none
   | none=>none
  | _=>none
 | _=>none
def eI (h:Heap):List DictEntry→Option (List (Str×Int×List Int))
 | []=>some []
 | e::r=>(rowAt h e).bind fun x=>(eI h r).map fun xs=>x::xs
def tabAt (h:Heap) (nm:Str):Option (List (Str×Int×List Int)):=match h.nsMap mainGlobals nm with
 | some (.ref a)=>if a==sysModules then none else (match h.get? a with
  | some o=>if mR o.cls "dict"&&o.dict.isNone&&decide (o.slots=#[]) then (match o.data with
    | .dict es _=>eI h es.toList
    | _=>none) else none
  | none=>none)
 | _=>none
abbrev Sub (h h':Heap):Prop:=∀b o,h.get? b=some o→h'.get? b=some o
theorem lE {h h':Heap} (k:Sub h h') {e:DictEntry} {r:Str×Int×List Int} (x:rowAt h e=some r):rowAt h' e=some r:=by
 unfold rowAt at x ⊢
 split at x
 ·split at x
  ·split at x
   ·rename_i u hu
    rw [k _ _ hu]
    exact x
   ·cases x
  ·cases x
 ·cases x
theorem gc {h h':Heap} (k:Sub h h'):∀{es:List DictEntry} {r:List (Str×Int×List Int)},eI h es=some r→eI h' es=some r
 | [],_,x=>x
 | e::es,r,x=>by
  unfold eI at x ⊢
  obtain ⟨y,e1,x⟩:=Option.bind_eq_some_iff.mp x
  obtain ⟨ys,e2,x⟩:=Option.map_eq_some_iff.mp x
  rw [lE k e1,gc k e2]
  exact congrArg some x
theorem lj {h h':Heap} (k:Sub h h') {nm:Str} {r:List (Str×Int×List Int)} (x:tabAt h nm=some r):tabAt h' nm=some r:=by
 have hg:∀v,h.nsMap mainGlobals nm=some v→h'.nsMap mainGlobals nm=some v:=fun v e=>by
  unfold Heap.nsMap at e ⊢
  split at e
  ·rename_i o ho
   rw [k _ _ ho]
   exact e
  ·cases e
 unfold tabAt at x ⊢
 split at x
 ·rename_i a ha
  rw [hg _ ha]
  dsimp only
  split at x
  ·cases x
  ·rename_i hs
   rw [if_neg hs]
   split at x
   ·rename_i o ho
    rw [k _ _ ho]
    dsimp only
    split at x
    ·rename_i hc
     rw [if_pos hc]
     split at x
     ·exact gc k x
     ·cases x
    ·cases x
   ·cases x
 ·cases x
theorem kH:∀{vs:List Value} {is:List Int},mK vs=some is→IntsAre vs is
 | [],_,e=>by cases e;exact .nil
 | v::r,is,e=>by
  cases v <;> first | (cases e;done) | skip
  obtain ⟨js,e1,e2⟩:=Option.map_eq_some_iff.mp (show (mK r).map _=some is from e)
  subst e2
  exact .cons _ _ (kH e1)
theorem kO {v:Value} {t:String} (h:mR v t=true):v=.type t:=by
 unfold mR at h
 split at h
 ·rw [of_decide_eq_true h]
 ·cases h
theorem gS {P:Program} {w:World} {h:Heap}:∀{es:List DictEntry} {tb:List (Str×List Int)},eI h es=some (tb.map fun x=>(x.1,hashStr w x.1,x.2))→
  ∃kvs:List (Str×Value),(∀e∈es,∃k,(PySem.strKind P w).is k e.key=true∧e.hash=(PySem.strKind P w).hash k)∧Pairs (PySem.strKind P w) es kvs∧kvs.map (·.1)=tb.map (·.1)∧
   All2 (fun (x:Str×List Int) (y:Str×Value)=>x.1=y.1∧∃(t:Addr) (u:Obj) (its:Array Value) (n:Nat),y.2=.ref t∧(bx h).lookup t=some u∧u.cls=.type "tuple"∧u.dict=none∧u.data=.seq its n∧its.size≤sizeLine∧IntsAre its.toList x.2) tb kvs
 | [],tb,x=>by
  have hz:tb=[]:=by
   have:=Option.some.inj x
   exact List.map_eq_nil_iff.mp this.symm
  subst hz
  exact ⟨[],fun _ z=>(nomatch z),.nil,rfl,.nil⟩
 | e::es,tb,x=>by
  unfold eI at x
  obtain ⟨y,e1,x⟩:=Option.bind_eq_some_iff.mp x
  obtain ⟨ys,e2,x⟩:=Option.map_eq_some_iff.mp x
  cases tb with
  | nil=>cases x
  | cons q tb=>
   rw [List.map_cons] at x
   obtain ⟨rfl,rfl⟩:=List.cons.inj x
   obtain ⟨kvs,h1,h2,h3,h4⟩:=gS (P:=P) e2
   unfold rowAt at e1
   split at e1
   ·rename_i x0 tk hk
    split at e1
    ·rename_i t hv
     split at e1
     ·rename_i u hu
      split at e1
      ·rename_i hc
       rw [Bool.and_eq_true] at hc
       split at e1
       ·rename_i its n hd
        split at e1
        ·rename_i hs
         obtain ⟨is,e3,e4⟩:=Option.map_eq_some_iff.mp e1
         have e5:x0=q.1:=congrArg (·.1) e4
         have e6:e.hash=hashStr w q.1:=congrArg (·.2.1) e4
         have e7:is=q.2:=congrArg (·.2.2) e4
         have hki:(PySem.strKind P w).is q.1 e.key=true:=by rw [hk,e5];show Value.isStrOf q.1 (.str q.1 tk)=true;unfold Value.isStrOf;simp
         refine ⟨(q.1,.ref t)::kvs,fun e' he'=>?_,.cons hki hv h2,by rw [List.map_cons,List.map_cons,h3],.cons ⟨rfl,t,u,its,n,rfl,d7 hu rfl,kO hc.1,by simpa using hc.2,hd,Nat.le_trans hs (by decide),by rw [←e7];exact kH e3⟩ h4⟩
         rcases List.mem_cons.mp he' with rfl | he'
         ·exact ⟨q.1,hki,e6⟩
         ·exact h1 e' he'
        ·cases e1
       ·cases e1
      ·cases e1
     ·cases e1
    ·cases e1
   ·cases e1
theorem tab_of {P:Program} {w:World} {h:Heap} {mg:Str→Option Value} {nm:Str} {tb:List (Str×List Int)} (x:tabAt h nm=some (tb.map fun x=>(x.1,hashStr w x.1,x.2))) (g:h.Ns mainGlobals mg) (nd:(tb.map (·.1)).Nodup):Tab P w (bx h) mg nm tb:=by
 unfold tabAt at x
 split at x
 ·rename_i a ha
  split at x
  ·cases x
  ·rename_i hs
   split at x
   ·rename_i o ho
    split at x
    ·rename_i hc
     rw [Bool.and_eq_true,Bool.and_eq_true] at hc
     split at x
     ·rename_i es ep hd
      obtain ⟨kvs,h1,h2,h3,h4⟩:=gS (P:=P) x
      have hm:mg nm=some (.ref a):=by
       obtain ⟨o',es',ep',g1,g2,_,g3⟩:=g
       rw [←g3 nm,←ha]
       unfold Heap.nsMap
       rw [g1]
       dsimp only
       rw [g2]
      exact ⟨a,o,es,ep,kvs,hm,d7 ho rfl,⟨kO hc.1.1,by simpa using hc.1.2,of_decide_eq_true hc.2⟩,hd,by simpa using hs,fun e he=>h1 e (Array.mem_toList_iff.mpr he),h2,by rw [h3];exact nd,h4⟩
     ·cases x
    ·cases x
   ·cases x
 ·cases x
end Hd
namespace L2
open PySem PySem.Spec PyProof.Rows
section
variable {X:Cx} {pins:List (Addr×Obj)} {σ:St} {H H':Hp} {s:Shared} {h':Heap}
end
end L2
namespace Sm
open PySem L2 PySem.Spec PyProof.Rows
section
variable {X:Cx}
end
end Sm
namespace Sb
open PySem L2 PySem.Spec PyProof.Rows
open Builtin.SmallTypes (nextOf ownedTupleIsFree ownedTupleHandOut)
variable {P:Program} {w:World} {A:Around} {E:Value→Shared→Prop} {s:Shared} {b c:Bool}
end Sb
namespace PySem
end PySem
namespace L2
open PySem PySem.Spec PyProof.Rows
section
variable {X:Cx}
end
end L2
namespace L2
open PySem PySem.Spec PyProof.Rows Sb
section
variable {X:Cx}
end
end L2
namespace L2
open PySem PySem.Spec PyProof.Rows Sb
section
variable {X:Cx}
end
end L2
namespace Sm
open PySem L2 PySem.Spec PyProof.Rows Sb
section
variable {X:Cx}
end
end Sm
namespace Sb
open PySem L2 PySem.Spec PyProof.Rows
variable {P:Program} {w:World} {A:Around} {E:Value→Shared→Prop} {s:Shared} {b c:Bool}
end Sb
namespace Sb
open PySem L2 PySem.Spec PyProof.Rows
variable {P:Program} {w:World} {A:Around} {E:Value→Shared→Prop} {s:Shared} {b c:Bool}
end Sb
namespace L2
open PySem PySem.Spec PyProof.Rows Sb
section
variable {X:Cx}
end
end L2
namespace Sm
open PySem L2 PySem.Spec PyProof.Rows Sb
section
variable {X:Cx}
end
end Sm
namespace PySem
theorem dD:typeLookup (.type "tuple") "__rmul__"=pure (some (.builtin "tuple.__rmul__")):=by rw [typeLookup_type,builtinLookup_eq_fast];kernel_rfl
theorem fO:fillsNumberSlot (.type "tuple") "mul"=pure false:=
 fillsNumberSlot_seq (id:="tuple.__mul__") (r:=some (.builtin "tuple.__rmul__")) F.slot_tuple_mul.lookup (by decide+kernel) dD (by decide+kernel)
theorem jt:seqRepeat? (.type "tuple")=pure (some (.builtin "tuple.__mul__")):=by
 unfold seqRepeat?
 rw [seqSlot_of (T:="tuple") (name:="__mul__") (id:="tuple.__mul__") F.slot_tuple_mul.lookup (by decide+kernel),seqSlot_of (T:="tuple") (name:="__rmul__") (id:="tuple.__rmul__") dD (by decide+kernel)]
 rfl
theorem di (a:Int) (t:Tok) (l:Addr) (o:Obj) (items:Array Value) (n:Nat) (hc:o.cls=.type "tuple") (hd:o.data=.seq items n):
  Meets (Builtin.«int.__rmul__» ⟨[.int a t,.ref l],[]⟩) (fun _ R s=>s.heap.get? l=some o∧R (.ok (.ret Value.notImplemented)) s):=
 .of_wp fun prog w A R s h=>by
  obtain ⟨c,dd,da,sl⟩:=o
  dsimp only at hc hd
  subst hc;subst hd
  obtain ⟨hp,g,d,tk,os⟩:=s;obtain ⟨hl,h⟩:=h;wp_walk;exact ⟨_,rfl,h⟩
end PySem
namespace L2
open PySem PySem.Spec PyProof.Rows
section
variable {X:Cx}
def wH (K:PySem.W.Frag):R2:=fun x y H Q=>∃l k xs,x=.ref l∧y=.int k∧SqT K H l xs∧-(2^62)≤k∧k < 2^62∧xs.length*k.toNat≤1000000∧
 ((xs.isEmpty||k==1)=true→Q (.ref l) H)∧((xs.isEmpty||k==1)=false→∀p,H p=none→Q (.ref p) (upd H p (.tup (List.replicate k.toNat xs).flatten)))
theorem lY (its:List Value) (m:Nat):List.foldl (fun x1 x2=>x1++x2) #[] (List.replicate m its.toArray)=(List.replicate m its).flatten.toArray:=by
 have:=foldl_rep its m []
 rw [List.nil_append] at this
 exact this
theorem rj:OpR X (binaryOp .Mult) (wH X.K):=by
 intro pins s σ H x y v u Q I rx ry h
 obtain ⟨l,k,xs,rfl,rfl,hH,h1,h2,hz,q1,q2⟩:=h
 cases rx
 obtain ⟨t,rfl⟩:=ry
 obtain ⟨its,rv,pt,hz2⟩:=I.tuple hH
 have hl:=rv.length
 obtain ⟨o,e1,e2,n,e3⟩:=id pt
 have hT:s.TypeIs (.ref l) "tuple":=⟨o,e1,e2⟩
 refine wpAny_binaryOp_repeat_ref (T:="tuple") (U:="int") (by decide) hT (fun s'=>typeIs_int s' k t) fO F.fills_int_mul F.slot_int_rmul jt F.slot_int_index.lookup
  (call_meets F.slot_int_rmul (typeIs_int s k t) F.entry_int_rmul (F.args_int_rmul_2 _ _) (di k t l o its.toArray n e2 e3)
   ⟨e1,rfl,hT,wpAny_call_entry F.slot_tuple_mul hT F.entry_tuple_mul ?_ (F.args_tuple_mul_2 _ _)⟩)
 show wpAny _ _ (asIndex (.int k t) >>=_) _ _ _
 refine wpAny_bind (wpAny_pure ?_)
 rw [if_neg (by simp;omega)]
 refine wpAny_bind (wpAny_tupleItemsOf e1 e3 ?_)
 have hem:its.toArray.isEmpty=xs.isEmpty:=by
  cases its with
  | nil=>cases xs with | nil=>rfl | cons _ _=>simp at hl
  | cons _ _=>cases xs with | nil=>simp at hl | cons _ _=>rfl
 rw [hem]
 by_cases c:(xs.isEmpty||k==1)=true
 ·rw [if_pos c]
  refine wpAny_bind ?_
  unfold Builtin.Tuple.tupleIsExact
  refine wpAny_bind (wpAny_typeOf hT (wpAny_pure ?_))
  rw [if_pos (by decide)]
  refine wpAny_bind (wpAny_rule (wpAny_pure ⟨_,rfl,?_⟩))
  exact ⟨.ref l,H,I,rfl,q1 c⟩
 ·rw [if_neg c]
  have c':(xs.isEmpty||k==1)=false:=by simpa using c
  have hne:xs.isEmpty=false:=by cases hx:xs.isEmpty <;> simp_all
  have fin:∀(w:List Value),Vals (List.replicate k.toNat xs).flatten w→(List.replicate k.toNat xs).flatten.length≤sizeLine→wpAny (model X.prog X.w) X.A.in1 (Builtin.Tuple.tupleExact w.toArray >>=fun v=>ret v) (fun fin s'=>∃v,fin=Fin.done (Flow.ret v)∧EP X pins σ Q v s') X.xe s:=fun w hw hlw=>by
   unfold Builtin.Tuple.tupleExact
   refine wpAny_bind (wpAny_newObj_type (wpAny_pure ⟨_,rfl,?_⟩) (by simp [sizeOk];rw [←hw.length];exact hlw))
   exact ⟨.ref _,_,I.laid (t':=s.toks) (o:=.tup (List.replicate k.toNat xs).flatten) (fun b o e=>Heap.get?_push_of_some _ e) (Nat.le_refl _) ⟨hlw,w,hw,jX.new _ _⟩,rfl,q2 c' _ I.fresh⟩
  by_cases c2:k≤0
  ·rw [if_pos (by simp [c2])]
   have h0:k.toNat=0:=by omega
   refine fin [] ?_ ?_
   ·rw [h0];exact .nil
   ·rw [h0];exact Nat.zero_le _
  ·rw [if_neg (by rw [decide_eq_false c2,hne];decide)]
   have hp:its.length*k.toNat≤1000000:=by rw [←hl];exact hz
   have hkk:((k.toNat:Nat):Int)=k:=Int.toNat_of_nonneg (by omega)
   have hpi:((its.toArray.size:Nat):Int)*k≤1000000:=by
    rw [←hkk,List.size_toArray]
    have h9:((its.length*k.toNat:Nat):Int)≤((1000000:Nat):Int):=Int.ofNat_le.mpr hp
    rw [Int.natCast_mul] at h9
    exact h9
   rw [if_neg (by omega)]
   rw [if_neg (by unfold Builtin.Tuple.tupleTooMany;simp only [decide_eq_true_eq,Int.not_lt];rw [sizeLine_eq];show _≤(16777216:Int);omega)]
   rw [lY]
   refine fin _ (rv.rep k.toNat) ?_
   rw [len_rep,Nat.mul_comm,sizeLine_eq]
   omega
end
end L2
namespace Sm
open PySem L2 PySem.Spec PyProof.Rows
section
variable {X:Cx}
def i0 (d e:D) (h:MH):Option (D×MH):=match d,e with
 | .tup xs,.int n=>if -1000≤n∧n≤1000∧xs.length≤1000 then some (.tup (List.replicate n.toNat xs).flatten,h) else none
 | _,_=>none
theorem jx:OpS X (binaryOp .Mult) i0:=by
 intro pins s σ H x y v u Q I rx ry hh
 obtain ⟨ρ,h,d,e,z,h',S,rd,re,ee,k⟩:=hh
 cases rd <;> first | (cases ee;done) | skip
 cases re <;> first | (cases ee;done) | skip
 rename_i a vs ds ht la n
 by_cases c:-1000≤n∧n≤1000∧ds.length≤1000
 ·rw [show i0 (.tup ds) (.int n) h=some (.tup (List.replicate n.toNat ds).flatten,h) by show (if _ then _ else _)=_;rw [if_pos c]] at ee
  cases ee
  have hb:ds.length*n.toNat≤1000*1000:=Nat.mul_le_mul c.2.2 (by omega)
  refine rj pins s σ H _ _ v u Q I rx ry ⟨a,n,vs,rfl,rfl,ht.sq,by omega,by omega,by rw [la.length];omega,fun hc=>?_,fun _ l hl=>k _ _ (.tup S (la.rep _) hl)⟩
  have:(List.replicate n.toNat ds).flatten=ds:=by
   rw [Bool.or_eq_true] at hc
   rcases hc with hc | hc
   ·have hv:vs=[]:=by cases vs with | nil=>rfl | cons _ _=>cases hc
    have hd:ds=[]:=by have:=la.length;rw [hv] at this;cases ds with | nil=>rfl | cons _ _=>simp at this
    rw [hd];simp
   ·have:n=1:=by simpa using hc
    subst this;simp
  rw [this] at k
  exact k _ _ (cb.here S (.tup ht la))
 ·rw [show i0 (.tup ds) (.int n) h=none by show (if _ then _ else _)=_;rw [if_neg c]] at ee
  cases ee
end
end Sm
namespace L2
open PySem PySem.Spec PyProof.Rows
def dq (xs:Array Nat):Prop:=∀i j (hi:i < xs.size) (hj:j < xs.size),i < j→xs[i] < xs[j]
theorem ip (xs:Array Nat) (j:Nat) (hx:dq xs):∀(fuel lo hi:Nat),hi-lo≤fuel→lo≤hi→hi≤xs.size→(∀i (h:i < xs.size),i < lo→xs[i] < j)→(∀i (h:i < xs.size),hi≤i→j≤xs[i])→
  SetTable.below.go xs j fuel lo hi≤xs.size∧(∀i (h:i < xs.size),i < SetTable.below.go xs j fuel lo hi→xs[i] < j)∧(∀i (h:i < xs.size),SetTable.below.go xs j fuel lo hi≤i→j≤xs[i])
 | 0,lo,hi,hf,hl,hs,h1,h2=>by
  have:lo=hi:=by omega
  subst this
  unfold SetTable.below.go
  exact ⟨hs,h1,h2⟩
 | fuel+1,lo,hi,hf,hl,hs,h1,h2=>by
  unfold SetTable.below.go
  by_cases hlt:lo < hi
  ·rw [if_pos hlt]
   dsimp only
   have hm:(lo+hi) / 2 < xs.size:=by omega
   have hg:xs.getD ((lo+hi) / 2) j=xs[(lo+hi) / 2]:=by simp [Array.getD,hm]
   rw [hg]
   by_cases hc:xs[(lo+hi) / 2] < j
   ·rw [if_pos hc]
    refine ip xs j hx fuel _ _ (by omega) (by omega) hs (fun i h hi'=>?_) h2
    rcases Nat.lt_or_ge i ((lo+hi) / 2) with q | q
    ·exact Nat.lt_trans (hx i _ h hm q) hc
    ·have:i=(lo+hi) / 2:=by omega
     subst this;exact hc
   ·rw [if_neg hc]
    refine ip xs j hx fuel _ _ (by omega) (by omega) (by omega) h1 (fun i h hi'=>?_)
    rcases Nat.lt_or_ge ((lo+hi) / 2) i with q | q
    ·have:=hx _ i hm h q;omega
    ·have:i=(lo+hi) / 2:=by omega
     subst this;omega
  ·rw [if_neg hlt]
   have:lo=hi:=by omega
   subst this
   exact ⟨hs,h1,h2⟩
theorem dm (xs:Array Nat) (j:Nat) (hx:dq xs):SetTable.below xs j≤xs.size∧(∀i (h:i < xs.size),i < SetTable.below xs j→xs[i] < j)∧(∀i (h:i < xs.size),SetTable.below xs j≤i→j≤xs[i]):=
 ip xs j hx _ _ _ (by omega) (by omega) (Nat.le_refl _) (fun i h z=>absurd z (Nat.not_lt_zero _)) (fun i h z=>absurd (Nat.lt_of_lt_of_le h z) (Nat.lt_irrefl _))
theorem cY {xs:Array Nat} {j i:Nat} (hx:dq xs) (h:xs[i]?=some j):SetTable.below xs j=i:=by
 obtain ⟨hi,e⟩:=Array.getElem?_eq_some_iff.mp h
 have b:=dm xs j hx
 rcases Nat.lt_trichotomy (SetTable.below xs j) i with q | q | q
 ·have h1:=b.2.2 (SetTable.below xs j) (by omega) (Nat.le_refl _)
  have h2:=hx _ i (by omega) hi q
  omega
 ·exact q
 ·have:=b.2.1 i hi q
  omega
theorem iR {t:SetTable} {i j:Nat} (hx:dq t.place) (h:t.place[i]?=some j):t.slot j=.live i:=by
 unfold SetTable.slot
 rw [cY hx h]
 dsimp only
 rw [if_pos (by rw [h];simp)]
theorem lu {t:SetTable} {j:Nat} (hd:t.dummies=#[]) (h:j∉t.place.toList):t.slot j=.empty:=by
 unfold SetTable.slot
 dsimp only
 rw [if_neg (by
  intro z
  have z:=eq_of_beq z
  exact h (by rw [Array.mem_toList_iff];exact Array.mem_of_getElem? z)),hd]
 rfl
def road (t:SetTable) (h:Int):Nat→SetTable.Probe
 | 0=>t.probeStart h
 | n+1=>t.advance (road t h n)
theorem iT {t t':SetTable} (e:t.mask=t'.mask) (h:Int):∀n,road t h n=road t' h n
 | 0=>by show t.probeStart h=t'.probeStart h;unfold SetTable.probeStart;rw [e]
 | n+1=>by
  show t.advance (road t h n)=t'.advance (road t' h n)
  rw [iT e h n]
  unfold SetTable.advance
  rw [e]
theorem gU (t:SetTable) (h:Int):∀n,(road t h n).dummy=none
 | 0=>rfl
 | n+1=>by
  have:=gU t h n
  show (t.advance (road t h n)).dummy=none
  unfold SetTable.advance
  split
  ·exact this
  ·exact this
theorem gX {t:SetTable} (hm:t.mask=7) (h:Int):∀n,(road t h n).more=0∧(road t h n).j=(road t h n).i∧(road t h n).i < 8∧(road t h n).perturb=SetTable.bits h / 32^n
 | 0=>by
  show (t.probeStart h).more=0∧_
  unfold road SetTable.probeStart SetTable.runEnd
  rw [hm]
  dsimp only
  refine ⟨by rw [if_neg (by omega)];omega,rfl,Nat.mod_lt _ (by omega),by simp⟩
 | n+1=>by
  obtain ⟨h1,h2,h3,h4⟩:=gX hm h n
  show (t.advance (road t h n)).more=0∧(t.advance (road t h n)).j=(t.advance (road t h n)).i∧(t.advance (road t h n)).i < 8∧(t.advance (road t h n)).perturb=_
  unfold SetTable.advance SetTable.leap SetTable.runEnd
  rw [hm,h1,if_neg (by omega)]
  dsimp only
  refine ⟨by rw [if_neg (by omega)];omega,rfl,Nat.mod_lt _ (by omega),?_⟩
  rw [h4,Nat.div_div_eq_div_mul,Nat.pow_succ]
theorem lF {t:SetTable} (hm:t.mask=7) (h:Int) (n:Nat):(road t h (n+1)).i=((road t h n).i*5+1+(road t h n).perturb / 32) % 8:=by
 obtain ⟨h1,h2,h3,h4⟩:=gX hm h n
 show (t.advance (road t h n)).i=_
 unfold SetTable.advance SetTable.leap
 rw [hm,h1,if_neg (by omega)]
theorem se (h:Int):SetTable.bits h < 32^13:=by
 unfold SetTable.bits
 have:h % (2^64:Int) < 2^64:=Int.emod_lt_of_pos _ (by decide)
 have h0:0≤h % (2^64:Int):=Int.emod_nonneg _ (by decide)
 omega
def lcg (i:Nat):Nat:=(i*5+1) % 8
def rB:Nat→Nat→Nat
 | 0,i=>i
 | n+1,i=>lcg (rB n i)
theorem gW {t:SetTable} (hm:t.mask=7) (h:Int):∀k,(road t h (13+k)).j=rB k (road t h 13).j
 | 0=>rfl
 | k+1=>by
  have ih:=gW hm h k
  rw [(gX hm h _).2.1] at ih
  rw [(gX hm h _).2.1,show 13+(k+1)=(13+k)+1 from rfl,lF hm h (13+k),(gX hm h _).2.2.2]
  have hz:SetTable.bits h / 32^(13+k) / 32=0:=by
   have:SetTable.bits h / 32^(13+k)=0:=by
    refine Nat.div_eq_of_lt (Nat.lt_of_lt_of_le (se h) ?_)
    exact Nat.pow_le_pow_right (by omega) (by omega)
   rw [this]
  rw [hz,ih]
  rfl
theorem rC:∀i:_root_.Fin 8,∀j:_root_.Fin 8,∃k:_root_.Fin 8,rB k.1 i.1=j.1:=by decide
theorem lcg_all' (i j:Nat) (hi:i < 8) (hj:j < 8):∃k,k < 8∧rB k i=j:=by
 obtain ⟨k,hk⟩:=rC ⟨i,hi⟩ ⟨j,hj⟩
 exact ⟨k.1,k.2,hk⟩
theorem nv {t:SetTable} (hm:t.mask=7) (h:Int) (j:Nat) (hj:j < 8):∃n,n < 21∧(road t h n).j=j:=by
 have h13:(road t h 13).j < 8:=by rw [(gX hm h 13).2.1];exact (gX hm h 13).2.2.1
 have hl:=gW hm h
 revert h13 hl
 generalize (road t h 13).j=r
 intro h13 hl
 obtain ⟨k,hk1,hk⟩:=lcg_all' r j h13 hj
 exact ⟨13+k,by omega,(hl k).trans hk⟩
theorem g8 {W:Type} [DecidableEq W]:∀(l ws:List W),l.Nodup→(∀x∈l,x∈ws)→l.length≤ws.length
 | [],ws,_,_=>Nat.zero_le _
 | x::l,ws,hn,hs=>by
  have hn:=List.nodup_cons.mp hn
  have hx:=hs x (.head _)
  have:=g8 l (ws.erase x) hn.2 fun y hy=>by
   have:y≠x:=fun e=>hn.1 (e ▸ hy)
   exact (List.mem_erase_of_ne this).mpr (hs y (.tail _ hy))
  rw [List.length_erase_of_mem hx] at this
  have h0:0 < ws.length:=List.length_pos_of_mem hx
  simp only [List.length_cons]
  omega
theorem lG {t:SetTable} (hm:t.mask=7) (h:Int) (hs:t.place.size < 8):∃n,n < 21∧(road t h n).j∉t.place.toList:=by
 have:∃j,j < 8∧j∉t.place.toList:=by
  apply Classical.byContradiction
  intro z
  have hsub:List.range 8 ⊆ t.place.toList:=fun j hj=>by
   apply Classical.byContradiction
   intro q
   exact z ⟨j,List.mem_range.mp hj,q⟩
  have:=g8 (List.range 8) t.place.toList List.nodup_range hsub
  simp at this
  omega
 obtain ⟨j,hj,hn⟩:=this
 obtain ⟨n,h1,h2⟩:=nv hm h j hj
 exact ⟨n,h1,by rw [h2];exact hn⟩
theorem pK {p:Nat→Prop} [DecidablePred p]:∀{n:Nat},p n→∃m,m≤n∧p m∧∀i,i < m→¬p i
 | 0,h=>⟨0,Nat.le_refl _,h,fun i hi=>absurd hi (Nat.not_lt_zero _)⟩
 | n+1,h=>by
  by_cases q:∃i,i≤n∧p i
  ·obtain ⟨i,hi,hp⟩:=q
   have:∀k,k≤n→p k→∃m,m≤k∧p m∧∀i,i < m→¬p i:=by
    intro k
    induction k using Nat.strongRecOn with
    | _ k ih=>
     intro hk hpk
     by_cases q2:∃i,i < k∧p i
     ·obtain ⟨i,hi,hp⟩:=q2
      obtain ⟨m,h1,h2,h3⟩:=ih i hi (by omega) hp
      exact ⟨m,by omega,h2,h3⟩
     ·exact ⟨k,Nat.le_refl _,hpk,fun i hi hp=>q2 ⟨i,hi,hp⟩⟩
   obtain ⟨m,h1,h2,h3⟩:=this i hi hp
   exact ⟨m,by omega,h2,h3⟩
  ·exact ⟨n+1,Nat.le_refl _,h,fun i hi hp=>q ⟨i,by omega,hp⟩⟩
theorem kq {t:SetTable} (hx:dq t.place) (hd:t.dummies=#[]) (hashAt:Nat→Int) (h:Int) {N:Nat} (hN:(road t h N).j∉t.place.toList):∀(fuel m:Nat),m≤N→N-m < fuel→(∀i,i < N→(road t h i).j∈t.place.toList)→
  (SetTable.probe.go t hashAt h fuel (road t h m)=some (.empty (road t h N).j none)∧(∀c i,m≤c→c < N→t.place[i]?=some (road t h c).j→hashAt i≠h))∨
  ∃c i,m≤c∧c < N∧t.place[i]?=some (road t h c).j∧hashAt i=h∧(∀c' i,m≤c'→c' < c→t.place[i]?=some (road t h c').j→hashAt i≠h)∧SetTable.probe.go t hashAt h fuel (road t h m)=some (.candidate (road t h c).j i (road t h (c+1)))
 | 0,m,hm,hf,hl=>absurd hf (Nat.not_lt_zero _)
 | fuel+1,m,hm,hf,hl=>by
  unfold SetTable.probe.go
  by_cases e:m=N
  ·subst e
   rw [lu hd hN]
   refine .inl ⟨?_,fun c i h1 h2=>absurd h2 (by omega)⟩
   rw [gU]
  ·have hlt:m < N:=by omega
   obtain ⟨i,hi,hv⟩:=Array.getElem_of_mem (Array.mem_toList_iff.mp (hl m hlt))
   have hg:t.place[i]?=some (road t h m).j:=by rw [Array.getElem?_eq_getElem hi,hv]
   rw [iR hx hg]
   dsimp only
   have uni:∀i',t.place[i']?=some (road t h m).j→i'=i:=fun i' h'=>(cY hx h').symm.trans (cY hx hg)
   by_cases hh:hashAt i=h
   ·refine .inr ⟨m,i,Nat.le_refl _,hlt,hg,hh,fun c' i' h1 h2=>absurd h2 (by omega),?_⟩
    rw [if_pos (by rw [hh];simp)]
    rfl
   ·rw [if_neg (by simpa using hh)]
    show _∨_
    rcases kq hx hd hashAt h hN fuel (m+1) hlt (by omega) hl with ⟨h1,h2⟩ | ⟨c,i2,h1,h2,h3,h4,h5,h6⟩
    ·refine .inl ⟨h1,fun c i' hc hcN hp=>?_⟩
     rcases Nat.eq_or_lt_of_le hc with q | q
     ·subst q;rw [uni i' hp];exact hh
     ·exact h2 c i' q hcN hp
    ·refine .inr ⟨c,i2,by omega,h2,h3,h4,fun c' i' hc hcc hp=>?_,h6⟩
     rcases Nat.eq_or_lt_of_le hc with q | q
     ·subst q;rw [uni i' hp];exact hh
     ·exact h5 c' i' q hcc hp
end L2
namespace L2
open PySem PySem.Spec PyProof.Rows PySem.SeqAt
def plT:Nat→PyData→Bool
 | _,.int _=>true
 | _,.str x=>PyData.strOk x
 | n+1,.tuple xs=>xs.all (plT n)
 | _,_=>false
theorem my:∀(n:Nat) {d e:PyData},plT n d=true→plT n e=true→PyData.eqv d e=true→d=e:=by
 intro n
 induction n with
 | zero=>
  intro d e hd he h
  cases d <;> cases e <;> simp_all [plT,PyData.eqv]
 | succ n ih=>
  have hl:∀(xs ys:List PyData),xs.all (plT n)=true→ys.all (plT n)=true→PyData.eqvAll xs ys=true→xs=ys:=by
   intro xs
   induction xs with
   | nil=>intro ys _ _ h;cases ys with | nil=>rfl | cons _ _=>simp [PyData.eqvAll] at h
   | cons x xs ihx=>
    intro ys h1 h2 h
    cases ys with
    | nil=>simp [PyData.eqvAll] at h
    | cons y ys=>
     rw [List.all_cons,Bool.and_eq_true] at h1 h2
     rw [PyData.eqvAll,Bool.and_eq_true] at h
     rw [ih h1.1 h2.1 h.1,ihx ys h1.2 h2.2 h.2]
  intro d e hd he h
  cases d <;> cases e <;> first
   | (simp_all [plT,PyData.eqv];done)
   | (rename_i xs ys;rw [PyData.eqv] at h;rw [hl xs ys hd he h])
theorem gD:∀(n:Nat) {d:PyData},plT n d=true→d.canLay0=true∧d.depth≤n:=by
 intro n
 induction n with
 | zero=>
  intro d hd
  cases d <;> simp_all [plT,PyData.canLay0,PyData.depth]
 | succ n ih=>
  have hl:∀(xs:List PyData),xs.all (plT n)=true→PyData.canLayAll0 xs=true∧PyData.depthAll xs≤n:=by
   intro xs
   induction xs with
   | nil=>intro _;exact ⟨by simp [PyData.canLayAll0],by simp [PyData.depthAll]⟩
   | cons x xs ihx=>
    intro h1
    rw [List.all_cons,Bool.and_eq_true] at h1
    obtain ⟨a1,a2⟩:=ih h1.1
    obtain ⟨b1,b2⟩:=ihx h1.2
    refine ⟨by rw [PyData.canLayAll0,a1,b1];rfl,?_⟩
    rw [PyData.depthAll]
    omega
  intro d hd
  cases d <;> first
   | (simp_all [plT,PyData.canLay0,PyData.depth];done)
   | (rename_i xs;obtain ⟨a1,a2⟩:=hl xs hd;refine ⟨(by rw [PyData.canLay0];exact a1),?_⟩;rw [PyData.depth];omega)
def cF (w:World):Nat→PyData→Int
 | _,.int i=>vi w (.inl i)
 | _,.str x=>vi w (.inr x)
 | n+1,.tuple xs=>reduceHash (Builtin.Tuple.tupleHashOf (xs.map (cF w n)))
 | _,_=>0
section
variable {P:Program} {w:World} {E:Value→Shared→Prop}
theorem nO:∀(n:Nat) {A:Around} {s:Shared} {d:PyData} {v:Value} {as:List Addr} {Q:Int→Shared→Prop},A.units+n < cLine→plT n d=true→Reads s.heap v d as→(∀k,Q (cF w n d) {s with toks:=s.toks+k})→
  wpAny (model P w) A (pyHash v) Q E s:=by
 have leaf:∀(n:Nat) {A:Around} {s:Shared} {d:PyData} {v:Value} {as:List Addr} {Q:Int→Shared→Prop},(∀xs,d≠.tuple xs)→plT n d=true→Reads s.heap v d as→(∀k,Q (cF w n d) {s with toks:=s.toks+k})→wpAny (model P w) A (pyHash v) Q E s:=by
  intro n A s d v as Q hnt hp hr h
  cases hr with
  | int i t=>exact (aV P w).pyHash (k:=.inl i) (gg P w i t) (by have:=h 1;cases n <;> exact this)
  | str x t=>exact (aV P w).pyHash (k:=.inr x) (gf P w x t) (by have:=h 1;cases n <;> exact this)
  | tuple=>exact absurd rfl (hnt _)
  | none=>cases n <;> simp [plT] at hp
  | bool=>cases n <;> simp [plT] at hp
  | list=>cases n <;> simp [plT] at hp
  | dict=>cases n <;> simp [plT] at hp
 intro n
 induction n with
 | zero=>
  intro A s d v as Q hu hp hr h
  exact leaf 0 (fun xs e=>by subst e;simp [plT] at hp) hp hr h
 | succ n ih=>
  intro A s d v as Q hu hp hr h
  by_cases hnt:∀xs,d≠.tuple xs
  ·exact leaf (n+1) hnt hp hr h
  ·have:∃xs,d=.tuple xs:=Classical.byContradiction fun z=>hnt fun xs e=>z ⟨xs,e⟩
   obtain ⟨xs,rfl⟩:=this
   cases hr with
   | @tuple a o vs m _ _ ho hc hd hall=>
    have hT:s.TypeIs (.ref a) "tuple":=⟨o,ho,hc⟩
    have hp':xs.all (plT n)=true:=hp
    unfold pyHash
    first | unfold pyHashByItsType | skip
    first | refine wpAny_bind (wpAny_cRoomFor_or (.inr (by omega)) ?_) | skip
    refine wpAny_bind (wpAny_specialOf hT F.slot_tuple_hash.lookup ?_)
    show wpAny _ _ (if (some (Value.builtin "tuple.__hash__")==some Value.none)=true then _ else _) Q E s
    rw [if_neg (by rw [beq_builtin_none];exact Bool.false_ne_true)]
    refine wpAny_bind (wpAny_specialOf hT F.slot_tuple_hash.lookup ?_)
    show wpAny _ _ (callSpecialIfBoundUnlessNone? (.ref a) "__hash__" _ >>=_) Q E s
    refine wpAny_bind (wpAny_callSpecialIfBoundUnlessNone?_slot hT F.slot_tuple_hash (wpAny_call_entry F.slot_tuple_hash hT F.entry_tuple_hash ?_ (F.args_tuple_hash_1 _)))
    show wpAny _ _ (Builtin.Tuple.tupleItemsOf (.ref a) >>=_) _ _ s
    refine wpAny_bind (wpAny_tupleItemsOf ho hd ?_)
    refine wpAny_bind ?_
    rw [←Array.forIn_toList]
    refine wpAny_forIn_list _
     (fun rest (b:Array Int) s'=>∃done left as',xs=done++left∧ReadsAll s.heap rest left as'∧b.toList=done.map (cF w n)∧∃k,s'={s with toks:=s.toks+k})
     _ ?_ ?_ _ _ ⟨[],xs,_,rfl,hall,rfl,0,rfl⟩
    ·rintro x rest b s' ⟨done,left,as',e,hl,hb,k,rfl⟩
     cases hl with
     | @cons _ _ d1 ds bs cs h1 hl'=>
      have hd1:plT n d1=true:=by
       rw [List.all_eq_true] at hp'
       exact hp' d1 (by rw [e];simp)
      refine wpAny_bind (ih (A:=A.in1) (s:={s with toks:=s.toks+k}) (by rw [Around.in1_units];omega) hd1 h1 fun k2=>?_)
      first
       | exact wpAny_pure ⟨done++[d1],ds,_,by rw [e];simp,hl',by simp [hb],k+k2,by simp [Nat.add_assoc]⟩
       | exact wpAny_bind (wpAny_pure (wpAny_pure ⟨done++[d1],ds,_,by rw [e];simp,hl',by simp [hb],k+k2,by simp [Nat.add_assoc]⟩))
    ·rintro b s' ⟨done,left,as',e,hl,hb,k,rfl⟩
     cases hl
     rw [List.append_nil] at e
     subst e
     show wpAny _ _ (retInt (Builtin.Tuple.tupleHashOf b.toList)) _ _ _
     rw [hb]
     refine wpAny_ret_mkInt ?_
     show wpAny _ _ (if (decide (-(2:Int)^63≤Builtin.Tuple.tupleHashOf (xs.map (cF w n)))&&decide (Builtin.Tuple.tupleHashOf (xs.map (cF w n)) < 2^63))=true then _ else _) Q E _
     have h:=h (k+1)
     unfold cF reduceHash at h
     by_cases hr:(decide (-(2:Int)^63≤Builtin.Tuple.tupleHashOf (xs.map (cF w n)))&&decide (Builtin.Tuple.tupleHashOf (xs.map (cF w n)) < 2^63))=true
     ·rw [if_pos hr]
      rw [if_pos hr] at h
      exact wpAny_pure (by simpa [Nat.add_assoc] using h)
     ·rw [if_neg hr]
      rw [if_neg hr] at h
      exact wpAny_bind (wpAny_rule (wpAny_pure (by simpa [Nat.add_assoc] using h)))
theorem pN (n:Nat) {A:Around} {s:Shared} {d e:PyData} {u v:Value} {as bs:List Addr} {Q:Bool→Shared→Prop} (hu:A.units+n < cLine) (pd:plT n d=true) (pe:plT n e=true) (rd:Reads s.heap u d as) (re:Reads s.heap v e bs) (h:Q (PyData.eqv d e) s):
  wpAny (model P w) A (eqBool u v) Q E s:=by
 have c1:=gD n pd
 have c2:=gD n pe
 refine eqBoolOverData P w A E s u v d e as bs Q rd re c1.1 c2.1 ?_ h
 have:min d.depth e.depth≤d.depth:=Nat.min_le_left _ _
 omega
theorem gd:∀(n:Nat) {A:Around} {s:Shared} {d:PyData} {v:Value} {as:List Addr} {Q:Bool→Shared→Prop},plT n d=true→Reads s.heap v d as→Q true s→∀m,n≤m→wpAny (model P w) A (eqIsQuiet m v) Q E s:=by
 intro n
 induction n with
 | zero=>
  intro A s d v as Q hp hr h m hm
  have:carriedByValue v=true:=by cases hr <;> first | rfl | simp [plT] at hp
  rw [eqIsQuiet_byValue _ this]
  exact wpAny_pure h
 | succ n ih=>
  intro A s d v as Q hp hr h m hm
  cases hr with
  | @tuple a o vs k xs _ ho hc hd hall=>
   obtain ⟨m,rfl⟩:∃m',m=m'+1:=⟨m-1,by omega⟩
   have hT:s.TypeIs (.ref a) "tuple":=⟨o,ho,hc⟩
   have hp':xs.all (plT n)=true:=hp
   unfold eqIsQuiet
   refine wpAny_bind (wpAny_specialOf hT F.slot_tuple_eq.lookup ?_)
   show wpAny _ _ (isInstance (.ref a) (.type "tuple") >>=_) _ _ s
   refine wpAny_bind (wpAny_isInstance hT isSubtype_tuple_tuple ?_)
   simp only [Bool.not_true,Bool.false_eq_true,if_false]
   refine wpAny_bind (wpAny_seqItems ho hd ?_)
   refine wpAny_bind ?_
   show wpAny _ _ (forIn vs _ _) _ _ s
   rw [←Array.forIn_toList]
   refine wpAny_forIn_list _ (fun rest r s'=>r.1=none∧s'=s∧∃ds as',ReadsAll s.heap rest ds as'∧ds.all (plT n)=true) _ ?_ ?_ _ _ ⟨rfl,rfl,xs,_,hall,hp'⟩
   ·rintro v rest r s' ⟨hr,rfl,ds,as',hl,hds⟩
    cases hl with
    | cons h1 h2=>
     rw [List.all_cons,Bool.and_eq_true] at hds
     refine wpAny_bind (ih hds.1 h1 ?_ m (by omega))
     simp only [Bool.not_true,Bool.false_eq_true,if_false]
     exact wpAny_pure ⟨rfl,rfl,_,_,h2,hds.2⟩
   ·rintro ⟨r1,r2⟩ s' ⟨hr,rfl,_⟩
    simp only at hr
    subst hr
    exact wpAny_pure h
  | int i t=>rw [eqIsQuiet_byValue _ rfl];exact wpAny_pure h
  | str i t=>rw [eqIsQuiet_byValue _ rfl];exact wpAny_pure h
  | none=>simp [plT] at hp
  | bool=>simp [plT] at hp
  | list=>simp [plT] at hp
  | dict=>simp [plT] at hp
theorem cP (n:Nat) {v:Value} (h:carriedByValue v=true):ofAClassStatement n v=pure false:=by
 cases v with
 | ref a=>simp [carriedByValue] at h
 | _=>first | rfl | simp [ofAClassStatement] | (unfold ofAClassStatement;rfl)
theorem gq:∀(n:Nat) {A:Around} {s:Shared} {d:PyData} {v:Value} {as:List Addr} {Q:Bool→Shared→Prop},plT n d=true→Reads s.heap v d as→Q false s→∀m,n≤m→wpAny (model P w) A (ofAClassStatement m v) Q E s:=by
 intro n
 induction n with
 | zero=>
  intro A s d v as Q hp hr h m hm
  have:carriedByValue v=true:=by cases hr <;> first | rfl | simp [plT] at hp
  rw [cP _ this]
  exact wpAny_pure h
 | succ n ih=>
  intro A s d v as Q hp hr h m hm
  cases hr with
  | @tuple a o vs k xs _ ho hc hd hall=>
   obtain ⟨m,rfl⟩:∃m',m=m'+1:=⟨m-1,by omega⟩
   have hT:s.TypeIs (.ref a) "tuple":=⟨o,ho,hc⟩
   have hp':xs.all (plT n)=true:=hp
   unfold ofAClassStatement
   refine wpAny_bind (wpAny_typeOf hT ?_)
   dsimp only
   refine wpAny_bind ?_
   refine wpAny_pure ?_
   simp only [Bool.not_true,Bool.false_eq_true,if_false]
   refine wpAny_bind (wpAny_seqItems ho hd ?_)
   dsimp only
   refine wpAny_bind ?_
   show wpAny _ _ (forIn vs _ _) _ _ s
   rw [←Array.forIn_toList]
   refine wpAny_forIn_list _ (fun rest r s'=>r.1=none∧s'=s∧∃ds as',ReadsAll s.heap rest ds as'∧ds.all (plT n)=true) _ ?_ ?_ _ _ ⟨rfl,rfl,xs,_,hall,hp'⟩
   ·rintro v rest r s' ⟨hr,rfl,ds,as',hl,hds⟩
    cases hl with
    | cons h1 h2=>
     rw [List.all_cons,Bool.and_eq_true] at hds
     refine wpAny_bind (ih hds.1 h1 ?_ m (by omega))
     simp only [Bool.not_true,Bool.false_eq_true,if_false]
     exact wpAny_pure ⟨rfl,rfl,_,_,h2,hds.2⟩
   ·rintro ⟨r1,r2⟩ s' ⟨hr,rfl,_⟩
    simp only at hr
    subst hr
    exact wpAny_pure h
  | int i t=>rw [cP _ rfl];exact wpAny_pure h
  | str i t=>rw [cP _ rfl];exact wpAny_pure h
  | none=>simp [plT] at hp
  | bool=>simp [plT] at hp
  | list=>simp [plT] at hp
  | dict=>simp [plT] at hp
theorem nQ:∀(n:Nat) {A:Around} {s:Shared} {d:PyData} {v:Value} {as:List Addr} {Q:Bool→Shared→Prop},plT n d=true→Reads s.heap v d as→(∀b,Q b s)→∀m,wpAny (model P w) A (hashByValue m v) Q E s:=by
 intro n
 induction n with
 | zero=>
  intro A s d v as Q hp hr h m
  cases hr with
  | int i t=>rw [hashByValue_scannable m (x:=.int i t) rfl];exact wpAny_pure (h _)
  | str i t=>rw [hashByValue_scannable m (x:=.str i t) rfl];exact wpAny_pure (h _)
  | none=>simp [plT] at hp
  | bool=>simp [plT] at hp
  | list=>simp [plT] at hp
  | dict=>simp [plT] at hp
  | tuple=>simp [plT] at hp
 | succ n ih=>
  intro A s d v as Q hp hr h m
  cases hr with
  | @tuple a o vs k xs _ ho hc hd hall=>
   have hT:s.TypeIs (.ref a) "tuple":=⟨o,ho,hc⟩
   have hp':xs.all (plT n)=true:=hp
   cases m with
   | zero=>unfold hashByValue;exact wpAny_pure (h _)
   | succ m=>
    unfold hashByValue
    refine wpAny_bind (wpAny_specialOf hT F.slot_tuple_hash.lookup ?_)
    dsimp only
    refine wpAny_bind (wpAny_seqItems ho hd ?_)
    refine wpAny_bind ?_
    show wpAny _ _ (forIn vs _ _) _ _ s
    rw [←Array.forIn_toList]
    refine wpAny_forIn_list _ (fun rest r s'=>r.1=none∧s'=s∧∃ds as',ReadsAll s.heap rest ds as'∧ds.all (plT n)=true) _ ?_ ?_ _ _ ⟨rfl,rfl,xs,_,hall,hp'⟩
    ·rintro v rest r s' ⟨hr,rfl,ds,as',hl,hds⟩
     cases hl with
     | cons h1 h2=>
      rw [List.all_cons,Bool.and_eq_true] at hds
      refine wpAny_bind (ih hds.1 h1 (fun b=>?_) m)
      cases b with
      | true=>
       simp only [Bool.not_true,Bool.false_eq_true,if_false]
       exact wpAny_pure ⟨rfl,rfl,_,_,h2,hds.2⟩
      | false=>
       simp only [Bool.not_false,if_true]
       exact wpAny_pure (wpAny_pure (h _))
    ·rintro ⟨r1,r2⟩ s' ⟨hr,rfl,_⟩
     simp only at hr
     subst hr
     exact wpAny_pure (h _)
  | int i t=>rw [hashByValue_scannable m (x:=.int i t) rfl];exact wpAny_pure (h _)
  | str i t=>rw [hashByValue_scannable m (x:=.str i t) rfl];exact wpAny_pure (h _)
  | none=>simp [plT] at hp
  | bool=>simp [plT] at hp
  | list=>simp [plT] at hp
  | dict=>simp [plT] at hp
end
end L2
namespace L2
open PySem PySem.Spec PyProof.Rows PySem.SeqAt
structure TabOk (es:Array (Int×Value)) (t:SetTable):Prop where
 mask:t.mask=7
 dum:t.dummies=#[]
 ris:dq t.place
 sz:t.place.size=es.size
 le:es.size≤4
 reach:∀(i j:Nat) (e:Int×Value),t.place[i]?=some j→es[i]?=some e→∃n,(road t e.1 n).j=j∧∀m,m < n→(road t e.1 m).j∈t.place.toList
def qb (w:World) (h:Heap) (n:Nat) (e:Int×Value) (d:PyData):Prop:=plT n d=true∧(∃as,Reads h e.2 d as)∧e.1=cF w n d∧∃a,e.2=.ref a
def cR (w:World) (h:Heap) (n:Nat) (es:Array (Int×Value)) (ds:List PyData):Prop:=ds.length=es.size∧∀(i:Nat) (e:Int×Value) (d:PyData),es[i]?=some e→ds[i]?=some d→qb w h n e d
theorem cR.at {w:World} {h:Heap} {n:Nat} {es:Array (Int×Value)} {ds:List PyData} (E:cR w h n es ds) {i:Nat} {e:Int×Value} (he:es[i]?=some e):∃d,ds[i]?=some d∧qb w h n e d:=by
 have hi:i < es.size:=(Array.getElem?_eq_some_iff.mp he).1
 have hd:ds[i]?=some (ds[i]'(by rw [E.1];exact hi)):=List.getElem?_eq_getElem _
 exact ⟨_,hd,E.2 i e _ he hd⟩
theorem TabOk.fits {es:Array (Int×Value)} {t:SetTable} (T:TabOk es t):t.fits es.size=true:=by
 unfold SetTable.fits SetTable.fill
 rw [T.sz,T.dum,T.mask]
 have:=T.le
 simp
 omega
theorem TabOk.nR {es:Array (Int×Value)} {t:SetTable} (T:TabOk es t) (h:Int):∃N,N < 21∧(road t h N).j∉t.place.toList∧∀i,i < N→(road t h i).j∈t.place.toList:=by
 obtain ⟨n,h1,h2⟩:=lG T.mask h (by rw [T.sz];have:=T.le;omega)
 obtain ⟨m,m1,m2,m3⟩:=pK (p:=fun i=>(road t h i).j∉t.place.toList) h2
 exact ⟨m,by omega,m2,fun i hi=>Classical.byContradiction (m3 i hi)⟩
section
variable {P:Program} {w:World} {A:Around} {E:Value→Shared→Prop} {s:Shared}
theorem oE {n:Nat} {x:Value} {dx:PyData} {as:List Addr} (hn:n≤8) (px:plT n dx=true) (rx:Reads s.heap x dx as):∀(ys:List Value),(∀y∈ys,∃d as,plT n d=true∧Reads s.heap y d as)→∀{Q:Bool→Shared→Prop},Q false s→wpAny (model P w) A (searchCouldBeSeen x ys) Q E s:=by
 intro ys hys Q h
 unfold searchCouldBeSeen
 refine wpAny_bind ?_
 refine wpAny_forIn_list _ (fun rest r s'=>r.1=none∧s'=s∧∀y∈rest,∃d as,plT n d=true∧Reads s.heap y d as) _ ?_ ?_ _ _ ⟨rfl,rfl,hys⟩
 ·rintro y rest r s' ⟨hr,rfl,hl⟩
  obtain ⟨d,bs,pd,rd⟩:=hl y (.head _)
  have hl':=fun z hz=>hl z (.tail _ hz)
  dsimp only
  split
  all_goals
   split
   ·exact wpAny_pure ⟨rfl,rfl,hl'⟩
   ·refine wpAny_bind (gd n px rx ?_ 8 hn)
    simp only [Bool.not_true,Bool.false_eq_true,if_false]
    refine wpAny_bind (gd n pd rd ?_ 8 hn)
    simp only [Bool.not_true,Bool.false_eq_true,if_false]
    refine wpAny_bind (gq n px rx ?_ 8 hn)
    simp only [Bool.false_eq_true,if_false]
    refine wpAny_bind (gq n pd rd ?_ 8 hn)
    simp only [Bool.false_eq_true,if_false]
    exact wpAny_pure ⟨rfl,rfl,hl'⟩
 ·rintro ⟨r1,r2⟩ s' ⟨hr,rfl,_⟩
  simp only at hr
  subst hr
  exact wpAny_pure h
theorem ly {a b:Addr} {ob:Obj} {es:Array (Int×Value)} {ep:Nat} {t:SetTable} {n:Nat} {ds:List PyData} {dx:PyData} {as:List Addr} {h:Int} {N:Nat} {Q:SetFound→Shared→Prop}
  (hob:s.heap.get? a=some ob) (hdt:ob.data=.set es ep t) (T:TabOk es t) (L:cR w s.heap n es ds) (hn:n≤8) (hu:A.units+n < cLine) (px:plT n dx=true) (rx:Reads s.heap (.ref b) dx as) (hh:h=cF w n dx)
  (hN:(road t h N).j∉t.place.toList) (hl:∀i,i < N→(road t h i).j∈t.place.toList) (hN21:N < 21)
  (hit:dx∈ds→Q (.there none) s) (miss:dx∉ds→Q (.free (road t h N).j false) s):
  ∀(k fuel m:Nat) (stand:Option SetTable.Probe),N-m=k→m≤N→N-m < fuel→stand.getD (t.probeStart h)=road t h m→(∀(c i:Nat) (d:PyData),c < m→t.place[i]?=some (road t h c).j→ds[i]?=some d→d≠dx)→
   wpAny (model P w) A (setSearchFrom a (.ref b) h true fuel stand) Q E s:=by
 intro k
 induction k using Nat.strongRecOn with
 | _ k ih=>
  intro fuel m stand hk hm hf hst hin
  obtain ⟨fuel,rfl⟩:∃f,fuel=f+1:=⟨fuel-1,by omega⟩
  unfold setSearchFrom
  refine wpAny_bind (wpAny_setState_of hob hdt T.fits ?_)
  dsimp only
  have hgw:t.gaveWay=false:=by unfold SetTable.gaveWay;rw [T.mask];rfl
  rw [hgw]
  simp only [Bool.false_eq_true,if_false]
  rw [hst]
  generalize hha:(fun (i:Nat)=>((es[i]?.map fun (e:Int×Value)=>e.1).getD 0:Int))=hashAt
  have hfuel:N-m < 10*SetTable.turns t.mask:=by unfold SetTable.turns;rw [T.mask];omega
  have hpr:=kq T.ris T.dum hashAt h hN (10*SetTable.turns t.mask) m hm hfuel hl
  have at_:∀i j,t.place[i]?=some j→∃e,es[i]?=some e:=fun i j hj=>by
   have:i < es.size:=by rw [←T.sz];exact (Array.getElem?_eq_some_iff.mp hj).1
   exact ⟨es[i],Array.getElem?_eq_getElem this⟩
  have hhe:∀i e,es[i]?=some e→hashAt i=e.1:=fun i e he=>by rw [←hha];simp [he]
  rcases hpr with ⟨p1,p2⟩ | ⟨c,i,c1,c2,c3,c4,c5,c6⟩
  ·have hp:t.probe hashAt h (road t h m)=some (.empty (road t h N).j none):=p1
   subst hha
   erw [hp]
   dsimp only
   refine wpAny_pure (miss fun hmem=>?_)
   obtain ⟨i,hi⟩:=List.mem_iff_getElem?.mp hmem
   have his:i < es.size:=by rw [←L.1];exact (List.getElem?_eq_some_iff.mp hi).1
   have he:=Array.getElem?_eq_getElem (xs:=es) his
   obtain ⟨hp1,hr1,hh1,_⟩:=L.2 i _ dx he hi
   have hpl:i < t.place.size:=by rw [T.sz];exact his
   have hj:=Array.getElem?_eq_getElem (xs:=t.place) hpl
   obtain ⟨n0,r1,r2⟩:=T.reach i _ _ hj he
   rw [hh1,←hh] at r1 r2
   have hn0:n0 < N:=by
    rcases Nat.lt_trichotomy n0 N with q | q | q
    ·exact q
    ·subst q
     exact absurd (by rw [r1];simp) hN
    ·exact absurd (r2 N q) hN
   rcases Nat.lt_or_ge n0 m with q | q
   ·exact hin n0 i dx q (by rw [r1];exact hj) hi rfl
   ·exact p2 n0 i q hn0 (by rw [r1];exact hj) (by rw [hhe i _ he,hh1,hh])
  ·have hp:t.probe hashAt h (road t h m)=some (.candidate (road t h c).j i (road t h (c+1))):=c6
   subst hha
   erw [hp]
   dsimp only
   obtain ⟨⟨h',y⟩,he⟩:=at_ i _ c3
   obtain ⟨dy,hdy,py,⟨bs,ry⟩,hhy,⟨ya,hya⟩⟩:=L.at he
   dsimp only at ry hhy hya
   subst hya
   have seen:∀{Q':Bool→Shared→Prop},Q' false s→wpAny (model P w) A (searchCouldBeSeen (.ref b) ((es.filter (·.1==h)).toList.map (·.2))) Q' E s:=fun {Q'} q=>by
    refine oE hn px rx _ (fun y hy=>?_) q
    obtain ⟨e,he,rfl⟩:=List.mem_map.mp hy
    have he':e∈es.toList:=by
     have:=Array.mem_toList_iff.mp he
     exact Array.mem_toList_iff.mpr (Array.mem_filter.mp this).1
    obtain ⟨i,hi,hv⟩:=Array.getElem_of_mem (Array.mem_toList_iff.mp he')
    obtain ⟨d,_,pd,⟨bs,rd⟩,_,_⟩:=L.at (i:=i) (e:=e) (by rw [Array.getElem?_eq_getElem hi,hv])
    exact ⟨d,bs,pd,rd⟩
   have go:wpAny (model P w) A (do
     let some (_,y):=es[i]? | unsupported "internal:set-entry"
     let equal←holding [y] (eqBool y (.ref b))
     let (es',_,t')←setState a
     if true&&equal then return .there none
     let some same:=t'.sameMemory t.moves t.mask | unsupported "set.changed-during-lookup:is-the-new-block-at-the-old-address"
     let still←match (if same then t'.slot (road t h c).j else .empty) with
      | .live i'=>match es'[i']? with
       | some (_,y')=>do pure (if←isSame y' y then some i' else none)
       | none=>pure none
      | _=>pure none
     match still with
     | none=>rule "set.search.anew";setSearchFrom a (.ref b) h true fuel none
     | some i'=>if equal then return .there (some i') else setSearchFrom a (.ref b) h true fuel (some (road t h (c+1)))) Q E s:=by
    rw [he]
    dsimp only
    refine wpAny_bind (wpAny_holding (pN n hu py px ry rx ?_))
    refine wpAny_bind (wpAny_setState_of hob hdt T.fits ?_)
    dsimp only
    cases hq:PyData.eqv dy dx with
    | true=>
     rw [Bool.true_and,if_pos rfl]
     refine wpAny_pure (hit ?_)
     rw [←my n py px hq]
     exact List.mem_of_getElem? hdy
    | false=>
     rw [Bool.true_and,if_neg Bool.false_ne_true]
     have hsm:t.sameMemory t.moves t.mask=some true:=by unfold SetTable.sameMemory;rw [if_pos (by simp)]
     rw [hsm]
     dsimp only
     rw [if_pos rfl,iR T.ris c3]
     dsimp only
     rw [he]
     dsimp only
     refine wpAny_bind (wpAny_isSame_ref_self (wpAny_bind (wpAny_pure ?_)))
     rw [if_pos rfl]
     dsimp only
     rw [if_neg Bool.false_ne_true]
     refine ih (N-(c+1)) (by omega) fuel (c+1) _ rfl (by omega) (by omega) rfl fun c' i' d' hc' hp' hd'=>?_
     have his':i' < es.size:=by rw [←L.1];exact (List.getElem?_eq_some_iff.mp hd').1
     have he':=Array.getElem?_eq_getElem (xs:=es) his'
     obtain ⟨pd',_,hh',_⟩:=L.2 i' _ d' he' hd'
     rcases Nat.lt_or_ge c' m with q | q
     ·exact hin c' i' d' q hp' hd'
     ·rcases Nat.lt_or_ge c' c with q2 | q2
      ·intro z
       subst z
       exact c5 c' i' q q2 hp' (by rw [hhe i' _ he',hh',hh])
      ·have:c'=c:=by omega
       subst this
       have:i'=i:=(cY T.ris hp').symm.trans (cY T.ris c3)
       subst this
       intro z
       rw [hdy] at hd'
       injection hd' with hd'
       rw [hd',z,eqv_refl dx (gD n px).1] at hq
       cases hq
   cases hled:t.led with
   | true=>
    simp only [Bool.not_true,Bool.false_eq_true,if_false]
    exact go
   | false=>
    simp only [Bool.not_false,if_true]
    refine wpAny_bind (seen ?_)
    simp only [Bool.false_eq_true,if_false]
    exact go
end
end L2
namespace L2
open PySem PySem.Spec PyProof.Rows PySem.SeqAt
theorem fe {α:Type} (xs:Array α) (p:Nat) (x:α) (hp:p≤xs.size) (i:Nat):(SetTable.insertAt xs p x)[i]?=if i < p then xs[i]? else if i=p then some x else xs[i-1]?:=by
 rw [←Array.getElem?_toList,SetTable.toList_insertAt]
 by_cases h1:i < p
 ·rw [if_pos h1,List.getElem?_append_left (by simp;omega),List.getElem?_take,if_pos h1,Array.getElem?_toList]
 ·rw [if_neg h1,List.getElem?_append_right (by simp;omega)]
  have hl:(xs.toList.take p).length=p:=by simp;omega
  rw [hl]
  by_cases h2:i=p
  ·subst h2
   rw [if_pos rfl,Nat.sub_self]
   rfl
  ·rw [if_neg h2]
   obtain ⟨k,hk⟩:∃k,i-p=k+1:=⟨i-p-1,by omega⟩
   rw [hk,List.getElem?_cons_succ,List.getElem?_drop,Array.getElem?_toList]
   congr 1
   omega
def pF (ds:List PyData) (p:Nat) (d:PyData):List PyData:=ds.take p++d::ds.drop p
theorem iZ (ds:List PyData) (p:Nat) (d:PyData):(pF ds p d).Perm (ds++[d]):=by
 unfold pF
 have h1:(ds.take p++d::ds.drop p).Perm (d::(ds.take p++ds.drop p)):=List.perm_middle
 rw [List.take_append_drop] at h1
 exact h1.trans (List.perm_append_singleton d ds).symm
theorem pE (ds:List PyData) (p:Nat) (d:PyData) (hp:p≤ds.length) (i:Nat):(pF ds p d)[i]?=if i < p then ds[i]? else if i=p then some d else ds[i-1]?:=by
 unfold pF
 by_cases h1:i < p
 ·rw [if_pos h1,List.getElem?_append_left (by simp;omega),List.getElem?_take,if_pos h1]
 ·rw [if_neg h1,List.getElem?_append_right (by simp;omega)]
  have hl:(ds.take p).length=p:=by simp;omega
  rw [hl]
  by_cases h2:i=p
  ·subst h2
   rw [if_pos rfl,Nat.sub_self]
   rfl
  ·rw [if_neg h2]
   obtain ⟨k,hk⟩:∃k,i-p=k+1:=⟨i-p-1,by omega⟩
   rw [hk,List.getElem?_cons_succ,List.getElem?_drop]
   congr 1
   omega
theorem dq.ins {xs:Array Nat} {j:Nat} (hx:dq xs) (hj:j∉xs.toList):dq (SetTable.insertAt xs (SetTable.below xs j) j):=by
 obtain ⟨b1,b2,b3⟩:=dm xs j hx
 have g:=fe xs (SetTable.below xs j) j b1
 generalize SetTable.below xs j=p at b1 b2 b3 g
 intro i k hi hk hik
 have gi:=g i
 have gk:=g k
 rw [Array.getElem?_eq_getElem hi] at gi
 rw [Array.getElem?_eq_getElem hk] at gk
 have b3':∀i (h:i < xs.size),p≤i→j < xs[i]:=fun i h q=>by
  rcases Nat.lt_or_ge j xs[i] with z | z
  ·exact z
  ·have y0:=b3 i h q
   have y1:xs[i]=j:=by omega
   have y2:xs[i]∈xs.toList:=by simp
   rw [y1] at y2
   exact absurd y2 hj
 have some_lt:∀{i v:Nat},some v=xs[i]?→∃h:i < xs.size,v=xs[i]:=fun {i v} e=>by
  obtain ⟨h1,h2⟩:=Array.getElem?_eq_some_iff.mp e.symm
  exact ⟨h1,h2.symm⟩
 by_cases i1:i < p
 ·rw [if_pos i1] at gi
  obtain ⟨hi',ei⟩:=some_lt gi
  rw [ei]
  by_cases k1:k < p
  ·rw [if_pos k1] at gk
   obtain ⟨hk',ek⟩:=some_lt gk
   rw [ek];exact hx i k hi' hk' hik
  ·rw [if_neg k1] at gk
   by_cases k2:k=p
   ·rw [if_pos k2] at gk
    injection gk with gk
    rw [gk];exact b2 i hi' i1
   ·rw [if_neg k2] at gk
    obtain ⟨hk',ek⟩:=some_lt gk
    rw [ek];exact Nat.lt_trans (b2 i hi' i1) (b3' _ hk' (by omega))
 ·rw [if_neg i1] at gi
  have k1:¬k < p:=by omega
  have k2:¬k=p:=by omega
  rw [if_neg k1,if_neg k2] at gk
  obtain ⟨hk',ek⟩:=some_lt gk
  rw [ek]
  by_cases i2:i=p
  ·rw [if_pos i2] at gi
   injection gi with gi
   rw [gi];exact b3' _ hk' (by omega)
  ·rw [if_neg i2] at gi
   obtain ⟨hi',ei⟩:=some_lt gi
   rw [ei];exact hx _ _ hi' hk' (by omega)
theorem rM {xs:Array Nat} {p j:Nat} (hp:p≤xs.size) {k:Nat}:k∈(SetTable.insertAt xs p j).toList↔k=j∨k∈xs.toList:=by
 rw [(SetTable.insertAt_perm xs p j).mem_iff]
 simp [or_comm]
theorem TabOk.put {es:Array (Int×Value)} {t t':SetTable} (T:TabOk es t) (hle:es.size≤3) {h:Int} {x:Value} {N:Nat} (hN:(road t h N).j∉t.place.toList) (hl:∀i,i < N→(road t h i).j∈t.place.toList)
  (ht:t'.mask=t.mask∧t'.dummies=t.dummies∧t'.place=SetTable.insertAt t.place (SetTable.below t.place (road t h N).j) (road t h N).j):
  TabOk (SetTable.insertAt es (SetTable.below t.place (road t h N).j) (h,x)) t':=by
 obtain ⟨t1,t2,t3⟩:=ht
 have hb:=(dm t.place (road t h N).j T.ris).1
 have hb':SetTable.below t.place (road t h N).j≤es.size:=by rw [←T.sz];exact hb
 have hs1:(SetTable.insertAt t.place (SetTable.below t.place (road t h N).j) (road t h N).j).size=t.place.size+1:=by
  have:=(SetTable.insertAt_perm t.place (SetTable.below t.place (road t h N).j) (road t h N).j).length_eq
  simpa using this
 have hs2:(SetTable.insertAt es (SetTable.below t.place (road t h N).j) (h,x)).size=es.size+1:=by
  have:=(SetTable.insertAt_perm es (SetTable.below t.place (road t h N).j) (h,x)).length_eq
  simpa using this
 have hr:∀h' n,road t' h' n=road t h' n:=fun h' n=>iT t1 h' n
 refine ⟨t1.trans T.mask,t2.trans T.dum,by rw [t3];exact T.ris.ins hN,by rw [t3,hs1,hs2,T.sz],by rw [hs2];omega,fun i j e hi he=>?_⟩
 rw [t3,fe _ _ _ hb] at hi
 rw [fe _ _ _ hb'] at he
 simp only [hr,t3,rM hb]
 by_cases i1:i < SetTable.below t.place (road t h N).j
 ·rw [if_pos i1] at hi he
  obtain ⟨n,n1,n2⟩:=T.reach i j e hi he
  exact ⟨n,n1,fun m hm=>.inr (n2 m hm)⟩
 ·rw [if_neg i1] at hi he
  by_cases i2:i=SetTable.below t.place (road t h N).j
  ·rw [if_pos i2] at hi he
   injection hi with hi
   injection he with he
   subst hi;subst he
   exact ⟨N,rfl,fun m hm=>.inr (hl m hm)⟩
  ·rw [if_neg i2] at hi he
   obtain ⟨n,n1,n2⟩:=T.reach _ j e hi he
   exact ⟨n,n1,fun m hm=>.inr (n2 m hm)⟩
theorem cR.put {w:World} {h:Heap} {n:Nat} {es:Array (Int×Value)} {ds:List PyData} (L:cR w h n es ds) {p:Nat} (hp:p≤es.size) {e:Int×Value} {d:PyData} (E:qb w h n e d):cR w h n (SetTable.insertAt es p e) (pF ds p d):=by
 have hpd:p≤ds.length:=by rw [L.1];exact hp
 refine ⟨?_,fun i e' d' he hd=>?_⟩
 ·have h1:=(SetTable.insertAt_perm es p e).length_eq
  have h2:=(iZ ds p d).length_eq
  simp at h1 h2
  rw [h2,h1,L.1]
 ·rw [fe _ _ _ hp] at he
  rw [pE _ _ _ hpd] at hd
  by_cases i1:i < p
  ·rw [if_pos i1] at he hd
   exact L.2 i e' d' he hd
  ·rw [if_neg i1] at he hd
   by_cases i2:i=p
   ·rw [if_pos i2] at he hd
    injection he with he
    injection hd with hd
    subst he;subst hd
    exact E
   ·rw [if_neg i2] at he hd
    exact L.2 _ e' d' he hd
theorem eM {h h':Heap} (hk:∀b o vs m,h.get? b=some o→o.data=.seq vs m→h'.get? b=some o):∀(n:Nat) {d:PyData} {v:Value} {as:List Addr},plT n d=true→Reads h v d as→Reads h' v d as:=by
 intro n
 induction n with
 | zero=>
  intro d v as hp hr
  cases hr with
  | int i t=>exact .int i t
  | str x t=>exact .str x t
  | none=>simp [plT] at hp
  | bool=>simp [plT] at hp
  | list=>simp [plT] at hp
  | dict=>simp [plT] at hp
  | tuple=>simp [plT] at hp
 | succ n ih=>
  have hl:∀(ds:List PyData) {vs:List Value} {as:List Addr},ds.all (plT n)=true→ReadsAll h vs ds as→ReadsAll h' vs ds as:=by
   intro ds
   induction ds with
   | nil=>intro vs as _ hr;cases hr;exact .nil
   | cons d ds ihd=>
    intro vs as hp hr
    rw [List.all_cons,Bool.and_eq_true] at hp
    cases hr with
    | cons h1 h2=>exact .cons (ih hp.1 h1) (ihd hp.2 h2)
  intro d v as hp hr
  cases hr with
  | int i t=>exact .int i t
  | str x t=>exact .str x t
  | none=>simp [plT] at hp
  | bool=>simp [plT] at hp
  | list=>simp [plT] at hp
  | dict=>simp [plT] at hp
  | tuple h1 h2 h3 h4=>exact .tuple (hk _ _ _ _ h1 h3) h2 h3 (hl _ hp h4)
theorem cR.keep {w:World} {h h':Heap} {n:Nat} {es:Array (Int×Value)} {ds:List PyData} (L:cR w h n es ds) (hk:∀b o vs m,h.get? b=some o→o.data=.seq vs m→h'.get? b=some o):cR w h' n es ds:=
 ⟨L.1,fun i e d he hd=>by
  obtain ⟨a1,⟨as,a2⟩,a3,a4⟩:=L.2 i e d he hd
  exact ⟨a1,⟨as,eM hk n a1 a2⟩,a3,a4⟩⟩
def pJ (ds:List PyData) (d:PyData):Bool:=ds.any fun e=>PyData.eqv e d
def jW (ds:List PyData) (d:PyData):List PyData:=if pJ ds d then ds else ds++[d]
theorem pI {n:Nat} {ds:List PyData} {d:PyData} (hs:∀e∈ds,plT n e=true) (hd:plT n d=true):pJ ds d=true↔d∈ds:=by
 unfold pJ
 rw [List.any_eq_true]
 constructor
 ·rintro ⟨e,he,q⟩
  rw [←my n (hs e he) hd q];exact he
 ·intro h
  exact ⟨d,h,eqv_refl d (gD n hd).1⟩
section
variable {P:Program} {w:World} {A:Around} {E:Value→Shared→Prop} {s:Shared}
end
end L2
namespace L2
open PySem PySem.Spec PyProof.Rows PySem.SeqAt
theorem sub_tuple_set':isSubtype (.type "tuple") (.type "set")=pure false:=by rw [isSubtype_type];kernel_rfl
theorem sub_tuple_frozenset':isSubtype (.type "tuple") (.type "frozenset")=pure false:=by rw [isSubtype_type];kernel_rfl
section
variable {P:Program} {w:World}
structure Adds (P:Program) (w:World) (A:Around) (h₀:Heap) (S:Addr) (items:Array Value) (J:Nat→Heap→Prop):Prop where
 frame:∀(i:Nat) (h h':Heap),(∀o,h.get? S=some o→h'.get? S=some o)→J i h→J i h'
 fresh:∀(led:Bool) (h:Heap),h.get? S=some {cls:=.type "set",dict:=none,data:=.set #[] 0 (.fresh 0 0 led)}→J 0 h
 step:∀(i:Nat) (v:Value) (s:Shared) (E:Value→Shared→Prop) (Q:Bool→Shared→Prop),items[i]?=some v→J i s.heap→(∀b o,h₀.get? b=some o→s.heap.get? b=some o)→
  (∀r h' tk,s.toks≤tk→Heap.SameBut S s.heap h'→J (i+1) h'→Q r {s with heap:=h',toks:=tk})→wpAny (model P w) A (setAdd S v) Q E s
theorem oD {A:Around} {R:Result→Shared→Prop} {I:Addr} {fp wr:List Addr} {G:Array GenState→Array GenState→Prop} {items:Array Value} {St:Nat→Shared→Prop} {h₀:Heap} {S:Addr} {J:Nat→Heap→Prop}
  (W:WalksS P w A.in1 I fp wr G items.size (fun i v=>items[i]?=some v) St) (hSf:S∉fp) (D:Adds P w A.in1 h₀ S items J) (hw0:∀b∈wr,h₀.get? b=none) (hS0:h₀.get? S=none):
  ∀(k i:Nat) (s:Shared),items.size-i=k→i≤items.size→St i s→J i s.heap→(∀b o,h₀.get? b=some o→s.heap.get? b=some o)→
   (∀s',Moved (S::wr) G s s'→J items.size s'.heap→R (.ok (.ret .none)) s')→
   codeAny (model P w) A (.builtin "set.update.loop" ⟨[.ref S,.ref I],[]⟩) R s:=by
 have hSw:S∉wr:=fun h=>hSf (W.sub _ h)
 have hsub:∀b∈wr,b∈S::wr:=fun b hb=>List.mem_cons_of_mem _ hb
 intro k
 induction k with
 | zero=>
  intro i s hk hi hst hJ h0 hR
  have hin:i=items.size:=by omega
  subst hin
  refine codeAny_builtin F.entry_set_update_loop ?_
  rw [Around.under_plainId F.plain_set_update_loop _]
  show wpAny _ A.in1 (pyNext (.ref I) >>=_) _ _ s
  refine wpAny_bind (W.done s _ _ hst fun s' hm=>?_)
  show wpAny _ A.in1 (ret Value.none) _ _ s'
  exact wpAny_pure (hR s' (hm.mono hsub) (D.frame _ _ _ (fun o e=>hm.heap S o hSw e) hJ))
 | succ k ih=>
  intro i s hk hi hst hJ h0 hR
  have hlt:i < items.size:=by omega
  refine codeAny_builtin F.entry_set_update_loop ?_
  rw [Around.under_plainId F.plain_set_update_loop _]
  show wpAny _ A.in1 (pyNext (.ref I) >>=_) _ _ s
  refine wpAny_bind (W.item i s _ _ hlt hst fun v s' hP hst' hm=>?_)
  have hJ':=D.frame i s.heap s'.heap (fun o e=>hm.heap S o hSw e) hJ
  have h0':∀b o,h₀.get? b=some o→s'.heap.get? b=some o:=fun b o e=>hm.heap b o (fun hb=>by rw [hw0 b hb] at e;cases e) (h0 b o e)
  show wpAny _ A.in1 (holding [v] (setAdd S v) >>=_) _ _ s'
  refine wpAny_bind (wpAny_holding (D.step i v s' _ _ hP hJ' h0' fun r h' tk htk hsb hJ2=>?_))
  refine wpAny_pure ⟨plainId_quiet F.plain_set_update_loop _,ih (i+1) _ (by omega) hlt (W.frame _ s' _ _ hst' htk fun b hb o e=>?_) hJ2 (fun b o e=>?_) fun s'' hm'' hJ''=>?_⟩
  ·rw [hsb.2 b (fun h:b=S=>hSf (by rw [←h];exact hb))];exact e
  ·rw [hsb.2 b (fun h:b=S=>by rw [h,hS0] at e;cases e)];exact h0' b o e
  ·refine hR s'' (Moved.trans W.gtrans ((hm.mono hsub).then_heap htk fun b o hb e=>?_) hm'') hJ''
   rw [hsb.2 b (fun h:b=S=>hb (by rw [h];exact List.mem_cons_self))];exact e
variable {A:Around} {E:Value→Shared→Prop} {s:Shared}
set_option maxHeartbeats 3200000 in
theorem dY {l:Addr} {items:Array Value} {J:Nat→Heap→Prop} {Q:Value→Shared→Prop}
  (hh:A.handled=none) (hl:s.heap.IsTuple l items) (D:∀A':Around,A'.handled=none→A'.units≤A.units+8→Adds P w A' s.heap s.heap.objs.size items J)
  (h:∀(h':Heap) (tk:Nat),J items.size h'→(∀b o,b < s.heap.objs.size→s.heap.get? b=some o→h'.get? b=some o)→Q (.ref s.heap.objs.size) {s with heap:=h',toks:=tk}):
  wpAny (model P w) A (call (.type "set") [.ref l]) Q E s:=by
 obtain ⟨c,tl,hmro⟩:=F.called_set.mro
 have hmade:=F.called_set.made
 have hsub:=F.called_set.sub
 refine wpAny_call (codeAny_of_tree ?_)
 show wpAny _ _ (callAny (.type "set") _) _ _ _
 refine wpAny_pure ⟨Code.quiet_builtin _ (by decide+kernel),codeAny_builtin F.entry_type_call ?_⟩
 rw [Around.under_plain (weight_type_call_type "set" [.ref l] []) rfl]
 have h1:=F.called_set.notType
 have h2:=F.called_set.canCreate
 have hct:=F.typeCall_set_1 (.ref l)
 repeat (any_goals (first | assumption | wp_step))
 refine codeAny_mono (code_set_new_1 (.ref l) (E:=E) (Q₁:=fun obj s₁=>∃led:Bool,obj=.ref s.heap.objs.size∧s₁={s with heap:=s.heap.push {cls:=.type "set",dict:=none,data:=.set #[] 0 (.fresh 0 0 led)}}) fun led=>⟨led,rfl,rfl⟩) fun r s₁ hr=>?_
 cases r with
 | error e=>exact hr
 | ok fl=>
  cases fl with
  | ret obj=>
   obtain ⟨led,rfl,rfl⟩:=hr
   have hS:(s.heap.push {cls:=.type "set",dict:=none,data:=.set #[] 0 (.fresh 0 0 led)}).get? s.heap.objs.size=some {cls:=.type "set",dict:=none,data:=.set #[] 0 (.fresh 0 0 led)}:=Heap.get?_push_size _ rfl
   have hT:Shared.TypeIs {s with heap:=s.heap.push {cls:=.type "set",dict:=none,data:=.set #[] 0 (.fresh 0 0 led)}} (.ref s.heap.objs.size) "set":=⟨_,hS,rfl⟩
   have hli:=F.called_set.init.lookup
   have hbi:=F.called_set.init.bind (.ref s.heap.objs.size)
   repeat (any_goals (first | assumption | wp_step))
   refine codeAny_mono (codeAny_call_builtin (R:=wants (fun r s₂=>r=.none∧∃h' tk,s₂={s with heap:=h',toks:=tk}∧J items.size h'∧
     (∀b o,b < s.heap.objs.size→s.heap.get? b=some o→h'.get? b=some o)) E) F.called_set.init.plain F.entry_set_init (check_set_init_1 hT ?_)) fun r₂ s₂ hr₂=>?_
   ·obtain ⟨ol,hol,hcl,nl,hdl⟩:=hl
    obtain ⟨ocls,odict,odata,oslots⟩:=ol
    simp only at hcl hdl
    subst hcl;subst hdl
    have hol':(s.heap.push {cls:=.type "set",dict:=none,data:=.set #[] 0 (.fresh 0 0 led)}).get? l=some {cls:=.type "tuple",dict:=odict,data:=.seq items nl,slots:=oslots}:=Heap.get?_push_of_some _ hol
    have hsls:=sub_tuple_set'
    have hslf:=sub_tuple_frozenset'
    have hne:(Value.type "tuple"==Value.type "dict")=false:=by decide
    have hl1:(s.heap.push {cls:=.type "set",dict:=none,data:=.set #[] 0 (.fresh 0 0 led)}).IsTuple l items:=⟨_,hol',rfl,nl,rfl⟩
    unfold Builtin.«set.__init__» noKeywords Builtin.Frozenset.updateFrom
    generalize hPI:pyIter=PI
    wp_walk
    subst hPI
    refine wpAny_pyIter_tuple hl1 ?_
    refine wpAny_bind (wpAny_runValue ?_)
    have hlS:l < s.heap.objs.size:=Heap.lt_size hol
    have hh3:A.in1.in1.in1.handled=none:=by simp [hh]
    have hneI:l≠(s.heap.push {cls:=.type "set",dict:=none,data:=.set #[] 0 (.fresh 0 0 led)}).objs.size:=by
     rw [Heap.size_push];exact Nat.ne_of_lt (Nat.lt_succ_of_lt hlS)
    have hSf:s.heap.objs.size∉[(s.heap.push {cls:=.type "set",dict:=none,data:=.set #[] 0 (.fresh 0 0 led)}).objs.size,l]:=by
     rw [Heap.size_push];simp only [List.mem_cons,List.mem_singleton,List.not_mem_nil,or_false,not_or]
     exact ⟨Nat.ne_of_lt (Nat.lt_succ_self _),Nat.ne_of_gt hlS⟩
    have none_of:∀b,s.heap.objs.size≤b→s.heap.get? b=none:=fun b hb=>by
     cases q:s.heap.get? b with
     | none=>rfl
     | some o=>exact absurd (Heap.lt_size q) (Nat.not_lt.mpr hb)
    refine oD ((Walks.tuple hh3 _ l hneI items).toS) hSf (D _ hh3 (by simp only [Around.in1_units];omega)) (fun b hb=>?_) (none_of _ (Nat.le_refl _)) (items.size-0) 0 _ (by omega) (Nat.zero_le _)
     ⟨⟨_,Heap.get?_push_size _ rfl,rfl,rfl⟩,(hl1.push _)⟩ ?hS0 ?hK ?hR
    ·rw [List.mem_singleton] at hb
     subst hb
     exact none_of _ (by rw [Heap.size_push];omega)
    case hS0=>
     exact (D A hh (by omega)).fresh led _ (Heap.get?_push_of_some _ hS)
    case hK=>
     intro b o e
     exact Heap.get?_push_of_some _ (Heap.get?_push_of_some _ e)
    case hR=>
     intro s' hm hJ'
     obtain ⟨h',g',d',tk',os'⟩:=s'
     have eg:g'=s.gens:=hm.gens
     have ed:d'=s.drawn:=hm.drawn
     have eo:os'=s.os:=hm.os
     subst eg;subst ed;subst eo
     show wpAny _ _ _ _ _ _
     refine wpAny_pure ?_
     show wpAny _ _ (ret Value.none) _ _ _
     refine wpAny_pure ⟨rfl,h',tk',rfl,hJ',fun b o hb e=>?_⟩
     have hb1:b≠s.heap.objs.size:=Nat.ne_of_lt hb
     have hb2:b≠(s.heap.push {cls:=.type "set",dict:=none,data:=.set #[] 0 (.fresh 0 0 led)}).objs.size:=by
      rw [Heap.size_push];exact Nat.ne_of_lt (Nat.lt_succ_of_lt hb)
     exact hm.heap b o (by simp only [List.mem_cons,List.mem_singleton,List.not_mem_nil,or_false,not_or];exact ⟨hb1,hb2⟩) (Heap.get?_push_of_some _ (Heap.get?_push_of_some _ e))
   ·cases r₂ with
    | error e=>exact hr₂
    | ok fl₂=>
     cases fl₂ with
     | ret r=>
      obtain ⟨rfl,h',tk,rfl,hJ',hk'⟩:=hr₂
      repeat (any_goals (first | assumption | wp_step))
      exact h _ _ hJ' hk'
     | _=>exact hr₂.elim
  | _=>exact hr.elim
end
end L2
namespace L2
open PySem PySem.Spec PyProof.Rows PySem.SeqAt
def TSB (w:World) (h₀ h:Heap) (a:Addr) (n:Nat) (ds:List PyData):Prop:=
 ∃o es ep t ds',h.get? a=some o∧o.ExactSet∧o.data=.set es ep t∧TabOk es t∧cR w h₀ n es ds'∧ds'.Perm ds
section
variable {P:Program} {w:World} {A:Around} {E:Value→Shared→Prop} {s:Shared}
theorem ix {h₀:Heap} {a b:Addr} {n:Nat} {ds:List PyData} {dx:PyData} {as:List Addr} {Q:Bool→Shared→Prop} (keep:∀b o,h₀.get? b=some o→s.heap.get? b=some o) (hS:TSB w h₀ s.heap a n ds) (hn:n≤8) (hu:A.units+n < cLine) (px:plT n dx=true) (rx0:Reads h₀ (.ref b) dx as) (hroom:ds.length≤3)
  (h:∀r h',Heap.SameBut a s.heap h'→TSB w h₀ h' a n (jW ds dx)→Q r {s with heap:=h'}):wpAny (model P w) A (setAddHashed a (.ref b) (cF w n dx)) Q E s:=by
 obtain ⟨ob,es,ep,t,ds',hob,hex,hdt,T,L0,hperm⟩:=id hS
 have L:=L0.keep (h':=s.heap) fun b o _ _ e _=>keep b o e
 have rx:=eM (h':=s.heap) (fun b o _ _ e _=>keep b o e) n px rx0
 obtain ⟨N,N1,N2,N3⟩:=T.nR (cF w n dx)
 have hpl:∀e∈ds,plT n e=true:=fun e he=>by
  obtain ⟨i,hi⟩:=List.mem_iff_getElem?.mp (hperm.mem_iff.mpr he)
  have his:i < es.size:=by rw [←L.1];exact (List.getElem?_eq_some_iff.mp hi).1
  exact (L.2 i _ e (Array.getElem?_eq_getElem his) hi).1
 have hmem:=pI hpl px
 unfold setAddHashed setAddHashedIn
 refine wpAny_holding (wpAny_bind (wpAny_setState_of hob hdt T.fits ?_));dsimp only
 rw [if_neg (by show ¬(byScan (Value.ref b) es=true);unfold byScan Value.scannable;simp)]
 refine wpAny_bind ?_
 unfold setSearch
 refine ly hob hdt T L hn hu px rx rfl N2 N3 N1 (fun hit=>?_) (fun miss=>?_) _ 100000 0 none rfl (Nat.zero_le _) (by omega) rfl (fun c i d hc=>absurd hc (Nat.not_lt_zero _))
 ·dsimp only
  refine wpAny_pure ?_
  refine h false s.heap (Heap.SameBut.refl a s.heap) ?_
  unfold jW
  rw [if_pos (hmem.mpr (hperm.mem_iff.mp hit))]
  exact hS
 ·dsimp only
  have hno:pJ ds dx=false:=by
   cases q:pJ ds dx with
   | false=>rfl
   | true=>exact absurd (hperm.mem_iff.mpr (hmem.mp q)) miss
  refine wpAny_bind (wpAny_setState_of hob hdt T.fits ?_)
  dsimp only
  have hlen:es.size≤3:=by rw [←L.1,hperm.length_eq];exact hroom
  have hb':SetTable.below t.place (road t (cF w n dx) N).j≤es.size:=by rw [←T.sz];exact (dm _ _ T.ris).1
  have hdm:(t.put (road t (cF w n dx) N).j).1.dummies=t.dummies:=by
   unfold SetTable.put
   dsimp only
   rw [T.dum]
   rfl
  have fin:∀(t2:SetTable),t2.mask=t.mask→t2.dummies=t.dummies→t2.place=SetTable.insertAt t.place (SetTable.below t.place (road t (cF w n dx) N).j) (road t (cF w n dx) N).j→t2.led=t.led→
    wpAny (model P w) A (do
     storeSet a (SetTable.insertAt es (SetTable.below t.place (road t (cF w n dx) N).j) (cF w n dx,.ref b)) t2
     if (!false&&t2.tooFull)=true then do
      setRelay a (SetTable.grown (es.size+1))
      pure true
     else pure true) Q E s:=fun t2 m1 m2 m3 m4=>by
   have T2:=T.put hlen (x:=.ref b) N2 N3 ⟨m1,m2,m3⟩
   have hsz:=T2.le
   refine wpAny_bind (wpAny_storeSet_of hob hdt ?_ (fits_of_scanBound (by unfold scanBound;omega)))
   have hnf:t2.tooFull=false:=by
    unfold SetTable.tooFull SetTable.fill
    have h1:=T2.sz
    rw [T2.mask,T2.dum]
    simp
    omega
   rw [hnf,if_neg (by simp)]
   refine wpAny_pure (h true _ (Heap.SameBut.update s.heap a (Obj.putSet _ t2)) ?_)
   have hget:=Heap.get?_update_self (Obj.putSet (SetTable.insertAt es (SetTable.below t.place (road t (cF w n dx) N).j) (cF w n dx,.ref b)) t2) hob (by rw [putSet_of _ t2 hdt];rfl)
   rw [putSet_of _ t2 hdt] at hget
   unfold jW
   rw [if_neg (by rw [hno];simp)]
   exact ⟨_,_,_,_,_,hget,hex,rfl,T2,L0.put hb' ⟨px,⟨as,rx0⟩,rfl,⟨b,rfl⟩⟩,(iZ _ _ _).trans (hperm.append_right _)⟩
  cases hpn:(t.put (road t (cF w n dx) N).j).1.plain with
  | true=>
   rw [if_pos rfl]
   refine wpAny_bind (nQ n px rx (fun bv=>?_) 8)
   cases bv with
   | true=>exact fin _ rfl hdm rfl rfl
   | false=>exact fin _ rfl hdm rfl rfl
  | false=>
   rw [if_neg Bool.false_ne_true]
   refine wpAny_bind (wpAny_pure ?_)
   exact fin _ rfl hdm rfl rfl
end
def dn (ds:List PyData):List PyData:=ds.foldl jW []
theorem kU (ds:List PyData) (d:PyData):dn (ds++[d])=jW (dn ds) d:=by unfold dn;rw [List.foldl_append];rfl
theorem p9 (ds:List PyData) (d:PyData):(jW ds d).length≤ds.length+1:=by unfold jW;split <;> simp
theorem ir (ds:List PyData):(dn ds).length≤ds.length:=by
 have:∀(ds acc:List PyData),(ds.foldl jW acc).length≤acc.length+ds.length:=by
  intro ds
  induction ds with
  | nil=>intro acc;simp
  | cons d ds ih=>intro acc;rw [List.foldl_cons];have:=ih (jW acc d);have:=p9 acc d;simp only [List.length_cons];omega
 have:=this ds []
 unfold dn
 simpa using this
theorem take_snoc {α:Type} {l:List α} {i:Nat} {x:α} (h:l[i]?=some x):l.take (i+1)=l.take i++[x]:=by rw [List.take_add_one,h];rfl
theorem ReadsAll.nth {h:Heap}:∀{vs:List Value} {ds:List PyData} {as:List Addr} {i:Nat} {v:Value},ReadsAll h vs ds as→vs[i]?=some v→∃d bs,ds[i]?=some d∧Reads h v d bs
 | _,_,_,0,_,.cons h1 _,e=>by simp at e;subst e;exact ⟨_,_,rfl,h1⟩
 | _,_,_,i+1,_,.cons _ h2,e=>by
  rw [List.getElem?_cons_succ] at e
  obtain ⟨d,bs,q1,q2⟩:=ReadsAll.nth h2 e
  exact ⟨d,bs,q1,q2⟩
def hW:PyData→Bool
 | .tuple _=>true
 | _=>false
theorem p7 {P:Program} {w:World} {A:Around} {h₀:Heap} {S:Addr} {items:Array Value} {ds:List PyData} {as:List Addr} (hu:A.units+8 < cLine) (hr:ReadsAll h₀ items.toList ds as) (hp:ds.all (plT 8)=true) (ht:ds.all hW=true) (hl:ds.length≤4):
  Adds P w A h₀ S items (fun i h=>TSB w h₀ h S 8 (dn (ds.take i))) where
 frame:=fun i h h' k=>by
  rintro ⟨o,es,ep,t,ds',e,r⟩
  exact ⟨o,es,ep,t,ds',k o e,r⟩
 fresh:=fun led h e=>by
  refine ⟨_,#[],0,_,[],e,⟨rfl,rfl,rfl⟩,rfl,⟨rfl,rfl,fun i j hi=>absurd hi (Nat.not_lt_zero _),rfl,Nat.zero_le _,fun i j e hi=>?_⟩,⟨rfl,fun i e d he=>?_⟩,?_⟩
  ·exact absurd hi (by simp [SetTable.fresh])
  ·exact absurd he (by simp)
  ·rw [List.take_zero];exact .refl _
 step:=fun i v s E Q hv hJ keep h=>by
  obtain ⟨d,bs,hd,rd⟩:=ReadsAll.nth hr (by rw [Array.getElem?_toList];exact hv)
  have hm:d∈ds:=List.mem_of_getElem? hd
  have pd:=List.all_eq_true.mp hp d hm
  have td:=List.all_eq_true.mp ht d hm
  have hil:i < ds.length:=(List.getElem?_eq_some_iff.mp hd).1
  have hroom:(dn (ds.take i)).length≤3:=by
   have h1:=ir (ds.take i)
   have h2:(ds.take i).length≤i:=by rw [List.length_take];exact Nat.min_le_left _ _
   omega
  have hb:∃b,v=.ref b:=by cases rd <;> first | exact ⟨_,rfl⟩ | (simp [hW] at td;done)
  obtain ⟨b,rfl⟩:=hb
  unfold setAdd
  refine wpAny_holding ?_
  have rd':=eM (h':=s.heap) (fun b o _ _ e _=>keep b o e) 8 pd rd
  refine wpAny_bind (nO 8 hu pd rd' fun k=>?_)
  refine ix (s:={s with toks:=s.toks+k}) keep hJ (Nat.le_refl _) hu pd rd hroom fun r h' hsb hT=>?_
  refine h r h' (s.toks+k) (by omega) hsb ?_
  rw [take_snoc hd,kU]
  exact hT
def gu (ks:List Key) (k:Key):List Key:=if ks.any (fun x=>decide (x=k)) then ks else ks++[k]
def du (ks:List Key):List Key:=ks.foldl gu []
theorem iq (ks:List Key) (d:Key):du (ks++[d])=gu (du ks) d:=by unfold du;rw [List.foldl_append];rfl
theorem oj (ds:List Key) (d:Key):(gu ds d).length≤ds.length+1:=by unfold gu;split <;> simp
theorem jg (ds:List Key):(du ds).length≤ds.length:=by
 have:∀(ds acc:List Key),(ds.foldl gu acc).length≤acc.length+ds.length:=by
  intro ds
  induction ds with
  | nil=>intro acc;simp
  | cons d ds ih=>intro acc;rw [List.foldl_cons];have:=ih (gu acc d);have:=oj acc d;simp only [List.length_cons];omega
 have:=this ds []
 unfold du
 simpa using this
theorem lx {P:Program} {w:World} {h:Heap} {a:Addr} {S S':Key→Bool} {n n':Nat} (hS:h.SetOf (aV P w) a S n) (e:∀k,S k=S' k) (en:n=n'):h.SetOf (aV P w) a S' n':=by
 have:S=S':=funext e
 subst this;subst en;exact hS
theorem p8 {P:Program} {w:World} {A:Around} {h₀:Heap} {S:Addr} {items:Array Value} {ks:List Key} (hk:∀(i:Nat) (v:Value),items[i]?=some v→∃k,ks[i]?=some k∧RelV (kV k) v) (hl:ks.length≤1000):
  Adds P w A h₀ S items (fun i h=>h.SetOf (aV P w) S (fun k'=>(du (ks.take i)).any fun x=>decide (x=k')) (du (ks.take i)).length) where
 frame:=fun i h h' k=>by
  rintro ⟨o,es,ep,t,e,r⟩
  exact ⟨o,es,ep,t,k o e,r⟩
 fresh:=fun led h e=>by
  rw [List.take_zero]
  exact ⟨_,#[],0,_,e,⟨rfl,rfl,rfl⟩,rfl,fun e he=>by simp at he,fun k=>by simp [du],by decide,rfl,rfl⟩
 step:=fun i v s E Q hv hJ keep h=>by
  obtain ⟨k,hki,rk⟩:=hk i v hv
  have hil:i < ks.length:=(List.getElem?_eq_some_iff.mp hki).1
  have hroom:(du (ks.take i)).length+1 < scanBound:=by
   have h1:=jg (ks.take i)
   have h2:(ks.take i).length≤i:=by rw [List.length_take];exact Nat.min_le_left _ _
   unfold scanBound
   omega
  have hsc:v.scannable=true:=by
   cases k with
   | inl i=>obtain ⟨t,e⟩:=(show ∃t,v=Value.int i t from rk);subst e;rfl
   | inr x=>obtain ⟨t,e⟩:=(show ∃t,v=Value.str x t from rk);subst e;rfl
  unfold setAdd
  refine wpAny_holding ?_
  refine wpAny_bind ((aV P w).pyHash (k:=k) (gh rk) ?_)
  refine wpAny_setAddHashed_of (knd:=aV P w) (s:={s with toks:=s.toks+1}) (gh rk) hsc hJ hroom fun h' hsb hS2=>?_
  refine h _ h' (s.toks+1) (by omega) hsb (lx hS2 (fun k'=>?_) ?_)
  ·rw [take_snoc hki,iq]
   unfold gu
   by_cases c:((du (ks.take i)).any fun x=>decide (x=k))=true
   ·rw [if_pos c]
    by_cases e:k'=k
    ·subst e;rw [c];rfl
    ·rw [decide_eq_false e,Bool.or_false]
   ·rw [if_neg c,List.any_append]
    congr 1
    simp [eq_comm]
  ·rw [take_snoc hki,iq]
   unfold gu
   split <;> simp
def qa (h:Heap) (a:Addr) (n:Nat):Prop:=n≤4096∧∃o es ep t,h.get? a=some o∧o.ExactSet∧o.data=.set es ep t∧t.fits es.size=true∧es.size=n
def l9 (a:Addr) (n:Nat):HO:=.ext fun h=>qa h a n
theorem vd {P:Program} {w:World} {H:Hp} {h:Heap} {a:Addr} {n:Nat} (x:qa h a n):bp P w H h a (l9 a n):=
 ⟨x,let ⟨_,o,_,_,_,e,_⟩:=x;⟨o,e⟩,fun h1 h2 y k=>let ⟨q,o,es,ep,t,e,r⟩:=y;⟨q,o,es,ep,t,k o e,r⟩⟩
section
variable {X:Cx}
theorem n4:cE X (.builtin "len") (fun xs H Q=>∃a n,xs=[.ref a]∧H a=some (l9 a n)∧Q (.int n) H):=by
 intro pins s σ H xs us Q I r h
 obtain ⟨a,n,rfl,e,q⟩:=h
 obtain ⟨u,rfl,rx⟩:=vals1 r
 cases rx
 obtain ⟨⟨hn,o,es,ep,t,e1,e2,e3,e4,e5⟩,_,_⟩:=I.hok a _ e
 subst e5
 have hfit:(es.size:Int) < 2^63:=by
  have:(es.size:Int)≤4096:=by omega
  exact Int.lt_of_le_of_lt this (by decide)
 refine call_len_set e1 e2 e3 e4 hfit ?_
 exact ⟨.int es.size,H,I.tok _,⟨_,rfl⟩,q⟩
theorem n3 (hc:X.calm=true) (hu:X.A.units+64 < cLine):cE X (.type "set") (fun xs H Q=>∃a vs n,xs=[.ref a]∧SqT X.K H a vs∧
  ((∃ks,vs=ks.map kV∧ks.length≤1000∧n=(du ks).length)∨(∃ds,RdsL X.K H vs ds∧ds.all (plT 8)=true∧ds.all hW=true∧ds.length≤4∧n=(dn ds).length))∧∀l,H l=none→Q (.ref l) (upd H l (l9 l n))):=by
 intro pins s σ H xs us Q I r h
 obtain ⟨a,vs,n,rfl,hq,hcase,q⟩:=h
 obtain ⟨u,rfl,rx⟩:=vals1 r
 cases rx
 obtain ⟨its,rv,pt,hz⟩:=I.tuple hq
 have hlen:=rv.length
 have fin:∀(h':Heap) (tk:Nat),qa h' s.heap.objs.size n→(∀b o,b < s.heap.objs.size→s.heap.get? b=some o→h'.get? b=some o)→EP X pins σ Q (.ref s.heap.objs.size) {s with heap:=h',toks:=tk}:=fun h' tk hL k=>
  ⟨.ref _,_,I.laid (t':=tk) (o:=l9 s.heap.objs.size n) (fun b o e=>k b o (Heap.lt_size e) e) (Nat.le_refl _) (vd hL),rfl,q _ I.fresh⟩
 rcases hcase with ⟨ks,rfl,hk1,rfl⟩ | ⟨ds,hr,h1,h2,h3,rfl⟩
 ·have hkl:ks.length=its.length:=by rw [←hlen,List.length_map]
  refine dY (items:=its.toArray) (I.ok.hd hc) pt (fun A' _ _=>p8 (ks:=ks) (fun i v hv=>?_) hk1) fun h' tk hJ k=>fin h' tk ?_ k
  ·have hv':its[i]?=some v:=by simpa using hv
   have hi:i < ks.length:=by rw [hkl];exact (List.getElem?_eq_some_iff.mp hv').1
   have hki:ks[i]?=some ks[i]:=List.getElem?_eq_getElem hi
   obtain ⟨u,hu',ru⟩:=Vals.get rv (x:=kV ks[i]) (i:=i) (by rw [List.getElem?_map,hki];rfl)
   rw [hv'] at hu'
   cases hu'
   exact ⟨_,hki,ru⟩
  ·obtain ⟨o,es,ep,t,e1,e2,e3,_,_,e4,e5,e6⟩:=hJ
   have hs:its.toArray.size=ks.length:=by rw [hkl];rfl
   rw [hs,List.take_length] at e6
   have:=jg ks
   exact ⟨by omega,o,es,ep,t,e1,e2,e3,e5,e6⟩
 ·obtain ⟨as,ra⟩:=hr.reads I rv
  have hdl:ds.length=its.length:=by have:=ReadsAll.length _ _ _ ra;omega
  refine dY (items:=its.toArray) (I.ok.hd hc) pt (fun A' _ hA=>p7 (ds:=ds) (as:=as) (by omega) ra h1 h2 h3) fun h' tk hJ k=>fin h' tk ?_ k
  obtain ⟨o,es,ep,t,ds',e1,e2,e3,e4,e5,e6⟩:=hJ
  have hs:its.toArray.size=ds.length:=by rw [hdl];rfl
  rw [hs,List.take_length] at e6
  have:=ir ds
  exact ⟨by omega,o,es,ep,t,e1,e2,e3,e4.fits,by rw [←e5.1,e6.length_eq]⟩
end
end L2
namespace Sm
open PySem L2 PySem.Spec PyProof.Rows
def mI:List D→Option (List Key)
 | []=>some []
 | x::r=>(nK x).bind fun k=>(mI r).map fun ks=>k::ks
def mG:D→Option Nat
 | .tup xs=>match mI xs with
  | some ks=>if ks.length≤1000 then some (du ks).length else none
  | none=>(pyL xs).bind fun ds=>if (ds.all (plT 8)&&ds.all hW&&decide (ds.length≤4))=true then some (dn ds).length else none
 | _=>none
def jM (m:EM):EM:=fun δ h=>(m δ h).bind fun p=>(mG p.1).map fun (n:Nat)=>(D.int (n:Int),p.2)
section
variable {X:Cx}
theorem kF {K:PySem.W.Frag} {ρ:Ad} {H:Hp}:∀{vs:List V} {ds:List D} {ks:List Key},RepL K ρ H vs ds→mI ds=some ks→vs=ks.map kV
 | _,_,_,.nil,e=>by cases e;rfl
 | _,_,_,.cons r l,e=>by
  obtain ⟨k,e1,e2⟩:=bnd e
  obtain ⟨ks,e3,e4⟩:=mpd e2
  cases e4
  rw [fc r e1,kF l e3]
  rfl
theorem kc {K:PySem.W.Frag} {ρ:Ad} {H:Hp}:∀{vs:List V} {ds:List D} {ps:List PyData},RepL K ρ H vs ds→pyL ds=some ps→RdsL K H vs ps
 | _,_,_,.nil,e=>by cases e;exact .nil
 | _,_,_,.cons r l,e=>by
  obtain ⟨k,e1,e2⟩:=bnd e
  obtain ⟨ks,e3,e4⟩:=mpd e2
  cases e4
  exact .cons (r.rds e1).1 (kc l e3)
theorem iS {e:Expr} {me:EM} {p p2 pos pos2:Pos} (hc:X.calm=true) (hu:X.A.units+64 < cLine) (hgl:Gl X "len") (hml:X.mg "len"=none) (hgs:Gl X "set") (hms:X.mg "set"=none) (he:SE X e me)
  (hs:starEach [e] X.env=(false,eval e X.env)::starEach [] X.env:=by kernel_rfl):
  SE X (.Call (.Name "len" p) [.Call (.Name "set" p2) [e] [] pos2] [] pos) (jM me):=
 (kr n4 hgl hml (by decide+kernel) (jw (fN (n3 hc hu) hgs hms (by decide+kernel) (jw he lK hs) (by decide) (by decide) hs) lK)).imp fun σ H Q ⟨ρ,δ,h,d,h',R,S,ee,k⟩=>by
  obtain ⟨⟨d1,h1⟩,e1,e2⟩:=bnd ee
  obtain ⟨n,e3,e4⟩:=mpd e2
  cases e4
  refine ⟨ρ,δ,h,d1,h1,R,S,e1,fun v H1 ⟨ρ1,T1,S1,r1⟩=>?_⟩
  have fin:∀l,H1 l=none→∃a n',[V.ref l]=[V.ref a]∧upd H1 l (l9 l n) a=some (l9 a n')∧Q (.int n') (upd H1 l (l9 l n)):=fun l hl=>
   ⟨l,n,rfl,aT,k _ _ (cb.step (T1.trans (Stp.laid S1 hl)) (cb.here (S1.laid hl) (.int _)))⟩
  cases d1 with
  | tup xs=>
   cases r1 with
   | @tup a vs _ ht la=>
    refine ⟨a,vs,n,rfl,ht.sq,?_,fin⟩
    unfold mG at e3
    dsimp only at e3
    cases q:mI xs with
    | some ks=>
     rw [q] at e3
     dsimp only at e3
     by_cases c:ks.length≤1000
     ·rw [if_pos c] at e3
      cases e3
      exact .inl ⟨ks,kF la q,c,rfl⟩
     ·rw [if_neg c] at e3;cases e3
    | none=>
     rw [q] at e3
     obtain ⟨ds,e5,e6⟩:=bnd e3
     by_cases c:(ds.all (plT 8)&&ds.all hW&&decide (ds.length≤4))=true
     ·rw [if_pos c] at e6
      cases e6
      rw [Bool.and_eq_true,Bool.and_eq_true] at c
      exact .inr ⟨ds,kc la e5,c.1.1,c.1.2,of_decide_eq_true c.2,rfl⟩
     ·rw [if_neg c] at e6;cases e6
  | _=>cases e3
end
end Sm
namespace Sm
open PySem L2 PySem.Spec PyProof.Rows
def Con (mg:Str→Option Value) (x:Str) (d:D):Prop:=∃(v:V) (u:Value),mg x=some u∧RelV v u∧∀K ρ H,Rep K ρ H v d
theorem cm {X:Cx} {x:Str} {d:D} {pos:Pos} (C:Con X.mg x d) (hg:Gl X x) (hd:(x==("__debug__":Str))=false:=by kernel_rfl):SE X (.Name x pos) (eK d):=by
 obtain ⟨v,u,h1,h2,h3⟩:=C
 exact qr hg h1 h2 (fun ρ H=>h3 X.K ρ H) hd
end Sm
namespace Hd
open PySem PySem.W PySem.Spec PyProof.Rows L2 Sm
theorem cc {q:Program} {loose:List Str} {mean:ExcName→Option Value} {mg mb:Str→Option Value} {h:Heap} (T:Top q loose mean mg mb h) {x:Str} {i:Int} (e:valOf q x=some (.int i)):Con mg x (.int i):=by
 obtain ⟨v,h1,h2⟩:=T.const x _ e
 have:=h2 h
 cases this with
 | int _ t=>exact ⟨.int i,_,h1,⟨t,rfl⟩,fun _ _ _=>.int i⟩
theorem rY {q:Program} {loose:List Str} {mean:ExcName→Option Value} {mg mb:Str→Option Value} {h:Heap} (T:Top q loose mean mg mb h) {x s:Str} (e:valOf q x=some (.str s)) (ok:PyData.strOk s=true):Con mg x (.str s):=by
 obtain ⟨v,h1,h2⟩:=T.const x _ e
 have:=h2 h
 cases this with
 | str _ t=>exact ⟨.str s,_,h1,⟨t,rfl⟩,fun _ _ _=>.str ok⟩
end Hd
namespace L2
open PySem PySem.Spec PyProof.Rows
def Itx (x:Str):It:=⟨fun i _=>i < x.cps.size,fun i H y H'=>H'=H∧∃c,x.cps[i]?=some c∧y=.str ⟨#[c]⟩,fun i _=>x.cps.size≤i⟩
theorem ot {P:Program} {w:World} {K:PySem.W.Frag} {tg:Expr} (it:Addr) (x:Str) (t:Tok):Turn P w K tg (Itx x) [it] it (fun i h=>h.IsStrIter it "str_ascii_iterator" x t i) where
 mem:=by simp
 obj:=fun i h st b hb=>by
  have e:b=it:=by simpa using hb
  subst e
  obtain ⟨o,h1,h2,h3⟩:=st
  exact ⟨o,h1,fun v z=>by rw [h3] at z;cases z⟩
 keep:=fun i h h' st k=>let ⟨o,h1,r⟩:=st;⟨o,k it (by simp) o h1,r⟩
 item:=by
  intro X hP hw hK hc i pins s σ H E I hf st hg
  subst hP hw hK
  obtain ⟨f0,f1,f2,f3,f4,f5⟩:=hf it (by simp)
  have W:=Walks.strAscii (prog:=X.prog) (w:=X.w) (I.ok.hd hc) it x t
  refine W.item i s _ _ hg st fun v h' tk hv st' kk=>?_
  obtain ⟨c,u,hx,rfl⟩:=hv
  have I1:Inv X pins σ H {s with heap:=h',toks:=tk}:=I.turned (fun b o hb e=>kk b o (by simpa using hb) e) f0 f1 f3 f4 f5
  obtain ⟨o,h1,h2,h3⟩:=id st'
  exact ⟨_,rfl,mM (s:={s with heap:=h',toks:=tk}) (n:="str_ascii_iterator") h1 h2 h3 (by decide) ⟨.str ⟨#[c]⟩,H,I1,⟨u,rfl⟩,⟨rfl,c,hx,rfl⟩,st',fun b hb=>(hf b hb).1⟩⟩
 done:=by
  intro X hP hw hK hc i pins s σ H E I hf st hg
  subst hP hw hK
  obtain ⟨f0,f1,f2,f3,f4,f5⟩:=hf it (by simp)
  have hx:x.cps[i]?=none:=Array.getElem?_eq_none (show x.cps.size≤i from hg)
  exact wpAny_pyNext_ascii_end (I.ok.hd hc) st hx fun h' eb=>⟨rfl,I.turned (t':=s.toks) (fun b o hb e=>eb b o hb e) f0 f1 f3 f4 f5⟩
 self:=fun _ _ _ _ _ st h=>wpAny_pyIter_striter_ascii st h
theorem t6 {X:Cx} {tg:Expr} {l:Expr} {tl:TE} (hl:PE X l tl):PI X tg l (fun σ H R=>tl σ H fun v H1=>∃x:Str,v=.str x∧x.cps.all (· < 128)=true∧R (Itx x) H1):=by
 intro pins s σ H R I h
 refine thn (hl pins s σ H _ I h) fun v s1 ⟨y,H1,I1,r1,q1⟩=>?_
 obtain ⟨x,e,ha,q⟩:=q1
 subst e
 obtain ⟨t,rfl⟩:=r1
 refine wpAny_pyIter_ascii ha ?_
 refine ⟨s1.heap.objs.size,[s1.heap.objs.size],_,_,H1,rfl,I1.kept (t':=s1.toks) fun b o e=>Heap.get?_push_of_some _ e,ot _ x t,⟨_,Heap.get?_push_size _ rfl,rfl,rfl⟩,fun b hb=>?_,q⟩
 have e:b=s1.heap.objs.size:=by simpa using hb
 subst e
 exact I1.kJ (Nat.le_refl _) (I1.hok.fresh (Nat.le_refl _))
end L2
namespace Sm
open PySem L2 PySem.Spec PyProof.Rows
def xa (e:EM):IM:=fun δ h=>(e δ h).bind fun p=>match p.1 with
 | .str x=>if x.cps.all (· < 128)=true then some (x.cps.toList.map fun c=>D.str ⟨#[c]⟩,[],p.2) else none
 | _=>none
theorem vc {c:Nat} (h:c < 128):PyData.strOk ⟨#[c]⟩=true:=by
 unfold PyData.strOk
 simp
 omega
theorem j9 {K:PySem.W.Frag} {ρ:Ad} {H:Hp}:∀(cs:List Nat),(∀c∈cs,c < 128)→RepL K ρ H (cs.map fun c=>V.str ⟨#[c]⟩) (cs.map fun c=>D.str ⟨#[c]⟩)
 | [],_=>.nil
 | c::r,h=>.cons (.str (vc (h c (.head _)))) (j9 r fun d hd=>h d (.tail _ hd))
theorem sS {X:Cx} {e tg:Expr} {ma:EM} (h:SE X e ma):SI X tg e (xa ma):=(t6 h).imp fun σ H Q ⟨ρ,δ,h,xs,ws,h',R,S,e,k⟩=>by
 obtain ⟨⟨x,h1⟩,e1,e2⟩:=bnd e
 refine ⟨ρ,δ,h,x,h1,R,S,e1,fun v H1 ⟨ρ1,T1,S1,r1⟩=>?_⟩
 cases x with
 | str x=>
  by_cases c:x.cps.all (· < 128)=true
  ·rw [show (match D.str x with | .str x=>if x.cps.all (· < 128)=true then some (x.cps.toList.map fun c=>D.str ⟨#[c]⟩,([]:W),h1) else none | _=>none)=some (x.cps.toList.map fun c=>D.str ⟨#[c]⟩,([]:W),h1) from if_pos c] at e2
   cases e2
   cases r1
   refine ⟨x,rfl,c,k _ ρ1 H1 T1 S1 ?_⟩
   have hlow:∀d∈x.cps.toList,d < 128:=fun d hd=>by
    rw [Array.all_eq_true_iff_forall_mem] at c
    simpa using c d (Array.mem_toList_iff.mp hd)
   refine jH fun ρ2 H2 h2 T S2 hc=>⟨x.cps.toList.map fun c=>V.str ⟨#[c]⟩,j9 _ hlow,fun i hi=>?_,fun i v hv=>?_⟩
   ·rw [List.length_map,Array.length_toList] at hi;exact hi
   ·rw [List.getElem?_map] at hv
    obtain ⟨j,e3,e4⟩:=mpd hv
    have hlt:i < x.cps.toList.length:=(List.getElem?_eq_some_iff.mp e3).1
    rw [Array.length_toList] at hlt
    refine ⟨hlt,fun u H3 ⟨y1,c',y2,y3⟩=>⟨y1,?_⟩⟩
    rw [Array.getElem?_toList,y2] at e3
    cases e3
    rw [y3,e4]
  ·rw [show (match D.str x with | .str x=>if x.cps.all (· < 128)=true then some (x.cps.toList.map fun c=>D.str ⟨#[c]⟩,([]:W),h1) else none | _=>none)=none from if_neg c] at e2
   cases e2
 | _=>cases e2
end Sm
namespace L2
open PySem PySem.Spec PyProof.Rows
section
variable {P:Program} {w:World} {A:Around} {E:Value→Shared→Prop}
theorem i5 {it t:Addr} {items:Array Value} (hh:A.handled=none) (hne:t≠it):∀(n i:Nat) (s:Shared) (Q:List Value→Shared→Prop),s.heap.IsListIter it t i→s.heap.IsList t items→i+n≤items.size→
  (∀h' tk,h'.IsListIter it t (i+n)→h'.IsList t items→Heap.ExtBut it s.heap h'→Q ((items.toList.drop i).take n) {s with heap:=h',toks:=tk})→wpAny (model P w) A (draw (.ref it) n) Q E s
 | 0,i,s,Q,hit,hl,_,hQ=>by
  show wpAny _ _ (pure []) Q E s
  exact wpAny_pure (by simpa using hQ s.heap s.toks hit hl (fun b o _ e=>e))
 | n+1,i,s,Q,hit,ht,hle,hQ=>by
  have hlt:i < items.size:=by omega
  show wpAny _ _ (pyNext (.ref it) >>=_) Q E s
  have W:=Walks.list (prog:=P) (w:=w) hh it t hne items
  refine wpAny_bind (W.item i s _ _ hlt ⟨hit,ht⟩ fun v h₁ tk hv st kk=>?_)
  refine wpAny_bind (wpAny_holding (i5 hh hne n (i+1) _ _ st.1 st.2 (by omega) fun h₂ tk2 hit₂ hl₂ hs₂=>wpAny_pure ?_))
  have hd:items.toList.drop i=items[i]::items.toList.drop (i+1):=by simp [List.drop_eq_getElem_cons,hlt]
  have:=hQ h₂ tk2 (by rw [show i+(n+1)=i+1+n by omega];exact hit₂) hl₂ (fun b o hb e=>hs₂ b o hb (kk b o (by simpa using hb) e))
  rw [hd,List.take_succ_cons] at this
  have hv':v=items[i]:=by
   have:items[i]?=some v:=hv
   rw [Array.getElem?_eq_getElem hlt] at this
   injection this with this
   exact this.symm
  rw [hv']
  exact this
variable {s:Shared}
theorem fu {env:Env} {elts:List Expr} {x1} {pos:Pos} {t:Addr} {items:Array Value} {Q:Unit→Shared→Prop} (hh:A.handled=none) (ht:s.heap.IsList t items)
  (hn:(assignEach elts env).length=items.size) (hstar:(assignEach elts env).findIdx? (·.1)=none)
  (h:∀h' tk,Heap.ExtBut s.heap.objs.size s.heap h'→wpAny (model P w) A (assignInOrder ((assignEach elts env).map (·.2)) items.toList) Q E {s with heap:=h',toks:=tk}):
  wpAny (model P w) A (assign (.Tuple elts x1 pos) env (.ref t)) Q E s:=by
 rw [assign_Tuple]
 refine wpAny_bind (wpAny_standAt ?_)
 unfold unpack
 rw [hn,hstar]
 refine wpAny_bind (wpAny_holding ?_)
 have hlt:t≠s.heap.objs.size:=by obtain ⟨o,ho,_⟩:=ht;exact Nat.ne_of_lt (Heap.lt_size ho)
 unfold unpackItems
 refine wpAny_bind ?_
 unfold notIterableAtAll
 refine wpAny_bind (wpAny_specialOf ht.typeIs F.slot_list_iter.lookup ?_)
 refine wpAny_pure ?_
 simp only [Bool.false_eq_true,if_false]
 refine wpAny_bind (wpAny_holding (wpAny_pyIter_list ht ?_))
 refine wpAny_bind (wpAny_holding (i5 hh hlt items.size 0 _ _ ⟨_,Heap.get?_push_size _ rfl,rfl,rfl⟩ (ht.push _) (by omega) fun h₁ tk1 hit₁ hl₁ hs₁=>?_))
 have hall:List.take items.size (List.drop 0 items.toList)=items.toList:=by
  rw [List.drop_zero];exact List.take_of_length_le (by simp)
 rw [hall]
 rw [if_neg (by simp)]
 have W:=Walks.list (prog:=P) (w:=w) hh s.heap.objs.size t hlt items
 rw [Nat.zero_add] at hit₁
 refine wpAny_bind (wpAny_holding (W.done _ _ _ ⟨hit₁,hl₁⟩ fun h₂ tk2 kk=>?_))
 simp only [Option.isSome_none,Bool.false_eq_true,if_false]
 exact wpAny_pure (h h₂ tk2 fun b o hb e=>kk b o (by simpa using hb) (hs₁ b o hb (Heap.get?_push_of_some _ e)))
end
section
variable {X:Cx} {pos:Pos}
def yz (K:PySem.W.Frag) (n:Nat) (t:TGs):TG:=fun v σ H Q=>∃a xs,v=.ref a∧SqL K H a xs∧xs.length=n∧t xs σ H Q
theorem ua {es:List Expr} {k:Nat} {t:TGs} {n:Nat} (hc:X.calm=true) (h:PGs X es t)
  (hn:(assignEach es X.env).length=n:=by rfl) (hst:(assignEach es X.env).findIdx? (·.1)=none:=by rfl):PG X (.Tuple es k pos) (yz X.K n t):=by
 intro pins s σ H v u Q I r hw
 obtain ⟨a,xs,e1,hq,hl,hw⟩:=hw
 subst e1
 cases r
 obtain ⟨its,rv,ht,hz⟩:=I.list hq
 refine fu (items:=its.toArray) (I.ok.hd hc) ht.isList (by simp [hn,←hl,rv.length]) hst fun h' tk hx=>?_
 have I1:Inv X pins σ H {s with heap:=h',toks:=tk}:=I.kept (t':=tk) fun b o e=>hx b o (Nat.ne_of_lt (Heap.lt_size e)) e
 exact h pins _ σ H xs _ Q I1 (by simpa using rv) hw
theorem kQ:cE X (.builtin "sorted") (fun xs H Q=>∃a ss,xs=[.ref a]∧SqT X.K H a (ss.map V.str)∧ss.length < 64∧∀l,H l=none→Q (.ref l) (upd H l (.lst ((cy ss).map V.str)))):=by
 intro pins s σ H xs us Q I r h
 obtain ⟨a,ss,rfl,ha,h64,q⟩:=h
 obtain ⟨u,rfl,ru⟩:=vals1 r
 cases ru
 obtain ⟨its,rv,p,hz⟩:=I.tuple ha
 have hS:=fy rv
 have hlen:its.length=ss.length:=by have:=rv.length;rw [List.length_map] at this;exact this.symm
 obtain ⟨o,e1,e2,n,e3⟩:=id p
 refine Calls.call_function_entry kind_sorted plain_sorted entry_sorted (args_sorted1 _) ?_
 unfold Builtin.«sorted»;refine wpAny_bind (m:=checkCount "sorted" 1 1 _) (wpAny_pure ?_)
 refine wpAny_bind (wpAny_collect_seq a (.inr rfl) e1 e2 e3 (fun h1 k1=>?_) (by simp;rw [sizeLine_eq];omega))
 refine nq (s:={s with heap:=h1}) hS (by rw [hlen];exact h64) fun h' n out hk hl ho=>?_
 have hz':((cy ss).map V.str).length≤sizeLine:=by rw [List.length_map,(bX ss).length_eq,sizeLine_eq];omega
 have I1:Inv X pins σ H {s with heap:=h1}:=I.kept (t':=s.toks) k1
 refine ⟨.ref h1.objs.size,_,I1.laid (t':=s.toks) (o:=.lst ((cy ss).map V.str)) hk (Nat.le_refl _) ⟨hz',out.toList,n,fw ho,?_⟩,rfl,q _ (I1.hok.fresh (Nat.le_refl _))⟩
 rw [hl]
end
end L2
namespace Sm
open PySem L2 PySem.Spec PyProof.Rows
section
variable {X:Cx} {es:List Expr} {gs:GMs} {pos:Pos}
def gG:Fn:=fun ds h=>match ds with
 | [.tup xs]=>(fZ xs).bind fun ns=>if ns.length < 64 then some (.lv ((cy ns).map D.str),h) else none
 | _=>none
theorem nY:fv X (.builtin "sorted") gG:=by
 intro pins s σ H xs us Q I r hh
 obtain ⟨ρ,h,ds,z,h',S,l,ee,k⟩:=hh
 match ds,l,ee with
 | [],_,ee=>cases ee
 | d::_::_,_,ee=>cases d <;> cases ee
 | [d],l,ee=>
  obtain ⟨v,rfl,rd⟩:=rep1 l
  cases rd <;> first | (cases ee;done) | skip
  rename_i a vs ds ht la _
  obtain ⟨ns,e3,e4⟩:=bnd (show ((fZ ds).bind fun ns=>if ns.length < 64 then some (D.lv ((cy ns).map D.str),h) else none)=some (z,h') from ee)
  by_cases c:ns.length < 64
  ·rw [if_pos c] at e4
   cases e4
   have:=gL e3
   subst this
   obtain ⟨e5,f⟩:=eJ la
   subst e5
   refine kQ pins s σ H _ us Q I r ⟨a,ns,rfl,ht.sq,c,fun l hl=>k _ _ (.lv S (fK _ fun x hx=>f x ((bX ns).mem_iff.mp hx)) hl)⟩
  ·rw [if_neg c] at e4;cases e4
def gTL (n:Nat) (u:GMs):GM:=fun d δ h=>(g9 d h).bind fun xs=>if xs.length=n then u xs δ h else none
theorem sT {k0:Nat} {n:Nat} (hc:X.calm=true) (h:SGs X es gs) (hn:(assignEach es X.env).length=n:=by kernel_rfl) (hst:(assignEach es X.env).findIdx? (·.1)=none:=by kernel_rfl):SG X (.Tuple es k0 pos) (gTL n gs):=
 (ua hc h hn hst).imp fun v σ H Q ⟨ρ,δ,h,d,δ',h',R,S,r,e,k⟩=>by
  obtain ⟨ds,e1,e2⟩:=bnd e
  obtain ⟨a,vs,rfl,ha,l⟩:=fb S r e1
  by_cases z:ds.length=n
  ·rw [if_pos z] at e2
   exact ⟨a,vs,rfl,SqL.of ha,by rw [l.length];exact z,ρ,δ,h,ds,δ',h',R,S,l,e2,k⟩
  ·rw [if_neg z] at e2;cases e2
end
end Sm
namespace L2
open PySem PySem.Spec PyProof.Rows
def lX (x:Str):List Str→List Str
 | []=>[x]
 | y::r=>if leT x y then x::y::r else y::lX x r
def isT:List Str→List Str
 | []=>[]
 | x::r=>lX x (isT r)
theorem fS (x:Str):∀(l:List Str),(lX x l).Perm (x::l)
 | []=>.refl _
 | y::r=>by
  unfold lX
  split
  ·exact .refl _
  ·exact ((fS x r).cons y).trans (.swap x y r)
theorem kG:∀(l:List Str),(isT l).Perm l
 | []=>.refl _
 | x::r=>(fS x (isT r)).trans ((kG r).cons x)
theorem gj (x:Str):∀(l:List Str),(l.Pairwise fun a b=>leT a b=true)→(lX x l).Pairwise fun a b=>leT a b=true
 | [],_=>by simp [lX]
 | y::r,h=>by
  have h':=List.pairwise_cons.mp h
  unfold lX
  split
  ·rename_i c
   refine List.pairwise_cons.mpr ⟨fun z hz=>?_,h⟩
   rcases List.mem_cons.mp hz with rfl | hz
   ·exact c
   ·exact fQ _ _ _ c (h'.1 z hz)
  ·rename_i c
   refine List.pairwise_cons.mpr ⟨fun z hz=>?_,gj x r h'.2⟩
   rcases List.mem_cons.mp ((fS x r).mem_iff.mp hz) with rfl | hz
   ·have:=iW z y
    rw [Bool.or_eq_true] at this
    rcases this with q | q
    ·exact absurd q c
    ·exact q
   ·exact h'.1 z hz
theorem hY:∀(l:List Str),(isT l).Pairwise fun a b=>leT a b=true
 | []=>.nil
 | x::r=>gj x _ (hY r)
theorem oB (l:List Str):cy l=isT l:=
 List.Perm.eq_of_pairwise (fun a b _ _=>kE a b) (eV l) (hY l) ((bX l).trans (kG l).symm)
end L2
namespace Sm
open PySem L2
def mO:Fn:=fun ds h=>match ds with
 | [d]=>(g9 d h).bind fun xs=>(fZ xs).bind fun ns=>if ns.length < 64 then some (.lv ((isT ns).map D.str),h) else none
 | _=>none
def mN:Fn:=fun ds h=>match ds with
 | [.tup xs]=>(fZ xs).bind fun ns=>if ns.length < 64 then some (.lv ((isT ns).map D.str),h) else none
 | _=>none
theorem j6:cy=isT:=funext oB
theorem av:jK=mO:=by unfold jK mO;rw [j6] <;> rfl
theorem ar:gG=mN:=by unfold gG mN;rw [j6] <;> rfl
end Sm
namespace Mi
open PySem L2 Sm PySem.Spec PyProof.Rows
def top (i:Nat):Stmt:=PySem.Challenge.pw_neverstuck_k03_programs_at_their_bounds.main.body.getD i (.Pass ⟨0,0,0,0⟩)
def cv:List (Str×List Int):=[("say",[2,0]),("call",[3,0]),("within",[2,1]),("all",[2,1]),("ask",[2,2]),("by",[3,3]),("either",[1,2]),("again",[1,1])]
structure Bs (P:Program) (w:World) (K:PySem.W.Frag) (mg:Str→Option Value):Prop where
 abs_:mg "abs"=none
 all_:mg "all"=none
 bool_:mg "bool"=none
 enumerate_:mg "enumerate"=none
 int_:mg "int"=none
 isinstance_:mg "isinstance"=none
 len_:mg "len"=none
 list_:mg "list"=none
 range_:mg "range"=none
 set_:mg "set"=none
 sorted_:mg "sorted"=none
 str_:mg "str"=none
 tuple_:mg "tuple"=none
 zip_:mg "zip"=none
 C_MOST_ROWS:Con mg "MOST_ROWS" (.int (60))
 C_MOST_DEEDS:Con mg "MOST_DEEDS" (.int (6))
 C_MOST_PARAMS:Con mg "MOST_PARAMS" (.int (3))
 C_MOST_LETTERS:Con mg "MOST_LETTERS" (.int (8))
 C_LETTERS:Con mg "LETTERS" (.str "abcdefghijklmnopqrstuvwxyz")
 C_MOST_NAMES:Con mg "MOST_NAMES" (.int (6))
 C_MOST_IN_LOT:Con mg "MOST_IN_LOT" (.int (12))
 C_MOST_DEEP:Con mg "MOST_DEEP" (.int (5))
 C_MOST_FIGURE:Con mg "MOST_FIGURE" (.int (99))
 C_FEWEST_IN_ALL:Con mg "FEWEST_IN_ALL" (.int (2))
 C_MOST_IN_ALL:Con mg "MOST_IN_ALL" (.int (4))
 T_SHAPES:Tab P w K mg "SHAPES" cv
abbrev dc:Stmt:=top 30
theorem iz:FnScope ["_law_script"] ["_law_script"] (az dc):=⟨rfl,rfl,rfl,by decide+kernel,rfl,by decide+kernel,by decide+kernel⟩
def bG:Fn:=mkF 1
  (a8 (eOb (ae (eK (.int 0)) (ae (eOb (kW (ae (rW (ai 0) pNo (pAt (eK (.int 63)))) au))) (ae (eK (.int 0)) au)))))
abbrev dO:Stmt:=top 31
theorem bu:FnScope ["_law_state","_law_cells","_law_tour","_law_cell","_law_mixed"] ["_law_state"] (az dO):=⟨rfl,rfl,rfl,by decide+kernel,rfl,by decide+kernel,by decide+kernel⟩
def cf:Fn:=mkF 5
  (aH (bw 1 (eOp fIx (ai 0) (eK (.int 1))))
  (aH (bw 2 (eOp fIx (ai 0) (eK (.int 2))))
  (aH (eG (eOp bL (ai 2) (eK (.int 1))) (ib (ai 0) (eK (.int 2))))
  (aH (bw 3 (eK (.int 0)))
  (aH (sIf (bc (eOp iM (ai 1) (eLv au))) (bw 3 (eOp fIx (ai 1) (eOp gy (ai 2) (eFn cB (ae (ai 1) au))))) bO)
  (sIf (ox (bc (eOp fLt (ai 2) (eFn cB (ae (ai 1) au)))) (bc (eOp fGe (eFn vz (ae (ai 3) au)) (eOp rR (eK (.int 10)) (eK (.int 18)))))) (eG (eFn vz (ae (ai 3) au)) (ib (ai 0) (eK (.int 0)))) (aH (bw 4 (eOp gy (eOp fh (eOp bL (eOp bL (eOp gy (ai 3) (eK (.int 2305843009213693951))) (eOp fh (eOp fh (eK (.int 7919)) (ai 2)) (ai 2))) (eK (.int 11))) (eK (.int 48271))) (eK (.int 2305843009213693951))))
  (aH (bw 4 (eOp gy (eOp fh (ai 4) (ai 4)) (eK (.int 2305843009213693921))))
  (eG (eOp bL (eOp gy (eOp bL (eOp bL (eOp fh (ai 4) (eK (.int 69621))) (ai 2)) (eK (.int 104729))) (eK (.int 2305843009213693951))) (eOp rR (eK (.int 10)) (eK (.int 9)))) (ib (ai 0) (eK (.int 0))))))))))))
abbrev dN:Stmt:=top 32
theorem eW:FnScope ["_law_state","_law_many","_law_found"] ["_law_state","_law_many"] (az dN):=⟨rfl,rfl,rfl,by decide+kernel,rfl,by decide+kernel,by decide+kernel⟩
def aZ:Fn:=mkF 3
  (aH (sIf (bc (eOp fLt (eOp fIx (ai 0) (eK (.int 0))) (ai 1))) (oJ (eFn cf (ae (ai 0) au))) bO)
  (aH (bw 2 (eOp gy (eOp fIx (ai 0) (eK (.int 0))) (ai 1)))
  (aH (eG (eOp nT (eOp fIx (ai 0) (eK (.int 0))) (ai 1)) (ib (ai 0) (eK (.int 0))))
  (a8 (ai 2)))))
abbrev fI:Stmt:=top 33
theorem lD:FnScope ["_law_state","_law_some"] ["_law_state","_law_some"] (az fI):=⟨rfl,rfl,rfl,by decide+kernel,rfl,by decide+kernel,by decide+kernel⟩
def cZ:Fn:=mkF 2
  (a8 (eOp fIx (ai 1) (eFn aZ (ae (ai 0) (ae (eFn cB (ae (ai 1) au)) au)))))
abbrev cO:Stmt:=top 5
theorem gR:FnScope ["thing","many"] ["thing","many"] (az cO):=⟨rfl,rfl,rfl,by decide+kernel,rfl,by decide+kernel,by decide+kernel⟩
def aJ:Fn:=mkF 2
  (a8 (eQ (eFn et (ae (ai 0) (ae (eK (.ty "tuple")) au))) (eOp dW (eFn cB (ae (ai 0) au)) (ai 1))))
abbrev fE:Stmt:=top 6
theorem lB:FnScope ["thing"] ["thing"] (az fE):=⟨rfl,rfl,rfl,by decide+kernel,rfl,by decide+kernel,by decide+kernel⟩
def bN:Fn:=mkF 1
  (aH (sIf (tOr (bP (cp (eFn et (ae (ai 0) (ae (eK (.ty "str")) au))))) (bP (bc (eP fLe fLe (eK (.int 1)) (eFn cB (ae (ai 0) au)) (eK (.int 8)))))) (a8 (eK (.bl false))) bO)
  (a8 (eFn iN (ae (eLv (bV [none] (xa (ai 0)) (gN 0) c7 (eOp fIn (ai 0) (eK (.str "abcdefghijklmnopqrstuvwxyz"))))) au))))
abbrev bJ:Stmt:=top 20
theorem ej:FnScope ["thing","least","most"] ["thing","least","most"] (az bJ):=⟨rfl,rfl,rfl,by decide+kernel,rfl,by decide+kernel,by decide+kernel⟩
def aO:Fn:=mkF 3
  (aH (sIf (tOr (bP (cp (eFn et (ae (ai 0) (ae (eK (.ty "tuple")) au))))) (bP (bc (eP fLe fLe (ai 1) (eFn cB (ae (ai 0) au)) (ai 2))))) (a8 (eK (.bl false))) bO)
  (a8 (eQ (eFn iN (ae (eLv (bV [none] (ia (ai 0)) (gN 0) c7 (eFn bN (ae (ai 0) au)))) au)) (eOp dW (jM (ai 0)) (eFn cB (ae (ai 0) au))))))
abbrev dJ:Stmt:=top 22
theorem jo:FnScope ["deeds"] ["deeds"] (az dJ):=⟨rfl,rfl,rfl,by decide+kernel,rfl,by decide+kernel,by decide+kernel⟩
def cL:Fn:=mkF 1
  (aH (sIf (tOr (bP (cp (eFn et (ae (ai 0) (ae (eK (.ty "tuple")) au))))) (bP (cp (eFn iN (ae (eLv (bV [none] (ia (ai 0)) (gN 0) c7 (eFn aJ (ae (ai 0) (ae (eK (.int 3)) au))))) au))))) (a8 (eK (.bl false))) bO)
  (aH (sIf (bP (cp (eFn aO (ae (eFn eO (ae (eLv (bV [none] (ia (ai 0)) (gN 0) c7 (eOp fIx (ai 0) (eK (.int 0))))) au)) (ae (eK (.int 1)) (ae (eK (.int 6)) au)))))) (a8 (eK (.bl false))) bO)
  (a8 (eFn iN (ae (eLv (bV [none] (ia (ai 0)) (gN 0) c7 (eFn aO (ae (eOp fIx (ai 0) (eK (.int 1))) (ae (eK (.int 0)) (ae (eK (.int 3)) au)))))) au)))))
abbrev dH:Stmt:=top 21
theorem jm:FnScope ["thing"] ["thing"] (az dH):=⟨rfl,rfl,rfl,by decide+kernel,rfl,by decide+kernel,by decide+kernel⟩
def aj:Fn:=mkF 1
  (a8 (eQ (eFn aO (ae (ai 0) (ae (eK (.int 1)) (ae (eK (.int 6)) au)))) (eOp dW (eLv (kW (ae (ai 0) au))) (eFn gG (ae (ai 0) au)))))
abbrev eF:Stmt:=top 4
theorem j7:FnScope ["thing"] ["thing"] (az eF):=⟨rfl,rfl,rfl,by decide+kernel,rfl,by decide+kernel,by decide+kernel⟩
def dr:Fn:=mkF 1
  (a8 (eQ (eFn et (ae (ai 0) (ae (eK (.ty "int")) au))) (vA (eFn et (ae (ai 0) (ae (eK (.ty "bool")) au))))))
abbrev fF:Stmt:=top 7
theorem eC:FnScope ["thing","params","word","figure"] ["thing","params"] (az fF):=⟨rfl,rfl,rfl,by decide+kernel,rfl,by decide+kernel,by decide+kernel⟩
def bE:Fn:=mkF 4
  (aH (sIf (bP (cp (eFn aJ (ae (ai 0) (ae (eK (.int 2)) au))))) (a8 (eK (.bl false))) bO)
  (aH (eG (ai 0) (gT 2 (aN (gN 2) (aN (gN 3) cV))))
  (aH (sIf (tOr (bP (cp (eFn et (ae (ai 2) (ae (eK (.ty "str")) au))))) (bP (cp (eFn dr (ae (ai 3) au))))) (a8 (eK (.bl false))) bO)
  (a8 (eQ (eOr (eOp dW (ai 2) (eK (.str ""))) (eOp fIn (ai 2) (ai 1))) (eP fLe fLe (eUn mX (eK (.int 99))) (ai 3) (eK (.int 99))))))))
abbrev fH:Stmt:=top 24
theorem lC:FnScope ["deed","terms","counts","params"] ["deed","terms","counts","params"] (az fH):=⟨rfl,rfl,rfl,by decide+kernel,rfl,by decide+kernel,by decide+kernel⟩
def eh:Fn:=mkF 4
  (aH (sIf (tOr (bP (cp (eFn bN (ae (ai 0) au)))) (tOr (bc (eOp pM (ai 0) (ai 2))) (bP (cp (eFn aJ (ae (ai 1) (ae (eOp fIx (ai 2) (ai 0)) au))))))) (a8 (eK (.bl false))) bO)
  (a8 (eFn iN (ae (eLv (bV [none,some 3] (ia (ai 1)) (gN 0) c7 (eFn bE (ae (ai 0) (ae (ai 1) au))))) au))))
abbrev fG:Stmt:=top 8
theorem eD:FnScope ["thing","names","params","name","term"] ["thing","names","params"] (az fG):=⟨rfl,rfl,rfl,by decide+kernel,rfl,by decide+kernel,by decide+kernel⟩
def cx:Fn:=mkF 5
  (aH (sIf (bP (cp (eFn aJ (ae (ai 0) (ae (eK (.int 2)) au))))) (a8 (eK (.bl false))) bO)
  (aH (eG (ai 0) (gT 2 (aN (gN 3) (aN (gN 4) cV))))
  (a8 (eQ (eFn et (ae (ai 3) (ae (eK (.ty "str")) au))) (eQ (eOp fIn (ai 3) (ai 1)) (eFn bE (ae (ai 4) (ae (ai 2) au))))))))
abbrev dI:Stmt:=top 23
theorem jn:FnScope ["thing","names","params"] ["thing","names","params"] (az dI):=⟨rfl,rfl,rfl,by decide+kernel,rfl,by decide+kernel,by decide+kernel⟩
def cK:Fn:=mkF 3
  (aH (sIf (tOr (bP (cp (eFn et (ae (ai 0) (ae (eK (.ty "tuple")) au))))) (bP (bc (eP fLe fLe (eK (.int 2)) (eFn cB (ae (ai 0) au)) (eK (.int 4)))))) (a8 (eK (.bl false))) bO)
  (a8 (eQ (eFn iN (ae (eLv (bV [none,some 1,some 2] (ia (ai 0)) (gN 0) c7 (eFn cx (ae (ai 0) (ae (ai 1) (ae (ai 2) au)))))) au)) (eOp dW (jM (ai 0)) (eFn cB (ae (ai 0) au))))))
abbrev bZ:Stmt:=top 26
theorem cH:FnScope ["row","names","counts","params","sort"] ["row","names","counts","params"] (az bZ):=⟨rfl,rfl,rfl,by decide+kernel,rfl,by decide+kernel,by decide+kernel⟩
def bF:Fn:=mkF 5
  (aH (bw 4 (eOp fIx (ai 0) (eK (.int 0))))
  (aH (sIf (bc (eOp dW (ai 4) (eK (.str "say")))) (a8 (eFn bN (ae (eOp fIx (ai 0) (eK (.int 1))) au))) bO)
  (aH (sIf (bc (eOp dW (ai 4) (eK (.str "call")))) (a8 (eFn eh (ae (eOp fIx (ai 0) (eK (.int 1))) (ae (eOp fIx (ai 0) (eK (.int 2))) (ae (ai 2) (ae (ai 3) au)))))) bO)
  (aH (sIf (bc (eOp dW (ai 4) (eK (.str "all")))) (a8 (eFn cK (ae (eOp fIx (ai 0) (eK (.int 1))) (ae (ai 1) (ae (ai 3) au))))) bO)
  (aH (sIf (bc (eOp fIn (ai 4) (eFn bH (ae (eK (.str "within")) (ae (eK (.str "ask")) au))))) (a8 (eFn cx (ae (eOp fIx (ai 0) (eK (.int 1))) (ae (ai 1) (ae (ai 3) au))))) bO)
  (aH (sIf (bc (eOp dW (ai 4) (eK (.str "by")))) (a8 (eQ (eFn bE (ae (eOp fIx (ai 0) (eK (.int 1))) (ae (ai 3) au))) (eFn bE (ae (eOp fIx (ai 0) (eK (.int 2))) (ae (ai 3) au))))) bO)
  (a8 (eK (.bl true)))))))))
abbrev dG:Stmt:=top 25
theorem c8:FnScope ["row","ahead","lots"] ["row"] (az dG):=⟨rfl,rfl,rfl,by decide+kernel,rfl,by decide+kernel,by decide+kernel⟩
def cJ:Fn:=mkF 3
  (aH (sIf (tOr (bP (cp (eFn et (ae (ai 0) (ae (eK (.ty "tuple")) au))))) (bc (eOp dW (eFn cB (ae (ai 0) au)) (eK (.int 0))))) (a8 (eK (.bl false))) bO)
  (aH (sIf (tOr (bP (cp (eFn et (ae (eOp fIx (ai 0) (eK (.int 0))) (ae (eK (.ty "str")) au))))) (bc (eUn (pL cv) (eOp fIx (ai 0) (eK (.int 0)))))) (a8 (eK (.bl false))) bO)
  (aH (eG (eUn (rP cv) (eOp fIx (ai 0) (eK (.int 0)))) (gT 2 (aN (gN 1) (aN (gN 2) cV))))
  (a8 (eOp dW (eFn cB (ae (ai 0) au)) (eOp bL (ai 1) (ai 2)))))))
abbrev fD:Stmt:=top 19
theorem lA:FnScope ["row"] ["row"] (az fD):=⟨rfl,rfl,rfl,by decide+kernel,rfl,by decide+kernel,by decide+kernel⟩
def d9:Fn:=mkF 1
  (a8 (rW (ai 0) (pAt (eOp fIx (eUn (rP cv) (eOp fIx (ai 0) (eK (.int 0)))) (eK (.int 0)))) pNo))
abbrev dF:Stmt:=top 27
theorem bQ:FnScope ["lot","deep","left","names","counts","params","row","inner"] ["lot","deep","left","names","counts","params"] (az dF):=⟨rfl,rfl,rfl,by decide+kernel,rfl,by decide+kernel,by decide+kernel⟩
def bM:Nat→Fn
 | 0=>fun _ _=>none
 | n+1=>mkF 8
  (aH (sIf (tOr (bc (eOp fGt (ai 1) (eK (.int 5)))) (tOr (bP (cp (eFn et (ae (ai 0) (ae (eK (.ty "tuple")) au))))) (bc (eOp fGt (eFn cB (ae (ai 0) au)) (eK (.int 12)))))) (a8 (eK .non)) bO)
  (aH (j8 (ia (ai 0)) (gN 6) (aH (sIf (tOr (bc (eOp dW (ai 2) (eK (.int 0)))) (tOr (bP (cp (eFn cJ (ae (ai 6) au)))) (bP (cp (eFn bF (ae (ai 6) (ae (ai 3) (ae (ai 4) (ae (ai 5) au))))))))) (a8 (eK .non)) bO)
  (aH (sX 2 gx (eK (.int 1)))
  (j8 (ia (eFn d9 (ae (ai 6) au))) (gN 7) (aH (bw 2 (eFn (bM n) (ae (ai 7) (ae (eOp bL (ai 1) (eK (.int 1))) (ae (ai 2) (ae (ai 3) (ae (ai 4) (ae (ai 5) au))))))))
  (sIf (bc (eOp vy (ai 2) (eK .non))) (a8 (eK .non)) bO))))))
  (a8 (ai 2))))
abbrev c9:Stmt:=top 28
theorem aU:FnScope ["thing","names","deeds","counts","left","deed","params","rows"] ["thing"] (az c9):=⟨rfl,rfl,rfl,by decide+kernel,rfl,by decide+kernel,by decide+kernel⟩
def ag:Fn:=mkF 8
  (aH (sIf (bP (cp (eFn aJ (ae (ai 0) (ae (eK (.int 2)) au))))) (a8 (eK (.bl false))) bO)
  (aH (eG (ai 0) (gT 2 (aN (gN 1) (aN (gN 2) cV))))
  (aH (sIf (tOr (bP (cp (eFn aj (ae (ai 1) au)))) (bP (cp (eFn cL (ae (ai 2) au))))) (a8 (eK (.bl false))) bO)
  (aH (bw 3 (eAc [none,none,none] (ia (ai 2)) (gT 3 (aN (gN 0) (aN (gN 1) (aN (gN 2) cV)))) c7 (mD (ai 0) (eFn cB (ae (ai 1) au))) [] .dv))
  (aH (bw 4 (eK (.int 60)))
  (aH (j8 (ia (ai 2)) (gT 3 (aN (gN 5) (aN (gN 6) (aN (gN 7) cV)))) (aH (bw 4 (eFn (bM 8) (ae (ai 7) (ae (eK (.int 1)) (ae (ai 4) (ae (ai 1) (ae (ai 3) (ae (ai 6) au))))))))
  (sIf (bc (eOp vy (ai 4) (eK .non))) (a8 (eK (.bl false))) bO)))
  (a8 (eK (.bl true)))))))))
abbrev dM:Stmt:=top 34
theorem jq:FnScope ["_law_number","_law_many"] ["_law_number","_law_many"] (az dM):=⟨rfl,rfl,rfl,by decide+kernel,rfl,by decide+kernel,by decide+kernel⟩
def bt:Fn:=mkF 2
  (a8 (eOp bL (eOp bL (eOp fIx (eK (.str "abcdefghij")) (eOp gy (eOp nT (ai 0) (eK (.int 10))) (eK (.int 10)))) (eOp fIx (eK (.str "klmnopqrst")) (eOp gy (ai 0) (eK (.int 10))))) (eOp fh (eK (.str "z")) (eOp gx (ai 1) (eK (.int 2))))))
abbrev de:Stmt:=top 35
theorem aA:FnScope ["_law_sizes","_law_names","_law_deeds","_law_params","_law_rows","_law_locks","_law_deep","_law_letters","_law_figure","_law_words","_law_inner","_law_k","_law_some","_law_first","_law_told"] ["_law_sizes"] (az de):=⟨rfl,rfl,rfl,by decide+kernel,rfl,by decide+kernel,by decide+kernel⟩
def ah:Fn:=mkF 15
  (aH (eG (ai 0) (gTL 8 (aN (gN 1) (aN (gN 2) (aN (gN 3) (aN (gN 4) (aN (gN 5) (aN (gN 6) (aN (gN 7) (aN (gN 8) cV))))))))))
  (aH (bw 9 (eLv (bV [none,some 7] (kI (ae (ai 1) au)) (gN 0) c7 (eFn bt (ae (ai 0) (ae (ai 1) au))))))
  (aH (bw 10 (eFn bH au))
  (aH (j8 (kI (ae (eOp gx (ai 6) (eK (.int 1))) au)) (gN 11) (bw 10 (eFn bH (ae (eFn bH (ae (eK (.str "again")) (ae (ai 10) au))) au))))
  (aH (bw 12 (eFn eO (ae (eLv (bV [none,some 8,some 9] (kI (ae (ai 5) au)) (gN 0) c7 (eFn bH (ae (eOp fIx (ai 2) (eK (.int 0))) (ae (eFn bH (ae (eK (.str "")) (ae (eOp gx (ai 1) (ai 0)) au))) au))))) au)))
  (aH (bw 13 (eOp bL (eOp bL (ai 10) (eFn bH (ae (eFn bH (ae (eK (.str "all")) (ae (ai 12) (ae (eFn bH au) au)))) au))) (eOp i0 (eFn bH (ae (eFn bH (ae (eK (.str "say")) (ae (eK (.str "a")) au))) au)) (eOp gx (eOp gx (ai 4) (eK (.int 1))) (eFn cB (ae (ai 10) au))))))
  (aH (bw 14 (eLv (ae (eFn bH (ae (eK (.str "first")) (ae (eFn eO (ae (eLv (bV [none] (kI (ae (ai 3) au)) (gN 0) c7 (eFn bt (ae (ai 0) (ae (eK (.int 2)) au))))) au)) (ae (ai 13) au)))) au)))
  (aH (bw 14 (eOp bL (ai 14) (eLv (bV [none] (kI (ae (eOp gx (ai 2) (eK (.int 1))) au)) (gN 0) c7 (eFn bH (ae (eFn bt (ae (ai 0) (ae (eK (.int 3)) au))) (ae (eFn bH au) (ae (eFn bH au) au))))))))
  (a8 (eFn bH (ae (eFn eO (ae (eFn jK (ae (ai 9) au)) au)) (ae (eFn eO (ae (ai 14) au)) au))))))))))))
abbrev dP:Stmt:=top 36
theorem cu:FnScope ["_law_rows","_law_some","_law_deeds","_law_lot"] ["_law_rows"] (az dP):=⟨rfl,rfl,rfl,by decide+kernel,rfl,by decide+kernel,by decide+kernel⟩
def cg:Fn:=mkF 4
  (aH (bw 1 (eK (.lv [.int 12,.int 12,.int 12,.int 12,.int 6])))
  (aH (bw 2 (eLv (bV [none,none] (sA (ae (ai 1) au)) (gT 2 (aN (gN 0) (aN (gN 1) cV))) c7 (eFn bH (ae (eFn bt (ae (ai 0) (ae (eK (.int 2)) au))) (ae (eFn bH au) (ae (eOp i0 (eFn bH (ae (eFn bH (ae (eK (.str "say")) (ae (eK (.str "a")) au))) au)) (ai 1)) au)))))))
  (aH (bw 3 (eOp i0 (eFn bH (ae (eFn bH (ae (eK (.str "say")) (ae (eK (.str "a")) au))) au)) (eOp gx (ai 0) (eK (.int 55)))))
  (a8 (eFn bH (ae (eFn bH (ae (eK (.str "a")) au)) (ae (eOp bL (eFn eO (ae (ai 2) au)) (eFn bH (ae (eFn bH (ae (eK (.str "last")) (ae (eFn bH au) (ae (eFn bH (ae (eFn bH (ae (eK (.str "again")) (ae (ai 3) au))) au)) au)))) au))) au)))))))
abbrev gb:Stmt:=top 37
theorem cA:FnScope ["_law_script","_law_state","_law_usual","_law_most","_law_k","_law_at","_law_sizes","_law_told","_law_due","_law_rows"] ["_law_script"] (az gb):=⟨rfl,rfl,rfl,by decide+kernel,rfl,by decide+kernel,by decide+kernel⟩
def mW:Fn:=mkF 10
  (aH (bw 1 (eFn bG (ae (ai 0) au)))
  (aH (bw 2 (eK (.lv [.int 2,.int 2,.int 2,.int 4,.int 2,.int 2,.int 4,.int 9])))
  (aH (bw 3 (eK (.lv [.int 6,.int 6,.int 3,.int 12,.int 4,.int 5,.int 8,.int 99])))
  (aH (j8 (kI (ae (eK (.int 40)) au)) (gN 4) (aH (bw 5 (eFn aZ (ae (ai 1) (ae (eK (.int 8)) au))))
  (aH (bw 6 (eOb (kW (ae (ai 2) au))))
  (aH (eG (eOp bL (eOp gx (eOp fIx (ai 3) (ai 5)) (eK (.int 2))) (eFn aZ (ae (ai 1) (ae (eK (.int 5)) au)))) (ib (ai 6) (ai 5)))
  (aH (sIf (bc (eOp dW (ai 5) (eK (.int 4)))) (eG (eOp bL (eK (.int 1)) (eFn aZ (ae (ai 1) (ae (eK (.int 5)) au)))) (ib (ai 6) (ai 5))) bO)
  (aH (sIf (bc (eOp dW (ai 5) (eK (.int 7)))) (eG (eFn cZ (ae (ai 1) (ae (eK (.lv [.int 97,.int 98,.int 99,.int 100,.int 101,.int (-97),.int (-98),.int (-99)])) au))) (ib (ai 6) (ai 5))) bO)
  (aH (bw 7 (eFn ag (ae (eFn ah (ae (ai 6) au)) au)))
  (aH (bw 8 (eQ (eFn iN (ae (eLv (bV [none,none] (pG (ae (ai 6) (ae (ai 3) au))) (gT 2 (aN (gN 0) (aN (gN 1) cV))) c7 (eOp fLe (ai 0) (ai 1)))) au)) (eQ (eOp fGt (eOp fIx (ai 6) (eK (.int 4))) (eK (.int 1))) (eOp fGt (eOp fIx (ai 6) (eK (.int 7))) (eUn mX (eK (.int 99)))))))
  (aH (sIf (tOr (bP (cp (eFn et (ae (ai 7) (ae (eK (.ty "bool")) au))))) (bc (eOp iM (ai 7) (ai 8)))) (a8 (eK (.bl false))) bO)
  (aH (bw 9 (eOp bL (eK (.int 58)) (eFn aZ (ae (ai 1) (ae (eK (.int 5)) au)))))
  (aH (bw 7 (eFn ag (ae (eFn cg (ae (ai 9) au)) au)))
  (sIf (tOr (bP (cp (eFn et (ae (ai 7) (ae (eK (.ty "bool")) au))))) (bc (eOp iM (ai 7) (eOp fLe (ai 9) (eK (.int 60)))))) (a8 (eK (.bl false))) bO))))))))))))
  (a8 (eK (.bl true)))))))
section
variable {P:Program} {w:World} {K:PySem.W.Frag} {mg:Str→Option Value} {base:Heap}
theorem iK {f:Addr} {fd:FuncData} (F:Fun K "_law_drawn" "_law_drawn" dc f fd) (B:Bs P w K mg):FnOk P w K mg base CX0 1 f fd ["_law_script"] (spF K 1 bG):=
 (a9 F iz fun cdv A outer s H E hr=>by (conv=>arg 2;whnf);with_reducible exact (ax (aB (SFL.ob (jk (aa aq (aa (SFL.ob (jl (by unfold Gl;kernel_rfl) B.list_ jS (aa (oH (sv 0) mn (mm aq)) af) (ab ak))) (aa aq af))) (ab (ab (ab ak))))))))
theorem jF {f:Addr} {fd:FuncData} (F:Fun K "_law_load" "_law_load" dO f fd) (B:Bs P w K mg):FnOk P w K mg base CX0 1 f fd ["_law_state"] (spF K 1 cf):=
 (a9 F bu fun cdv A outer s H E hr=>by (conv=>arg 2;whnf);with_reducible exact (ao (sset 1 bu.nd (bh hr.units (sv 0) aq))
   (ao (sset 2 bu.nd (bh hr.units (sv 0) aq))
   (ao (cj (aL bj (sv 2) aq) (eA hr.units (sv 0) aq))
   (ao (sset 3 bu.nd aq)
   (ao (bg (bq (lL hr.units) (sv 1) (SFL.lv (jk af ak)) (aS _)) (ax (sset 3 bu.nd (bh hr.units (sv 1) (aL dS (sv 2) (aw bS (by unfold Gl;kernel_rfl) B.len_ bU (aa (sv 1) af)))))) aR)
   (ax (bg (SW.st (sL (bq sx (sv 2) (aw bS (by unfold Gl;kernel_rfl) B.len_ bU (aa (sv 1) af)) (aS _)) (qh (bq wU (aw pU (by unfold Gl;kernel_rfl) B.abs_ p3 (aa (sv 3) af)) (aL pb aq aq) (aS _))))) (ax (cj (aw pU (by unfold Gl;kernel_rfl) B.abs_ p3 (aa (sv 3) af)) (eA hr.units (sv 0) aq))) (ao (sset 4 bu.nd (aL dS (aL d3 (aL bj (aL bj (aL dS (sv 3) aq) (aL d3 (aL d3 aq (sv 2)) (sv 2))) aq) aq) aq))
   (ao (sset 4 bu.nd (aL dS (aL d3 (sv 4) (sv 4)) aq))
   (ax (cj (aL bj (aL dS (aL bj (aL bj (aL d3 (sv 4) aq) (sv 2)) aq) aq) (aL pb aq aq)) (eA hr.units (sv 0) aq)))))))))))))
theorem jE {f:Addr} {fd:FuncData} (F:Fun K "_law_next" "_law_next" dN f fd) (B:Bs P w K mg) (d__law_load:Df P w K mg base "_law_load" 1 ["_law_state"] 1 cf):FnOk P w K mg base CX0 2 f fd ["_law_state","_law_many"] (spF K 2 aZ):=
 (a9 F eW fun cdv A outer s H E hr=>by (conv=>arg 2;whnf);with_reducible exact (ao (bg (bq sx (bh hr.units (sv 0) aq) (sv 1) (aS _)) (ax (qk (aM d__law_load hr (by decide) (aa (sv 0) af) (ab ak)))) aR)
   (ao (sset 2 eW.nd (aL dS (bh hr.units (sv 0) aq) (sv 1)))
   (ao (cj (aL pj (bh hr.units (sv 0) aq) (sv 1)) (eA hr.units (sv 0) aq))
   (ax (aB (sv 2)))))))
theorem lS {f:Addr} {fd:FuncData} (F:Fun K "_law_of" "_law_of" fI f fd) (B:Bs P w K mg) (d__law_next:Df P w K mg base "_law_next" 2 ["_law_state","_law_many"] 2 aZ):FnOk P w K mg base CX0 3 f fd ["_law_state","_law_some"] (spF K 2 cZ):=
 (a9 F lD fun cdv A outer s H E hr=>by (conv=>arg 2;whnf);with_reducible exact (ax (aB (bh hr.units (sv 1) (aM d__law_next hr (by decide) (aa (sv 0) (aa (aw bS (by unfold Gl;kernel_rfl) B.len_ bU (aa (sv 1) af)) af)) (ab (ab ak)))))))
theorem g7 {f:Addr} {fd:FuncData} (F:Fun K "is_tuple_of" "is_tuple_of" cO f fd) (B:Bs P w K mg):FnOk P w K mg base CX0 1 f fd ["thing","many"] (spF K 2 aJ):=
 (a9 F gR fun cdv A outer s H E hr=>by (conv=>arg 2;whnf);with_reducible exact (ax (aB (cz (aw bT (by unfold Gl;kernel_rfl) B.isinstance_ aF (aa (sv 0) (aa (cG (by unfold Gl;kernel_rfl) B.tuple_ bz) af))) (cN (bY (bR hr.units) (aw bS (by unfold Gl;kernel_rfl) B.len_ bU (aa (sv 0) af)) (sv 1) (aS _)))))))
theorem lO {f:Addr} {fd:FuncData} (F:Fun K "is_word" "is_word" fE f fd) (B:Bs P w K mg):FnOk P w K mg base CX0 1 f fd ["thing"] (spF K 1 bN):=
 (a9 F lB fun cdv A outer s H E hr=>by (conv=>arg 2;whnf);with_reducible exact (ao (bg (SW.st (cn (aX (ba (aw bT (by unfold Gl;kernel_rfl) B.isinstance_ aF (aa (sv 0) (aa (cG (by unfold Gl;kernel_rfl) B.str_ jR) af))))) (bW (aX (gO eu eu aq (aw bS (by unfold Gl;kernel_rfl) B.len_ bU (aa (sv 0) af)) (cm B.C_MOST_LETTERS (by unfold Gl;kernel_rfl))))))) (ax (aB bK)) aR)
   (ax (aB (aw (eR rfl) (by unfold Gl;kernel_rfl) B.all_ eT (aa (bI (N':=["letter"]) (caps:=[none]) (aW (by kernel_rfl)) rfl (sS (sv 0)) (fun _ _ _ _ _=>(sgn 0 (by show (["letter"]:List Str).Nodup;decide+kernel))) (fun _ _ _ _ _=>bA) (fun _ _ _ _ _=>(bY (mC hr.units) (sv 0) (cm B.C_LETTERS (by unfold Gl;kernel_rfl)) (by kernel_rfl)))) af))))))
theorem er {f:Addr} {fd:FuncData} (F:Fun K "are_unlike_words" "are_unlike_words" bJ f fd) (B:Bs P w K mg) (d_is_word:Df P w K mg base "is_word" 1 ["thing"] 1 bN):FnOk P w K mg base CX0 2 f fd ["thing","least","most"] (spF K 3 aO):=
 (a9 F ej fun cdv A outer s H E hr=>by (conv=>arg 2;whnf);with_reducible exact (ao (bg (SW.st (cn (aX (ba (aw bT (by unfold Gl;kernel_rfl) B.isinstance_ aF (aa (sv 0) (aa (cG (by unfold Gl;kernel_rfl) B.tuple_ bz) af))))) (bW (aX (gO eu eu (sv 1) (aw bS (by unfold Gl;kernel_rfl) B.len_ bU (aa (sv 0) af)) (sv 2)))))) (ax (aB bK)) aR)
   (ax (aB (cz (aw (eR rfl) (by unfold Gl;kernel_rfl) B.all_ eT (aa (bI (N':=["word"]) (caps:=[none]) (aW (by kernel_rfl)) rfl (cM (sv 0)) (fun _ _ _ _ _=>(sgn 0 (by show (["word"]:List Str).Nodup;decide+kernel))) (fun _ _ _ _ _=>bA) (fun _ _ _ _ _=>(aM d_is_word hr (by decide) (aa (sv 0) af) (ab ak)))) af)) (cN (bY (bR hr.units) (iS rfl hr.units (by unfold Gl;kernel_rfl) B.len_ (by unfold Gl;kernel_rfl) B.set_ (sv 0)) (aw bS (by unfold Gl;kernel_rfl) B.len_ bU (aa (sv 0) af)) (aS _))))))))
theorem jC {f:Addr} {fd:FuncData} (F:Fun K "are_heads" "are_heads" dJ f fd) (B:Bs P w K mg) (d_is_tuple_of:Df P w K mg base "is_tuple_of" 1 ["thing","many"] 2 aJ) (d_are_unlike_words:Df P w K mg base "are_unlike_words" 2 ["thing","least","most"] 3 aO):FnOk P w K mg base CX0 3 f fd ["deeds"] (spF K 1 cL):=
 (a9 F jo fun cdv A outer s H E hr=>by (conv=>arg 2;whnf);with_reducible exact (ao (bg (SW.st (cn (aX (ba (aw bT (by unfold Gl;kernel_rfl) B.isinstance_ aF (aa (sv 0) (aa (cG (by unfold Gl;kernel_rfl) B.tuple_ bz) af))))) (bW (aX (ba (aw (eR rfl) (by unfold Gl;kernel_rfl) B.all_ eT (aa (bI (N':=["deed"]) (caps:=[none]) (aW (by kernel_rfl)) rfl (cM (sv 0)) (fun _ _ _ _ _=>(sgn 0 (by show (["deed"]:List Str).Nodup;decide+kernel))) (fun _ _ _ _ _=>bA) (fun _ _ _ _ _=>(aM d_is_tuple_of hr (by decide) (aa (sv 0) (aa aq af)) (ab (ab ak))))) af))))))) (ax (aB bK)) aR)
   (ao (bg (aX (ba (aM d_are_unlike_words hr (by decide) (aa (cT cW (by unfold Gl;kernel_rfl) B.tuple_ bz (aa (bI (N':=["deed"]) (caps:=[none]) (aW (by kernel_rfl)) rfl (cM (sv 0)) (fun _ _ _ _ _=>(sgn 0 (by show (["deed"]:List Str).Nodup;decide+kernel))) (fun _ _ _ _ _=>bA) (fun _ _ _ _ _=>(bh hr.units (sv 0) aq))) af)) (aa aq (aa (cm B.C_MOST_DEEDS (by unfold Gl;kernel_rfl)) af))) (ab (ab (ab ak)))))) (ax (aB bK)) aR)
   (ax (aB (aw (eR rfl) (by unfold Gl;kernel_rfl) B.all_ eT (aa (bI (N':=["deed"]) (caps:=[none]) (aW (by kernel_rfl)) rfl (cM (sv 0)) (fun _ _ _ _ _=>(sgn 0 (by show (["deed"]:List Str).Nodup;decide+kernel))) (fun _ _ _ _ _=>bA) (fun _ _ _ _ _=>(aM d_are_unlike_words hr (by decide) (aa (bh hr.units (sv 0) aq) (aa aq (aa (cm B.C_MOST_PARAMS (by unfold Gl;kernel_rfl)) af))) (ab (ab (ab ak)))))) af)))))))
theorem jA {f:Addr} {fd:FuncData} (F:Fun K "are_names" "are_names" dH f fd) (B:Bs P w K mg) (d_are_unlike_words:Df P w K mg base "are_unlike_words" 2 ["thing","least","most"] 3 aO):FnOk P w K mg base CX0 3 f fd ["thing"] (spF K 1 aj):=
 (a9 F jm fun cdv A outer s H E hr=>by (conv=>arg 2;whnf);with_reducible exact (ax (aB (cz (aM d_are_unlike_words hr (by decide) (aa (sv 0) (aa aq (aa (cm B.C_MOST_NAMES (by unfold Gl;kernel_rfl)) af))) (ab (ab (ab ak)))) (cN (bY (bR hr.units) (SFL.lv (jl (by unfold Gl;kernel_rfl) B.list_ jS (aa (sv 0) af) (ab ak))) (aw nY (by unfold Gl;kernel_rfl) B.sorted_ i9 (aa (sv 0) af)) (aS _)))))))
theorem kx {f:Addr} {fd:FuncData} (F:Fun K "is_whole" "is_whole" eF f fd) (B:Bs P w K mg):FnOk P w K mg base CX0 1 f fd ["thing"] (spF K 1 dr):=
 (a9 F j7 fun cdv A outer s H E hr=>by (conv=>arg 2;whnf);with_reducible exact (ax (aB (cz (aw bT (by unfold Gl;kernel_rfl) B.isinstance_ aF (aa (sv 0) (aa (cG (by unfold Gl;kernel_rfl) B.int_ vE) af))) (cN (sV (aw bT (by unfold Gl;kernel_rfl) B.isinstance_ aF (aa (sv 0) (aa (cG (by unfold Gl;kernel_rfl) B.bool_ jT) af)))))))))
theorem lP {f:Addr} {fd:FuncData} (F:Fun K "is_term" "is_term" fF f fd) (B:Bs P w K mg) (d_is_tuple_of:Df P w K mg base "is_tuple_of" 1 ["thing","many"] 2 aJ) (d_is_whole:Df P w K mg base "is_whole" 1 ["thing"] 1 dr):FnOk P w K mg base CX0 2 f fd ["thing","params"] (spF K 2 bE):=
 (a9 F eC fun cdv A outer s H E hr=>by (conv=>arg 2;whnf);with_reducible exact (ao (bg (aX (ba (aM d_is_tuple_of hr (by decide) (aa (sv 0) (aa aq af)) (ab (ab ak))))) (ax (aB bK)) aR)
   (ao (cj (sv 0) (dE rfl (aG (sgn 2 eC.nd) (aG (sgn 3 eC.nd) cq))))
   (ao (bg (SW.st (cn (aX (ba (aw bT (by unfold Gl;kernel_rfl) B.isinstance_ aF (aa (sv 2) (aa (cG (by unfold Gl;kernel_rfl) B.str_ jR) af))))) (bW (aX (ba (aM d_is_whole hr (by decide) (aa (sv 3) af) (ab ak))))))) (ax (aB bK)) aR)
   (ax (aB (cz (wj (bY (bR hr.units) (sv 2) aY (aS _)) (cN (bY (mC hr.units) (sv 2) (sv 1) (by kernel_rfl)))) (cN (oI eu eu (oF kY (cm B.C_MOST_FIGURE (by unfold Gl;kernel_rfl))) (sv 3) (cm B.C_MOST_FIGURE (by unfold Gl;kernel_rfl)))))))))))
theorem lR {f:Addr} {fd:FuncData} (F:Fun K "is_call" "is_call" fH f fd) (B:Bs P w K mg) (d_is_tuple_of:Df P w K mg base "is_tuple_of" 1 ["thing","many"] 2 aJ) (d_is_word:Df P w K mg base "is_word" 1 ["thing"] 1 bN) (d_is_term:Df P w K mg base "is_term" 2 ["thing","params"] 2 bE):FnOk P w K mg base CX0 3 f fd ["deed","terms","counts","params"] (spF K 4 eh):=
 (a9 F lC fun cdv A outer s H E hr=>by (conv=>arg 2;whnf);with_reducible exact (ao (bg (SW.st (cn (aX (ba (aM d_is_word hr (by decide) (aa (sv 0) af) (ab ak)))) (cn (bq (pf hr.units) (sv 0) (sv 2) (by kernel_rfl)) (bW (aX (ba (aM d_is_tuple_of hr (by decide) (aa (sv 1) (aa (bh hr.units (sv 2) (sv 0)) af)) (ab (ab ak))))))))) (ax (aB bK)) aR)
   (ax (aB (aw (eR rfl) (by unfold Gl;kernel_rfl) B.all_ eT (aa (bI (N':=["term","params"]) (caps:=[none,some 3]) (aW (by kernel_rfl)) rfl (cM (sv 1)) (fun _ _ _ _ _=>(sgn 0 (by show (["term","params"]:List Str).Nodup;decide+kernel))) (fun _ _ _ _ _=>bA) (fun _ _ _ _ _=>(aM d_is_term hr (by decide) (aa (sv 0) (aa (sv 1) af)) (ab (ab ak))))) af))))))
theorem lQ {f:Addr} {fd:FuncData} (F:Fun K "is_lock" "is_lock" fG f fd) (B:Bs P w K mg) (d_is_tuple_of:Df P w K mg base "is_tuple_of" 1 ["thing","many"] 2 aJ) (d_is_term:Df P w K mg base "is_term" 2 ["thing","params"] 2 bE):FnOk P w K mg base CX0 3 f fd ["thing","names","params"] (spF K 3 cx):=
 (a9 F eD fun cdv A outer s H E hr=>by (conv=>arg 2;whnf);with_reducible exact (ao (bg (aX (ba (aM d_is_tuple_of hr (by decide) (aa (sv 0) (aa aq af)) (ab (ab ak))))) (ax (aB bK)) aR)
   (ao (cj (sv 0) (dE rfl (aG (sgn 3 eD.nd) (aG (sgn 4 eD.nd) cq))))
   (ax (aB (cz (aw bT (by unfold Gl;kernel_rfl) B.isinstance_ aF (aa (sv 3) (aa (cG (by unfold Gl;kernel_rfl) B.str_ jR) af))) (cz (bY (mC hr.units) (sv 3) (sv 1) (by kernel_rfl)) (cN (aM d_is_term hr (by decide) (aa (sv 4) (aa (sv 2) af)) (ab (ab ak)))))))))))
theorem jB {f:Addr} {fd:FuncData} (F:Fun K "are_locks" "are_locks" dI f fd) (B:Bs P w K mg) (d_is_lock:Df P w K mg base "is_lock" 3 ["thing","names","params"] 3 cx):FnOk P w K mg base CX0 4 f fd ["thing","names","params"] (spF K 3 cK):=
 (a9 F jn fun cdv A outer s H E hr=>by (conv=>arg 2;whnf);with_reducible exact (ao (bg (SW.st (cn (aX (ba (aw bT (by unfold Gl;kernel_rfl) B.isinstance_ aF (aa (sv 0) (aa (cG (by unfold Gl;kernel_rfl) B.tuple_ bz) af))))) (bW (aX (gO eu eu (cm B.C_FEWEST_IN_ALL (by unfold Gl;kernel_rfl)) (aw bS (by unfold Gl;kernel_rfl) B.len_ bU (aa (sv 0) af)) (cm B.C_MOST_IN_ALL (by unfold Gl;kernel_rfl))))))) (ax (aB bK)) aR)
   (ax (aB (cz (aw (eR rfl) (by unfold Gl;kernel_rfl) B.all_ eT (aa (bI (N':=["lock","names","params"]) (caps:=[none,some 1,some 2]) (aW (by kernel_rfl)) rfl (cM (sv 0)) (fun _ _ _ _ _=>(sgn 0 (by show (["lock","names","params"]:List Str).Nodup;decide+kernel))) (fun _ _ _ _ _=>bA) (fun _ _ _ _ _=>(aM d_is_lock hr (by decide) (aa (sv 0) (aa (sv 1) (aa (sv 2) af))) (ab (ab (ab ak)))))) af)) (cN (bY (bR hr.units) (iS rfl hr.units (by unfold Gl;kernel_rfl) B.len_ (by unfold Gl;kernel_rfl) B.set_ (sv 0)) (aw bS (by unfold Gl;kernel_rfl) B.len_ bU (aa (sv 0) af)) (aS _))))))))
theorem eY {f:Addr} {fd:FuncData} (F:Fun K "is_right_ahead" "is_right_ahead" bZ f fd) (B:Bs P w K mg) (d_is_word:Df P w K mg base "is_word" 1 ["thing"] 1 bN) (d_is_call:Df P w K mg base "is_call" 3 ["deed","terms","counts","params"] 4 eh) (d_are_locks:Df P w K mg base "are_locks" 4 ["thing","names","params"] 3 cK) (d_is_lock:Df P w K mg base "is_lock" 3 ["thing","names","params"] 3 cx) (d_is_term:Df P w K mg base "is_term" 2 ["thing","params"] 2 bE):FnOk P w K mg base CX0 5 f fd ["row","names","counts","params"] (spF K 4 bF):=
 (a9 F cH fun cdv A outer s H E hr=>by (conv=>arg 2;whnf);with_reducible exact (ao (sset 4 cH.nd (bh hr.units (sv 0) aq))
   (ao (bg (bq (bR hr.units) (sv 4) aY (aS _)) (ax (aB (aM d_is_word hr (by decide) (aa (bh hr.units (sv 0) aq) af) (ab ak)))) aR)
   (ao (bg (bq (bR hr.units) (sv 4) aY (aS _)) (ax (aB (aM d_is_call hr (by decide) (aa (bh hr.units (sv 0) aq) (aa (bh hr.units (sv 0) aq) (aa (sv 2) (aa (sv 3) af)))) (ab (ab (ab (ab ak))))))) aR)
   (ao (bg (bq (bR hr.units) (sv 4) aY (aS _)) (ax (aB (aM d_are_locks hr (by decide) (aa (bh hr.units (sv 0) aq) (aa (sv 1) (aa (sv 3) af))) (ab (ab (ab ak)))))) aR)
   (ao (bg (bq (mC hr.units) (sv 4) (aP (aa aY (aa aY af)) (ab (ab ak))) (by kernel_rfl)) (ax (aB (aM d_is_lock hr (by decide) (aa (bh hr.units (sv 0) aq) (aa (sv 1) (aa (sv 3) af))) (ab (ab (ab ak)))))) aR)
   (ao (bg (bq (bR hr.units) (sv 4) aY (aS _)) (ax (aB (cz (aM d_is_term hr (by decide) (aa (bh hr.units (sv 0) aq) (aa (sv 3) af)) (ab (ab ak))) (cN (aM d_is_term hr (by decide) (aa (bh hr.units (sv 0) aq) (aa (sv 3) af)) (ab (ab ak))))))) aR)
   (ax (aB bK)))))))))
theorem jz {f:Addr} {fd:FuncData} (F:Fun K "is_shaped" "is_shaped" dG f fd) (B:Bs P w K mg):FnOk P w K mg base CX0 1 f fd ["row"] (spF K 1 cJ):=
 (a9 F c8 fun cdv A outer s H E hr=>by (conv=>arg 2;whnf);with_reducible exact (ao (bg (SW.st (cn (aX (ba (aw bT (by unfold Gl;kernel_rfl) B.isinstance_ aF (aa (sv 0) (aa (cG (by unfold Gl;kernel_rfl) B.tuple_ bz) af))))) (bW (bq (bR hr.units) (aw bS (by unfold Gl;kernel_rfl) B.len_ bU (aa (sv 0) af)) aq (aS _))))) (ax (aB bK)) aR)
   (ao (bg (SW.st (cn (aX (ba (aw bT (by unfold Gl;kernel_rfl) B.isinstance_ aF (aa (bh hr.units (sv 0) aq) (aa (cG (by unfold Gl;kernel_rfl) B.str_ jR) af))))) (bW (qj B.T_SHAPES (bh hr.units (sv 0) aq))))) (ax (aB bK)) aR)
   (ao (cj (oG B.T_SHAPES (bh hr.units (sv 0) aq)) (dE rfl (aG (sgn 1 c8.nd) (aG (sgn 2 c8.nd) cq))))
   (ax (aB (bY (bR hr.units) (aw bS (by unfold Gl;kernel_rfl) B.len_ bU (aa (sv 0) af)) (aL bj (sv 1) (sv 2)) (aS _))))))))
theorem lN {f:Addr} {fd:FuncData} (F:Fun K "lots_of" "lots_of" fD f fd) (B:Bs P w K mg):FnOk P w K mg base CX0 1 f fd ["row"] (spF K 1 d9):=
 (a9 F lA fun cdv A outer s H E hr=>by (conv=>arg 2;whnf);with_reducible exact (ax (aB (oH (sv 0) (mm (bh hr.units (oG B.T_SHAPES (bh hr.units (sv 0) aq)) aq)) mn))))
theorem eX {f:Addr} {fd:FuncData} (F:Fun K "rows_left" "rows_left" dF f fd) (B:Bs P w K mg) (kf:PySem.W.keepIn K (.ref f)=true) (bf:Binds K fd ["lot","deep","left","names","counts","params"] []) (mf:mg "rows_left"=some (.ref f)) (d_is_right_ahead:Df P w K mg base "is_right_ahead" 5 ["row","names","counts","params"] 4 bF) (d_is_shaped:Df P w K mg base "is_shaped" 1 ["row"] 1 cJ) (d_lots_of:Df P w K mg base "lots_of" 1 ["row"] 1 d9):∀n,FnOk P w K mg base CX0 (6+n) f fd ["lot","deep","left","names","counts","params"] (spF K 6 (bM n))
 | 0=>rA
 | n+1=>by
  have d_rows_left:Df P w K mg base "rows_left" (6+n) ["lot","deep","left","names","counts","params"] 6 (bM n):=⟨f,fd,eX F B kf bf mf d_is_right_ahead d_is_shaped d_lots_of n,kf,bf,mf⟩
  exact (a9 F bQ fun cdv A outer s H E hr=>by (conv=>arg 2;whnf);with_reducible exact (ao (bg (SW.st (cn (bq mE (sv 1) (cm B.C_MOST_DEEP (by unfold Gl;kernel_rfl)) (aS _)) (cn (aX (ba (aw bT (by unfold Gl;kernel_rfl) B.isinstance_ aF (aa (sv 0) (aa (cG (by unfold Gl;kernel_rfl) B.tuple_ bz) af))))) (bW (bq mE (aw bS (by unfold Gl;kernel_rfl) B.len_ bU (aa (sv 0) af)) (cm B.C_MOST_IN_LOT (by unfold Gl;kernel_rfl)) (aS _)))))) (ax (aB fC)) aR)
   (ao (gP PassesOwn.never rfl (cM (sv 0)) (sgn 6 bQ.nd) (ao (bg (SW.st (cn (bq (bR hr.units) (sv 2) aq (aS _)) (cn (aX (ba (aM d_is_shaped hr (Nat.le_trans (by decide) (Nat.le_add_right _ _)) (aa (sv 6) af) (ab ak)))) (bW (aX (ba (aM d_is_right_ahead hr (Nat.le_trans (by decide) (Nat.le_add_right _ _)) (aa (sv 6) (aa (sv 3) (aa (sv 4) (aa (sv 5) af)))) (ab (ab (ab (ab ak))))))))))) (ax (aB fC)) aR)
   (ao (xO 2 bQ.nd aq rK)
   (ax (gP PassesOwn.never rfl (cM (aM d_lots_of hr (Nat.le_trans (by decide) (Nat.le_add_right _ _)) (aa (sv 6) af) (ab ak))) (sgn 7 bQ.nd) (ao (sset 2 bQ.nd (aM d_rows_left hr (Nat.le_refl _) (aa (sv 7) (aa (aL bj (sv 1) aq) (aa (sv 2) (aa (sv 3) (aa (sv 4) (aa (sv 5) af)))))) (ab (ab (ab (ab (ab (ab ak))))))))
   (ax (bg (bq ph (sv 2) fC (aS _)) (ax (aB fC)) aR))))))))
   (ax (aB (sv 2))))))
theorem iJ {f:Addr} {fd:FuncData} (F:Fun K "is_program" "is_program" c9 f fd) (B:Bs P w K mg) (d_is_tuple_of:Df P w K mg base "is_tuple_of" 1 ["thing","many"] 2 aJ) (d_are_heads:Df P w K mg base "are_heads" 3 ["deeds"] 1 cL) (d_are_names:Df P w K mg base "are_names" 3 ["thing"] 1 aj) (d_rows_left:Df P w K mg base "rows_left" 14 ["lot","deep","left","names","counts","params"] 6 (bM 8)):FnOk P w K mg base CX0 15 f fd ["thing"] (spF K 1 ag):=
 (a9 F aU fun cdv A outer s H E hr=>by (conv=>arg 2;whnf);with_reducible exact (ao (bg (aX (ba (aM d_is_tuple_of hr (by decide) (aa (sv 0) (aa aq af)) (ab (ab ak))))) (ax (aB bK)) aR)
   (ao (cj (sv 0) (dE rfl (aG (sgn 1 aU.nd) (aG (sgn 2 aU.nd) cq))))
   (ao (bg (SW.st (cn (aX (ba (aM d_are_names hr (by decide) (aa (sv 1) af) (ab ak)))) (bW (aX (ba (aM d_are_heads hr (by decide) (aa (sv 2) af) (ab ak))))))) (ax (aB bK)) aR)
   (ao (oA (i:=3) aU.nd (by kernel_rfl) (by kernel_rfl) (N':=["deed","params","rows"]) (caps:=[none,none,none]) (aW (by kernel_rfl)) rfl (cM (sv 2)) (fun _ _ _ _ _=>(dE rfl (aG (sgn 0 (by show (["deed","params","rows"]:List Str).Nodup;decide+kernel)) (aG (sgn 1 (by show (["deed","params","rows"]:List Str).Nodup;decide+kernel)) (aG (sgn 2 (by show (["deed","params","rows"]:List Str).Nodup;decide+kernel)) cq))))) (fun _ _ _ _ _=>bA) (fun _ _ _ _ _=>(sv 0)) (fun _ _ _ _ _=>(aw bS (by unfold Gl;kernel_rfl) B.len_ bU (aa (sv 1) af))))
   (ao (sset 4 aU.nd (cm B.C_MOST_ROWS (by unfold Gl;kernel_rfl)))
   (ao (gP PassesOwn.never rfl (cM (sv 2)) (dE rfl (aG (sgn 5 aU.nd) (aG (sgn 6 aU.nd) (aG (sgn 7 aU.nd) cq)))) (ao (sset 4 aU.nd (aM d_rows_left hr (by decide) (aa (sv 7) (aa aq (aa (sv 4) (aa (sv 1) (aa (sv 3) (aa (sv 6) af)))))) (ab (ab (ab (ab (ab (ab ak))))))))
   (ax (bg (bq ph (sv 4) fC (aS _)) (ax (aB bK)) aR))))
   (ax (aB bK)))))))))
theorem jD {f:Addr} {fd:FuncData} (F:Fun K "_law_word" "_law_word" dM f fd) (B:Bs P w K mg):FnOk P w K mg base CX0 1 f fd ["_law_number","_law_many"] (spF K 2 bt):=
 (a9 F jq fun cdv A outer s H E hr=>by (conv=>arg 2;whnf);with_reducible exact (ax (aB (aL bj (aL bj (bh hr.units aY (aL dS (aL pj (sv 0) aq) aq)) (bh hr.units aY (aL dS (sv 0) aq))) (aL d3 aY (aL dR (sv 1) aq))))))
theorem iL {f:Addr} {fd:FuncData} (F:Fun K "_law_built" "_law_built" de f fd) (B:Bs P w K mg) (d__law_word:Df P w K mg base "_law_word" 1 ["_law_number","_law_many"] 2 bt):FnOk P w K mg base CX0 2 f fd ["_law_sizes"] (spF K 1 ah):=
 (a9 F aA fun cdv A outer s H E hr=>by (conv=>arg 2;whnf);with_reducible exact (ao (cj (sv 0) (sT rfl (aG (sgn 1 aA.nd) (aG (sgn 2 aA.nd) (aG (sgn 3 aA.nd) (aG (sgn 4 aA.nd) (aG (sgn 5 aA.nd) (aG (sgn 6 aA.nd) (aG (sgn 7 aA.nd) (aG (sgn 8 aA.nd) cq))))))))))
   (ao (sset 9 aA.nd (bI (N':=["_law_k","_law_letters"]) (caps:=[none,some 7]) (aW (by kernel_rfl)) rfl (cw (by unfold Gl;kernel_rfl) B.range_ (aa (sv 1) af) (hl:=(ab ak))) (fun _ _ _ _ _=>(sgn 0 (by show (["_law_k","_law_letters"]:List Str).Nodup;decide+kernel))) (fun _ _ _ _ _=>bA) (fun _ _ _ _ _=>(aM d__law_word hr (by decide) (aa (sv 0) (aa (sv 1) af)) (ab (ab ak))))))
   (ao (sset 10 aA.nd (aP af ak))
   (ao (gP PassesOwn.never rfl (cw (by unfold Gl;kernel_rfl) B.range_ (aa (aL dR (sv 6) aq) af) (hl:=(ab ak))) (sgn 11 aA.nd) (ax (sset 10 aA.nd (aP (aa (aP (aa aY (aa (sv 10) af)) (ab (ab ak))) af) (ab ak)))))
   (ao (sset 12 aA.nd (cT cW (by unfold Gl;kernel_rfl) B.tuple_ bz (aa (bI (N':=["_law_k","_law_figure","_law_words"]) (caps:=[none,some 8,some 9]) (aW (by kernel_rfl)) rfl (cw (by unfold Gl;kernel_rfl) B.range_ (aa (sv 5) af) (hl:=(ab ak))) (fun _ _ _ _ _=>(sgn 0 (by show (["_law_k","_law_figure","_law_words"]:List Str).Nodup;decide+kernel))) (fun _ _ _ _ _=>bA) (fun _ _ _ _ _=>(aP (aa (bh hr.units (sv 2) aq) (aa (aP (aa aY (aa (aL dR (sv 1) (sv 0)) af)) (ab (ab ak))) af)) (ab (ab ak))))) af)))
   (ao (sset 13 aA.nd (aL bj (aL bj (sv 10) (aP (aa (aP (aa aY (aa (sv 12) (aa (aP af ak) af))) (ab (ab (ab ak)))) af) (ab ak))) (aL jx (aP (aa (aP (aa aY (aa aY af)) (ab (ab ak))) af) (ab ak)) (aL dR (aL dR (sv 4) aq) (aw bS (by unfold Gl;kernel_rfl) B.len_ bU (aa (sv 10) af))))))
   (ao (sset 14 aA.nd (SFL.lv (jk (aa (aP (aa aY (aa (cT cW (by unfold Gl;kernel_rfl) B.tuple_ bz (aa (bI (N':=["_law_k"]) (caps:=[none]) (aW (by kernel_rfl)) rfl (cw (by unfold Gl;kernel_rfl) B.range_ (aa (sv 3) af) (hl:=(ab ak))) (fun _ _ _ _ _=>(sgn 0 (by show (["_law_k"]:List Str).Nodup;decide+kernel))) (fun _ _ _ _ _=>bA) (fun _ _ _ _ _=>(aM d__law_word hr (by decide) (aa (sv 0) (aa aq af)) (ab (ab ak))))) af)) (aa (sv 13) af))) (ab (ab (ab ak)))) af) (ab ak))))
   (ao (sset 14 aA.nd (aL bj (sv 14) (bI (N':=["_law_k"]) (caps:=[none]) (aW (by kernel_rfl)) rfl (cw (by unfold Gl;kernel_rfl) B.range_ (aa (aL dR (sv 2) aq) af) (hl:=(ab ak))) (fun _ _ _ _ _=>(sgn 0 (by show (["_law_k"]:List Str).Nodup;decide+kernel))) (fun _ _ _ _ _=>bA) (fun _ _ _ _ _=>(aP (aa (aM d__law_word hr (by decide) (aa (sv 0) (aa aq af)) (ab (ab ak))) (aa (aP af ak) (aa (aP af ak) af))) (ab (ab (ab ak))))))))
   (ax (aB (aP (aa (cT cW (by unfold Gl;kernel_rfl) B.tuple_ bz (aa (aw pT (by unfold Gl;kernel_rfl) B.sorted_ i9 (aa (sv 9) af)) af)) (aa (cT cW (by unfold Gl;kernel_rfl) B.tuple_ bz (aa (sv 14) af)) af)) (ab (ab ak))))))))))))))
theorem jG {f:Addr} {fd:FuncData} (F:Fun K "_law_full" "_law_full" dP f fd) (B:Bs P w K mg) (d__law_word:Df P w K mg base "_law_word" 1 ["_law_number","_law_many"] 2 bt):FnOk P w K mg base CX0 2 f fd ["_law_rows"] (spF K 1 cg):=
 (a9 F cu fun cdv A outer s H E hr=>by (conv=>arg 2;whnf);with_reducible exact (ao (sset 1 cu.nd (dZ 9 (by kernel_rfl)))
   (ao (ql (i:=2) cu.nd (by kernel_rfl) (by kernel_rfl) (N':=["_law_k","_law_many"]) (caps:=[none,none]) (aW (by kernel_rfl)) rfl (qp (by unfold Gl;kernel_rfl) B.enumerate_ (aa (sv 1) af) (ab ak)) (fun _ _ _ _ _=>(dE rfl (aG (sgn 0 (by show (["_law_k","_law_many"]:List Str).Nodup;decide+kernel)) (aG (sgn 1 (by show (["_law_k","_law_many"]:List Str).Nodup;decide+kernel)) cq)))) (fun _ _ _ _ _=>bA) (fun _ _ _ _ _=>(aP (aa (aM d__law_word hr (by decide) (aa (sv 0) (aa aq af)) (ab (ab ak))) (aa (aP af ak) (aa (aL jx (aP (aa (aP (aa aY (aa aY af)) (ab (ab ak))) af) (ab ak)) (sv 1)) af))) (ab (ab (ab ak))))))
   (ao (sset 3 cu.nd (aL jx (aP (aa (aP (aa aY (aa aY af)) (ab (ab ak))) af) (ab ak)) (aL dR (sv 0) aq)))
   (ax (aB (aP (aa (aP (aa aY af) (ab ak)) (aa (aL bj (cT cW (by unfold Gl;kernel_rfl) B.tuple_ bz (aa (sv 2) af)) (aP (aa (aP (aa aY (aa (aP af ak) (aa (aP (aa (aP (aa aY (aa (sv 3) af)) (ab (ab ak))) af) (ab ak)) af))) (ab (ab (ab ak)))) af) (ab ak))) af)) (ab (ab ak)))))))))
theorem u7 {f:Addr} {fd:FuncData} (F:Fun K "law" "law" gb f fd) (B:Bs P w K mg) (d__law_drawn:Df P w K mg base "_law_drawn" 1 ["_law_script"] 1 bG) (d__law_next:Df P w K mg base "_law_next" 2 ["_law_state","_law_many"] 2 aZ) (d__law_of:Df P w K mg base "_law_of" 3 ["_law_state","_law_some"] 2 cZ) (d_is_program:Df P w K mg base "is_program" 15 ["thing"] 1 ag) (d__law_built:Df P w K mg base "_law_built" 2 ["_law_sizes"] 1 ah) (d__law_full:Df P w K mg base "_law_full" 2 ["_law_rows"] 1 cg):FnOk P w K mg base CX0 16 f fd ["_law_script"] (spF K 1 mW):=
 (a9 F cA fun cdv A outer s H E hr=>by (conv=>arg 2;whnf);with_reducible exact (ao (sset 1 cA.nd (aM d__law_drawn hr (by decide) (aa (sv 0) af) (ab ak)))
   (ao (sset 2 cA.nd (dZ 9 (by kernel_rfl)))
   (ao (sset 3 cA.nd (dZ 9 (by kernel_rfl)))
   (ao (gP PassesOwn.never rfl (cw (by unfold Gl;kernel_rfl) B.range_ (aa aq af) (hl:=(ab ak))) (sgn 4 cA.nd) (ao (sset 5 cA.nd (aM d__law_next hr (by decide) (aa (sv 1) (aa aq af)) (ab (ab ak))))
   (ao (sset 6 cA.nd (SFL.ob (jl (by unfold Gl;kernel_rfl) B.list_ jS (aa (sv 2) af) (ab ak))))
   (ao (cj (aL bj (aL dR (bh hr.units (sv 3) (sv 5)) aq) (aM d__law_next hr (by decide) (aa (sv 1) (aa aq af)) (ab (ab ak)))) (eA hr.units (sv 6) (sv 5)))
   (ao (bg (bq (bR hr.units) (sv 5) aq (aS _)) (ax (cj (aL bj aq (aM d__law_next hr (by decide) (aa (sv 1) (aa aq af)) (ab (ab ak)))) (eA hr.units (sv 6) (sv 5)))) aR)
   (ao (bg (bq (bR hr.units) (sv 5) aq (aS _)) (ax (cj (aM d__law_of hr (by decide) (aa (sv 1) (aa (dZ 9 (by kernel_rfl)) af)) (ab (ab ak))) (eA hr.units (sv 6) (sv 5)))) aR)
   (ao (sset 7 cA.nd (aM d_is_program hr (by decide) (aa (aM d__law_built hr (by decide) (aa (sv 6) af) (ab ak)) af) (ab ak)))
   (ao (sset 8 cA.nd (cz (aw (eR rfl) (by unfold Gl;kernel_rfl) B.all_ eT (aa (bI (N':=["_law_one","_law_two"]) (caps:=[none,none]) (aW (by kernel_rfl)) rfl (sR (by unfold Gl;kernel_rfl) B.zip_ (aa (sv 6) (aa (sv 3) af)) (ab (ab ak))) (fun _ _ _ _ _=>(dE rfl (aG (sgn 0 (by show (["_law_one","_law_two"]:List Str).Nodup;decide+kernel)) (aG (sgn 1 (by show (["_law_one","_law_two"]:List Str).Nodup;decide+kernel)) cq)))) (fun _ _ _ _ _=>bA) (fun _ _ _ _ _=>(bY eu (sv 0) (sv 1) (aS _)))) af)) (cz (bY mE (bh hr.units (sv 6) aq) aq (aS _)) (cN (bY mE (bh hr.units (sv 6) aq) (oF kY aq) (aS _))))))
   (ao (bg (SW.st (cn (aX (ba (aw bT (by unfold Gl;kernel_rfl) B.isinstance_ aF (aa (sv 7) (aa (cG (by unfold Gl;kernel_rfl) B.bool_ jT) af))))) (bW (bq (lL hr.units) (sv 7) (sv 8) (aS _))))) (ax (aB bK)) aR)
   (ao (sset 9 cA.nd (aL bj aq (aM d__law_next hr (by decide) (aa (sv 1) (aa aq af)) (ab (ab ak)))))
   (ao (sset 7 cA.nd (aM d_is_program hr (by decide) (aa (aM d__law_full hr (by decide) (aa (sv 9) af) (ab ak)) af) (ab ak)))
   (ax (bg (SW.st (cn (aX (ba (aw bT (by unfold Gl;kernel_rfl) B.isinstance_ aF (aa (sv 7) (aa (cG (by unfold Gl;kernel_rfl) B.bool_ jT) af))))) (bW (bq (lL hr.units) (sv 7) (bY eu (sv 9) aq (aS _)) (aS _))))) (ax (aB bK)) aR)))))))))))))
   (ax (aB bK)))))))
end
abbrev pw:Program:=PySem.Challenge.pw_neverstuck_k03_programs_at_their_bounds
def view:Program:={pw with main:={pw.main with body:=[top 1,top 2,top 3,top 4,top 5,top 6,top 7,top 8,top 10,top 11,top 12,top 13,top 14,top 15,top 16,top 17,top 18,top 19,top 20,top 21,top 22,top 23,top 24,top 25,top 26,top 27,top 28,top 30,top 31,top 32,top 33,top 34,top 35,top 36,top 37]}}
theorem cI:Hd.freeOk view (["SHAPES"]:List Str) ["abs","all","bool","enumerate","int","isinstance","len","list","range","set","sorted","str","tuple","zip"]=true:=by decide+kernel
theorem g0:(recsOf view).find? (fun e=>e.name==("_law_drawn":Str))=some (Hd.br "_law_drawn" dc):=by kernel_rfl
theorem iH:(recsOf view).find? (fun e=>e.name==("_law_load":Str))=some (Hd.br "_law_load" dO):=by kernel_rfl
theorem iG:(recsOf view).find? (fun e=>e.name==("_law_next":Str))=some (Hd.br "_law_next" dN):=by kernel_rfl
theorem kj:(recsOf view).find? (fun e=>e.name==("_law_of":Str))=some (Hd.br "_law_of" fI):=by kernel_rfl
theorem gv:(recsOf view).find? (fun e=>e.name==("is_tuple_of":Str))=some (Hd.br "is_tuple_of" cO):=by kernel_rfl
theorem ke:(recsOf view).find? (fun e=>e.name==("is_word":Str))=some (Hd.br "is_word" fE):=by kernel_rfl
theorem dQ:(recsOf view).find? (fun e=>e.name==("are_unlike_words":Str))=some (Hd.br "are_unlike_words" bJ):=by kernel_rfl
theorem iE:(recsOf view).find? (fun e=>e.name==("are_heads":Str))=some (Hd.br "are_heads" dJ):=by kernel_rfl
theorem iC:(recsOf view).find? (fun e=>e.name==("are_names":Str))=some (Hd.br "are_names" dH):=by kernel_rfl
theorem ju:(recsOf view).find? (fun e=>e.name==("is_whole":Str))=some (Hd.br "is_whole" eF):=by kernel_rfl
theorem kg:(recsOf view).find? (fun e=>e.name==("is_term":Str))=some (Hd.br "is_term" fF):=by kernel_rfl
theorem ki:(recsOf view).find? (fun e=>e.name==("is_call":Str))=some (Hd.br "is_call" fH):=by kernel_rfl
theorem kh:(recsOf view).find? (fun e=>e.name==("is_lock":Str))=some (Hd.br "is_lock" fG):=by kernel_rfl
theorem iD:(recsOf view).find? (fun e=>e.name==("are_locks":Str))=some (Hd.br "are_locks" dI):=by kernel_rfl
theorem eL:(recsOf view).find? (fun e=>e.name==("is_right_ahead":Str))=some (Hd.br "is_right_ahead" bZ):=by kernel_rfl
theorem iB:(recsOf view).find? (fun e=>e.name==("is_shaped":Str))=some (Hd.br "is_shaped" dG):=by kernel_rfl
theorem kd:(recsOf view).find? (fun e=>e.name==("lots_of":Str))=some (Hd.br "lots_of" fD):=by kernel_rfl
theorem iA:(recsOf view).find? (fun e=>e.name==("rows_left":Str))=some (Hd.br "rows_left" dF):=by kernel_rfl
theorem gZ:(recsOf view).find? (fun e=>e.name==("is_program":Str))=some (Hd.br "is_program" c9):=by kernel_rfl
theorem iF:(recsOf view).find? (fun e=>e.name==("_law_word":Str))=some (Hd.br "_law_word" dM):=by kernel_rfl
theorem g6:(recsOf view).find? (fun e=>e.name==("_law_built":Str))=some (Hd.br "_law_built" de):=by kernel_rfl
theorem iI:(recsOf view).find? (fun e=>e.name==("_law_full":Str))=some (Hd.br "_law_full" dP):=by kernel_rfl
theorem qw:(recsOf view).find? (fun e=>e.name==("law":Str))=some (Hd.br "law" gb):=by kernel_rfl
theorem all_mk {l:PySem.W.OpenLaw} {w:World} {h:Heap} {mg mb:Str→Option Value} {mean:ExcName→Option Value} (T:Top view (PySem.W.looseW view (["SHAPES"]:List Str)) mean mg mb h)
  (Y_SHAPES:Hd.tabAt h "SHAPES"=some (cv.map fun x=>(x.1,hashStr w x.1,x.2)))
  (hF:∀ns:List Int,ns.length≤63→∃h',mW [.ro (ns.map D.int)] []=some (.bl true,h')):
  ∃(fa:Addr) (fd:FuncData),mg "law"=some (.ref fa)∧(∀(s:Shared) (v:Value),BindsTo s fd ⟨[v],[]⟩ [("_law_script",v)])∧∀base:Heap,(Hd.bx h).In base→base.Ns mainGlobals mg→FnOk l.prog w (Hd.bx h) mg base CX0 16 fa fd ["_law_script"] (spT (Hd.bx h)):=by
 have B:Bs l.prog w (Hd.bx h) mg:=⟨Hd.bB T cI (List.Mem.head _),Hd.bB T cI (List.Mem.tail _ (List.Mem.head _)),Hd.bB T cI (List.Mem.tail _ (List.Mem.tail _ (List.Mem.head _))),Hd.bB T cI (List.Mem.tail _ (List.Mem.tail _ (List.Mem.tail _ (List.Mem.head _)))),Hd.bB T cI (List.Mem.tail _ (List.Mem.tail _ (List.Mem.tail _ (List.Mem.tail _ (List.Mem.head _))))),Hd.bB T cI (List.Mem.tail _ (List.Mem.tail _ (List.Mem.tail _ (List.Mem.tail _ (List.Mem.tail _ (List.Mem.head _)))))),Hd.bB T cI (List.Mem.tail _ (List.Mem.tail _ (List.Mem.tail _ (List.Mem.tail _ (List.Mem.tail _ (List.Mem.tail _ (List.Mem.head _))))))),Hd.bB T cI (List.Mem.tail _ (List.Mem.tail _ (List.Mem.tail _ (List.Mem.tail _ (List.Mem.tail _ (List.Mem.tail _ (List.Mem.tail _ (List.Mem.head _)))))))),Hd.bB T cI (List.Mem.tail _ (List.Mem.tail _ (List.Mem.tail _ (List.Mem.tail _ (List.Mem.tail _ (List.Mem.tail _ (List.Mem.tail _ (List.Mem.tail _ (List.Mem.head _))))))))),Hd.bB T cI (List.Mem.tail _ (List.Mem.tail _ (List.Mem.tail _ (List.Mem.tail _ (List.Mem.tail _ (List.Mem.tail _ (List.Mem.tail _ (List.Mem.tail _ (List.Mem.tail _ (List.Mem.head _)))))))))),Hd.bB T cI (List.Mem.tail _ (List.Mem.tail _ (List.Mem.tail _ (List.Mem.tail _ (List.Mem.tail _ (List.Mem.tail _ (List.Mem.tail _ (List.Mem.tail _ (List.Mem.tail _ (List.Mem.tail _ (List.Mem.head _))))))))))),Hd.bB T cI (List.Mem.tail _ (List.Mem.tail _ (List.Mem.tail _ (List.Mem.tail _ (List.Mem.tail _ (List.Mem.tail _ (List.Mem.tail _ (List.Mem.tail _ (List.Mem.tail _ (List.Mem.tail _ (List.Mem.tail _ (List.Mem.head _)))))))))))),Hd.bB T cI (List.Mem.tail _ (List.Mem.tail _ (List.Mem.tail _ (List.Mem.tail _ (List.Mem.tail _ (List.Mem.tail _ (List.Mem.tail _ (List.Mem.tail _ (List.Mem.tail _ (List.Mem.tail _ (List.Mem.tail _ (List.Mem.tail _ (List.Mem.head _))))))))))))),Hd.bB T cI (List.Mem.tail _ (List.Mem.tail _ (List.Mem.tail _ (List.Mem.tail _ (List.Mem.tail _ (List.Mem.tail _ (List.Mem.tail _ (List.Mem.tail _ (List.Mem.tail _ (List.Mem.tail _ (List.Mem.tail _ (List.Mem.tail _ (List.Mem.tail _ (List.Mem.head _)))))))))))))),Hd.cc T (by kernel_rfl),Hd.cc T (by kernel_rfl),Hd.cc T (by kernel_rfl),Hd.cc T (by kernel_rfl),Hd.rY T (by kernel_rfl) (by decide+kernel),Hd.cc T (by kernel_rfl),Hd.cc T (by kernel_rfl),Hd.cc T (by kernel_rfl),Hd.cc T (by kernel_rfl),Hd.cc T (by kernel_rfl),Hd.cc T (by kernel_rfl),Hd.tab_of Y_SHAPES T.g (by decide+kernel)⟩
 obtain ⟨f1,fd1,m1,F1⟩:=Hd.bC T g0
 have k1:=F1.kp
 have b1:=F1.binds (ps:=["_law_script"]) fun _ _ _ _ _ _ us hl=>match us,hl with | [_],_=>rfl
 obtain ⟨f2,fd2,m2,F2⟩:=Hd.bC T iH
 have k2:=F2.kp
 have b2:=F2.binds (ps:=["_law_state"]) fun _ _ _ _ _ _ us hl=>match us,hl with | [_],_=>rfl
 obtain ⟨f3,fd3,m3,F3⟩:=Hd.bC T iG
 have k3:=F3.kp
 have b3:=F3.binds (ps:=["_law_state","_law_many"]) fun _ _ _ _ _ _ us hl=>match us,hl with | [_,_],_=>rfl
 obtain ⟨f4,fd4,m4,F4⟩:=Hd.bC T kj
 have k4:=F4.kp
 have b4:=F4.binds (ps:=["_law_state","_law_some"]) fun _ _ _ _ _ _ us hl=>match us,hl with | [_,_],_=>rfl
 obtain ⟨f5,fd5,m5,F5⟩:=Hd.bC T gv
 have k5:=F5.kp
 have b5:=F5.binds (ps:=["thing","many"]) fun _ _ _ _ _ _ us hl=>match us,hl with | [_,_],_=>rfl
 obtain ⟨f6,fd6,m6,F6⟩:=Hd.bC T ke
 have k6:=F6.kp
 have b6:=F6.binds (ps:=["thing"]) fun _ _ _ _ _ _ us hl=>match us,hl with | [_],_=>rfl
 obtain ⟨f7,fd7,m7,F7⟩:=Hd.bC T dQ
 have k7:=F7.kp
 have b7:=F7.binds (ps:=["thing","least","most"]) fun _ _ _ _ _ _ us hl=>match us,hl with | [_,_,_],_=>rfl
 obtain ⟨f8,fd8,m8,F8⟩:=Hd.bC T iE
 have k8:=F8.kp
 have b8:=F8.binds (ps:=["deeds"]) fun _ _ _ _ _ _ us hl=>match us,hl with | [_],_=>rfl
 obtain ⟨f9,fd9,m9,F9⟩:=Hd.bC T iC
 have k9:=F9.kp
 have b9:=F9.binds (ps:=["thing"]) fun _ _ _ _ _ _ us hl=>match us,hl with | [_],_=>rfl
 obtain ⟨f10,fd10,m10,F10⟩:=Hd.bC T ju
 have k10:=F10.kp
 have b10:=F10.binds (ps:=["thing"]) fun _ _ _ _ _ _ us hl=>match us,hl with | [_],_=>rfl
 obtain ⟨f11,fd11,m11,F11⟩:=Hd.bC T kg
 have k11:=F11.kp
 have b11:=F11.binds (ps:=["thing","params"]) fun _ _ _ _ _ _ us hl=>match us,hl with | [_,_],_=>rfl
 obtain ⟨f12,fd12,m12,F12⟩:=Hd.bC T ki
 have k12:=F12.kp
 have b12:=F12.binds (ps:=["deed","terms","counts","params"]) fun _ _ _ _ _ _ us hl=>match us,hl with | [_,_,_,_],_=>rfl
 obtain ⟨f13,fd13,m13,F13⟩:=Hd.bC T kh
 have k13:=F13.kp
 have b13:=F13.binds (ps:=["thing","names","params"]) fun _ _ _ _ _ _ us hl=>match us,hl with | [_,_,_],_=>rfl
 obtain ⟨f14,fd14,m14,F14⟩:=Hd.bC T iD
 have k14:=F14.kp
 have b14:=F14.binds (ps:=["thing","names","params"]) fun _ _ _ _ _ _ us hl=>match us,hl with | [_,_,_],_=>rfl
 obtain ⟨f15,fd15,m15,F15⟩:=Hd.bC T eL
 have k15:=F15.kp
 have b15:=F15.binds (ps:=["row","names","counts","params"]) fun _ _ _ _ _ _ us hl=>match us,hl with | [_,_,_,_],_=>rfl
 obtain ⟨f16,fd16,m16,F16⟩:=Hd.bC T iB
 have k16:=F16.kp
 have b16:=F16.binds (ps:=["row"]) fun _ _ _ _ _ _ us hl=>match us,hl with | [_],_=>rfl
 obtain ⟨f17,fd17,m17,F17⟩:=Hd.bC T kd
 have k17:=F17.kp
 have b17:=F17.binds (ps:=["row"]) fun _ _ _ _ _ _ us hl=>match us,hl with | [_],_=>rfl
 obtain ⟨f18,fd18,m18,F18⟩:=Hd.bC T iA
 have k18:=F18.kp
 have b18:=F18.binds (ps:=["lot","deep","left","names","counts","params"]) fun _ _ _ _ _ _ us hl=>match us,hl with | [_,_,_,_,_,_],_=>rfl
 obtain ⟨f19,fd19,m19,F19⟩:=Hd.bC T gZ
 have k19:=F19.kp
 have b19:=F19.binds (ps:=["thing"]) fun _ _ _ _ _ _ us hl=>match us,hl with | [_],_=>rfl
 obtain ⟨f20,fd20,m20,F20⟩:=Hd.bC T iF
 have k20:=F20.kp
 have b20:=F20.binds (ps:=["_law_number","_law_many"]) fun _ _ _ _ _ _ us hl=>match us,hl with | [_,_],_=>rfl
 obtain ⟨f21,fd21,m21,F21⟩:=Hd.bC T g6
 have k21:=F21.kp
 have b21:=F21.binds (ps:=["_law_sizes"]) fun _ _ _ _ _ _ us hl=>match us,hl with | [_],_=>rfl
 obtain ⟨f22,fd22,m22,F22⟩:=Hd.bC T iI
 have k22:=F22.kp
 have b22:=F22.binds (ps:=["_law_rows"]) fun _ _ _ _ _ _ us hl=>match us,hl with | [_],_=>rfl
 obtain ⟨f23,fd23,m23,F23⟩:=Hd.bC T qw
 have k23:=F23.kp
 refine ⟨f23,fd23,m23,F23.one fun _ _ _ _ _ _ _=>rfl,fun base _ _=>?_⟩
 have d__law_drawn:Df l.prog w (Hd.bx h) mg base "_law_drawn" 1 ["_law_script"] 1 bG:=⟨f1,_,iK F1 B,k1,b1,m1⟩
 have d__law_load:Df l.prog w (Hd.bx h) mg base "_law_load" 1 ["_law_state"] 1 cf:=⟨f2,_,jF F2 B,k2,b2,m2⟩
 have d__law_next:Df l.prog w (Hd.bx h) mg base "_law_next" 2 ["_law_state","_law_many"] 2 aZ:=⟨f3,_,jE F3 B d__law_load,k3,b3,m3⟩
 have d__law_of:Df l.prog w (Hd.bx h) mg base "_law_of" 3 ["_law_state","_law_some"] 2 cZ:=⟨f4,_,lS F4 B d__law_next,k4,b4,m4⟩
 have d_is_tuple_of:Df l.prog w (Hd.bx h) mg base "is_tuple_of" 1 ["thing","many"] 2 aJ:=⟨f5,_,g7 F5 B,k5,b5,m5⟩
 have d_is_word:Df l.prog w (Hd.bx h) mg base "is_word" 1 ["thing"] 1 bN:=⟨f6,_,lO F6 B,k6,b6,m6⟩
 have d_are_unlike_words:Df l.prog w (Hd.bx h) mg base "are_unlike_words" 2 ["thing","least","most"] 3 aO:=⟨f7,_,er F7 B d_is_word,k7,b7,m7⟩
 have d_are_heads:Df l.prog w (Hd.bx h) mg base "are_heads" 3 ["deeds"] 1 cL:=⟨f8,_,jC F8 B d_is_tuple_of d_are_unlike_words,k8,b8,m8⟩
 have d_are_names:Df l.prog w (Hd.bx h) mg base "are_names" 3 ["thing"] 1 aj:=⟨f9,_,jA F9 B d_are_unlike_words,k9,b9,m9⟩
 have d_is_whole:Df l.prog w (Hd.bx h) mg base "is_whole" 1 ["thing"] 1 dr:=⟨f10,_,kx F10 B,k10,b10,m10⟩
 have d_is_term:Df l.prog w (Hd.bx h) mg base "is_term" 2 ["thing","params"] 2 bE:=⟨f11,_,lP F11 B d_is_tuple_of d_is_whole,k11,b11,m11⟩
 have d_is_call:Df l.prog w (Hd.bx h) mg base "is_call" 3 ["deed","terms","counts","params"] 4 eh:=⟨f12,_,lR F12 B d_is_tuple_of d_is_word d_is_term,k12,b12,m12⟩
 have d_is_lock:Df l.prog w (Hd.bx h) mg base "is_lock" 3 ["thing","names","params"] 3 cx:=⟨f13,_,lQ F13 B d_is_tuple_of d_is_term,k13,b13,m13⟩
 have d_are_locks:Df l.prog w (Hd.bx h) mg base "are_locks" 4 ["thing","names","params"] 3 cK:=⟨f14,_,jB F14 B d_is_lock,k14,b14,m14⟩
 have d_is_right_ahead:Df l.prog w (Hd.bx h) mg base "is_right_ahead" 5 ["row","names","counts","params"] 4 bF:=⟨f15,_,eY F15 B d_is_word d_is_call d_are_locks d_is_lock d_is_term,k15,b15,m15⟩
 have d_is_shaped:Df l.prog w (Hd.bx h) mg base "is_shaped" 1 ["row"] 1 cJ:=⟨f16,_,jz F16 B,k16,b16,m16⟩
 have d_lots_of:Df l.prog w (Hd.bx h) mg base "lots_of" 1 ["row"] 1 d9:=⟨f17,_,lN F17 B,k17,b17,m17⟩
 have d_rows_left:Df l.prog w (Hd.bx h) mg base "rows_left" 14 ["lot","deep","left","names","counts","params"] 6 (bM 8):=⟨f18,_,eX F18 B k18 b18 m18 d_is_right_ahead d_is_shaped d_lots_of 8,k18,b18,m18⟩
 have d_is_program:Df l.prog w (Hd.bx h) mg base "is_program" 15 ["thing"] 1 ag:=⟨f19,_,iJ F19 B d_is_tuple_of d_are_heads d_are_names d_rows_left,k19,b19,m19⟩
 have d__law_word:Df l.prog w (Hd.bx h) mg base "_law_word" 1 ["_law_number","_law_many"] 2 bt:=⟨f20,_,jD F20 B,k20,b20,m20⟩
 have d__law_built:Df l.prog w (Hd.bx h) mg base "_law_built" 2 ["_law_sizes"] 1 ah:=⟨f21,_,iL F21 B d__law_word,k21,b21,m21⟩
 have d__law_full:Df l.prog w (Hd.bx h) mg base "_law_full" 2 ["_law_rows"] 1 cg:=⟨f22,_,jG F22 B d__law_word,k22,b22,m22⟩
 exact rD (u7 F23 B d__law_drawn d__law_next d__law_of d_is_program d__law_built d__law_full) hF
end Mi
local macro_rules | `(tactic| walk_at "one") => `(tactic| with_reducible first
 | refine Sm.oO ?_ | refine Sm.xB ?_ | refine Sm.sr ?_ | refine Sm.wF ?_ | refine Sm.tN ?_ | refine Sm.wx ?_ | refine Sm.wu ?_ | refine Sm.tG ?_ | refine Sm.wA ?_ | refine Sm.tH ?_ | refine Sm.qB ?_
 | refine Sm.xV ?_ | refine Sm.xS ?_ | refine Sm.r_k ?_ | refine Sm.x4 ?_ | refine Sm.tP ?_ | refine Sm.wC ?_ | refine Sm.xY ?_ | refine Sm.xX ?_ | refine Sm.xW ?_ | refine Sm.x5 ?_ | refine Sm.x6 ?_
 | refine Sm.tR ?_ | refine Sm.tD ?_ | refine Sm.tE ?_ | refine Sm.tF ?_ | refine Sm.wt ?_ | refine Sm.oR ?_ | refine Sm.xU ?_ | refine Sm.wB ?_
 | refine Sm.xT ?_ | refine Sm.wy ?_ | refine Sm.wz ?_ | refine Sm.x3 ?_ | refine Sm.tL ?_ | refine Sm.oP ?_ | refine Sm.qC ?_ | refine Sm.wD ?_ | refine Sm.tQ ?_
 | refine Sm.yj ?_ | refine Sm.yk ?_ | refine Sm.xA ?_ | refine Sm.xD ?_ | refine Sm.xC ?_ | refine Sm.yq ?_ | refine Sm.yr ?_ | refine Sm.yt ?_ | refine Sm.yp ?_)
local macro_rules | `(tactic| walk_at "go") => `(tactic| (repeat (first | walk_at "one" | with_reducible refine Sm.oN ?_ | with_reducible refine Sm.su ?_)); (try dsimp only))
local macro_rules | `(tactic| walk_at "run") => `(tactic| (repeat (first | walk_at "one" | with_reducible refine Sm.oN ?_ | with_reducible refine Sm.su ?_ | with_reducible refine Sm.vP ?_ | with_reducible refine Sm.vQ ?_ | with_reducible refine Sm.w_add ?_ | with_reducible refine Sm.w_sub ?_ | with_reducible refine Sm.w_lt ?_ | with_reducible refine Sm.xw ?_ | with_reducible refine Sm.xx ?_ | with_reducible refine Sm.xy ?_ | with_reducible refine Sm.vX ?_ | with_reducible refine Sm.vS ?_ | with_reducible refine Sm.vW ?_ | with_reducible refine Sm.vR ?_ | with_reducible refine Sm.vV ?_ | with_reducible refine Sm.vU ?_ | with_reducible refine Sm.vT ?_ | with_reducible refine Sm.sC ?_ | with_reducible refine Sm.sD ?_ | with_reducible refine Sm.tO ?_)); (try dsimp only))
namespace Mi
open PySem Sm
theorem fJ {a b:Int} {h:MH} {Q:D×MH→Prop} (hb:0 < b) (q:Q (.int (a % b),h)):Rn (gy (.int a) (.int b) h) Q:=⟨_,by unfold gy;dsimp only;rw [if_pos hb],q⟩
theorem sZ {a b:Int} {h:MH} {Q:D×MH→Prop} (hb:0 < b) (hb2:b≤10^40) (q:Q (.int (a / b),h)):Rn (nT (.int a) (.int b) h) Q:=⟨_,by unfold nT;dsimp only;rw [if_pos ⟨hb,hb2⟩],q⟩
theorem gY {a b:Int} {h:MH} {Q:D×MH→Prop} (hb:eZ a b=true) (q:Q (.int (a*b),h)):Rn (fh (.int a) (.int b) h) Q:=⟨_,by show (if eZ a b then _ else _)=_;rw [if_pos hb],q⟩
theorem mul_r {a b:Int} (h1:-(2^64) < b) (h2:b < 2^64):eZ a b=true:=by unfold eZ;simp only [Bool.or_eq_true,Bool.and_eq_true,decide_eq_true_eq];exact .inr ⟨h1,h2⟩
theorem sy {a b:Int} (h1:-(2^64) < a) (h2:a < 2^64):eZ a b=true:=by unfold eZ;simp only [Bool.or_eq_true,Bool.and_eq_true,decide_eq_true_eq];exact .inl ⟨h1,h2⟩
theorem nG {h:MH} {s c:Nat} {cs:List Int} {n t:Int} (hs:h[s]?=some (.lst [.int n,.ob c,.int t])) (hc:h[c]?=some (.lst (cs.map D.int))) (ne:c≠s) (t0:0≤t) (tB:t < 2^60):
  Rn (cf [.ob s] h) fun p=>∃n',0≤n'∧p=(.non,h.set s (.lst [.int n',.ob c,.int (t+1)])):=by
 have hl:s < h.length:=(List.getElem?_eq_some_iff.mp hs).1
 generalize hH:h.set s (.lst [.int n,.ob c,.int (t+1)])=H
 have Hs:H[s]?=some (.lst [.int n,.ob c,.int (t+1)]):=by rw [←hH];exact List.getElem?_set_self hl
 have Hc:H[c]?=some (.lst (cs.map D.int)):=by rw [←hH,List.getElem?_set_ne (Ne.symm ne)];exact hc
 have set0:∀v:Int,kK (.ob s) (.int 0) (.int v) H=some (h.set s (.lst [.int v,.ob c,.int (t+1)])):=fun v=>by
  rw [bD (p:=0) Hs rfl,←hH,List.set_set];rfl
 have e3:kK (.ob s) (.int 2) (.int (t+1)) h=some H:=by rw [bD (p:=2) hs rfl,←hH];rfl
 have e4:cB [.ob c] H=some (.int cs.length,H):=by rw [rT Hc,List.length_map]
 refine km ?_
 walk_at "go"
 refine rv (fT hs rfl) ?_
 walk_at "go"
 refine rv (fT hs rfl) ?_
 walk_at "go"
 refine rv rfl ?_
 walk_at "go"
 refine rv e3 ?_
 walk_at "go"
 refine rv (nS Hc) ⟨_,rfl,fun hne=>?pos,fun hne=>?neg⟩
 case' pos=>
  have hpos:0 < cs.length:=by cases cs with | nil=>simp at hne | cons _ _=>simp
  walk_at "go"
  refine rv e4 (fJ (by omega) ?_)
  obtain ⟨z,hz⟩:=p5 cs (t % (cs.length:Int)) (Int.emod_nonneg _ (by omega)) (Int.emod_lt_of_pos _ (by omega))
  refine rv (fT Hc hz) ?_
 all_goals
  walk_at "go"
  refine rv e4 (rv rfl ⟨_,rfl,?_⟩)
  refine (fun mix=>⟨fun c1=>?thenA,fun _=>⟨fun z=>(nomatch z),fun _=>mix⟩⟩) ?thenB
  case thenA=>
   walk_at "go"
   refine rv rfl ?_
   walk_at "go"
   refine rv rfl (rv rfl ⟨_,rfl,fun c2=>?_,fun _=>mix⟩)
   walk_at "go"
   refine rv rfl ?_
   walk_at "go"
   refine rv (set0 _) ?_
   walk_at "go"
   exact ⟨_,by split <;> omega,rfl⟩
  case thenB=>
   walk_at "go"
   refine fJ (by decide) ?_
   walk_at "go"
   refine gY (sy (by decide) (by decide)) ?_
   walk_at "go"
   refine gY (mul_r (by omega) (by omega)) (rv rfl ?_)
   walk_at "go"
   refine rv rfl ?_
   walk_at "go"
   refine gY (mul_r (by decide) (by decide)) ?_
   walk_at "go"
   refine fJ (by decide) ?_
   walk_at "go"
   refine gY (sy (Int.lt_of_lt_of_le (by decide) (Int.emod_nonneg _ (by decide))) (Int.lt_trans (Int.emod_lt_of_pos _ (by decide)) (by decide))) ?_
   walk_at "go"
   refine fJ (by decide) ?_
   walk_at "go"
   refine gY (mul_r (by decide) (by decide)) ?_
   walk_at "go"
   refine rv rfl ?_
   walk_at "go"
   refine rv rfl ?_
   walk_at "go"
   refine fJ (by decide) ?_
   walk_at "go"
   refine rv rfl (rv rfl ?_)
   walk_at "go"
   refine rv (set0 _) ?_
   walk_at "go"
   exact ⟨_,Int.add_nonneg (Int.emod_nonneg _ (by decide)) (by decide),rfl⟩
end Mi
namespace Mi
open PySem Sm
structure St (s c:Nat) (cs:List Int) (B:Nat) (h:MH):Prop where
 st:∃n t:Int,h[s]?=some (.lst [.int n,.ob c,.int t])∧0≤n∧0≤t∧t≤B
 ce:h[c]?=some (.lst (cs.map D.int))
 ne:c≠s
def But (s:Nat) (h h':MH):Prop:=h'.length=h.length∧∀k,k≠s→h'[k]?=h[k]?
theorem But.refl (s:Nat) (h:MH):But s h h:=⟨rfl,fun _ _=>rfl⟩
theorem But.trans {s:Nat} {h h1 h2:MH} (a:But s h h1) (b:But s h1 h2):But s h h2:=⟨b.1.trans a.1,fun k n=>(b.2 k n).trans (a.2 k n)⟩
theorem But.set {s:Nat} {h:MH} {o:MO}:But s h (h.set s o):=⟨List.length_set,fun k n=>List.getElem?_set_ne (Ne.symm n)⟩
theorem St.up {s c:Nat} {cs:List Int} {B B':Nat} {h:MH} (S:St s c cs B h) (hB:B≤B'):St s c cs B' h:=by
 obtain ⟨n,t,e,a,b,d⟩:=S.st
 exact ⟨⟨n,t,e,a,b,by omega⟩,S.ce,S.ne⟩
theorem St.set {s c:Nat} {cs:List Int} {B B':Nat} {h:MH} {n t:Int} (S:St s c cs B h) (h1:0≤n) (h2:0≤t) (h3:t≤B'):St s c cs B' (h.set s (.lst [.int n,.ob c,.int t])):=by
 obtain ⟨n0,t0,e,_⟩:=S.st
 exact ⟨⟨n,t,List.getElem?_set_self (List.getElem?_eq_some_iff.mp e).1,h1,h2,h3⟩,by rw [List.getElem?_set_ne (Ne.symm S.ne)];exact S.ce,S.ne⟩
theorem St.more {s c:Nat} {cs:List Int} {B:Nat} {h:MH} (S:St s c cs B h) (g:MH):St s c cs B (h++g):=by
 obtain ⟨n,t,e,r⟩:=S.st
 exact ⟨⟨n,t,by rw [List.getElem?_append_left (List.getElem?_eq_some_iff.mp e).1];exact e,r⟩,by rw [List.getElem?_append_left (List.getElem?_eq_some_iff.mp S.ce).1];exact S.ce,S.ne⟩
theorem St.off {s c:Nat} {cs:List Int} {B k:Nat} {h:MH} {o:MO} (S:St s c cs B h) (h1:k≠s) (h2:k≠c):St s c cs B (h.set k o):=by
 obtain ⟨n,t,e,r⟩:=S.st
 exact ⟨⟨n,t,by rw [List.getElem?_set_ne h1];exact e,r⟩,by rw [List.getElem?_set_ne h2];exact S.ce,S.ne⟩
theorem St.lt {s c:Nat} {cs:List Int} {B:Nat} {h:MH} (S:St s c cs B h):s < h.length∧c < h.length:=by
 obtain ⟨n,t,e,r⟩:=S.st
 exact ⟨(List.getElem?_eq_some_iff.mp e).1,(List.getElem?_eq_some_iff.mp S.ce).1⟩
theorem bb {h:MH} {s c:Nat} {cs:List Int} {B:Nat} {m:Int} (S:St s c cs B h) (hB:B < 2^60) (m0:0 < m) (m1:m≤10^40):
  Rn (aZ [.ob s,.int m] h) fun p=>∃r:Int,p.1=.int r∧0≤r∧r < m∧St s c cs (B+1) p.2∧But s h p.2:=by
 obtain ⟨n,t,hs,n0,t0,tB⟩:=S.st
 refine km ?_
 walk_at "go"
 refine rv (fT hs rfl) ?_
 walk_at "go"
 refine rv rfl ⟨_,rfl,fun _=>?pos,fun _=>?neg⟩
 case' pos=>
  walk_at "go"
  obtain ⟨p,ep,n',n0',rfl⟩:=nG hs S.ce S.ne t0 (by omega)
  refine rv ep ?_
  have S1:St s c cs (B+1) (h.set s (.lst [.int n',.ob c,.int (t+1)])):=S.set n0' (by omega) (by omega)
  have b1:But s h (h.set s (.lst [.int n',.ob c,.int (t+1)])):=But.set
 case' neg=>
  have S1:St s c cs (B+1) h:=S.up (Nat.le_succ B)
  have b1:But s h h:=But.refl s h
 all_goals
  generalize h.set s (MO.lst [D.int _,D.ob c,D.int (t+1)])=h1 at*
  obtain ⟨n2,t2,hs2,n02,t02,tB2⟩:=S1.st
  walk_at "go"
  refine rv (fT hs2 rfl) ?_
  walk_at "go"
  refine fJ m0 ?_
  walk_at "go"
  refine rv (fT hs2 rfl) ?_
  walk_at "go"
  refine sZ m0 m1 ?_
  walk_at "go"
  refine rv (bD (p:=0) hs2 rfl) ?_
  walk_at "go"
  exact ⟨_,rfl,Int.emod_nonneg _ (by omega),Int.emod_lt_of_pos _ m0,S1.set (Int.ediv_nonneg n02 (by omega)) t02 tB2,b1.trans But.set⟩
theorem rp {h:MH} {s c:Nat} {cs:List Int} {B:Nat} {d:D} {xs:List D} (S:St s c cs B h) (hB:B < 2^60) (hd:d=.lv xs∨d=.tup xs) (h0:0 < xs.length) (h1:xs.length≤1000000):
  Rn (cZ [.ob s,d] h) fun p=>p.1∈xs∧St s c cs (B+1) p.2∧But s h p.2:=by
 refine km ?_
 walk_at "go"
 have e1:cB [d] h=some (.int xs.length,h):=by rcases hd with rfl | rfl <;> rfl
 refine rv e1 ?_
 walk_at "go"
 obtain ⟨p,ep,r,e2,r0,r1,S1,b1⟩:=bb (m:=(xs.length:Int)) S hB (by omega) (by omega)
 obtain ⟨x,h'⟩:=p
 dsimp only at e2 S1 b1
 subst e2
 refine rv ep ?_
 obtain ⟨v,e3,hv⟩:=vG r0 r1
 have e4:fIx d (.int r) h'=some (v,h'):=by rcases hd with rfl | rfl <;> simp only [fIx,dz,ck,Option.bind_some,e3,Option.map_some]
 refine rv e4 ?_
 walk_at "go"
 exact ⟨hv,S1,b1⟩
theorem l3 (ns:List Int) (hn:ns.length≤63):∃cs:List Int,bG [.ro (ns.map D.int)] []=some (.ob 1,[.lst (cs.map D.int),.lst [.int 0,.ob 0,.int 0]])∧St 1 0 cs 0 [.lst (cs.map D.int),.lst [.int 0,.ob 0,.int 0]]:=by
 refine ⟨(ns.drop (HT.sIx ns.length 0 none)).take (HT.sIx ns.length ns.length (some 63)-HT.sIx ns.length 0 none),?_,⟨⟨0,0,rfl,by decide,by decide,by decide⟩,rfl,by decide⟩⟩
 have e:Rn (bG [.ro (ns.map D.int)] []) fun p=>p=(.ob 1,[.lst (((ns.drop (HT.sIx ns.length 0 none)).take (HT.sIx ns.length ns.length (some 63)-HT.sIx ns.length 0 none)).map D.int),.lst [.int 0,.ob 0,.int 0]]):=by
  refine km ?_
  walk_at "go"
  refine tI ?_
  walk_at "go"
  refine ⟨_,rfl,rv rfl ?_⟩
  walk_at "go"
  refine ⟨_,_,_,rfl,rfl,?_⟩
  walk_at "go"
  simp only [cutD,List.length_map,List.map_drop,List.map_take,List.length_nil,List.nil_append,List.cons_append,List.length_cons]
 obtain ⟨p,ep,rfl⟩:=e
 exact ep
end Mi
namespace Mi
open PySem L2 Sm PySem.Spec PyProof.Rows
def ay (xs:List Int) (b:Bool):Prop:=∀(n:Nat) (h:MH),h[n]?=some (.lst (xs.map D.int))→((ah [.ob n] h).bind fun p=>ag [p.1] p.2)=some (.bl b,h)
theorem aD (A R:SM) (δ:DS) (h:MH):aH A R δ h=(A δ h).bind fun r=>match r.1 with | .nx=>R r.2.1 r.2.2 | _=>some r:=rfl
theorem aE {n:Nat} {h:MH} {xs:List D} (hn:h[n]?=some (.lst xs)) (gs:GMs) (δ:DS):eG (ai 0) (gTL 8 gs) (some (.ob n)::δ) h=(gTL 8 gs (.lv xs) (some (.ob n)::δ) h).bind fun q=>some (.nx,q.1,q.2):=by
 have e:g9 (.ob n) h=some xs:=by show (match h[n]? with | some (.lst xs)=>some xs | _=>none)=_;rw [hn]
 have e2:gTL 8 gs (.ob n) (some (.ob n)::δ) h=gTL 8 gs (.lv xs) (some (.ob n)::δ) h:=by unfold gTL;rw [e];rfl
 rw [←e2];rfl
theorem uU:ay [4,2,2,4,2,2,4,9] true:=by intro n h hn;unfold ah ag aj;rw [av,ar];unfold mkF;rw [aD,show Sm.entry 15 [D.ob n]=some (.ob n)::List.replicate 14 none from rfl,aE hn];kernel_rfl
theorem uT:ay [5,2,2,4,2,2,4,9] true:=by intro n h hn;unfold ah ag aj;rw [av,ar];unfold mkF;rw [aD,show Sm.entry 15 [D.ob n]=some (.ob n)::List.replicate 14 none from rfl,aE hn];kernel_rfl
theorem uS:ay [6,2,2,4,2,2,4,9] true:=by intro n h hn;unfold ah ag aj;rw [av,ar];unfold mkF;rw [aD,show Sm.entry 15 [D.ob n]=some (.ob n)::List.replicate 14 none from rfl,aE hn];kernel_rfl
theorem uR:ay [7,2,2,4,2,2,4,9] false:=by intro n h hn;unfold ah ag aj;rw [av,ar];unfold mkF;rw [aD,show Sm.entry 15 [D.ob n]=some (.ob n)::List.replicate 14 none from rfl,aE hn];kernel_rfl
theorem uQ:ay [8,2,2,4,2,2,4,9] false:=by intro n h hn;unfold ah ag aj;rw [av,ar];unfold mkF;rw [aD,show Sm.entry 15 [D.ob n]=some (.ob n)::List.replicate 14 none from rfl,aE hn];kernel_rfl
theorem uP:ay [2,4,2,4,2,2,4,9] true:=by intro n h hn;unfold ah ag aj;rw [av,ar];unfold mkF;rw [aD,show Sm.entry 15 [D.ob n]=some (.ob n)::List.replicate 14 none from rfl,aE hn];kernel_rfl
theorem uO:ay [2,5,2,4,2,2,4,9] true:=by intro n h hn;unfold ah ag aj;rw [av,ar];unfold mkF;rw [aD,show Sm.entry 15 [D.ob n]=some (.ob n)::List.replicate 14 none from rfl,aE hn];kernel_rfl
theorem uN:ay [2,6,2,4,2,2,4,9] true:=by intro n h hn;unfold ah ag aj;rw [av,ar];unfold mkF;rw [aD,show Sm.entry 15 [D.ob n]=some (.ob n)::List.replicate 14 none from rfl,aE hn];kernel_rfl
theorem uM:ay [2,7,2,4,2,2,4,9] false:=by intro n h hn;unfold ah ag aj;rw [av,ar];unfold mkF;rw [aD,show Sm.entry 15 [D.ob n]=some (.ob n)::List.replicate 14 none from rfl,aE hn];kernel_rfl
theorem uL:ay [2,8,2,4,2,2,4,9] false:=by intro n h hn;unfold ah ag aj;rw [av,ar];unfold mkF;rw [aD,show Sm.entry 15 [D.ob n]=some (.ob n)::List.replicate 14 none from rfl,aE hn];kernel_rfl
theorem uK:ay [2,2,1,4,2,2,4,9] true:=by intro n h hn;unfold ah ag aj;rw [av,ar];unfold mkF;rw [aD,show Sm.entry 15 [D.ob n]=some (.ob n)::List.replicate 14 none from rfl,aE hn];kernel_rfl
theorem uJ:ay [2,2,2,4,2,2,4,9] true:=by intro n h hn;unfold ah ag aj;rw [av,ar];unfold mkF;rw [aD,show Sm.entry 15 [D.ob n]=some (.ob n)::List.replicate 14 none from rfl,aE hn];kernel_rfl
theorem uI:ay [2,2,3,4,2,2,4,9] true:=by intro n h hn;unfold ah ag aj;rw [av,ar];unfold mkF;rw [aD,show Sm.entry 15 [D.ob n]=some (.ob n)::List.replicate 14 none from rfl,aE hn];kernel_rfl
theorem uH:ay [2,2,4,4,2,2,4,9] false:=by intro n h hn;unfold ah ag aj;rw [av,ar];unfold mkF;rw [aD,show Sm.entry 15 [D.ob n]=some (.ob n)::List.replicate 14 none from rfl,aE hn];kernel_rfl
theorem uG:ay [2,2,5,4,2,2,4,9] false:=by intro n h hn;unfold ah ag aj;rw [av,ar];unfold mkF;rw [aD,show Sm.entry 15 [D.ob n]=some (.ob n)::List.replicate 14 none from rfl,aE hn];kernel_rfl
theorem rh:ay [2,2,2,10,2,2,4,9] true:=by intro n h hn;unfold ah ag aj;rw [av,ar];unfold mkF;rw [aD,show Sm.entry 15 [D.ob n]=some (.ob n)::List.replicate 14 none from rfl,aE hn];kernel_rfl
theorem rg:ay [2,2,2,11,2,2,4,9] true:=by intro n h hn;unfold ah ag aj;rw [av,ar];unfold mkF;rw [aD,show Sm.entry 15 [D.ob n]=some (.ob n)::List.replicate 14 none from rfl,aE hn];kernel_rfl
theorem rf:ay [2,2,2,12,2,2,4,9] true:=by intro n h hn;unfold ah ag aj;rw [av,ar];unfold mkF;rw [aD,show Sm.entry 15 [D.ob n]=some (.ob n)::List.replicate 14 none from rfl,aE hn];kernel_rfl
theorem q9:ay [2,2,2,13,2,2,4,9] false:=by intro n h hn;unfold ah ag aj;rw [av,ar];unfold mkF;rw [aD,show Sm.entry 15 [D.ob n]=some (.ob n)::List.replicate 14 none from rfl,aE hn];kernel_rfl
theorem qZ:ay [2,2,2,14,2,2,4,9] false:=by intro n h hn;unfold ah ag aj;rw [av,ar];unfold mkF;rw [aD,show Sm.entry 15 [D.ob n]=some (.ob n)::List.replicate 14 none from rfl,aE hn];kernel_rfl
theorem uF:ay [2,2,2,4,1,2,4,9] false:=by intro n h hn;unfold ah ag aj;rw [av,ar];unfold mkF;rw [aD,show Sm.entry 15 [D.ob n]=some (.ob n)::List.replicate 14 none from rfl,aE hn];kernel_rfl
theorem uE:ay [2,2,2,4,2,2,4,9] true:=by intro n h hn;unfold ah ag aj;rw [av,ar];unfold mkF;rw [aD,show Sm.entry 15 [D.ob n]=some (.ob n)::List.replicate 14 none from rfl,aE hn];kernel_rfl
theorem uD:ay [2,2,2,4,3,2,4,9] true:=by intro n h hn;unfold ah ag aj;rw [av,ar];unfold mkF;rw [aD,show Sm.entry 15 [D.ob n]=some (.ob n)::List.replicate 14 none from rfl,aE hn];kernel_rfl
theorem uC:ay [2,2,2,4,4,2,4,9] true:=by intro n h hn;unfold ah ag aj;rw [av,ar];unfold mkF;rw [aD,show Sm.entry 15 [D.ob n]=some (.ob n)::List.replicate 14 none from rfl,aE hn];kernel_rfl
theorem uB:ay [2,2,2,4,5,2,4,9] false:=by intro n h hn;unfold ah ag aj;rw [av,ar];unfold mkF;rw [aD,show Sm.entry 15 [D.ob n]=some (.ob n)::List.replicate 14 none from rfl,aE hn];kernel_rfl
theorem uA:ay [2,2,2,4,2,3,4,9] true:=by intro n h hn;unfold ah ag aj;rw [av,ar];unfold mkF;rw [aD,show Sm.entry 15 [D.ob n]=some (.ob n)::List.replicate 14 none from rfl,aE hn];kernel_rfl
theorem uz:ay [2,2,2,4,2,4,4,9] true:=by intro n h hn;unfold ah ag aj;rw [av,ar];unfold mkF;rw [aD,show Sm.entry 15 [D.ob n]=some (.ob n)::List.replicate 14 none from rfl,aE hn];kernel_rfl
theorem uy:ay [2,2,2,4,2,5,4,9] true:=by intro n h hn;unfold ah ag aj;rw [av,ar];unfold mkF;rw [aD,show Sm.entry 15 [D.ob n]=some (.ob n)::List.replicate 14 none from rfl,aE hn];kernel_rfl
theorem ux:ay [2,2,2,4,2,6,4,9] false:=by intro n h hn;unfold ah ag aj;rw [av,ar];unfold mkF;rw [aD,show Sm.entry 15 [D.ob n]=some (.ob n)::List.replicate 14 none from rfl,aE hn];kernel_rfl
theorem uw:ay [2,2,2,4,2,7,4,9] false:=by intro n h hn;unfold ah ag aj;rw [av,ar];unfold mkF;rw [aD,show Sm.entry 15 [D.ob n]=some (.ob n)::List.replicate 14 none from rfl,aE hn];kernel_rfl
theorem uv:ay [2,2,2,4,2,2,6,9] true:=by intro n h hn;unfold ah ag aj;rw [av,ar];unfold mkF;rw [aD,show Sm.entry 15 [D.ob n]=some (.ob n)::List.replicate 14 none from rfl,aE hn];kernel_rfl
theorem uu:ay [2,2,2,4,2,2,7,9] true:=by intro n h hn;unfold ah ag aj;rw [av,ar];unfold mkF;rw [aD,show Sm.entry 15 [D.ob n]=some (.ob n)::List.replicate 14 none from rfl,aE hn];kernel_rfl
theorem ur:ay [2,2,2,4,2,2,8,9] true:=by intro n h hn;unfold ah ag aj;rw [av,ar];unfold mkF;rw [aD,show Sm.entry 15 [D.ob n]=some (.ob n)::List.replicate 14 none from rfl,aE hn];kernel_rfl
theorem uq:ay [2,2,2,4,2,2,9,9] false:=by intro n h hn;unfold ah ag aj;rw [av,ar];unfold mkF;rw [aD,show Sm.entry 15 [D.ob n]=some (.ob n)::List.replicate 14 none from rfl,aE hn];kernel_rfl
theorem qY:ay [2,2,2,4,2,2,10,9] false:=by intro n h hn;unfold ah ag aj;rw [av,ar];unfold mkF;rw [aD,show Sm.entry 15 [D.ob n]=some (.ob n)::List.replicate 14 none from rfl,aE hn];kernel_rfl
theorem qX:ay [2,2,2,4,2,2,4,97] true:=by intro n h hn;unfold ah ag aj;rw [av,ar];unfold mkF;rw [aD,show Sm.entry 15 [D.ob n]=some (.ob n)::List.replicate 14 none from rfl,aE hn];kernel_rfl
theorem qW:ay [2,2,2,4,2,2,4,98] true:=by intro n h hn;unfold ah ag aj;rw [av,ar];unfold mkF;rw [aD,show Sm.entry 15 [D.ob n]=some (.ob n)::List.replicate 14 none from rfl,aE hn];kernel_rfl
theorem qV:ay [2,2,2,4,2,2,4,99] true:=by intro n h hn;unfold ah ag aj;rw [av,ar];unfold mkF;rw [aD,show Sm.entry 15 [D.ob n]=some (.ob n)::List.replicate 14 none from rfl,aE hn];kernel_rfl
theorem pa:ay [2,2,2,4,2,2,4,100] false:=by intro n h hn;unfold ah ag aj;rw [av,ar];unfold mkF;rw [aD,show Sm.entry 15 [D.ob n]=some (.ob n)::List.replicate 14 none from rfl,aE hn];kernel_rfl
theorem o9:ay [2,2,2,4,2,2,4,101] false:=by intro n h hn;unfold ah ag aj;rw [av,ar];unfold mkF;rw [aD,show Sm.entry 15 [D.ob n]=some (.ob n)::List.replicate 14 none from rfl,aE hn];kernel_rfl
theorem o8:ay [2,2,2,4,2,2,4,(-97)] true:=by intro n h hn;unfold ah ag aj;rw [av,ar];unfold mkF;rw [aD,show Sm.entry 15 [D.ob n]=some (.ob n)::List.replicate 14 none from rfl,aE hn];kernel_rfl
theorem o7:ay [2,2,2,4,2,2,4,(-98)] true:=by intro n h hn;unfold ah ag aj;rw [av,ar];unfold mkF;rw [aD,show Sm.entry 15 [D.ob n]=some (.ob n)::List.replicate 14 none from rfl,aE hn];kernel_rfl
theorem o6:ay [2,2,2,4,2,2,4,(-99)] false:=by intro n h hn;unfold ah ag aj;rw [av,ar];unfold mkF;rw [aD,show Sm.entry 15 [D.ob n]=some (.ob n)::List.replicate 14 none from rfl,aE hn];kernel_rfl
theorem rO (h:MH):∀r:_root_.Fin 5,((cg [.int (58+(r.1:Int))] h).bind fun p=>ag [p.1] p.2)=some (.bl (decide (58+(r.1:Int)≤60)),h)
 | ⟨0,_⟩=>by kernel_rfl
 | ⟨1,_⟩=>by kernel_rfl
 | ⟨2,_⟩=>by kernel_rfl
 | ⟨3,_⟩=>by kernel_rfl
 | ⟨4,_⟩=>by kernel_rfl
end Mi
namespace Mi
open PySem L2 Sm PySem.Spec PyProof.Rows
def leP:D→Option D
 | .tup [.int a,.int b]=>some (.bl (decide (a≤b)))
 | _=>none
theorem kX:∀(xs ms:List Int),(dA (xs.map D.int) (ms.map D.int)).filterMap leP=(xs.zip ms).map fun p=>D.bl (decide (p.1≤p.2))
 | [],_=>rfl
 | _::_,[]=>rfl
 | a::xs,b::ms=>by
  have e:(dA ((a::xs).map D.int) ((b::ms).map D.int)).filterMap leP=D.bl (decide (a≤b))::(dA (xs.map D.int) (ms.map D.int)).filterMap leP:=rfl
  rw [e,kX xs ms]
  rfl
theorem kR {α:Type} (f:α→Bool):∀(l:List α),oa (l.map fun x=>D.bl (f x))=some (l.map f)
 | []=>rfl
 | x::r=>by show (oa (r.map fun x=>D.bl (f x))).map _=_;rw [kR f r];rfl
theorem seq_assoc (A B C:SM):aH A (aH B C)=aH (aH A B) C:=by
 funext δ h
 unfold aH
 cases e:A δ h with
 | none=>rfl
 | some r=>
  obtain ⟨f,δ1,h1⟩:=r
  dsimp only [Option.bind_some]
  cases f <;> rfl
theorem md:∀{xs ms:List Int} {x:D},x∈dA (xs.map D.int) (ms.map D.int)→∃a b:Int,x=.tup [.int a,.int b]
 | [],_,_,h=>(nomatch h)
 | _::_,[],_,h=>(nomatch h)
 | a::xs,b::ms,x,h=>by
  have h':x∈D.tup [.int a,.int b]::dA (xs.map D.int) (ms.map D.int):=h
  rcases List.mem_cons.mp h' with rfl | q
  ·exact ⟨a,b,rfl⟩
  ·exact md q
theorem vH {n:Nat} {h:MH} {xs ms:List Int} (hn:h[n]?=some (.lst (xs.map D.int))) (hl:xs.length≤100) (v0 v1 v2 v4 v5 v7 v8 v9:Option D):
  Rn (eFn iN (ae (eLv (bV [none,none] (pG (ae (ai 6) (ae (ai 3) au))) (gT 2 (aN (gN 0) (aN (gN 1) cV))) Sm.c7 (eOp fLe (ai 0) (ai 1)))) au) [v0,v1,v2,some (.lv (ms.map D.int)),v4,v5,some (.ob n),v7,v8,v9] h) fun p=>p=(.bl ((xs.zip ms).all fun p=>decide (p.1≤p.2)),h):=by
 walk_at "run"
 refine tJ ?_
 walk_at "run"
 have e1:ck (.ob n) h=some (xs.map D.int,[(n,.lst (xs.map D.int))]):=by
  show (match h[n]? with | some (.lst xs)=>some (xs,[(n,MO.lst xs)]) | _=>none)=_
  rw [hn]
 have hk:chk [(n,.lst (xs.map D.int))] h=true:=by
  show ((match h[n]? with | some u=>oh u (.lst (xs.map D.int)) | none=>false)&&true)=true
  rw [hn]
  show (oh _ _&&true)=true
  rw [og];rfl
 refine ⟨_,_,_,_,_,_,rfl,e1,rfl,?_⟩
 rw [List.append_nil]
 refine rv (mx hk leP (fun δ=>∃a b,δ=[a,b]) ⟨_,_,rfl⟩ ?_) ⟨?_,?_⟩
 ·rintro x hx δ ⟨a,b,rfl⟩
  obtain ⟨u,v,rfl⟩:=md hx
  refine rv (a:=([some (.int u),some (.int v)],h)) rfl ⟨rfl,?_⟩
  refine rv (a:=(true,h)) rfl ⟨rfl,⟨_,_,rfl⟩,fun _=>⟨_,rfl,?_⟩,fun z=>(nomatch z)⟩
  exact rv rfl rfl
 ·rw [kX,List.length_map,List.length_zip,sizeLine_eq]
  have:=Nat.min_le_left xs.length ms.length
  omega
 ·rw [kX]
  walk_at "run"
  refine rv (a:=(.bl ((xs.zip ms).all fun p=>decide (p.1≤p.2)),h)) ?_ rfl
  show ((oa ((xs.zip ms).map fun p=>D.bl (decide (p.1≤p.2)))).map fun bs=>(D.bl (bs.all id),h))=_
  rw [kR]
  show some (D.bl (((xs.zip ms).map fun p=>decide (p.1≤p.2)).all id),h)=_
  rw [List.all_map]
  rfl
end Mi
namespace Mi
open PySem L2 Sm PySem.Spec PyProof.Rows
abbrev si:List Int:=[6,6,3,12,4,5,8,99]
def fU (xs:List Int):Bool:=(xs.zip si).all (fun p=>decide (p.1≤p.2))&&(decide (xs.getD 4 0 > 1)&&decide (xs.getD 7 0 > -99))
def Ready (ns cs:List Int) (B:Nat) (δ:DS) (h:MH):Prop:=∃v4 v5 v7 v8 v9 n xs,δ=[some (.ro (ns.map D.int)),some (.ob 1),some (.lv ([2,2,2,4,2,2,4,9].map D.int)),some (.lv (si.map D.int)),v4,v5,some (.ob n),v7,v8,v9]∧
 h[n]?=some (.lst (xs.map D.int))∧n≠1∧xs.length=8∧ay xs (fU xs)∧Mi.St 1 0 cs B h
theorem w6 {n:Nat} {h:MH} {a b c d e f g i:Int} (hn:h[n]?=some (.lst ([a,b,c,d,e,f,g,i].map D.int))):fIx (.ob n) (.int 4) h=some (.int e,h)∧fIx (.ob n) (.int 7) h=some (.int i,h):=by
 have e1:dz (.ob n) h=none:=by show (match h[n]? with | some (.dct kvs)=>some kvs | _=>none)=_;rw [hn]
 have e2:ck (.ob n) h=some ([a,b,c,d,e,f,g,i].map D.int,[(n,.lst ([a,b,c,d,e,f,g,i].map D.int))]):=by
  show (match h[n]? with | some (.lst xs)=>some (xs,[(n,MO.lst xs)]) | _=>none)=_
  rw [hn]
 unfold fIx
 rw [e1]
 dsimp only
 rw [e2]
 exact ⟨rfl,rfl⟩
theorem vB {n:Nat} {h:MH} {xs:List Int} (hn:h[n]?=some (.lst (xs.map D.int))) (hl:xs.length=8) (v0 v1 v2 v4 v5 v7 v8 v9:Option D):
  Rn (eQ (eFn iN (ae (eLv (bV [none,none] (pG (ae (ai 6) (ae (ai 3) au))) (gT 2 (aN (gN 0) (aN (gN 1) cV))) Sm.c7 (eOp fLe (ai 0) (ai 1)))) au)) (eQ (eOp fGt (eOp fIx (ai 6) (eK (.int 4))) (eK (.int 1))) (eOp fGt (eOp fIx (ai 6) (eK (.int 7))) (eUn mX (eK (.int 99))))) [v0,v1,v2,some (.lv (si.map D.int)),v4,v5,some (.ob n),v7,v8,v9] h) fun p=>p=(.bl (fU xs),h):=by
 match xs,hl,hn with
 | [a,b,c,d,e,f,g,i],_,hn=>
  obtain ⟨i4,i7⟩:=w6 hn
  refine oR (Rn.imp (vH hn (by simp) _ _ _ _ _ _ _ _) ?_)
  rintro p rfl
  refine ⟨_,rfl,fun hc=>?_,fun hc=>?_⟩
  ·refine oR ?_
   walk_at "run"
   refine rv i4 ?_
   walk_at "run"
   refine ⟨_,rfl,fun h4=>?_,fun h4=>?_⟩
   ·walk_at "run"
    refine rv i7 ?_
    walk_at "run"
    unfold fU
    rw [hc,Bool.true_and]
    show _=(D.bl (decide (e > 1)&&decide (i > -99)),h)
    rw [show decide (e > 1)=true from h4]
    rfl
   ·unfold fU
    rw [hc,Bool.true_and]
    show _=(D.bl (decide (e > 1)&&decide (i > -99)),h)
    rw [show decide (e > 1)=false from h4]
    rfl
  ·unfold fU
   rw [hc]
   rfl
theorem xn (r:Int) (h0:0≤r) (h1:r < 5):ay [6-2+r,2,2,4,2,2,4,9] (fU [6-2+r,2,2,4,2,2,4,9]):=by
 have:r=0∨r=1∨r=2∨r=3∨r=4:=by omega
 rcases this with rfl | rfl | rfl | rfl | rfl
 ·exact Eq.mp (by kernel_rfl) uU
 ·exact Eq.mp (by kernel_rfl) uT
 ·exact Eq.mp (by kernel_rfl) uS
 ·exact Eq.mp (by kernel_rfl) uR
 ·exact Eq.mp (by kernel_rfl) uQ
theorem xm (r:Int) (h0:0≤r) (h1:r < 5):ay [2,6-2+r,2,4,2,2,4,9] (fU [2,6-2+r,2,4,2,2,4,9]):=by
 have:r=0∨r=1∨r=2∨r=3∨r=4:=by omega
 rcases this with rfl | rfl | rfl | rfl | rfl
 ·exact Eq.mp (by kernel_rfl) uP
 ·exact Eq.mp (by kernel_rfl) uO
 ·exact Eq.mp (by kernel_rfl) uN
 ·exact Eq.mp (by kernel_rfl) uM
 ·exact Eq.mp (by kernel_rfl) uL
theorem xl (r:Int) (h0:0≤r) (h1:r < 5):ay [2,2,3-2+r,4,2,2,4,9] (fU [2,2,3-2+r,4,2,2,4,9]):=by
 have:r=0∨r=1∨r=2∨r=3∨r=4:=by omega
 rcases this with rfl | rfl | rfl | rfl | rfl
 ·exact Eq.mp (by kernel_rfl) uK
 ·exact Eq.mp (by kernel_rfl) uJ
 ·exact Eq.mp (by kernel_rfl) uI
 ·exact Eq.mp (by kernel_rfl) uH
 ·exact Eq.mp (by kernel_rfl) uG
theorem xk (r:Int) (h0:0≤r) (h1:r < 5):ay [2,2,2,12-2+r,2,2,4,9] (fU [2,2,2,12-2+r,2,2,4,9]):=by
 have:r=0∨r=1∨r=2∨r=3∨r=4:=by omega
 rcases this with rfl | rfl | rfl | rfl | rfl
 ·exact Eq.mp (by kernel_rfl) rh
 ·exact Eq.mp (by kernel_rfl) rg
 ·exact Eq.mp (by kernel_rfl) rf
 ·exact Eq.mp (by kernel_rfl) q9
 ·exact Eq.mp (by kernel_rfl) qZ
theorem xj (r:Int) (h0:0≤r) (h1:r < 5):ay [2,2,2,4,1+r,2,4,9] (fU [2,2,2,4,1+r,2,4,9]):=by
 have:r=0∨r=1∨r=2∨r=3∨r=4:=by omega
 rcases this with rfl | rfl | rfl | rfl | rfl
 ·exact Eq.mp (by kernel_rfl) uF
 ·exact Eq.mp (by kernel_rfl) uE
 ·exact Eq.mp (by kernel_rfl) uD
 ·exact Eq.mp (by kernel_rfl) uC
 ·exact Eq.mp (by kernel_rfl) uB
theorem xi (r:Int) (h0:0≤r) (h1:r < 5):ay [2,2,2,4,2,5-2+r,4,9] (fU [2,2,2,4,2,5-2+r,4,9]):=by
 have:r=0∨r=1∨r=2∨r=3∨r=4:=by omega
 rcases this with rfl | rfl | rfl | rfl | rfl
 ·exact Eq.mp (by kernel_rfl) uA
 ·exact Eq.mp (by kernel_rfl) uz
 ·exact Eq.mp (by kernel_rfl) uy
 ·exact Eq.mp (by kernel_rfl) ux
 ·exact Eq.mp (by kernel_rfl) uw
theorem xh (r:Int) (h0:0≤r) (h1:r < 5):ay [2,2,2,4,2,2,8-2+r,9] (fU [2,2,2,4,2,2,8-2+r,9]):=by
 have:r=0∨r=1∨r=2∨r=3∨r=4:=by omega
 rcases this with rfl | rfl | rfl | rfl | rfl
 ·exact Eq.mp (by kernel_rfl) uv
 ·exact Eq.mp (by kernel_rfl) uu
 ·exact Eq.mp (by kernel_rfl) ur
 ·exact Eq.mp (by kernel_rfl) uq
 ·exact Eq.mp (by kernel_rfl) qY
theorem xg (v:Int) (hv:v∈[97,98,99,100,101,-97,-98,-99]):ay [2,2,2,4,2,2,4,v] (fU [2,2,2,4,2,2,4,v]):=by
 simp only [List.mem_cons,List.not_mem_nil,or_false] at hv
 rcases hv with rfl | rfl | rfl | rfl | rfl | rfl | rfl | rfl
 ·exact Eq.mp (by kernel_rfl) qX
 ·exact Eq.mp (by kernel_rfl) qW
 ·exact Eq.mp (by kernel_rfl) qV
 ·exact Eq.mp (by kernel_rfl) pa
 ·exact Eq.mp (by kernel_rfl) o9
 ·exact Eq.mp (by kernel_rfl) o8
 ·exact Eq.mp (by kernel_rfl) o7
 ·exact Eq.mp (by kernel_rfl) o6
theorem law_true (ns:List Int) (hn:ns.length≤63):∃h',mW [.ro (ns.map D.int)] []=some (.bl true,h'):=by
 have e:Rn (mW [.ro (ns.map D.int)] []) fun p=>p.1=.bl true:=by
  obtain ⟨cs,ed,S0⟩:=l3 ns hn
  refine km ?_
  walk_at "run"
  refine rv ed ?_
  walk_at "run"
  refine tK ?_
  walk_at "run"
  refine ⟨40,rfl,by decide,by decide,?_⟩
  refine oQ (fun i δ h=>∃v4 v5 v6 v7 v8 v9,δ=[some (.ro (ns.map D.int)),some (.ob 1),some (.lv ([2,2,2,4,2,2,4,9].map D.int)),some (.lv (si.map D.int)),v4,v5,v6,v7,v8,v9]∧Mi.St 1 0 cs (10000*i) h)
   ⟨_,_,_,_,_,_,rfl,S0⟩ (fun _ _ _ _ _=>rfl) ?_ ?_
  ·rintro i x δ h hx ⟨v4,v5,v6,v7,v8,v9,rfl,S⟩
   have hi:i < 40:=by
    have:=(List.getElem?_eq_some_iff.mp hx).1
    simpa using this
   walk_at "run"
   obtain ⟨⟨y,h1⟩,e1,a,rfl,a0,a1,S1,b1⟩:=bb (m:=8) S (by omega) (by decide) (by decide)
   refine rv e1 ?_
   walk_at "run"
   refine rv (a:=([2,2,2,4,2,2,4,9].map D.int,h1)) rfl ?_
   rw [seq_assoc,seq_assoc]
   show Rn (aH _ _ _ _) _
   refine oO (Rn.imp (Q:=fun r=>r.1=.nx∧Ready ns cs (10000*i+3) r.2.1 r.2.2) ?_ ?_)
   ·dsimp only at S1 b1
    have hn1:h1.length≠1:=by have:=S1.lt.1;omega
    have hn0:h1.length≠0:=by have:=S1.lt.1;omega
    have ha:a=0∨a=1∨a=2∨a=3∨a=4∨a=5∨a=6∨a=7:=by omega
    rcases ha with rfl | rfl | rfl | rfl | rfl | rfl | rfl | rfl
    ·walk_at "run"
     first | refine rv (a:=(.int 6,h1++[.lst ([2,2,2,4,2,2,4,9].map D.int)])) rfl ?_ | skip
     walk_at "run"
     obtain ⟨⟨y,h2⟩,e2,r,rfl,r0,r1,S2,b2⟩:=bb (m:=5) (S1.more [.lst ([2,2,2,4,2,2,4,9].map D.int)]) (by omega) (by decide) (by decide)
     dsimp only at S2 b2
     have hn2:h2[h1.length]?=some (.lst ([2,2,2,4,2,2,4,9].map D.int)):=by rw [b2.2 _ hn1];simp
     refine rv e2 ?_
     walk_at "run"
     refine rv (bD (p:=0) hn2 rfl) ?_
     have S3:=S2.off (k:=h1.length) (o:=(.lst (([2,2,2,4,2,2,4,9].map D.int).set 0 (.int (6-2+r))))) hn1 hn0
     have hn3:(h2.set h1.length (.lst (([2,2,2,4,2,2,4,9].map D.int).set 0 (.int (6-2+r)))))[h1.length]?=some (.lst (([2,2,2,4,2,2,4,9].map D.int).set 0 (.int (6-2+r)))):=List.getElem?_set_self (List.getElem?_eq_some_iff.mp hn2).1
     walk_at "run"
     refine ⟨false,rfl,fun z=>(nomatch z),fun _=>?_⟩
     walk_at "run"
     refine ⟨false,rfl,fun z=>(nomatch z),fun _=>?_⟩
     walk_at "run"
     exact ⟨rfl,_,_,_,_,_,_,[6-2+r,2,2,4,2,2,4,9],rfl,hn3,hn1,rfl,xn r r0 r1,S3.up (by omega)⟩
    ·walk_at "run"
     first | refine rv (a:=(.int 6,h1++[.lst ([2,2,2,4,2,2,4,9].map D.int)])) rfl ?_ | skip
     walk_at "run"
     obtain ⟨⟨y,h2⟩,e2,r,rfl,r0,r1,S2,b2⟩:=bb (m:=5) (S1.more [.lst ([2,2,2,4,2,2,4,9].map D.int)]) (by omega) (by decide) (by decide)
     dsimp only at S2 b2
     have hn2:h2[h1.length]?=some (.lst ([2,2,2,4,2,2,4,9].map D.int)):=by rw [b2.2 _ hn1];simp
     refine rv e2 ?_
     walk_at "run"
     refine rv (bD (p:=1) hn2 rfl) ?_
     have S3:=S2.off (k:=h1.length) (o:=(.lst (([2,2,2,4,2,2,4,9].map D.int).set 1 (.int (6-2+r))))) hn1 hn0
     have hn3:(h2.set h1.length (.lst (([2,2,2,4,2,2,4,9].map D.int).set 1 (.int (6-2+r)))))[h1.length]?=some (.lst (([2,2,2,4,2,2,4,9].map D.int).set 1 (.int (6-2+r)))):=List.getElem?_set_self (List.getElem?_eq_some_iff.mp hn2).1
     walk_at "run"
     refine ⟨false,rfl,fun z=>(nomatch z),fun _=>?_⟩
     walk_at "run"
     refine ⟨false,rfl,fun z=>(nomatch z),fun _=>?_⟩
     walk_at "run"
     exact ⟨rfl,_,_,_,_,_,_,[2,6-2+r,2,4,2,2,4,9],rfl,hn3,hn1,rfl,xm r r0 r1,S3.up (by omega)⟩
    ·walk_at "run"
     first | refine rv (a:=(.int 3,h1++[.lst ([2,2,2,4,2,2,4,9].map D.int)])) rfl ?_ | skip
     walk_at "run"
     obtain ⟨⟨y,h2⟩,e2,r,rfl,r0,r1,S2,b2⟩:=bb (m:=5) (S1.more [.lst ([2,2,2,4,2,2,4,9].map D.int)]) (by omega) (by decide) (by decide)
     dsimp only at S2 b2
     have hn2:h2[h1.length]?=some (.lst ([2,2,2,4,2,2,4,9].map D.int)):=by rw [b2.2 _ hn1];simp
     refine rv e2 ?_
     walk_at "run"
     refine rv (bD (p:=2) hn2 rfl) ?_
     have S3:=S2.off (k:=h1.length) (o:=(.lst (([2,2,2,4,2,2,4,9].map D.int).set 2 (.int (3-2+r))))) hn1 hn0
     have hn3:(h2.set h1.length (.lst (([2,2,2,4,2,2,4,9].map D.int).set 2 (.int (3-2+r)))))[h1.length]?=some (.lst (([2,2,2,4,2,2,4,9].map D.int).set 2 (.int (3-2+r)))):=List.getElem?_set_self (List.getElem?_eq_some_iff.mp hn2).1
     walk_at "run"
     refine ⟨false,rfl,fun z=>(nomatch z),fun _=>?_⟩
     walk_at "run"
     refine ⟨false,rfl,fun z=>(nomatch z),fun _=>?_⟩
     walk_at "run"
     exact ⟨rfl,_,_,_,_,_,_,[2,2,3-2+r,4,2,2,4,9],rfl,hn3,hn1,rfl,xl r r0 r1,S3.up (by omega)⟩
    ·walk_at "run"
     refine rv (a:=(.int 12,h1++[.lst ([2,2,2,4,2,2,4,9].map D.int)])) rfl ?_
     walk_at "run"
     obtain ⟨⟨y,h2⟩,e2,r,rfl,r0,r1,S2,b2⟩:=bb (m:=5) (S1.more [.lst ([2,2,2,4,2,2,4,9].map D.int)]) (by omega) (by decide) (by decide)
     dsimp only at S2 b2
     have hn2:h2[h1.length]?=some (.lst ([2,2,2,4,2,2,4,9].map D.int)):=by rw [b2.2 _ hn1];simp
     refine rv e2 ?_
     walk_at "run"
     refine rv (bD (p:=3) hn2 rfl) ?_
     have S3:=S2.off (k:=h1.length) (o:=(.lst (([2,2,2,4,2,2,4,9].map D.int).set 3 (.int (12-2+r))))) hn1 hn0
     have hn3:(h2.set h1.length (.lst (([2,2,2,4,2,2,4,9].map D.int).set 3 (.int (12-2+r)))))[h1.length]?=some (.lst (([2,2,2,4,2,2,4,9].map D.int).set 3 (.int (12-2+r)))):=List.getElem?_set_self (List.getElem?_eq_some_iff.mp hn2).1
     walk_at "run"
     refine ⟨false,rfl,fun z=>(nomatch z),fun _=>?_⟩
     walk_at "run"
     refine ⟨false,rfl,fun z=>(nomatch z),fun _=>?_⟩
     walk_at "run"
     exact ⟨rfl,_,_,_,_,_,_,[2,2,2,12-2+r,2,2,4,9],rfl,hn3,hn1,rfl,xk r r0 r1,S3.up (by omega)⟩
    ·walk_at "run"
     refine rv (a:=(.int 4,h1++[.lst ([2,2,2,4,2,2,4,9].map D.int)])) rfl ?_
     walk_at "run"
     obtain ⟨⟨y,h2⟩,e2,r,rfl,r0,r1,S2,b2⟩:=bb (m:=5) (S1.more [.lst ([2,2,2,4,2,2,4,9].map D.int)]) (by omega) (by decide) (by decide)
     dsimp only at S2 b2
     have hn2:h2[h1.length]?=some (.lst ([2,2,2,4,2,2,4,9].map D.int)):=by rw [b2.2 _ hn1];simp
     refine rv e2 ?_
     walk_at "run"
     refine rv (bD (p:=4) hn2 rfl) ?_
     have S3:=S2.off (k:=h1.length) (o:=(.lst (([2,2,2,4,2,2,4,9].map D.int).set 4 (.int (4-2+r))))) hn1 hn0
     have hn3:(h2.set h1.length (.lst (([2,2,2,4,2,2,4,9].map D.int).set 4 (.int (4-2+r)))))[h1.length]?=some (.lst (([2,2,2,4,2,2,4,9].map D.int).set 4 (.int (4-2+r)))):=List.getElem?_set_self (List.getElem?_eq_some_iff.mp hn2).1
     walk_at "run"
     refine ⟨true,rfl,fun _=>?_,fun z=>(nomatch z)⟩
     walk_at "run"
     obtain ⟨⟨y,h4⟩,e4,q,rfl,q0,q1,S4,b4⟩:=bb (m:=5) S3 (by omega) (by decide) (by decide)
     dsimp only at S4 b4
     have hn4:h4[h1.length]?=some (.lst (([2,2,2,4,2,2,4,9].map D.int).set 4 (.int (4-2+r)))):=by rw [b4.2 _ hn1];exact hn3
     refine rv e4 ?_
     walk_at "run"
     refine rv (bD (p:=4) hn4 rfl) ?_
     have S5:=S4.off (k:=h1.length) (o:=(.lst ((([2,2,2,4,2,2,4,9].map D.int).set 4 (.int (4-2+r))).set 4 (.int (1+q))))) hn1 hn0
     have hn5:(h4.set h1.length (.lst ((([2,2,2,4,2,2,4,9].map D.int).set 4 (.int (4-2+r))).set 4 (.int (1+q)))))[h1.length]?=some (.lst ((([2,2,2,4,2,2,4,9].map D.int).set 4 (.int (4-2+r))).set 4 (.int (1+q)))):=List.getElem?_set_self (List.getElem?_eq_some_iff.mp hn4).1
     walk_at "run"
     refine ⟨false,rfl,fun z=>(nomatch z),fun _=>?_⟩
     walk_at "run"
     exact ⟨rfl,_,_,_,_,_,_,[2,2,2,4,1+q,2,4,9],rfl,hn5,hn1,rfl,xj q q0 q1,S5.up (by omega)⟩
    ·walk_at "run"
     refine rv (a:=(.int 5,h1++[.lst ([2,2,2,4,2,2,4,9].map D.int)])) rfl ?_
     walk_at "run"
     obtain ⟨⟨y,h2⟩,e2,r,rfl,r0,r1,S2,b2⟩:=bb (m:=5) (S1.more [.lst ([2,2,2,4,2,2,4,9].map D.int)]) (by omega) (by decide) (by decide)
     dsimp only at S2 b2
     have hn2:h2[h1.length]?=some (.lst ([2,2,2,4,2,2,4,9].map D.int)):=by rw [b2.2 _ hn1];simp
     refine rv e2 ?_
     walk_at "run"
     refine rv (bD (p:=5) hn2 rfl) ?_
     have S3:=S2.off (k:=h1.length) (o:=(.lst (([2,2,2,4,2,2,4,9].map D.int).set 5 (.int (5-2+r))))) hn1 hn0
     have hn3:(h2.set h1.length (.lst (([2,2,2,4,2,2,4,9].map D.int).set 5 (.int (5-2+r)))))[h1.length]?=some (.lst (([2,2,2,4,2,2,4,9].map D.int).set 5 (.int (5-2+r)))):=List.getElem?_set_self (List.getElem?_eq_some_iff.mp hn2).1
     walk_at "run"
     refine ⟨false,rfl,fun z=>(nomatch z),fun _=>?_⟩
     walk_at "run"
     refine ⟨false,rfl,fun z=>(nomatch z),fun _=>?_⟩
     walk_at "run"
     exact ⟨rfl,_,_,_,_,_,_,[2,2,2,4,2,5-2+r,4,9],rfl,hn3,hn1,rfl,xi r r0 r1,S3.up (by omega)⟩
    ·walk_at "run"
     refine rv (a:=(.int 8,h1++[.lst ([2,2,2,4,2,2,4,9].map D.int)])) rfl ?_
     walk_at "run"
     obtain ⟨⟨y,h2⟩,e2,r,rfl,r0,r1,S2,b2⟩:=bb (m:=5) (S1.more [.lst ([2,2,2,4,2,2,4,9].map D.int)]) (by omega) (by decide) (by decide)
     dsimp only at S2 b2
     have hn2:h2[h1.length]?=some (.lst ([2,2,2,4,2,2,4,9].map D.int)):=by rw [b2.2 _ hn1];simp
     refine rv e2 ?_
     walk_at "run"
     refine rv (bD (p:=6) hn2 rfl) ?_
     have S3:=S2.off (k:=h1.length) (o:=(.lst (([2,2,2,4,2,2,4,9].map D.int).set 6 (.int (8-2+r))))) hn1 hn0
     have hn3:(h2.set h1.length (.lst (([2,2,2,4,2,2,4,9].map D.int).set 6 (.int (8-2+r)))))[h1.length]?=some (.lst (([2,2,2,4,2,2,4,9].map D.int).set 6 (.int (8-2+r)))):=List.getElem?_set_self (List.getElem?_eq_some_iff.mp hn2).1
     walk_at "run"
     refine ⟨false,rfl,fun z=>(nomatch z),fun _=>?_⟩
     walk_at "run"
     refine ⟨false,rfl,fun z=>(nomatch z),fun _=>?_⟩
     walk_at "run"
     exact ⟨rfl,_,_,_,_,_,_,[2,2,2,4,2,2,8-2+r,9],rfl,hn3,hn1,rfl,xh r r0 r1,S3.up (by omega)⟩
    ·walk_at "run"
     refine rv (a:=(.int 99,h1++[.lst ([2,2,2,4,2,2,4,9].map D.int)])) rfl ?_
     walk_at "run"
     obtain ⟨⟨y,h2⟩,e2,r,rfl,r0,r1,S2,b2⟩:=bb (m:=5) (S1.more [.lst ([2,2,2,4,2,2,4,9].map D.int)]) (by omega) (by decide) (by decide)
     dsimp only at S2 b2
     have hn2:h2[h1.length]?=some (.lst ([2,2,2,4,2,2,4,9].map D.int)):=by rw [b2.2 _ hn1];simp
     refine rv e2 ?_
     walk_at "run"
     refine rv (bD (p:=7) hn2 rfl) ?_
     have S3:=S2.off (k:=h1.length) (o:=(.lst (([2,2,2,4,2,2,4,9].map D.int).set 7 (.int (99-2+r))))) hn1 hn0
     have hn3:(h2.set h1.length (.lst (([2,2,2,4,2,2,4,9].map D.int).set 7 (.int (99-2+r)))))[h1.length]?=some (.lst (([2,2,2,4,2,2,4,9].map D.int).set 7 (.int (99-2+r)))):=List.getElem?_set_self (List.getElem?_eq_some_iff.mp hn2).1
     walk_at "run"
     refine ⟨false,rfl,fun z=>(nomatch z),fun _=>?_⟩
     walk_at "run"
     refine ⟨true,rfl,fun _=>?_,fun z=>(nomatch z)⟩
     walk_at "run"
     obtain ⟨⟨y,h4⟩,e4,hy,S4,b4⟩:=rp (d:=.lv ([97,98,99,100,101,-97,-98,-99].map D.int)) S3 (by omega) (.inl rfl) (by simp) (by simp)
     obtain ⟨v,hv,rfl⟩:=List.mem_map.mp hy
     dsimp only at S4 b4
     have hn4:h4[h1.length]?=some (.lst (([2,2,2,4,2,2,4,9].map D.int).set 7 (.int (99-2+r)))):=by rw [b4.2 _ hn1];exact hn3
     refine rv e4 ?_
     walk_at "run"
     refine rv (bD (p:=7) hn4 rfl) ?_
     have S5:=S4.off (k:=h1.length) (o:=(.lst ((([2,2,2,4,2,2,4,9].map D.int).set 7 (.int (99-2+r))).set 7 (.int v)))) hn1 hn0
     have hn5:(h4.set h1.length (.lst ((([2,2,2,4,2,2,4,9].map D.int).set 7 (.int (99-2+r))).set 7 (.int v))))[h1.length]?=some (.lst ((([2,2,2,4,2,2,4,9].map D.int).set 7 (.int (99-2+r))).set 7 (.int v))):=List.getElem?_set_self (List.getElem?_eq_some_iff.mp hn4).1
     walk_at "run"
     exact ⟨rfl,_,_,_,_,_,_,[2,2,2,4,2,2,4,v],rfl,hn5,hn1,rfl,xg v hv,S5.up (by omega)⟩
   ·rintro ⟨f,δ,h⟩ ⟨rfl,v4,v5,v7,v8,v9,n,xs,rfl,hnx,hn1,hxl,hok,S2⟩
    show Rn _ _
    walk_at "run"
    obtain ⟨⟨pd,hp⟩,eb,ep⟩:=bnd (hok n h hnx)
    refine rv eb ?_
    refine rv (a:=([],hp)) rfl ?_
    refine rv ep ?_
    show Rn (aH _ _ _ _) _
    refine oO ?_
    refine sr ?_
    refine Rn.imp (vB hnx hxl _ _ _ _ _ _ _ _) ?_
    rintro p rfl
    walk_at "run"
    have hnb:∀(c:Bool) (h:MH),iM (.bl c) (.bl c) h=some (.bl false,h):=fun c h=>by
     rw [show iM (.bl c) (.bl c) h=some (.bl (!(c==c)),h) from rfl];simp
    refine rv rfl ⟨true,rfl,fun z=>(nomatch z),fun _=>?_⟩
    walk_at "run"
    refine rv (hnb _ _) ⟨false,rfl,fun z=>(nomatch z),fun _=>?_⟩
    walk_at "run"
    obtain ⟨⟨y,h3⟩,e3,r,rfl,r0,r1,S3,b3⟩:=bb (m:=5) S2 (by omega) (by decide) (by decide)
    refine rv e3 ?_
    obtain ⟨k,rfl⟩:=Int.eq_ofNat_of_zero_le r0
    walk_at "run"
    obtain ⟨⟨pd2,hp2⟩,eb2,ep2⟩:=bnd (rO h3 ⟨k,by omega⟩)
    refine rv eb2 ?_
    refine rv (a:=([],hp2)) rfl ?_
    refine rv ep2 ?_
    walk_at "run"
    refine rv rfl ⟨true,rfl,fun z=>(nomatch z),fun _=>?_⟩
    walk_at "run"
    refine rv (hnb _ _) ⟨false,rfl,fun z=>(nomatch z),fun _=>?_⟩
    walk_at "run"
    exact ⟨_,_,_,_,_,_,rfl,S3.up (by omega)⟩
  ·rintro δ h ⟨v4,v5,v6,v7,v8,v9,rfl,S⟩
   walk_at "run"
 obtain ⟨⟨d,h'⟩,e1,rfl⟩:=e
 exact ⟨h',e1⟩
end Mi
open PySem PySem.W PyProof.Rows
abbrev Mi.ya (w:World):=some (Mi.cv.map fun x:Str×List Int=>(x.1,hashStr w x.1,x.2))
theorem Mi.left:LeftO Mi.pw Mi.view (["SHAPES"]:List Str) (fun s=>xlAt Mi.view [] s&&recOk (RowW.records (OpenRow.toRowW PySem.Challenge.rw_neverstuck_k03_programs_at_their_bounds.row)) s) (fun s=>Hd.tabAt s.heap "SHAPES") (Mi.ya) 20000:=LeftO.of_split "special-get-raises" fun w=>by kernel_rfl
theorem Mi.yu:defOf Mi.view "law"=some (Hd.br "law" Mi.gb,[]):=by kernel_rfl
theorem Mi.hp:PySem.Program.theDef Mi.pw "law"=some (L2.fk Mi.gb,L2.dj Mi.gb,L2.az Mi.gb):=by kernel_rfl
theorem PySem.Challenge.cw_neverstuck_k03_programs_at_their_bounds_holds : PySem.Challenge.rw_neverstuck_k03_programs_at_their_bounds.Holds := by
 refine holds_law (by decide+kernel) fun said=>?_
 refine PySem.W.holds_open (q:=Mi.view) (loose:=["SHAPES"]) (Xt:=fun s=>xlAt Mi.view [] s&&recOk (RowW.records (OpenRow.toRowW PySem.Challenge.rw_neverstuck_k03_programs_at_their_bounds.row)) s) (XP:=XL Mi.view []) (Yf:=fun s=>Hd.tabAt s.heap "SHAPES") (Ya:=Mi.ya) (YP:=fun w h=>Hd.tabAt h "SHAPES"=Mi.ya w) (N:=20000) (d:=Hd.br "law" Mi.gb) (kwd:=[]) Mi.left (fun _ _ e=>e) (fun _ _ _ y k=>Hd.lj k y) (fun s e=>xl_of s (Bool.and_eq_true_iff.mp e).1) XL.keeps Mi.yu Mi.hp (by kernel_rfl) (fun s e=>recFacts_of (Bool.and_eq_true_iff.mp e).2) (by kernel_rfl) said (by decide+kernel) ⟨rfl,rfl,rfl,rfl,rfl,by decide+kernel⟩ (by w_witness2) ?_
 exact Hd.vt (k:=16) (by kernel_rfl) (by kernel_rfl) ⟨rfl,by decide,by decide⟩ fun w s₀ mg mb h G Y=>Mi.all_mk G.T Y Mi.law_true
