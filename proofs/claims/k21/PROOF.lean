import PyProof.Rows.All
import Wide.All
import OpenK.AllK
import Wide.FinOn
import Lean
import PyProof.EqAt
import PyProof.EqKinds
import PyProof.TupleCall
import PyProof.NeKinds
import PyProof.ZipIter
import PyProof.Draws
import KE.KRevIter
import PyProof.ListNew
import KE.KEqDict
import PyProof.EnumMake
import PyProof.StrWalks
import KE.KDictLaws
import PyProof.DictItemsLoops
import PyProof.DictWalks
import PyProof.DictCompW
import PyProof.ListMulAny
import PyProof.FactsAll.tuple_2
import PyProof.ConsumeWalk
import PySem.Challenge.RW_endmeet_k21_steps
section
local macro_rules | `(tactic| omega) => `(tactic| lia)
set_option Elab.async false
set_option linter.all false
set_option maxRecDepth 100000
namespace L2
open PySem PySem.Spec PyProof.Rows
noncomputable abbrev Key:=Sum Int Str
noncomputable def zlu:Key→Value→Bool
 | .inl k,v=>Value.isInt k v
 | .inr x,v=>Value.isStrOf x v
noncomputable def keyH (w:World):Key→Int
 | .inl k=>hashInt k
 | .inr x=>hashStr w x
theorem zbx:∀ {k:Key}{v:Value},zlu k v=true→(∃ i t,k=Sum.inl i∧v=Value.int i t)∨(∃ x t,k=Sum.inr x∧v=Value.str x t)
 | .inl i,v,h=>by
  obtain ⟨t,e⟩:=Value.isInt_shape (k:=i) (v:=v) h
  exact .inl ⟨i,t,rfl,e⟩
 | .inr x,v,h=>by
  obtain ⟨t,e⟩:=Value.isStrOf_shape (x:=x) (v:=v) h
  exact .inr ⟨x,t,rfl,e⟩
theorem zmQ (i:Int) (t:Tok):zlu (.inl i) (.int i t)=true:=by simp [zlu,Value.isInt]
theorem zmP (x:Str) (t:Tok):zlu (.inr x) (.str x t)=true:=by simp [zlu,Value.isStrOf]
theorem key_ll (a b:Int):decide ((Sum.inl a:Key)=Sum.inl b)=(a == b):=by
 by_cases e:a=b
 ·subst e;simp
 ·have h:¬ (Sum.inl a:Key)=Sum.inl b:=fun q=>e (Sum.inl.inj q)
  rw [decide_eq_false h]
  exact (beq_eq_false_iff_ne.mpr e).symm
theorem key_rr (a b:Str):decide ((Sum.inr a:Key)=Sum.inr b)=decide (a=b):=by
 by_cases e:a=b
 ·subst e;simp
 ·have h:¬ (Sum.inr a:Key)=Sum.inr b:=fun q=>e (Sum.inr.inj q)
  rw [decide_eq_false h,decide_eq_false e]
theorem key_lr (a:Int) (b:Str):decide ((Sum.inl a:Key)=Sum.inr b)=false:=decide_eq_false (fun q=>nomatch q)
theorem key_rl (a:Str) (b:Int):decide ((Sum.inr a:Key)=Sum.inl b)=false:=decide_eq_false (fun q=>nomatch q)
noncomputable def zbE (prog:Program) (w:World):PySem.KeyKind prog w Key where
 is:=zlu
 hash:=keyH w
 inj:=fun v a b ha hb=>by
  rcases zbx ha with ⟨i,t,rfl,rfl⟩ | ⟨x,t,rfl,rfl⟩
  ·rcases zbx hb with ⟨j,u,rfl,e⟩ | ⟨y,u,rfl,e⟩
   ·injection e with e1 _;rw [e1]
   ·exact nomatch e
  ·rcases zbx hb with ⟨j,u,rfl,e⟩ | ⟨y,u,rfl,e⟩
   ·exact nomatch e
   ·injection e with e1 _;rw [e1]
 byValue:=fun k v h=>by
  rcases zbx h with ⟨i,t,rfl,rfl⟩ | ⟨x,t,rfl,rfl⟩<;>rfl
 pyHash:=fun hv h=>by
  rcases zbx hv with ⟨i,t,rfl,rfl⟩ | ⟨x,t,rfl,rfl⟩
  ·exact wpAny_pyHash_int h
  ·exact wpAny_pyHash_str h
 eqBool:=fun hu hv h=>by
  rcases zbx hu with ⟨i,t,rfl,rfl⟩ | ⟨x,t,rfl,rfl⟩
  ·rcases zbx hv with ⟨j,u,rfl,rfl⟩ | ⟨y,u,rfl,rfl⟩
   ·rw [key_ll] at h;exact wpAny_eqBool_int h
   ·rw [key_lr] at h;exact SeqAt.EqAt.int_str i t y u _ _ _ _ h
  ·rcases zbx hv with ⟨j,u,rfl,rfl⟩ | ⟨y,u,rfl,rfl⟩
   ·rw [key_rl] at h;exact SeqAt.EqAt.str_int x t j u _ _ _ _ h
   ·rw [key_rr] at h;exact wpAny_eqBool_str h
 «strs»:=fun k x t v h=>by
  rcases zbx h with ⟨i,u,rfl,e⟩ | ⟨y,u,rfl,e⟩
  ·exact nomatch e
  ·injection e with e1 _
   subst e1
   cases v<;>rfl
theorem zjX (prog:Program) (w:World) (i:Int) (t:Tok):(zbE prog w).is (.inl i) (.int i t)=true:=zmQ i t
theorem zjW (prog:Program) (w:World) (x:Str) (t:Tok):(zbE prog w).is (.inr x) (.str x t)=true:=zmP x t
end L2
namespace L2
open PySem PySem.Spec PyProof.Rows
inductive V where
 | non | bl (b:Bool) | int (i:Int) | str (x:Str) | byt (b:Array UInt8) | flt (b:UInt64) | ref (a:Addr) | ty (n:String)
 deriving DecidableEq
noncomputable def RelV:V→Value→Prop
 | .non,u=>u=Value.none
 | .bl b,u=>u=Value.bool b
 | .int i,u=>∃ t,u=Value.int i t
 | .str x,u=>∃ t,u=Value.str x t
 | .byt b,u=>∃ t,u=Value.bytes b t
 | .flt b,u=>∃ t,u=Value.float b t
 | .ref a,u=>u=Value.ref a
 | .ty n,u=>u=Value.type n
noncomputable abbrev Vals:List V→List Value→Prop:=Paired RelV
theorem Vals.length {xs:List V}{us:List Value} (r:Vals xs us):xs.length=us.length:=Paired.length r
theorem Vals.get:∀ {xs:List V}{us:List Value} {i:Nat}{x:V},Vals xs us→xs[i]?=some x→∃ u,us[i]?=some u∧RelV x u
 | _,_,_,_,.nil,e=>by simp at e
 | _,_,0,_,.cons r _,e=>by simp at e;subst e;exact ⟨_,rfl,r⟩
 | _,_,i + 1,x,.cons _ t,e=>by
  obtain ⟨u,h1,h2⟩:=Vals.get (i:=i) (x:=x) t (by simpa using e)
  exact ⟨u,by simpa using h1,h2⟩
theorem Vals.set {x:V}{u:Value} (r:RelV x u):∀ {xs:List V}{us:List Value} (i:Nat),Vals xs us→Vals (xs.set i x) (us.set i u)
 | _,_,_,.nil=>.nil
 | _,_,0,.cons _ t=>.cons r t
 | _,_,i + 1,.cons q t=>.cons q (Vals.set r i t)
theorem Vals.append:∀ {xs ys:List V}{us ws:List Value},Vals xs us→Vals ys ws→Vals (xs++ys) (us++ws)
 | _,_,_,_,.nil,s=>s
 | _,_,_,_,.cons r t,s=>.cons r (Vals.append t s)
theorem Vals.take:∀ {xs:List V}{us:List Value} (n:Nat),Vals xs us→Vals (xs.take n) (us.take n)
 | _,_,0,_=>.nil
 | _,_,_ + 1,.nil=>.nil
 | _,_,n + 1,.cons r t=>.cons r (Vals.take n t)
theorem Vals.drop:∀ {xs:List V}{us:List Value} (n:Nat),Vals xs us→Vals (xs.drop n) (us.drop n)
 | _,_,0,r=>r
 | _,_,_ + 1,.nil=>.nil
 | _,_,n + 1,.cons _ t=>Vals.drop n t
noncomputable def RelO:Option V→Option Value→Prop
 | some v,some u=>RelV v u
 | none,none=>True
 | _,_=>False
noncomputable def KV {κ:Type}:List (κ×V)→List (κ×Value)→Prop:=Paired fun (p:κ×V) (q:κ×Value)=>p.1=q.1∧RelV p.2 q.2
noncomputable def kV:Key→V
 | .inl i=>.int i
 | .inr x=>.str x
inductive HO where
 | lst (xs:List V)
 | tup (xs:List V)
 | dK (kvs:List (Key×V)) | dT (kvs:List (List Key×V))
 | set (S:Int→Bool) (n:Nat)
 | ins (C dx:Addr) (fs:List (Str×V))
 | own (x:Addr)
 | xd (fs:List (Str×V))
 | met (f x:Addr)
 | rng (lo hi:Int)
 | frz (o:Obj) (u:HO)
 | tbl (ps:Array Value)
 | ext (φ:Heap→Prop)
noncomputable abbrev Hp:=Addr→Option HO
noncomputable def upd (H:Hp) (a:Addr) (o:HO):Hp:=fun b=>if b=a then some o else H b
theorem zas {H:Hp}{a:Addr} {o:HO}:upd H a o a=some o:=by unfold upd;rw [if_pos rfl]
theorem zaw {H:Hp}{a b:Addr} {o:HO}(h:b≠a):upd H a o b=H b:=by unfold upd;rw [if_neg h]
theorem ne_of {H:Hp}{a b:Addr} {o u:HO}(h:H a=some o) (h':H b=some u) (d:o≠u):a≠b:=by
 intro e;subst e;rw [h] at h';exact d (Option.some.inj h')
theorem zal {H:Hp}{a b:Addr} {o:HO}(h:H a=some o) (h':H b=none):a≠b:=by
 intro e;subst e;rw [h] at h';cases h'
section
variable (P:Program) (w:World)
noncomputable def zcg (H:Hp) (h:Heap) (a:Addr):HO→Prop
 | .lst xs=>xs.length≤sizeLine∧∃ (its:List Value) (n:Nat),Vals xs its∧h.get? a=some { cls:=.type "list",data:=.seq its.toArray n }
 | .tup xs=>xs.length≤sizeLine∧∃ its:List Value,Vals xs its∧IsTup h a its.toArray
 | .dK kvs=>kvs.length≤sizeLine∧(a == sysModules)=false∧∃ vs,KV kvs vs∧h.DictOf (zbE P w) a vs
 | .dT kvs=>kvs.length≤sizeLine∧(a == sysModules)=false∧∃ xs:List (List Key×Addr×Value),
   Paired (fun (p:List Key×V) (q:List Key×Addr×Value)=>p.1=q.1∧H q.2.1=some (.tup (p.1.map kV))∧RelV p.2 q.2.2) kvs xs∧
   ∃ o es ep,h.get? a=some o∧o.ExactDict∧o.data=.dict es ep∧es.toList=xs.map (entryOfKey (tupleKind (zbE P w)))∧(xs.map (·.1)).Nodup
 | .set S n=>h.SetOf (intKind P w) a S n
 | .ins C dx fs=>H dx=some (.own a)∧fs.length≤1000∧dx≠a∧h.get? a=some (PySem.W.instObj C dx)∧
   ∃ mA,h.Ns1 dx mA∧(∀ f,RelO (fs.lookup f) (mA f))∧PySem.Within mA (fs.map (·.1))
 | .own _=>∃ o,h.get? a=some o
 | .xd fs=>∃ mA,h.Ns1 a mA∧∀ f,RelO (fs.lookup f) (mA f)
 | .rng lo hi=>∃ t u v,h.get? a=some { cls:=.type "range",data:=.fields #[.int lo t,.int hi u,.int 1 v] }
 | .frz o u=>h.get? a=some o∧zcg H h a u
 | .tbl ps=>h.get? a=some { cls:=.none,data:=.fields ps }
 | .met f x=>h.get? a=some (PySem.W.methodObj (.ref f) (.ref x))
 | .ext φ=>φ h∧(∃ o,h.get? a=some o)∧∀ h1 h2:Heap,φ h1→(∀ o,h1.get? a=some o→h2.get? a=some o)→φ h2
noncomputable def HOk (H:Hp) (h:Heap):Prop:=∀ a o,H a=some o→zcg P w H h a o
end
section
variable {P:Program}{w:World} {H H':Hp}{h h':Heap} {a:Addr}{o:HO}
theorem zcg.lt (x:zcg P w H h a o):a < h.objs.size:=by
 cases o with
 | lst xs=>obtain ⟨_,_,_,_,e⟩:=x;exact Heap.lt_size e
 | tup xs=>obtain ⟨_,_,_,p⟩:=x;exact p.lt
 | dK kvs=>obtain ⟨_,_,_,_,o,_,_,e,_⟩:=x;exact Heap.lt_size e
 | dT kvs=>obtain ⟨_,_,_,_,o,_,_,e,_⟩:=x;exact Heap.lt_size e
 | set S n=>obtain ⟨o,_,_,_,e,_⟩:=x;exact Heap.lt_size e
 | ins C dx fs=>obtain ⟨_,_,_,e,_⟩:=x;exact Heap.lt_size e
 | own y=>obtain ⟨_,e⟩:=x;exact Heap.lt_size e
 | xd fs=>obtain ⟨_,⟨_,_,_,e,_⟩,_⟩:=x;exact Heap.lt_size e
 | rng lo hi=>obtain ⟨_,_,_,e⟩:=x;exact Heap.lt_size e
 | frz ob u=>obtain ⟨e,_⟩:=x;exact Heap.lt_size e
 | tbl ps=>exact Heap.lt_size (show h.get? a=some _ from x)
 | met f y=>exact Heap.lt_size (show h.get? a=some _ from x)
 | ext φ=>obtain ⟨_,⟨_,e⟩,_⟩:=x;exact Heap.lt_size e
theorem Paired.mapP {α β:Type}{F G:α→β→Prop}:∀ {l₁:List α}{l₂:List β},Paired F l₁ l₂→(∀ a b,F a b→G a b)→Paired G l₁ l₂
 | _,_,.nil,_=>.nil
 | _,_,.cons r t,f=>.cons (f _ _ r) (Paired.mapP t f)
theorem zcg.stay (x:zcg P w H h a o) (k:∀ b u,(b=a∨H b=some (.own a))→h.get? b=some u→h'.get? b=some u)
  (ho:∀ b,H b=some (.own a)→H' b=some (.own a)) (ht:∀ b xs,H b=some (.tup xs)→H' b=some (.tup xs)):zcg P w H' h' a o:=by
 induction o with
 | lst xs=>obtain ⟨z,its,n,r,e⟩:=x;exact ⟨z,its,n,r,k _ _ (.inl rfl) e⟩
 | tup xs=>obtain ⟨z,its,r,ob,e,c⟩:=x;exact ⟨z,its,r,ob,k _ _ (.inl rfl) e,c⟩
 | dK kvs=>obtain ⟨z,y,vs,r,ob,es,ep,e,c⟩:=x;exact ⟨z,y,vs,r,ob,es,ep,k _ _ (.inl rfl) e,c⟩
 | dT kvs=>
  obtain ⟨z,y,xs,r,ob,es,ep,e,c⟩:=x
  exact ⟨z,y,xs,Paired.mapP r fun p q z=>⟨z.1,ht _ _ z.2.1,z.2.2⟩,ob,es,ep,k _ _ (.inl rfl) e,c⟩
 | set S n=>obtain ⟨ob,es,ep,t,e,c⟩:=x;exact ⟨ob,es,ep,t,k _ _ (.inl rfl) e,c⟩
 | ins C dx fs=>
  obtain ⟨d,z,ne,e,mA,⟨od,es,ep,e2,c⟩,r⟩:=x
  exact ⟨ho _ d,z,ne,k _ _ (.inl rfl) e,mA,⟨od,es,ep,k _ _ (.inr d) e2,c⟩,r⟩
 | own y=>obtain ⟨ob,e⟩:=x;exact ⟨ob,k _ _ (.inl rfl) e⟩
 | xd fs=>obtain ⟨mA,⟨od,es,ep,e,c⟩,r⟩:=x;exact ⟨mA,⟨od,es,ep,k _ _ (.inl rfl) e,c⟩,r⟩
 | rng lo hi=>obtain ⟨t,u,v,e⟩:=x;exact ⟨t,u,v,k _ _ (.inl rfl) e⟩
 | frz ob u ih=>obtain ⟨e,q⟩:=x;exact ⟨k _ _ (.inl rfl) e,ih q⟩
 | tbl ps=>
  have e:h.get? a=some { cls:=.none,data:=.fields ps }:=x
  show h'.get? a=some { cls:=.none,data:=.fields ps }
  exact k a _ (.inl rfl) e
 | met f y=>
  have e:h.get? a=some (PySem.W.methodObj (.ref f) (.ref y)):=x
  show h'.get? a=some (PySem.W.methodObj (.ref f) (.ref y))
  exact k a _ (.inl rfl) e
 | ext φ=>obtain ⟨p,⟨o,e⟩,st⟩:=x;exact ⟨st _ _ p fun o q=>k _ _ (.inl rfl) q,⟨o,k _ _ (.inl rfl) e⟩,st⟩
theorem HOk.lt (x:HOk P w H h) (e:H a=some o):a < h.objs.size:=(x a o e).lt
theorem HOk.fresh (x:HOk P w H h) (e:h.objs.size≤a):H a=none:=by
 cases q:H a with
 | none=>rfl
 | some u=>exact absurd (Nat.lt_of_lt_of_le (x.lt q) e) (Nat.lt_irrefl _)
theorem HOk.kept (x:HOk P w H h) (k:∀ b u,h.get? b=some u→h'.get? b=some u):HOk P w H h':=fun a o e=>
 (x a o e).stay (fun b u _ q=>k b u q) (fun _ q=>q) fun _ _ q=>q
theorem HOk.laid (x:HOk P w H h) (k:∀ b u,h.get? b=some u→h'.get? b=some u) (hp:h.objs.size≤a) (new:zcg P w (upd H a o) h' a o):HOk P w (upd H a o) h':=fun b u e=>by
 have hn:=x.fresh hp
 by_cases hb:b=a
 ·subst hb;rw [zas] at e;cases e;exact new
 ·rw [zaw hb] at e
  exact (x b u e).stay (fun c v _ q=>k c v q) (fun c q=>by rw [zaw (zal q hn)];exact q) fun c xs q=>by rw [zaw (zal q hn)];exact q
end
noncomputable def Rd (H:Hp) (a:Addr) (u:HO):Prop:=H a=some u∨∃ o,H a=some (.frz o u)
theorem Rd.ok {P:Program}{w:World} {H:Hp}{h:Heap} {a:Addr}{u:HO} (r:Rd H a u) (x:HOk P w H h):zcg P w H h a u:=by
 rcases r with r | ⟨o,r⟩
 ·exact x a u r
 ·obtain ⟨_,q⟩:=x a _ r
  exact q
noncomputable def Mut:Option HO→Prop
 | some (.lst _)=>True
 | some (.dK _)=>True
 | some (.dT _)=>True
 | some (.set _ _)=>True
 | some (.ins _ _ _)=>True
 | some (.ext _)=>True
 | _=>False
section
variable {P:Program}{w:World} {H:Hp}{h h':Heap} {x e:Addr}{o':HO}
theorem HOk.write (ok:HOk P w H h) (mu:Mut (H x)) (he:e=x∨H e=some (.own x)) (k:∀ b u,b≠e→h.get? b=some u→h'.get? b=some u) (heo:∃ u,h'.get? e=some u)
  (new:zcg P w (upd H x o') h' x o'):HOk P w (upd H x o') h':=fun b u q=>by
 have nown:∀ c y,H c=some (.own y)→c≠x:=fun c y r z=>by subst z;rw [r] at mu;exact mu
 have ntup:∀ c xs,H c=some (.tup xs)→c≠x:=fun c xs r z=>by subst z;rw [r] at mu;exact mu
 by_cases hb:b=x
 ·subst hb;rw [zas] at q;cases q;exact new
 ·rw [zaw hb] at q
  by_cases hbe:b=e
  ·have q':H b=some (.own x):=by
    rcases he with z | z
    ·exact absurd (hbe.trans z) hb
    ·rw [hbe];exact z
   rw [q] at q';cases q'
   obtain ⟨v,hv⟩:=heo
   exact ⟨v,by rw [hbe];exact hv⟩
  ·refine (ok b u q).stay (fun c v hc r=>k c v ?_ r) (fun c r=>by rw [zaw (nown c b r)];exact r) fun c xs r=>by rw [zaw (ntup c xs r)];exact r
   rcases hc with rfl | hc
   ·exact hbe
   ·rintro rfl
    rcases he with z | z
    ·exact nown c b hc z
    ·rw [hc] at z;cases z;exact hb rfl
end
structure Un (fs ex:List Addr) (H H':Hp) (h h':Heap):Prop where
 keep:∀ b o,h.get? b=some o→H b=none→b∉fs→b∉ex→h'.get? b=some o
 slot:∀ b o,h.get? b=some o→H b=none→b∈fs→b∉ex→∃ sl,h'.get? b=some { o with slots:=sl }
 free:∀ b o,h.get? b=some o→H b=none→b∉ex→H' b=none
 there:∀ b o,h.get? b=some o→b∉ex→∃ o',h'.get? b=some o'
 tups:∀ b xs,H b=some (.tup xs)→H' b=some (.tup xs)
 frzs:∀ b o u,H b=some (.frz o u)→H' b=some (.frz o u)
 tbls:∀ b ps,H b=some (.tbl ps)→∃ more,H' b=some (.tbl (ps++more))
section
variable {fs fs' ex ex':List Addr}{H H1 H2:Hp} {h h1 h2 h':Heap}{a x e:Addr} {o:HO}
theorem Un.any (u:Un fs ex H H1 h h1) {b:Addr}{ob:Obj} (q:h.get? b=some ob) (n:H b=none) (hx:b∉ex):∃ sl,h1.get? b=some { ob with slots:=sl }:=by
 by_cases hb:b∈fs
 ·exact u.slot b ob q n hb hx
 ·exact ⟨ob.slots,u.keep b ob q n hb hx⟩
theorem Un.kept (k:∀ b u,h.get? b=some u→h'.get? b=some u):Un fs ex H H h h':=
 ⟨fun b ob q _ _ _=>k b ob q,fun b ob q _ _ _=>⟨ob.slots,k b ob q⟩,fun _ _ _ n _=>n,fun b ob q _=>⟨ob,k b ob q⟩,fun _ _ q=>q,fun _ _ _ q=>q,fun _ ps q=>⟨#[],by rw [q];simp⟩⟩
theorem Un.refl:Un fs ex H H h h:=Un.kept fun _ _ q=>q
theorem Un.laid (k:∀ b u,h.get? b=some u→h'.get? b=some u) (hp:h.objs.size≤a) (hn:H a=none):Un fs ex H (upd H a o) h h' where
 keep:=fun b u q _ _ _=>k b u q
 slot:=fun b u q _ _ _=>⟨u.slots,k b u q⟩
 free:=fun b u q n _=>by rw [zaw (Nat.ne_of_lt (Nat.lt_of_lt_of_le (Heap.lt_size q) hp))];exact n
 there:=fun b u q _=>⟨u,k b u q⟩
 tups:=fun b xs q=>by rw [zaw (zal q hn)];exact q
 frzs:=fun b u xs q=>by rw [zaw (zal q hn)];exact q
 tbls:=fun b ps q=>⟨#[],by rw [zaw (zal q hn),q];simp⟩
theorem Un.write (mu:Mut (H x)) (he:e=x∨H e=some (.own x)) (k:∀ b u,b≠e→h.get? b=some u→h'.get? b=some u) (heo:∃ u,h'.get? e=some u):Un fs ex H (upd H x o) h h':=by
 have hx:∀ b,H b=none→b≠x:=fun b n z=>by subst z;rw [n] at mu;exact mu
 have hb:∀ b,H b=none→b≠e:=fun b n z=>by
  subst z
  rcases he with r | r
  ·exact hx b n r
  ·rw [n] at r;cases r
 have hm:∀ b u,H b=some u→¬ Mut (some u)→b≠x:=fun b u q nm z=>by subst z;rw [q] at mu;exact nm mu
 refine ⟨fun b u q n _ _=>k b u (hb b n) q,fun b u q n _ _=>⟨u.slots,k b u (hb b n) q⟩,fun b u q n _=>by rw [zaw (hx b n)];exact n,fun b u q _=>?_,
  fun b xs q=>by rw [zaw (hm b _ q fun z=>z)];exact q,fun b u xs q=>by rw [zaw (hm b _ q fun z=>z)];exact q,fun b ps q=>⟨#[],by rw [zaw (hm b _ q fun z=>z),q];simp⟩⟩
 by_cases hbe:b=e
 ·subst hbe;exact heo
 ·exact ⟨u,k b u hbe q⟩
end
noncomputable def trk (h:Heap) (H:Hp):List Addr:=(List.range h.objs.size).filter fun a=>(H a).isSome
noncomputable def hidT (h:Heap) (H:Hp):Heap:=PySem.W.hideAll h (trk h H)
theorem zmW (h:Heap) (H:Hp):(hidT h H).objs.size=h.objs.size:=PySem.W.hideAll_size _ _
theorem hidT_get {h:Heap}{H:Hp} {b:Addr}{o:Obj} (e:h.get? b=some o) (n:H b=none):(hidT h H).get? b=some o:=
 PySem.W.hideAll_get _ e fun hm=>by
  have q:(H b).isSome=true:=(List.mem_filter.mp hm).2
  rw [n] at q;simp at q
theorem of_hidT {h:Heap}{H:Hp} {b:Addr}{o:Obj} (e:(hidT h H).get? b=some o):h.get? b=some o∧H b=none:=by
 have e':h.get? b=some o:=PySem.W.of_hideAll (trk h H) e
 refine ⟨e',?_⟩
 cases q:H b with
 | none=>rfl
 | some x=>
  have hm:b∈trk h H:=List.mem_filter.mpr ⟨List.mem_range.mpr (Heap.lt_size e'),by simp [q]⟩
  have z:(hidT h H).get? b=none:=PySem.W.hideAll_none (trk h H) hm
  rw [z] at e;cases e
end L2
namespace L2
open PySem PySem.Spec PyProof.Rows
structure Mod (K:PySem.W.Frag) (mg:Str→Option Value) (base:Heap):Prop where
 kin:K.In base
 glob:base.Ns mainGlobals mg
 blt:∃ mb,base.Ns builtinsNs mb∧∀ x:Str,x ≠ "__name__" → mb x=bootBuiltins x
 nolimit:base.NoLimit
structure Cx where
 prog:Program
 w:World
 K:PySem.W.Frag
 mg:Str→Option Value
 base:Heap
 A:Around
 N:List Str
 s₀:Shared
 H₀:Hp
 env:Env
 outer:List Env
 stack:List Env
 ex:List Addr
 fn:Str→Bool
 calm:Bool
 pn:List (Addr×Obj)
 xe:Value→Shared→Prop
noncomputable def frs (l:List Env):List Addr:=l.filterMap (·.frame)
noncomputable abbrev Cx.fs (X:Cx):List Addr:=frs X.outer
noncomputable def Vis (sc:Scope) (x:Str):Prop:=sc.names.lookup x=some .local∨sc.names.lookup x=some .cell∨sc.names.lookup x=some .free
noncomputable def Loc (sc:Scope) (x:Str):Prop:=sc.names.lookup x=some .local∨sc.names.lookup x=some .cell
noncomputable def Look (env:Env) (h:Heap) (m:Str→Option Value) (x:Str) (u:Value):Prop:=
 (env.kindOf x=some .local∧m x=some u)∨((env.kindOf x=some .cell∨env.kindOf x=some .free)∧∃ c,env.cells.lookup x=some c∧h.IsCell c (some u))
structure Cx.Ok (X:Cx):Prop where
 mod:Mod X.K X.mg X.base
 kind:X.env.scope.kind=.function
 glob:X.env.globals=mainGlobals
 blt:X.env.builtins=builtinsNs
 above:X.s₀.heap.objs.size≤X.env.locals
 inj:∀ x y c,X.env.cells.lookup x=some c→X.env.cells.lookup y=some c→x=y
 has:∀ x,(X.env.kindOf x=some .cell∨X.env.kindOf x=some .free)→∃ c,X.env.cells.lookup x=some c
 cab:∀ x c,X.fn x=true→X.env.cells.lookup x=some c→X.s₀.heap.objs.size≤c
 hd:X.calm=true→X.A.handled=none
 frames:X.A.frames=some X.stack
 stk:X.stack=X.outer∨(X.stack=X.env::X.outer∧X.env.frame=some X.env.locals)
 exf:∀ b∈X.ex,b≠X.env.locals∧∀ x c,X.env.cells.lookup x=some c→c≠b
 bs:∀ b o,X.base.get? b=some o→X.s₀.heap.get? b=some o∧X.H₀ b=none
 bsz:X.base.objs.size≤X.s₀.heap.objs.size
 noex:∀ b o,X.base.get? b=some o→b∉X.ex
 exfs:∀ b∈X.ex,b∉X.fs
 funs:X.s₀.heap.FunFrames X.base X.outer
 frf:∀ b∈X.fs,X.H₀ b=none
structure Inv (X:Cx) (pins:List (Addr×Obj)) (σ:List (Option V)) (H:Hp) (s:Shared):Prop where
 ok:X.Ok
 os:s.os=X.s₀.os
 bare:AllBare s.gens
 base:Un X.fs X.ex X.H₀ H X.s₀.heap s.heap
 loc:∃ m,s.heap.Ns X.env.locals m∧∀ (i:Nat) (x:Str) (v:V),X.N[i]?=some x→σ[i]?=some (some v)→Vis X.env.scope x→∃ u,RelV v u∧Look X.env s.heap m x u
 cell:∀ x c,X.env.cells.lookup x=some c→∃ v,s.heap.IsCell c v
 free:H X.env.locals=none
 freeC:∀ x c,X.env.cells.lookup x=some c→H c=none
 pin:∀ p∈X.pn++pins,s.heap.get? p.1=some p.2∧H p.1=none∧p.1≠X.env.locals∧p.1∉X.fs∧∀ v,p.2.data≠.cell v
 hok:HOk X.prog X.w H s.heap
 len:σ.length=X.N.length
section
variable {X:Cx}{pins:List (Addr×Obj)} {σ:List (Option V)}{H H':Hp} {s:Shared}{h':Heap}
theorem Cx.Ok.nofr (ok:X.Ok) {b:Addr}{o:Obj} (e:X.base.get? b=some o):b∉X.fs:=fun hb=>by
 have:=(ok.funs.mem hb).1
 rw [e] at this;cases this
theorem Inv.bs (I:Inv X pins σ H s):∀ b o,X.base.get? b=some o→s.heap.get? b=some o∧H b=none:=fun b o e=>
 ⟨I.base.keep b o (I.ok.bs b o e).1 (I.ok.bs b o e).2 (I.ok.nofr e) (I.ok.noex b o e),I.base.free b o (I.ok.bs b o e).1 (I.ok.bs b o e).2 (I.ok.noex b o e)⟩
theorem Inv.bk (I:Inv X pins σ H s):∀ b o,X.base.get? b=some o→s.heap.get? b=some o:=fun b o e=>(I.bs b o e).1
theorem Inv.mod (I:Inv X pins σ H s):Mod X.K X.mg X.base:=I.ok.mod
theorem Inv.kIn (I:Inv X pins σ H s):X.K.In s.heap:=I.ok.mod.kin.keeps I.bk
theorem Inv.lt (I:Inv X pins σ H s):X.env.locals < s.heap.objs.size:=let ⟨_,hn,_⟩:=I.loc;hn.lt
theorem Inv.sz (I:Inv X pins σ H s):X.s₀.heap.objs.size≤s.heap.objs.size:=Nat.le_trans I.ok.above (Nat.le_of_lt I.lt)
theorem Inv.nofs (I:Inv X pins σ H s) {a:Addr}(h:s.heap.objs.size≤a):a∉X.fs:=fun hb=>by
 obtain ⟨_,o,ho,_⟩:=I.ok.funs.mem hb
 exact absurd (Nat.lt_of_lt_of_le (Heap.lt_size ho) (Nat.le_trans I.sz h)) (Nat.lt_irrefl _)
theorem Inv.cne (I:Inv X pins σ H s):∀ x c,X.env.cells.lookup x=some c→c≠X.env.locals:=fun x c e z=>by
 obtain ⟨v,o,ho,hd⟩:=I.cell x c e
 obtain ⟨m,⟨o',es,ep,ho',hd',_⟩,_⟩:=I.loc
 rw [z,ho'] at ho;cases ho;rw [hd'] at hd;cases hd
theorem Inv.funs (I:Inv X pins σ H s):s.heap.FunFrames X.base X.outer:=by
 have all:∀ (l:List Env),(∀ b∈frs l,b∈X.fs)→X.s₀.heap.FunFrames X.base l→s.heap.FunFrames X.base l:=by
  intro l
  induction l with
  | nil=>intro _ _;trivial
  | cons env r ih=>
   intro hs hl
   obtain ⟨hk,⟨L,o,hf,hn,ho,hd⟩,hr⟩:=hl
   have hL:L∈X.fs:=hs L (by unfold frs;rw [List.filterMap_cons,hf];exact List.mem_cons_self)
   obtain ⟨sl,e⟩:=I.base.slot L o ho (I.ok.frf L hL) hL fun z=>I.ok.exfs L z hL
   exact ⟨hk,⟨L,_,hf,hn,e,hd⟩,ih (fun b hb=>hs b (by unfold frs;rw [List.filterMap_cons,hf];exact List.mem_cons_of_mem _ hb)) hr⟩
 exact all X.outer (fun _ hb=>hb) I.ok.funs
theorem Inv.stack (I:Inv X pins σ H s):s.heap.FunFrames X.base X.stack:=by
 rcases I.ok.stk with e | ⟨e,hf⟩
 ·rw [e];exact I.funs
 ·rw [e]
  obtain ⟨m,hn,_⟩:=I.loc
  refine .cons (by rw [I.ok.kind];decide) hf hn ?_ I.funs
  exact Heap.get?_none_of_le (Nat.le_trans I.ok.bsz I.ok.above)
theorem Inv.stkSub (I:Inv X pins σ H s):∀ b∈frs X.stack,b∈X.env.locals::X.fs:=fun b hb=>by
 rcases I.ok.stk with e | ⟨e,hf⟩
 ·rw [e] at hb;exact List.mem_cons_of_mem _ hb
 ·rw [e] at hb
  unfold frs at hb
  rw [List.filterMap_cons,hf] at hb
  exact hb
theorem Inv.stkFree (I:Inv X pins σ H s):∀ b∈frs X.stack,H b=none:=fun b hb=>by
 rcases List.mem_cons.mp (I.stkSub b hb) with e | hb
 ·rw [e];exact I.free
 ·obtain ⟨_,o,ho,_⟩:=I.ok.funs.mem hb
  exact I.base.free b o ho (I.ok.frf b hb) fun z=>I.ok.exfs b z hb
theorem Inv.step {g':Array GenState}{t':Nat} {d':Drawn}{ch:List Addr} (I:Inv X pins σ H s)
  (hch:∀ b∈ch,(b∈X.ex∨X.s₀.heap.objs.size≤b)∧b≠X.env.locals∧(∀ x c,X.env.cells.lookup x=some c→c≠b)∧∀ p∈X.pn++pins,p.1≠b)
  (keep:∀ b o,b≠X.env.locals→b∉X.fs→b∉ch→s.heap.get? b=some o→H b=none→h'.get? b=some o)
  (slot:∀ b o,b≠X.env.locals→b∈X.fs→b∉ch→s.heap.get? b=some o→H b=none→∃ sl,h'.get? b=some { o with slots:=sl }) (free:∀ b o,b∉ch→s.heap.get? b=some o→H b=none→H' b=none)
  (there:∀ b o,b∉ch→s.heap.get? b=some o→∃ o',h'.get? b=some o')
  (tups:∀ b xs,H b=some (.tup xs)→H' b=some (.tup xs)) (frzs:∀ b o u,H b=some (.frz o u)→H' b=some (.frz o u)) (tbls:∀ b ps,H b=some (.tbl ps)→∃ more,H' b=some (.tbl (ps++more)))
  (ns:∀ m,s.heap.Ns X.env.locals m→h'.Ns X.env.locals m) (hok:HOk X.prog X.w H' h') (hg:AllBare g') :
  Inv X pins σ H' { s with heap:=h',gens:=g',drawn:=d',toks:=t' }:=by
 have neL:∀ b o,X.s₀.heap.get? b=some o→b≠X.env.locals:=fun b o e=>Nat.ne_of_lt (Nat.lt_of_lt_of_le (Heap.lt_size e) I.ok.above)
 have neC:∀ b o,X.s₀.heap.get? b=some o→b∉X.ex→b∉ch:=fun b o e hx hb=>by
  rcases (hch b hb).1 with z | z
  ·exact hx z
  ·exact absurd (Nat.lt_of_lt_of_le (Heap.lt_size e) z) (Nat.lt_irrefl _)
 have cellK:∀ x c,X.env.cells.lookup x=some c→∀ v,s.heap.IsCell c v→h'.IsCell c v:=fun x c e v ⟨o,ho,hd⟩=>by
  have nch:c∉ch:=fun z=>(hch c z).2.2.1 x c e rfl
  by_cases hc:c∈X.fs
  ·obtain ⟨sl,q⟩:=slot c o (I.cne x c e) hc nch ho (I.freeC x c e)
   exact ⟨_,q,hd⟩
  ·exact ⟨o,keep c o (I.cne x c e) hc nch ho (I.freeC x c e),hd⟩
 refine ⟨I.ok,I.os,hg,⟨fun b o e n hb hx=>?_,fun b o e n hb hx=>?_,fun b o e n hx=>?_,fun b o e hx=>?_,fun b xs e=>tups b xs (I.base.tups b xs e),fun b o xs e=>frzs b o xs (I.base.frzs b o xs e),fun b ps e=>?_⟩,?_,fun x c e=>?_,?_,fun x c e=>?_,fun p hp=>?_,hok,I.len⟩
 ·exact keep b o (neL b o e) hb (neC b o e hx) (I.base.keep b o e n hb hx) (I.base.free b o e n hx)
 ·obtain ⟨sl,e1⟩:=I.base.slot b o e n hb hx
  obtain ⟨sl',e2⟩:=slot b _ (neL b o e) hb (neC b o e hx) e1 (I.base.free b o e n hx)
  exact ⟨sl',e2⟩
 ·obtain ⟨o',e1⟩:=I.base.there b o e hx
  exact free b o' (neC b o e hx) e1 (I.base.free b o e n hx)
 ·obtain ⟨o',e1⟩:=I.base.there b o e hx
  exact there b o' (neC b o e hx) e1
 ·obtain ⟨m1,e1⟩:=I.base.tbls b ps e
  obtain ⟨m2,e2⟩:=tbls b _ e1
  exact ⟨m1++m2,by rw [e2,Array.append_assoc]⟩
 ·obtain ⟨m,hn,hl⟩:=I.loc
  refine ⟨m,ns m hn,fun i x v e1 e2 e3=>?_⟩
  obtain ⟨u,r,l⟩:=hl i x v e1 e2 e3
  refine ⟨u,r,?_⟩
  rcases l with l | ⟨k,c,e,z⟩
  ·exact .inl l
  ·exact .inr ⟨k,c,e,cellK x c e _ z⟩
 ·obtain ⟨v,z⟩:=I.cell x c e
  exact ⟨v,cellK x c e v z⟩
 ·obtain ⟨m,⟨o,_,_,ho,_⟩,_⟩:=I.loc
  exact free _ o (fun z=>(hch _ z).2.1 rfl) ho I.free
 ·obtain ⟨v,o,ho,hd⟩:=I.cell x c e
  exact free c o (fun z=>(hch c z).2.2.1 x c e rfl) ho (I.freeC x c e)
 ·obtain ⟨e,n,ne,nf,d⟩:=I.pin p hp
  have nch:p.1∉ch:=fun z=>(hch p.1 z).2.2.2 p hp rfl
  exact ⟨keep p.1 p.2 ne nf nch e n,free p.1 p.2 nch e n,ne,nf,d⟩
theorem Inv.un {t':Nat}(I:Inv X pins σ H s) (u:Un X.fs [] H H' s.heap h') (hok:HOk X.prog X.w H' h'):Inv X pins σ H' { s with heap:=h',toks:=t' }:=by
 obtain ⟨m,⟨o,es,ep,ho,r⟩,_⟩:=id I.loc
 obtain ⟨sl,hL⟩:=u.any ho I.free (by simp)
 exact I.step (g':=s.gens) (d':=s.drawn) (ch:=[]) (fun _ z=>nomatch z) (fun b o _ hb _ e n=>u.keep b o e n hb (by simp)) (fun b o _ hb _ e n=>u.slot b o e n hb (by simp)) (fun b o _ e n=>u.free b o e n (by simp)) (fun b o _ e=>u.there b o e (by simp)) u.tups u.frzs u.tbls (fun m' hm=>by
  obtain ⟨o',es',ep',ho',r'⟩:=hm
  rw [ho] at ho';cases ho'
  exact ⟨_,es',ep',hL,r'⟩) hok I.bare
theorem Inv.call {g':Array GenState}{t':Nat} {d':Drawn}{ch:List Addr} (I:Inv X pins σ H s) (u:Un (frs X.stack) ch H H' s.heap h') (hok:HOk X.prog X.w H' h') (hg:AllBare g')
  (hch:∀ b∈ch,(b∈X.ex∨X.s₀.heap.objs.size≤b)∧b≠X.env.locals∧(∀ x c,X.env.cells.lookup x=some c→c≠b)∧∀ p∈X.pn++pins,p.1≠b) :
  Inv X pins σ H' { s with heap:=h',gens:=g',drawn:=d',toks:=t' }:=by
 obtain ⟨m,⟨o,es,ep,ho,r⟩,_⟩:=id I.loc
 obtain ⟨sl,hL⟩:=u.any ho I.free fun z=>(hch _ z).2.1 rfl
 exact I.step (ch:=ch) hch (fun b o hL hb hc e n=>u.keep b o e n (fun z=>(List.mem_cons.mp (I.stkSub b z)).elim hL hb) hc) (fun b o _ _ hc e n=>u.any e n hc) (fun b o hc e n=>u.free b o e n hc) (fun b o hc e=>u.there b o e hc) u.tups u.frzs u.tbls (fun m' hm=>by
  obtain ⟨o',es',ep',ho',r'⟩:=hm
  rw [ho] at ho';cases ho'
  exact ⟨_,es',ep',hL,r'⟩) hok hg
theorem Inv.turned {t':Nat}{it:Addr} (I:Inv X pins σ H s) (k:∀ b o,b≠it→s.heap.get? b=some o→h'.get? b=some o) (hn:H it=none) (hL:it≠X.env.locals)
  (h1:it∈X.ex∨X.s₀.heap.objs.size≤it) (h2:∀ x c,X.env.cells.lookup x=some c→c≠it) (h3:∀ p∈X.pn++pins,p.1≠it):Inv X pins σ H { s with heap:=h',toks:=t' }:=by
 have nit:∀ b u,H b=some u→b≠it:=fun b u e z=>by rw [z,hn] at e;cases e
 refine I.step (g':=s.gens) (d':=s.drawn) (ch:=[it]) (fun b hb=>?_) (fun b o _ _ hc e _=>k b o (fun z=>hc (by simp [z])) e) (fun b o _ _ hc e _=>⟨o.slots,k b o (fun z=>hc (by simp [z])) e⟩) (fun _ _ _ _ n=>n)
  (fun b o hc e=>⟨o,k b o (fun z=>hc (by simp [z])) e⟩) (fun _ _ e=>e) (fun _ _ _ e=>e) (fun b ps e=>⟨#[],by rw [e];simp⟩) (fun m hm=>?_) (fun b u e=>?_) I.bare
 ·have e:b=it:=by simpa using hb
  subst e
  exact ⟨h1,hL,h2,h3⟩
 ·obtain ⟨o,es,ep,ho,r⟩:=hm
  exact ⟨o,es,ep,k _ o (Ne.symm hL) ho,r⟩
 ·refine (I.hok b u e).stay (fun c v hc q=>k c v ?_ q) (fun _ q=>q) fun _ _ q=>q
  rcases hc with z | z
  ·rw [z];exact nit b u e
  ·exact nit c _ z
theorem Inv.tok (I:Inv X pins σ H s) (t:Nat):Inv X pins σ H { s with toks:=t }:=I.un (h':=s.heap) (t':=t) Un.refl I.hok
theorem Inv.kept {t':Nat}(I:Inv X pins σ H s) (k:∀ b u,s.heap.get? b=some u→h'.get? b=some u):Inv X pins σ H { s with heap:=h',toks:=t' }:=I.un (Un.kept k) (I.hok.kept k)
theorem Inv.laid {a:Addr}{o:HO} {t':Nat}(I:Inv X pins σ H s) (k:∀ b u,s.heap.get? b=some u→h'.get? b=some u) (hp:s.heap.objs.size≤a) (new:zcg X.prog X.w (upd H a o) h' a o) :
  Inv X pins σ (upd H a o) { s with heap:=h',toks:=t' }:=I.un (Un.laid k hp (I.hok.fresh hp)) (I.hok.laid k hp new)
theorem Inv.write {x e:Addr}{o:HO} {t':Nat}(I:Inv X pins σ H s) (mu:Mut (H x)) (he:e=x∨H e=some (.own x)) (k:∀ b u,b≠e→s.heap.get? b=some u→h'.get? b=some u) (heo:∃ u,h'.get? e=some u)
  (new:zcg X.prog X.w (upd H x o) h' x o):Inv X pins σ (upd H x o) { s with heap:=h',toks:=t' }:=I.un (Un.write mu he k heo) (I.hok.write mu he k heo new)
theorem Inv.pins_of {pins':List (Addr×Obj)}(I:Inv X pins σ H s) (h:∀ p∈pins',s.heap.get? p.1=some p.2∧H p.1=none∧p.1≠X.env.locals∧p.1∉X.fs∧∀ v,p.2.data≠.cell v):Inv X pins' σ H s:=
 ⟨I.ok,I.os,I.bare,I.base,I.loc,I.cell,I.free,I.freeC,fun p hp=>(List.mem_append.mp hp).elim (fun z=>I.pin p (List.mem_append_left _ z)) (h p),I.hok,I.len⟩
theorem zkG {N:List Str}(hN:N.Nodup) {i j:Nat}{x:Str} (a:N[i]?=some x) (b:N[j]?=some x):i=j:=by
 obtain ⟨h1,e1⟩:=List.getElem?_eq_some_iff.mp a
 obtain ⟨h2,e2⟩:=List.getElem?_eq_some_iff.mp b
 exact (List.getElem_inj hN).mp (e1.trans e2.symm)
theorem ziL {M:Model}{A:Around} {E:Value→Shared→Prop}{i:Nat} {x:Str}{v:V} {u:Value}{Q:Unit→Shared→Prop} (I:Inv X pins σ H s) (hN:X.N.Nodup) (hi:X.N[i]?=some x) (hx:Loc X.env.scope x) (r:RelV v u)
  (h:∀ s',Inv X pins (σ.set i (some v)) H s'→(∃ a,Heap.SameBut a s.heap s'.heap∧(a=X.env.locals∨X.env.cells.lookup x=some a))→Q () s') (hf:X.fn x=true∨X.env.scope.names.lookup x=some .local:=by first | exact .inl rfl | exact .inr rfl | assumption):wpAny M A (storeName X.env x u) Q E s:=by
 obtain ⟨m,hn,hl⟩:=id I.loc
 have hcls:(X.env.scope.kind == .class || (X.env.scope.kind == .module && X.env.locals != X.env.globals))=false:=by rw [I.ok.kind];rfl
 have hiσ:i < σ.length:=by rw [I.len];exact (List.getElem?_eq_some_iff.mp hi).1
 have cne:=I.cne
 have tracked:∀ {a:Addr}{h':Heap},(∃ o,s.heap.get? a=some o∧H a=none)→Heap.SameBut a s.heap h'→HOk X.prog X.w H h':=fun {a h'} ha hs b ob e=>by
  obtain ⟨_,_,hfree⟩:=ha
  refine (I.hok b ob e).stay (fun c w' hc q=>(hs.2 c ?_).trans q) (fun _ q=>q) fun _ _ q=>q
  rintro rfl
  rcases hc with rfl | hc
  ·rw [hfree] at e;cases e
  ·rw [hfree] at hc;cases hc
 rcases hx with hk | hk
 ·refine wpAny_storeName_local hk hn (fun h' hn' hs=>?_) hcls
  obtain ⟨oL,_,_,hoL,_⟩:=id hn
  refine h _ ⟨I.ok,I.os,I.bare,⟨fun b o e n hb hx=>?_,fun b o e n hb hx=>?_,I.base.free,fun b o e hx=>?_,I.base.tups,I.base.frzs,I.base.tbls⟩,⟨_,hn',fun j y v' e1 e2 e3=>?_⟩,fun y c e=>?_,I.free,I.freeC,fun p hp=>?_,tracked ⟨oL,hoL,I.free⟩ hs,by simpa using I.len⟩ ⟨_,hs,.inl rfl⟩
  ·exact (hs.2 b (Nat.ne_of_lt (Nat.lt_of_lt_of_le (Heap.lt_size e) I.ok.above))).trans (I.base.keep b o e n hb hx)
  ·obtain ⟨sl,e1⟩:=I.base.slot b o e n hb hx
   exact ⟨sl,(hs.2 b (Nat.ne_of_lt (Nat.lt_of_lt_of_le (Heap.lt_size e) I.ok.above))).trans e1⟩
  ·obtain ⟨o',e1⟩:=I.base.there b o e hx
   exact ⟨o',(hs.2 b (Nat.ne_of_lt (Nat.lt_of_lt_of_le (Heap.lt_size e) I.ok.above))).trans e1⟩
  ·by_cases hj:j=i
   ·subst hj
    rw [hi] at e1;cases e1
    rw [List.getElem?_set_self hiσ] at e2
    cases e2
    exact ⟨u,r,.inl ⟨hk,by simp⟩⟩
   ·rw [List.getElem?_set_ne (Ne.symm hj)] at e2
    obtain ⟨u',r',q⟩:=hl j y v' e1 e2 e3
    refine ⟨u',r',?_⟩
    rcases q with ⟨k,e⟩ | ⟨k,c,e,z⟩
    ·refine .inl ⟨k,?_⟩
     have:y≠x:=fun e=>hj (zkG hN e1 (e ▸ hi))
     simp [this,e]
    ·exact .inr ⟨k,c,e,z.sameBut hs (cne y c e)⟩
  ·obtain ⟨w',z⟩:=I.cell y c e
   exact ⟨w',z.sameBut hs (cne y c e)⟩
  ·obtain ⟨e,n,ne,nf,d⟩:=I.pin p hp
   exact ⟨(hs.2 p.1 ne).trans e,n,ne,nf,d⟩
 ·have hfn:X.fn x=true:=by
   rcases hf with z | z
   ·exact z
   ·rw [z] at hk;cases hk
  obtain ⟨c,hc⟩:=I.ok.has x (.inl hk)
  obtain ⟨w',z⟩:=I.cell x c hc
  refine wpAny_storeName_cell I.ok.kind hk hc z (fun h' hc' hs=>?_)
  obtain ⟨oc,hoc,hocd⟩:=id z
  refine h { s with heap:=h' } ⟨I.ok,I.os,I.bare,⟨fun b o e n hb hx=>?_,fun b o e n hb hx=>?_,I.base.free,fun b o e hx=>?_,I.base.tups,I.base.frzs,I.base.tbls⟩,⟨m,hn.sameBut hs (Ne.symm (cne x c hc)),fun j y v' e1 e2 e3=>?_⟩,fun y c' e=>?_,I.free,I.freeC,fun p hp=>?_,tracked ⟨oc,hoc,I.freeC x c hc⟩ hs,by simpa using I.len⟩ ⟨c,hs,.inr hc⟩
  ·exact (hs.2 b (Nat.ne_of_lt (Nat.lt_of_lt_of_le (Heap.lt_size e) (I.ok.cab x c hfn hc)))).trans (I.base.keep b o e n hb hx)
  ·obtain ⟨sl,e1⟩:=I.base.slot b o e n hb hx
   exact ⟨sl,(hs.2 b (Nat.ne_of_lt (Nat.lt_of_lt_of_le (Heap.lt_size e) (I.ok.cab x c hfn hc)))).trans e1⟩
  ·obtain ⟨o',e1⟩:=I.base.there b o e hx
   exact ⟨o',(hs.2 b (Nat.ne_of_lt (Nat.lt_of_lt_of_le (Heap.lt_size e) (I.ok.cab x c hfn hc)))).trans e1⟩
  ·by_cases hj:j=i
   ·subst hj
    rw [hi] at e1;cases e1
    rw [List.getElem?_set_self hiσ] at e2
    cases e2
    exact ⟨u,r,.inr ⟨.inl hk,c,hc,hc'⟩⟩
   ·rw [List.getElem?_set_ne (Ne.symm hj)] at e2
    obtain ⟨u',r',q⟩:=hl j y v' e1 e2 e3
    refine ⟨u',r',?_⟩
    rcases q with q | ⟨k,c',e,z'⟩
    ·exact .inl q
    ·refine .inr ⟨k,c',e,z'.sameBut hs ?_⟩
     rintro rfl
     exact hj (zkG hN e1 (I.ok.inj _ _ _ e hc ▸ hi))
  ·by_cases hcc:c'=c
   ·subst hcc;exact ⟨_,hc'⟩
   ·obtain ⟨w2,z2⟩:=I.cell y c' e
    exact ⟨w2,z2.sameBut hs hcc⟩
  ·obtain ⟨e,n,ne,nf,d⟩:=I.pin p hp
   refine ⟨(hs.2 p.1 ?_).trans e,n,ne,nf,d⟩
   intro q
   rw [q,hoc] at e
   have q':oc=p.2:=Option.some.inj e
   exact d w' (by rw [← q'];exact hocd)
theorem zkt {M:Model}{A:Around} {E:Value→Shared→Prop}{i:Nat} {x:Str}{v:V} {u:Value}{Q:Unit→Shared→Prop} (I:Inv X pins σ H s) (hN:X.N.Nodup) (hi:X.N[i]?=some x) (hx:Loc X.env.scope x) (r:RelV v u)
  (h:∀ s',Inv X pins (σ.set i (some v)) H s'→Q () s') (hf:X.fn x=true∨X.env.scope.names.lookup x=some .local:=by first | exact .inl rfl | exact .inr rfl | assumption):wpAny M A (storeName X.env x u) Q E s:=
 ziL I hN hi hx r (fun s' I' _=>h s' I') hf
theorem Inv.call' {s':Shared}{ch:List Addr} (I:Inv X pins σ H s) (ho:s'.os=s.os) (u:Un (frs X.stack) ch H H' s.heap s'.heap) (hok:HOk X.prog X.w H' s'.heap) (hg:AllBare s'.gens)
  (hch:∀ b∈ch,(b∈X.ex∨X.s₀.heap.objs.size≤b)∧b≠X.env.locals∧(∀ x c,X.env.cells.lookup x=some c→c≠b)∧∀ p∈X.pn++pins,p.1≠b):Inv X pins σ H' s':=by
 obtain ⟨h',g',d',t',o'⟩:=s'
 have e:o'=s.os:=ho
 subst e
 exact I.call (g':=g') (t':=t') (d':=d') u hok hg hch
end
noncomputable abbrev XK:=Value→Option Addr→Hp→Prop
noncomputable abbrev St:=List (Option V)
noncomputable abbrev VK:=V→Hp→Prop
noncomputable abbrev TE:=St→Hp→VK→Prop
noncomputable abbrev TT:=St→Hp→(Bool→Hp→Prop)→Prop
noncomputable abbrev TA:=St→Hp→(List V→Hp→Prop)→Prop
structure Ends where
 nx:St→Hp→Prop
 rt:VK
 bk:St→Hp→Prop:=fun _ _=>False
 ct:St→Hp→Prop:=fun _ _=>False
noncomputable abbrev TS:=Ends→St→Hp→Prop
noncomputable def EP (X:Cx) (pins:List (Addr×Obj)) (σ:St) (Q:VK) (u:Value) (s':Shared):Prop:=∃ v H',Inv X pins σ H' s'∧RelV v u∧Q v H'
noncomputable def TP (X:Cx) (pins:List (Addr×Obj)) (σ:St) (Q:Bool→Hp→Prop) (b:Bool) (s':Shared):Prop:=∃ H',Inv X pins σ H' s'∧Q b H'
noncomputable def AP (X:Cx) (pins:List (Addr×Obj)) (σ:St) (Q:List V→Hp→Prop) (us:List Value) (s':Shared):Prop:=∃ vs H',Inv X pins σ H' s'∧Vals vs us∧Q vs H'
noncomputable def SP (X:Cx) (pins:List (Addr×Obj)) (D:Ends) (f:Flow) (s':Shared):Prop:=
 match f with
 | .next=>∃ σ' H',Inv X pins σ' H' s'∧D.nx σ' H'
 | .brk=>∃ σ' H',Inv X pins σ' H' s'∧D.bk σ' H'
 | .cont=>∃ σ' H',Inv X pins σ' H' s'∧D.ct σ' H'
 | .ret u=>∃ v σ' H',Inv X pins σ' H' s'∧RelV v u∧D.rt v H'
noncomputable def PE (X:Cx) (e:Expr) (t:TE):Prop:=
 ∀ (pins:List (Addr×Obj)) (s:Shared) (σ:St) (H:Hp) (Q:VK),Inv X pins σ H s→t σ H Q→wpAny (model X.prog X.w) X.A (eval e X.env) (EP X pins σ Q) X.xe s
noncomputable def PT (X:Cx) (e:Expr) (t:TT):Prop:=
 ∀ (pins:List (Addr×Obj)) (s:Shared) (σ:St) (H:Hp) (Q:Bool→Hp→Prop),Inv X pins σ H s→t σ H Q→wpAny (model X.prog X.w) X.A (isTrue e X.env (eval e X.env)) (TP X pins σ Q) X.xe s
noncomputable def PW (X:Cx) (e:Expr) (t:TT):Prop:=
 ∀ (whole:Sem Value) (pins:List (Addr×Obj)) (s:Shared) (σ:St) (H:Hp) (Q:Bool→Hp→Prop),Inv X pins σ H s→t σ H Q→wpAny (model X.prog X.w) X.A (isTrue e X.env whole) (TP X pins σ Q) X.xe s
theorem PW.pt {X:Cx}{e:Expr} {t:TT}(h:PW X e t):PT X e t:=h _
noncomputable def PA (X:Cx) (es:List Expr) (t:TA):Prop:=
 ∀ (pos:Pos) (pins:List (Addr×Obj)) (s:Shared) (σ:St) (H:Hp) (Q:List V→Hp→Prop),Inv X pins σ H s→t σ H Q→wpAny (model X.prog X.w) X.A (spliced (backTo pos (starEach es X.env))) (AP X pins σ Q) X.xe s
noncomputable def PS (X:Cx) (st:Stmt) (t:TS):Prop:=
 ∀ (pins:List (Addr×Obj)) (s:Shared) (σ:St) (H:Hp) (D:Ends),Inv X pins σ H s→t D σ H→wpAny (model X.prog X.w) X.A (exec st X.env) (SP X pins D) X.xe s
noncomputable def PSs (X:Cx) (st:List Stmt) (t:TS):Prop:=
 ∀ (pins:List (Addr×Obj)) (s:Shared) (σ:St) (H:Hp) (D:Ends),Inv X pins σ H s→t D σ H→wpAny (model X.prog X.w) X.A (execs st X.env) (SP X pins D) X.xe s
theorem thn {α:Type}{t:Sem α} {Q Q':α→Shared→Prop}{M:Model} {A:Around}{E:Value→Shared→Prop} {s:Shared}(h:wpAny M A t Q E s) (hQ:∀ a s,Q a s→Q' a s):wpAny M A t Q' E s:=wpAny_mono h hQ fun _ _ x=>x
end L2
namespace L2
open PySem PySem.Spec PyProof.Rows
section
variable {X:Cx}
noncomputable def tVar (i:Nat):TE:=fun σ H Q=>∃ v,σ[i]?=some (some v)∧Q v H
noncomputable def tC (v:V):TE:=fun _ H Q=>Q v H
theorem zcK {i:Nat}{x:Str} {pos:Pos}(hN:X.N[i]?=some x) (hv:Vis X.env.scope x) (hd:(x == ("__debug__" : Str))=false:=by decide) (hcd:(x == ("__classdict__" : Str))=false:=by decide):PE X (.Name x pos) (tVar i):=by
 intro pins s σ H Q I h
 obtain ⟨v,e,h⟩:=h
 obtain ⟨m,hn,hl⟩:=I.loc
 obtain ⟨u,r,l⟩:=hl i x v hN e hv
 have fin:EP X pins σ Q u s:=⟨v,H,I,r,h⟩
 rcases l with ⟨hk,hm⟩ | ⟨hk,c,hc,hcell⟩
 ·exact wpAny_Name (wpAny_loadName_local I.ok.kind hk hn hm fin) hd
 ·rcases hk with hk | hk
  ·exact wpAny_Name (wpAny_loadName_cell I.ok.kind hk hc hcell fin) hd
  ·exact wpAny_Name (wpAny_loadName_free I.ok.kind hk hc hcell fin hcd) hd
theorem pe_int {i j pos}:PE X (.Constant (.int i) j pos) (tC (.int i)):=fun _ _ _ H _ I h=>wpAny_Constant_int ⟨.int i,H,I.tok _,⟨_,rfl⟩,h⟩
theorem pe_bl {b j pos}:PE X (.Constant (.bool b) j pos) (tC (.bl b)):=fun _ _ _ H _ I h=>Constant_bool ⟨.bl b,H,I,rfl,h⟩
theorem pe_non {j pos}:PE X (.Constant .none j pos) (tC .non):=fun _ _ _ H _ I h=>Constant_none ⟨.non,H,I,rfl,h⟩
theorem pe_str {x j pos}:PE X (.Constant (.str x) j pos) (tC (.str x)):=fun _ _ _ H _ I h=>Calls.Constant_str ⟨.str x,H,I.tok _,⟨_,rfl⟩,h⟩
noncomputable def Gl (X:Cx) (x:Str):Prop:=X.env.kindOf x=some .globalImplicit
theorem ld_glob {E:Value→Shared→Prop}{pins:List (Addr×Obj)} {s:Shared}{σ:St} {H:Hp}{x:Str} {u:Value}{pos:Pos} {Q:Value→Shared→Prop}(I:Inv X pins σ H s) (hg:Gl X x) (hm:X.mg x=some u) (h:Q u s)
  (hd:(x == ("__debug__" : Str))=false:=by decide):wpAny (model X.prog X.w) X.A (eval (.Name x pos) X.env) Q E s:=
 Calls.Name_function_global I.ok.kind hg (Calls.loadGlobal_global (by rw [I.ok.glob];exact I.mod.glob.keeps I.bk) hm h) hd
theorem zem {E:Value→Shared→Prop}{pins:List (Addr×Obj)} {s:Shared}{σ:St} {H:Hp}{x:Str} {u:Value}{pos:Pos} {Q:Value→Shared→Prop}(I:Inv X pins σ H s) (hg:Gl X x) (hm:X.mg x=none) (hv:bootBuiltins x=some u) (h:Q u s)
  (hn:x ≠ "__name__" := by decide) (hd:(x == ("__debug__" : Str))=false:=by decide):wpAny (model X.prog X.w) X.A (eval (.Name x pos) X.env) Q E s:=by
 obtain ⟨mb,h1,h2⟩:=I.mod.blt
 exact Calls.Name_function_global I.ok.kind hg (Calls.loadGlobal_builtin (by rw [I.ok.glob];exact I.mod.glob.keeps I.bk) hm (by rw [I.ok.blt];exact h1.keeps I.bk) ((h2 x hn).trans hv) h) hd
theorem pe_bltn {x:Str}{v:V} {u:Value}{pos:Pos} (hg:Gl X x) (hm:X.mg x=none) (hv:bootBuiltins x=some u) (r:RelV v u) (hn:x ≠ "__name__" := by decide) (hd:(x == ("__debug__" : Str))=false:=by decide):PE X (.Name x pos) (tC v):=
 fun _ _ _ H _ I h=>zem I hg hm hv ⟨v,H,I,r,h⟩ hn hd
variable {a b:Expr}{ta tb:TE} {pos:Pos}
noncomputable def tB (t:TE):TT:=fun σ H Q=>t σ H fun x H1=>∃ c,x=.bl c∧Q c H1
theorem pt_val {e:Expr}{t:TE} (h:PE X e t) (he:∀ whole,isTrue e X.env whole=(do let v ← whole;standAt e.pos;holding [v] (truthy v)):=by intro _;rfl):PT X e (tB t):=by
 intro pins s σ H Q I hw
 refine isTrue_plain (thn (h pins s σ H _ I hw) fun v s1 ⟨x,H1,I1,r1,q1⟩=>?_) (he _)
 obtain ⟨d,rfl,q⟩:=q1
 cases r1
 exact wpAny_truthy_bool ⟨H1,I1,q⟩
variable {tA tB':TT}{rest:List Expr}
noncomputable def tAnd (t u:TT):TT:=fun σ H Q=>t σ H fun c H1=>if c=true then u σ H1 Q else Q false H1
noncomputable def tOr (t u:TT):TT:=fun σ H Q=>t σ H fun c H1=>if c=true then Q true H1 else u σ H1 Q
noncomputable def tNot (t:TT):TT:=fun σ H Q=>t σ H fun c H1=>Q (!c) H1
theorem zmd (ha:PT X a tA):PW X (.BoolOp .And [a] pos) tA:=by
 intro wh pins s σ H Q I h
 refine isTrue_and (thn (ha pins s σ H Q I h) fun c s1 e=>?_)
 cases c with
 | true=>exact isTrue_and_nil e
 | false=>exact e
theorem pw_or1 (ha:PT X a tA):PW X (.BoolOp .Or [a] pos) tA:=by
 intro wh pins s σ H Q I h
 refine isTrue_or (thn (ha pins s σ H Q I h) fun c s1 e=>?_)
 cases c with
 | false=>exact isTrue_or_nil e
 | true=>exact e
theorem zkz (ha:PT X a tA) (hb:PW X (.BoolOp .And (b::rest) pos) tB'):PW X (.BoolOp .And (a::b::rest) pos) (tAnd tA tB'):=by
 intro wh pins s σ H Q I h
 refine isTrue_and (thn (ha pins s σ H _ I h) fun c s1 ⟨H1,I1,q1⟩=>?_)
 cases c with
 | true=>exact hb wh pins s1 σ H1 Q I1 q1
 | false=>exact ⟨H1,I1,q1⟩
theorem pw_or (ha:PT X a tA) (hb:PW X (.BoolOp .Or (b::rest) pos) tB'):PW X (.BoolOp .Or (a::b::rest) pos) (tOr tA tB'):=by
 intro wh pins s σ H Q I h
 refine isTrue_or (thn (ha pins s σ H _ I h) fun c s1 ⟨H1,I1,q1⟩=>?_)
 cases c with
 | true=>exact ⟨H1,I1,q1⟩
 | false=>exact hb wh pins s1 σ H1 Q I1 q1
theorem pt_not (ha:PT X a tA):PT X (.UnaryOp .Not a pos) (tNot tA):=by
 intro pins s σ H Q I h
 exact isTrue_not (ha pins s σ H (fun c H1=>Q (!c) H1) I h)
end
end L2
namespace L2
open PySem PySem.Spec PyProof.Rows
noncomputable def SqL (K:PySem.W.Frag) (H:Hp) (a:Addr) (xs:List V):Prop:=
 Rd H a (.lst xs)∨
  ∃ (o:Obj) (its:Array Value) (n:Nat),K.lookup a=some o∧o.cls=.type "list" ∧ o.dict=none∧o.data=.seq its n∧its.size≤sizeLine∧Vals xs its.toList
noncomputable def SqT (K:PySem.W.Frag) (H:Hp) (a:Addr) (xs:List V):Prop:=
 Rd H a (.tup xs)∨
  ∃ (o:Obj) (its:Array Value) (n:Nat),K.lookup a=some o∧o.cls=.type "tuple" ∧ o.data=.seq its n∧its.size≤sizeLine∧Vals xs its.toList
noncomputable def absV:Value→Option V
 | .none=>some .non
 | .bool b=>some (.bl b)
 | .int i _=>some (.int i)
 | .str x _=>some (.str x)
 | .bytes b _=>some (.byt b)
 | .float b _=>some (.flt b)
 | .ref a=>some (.ref a)
 | .type n=>some (.ty n)
 | _=>none
theorem RelV.abs {x:V}{u:Value} (r:RelV x u):absV u=some x:=by
 cases x with
 | non=>cases r;rfl
 | bl _=>cases r;rfl
 | int _=>obtain ⟨t,rfl⟩:=r;rfl
 | str _=>obtain ⟨t,rfl⟩:=r;rfl
 | byt _=>obtain ⟨t,rfl⟩:=r;rfl
 | flt _=>obtain ⟨t,rfl⟩:=r;rfl
 | ref _=>cases r;rfl
 | ty _=>cases r;rfl
theorem RelV.inj {x y:V}{u:Value} (r:RelV x u) (q:RelV y u):x=y:=Option.some.inj (r.abs.symm.trans q.abs)
theorem Vals.inj:∀ {xs ys:List V}{us:List Value},Vals xs us→Vals ys us→xs=ys
 | _,_,_,.nil,.nil=>rfl
 | _,_,_,.cons r t,.cons r' t'=>by rw [r.inj r',Vals.inj t t']
section
variable {X:Cx}{pins:List (Addr×Obj)} {σ:St}{H:Hp} {s:Shared}{a:Addr} {xs ys:List V}
theorem SqL.of {K:PySem.W.Frag}(h:H a=some (.lst xs)):SqL K H a xs:=.inl (.inl h)
theorem SqT.of {K:PySem.W.Frag}(h:H a=some (.tup xs)):SqT K H a xs:=.inl (.inl h)
theorem Inv.list (I:Inv X pins σ H s) (h:SqL X.K H a xs):∃ its:List Value,Vals xs its∧PlainL s.heap a its.toArray∧xs.length≤sizeLine:=by
 rcases h with h | ⟨o,its,n,hk,hc,hd,hs,hz,r⟩
 ·obtain ⟨z,its,n,r,e⟩:=h.ok I.hok
  exact ⟨its,r,⟨_,n,e,rfl,rfl,rfl⟩,z⟩
 ·refine ⟨its.toList,r,⟨o,n,I.kIn a o hk,hc,hd,by simpa using hs⟩,?_⟩
  have e:=r.length
  simp only [Array.length_toList] at e
  omega
theorem Inv.tuple (I:Inv X pins σ H s) (h:SqT X.K H a xs):∃ its:List Value,Vals xs its∧IsTup s.heap a its.toArray∧xs.length≤sizeLine:=by
 rcases h with h | ⟨o,its,n,hk,hc,hs,hz,r⟩
 ·obtain ⟨z,its,r,p⟩:=h.ok I.hok
  exact ⟨its,r,p,z⟩
 ·refine ⟨its.toList,r,⟨o,I.kIn a o hk,hc,n,by simpa using hs⟩,?_⟩
  have e:=r.length
  simp only [Array.length_toList] at e
  omega
theorem Inv.list_inj (I:Inv X pins σ H s) (h:SqL X.K H a xs) (h':SqL X.K H a ys):xs=ys:=by
 obtain ⟨its,r,⟨o,n,e,_,_,d⟩,_⟩:=I.list h
 obtain ⟨its',r',⟨o',n',e',_,_,d'⟩,_⟩:=I.list h'
 rw [e] at e';cases e'
 rw [d] at d'
 injection d' with d1 _
 have:its=its':=by simpa using congrArg Array.toList d1
 subst this
 exact r.inj r'
theorem Inv.tuple_inj (I:Inv X pins σ H s) (h:SqT X.K H a xs) (h':SqT X.K H a ys):xs=ys:=by
 obtain ⟨its,r,⟨o,e,_,n,d⟩,_⟩:=I.tuple h
 obtain ⟨its',r',⟨o',e',_,n',d'⟩,_⟩:=I.tuple h'
 rw [e] at e';cases e'
 rw [d] at d'
 injection d' with d1 _
 have:its=its':=by simpa using congrArg Array.toList d1
 subst this
 exact r.inj r'
end
noncomputable abbrev Cx.wish (X:Cx) (E:Value→Shared→Prop):Cx:={ X with xe:=E }
noncomputable abbrev Cx.nox (X:Cx):Cx:=X.wish fun _ _=>False
theorem Cx.Ok.wish {X:Cx}(ok:X.Ok) (E:Value→Shared→Prop):(X.wish E).Ok:=
 ⟨ok.mod,ok.kind,ok.glob,ok.blt,ok.above,ok.inj,ok.has,ok.cab,ok.hd,ok.frames,ok.stk,ok.exf,ok.bs,ok.bsz,ok.noex,ok.exfs,ok.funs,ok.frf⟩
theorem Cx.Ok.unwish {X:Cx}{E:Value→Shared→Prop} (ok:(X.wish E).Ok):X.Ok:=
 ⟨ok.mod,ok.kind,ok.glob,ok.blt,ok.above,ok.inj,ok.has,ok.cab,ok.hd,ok.frames,ok.stk,ok.exf,ok.bs,ok.bsz,ok.noex,ok.exfs,ok.funs,ok.frf⟩
section
variable {X:Cx}{pins:List (Addr×Obj)} {σ:St}{H:Hp} {s:Shared}{E:Value→Shared→Prop}
theorem Inv.wish (I:Inv X pins σ H s) (E:Value→Shared→Prop):Inv (X.wish E) pins σ H s:=⟨I.ok.wish E,I.os,I.bare,I.base,I.loc,I.cell,I.free,I.freeC,I.pin,I.hok,I.len⟩
theorem Inv.unwish (I:Inv (X.wish E) pins σ H s):Inv X pins σ H s:=⟨I.ok.unwish,I.os,I.bare,I.base,I.loc,I.cell,I.free,I.freeC,I.pin,I.hok,I.len⟩
theorem SP.unwish {D:Ends}{f:Flow} {s':Shared}(h:SP (X.wish E) pins D f s'):SP X pins D f s':=by
 cases f with
 | next=>obtain ⟨σ',H',I,q⟩:=h;exact ⟨σ',H',I.unwish,q⟩
 | brk=>obtain ⟨σ',H',I,q⟩:=h;exact ⟨σ',H',I.unwish,q⟩
 | cont=>obtain ⟨σ',H',I,q⟩:=h;exact ⟨σ',H',I.unwish,q⟩
 | ret u=>obtain ⟨v,σ',H',I,r,q⟩:=h;exact ⟨v,σ',H',I.unwish,r,q⟩
theorem PSs.nox {st:List Stmt}{t:TS} (h:PSs X.nox st t):PSs X st t:=fun pins s σ H D I hw=>
 wpAny_mono (h pins s σ H D (I.wish _) hw) (fun _ _ q=>q.unwish) fun _ _ z=>False.elim z
end
section
variable {X:Cx}{st:Stmt} {rest:List Stmt}{t u:TS} {e:Expr}{te:TE} {pos:Pos}
noncomputable def tNext:TS:=fun D σ H=>D.nx σ H
noncomputable def tSeq (t u:TS):TS:=fun D σ H=>t { D with nx:=u D } σ H
theorem pss_nil:PSs X [] tNext:=fun _ _ σ H _ I h=>wpAny_execs_nil ⟨σ,H,I,h⟩
theorem zkB (h1:PS X st t) (h2:PSs X rest u):PSs X (st::rest) (tSeq t u):=by
 intro pins s σ H D I h
 refine wpAny_execs_cons (thn (h1 pins s σ H { D with nx:=u D } I h) fun f s1 q=>?_)
 cases f with
 | next=>
  obtain ⟨σ',H',I',q⟩:=q
  exact h2 pins s1 σ' H' D I' q
 | ret v=>exact q
 | brk=>exact q
 | cont=>exact q
theorem pss_one (h1:PS X st t):PSs X [st] t:=by
 intro pins s σ H D I h
 refine wpAny_execs_cons (thn (h1 pins s σ H D I h) fun f s1 q=>?_)
 cases f with
 | next=>exact wpAny_execs_nil q
 | ret v=>exact q
 | brk=>exact q
 | cont=>exact q
noncomputable def tCont:TS:=fun D σ H=>D.ct σ H
theorem zjQ:PS X (.Continue pos) tCont:=fun _ _ σ H _ I h=>wpAny_Continue ⟨σ,H,I,h⟩
theorem Inv.quiet {pins:List (Addr×Obj)}{σ:St} {H:Hp}{s:Shared} (I:Inv X pins σ H s):interactive X.env=false:=by simp [interactive,I.ok.kind]
noncomputable def tDrop (te:TE):TS:=fun D σ H=>te σ H fun _ H1=>D.nx σ H1
theorem zmg (he:PE X e te) (hs:swapsWith e none pos.line X.env=pure false:=by rfl):PS X (.Expr e pos) (tDrop te):=by
 intro pins s σ H D I h
 exact wpAny_Expr_any (thn (he pins s σ H _ I h) fun v s1 ⟨x,H1,I1,r1,q1⟩=>⟨σ,H1,I1,q1⟩) I.quiet hs
noncomputable def tRet (te:TE):TS:=fun D σ H=>te σ H D.rt
theorem ziS (he:PE X e te):PS X (.Return (some e) pos) (tRet te):=by
 intro pins s σ H D I h
 exact wpAny_Return_some (thn (he pins s σ H _ I h) fun v s1 ⟨x,H1,I1,r1,q1⟩=>⟨x,σ,H1,I1,r1,q1⟩)
noncomputable def tIfS (c:TT) (t u:TS):TS:=fun D σ H=>c σ H fun b H1=>if b=true then t D σ H1 else u D σ H1
theorem ps_if {c:Expr}{a b:List Stmt} {tc:TT}(hc:PT X c tc) (ha:PSs X a t) (hb:PSs X b u):PS X (.If c a b pos) (tIfS tc t u):=by
 intro pins s σ H D I h
 refine wpAny_If (thn (hc pins s σ H _ I h) fun d s1 ⟨H1,I1,q1⟩=>?_)
 cases d with
 | true=>exact ha pins s1 σ H1 D I1 q1
 | false=>exact hb pins s1 σ H1 D I1 q1
noncomputable def tNever:TS:=fun _ _ _=>False
theorem zgo {sts:List Stmt}:PSs X sts tNever:=fun _ _ _ _ _ _ h=>h.elim
end
noncomputable abbrev TG:=V→St→Hp→(St→Hp→Prop)→Prop
noncomputable abbrev TGs:=List V→St→Hp→(St→Hp→Prop)→Prop
noncomputable def PG (X:Cx) (target:Expr) (t:TG):Prop:=
 ∀ (pins:List (Addr×Obj)) (s:Shared) (σ:St) (H:Hp) (v:V) (u:Value) (Q:St→Hp→Prop),Inv X pins σ H s→RelV v u→t v σ H Q→
  wpAny (model X.prog X.w) X.A (assign target X.env u) (fun _ s'=>∃ σ' H',Inv X pins σ' H' s'∧Q σ' H') X.xe s
noncomputable def PGs (X:Cx) (ts:List Expr) (t:TGs):Prop:=
 ∀ (pins:List (Addr×Obj)) (s:Shared) (σ:St) (H:Hp) (vs:List V) (us:List Value) (Q:St→Hp→Prop),Inv X pins σ H s→Vals vs us→t vs σ H Q→
  wpAny (model X.prog X.w) X.A (assignInOrder ((assignEach ts X.env).map (·.2)) us) (fun _ s'=>∃ σ' H',Inv X pins σ' H' s'∧Q σ' H') X.xe s
noncomputable abbrev TSet:=V→V→V→Hp→(Hp→Prop)→Prop
noncomputable def PSet (X:Cx) (t:TSet):Prop:=
 ∀ (pins:List (Addr×Obj)) (s:Shared) (σ:St) (H:Hp) (o i v:V) (ov iv u:Value) (Q:Hp→Prop),Inv X pins σ H s→RelV o ov→RelV i iv→RelV v u→t o i v H Q→
  wpAny (model X.prog X.w) X.A (setItem ov iv u) (fun _ s'=>∃ H',Inv X pins σ H' s'∧Q H') X.xe s
section
variable {X:Cx}{pos:Pos}
noncomputable def gName (i:Nat):TG:=fun v σ H Q=>Q (σ.set i (some v)) H
theorem pg_name {i:Nat}{x:Str} (hN:X.N.Nodup) (hi:X.N[i]?=some x) (hx:Loc X.env.scope x) (hf:X.fn x=true∨X.env.scope.names.lookup x=some .local:=by first | exact .inl rfl | exact .inr rfl | assumption):PG X (.Name x pos) (gName i):=by
 intro pins s σ H v u Q I r h
 exact wpAny_assign_Name (zkt I hN hi hx r (fun s' I'=>⟨_,H,I',h⟩) hf)
noncomputable def gNil:TGs:=fun vs σ H Q=>vs=[]∧Q σ H
noncomputable def zaY (t:TG) (u:TGs):TGs:=fun vs σ H Q=>∃ v r,vs=v::r∧t v σ H fun σ' H'=>u r σ' H' Q
theorem pgs_nil:PGs X [] gNil:=by
 intro pins s σ H vs us Q I r h
 obtain ⟨e,h⟩:=h
 subst e
 cases r
 exact assignInOrder_nil ⟨σ,H,I,h⟩
theorem pgs_cons {e:Expr}{es:List Expr} {t:TG}{u:TGs} (h1:PG X e t) (h2:PGs X es u)
  (hs:(assignEach (e::es) X.env).map (·.2)=assign e X.env::(assignEach es X.env).map (·.2):=by rfl):PGs X (e::es) (zaY t u):=by
 intro pins s σ H vs us Q I r h
 obtain ⟨v,vr,e1,h⟩:=h
 subst e1
 cases r with
 | cons r rr=>
  rw [hs]
  refine assignInOrder_cons (thn (h1 pins s σ H _ _ _ I r h) fun _ s1 ⟨σ1,H1,I1,q1⟩=>?_)
  exact h2 pins s1 σ1 H1 _ _ Q I1 rr q1
noncomputable def gTup (K:PySem.W.Frag) (n:Nat) (t:TGs):TG:=fun v σ H Q=>∃ a xs,v=.ref a∧SqT K H a xs∧xs.length=n∧t xs σ H Q
theorem pg_tup {es:List Expr}{k:Nat} {t:TGs}{n:Nat} (hc:X.calm=true) (h:PGs X es t)
  (hn:(assignEach es X.env).length=n:=by rfl) (hst:(assignEach es X.env).findIdx? (·.1)=none:=by rfl):PG X (.Tuple es k pos) (gTup X.K n t):=by
 intro pins s σ H v u Q I r hw
 obtain ⟨a,xs,e1,hq,hl,hw⟩:=hw
 subst e1
 cases r
 obtain ⟨its,rv,ht,hz⟩:=I.tuple hq
 refine assign_Tuple_tuple (I.ok.hd hc) ht (by simp [hn,← hl,rv.length]) hst fun h' hx=>?_
 have I1:Inv X pins σ H { s with heap:=h' }:=I.kept (t':=s.toks) fun b o e=>hx b o (Nat.ne_of_lt (Heap.lt_size e)) e
 exact h pins _ σ H xs _ Q I1 (by simpa using rv) hw
noncomputable def gSub (to ti:TE) (t:TSet):TG:=fun v σ H Q=>to σ H fun o H1=>ti σ H1 fun i H2=>t o i v H2 fun H3=>Q σ H3
theorem zmp {o i:Expr}{to ti:TE} {t:TSet}(ho:PE X o to) (hi:PE X i ti) (hs:PSet X t)
  (ha:∀ v,assign (.Subscript o i pos) X.env v=(do
   let ov ← holding [v] (eval o X.env)
   let iv ← holding [v,ov] (eval i X.env)
   standAt pos
   holding [v,ov,iv] (setItem ov iv v)
   release [v,ov,iv] []):=by intro _;rfl):PG X (.Subscript o i pos) (gSub to ti t):=by
 intro pins s σ H v u Q I r h
 rw [ha]
 refine wpAny_bind (wpAny_holding (thn (ho pins s σ H _ I h) fun ov s1 ⟨x,H1,I1,r1,q1⟩=>?_))
 refine wpAny_bind (wpAny_holding (thn (hi pins s1 σ H1 _ I1 q1) fun iv s2 ⟨y,H2,I2,r2,q2⟩=>?_))
 refine wpAny_bind (wpAny_standAt (wpAny_bind (wpAny_holding (thn (hs pins s2 σ H2 x y v ov iv u _ I2 r1 r2 r q2) fun _ s3 ⟨H3,I3,q3⟩=>?_))))
 exact wpAny_release ⟨σ,H3,I3,q3⟩
noncomputable def tAsg (te:TE) (g:TG):TS:=fun D σ H=>te σ H fun x H1=>g x σ H1 D.nx
theorem ziT {tg e:Expr}{te:TE} {g:TG}(he:PE X e te) (hg:PG X tg g) (hs:swapsWithSole [tg] e pos.line X.env=pure false:=by rfl) (hw:swappedStores [tg] e X.env=pure none:=by rfl)
  (h1:(assignEach [tg] X.env).map (·.2)=[assign tg X.env]:=by rfl):PS X (.Assign [tg] e pos) (tAsg te g):=by
 intro pins s σ H D I h
 refine wpAny_Assign_stores (thn (he pins s σ H _ I h) fun v s1 ⟨x,H1,I1,r1,q1⟩=>?_) hs hw
 rw [h1]
 exact thn (hg pins s1 σ H1 x v _ I1 r1 q1) fun _ s2 q=>q
theorem ps_set {i:Nat}{x:Str} {e:Expr}{te:TE} {pos':Pos}(hN:X.N.Nodup) (hi:X.N[i]?=some x) (hx:Loc X.env.scope x) (he:PE X e te) (hs:swapsWith e (some (.Name x pos')) pos.line X.env=pure false:=by rfl) (hf:X.fn x=true∨X.env.scope.names.lookup x=some .local:=by first | exact .inl rfl | exact .inr rfl | assumption) :
  PS X (.Assign [.Name x pos'] e pos) (tAsg te (gName i)):=by
 intro pins s σ H D I h
 refine wpAny_Assign_Name (thn (he pins s σ H _ I h) fun v s1 ⟨y,H1,I1,r1,q1⟩=>?_) hs
 exact zkt I1 hN hi hx r1 (fun s2 I2=>⟨_,H1,I2,q1⟩) hf
end
section
variable {X:Cx}{pos:Pos}
noncomputable def tWhile (c:TT) (tb:TS):TS:=fun D σ H=>∃ W:Nat→St→Hp→Prop,(∃ m,W m σ H)∧∀ m σ H,W m σ H→
 c σ H fun b H1=>if b=true then ∃ N:St→Hp→Prop,(∀ σ' H',N σ' H'→∃ m',m' < m∧W m' σ' H')∧tb { D with nx:=N,ct:=N,bk:=D.nx } σ H1 else D.nx σ H1
theorem ps_while {c:Expr}{body:List Stmt} {tc:TT}{tb:TS} (hp:PassesOwn (model X.prog X.w) X.A X.env X.xe) (hc:PT X c tc) (hb:PSs X body tb):PS X (.While c body [] pos) (tWhile tc tb):=by
 intro pins s σ H D I h
 obtain ⟨W,⟨m0,w0⟩,turn⟩:=h
 refine wpAny_While (codeAny_whileLoop (fun n s'=>∃ σ' H',Inv X pins σ' H' s'∧W n σ' H') ?_ m0 ⟨σ,H,I,w0⟩)
 rintro n s1 ⟨σ1,H1,I1,w1⟩
 refine wpAny_passesOwn hp (thn (hc pins s1 σ1 H1 _ I1 (turn n σ1 H1 w1)) fun b s2 ⟨H2,I2,q2⟩=>?_)
 cases b with
 | true=>
  obtain ⟨N,hN,q2⟩:=q2
  rw [if_pos rfl]
  refine wpAny_passesOwn hp (thn (hb pins s2 σ1 H2 _ I2 q2) fun f s3 q3=>?_)
  cases f with
  | next=>
   obtain ⟨σ3,H3,I3,n3⟩:=q3
   obtain ⟨m',hm,w3⟩:=hN σ3 H3 n3
   exact ⟨m',hm,σ3,H3,I3,w3⟩
  | cont=>
   obtain ⟨σ3,H3,I3,n3⟩:=q3
   obtain ⟨m',hm,w3⟩:=hN σ3 H3 n3
   exact ⟨m',hm,σ3,H3,I3,w3⟩
  | brk=>exact q3
  | ret v=>exact q3
 | false=>
  rw [if_neg Bool.false_ne_true]
  exact wpAny_execs_nil ⟨σ1,H2,I2,q2⟩
end
structure It where
 go:Nat→Hp→Prop
 yld:Nat→Hp→V→Hp→Prop
 stop:Nat→Hp→Prop
noncomputable def FpOk (X:Cx) (pins:List (Addr×Obj)) (H:Hp) (b:Addr):Prop:=
 H b=none∧b≠X.env.locals∧b∉X.fs∧(b∈X.ex∨X.s₀.heap.objs.size≤b)∧(∀ x c,X.env.cells.lookup x=some c→c≠b)∧∀ p∈X.pn++pins,p.1≠b
theorem Inv.fpOk {X:Cx}{pins:List (Addr×Obj)} {σ:St}{H H':Hp} {s:Shared}{b:Addr} (I:Inv X pins σ H s) (hb:s.heap.objs.size≤b) (hn:H' b=none):FpOk X pins H' b:=by
 refine ⟨hn,Nat.ne_of_gt (Nat.lt_of_lt_of_le I.lt hb),I.nofs hb,.inr (Nat.le_trans I.sz hb),fun x c e z=>?_,fun p hp z=>?_⟩
 ·obtain ⟨v,q⟩:=I.cell x c e
  exact absurd (Nat.lt_of_lt_of_le q.lt (by rw [z];exact hb)) (Nat.lt_irrefl _)
 ·exact absurd (Nat.lt_of_lt_of_le (Heap.lt_size (I.pin p hp).1) (by rw [z];exact hb)) (Nat.lt_irrefl _)
structure Turn (P:Program) (w:World) (K:PySem.W.Frag) (tg:Expr) (J:It) (fp:List Addr) (it:Addr) (tn:Nat→Heap→Prop):Prop where
 mem:it∈fp
 obj:∀ i h,tn i h→∀ b∈fp,∃ o,h.get? b=some o∧∀ v,o.data≠.cell v
 keep:∀ i h h',tn i h→(∀ b∈fp,∀ o,h.get? b=some o→h'.get? b=some o)→tn i h'
 item:∀ (X:Cx),X.prog=P→X.w=w→X.K=K→X.calm=true→∀ (i:Nat) (pins:List (Addr×Obj)) (s:Shared) (σ:St) (H:Hp) (E:Value→Shared→Prop),Inv X pins σ H s→(∀ b∈fp,FpOk X pins H b)→tn i s.heap→J.go i H→
  wpAny (model P w) X.A (pyNext (.ref it)) (fun r s1=>∃ u,r=some u∧
   wpAny (model P w) X.A (letOwnedTupleGo tg (.ref it) u) (fun _ s2=>∃ x H',Inv X pins σ H' s2∧RelV x u∧J.yld i H x H'∧tn (i + 1) s2.heap∧∀ b∈fp,H' b=none) E s1) E s
 done:∀ (X:Cx),X.prog=P→X.w=w→X.K=K→X.calm=true→∀ (i:Nat) (pins:List (Addr×Obj)) (s:Shared) (σ:St) (H:Hp) (E:Value→Shared→Prop),Inv X pins σ H s→(∀ b∈fp,FpOk X pins H b)→tn i s.heap→J.stop i H→
  wpAny (model P w) X.A (pyNext (.ref it)) (fun r s1=>r=none∧Inv X pins σ H s1) E s
 self:∀ (A:Around) (i:Nat) (s:Shared) (Q:Value→Shared→Prop) (E:Value→Shared→Prop),tn i s.heap→Q (.ref it) s→wpAny (model P w) A (pyIter (.ref it)) Q E s
noncomputable abbrev TI:=St→Hp→(It→Hp→Prop)→Prop
noncomputable def PIE (X:Cx) (pins:List (Addr×Obj)) (σ:St) (tg:Expr) (R:It→Hp→Prop) (itv:Value) (s2:Shared):Prop:=
 ∃ (it:Addr) (fp:List Addr) (tn:Nat→Heap→Prop) (J:It) (H':Hp),itv=.ref it∧Inv X pins σ H' s2∧Turn X.prog X.w X.K tg J fp it tn∧tn 0 s2.heap∧(∀ b∈fp,FpOk X pins H' b)∧R J H'
noncomputable def PI (X:Cx) (tg iter:Expr) (wi:TI):Prop:=
 ∀ (pins:List (Addr×Obj)) (s:Shared) (σ:St) (H:Hp) (R:It→Hp→Prop),Inv X pins σ H s→wi σ H R→
  wpAny (model X.prog X.w) X.A (eval iter X.env) (fun v s1=>wpAny (model X.prog X.w) X.A (pyIter v) (PIE X pins σ tg R) X.xe s1) X.xe s
theorem go_of {M:Model}{A:Around} {E:Value→Shared→Prop}{s:Shared} {tg:Expr}{it:Addr} {u:Value}{o:Obj} {n:String}{vs:Array Value} {Q:Unit→Shared→Prop}(ho:s.heap.get? it=some o) (hc:o.cls=.type n) (hd:o.data=.fields vs)
  (hn:["enumerate", "zip", "dict_itemiterator", "dict_reverseitemiterator", "odict_iterator", "itertools.zip_longest", "itertools.pairwise"].contains n=false) (hQ:Q () s):wpAny M A (letOwnedTupleGo tg (.ref it) u) Q E s:=by
 unfold letOwnedTupleGo
 cases tg<;>first
  | exact wpAny_pure hQ
  | (cases u<;>first
    | exact wpAny_pure hQ
    | (refine wpAny_bind (wpAny_load ho ?_)
       rw [hc,hd]
       show wpAny M A (if (["enumerate", "zip", "dict_itemiterator", "dict_reverseitemiterator", "odict_iterator", "itertools.zip_longest", "itertools.pairwise"].contains n && vs[0]? == some (rawInt _))=true then _ else _) Q E s
       rw [if_neg (by intro h;rw [hn,Bool.false_and] at h;cases h)]
       exact wpAny_pure hQ))
noncomputable def Itl (K:PySem.W.Frag) (a:Addr):It:=
 ⟨fun i H=>∃ xs x,SqL K H a xs∧xs[i]?=some x,fun i H x H'=>H'=H∧∀ xs,SqL K H a xs→xs[i]?=some x,fun i H=>∃ xs,SqL K H a xs∧xs.length≤i⟩
noncomputable def Itt (K:PySem.W.Frag) (a:Addr):It:=
 ⟨fun i H=>∃ xs x,SqT K H a xs∧xs[i]?=some x,fun i H x H'=>H'=H∧∀ xs,SqT K H a xs→xs[i]?=some x,fun i H=>∃ xs,SqT K H a xs∧xs.length≤i⟩
noncomputable def Itr (lo:Int) (n:Nat):It:=⟨fun i _=>i < n,fun i H x H'=>H'=H∧x=.int (lo + i),fun i _=>n≤i⟩
theorem zlS {P:Program}{w:World} {K:PySem.W.Frag}{tg:Expr} (a it:Addr):Turn P w K tg (Itl K a) [it] it (fun i h=>h.IsListIter it a i) where
 mem:=by simp
 obj:=fun i h st b hb=>by
  have e:b=it:=by simpa using hb
  subst e
  obtain ⟨o,e,c,d⟩:=st
  exact ⟨o,e,fun v z=>by rw [d] at z;cases z⟩
 keep:=fun i h h' st k=>st.at fun o e=>k it (by simp) o e
 item:=by
  intro X hP hw hK hc i pins s σ H E I hf st hg
  subst hP hw hK
  obtain ⟨xs,x,hq,hx⟩:=hg
  obtain ⟨its,rv,p,hz⟩:=I.list hq
  obtain ⟨u,hu,ru⟩:=rv.get hx
  obtain ⟨f0,f1,f2,f3,f4,f5⟩:=hf it (by simp)
  refine wpAny_pyNext_list_item st p.isList (x:=u) (by simpa using hu) fun h' st' sb=>?_
  have I1:Inv X pins σ H { s with heap:=h' }:=I.turned (t':=s.toks) (fun b o hb e=>(sb.2 b hb).trans e) f0 f1 f3 f4 f5
  obtain ⟨o,e,c,d⟩:=id st'
  exact ⟨u,rfl,go_of (s:={ s with heap:=h' }) e c d (by decide) ⟨x,H,I1,ru,⟨rfl,fun ys hy=>by rw [I.list_inj hy hq];exact hx⟩,st',fun b hb=>(hf b hb).1⟩⟩
 done:=by
  intro X hP hw hK hc i pins s σ H E I hf st hg
  subst hP hw hK
  obtain ⟨xs,hq,hx⟩:=hg
  obtain ⟨its,rv,p,hz⟩:=I.list hq
  obtain ⟨f0,f1,f2,f3,f4,f5⟩:=hf it (by simp)
  have hl:=rv.length
  exact wpAny_pyNext_list_end (I.ok.hd hc) st p.isList (by simp;omega) fun h' eb=>⟨rfl,I.turned (t':=s.toks) (fun b o hb e=>eb b o hb e) f0 f1 f3 f4 f5⟩
 self:=fun _ _ _ _ _ st h=>wpAny_pyIter_listiter st h
theorem zlb {P:Program}{w:World} {K:PySem.W.Frag}{tg:Expr} (a it:Addr):Turn P w K tg (Itt K a) [it] it (fun i h=>h.IsTupleIter it a i) where
 mem:=by simp
 obj:=fun i h st b hb=>by
  have e:b=it:=by simpa using hb
  subst e
  obtain ⟨o,e,c,d⟩:=st
  exact ⟨o,e,fun v z=>by rw [d] at z;cases z⟩
 keep:=fun i h h' st k=>st.at fun o e=>k it (by simp) o e
 item:=by
  intro X hP hw hK hc i pins s σ H E I hf st hg
  subst hP hw hK
  obtain ⟨xs,x,hq,hx⟩:=hg
  obtain ⟨its,rv,p,hz⟩:=I.tuple hq
  obtain ⟨u,hu,ru⟩:=rv.get hx
  obtain ⟨f0,f1,f2,f3,f4,f5⟩:=hf it (by simp)
  refine wpAny_pyNext_tuple_item st (show s.heap.IsTuple a its.toArray from p) (x:=u) (by simpa using hu) fun h' st' sb=>?_
  have I1:Inv X pins σ H { s with heap:=h' }:=I.turned (t':=s.toks) (fun b o hb e=>(sb.2 b hb).trans e) f0 f1 f3 f4 f5
  obtain ⟨o,e,c,d⟩:=id st'
  exact ⟨u,rfl,go_of (s:={ s with heap:=h' }) e c d (by decide) ⟨x,H,I1,ru,⟨rfl,fun ys hy=>by rw [I.tuple_inj hy hq];exact hx⟩,st',fun b hb=>(hf b hb).1⟩⟩
 done:=by
  intro X hP hw hK hc i pins s σ H E I hf st hg
  subst hP hw hK
  obtain ⟨xs,hq,hx⟩:=hg
  obtain ⟨its,rv,p,hz⟩:=I.tuple hq
  obtain ⟨f0,f1,f2,f3,f4,f5⟩:=hf it (by simp)
  have hl:=rv.length
  exact wpAny_pyNext_tuple_end (I.ok.hd hc) st (show s.heap.IsTuple a its.toArray from p) (by simp;omega) fun h' eb=>⟨rfl,I.turned (t':=s.toks) (fun b o hb e=>eb b o hb e) f0 f1 f3 f4 f5⟩
 self:=fun _ _ _ _ _ st h=>wpAny_pyIter_tupleiter st h
theorem zlc {P:Program}{w:World} {K:PySem.W.Frag}{tg:Expr} (it:Addr) (lo:Int) (n:Nat):Turn P w K tg (Itr lo n) [it] it (fun i h=>IsRangeIter h it (lo + (i:Nat) * 1) ((n:Int) - (i:Nat)) 1) where
 mem:=by simp
 obj:=fun i h st b hb=>by
  have e:b=it:=by simpa using hb
  subst e
  exact ⟨_,st,fun v z=>by
   have z':Data.fields _=Data.cell v:=z
   cases z'⟩
 keep:=fun i h h' st k=>k it (by simp) _ st
 item:=by
  intro X hP hw hK hc i pins s σ H E I hf st hg
  subst hP hw hK
  obtain ⟨f0,f1,f2,f3,f4,f5⟩:=hf it (by simp)
  have W:=Walks.range (prog:=X.prog) (w:=X.w) (I.ok.hd hc) it lo 1 n
  refine W.item i s _ _ hg st fun v h' tk hv st' kk=>?_
  obtain ⟨t,rfl⟩:=hv
  have I1:Inv X pins σ H { s with heap:=h',toks:=tk }:=I.turned (fun b o hb e=>kk b o (by simpa using hb) e) f0 f1 f3 f4 f5
  refine ⟨_,rfl,go_of (s:={ s with heap:=h',toks:=tk }) (n := "range_iterator") st' rfl rfl (by decide) ⟨.int (lo + i),H,I1,⟨t,?_⟩,⟨rfl,rfl⟩,st',fun b hb=>(hf b hb).1⟩⟩
  rw [Int.mul_one]
 done:=by
  intro X hP hw hK hc i pins s σ H E I hf st hg
  subst hP hw hK
  obtain ⟨f0,f1,f2,f3,f4,f5⟩:=hf it (by simp)
  exact wpAny_pyNext_range_end (I.ok.hd hc) st (by have:n≤i:=hg;omega) fun h' eb=>⟨rfl,I.turned (t':=s.toks) (fun b o hb e=>eb b o hb e) f0 f1 f3 f4 f5⟩
 self:=fun _ _ _ _ _ st h=>wpAny_pyIter_rangeiter st h
end L2
namespace L2
open PySem PySem.Spec PyProof.Rows
section
variable {X:Cx}{tg:Expr}
noncomputable def iList (K:PySem.W.Frag) (tl:TE):TI:=fun σ H R=>tl σ H fun x H1=>∃ a,x=.ref a∧(∃ xs,SqL K H1 a xs)∧R (Itl K a) H1
noncomputable def iTup (K:PySem.W.Frag) (tl:TE):TI:=fun σ H R=>tl σ H fun x H1=>∃ a,x=.ref a∧(∃ xs,SqT K H1 a xs)∧R (Itt K a) H1
theorem zmo {l:Expr}{tl:TE} (hl:PE X l tl):PI X tg l (iList X.K tl):=by
 intro pins s σ H R I h
 refine thn (hl pins s σ H _ I h) fun v s1 h_=>?_
 obtain ⟨x,H1,I1,r1,q1⟩:=h_
 obtain ⟨a,e,⟨xs,hq⟩,q⟩:=q1
 subst e
 cases r1
 obtain ⟨its,rv,p,hz⟩:=I1.list hq
 refine wpAny_pyIter_list p.isList ?_
 refine ⟨s1.heap.objs.size,[s1.heap.objs.size],_,_,H1,rfl,I1.kept (t':=s1.toks) fun b o e=>Heap.get?_push_of_some _ e,zlS a _,⟨_,Heap.get?_push_size _ rfl,rfl,rfl⟩,fun b hb=>?_,q⟩
 have e:b=s1.heap.objs.size:=by simpa using hb
 subst e
 exact I1.fpOk (Nat.le_refl _) (I1.hok.fresh (Nat.le_refl _))
theorem pi_tup {l:Expr}{tl:TE} (hl:PE X l tl):PI X tg l (iTup X.K tl):=by
 intro pins s σ H R I h
 refine thn (hl pins s σ H _ I h) fun v s1 h_=>?_
 obtain ⟨x,H1,I1,r1,q1⟩:=h_
 obtain ⟨a,e,⟨xs,hq⟩,q⟩:=q1
 subst e
 cases r1
 obtain ⟨its,rv,p,hz⟩:=I1.tuple hq
 refine wpAny_pyIter_tuple (show s1.heap.IsTuple a its.toArray from p) ?_
 refine ⟨s1.heap.objs.size,[s1.heap.objs.size],_,_,H1,rfl,I1.kept (t':=s1.toks) fun b o e=>Heap.get?_push_of_some _ e,zlb a _,⟨_,Heap.get?_push_size _ rfl,rfl,rfl⟩,fun b hb=>?_,q⟩
 have e:b=s1.heap.objs.size:=by simpa using hb
 subst e
 exact I1.fpOk (Nat.le_refl _) (I1.hok.fresh (Nat.le_refl _))
theorem zky {pins:List (Addr×Obj)}{σ:St} {H:Hp}{s:Shared} {R:It→Hp→Prop}{E:Value→Shared→Prop} {lo hi:Int}{t u v:Tok} {tk:Nat}(I:Inv X pins σ H s) (h1:-(2 ^ 62)≤lo) (h2:lo < 2 ^ 62) (h3:-(2 ^ 62)≤hi) (h4:hi < 2 ^ 62)
  (q:R (Itr lo (hi - lo).toNat) H):wpAny (model X.prog X.w) X.A (pyIter (.ref s.heap.objs.size)) (PIE X pins σ tg R) E { s with heap:=s.heap.push { cls:=.type "range",data:=.fields #[.int lo t,.int hi u,.int 1 v] },toks:=tk }:=by
 refine wpAny_pyIter_range (IsRange.new ..) (small_one h1 h2 h3 h4) ?_
 have I1:Inv X pins σ H { s with heap:=s.heap.push { cls:=.type "range",data:=.fields #[.int lo t,.int hi u,.int 1 v] },toks:=tk }:=I.kept fun b o e=>Heap.get?_push_of_some _ e
 refine ⟨(s.heap.push { cls:=.type "range",data:=.fields #[.int lo t,.int hi u,.int 1 v] }).objs.size,[(s.heap.push { cls:=.type "range",data:=.fields #[.int lo t,.int hi u,.int 1 v] }).objs.size],_,_,H,rfl,
  I1.kept (t':=tk) fun b o e=>Heap.get?_push_of_some _ e,zlc _ lo (hi - lo).toNat,?_,fun b hb=>?_,q⟩
 ·have e1:lo + ((0:Nat):Int) * 1=lo:=by simp
  have e2:(((hi - lo).toNat:Nat):Int) - ((0:Nat):Int)=Builtin.Range.rangeSize lo hi 1:=by rw [rangeSize_one];split<;>omega
  show IsRangeIter _ _ (lo + ((0:Nat):Int) * 1) ((((hi - lo).toNat:Nat):Int) - ((0:Nat):Int)) 1
  rw [e1,e2]
  exact Heap.get?_push_size _ rfl
 ·have e:b=(s.heap.push { cls:=.type "range",data:=.fields #[.int lo t,.int hi u,.int 1 v] }).objs.size:=by simpa using hb
  subst e
  exact I1.fpOk (Nat.le_refl _) (I1.hok.fresh (Nat.le_refl _))
noncomputable def iRng1 (ta:TA):TI:=fun σ H R=>ta σ H fun vs H1=>∃ j:Int,vs=[.int j]∧-(2 ^ 62)≤j∧j < 2 ^ 62∧R (Itr 0 j.toNat) H1
noncomputable def iRng2 (ta:TA):TI:=fun σ H R=>ta σ H fun vs H1=>∃ i j:Int,vs=[.int i,.int j]∧(-(2 ^ 62)≤i∧i < 2 ^ 62∧-(2 ^ 62)≤j∧j < 2 ^ 62)∧R (Itr i (j - i).toNat) H1
theorem zmn {a:Expr}{ta:TA} {p pos:Pos}(hg:Gl X "range") (hm:X.mg "range" = none) (ha:PA X [a] ta) (hs:starEach [a] X.env=[(false,eval a X.env)]:=by rfl):PI X tg (.Call (.Name "range" p) [a] [] pos) (iRng1 ta):=by
 intro pins s σ H R I h
 refine Call_ (zem I hg hm boot_range (PyProof.Rows.callWith_type1 (thn (ha pos pins s σ H _ I h) fun us s1 ⟨vs,H1,I1,r1,q1⟩=>?_) hs rfl))
 obtain ⟨j,e,q1,q2,q⟩:=q1
 subst e
 cases r1 with
 | cons r rr=>
  cases rr
  obtain ⟨t,rfl⟩:=r
  exact call_range_1 (zky I1 (by omega) (by omega) q1 q2 (by simpa using q))
theorem zmm {a b:Expr}{ta:TA} {p pos:Pos}(hg:Gl X "range") (hm:X.mg "range" = none) (ha:PA X [a,b] ta) (hs:starEach [a,b] X.env=[(false,eval a X.env),(false,eval b X.env)]:=by rfl) (hs2:starEach [b] X.env=[(false,eval b X.env)]:=by rfl) :
  PI X tg (.Call (.Name "range" p) [a,b] [] pos) (iRng2 ta):=by
 intro pins s σ H R I h
 refine Call_ (zem I hg hm boot_range (PyProof.Rows.callWith_type1 (thn (ha pos pins s σ H _ I h) fun us s1 ⟨vs,H1,I1,r1,q1⟩=>?_) (by rw [hs,hs2]) (by rw [hs2];rfl)))
 obtain ⟨i,j,e,⟨q1,q2,q3,q4⟩,q⟩:=q1
 subst e
 cases r1 with
 | cons r rr=>
  cases rr with
  | cons r' rr=>
   cases rr
   obtain ⟨t,rfl⟩:=r
   obtain ⟨t',rfl⟩:=r'
   exact call_range_2 (zky I1 q1 q2 q3 q4 q)
noncomputable def tFor (wi:TI) (g:TG) (tb:TS):TS:=fun D σ H=>wi σ H fun J H1=>∃ W:Nat→Nat→St→Hp→Prop,(∃ m,W 0 m σ H1)∧∀ i m σ H,W i m σ H→
 (J.stop i H∧D.nx σ H)∨(J.go i H∧∃ N:St→Hp→Prop,(∀ σ' H',N σ' H'→∃ m',m' < m∧W (i + 1) m' σ' H')∧∀ x H',J.yld i H x H'→g x σ H' fun σ2 H2=>tb { D with nx:=N,ct:=N,bk:=D.nx } σ2 H2)
noncomputable def ziW (fp:List Addr) (h:Heap):List (Addr×Obj):=fp.filterMap fun b=>(h.get? b).map fun o=>(b,o)
theorem zcI {fp:List Addr}{h:Heap} {b:Addr}{o:Obj} (hb:b∈fp) (e:h.get? b=some o):(b,o)∈ziW fp h:=List.mem_filterMap.mpr ⟨b,hb,by rw [e];rfl⟩
theorem zmF {fp:List Addr}{h:Heap} {p:Addr×Obj}(hp:p∈ziW fp h):p.1∈fp∧h.get? p.1=some p.2:=by
 obtain ⟨b,hb,e⟩:=List.mem_filterMap.mp hp
 cases q:h.get? b with
 | none=>rw [q] at e;cases e
 | some o=>
  rw [q] at e
  have e':(b,o)=p:=Option.some.inj e
  subst e'
  exact ⟨hb,q⟩
theorem Inv.pinned {pins:List (Addr×Obj)}{σ:St} {H:Hp}{s:Shared} {fp:List Addr}(I:Inv X pins σ H s) (hf:∀ b∈fp,FpOk X pins H b) (ho:∀ b∈fp,∃ o,s.heap.get? b=some o∧∀ v,o.data≠.cell v):Inv X (pins++ziW fp s.heap) σ H s:=
 I.pins_of fun p hp=>(List.mem_append.mp hp).elim (fun z=>I.pin p (List.mem_append_right _ z)) fun z=>by
  obtain ⟨hb,e⟩:=zmF z
  obtain ⟨f0,f1,f2,_⟩:=hf p.1 hb
  obtain ⟨o,e',d⟩:=ho p.1 hb
  rw [e] at e';cases e'
  exact ⟨e,f0,f1,f2,d⟩
theorem Inv.unpinned {pins pl:List (Addr×Obj)}{σ:St} {H:Hp}{s:Shared} (I:Inv X (pins++pl) σ H s):Inv X pins σ H s:=I.pins_of fun p hp=>I.pin p (List.mem_append_right _ (List.mem_append_left _ hp))
theorem ps_for {iter:Expr}{body:List Stmt} {wi:TI}{g:TG} {tb:TS}{pos:Pos} (hp:PassesOwn (model X.prog X.w) X.A X.env X.xe) (hc:X.calm=true) (hi:PI X tg iter wi) (hg:PG X tg g) (hb:PSs X body tb)
  (hs:∀ x,foldedSetIterable iter X.env x=pure x:=by intro _;rfl):PS X (.For tg iter body [] pos) (tFor wi g tb):=by
 intro pins s σ H D I h
 refine wpAny_For (thn (hi pins s σ H _ I h) fun v s1 h1=>thn h1 fun itv s2 h2=>?_) hs
 obtain ⟨it,fp,tn,J,H2,e,I2,T,st2,f2,W,⟨m0,w0⟩,turn⟩:=h2
 subst e
 have stat:∀ {H':Hp},(∀ b∈fp,H' b=none)→∀ b∈fp,FpOk X pins H' b:=fun hn b hb=>⟨hn b hb,(f2 b hb).2⟩
 refine codeAny_forLoop_any (fun n s'=>∃ i σ' H',Inv X pins σ' H' s'∧tn i s'.heap∧(∀ b∈fp,H' b=none)∧W i n σ' H') ?_ m0 ⟨0,σ,H2,I2,st2,fun b hb=>(f2 b hb).1,w0⟩
 rintro n s3 ⟨i,σ3,H3,I3,st3,fr3,w3⟩
 rcases turn i n σ3 H3 w3 with ⟨stop,qn⟩ | ⟨go,N,hN,step⟩
 ·refine wpAny_passesOwn hp (thn (T.done X rfl rfl rfl hc i pins s3 σ3 H3 X.xe I3 (stat fr3) st3 stop) fun r s4 ⟨hr,I4⟩=>?_)
  subst hr
  exact wpAny_execs_nil ⟨σ3,H3,I4,qn⟩
 ·refine wpAny_passesOwn hp (thn (T.item X rfl rfl rfl hc i pins s3 σ3 H3 X.xe I3 (stat fr3) st3 go) fun r s4 ⟨u,hr,h4⟩=>?_)
  subst hr
  refine wpAny_passesOwn hp (thn h4 fun _ s5 ⟨x,H5,I5,r5,y5,st5,fr5⟩=>?_)
  have I5':=I5.pinned (stat fr5) (T.obj _ _ st5)
  refine wpAny_passesOwn hp (thn (hg _ s5 σ3 H5 x u _ I5' r5 (step x H5 y5)) fun _ s6 ⟨σ6,H6,I6,q6⟩=>?_)
  refine wpAny_passesOwn hp (thn (hb _ s6 σ6 H6 _ I6 q6) fun f s7 q7=>?_)
  have again:∀ {σ7:St}{H7:Hp},Inv X (pins++ziW fp s5.heap) σ7 H7 s7→N σ7 H7→∃ m,m < n∧∃ i σ' H',Inv X pins σ' H' s7∧tn i s7.heap∧(∀ b∈fp,H' b=none)∧W i m σ' H':=fun {σ7 H7} I7 n7=>by
   obtain ⟨m',hm,w7⟩:=hN σ7 H7 n7
   refine ⟨m',hm,i + 1,σ7,H7,I7.unpinned,T.keep _ _ _ st5 fun b hb o e=>(I7.pin (b,o) (List.mem_append_right _ (List.mem_append_right _ (zcI hb e)))).1,fun b hb=>?_,w7⟩
   obtain ⟨o,e,d⟩:=T.obj _ _ st5 b hb
   exact (I7.pin (b,o) (List.mem_append_right _ (List.mem_append_right _ (zcI hb e)))).2.1
  cases f with
  | next=>obtain ⟨σ7,H7,I7,n7⟩:=q7;exact again I7 n7
  | cont=>obtain ⟨σ7,H7,I7,n7⟩:=q7;exact again I7 n7
  | brk=>obtain ⟨σ7,H7,I7,q7⟩:=q7;exact ⟨σ7,H7,I7.unpinned,q7⟩
  | ret v=>obtain ⟨x7,σ7,H7,I7,r7,q7⟩:=q7;exact ⟨x7,σ7,H7,I7.unpinned,r7,q7⟩
end
end L2
namespace L2
open PySem PySem.Spec PyProof.Rows
noncomputable abbrev R2:=V→V→Hp→VK→Prop
noncomputable def OpR (X:Cx) (f:Value→Value→Sem Value) (r:R2):Prop:=
 ∀ (pins:List (Addr×Obj)) (s:Shared) (σ:St) (H:Hp) (x y:V) (v u:Value) (Q:VK),Inv X pins σ H s→RelV x v→RelV y u→r x y H Q→
  wpAny (model X.prog X.w) X.A (f v u) (EP X pins σ Q) X.xe s
noncomputable def UnR (X:Cx) (f:Value→Sem Value) (r:V→Hp→VK→Prop):Prop:=
 ∀ (pins:List (Addr×Obj)) (s:Shared) (σ:St) (H:Hp) (x:V) (v:Value) (Q:VK),Inv X pins σ H s→RelV x v→r x H Q→
  wpAny (model X.prog X.w) X.A (f v) (EP X pins σ Q) X.xe s
noncomputable def zeE (X:Cx) (f:Value) (r:List V→Hp→VK→Prop):Prop:=
 ∀ (pins:List (Addr×Obj)) (s:Shared) (σ:St) (H:Hp) (xs:List V) (us:List Value) (Q:VK),Inv X pins σ H s→Vals xs us→r xs H Q→
  wpAny (model X.prog X.w) X.A (call f us) (EP X pins σ Q) X.xe s
noncomputable def TruR (X:Cx) (r:V→Hp→(Bool→Hp→Prop)→Prop):Prop:=
 ∀ (pins:List (Addr×Obj)) (s:Shared) (σ:St) (H:Hp) (x:V) (v:Value) (Q:Bool→Hp→Prop),Inv X pins σ H s→RelV x v→r x H Q→
  wpAny (model X.prog X.w) X.A (truthy v) (TP X pins σ Q) X.xe s
noncomputable def tOp (r:R2) (ta tb:TE):TE:=fun σ H Q=>ta σ H fun x H1=>tb σ H1 fun y H2=>r x y H2 Q
noncomputable def tUn (r:V→Hp→VK→Prop) (ta:TE):TE:=fun σ H Q=>ta σ H fun x H1=>r x H1 Q
noncomputable def rI (C:Int→Int→Prop) (g:Int→Int→V):R2:=fun x y H Q=>∃ i j,x=.int i∧y=.int j∧C i j∧Q (g i j) H
noncomputable def rI0 (g:Int→Int→V):R2:=fun x y H Q=>∃ i j,x=.int i∧y=.int j∧Q (g i j) H
noncomputable def rU (g:Int→V):V→Hp→VK→Prop:=fun x H Q=>∃ i,x=.int i∧Q (g i) H
section
variable {X:Cx}{a b c:Expr} {ta tb tc:TE}{pos:Pos}
theorem binT (ha:PE X a ta) (hb:PE X b tb) {pins:List (Addr×Obj)}{s:Shared} {σ:St}{H:Hp} {R:V→V→Hp→Prop}(I:Inv X pins σ H s)
  (h:ta σ H fun x H1=>tb σ H1 fun y H2=>R x y H2) {Q:Value→Shared→Prop}{f:Value→Value→Sem Value}
  (hf:∀ v u s2 x y H2,Inv X pins σ H2 s2→RelV x v→RelV y u→R x y H2→wpAny (model X.prog X.w) X.A (f v u) Q X.xe s2) :
  wpAny (model X.prog X.w) X.A (eval a X.env) (fun v s₁=>wpAny (model X.prog X.w) X.A (eval b X.env) (fun u s₂=>wpAny (model X.prog X.w) X.A (f v u) Q X.xe s₂) X.xe s₁) X.xe s:=by
 refine thn (ha pins s σ H _ I h) fun v s1 h_=>?_
 obtain ⟨x,H1,I1,r1,q1⟩:=h_
 refine thn (hb pins s1 σ H1 _ I1 q1) fun u s2 h_=>?_
 obtain ⟨y,H2,I2,r2,q2⟩:=h_
 exact hf v u s2 x y H2 I2 r1 r2 q2
theorem pe_op {op:Operator}{r:R2} (ho:OpR X (binaryOp op) r) (ha:PE X a ta) (hb:PE X b tb):PE X (.BinOp a op b pos) (tOp r ta tb):=by
 intro pins s σ H Q I h
 exact wpAny_BinOp (binT ha hb I h fun v u s2 x y H2 I2 rx ry q=>ho pins s2 σ H2 x y v u Q I2 rx ry q)
theorem pe_un {op:UnaryOp}{r:V→Hp→VK→Prop} (ho:UnR X (unaryOp op) r) (ha:PE X a ta):PE X (.UnaryOp op a pos) (tUn r ta):=by
 intro pins s σ H Q I h
 exact UnaryOp_ (thn (ha pins s σ H _ I h) fun v s1 ⟨x,H1,I1,r1,q1⟩=>ho pins s1 σ H1 x v Q I1 r1 q1)
theorem opI {f:Value→Value→Sem Value}{C:Int→Int→Prop} {g:Int→Int→Int}
  (rule:∀ (i j:Int) (t u:Tok) (s:Shared) (Q:Value→Shared→Prop) (E:Value→Shared→Prop),C i j→Q (.int (g i j) s.toks) { s with toks:=s.toks + 1 }→wpAny (model X.prog X.w) X.A (f (.int i t) (.int j u)) Q E s) :
  OpR X f (rI C fun i j=>.int (g i j)):=by
 intro pins s σ H x y v u Q I rx ry h
 obtain ⟨i,j,rfl,rfl,hc,q⟩:=h
 obtain ⟨t,rfl⟩:=rx
 obtain ⟨t',rfl⟩:=ry
 exact rule i j t t' s _ _ hc ⟨.int (g i j),H,I.tok _,⟨_,rfl⟩,q⟩
theorem opI0 {f:Value→Value→Sem Value}{g:Int→Int→Int}
  (rule:∀ (i j:Int) (t u:Tok) (s:Shared) (Q:Value→Shared→Prop) (E:Value→Shared→Prop),Q (.int (g i j) s.toks) { s with toks:=s.toks + 1 }→wpAny (model X.prog X.w) X.A (f (.int i t) (.int j u)) Q E s) :
  OpR X f (rI0 fun i j=>.int (g i j)):=by
 intro pins s σ H x y v u Q I rx ry h
 obtain ⟨i,j,rfl,rfl,q⟩:=h
 obtain ⟨t,rfl⟩:=rx
 obtain ⟨t',rfl⟩:=ry
 exact rule i j t t' s _ _ ⟨.int (g i j),H,I.tok _,⟨_,rfl⟩,q⟩
theorem opB0 {f:Value→Value→Sem Value}{g:Int→Int→Bool}
  (rule:∀ (i j:Int) (t u:Tok) (s:Shared) (Q:Value→Shared→Prop) (E:Value→Shared→Prop),Q (.bool (g i j)) s→wpAny (model X.prog X.w) X.A (f (.int i t) (.int j u)) Q E s) :
  OpR X f (rI0 fun i j=>.bl (g i j)):=by
 intro pins s σ H x y v u Q I rx ry h
 obtain ⟨i,j,rfl,rfl,q⟩:=h
 obtain ⟨t,rfl⟩:=rx
 obtain ⟨t',rfl⟩:=ry
 exact rule i j t t' s _ _ ⟨.bl (g i j),H,I,rfl,q⟩
noncomputable def CDiv (i j:Int):Prop:=0 < j∧j < 1073741824
noncomputable def CPow (i j:Int):Prop:=0≤j∧j≤1000000∧i.natAbs < 2 ^ 64
noncomputable def CMul (i j:Int):Prop:=(-(2 ^ 64) < i∧i < 2 ^ 64)∨(-(2 ^ 64) < j∧j < 2 ^ 64)
theorem CMul.ok {i j:Int}(h:CMul i j):IntMulOk i j:=by
 rcases h with ⟨h1,h2⟩ | ⟨h1,h2⟩
 ·exact .of_left (intBits_le_64 h1 h2)
 ·exact .of_right (intBits_le_64 h1 h2)
theorem op_add:OpR X (binaryOp .Add) (rI0 fun i j=>.int (i + j)):=opI0 fun _ _ _ _ _ _ _ q=>add_int q
theorem op_sub:OpR X (binaryOp .Sub) (rI0 fun i j=>.int (i - j)):=opI0 fun _ _ _ _ _ _ _ q=>sub_int q
theorem op_mul:OpR X (binaryOp .Mult) (rI CMul fun i j=>.int (i * j)):=opI fun _ _ _ _ _ _ _ hc q=>mul_int q hc.ok
theorem op_fdiv:OpR X (binaryOp .FloorDiv) (rI CDiv fun i j=>.int (i / j)):=opI fun i j _ _ _ _ _ hc q=>by
 have h1:(0:Int) < j:=hc.1
 have h2:j < 1073741824:=hc.2
 exact floordiv_int (by omega) (by rw [Int.fdiv_eq_ediv_of_nonneg i (by omega)];exact q) (.inl (PyProof.noPylong_small (by omega)))
theorem op_mod:OpR X (binaryOp .Mod) (rI (fun _ j=>0 < j) fun i j=>.int (i % j)):=opI fun i j _ _ _ _ _ hc q=>by
 have h1:(0:Int) < j:=hc
 exact mod_int' (by omega) (by rw [Int.fmod_eq_emod_of_nonneg i (by omega)];exact q)
theorem op_pow:OpR X (binaryOp .Pow) (rI CPow fun i j=>.int (i ^ j.toNat)):=opI fun _ _ _ _ _ _ _ hc q=>pow_int_small hc.1 hc.2.1 hc.2.2 q
theorem unI {f:Value→Sem Value}{g:Int→Int}
  (rule:∀ (i:Int) (t:Tok) (s:Shared) (Q:Value→Shared→Prop) (E:Value→Shared→Prop),Q (.int (g i) s.toks) { s with toks:=s.toks + 1 }→wpAny (model X.prog X.w) X.A (f (.int i t)) Q E s) :
  UnR X f (rU fun i=>.int (g i)):=by
 intro pins s σ H x v Q I rx h
 obtain ⟨i,rfl,q⟩:=h
 obtain ⟨t,rfl⟩:=rx
 exact rule i t s _ _ ⟨.int (g i),H,I.tok _,⟨_,rfl⟩,q⟩
theorem un_neg:UnR X (unaryOp .USub) (rU fun i=>.int (-i)):=unI fun _ _ _ _ _ q=>neg_int q
end
section
variable {X:Cx}{a b c:Expr} {ta tb tc:TE}{pos:Pos}
theorem fin_bl {pins:List (Addr×Obj)}{σ:St} {H:Hp}{s:Shared} {Q:VK}{k k':Bool} (I:Inv X pins σ H s) (q:Q (.bl k) H) (e:k=k'):EP X pins σ Q (.bool k') s:=by
 subst e
 exact ⟨.bl k,H,I,rfl,q⟩
theorem op_lt:OpR X (compareOp .Lt) (rI0 fun i j=>.bl (decide (i < j))):=opB0 fun _ _ _ _ _ _ _ q=>lt_int q
theorem op_le:OpR X (compareOp .LtE) (rI0 fun i j=>.bl (decide (i≤j))):=opB0 fun _ _ _ _ _ _ _ q=>le_int q
theorem op_gt:OpR X (compareOp .Gt) (rI0 fun i j=>.bl (decide (j < i))):=opB0 fun _ _ _ _ _ _ _ q=>gt_int q
theorem op_ge:OpR X (compareOp .GtE) (rI0 fun i j=>.bl (decide (j≤i))):=opB0 fun _ _ _ _ _ _ _ q=>ge_int q
theorem op_isN:OpR X (compareOp .Is) (fun x y H Q=>y=.non∧Q (.bl (decide (x=.non))) H):=by
 intro pins s σ H x y v u Q I rx ry h
 obtain ⟨rfl,q⟩:=h
 cases ry
 refine is_none_gen (fin_bl I q ?_)
 cases x<;>first
  | (cases rx;rfl)
  | (obtain ⟨t,rfl⟩:=rx;rfl)
theorem op_notN:OpR X (compareOp .IsNot) (fun x y H Q=>y=.non∧Q (.bl (!decide (x=.non))) H):=by
 intro pins s σ H x y v u Q I rx ry h
 obtain ⟨rfl,q⟩:=h
 cases ry
 refine isnot_none_gen (fin_bl I q ?_)
 cases x<;>first
  | (cases rx;rfl)
  | (obtain ⟨t,rfl⟩:=rx;rfl)
theorem OpR.or {f:Value→Value→Sem Value}{r r':R2} (h:OpR X f r) (h':OpR X f r'):OpR X f (fun x y H Q=>r x y H Q∨r' x y H Q):=by
 intro pins s σ H x y v u Q I rx ry q
 rcases q with q | q
 ·exact h pins s σ H x y v u Q I rx ry q
 ·exact h' pins s σ H x y v u Q I rx ry q
theorem zbb (b:Expr) {op:CmpOp}(h:op≠.In:=by decide) (h2:op≠.NotIn:=by decide):behindInMarks op b=false:=by
 have e1:(op == CmpOp.In)=false:=by cases op<;>first | rfl | exact absurd rfl h
 have e2:(op == CmpOp.NotIn)=false:=by cases op<;>first | rfl | exact absurd rfl h2
 cases b<;>simp [behindInMarks,e1,e2]
theorem zms {op:CmpOp}{r:R2} (ho:OpR X (compareOp op) r) (ha:PE X a ta) (hb:PE X b tb) (hm:behindInMarks op b=false):PE X (.Compare a [op] [b] pos) (tOp r ta tb):=by
 intro pins s σ H Q I h
 exact wpAny_Compare1 (binT ha hb I h fun v u s2 x y H2 I2 rx ry q=>ho pins s2 σ H2 x y v u Q I2 rx ry q) hm
noncomputable def tTest (t:TE):TT:=fun σ H Q=>t σ H fun x H'=>∃ k,x=.bl k∧Q k H'
theorem zjO {op:CmpOp}{r:R2} (ho:OpR X (compareOp op) r) (ha:PE X a ta) (hb:PE X b tb) (hm:behindInMarks op b=false):PT X (.Compare a [op] [b] pos) (tTest (tOp r ta tb)):=by
 intro pins s σ H Q I h
 refine wpAny_isTrue_Compare1 (thn (ha pins s σ H _ I h) fun v s1 ⟨x,H1,I1,r1,q1⟩=>thn (hb pins s1 σ H1 _ I1 q1) fun u s2 ⟨y,H2,I2,r2,q2⟩=>
  thn (ho pins s2 σ H2 x y v u _ I2 r1 r2 q2) fun c s3 ⟨z,H3,I3,r3,k,e,q3⟩=>?_) hm
 subst e
 cases r3
 exact wpAny_truthy_bool ⟨H3,I3,q3⟩
noncomputable def TruV (K:PySem.W.Frag) (x:V) (H:Hp) (k:Bool):Prop:=
 match x with
 | .non=>k=false
 | .bl b=>k=b
 | .int i=>k=(i != 0)
 | .str y=>y.length≤sizeLine∧k=((y.length:Int) != 0)
 | .byt y=>y.size≤sizeLine∧k=((y.size:Int) != 0)
 | .ref p=>(∃ xs,SqL K H p xs∧k=!xs.isEmpty)∨(∃ xs,SqT K H p xs∧k=!xs.isEmpty)∨∃ kvs,H p=some (.dK kvs)∧k=!kvs.isEmpty
 | _=>False
theorem zlw {κ:Type}{kvs:List (κ×V)} {vs:List (κ×Value)}(r:KV kvs vs):(!vs.isEmpty)=!kvs.isEmpty:=by
 cases r<;>rfl
theorem zhK {xs:List V}{its:List Value} (r:Vals xs its):(!its.toArray.isEmpty)=!xs.isEmpty:=by
 cases r<;>simp
theorem zgI:(sizeLine:Nat) < 2 ^ 63:=by rw [sizeLine_eq];decide
theorem tru_ok:TruR X (fun x H Q=>∃ k,TruV X.K x H k∧Q k H):=by
 intro pins s σ H x v Q I rx h
 obtain ⟨k,e,q⟩:=h
 have hl:=zgI
 have hs:sizeLine=16777216:=sizeLine_eq
 cases x with
 | non=>
  cases rx
  have e':k=false:=e
  subst e'
  exact truthy_none ⟨H,I,q⟩
 | bl b=>
  cases rx
  have e':k=b:=e
  subst e'
  exact wpAny_truthy_bool ⟨H,I,q⟩
 | int i=>
  obtain ⟨t,rfl⟩:=rx
  have e':k=(i != 0):=e
  subst e'
  exact PySem.P.truthy_int ⟨H,I,q⟩
 | str y=>
  obtain ⟨t,rfl⟩:=rx
  obtain ⟨hy,e'⟩:y.length≤sizeLine∧k=((y.length:Int) != 0):=e
  subst e'
  exact PySem.P.truthy_str (by omega) ⟨H,I.tok _,q⟩
 | byt y=>
  obtain ⟨t,rfl⟩:=rx
  obtain ⟨hy,e'⟩:y.size≤sizeLine∧k=((y.size:Int) != 0):=e
  subst e'
  exact PySem.W.truthy_bytes (by omega) ⟨H,I.tok _,q⟩
 | ref p=>
  cases rx
  have e':(∃ xs,SqL X.K H p xs∧k=!xs.isEmpty)∨(∃ xs,SqT X.K H p xs∧k=!xs.isEmpty)∨∃ kvs,H p=some (.dK kvs)∧k=!kvs.isEmpty:=e
  rcases e' with ⟨xs,hx,e'⟩ | ⟨xs,hx,e'⟩ | ⟨kvs,hx,e'⟩
  ·subst e'
   obtain ⟨its,r,pl,hz⟩:=I.list hx
   have hlen:=r.length
   exact wpAny_truthy_list pl.isList (by simp only [List.size_toArray];omega) ⟨H,I.tok _,by rw [zhK r];exact q⟩
  ·subst e'
   obtain ⟨its,r,pl,hz⟩:=I.tuple hx
   have hlen:=r.length
   exact truthy_tuple pl (by simp only [List.size_toArray];omega) ⟨H,I.tok _,by rw [zhK r];exact q⟩
  ·subst e'
   obtain ⟨hz,hS,vs,r,m⟩:kvs.length≤sizeLine∧(p == sysModules)=false∧∃ vs,KV kvs vs∧s.heap.DictOf (zbE X.prog X.w) p vs:=I.hok p _ hx
   have hlen:kvs.length=vs.length:=Paired.length r
   exact wpAny_truthy_dict hS m (by omega) ⟨H,I.tok _,by rw [zlw r];exact q⟩
 | _=>exact (show False from e).elim
theorem pt_truth (ha:PE X a ta) (he:∀ whole,isTrue a X.env whole=(do let v ← whole;standAt a.pos;holding [v] (truthy v))) :
  PT X a (fun σ H Q=>ta σ H fun x H'=>∃ k,TruV X.K x H' k∧Q k H'):=by
 intro pins s σ H Q I h
 exact isTrue_plain (thn (ha pins s σ H _ I h) fun v s1 ⟨x,H1,I1,r1,q1⟩=>tru_ok pins s1 σ H1 x v Q I1 r1 q1) (he _)
theorem zlm:OpR X (binaryOp .Add) (fun x y H Q=>∃ i j,x=.str i∧y=.str j∧i.length + j.length≤sizeLine∧Q (.str (i++j)) H):=by
 intro pins s σ H x y v u Q I rx ry h
 obtain ⟨i,j,rfl,rfl,hz,q⟩:=h
 obtain ⟨t,rfl⟩:=rx
 obtain ⟨t',rfl⟩:=ry
 exact add_str (fun t' tk=>⟨.str (i++j),H,I.tok _,⟨_,rfl⟩,q⟩) hz
theorem zeN {x:V}{us:List Value} (r:Vals [x] us):∃ u,us=[u]∧RelV x u:=by
 cases r with
 | cons r1 r2=>cases r2;exact ⟨_,rfl,r1⟩
theorem vals2 {x y:V}{us:List Value} (r:Vals [x,y] us):∃ u w',us=[u,w']∧RelV x u∧RelV y w':=by
 cases r with
 | cons r1 r2=>
  cases r2 with
  | cons r3 r4=>cases r4;exact ⟨_,_,rfl,r1,r3⟩
theorem call_abs:zeE X (.builtin "abs") (fun xs H Q=>∃ i,xs=[.int i]∧Q (.int (if i < 0 then -i else i)) H):=by
 intro pins s σ H xs us Q I r h
 obtain ⟨i,rfl,q⟩:=h
 obtain ⟨u,rfl,t,rfl⟩:=zeN r
 exact call_abs_int fun u tk=>⟨.int (if i < 0 then -i else i),H,I.tok _,⟨_,rfl⟩,q⟩
theorem znu:zeE X (.type "int") (fun xs H Q=>(∃ i,xs=[.int i]∧Q (.int i) H)∨∃ k,xs=[.bl k]∧Q (.int (if k then 1 else 0)) H):=by
 intro pins s σ H xs us Q I r h
 rcases h with ⟨i,rfl,q⟩ | ⟨k,rfl,q⟩
 ·obtain ⟨u,rfl,t,rfl⟩:=zeN r
  exact call_int_int ⟨.int i,H,I,⟨_,rfl⟩,q⟩
 ·obtain ⟨u,rfl,r1⟩:=zeN r
  cases r1
  exact call_int_bool ⟨.int (if k then 1 else 0),H,I.tok _,⟨_,rfl⟩,q⟩
end
end L2
namespace L2
open PySem PySem.Spec PyProof.Rows
structure ObjM (h:Heap) (x dx C:Addr) (mA:Str→Option Value):Prop where
 obj:h.get? x=some (PySem.W.instObj C dx)
 ns:h.Ns1 dx mA
 ne:dx≠x
theorem zmN {h:Heap}{dx:Addr} {mA:Str→Option Value}(n:h.Ns1 dx mA):∃ od,h.get? dx=some od∧∀ name,PySem.W.lookIn name od=some (mA name):=by
 obtain ⟨o,es,ep,ho,hd,hk,_,hm⟩:=n
 refine ⟨o,ho,fun name=>?_⟩
 have e:=hm name
 unfold nsFind findBy at e
 rw [← Array.find?_toList] at e
 unfold PySem.W.lookIn
 rw [hd]
 dsimp only
 split
 ·rename_i y q
  rw [q] at e
  exact congrArg some e
 ·rename_i q
  rw [q] at e
  have a:es.toList.any (·.refKey)=false:=by
   rw [List.any_eq_false]
   intro y hy
   obtain ⟨z,t,hkey⟩:=hk y (Array.mem_toList_iff.mp hy)
   simp [DictEntry.refKey,hkey]
  have a':¬ es.toList.any (·.refKey)=true:=by rw [a];exact Bool.false_ne_true
  rw [if_neg a']
  exact congrArg some e
theorem ObjM.look {h:Heap}{x dx C:Addr} {mA:Str→Option Value}(I:ObjM h x dx C mA):∃ od,PySem.W.InstAt h x (PySem.W.instObj C dx) C (some od)∧∀ name,PySem.W.lookIn name od=some (mA name):=
 let ⟨od,ho,hl⟩:=zmN I.ns
 ⟨od,⟨I.obj,rfl,rfl,ho⟩,hl⟩
section
variable {prog:Program}{w:World} {A:Around}{E:Value→Shared→Prop} {s:Shared}{K:PySem.W.Frag} {x dx C f:Addr}{mA:Str→Option Value} {name:Str}{v:Value}
end
theorem RelO.some_of {v:V}{o:Option Value} (r:RelO (some v) o):∃ u,o=some u∧RelV v u:=by
 cases o with
 | none=>exact (show False from r).elim
 | some u=>exact ⟨u,rfl,r⟩
section
variable {P:Program}{w:World} {H H':Hp}{h h':Heap} {a C dx:Addr}{fs fs':List (Str×V)}
theorem ins_get (hok:HOk P w H h) (e:H a=some (.ins C dx fs)):∃ mA,ObjM h a dx C mA∧(∀ f,RelO (fs.lookup f) (mA f))∧PySem.Within mA (fs.map (·.1))∧fs.length≤1000∧H dx=some (.own a):=by
 obtain ⟨d,z,ne,ob,mA,n,r,q⟩:=(show zcg P w H h a (.ins C dx fs) from hok a _ e)
 exact ⟨mA,⟨ob,n,ne⟩,r,q,z,d⟩
end
structure Cls (K:PySem.W.Frag) (C:Addr):Prop where
 pg:PySem.W.plainGet K C Str.empty=true
 hd:PySem.W.hasDictIn K C=true
 po:PySem.W.plainOver K C=true
 sa:PySem.W.findIn K (.ref C) "__setattr__" = some (some (.builtin "object.__setattr__"))
theorem Cls.get {K:PySem.W.Frag}{C:Addr} (c:Cls K C) (f:Str):PySem.W.plainGet K C f=true:=c.pg
section
variable {X:Cx}{pins:List (Addr×Obj)} {σ:St}{H:Hp} {s:Shared}{a C dx:Addr} {fs:List (Str×V)}{f:Str} {v:V}{A:Around} {E:Value→Shared→Prop}
end
section
variable {X:Cx}{o e value:Expr} {f:Str}{pos pos' tpos:Pos} {ta tv:TE}
end
section
variable {X:Cx}{pins:List (Addr×Obj)} {σ:St}{H:Hp} {s:Shared}{A:Around} {E:Value→Shared→Prop}{Q:Value→Shared→Prop} {c:Value}{b:Bool}
inductive TyOf (K:PySem.W.Frag) (H:Hp):V→Value→Prop where
 | non:TyOf K H .non (.type "NoneType")
 | bl (x:Bool):TyOf K H (.bl x) (.type "bool")
 | int (i:Int):TyOf K H (.int i) (.type "int")
 | str (x:Str):TyOf K H (.str x) (.type "str")
 | flt (x:UInt64):TyOf K H (.flt x) (.type "float")
 | lst {a:Addr}{xs:List V} (e:H a=some (.lst xs)):TyOf K H (.ref a) (.type "list")
 | frz {a:Addr}{o:Obj} {xs:List V}(e:H a=some (.frz o (.lst xs))):TyOf K H (.ref a) (.type "list")
 | tup {a:Addr}{xs:List V} (e:H a=some (.tup xs)):TyOf K H (.ref a) (.type "tuple")
 | dK {a:Addr}{kvs:List (Key×V)} (e:Rd H a (.dK kvs)):TyOf K H (.ref a) (.type "dict")
 | dT {a:Addr}{kvs:List (List Key×V)} (e:Rd H a (.dT kvs)):TyOf K H (.ref a) (.type "dict")
 | ins {a C dx:Addr}{fs:List (Str×V)} (e:H a=some (.ins C dx fs)) (cl:Cls K C) (ha:PySem.W.findIn K (.ref C) "__class__" = some (some (.builtin "object.__class__")))
   (hn:PySem.W.specialIn K (.builtin "object.__class__") "__get__" = some (some (.builtin "getset_descriptor.__get__"))) (htk:PySem.W.takesIn K (.builtin "object.__class__")=some true)
   (hm:PySem.W.mroIn K C (.type "object")=some true):TyOf K H (.ref a) (.ref C)
theorem zmS {x:V}{u t:Value} (I:Inv X pins σ H s) (rx:RelV x u) (ty:TyOf X.K H x t) (e:PySem.W.kitOne X.K t c=some b) (h:∀ tk,Q (.bool b) { s with toks:=tk }) :
  wpAny (model X.prog X.w) A (call (.builtin "isinstance") [u,c]) Q E s:=by
 cases ty with
 | non=>cases (show u=Value.none from rx);exact PySem.W.kia_one PySem.W.kitx_none I.kIn True.intro e (fun z=>nomatch z) h
 | bl y=>cases (show u=Value.bool y from rx);exact PySem.W.kia_one PySem.W.kitx_bool I.kIn True.intro e (fun z=>nomatch z) h
 | int i=>obtain ⟨t,q⟩:=(show ∃ t,u=Value.int i t from rx);cases q;exact PySem.W.kia_one PySem.W.kitx_int I.kIn True.intro e (fun z=>nomatch z) h
 | str y=>obtain ⟨t,q⟩:=(show ∃ t,u=Value.str y t from rx);cases q;exact PySem.W.kia_one PySem.W.kitx_str I.kIn True.intro e (fun z=>nomatch z) h
 | flt y=>obtain ⟨t,q⟩:=(show ∃ t,u=Value.float y t from rx);cases q;exact PySem.W.kia_one PySem.W.kitx_float I.kIn True.intro e (fun z=>nomatch z) h
 | @lst a xs ea=>
  cases (show u=Value.ref a from rx)
  obtain ⟨_,_,n,_,h1⟩:=(show zcg X.prog X.w H s.heap a (.lst xs) from I.hok a _ ea)
  exact PySem.W.kia_one PySem.W.kitx_list I.kIn ⟨_,h1,rfl⟩ e (fun z=>nomatch z) h
 | @frz a ob xs ea=>
  cases (show u=Value.ref a from rx)
  obtain ⟨_,_,_,n,_,h1⟩:=(show zcg X.prog X.w H s.heap a (.frz ob (.lst xs)) from I.hok a _ ea)
  exact PySem.W.kia_one PySem.W.kitx_list I.kIn ⟨_,h1,rfl⟩ e (fun z=>nomatch z) h
 | @tup a xs ea=>
  cases (show u=Value.ref a from rx)
  obtain ⟨_,_,_,p⟩:=(show zcg X.prog X.w H s.heap a (.tup xs) from I.hok a _ ea)
  obtain ⟨o,h1,h2,_⟩:=p
  exact PySem.W.kia_one PySem.W.kitx_tuple I.kIn ⟨o,h1,h2⟩ e (fun z=>nomatch z) h
 | @dK a kvs ea=>
  cases (show u=Value.ref a from rx)
  obtain ⟨_,_,vs,_,p⟩:=(show zcg X.prog X.w H s.heap a (.dK kvs) from ea.ok I.hok)
  obtain ⟨o,es,ep,h1,h2,_⟩:=p
  exact PySem.W.kia_one PySem.W.kitx_dict I.kIn ⟨o,h1,h2.1⟩ e (fun z=>nomatch z) h
 | @dT a kvs ea=>
  cases (show u=Value.ref a from rx)
  obtain ⟨_,_,xs,_,o,es,ep,h1,h2,_⟩:=(show zcg X.prog X.w H s.heap a (.dT kvs) from ea.ok I.hok)
  exact PySem.W.kia_one PySem.W.kitx_dict I.kIn ⟨o,h1,h2.1⟩ e (fun z=>nomatch z) h
 | @ins a C dx fs ea cl ha hn htk hm=>
  cases (show u=Value.ref a from rx)
  obtain ⟨mA,O,_⟩:=ins_get I.hok ea
  obtain ⟨od,J,_⟩:=O.look
  exact PySem.W.kia_one (PySem.W.kitx_own (cl.get _) cl.hd ha hn htk hm) I.kIn J e (fun z=>nomatch z) h
end
end L2
namespace L2
open PySem PySem.Spec PyProof.Rows
structure Room (k:Nat) (A:Around):Prop where
 hd:A.handled=none
 dp:A.depth + 3 * k + 5 < recursionLimit
 un:A.units + 16 * k + 200 < cLine
theorem Room.mono {j k:Nat}{A:Around} (r:Room k A) (h:j≤k):Room j A:=⟨r.hd,by have:=r.dp;omega,by have:=r.un;omega⟩
theorem Room.deeper {k:Nat}{A:Around} (r:Room (k + 1) A) (env:Env):Room k (A.deeper env):=
 ⟨r.hd,by have:=r.dp;show A.depth + 1 + 3 * k + 5 < _;omega,by have:=r.un;show A.units + 3 + 16 * k + 200 < _;omega⟩
theorem Room.in1 {k:Nat}{A:Around} (r:Room (k + 1) A):Room k A.in1:=
 ⟨r.hd,by have:=r.dp;show A.depth + 3 * k + 5 < _;omega,by have:=r.un;show A.units + 1 + 16 * k + 200 < _;omega⟩
theorem Room.depth {k:Nat}{A:Around} (r:Room k A):A.depth < recursionLimit:=by have:=r.dp;omega
noncomputable def tNil:TA:=fun _ H Q=>Q [] H
noncomputable def tCons (ta:TE) (tr:TA):TA:=fun σ H Q=>ta σ H fun x H1=>tr σ H1 fun xs H2=>Q (x::xs) H2
section
variable {X:Cx}{e:Expr} {es:List Expr}{te:TE} {t:TA}{pos:Pos}
theorem zcM:PA X [] tNil:=fun _ _ _ _ H Q I h=>Calls.spliced_nil ⟨[],H,I,.nil,h⟩
theorem zbk (ha:PE X e te) (hr:PA X es t) (hs:starEach (e::es) X.env=(false,eval e X.env)::starEach es X.env:=by rfl):PA X (e::es) (tCons te t):=by
 intro pos pins s σ H Q I h
 rw [hs]
 show wpAny _ _ (spliced ((false,eval e X.env)::backTo pos (starEach es X.env))) _ _ s
 refine Calls.spliced_cons (thn (ha pins s σ H _ I h) fun u s1 ⟨x,H1,I1,r1,q1⟩=>?_)
 exact thn (hr pos pins s1 σ H1 _ I1 q1) fun us s2 ⟨xs,H2,I2,r2,q2⟩=>⟨x::xs,H2,I2,.cons r1 r2,q2⟩
noncomputable def tTup (t:TA):TE:=fun σ H Q=>t σ H fun xs H1=>xs.length≤sizeLine∧∀ p,H1 p=none→Q (.ref p) (upd H1 p (.tup xs))
noncomputable def tLst (t:TA):TE:=fun σ H Q=>t σ H fun xs H1=>xs.length≤sizeLine∧∀ p,H1 p=none→Q (.ref p) (upd H1 p (.lst xs))
theorem pe_tup {x1} (h:PA X es t):PE X (.Tuple es x1 pos) (tTup t):=by
 intro pins s σ H Q I hq
 refine wpAny_Tuple_spliced (thn (h pos pins s σ H _ I hq) fun us s1 ⟨xs,H1,I1,r,z,q⟩=>⟨by rw [← r.length];exact z,?_⟩)
 have hf:H1 s1.heap.objs.size=none:=I1.hok.fresh (Nat.le_refl _)
 refine ⟨.ref s1.heap.objs.size,upd H1 s1.heap.objs.size (.tup xs),I1.laid (t':=s1.toks) (fun b u e=>Heap.get?_push_of_some _ e) (Nat.le_refl _) ?_,rfl,q _ hf⟩
 exact ⟨z,us,r,⟨_,Heap.get?_push_size _ rfl,rfl,_,rfl⟩⟩
theorem pe_lst (h:PA X es t):PE X (.List es pos) (tLst t):=by
 intro pins s σ H Q I hq
 refine wpAny_List_spliced (thn (h pos pins s σ H _ I hq) fun us s1 ⟨xs,H1,I1,r,z,q⟩=>⟨by rw [← r.length];exact z,?_⟩)
 have hf:H1 s1.heap.objs.size=none:=I1.hok.fresh (Nat.le_refl _)
 refine ⟨.ref s1.heap.objs.size,upd H1 s1.heap.objs.size (.lst xs),I1.laid (t':=s1.toks) (fun b u e=>Heap.get?_push_of_some _ e) (Nat.le_refl _) ?_,rfl,q _ hf⟩
 exact ⟨z,us,0,r,Heap.get?_push_size _ rfl⟩
end
noncomputable abbrev Sp:=List V→Hp→VK→XK→Prop
noncomputable abbrev CXT:=List Env→Hp→Shared→XK→Value→Shared→Prop
structure Env0 (P:Program) (w:World) (K:PySem.W.Frag) (mg:Str→Option Value) (base:Heap) (A:Around) (outer:List Env) (s:Shared) (H:Hp):Prop where
 frames:A.frames=some outer
 mod:Mod K mg base
 bs:∀ b o,base.get? b=some o→s.heap.get? b=some o∧H b=none
 bsz:base.objs.size≤s.heap.objs.size
 funs:s.heap.FunFrames base outer
 frf:∀ b∈frs outer,H b=none
 hok:HOk P w H s.heap
 bare:AllBare s.gens
noncomputable def CE (outer:List Env) (P:Program) (w:World) (H:Hp) (s:Shared) (Q:VK) (u:Value) (s':Shared):Prop:=
 ∃ v H',s'.os=s.os∧AllBare s'.gens∧Un (frs outer) [] H H' s.heap s'.heap∧HOk P w H' s'.heap∧RelV v u∧Q v H'
noncomputable def CR (CX:CXT) (outer:List Env) (P:Program) (w:World) (H:Hp) (s:Shared) (Q:VK) (E:XK) (r:Result) (s':Shared):Prop:=
 match r with
 | .ok (.ret u)=>CE outer P w H s Q u s'
 | .ok _=>False
 | .error e=>CX outer H s E e s'
structure FnOk (P:Program) (w:World) (K:PySem.W.Frag) (mg:Str→Option Value) (base:Heap) (CX:CXT) (k:Nat) (f:Addr) (fd:FuncData) (ps:List Str) (sp:Sp):Prop where
 len:∀ vs H Q E,sp vs H Q E→vs.length=ps.length
 run:∀ (A:Around) (outer:List Env) (s:Shared) (H:Hp) (args:Args) (us:List Value) (vs:List V) (Q:VK) (E:XK),Room k A→Env0 P w K mg base A outer s H→BindsTo s fd args (ps.zip us)→Vals vs us→sp vs H Q E→
  codeAny (model P w) A (.call (.ref f) args) (CR CX outer P w H s Q E) s
theorem FnOk.mono {P:Program}{w:World} {K:PySem.W.Frag}{mg:Str→Option Value} {base:Heap}{CX:CXT} {j k:Nat}{f:Addr} {fd:FuncData}{ps:List Str} {sp:Sp}(F:FnOk P w K mg base CX j f fd ps sp) (h:j≤k) :
  FnOk P w K mg base CX k f fd ps sp:=⟨F.len,fun A outer s H args us vs Q E hr=>F.run A outer s H args us vs Q E (hr.mono h)⟩
section
variable {X:Cx}{pins:List (Addr×Obj)} {σ:St}{H:Hp} {s s':Shared}
theorem Inv.env0 (I:Inv X pins σ H s):Env0 X.prog X.w X.K X.mg X.base X.A X.stack s H:=
 ⟨I.ok.frames,I.ok.mod,I.bs,Nat.le_trans I.ok.bsz I.sz,I.stack,I.stkFree,I.hok,I.bare⟩
theorem Inv.after {Q:VK}{u:Value} (I:Inv X pins σ H s) (h:CE X.stack X.prog X.w H s Q u s'):EP X pins σ Q u s':=by
 obtain ⟨v,H',os,bare,un,hok,r,q⟩:=h
 obtain ⟨hh,g,d,t,os'⟩:=s'
 obtain rfl:os'=s.os:=os
 exact ⟨v,H',I.call (h':=hh) (g':=g) (d':=d) (t':=t) (ch:=[]) un hok bare (fun b z=>absurd z (by simp)),r,q⟩
end
noncomputable def zlf (sp:Sp) (dvs:List V) (E:XK) (t:TA):TE:=fun σ H Q=>t σ H fun vs H1=>sp (vs++dvs) H1 Q E
noncomputable def zfw (K:PySem.W.Frag) (fd:FuncData) (ps:List Str) (ds:List Value):Prop:=
 ∀ (s:Shared) (us:List Value),K.In s.heap→(us++ds).length=ps.length→BindsTo s fd ⟨us,[]⟩ (ps.zip (us++ds))
theorem zfw.all {K:PySem.W.Frag}{fd:FuncData} {ps:List Str}(h:∀ us:List Value,us.length=ps.length→bindArgs fd ⟨us,[]⟩=pure (ps.zip us)):zfw K fd ps []:=fun s us _ hl=>by
 rw [List.append_nil] at hl ⊢
 exact .of_eq (h us hl)
noncomputable def Passes (CX:CXT) (X:Cx) (E:XK):Prop:=∀ (pins:List (Addr×Obj)) (σ:St) (H:Hp) (s:Shared) (e:Value) (s':Shared),Inv X pins σ H s→CX X.stack H s E e s'→X.xe e s'
section
variable {X:Cx}{CX:CXT} {k:Nat}{f C:Addr} {fd:FuncData}{ps:List Str} {sp:Sp}{dvs:List V} {ds:List Value}{E:XK} {x m:Str}{p pos apos:Pos} {e o:Expr}{es:List Expr} {ta:TE}{t:TA}
theorem run_fn {pins:List (Addr×Obj)}{σ:St} {H:Hp}{s:Shared} {Q:VK}{us:List Value} {vs:List V}(F:FnOk X.prog X.w X.K X.mg X.base CX k f fd ps sp) (hr:Room k X.A) (hb:zfw X.K fd ps ds) (hd:Vals dvs ds) (hx:Passes CX X E)
  (I:Inv X pins σ H s) (r:Vals vs us) (h:sp (vs++dvs) H Q E):wpAny (model X.prog X.w) X.A (call (.ref f) us) (EP X pins σ Q) X.xe s:=by
 have r2:Vals (vs++dvs) (us++ds):=r.append hd
 have hl:(us++ds).length=ps.length:=by rw [← r2.length];exact F.len _ _ _ _ h
 refine wpAny_call (codeAny_mono (F.run X.A X.stack s H ⟨us,[]⟩ (us++ds) (vs++dvs) Q E hr I.env0 (hb s us I.kIn hl) r2 h) fun r s' hq=>?_)
 cases r with
 | error e=>exact hx pins σ H s e s' I hq
 | ok fl=>
  cases fl with
  | ret u=>exact I.after hq
  | next=>exact False.elim hq
  | brk=>exact False.elim hq
  | cont=>exact False.elim hq
theorem zgv (F:FnOk X.prog X.w X.K X.mg X.base CX k f fd ps sp) (hr:Room k X.A) (hg:Gl X x) (hm:X.mg x=some (.ref f)) (hk:PySem.W.keepIn X.K (.ref f)=true) (hb:zfw X.K fd ps ds) (hd:Vals dvs ds) (hx:Passes CX X E)
  (ha:PA X (e::es) t) (hdb:(x == ("__debug__" : Str))=false:=by decide) (he:starEach (e::es) X.env=(false,eval e X.env)::starEach es X.env:=by rfl) (hpl:(backTo pos (starEach es X.env)).any (·.1)=false:=by rfl) :
  PE X (.Call (.Name x p) (e::es) [] pos) (zlf sp dvs E t):=by
 intro pins s σ H Q I h
 refine wpAny_Call_Name_kw (ld_glob I hg hm ?_ hdb)
 refine PySem.W.callWith_K (h₀:=X.base) I.ok.mod.kin hk (thn (ha pos pins s σ H _ I h) fun us s1 ⟨vs,H1,I1,r,q⟩=>⟨I1.kIn,?_⟩) he hpl
 exact run_fn F hr hb hd hx I1 r q
end
noncomputable def PK (X:Cx) (kws:List Keyword) (t:TA):Prop:=
 ∀ (pos:Pos) (pins:List (Addr×Obj)) (s:Shared) (σ:St) (H:Hp) (Q:List V→Hp→Prop),Inv X pins σ H s→t σ H Q→wpAny (model X.prog X.w) X.A (evalAll ((backToKw pos (keywordEach kws X.env)).map (·.2))) (AP X pins σ Q) X.xe s
section
variable {X:Cx}{CX:CXT} {k:Nat}{f C:Addr} {fd:FuncData}{ps ks:List Str} {sp:Sp}{E:XK} {x m:Str}{p pos apos kpos:Pos} {e o:Expr}{es:List Expr} {kws:List Keyword}{te ta:TE} {t tk:TA}{nm:Option Str}
theorem pk_nil:PK X [] tNil:=fun _ _ _ _ H Q I h=>wpAny_evalAll_nil ⟨[],H,I,.nil,h⟩
theorem pk_cons (ha:PE X e te) (hr:PK X kws t):PK X (⟨nm,e,kpos⟩::kws) (tCons te t):=by
 intro pos pins s σ H Q I h
 show wpAny _ _ (evalAll ((do let v ← eval e X.env;standAt pos;pure v)::(backToKw pos (keywordEach kws X.env)).map (·.2))) _ _ s
 refine wpAny_evalAll_cons (wpAny_bind (thn (ha pins s σ H _ I h) fun u s1 ⟨x,H1,I1,r1,q1⟩=>wpAny_bind (wpAny_standAt (wpAny_pure ?_))))
 exact thn (hr pos pins s1 σ H1 _ I1 q1) fun us s2 ⟨xs,H2,I2,r2,q2⟩=>⟨x::xs,H2,I2,.cons r1 r2,q2⟩
variable {g:List Value→List Value→List Value}{gV:List V→List V→List V}
end
structure zaE (N P:List Str) (sc:Scope):Prop where
 kind:sc.kind=.function
 co:sc.isCoroutine=false
 gen:sc.isGenerator=false
 nd:N.Nodup
 pre:N.take P.length=P
 par:∀ x∈P,sc.names.lookup x=some .local∨sc.names.lookup x=some .cell
 nofree:∀ y∈sc.names,y.2≠.free
theorem zjC {kindOf:Str→Option NameKind}{x:Str}:∀ {binds:List (Str×Value)}{m:Str→Option Value},(∀ v,(x,v)∉binds)→bindL kindOf binds m x=m x
 | [],_,_=>rfl
 | (n,v)::r,m,h=>by
  unfold bindL
  rw [zjC fun w hw=>h w (List.mem_cons_of_mem _ hw)]
  split
  ·have:x≠n:=by rintro rfl;exact h v List.mem_cons_self
   simp [this]
  ·rfl
theorem zjE {kindOf:Str→Option NameKind}{x:Str}:∀ {binds:List (Str×Value)}{m:Str→Option Value},(∀ v,(x,v)∉binds)→bindC kindOf binds m x=m x
 | [],_,_=>rfl
 | (n,v)::r,m,h=>by
  unfold bindC
  rw [zjE fun w hw=>h w (List.mem_cons_of_mem _ hw)]
  split
  ·rfl
  ·have:x≠n:=by rintro rfl;exact h v List.mem_cons_self
   simp [this]
theorem zjD {kindOf:Str→Option NameKind}{x:Str} {v:Value}:∀ {P:List Str}{vs:List Value} {i:Nat}{m:Str→Option Value},P.Nodup→P[i]?=some x→vs[i]?=some v→kindOf x=some .local→
  bindL kindOf (P.zip vs) m x=some v
 | [],_,_,_,_,h,_,_=>by simp at h
 | _::_,[],_,_,_,_,h,_=>by simp at h
 | p::P,w::vs,0,m,nd,h1,h2,hk=>by
  simp at h1 h2;subst h1;subst h2
  show bindL kindOf ((p,w)::P.zip vs) m p=_
  unfold bindL
  rw [zjC fun v hv=>(List.nodup_cons.mp nd).1 (List.of_mem_zip hv).1,if_pos hk]
  simp
 | p::P,w::vs,i + 1,m,nd,h1,h2,hk=>by
  show bindL kindOf ((p,w)::P.zip vs) m x=_
  unfold bindL
  exact zjD (i:=i) (List.nodup_cons.mp nd).2 (by simpa using h1) (by simpa using h2) hk
theorem zjF {kindOf:Str→Option NameKind}{x:Str} {v:Value}:∀ {P:List Str}{vs:List Value} {i:Nat}{m:Str→Option Value},P.Nodup→P[i]?=some x→vs[i]?=some v→kindOf x≠some .local→
  bindC kindOf (P.zip vs) m x=some v
 | [],_,_,_,_,h,_,_=>by simp at h
 | _::_,[],_,_,_,_,h,_=>by simp at h
 | p::P,w::vs,0,m,nd,h1,h2,hk=>by
  simp at h1 h2;subst h1;subst h2
  show bindC kindOf ((p,w)::P.zip vs) m p=_
  unfold bindC
  rw [zjE fun v hv=>(List.nodup_cons.mp nd).1 (List.of_mem_zip hv).1,if_neg hk]
  simp
 | p::P,w::vs,i + 1,m,nd,h1,h2,hk=>by
  show bindC kindOf ((p,w)::P.zip vs) m x=_
  unfold bindC
  exact zjF (i:=i) (List.nodup_cons.mp nd).2 (by simpa using h1) (by simpa using h2) hk
noncomputable def start (N:List Str) (vs:List V):St:=vs.map some++List.replicate (N.length - vs.length) none
noncomputable def cxOf (CX:CXT) (P:Program) (w:World) (K:PySem.W.Frag) (mg:Str→Option Value) (base:Heap) (N:List Str) (qual:Str) (scope:Scope) (f:Addr) (cd:Value) (A:Around) (outer:List Env) (s:Shared) (H:Hp) (E:XK):Cx where
 prog:=P
 w:=w
 K:=K
 mg:=mg
 base:=base
 A:=A.deeper (envOfC qual scope s.heap.objs.size f cd)
 N:=N
 s₀:=s
 H₀:=H
 env:=envOfC qual scope s.heap.objs.size f cd
 outer:=outer
 stack:=envOfC qual scope s.heap.objs.size f cd::outer
 ex:=[]
 calm:=true
 fn:=fun _=>true
 pn:=[]
 xe:=fun e s'=>wpAny (model P w) (A.deeper (envOfC qual scope s.heap.objs.size f cd)) (leaving (envOfC qual scope s.heap.objs.size f cd) e) (fun _ s''=>CX outer H s E e s'') (fun e' s''=>CX outer H s E e' s'') s'
theorem zkY {sc:Scope}{n:Nat} {x:Str}(h:sc.names.lookup x=some .cell):∃ c,(cellsFrom n sc.names []).lookup x=some c:=by
 have q:=PySem.W.cellsFrom_some sc.names n [] (.inl h)
 exact Option.isSome_iff_exists.mp q
theorem zmT {CX:CXT}{P:Program} {w:World}{K:PySem.W.Frag} {mg:Str→Option Value}{base:Heap} {N ps:List Str}{qual:Str} {scope:Scope}{f:Addr} {cd:Value}{A:Around} {outer:List Env}{s s1:Shared} {H:Hp}{E:XK} {us:List Value}{vs:List V}
  (S:zaE N ps scope) (hd:A.handled=none) (e0:Env0 P w K mg base A outer s H) (hl:vs.length=ps.length) (r:Vals vs us)
  (x:InCallC s s.heap.objs.size (bindL (envOfC qual scope s.heap.objs.size f cd).kindOf (ps.zip us) fun _=>none) (cellsFrom (s.heap.objs.size + 1) scope.names []) (bindC (envOfC qual scope s.heap.objs.size f cd).kindOf (ps.zip us) fun _=>none) s1) :
  Inv (cxOf CX P w K mg base N qual scope f cd A outer s H E) [] (start N vs) H s1:=by
 have hpl:ps.length≤N.length:=by have:=congrArg List.length S.pre;rw [List.length_take] at this;omega
 obtain ⟨h1,tk,rfl,hk⟩:=x.done
 have noA:∀ b:Addr,b∉(cxOf CX P w K mg base N qual scope f cd A outer s H E).ex:=fun b z=>absurd (show b∈([]:List Addr) from z) (by simp)
 refine ⟨⟨e0.mod,S.kind,rfl,rfl,Nat.le_refl _,fun y z c h1 h2=>?_,fun y hy=>?_,fun y c _ h=>?_,fun _=>hd,Around.frames_deeper e0.frames,.inr ⟨rfl,rfl⟩,fun b z=>absurd z (noA b),e0.bs,e0.bsz,fun b _ _=>noA b,fun b z=>absurd z (noA b),e0.funs,e0.frf⟩,
  rfl,e0.bare,Un.kept hk,⟨_,x.toInCall.ns,fun i y v h1 h2 h3=>?_⟩,fun y c h=>⟨_,x.cell y c h⟩,e0.hok.fresh (Nat.le_refl _),fun y c h=>?_,fun p hp=>absurd (show p∈([]:List (Addr×Obj)) from hp) (by simp),e0.hok.kept hk,?_⟩
 ·exact name_of_addr x.apart (PySem.mem_of_lookup h1) (PySem.mem_of_lookup h2)
 ·have hy:scope.names.lookup y=some .cell∨scope.names.lookup y=some .free:=hy
  rcases hy with hy | hy
  ·exact zkY hy
  ·exact absurd rfl (S.nofree _ (PySem.mem_of_lookup hy))
 ·exact Nat.le_of_lt (x.above y c (PySem.mem_of_lookup h))
 ·have hi:i < vs.length:=by
   unfold start at h2
   by_cases hi:i < vs.length
   ·exact hi
   ·rw [List.getElem?_append_right (by simpa using hi)] at h2
    rw [List.getElem?_replicate] at h2
    split at h2<;>cases h2
  have ha:vs[i]?=some v:=by
   unfold start at h2
   rw [List.getElem?_append_left (by simpa using hi),List.getElem?_map] at h2
   cases e:vs[i]? with
   | none=>rw [e] at h2;cases h2
   | some a=>rw [e] at h2;cases h2;rfl
  obtain ⟨u,hu,rv⟩:=r.get ha
  have hp:ps[i]?=some y:=by
   rw [← S.pre,List.getElem?_take_of_lt (by omega)];exact h1
  have ndP:ps.Nodup:=by rw [← S.pre];exact S.nd.sublist (List.take_sublist _ _)
  refine ⟨u,rv,?_⟩
  rcases S.par y (List.mem_of_getElem? hp) with k | k
  ·exact .inl ⟨k,zjD ndP hp hu k⟩
  ·obtain ⟨c,e⟩:=zkY (n:=s.heap.objs.size + 1) k
   refine .inr ⟨.inl k,c,e,?_⟩
   have q:=x.cell y c e
   rw [zjF ndP hp hu (by show scope.names.lookup y≠_;rw [k];decide)] at q
   exact q
 ·exact e0.hok.fresh (Nat.le_of_lt (x.above y c (PySem.mem_of_lookup h)))
 ·unfold start
  show _=N.length
  rw [List.length_append,List.length_map,List.length_replicate]
  omega
theorem fn_of {CX:CXT}{P:Program} {w:World}{K:PySem.W.Frag} {mg:Str→Option Value}{base:Heap} {k:Nat}{f:Addr} {name qual:Str}{params:Arguments} {body:List Stmt}{scope:Scope} {dV kV doc pm cdv ct oc:Value}{an od:Option Addr}
  {osl:Array (Option Value)} {N ps:List Str}{sp:Sp} (lk:K.lookup f=some ⟨oc,od,.func (PySem.W.fnOf name qual params body scope dV kV doc pm an cdv ct),osl⟩) (hcd:PySem.W.codeIn K cdv qual=true) (S:zaE N ps scope)
  (len:∀ vs H Q E,sp vs H Q E→vs.length=ps.length)
  (hbody:∀ (A:Around) (outer:List Env) (s:Shared) (H:Hp) (vs:List V) (Q:VK) (E:XK),Room k (A.deeper (envOfC qual scope s.heap.objs.size f cdv))→sp vs H Q E→
   ∃ t,PSs (cxOf CX P w K mg base N qual scope f cdv A outer s H E) body t∧t { nx:=fun _ H'=>Q .non H',rt:=Q } (start N vs) H) :
  FnOk P w K mg base CX (k + 1) f (PySem.W.fnOf name qual params body scope dV kV doc pm an cdv ct) ps sp:=by
 refine ⟨len,fun A outer s H args us vs Q E hr e0 hb r hsp=>?_⟩
 have hl:=len _ _ _ _ hsp
 have KX:K.In s.heap:=e0.mod.kin.keeps fun b o e=>(e0.bs b o e).1
 have lim:s.heap.NoLimit:=e0.mod.nolimit.keeps fun b o e=>(e0.bs b o e).1
 have hkind:∀ y∈ps.zip us,scope.names.lookup y.1=some .local∨(scope.names.lookup y.1=some .cell∧((cellsFrom (s.heap.objs.size + 1) scope.names []).lookup y.1).isSome=true):=fun ⟨n,v⟩ hy=>by
  rcases S.par n (List.of_mem_zip hy).1 with q | q
  ·exact .inl q
  ·exact .inr ⟨q,PySem.W.cellsFrom_some _ _ _ (.inl q)⟩
 refine codeAny_call_function hr.depth (KX _ _ lk) rfl S.co S.gen rfl (PySem.W.codeRec_of KX hcd) (hb _ _ _ _ ?_)
 refine wpAny_newFunctionEnv_cells S.kind hkind fun env he s1 x=>?_
 subst he
 refine ⟨lim.keeps x.toInCall.keep,codeAny_func ?_⟩
 obtain ⟨t,ht,hq⟩:=hbody A outer s H vs Q E (hr.deeper _) hsp
 have I:Inv (cxOf CX P w K mg base N qual scope f cdv A outer s H E) [] (start N vs) H s1:=zmT S hr.hd e0 hl r x
 refine wpAny_mono (ht [] s1 (start N vs) H _ I hq) (fun fl s' hs=>?_) fun e s' hs=>hs
 have fin:∀ {σ':St}{H':Hp} {v:V}{u:Value},Inv (cxOf CX P w K mg base N qual scope f cdv A outer s H E) [] σ' H' s'→RelV v u→Q v H'→CE outer P w H s Q u s':=
  fun {σ' H' v u} J rv q=>⟨v,H',J.os,J.bare,J.base,J.hok,rv,q⟩
 cases fl with
 | ret u=>
  obtain ⟨v,σ',H',J,rv,q⟩:=hs
  exact fin J rv q
 | next=>
  obtain ⟨σ',H',J,q⟩:=hs
  exact fin (v:=V.non) (u:=Value.none) J rfl q
 | brk=>
  obtain ⟨_,_,_,q⟩:=hs
  exact False.elim q
 | cont=>
  obtain ⟨_,_,_,q⟩:=hs
  exact False.elim q
end L2
namespace L2
open PySem PySem.Spec PyProof.Rows
section
variable {X:Cx}{x:Str} {p pos:Pos}{e:Expr} {es:List Expr}{t:TA} {id T:String}{r:List V→Hp→VK→Prop}
noncomputable def tCB (r:List V→Hp→VK→Prop) (t:TA):TE:=fun σ H Q=>t σ H fun vs H1=>r vs H1 Q
theorem zkE (hc:zeE X (.builtin id) r) (hg:Gl X x) (hm:X.mg x=none) (hv:bootBuiltins x=some (.builtin id)) (ha:PA X (e::es) t) (hn:x ≠ "__name__" := by decide) (hdb:(x == ("__debug__" : Str))=false:=by decide)
  (he:starEach (e::es) X.env=(false,eval e X.env)::starEach es X.env:=by rfl) (hpl:(backTo pos (starEach es X.env)).any (·.1)=false:=by rfl):PE X (.Call (.Name x p) (e::es) [] pos) (tCB r t):=by
 intro pins s σ H Q I h
 refine wpAny_Call_Name_kw (zem I hg hm hv ?_ hn hdb)
 exact PyProof.Rows.callWith_builtin1 (thn (ha pos pins s σ H _ I h) fun us s1 ⟨vs,H1,I1,r1,q1⟩=>hc pins s1 σ H1 vs us Q I1 r1 q1) he hpl
theorem zmt (hc:zeE X (.type T) r) (hg:Gl X x) (hm:X.mg x=none) (hv:bootBuiltins x=some (.type T)) (ha:PA X (e::es) t) (hn:x ≠ "__name__" := by decide) (hdb:(x == ("__debug__" : Str))=false:=by decide)
  (he:starEach (e::es) X.env=(false,eval e X.env)::starEach es X.env:=by rfl) (hpl:(backTo pos (starEach es X.env)).any (·.1)=false:=by rfl):PE X (.Call (.Name x p) (e::es) [] pos) (tCB r t):=by
 intro pins s σ H Q I h
 refine wpAny_Call_Name_kw (zem I hg hm hv ?_ hn hdb)
 exact PyProof.Rows.callWith_type1 (thn (ha pos pins s σ H _ I h) fun us s1 ⟨vs,H1,I1,r1,q1⟩=>hc pins s1 σ H1 vs us Q I1 r1 q1) he hpl
end
end L2
namespace HT
open PySem PyProof.Rows
noncomputable def lexLt:List Int→List Int→Bool
 | [],[]=>false
 | [],_::_=>true
 | _::_,[]=>false
 | x::xs,y::ys=>if x=y then lexLt xs ys else decide (x < y)
theorem zls (x y:Int) (xs ys:List Int):lexLt (x::xs) (y::ys)=if x=y then lexLt xs ys else decide (x < y):=rfl
theorem zio:lexLt [] []=false:=rfl
theorem zhs (y:Int) (ys:List Int):lexLt [] (y::ys)=true:=rfl
theorem zht (x:Int) (xs:List Int):lexLt (x::xs) []=false:=rfl
theorem eqAt_int (A:Around) (s:Shared) (a:Int) (t:Tok) (c:Int) (u:Tok):∃ e,SeqAt.EqAt A s (.int a t) (.int c u) e∧(e=true↔a=c):=
 ⟨(a == c),SeqAt.EqAt.int_int a t c u,by simp⟩
section
open PySem.SeqAt
open PySem.AutoSeq1 (wpAny_loadPart')
open PySem.MeetsSeq PySem.MeetsSeq2 PySem.MeetsSeq3
end
section
variable {prog:Program}{w:World} {A:Around}{E:Value→Shared→Prop} {s:Shared}
theorem cat_tup {t b:Addr}{vs ws:List Value} {Q:Value→Shared→Prop}(ht:IsTup s.heap t vs.toArray) (hb:IsTup s.heap b ws.toArray) (hv:vs≠[])
  (h1:ws=[]→Q (.ref t) s) (h2:ws≠[]→Q (.ref s.heap.objs.size) { s with heap:=s.heap.push { cls:=.type "tuple",data:=.seq (vs++ws).toArray } })
  (hsz:vs.length + ws.length≤sizeLine):wpAny (model prog w) A (binaryOp .Add (.ref t) (.ref b)) Q E s:=by
 obtain ⟨⟨cls,dd,data,sl⟩,ho,hc,n,hd⟩:=id ht
 obtain ⟨⟨cls2,dd2,data2,sl2⟩,ho2,hc2,n2,hd2⟩:=id hb
 simp only at hc hd hc2 hd2
 subst hc hd hc2 hd2
 have e:vs.toArray++ws.toArray=(vs++ws).toArray:=by simp
 by_cases hw:ws=[]
 ·exact concat_meets ⟨_,ho,rfl⟩ ⟨_,ho2,rfl⟩ noFill_tuple_add seq_tuple_add PySem.F.slot_tuple_add PySem.F.entry_tuple_add (PySem.F.args_tuple_add_2 _ _)
   (tuple_addW1 t b vs.toArray ws.toArray n n2 dd dd2 sl sl2 (by simpa using hv) (by simp [hw])) ⟨ho,ho2,h1 hw⟩
 ·refine concat_meets ⟨_,ho,rfl⟩ ⟨_,ho2,rfl⟩ noFill_tuple_add seq_tuple_add PySem.F.slot_tuple_add PySem.F.entry_tuple_add (PySem.F.args_tuple_add_2 _ _)
   (tuple_addW2 t b vs.toArray ws.toArray n n2 dd dd2 sl sl2 (by simpa using hv) (by simpa using hw) (by rw [List.size_toArray,List.size_toArray];exact hsz)) ⟨ho,ho2,?_⟩
  rw [e]
  exact h2 hw
noncomputable def sIx (n d:Nat):Option Int→Nat
 | none=>d
 | some v=>if v < 0 then (v + (n:Int)).toNat else min v.toNat n
theorem sIx_none (n d:Nat):sIx n d none=d:=rfl
theorem sIx_nat (n d k:Nat):sIx n d (some (k:Int))=min k n:=by
 show (if (k:Int) < 0 then ((k:Int) + (n:Int)).toNat else min (k:Int).toNat n)=min k n
 rw [if_neg (by omega),Int.toNat_natCast]
theorem sIx_le (n d:Nat) (hd:d≤n) (o:Option Int):sIx n d o≤n:=by
 cases o with
 | none=>exact hd
 | some v=>
  show (if v < 0 then (v + (n:Int)).toNat else min v.toNat n)≤n
  by_cases hv:v < 0
  ·rw [if_pos hv];omega
  ·rw [if_neg hv];exact Nat.min_le_right _ _
theorem znq (v:Int) (n d:Nat):(if v < 0 then max (v + (n:Int)) 0 else min v (n:Int))=((sIx n d (some v):Nat):Int):=by
 show (if v < 0 then max (v + (n:Int)) 0 else min v (n:Int))=(((if v < 0 then (v + (n:Int)).toNat else min v.toNat n):Nat):Int)
 by_cases hv:v < 0
 ·simp only [if_pos hv];omega
 ·simp only [if_neg hv];omega
theorem zlJ (lo hi:Option Int) (n:Nat):Builtin.Slice.sliceAdjust lo hi 1 (n:Int)=(((sIx n 0 lo:Nat):Int),((sIx n n hi:Nat):Int)):=by
 have h1:¬ ((1:Int) < 0):=by omega
 unfold Builtin.Slice.sliceAdjust
 simp only [h1,if_false]
 refine Prod.ext ?_ ?_
 ·cases lo with
  | none=>rfl
  | some v=>exact znq v n 0
 ·cases hi with
  | none=>rfl
  | some v=>exact znq v n n
theorem zlj (i j:Nat):Builtin.Slice.slicePlaces (i:Int) (j:Int) 1=j - i:=by
 unfold Builtin.Slice.slicePlaces
 have h1:(1:Int) > 0:=by omega
 simp only [h1,if_true,Int.ediv_one]
 split<;>omega
theorem zhB {v:Value}{o:Option Int} {Q:Option Int→Shared→Prop}(p:IsPart v o) (h:Q o s):wpAny (model prog w) A (Builtin.Slice.slicePartIndex v) Q E s:=by
 cases p with
 | none=>exact slicePart_none h
 | int i t=>exact slicePart_int h
theorem zdL {sl:Addr}{vl vu:Value} {lo hi:Option Int}{n:Nat} {Q:Int×Int×Nat→Shared→Prop}(hs:s.heap.IsSliceOf sl vl vu .none) (pl:IsPart vl lo) (pu:IsPart vu hi)
  (h:Q (((sIx n 0 lo:Nat):Int),1,sIx n n hi - sIx n 0 lo) s):wpAny (model prog w) A (Builtin.Slice.sliceApplied (.ref sl) (pure (n:Int))) Q E s:=by
 obtain ⟨os,hos,hcs,hds⟩:=id hs
 unfold Builtin.Slice.sliceApplied Builtin.Slice.sliceFields
 refine wpAny_bind (wpAny_bind (wpAny_field hos hds (x:=vl) rfl (wpAny_bind (wpAny_field hos hds (x:=vu) rfl (wpAny_bind (wpAny_field hos hds (x:=.none) rfl (wpAny_pure ?_)))))))
 refine wpAny_bind (slicePart_none ?_)
 show wpAny _ _ (if ((1:Int) == 0)=true then _ else _) _ _ s
 rw [if_neg (by decide)]
 refine wpAny_bind (zhB pl (wpAny_bind (zhB pu (wpAny_bind (wpAny_pure ?_)))))
 show wpAny _ _ (match Builtin.Slice.sliceAdjust lo hi 1 (n:Int) with | (lo,hi)=>pure (lo,(1:Int),Builtin.Slice.slicePlaces lo hi 1)) _ _ s
 rw [zlJ lo hi n]
 show wpAny _ _ (pure (((sIx n 0 lo:Nat):Int),(1:Int),Builtin.Slice.slicePlaces ((sIx n 0 lo:Nat):Int) ((sIx n n hi:Nat):Int) 1)) _ _ s
 rw [zlj]
 exact wpAny_pure h
theorem pick_gen (xs:Array Value) (i k:Nat):((List.range k).filterMap fun (m:Nat)=>xs[((i:Int) + (m:Int) * 1).toNat]?).toArray=((xs.toList.drop i).take k).toArray:=by
 have e:(fun (m:Nat)=>xs[((i:Int) + (m:Int) * 1).toNat]?)=fun m=>xs[i + m]?:=by
  funext m
  have:((i:Int) + (m:Int) * 1).toNat=i + m:=by omega
  rw [this]
 rw [e]
 have:=pick_run xs i k
 rw [List.filterMap_map] at this
 have e2:((fun x=>xs[x]?) ∘ fun x=>i + x)=fun m=>xs[i + m]?:=rfl
 rw [e2] at this
 rw [this]
theorem getItem_tuple_cut {t sl:Addr}{items:Array Value} {vl vu:Value}{lo hi:Option Int} {Q:Value→Shared→Prop}(ht:IsTup s.heap t items) (hs:s.heap.IsSliceOf sl vl vu .none) (pl:IsPart vl lo) (pu:IsPart vu hi)
  (hw:¬ (sIx items.size 0 lo=0∧sIx items.size items.size hi=items.size))
  (h:Q (.ref s.heap.objs.size) { s with heap:=s.heap.push { cls:=.type "tuple",data:=.seq ((items.toList.drop (sIx items.size 0 lo)).take (sIx items.size items.size hi - sIx items.size 0 lo)).toArray } })
  (hsz:items.size≤sizeLine):wpAny (model prog w) A (getItem (.ref t) (.ref sl)) Q E s:=by
 have htake:sizeOk (.seq ((items.toList.drop (sIx items.size 0 lo)).take (sIx items.size items.size hi - sIx items.size 0 lo)).toArray):=by
  show ((items.toList.drop (sIx items.size 0 lo)).take (sIx items.size items.size hi - sIx items.size 0 lo)).toArray.size≤sizeLine
  rw [List.size_toArray,List.length_take,List.length_drop,Array.length_toList]
  omega
 have hj:sIx items.size items.size hi≤items.size:=sIx_le _ _ (Nat.le_refl _) hi
 obtain ⟨os,hos,hcs,hds⟩:=id hs
 have hTs:s.TypeIs (.ref sl) "slice" := ⟨os,hos,hcs⟩
 unfold getItem
 try with_reducible refine wpAny_holding ?_
 first | refine wpAny_bind (wpAny_pure ?_) | skip
 refine wpAny_bind (wpAny_sequenceKey ht.typeIs (by decide) ?_)
 refine wpAny_bind (wpAny_callSpecial?_slot (name:=Str.ofString "__getitem__") ht.typeIs PyProof.Rows.slot_tuple_getitem
  (wpAny_call_entry PyProof.Rows.slot_tuple_getitem ht.typeIs entry_tuple_getitem ?_ (args_tuple_getitem _ _)))
 show wpAny _ _ (Builtin.Tuple.tupleItemsOf (.ref t) >>= _) _ _ s
 refine wpAny_bind (tupleItemsOf_ ht ?_)
 refine wpAny_bind (wpAny_typeOf hTs ?_)
 rw [if_pos (by decide)]
 refine wpAny_bind (zdL hs pl pu ?_)
 have hno:¬ ((((sIx items.size 0 lo:Nat):Int) == 0 && (1:Int) == 1 && (sIx items.size items.size hi - sIx items.size 0 lo) == items.size)=true):=by
  intro q
  rw [Bool.and_eq_true,Bool.and_eq_true] at q
  have q1:((sIx items.size 0 lo:Nat):Int)=0:=eq_of_beq q.1.1
  have q2:sIx items.size items.size hi - sIx items.size 0 lo=items.size:=eq_of_beq q.2
  exact hw ⟨by omega,by omega⟩
 show wpAny _ _ (if (((sIx items.size 0 lo:Nat):Int) == 0 && (1:Int) == 1 && (sIx items.size items.size hi - sIx items.size 0 lo) == items.size)=true then _ else _) _ _ s
 rw [if_neg hno,pick_gen]
 first
  | exact wpAny_bind (m:=Builtin.Tuple.tupleExact _) (wpAny_newObj_type (wpAny_pure ⟨_,rfl,wpAny_pure h⟩) htake)
  | exact wpAny_bind (m:=Builtin.Tuple.tupleExact _) (wpAny_newObj_type (wpAny_bind (wpAny_pure (wpAny_pure ⟨_,rfl,wpAny_pure h⟩))) htake)
  | exact wpAny_bind (wpAny_bind (m:=Builtin.Tuple.tupleExact _) (wpAny_newObj_type (wpAny_pure (wpAny_pure ⟨_,rfl,wpAny_pure h⟩)) htake))
  | exact wpAny_bind (wpAny_bind (m:=Builtin.Tuple.tupleExact _) (wpAny_newObj_type (wpAny_pure ⟨_,rfl,wpAny_pure h⟩) htake))
end
end HT
namespace L2
open PySem PySem.Spec PyProof.Rows
noncomputable abbrev TO:=St→Hp→(Option Int→Hp→Prop)→Prop
noncomputable def PO (X:Cx) (e:Option Expr) (t:TO):Prop:=
 ∀ (pins:List (Addr×Obj)) (s:Shared) (σ:St) (H:Hp) (Q:Option Int→Hp→Prop),Inv X pins σ H s→t σ H Q→
  wpAny (model X.prog X.w) X.A (evalPart e X.env) (fun u s'=>∃ o H',Inv X pins σ H' s'∧IsPart u o∧Q o H') X.xe s
noncomputable def tNoPart:TO:=fun _ H Q=>Q none H
noncomputable def tPart (t:TE):TO:=fun σ H Q=>t σ H fun x H1=>∃ i,x=.int i∧Q (some i) H1
theorem zeJ {ns:List Int}:∀ {us:List Value},Vals (ns.map V.int) us→IntsAre us ns:=by
 induction ns with
 | nil=>intro us r;rw [List.map_nil] at r;cases r;exact .nil
 | cons n ns ih=>
  intro us r
  rw [List.map_cons] at r
  cases r with
  | cons r1 r2=>
   obtain ⟨t,e⟩:=r1
   subst e
   exact .cons n t (ih r2)
section
variable {X:Cx}{e:Expr} {te:TE}{lo hi:Option Expr} {tl th:TO}{pos p2:Pos}
theorem po_none:PO X none tNoPart:=by
 intro pins s σ H Q I h
 rw [evalPart_none]
 exact wpAny_pure ⟨none,H,I,.none,h⟩
theorem po_some (h:PE X e te):PO X (some e) (tPart te):=by
 intro pins s σ H Q I hw
 rw [evalPart_some]
 refine thn (h pins s σ H _ I hw) fun u s1 h_=>?_
 obtain ⟨x,H1,I1,r1,q1⟩:=h_
 obtain ⟨i,rfl,q⟩:=q1
 obtain ⟨t,rfl⟩:=r1
 exact ⟨some i,H1,I1,.int i t,q⟩
noncomputable def SlR (X:Cx) (r:V→Option Int→Option Int→Hp→VK→Prop):Prop:=
 ∀ (pins:List (Addr×Obj)) (s:Shared) (σ:St) (H:Hp) (x:V) (v vl vu:Value) (lo hi:Option Int) (sl:Addr) (Q:VK),Inv X pins σ H s→RelV x v→s.heap.IsSliceOf sl vl vu .none→IsPart vl lo→IsPart vu hi→r x lo hi H Q→
  ∃ T id,typeLookup (.type T) "__getitem__" = pure (some (.builtin id))∧s.TypeIs v T∧wpAny (model X.prog X.w) X.A (getItem v (.ref sl)) (EP X pins σ Q) X.xe s
theorem SlR.or {r r':V→Option Int→Option Int→Hp→VK→Prop}(h:SlR X r) (h':SlR X r'):SlR X (fun x lo hi H Q=>r x lo hi H Q∨r' x lo hi H Q):=by
 intro pins s σ H x v vl vu lo hi sl Q I rx hs pl pu q
 rcases q with q | q
 ·exact h pins s σ H x v vl vu lo hi sl Q I rx hs pl pu q
 ·exact h' pins s σ H x v vl vu lo hi sl Q I rx hs pl pu q
noncomputable def tSl (r:V→Option Int→Option Int→Hp→VK→Prop) (te:TE) (tl th:TO):TE:=fun σ H Q=>te σ H fun x H1=>tl σ H1 fun l H2=>th σ H2 fun u H3=>r x l u H3 Q
theorem pe_slice {r:V→Option Int→Option Int→Hp→VK→Prop}(hr:SlR X r) (he:PE X e te) (hl:PO X lo tl) (hu:PO X hi th):PE X (.Subscript e (.Slice lo hi none p2) pos) (tSl r te tl th):=by
 intro pins s σ H Q I h
 refine Subscript_ (thn (he pins s σ H _ I h) fun v s1 ⟨x,H1,I1,r1,q1⟩=>?_)
 refine wpAny_Slice (thn (hl pins s1 σ H1 _ I1 q1) fun vl s2 ⟨l,H2,I2,pl,q2⟩=>thn (hu pins s2 σ H2 _ I2 q2) fun vu s3 ⟨u,H3,I3,pu,q3⟩=>?_)
 rw [evalPart_none]
 refine wpAny_pure ?_
 have I4:Inv X pins σ H3 { s3 with heap:=s3.heap.push { cls:=.type "slice",data:=.fields #[vl,vu,.none] } }:=I3.kept (t':=s3.toks) fun b ob q=>Heap.get?_push_of_some _ q
 obtain ⟨T,id,hT,ht,hg⟩:=hr pins { s3 with heap:=s3.heap.push { cls:=.type "slice",data:=.fields #[vl,vu,.none] } } σ H3 x v vl vu l u s3.heap.objs.size Q I4 r1 (Heap.IsSliceOf.new ..) pl pu q3
 show wpAny (model X.prog X.w) X.A (subscriptTail e (.Slice lo hi none p2) v (.ref s3.heap.objs.size)) (EP X pins σ Q) X.xe { s3 with heap:=s3.heap.push { cls:=.type "slice",data:=.fields #[vl,vu,.none] } }
 exact tail_any (ops:=[.ref s3.heap.objs.size,v]) ht hT hg (by with_unfolding_all rfl)
noncomputable def cutV (xs:List V) (lo hi:Option Int):List V:=(xs.drop (HT.sIx xs.length 0 lo)).take (HT.sIx xs.length xs.length hi - HT.sIx xs.length 0 lo)
theorem zha (xs:List V) (lo hi:Option Int):(cutV xs lo hi).length≤xs.length:=by
 unfold cutV
 rw [List.length_take,List.length_drop]
 omega
noncomputable def rSlT (K:PySem.W.Frag):V→Option Int→Option Int→Hp→VK→Prop:=fun x lo hi H Q=>∃ a xs,x=.ref a∧SqT K H a xs∧
 ¬ (HT.sIx xs.length 0 lo=0∧HT.sIx xs.length xs.length hi=xs.length)∧∀ p,H p=none→Q (.ref p) (upd H p (.tup (cutV xs lo hi)))
theorem sl_tup:SlR X (rSlT X.K):=by
 intro pins s σ H x v vl vu lo hi sl Q I rx hs pl pu h
 obtain ⟨a,xs,rfl,hx,hw,q⟩:=h
 cases rx
 obtain ⟨its,r,ht,hz⟩:=I.tuple hx
 have hlen:its.toArray.size=xs.length:=by rw [List.size_toArray];exact r.length.symm
 refine ⟨"tuple",_,PyProof.Rows.slot_tuple_getitem.lookup,ht.typeIs,?_⟩
 refine HT.getItem_tuple_cut ht hs pl pu (by rw [hlen];exact hw) ?_ (by rw [hlen];exact hz)
 rw [hlen]
 refine ⟨.ref s.heap.objs.size,_,I.laid (t':=s.toks) (o:=.tup (cutV xs lo hi)) (fun b ob q=>Heap.get?_push_of_some _ q) (Nat.le_refl _) ?_,rfl,q _ (I.hok.fresh (Nat.le_refl _))⟩
 exact ⟨Nat.le_trans (zha xs lo hi) hz,_,(r.drop (HT.sIx xs.length 0 lo)).take (HT.sIx xs.length xs.length hi - HT.sIx xs.length 0 lo),IsTup.new _ _⟩
noncomputable def rCatT (K:PySem.W.Frag):R2:=fun x y H Q=>∃ a b xs ys,x=.ref a∧y=.ref b∧SqT K H a xs∧SqT K H b ys∧xs≠[]∧xs.length + ys.length≤sizeLine∧
 (ys=[]→Q (.ref a) H)∧(ys≠[]→∀ p,H p=none→Q (.ref p) (upd H p (.tup (xs++ys))))
theorem Vals.nil_iff {xs:List V}{us:List Value} (r:Vals xs us):us=[]↔xs=[]:=by
 cases r with
 | nil=>simp
 | cons _ _=>simp
theorem op_catT:OpR X (binaryOp .Add) (rCatT X.K):=by
 intro pins s σ H x y v u Q I rx ry h
 obtain ⟨a,b,xs,ys,rfl,rfl,ha,hb,hx,hz,q1,q2⟩:=h
 cases rx
 cases ry
 obtain ⟨its,r1,p1,_⟩:=I.tuple ha
 obtain ⟨its2,r2,p2,_⟩:=I.tuple hb
 refine HT.cat_tup p1 p2 (fun z=>hx (r1.nil_iff.mp z)) (fun z=>⟨.ref a,H,I,rfl,q1 (r2.nil_iff.mp z)⟩) (fun z=>?_) (by rw [← r1.length,← r2.length];exact hz)
 refine ⟨.ref s.heap.objs.size,_,I.laid (t':=s.toks) (o:=.tup (xs++ys)) (fun b ob q=>Heap.get?_push_of_some _ q) (Nat.le_refl _) ?_,rfl,q2 (fun w=>z (r2.nil_iff.mpr w)) _ (I.hok.fresh (Nat.le_refl _))⟩
 exact ⟨by rw [List.length_append];exact hz,_,r1.append r2,IsTup.new _ _⟩
end
end L2
namespace L2
open PySem PySem.Spec PyProof.Rows
noncomputable def ixN (n:Nat) (i:Int):Option Nat:=if 0≤i then (if i < n then some i.toNat else none) else if -(n:Int)≤i then some (i + n).toNat else none
noncomputable def atI {α:Type}(xs:List α) (i:Int):Option α:=(ixN xs.length i).bind fun j=>xs[j]?
theorem zmR {n:Nat}{i:Int} {j:Nat}(h:ixN n i=some j):seqIndex? i n=some j∧j < n∧-(n:Int)≤i∧i < n:=by
 unfold ixN at h
 by_cases h0:0≤i
 ·rw [if_pos h0] at h
  by_cases h1:i < n
  ·rw [if_pos h1] at h
   have e:i.toNat=j:=Option.some.inj h
   exact ⟨by rw [seqIndex_of h0 h1,e],by omega,by omega,h1⟩
  ·rw [if_neg h1] at h;cases h
 ·rw [if_neg h0] at h
  by_cases h1:-(n:Int)≤i
  ·rw [if_pos h1] at h
   have e:(i + n).toNat=j:=Option.some.inj h
   exact ⟨by rw [seqIndex_neg (by omega) h1,e],by omega,h1,by omega⟩
  ·rw [if_neg h1] at h;cases h
theorem zkm {α:Type}{xs:List α} {i:Int}{v:α} (h:atI xs i=some v):∃ j,seqIndex? i xs.length=some j∧xs[j]?=some v∧j < xs.length∧-(xs.length:Int)≤i∧i < xs.length:=by
 unfold atI at h
 cases e:ixN xs.length i with
 | none=>rw [e] at h;cases h
 | some j=>
  rw [e] at h
  obtain ⟨h1,h2,h3,h4⟩:=zmR e
  exact ⟨j,h1,h,h2,h3,h4⟩
theorem zbT {α:Type}{xs:List α} {j:Nat}{v:α} (h:xs[j]?=some v):atI xs (j:Int)=some v:=by
 have hj:j < xs.length:=(List.getElem?_eq_some_iff.mp h).1
 have e:ixN xs.length (j:Int)=some j:=by
  unfold ixN
  rw [if_pos (by omega),if_pos (by omega)];simp
 unfold atI;rw [e];exact h
theorem zla {α:Type}(xs:List α) (v:α):atI (xs++[v]) (-1)=some v:=by
 have hl:(xs++[v]).length=xs.length + 1:=by simp
 have e:ixN (xs++[v]).length (-1)=some xs.length:=by
  unfold ixN
  rw [hl,if_neg (by decide),if_pos (by omega)]
  congr 1
  omega
 unfold atI
 rw [e]
 show (xs++[v])[xs.length]?=some v
 simp
noncomputable def ziH (b:Expr):Prop:=∀ o i,subscripted b false o i=operate [o,i] (getItem o i)
noncomputable def IxR (X:Cx) (r:R2):Prop:=
 ∀ (value slice:Expr) (pins:List (Addr×Obj)) (s:Shared) (σ:St) (H:Hp) (x y:V) (v u:Value) (Q:VK),Inv X pins σ H s→RelV x v→RelV y u→r x y H Q→
  subscripted slice false v u=operate [v,u] (getItem v u)→wpAny (model X.prog X.w) X.A (subscriptTail value slice v u) (EP X pins σ Q) X.xe s
noncomputable def MtR (X:Cx) (id:String) (r:V→List V→Hp→VK→Prop):Prop:=
 ∀ (pins:List (Addr×Obj)) (s:Shared) (σ:St) (H:Hp) (x:V) (xs:List V) (v:Value) (us:List Value) (Q:VK),Inv X pins σ H s→RelV x v→Vals xs us→r x xs H Q→
  wpAny (model X.prog X.w) X.A (call (.builtin id) (v::us)) (EP X pins σ Q) X.xe s
section
variable {X:Cx}{a b:Expr} {ta tb:TE}{pos:Pos}
theorem IxR.or {r r':R2}(h:IxR X r) (h':IxR X r'):IxR X (fun x y H Q=>r x y H Q∨r' x y H Q):=by
 intro value slice pins s σ H x y v u Q I rx ry q hs
 rcases q with q | q
 ·exact h value slice pins s σ H x y v u Q I rx ry q hs
 ·exact h' value slice pins s σ H x y v u Q I rx ry q hs
theorem pe_ix {r:R2}(hr:IxR X r) (ha:PE X a ta) (hb:PE X b tb) (hs:ziH b):PE X (.Subscript a b pos) (tOp r ta tb):=by
 intro pins s σ H Q I h
 exact Subscript_ (binT ha hb I h fun v u s2 x y H2 I2 rx ry q=>hr a b pins s2 σ H2 x y v u Q I2 rx ry q (hs _ _))
noncomputable def rIxL (K:PySem.W.Frag):R2:=fun x y H Q=>∃ p xs i v,x=.ref p∧y=.int i∧SqL K H p xs∧atI xs i=some v∧Q v H
noncomputable def rIxT (K:PySem.W.Frag):R2:=fun x y H Q=>∃ p xs i v,x=.ref p∧y=.int i∧SqT K H p xs∧atI xs i=some v∧Q v H
noncomputable def rIxS:R2:=fun x y H Q=>∃ z i c,x=.str z∧y=.int i∧z.length≤sizeLine∧atI z.cps.toList i=some c∧Q (.str ⟨#[c]⟩) H
theorem ix_list:IxR X (rIxL X.K):=by
 intro value slice pins s σ H x y v u Q I rx ry h hs
 obtain ⟨p,xs,i,z,rfl,rfl,hq,he,q⟩:=h
 cases rx
 obtain ⟨t,rfl⟩:=ry
 obtain ⟨its,r,pl,hz⟩:=I.list hq
 obtain ⟨j,h1,h2,h3,h4,h5⟩:=zkm he
 obtain ⟨w,ew,rw'⟩:=r.get h2
 have hl:=r.length
 have hn:=zgI
 have fin:EP X pins σ Q w s:=⟨z,H,I,rw',q⟩
 by_cases h0:0≤i
 ·have hj:i.toNat=j:=by
   rw [seqIndex_of h0 h5] at h1
   exact Option.some.inj h1
  exact item_listR pl.isList h0 (by omega) (by rw [hj];simpa using ew) fin hs
 ·have hj:(i + (its.toArray.size:Int)).toNat=j:=by
   rw [seqIndex_neg (by omega) h4] at h1
   rw [List.size_toArray,← hl]
   exact Option.some.inj h1
  exact subscriptTail_builtinR (x:=w) pl.isList.typeIs slot_list_getitem.lookup
   (wpAny_getItem_list_neg (Q:=fun r s'=>r=w∧EP X pins σ Q r s') pl.isList (by omega) (by rw [List.size_toArray]<;>omega) (by omega) (by rw [hj];simpa using ew) ⟨rfl,fin⟩) hs
theorem ix_tup:IxR X (rIxT X.K):=by
 intro value slice pins s σ H x y v u Q I rx ry h hs
 obtain ⟨p,xs,i,z,rfl,rfl,hq,he,q⟩:=h
 cases rx
 obtain ⟨t,rfl⟩:=ry
 obtain ⟨its,r,pl,hz⟩:=I.tuple hq
 obtain ⟨j,h1,h2,h3,h4,h5⟩:=zkm he
 obtain ⟨w,ew,rw'⟩:=r.get h2
 have hl:=r.length
 have hn:=zgI
 have fin:EP X pins σ Q w s:=⟨z,H,I,rw',q⟩
 exact subscriptTail_builtinR (x:=w) pl.typeIs slot_tuple_getitem.lookup
  (getItem_tuple (j:=j) (Q:=fun r s'=>r=w∧EP X pins σ Q r s') pl (by omega) (by omega) (by rw [List.size_toArray,← hl];exact h1) (by simpa using ew) ⟨rfl,fin⟩) hs
theorem ix_str:IxR X rIxS:=by
 intro value slice pins s σ H x y v u Q I rx ry h hs
 obtain ⟨z,i,c,rfl,rfl,hz,he,q⟩:=h
 obtain ⟨t,rfl⟩:=rx
 obtain ⟨t',rfl⟩:=ry
 obtain ⟨j,h1,h2,h3,h4,h5⟩:=zkm he
 have hl:z.cps.toList.length=z.length:=by simp [Str.length]
 rw [hl] at h1 h4 h5
 have hn:=zgI
 exact tail_any (typeIs_str s z t) slot_str_getitem.lookup (getItem_str (c:=c) (by
  have e1:decide (i < -(2 ^ 63:Int))=false:=decide_eq_false (by omega)
  have e2:decide (i ≥ 2 ^ 63)=false:=decide_eq_false (by omega)
  rw [e1,e2,Bool.or_false]) (by rw [h1];simpa using h2) ⟨.str ⟨#[c]⟩,H,I.tok _,⟨_,rfl⟩,q⟩) hs
theorem zlq (its:List Value) (n j:Nat) (u:Value):Obj.mapSeq (·.setIfInBounds j u) { cls:=.type "list",data:=.seq its.toArray n }={ cls:=.type "list",data:=.seq (its.set j u).toArray n }:=by
 simp [Obj.mapSeq]
theorem Inv.lst {pins:List (Addr×Obj)}{σ:St} {H:Hp}{s:Shared} {p:Addr}{xs:List V} (I:Inv X pins σ H s) (h:H p=some (.lst xs)) :
  ∃ (its:List Value) (n:Nat),Vals xs its∧s.heap.get? p=some { cls:=.type "list",data:=.seq its.toArray n }∧xs.length≤sizeLine:=by
 obtain ⟨z,its,n,r,e⟩:=I.hok p _ h
 exact ⟨its,n,r,e,z⟩
theorem Inv.lstUpd {pins:List (Addr×Obj)}{σ:St} {H:Hp}{s:Shared} {p:Addr}{xs ys:List V} {its its':List Value}{n n':Nat} {f:Obj→Obj}(I:Inv X pins σ H s) (h:H p=some (.lst xs))
  (ho:s.heap.get? p=some { cls:=.type "list",data:=.seq its.toArray n }) (hf:f { cls:=.type "list",data:=.seq its.toArray n }={ cls:=.type "list",data:=.seq its'.toArray n' }) (r:Vals ys its') (hz:ys.length≤sizeLine) (t:Nat) :
  Inv X pins σ (upd H p (.lst ys)) { s with heap:=s.heap.update p f,toks:=t }:=by
 have e:(s.heap.update p f).get? p=some { cls:=.type "list",data:=.seq its'.toArray n' }:=by
  rw [Heap.get?_update_self f ho (by rw [hf]<;>rfl),hf]
 refine I.write (x:=p) (e:=p) (by rw [h];trivial) (.inl rfl) (fun b u hb q=>(Heap.get?_update_other _ _ (Ne.symm hb)).trans q) ⟨_,e⟩ ?_
 exact ⟨hz,its',n',r,e⟩
noncomputable def rSetL:V→V→V→Hp→(Hp→Prop)→Prop:=fun o i v H Q=>∃ p xs k j,o=.ref p∧i=.int k∧H p=some (.lst xs)∧ixN xs.length k=some j∧Q (upd H p (.lst (xs.set j v)))
theorem set_list:PSet X rSetL:=by
 intro pins s σ H o i v ov iv u Q I ro ri rv h
 obtain ⟨p,xs,k,j,rfl,rfl,hp,hj,q⟩:=h
 cases ro
 obtain ⟨t,rfl⟩:=ri
 obtain ⟨its,n,r,ho,hz⟩:=I.lst hp
 obtain ⟨h1,h2,h3,h4⟩:=zmR hj
 have hl:=r.length
 have hn:=zgI
 have I':Inv X pins σ (upd H p (.lst (xs.set j v))) { s with heap:=s.heap.update p (Obj.mapSeq (·.setIfInBounds j u)) }:=
  I.lstUpd hp ho (zlq its n j u) (r.set rv j) (by rw [List.length_set];exact hz) s.toks
 by_cases h0:0≤k
 ·have hk:k.toNat=j:=by
   rw [seqIndex_of h0 h4] at h1
   exact Option.some.inj h1
  exact PySem.W.ki_setAt ho h0 (by omega) (by rw [List.size_toArray,← hl];exact h4) (by rw [hk];exact ⟨_,I',q⟩)
 ·have hk:(k + (its.toArray.size:Int)).toNat=j:=by
   rw [seqIndex_neg (by omega) h3] at h1
   rw [List.size_toArray,← hl]
   exact Option.some.inj h1
  exact PySem.W.ki_setBack ho (by omega) (by rw [List.size_toArray,← hl];exact h3) (by omega) (by rw [hk];exact ⟨_,I',q⟩)
theorem ziN (lo hi:Option Int) (n:Nat):(sliceBounds lo hi none n).1=((HT.sIx n 0 lo:Nat):Int)∧(sliceBounds lo hi none n).2.1=((HT.sIx n n hi:Nat):Int)∧(sliceBounds lo hi none n).2.2=1:=by
 refine ⟨?_,?_,rfl⟩
 ·cases lo with
  | none=>simp [sliceBounds,HT.sIx]
  | some i=>
   simp only [sliceBounds,HT.sIx,Option.getD_none,show (1:Int) > 0 by decide,if_true]
   by_cases h:i < 0
   ·simp only [h,if_true]<;>omega
   ·simp only [h,if_false]<;>omega
 ·cases hi with
  | none=>simp [sliceBounds,HT.sIx]
  | some i=>
   simp only [sliceBounds,HT.sIx,Option.getD_none,show (1:Int) > 0 by decide,if_true]
   by_cases h:i < 0
   ·simp only [h,if_true]<;>omega
   ·simp only [h,if_false]<;>omega
theorem zhY (its:List Value) (lo hi:Option Int):slicePick its.toArray lo hi none=((its.drop (HT.sIx its.length 0 lo)).take (HT.sIx its.length its.length hi - HT.sIx its.length 0 lo)).toArray:=by
 obtain ⟨h1,h2,h3⟩:=ziN lo hi its.toArray.size
 unfold slicePick
 rw [h1,h2,h3]
 simp only [sliceRange_one,pick_run,List.size_toArray]<;>rfl
noncomputable def rSlL (K:PySem.W.Frag):V→Option Int→Option Int→Hp→VK→Prop:=fun x lo hi H Q=>∃ a xs,x=.ref a∧SqL K H a xs∧∀ p,H p=none→Q (.ref p) (upd H p (.lst (cutV xs lo hi)))
theorem sl_list:SlR X (rSlL X.K):=by
 intro pins s σ H x v vl vu lo hi sl Q I rx hs pl pu h
 obtain ⟨a,xs,rfl,hx,q⟩:=h
 cases rx
 obtain ⟨its,r,ht,hz⟩:=I.list hx
 have hlen:=r.length
 refine ⟨"list",_,slot_list_getitem.lookup,ht.isList.typeIs,?_⟩
 refine wpAny_getItem_list_slice ht.isList hs pl pu .none (by simp) ?_ (by rw [List.size_toArray]<;>omega)
 rw [zhY,← hlen]
 refine ⟨.ref s.heap.objs.size,_,I.laid (t':=s.toks) (o:=.lst (cutV xs lo hi)) (fun b ob q=>Heap.get?_push_of_some _ q) (Nat.le_refl _) ?_,rfl,q _ (I.hok.fresh (Nat.le_refl _))⟩
 exact ⟨Nat.le_trans (zha xs lo hi) hz,_,0,(r.drop (HT.sIx xs.length 0 lo)).take (HT.sIx xs.length xs.length hi - HT.sIx xs.length 0 lo),Heap.get?_push_size _ rfl⟩
theorem zjA:zeE X (.builtin "len") (fun xs H Q=>∃ p ys,xs=[.ref p]∧(SqL X.K H p ys∨SqT X.K H p ys)∧Q (.int ys.length) H):=by
 intro pins s σ H xs us Q I r h
 obtain ⟨p,ys,rfl,hq,q⟩:=h
 obtain ⟨u,rfl,rx⟩:=zeN r
 cases rx
 have hn:=zgI
 rcases hq with hq | hq
 ·obtain ⟨its,r',pl,hz⟩:=I.list hq
  have hlen:=r'.length
  exact Calls.call_len_list pl.isList (by simp only [List.size_toArray]<;>omega) ⟨.int ys.length,H,I.tok _,⟨s.toks + 1,by rw [List.size_toArray,hlen]⟩,q⟩
 ·obtain ⟨its,r',pl,hz⟩:=I.tuple hq
  have hlen:=r'.length
  exact len_tuple pl (by simp only [List.size_toArray]<;>omega) ⟨.int ys.length,H,I.tok _,⟨s.toks + 1,by rw [List.size_toArray,hlen]⟩,q⟩
theorem zjz:zeE X (.builtin "len") (fun xs H Q=>∃ z,xs=[.str z]∧z.length≤sizeLine∧Q (.int z.length) H):=by
 intro pins s σ H xs us Q I r h
 obtain ⟨z,rfl,hz,q⟩:=h
 obtain ⟨u,rfl,t,rfl⟩:=zeN r
 have hn:=zgI
 exact len_str (by omega) ⟨.int z.length,H,I.tok _,⟨_,rfl⟩,q⟩
theorem zeE.or {f:Value}{r r':List V→Hp→VK→Prop} (h:zeE X f r) (h':zeE X f r'):zeE X f (fun xs H Q=>r xs H Q∨r' xs H Q):=by
 intro pins s σ H xs us Q I rs q
 rcases q with q | q
 ·exact h pins s σ H xs us Q I rs q
 ·exact h' pins s σ H xs us Q I rs q
theorem zjy:zeE X (.type "list") (fun xs H Q=>∃ p ys,xs=[.ref p]∧(SqL X.K H p ys∨SqT X.K H p ys)∧∀ l,H l=none→Q (.ref l) (upd H l (.lst ys))):=by
 intro pins s σ H xs us Q I r h
 obtain ⟨p,ys,rfl,hq,q⟩:=h
 obtain ⟨u,rfl,rx⟩:=zeN r
 cases rx
 have fin:∀ (its:List Value),Vals ys its→ys.length≤sizeLine→∀ (h':Heap) (c':Nat),(∀ b o',s.heap.get? b=some o'→h'.get? b=some o')→
   h'.get? s.heap.objs.size=some { cls:=.type "list",dict:=none,data:=.seq its.toArray c',slots:=#[] }→EP X pins σ Q (.ref s.heap.objs.size) { s with heap:=h' }:=fun its r' hz h' c' kp e=>
  ⟨.ref s.heap.objs.size,_,I.laid (t':=s.toks) kp (Nat.le_refl _) (show zcg X.prog X.w _ h' _ (.lst ys) from ⟨hz,its,c',r',e⟩),rfl,q _ (I.hok.fresh (Nat.le_refl _))⟩
 rcases hq with hq | hq
 ·obtain ⟨its,r',pl,hz⟩:=I.list hq
  have hlen:=r'.length
  obtain ⟨o,ho,hc,n,hd⟩:=pl.isList
  exact call_list_seq p (.inl rfl) ho hc hd (fun h' c' kp e=>fin its r' hz h' c' kp e) (by simp only [List.size_toArray]<;>omega)
 ·obtain ⟨its,r',pl,hz⟩:=I.tuple hq
  have hlen:=r'.length
  obtain ⟨o,ho,hc,n,hd⟩:=pl
  exact call_list_seq p (.inr rfl) ho hc hd (fun h' c' kp e=>fin its r' hz h' c' kp e) (by simp only [List.size_toArray]<;>omega)
theorem ziy:zeE X (.type "tuple") (fun xs H Q=>∃ p ys,xs=[.ref p]∧((SqL X.K H p ys∧∀ l,H l=none→Q (.ref l) (upd H l (.tup ys)))∨(SqT X.K H p ys∧Q (.ref p) H))):=by
 intro pins s σ H xs us Q I r h
 obtain ⟨p,ys,rfl,h⟩:=h
 obtain ⟨u,rfl,rx⟩:=zeN r
 cases rx
 rcases h with ⟨hq,q⟩ | ⟨hq,q⟩
 ·obtain ⟨its,r',pl,hz⟩:=I.list hq
  have hlen:=r'.length
  refine call_tuple_list pl.isList (fun h' kp=>?_) (by simp only [List.size_toArray]<;>omega)
  have I1:Inv X pins σ H { s with heap:=h' }:=I.kept (t':=s.toks) kp
  have I2:Inv X pins σ (upd H h'.objs.size (.tup ys)) { s with heap:=h'.push { cls:=.type "tuple",data:=.seq its.toArray } }:=
   I1.laid (t':=s.toks) (fun b o e=>Heap.get?_push_of_some _ e) (Nat.le_refl _) (show zcg X.prog X.w _ _ _ (.tup ys) from ⟨hz,its,r',IsTup.new _ _⟩)
  exact ⟨.ref h'.objs.size,_,I2,rfl,q _ (I1.hok.fresh (Nat.le_refl _))⟩
 ·obtain ⟨its,r',pl,hz⟩:=I.tuple hq
  exact call_tuple_same pl ⟨.ref p,H,I,rfl,q⟩
noncomputable def tyV (K:PySem.W.Frag) (T:String) (x:V) (H:Hp):Prop:=match x with
 | .str _=>T = "str"
 | .int _=>T = "int"
 | .ref p=>(T = "list" ∧ ∃ xs,SqL K H p xs)∨(T = "tuple" ∧ ∃ o,K.lookup p=some o∧o.cls=.type "tuple" ∧ o.dict=none)∨
   (T = "dict" ∧ ((∃ kvs,H p=some (.dK kvs))∨∃ kvs,H p=some (.dT kvs)))∨(T = "set" ∧ ∃ S n,H p=some (.set S n))
 | _=>False
theorem tyV_is {pins:List (Addr×Obj)}{σ:St} {H:Hp}{s:Shared} {T:String}{x:V} {v:Value}(I:Inv X pins σ H s) (r:RelV x v) (ty:tyV X.K T x H) :
  s.TypeIs v T∧∀ a,v=.ref a→∃ ob,s.heap.get? a=some ob∧ob.dict=none:=by
 cases x with
 | str z=>
  obtain ⟨t,rfl⟩:=r
  cases (show T = "str" from ty)
  exact ⟨typeIs_str s z t,fun _ e=>nomatch e⟩
 | int i=>
  obtain ⟨t,rfl⟩:=r
  cases (show T = "int" from ty)
  exact ⟨typeIs_int s i t,fun _ e=>nomatch e⟩
 | ref p=>
  cases r
  rcases ty with ⟨rfl,xs,hq⟩ | ⟨rfl,o,hk,hc,hd⟩ | ⟨rfl,hk⟩ | ⟨rfl,S,n,hk⟩
  ·obtain ⟨its,_,pl,_⟩:=I.list hq
   refine ⟨pl.isList.typeIs,fun a e=>?_⟩
   cases e
   obtain ⟨o,n,e,c,hd,_⟩:=pl
   exact ⟨o,e,hd⟩
  ·refine ⟨⟨o,I.kIn p o hk,hc⟩,fun a e=>?_⟩
   cases e
   exact ⟨o,I.kIn _ o hk,hd⟩
  ·have z:∃ o,s.heap.get? p=some o∧o.ExactDict:=by
    rcases hk with ⟨kvs,hk⟩ | ⟨kvs,hk⟩
    ·obtain ⟨_,_,_,_,o,_,_,e,ex,_⟩:=I.hok p _ hk
     exact ⟨o,e,ex⟩
    ·obtain ⟨_,_,_,_,o,_,_,e,ex,_⟩:=I.hok p _ hk
     exact ⟨o,e,ex⟩
   obtain ⟨o,e,ex⟩:=z
   refine ⟨⟨o,e,ex.1⟩,fun a e2=>?_⟩
   cases e2
   exact ⟨o,e,ex.2.1⟩
  ·obtain ⟨o,_,_,_,e,ex,_⟩:=I.hok p _ hk
   refine ⟨⟨o,e,ex.1⟩,fun a e2=>?_⟩
   cases e2
   exact ⟨o,e,ex.2.1⟩
 | _=>exact False.elim ty
noncomputable def tBM0 (K:PySem.W.Frag) (T:String) (r:V→List V→Hp→VK→Prop) (to:TE):TE:=fun σ H Q=>to σ H fun x H1=>tyV K T x H1∧r x [] H1 Q
noncomputable def tBM (K:PySem.W.Frag) (T:String) (r:V→List V→Hp→VK→Prop) (to:TE) (t:TA):TE:=fun σ H Q=>to σ H fun x H1=>tyV K T x H1∧t σ H1 fun xs H2=>r x xs H2 Q
variable {o e:Expr}{es:List Expr} {to:TE}{t:TA} {name:Str}{apos cpos:Pos} {T id:String}{r:V→List V→Hp→VK→Prop}
theorem pe_bm0 (pa:PlainAttrs T) (slot:Slot T name id) (hty:typeOf (.builtin id)=pure (.type "method_descriptor")) (hm:MtR X id r) (ho:PE X o to)
  (hbase:attributeBase o name X.env (eval o X.env)=eval o X.env:=by rfl) (hline:(apos.endLine == cpos.line)=true:=by rfl):PE X (.Call (.Attribute o name apos) [] [] cpos) (tBM0 X.K T r to):=by
 intro pins s σ H Q I h
 refine wpAny_Call_method0_late hbase hline (thn (ho pins s σ H _ I h) fun v s1 ⟨x,H1,I1,r1,ty,q1⟩=>?_)
 obtain ⟨h1,h2⟩:=tyV_is I1 r1 ty
 exact ⟨T,id,pa,slot,hty,h1,h2,Calls.callWith_builtin rfl (PySem.evalArgs_none (hm pins s1 σ H1 x [] v [] Q I1 r1 .nil q1))⟩
theorem pe_bm (pa:PlainAttrs T) (slot:Slot T name id) (hty:typeOf (.builtin id)=pure (.type "method_descriptor")) (hm:MtR X id r) (ho:PE X o to) (ha:PA X (e::es) t)
  (hbase:attributeBase o name X.env (eval o X.env)=eval o X.env:=by rfl)
  (hfew:((backTo cpos (starEach (e::es) X.env)).all (fun x=>!x.1) && (backToKw cpos (keywordEach [] X.env)).all (fun x=>x.1.isSome)
   && decide ((e::es).length + ([]:List Keyword).length + (if ([]:List Keyword).isEmpty then 0 else 1) < 30))=true:=by rfl)
  (hline:(apos.endLine == cpos.line)=true:=by rfl) (hs:starEach (e::es) X.env=(false,eval e X.env)::starEach es X.env:=by rfl) (hplain:(backTo cpos (starEach es X.env)).any (·.1)=false:=by rfl) :
  PE X (.Call (.Attribute o name apos) (e::es) [] cpos) (tBM X.K T r to t):=by
 intro pins s σ H Q I h
 refine wpAny_Call_method_late hbase hfew hline rfl (thn (ho pins s σ H _ I h) fun v s1 ⟨x,H1,I1,r1,ty,q1⟩=>?_)
 obtain ⟨h1,h2⟩:=tyV_is I1 r1 ty
 refine ⟨T,id,pa,slot,hty,h1,h2,?_⟩
 have hA:=ha cpos pins s1 σ H1 _ I1 q1
 rw [hs] at hA ⊢
 refine Calls.callWith_builtin (by show (false || (backTo cpos (starEach es X.env)).any (·.1))=false;rw [hplain]<;>rfl) (Calls.evalArgs_plain ?_)
 exact thn hA fun us s2 ⟨vs,H2,I2,r2,q2⟩=>hm pins s2 σ H2 x vs v us Q I2 r1 r2 q2
/- xs.append(e),list.index on a module's tuple .. are MtR facts of 06m -/
end
end L2
namespace L2
open PySem PySem.Spec PyProof.Rows
noncomputable def MtM (X:Cx) (id:String) (r:V→List V→Hp→VK→Prop):Prop:=
 ∀ (pins:List (Addr×Obj)) (s:Shared) (σ:St) (H:Hp) (x:V) (xs:List V) (v:Value) (us:List Value) (Q:VK),Inv X pins σ H s→RelV x v→Vals xs us→r x xs H Q→
  wpAny (model X.prog X.w) X.A (call (.builtin id) (v::us)) (EP X pins σ Q) X.xe s
theorem Vals.one:∀ {x:V}{us:List Value},Vals [x] us→∃ u,us=[u]∧RelV x u
 | _,_,.cons r .nil=>⟨_,rfl,r⟩
theorem Vals.zero:∀ {us:List Value},Vals [] us→us=[]
 | _,.nil=>rfl
theorem Vals.dropLast {xs:List V}{us:List Value} (h:Vals xs us):Vals xs.dropLast us.dropLast:=by
 induction h with
 | nil=>exact .nil
 | cons r t ih=>
  cases t with
  | nil=>exact .nil
  | cons q t'=>exact .cons r ih
theorem Vals.eraseIdx:∀ {xs:List V}{us:List Value} (i:Nat),Vals xs us→Vals (xs.eraseIdx i) (us.eraseIdx i)
 | _,_,_,.nil=>.nil
 | _,_,0,.cons _ t=>t
 | _,_,i + 1,.cons r t=>.cons r (Vals.eraseIdx i t)
theorem Vals.reverse {xs:List V}{us:List Value} (h:Vals xs us):Vals xs.reverse us.reverse:=by
 induction h with
 | nil=>exact .nil
 | cons r t ih=>rw [List.reverse_cons,List.reverse_cons];exact Vals.append ih (.cons r .nil)
theorem zlz {α:Type}(l:List α):l.eraseIdx (l.length - 1)=l.dropLast:=by
 induction l with
 | nil=>rfl
 | cons a r ih=>
  cases r with
  | nil=>rfl
  | cons b r=>
   have e:(a::b::r).length - 1=((b::r).length - 1) + 1:=by
    have h1:(a::b::r).length=r.length + 2:=rfl
    have h2:(b::r).length=r.length + 1:=rfl
    omega
   rw [e,List.eraseIdx_cons_succ,ih]
   all_goals rfl
theorem zjk {α:Type}:∀ (l:List α) (i:Nat),(l.eraseIdx i).length≤l.length
 | [],_=>Nat.le_refl _
 | _::_,0=>Nat.le_succ _
 | _::r,i + 1=>Nat.succ_le_succ (zjk r i)
section
variable {X:Cx}{pins:List (Addr×Obj)} {σ:St}{H:Hp} {s:Shared}{l b:Addr} {xs ys zs:List V}
theorem Inv.lset {its its':List Value}{n:Nat} {f:Array Value→Array Value}{t':Nat} (I:Inv X pins σ H s) (hH:H l=some (.lst xs))
  (e:s.heap.get? l=some { cls:=.type "list",data:=.seq its.toArray n }) (hf:f its.toArray=its'.toArray) (hv:Vals ys its') (hz:ys.length≤sizeLine) :
  Inv X pins σ (upd H l (.lst ys)) { s with heap:=s.heap.update l (Obj.mapSeq f),toks:=t' }:=by
 have q:=PySem.IsL.update e f
 rw [hf] at q
 refine I.write (x:=l) (e:=l) (by rw [hH];exact trivial) (.inl rfl) (fun b' u hb hu=>(Heap.get?_update_other s.heap (Obj.mapSeq f) (Ne.symm hb)).trans hu) ⟨_,q⟩ ?_
 exact ⟨hz,its',_,hv,q⟩
theorem Inv.lnew {its:List Value}{t':Nat} (I:Inv X pins σ H s) (hv:Vals ys its) (hz:ys.length≤sizeLine) :
  Inv X pins σ (upd H s.heap.objs.size (.lst ys)) { s with heap:=s.heap.push { cls:=.type "list",data:=.seq its.toArray },toks:=t' }:=
 I.laid (fun _ _ q=>Heap.get?_push_of_some _ q) (Nat.le_refl _) ⟨hz,its,0,hv,Heap.get?_push_size _ rfl⟩
theorem Inv.fresh (I:Inv X pins σ H s):H s.heap.objs.size=none:=I.hok.fresh (Nat.le_refl _)
theorem Inv.lstM (I:Inv X pins σ H s) (hH:H l=some (.lst xs)):xs.length≤sizeLine∧∃ (its:List Value) (n:Nat),Vals xs its∧xs.length=its.length∧s.heap.get? l=some { cls:=.type "list",data:=.seq its.toArray n }:=by
 obtain ⟨z,its,n,r,e⟩:=I.hok l _ hH
 exact ⟨z,its,n,r,r.length,e⟩
theorem notLongL {n:Nat}(h:n≤sizeLine):Builtin.List.listTooLong n=false:=by
 unfold Builtin.List.listTooLong
 exact decide_eq_false (by omega)
end
section
variable {X:Cx}
noncomputable def rAppend:V→List V→Hp→VK→Prop:=fun x vs H Q=>∃ l xs y,x=.ref l∧vs=[y]∧H l=some (.lst xs)∧xs.length < sizeLine∧Q .non (upd H l (.lst (xs++[y])))
theorem zgB:MtM X "list.append" rAppend:=by
 intro pins s σ H x vs v us Q I rx rv h
 obtain ⟨l,xs,y,rfl,rfl,hH,hz,q⟩:=h
 cases rx
 obtain ⟨u,rfl,ru⟩:=rv.one
 obtain ⟨z,its,n,r,hl,e⟩:=I.lstM hH
 refine call_meets F.slot_list_append ⟨_,e,rfl⟩ F.entry_list_append (F.args_list_append_2 _ _) (PySem.list_append l its.toArray n u (by rw [List.size_toArray];omega)) ⟨e,?_⟩
 refine ⟨.non,_,I.lset (its':=its++[u]) hH e (by simp) (r.append (.cons ru .nil)) ?_,rfl,q⟩
 rw [List.length_append,List.length_singleton]
 omega
noncomputable def rExtend:V→List V→Hp→VK→Prop:=fun x vs H Q=>∃ l b xs zs,x=.ref l∧vs=[.ref b]∧H l=some (.lst xs)∧H b=some (.lst zs)∧xs.length + zs.length≤sizeLine∧Q .non (upd H l (.lst (xs++zs)))
theorem zmK:MtM X "list.extend" rExtend:=by
 intro pins s σ H x vs v us Q I rx rv h
 obtain ⟨l,b,xs,zs,rfl,rfl,hH,hB,hz,q⟩:=h
 cases rx
 obtain ⟨u,rfl,ru⟩:=rv.one
 cases ru
 obtain ⟨z,its,n,r,hl,e⟩:=I.lstM hH
 obtain ⟨z2,its2,n2,r2,hl2,e2⟩:=I.lstM hB
 have hsz:its.toArray.size + its2.toArray.size≤sizeLine:=by rw [List.size_toArray,List.size_toArray];omega
 have hlong:¬ (!its.toArray.isEmpty && Builtin.List.listTooLong (its.toArray.size + its2.toArray.size))=true:=by
  rw [notLongL hsz,Bool.and_false]
  exact Bool.false_ne_true
 refine call_meets F.slot_list_extend ⟨_,e,rfl⟩ F.entry_list_extend (F.args_list_extend_2 _ _)
  (AutoSeq1.list_extend_list_list_0 l its.toArray n b its2.toArray n2 hlong (by rw [List.size_toArray];omega) (by omega)) ⟨e,e2,?_⟩
 refine ⟨.non,_,I.lset (its':=its++its2) hH e (by simp) (r.append r2) ?_,rfl,q⟩
 rw [List.length_append]
 omega
noncomputable def rPop:V→List V→Hp→VK→Prop:=fun x vs H Q=>∃ l xs y,x=.ref l∧vs=[]∧H l=some (.lst xs)∧xs[xs.length - 1]?=some y∧Q y (upd H l (.lst xs.dropLast))
theorem mt_pop:MtM X "list.pop" rPop:=by
 intro pins s σ H x vs v us Q I rx rv h
 obtain ⟨l,xs,y,rfl,rfl,hH,hy,q⟩:=h
 cases rx
 have hus:=rv.zero
 subst hus
 obtain ⟨z,its,n,r,hl,e⟩:=I.lstM hH
 obtain ⟨u,hu,ru⟩:=r.get hy
 have hy':its.toArray[its.toArray.size - 1]?=some u:=by
  show its.toArray[its.length - 1]?=some u
  rw [← Array.getElem?_toList,← hl]
  exact hu
 refine call_meets F.slot_list_pop ⟨_,e,rfl⟩ F.entry_list_pop (F.args_list_pop_1 _) (MeetsSeq.list_pop_last l its.toArray n u hy' (by rw [List.size_toArray];omega)) ⟨e,?_⟩
 refine ⟨y,_,I.lset (its':=its.dropLast) hH e ?_ r.dropLast ?_,ru,q⟩
 ·show its.toArray.eraseIdxIfInBounds (its.toArray.size - 1)=its.dropLast.toArray
  rw [List.size_toArray,List.eraseIdxIfInBounds_toArray,zlz]
 ·rw [List.length_dropLast]
  omega
noncomputable def rPopAt:V→List V→Hp→VK→Prop:=fun x vs H Q=>∃ l xs i k y,x=.ref l∧vs=[.int i]∧H l=some (.lst xs)∧-(2 ^ 63)≤i∧i < 2 ^ 63∧seqIndex? i xs.length=some k∧xs[k]?=some y∧Q y (upd H l (.lst (xs.eraseIdx k)))
theorem mt_popAt:MtM X "list.pop" rPopAt:=by
 intro pins s σ H x vs v us Q I rx rv h
 obtain ⟨l,xs,i,k,y,rfl,rfl,hH,h1,h2,hk,hy,q⟩:=h
 cases rx
 obtain ⟨u,rfl,ru⟩:=rv.one
 obtain ⟨t,rfl⟩:=ru
 obtain ⟨z,its,n,r,hl,e⟩:=I.lstM hH
 obtain ⟨w,hw,rw'⟩:=r.get hy
 refine call_meets F.slot_list_pop ⟨_,e,rfl⟩ F.entry_list_pop (F.args_list_pop_2 _ _)
  (MeetsSeq.list_pop_at l its.toArray n i t k w (fitsIndex_both h1 h2) (by rw [List.size_toArray,← hl];exact hk) (by rw [← Array.getElem?_toList];exact hw) (by rw [List.size_toArray];omega)) ⟨e,?_⟩
 refine ⟨y,_,I.lset (its':=its.eraseIdx k) hH e ?_ (r.eraseIdx k) ?_,rw',q⟩
 ·show its.toArray.eraseIdxIfInBounds k=(its.eraseIdx k).toArray
  rw [List.eraseIdxIfInBounds_toArray]
 ·have:=zjk xs k
  omega
noncomputable def rClear:V→List V→Hp→VK→Prop:=fun x vs H Q=>∃ l xs,x=.ref l∧vs=[]∧H l=some (.lst xs)∧Q .non (upd H l (.lst []))
theorem mt_clear:MtM X "list.clear" rClear:=by
 intro pins s σ H x vs v us Q I rx rv h
 obtain ⟨l,xs,rfl,rfl,hH,q⟩:=h
 cases rx
 have hus:=rv.zero
 subst hus
 obtain ⟨z,its,n,r,hl,e⟩:=I.lstM hH
 refine call_meets F.slot_list_clear ⟨_,e,rfl⟩ F.entry_list_clear (F.args_list_clear_1 _) (AutoSeq1.list_clear_list_0 l its.toArray n (by rw [List.size_toArray];omega)) ⟨e,?_⟩
 exact ⟨.non,_,I.lset (its':=[]) (ys:=[]) hH e rfl .nil (Nat.zero_le _),rfl,q⟩
noncomputable def rCat:R2:=fun x y H Q=>∃ l b xs zs,x=.ref l∧y=.ref b∧H l=some (.lst xs)∧H b=some (.lst zs)∧xs.length + zs.length≤sizeLine∧∀ p,H p=none→Q (.ref p) (upd H p (.lst (xs++zs)))
theorem op_cat:OpR X (binaryOp .Add) rCat:=by
 intro pins s σ H x y v u Q I rx ry h
 obtain ⟨l,b,xs,zs,rfl,rfl,hH,hB,hz,q⟩:=h
 cases rx
 cases ry
 obtain ⟨z,its,n,r,hl,e⟩:=I.lstM hH
 obtain ⟨z2,its2,n2,r2,hl2,e2⟩:=I.lstM hB
 refine PySem.P.add_list e e2 ?_ (by rw [List.size_toArray,List.size_toArray];omega)
 have ea:its.toArray++its2.toArray=(its++its2).toArray:=by simp
 rw [ea]
 exact ⟨.ref _,_,I.lnew (t':=s.toks) (r.append r2) (by rw [List.length_append];omega),rfl,q _ I.fresh⟩
end
section
variable {prog:Program}{w:World} {A:Around}{E:Value→Shared→Prop} {s:Shared}
end
section
variable {X:Cx}
end
end L2
namespace Att
open PySem PySem.W PySem.Calls PyProof.Rows
theorem zgN {P:Params}{h:Heap}:∀ (ns:List Int) (vs:List Value),WellAll P h vs (ns.map WData.int)→IntsAre vs ns:=by
 intro ns
 induction ns with
 | nil=>
  intro vs w
  rw [List.map_nil] at w
  cases w
  exact .nil
 | cons n ns ih=>
  intro vs w
  rw [List.map_cons] at w
  cases w with
  | cons a b=>
   cases a
   exact .cons _ _ (ih _ b)
theorem zlZ {l:OpenLaw}{n:Nat} (hn:l.most=some n) {P:Params}{h:Heap} {args:List WData}{vals:List Value}
  (hpre:l.row.toRowW.claim.pre args=true) (hwl:WellAll P h vals args) :
  ∃ a vs ns,vals=[Value.ref a]∧args=[WData.list (ns.map WData.int)]∧h.get? a=some { cls:=.type "list",data:=.seq vs.toArray }∧IntsAre vs ns∧ns.length≤n:=by
 have hsh:WShape.hasAll [] args [.list .int]=true:=(pre_splitW hpre).1
 have hc:l.pre.holds [] { args:=args }=true:=(pre_splitW hpre).2
 obtain ⟨d,r,rfl,h1,h2⟩:=hasAllW_cons hsh
 obtain rfl:=hasAllW_nil h2
 obtain ⟨xs,rfl,h3⟩:=hasW_list h1
 obtain ⟨ns,rfl⟩:=items_int h3
 have hlen:ns.length≤n:=by
  unfold OpenLaw.pre at hc
  have h4:(WTm.not (.lt (.lit (.int (n:Int))) (.len (.arg 0)))).holds [] { args:=[.list (ns.map .int)] }=true:=by
   have h4:=(holds_andW hc).1
   rw [hn] at h4
   exact h4
  have h5:=condW_of h4 (w_not (w_lt w_lit (w_len_list (w_arg rfl))))
  rw [List.length_map] at h5
  refine Nat.le_of_not_lt fun q=>?_
  have q':(n:Int) < ((ns.length:Nat):Int):=by omega
  first
   | (rw [decide_eq_true q'] at h5;exact absurd h5 (by decide))
   | (simp at h5;omega)
 cases hwl with
 | cons w1 w2=>
  cases w2
  cases w1 with
  | list ho hall=>exact ⟨_,_,ns,rfl,rfl,ho,zgN ns _ hall,hlen⟩
theorem zmh (l:OpenLaw) (args:List WData):l.row.toRowW.claim.post args (.bool true) args=true:=
 postW_of (r:=l.row.toRowW) (X:=(true == true))
  (show WShape.has [] (.bool true) .bool=true by first | rfl | decide | simp [WShape.has,WShape.arms,WShape.armsAll])
  (show (WTm.eq .res (.lit (.bool true))).value [] { args:=args,res:=some (.bool true),after:=args }=some (.bool (true == true)) from w_eq_bool (w_res rfl) w_lit) rfl
theorem attach_call {l:OpenLaw}{n:Nat} {q:Program}{loose:List Str} {XP:(Str→Option Value)→Heap→Prop}{YP:World→Heap→Prop} {d:DefRec}
  (hn:l.most=some n) (hdf:d.params.defaults=[])
  (call:∀ (w:World) (s₀ s₁:Shared) (mg mb:Str→Option Value) (fa:Addr) (o:Obj) (pm cd doc:Value) (a:Addr) (vs:List Value) (ns:List Int),
   Ground q loose [] XP w s₀ mg mb s₁.heap→YP w s₁.heap→
   s₁.heap.get? fa=some o→o.data=.func (docDef d.name d.params d.body d.scope pm cd doc)→s₁.heap.CodeRec cd d.name→mg d.name=some (.ref fa)→
   s₁.heap.get? a=some { cls:=.type "list",data:=.seq vs.toArray }→IntsAre vs ns→ns.length≤n→s₁.gens=#[]→
   codeAny (model l.prog w) callerA (.call (.ref fa) ⟨[.ref a],[]⟩) (fun r s'=>r=.ok (.ret (.bool true))∧OldK s₁.heap s'.heap∧s'.os=s₁.os∧AllBare s'.gens) s₁) :
  WalkO q loose XP YP l.row.toRowW d [] (fun f vs=>PySem.call f vs):=by
 intro w s₀ s₁ mg mb G Y fa o pm cd doc dV kV ho hd hcd hD hmg hg args vals as hpre hlay hrd hwl hlo
 obtain rfl:dV=.none:=Dflts.none hD hdf
 obtain rfl:kV=.none:=Dflts.noKw hD
 obtain ⟨a,vs,ns,rfl,rfl,hobj,hints,hlen⟩:=zlZ hn hpre hwl
 refine enter_call (codeAny_mono (call w s₀ s₁ mg mb fa o pm cd doc a vs ns G Y ho (fd_plain hd) hcd hmg hobj hints hlen hg) fun r s' hq=>?_)
 obtain ⟨rfl,h2,h3,h4⟩:=hq
 exact ⟨.inl ⟨.bool true,.bool true,[],rfl,fun _=>rfl,.bool true,zmh l _,fun _=>⟨List.Pairwise.nil,fun _ hm=>(nomatch hm)⟩⟩,h2,h3,h4⟩
section
variable {prog:Program}{w:World} {A:Around}{E:Value→Shared→Prop} {s:Shared}{K:Frag}
end
end Att
namespace L2
open PySem PySem.Spec PyProof.Rows
theorem zfl:∀ {vs:List Value}{ns:List Int},IntsAre vs ns→Vals (ns.map V.int) vs
 | _,_,.nil=>.nil
 | _,_,.cons n t h=>.cons ⟨t,rfl⟩ (zfl h)
noncomputable def Only (H:Hp):Prop:=∀ b,H b=none∨∃ o xs,H b=some (.frz o (.lst xs))
theorem law_call {P:Program}{w:World} {K:PySem.W.Frag}{mg mb:Str→Option Value} {CX:CXT}{k:Nat} {fa a:Addr}{fd:FuncData} {x:Str}{sp:Sp} {s₁:Shared}{vs:List Value} {ns:List Int}
  (KX:K.In s₁.heap) (hns:s₁.heap.Ns mainGlobals mg) (hb:s₁.heap.Ns builtinsNs mb) (hbb:∀ x:Str,x ≠ "__name__" → mb x=bootBuiltins x) (hlim:s₁.heap.NoLimit) (hg:s₁.gens=#[])
  (ha:s₁.heap.get? a=some { cls:=.type "list",data:=.seq vs.toArray }) (hi:IntsAre vs ns) (hl:ns.length≤sizeLine) (hr:Room k callerA)
  (F:∀ base:Heap,K.In base→base.Ns mainGlobals mg→FnOk P w K mg base CX k fa fd [x] sp) (hbind:∀ (s:Shared) (u:Value),BindsTo s fd ⟨[u],[]⟩ [(x,u)])
  (hsp:∀ H:Hp,Only H→SqL K H a (ns.map V.int)→sp [.ref a] H (fun v _=>v=.bl true) fun _ _ _=>False)
  (hCX:∀ H e s',CX [] H s₁ (fun _ _ _=>False) e s'→False) :
  codeAny (model P w) callerA (.call (.ref fa) ⟨[.ref a],[]⟩) (fun r s'=>r=.ok (.ret (.bool true))∧OldK s₁.heap s'.heap∧s'.os=s₁.os∧AllBare s'.gens) s₁:=by
 have rv:=zfl hi
 have lenV:=hi.length
 have core:∀ H:Hp,Only H→SqL K H a (ns.map V.int)→HOk P w H s₁.heap→(∀ b,H b≠none→b=a)→(H a≠none→K.lookup a=none)→
   codeAny (model P w) callerA (.call (.ref fa) ⟨[.ref a],[]⟩) (fun r s'=>r=.ok (.ret (.bool true))∧OldK s₁.heap s'.heap∧s'.os=s₁.os∧AllBare s'.gens) s₁:=by
  intro H hO hS hok hA hK
  have base_of:∀ {b:Addr}{o:Obj},s₁.heap.get? b=some o→H b=none→(hidT s₁.heap H).get? b=some o:=fun e n=>hidT_get e n
  have noA:∀ {b:Addr}{o:Obj} {es:Array DictEntry}{ep:Nat},s₁.heap.get? b=some o→o.data=.dict es ep→H b=none:=fun {b o es ep} e d=>by
   cases q:H b with
   | none=>rfl
   | some u=>
    have e':b=a:=hA b (by rw [q];simp)
    subst e'
    rw [ha] at e;cases e
    have d':Data.seq vs.toArray _=Data.dict es ep:=d
    cases d'
  have nsK:∀ {b:Addr}{m:Str→Option Value},s₁.heap.Ns b m→(hidT s₁.heap H).Ns b m:=fun {b m} ⟨o,es,ep,e,d,r⟩=>⟨o,es,ep,base_of e (noA e d),d,r⟩
  have hKb:K.In (hidT s₁.heap H):=fun b o e=>base_of (KX b o e) (by
   cases q:H b with
   | none=>rfl
   | some u=>
    have e':b=a:=hA b (by rw [q];simp)
    subst e'
    rw [hK (by rw [q];simp)] at e;cases e)
  have hM:Mod K mg (hidT s₁.heap H):=⟨hKb,nsK hns,⟨mb,nsK hb,hbb⟩,let ⟨mc,h1,h2⟩:=hlim;⟨mc,nsK h1,h2⟩⟩
  have e0:Env0 P w K mg (hidT s₁.heap H) callerA [] s₁ H:=⟨rfl,hM,fun b o e=>of_hidT e,Nat.le_of_eq (zmW _ _),trivial,fun b hb=>absurd (show b∈([]:List Addr) from hb) (by simp),hok,.of_eq hg⟩
  refine codeAny_mono ((F _ hKb (nsK hns)).run callerA [] s₁ H ⟨[.ref a],[]⟩ [.ref a] [.ref a] _ _ hr e0 (hbind s₁ (.ref a)) (.cons rfl .nil) (hsp H hO hS)) fun r s' h=>?_
  cases r with
  | error e=>exact (hCX H e s' h).elim
  | ok fl=>
   cases fl with
   | next=>exact False.elim h
   | brk=>exact False.elim h
   | cont=>exact False.elim h
   | ret u=>
    obtain ⟨v,H',os,bare,un,hok',r',q⟩:=h
    have q':v=.bl true:=q
    subst q'
    obtain rfl:u=Value.bool true:=r'
    refine ⟨rfl,OldK.of_keep fun b o e=>?_,os,bare⟩
    cases q:H b with
    | none=>exact un.keep b o e q (by intro z;exact absurd (show b∈([]:List Addr) from z) (by simp)) (by simp)
    | some u=>
     rcases hO b with z | ⟨ob,xs,z⟩
     ·rw [q] at z;cases z
     ·have z2:=un.frzs b ob _ z
      obtain ⟨e1,_⟩:=hok b _ z
      obtain ⟨e2,_⟩:=hok' b _ z2
      rw [e] at e1;cases e1
      exact e2
 cases hk:K.lookup a with
 | some o=>
  have e:=KX a o hk
  rw [ha] at e
  cases e
  refine core (fun _=>none) (fun _=>.inl rfl) (.inr ⟨_,vs.toArray,_,hk,rfl,rfl,rfl,by rw [List.size_toArray,lenV];exact hl,by simpa using rv⟩) (fun b u z=>by have z':(none:Option HO)=some u:=z;cases z') (fun b z=>absurd rfl z) fun z=>absurd rfl z
 | none=>
  refine core (fun b=>if b=a then some (.frz { cls:=.type "list",data:=.seq vs.toArray } (.lst (ns.map V.int))) else none) (fun b=>?_) (.inl (.inr ⟨{ cls:=.type "list",data:=.seq vs.toArray },if_pos rfl⟩)) (fun b u z=>?_) (fun b z=>?_) fun _=>hk
  ·by_cases hb:b=a
   ·exact .inr ⟨_,_,if_pos hb⟩
   ·exact .inl (if_neg hb)
  ·by_cases hb:b=a
   ·have z':=(if_pos hb).symm.trans z
    cases z'
    subst hb
    exact ⟨ha,by rw [List.length_map];exact hl,vs,_,rv,ha⟩
   ·have z':=(if_neg hb).symm.trans z
    cases z'
  ·by_cases hb:b=a
   ·exact hb
   ·exact absurd (if_neg hb) z
end L2
namespace L2
open PySem PySem.Spec PyProof.Rows
theorem walk_of {l:PySem.W.OpenLaw}{n k:Nat} {q:Program}{loose:List Str} {XP:(Str→Option Value)→Heap→Prop}{YP:World→Heap→Prop} {d:DefRec}{K:Params→PySem.W.Frag} {CX:World→CXT}{sp:World→Sp} {x:Str}
  (hn:l.most=some n) (hn2:n≤sizeLine) (hdf:d.params.defaults=[]) (hr:Room k callerA)
  (hY:∀ (w:World) (h:Heap),YP w h→(K w.params).In h)
  (F:∀ (w:World) (mg:Str→Option Value) (fa:Addr) (h:Heap),(K w.params).In h→h.Ns mainGlobals mg→mg d.name=some (.ref fa)→
   ∃ fd:FuncData,(∀ (s:Shared) (u:Value),BindsTo s fd ⟨[u],[]⟩ [(x,u)])∧
    ∀ base:Heap,(K w.params).In base→base.Ns mainGlobals mg→FnOk l.prog w (K w.params) mg base (CX w) k fa fd [x] (sp w))
  (hsp:∀ (w:World) (H:Hp) (a:Addr) (ns:List Int),ns.length≤n→Only H→SqL (K w.params) H a (ns.map V.int)→sp w [.ref a] H (fun v _=>v=.bl true) fun _ _ _=>False)
  (hCX:∀ (w:World) (H:Hp) (s:Shared) (e:Value) (s':Shared),CX w [] H s (fun _ _ _=>False) e s'→False) :
  PySem.W.WalkO q loose XP YP l.row.toRowW d [] (fun f vs=>PySem.call f vs):=by
 refine Att.attach_call hn hdf fun w s₀ s₁ mg mb fa o pm cd doc a vs ns G Y ho hd hcd hmg hobj hints hlen hg=>?_
 have KX:=hY w _ Y
 obtain ⟨fd,hb,hF⟩:=F w mg fa _ KX G.T.g hmg
 exact law_call KX G.T.g G.T.b G.T.builtins G.T.nolimit hg hobj hints (Nat.le_trans hlen hn2) hr hF hb (fun H hO hS=>hsp w H a ns hlen hO hS) fun H e s'=>hCX w H s₁ e s'
end L2
/- THE LAST THEOREM (shape;LID,My.* are yours):
  My.Adr: a structure of the addresses that your layer names (classes,functions);My.Txt K t: a structure (Prop) of the equations over K;
  My.txt_mk:{K} {implicit addresses ..} (e1:nsIn K mainGlobals "law" = some (some (.ref f))) (e2:K.lookup f=some ⟨oc,od,.func (fnOf "law" "law" params body scope dV kV doc pm an cdv ct),sl⟩) (e3:codeIn K cdv "law" = true) ..:∃ t,My.Txt K t
set_option maxRecDepth 100000 in
set_option maxHeartbeats 0 in
theorem PySem.Challenge.cw_LID_holds:PySem.Challenge.rw_LID.Holds:=by
 w_on;o_law;k_head;(case hw=>w_witness2)
 k_fill
 refine L2.walk_of (l:=PySem.Challenge.rw_LID) (n:=63) (k:=40) (x := "script") (CX:=fun w=>..) (sp:=fun _=>My.sp_law) rfl (by decide) rfl ⟨rfl,by decide,by decide⟩ (fun w h Y=>PySem.W.kIn_of Y) ?F ?S ?C
 case F=>
  intro w mg fa h KX G hmg
  have T:∃ t,My.Txt (L2.KOf KX) t:=by
   dsimp only [L2.KOf]                          -- K must stand as «<heap const> w.params» for k_is
   refine' My.txt_mk ?e1 ?e2 ?e3 ..
   (case e1=>PySem.W.k_is)                    -- in the order: a name -> its address -> its object -> its parts
   (case e2=>PySem.W.k_is)
   ..
  obtain ⟨t,T⟩:=T
  have e0:=hmg.symm.trans (PySem.W.mg_of KX G T.law)
  cases e0                                       -- fa is the law's own address
  exact ⟨_,fun s u=>.of_eq rfl,fun base kb nb=>My.law_fn T kb nb⟩     -- if «.of_eq rfl» comes too early: refine' ⟨_,?b,fun base kb nb=>My.law_fn T kb nb⟩;exact fun s u=>.of_eq rfl
 case S=>exact fun w H a ns hl hO hS=>..
 case C=>exact ..
(the tactic k_is has no namespace: write k_is) -/
namespace L2
open PySem PySem.Spec PyProof.Rows
noncomputable def zkg (s:Stmt):Arguments:=match s with
 | .FunctionDef _ a _ _ _ _ _ _ _ _=>a
 | _=>{ posonlyargs:=[],args:=[],vararg:=none,kwonlyargs:=[],kw_defaults:=[],kwarg:=none,defaults:=[] }
noncomputable def zfK (s:Stmt):List Stmt:=match s with
 | .FunctionDef _ _ b _ _ _ _ _ _ _=>b
 | _=>[]
noncomputable def zar (s:Stmt):Scope:=match s with
 | .FunctionDef _ _ _ _ _ _ sc _ _ _=>sc
 | _=>{ kind:=.function,names:=[],isGenerator:=false,isCoroutine:=false }
noncomputable abbrev CX0:CXT:=fun _ _ _ _ _ _=>False
noncomputable abbrev E0:XK:=fun _ _ _=>False
theorem zmv {X:Cx}:Passes CX0 X E0:=fun _ _ _ _ _ _ _ h=>h.elim
structure Fun (K:PySem.W.Frag) (x qual:Str) (st:Stmt) (f:Addr) (fd:FuncData):Prop where
 ex:∃ (oc:Value) (od:Option Addr) (kV doc pm:Value) (an:Option Addr) (cdv ct:Value) (osl:Array (Option Value)),
  fd=PySem.W.fnOf x qual (zkg st) (zfK st) (zar st) .none kV doc pm an cdv ct∧K.lookup f=some ⟨oc,od,.func fd,osl⟩∧PySem.W.codeIn K cdv qual=true
 kp:PySem.W.keepIn K (.ref f)=true
section
variable {P:Program}{w:World} {K:PySem.W.Frag}{mg:Str→Option Value} {base:Heap}
theorem Fun.ok {x qual:Str}{st:Stmt} {f:Addr}{fd:FuncData} {N ps:List Str}{k:Nat} {sp:Sp}(F:Fun K x qual st f fd) (S:zaE N ps (zar st)) (len:∀ vs H Q E,sp vs H Q E→vs.length=ps.length)
  (hbody:∀ (cdv:Value) (A:Around) (outer:List Env) (s:Shared) (H:Hp) (vs:List V) (Q:VK) (E:XK),Room k (A.deeper (envOfC qual (zar st) s.heap.objs.size f cdv))→sp vs H Q E→
   ∃ t,PSs (cxOf CX0 P w K mg base N qual (zar st) f cdv A outer s H E).nox (zfK st) t∧t { nx:=fun _ H'=>Q .non H',rt:=Q } (start N vs) H):FnOk P w K mg base CX0 (k + 1) f fd ps sp:=by
 obtain ⟨oc,od,kV,doc,pm,an,cdv,ct,osl,rfl,lk,hcd⟩:=F.ex
 refine fn_of lk hcd S len fun A outer s H vs Q E hr hsp=>?_
 obtain ⟨t,h,q⟩:=hbody cdv A outer s H vs Q E hr hsp
 exact ⟨t,h.nox,q⟩
theorem Fun.binds {x qual:Str}{st:Stmt} {f:Addr}{fd:FuncData} {ps:List Str}(F:Fun K x qual st f fd)
  (h:∀ (kV doc pm:Value) (an:Option Addr) (cdv ct:Value) (us:List Value),us.length=ps.length→bindArgs (PySem.W.fnOf x qual (zkg st) (zfK st) (zar st) .none kV doc pm an cdv ct) ⟨us,[]⟩=pure (ps.zip us)):zfw K fd ps []:=by
 obtain ⟨oc,od,kV,doc,pm,an,cdv,ct,osl,rfl,lk,hcd⟩:=F.ex
 exact .all (h kV doc pm an cdv ct)
end
section
variable {X:Cx}
end
theorem iteF {A B:Prop}(h:B):if false=true then A else B:=by
 rw [if_neg Bool.false_ne_true]
 exact h
theorem iteT {A B:Prop}(h:A):if true=true then A else B:=by
 rw [if_pos rfl]
 exact h
noncomputable def Same (H H':Hp):Prop:=∀ b o,H b=some o→H' b=some o
theorem Same.refl (H:Hp):Same H H:=fun _ _ h=>h
theorem Same.trans {H H1 H2:Hp}(a:Same H H1) (b:Same H1 H2):Same H H2:=fun c o h=>b c o (a c o h)
theorem Same.free {H H':Hp}(e:Same H H') {l:Addr}(h:H' l=Option.none):H l=Option.none:=by
 cases q:H l with
 | none=>rfl
 | some o=>
  rw [e l o q] at h
  cases h
theorem Same.seq {K:PySem.W.Frag}{H H':Hp} {a:Addr}{xs:List V} (e:Same H H') (h:SqL K H a xs):SqL K H' a xs:=by
 rcases h with (h | ⟨o,h⟩) | h
 ·exact .inl (.inl (e _ _ h))
 ·exact .inl (.inr ⟨o,e _ _ h⟩)
 ·exact .inr h
end L2
set_option Elab.async false
set_option linter.all false
set_option maxRecDepth 100000
namespace L2
open PySem PySem.Spec PyProof.Rows
noncomputable def clOf (env:Env):List (Str×NameKind)→List (Str×Addr)→List (Str×Addr)
 | [],acc=>acc
 | (n,k)::r,acc=>clOf env r (if k=.free then (n,(env.cells.lookup n).getD 0)::acc else acc)
theorem zfM {env:Env}{scope:Scope} (h:∀ y∈scope.names,y.2=.free→∃ c,env.cells.lookup y.1=some c):closureFor scope env=pure (clOf env scope.names []):=by
 unfold closureFor
 have go:∀ (l:List (Str×NameKind)) (acc:List (Str×Addr)),(∀ y∈l,y.2=.free→∃ c,env.cells.lookup y.1=some c)→
   (forIn l acc (fun (x:Str×NameKind) (r:List (Str×Addr))=>(match x with | (name,kind)=>if (kind == .free)=true then (do let c ← cellOf env name;pure (ForInStep.yield ((name,c)::r))) else (pure (ForInStep.yield r)):Sem (ForInStep (List (Str×Addr))))):Sem (List (Str×Addr)))=pure (clOf env l acc):=by
  intro l
  induction l with
  | nil=>intro acc _;rfl
  | cons a r ih=>
   intro acc hl
   obtain ⟨n,k⟩:=a
   have hr:∀ y∈r,y.2=.free→∃ c,env.cells.lookup y.1=some c:=fun y hy=>hl y (List.mem_cons_of_mem _ hy)
   rw [List.forIn_cons]
   by_cases hk:k=.free
   ·subst hk
    obtain ⟨c,hc⟩:=hl (n,.free) List.mem_cons_self rfl
    simp only [clOf,if_true]
    have e:cellOf env n=pure c:=by unfold cellOf;rw [show env.cells.lookup n=some c from hc]
    simp only [e,beq_self_eq_true,if_true,pure_bind]
    rw [show env.cells.lookup n=some c from hc]
    exact ih _ hr
   ·have hb:(k == NameKind.free)=false:=by simpa using hk
    simp only [clOf,if_neg hk,hb,Bool.false_eq_true,if_false,pure_bind]
    exact ih _ hr
 have:=go scope.names [] h
 simpa using this
theorem ziw {env:Env}:∀ (l:List (Str×NameKind)) (acc:List (Str×Addr)),(∀ y∈l,y.2=.free→∃ c,env.cells.lookup y.1=some c)→(∀ x c,acc.lookup x=some c→env.cells.lookup x=some c)→
  ∀ x c,(clOf env l acc).lookup x=some c→env.cells.lookup x=some c
 | [],_,_,ha=>ha
 | (n,k)::r,acc,hl,ha=>by
  refine ziw r _ (fun y hy=>hl y (List.mem_cons_of_mem _ hy)) ?_
  intro x c hx
  by_cases hk:k=.free
  ·rw [if_pos hk,List.lookup_cons] at hx
   obtain ⟨c',hc⟩:=hl (n,k) List.mem_cons_self hk
   cases e:x == n with
   | true=>
    rw [e] at hx
    have ex:x=n:=eq_of_beq e
    subst ex
    have hc':env.cells.lookup x=some c':=hc
    rw [hc'] at hx ⊢
    exact hx
   | false=>rw [e] at hx;exact ha x c hx
  ·rw [if_neg hk] at hx;exact ha x c hx
theorem zix {env:Env}:∀ (l:List (Str×NameKind)) (acc:List (Str×Addr)) (x:Str),((x,NameKind.free)∈l∨∃ c,acc.lookup x=some c)→∃ c,(clOf env l acc).lookup x=some c
 | [],_,x,h=>by
  rcases h with h | h
  ·cases h
  ·exact h
 | (n,k)::r,acc,x,h=>by
  refine zix r _ x ?_
  rcases h with h | ⟨c,h⟩
  ·rcases List.mem_cons.mp h with h | h
   ·cases h
    refine .inr ⟨(env.cells.lookup n).getD 0,?_⟩
    rw [if_pos rfl,List.lookup_cons]
    simp
   ·exact .inl h
  ·by_cases hk:k=.free
   ·rw [if_pos hk]
    cases e:x == n with
    | true=>exact .inr ⟨(env.cells.lookup n).getD 0,by rw [List.lookup_cons,e]⟩
    | false=>exact .inr ⟨c,by rw [List.lookup_cons,e];exact h⟩
   ·rw [if_neg hk];exact .inr ⟨c,h⟩
theorem zfR {env:Env}{names:List (Str×NameKind)} (hc:∀ y∈names,y.2≠.cell) {x:Str}{k:NameKind} (hk:k=.cell∨k=.free)
  (h:(names.map fun (p:Str×NameKind)=>if (p.2 == NameKind.free && env.scope.kind == .function && env.kindOf p.1 == some .cell) then (p.1,NameKind.cell) else (p.1,p.2)).lookup x=some k):(x,NameKind.free)∈names:=by
 obtain ⟨⟨n,k0⟩,hm,e⟩:=List.mem_map.mp (PySem.mem_of_lookup h)
 have n0:=hc _ hm
 simp only at e n0
 by_cases hq:(k0 == NameKind.free && env.scope.kind == .function && env.kindOf n == some .cell)=true
 ·rw [if_pos hq] at e
  simp only [Bool.and_eq_true] at hq
  have:k0=.free:=eq_of_beq hq.1.1
  subst this
  cases e
  exact hm
 ·rw [if_neg hq] at e
  cases e
  rcases hk with rfl | rfl
  ·exact absurd rfl n0
  ·exact hm
noncomputable def zaR (X:Cx) (N:List Str) (scope:Scope) (cl:List (Str×Addr)) (C:Addr) (s0:Shared) (H0:Hp) (fp:List Addr):Cx:=
 { prog:=X.prog,w:=X.w,K:=X.K,mg:=X.mg,base:=X.base,A:=X.A,N:=N,s₀:=s0,H₀:=H0,env:=compEnvC scope cl C X.env,outer:=X.stack,stack:=X.stack,ex:=fp,fn:=fun _=>false,calm:=X.calm,pn:=[],xe:=fun _ _=>False }
inductive Cap (X:Cx) (scope:Scope):List Str→List (Option Nat)→Prop
 | nil:Cap X scope [] []
 | own {x N c}:Cap X scope N c→Cap X scope (x::N) (none::c)
 | cap {x j N c} (h:Cap X scope N c) (h1:X.N[j]?=some x:=by rfl) (h2:scope.names.lookup x=some .free:=by rfl) (h3:X.env.kindOf x=some .cell∨X.env.kindOf x=some .free:=by first | exact Or.inl rfl | exact Or.inr rfl) :
   Cap X scope (x::N) (some j::c)
theorem Cap.len {X:Cx}{scope:Scope} {N:List Str}{c:List (Option Nat)} (h:Cap X scope N c):c.length=N.length:=by
 induction h with
 | nil=>rfl
 | own _ ih=>simp [ih]
 | cap _ _ _ _ ih=>simp [ih]
theorem Cap.get {X:Cx}{scope:Scope} {N:List Str}{c:List (Option Nat)} (h:Cap X scope N c):∀ {i j:Nat}{x:Str},c[i]?=some (some j)→N[i]?=some x→
  X.N[j]?=some x∧scope.names.lookup x=some .free∧(X.env.kindOf x=some .cell∨X.env.kindOf x=some .free):=by
 induction h with
 | nil=>intro i j x h;simp at h
 | own _ ih=>
  intro i j x h1 h2
  cases i with
  | zero=>simp at h1
  | succ i=>exact ih (by simpa using h1) (by simpa using h2)
 | cap _ a b d ih=>
  intro i j x h1 h2
  cases i with
  | zero=>simp at h1 h2;subst h1 h2;exact ⟨a,b,d⟩
  | succ i=>exact ih (by simpa using h1) (by simpa using h2)
noncomputable def st0 (cap:List (Option Nat)) (σ:St):St:=cap.map fun o=>match o with
 | some j=>(σ[j]?).getD none
 | none=>none
structure zbQ (X:Cx) (scope:Scope):Prop where
 kind:scope.kind=.function
 cells:∀ y∈scope.names,y.2≠.cell
 names:∀ y∈scope.names,y.2=.local→scope.names.lookup y.1=some .local
 free:∀ y∈scope.names,y.2=.free→X.env.kindOf y.1=some .cell∨X.env.kindOf y.1=some .free
theorem zbQ.mk' {X:Cx}{scope:Scope} (h1:scope.kind=.function:=by rfl) (h2:(scope.names.all fun y=>decide (y.2≠.cell))=true:=by rfl)
  (h3:(scope.names.all fun y=>decide (y.2≠.local) || decide (scope.names.lookup y.1=some .local))=true:=by rfl)
  (h4:(scope.names.all fun y=>decide (y.2≠.free) || (decide (X.env.kindOf y.1=some .cell) || decide (X.env.kindOf y.1=some .free)))=true:=by rfl):zbQ X scope where
 kind:=h1
 cells:=fun y hy=>of_decide_eq_true (List.all_eq_true.mp h2 y hy)
 names:=fun y hy hl=>by
  have:=List.all_eq_true.mp h3 y hy
  rw [Bool.or_eq_true] at this
  rcases this with z | z
  ·exact absurd hl (of_decide_eq_true z)
  ·exact of_decide_eq_true z
 free:=fun y hy hl=>by
  have:=List.all_eq_true.mp h4 y hy
  rw [Bool.or_eq_true,Bool.or_eq_true] at this
  rcases this with z | z | z
  ·exact absurd hl (of_decide_eq_true z)
  ·exact .inl (of_decide_eq_true z)
  ·exact .inr (of_decide_eq_true z)
section
variable {X:Cx}{pins:List (Addr×Obj)} {σ:St}{H H3:Hp} {s s3:Shared}{N:List Str} {cap:List (Option Nat)}{scope:Scope} {fp:List Addr}{C:Addr}
theorem zbQ.cellsOf (S:zbQ X scope) (ok:X.Ok):∀ y∈scope.names,y.2=.free→∃ c,X.env.cells.lookup y.1=some c:=fun y hy hf=>ok.has y.1 (S.free y hy hf)
theorem comp_ok (S:zbQ X scope) (I3:Inv X pins σ H3 s3) (f3:∀ b∈fp,FpOk X pins H3 b) (hfp:∀ b∈fp,b < s3.heap.objs.size) (hC:s3.heap.objs.size≤C) :
  (zaR X N scope (clOf X.env scope.names []) C s3 H3 fp).Ok:=by
 have sub:=ziw (env:=X.env) scope.names [] (S.cellsOf I3.ok) (fun x c h=>by simp at h)
 refine ⟨I3.ok.mod,S.kind,I3.ok.glob,I3.ok.blt,hC,fun x y c h1 h2=>I3.ok.inj x y c (sub x c h1) (sub y c h2),fun x hx=>?_,fun x c h=>absurd (show false=true from h) Bool.false_ne_true,I3.ok.hd,I3.ok.frames,.inl rfl,fun b hb=>⟨?_,fun x c h=>?_⟩,
  I3.bs,Nat.le_trans I3.ok.bsz I3.sz,fun b o e hb=>?_,fun b hb=>?_,I3.stack,I3.stkFree⟩
 ·refine zix scope.names [] x (.inl ?_)
  rcases hx with hx | hx
  ·exact zfR S.cells (.inl rfl) hx
  ·exact zfR S.cells (.inr rfl) hx
 ·exact Nat.ne_of_lt (Nat.lt_of_lt_of_le (hfp b hb) hC)
 ·exact (f3 b hb).2.2.2.2.1 x c (sub x c h)
 ·obtain ⟨_,_,_,h,_⟩:=f3 b hb
  rcases h with h | h
  ·exact I3.ok.noex b o e h
  ·exact absurd (Nat.lt_of_lt_of_le (Heap.lt_size e) (Nat.le_trans I3.ok.bsz h)) (Nat.lt_irrefl _)
 ·intro hz
  obtain ⟨_,h1,h2,_⟩:=f3 b hb
  rcases List.mem_cons.mp (I3.stkSub b hz) with z | z
  ·exact h1 z
  ·exact h2 z
theorem inv_comp (S:zbQ X scope) (cp:Cap X scope N cap) (I3:Inv X pins σ H3 s3) (f3:∀ b∈fp,FpOk X pins H3 b) (hfp:∀ b∈fp,b < s3.heap.objs.size) (hC:s3.heap.objs.size≤C) (os:s.os=s3.os) (bare:AllBare s.gens)
  (un:Un (frs X.stack) fp H3 H s3.heap s.heap) (ns:∃ m,s.heap.Ns C m) (fC:H C=none) (hok:HOk X.prog X.w H s.heap) :
  Inv (zaR X N scope (clOf X.env scope.names []) C s3 H3 fp) [] (st0 cap σ) H s:=by
 have sub:=ziw (env:=X.env) scope.names [] (S.cellsOf I3.ok) (fun x c h=>by simp at h)
 have cellK:∀ x c,X.env.cells.lookup x=some c→∀ v,s3.heap.IsCell c v→s.heap.IsCell c v:=fun x c e v ⟨o,ho,hd⟩=>by
  obtain ⟨sl,q⟩:=un.any ho (I3.freeC x c e) fun z=>(f3 c z).2.2.2.2.1 x c e rfl
  exact ⟨_,q,hd⟩
 obtain ⟨m,hm⟩:=ns
 refine ⟨comp_ok S I3 f3 hfp hC,os,bare,un,⟨m,hm,fun i x v h1 h2 h3=>?_⟩,fun x c h=>?_,fC,fun x c h=>?_,fun p hp=>absurd (show p∈([]:List (Addr×Obj)) from hp) (by simp),hok,?_⟩
 ·unfold st0 at h2
  rw [List.getElem?_map] at h2
  cases e:cap[i]? with
  | none=>rw [e] at h2;cases h2
  | some o=>
   rw [e] at h2
   cases o with
   | none=>simp at h2
   | some j=>
    obtain ⟨a1,a2,a3⟩:=cp.get e h1
    simp only [Option.map_some] at h2
    have h2':(σ[j]?).getD none=some v:=Option.some.inj h2
    have h2'':σ[j]?=some (some v):=by
     cases q:σ[j]? with
     | none=>rw [q] at h2';cases h2'
     | some z=>rw [q] at h2';simp at h2';rw [h2']
    obtain ⟨m0,_,hl⟩:=I3.loc
    have vis:Vis X.env.scope x:=by
     rcases a3 with z | z
     ·exact .inr (.inl z)
     ·exact .inr (.inr z)
    obtain ⟨u,r,l⟩:=hl j x v a1 h2'' vis
    refine ⟨u,r,?_⟩
    rcases l with ⟨k,_⟩ | ⟨_,c,e1,z⟩
    ·rcases a3 with q | q
     ·rw [q] at k;cases k
     ·rw [q] at k;cases k
    ·obtain ⟨c',hc'⟩:=zix (env:=X.env) scope.names [] x (.inl (PySem.mem_of_lookup a2))
     have:=sub x c' hc'
     rw [e1] at this
     cases this
     refine .inr ⟨?_,c,hc',cellK x c e1 _ z⟩
     have vis2:(zaR X N scope (clOf X.env scope.names []) C s3 H3 fp).env.kindOf x=some .local∨(zaR X N scope (clOf X.env scope.names []) C s3 H3 fp).env.kindOf x=some .cell∨(zaR X N scope (clOf X.env scope.names []) C s3 H3 fp).env.kindOf x=some .free:=h3
     rcases vis2 with z1 | z1
     ·-- a local name of the block is not free there
      exfalso
      have z2:(scope.names.map fun (p:Str×NameKind)=>if (p.2 == NameKind.free && X.env.scope.kind == .function && X.env.kindOf p.1 == some .cell) then (p.1,NameKind.cell) else (p.1,p.2)).lookup x=some .local:=z1
      have key:∀ l:List (Str×NameKind),l.lookup x=some .free→(l.map fun (p:Str×NameKind)=>if (p.2 == NameKind.free && X.env.scope.kind == .function && X.env.kindOf p.1 == some .cell) then (p.1,NameKind.cell) else (p.1,p.2)).lookup x≠some .local:=by
       intro l
       induction l with
       | nil=>intro h;simp at h
       | cons p l ih=>
        obtain ⟨n,k⟩:=p
        intro h
        rw [List.map_cons]
        cases ex:x == n with
        | true=>
         rw [List.lookup_cons,ex] at h
         cases h
         intro q
         by_cases hq:((NameKind.free == NameKind.free) && X.env.scope.kind == .function && X.env.kindOf n == some .cell)=true
         ·rw [if_pos hq,List.lookup_cons,ex] at q;cases q
         ·rw [if_neg hq,List.lookup_cons,ex] at q;cases q
        | false=>
         rw [List.lookup_cons,ex] at h
         intro q
         by_cases hq:((k == NameKind.free) && X.env.scope.kind == .function && X.env.kindOf n == some .cell)=true
         ·rw [if_pos hq,List.lookup_cons,ex] at q;exact ih h q
         ·rw [if_neg hq,List.lookup_cons,ex] at q;exact ih h q
      exact key _ a2 z2
     ·exact z1
 ·obtain ⟨v,z⟩:=I3.cell x c (sub x c h)
  exact ⟨v,cellK x c (sub x c h) v z⟩
 ·obtain ⟨v,o,ho,_⟩:=I3.cell x c (sub x c h)
  exact un.free c o ho (I3.freeC x c (sub x c h)) fun z=>(f3 c z).2.2.2.2.1 x c (sub x c h) rfl
 ·show (st0 cap σ).length=N.length
  unfold st0
  rw [List.length_map];exact cp.len
end
noncomputable def PIf (Y:Cx) (ifs:List Expr) (t:TT):Prop:=
 ∀ (pins:List (Addr×Obj)) (s:Shared) (σ:St) (H:Hp) (Q:Bool→Hp→Prop),Inv Y pins σ H s→t σ H Q→
  wpAny (model Y.prog Y.w) Y.A (forIn ifs true fun c r=>if r=true then do let ok ← isTrue c Y.env (eval c Y.env);pure (ForInStep.yield ok) else pure (ForInStep.yield r)) (TP Y pins σ Q) Y.xe s
noncomputable def tYes:TT:=fun _ H Q=>Q true H
theorem zml {Y:Cx}:PIf Y [] tYes:=fun _ _ _ H _ I h=>wpAny_tests_nil ⟨H,I,h⟩
theorem pif_one {Y:Cx}{c:Expr} {t:TT}(h:PT Y c t):PIf Y [c] t:=fun pins s σ H Q I hw=>wpAny_tests_one (h pins s σ H Q I hw)
section
variable {X:Cx}{pins:List (Addr×Obj)} {σ:St}{N:List Str} {cap:List (Option Nat)}{scope:Scope} {tg iter elt:Expr}{ifs:List Expr} {pos:Pos}{g:TG} {tt:TT}{te:TE}
noncomputable abbrev TAct:=St→Hp→(Hp→Prop)→Prop
noncomputable def PAct (Y:Cx) (act:Value→Env→Sem Unit) (D:Addr) (t:TAct):Prop:=
 ∀ (pins:List (Addr×Obj)) (s:Shared) (σ:St) (H:Hp) (Q:Hp→Prop),Inv Y pins σ H s→t σ H Q→wpAny (model Y.prog Y.w) Y.A (act (.ref D) Y.env) (fun _ s'=>∃ σ' H',Inv Y pins σ' H' s'∧Q H') Y.xe s
noncomputable def zko (J:It) (g:TG) (tt:TT) (ta:Addr→TAct) (ho:HO) (cap:List (Option Nat)) (σ:St) (H1:Hp) (Q:VK):Prop:=
 ∀ D,H1 D=none→∃ W:Nat→Nat→Hp→Prop,(∃ m,W 0 m (upd H1 D ho))∧∀ i m H,W i m H→
  ((J.stop i H∧Q (.ref D) H)∨(J.go i H∧∀ x H',J.yld i H x H'→g x (st0 cap σ) H' fun σ2 H2=>tt σ2 H2 fun b H3=>
   if b=true then ta D σ2 H3 fun H4=>∃ m',m' < m∧W (i + 1) m' H4 else ∃ m',m' < m∧W (i + 1) m' H3))
structure zeM (X:Cx) (e tg iter:Expr) (ifs:List Expr) (newAcc:Sem Value) (act:Value→Env→Sem Unit) (ho:HO):Prop where
 new:∀ (pins:List (Addr×Obj)) (σ:St) (H:Hp) (s:Shared) (Q:Value→Shared→Prop) (E:Value→Shared→Prop),Inv X pins σ H s→
  (∀ ob:Obj,Inv X pins σ (upd H s.heap.objs.size ho) { s with heap:=s.heap.push ob }→Q (.ref s.heap.objs.size) { s with heap:=s.heap.push ob })→wpAny (model X.prog X.w) X.A newAcc Q E s
 turn:∀ (it:Value) (D:Addr) (env:Env),compTurn e 0 it (.ref D) env=(do
   standAt iter.pos
   match ← pyNext it with
   | none=>pure (.done .next)
   | some v=>
    letOwnedTupleGo tg it v
    assign tg env v
    let mut ok:=true
    for c in ifs do
     if ok then ok ← isTrue c env (eval c env)
    if ok then act (.ref D) env
    again (.compLoop e 0 it (.ref D) env))
 loop:∀ (A:Around) (it:Value) (D:Addr) (env:Env) (Q:Fin→Shared→Prop) (E:Value→Shared→Prop) (s:Shared),wpAny (model X.prog X.w) A ((compTurn e 0 it (.ref D) env).onRaise (fun x=>do noteFrame x env;theTreesLotGoes x)) Q E s→
  wpAny (model X.prog X.w) (A.under (.compLoop e 0 it (.ref D) env)) ((model X.prog X.w).den (.compLoop e 0 it (.ref D) env)) Q E s
 start:∀ {it acc:Value}{env:Env} {A:Around}{R:Result→Shared→Prop} {s:Shared},codeAny (model X.prog X.w) A (.compLoop e 0 it acc env) R s→
  wpAny (model X.prog X.w) A (pyIter it) (fun it' s'=>codeAny (model X.prog X.w) A (.compLoop e 0 it' acc env) R s') (notedBy (model X.prog X.w) A env fun x s'=>R (.error x) s') s→codeAny (model X.prog X.w) A (.compStart e 0 it acc env) R s
theorem zhc {e:Expr}{newAcc:Sem Value} {act:Value→Env→Sem Unit}{ho:HO} {ta:Addr→TAct}{H2:Hp} {s2:Shared}{J:It} {fp:List Addr}{it:Addr} {tn:Nat→Heap→Prop}{Q:VK} {RR:Value→Addr→Result→Shared→Prop}{E:Value→Shared→Prop} (ck:zeM X e tg iter ifs newAcc act ho) (hc:X.calm=true) (S:zbQ X scope) (cp:Cap X scope N cap)
  (hg:∀ C s0 H0 fp,PG (zaR X N scope (clOf X.env scope.names []) C s0 H0 fp) tg g) (ht:∀ C s0 H0 fp,PIf (zaR X N scope (clOf X.env scope.names []) C s0 H0 fp) ifs tt) (he:∀ C s0 H0 fp D,PAct (zaR X N scope (clOf X.env scope.names []) C s0 H0 fp) act D (ta D))
  (I2:Inv X pins σ H2 s2) (T:Turn X.prog X.w X.K tg J fp it tn) (st2:tn 0 s2.heap) (f2:∀ b∈fp,FpOk X pins H2 b) (hw:zko J g tt ta ho cap σ H2 Q)
  (hRR:∀ D C H' s' m',Inv X pins σ H' s'→s'.heap.Ns C m'→H' C=none→C≠X.env.locals→X.s₀.heap.objs.size≤C→(∀ x c,X.env.cells.lookup x=some c→c≠C)→(∀ p∈X.pn++pins,p.1≠C)→Q (.ref D) H'→RR (.ref D) C (.ok .next) s') :
  wpAny (model X.prog X.w) X.A newAcc (fun acc s3=>wpAny (model X.prog X.w) X.A (newFunctionEnv scope X.env.globals (clOf X.env scope.names []) [] X.env.qual none .none (some X.env)) (fun cenv s4=>
   codeAny (model X.prog X.w) X.A (.compStart e 0 (.ref it) acc { cenv with scope:=relabel scope X.env }) (RR acc cenv.locals) s4) E s3) E s2:=by
 refine ck.new pins σ H2 s2 _ _ I2 fun ob I3=>wpAny_newFunctionEnv S.cells (by intro y hy;simp at hy) (fun h1 hns1 hsb1=>?_) S.kind
 dsimp only at hns1 hsb1 ⊢
 have D0:H2 s2.heap.objs.size=none:=I2.fresh
 obtain ⟨W,⟨m0,w0⟩,turn⟩:=hw s2.heap.objs.size D0
 generalize hs3:({ s2 with heap:=s2.heap.push ob }:Shared)=s3 at I3
 have e3:s3.heap=s2.heap.push ob:=by rw [← hs3]
 have z3:s3.heap.objs.size=s2.heap.objs.size + 1:=by rw [e3,Heap.size_push]
 rw [← e3] at hns1 hsb1 ⊢
 generalize hD:s2.heap.objs.size=D at *
 generalize hC:s3.heap.objs.size=C at *
 have fp2:∀ b∈fp,b < D:=fun b hb=>by
  obtain ⟨o,e,_⟩:=T.obj 0 _ st2 b hb
  rw [← hD];exact Heap.lt_size e
 have f3:∀ b∈fp,FpOk X pins (upd H2 D ho) b:=fun b hb=>by
  obtain ⟨a1,a2⟩:=f2 b hb
  exact ⟨by rw [zaw (Nat.ne_of_lt (fp2 b hb))];exact a1,a2⟩
 have hfp:∀ b∈fp,b < s3.heap.objs.size:=fun b hb=>by rw [hC,z3];exact Nat.lt_succ_of_lt (fp2 b hb)
 have old:∀ b o,s3.heap.get? b=some o→h1.get? b=some o:=fun b o e=>
  hsb1.extBut b o (Nat.ne_of_lt (by rw [← hC];exact Heap.lt_size e)) (Heap.get?_push_of_some _ e)
 have old2:∀ b o,s2.heap.get? b=some o→s3.heap.get? b=some o:=fun b o e=>by rw [e3];exact Heap.get?_push_of_some _ e
 have ds4:∀ s4:Shared,s4={ s2 with heap:=h1,toks:=s2.toks + ([]:List (Str×Value)).length }→
   codeAny (model X.prog X.w) X.A (.compLoop e 0 (.ref it) (.ref D) (compEnvC scope (clOf X.env scope.names []) C X.env)) (RR (.ref D) C) s4:=by
  intro s4 es4
  have os4:s4.os=s3.os:=by rw [es4,← hs3]
  have bare4:AllBare s4.gens:=by rw [es4];exact I2.bare
  have heap4:s4.heap=h1:=by rw [es4]
  have st4:tn 0 s4.heap:=by rw [heap4];exact T.keep _ _ _ st2 fun b _ o e=>old b o (old2 b o e)
  refine codeAny_loop rfl (fun n s=>∃ i H,s.os=s3.os∧AllBare s.gens∧Un (frs X.stack) fp (upd H2 D ho) H s3.heap s.heap∧(∃ m,s.heap.Ns C m)∧H C=none∧HOk X.prog X.w H s.heap∧tn i s.heap∧(∀ b∈fp,H b=none)∧W i n H)
   (fun n s hI=>?_) m0 ⟨0,_,os4,bare4,by rw [heap4];exact Un.kept old,by rw [heap4];exact ⟨_,hns1⟩,I3.hok.fresh (Nat.le_of_eq hC),by rw [heap4];exact I3.hok.kept old,st4,fun b hb=>(f3 b hb).1,w0⟩
  obtain ⟨i,H,os,bare,un,ns,fC,hok,st,fr,wi⟩:=hI
  refine ck.loop _ _ _ _ _ _ _ ?_
  refine wpAny_noted ?_
  rw [ck.turn]
  have hCge:s3.heap.objs.size≤C:=Nat.le_of_eq hC
  have IY:=inv_comp S cp I3 f3 hfp hCge os bare un ns fC hok
  generalize hYd:zaR X N scope (clOf X.env scope.names []) C s3 (upd H2 D ho) fp=Y at IY
  have hYA:Y.A=X.A:=by rw [← hYd];rfl
  have hYenv:Y.env=compEnvC scope (clOf X.env scope.names []) C X.env:=by rw [← hYd];rfl
  have hYp:Y.prog=X.prog:=by rw [← hYd];rfl
  have hYw:Y.w=X.w:=by rw [← hYd];rfl
  have hYK:Y.K=X.K:=by rw [← hYd];rfl
  have hYc:Y.calm=true:=by rw [← hYd];exact hc
  have hYxe:∀ e s,¬ Y.xe e s:=fun e s z=>by rw [← hYd] at z;exact z
  have gY:PG Y tg g:=by rw [← hYd];exact hg _ _ _ _
  have tY:PIf Y ifs tt:=by rw [← hYd];exact ht _ _ _ _
  have eY:PAct Y act D (ta D):=by rw [← hYd];exact he _ _ _ _ _
  have stat:∀ {H':Hp},(∀ b∈fp,H' b=none)→∀ b∈fp,FpOk Y [] H' b:=fun {H'} hn b hb=>by
   have okY:=IY.ok
   refine ⟨hn b hb,(okY.exf b (by rw [← hYd];exact hb)).1,okY.exfs b (by rw [← hYd];exact hb),.inl (by rw [← hYd];exact hb),fun x c e=>(okY.exf b (by rw [← hYd];exact hb)).2 x c e,fun p hp=>?_⟩
   rw [← hYd] at hp
   exact absurd (show p∈([]:List (Addr×Obj)) from hp) (by simp)
  have alt:=turn i n H wi
  have base_of:∀ {σ':St}{pins':List (Addr×Obj)} {H':Hp}{s':Shared},Inv Y pins' σ' H' s'→s'.os=s3.os∧AllBare s'.gens∧Un (frs X.stack) fp (upd H2 D ho) H' s3.heap s'.heap∧(∃ m,s'.heap.Ns C m)∧H' C=none∧HOk X.prog X.w H' s'.heap:=fun {σ' pins' H' s'} I'=>by
   have b1:=I'.os
   have b2:=I'.base
   have b3:=I'.loc
   have b4:=I'.free
   have b5:=I'.hok
   rw [← hYd] at b1 b2 b3 b4 b5
   obtain ⟨m,hm,_⟩:=b3
   exact ⟨b1,I'.bare,b2,⟨m,hm⟩,b4,b5⟩
  refine wpAny_bind (wpAny_standAt (wpAny_bind ?_))
  rcases alt with ⟨stop,qn⟩ | ⟨go,step⟩
  ·have h1:=T.done Y hYp hYw hYK hYc i [] s _ H (notedBy (model X.prog X.w) X.A (compEnvC scope (clOf X.env scope.names []) C X.env) fun e s'=>RR (.ref D) C (.error e) s') IY (stat fr) st stop
   rw [hYA] at h1
   refine wpAny_mono h1 (fun r s5 h5=>?_) fun _ _ z=>z
   obtain ⟨hr,I5⟩:=h5
   subst hr
   refine wpAny_pure ?_
   obtain ⟨os5,bare5,un5,⟨m5,ns5⟩,fC5,hok5⟩:=base_of I5
   have IX:Inv X pins σ H s5:=I3.call' (ch:=fp) (by rw [os5]) un5 hok5 bare5 fun b hb=>by
    obtain ⟨_,a2,a3,a4,a5,a6⟩:=f3 b hb
    exact ⟨a4,a2,a5,a6⟩
   refine hRR D C H s5 m5 IX ns5 fC5 ?_ ?_ ?_ ?_ qn
   ·exact Nat.ne_of_gt (Nat.lt_of_lt_of_le I3.lt hCge)
   ·exact Nat.le_trans I3.sz hCge
   ·intro x c e z
    obtain ⟨v,q⟩:=I3.cell x c e
    exact absurd (Nat.lt_of_lt_of_le q.lt hCge) (by rw [z];exact Nat.lt_irrefl _)
   ·intro p hp z
    exact absurd (Nat.lt_of_lt_of_le (Heap.lt_size (I3.pin p hp).1) hCge) (by rw [z];exact Nat.lt_irrefl _)
  ·have h1:=T.item Y hYp hYw hYK hYc i [] s _ H Y.xe IY (stat fr) st go
   rw [hYA] at h1
   refine wpAny_mono h1 (fun r s5 h5=>?_) fun e s' z=>absurd z (hYxe e s')
   obtain ⟨u,hr,h5⟩:=h5
   subst hr
   refine wpAny_bind (wpAny_mono h5 (fun _ s6 h6=>?_) fun e s' z=>absurd z (hYxe e s'))
   obtain ⟨x,H6,I6,r6,y6,st6,fr6⟩:=h6
   have I6':=I6.pinned (stat fr6) (T.obj _ _ st6)
   have h7:=gY _ s6 _ H6 x u _ I6' r6 (step x H6 y6)
   rw [hYA,hYenv,hYp,hYw] at h7
   refine wpAny_bind (wpAny_mono h7 (fun _ s7 h7=>?_) fun e s' z=>absurd z (hYxe e s'))
   obtain ⟨σ7,H7,I7,q7⟩:=h7
   have h8:=tY _ s7 σ7 H7 _ I7 q7
   rw [hYA,hYenv,hYp,hYw] at h8
   refine wpAny_bind (wpAny_mono h8 (fun b s8 h8=>?_) fun e s' z=>absurd z (hYxe e s'))
   obtain ⟨H8,I8,q8⟩:=h8
   have again:∀ {σ9:St}{H9:Hp} {s9:Shared},Inv Y ([]++ziW fp s6.heap) σ9 H9 s9→(∃ m',m' < n∧W (i + 1) m' H9)→
     ∃ m,m < n∧∃ i H,s9.os=s3.os∧AllBare s9.gens∧Un (frs X.stack) fp (upd H2 D ho) H s3.heap s9.heap∧(∃ m,s9.heap.Ns C m)∧H C=none∧HOk X.prog X.w H s9.heap∧tn i s9.heap∧(∀ b∈fp,H b=none)∧W i m H:=fun {σ9 H9 s9} I9 ⟨m',hm,w9⟩=>by
    obtain ⟨b1,b2,b3,b4,b5,b6⟩:=base_of I9
    refine ⟨m',hm,i + 1,H9,b1,b2,b3,b4,b5,b6,T.keep _ _ _ st6 fun b hb o e=>(I9.pin (b,o) (List.mem_append_right _ (List.mem_append_right _ (zcI hb e)))).1,fun b hb=>?_,w9⟩
    obtain ⟨o,e,d⟩:=T.obj _ _ st6 b hb
    exact (I9.pin (b,o) (List.mem_append_right _ (List.mem_append_right _ (zcI hb e)))).2.1
   cases b with
   | false=>
    simp only [Bool.false_eq_true,if_false] at q8 ⊢
    exact wpAny_pure ⟨rfl,again I8 q8⟩
   | true=>
    simp only [if_true] at q8 ⊢
    have h9:=eY _ s8 σ7 H8 _ I8 q8
    rw [hYA,hYenv,hYp,hYw] at h9
    refine wpAny_bind (wpAny_mono h9 (fun _ s9 h9=>?_) fun e s' z=>absurd z (hYxe e s'))
    obtain ⟨σ9,H9,I9,q9⟩:=h9
    exact wpAny_pure ⟨rfl,again I9 q9⟩
 have st1:tn 0 h1:=T.keep _ _ _ st2 fun b _ o e=>old b o (old2 b o e)
 exact ck.start (ds4 _ rfl) (T.self X.A 0 _ _ _ st1 (ds4 _ rfl))
noncomputable def actL (elt:Expr):Value→Env→Sem Unit:=fun acc env=>do let _ ← call (.builtin "list.append") [acc,← eval elt env]
theorem znr:zeM X (.ListComp elt [⟨tg,iter,ifs,0⟩] scope pos) tg iter ifs (newList []) (actL elt) (.lst []) where
 new:=fun pins σ H s Q E I h=>wpAny_newObj_type (h _ (I.lnew (t':=s.toks) .nil (Nat.zero_le _)))
 turn:=fun it D env=>by rw [compTurn_list];rfl
 loop:=fun A it D env Q E s h=>h
 start:=fun h0 h=>codeAny_compStart_list h0 h
noncomputable def taL (te:TE) (D:Addr):TAct:=fun σ H Q=>te σ H fun v H4=>∃ acc,H4 D=some (.lst acc)∧acc.length < sizeLine∧Q (upd H4 D (.lst (acc++[v])))
theorem ziZ {Y:Cx}(he:PE Y elt te) (D:Addr):PAct Y (actL elt) D (taL te D):=by
 intro pins s σ H Q I h
 unfold actL
 refine wpAny_bind (thn (he pins s σ H _ I h) fun v s9 ⟨v9,H9,I9,r9,acc,hD9,hlen,q9⟩=>?_)
 refine wpAny_bind (thn (zgB (X:=Y) _ s9 σ H9 (.ref D) [v9] (.ref D) [v] (fun z Hz=>z=.non∧Hz=upd H9 D (.lst (acc++[v9]))) I9 rfl (.cons r9 .nil) ⟨D,acc,v9,rfl,rfl,hD9,hlen,rfl,rfl⟩) fun _ s10 h10=>?_)
 obtain ⟨_,H10,I10,_,_,e10⟩:=h10
 subst e10
 exact wpAny_pure ⟨_,_,I10,q9⟩
noncomputable def wComp (K:PySem.W.Frag) (J:It) (g:TG) (tt:TT) (te:TE) (cap:List (Option Nat)) (σ:St) (H1:Hp) (Q:VK):Prop:=zko J g tt (taL te) (.lst []) cap σ H1 Q
noncomputable def zkr (wi:TI) (g:TG) (tt:TT) (ta:Addr→TAct) (ho:HO) (cap:List (Option Nat)):TE:=fun σ H Q=>wi σ H fun J H1=>zko J g tt ta ho cap σ H1 Q
noncomputable def tComp (K:PySem.W.Frag) (wi:TI) (g:TG) (tt:TT) (te:TE) (cap:List (Option Nat)):TE:=zkr wi g tt (taL te) (.lst []) cap
theorem pe_compG {e:Expr}{newAcc:Sem Value} {act:Value→Env→Sem Unit}{ho:HO} {ta:Addr→TAct}{wi:TI} (ck:zeM X e tg iter ifs newAcc act ho) (N:List Str) (cap:List (Option Nat)) (cp:Cap X scope N cap) (hc:X.calm=true) (hi:PI X tg iter wi)
  (hg:∀ C s0 H0 fp,PG (zaR X N scope (clOf X.env scope.names []) C s0 H0 fp) tg g) (ht:∀ C s0 H0 fp,PIf (zaR X N scope (clOf X.env scope.names []) C s0 H0 fp) ifs tt) (he:∀ C s0 H0 fp D,PAct (zaR X N scope (clOf X.env scope.names []) C s0 H0 fp) act D (ta D))
  (S:zbQ X scope) (hs:∀ x,foldedSetIterable iter X.env x=pure x) (hcl:clausesOf e=[⟨tg,iter,ifs,0⟩]) {p:Pos}(hev:eval e X.env=comprehension e scope X.env p newAcc false (eval iter X.env)) :
  PE X e (zkr wi g tt ta ho cap):=by
 intro pins s σ H Q I h
 rw [hev]
 refine wpAny_comprehension_free (use:=none) hcl hs (zfM (S.cellsOf I.ok)) S.kind S.names (thn (hi pins s σ H _ I h) fun v s1 h1=>thn h1 fun itv s2 h2=>?_)
 obtain ⟨it,fp,tn,J,H2,e,I2,T,st2,f2,hw⟩:=h2
 subst e
 refine zhc (RR:=fun acc C=>compPost (model X.prog X.w) X.A X.xe none (EP X pins σ Q) acc C) ck hc S cp hg ht he I2 T st2 f2 hw ?_
 intro D C H' s' m' I' ns fC c1 c2 c3 c4 q
 exact ⟨m',ns,fun h' hs'=>⟨.ref D,H',I'.turned (t':=s'.toks) (fun b o hb e=>(hs'.2 b hb).trans e) fC c1 (.inr c2) c3 c4,rfl,q⟩⟩
theorem zjP {e:Expr}{newAcc:Sem Value} {act:Value→Env→Sem Unit}{ho:HO} {ta:Addr→TAct}{wi:TI} {k:Nat}{y:Str} {py spos:Pos}(ck:zeM X e tg iter ifs newAcc act ho) (N:List Str) (cap:List (Option Nat)) (cp:Cap X scope N cap) (hc:X.calm=true) (hN:X.N.Nodup) (hk:X.N[k]?=some y) (hy:Loc X.env.scope y) (hi:PI X tg iter wi)
  (hg:∀ C s0 H0 fp,PG (zaR X N scope (clOf X.env scope.names []) C s0 H0 fp) tg g) (ht:∀ C s0 H0 fp,PIf (zaR X N scope (clOf X.env scope.names []) C s0 H0 fp) ifs tt) (he:∀ C s0 H0 fp D,PAct (zaR X N scope (clOf X.env scope.names []) C s0 H0 fp) act D (ta D))
  (S:zbQ X scope) (hs:∀ x,foldedSetIterable iter X.env x=pure x) (hcl:clausesOf e=[⟨tg,iter,ifs,0⟩]) {p:Pos}(hev:∀ use,evalThenUse e X.env use=(do let _ ← comprehension e scope X.env p newAcc false (eval iter X.env) (some use)))
  (hsw:swapsWith e (some (.Name y py)) spos.line X.env=pure true) (hf:X.fn y=true∨X.env.scope.names.lookup y=some .local) :
  PS X (.Assign [.Name y py] e spos) (tAsg (zkr wi g tt ta ho cap) (gName k)):=by
 intro pins s σ H D0 I h
 rw [exec_Assign_Name_used _ _ _ _ hsw]
 refine wpAny_bind (wpAny_standAt (wpAny_bind ?_))
 rw [hev]
 refine wpAny_bind (wpAny_mono (wpAny_comprehension_free (use:=some (assign (.Name y py) X.env)) (Q:=fun _ s'=>SP X pins D0 .next s') hcl hs (zfM (S.cellsOf I.ok)) S.kind S.names
  (thn (hi pins s σ H _ I h) fun v s1 h1=>thn h1 fun itv s2 h2=>?_)) (fun _ s' hq=>wpAny_pure (wpAny_pure hq)) fun _ _ e=>e)
 obtain ⟨it,fp,tn,J,H2,e,I2,T,st2,f2,hw⟩:=h2
 subst e
 refine zhc (RR:=fun acc C=>compPost (model X.prog X.w) X.A X.xe (some (assign (.Name y py) X.env)) (fun _ s'=>SP X pins D0 .next s') acc C) ck hc S cp hg ht he I2 T st2 f2 hw ?_
 intro D C H' s' m' I' ns fC c1 c2 c3 c4 q
 show wpAny _ X.A (assign (.Name y py) X.env (.ref D)) _ _ _
 refine wpAny_assign_Name (ziL I' hN hk hy (v:=.ref D) rfl (fun s'' I'' ⟨a,hsb,ha⟩=>?_) hf)
 have hCa:C≠a:=by
  rcases ha with z | z
  ·rw [z];exact c1
  ·exact fun w=>c3 y a z w.symm
 refine ⟨m',ns.sameBut hsb hCa,fun h' hs'=>⟨_,H',I''.turned (t':=s''.toks) (fun b o hb e=>(hs'.2 b hb).trans e) fC c1 (.inr c2) c3 c4,q⟩⟩
theorem zmr {wi:TI}(N:List Str) (cap:List (Option Nat)) (cp:Cap X scope N cap) (hc:X.calm=true) (hi:PI X tg iter wi)
  (hg:∀ C s0 H0 fp,PG (zaR X N scope (clOf X.env scope.names []) C s0 H0 fp) tg g) (ht:∀ C s0 H0 fp,PIf (zaR X N scope (clOf X.env scope.names []) C s0 H0 fp) ifs tt) (he:∀ C s0 H0 fp,PE (zaR X N scope (clOf X.env scope.names []) C s0 H0 fp) elt te)
  (S:zbQ X scope:=by exact zbQ.mk') (hs:∀ x,foldedSetIterable iter X.env x=pure x:=by intro _;rfl) :
  PE X (.ListComp elt [⟨tg,iter,ifs,0⟩] scope pos) (tComp X.K wi g tt te cap):=
 pe_compG znr N cap cp hc hi hg ht (fun C s0 H0 fp D=>ziZ (he C s0 H0 fp) D) S hs rfl (eval_ListComp ..)
theorem zli {wi:TI}{k:Nat} {y:Str}{py spos:Pos} (N:List Str) (cap:List (Option Nat)) (cp:Cap X scope N cap) (hc:X.calm=true) (hN:X.N.Nodup) (hk:X.N[k]?=some y) (hy:Loc X.env.scope y) (hi:PI X tg iter wi)
  (hg:∀ C s0 H0 fp,PG (zaR X N scope (clOf X.env scope.names []) C s0 H0 fp) tg g) (ht:∀ C s0 H0 fp,PIf (zaR X N scope (clOf X.env scope.names []) C s0 H0 fp) ifs tt) (he:∀ C s0 H0 fp,PE (zaR X N scope (clOf X.env scope.names []) C s0 H0 fp) elt te)
  (S:zbQ X scope:=by exact zbQ.mk') (hs:∀ x,foldedSetIterable iter X.env x=pure x:=by intro _;rfl)
  (hsw:swapsWith (.ListComp elt [⟨tg,iter,ifs,0⟩] scope pos) (some (.Name y py)) spos.line X.env=pure true:=by rfl)
  (hf:X.fn y=true∨X.env.scope.names.lookup y=some .local:=by first | exact .inl rfl | exact .inr rfl | assumption) :
  PS X (.Assign [.Name y py] (.ListComp elt [⟨tg,iter,ifs,0⟩] scope pos) spos) (tAsg (tComp X.K wi g tt te cap) (gName k)):=
 zjP znr N cap cp hc hN hk hy hi hg ht (fun C s0 H0 fp D=>ziZ (he C s0 H0 fp) D) S hs rfl (fun _=>rfl) hsw hf
end
end L2
set_option Elab.async false
set_option linter.all false
set_option maxRecDepth 100000
namespace L2
open PySem PySem.Spec PyProof.Rows
section
variable {X:Cx}{a b:Expr} {ta tb:TE}{pos:Pos}
noncomputable def rIsi (K:PySem.W.Frag):List V→Hp→VK→Prop:=fun xs H Q=>∃ x T t k,xs=[x,.ty T]∧TyOf K H x t∧PySem.W.kitOne K t (.type T)=some k∧Q (.bl k) H
theorem call_isi:zeE X (.builtin "isinstance") (rIsi X.K):=by
 intro pins s σ H xs us Q I r h
 obtain ⟨x,T,t,k,rfl,ty,e,q⟩:=h
 obtain ⟨u,c,rfl,r1,r2⟩:=vals2 r
 cases (show c=Value.type T from r2)
 exact zmS I r1 ty e fun tk=>⟨.bl k,H,I.tok _,rfl,q⟩
noncomputable def rCatT0 (K:PySem.W.Frag):R2:=fun x y H Q=>∃ a b ys,x=.ref a∧y=.ref b∧SqT K H a []∧SqT K H b ys∧Q (.ref b) H
theorem op_catT0:OpR X (binaryOp .Add) (rCatT0 X.K):=by
 intro pins s σ H x y v u Q I rx ry h
 obtain ⟨a,b,ys,rfl,rfl,ha,hb,q⟩:=h
 cases rx
 cases ry
 obtain ⟨its,r1,p1,_⟩:=I.tuple ha
 obtain ⟨its2,r2,p2,_⟩:=I.tuple hb
 have e:its=[]:=by cases r1;rfl
 subst e
 obtain ⟨⟨cls,dd,data,sl⟩,ho,hc,n,hd⟩:=id p1
 obtain ⟨⟨cls2,dd2,data2,sl2⟩,ho2,hc2,n2,hd2⟩:=id p2
 simp only at hc hd hc2 hd2
 subst hc hd hc2 hd2
 exact concat_meets ⟨_,ho,rfl⟩ ⟨_,ho2,rfl⟩ noFill_tuple_add seq_tuple_add PySem.F.slot_tuple_add PySem.F.entry_tuple_add (PySem.F.args_tuple_add_2 _ _)
   (tuple_addW0 a b _ its2.toArray n n2 dd dd2 sl sl2 (by simp)) ⟨ho,ho2,⟨.ref b,H,I.tok _,rfl,q⟩⟩
noncomputable def rCatA (K:PySem.W.Frag):R2:=fun x y H Q=>∃ a b xs ys,x=.ref a∧y=.ref b∧SqT K H a xs∧SqT K H b ys∧xs.length + ys.length≤sizeLine∧
 (xs=[]→Q (.ref b) H)∧(xs≠[]→ys=[]→Q (.ref a) H)∧(xs≠[]→ys≠[]→∀ p,H p=none→Q (.ref p) (upd H p (.tup (xs++ys))))
theorem op_catA:OpR X (binaryOp .Add) (rCatA X.K):=by
 intro pins s σ H x y v u Q I rx ry h
 obtain ⟨a,b,xs,ys,rfl,rfl,ha,hb,hz,q0,q1,q2⟩:=h
 by_cases e:xs=[]
 ·subst e
  exact op_catT0 pins s σ H _ _ v u Q I rx ry ⟨a,b,ys,rfl,rfl,ha,hb,q0 rfl⟩
 ·exact op_catT pins s σ H _ _ v u Q I rx ry ⟨a,b,xs,ys,rfl,rfl,ha,hb,e,hz,q1 e,q2 e⟩
theorem zlT:∀ l:List Int,(∀ n∈l,0≤n)→0≤l.sum
 | [],_=>by simp
 | a::l,h=>by
  have h1:=zlT l fun n hn=>h n (List.mem_cons_of_mem _ hn)
  have h2:=h a List.mem_cons_self
  rw [List.sum_cons];omega
theorem zkq:∀ (j:Nat) (l:List Int),(∀ n∈l,0≤n)→0≤(l.take j).sum∧(l.take j).sum≤l.sum
 | 0,l,h=>by have:=zlT l h;simp;exact this
 | j + 1,[],_=>by simp
 | j + 1,a::l,h=>by
  have h1:=zkq j l fun n hn=>h n (List.mem_cons_of_mem _ hn)
  have h2:=h a List.mem_cons_self
  rw [List.take_succ_cons,List.sum_cons,List.sum_cons];omega
theorem zmX:∀ (j:Nat) (l:List Int),(∀ n∈l,0≤n)→0≤l.getD j 0∧l.getD j 0≤l.sum
 | j,[],_=>by simp
 | 0,a::l,h=>by
  have h1:=zlT l fun n hn=>h n (List.mem_cons_of_mem _ hn)
  have h2:=h a List.mem_cons_self
  rw [List.sum_cons];simp;omega
 | j + 1,a::l,h=>by
  have h1:=zmX j l fun n hn=>h n (List.mem_cons_of_mem _ hn)
  have h2:=h a List.mem_cons_self
  rw [List.sum_cons];simp only [List.getD_cons_succ];omega
theorem zlg {l:List Int}(h:∀ n∈l,0≤n) (hz:l.sum < 2 ^ 62):PySem.SumFits l:=fun j _=>by
 have h1:=zkq (j + 1) l h
 have h2:=zmX j l h
 unfold InLong
 refine ⟨⟨?_,?_⟩,⟨?_,?_⟩⟩<;>omega
theorem zns (hc:X.calm=true):zeE X (.builtin "sum") (fun xs H Q=>∃ (p:Addr) (ns:List Int),xs=[.ref p]∧SqL X.K H p (ns.map V.int)∧PySem.SumFits ns∧Q (.int ns.sum) H):=by
 intro pins s σ H xs us Q I r h
 obtain ⟨p,ns,rfl,hq,hz,q⟩:=h
 obtain ⟨u,rfl,rx⟩:=zeN r
 cases rx
 obtain ⟨its,r',pl,_⟩:=I.list hq
 have hi:IntsAre its ns:=zeJ r'
 have hall:AllInts its.toArray:=hi.allInts
 have nn:numsOf its.toArray.toList=ns:=by rw [show its.toArray.toList=its from rfl,hi.numsOf]
 obtain ⟨xs,hx⟩:=hall.items
 rw [hx,nums_intItems] at nn
 have hl2:s.heap.IsList p (intItems xs):=by rw [← hx];exact pl.isList
 refine sum_intList (I.ok.hd hc) hl2 (fun j hj=>?_) fun h' tk t' hk=>?_
 ·rw [numAt_eq,preSum_eq,nn]
  exact hz j (by rw [← nn];simpa using hj)
 ·refine ⟨.int ns.sum,H,I.kept hk,⟨t',?_⟩,q⟩
  rw [preSum_eq,nn,List.take_of_length_le (by rw [← nn];simp)]
theorem zgb (a v:Value):argsOk "max" ⟨[a],[(Str.ofString "default",v)]⟩:=by unfold argsOk;kernel_rfl
end
section
variable {prog:Program}{w:World} {A:Around}
theorem zlp {R:Result→Shared→Prop}{l I S:Addr} {its:List Value}{ns:List Int} {d:Value}(hh:A.handled=none) (hi:IntsAre its ns) (hlI:l≠I) (hSI:S≠I) (hSl:S≠l) :
  ∀ (k i:Nat) (s:Shared) (m:Int) (t:Tok) (c:Nat),ns.length - i=k→i≤ns.length→s.heap.IsListIter I l i→s.heap.IsList l its.toArray→
  s.heap.get? S=some { cls:=.type "list",dict:=none,data:=.seq #[.int m t,.int m t] c,slots:=#[] }→
  (∀ h' tk t',(∀ b o,b≠I→b≠S→s.heap.get? b=some o→h'.get? b=some o)→R (.ok (.ret (.int ((ns.drop i).foldl max m) t'))) { s with heap:=h',toks:=tk })→
  codeAny (model prog w) A (.builtin "max.loop" ⟨[.ref I,.none,.ref S],[(Str.ofString "default",d)]⟩) R s:=by
 have hname:(toString "max" ++ toString ".loop" : String) = "max.loop" := by decide
 have W:=Walks.list (prog:=prog) (w:=w) (A:=A.in1) hh I l hlI its.toArray
 have hlen:its.toArray.size=ns.length:=by rw [List.size_toArray];exact hi.length
 intro k
 induction k with
 | zero=>
  intro i s m t c hk hi' hit hl hS hR
  have hin:i=ns.length:=by omega
  subst hin
  refine codeAny_builtin PySem.F.entry_max_loop ?_
  rw [Around.under_plainId PySem.F.plain_max_loop _]
  show wpAny _ A.in1 (seqItems? (.ref S) >>= _) _ _ s
  refine wpAny_bind (wpAny_seqItems hS rfl ?_)
  show wpAny _ A.in1 (tryCatch (pyNext (.ref I)) _ >>= _) _ _ s
  refine wpAny_bind (wpAny_tryCatch (W.done s _ _ (by rw [hlen];exact ⟨hit,hl⟩) fun h' tk hk'=>?_))
  have hS':=hk' S _ (by simpa using hSI) hS
  show wpAny _ A.in1 (updateSeq S (fun _=>#[]) >>= _) _ _ _
  refine wpAny_bind ?_
  refine wpAny_updateSeq hS' rfl (wpAny_bind (wpAny_letGo (wpAny_pure ?_)))
  have:=hR (h'.update S (Obj.mapSeq fun _=>#[])) tk t fun b o hbI hbS e=>(Heap.get?_update_other _ _ (Ne.symm hbS)).trans (hk' b o (by simpa using hbI) e)
  rw [List.drop_length] at this
  exact this
 | succ k ih=>
  intro i s m t c hk hi' hit hl hS hR
  have hlt:i < ns.length:=by omega
  refine codeAny_builtin PySem.F.entry_max_loop ?_
  rw [Around.under_plainId PySem.F.plain_max_loop _]
  show wpAny _ A.in1 (seqItems? (.ref S) >>= _) _ _ s
  refine wpAny_bind (wpAny_seqItems hS rfl ?_)
  show wpAny _ A.in1 (tryCatch (pyNext (.ref I)) _ >>= _) _ _ s
  refine wpAny_bind (wpAny_tryCatch (W.item i s _ _ (by rw [hlen];exact hlt) ⟨hit,hl⟩ fun v h' tk hP hst' hk'=>?_))
  have hv:its[i]?=some v:=by simpa using hP
  obtain ⟨t1,rfl⟩:∃ t1,v=.int ns[i] t1:=by
   have rv:=zfl hi
   obtain ⟨u,e1,r1⟩:=rv.get (i:=i) (x:=.int ns[i]) (by simp [hlt])
   rw [hv] at e1;cases e1
   exact r1
  have hS':=hk' S _ (by simpa using hSI) hS
  have hdrop:ns.drop i=ns[i]::ns.drop (i + 1):=List.drop_eq_getElem_cons hlt
  rw [hdrop,List.foldl_cons] at hR
  show wpAny _ A.in1 (tryCatch (holding [.int ns[i] t1,.int ns[i] t1] (richCompare .Gt (.int ns[i] t1) (.int m t) >>= _)) _ >>= _) _ _ _
  refine wpAny_bind (wpAny_tryCatch (wpAny_holding (wpAny_bind ?_)))
  refine (PyProof.Rows.gt_int ?_:wpAny (model prog w) A.in1 (compareOp .Gt (.int ns[i] t1) (.int m t)) _ _ _)
  refine wpAny_bind (wpAny_holding (wpAny_truthy_bool ?_))
  refine wpAny_bind (wpAny_letGo (wpAny_pure ?_))
  by_cases hb:m < ns[i]
  ·have e:max m ns[i]=ns[i]:=by omega
   rw [e] at hR
   simp only [show decide (ns[i] > m)=true from decide_eq_true hb,if_true]
   refine wpAny_bind ?_
   refine wpAny_updateSeq hS' rfl (wpAny_bind (wpAny_letGo ?_))
   rw [hname]
   have o1:∀ b o,b≠S→h'.get? b=some o→(h'.update S (Obj.mapSeq fun _=>#[.int ns[i] t1,.int ns[i] t1])).get? b=some o:=fun b o hbS e=>(Heap.get?_update_other _ _ (Ne.symm hbS)).trans e
   refine wpAny_pure ⟨plainId_quiet PySem.F.plain_max_loop _,ih (i + 1) _ ns[i] t1 _ (by omega) hlt (hst'.1.at fun o e=>o1 _ _ (Ne.symm hSI) e) (hst'.2.at fun o e=>o1 _ _ (Ne.symm hSl) e) (Heap.get?_update_self _ hS' rfl) fun h'' tk'' t'' hk''=>?_⟩
   exact hR h'' tk'' t'' fun b o hbI hbS e=>hk'' b o hbI hbS (o1 b o hbS (hk' b o (by simpa using hbI) e))
  ·have e:max m ns[i]=m:=by omega
   rw [e] at hR
   simp only [show decide (ns[i] > m)=false from decide_eq_false hb,Bool.false_eq_true,if_false]
   refine wpAny_bind (wpAny_letGo ?_)
   rw [hname]
   refine wpAny_pure ⟨plainId_quiet PySem.F.plain_max_loop _,ih (i + 1) _ m t c (by omega) hlt hst'.1 hst'.2 hS' fun h'' tk'' t'' hk''=>?_⟩
   exact hR h'' tk'' t'' fun b o hbI hbS e=>hk'' b o hbI hbS (hk' b o (by simpa using hbI) e)
noncomputable def maxD (ns:List Int) (d:Int):Int:=match ns with
 | []=>d
 | n::r=>r.foldl max n
theorem zlG {E:Value→Shared→Prop}{s:Shared} {l:Addr}{its:List Value} {ns:List Int}{d:Int} {td:Tok}{Q:Value→Shared→Prop} (hh:A.handled=none) (hl:s.heap.IsList l its.toArray) (hi:IntsAre its ns)
  (h:∀ h' tk t',(∀ b o,s.heap.get? b=some o→h'.get? b=some o)→Q (.int (maxD ns d) t') { s with heap:=h',toks:=tk }) :
  wpAny (model prog w) A (call (.builtin "max") [.ref l] [(Str.ofString "default",.int d td)]) Q E s:=by
 have hname:(toString "max" ++ toString ".loop" : String) = "max.loop" := by decide
 have hlen:its.toArray.size=ns.length:=by rw [List.size_toArray];exact hi.length
 obtain ⟨ol,hol,_⟩:=id hl
 have hll:l < s.heap.objs.size:=Heap.lt_size hol
 refine PyProof.Rows.kmk_tree PySem.F.kind_max PySem.F.plain_max PySem.F.entry_max (zgb _ _) ?_
 show wpAny _ A.in1 (Builtin.Builtins.bindParams "max" ["key", "default"] 0 ⟨[],[(Str.ofString "default",.int d td)]⟩ >>= _) _ _ s
 refine wpAny_bind (wpAny_of_eq (show Builtin.Builtins.bindParams "max" ["key", "default"] 0 ⟨[],[(Str.ofString "default",.int d td)]⟩=pure [none,some (.int d td)] from rfl) ?_)
 refine wpAny_bind (wpAny_pure ?_)
 refine wpAny_bind (wpAny_pyIter_list hl ?_)
 refine wpAny_bind (wpAny_newObj_type ?_)
 rw [hname]
 refine wpAny_pure ⟨plainId_quiet PySem.F.plain_max_loop _,?_⟩
 have hz:(s.heap.push { cls:=.type "list_iterator",data:=.fields #[.ref l,.int 0 0] }).objs.size=s.heap.objs.size + 1:=Heap.size_push ..
 generalize hH:((s.heap.push { cls:=.type "list_iterator",data:=.fields #[.ref l,.int 0 0] }).push { cls:=.type "list",dict:=none,data:=.seq ([]:List Value).toArray })=H
 have gI:H.IsListIter s.heap.objs.size l 0:=⟨_,by rw [← hH];exact Heap.get?_push_of_some _ (Heap.get?_push_size _ rfl),rfl,rfl⟩
 have gS:H.get? (s.heap.push { cls:=.type "list_iterator",data:=.fields #[.ref l,.int 0 0] }).objs.size=some { cls:=.type "list",dict:=none,data:=.seq #[] 0,slots:=#[] }:=by rw [← hH];exact Heap.get?_push_size _ rfl
 rw [hz] at gS ⊢
 have old:∀ b o,s.heap.get? b=some o→H.get? b=some o:=fun b o e=>by rw [← hH];exact Heap.get?_push_of_some _ (Heap.get?_push_of_some _ e)
 have gl:H.IsList l its.toArray:=hl.at fun o e=>old _ _ e
 have hlI:l≠s.heap.objs.size:=Nat.ne_of_lt hll
 have hSI:s.heap.objs.size + 1≠s.heap.objs.size:=Nat.succ_ne_self _
 have hSl:s.heap.objs.size + 1≠l:=Nat.ne_of_gt (Nat.lt_succ_of_lt hll)
 have W:=Walks.list (prog:=prog) (w:=w) (A:=A.in1) hh s.heap.objs.size l hlI its.toArray
 have kp:∀ b o,s.heap.get? b=some o→b≠s.heap.objs.size∧b≠s.heap.objs.size + 1:=fun b o e=>⟨Nat.ne_of_lt (Heap.lt_size e),Nat.ne_of_lt (Nat.lt_succ_of_lt (Heap.lt_size e))⟩
 refine codeAny_builtin PySem.F.entry_max_loop ?_
 rw [Around.under_plainId PySem.F.plain_max_loop _]
 show wpAny _ A.in1 (seqItems? (.ref (s.heap.objs.size + 1)) >>= _) _ _ _
 refine wpAny_bind (wpAny_seqItems gS rfl ?_)
 show wpAny _ A.in1 (tryCatch (pyNext (.ref s.heap.objs.size)) _ >>= _) _ _ _
 cases ns with
 | nil=>
  have e0:its.toArray.size=0:=by simpa using hlen
  refine wpAny_bind (wpAny_tryCatch (W.done _ _ _ (by rw [e0];exact ⟨gI,gl⟩) fun h' tk hk'=>?_))
  refine wpAny_bind (wpAny_rule (wpAny_pure ?_))
  exact h h' tk td fun b o e=>hk' b o (by simpa using (kp b o e).1) (old b o e)
 | cons n r=>
  refine wpAny_bind (wpAny_tryCatch (W.item 0 _ _ _ (by rw [hlen];simp) ⟨gI,gl⟩ fun v h' tk hP hst' hk'=>?_))
  have hv:its[0]?=some v:=by simpa using hP
  obtain ⟨t1,rfl⟩:∃ t1,v=.int n t1:=by
   have rv:=zfl hi
   obtain ⟨u,e1,r1⟩:=rv.get (i:=0) (x:=.int n) (by simp)
   rw [hv] at e1;cases e1
   exact r1
  have hS':=hk' (s.heap.objs.size + 1) _ (by simpa using hSI) gS
  show wpAny _ A.in1 (updateSeq (s.heap.objs.size + 1) (fun _=>#[.int n t1,.int n t1]) >>= _) _ _ _
  refine wpAny_bind ?_
  refine wpAny_updateSeq hS' rfl ?_
  rw [hname]
  have o1:∀ b o,b≠s.heap.objs.size + 1→h'.get? b=some o→(h'.update (s.heap.objs.size + 1) (Obj.mapSeq fun _=>#[.int n t1,.int n t1])).get? b=some o:=fun b o hbS e=>(Heap.get?_update_other _ _ (Ne.symm hbS)).trans e
  refine wpAny_pure ⟨plainId_quiet PySem.F.plain_max_loop _,zlp hh hi hlI hSI hSl _ 1 _ n t1 _ rfl (by simp) (hst'.1.at fun o e=>o1 _ _ (Ne.symm hSI) e) (hst'.2.at fun o e=>o1 _ _ (Ne.symm hSl) e) (Heap.get?_update_self _ hS' rfl) fun h'' tk'' t'' hk''=>?_⟩
  exact h h'' tk'' t'' fun b o e=>hk'' b o (kp b o e).1 (kp b o e).2 (o1 b o (kp b o e).2 (hk' b o (by simpa using (kp b o e).1) (old b o e)))
end
section
variable {X:Cx}{a b e:Expr} {es:List Expr}{ta tb:TE} {pos p kpos:Pos}{t tk:TA}
noncomputable def CallRK (X:Cx) (f:Value) (ks:List Str) (r:List V→List V→Hp→VK→Prop):Prop:=
 ∀ (pins:List (Addr×Obj)) (s:Shared) (σ:St) (H:Hp) (xs zs:List V) (us ws:List Value) (Q:VK),Inv X pins σ H s→Vals xs us→Vals zs ws→r xs zs H Q→
  wpAny (model X.prog X.w) X.A (call f us (ks.zip ws)) (EP X pins σ Q) X.xe s
noncomputable def tCBK (r:List V→List V→Hp→VK→Prop) (t tk:TA):TE:=fun σ H Q=>t σ H fun vs H1=>tk σ H1 fun zs H2=>r vs zs H2 Q
theorem zmu {id:String}{ks:List Str} {r:List V→List V→Hp→VK→Prop}{x:Str} {kws:List Keyword}(hc:CallRK X (.builtin id) ks r) (hg:Gl X x) (hm:X.mg x=none) (hv:bootBuiltins x=some (.builtin id)) (ha:PA X (e::es) t) (hk:PK X kws tk)
  (hks:(backToKw pos (keywordEach kws X.env)).filterMap (·.1)=ks:=by rfl) (hn:x ≠ "__name__" := by decide) (hdb:(x == ("__debug__" : Str))=false:=by decide)
  (he:backTo pos (starEach (e::es) X.env)=(false,eval e X.env)::backTo pos (starEach es X.env):=by rfl)
  (hplain:(backTo pos (starEach (e::es) X.env)).any (·.1)=false:=by rfl)
  (hall:(backToKw pos (keywordEach kws X.env)).all (·.1.isSome)=true:=by rfl)
  (hkw:(backToKw pos (keywordEach kws X.env)).any (·.1.isNone)=false:=by rfl):PE X (.Call (.Name x p) (e::es) kws pos) (tCBK r t tk):=by
 intro pins s σ H Q I h
 refine wpAny_Call_Name_kw (zem I hg hm hv ?_ hn hdb)
 refine callWith_kw (thn (ha pos pins s σ H _ I h) fun us s1 ⟨vs,H1,I1,r1,q1⟩=>thn (hk pos pins s1 σ H1 _ I1 q1) fun ws s2 ⟨zs,H2,I2,r2,q2⟩=>?_) he hplain hall hkw
 rw [hks]
 exact hc pins s2 σ H2 vs zs us ws Q I2 r1 r2 q2
theorem znt (hc:X.calm=true):CallRK X (.builtin "max") [Str.ofString "default"] (fun xs zs H Q=>∃ (p:Addr) (ns:List Int) (d:Int),xs=[.ref p]∧zs=[.int d]∧SqL X.K H p (ns.map V.int)∧Q (.int (maxD ns d)) H):=by
 intro pins s σ H xs zs us ws Q I r rz h
 obtain ⟨p,ns,d,rfl,rfl,hq,q⟩:=h
 obtain ⟨u,rfl,rx⟩:=zeN r
 obtain ⟨v,rfl,td,rfl⟩:=zeN rz
 cases rx
 obtain ⟨its,r',pl,_⟩:=I.list hq
 exact zlG (I.ok.hd hc) pl.isList (zeJ r') fun h' tk t' hk=>⟨.int _,H,I.kept hk,⟨t',rfl⟩,q⟩
noncomputable def rSlS:V→Option Int→Option Int→Hp→VK→Prop:=fun x lo hi H Q=>∃ z,x=.str z∧z.length≤sizeLine∧∀ y:Str,y.length≤z.length→y=Txt.slice z lo hi→Q (.str y) H
theorem sl_str:SlR X rSlS:=by
 intro pins s σ H x v vl vu lo hi sl Q I rx hs pl pu h
 obtain ⟨z,rfl,hz,q⟩:=h
 obtain ⟨t,rfl⟩:=rx
 refine ⟨"str",_,PySem.F.slot_str_getitem.lookup,typeIs_str s z t,?_⟩
 obtain ⟨o,ho,hc,hd⟩:=hs
 have fin:∀ (lo hi:Option Int),(∀ y:Str,y.length≤z.length→y=Txt.slice z lo hi→Q (.str y) H)→(Txt.slice z lo hi).length≤sizeLine∧∀ t' k,EP X pins σ Q (.str (Txt.slice z lo hi) t') { s with toks:=k }:=fun lo hi q=>
  ⟨Nat.le_trans (Txt.slice_le z lo hi) hz,fun t' k=>⟨.str _,H,I.tok _,⟨_,rfl⟩,q _ (Txt.slice_le z lo hi) rfl⟩⟩
 cases pl with
 | none=>
  cases pu with
  | none=>exact wpAny_getItem_str_slice (l:=none) (u:=none) (st:=none) ⟨o,ho,hc,hd⟩ rfl (post_val_or_str (fin none none q))
  | int j uj=>exact wpAny_getItem_str_slice (l:=none) (u:=some (j,uj)) (st:=none) ⟨o,ho,hc,hd⟩ rfl (post_val_or_str (fin none (some j) q))
 | int i ui=>
  cases pu with
  | none=>exact wpAny_getItem_str_slice (l:=some (i,ui)) (u:=none) (st:=none) ⟨o,ho,hc,hd⟩ rfl (post_val_or_str (fin (some i) none q))
  | int j uj=>exact wpAny_getItem_str_slice (l:=some (i,ui)) (u:=some (j,uj)) (st:=none) ⟨o,ho,hc,hd⟩ rfl (post_val_or_str (fin (some i) (some j) q))
theorem zlh {ys:List Str}:∀ {us:List Value},Vals (ys.map V.str) us→StrsAre us ys:=by
 induction ys with
 | nil=>intro us r;rw [List.map_nil] at r;cases r;exact .nil
 | cons n ns ih=>
  intro us r
  rw [List.map_cons] at r
  cases r with
  | cons r1 r2=>
   obtain ⟨t,e⟩:=r1
   subst e
   exact .cons n t (ih r2)
theorem mt_join:MtR X "str.join" (fun x xs H Q=>∃ (sep:Str) (p:Addr) (ys:List Str),x=.str sep∧xs=[.ref p]∧SqL X.K H p (ys.map V.str)∧(ys.map (·.length)).sum + ys.length * sep.length≤16777216∧
  ∀ y:Str,y=Txt.join sep ys→Q (.str y) H):=by
 intro pins s σ H x xs v us Q I rx rs h
 obtain ⟨sep,p,ys,rfl,rfl,hq,hz,q⟩:=h
 obtain ⟨t,rfl⟩:=rx
 obtain ⟨u,rfl,ru⟩:=zeN rs
 cases ru
 obtain ⟨its,r',pl,_⟩:=I.list hq
 exact join_list pl.isList (zlh r') hz fun t' k=>⟨.str _,H,I.tok _,⟨_,rfl⟩,q _ rfl⟩
end
end L2
set_option Elab.async false
set_option linter.all false
set_option maxRecDepth 100000
namespace L2
open PySem PySem.Spec PyProof.Rows
section
variable {X:Cx}{e st:Expr} {te ts:TE}{pos p2:Pos}
theorem zkN {α β:Type}{f g:α→Option β}:∀ {l:List α},(∀ k∈l,f k=g k)→l.filterMap f=l.filterMap g
 | [],_=>rfl
 | a::l,h=>by
  rw [List.filterMap_cons,List.filterMap_cons,h a List.mem_cons_self,zkN fun k hk=>h k (List.mem_cons_of_mem _ hk)]
theorem zmb (l:List Value):((List.range l.length).map fun (k:Nat)=>(((l.length:Int) - 1) + (-1) * (k:Int)).toNat).filterMap (fun i=>l[i]?)=l.reverse:=by
 apply List.ext_getElem?
 intro i
 rw [List.filterMap_map]
 have e:((List.range l.length).filterMap ((fun i=>l[i]?) ∘ fun (k:Nat)=>(((l.length:Int) - 1) + (-1) * (k:Int)).toNat))=(List.range l.length).filterMap fun k=>l.reverse[k]?:=by
  refine zkN fun k hk=>?_
  have hk':k < l.length:=List.mem_range.mp hk
  show l[(((l.length:Int) - 1) + (-1) * (k:Int)).toNat]?=l.reverse[k]?
  rw [List.getElem?_reverse hk']
  congr 1
  omega
 rw [e]
 have e2:∀ r:List Value,(List.range r.length).filterMap (fun k=>r[k]?)=r:=by
  intro r
  induction r with
  | nil=>rfl
  | cons a r ih=>
   rw [List.length_cons,List.range_succ_eq_map,List.filterMap_cons]
   simp only [List.getElem?_cons_zero,List.filterMap_map]
   congr 1
 have e3:=e2 l.reverse
 rw [List.length_reverse] at e3
 rw [e3]
theorem pick_rev (its:List Value):slicePick its.toArray none none (some (-1))=its.reverse.toArray:=by
 unfold slicePick
 have h1:sliceBounds none none (some (-1)) its.toArray.size=((its.length:Int) - 1,-1,-1):=by
  simp [sliceBounds]
 rw [h1]
 unfold sliceRange
 simp only [show ¬ ((-1:Int) > 0) by decide,if_false]
 have hc:(if (its.length:Int) - 1 > -1 then ((its.length:Int) - 1 - -1 - -1 - 1) / (- -1) else 0).toNat=its.length:=by
  have e1:(- -1:Int)=1:=by decide
  rw [e1,Int.ediv_one]
  split<;>omega
 rw [hc]
 have:=zmb its
 simp only [List.getElem?_toArray]
 rw [this]
noncomputable def rRev (K:PySem.W.Frag):V→Hp→VK→Prop:=fun x H Q=>∃ a xs,x=.ref a∧SqL K H a xs∧∀ p,H p=none→Q (.ref p) (upd H p (.lst xs.reverse))
noncomputable def tRev (K:PySem.W.Frag) (te ts:TE):TE:=fun σ H Q=>te σ H fun x H1=>ts σ H1 fun y H2=>y=.int (-1)∧rRev K x H2 Q
theorem pe_rev (he:PE X e te) (hs:PE X st ts):PE X (.Subscript e (.Slice none none (some st) p2) pos) (tRev X.K te ts):=by
 intro pins s σ H Q I h
 refine Subscript_ (thn (he pins s σ H _ I h) fun v s1 ⟨x,H1,I1,r1,q1⟩=>?_)
 refine wpAny_Slice ?_
 rw [evalPart_none,evalPart_some]
 refine wpAny_pure (wpAny_pure (thn (hs pins s1 σ H1 _ I1 q1) fun vs s3 ⟨y,H3,I3,r3,ey,q3⟩=>?_))
 subst ey
 obtain ⟨t,rfl⟩:=r3
 have I4:Inv X pins σ H3 { s3 with heap:=s3.heap.push { cls:=.type "slice",data:=.fields #[.none,.none,.int (-1) t] } }:=I3.kept (t':=s3.toks) fun b ob q=>Heap.get?_push_of_some _ q
 obtain ⟨a,xs,rfl,hx,q⟩:=q3
 cases r1
 obtain ⟨its,r,ht,hz⟩:=I4.list hx
 have hlen:=r.length
 show wpAny (model X.prog X.w) X.A (subscriptTail e (.Slice none none (some st) p2) (.ref a) (.ref s3.heap.objs.size)) (EP X pins σ Q) X.xe { s3 with heap:=s3.heap.push { cls:=.type "slice",data:=.fields #[.none,.none,.int (-1) t] } }
 refine tail_any (ops:=[.ref a,.ref s3.heap.objs.size]) ht.isList.typeIs slot_list_getitem.lookup ?_ (by with_unfolding_all rfl)
 refine wpAny_getItem_list_slice ht.isList (Heap.IsSliceOf.new ..) .none .none (.int (-1) t) (by simp) ?_ (by rw [List.size_toArray]<;>omega)
 rw [pick_rev]
 exact ⟨.ref _,_,I4.lnew (t':=s3.toks) r.reverse (by rw [List.length_reverse];exact hz),rfl,q _ I4.fresh⟩
end
end L2
namespace HT
open PySem PyProof.Rows
section
open PySem.SeqAt
open PySem.AutoSeq1 (wpAny_loadPart')
open PySem.MeetsSeq PySem.MeetsSeq2 PySem.MeetsSeq3
theorem rcGe_int (A:Around) (s:Shared) (a:Int) (t:Tok) (c:Int) (u:Tok) (prog:Program) (w:World) (E:Value→Shared→Prop) (Q:Value→Shared→Prop) (h:Q (.bool (decide (c≤a))) s) :
  wpAny (model prog w) A (richCompare .GtE (.int a t) (.int c u)) Q E s:=
 (PyProof.Rows.ge_int h:wpAny (model prog w) A (compareOp .GtE (.int a t) (.int c u)) Q E s)
theorem zhV (l b:Addr) (items items2:Array Value) (n n2:Nat) (dd dd2:Option Addr) (sl sl2:Array (Option Value)) (ns ms:List Int) (hi:IntsAre items.toList ns) (hj:IntsAre items2.toList ms) :
  Meets (Builtin.«tuple.__ge__» ⟨[.ref l,.ref b],[]⟩)
   (fun _ R s=>s.heap.get? l=some { cls:=.type "tuple",dict:=dd,data:=.seq items n,slots:=sl }∧s.heap.get? b=some { cls:=.type "tuple",dict:=dd2,data:=.seq items2 n2,slots:=sl2 }∧
    R (.ok (.ret (.bool (!lexLt ns ms)))) s):=
 .of_wp fun prog w A R s h=>by
  obtain ⟨hp,g,d,tk,os⟩:=s;obtain ⟨hl,hb,h⟩:=h
  have f2:=AutoSeq1.sub_tuple_tuple
  have z1:items.size=ns.length:=by rw [← hi.length];simp
  have z2:items2.size=ms.length:=by rw [← hj.length];simp
  wp_walk using wpAny_loadPart' hl,wpAny_loadPart' hb,wpAny_forIn_list _ (fun rest b s'=>b.1=none∧s'=⟨hp,g,d,tk,os⟩∧∃ (vs ws:List Value) (ns' ms':List Int),rest=vs.zip ws∧
   IntsAre vs ns'∧IntsAre ws ms'∧ns'.length + items2.size=ms'.length + items.size∧R (.ok (.ret (.bool (!lexLt ns' ms')))) ⟨hp,g,d,tk,os⟩) _
  case turn=>
   rintro ⟨y,x⟩ rest b s' ⟨hb',rfl,vs,ws,ns',ms',hz,hvi,hwi,hlen,hR⟩
   cases hvi with
   | nil=>rw [List.zip_nil_left] at hz;cases hz
   | cons a t hvi'=>
    cases hwi with
    | nil=>rw [List.zip_nil_right] at hz;cases hz
    | cons c u hwi'=>
     rw [List.zip_cons_cons] at hz
     injection hz with hyx hrest
     injection hyx with hy hx
     subst hy hx
     rw [zls] at hR
     simp only [List.length_cons] at hlen
     obtain ⟨e,he,hiff⟩:=eqAt_int A.in1 ⟨hp,g,d,tk,os⟩ a t c u
     refine wpAny_bind (he prog w _ _ ?_)
     cases e with
     | true=>
      rw [if_pos (hiff.mp rfl)] at hR
      wp_walk
      exact ⟨rfl,rfl,_,_,_,_,hrest,hvi',hwi',by omega,hR⟩
     | false=>
      rw [if_neg (fun q=>absurd (hiff.mpr q) Bool.false_ne_true)] at hR
      have hri:=rcGe_int A.in1 ⟨hp,g,d,tk,os⟩ a t c u prog w
      have e2:(!decide (a < c))=decide (c≤a):=by
       by_cases q:a < c
       ·rw [decide_eq_true q,decide_eq_false (by omega)];rfl
       ·rw [decide_eq_false q,decide_eq_true (by omega)];rfl
      rw [e2] at hR
      wp_walk using hri
      exact ⟨_,rfl,by simpa using hR⟩
  case fin=>
   rintro ⟨b1,b2⟩ s' ⟨hb',rfl,vs,ws,ns',ms',hz,hvi,hwi,hlen,hR⟩
   simp only at hb'
   subst hb'
   have hv:lexLt ns' ms'=decide (items.size < items2.size):=by
    cases hvi with
    | nil=>
     cases hwi with
     | nil=>
      simp only [List.length_nil] at hlen
      rw [zio]
      exact (decide_eq_false (by omega)).symm
     | cons c u hw=>
      simp only [List.length_nil,List.length_cons] at hlen
      rw [zhs]
      exact (decide_eq_true (by omega)).symm
    | cons a t hv=>
     cases hwi with
     | nil=>
      simp only [List.length_nil,List.length_cons] at hlen
      rw [zht]
      exact (decide_eq_false (by omega)).symm
     | cons c u hw=>
      rw [List.zip_cons_cons] at hz
      cases hz
   have e2:(!decide (items.size < items2.size))=decide (items.size ≥ items2.size):=by
    by_cases q:items.size < items2.size
    ·rw [decide_eq_true q,decide_eq_false (by omega)];rfl
    ·rw [decide_eq_false q,decide_eq_true (by omega)];rfl
   rw [hv,e2] at hR
   wp_walk
   exact ⟨_,rfl,by simpa [Builtin.Tuple.tupleCompareSizes] using hR⟩
  case h=>
   exact ⟨rfl,rfl,items.toList,items2.toList,ns,ms,rfl,hi,hj,by omega,h⟩
end
section
variable {prog:Program}{w:World} {A:Around}{E:Value→Shared→Prop} {s:Shared}
theorem ge_tupInts {l b:Addr}{items items2:Array Value} {ns ms:List Int}{Q:Value→Shared→Prop} (hl:IsTup s.heap l items) (hb:IsTup s.heap b items2) (hi:IntsAre items.toList ns) (hj:IntsAre items2.toList ms)
  (hu:A.units < cLine) (h:Q (.bool (!lexLt ns ms)) s):wpAny (model prog w) A (compareOp .GtE (.ref l) (.ref b)) Q E s:=by
 obtain ⟨⟨cls,dd,data,sl⟩,ho,hc,n,hd⟩:=id hl
 obtain ⟨⟨cls2,dd2,data2,sl2⟩,ho2,hc2,n2,hd2⟩:=id hb
 simp only at hc hd hc2 hd2
 subst hc hd hc2 hd2
 exact richCompare_meets_room (op:=.GtE) ⟨_,ho,rfl⟩ ⟨_,ho2,rfl⟩ PySem.F.slot_tuple_ge PySem.F.entry_tuple_ge (PySem.F.args_tuple_ge_2 _ _) (zhV l b items items2 n n2 dd dd2 sl sl2 ns ms hi hj)
  ⟨ho,ho2,show Value.bool (!lexLt ns ms)≠Value.notImplemented∧Q (.bool (!lexLt ns ms)) s from ⟨(fun x=>nomatch x),h⟩⟩ hu
theorem zfD {it l:Addr}{i:Nat} {items} {x:Value}{Q:Value→Shared→Prop} (hit:s.heap.IsTupleIter it l i)
  (hl:s.heap.IsTuple l items) (hx:items[i]?=some x)
  (hQ:∀ h',h'.IsTupleIter it l (i + 1)→Heap.SameBut it s.heap h'→Q x { s with heap:=h' }) :
  wpAny (model prog w) A (Builtin.SmallTypes.nextOf (.ref it)) Q E s:=by
 obtain ⟨o,ho,hc,hd⟩:=id hit
 obtain ⟨ol,hol,_,nl,hdl⟩:=hl
 unfold Builtin.SmallTypes.nextOf
 refine wpAny_bind (wpAny_callSpecial?_slot (name:=Str.ofString "__next__") hit.typeIs PySem.F.slot_tuple_iterator_next
  (wpAny_call_entry PySem.F.slot_tuple_iterator_next hit.typeIs PySem.F.entry_tuple_iterator_next ?_ (PySem.F.args_tuple_iterator_next_1 _)))
 show wpAny _ _ (field (.ref it) 0 >>= _) _ _ s
 refine wpAny_bind (wpAny_field ho hd (x:=.ref l) rfl ?_)
 show wpAny _ _ (if (Value.ref l == Value.none)=true then _ else _) _ _ s
 rw [if_neg (show ¬ ((Value.ref l == Value.none)=true) from Bool.false_ne_true)]
 show wpAny _ _ (field (.ref it) 1 >>= _) _ _ s
 refine wpAny_bind (wpAny_field ho hd (x:=.int i 0) rfl ?_)
 show wpAny _ _ (seqItems? (.ref l) >>= _) _ _ s
 refine wpAny_bind (wpAny_seqItems hol hdl ?_)
 simp only [Int.toNat_natCast,hx]
 refine wpAny_bind (wpAny_setField ho hd (by simp) (wpAny_pure ⟨x,rfl,wpAny_pure (hQ _ ?_ (Heap.SameBut.update ..))⟩))
 exact ⟨_,Heap.get?_update_self _ ho (Obj.isFreed_of_fields (Obj.data_mapFields hd _)),(Obj.cls_mapFields ..).trans hc,by
  rw [Obj.data_mapFields hd];simp [rawInt]⟩
theorem zfX {it l:Addr}{i:Nat} {items} {Q:Value→Shared→Prop}(hh:A.handled=none)
  (hit:s.heap.IsTupleIter it l i) (hl:s.heap.IsTuple l items) (hx:items[i]?=none)
  (hE:∀ h' e,Heap.ExtBut it s.heap h'→(∃ o,h'.get? e=some o∧o.cls=.type "StopIteration")→E (.ref e) { s with heap:=h' }) :
  wpAny (model prog w) A (Builtin.SmallTypes.nextOf (.ref it)) Q E s:=by
 obtain ⟨o,ho,hc,hd⟩:=id hit
 obtain ⟨ol,hol,_,nl,hdl⟩:=hl
 unfold Builtin.SmallTypes.nextOf
 refine wpAny_bind (wpAny_callSpecial?_slot (name:=Str.ofString "__next__") hit.typeIs PySem.F.slot_tuple_iterator_next
  (wpAny_call_entry PySem.F.slot_tuple_iterator_next hit.typeIs PySem.F.entry_tuple_iterator_next ?_ (PySem.F.args_tuple_iterator_next_1 _)))
 show wpAny _ _ (field (.ref it) 0 >>= _) _ _ s
 refine wpAny_bind (wpAny_field ho hd (x:=.ref l) rfl ?_)
 show wpAny _ _ (if (Value.ref l == Value.none)=true then _ else _) _ _ s
 rw [if_neg (show ¬ ((Value.ref l == Value.none)=true) from Bool.false_ne_true)]
 show wpAny _ _ (field (.ref it) 1 >>= _) _ _ s
 refine wpAny_bind (wpAny_field ho hd (x:=.int i 0) rfl ?_)
 show wpAny _ _ (seqItems? (.ref l) >>= _) _ _ s
 refine wpAny_bind (wpAny_seqItems hol hdl ?_)
 simp only [Int.toNat_natCast,hx]
 refine wpAny_bind (wpAny_rule (wpAny_bind (wpAny_setField ho hd (by simp) ?_)))
 show wpAny _ _ (newExc (.type "StopIteration") [] >>= _) _ _ _
 refine wpAny_bind ?_
 simp only [newExc,newTuple]
 refine wpAny_bind (wpAny_newObj_type ?_ (by size_fits))
 refine wpAny_bind (m:=firstArgMember _ _) (wpAny_of_eq (a:=Value.none) (by first | rfl | (simp only [firstArgMember];rfl)) ?_)
 refine wpAny_newObj_type ?_ (by size_fits)
 simp only [raiseNew]
 refine wpAny_bind (wpAny_handled ?_)
 first | rw [show A.in1.handled=none from hh] | rw [hh]
 refine wpAny_bind (wpAny_pure (wpAny_throw ?_))
 exact hE _ _ (((Heap.SameBut.update ..).extBut.push _).push _) ⟨_,Heap.get?_push_size _ rfl,rfl⟩
end
theorem drawsT {prog:Program}{w:World} {A:Around}(hh:A.handled=none) (it l:Addr) (hne:l≠it) (items:Array Value) :
  Draws prog w A it [it,l] items.size (fun i v=>items[i]?=some v) (fun i h=>h.IsTupleIter it l i∧h.IsTuple l items) where
 live:=fun _ _ st=>let ⟨o,ho,_⟩:=st.1;⟨o,ho⟩
 frame:=fun _ _ _ st hk=>⟨st.1.at fun o e=>hk it (by simp) o e,let ⟨o,ho,r⟩:=st.2;⟨o,hk l (by simp) o ho,r⟩⟩
 item:=fun i s Q E hi st hQ=>by
  refine zfD st.1 st.2 (x:=items[i]) (by simp [hi]) fun h' hit' hs'=>?_
  exact hQ _ h' s.toks (by simp [hi]) ⟨hit',let ⟨o,ho,r⟩:=st.2;⟨o,hs'.extBut _ _ hne ho,r⟩⟩ hs'
 done:=fun s Q E st hE=>zfX hh st.1 st.2 (by simp) hE
theorem zhu (l:Addr) (items:Array Value) (n:Nat) (dct:Option Addr) (sl:Array (Option Value)) :
  Meets (Builtin.«enumerate.__new__» ⟨[.type "enumerate",.ref l],[]⟩) (fun _ R s=>s.heap.get? l=some { cls:=.type "tuple",dict:=dct,data:=.seq items n,slots:=sl }∧
   R (.ok (.ret (.ref (s.heap.push { cls:=.type "tuple_iterator",data:=.fields #[.ref l,.int 0 0] }).objs.size)))
    { s with heap:=(s.heap.push { cls:=.type "tuple_iterator",data:=.fields #[.ref l,.int 0 0] }).push { cls:=.type "enumerate",data:=.fields #[.none,.bool false,.ref s.heap.objs.size,rawInt 0,.none,.none] } }):=
 .of_wp fun prog w A R s h=>by
  obtain ⟨hp,g,d,tk,os⟩:=s;obtain ⟨hl,h⟩:=h
  have hsub:=sub_enumerate
  have hL:Heap.IsTuple (Shared.heap ⟨hp,g,d,tk,os⟩) l items:=⟨_,hl,rfl,n,rfl⟩
  wp_walk using AutoSeq1.wpAny_loadPart' hl
  refine wpAny_stack_any fun st=>wpAny_pure ?_
  split
  ·rename_i c _ _ _ _ _
   cases (c == Value.type "enumerate")
   ·wp_walk using AutoSeq1.wpAny_loadPart' hl,wpAny_pyIter_tuple hL
    exact ⟨_,rfl,h⟩
   ·wp_walk using AutoSeq1.wpAny_loadPart' hl,wpAny_pyIter_tuple hL
    exact ⟨_,rfl,h⟩
  ·wp_walk using AutoSeq1.wpAny_loadPart' hl,wpAny_pyIter_tuple hL
   exact ⟨_,rfl,h⟩
section
variable {prog:Program}{w:World} {A:Around}{E:Value→Shared→Prop} {s:Shared}
theorem call_enumerate_tuple {l:Addr}{items:Array Value} {Q:Value→Shared→Prop}(hL:s.heap.IsTuple l items)
  (h:∀ h',IsEnum h' (s.heap.objs.size + 1) s.heap.objs.size 0 .none→h'.IsTupleIter s.heap.objs.size l 0→h'.objs.size=s.heap.objs.size + 2→
   (∀ b o,s.heap.get? b=some o→h'.get? b=some o)→Q (.ref (s.heap.objs.size + 1)) { s with heap:=h' }) :
  wpAny (model prog w) A (call (.type "enumerate") [.ref l]) Q E s:=by
 obtain ⟨⟨c,dct,dt,sl⟩,hl,hc,n,hd⟩:=hL
 replace hc:c=.type "tuple" := hc
 replace hd:dt=.seq items n:=hd
 subst hc hd
 refine callType_new PySem.F.called_enumerate (by decide) (PySem.F.typeCall_enumerate_1 _) (PySem.F.newCall_enumerate_1 _) (fun obj=>PySem.F.args_object_init_2 obj _) PySem.F.entry_enumerate_new
  (zhu l items n dct sl) ⟨hl,?_⟩
 have hz:(s.heap.push { cls:=.type "tuple_iterator",data:=.fields #[.ref l,.int 0 0] }).objs.size=s.heap.objs.size + 1:=Heap.size_push ..
 show _∧_
 rw [hz]
 have he:IsEnum ((s.heap.push { cls:=.type "tuple_iterator",data:=.fields #[.ref l,.int 0 0] }).push
   { cls:=.type "enumerate",data:=.fields #[.none,.bool false,.ref s.heap.objs.size,rawInt 0,.none,.none] }) (s.heap.objs.size + 1) s.heap.objs.size 0 .none:=by
  have:=Heap.get?_push_size (s.heap.push { cls:=.type "tuple_iterator",data:=.fields #[.ref l,.int 0 0] })
   (o:={ cls:=.type "enumerate",data:=.fields #[.none,.bool false,.ref s.heap.objs.size,rawInt 0,.none,.none] }) rfl
  rw [hz] at this;exact this
 refine ⟨⟨_,he,rfl⟩,h _ he ⟨_,Heap.get?_push_of_some _ (Heap.get?_push_size _ rfl),rfl,rfl⟩ (by rw [Heap.size_push,hz]) fun b o x=>Heap.get?_push_of_some _ (Heap.get?_push_of_some _ x)⟩
end
end HT
namespace L2
open PySem PySem.Spec PyProof.Rows
section
variable {X:Cx}
noncomputable def rGeT (K:PySem.W.Frag):R2:=fun x y H Q=>∃ a b ns ms,x=.ref a∧y=.ref b∧SqT K H a (ns.map V.int)∧SqT K H b (ms.map V.int)∧Q (.bl (!HT.lexLt ns ms)) H
theorem op_geT (hu:X.A.units < cLine):OpR X (compareOp .GtE) (rGeT X.K):=by
 intro pins s σ H x y v u Q I rx ry h
 obtain ⟨a,b,ns,ms,rfl,rfl,ha,hb,q⟩:=h
 cases rx
 cases ry
 obtain ⟨its,r1,p1,_⟩:=I.tuple ha
 obtain ⟨its2,r2,p2,_⟩:=I.tuple hb
 have i1:IntsAre its.toArray.toList ns:=zeJ r1
 have i2:IntsAre its2.toArray.toList ms:=zeJ r2
 exact HT.ge_tupInts p1 p2 i1 i2 hu ⟨.bl (!HT.lexLt ns ms),H,I,rfl,q⟩
noncomputable def Ite (K:PySem.W.Frag) (a:Addr):It:=
 ⟨fun i H=>∃ xs x,SqT K H a xs∧xs[i]?=some x,fun i H x H'=>∃ p v,H p=none∧x=.ref p∧H'=upd H p (.tup [.int i,v])∧∀ xs,SqT K H a xs→xs[i]?=some v,fun i H=>∃ xs,SqT K H a xs∧xs.length=i⟩
theorem zld {P:Program}{w:World} {K:PySem.W.Frag}{elts:List Expr} {k:Nat}{tpos:Pos} (a e it:Addr) (hei:e≠it):Turn P w K (.Tuple elts k tpos) (Ite K a) [e,it] e (fun i h=>(∃ old,IsEnum h e it i old)∧h.IsTupleIter it a i) where
 mem:=by simp
 obj:=fun i h st b hb=>by
  obtain ⟨⟨old,he⟩,o,e2,c,d⟩:=st
  rcases List.mem_cons.mp hb with rfl | hb
  ·exact ⟨_,he,fun v z=>by cases (show Data.fields _=Data.cell v from z)⟩
  ·rw [List.mem_singleton.mp hb]
   exact ⟨o,e2,fun v z=>by rw [d] at z;cases z⟩
 keep:=fun i h h' st k=>⟨let ⟨old,he⟩:=st.1;⟨old,k e (by simp) _ he⟩,st.2.at fun o e=>k it (by simp) o e⟩
 item:=by
  intro X hP hw hK hc i pins s σ H E I hf st hg
  subst hP hw hK
  obtain ⟨xs,x,hq,hx⟩:=hg
  obtain ⟨its,rv,p,hz⟩:=I.tuple hq
  obtain ⟨u,hu,ru⟩:=rv.get hx
  obtain ⟨⟨old,he⟩,hit⟩:=st
  have fe:=hf e (by simp)
  have fi:=hf it (by simp)
  have hai:a≠it:=by
   rintro rfl
   obtain ⟨o,e1,c1,_⟩:=id hit
   obtain ⟨o',e2,c2,_⟩:=id p
   rw [e1] at e2;cases e2;rw [c1] at c2
   exact absurd c2 (by decide)
  have hae:a≠e:=by
   rintro rfl
   obtain ⟨o',e2,c2,_⟩:=id p
   rw [he] at e2;cases e2
   exact absurd (show Value.type "enumerate" = Value.type "tuple" from c2) (by decide)
  have hilt:i < its.toArray.size:=by
   have:=(List.getElem?_eq_some_iff.mp hu).1
   simpa using this
  refine wpAny_pyNext_enum_itemD (HT.drawsT (A:=X.A.in1) (I.ok.hd hc) it a hai its.toArray) he ⟨hit,p⟩ hilt hei (by simp [hei,Ne.symm hae]) fun x' h' tk hP ho hs' hT hsz hk=>?_
  have ex:x'=u:=by
   have:its[i]?=some x':=by simpa using hP
   rw [hu] at this;exact (Option.some.inj this).symm
  subst ex
  refine ⟨_,rfl,?_⟩
  refine wpAny_letOwnedTupleGo_enum ho fun h2 he2 hs2=>?_
  have hTe:s.heap.objs.size≠e:=Nat.ne_of_gt (Heap.lt_size he)
  have hTn:h2.get? s.heap.objs.size=some { cls:=.type "tuple",data:=.seq #[.int i tk,x'] }:=(hs2.2 _ hTe).trans hT
  have kk:∀ b o,b≠e→b≠it→s.heap.get? b=some o→h2.get? b=some o:=fun b o h1 h3 e=>(hs2.2 b h1).trans (hk b o h1 h3 e)
  have hit2:h2.IsTupleIter it a (i + 1):=hs'.1.at fun o e=>(hs2.2 it (Ne.symm hei)).trans e
  have fr:H s.heap.objs.size=none:=I.fresh
  have nE:∀ b u,H b=some u→b≠e:=fun b u q z=>by rw [z,fe.1] at q;cases q
  have nI:∀ b u,H b=some u→b≠it:=fun b u q z=>by rw [z,fi.1] at q;cases q
  have hok0:HOk X.prog X.w H h2:=fun b u q=>by
   refine (I.hok b u q).stay (fun c v hc q'=>kk c v ?_ ?_ q') (fun _ z=>z) fun _ _ z=>z
   ·rcases hc with z | z
    ·rw [z];exact nE b u q
    ·exact nE c _ z
   ·rcases hc with z | z
    ·rw [z];exact nI b u q
    ·exact nI c _ z
  have new:zcg X.prog X.w (upd H s.heap.objs.size (.tup [.int i,x])) h2 s.heap.objs.size (.tup [.int i,x]):=
   ⟨by show 2≤sizeLine;rw [sizeLine_eq];decide,[.int i tk,x'],.cons ⟨_,rfl⟩ (.cons ru .nil),⟨_,hTn,rfl,_,rfl⟩⟩
  have hok1:HOk X.prog X.w (upd H s.heap.objs.size (.tup [.int i,x])) h2:=fun b u q=>by
   by_cases hb:b=s.heap.objs.size
   ·subst hb;rw [zas] at q;cases q;exact new
   ·rw [zaw hb] at q
    exact (hok0 b u q).stay (fun _ _ _ z=>z) (fun c z=>by rw [zaw (zal z fr)];exact z) fun c xs z=>by rw [zaw (zal z fr)];exact z
  have I1:Inv X pins σ (upd H s.heap.objs.size (.tup [.int i,x])) { s with heap:=h2,toks:=tk + 1 }:=by
   refine I.step (g':=s.gens) (d':=s.drawn) (ch:=[e,it]) (fun b hb=>?_) (fun b o _ _ hcc q _=>kk b o (fun z=>hcc (by simp [z])) (fun z=>hcc (by simp [z])) q) (fun b o _ _ hcc q _=>⟨o.slots,kk b o (fun z=>hcc (by simp [z])) (fun z=>hcc (by simp [z])) q⟩)
    (fun b o _ q n=>by rw [zaw (Nat.ne_of_lt (Heap.lt_size q))];exact n) (fun b o hcc q=>⟨o,kk b o (fun z=>hcc (by simp [z])) (fun z=>hcc (by simp [z])) q⟩) (fun b xs q=>by rw [zaw (zal q fr)];exact q) (fun b o xs q=>by rw [zaw (zal q fr)];exact q)
    (fun b ps q=>⟨#[],by rw [zaw (zal q fr),q];simp⟩) (fun m hm=>?_) hok1 I.bare
   ·rcases List.mem_cons.mp hb with rfl | hb
    ·exact ⟨fe.2.2.2.1,fe.2.1,fe.2.2.2.2.1,fe.2.2.2.2.2⟩
    ·rw [List.mem_singleton.mp hb]
     exact ⟨fi.2.2.2.1,fi.2.1,fi.2.2.2.2.1,fi.2.2.2.2.2⟩
   ·obtain ⟨o,es,ep,ho',r⟩:=hm
    exact ⟨o,es,ep,kk _ o (Ne.symm fe.2.1) (Ne.symm fi.2.1) ho',r⟩
  refine ⟨.ref s.heap.objs.size,_,I1,rfl,⟨s.heap.objs.size,x,fr,rfl,rfl,fun ys hy=>by rw [I.tuple_inj hy hq];exact hx⟩,⟨⟨x',by simpa using he2⟩,hit2⟩,fun b hb=>?_⟩
  have hbl:b≠s.heap.objs.size:=by
   rcases List.mem_cons.mp hb with rfl | hb
   ·exact Ne.symm hTe
   ·rw [List.mem_singleton.mp hb]
    obtain ⟨o,e1,_⟩:=hit
    exact Nat.ne_of_lt (Heap.lt_size e1)
  rw [zaw hbl]
  exact (hf b hb).1
 done:=by
  intro X hP hw hK hc i pins s σ H E I hf st hg
  subst hP hw hK
  obtain ⟨xs,hq,hx⟩:=hg
  obtain ⟨its,rv,p,hz⟩:=I.tuple hq
  obtain ⟨⟨old,he⟩,hit⟩:=st
  have fi:=hf it (by simp)
  have hai:a≠it:=by
   rintro rfl
   obtain ⟨o,e1,c1,_⟩:=id hit
   obtain ⟨o',e2,c2,_⟩:=id p
   rw [e1] at e2;cases e2;rw [c1] at c2
   exact absurd c2 (by decide)
  have hn:its.toArray.size=i:=by rw [List.size_toArray,← rv.length];exact hx
  refine wpAny_pyNext_enum_endD (HT.drawsT (A:=X.A.in1) (I.ok.hd hc) it a hai its.toArray) he (by rw [hn];exact ⟨hit,p⟩) fun h' hx'=>⟨rfl,?_⟩
  obtain ⟨f0,f1,f2,f3,f4,f5⟩:=fi
  exact I.turned (t':=s.toks) (fun b o hb e=>hx' b o hb e) f0 f1 f3 f4 f5
 self:=fun A i s Q E st h=>by
  obtain ⟨⟨old,he⟩,_⟩:=st
  exact wpAny_pyIter_enum he h
noncomputable def iEnumT (K:PySem.W.Frag) (ta:TA):TI:=fun σ H R=>ta σ H fun vs H1=>∃ a xs,vs=[.ref a]∧SqT K H1 a xs∧R (Ite K a) H1
theorem pi_enumT {elts:List Expr}{k:Nat} {tpos p pos:Pos}{a:Expr} {ta:TA}(hg:Gl X "enumerate") (hm:X.mg "enumerate" = none) (ha:PA X [a] ta) (hs:starEach [a] X.env=[(false,eval a X.env)]:=by rfl):PI X (.Tuple elts k tpos) (.Call (.Name "enumerate" p) [a] [] pos) (iEnumT X.K ta):=by
 intro pins s σ H R I h
 refine Call_ (zem I hg hm boot_enumerate (PyProof.Rows.callWith_type1 (thn (ha pos pins s σ H _ I h) fun us s1 ⟨vs,H1,I1,r1,q1⟩=>?_) hs rfl))
 obtain ⟨a,xs,e,hq,q⟩:=q1
 subst e
 obtain ⟨u,rfl,ru⟩:=zeN r1
 cases ru
 obtain ⟨its,rv,p,hz⟩:=I1.tuple hq
 refine HT.call_enumerate_tuple p fun h' he hit hsz hk=>?_
 have I2:Inv X pins σ H1 { s1 with heap:=h' }:=I1.kept (t':=s1.toks) hk
 refine wpAny_pyIter_enum he ?_
 refine ⟨s1.heap.objs.size + 1,[s1.heap.objs.size + 1,s1.heap.objs.size],_,_,H1,rfl,I2,zld a (s1.heap.objs.size + 1) s1.heap.objs.size (Nat.succ_ne_self _),⟨⟨_,he⟩,hit⟩,fun b hb=>?_,q⟩
 rcases List.mem_cons.mp hb with rfl | hb
 ·exact I1.fpOk (Nat.le_succ _) (I1.hok.fresh (Nat.le_succ _))
 ·rw [List.mem_singleton.mp hb]
  exact I1.fpOk (Nat.le_refl _) (I1.hok.fresh (Nat.le_refl _))
end
end L2
set_option Elab.async false
set_option linter.all false
set_option maxRecDepth 100000
namespace L2
open PySem PySem.Spec PyProof.Rows
section
variable {X:Cx}(K:PySem.W.Frag)
end
end L2
set_option Elab.async false
set_option linter.all false
set_option maxRecDepth 100000
namespace FL
open PySem PySem.Spec PyProof.Rows L2
inductive KD where
 | int (i:Int) | str (x:Str) | tup (l:List Key)
 deriving DecidableEq
inductive D where
 | non | bl (b:Bool) | int (i:Int) | str (x:Str) | tup (l:List D) | lst (l:List D) | scr (ns:List Int) | dic (ks:List KD) (ds:List D)
noncomputable def kdK:Key→KD
 | .inl i=>.int i
 | .inr x=>.str x
noncomputable def zfh (F:Hp) (a:Addr) (ks:List KD) (vs:List V):Prop:=
 (∃ kvs:List (Key×V),F a=some (.dK kvs)∧ks=kvs.map (fun p=>kdK p.1)∧vs=kvs.map (·.2))∨
 (∃ kvs:List (List Key×V),F a=some (.dT kvs)∧(ks=kvs.map (fun p=>KD.tup p.1)∧kvs≠[])∧vs=kvs.map (·.2))
noncomputable def DicF (F:Hp) (a:Addr) (ks:List KD) (vs:List V):Prop:=∃ o,
 (∃ kvs:List (Key×V),F a=some (.frz o (.dK kvs))∧ks=kvs.map (fun p=>kdK p.1)∧vs=kvs.map (·.2))∨
 (∃ kvs:List (List Key×V),F a=some (.frz o (.dT kvs))∧(ks=kvs.map (fun p=>KD.tup p.1)∧kvs≠[])∧vs=kvs.map (·.2))
noncomputable def DicB (H:Hp) (a:Addr) (ks:List KD) (vs:List V):Prop:=zfh H a ks vs∨DicF H a ks vs
noncomputable def ziG (F:Hp) (a:Addr) (l:List KD):Prop:=∃ o,F a=some o∧False
mutual
noncomputable def Dat (K:PySem.W.Frag) (F:Hp):D→V→Prop
 | .non,v=>v=.non
 | .bl b,v=>v=.bl b
 | .int i,v=>v=.int i
 | .str x,v=>v=.str x
 | .tup l,v=>∃ a vs,v=.ref a∧F a=some (.tup vs)∧DatL K F l vs
 | .lst l,v=>∃ a vs,v=.ref a∧F a=some (.lst vs)∧DatL K F l vs
 | .scr ns,v=>∃ a,v=.ref a∧SqL K F a (ns.map V.int)
 | .dic ks ds,v=>∃ a vs,v=.ref a∧DicF F a ks vs∧DatL K F ds vs
noncomputable def DatL (K:PySem.W.Frag) (F:Hp):List D→List V→Prop
 | [],vs=>vs=[]
 | d::l,vs=>∃ v r,vs=v::r∧Dat K F d v∧DatL K F l r
end
section
variable {K:PySem.W.Frag}{F F' H H':Hp}
theorem zfh.mono (s:Same F F') {a:Addr}{ks:List KD} {vs:List V}(h:zfh F a ks vs):zfh F' a ks vs:=by
 rcases h with ⟨kvs,h,r⟩ | ⟨kvs,h,r⟩
 ·exact .inl ⟨kvs,s _ _ h,r⟩
 ·exact .inr ⟨kvs,s _ _ h,r⟩
theorem DicF.mono (s:Same F F') {a:Addr}{ks:List KD} {vs:List V}(h:DicF F a ks vs):DicF F' a ks vs:=by
 obtain ⟨o,⟨kvs,h,r⟩ | ⟨kvs,h,r⟩⟩:=h
 ·exact ⟨o,.inl ⟨kvs,s _ _ h,r⟩⟩
 ·exact ⟨o,.inr ⟨kvs,s _ _ h,r⟩⟩
theorem DicB.mono (s:Same F F') {a:Addr}{ks:List KD} {vs:List V}(h:DicB F a ks vs):DicB F' a ks vs:=h.imp (zfh.mono s) (DicF.mono s)
theorem ziG.mono (s:Same F F') {a:Addr}{l:List KD} (h:ziG F a l):ziG F' a l:=by
 obtain ⟨o,h,z⟩:=h;exact ⟨o,s _ _ h,z⟩
theorem zfh.some {a:Addr}{ks:List KD} {vs:List V}(h:zfh F a ks vs):∃ o,F a=some o:=by
 rcases h with ⟨kvs,h,r⟩ | ⟨kvs,h,r⟩
 ·exact ⟨_,h⟩
 ·exact ⟨_,h⟩
theorem DicF.some {a:Addr}{ks:List KD} {vs:List V}(h:DicF F a ks vs):∃ o,F a=some o:=by
 obtain ⟨o,⟨kvs,h,r⟩ | ⟨kvs,h,r⟩⟩:=h
 ·exact ⟨_,h⟩
 ·exact ⟨_,h⟩
theorem DicB.some {a:Addr}{ks:List KD} {vs:List V}(h:DicB F a ks vs):∃ o,F a=some o:=h.elim zfh.some DicF.some
theorem ziG.some {a:Addr}{l:List KD} (h:ziG F a l):∃ o,F a=some o:=let ⟨o,h,_⟩:=h;⟨o,h⟩
theorem zfh.at {a:Addr}(e:F' a=F a) {ks:List KD}{vs:List V} (h:zfh F a ks vs):zfh F' a ks vs:=by
 unfold zfh at h ⊢;rw [e];exact h
theorem DicF.at {a:Addr}(e:F' a=F a) {ks:List KD}{vs:List V} (h:DicF F a ks vs):DicF F' a ks vs:=by
 unfold DicF at h ⊢;rw [e];exact h
theorem DicB.at {a:Addr}(e:F' a=F a) {ks:List KD}{vs:List V} (h:DicB F a ks vs):DicB F' a ks vs:=h.imp (zfh.at e) (DicF.at e)
theorem ziG.at {a:Addr}(e:F' a=F a) {l:List KD}(h:ziG F a l):ziG F' a l:=by
 unfold ziG at h ⊢;rw [e];exact h
mutual
theorem Dat.mono (t:Same F F'):∀ {d:D}{v:V},Dat K F d v→Dat K F' d v
 | .non,_,h=>by simp only [Dat] at h ⊢;exact h
 | .bl _,_,h=>by simp only [Dat] at h ⊢;exact h
 | .int _,_,h=>by simp only [Dat] at h ⊢;exact h
 | .str _,_,h=>by simp only [Dat] at h ⊢;exact h
 | .tup l,_,h=>by
  simp only [Dat] at h ⊢
  obtain ⟨a,vs,e,h1,h2⟩:=h
  exact ⟨a,vs,e,t _ _ h1,DatL.mono t h2⟩
 | .lst l,_,h=>by
  simp only [Dat] at h ⊢
  obtain ⟨a,vs,e,h1,h2⟩:=h
  exact ⟨a,vs,e,t _ _ h1,DatL.mono t h2⟩
 | .scr l,_,h=>by
  simp only [Dat] at h ⊢
  obtain ⟨a,e,h1⟩:=h
  exact ⟨a,e,Same.seq t h1⟩
 | .dic _ l,_,h=>by
  simp only [Dat] at h ⊢
  obtain ⟨a,vs,e,h1,h2⟩:=h
  exact ⟨a,vs,e,h1.mono t,DatL.mono t h2⟩
theorem DatL.mono (t:Same F F'):∀ {l:List D}{vs:List V},DatL K F l vs→DatL K F' l vs
 | [],_,h=>by simp only [DatL] at h ⊢;exact h
 | d::l,_,h=>by
  simp only [DatL] at h ⊢
  obtain ⟨v,r,e,h1,h2⟩:=h
  exact ⟨v,r,e,Dat.mono t h1,DatL.mono t h2⟩
end
theorem DatL.nil:DatL K F [] []:=by simp only [DatL]
theorem DatL.cons {d:D}{l:List D} {v:V}{vs:List V} (h:Dat K F d v) (r:DatL K F l vs):DatL K F (d::l) (v::vs):=by simp only [DatL];exact ⟨v,vs,rfl,h,r⟩
theorem DatL.nil_inv {vs:List V}(h:DatL K F [] vs):vs=[]:=by simp only [DatL] at h;exact h
theorem DatL.cons_inv {d:D}{l:List D} {vs:List V}(h:DatL K F (d::l) vs):∃ v r,vs=v::r∧Dat K F d v∧DatL K F l r:=by simp only [DatL] at h;exact h
theorem Dat.non_inv {v:V}(h:Dat K F .non v):v=.non:=by simp only [Dat] at h;exact h
theorem Dat.bl_inv {b:Bool}{v:V} (h:Dat K F (.bl b) v):v=.bl b:=by simp only [Dat] at h;exact h
theorem Dat.int_inv {i:Int}{v:V} (h:Dat K F (.int i) v):v=.int i:=by simp only [Dat] at h;exact h
theorem Dat.str_inv {x:Str}{v:V} (h:Dat K F (.str x) v):v=.str x:=by simp only [Dat] at h;exact h
theorem Dat.tup_inv {l:List D}{v:V} (h:Dat K F (.tup l) v):∃ a vs,v=.ref a∧F a=some (.tup vs)∧DatL K F l vs:=by simp only [Dat] at h;exact h
theorem Dat.lst_inv {l:List D}{v:V} (h:Dat K F (.lst l) v):∃ a vs,v=.ref a∧F a=some (.lst vs)∧DatL K F l vs:=by simp only [Dat] at h;exact h
theorem Dat.scr_inv {l:List Int}{v:V} (h:Dat K F (.scr l) v):∃ a,v=.ref a∧SqL K F a (l.map V.int):=by simp only [Dat] at h;exact h
theorem Dat.dic_inv {ks:List KD}{l:List D} {v:V}(h:Dat K F (.dic ks l) v):∃ a vs,v=.ref a∧DicF F a ks vs∧DatL K F l vs:=by simp only [Dat] at h;exact h
theorem Dat.non:Dat K F .non .non:=by simp only [Dat]
theorem Dat.bl (b:Bool):Dat K F (.bl b) (.bl b):=by simp only [Dat]
theorem Dat.int (i:Int):Dat K F (.int i) (.int i):=by simp only [Dat]
theorem Dat.str (x:Str):Dat K F (.str x) (.str x):=by simp only [Dat]
theorem Dat.tup {l:List D}{a:Addr} {vs:List V}(h:F a=some (.tup vs)) (r:DatL K F l vs):Dat K F (.tup l) (.ref a):=by simp only [Dat];exact ⟨a,vs,rfl,h,r⟩
theorem Dat.lst {l:List D}{a:Addr} {vs:List V}(h:F a=some (.lst vs)) (r:DatL K F l vs):Dat K F (.lst l) (.ref a):=by simp only [Dat];exact ⟨a,vs,rfl,h,r⟩
theorem Dat.scr {l:List Int}{a:Addr} (h:SqL K F a (l.map V.int)):Dat K F (.scr l) (.ref a):=by simp only [Dat];exact ⟨a,rfl,h⟩
theorem Dat.dic {ks:List KD}{l:List D} {a:Addr}{vs:List V} (h:DicF F a ks vs) (r:DatL K F l vs):Dat K F (.dic ks l) (.ref a):=by simp only [Dat];exact ⟨a,vs,rfl,h,r⟩
theorem DatL.length:∀ {l:List D}{vs:List V},DatL K F l vs→vs.length=l.length
 | [],_,h=>by rw [h.nil_inv];rfl
 | _::l,_,h=>by
  obtain ⟨v,r,rfl,_,h2⟩:=h.cons_inv
  simp [DatL.length h2]
theorem DatL.get:∀ {l:List D}{vs:List V} {i:Nat}{d:D},DatL K F l vs→l[i]?=some d→∃ v,vs[i]?=some v∧Dat K F d v
 | [],_,_,_,_,e=>by simp at e
 | _::l,_,i,d,h,e=>by
  obtain ⟨v,r,rfl,h1,h2⟩:=h.cons_inv
  cases i with
  | zero=>simp at e;subst e;exact ⟨v,rfl,h1⟩
  | succ i=>
   obtain ⟨u,e1,h3⟩:=DatL.get (i:=i) h2 (by simpa using e)
   exact ⟨u,by simpa using e1,h3⟩
theorem DatL.get' {l:List D}{vs:List V} {i:Nat}{v:V} (h:DatL K F l vs) (e:vs[i]?=some v):∃ d,l[i]?=some d∧Dat K F d v:=by
 have hl:=h.length
 have hi:i < l.length:=by rw [← hl];exact (List.getElem?_eq_some_iff.mp e).1
 obtain ⟨u,e1,h1⟩:=h.get (List.getElem?_eq_getElem hi)
 rw [e] at e1;cases e1
 exact ⟨_,List.getElem?_eq_getElem hi,h1⟩
theorem DatL.append:∀ {l m:List D}{vs us:List V},DatL K F l vs→DatL K F m us→DatL K F (l++m) (vs++us)
 | [],_,_,_,h,k=>by rw [h.nil_inv];exact k
 | _::l,_,_,_,h,k=>by
  obtain ⟨v,r,rfl,h1,h2⟩:=h.cons_inv
  exact DatL.cons h1 (DatL.append h2 k)
theorem DatL.snoc {l:List D}{vs:List V} {d:D}{v:V} (h:DatL K F l vs) (k:Dat K F d v):DatL K F (l++[d]) (vs++[v]):=h.append (DatL.cons k DatL.nil)
theorem DatL.reverse:∀ {l:List D}{vs:List V},DatL K F l vs→DatL K F l.reverse vs.reverse
 | [],_,h=>by rw [h.nil_inv];exact DatL.nil
 | _::l,_,h=>by
  obtain ⟨v,r,rfl,h1,h2⟩:=h.cons_inv
  rw [List.reverse_cons,List.reverse_cons]
  exact (DatL.reverse h2).snoc h1
theorem DatL.take:∀ {l:List D}{vs:List V} (n:Nat),DatL K F l vs→DatL K F (l.take n) (vs.take n)
 | _,_,0,_=>by simp;exact DatL.nil
 | [],_,n + 1,h=>by rw [h.nil_inv];simp;exact DatL.nil
 | _::l,_,n + 1,h=>by
  obtain ⟨v,r,rfl,h1,h2⟩:=h.cons_inv
  rw [List.take_succ_cons,List.take_succ_cons]
  exact DatL.cons h1 (DatL.take n h2)
theorem DatL.drop:∀ {l:List D}{vs:List V} (n:Nat),DatL K F l vs→DatL K F (l.drop n) (vs.drop n)
 | _,_,0,h=>by simpa using h
 | [],_,n + 1,h=>by rw [h.nil_inv];simp;exact DatL.nil
 | _::l,_,n + 1,h=>by
  obtain ⟨v,r,rfl,h1,h2⟩:=h.cons_inv
  rw [List.drop_succ_cons,List.drop_succ_cons]
  exact DatL.drop n h2
theorem DatL.set:∀ {l:List D}{vs:List V} (n:Nat) {d:D}{v:V},DatL K F l vs→Dat K F d v→DatL K F (l.set n d) (vs.set n v)
 | [],_,_,_,_,h,_=>by rw [h.nil_inv];simp;exact DatL.nil
 | _::l,_,n,_,_,h,k=>by
  obtain ⟨v,r,rfl,h1,h2⟩:=h.cons_inv
  cases n with
  | zero=>exact DatL.cons k h2
  | succ n=>exact DatL.cons h1 (DatL.set n h2 k)
theorem DatL.eraseIdx:∀ {l:List D}{vs:List V} (n:Nat),DatL K F l vs→DatL K F (l.eraseIdx n) (vs.eraseIdx n)
 | [],_,_,h=>by rw [h.nil_inv];simp;exact DatL.nil
 | _::l,_,n,h=>by
  obtain ⟨v,r,rfl,h1,h2⟩:=h.cons_inv
  cases n with
  | zero=>exact h2
  | succ n=>exact DatL.cons h1 (DatL.eraseIdx n h2)
theorem DatL.dropLast {l:List D}{vs:List V} (h:DatL K F l vs):DatL K F l.dropLast vs.dropLast:=by
 rw [List.dropLast_eq_take,List.dropLast_eq_take,h.length];exact h.take _
theorem DatL.ints:∀ {ns:List Int}{vs:List V},DatL K F (ns.map D.int) vs→vs=ns.map V.int
 | [],_,h=>h.nil_inv
 | n::ns,_,h=>by
  obtain ⟨v,r,rfl,h1,h2⟩:=h.cons_inv
  rw [h1.int_inv,DatL.ints h2];rfl
theorem DatL.ofInts:∀ (ns:List Int),DatL K F (ns.map D.int) (ns.map V.int)
 | []=>DatL.nil
 | n::ns=>DatL.cons (Dat.int n) (DatL.ofInts ns)
theorem DatL.strs:∀ {ns:List Str}{vs:List V},DatL K F (ns.map D.str) vs→vs=ns.map V.str
 | [],_,h=>h.nil_inv
 | n::ns,_,h=>by
  obtain ⟨v,r,rfl,h1,h2⟩:=h.cons_inv
  rw [h1.str_inv,DatL.strs h2];rfl
theorem DatL.one {a:D}{vs:List V} (h:DatL K F [a] vs):∃ v,vs=[v]∧Dat K F a v:=by
 obtain ⟨v,r,rfl,h1,h2⟩:=h.cons_inv
 rw [h2.nil_inv]
 exact ⟨v,rfl,h1⟩
noncomputable def DatB (K:PySem.W.Frag) (F H:Hp):D→V→Prop
 | .lst l,v=>∃ a vs,v=.ref a∧H a=some (.lst vs)∧DatL K F l vs
 | .dic ks ds,v=>∃ a vs,v=.ref a∧DicB H a ks vs∧DatL K F ds vs
 | d,v=>Dat K F d v
theorem Dat.b (s:Same F H) {d:D}{v:V} (h:Dat K F d v):DatB K F H d v:=by
 cases d with
 | lst l=>obtain ⟨a,vs,e,h1,h2⟩:=h.lst_inv;exact ⟨a,vs,e,s _ _ h1,h2⟩
 | dic ks l=>obtain ⟨a,vs,e,h1,h2⟩:=h.dic_inv;exact ⟨a,vs,e,.inr (h1.mono s),h2⟩
 | _=>exact h
theorem DatB.mono (f:Same F F') (g:Same H H') {d:D}{v:V} (h:DatB K F H d v):DatB K F' H' d v:=by
 cases d with
 | lst l=>obtain ⟨a,vs,e,h1,h2⟩:=h;exact ⟨a,vs,e,g _ _ h1,h2.mono f⟩
 | dic ks l=>obtain ⟨a,vs,e,h1,h2⟩:=h;exact ⟨a,vs,e,h1.mono g,h2.mono f⟩
 | _=>exact Dat.mono f h
noncomputable def Own (K:PySem.W.Frag) (F H:Hp):D→Addr→Prop
 | .lst l,a=>∃ vs,H a=some (.lst vs)∧DatL K F l vs
 | .dic ks ds,a=>∃ vs,zfh H a ks vs∧DatL K F ds vs
 | _,_=>False
theorem Own.mono (f:Same F F') {d:D}{a:Addr} (g:∀ o,H a=some o→H' a=some o) (h:Own K F H d a):Own K F' H' d a:=by
 cases d with
 | lst l=>obtain ⟨vs,h1,h2⟩:=h;exact ⟨vs,g _ h1,h2.mono f⟩
 | dic ks l=>
  obtain ⟨vs,h1,h2⟩:=h
  obtain ⟨o,e⟩:=h1.some
  exact ⟨vs,h1.at (by rw [e];exact g _ e),h2.mono f⟩
 | _=>exact h.elim
theorem Own.some {d:D}{a:Addr} (h:Own K F H d a):∃ o,H a=some o:=by
 cases d with
 | lst l=>obtain ⟨vs,h1,h2⟩:=h;exact ⟨_,h1⟩
 | dic ks l=>obtain ⟨vs,h1,h2⟩:=h;exact h1.some
 | _=>exact h.elim
theorem Own.b {d:D}{a:Addr} (h:Own K F H d a):DatB K F H d (.ref a):=by
 cases d with
 | lst l=>obtain ⟨vs,h1,h2⟩:=h;exact ⟨a,vs,rfl,h1,h2⟩
 | dic ks l=>obtain ⟨vs,h1,h2⟩:=h;exact ⟨a,vs,rfl,.inl h1,h2⟩
 | _=>exact h.elim
noncomputable def frz1 (F H:Hp) (a:Addr):Hp:=fun b=>if b=a then H a else F b
theorem zfu {a:Addr}:frz1 F H a a=H a:=by unfold frz1;rw [if_pos rfl]
theorem zdH {a b:Addr}(h:b≠a):frz1 F H a b=F b:=by unfold frz1;rw [if_neg h]
theorem zde {a:Addr}(h:F a=none):Same F (frz1 F H a):=fun b o e=>by
 rw [zdH (zal e h)];exact e
theorem zeK {a:Addr}(s:Same F H):Same (frz1 F H a) H:=fun b o e=>by
 by_cases hb:b=a
 ·subst hb;rw [zfu] at e;exact e
 ·rw [zdH hb] at e;exact s _ _ e
noncomputable def isDic:Option HO→Bool
 | some (.dK _)=>true
 | some (.dT _)=>true
 | _=>false
noncomputable def zfO (H:Hp) (a:Addr) (H2:Hp):Prop:=(H2=H∧isDic (H a)=false)∨∃ o u,H a=some u∧isDic (some u)=true∧H2=upd H a (.frz o u)
theorem zfO.ne {H2:Hp}{a b:Addr} (f:zfO H a H2) (h:b≠a):H2 b=H b:=by
 rcases f with ⟨rfl,_⟩ | ⟨o,u,_,_,rfl⟩
 ·rfl
 ·exact zaw h
theorem zfO.same {H2:Hp}{a:Addr} (f:zfO H a H2) (s:Same F H) (h:F a=none):Same F H2:=fun b o e=>by
 rw [f.ne (zal e h)];exact s _ _ e
theorem Own.freeze {H2:Hp}{d:D} {a:Addr}(h:Own K F H d a) (hn:F a=none) (f:zfO H a H2):Dat K (frz1 F H2 a) d (.ref a):=by
 have x:Same F (frz1 F H2 a):=zde hn
 cases d with
 | lst l=>
  obtain ⟨vs,h1,h2⟩:=h
  rcases f with ⟨rfl,_⟩ | ⟨o,u,e,z,_⟩
  ·exact Dat.lst (by rw [zfu];exact h1) (h2.mono x)
  ·rw [h1] at e;cases e;cases z
 | dic ks l=>
  obtain ⟨vs,h1,h2⟩:=h
  refine Dat.dic ?_ (h2.mono x)
  rcases h1 with ⟨kvs,h1,r⟩ | ⟨kvs,h1,r⟩
  ·rcases f with ⟨_,z⟩ | ⟨o,u,e,z,rfl⟩
   ·rw [h1] at z;cases z
   ·rw [h1] at e;cases e
    exact ⟨o,.inl ⟨kvs,by rw [zfu];exact zas,r⟩⟩
  ·rcases f with ⟨_,z⟩ | ⟨o,u,e,z,rfl⟩
   ·rw [h1] at z;cases z
   ·rw [h1] at e;cases e
    exact ⟨o,.inr ⟨kvs,by rw [zfu];exact zas,r⟩⟩
 | _=>exact h.elim
theorem DatB.frz {H2:Hp}{a:Addr} {d:D}{v:V} (h:DatB K F H d v) (x:Same F F') (f:zfO H a H2) (hv:v≠.ref a):DatB K F' H2 d v:=by
 cases d with
 | lst l=>obtain ⟨b,vs,e,h1,h2⟩:=h;exact ⟨b,vs,e,by rw [f.ne (fun z=>hv (by rw [e,z]))];exact h1,h2.mono x⟩
 | dic ks l=>obtain ⟨b,vs,e,h1,h2⟩:=h;exact ⟨b,vs,e,h1.at (f.ne (fun z=>hv (by rw [e,z]))),h2.mono x⟩
 | _=>exact Dat.mono x h
theorem Own.fl {l:List D}{a:Addr} (h:Own K F H (.lst l) a):zfO H a H:=by
 obtain ⟨vs,h1,_⟩:=h
 exact .inl ⟨rfl,by rw [h1];rfl⟩
end
inductive Sl where
 | dat (d:D) | ow (p:Bool) (d:D) | bor (d:D)
noncomputable abbrev Sl.own (d:D):Sl:=.ow false d
noncomputable abbrev Sl.inn (d:D):Sl:=.ow true d
noncomputable def Sl.isDat:Sl→Bool
 | .dat _=>true
 | _=>false
noncomputable abbrev St:=L2.St
noncomputable abbrev En:=List (Option Sl)
noncomputable def zeD (ρ:En) (σ:St) (b:Addr):Prop:=∃ (i:Nat) (p:Bool) (d:D),ρ[i]?=some (some (.ow p d))∧σ[i]?=some (some (.ref b))
structure Rel (K:PySem.W.Frag) (F H:Hp) (ρ:En) (σ:St):Prop where
 sub:Same F H
 dat:∀ (i:Nat) (d:D),ρ[i]?=some (some (.dat d))→∃ v,σ[i]?=some (some v)∧Dat K F d v
 bor:∀ (i:Nat) (d:D),ρ[i]?=some (some (.bor d))→∃ v,σ[i]?=some (some v)∧DatB K F H d v
 own:∀ (i:Nat) (p:Bool) (d:D),ρ[i]?=some (some (.ow p d))→∃ a,σ[i]?=some (some (.ref a))∧F a=none∧Own K F H d a
 inj:∀ (i j:Nat) (p:Bool) (d:D) (s:Sl) (a:Addr),i≠j→ρ[i]?=some (some (.ow p d))→σ[i]?=some (some (.ref a))→ρ[j]?=some (some s)→s.isDat=false→σ[j]?≠some (some (.ref a))
 len:ρ.length=σ.length
structure Grow (F H F' H':Hp):Prop where
 ff:Same F F'
 hh:Same H H'
 fh:Same F' H'
 nw:∀ b o,H b=some o→F b=none→F' b=none
section
variable {K:PySem.W.Frag}{F F' F2 H H' H2:Hp} {ρ ρ' ρ2:En}{σ σ' σ2:St}
theorem Grow.refl (s:Same F H):Grow F H F H:=⟨Same.refl _,Same.refl _,s,fun _ _ _ n=>n⟩
theorem Grow.trans (a:Grow F H F' H') (b:Grow F' H' F2 H2):Grow F H F2 H2:=
 ⟨a.ff.trans b.ff,a.hh.trans b.hh,b.fh,fun c o e n=>b.nw c o (a.hh _ _ e) (a.nw c o e n)⟩
theorem zcx {p:Addr}(h:H p=none) (o:HO):Same H (upd H p o):=fun b u q=>by rw [zaw (zal q h)];exact q
theorem Grow.frozen {p:Addr}{o:HO} (s:Same F H) (h:H p=none):Grow F H (upd F p o) (upd H p o):=by
 refine ⟨zcx (s.free h) o,zcx h o,fun b u e=>?_,fun b u e n=>?_⟩
 ·by_cases hb:b=p
  ·subst hb;rw [zas] at e ⊢;exact e
  ·rw [zaw hb] at e ⊢;exact s _ _ e
 ·have hb:b≠p:=zal e h
  rw [zaw hb];exact n
theorem Grow.fresh {p:Addr}{o:HO} (s:Same F H) (h:H p=none):Grow F H F (upd H p o):=
 ⟨Same.refl _,zcx h o,s.trans (zcx h o),fun b u e n=>n⟩
theorem Grow.freeze {a:Addr}{H3:Hp} (g:Grow F H F' H') (h:H a=none) (hn:F' a=none) (f:zfO H' a H3):Grow F H (frz1 F' H3 a) H3:=by
 refine ⟨g.ff.trans (zde hn),fun b o e=>?_,zeK (f.same g.fh hn),fun b o e n=>?_⟩
 ·rw [f.ne (zal e h)];exact g.hh _ _ e
 ·have hb:b≠a:=zal e h
  rw [zdH hb];exact g.nw b o e n
theorem Rel.grow (r:Rel K F H ρ σ) (g:Grow F H F' H'):Rel K F' H' ρ σ where
 sub:=g.fh
 dat:=fun i d e=>let ⟨v,h1,h2⟩:=r.dat i d e;⟨v,h1,h2.mono g.ff⟩
 bor:=fun i d e=>let ⟨v,h1,h2⟩:=r.bor i d e;⟨v,h1,h2.mono g.ff g.hh⟩
 own:=fun i p d e=>by
  obtain ⟨a,h1,h2,h3⟩:=r.own i p d e
  obtain ⟨o,ho⟩:=h3.some
  exact ⟨a,h1,g.nw a o ho h2,h3.mono g.ff fun o e=>g.hh _ _ e⟩
 inj:=r.inj
 len:=r.len
structure Step (ρ:En) (σ:St) (F H:Hp) (ρ':En) (σ':St) (F' H':Hp):Prop where
 ff:Same F F'
 rest:∀ b o,H b=some o→F b=none→¬ zeD ρ σ b→H' b=some o∧F' b=none
 own:∀ b,zeD ρ' σ' b→H b=none∨zeD ρ σ b
 pin:∀ (i:Nat) (d':D),ρ'[i]?=some (some (.ow true d'))→∃ d,ρ[i]?=some (some (.ow true d))∧σ'[i]?=σ[i]?
 fh:Same F' H'
theorem Grow.step (g:Grow F H F' H'):Step ρ σ F H ρ σ F' H':=⟨g.ff,fun b o e n _=>⟨g.hh _ _ e,g.nw b o e n⟩,fun _ h=>.inr h,fun _ d e=>⟨d,e,rfl⟩,g.fh⟩
theorem Step.back (a:Step ρ σ F H ρ' σ' F' H') (s:Same F H) {b:Addr}(h:H' b=none∨zeD ρ' σ' b):H b=none∨zeD ρ σ b:=by
 rcases h with h | h
 ·cases e:H b with
  | none=>exact .inl rfl
  | some o=>
   cases f:F b with
   | some u=>have:=a.fh _ _ (a.ff _ _ f);rw [h] at this;cases this
   | none=>
    by_cases q:zeD ρ σ b
    ·exact .inr q
    ·have:=(a.rest b o e f q).1;rw [h] at this;cases this
 ·exact a.own b h
theorem Step.trans (a:Step ρ σ F H ρ' σ' F' H') (b:Step ρ' σ' F' H' ρ2 σ2 F2 H2) (s:Same F H):Step ρ σ F H ρ2 σ2 F2 H2:=by
 refine ⟨a.ff.trans b.ff,fun c o e n q=>?_,fun c h=>a.back s (b.own c h),fun i d e=>?_,b.fh⟩
 rotate_left
 ·obtain ⟨d1,e1,e2⟩:=b.pin i d e
  obtain ⟨d2,e3,e4⟩:=a.pin i d1 e1
  exact ⟨d2,e3,e2.trans e4⟩
 obtain ⟨h1,h2⟩:=a.rest c o e n q
 refine b.rest c o h1 h2 fun z=>?_
 rcases a.own c z with y | y
 ·rw [e] at y;cases y
 ·exact q y
end
inductive Md where
 | fz | ow | br
noncomputable def Res (K:PySem.W.Frag) (md:Md) (H F' H':Hp) (d:D) (v:V):Prop:=match md with
 | .fz=>Dat K F' d v
 | .ow=>∃ a,v=.ref a∧H a=none∧F' a=none∧Own K F' H' d a
 | .br=>DatB K F' H' d v
noncomputable def rdE (K:PySem.W.Frag) (md:Md) (ρ:En) (d:D):TE:=fun σ H Q=>∃ F,Rel K F H ρ σ∧∀ v F' H',Grow F H F' H'→Res K md H F' H' d v→Q v H'
structure FP (K:PySem.W.Frag) (md:Md) (X:Cx) (e:Expr) (f:En→Option D):Prop where
 h:∀ ρ d,f ρ=some d→PE X e (rdE K md ρ d)
theorem PE.imp {X:Cx}{e:Expr} {t t':TE}(h:PE X e t) (w:∀ σ H Q,t' σ H Q→t σ H Q):PE X e t':=fun pins s σ H Q I ht=>h pins s σ H Q I (w σ H Q ht)
theorem PT.imp {X:Cx}{e:Expr} {t t':TT}(h:PT X e t) (w:∀ σ H Q,t' σ H Q→t σ H Q):PT X e t':=fun pins s σ H Q I ht=>h pins s σ H Q I (w σ H Q ht)
theorem PW.imp {X:Cx}{e:Expr} {t t':TT}(h:PW X e t) (w:∀ σ H Q,t' σ H Q→t σ H Q):PW X e t':=fun wh pins s σ H Q I ht=>h wh pins s σ H Q I (w σ H Q ht)
theorem PA.imp {X:Cx}{e:List Expr} {t t':TA}(h:PA X e t) (w:∀ σ H Q,t' σ H Q→t σ H Q):PA X e t':=fun pos pins s σ H Q I ht=>h pos pins s σ H Q I (w σ H Q ht)
theorem PS.imp {X:Cx}{e:Stmt} {t t':TS}(h:PS X e t) (w:∀ D σ H,t' D σ H→t D σ H):PS X e t':=fun pins s σ H D I ht=>h pins s σ H D I (w D σ H ht)
theorem PSs.imp {X:Cx}{e:List Stmt} {t t':TS}(h:PSs X e t) (w:∀ D σ H,t' D σ H→t D σ H):PSs X e t':=fun pins s σ H D I ht=>h pins s σ H D I (w D σ H ht)
section
variable {K:PySem.W.Frag}{X:Cx} {e:Expr}{f:En→Option D}
theorem Res.fz_of_ow {H F' H' H3:Hp}{d:D} {v:V}{F:Hp} {a:Addr}(g:Grow F H F' H') (h:Res K .ow H F' H' d v) (e:v=.ref a) (f:zfO H' a H3):∃ F2,Grow F H F2 H3∧Dat K F2 d v:=by
 subst e
 obtain ⟨b,e,h1,h2,h3⟩:=h
 cases e
 exact ⟨_,g.freeze h1 h2 f,h3.freeze h2 f⟩
theorem Res.ow_ref {H F' H':Hp}{d:D} {v:V}(h:Res K .ow H F' H' d v):∃ a,v=.ref a:=let ⟨a,e,_⟩:=h;⟨a,e⟩
theorem Inv.frzTo {pins:List (Addr×Obj)}{σ:St} {H:Hp}{s:Shared} (I:Inv X pins σ H s) (a:Addr):∃ H2,zfO H a H2∧Inv X pins σ H2 s:=by
 cases h:isDic (H a) with
 | false=>exact ⟨H,.inl ⟨rfl,h⟩,I⟩
 | true=>
  cases e:H a with
  | none=>rw [e] at h;cases h
  | some u=>
   rw [e] at h
   have ok:=I.hok a u e
   have mu:Mut (H a):=by
    rw [e]
    cases u<;>first | exact True.intro | cases h
   obtain ⟨o,ho⟩:∃ o,s.heap.get? a=some o:=by
    cases u<;>first
     | cases h;done
     | (obtain ⟨_,_,_,_,o,_,_,q,_⟩:=ok;exact ⟨o,q⟩)
   refine ⟨_,.inr ⟨o,u,e,h,rfl⟩,?_⟩
   have:=I.write (o:=.frz o u) (t':=s.toks) (h':=s.heap) mu (.inl rfl) (fun b u _ q=>q) ⟨o,ho⟩ ⟨ho,ok.stay (fun b u _ q=>q) (fun b q=>?_) fun b xs q=>?_⟩
   ·exact this
   ·rw [zaw (fun z=>by subst z;rw [e] at q;cases q;cases h)];exact q
   ·rw [zaw (fun z=>by subst z;rw [e] at q;cases q;cases h)];exact q
theorem pe_frz {t:TE}(h:PE X e t):PE X e (fun σ H Q=>t σ H fun v H'=>∃ a,v=.ref a∧∀ H2,zfO H' a H2→Q v H2):=fun pins s σ H Q I ht=>
 thn (h pins s σ H _ I ht) fun v s1 ⟨x,H1,I1,r1,a,ea,q⟩=>by
  obtain ⟨H2,f,I2⟩:=Inv.frzTo I1 a
  exact ⟨x,H2,I2,r1,q H2 f⟩
theorem FP.fz (h:FP K .ow X e f):FP K .fz X e f:=FP.mk fun ρ d hf=>PE.imp (pe_frz (h.h ρ d hf)) fun σ H Q ⟨F,r,q⟩=>⟨F,r,fun v F' H' g hr=>by
 obtain ⟨a,ea⟩:=hr.ow_ref
 refine ⟨a,ea,fun H2 fz=>?_⟩
 obtain ⟨F2,g2,h2⟩:=Res.fz_of_ow g hr ea fz
 exact q v F2 H2 g2 h2⟩
theorem FP.br (h:FP K .fz X e f):FP K .br X e f:=FP.mk fun ρ d hf=>PE.imp (h.h ρ d hf) fun σ H Q ⟨F,r,q⟩=>⟨F,r,fun v F' H' g hr=>q v F' H' g (Dat.b g.fh hr)⟩
theorem FP.ob (h:FP K .ow X e f):FP K .br X e f:=h.fz.br
end
noncomputable def gv (i:Nat) (ρ:En):Option D:=match ρ[i]? with
 | some (some (.dat d))=>some d
 | _=>none
noncomputable def gb (i:Nat) (ρ:En):Option D:=match ρ[i]? with
 | some (some (.dat d))=>some d
 | some (some (.ow _ d))=>some d
 | some (some (.bor d))=>some d
 | _=>none
theorem gv_some {i:Nat}{ρ:En} {d:D}(h:gv i ρ=some d):ρ[i]?=some (some (.dat d)):=by
 unfold gv at h
 split at h<;>first | (cases h;assumption) | cases h
theorem gb_some {K:PySem.W.Frag}{F H:Hp} {i:Nat}{ρ:En} {σ:St}{d:D} (r:Rel K F H ρ σ) (h:gb i ρ=some d):∃ v,σ[i]?=some (some v)∧DatB K F H d v:=by
 unfold gb at h
 split at h
 ·rename_i e;cases h
  obtain ⟨v,h1,h2⟩:=r.dat i _ e
  exact ⟨v,h1,h2.b r.sub⟩
 ·rename_i e;cases h
  obtain ⟨a,h1,h2,h3⟩:=r.own i _ _ e
  exact ⟨_,h1,h3.b⟩
 ·rename_i e;cases h
  exact r.bor i _ e
 ·cases h
noncomputable def cst (d:D):En→Option D:=fun _=>some d
section
variable {K:PySem.W.Frag}{X:Cx}
theorem fv (i:Nat) {x:Str}{pos:Pos} (hN:X.N[i]?=some x:=by rfl) (hv:Vis X.env.scope x:=by first | exact Or.inl rfl | exact Or.inr (Or.inl rfl) | exact Or.inr (Or.inr rfl)) (hd:(x == ("__debug__" : Str))=false:=by decide)
  (hcd:(x == ("__classdict__" : Str))=false:=by decide):FP K .fz X (.Name x pos) (gv i):=FP.mk fun ρ d hf=>
 PE.imp (zcK hN hv hd hcd) fun σ H Q ⟨F,r,q⟩=>by
  obtain ⟨v,h1,h2⟩:=r.dat i d (gv_some hf)
  exact ⟨v,h1,q v F H (Grow.refl r.sub) h2⟩
theorem fb (i:Nat) {x:Str}{pos:Pos} (hN:X.N[i]?=some x:=by rfl) (hv:Vis X.env.scope x:=by first | exact Or.inl rfl | exact Or.inr (Or.inl rfl) | exact Or.inr (Or.inr rfl)) (hd:(x == ("__debug__" : Str))=false:=by decide)
  (hcd:(x == ("__classdict__" : Str))=false:=by decide):FP K .br X (.Name x pos) (gb i):=FP.mk fun ρ d hf=>
 PE.imp (zcK hN hv hd hcd) fun σ H Q ⟨F,r,q⟩=>by
  obtain ⟨v,h1,h2⟩:=gb_some r hf
  exact ⟨v,h1,q v F H (Grow.refl r.sub) h2⟩
theorem fint {i j pos}:FP K .fz X (.Constant (.int i) j pos) (cst (.int i)):=FP.mk fun ρ d hf=>PE.imp pe_int fun σ H Q ⟨F,r,q⟩=>by
 cases hf;exact q (.int i) F H (Grow.refl r.sub) (Dat.int (K:=K) (F:=F) i)
theorem fbl {i j pos}:FP K .fz X (.Constant (.bool i) j pos) (cst (.bl i)):=FP.mk fun ρ d hf=>PE.imp pe_bl fun σ H Q ⟨F,r,q⟩=>by
 cases hf;exact q (.bl i) F H (Grow.refl r.sub) (Dat.bl (K:=K) (F:=F) i)
theorem fnon {j pos}:FP K .fz X (.Constant .none j pos) (cst .non):=FP.mk fun ρ d hf=>PE.imp pe_non fun σ H Q ⟨F,r,q⟩=>by
 cases hf;exact q .non F H (Grow.refl r.sub) (Dat.non (K:=K) (F:=F))
theorem fstr {i j pos}:FP K .fz X (.Constant (.str i) j pos) (cst (.str i)):=FP.mk fun ρ d hf=>PE.imp pe_str fun σ H Q ⟨F,r,q⟩=>by
 cases hf;exact q (.str i) F H (Grow.refl r.sub) (Dat.str (K:=K) (F:=F) i)
end
noncomputable def Op2 (K:PySem.W.Frag) (X:Cx) (f:Value→Value→Sem Value) (md:Md) (p:D→D→Option D):Prop:=
 ∃ r:R2,OpR X f r∧∀ x y d F H v u Q,p x y=some d→Same F H→DatB K F H x v→DatB K F H y u→(∀ w F' H',Grow F H F' H'→Res K md H F' H' d w→Q w H')→r v u H Q
noncomputable def Ix2 (K:PySem.W.Frag) (X:Cx) (md:Md) (p:D→D→Option D):Prop:=
 ∃ r:R2,IxR X r∧∀ x y d F H v u Q,p x y=some d→Same F H→DatB K F H x v→DatB K F H y u→(∀ w F' H',Grow F H F' H'→Res K md H F' H' d w→Q w H')→r v u H Q
noncomputable def c2 (p:D→D→Option D) (fa fb:En→Option D):En→Option D:=fun ρ=>(fa ρ).bind fun x=>(fb ρ).bind fun y=>p x y
noncomputable def c1 (p:D→Option D) (fa:En→Option D):En→Option D:=fun ρ=>(fa ρ).bind p
theorem zcV {p:D→D→Option D}{fa fb:En→Option D} {ρ:En}{d:D} (h:c2 p fa fb ρ=some d):∃ x y,fa ρ=some x∧fb ρ=some y∧p x y=some d:=by
 unfold c2 at h
 cases e1:fa ρ with
 | none=>rw [e1] at h;cases h
 | some x=>
  cases e2:fb ρ with
  | none=>rw [e1,e2] at h;cases h
  | some y=>rw [e1,e2] at h;exact ⟨x,y,rfl,rfl,h⟩
theorem znw {p:D→Option D}{fa:En→Option D} {ρ:En}{d:D} (h:c1 p fa ρ=some d):∃ x,fa ρ=some x∧p x=some d:=by
 unfold c1 at h
 cases e1:fa ρ with
 | none=>rw [e1] at h;cases h
 | some x=>rw [e1] at h;exact ⟨x,rfl,h⟩
section
variable {K:PySem.W.Frag}{X:Cx} {a b:Expr}{fa fb:En→Option D} {pos:Pos}{md:Md} {p:D→D→Option D}
theorem two {ta tb:TE}{ρ:En} {x y d:D}{r:R2} (ha:PE X a (rdE K .br ρ x)) (hb:PE X b (rdE K .br ρ y))
  (hr:∀ F H v u Q,Same F H→DatB K F H x v→DatB K F H y u→(∀ w F' H',Grow F H F' H'→Res K md H F' H' d w→Q w H')→r v u H Q)
  (σ:St) (H:Hp) (Q:VK) (h:rdE K md ρ d σ H Q):tOp r (rdE K .br ρ x) (rdE K .br ρ y) σ H Q:=by
 obtain ⟨F,rl,q⟩:=h
 refine ⟨F,rl,fun v F1 H1 g1 r1=>⟨F1,rl.grow g1,fun u F2 H2 g2 r2=>?_⟩⟩
 refine hr F2 H2 v u Q g2.fh (DatB.mono g2.ff g2.hh r1) r2 fun w F3 H3 g3 r3=>?_
 have g:=g1.trans (g2.trans g3)
 refine q w F3 H3 g ?_
 cases md with
 | fz=>exact r3
 | br=>exact r3
 | ow=>
  obtain ⟨a,e,h1,h2,h3⟩:=r3
  exact ⟨a,e,(g1.hh.trans g2.hh).free h1,h2,h3⟩
theorem fop {op:Operator}(o:Op2 K X (binaryOp op) md p) (ha:FP K .br X a fa) (hb:FP K .br X b fb):FP K md X (.BinOp a op b pos) (c2 p fa fb):=FP.mk fun ρ d hf=>by
 obtain ⟨x,y,e1,e2,e3⟩:=zcV hf
 obtain ⟨r,ho,hr⟩:=o
 exact PE.imp (pe_op ho (ha.h ρ x e1) (hb.h ρ y e2)) (two (ta:=fun _ _ _=>True) (tb:=fun _ _ _=>True) (ha.h ρ x e1) (hb.h ρ y e2) fun F H v u Q s h1 h2 k=>hr x y d F H v u Q e3 s h1 h2 k)
theorem fcmp {op:CmpOp}(o:Op2 K X (compareOp op) md p) (ha:FP K .br X a fa) (hb:FP K .br X b fb) (hm:behindInMarks op b=false):FP K md X (.Compare a [op] [b] pos) (c2 p fa fb):=FP.mk fun ρ d hf=>by
 obtain ⟨x,y,e1,e2,e3⟩:=zcV hf
 obtain ⟨r,ho,hr⟩:=o
 exact PE.imp (zms ho (ha.h ρ x e1) (hb.h ρ y e2) hm) (two (ta:=fun _ _ _=>True) (tb:=fun _ _ _=>True) (ha.h ρ x e1) (hb.h ρ y e2) fun F H v u Q s h1 h2 k=>hr x y d F H v u Q e3 s h1 h2 k)
theorem fix (o:Ix2 K X md p) (ha:FP K .br X a fa) (hb:FP K .br X b fb) (hs:ziH b):FP K md X (.Subscript a b pos) (c2 p fa fb):=FP.mk fun ρ d hf=>by
 obtain ⟨x,y,e1,e2,e3⟩:=zcV hf
 obtain ⟨r,ho,hr⟩:=o
 exact PE.imp (pe_ix ho (ha.h ρ x e1) (hb.h ρ y e2) hs) (two (ta:=fun _ _ _=>True) (tb:=fun _ _ _=>True) (ha.h ρ x e1) (hb.h ρ y e2) fun F H v u Q s h1 h2 k=>hr x y d F H v u Q e3 s h1 h2 k)
end
end FL
set_option Elab.async false
set_option linter.all false
set_option maxRecDepth 100000
namespace FL
open PySem PySem.Spec PyProof.Rows L2
mutual
noncomputable def eqD : D → D → Option Bool
 | .non, y => match y with
  | .non => some true
  | .bl _ => some false
  | .int _ => some false
  | .str _ => some false
  | .tup _ => some false
  | .lst _ => some false
  | _ => none
 | .bl a, y => match y with
  | .bl b => some (a == b)
  | .non => some false
  | _ => none
 | .int a, y => match y with
  | .int b => some (a == b)
  | .non => some false
  | .str _ => some false
  | .tup _ => some false
  | _ => none
 | .str a, y => match y with
  | .str b => some (a == b)
  | .non => some false
  | .int _ => some false
  | .tup _ => some false
  | .lst _ => some false
  | _ => none
 | .tup l, y => match y with
  | .tup m => eqL l m
  | .non => some false
  | .int _ => some false
  | .str _ => some false
  | .lst _ => some false
  | _ => none
 | .lst l, y => match y with
  | .lst m => eqL l m
  | .non => some false
  | .str _ => some false
  | .tup _ => some false
  | _ => none
 | .scr _, _ => none
 | .dic _ _, _ => none
noncomputable def eqL:List D→List D→Option Bool
 | [],[]=>some true
 | a::l,b::m=>(eqD a b).bind fun x=>(eqL l m).map fun y=>x && y
 | [],_::_=>some false
 | _::_,[]=>some false
end
mutual
noncomputable def dep:D→Nat
 | .tup l=>depL l + 1
 | .lst l=>depL l + 1
 | _=>1
noncomputable def depL:List D→Nat
 | []=>0
 | a::l=>max (dep a) (depL l)
end
theorem zev:∀ {l:List D}{d:D},d∈l→dep d≤depL l
 | _::_,_,h=>by
  rcases List.mem_cons.mp h with rfl | h
  ·rw [depL];exact Nat.le_max_left _ _
  ·rw [depL];exact Nat.le_trans (zev h) (Nat.le_max_right _ _)
noncomputable def eAt (l m:List D) (j:Nat):Bool:=match l[j]?,m[j]? with
 | some a,some b=>(eqD a b).getD false
 | _,_=>false
theorem zdI:∀ {l m:List D}{b:Bool},eqL l m=some b→
  (∀ (j:Nat) (x y:D),l[j]?=some x→m[j]?=some y→eqD x y=some (eAt l m j))∧b=((List.range (min l.length m.length)).all (eAt l m) && l.length == m.length)
 | [],[],b,h=>by simp [eqL] at h;subst h;simp
 | [],_::_,b,h=>by simp [eqL] at h;subst h;simp
 | _::_,[],b,h=>by simp [eqL] at h;subst h;simp
 | a::l,c::m,b,h=>by
  simp only [eqL] at h
  cases e1:eqD a c with
  | none=>rw [e1] at h;cases h
  | some x=>
   cases e2:eqL l m with
   | none=>rw [e1,e2] at h;cases h
   | some y=>
    rw [e1,e2] at h
    have hb:(x && y)=b:=by simpa using h
    obtain ⟨h1,h2⟩:=zdI e2
    have s0:eAt (a::l) (c::m) 0=x:=by simp [eAt,e1]
    have sS:∀ j,eAt (a::l) (c::m) (j + 1)=eAt l m j:=fun j=>by simp [eAt]
    refine ⟨fun j p q hp hq=>?_,?_⟩
    ·cases j with
     | zero=>simp at hp hq;subst hp hq;rw [s0];exact e1
     | succ j=>rw [sS];exact h1 j p q (by simpa using hp) (by simpa using hq)
    ·rw [← hb,h2]
     simp only [List.length_cons]
     rw [Nat.succ_min_succ,List.range_succ_eq_map,List.all_cons,List.all_map,s0]
     have e3:(List.range (min l.length m.length)).all (eAt (a::l) (c::m) ∘ Nat.succ)=(List.range (min l.length m.length)).all (eAt l m):=by
      congr 1
     rw [e3,Bool.and_assoc]
     congr 2
     simp
section
variable {K:PySem.W.Frag}{F:Hp}
noncomputable def comp:D→Bool
 | .tup _=>true
 | .lst _=>true
 | .scr _=>true
 | .dic _ _=>true
 | _=>false
theorem Dat.ref {d:D}{v:V} (h:Dat K F d v) (hc:comp d=true):∃ a,v=.ref a:=by
 cases d with
 | tup l=>obtain ⟨a,_,e,_⟩:=h.tup_inv;exact ⟨a,e⟩
 | lst l=>obtain ⟨a,_,e,_⟩:=h.lst_inv;exact ⟨a,e⟩
 | scr l=>obtain ⟨a,e,_⟩:=h.scr_inv;exact ⟨a,e⟩
 | dic k l=>obtain ⟨a,_,e,_⟩:=h.dic_inv;exact ⟨a,e⟩
 | _=>cases hc
theorem eq_fun:∀ (n:Nat) (d1 d2 dx:D) (b1 b2:Bool) (v:V),dep d1≤n→Dat K F d1 v→Dat K F d2 v→eqD d1 dx=some b1→eqD d2 dx=some b2→b1=b2:=by
 intro n
 induction n with
 | zero=>intro d1 d2 dx b1 b2 v h;cases d1<;>simp [dep] at h
 | succ n ih=>
  have L:∀ (l1 l2 lx:List D) (b1 b2:Bool) (vs:List V),depL l1≤n→DatL K F l1 vs→DatL K F l2 vs→eqL l1 lx=some b1→eqL l2 lx=some b2→b1=b2:=by
   intro l1
   induction l1 with
   | nil=>
    intro l2 lx b1 b2 vs _ h1 h2 e1 e2
    rw [h1.nil_inv] at h2
    cases l2 with
    | nil=>rw [e1] at e2;exact Option.some.inj e2
    | cons _ _=>obtain ⟨_,_,e,_⟩:=h2.cons_inv;cases e
   | cons a l1 ih2=>
    intro l2 lx b1 b2 vs hn h1 h2 e1 e2
    obtain ⟨v,r,rfl,q1,q2⟩:=h1.cons_inv
    cases l2 with
    | nil=>have:=h2.nil_inv;cases this
    | cons c l2=>
     obtain ⟨v',r',ee,p1,p2⟩:=h2.cons_inv
     cases ee
     cases lx with
     | nil=>simp [eqL] at e1 e2;rw [e1,e2]
     | cons x lx=>
      simp only [eqL] at e1 e2
      simp only [depL] at hn
      cases f1:eqD a x with
      | none=>rw [f1] at e1;cases e1
      | some y1=>
       cases f2:eqD c x with
       | none=>rw [f2] at e2;cases e2
       | some y2=>
        cases g1:eqL l1 lx with
        | none=>rw [f1,g1] at e1;cases e1
        | some z1=>
         cases g2:eqL l2 lx with
         | none=>rw [f2,g2] at e2;cases e2
         | some z2=>
          rw [f1,g1] at e1
          rw [f2,g2] at e2
          have k1:=ih a c x y1 y2 v (by omega) q1 p1 f1 f2
          have k2:=ih2 l2 lx z1 z2 r (by omega) q2 p2 g1 g2
          subst k1 k2
          rw [e1] at e2;exact Option.some.inj e2
  intro d1 d2 dx b1 b2 v hn h1 h2 e1 e2
  cases d1 with
  | non=>rw [h1.non_inv] at h2;cases d2<;>first | (obtain ⟨_,z⟩:=Dat.ref h2 rfl;cases z;done) | (simp only [Dat] at h2;cases h2;done) | (simp only [Dat] at h2;(first | cases h2 | skip);rw [e1] at e2;exact Option.some.inj e2) | (rw [e1] at e2;exact Option.some.inj e2)
  | bl b=>rw [h1.bl_inv] at h2;cases d2<;>first | (obtain ⟨_,z⟩:=Dat.ref h2 rfl;cases z;done) | (simp only [Dat] at h2;cases h2;done) | (simp only [Dat] at h2;(first | cases h2 | skip);rw [e1] at e2;exact Option.some.inj e2) | (rw [e1] at e2;exact Option.some.inj e2)
  | int b=>rw [h1.int_inv] at h2;cases d2<;>first | (obtain ⟨_,z⟩:=Dat.ref h2 rfl;cases z;done) | (simp only [Dat] at h2;cases h2;done) | (simp only [Dat] at h2;(first | cases h2 | skip);rw [e1] at e2;exact Option.some.inj e2) | (rw [e1] at e2;exact Option.some.inj e2)
  | str b=>rw [h1.str_inv] at h2;cases d2<;>first | (obtain ⟨_,z⟩:=Dat.ref h2 rfl;cases z;done) | (simp only [Dat] at h2;cases h2;done) | (simp only [Dat] at h2;(first | cases h2 | skip);rw [e1] at e2;exact Option.some.inj e2) | (rw [e1] at e2;exact Option.some.inj e2)
  | tup l1=>
   obtain ⟨a,vs,rfl,f1,q1⟩:=h1.tup_inv
   cases d2 with
   | tup l2=>
    obtain ⟨a',vs',z,f2,q2⟩:=h2.tup_inv
    cases z
    rw [f1] at f2;cases f2
    simp only [dep] at hn
    cases dx<;>first | (simp only [eqD] at e1 e2;exact L l1 l2 _ b1 b2 vs (by omega) q1 q2 e1 e2) | (simp only [eqD] at e1 e2;cases e1;cases e2;rfl) | (simp only [eqD] at e1;cases e1)
   | lst l2=>obtain ⟨a',vs',z,f2,q2⟩:=h2.lst_inv;cases z;rw [f1] at f2;cases f2
   | scr l2=>simp [eqD] at e2
   | dic k l2=>simp [eqD] at e2
   | _=>simp only [Dat] at h2;cases h2
  | lst l1=>
   obtain ⟨a,vs,rfl,f1,q1⟩:=h1.lst_inv
   cases d2 with
   | lst l2=>
    obtain ⟨a',vs',z,f2,q2⟩:=h2.lst_inv
    cases z
    rw [f1] at f2;cases f2
    simp only [dep] at hn
    cases dx<;>first | (simp only [eqD] at e1 e2;exact L l1 l2 _ b1 b2 vs (by omega) q1 q2 e1 e2) | (simp only [eqD] at e1 e2;cases e1;cases e2;rfl) | (simp only [eqD] at e1;cases e1)
   | tup l2=>obtain ⟨a',vs',z,f2,q2⟩:=h2.tup_inv;cases z;rw [f1] at f2;cases f2
   | scr l2=>simp [eqD] at e2
   | dic k l2=>simp [eqD] at e2
   | _=>simp only [Dat] at h2;cases h2
  | scr l=>simp [eqD] at e1
  | dic k l=>simp [eqD] at e1
end
section
variable {X:Cx}{pins:List (Addr×Obj)} {σ:St}{H F:Hp} {s:Shared}{K:PySem.W.Frag}
theorem ziR {d1 d2:D}{b:Bool} {v:V}(h1:Dat K F d1 v) (h2:Dat K F d2 v) (e:eqD d1 d2=some b):b=true:=by
 have key:∀ (n:Nat) (d1 d2:D) (b:Bool) (v:V),dep d1≤n→Dat K F d1 v→Dat K F d2 v→eqD d1 d2=some b→b=true:=by
  intro n
  induction n with
  | zero=>intro d1 d2 b v h;cases d1<;>simp [dep] at h
  | succ n ih=>
   have L:∀ (l1 l2:List D) (b:Bool) (vs:List V),depL l1≤n→DatL K F l1 vs→DatL K F l2 vs→eqL l1 l2=some b→b=true:=by
    intro l1
    induction l1 with
    | nil=>
     intro l2 b vs _ h1 h2 e
     rw [h1.nil_inv] at h2
     cases l2 with
     | nil=>simp [eqL] at e;exact e
     | cons _ _=>obtain ⟨_,_,z,_⟩:=h2.cons_inv;cases z
    | cons a l1 ih2=>
     intro l2 b vs hn h1 h2 e
     obtain ⟨v,r,rfl,q1,q2⟩:=h1.cons_inv
     cases l2 with
     | nil=>have:=h2.nil_inv;cases this
     | cons c l2=>
      obtain ⟨v',r',ee,p1,p2⟩:=h2.cons_inv
      cases ee
      simp only [eqL] at e
      simp only [depL] at hn
      cases f1:eqD a c with
      | none=>rw [f1] at e;cases e
      | some y1=>
       cases g1:eqL l1 l2 with
       | none=>rw [f1,g1] at e;cases e
       | some z1=>
        rw [f1,g1] at e
        have e':(y1 && z1)=b:=by simpa using e
        rw [← e',ih a c y1 v (by omega) q1 p1 f1,ih2 l2 z1 r (by omega) q2 p2 g1];rfl
   intro d1 d2 b v hn h1 h2 e
   cases d1 with
   | tup l1=>
    obtain ⟨a,vs,rfl,f1,q1⟩:=h1.tup_inv
    cases d2 with
    | tup l2=>
     obtain ⟨a',vs',z,f2,q2⟩:=h2.tup_inv
     cases z
     rw [f1] at f2;cases f2
     simp only [dep] at hn
     simp only [eqD] at e
     exact L l1 l2 b vs (by omega) q1 q2 e
    | lst l2=>obtain ⟨a',vs',z,f2,q2⟩:=h2.lst_inv;cases z;rw [f1] at f2;cases f2
    | non=>have:=h2.non_inv;cases this
    | int _=>have:=h2.int_inv;cases this
    | str _=>have:=h2.str_inv;cases this
    | _=>simp [eqD] at e
   | lst l1=>
    obtain ⟨a,vs,rfl,f1,q1⟩:=h1.lst_inv
    cases d2 with
    | lst l2=>
     obtain ⟨a',vs',z,f2,q2⟩:=h2.lst_inv
     cases z
     rw [f1] at f2;cases f2
     simp only [dep] at hn
     simp only [eqD] at e
     exact L l1 l2 b vs (by omega) q1 q2 e
    | tup l2=>obtain ⟨a',vs',z,f2,q2⟩:=h2.tup_inv;cases z;rw [f1] at f2;cases f2
    | non=>have:=h2.non_inv;cases this
    | int _=>have:=h2.int_inv;cases this
    | str _=>have:=h2.str_inv;cases this
    | _=>simp [eqD] at e
   | non=>
    have z:=h1.non_inv
    subst z
    cases d2<;>first | (simp [eqD] at e;exact e) | (obtain ⟨_,z⟩:=Dat.ref h2 rfl;cases z;done) | (simp only [Dat] at h2;cases h2;done)
   | bl x=>
    have z:=h1.bl_inv
    subst z
    cases d2 with
    | bl y=>have z:=h2.bl_inv;cases z;simp [eqD] at e;exact e
    | non=>have z:=h2.non_inv;cases z
    | _=>simp [eqD] at e
   | int x=>
    have z:=h1.int_inv
    subst z
    cases d2 with
    | int y=>have z:=h2.int_inv;cases z;simp [eqD] at e;exact e
    | non=>have z:=h2.non_inv;cases z
    | str _=>have z:=h2.str_inv;cases z
    | tup _=>obtain ⟨_,z⟩:=Dat.ref h2 rfl;cases z
    | _=>simp [eqD] at e
   | str x=>
    have z:=h1.str_inv
    subst z
    cases d2 with
    | str y=>have z:=h2.str_inv;cases z;simp [eqD] at e;exact e
    | non=>have z:=h2.non_inv;cases z
    | int _=>have z:=h2.int_inv;cases z
    | tup _=>obtain ⟨_,z⟩:=Dat.ref h2 rfl;cases z
    | lst _=>obtain ⟨_,z⟩:=Dat.ref h2 rfl;cases z
    | _=>simp [eqD] at e
   | _=>simp [eqD] at e
 exact key _ d1 d2 b v (Nat.le_refl _) h1 h2 e
theorem Inv.tupAt (I:Inv X pins σ H s) {a:Addr}{vs:List V} (h:H a=some (.tup vs)):∃ its:List Value,Vals vs its∧s.heap.IsTuple a its.toArray:=by
 obtain ⟨its,r,p,_⟩:=I.tuple (SqT.of h)
 exact ⟨its,r,p⟩
theorem Inv.lstAt (I:Inv X pins σ H s) {a:Addr}{vs:List V} (h:H a=some (.lst vs)):∃ its:List Value,Vals vs its∧s.heap.IsList a its.toArray:=by
 obtain ⟨its,r,p,_⟩:=I.list (SqL.of h)
 exact ⟨its,r,p.isList⟩
theorem zcv {l:List D}{vs:List V} {its:List Value}(h:DatL K F l vs) (r:Vals vs its) {j:Nat}(hj:j < its.toArray.size):∃ d v,l[j]?=some d∧vs[j]?=some v∧Dat K F d v∧RelV v its.toArray[j]:=by
 have hl:=r.length
 have hj':j < vs.length:=by rw [hl];simpa using hj
 obtain ⟨u,hu,ru⟩:=r.get (List.getElem?_eq_getElem hj')
 obtain ⟨d,hd,hD⟩:=h.get' (List.getElem?_eq_getElem hj')
 refine ⟨d,vs[j],hd,List.getElem?_eq_getElem hj',hD,?_⟩
 have e:its.toArray[j]=u:=by
  have:its[j]?=some u:=hu
  rw [List.getElem?_eq_getElem (by simpa using hj)] at this
  simpa using Option.some.inj this
 rw [e];exact ru
theorem zet (A:Around):A.in1.units≤A.units + 1:=by
 have:=(Room.in1 (k:=0) (A:=A));exact Nat.le_refl _
theorem zjr (I:Inv X pins σ H s) (sub:Same F H):∀ (n:Nat) (d1 d2:D) (b:Bool) (v1 v2:V) (u1 u2:Value) (A:Around),dep d1≤n→eqD d1 d2=some b→Dat K F d1 v1→Dat K F d2 v2→RelV v1 u1→RelV v2 u2→A.units + n < cLine→SeqAt.EqAt A s u1 u2 b:=by
 intro n
 induction n with
 | zero=>intro d1 d2 b v1 v2 u1 u2 A h;cases d1<;>simp [dep] at h
 | succ n ih=>
  intro d1 d2 b v1 v2 u1 u2 A hn e h1 h2 r1 r2 hu
  have hu0:A.units < cLine:=by omega
  have hin:A.in1.units + n < cLine:=by have:=zet A;omega
  cases d1 with
  | non=>
   rw [h1.non_inv] at r1;cases r1
   cases d2 with
   | non=>simp [eqD] at e;subst e;rw [h2.non_inv] at r2;cases r2;exact SeqAt.EqAt.same _
   | bl x=>simp [eqD] at e;subst e;rw [h2.bl_inv] at r2;cases r2;exact SeqAt.EqAt.none_bool x
   | int x=>simp [eqD] at e;subst e;rw [h2.int_inv] at r2;obtain ⟨t,rfl⟩:=r2;exact SeqAt.EqAt.none_int x t
   | str x=>simp [eqD] at e;subst e;rw [h2.str_inv] at r2;obtain ⟨t,rfl⟩:=r2;exact SeqAt.EqAt.none_str x t
   | tup l=>simp [eqD] at e;subst e;obtain ⟨a,vs,rfl,f,_⟩:=h2.tup_inv;cases r2;obtain ⟨its,_,p⟩:=Inv.tupAt I (sub _ _ f);exact SeqAt.EqAt.none_tuple p hu0
   | lst l=>simp [eqD] at e;subst e;obtain ⟨a,vs,rfl,f,_⟩:=h2.lst_inv;cases r2;obtain ⟨its,_,p⟩:=Inv.lstAt I (sub _ _ f);exact SeqAt.EqAt.none_list p hu0
   | _=>simp [eqD] at e
  | bl y=>
   rw [h1.bl_inv] at r1;cases r1
   cases d2 with
   | non=>simp [eqD] at e;subst e;rw [h2.non_inv] at r2;cases r2;exact SeqAt.EqAt.bool_none y
   | bl x=>simp only [eqD,Option.some.injEq] at e;subst e;rw [h2.bl_inv] at r2;cases r2;exact SeqAt.EqAt.bool_bool y x
   | _=>simp [eqD] at e
  | int y=>
   rw [h1.int_inv] at r1;obtain ⟨t',rfl⟩:=r1
   cases d2 with
   | non=>simp [eqD] at e;subst e;rw [h2.non_inv] at r2;cases r2;exact SeqAt.EqAt.int_none y t'
   | int x=>simp only [eqD,Option.some.injEq] at e;subst e;rw [h2.int_inv] at r2;obtain ⟨t,rfl⟩:=r2;exact SeqAt.EqAt.int_int y t' x t
   | str x=>simp [eqD] at e;subst e;rw [h2.str_inv] at r2;obtain ⟨t,rfl⟩:=r2;exact SeqAt.EqAt.int_str y t' x t
   | tup l=>simp [eqD] at e;subst e;obtain ⟨a,vs,rfl,f,_⟩:=h2.tup_inv;cases r2;obtain ⟨its,_,p⟩:=Inv.tupAt I (sub _ _ f);exact SeqAt.EqAt.int_tuple y t' p hu0
   | _=>simp [eqD] at e
  | str y=>
   rw [h1.str_inv] at r1;obtain ⟨t',rfl⟩:=r1
   cases d2 with
   | non=>simp [eqD] at e;subst e;rw [h2.non_inv] at r2;cases r2;exact SeqAt.EqAt.str_none y t'
   | int x=>simp [eqD] at e;subst e;rw [h2.int_inv] at r2;obtain ⟨t,rfl⟩:=r2;exact SeqAt.EqAt.str_int y t' x t
   | str x=>simp only [eqD,Option.some.injEq] at e;subst e;rw [h2.str_inv] at r2;obtain ⟨t,rfl⟩:=r2;exact SeqAt.EqAt.str_str y t' x t
   | tup l=>simp [eqD] at e;subst e;obtain ⟨a,vs,rfl,f,_⟩:=h2.tup_inv;cases r2;obtain ⟨its,_,p⟩:=Inv.tupAt I (sub _ _ f);exact SeqAt.EqAt.str_tuple y t' p hu0
   | lst l=>simp [eqD] at e;subst e;obtain ⟨a,vs,rfl,f,_⟩:=h2.lst_inv;cases r2;obtain ⟨its,_,p⟩:=Inv.lstAt I (sub _ _ f);exact SeqAt.EqAt.str_list y t' p hu0
   | _=>simp [eqD] at e
  | tup l1=>
   obtain ⟨a,vs,rfl,f1,q1⟩:=id h1.tup_inv
   cases r1
   obtain ⟨its,rv,p⟩:=Inv.tupAt I (sub _ _ f1)
   cases d2 with
   | non=>simp [eqD] at e;subst e;rw [h2.non_inv] at r2;cases r2;exact SeqAt.EqAt.tuple_none p hu0
   | int x=>simp [eqD] at e;subst e;rw [h2.int_inv] at r2;obtain ⟨t,rfl⟩:=r2;exact SeqAt.EqAt.tuple_int x t p hu0
   | str x=>simp [eqD] at e;subst e;rw [h2.str_inv] at r2;obtain ⟨t,rfl⟩:=r2;exact SeqAt.EqAt.tuple_str x t p hu0
   | tup l2=>
    obtain ⟨a2,vs2,rfl,f2,q2⟩:=id h2.tup_inv
    cases r2
    by_cases ha:a=a2
    ·subst ha
     rw [ziR h1 h2 e];exact SeqAt.EqAt.same _
    obtain ⟨its2,rv2,p2⟩:=Inv.tupAt I (sub _ _ f2)
    simp only [eqD] at e
    obtain ⟨hp,hb⟩:=zdI e
    simp only [dep] at hn
    have he:∀ (j:Nat) (h1:j < its.toArray.size) (h2:j < its2.toArray.size),SeqAt.EqAt A.in1 s its.toArray[j] its2.toArray[j] (eAt l1 l2 j):=fun j k1 k2=>by
     obtain ⟨x,v,hx,_,dx,rx⟩:=zcv q1 rv k1
     obtain ⟨y,w,hy,_,dy,ry⟩:=zcv q2 rv2 k2
     have:=zev (List.mem_of_getElem? hx)
     exact ih x y _ v w _ _ A.in1 (by omega) (hp j x y hx hy) dx dy rx ry hin
    have z:=SeqAt.RcAt.tuples p p2 hu0 he
    have e1:its.toArray.size=l1.length:=by rw [List.size_toArray,← rv.length,q1.length]
    have e2:its2.toArray.size=l2.length:=by rw [List.size_toArray,← rv2.length,q2.length]
    rw [e1,e2] at z
    rw [hb]
    exact SeqAt.EqAt.of_refs ha z
   | lst l2=>simp [eqD] at e;subst e;obtain ⟨a2,vs2,rfl,f2,_⟩:=h2.lst_inv;cases r2;obtain ⟨its2,_,p2⟩:=Inv.lstAt I (sub _ _ f2);exact SeqAt.EqAt.tuple_list p p2 hu0
   | _=>simp [eqD] at e
  | lst l1=>
   obtain ⟨a,vs,rfl,f1,q1⟩:=id h1.lst_inv
   cases r1
   obtain ⟨its,rv,p⟩:=Inv.lstAt I (sub _ _ f1)
   cases d2 with
   | non=>simp [eqD] at e;subst e;rw [h2.non_inv] at r2;cases r2;exact SeqAt.EqAt.list_none p hu0
   | str x=>simp [eqD] at e;subst e;rw [h2.str_inv] at r2;obtain ⟨t,rfl⟩:=r2;exact SeqAt.EqAt.list_str x t p hu0
   | tup l2=>simp [eqD] at e;subst e;obtain ⟨a2,vs2,rfl,f2,_⟩:=h2.tup_inv;cases r2;obtain ⟨its2,_,p2⟩:=Inv.tupAt I (sub _ _ f2);exact SeqAt.EqAt.list_tuple p p2 hu0
   | lst l2=>
    obtain ⟨a2,vs2,rfl,f2,q2⟩:=id h2.lst_inv
    cases r2
    by_cases ha:a=a2
    ·subst ha
     rw [ziR h1 h2 e];exact SeqAt.EqAt.same _
    obtain ⟨its2,rv2,p2⟩:=Inv.lstAt I (sub _ _ f2)
    simp only [eqD] at e
    obtain ⟨hp,hb⟩:=zdI e
    simp only [dep] at hn
    have he:∀ (j:Nat) (h1:j < its.toArray.size) (h2:j < its2.toArray.size),SeqAt.EqAt A.in1 s its.toArray[j] its2.toArray[j] (eAt l1 l2 j):=fun j k1 k2=>by
     obtain ⟨x,v,hx,_,dx,rx⟩:=zcv q1 rv k1
     obtain ⟨y,w,hy,_,dy,ry⟩:=zcv q2 rv2 k2
     have:=zev (List.mem_of_getElem? hx)
     exact ih x y _ v w _ _ A.in1 (by omega) (hp j x y hx hy) dx dy rx ry hin
    have e1:its.toArray.size=l1.length:=by rw [List.size_toArray,← rv.length,q1.length]
    have e2:its2.toArray.size=l2.length:=by rw [List.size_toArray,← rv2.length,q2.length]
    by_cases hsz:l1.length=l2.length
    ·have z:=SeqAt.RcAt.lists p p2 (by rw [e1,e2,hsz]) hu0 he
     rw [e1] at z
     rw [hb,hsz,Nat.min_self,beq_self_eq_true,Bool.and_true,← hsz]
     exact SeqAt.EqAt.of_refs ha z
    ·have z:=SeqAt.RcAt.lists_lengths p p2 (by rw [e1,e2];simpa using hsz) hu0
     have hb0:b=false:=by
      rw [hb]
      have:(l1.length == l2.length)=false:=by simpa using hsz
      rw [this,Bool.and_false]
     rw [hb0]
     exact SeqAt.EqAt.of_refs ha z
   | _=>simp [eqD] at e
  | _=>simp [eqD] at e
end
end FL
set_option Elab.async false
set_option linter.all false
set_option maxRecDepth 100000
namespace FL
open PySem PySem.Spec PyProof.Rows L2
noncomputable abbrev lim:Nat:=1000000
theorem zel {n:Nat}(h:n≤lim):n≤sizeLine:=by rw [sizeLine_eq];unfold lim at h;omega
theorem zgJ {n:Nat}(h:n≤lim):n < sizeLine:=by rw [sizeLine_eq];unfold lim at h;omega
section
variable {K:PySem.W.Frag}{F H F' H':Hp} {v:V}
theorem DatB.non_inv (h:DatB K F H .non v):v=.non:=Dat.non_inv (K:=K) (F:=F) h
theorem DatB.bl_inv {i:Bool}(h:DatB K F H (.bl i) v):v=.bl i:=Dat.bl_inv (K:=K) (F:=F) h
theorem DatB.int_inv {i:Int}(h:DatB K F H (.int i) v):v=.int i:=Dat.int_inv (K:=K) (F:=F) h
theorem DatB.str_inv {i:Str}(h:DatB K F H (.str i) v):v=.str i:=Dat.str_inv (K:=K) (F:=F) h
theorem DatB.tup_inv {l:List D}(h:DatB K F H (.tup l) v):∃ a vs,v=.ref a∧F a=some (.tup vs)∧DatL K F l vs:=Dat.tup_inv (K:=K) (F:=F) h
theorem DatB.scr_inv {l:List Int}(h:DatB K F H (.scr l) v):∃ a,v=.ref a∧SqL K F a (l.map V.int):=Dat.scr_inv (K:=K) (F:=F) h
theorem DatB.lst_inv {l:List D}(h:DatB K F H (.lst l) v):∃ a vs,v=.ref a∧H a=some (.lst vs)∧DatL K F l vs:=h
theorem DatB.dic_inv {ks:List KD}{l:List D} (h:DatB K F H (.dic ks l) v):∃ a vs,v=.ref a∧DicB H a ks vs∧DatL K F l vs:=h
theorem Res.bl (b:Bool):Res K .fz H F' H' (.bl b) (.bl b):=Dat.bl (K:=K) (F:=F') b
theorem Res.int (b:Int):Res K .fz H F' H' (.int b) (.int b):=Dat.int (K:=K) (F:=F') b
theorem Res.str (b:Str):Res K .fz H F' H' (.str b) (.str b):=Dat.str (K:=K) (F:=F') b
end
noncomputable def addD:D→D→Option D
 | .int a,.int b=>some (.int (a + b))
 | .str a,.str b=>if a.length + b.length≤lim then some (.str (a++b)) else none
 | .tup a,.tup b=>if a.length + b.length≤lim then some (.tup (a++b)) else none
 | .lst a,.lst b=>if a.length + b.length≤lim then some (.lst (a++b)) else none
 | _,_=>none
noncomputable def catD:D→D→Option D
 | .lst a,.lst b=>if a.length + b.length≤lim then some (.lst (a++b)) else none
 | _,_=>none
noncomputable def subD:D→D→Option D
 | .int a,.int b=>some (.int (a - b))
 | _,_=>none
noncomputable def zlo (a b:Int):Prop:=(-(2 ^ 64) < a∧a < 2 ^ 64)∨(-(2 ^ 64) < b∧b < 2 ^ 64)
noncomputable def okDiv (b:Int):Prop:=0 < b∧b < 1073741824
noncomputable def zjj (b:Int):Prop:=0 < b
noncomputable def okPow (a b:Int):Prop:=0≤b∧b≤1000000∧a.natAbs < 2 ^ 64
theorem zcN {a b:Int}(h1:-18446744073709551616 < b) (h2:b < 18446744073709551616):zlo a b:=.inr ⟨h1,h2⟩
theorem zed {a b:Int}(h1:-18446744073709551616 < a) (h2:a < 18446744073709551616):zlo a b:=.inl ⟨h1,h2⟩
theorem zda {b:Int}(h1:0 < b) (h2:b < 1073741824):okDiv b:=⟨h1,h2⟩
theorem zcZ {b:Int}(h1:0 < b):zjj b:=h1
theorem zcY {a b:Int}(h1:0≤b) (h2:b≤1000000) (h3:a.natAbs < 18446744073709551616):okPow a b:=⟨h1,h2,h3⟩
open Classical in
noncomputable def mulD:D→D→Option D
 | .int a,.int b=>if zlo a b then some (.int (a * b)) else none
 | _,_=>none
open Classical in
noncomputable def divD:D→D→Option D
 | .int a,.int b=>if okDiv b then some (.int (a / b)) else none
 | _,_=>none
open Classical in
noncomputable def modD:D→D→Option D
 | .int a,.int b=>if zjj b then some (.int (a % b)) else none
 | _,_=>none
open Classical in
noncomputable def powD:D→D→Option D
 | .int a,.int b=>if okPow a b then some (.int (a ^ b.toNat)) else none
 | _,_=>none
section
variable {K:PySem.W.Frag}{X:Cx}
theorem zaO {α:Type}{c:Prop} {_:Decidable c}{x y:α} (h:(if c then some x else none)=some y):c∧x=y:=by
 by_cases hc:c
 ·rw [if_pos hc] at h;exact ⟨hc,Option.some.inj h⟩
 ·rw [if_neg hc] at h;cases h
theorem zbp (hK:X.K=K:=by rfl):Op2 K X (binaryOp .Add) .fz addD:=by
 subst hK
 refine ⟨_,op_add.or (zlm.or (op_catA.or op_cat)),fun x y d F H v u Q e s h1 h2 k=>?_⟩
 unfold addD at e
 split at e
 ·cases e
  refine .inl ⟨_,_,h1.int_inv,h2.int_inv,k _ F H (Grow.refl s) (Res.int _)⟩
 ·obtain ⟨hz,rfl⟩:=zaO e
  exact .inr (.inl ⟨_,_,h1.str_inv,h2.str_inv,zel hz,k _ F H (Grow.refl s) (Res.str _)⟩)
 ·obtain ⟨hz,rfl⟩:=zaO e
  obtain ⟨a,xs,rfl,f1,q1⟩:=h1.tup_inv
  obtain ⟨b,ys,rfl,f2,q2⟩:=h2.tup_inv
  refine .inr (.inr (.inl ⟨a,b,xs,ys,rfl,rfl,SqT.of (s _ _ f1),SqT.of (s _ _ f2),by rw [q1.length,q2.length];exact zel hz,fun z=>?_,fun _ z=>?_,fun _ _ p hp=>?_⟩))
  ·subst z
   refine k _ F H (Grow.refl s) ?_
   have:_=([]:List D):=List.eq_nil_of_length_eq_zero (by rw [← q1.length];rfl)
   rw [this];exact h2
  ·subst z
   refine k _ F H (Grow.refl s) ?_
   have:_=([]:List D):=List.eq_nil_of_length_eq_zero (by rw [← q2.length];rfl)
   rw [this,List.append_nil];exact h1
  ·have g:=Grow.frozen (o:=.tup (xs++ys)) s hp
   exact k _ _ _ g (Dat.tup (K:=X.K) zas ((q1.mono g.ff).append (q2.mono g.ff)))
 ·obtain ⟨hz,rfl⟩:=zaO e
  obtain ⟨a,xs,rfl,f1,q1⟩:=h1
  obtain ⟨b,ys,rfl,f2,q2⟩:=h2
  refine .inr (.inr (.inr ⟨a,b,xs,ys,rfl,rfl,f1,f2,by rw [q1.length,q2.length];exact zel hz,fun p hp=>?_⟩))
  have g:=Grow.frozen (o:=.lst (xs++ys)) s hp
  exact k _ _ _ g (Dat.lst (K:=X.K) zas ((q1.mono g.ff).append (q2.mono g.ff)))
 ·cases e
theorem p_cat (hK:X.K=K:=by rfl):Op2 K X (binaryOp .Add) .ow catD:=by
 subst hK
 refine ⟨_,op_cat,fun x y d F H v u Q e s h1 h2 k=>?_⟩
 unfold catD at e
 split at e
 ·obtain ⟨hz,rfl⟩:=zaO e
  obtain ⟨a,xs,rfl,f1,q1⟩:=h1
  obtain ⟨b,ys,rfl,f2,q2⟩:=h2
  refine ⟨a,b,xs,ys,rfl,rfl,f1,f2,by rw [q1.length,q2.length];exact zel hz,fun p hp=>?_⟩
  exact k _ _ _ (Grow.fresh s hp) ⟨p,rfl,hp,s.free hp,xs++ys,zas,q1.append q2⟩
 ·cases e
theorem p_int {f:Value→Value→Sem Value}{C:Int→Int→Prop} {g:Int→Int→Int}{p:D→D→Option D} (o:OpR X f (rI C fun i j=>.int (g i j)))
  (h:∀ x y d,p x y=some d→∃ i j,x=.int i∧y=.int j∧C i j∧d=.int (g i j)):Op2 K X f .fz p:=by
 refine ⟨_,o,fun x y d F H v u Q e s h1 h2 k=>?_⟩
 obtain ⟨i,j,rfl,rfl,c,rfl⟩:=h x y d e
 exact ⟨i,j,h1.int_inv,h2.int_inv,c,k _ F H (Grow.refl s) (Res.int _)⟩
theorem p_sub:Op2 K X (binaryOp .Sub) .fz subD:=by
 refine ⟨_,op_sub,fun x y d F H v u Q e s h1 h2 k=>?_⟩
 unfold subD at e
 split at e
 ·cases e
  exact ⟨_,_,h1.int_inv,h2.int_inv,k _ F H (Grow.refl s) (Res.int _)⟩
 ·cases e
theorem zib:Op2 K X (binaryOp .Mult) .fz mulD:=p_int op_mul fun x y d e=>by
 unfold mulD at e
 split at e
 ·obtain ⟨hz,rfl⟩:=zaO e
  exact ⟨_,_,rfl,rfl,hz,rfl⟩
 ·cases e
theorem zfB:Op2 K X (binaryOp .FloorDiv) .fz divD:=p_int op_fdiv fun x y d e=>by
 unfold divD at e
 split at e
 ·obtain ⟨hz,rfl⟩:=zaO e
  exact ⟨_,_,rfl,rfl,hz,rfl⟩
 ·cases e
theorem zcB:Op2 K X (binaryOp .Mod) .fz modD:=p_int op_mod fun x y d e=>by
 unfold modD at e
 split at e
 ·obtain ⟨hz,rfl⟩:=zaO e
  exact ⟨_,_,rfl,rfl,hz,rfl⟩
 ·cases e
theorem p_pow:Op2 K X (binaryOp .Pow) .fz powD:=p_int op_pow fun x y d e=>by
 unfold powD at e
 split at e
 ·obtain ⟨hz,rfl⟩:=zaO e
  exact ⟨_,_,rfl,rfl,hz,rfl⟩
 ·cases e
end
section
variable {X:Cx}{pins:List (Addr×Obj)} {σ:St}{H F:Hp} {s:Shared}{K:PySem.W.Frag}
theorem RcAt_D (I:Inv X pins σ H s) (sub:Same F H) (d1 d2:D) (b:Bool) (v1 v2:V) (u1 u2:Value) (n:Nat) (hn:dep d1≤n) (e:eqD d1 d2=some b) (h1:DatB K F H d1 v1) (h2:DatB K F H d2 v2) (r1:RelV v1 u1) (r2:RelV v2 u2) (hu:X.A.units + n < cLine):SeqAt.RcAt X.A s u1 u2 b:=by
 have d0:0 < dep d1:=by cases d1<;>simp [dep]
 have hu0:X.A.units < cLine:=by omega
 have hin:X.A.in1.units + (n - 1) < cLine:=by have:=zet X.A;omega
 cases d1 with
 | non=>
  rw [h1.non_inv] at r1;cases r1
  cases d2 with
  | non=>simp [eqD] at e;subst e;rw [h2.non_inv] at r2;cases r2;exact SeqAt.RcAt.none_none
  | bl x=>simp [eqD] at e;subst e;rw [h2.bl_inv] at r2;cases r2;exact SeqAt.RcAt.none_bool x
  | int x=>simp [eqD] at e;subst e;rw [h2.int_inv] at r2;obtain ⟨t,rfl⟩:=r2;exact SeqAt.RcAt.none_int x t
  | str x=>simp [eqD] at e;subst e;rw [h2.str_inv] at r2;obtain ⟨t,rfl⟩:=r2;exact SeqAt.RcAt.none_str x t
  | tup l=>simp [eqD] at e;subst e;obtain ⟨a,vs,rfl,f,_⟩:=h2.tup_inv;cases r2;obtain ⟨its,_,p⟩:=Inv.tupAt I (sub _ _ f);exact SeqAt.RcAt.none_tuple p hu0
  | lst l=>simp [eqD] at e;subst e;obtain ⟨a,vs,rfl,f,_⟩:=h2.lst_inv;cases r2;obtain ⟨its,_,p⟩:=Inv.lstAt I f;exact SeqAt.RcAt.none_list p hu0
  | _=>simp [eqD] at e
 | bl y=>
  rw [h1.bl_inv] at r1;cases r1
  cases d2 with
  | non=>simp [eqD] at e;subst e;rw [h2.non_inv] at r2;cases r2;exact SeqAt.RcAt.bool_none y
  | bl x=>simp only [eqD,Option.some.injEq] at e;subst e;rw [h2.bl_inv] at r2;cases r2;exact SeqAt.RcAt.bool_bool y x
  | _=>simp [eqD] at e
 | int y=>
  rw [h1.int_inv] at r1;obtain ⟨t',rfl⟩:=r1
  cases d2 with
  | non=>simp [eqD] at e;subst e;rw [h2.non_inv] at r2;cases r2;exact SeqAt.RcAt.int_none y t'
  | int x=>simp only [eqD,Option.some.injEq] at e;subst e;rw [h2.int_inv] at r2;obtain ⟨t,rfl⟩:=r2;exact SeqAt.RcAt.int_int y t' x t
  | str x=>simp [eqD] at e;subst e;rw [h2.str_inv] at r2;obtain ⟨t,rfl⟩:=r2;exact SeqAt.RcAt.int_str y t' x t
  | tup l=>simp [eqD] at e;subst e;obtain ⟨a,vs,rfl,f,_⟩:=h2.tup_inv;cases r2;obtain ⟨its,_,p⟩:=Inv.tupAt I (sub _ _ f);exact SeqAt.RcAt.int_tuple y t' p hu0
  | _=>simp [eqD] at e
 | str y=>
  rw [h1.str_inv] at r1;obtain ⟨t',rfl⟩:=r1
  cases d2 with
  | non=>simp [eqD] at e;subst e;rw [h2.non_inv] at r2;cases r2;exact SeqAt.RcAt.str_none y t'
  | int x=>simp [eqD] at e;subst e;rw [h2.int_inv] at r2;obtain ⟨t,rfl⟩:=r2;exact SeqAt.RcAt.str_int y t' x t
  | str x=>simp only [eqD,Option.some.injEq] at e;subst e;rw [h2.str_inv] at r2;obtain ⟨t,rfl⟩:=r2;exact SeqAt.RcAt.str_str y t' x t
  | tup l=>simp [eqD] at e;subst e;obtain ⟨a,vs,rfl,f,_⟩:=h2.tup_inv;cases r2;obtain ⟨its,_,p⟩:=Inv.tupAt I (sub _ _ f);exact SeqAt.RcAt.str_tuple y t' p hu0
  | lst l=>simp [eqD] at e;subst e;obtain ⟨a,vs,rfl,f,_⟩:=h2.lst_inv;cases r2;obtain ⟨its,_,p⟩:=Inv.lstAt I f;exact SeqAt.RcAt.str_list y t' p hu0
  | _=>simp [eqD] at e
 | tup l1=>
  obtain ⟨a,vs,rfl,f1,q1⟩:=h1.tup_inv
  cases r1
  obtain ⟨its,rv,p⟩:=Inv.tupAt I (sub _ _ f1)
  cases d2 with
  | non=>simp [eqD] at e;subst e;rw [h2.non_inv] at r2;cases r2;exact SeqAt.RcAt.tuple_none p hu0
  | int x=>simp [eqD] at e;subst e;rw [h2.int_inv] at r2;obtain ⟨t,rfl⟩:=r2;exact SeqAt.RcAt.tuple_int x t p hu0
  | str x=>simp [eqD] at e;subst e;rw [h2.str_inv] at r2;obtain ⟨t,rfl⟩:=r2;exact SeqAt.RcAt.tuple_str x t p hu0
  | tup l2=>
   obtain ⟨a2,vs2,rfl,f2,q2⟩:=h2.tup_inv
   cases r2
   obtain ⟨its2,rv2,p2⟩:=Inv.tupAt I (sub _ _ f2)
   simp only [eqD] at e
   obtain ⟨hp,hb⟩:=zdI e
   simp only [dep] at hn
   have he:∀ (j:Nat) (h1:j < its.toArray.size) (h2:j < its2.toArray.size),SeqAt.EqAt X.A.in1 s its.toArray[j] its2.toArray[j] (eAt l1 l2 j):=fun j k1 k2=>by
    obtain ⟨x,v,hx,_,dx,rx⟩:=zcv q1 rv k1
    obtain ⟨y,w,hy,_,dy,ry⟩:=zcv q2 rv2 k2
    have:=zev (List.mem_of_getElem? hx)
    exact zjr I sub (n - 1) x y _ v w _ _ X.A.in1 (by omega) (hp j x y hx hy) dx dy rx ry hin
   have z:=SeqAt.RcAt.tuples p p2 hu0 he
   have e1:its.toArray.size=l1.length:=by rw [List.size_toArray,← rv.length,q1.length]
   have e2:its2.toArray.size=l2.length:=by rw [List.size_toArray,← rv2.length,q2.length]
   rw [e1,e2] at z
   rw [hb]
   exact z
  | lst l2=>simp [eqD] at e;subst e;obtain ⟨a2,vs2,rfl,f2,_⟩:=h2.lst_inv;cases r2;obtain ⟨its2,_,p2⟩:=Inv.lstAt I f2;exact SeqAt.RcAt.tuple_list p p2 hu0
  | _=>simp [eqD] at e
 | lst l1=>
  obtain ⟨a,vs,rfl,f1,q1⟩:=h1.lst_inv
  cases r1
  obtain ⟨its,rv,p⟩:=Inv.lstAt I f1
  cases d2 with
  | non=>simp [eqD] at e;subst e;rw [h2.non_inv] at r2;cases r2;exact SeqAt.RcAt.list_none p hu0
  | str x=>simp [eqD] at e;subst e;rw [h2.str_inv] at r2;obtain ⟨t,rfl⟩:=r2;exact SeqAt.RcAt.list_str x t p hu0
  | tup l2=>simp [eqD] at e;subst e;obtain ⟨a2,vs2,rfl,f2,_⟩:=h2.tup_inv;cases r2;obtain ⟨its2,_,p2⟩:=Inv.tupAt I (sub _ _ f2);exact SeqAt.RcAt.list_tuple p p2 hu0
  | lst l2=>
   obtain ⟨a2,vs2,rfl,f2,q2⟩:=h2.lst_inv
   cases r2
   obtain ⟨its2,rv2,p2⟩:=Inv.lstAt I f2
   simp only [eqD] at e
   obtain ⟨hp,hb⟩:=zdI e
   simp only [dep] at hn
   have he:∀ (j:Nat) (h1:j < its.toArray.size) (h2:j < its2.toArray.size),SeqAt.EqAt X.A.in1 s its.toArray[j] its2.toArray[j] (eAt l1 l2 j):=fun j k1 k2=>by
    obtain ⟨x,v,hx,_,dx,rx⟩:=zcv q1 rv k1
    obtain ⟨y,w,hy,_,dy,ry⟩:=zcv q2 rv2 k2
    have:=zev (List.mem_of_getElem? hx)
    exact zjr I sub (n - 1) x y _ v w _ _ X.A.in1 (by omega) (hp j x y hx hy) dx dy rx ry hin
   have e1:its.toArray.size=l1.length:=by rw [List.size_toArray,← rv.length,q1.length]
   have e2:its2.toArray.size=l2.length:=by rw [List.size_toArray,← rv2.length,q2.length]
   by_cases hsz:l1.length=l2.length
   ·have z:=SeqAt.RcAt.lists p p2 (by rw [e1,e2,hsz]) hu0 he
    rw [e1] at z
    rw [hb,hsz,Nat.min_self,beq_self_eq_true,Bool.and_true,← hsz]
    exact z
   ·have z:=SeqAt.RcAt.lists_lengths p p2 (by rw [e1,e2];simpa using hsz) hu0
    have hb0:b=false:=by
     rw [hb]
     have:(l1.length == l2.length)=false:=by simpa using hsz
     rw [this,Bool.and_false]
    rw [hb0]
    exact z
  | _=>simp [eqD] at e
 | _=>simp [eqD] at e
theorem RcNeAt_D (I:Inv X pins σ H s) (sub:Same F H) (d1 d2:D) (b:Bool) (v1 v2:V) (u1 u2:Value) (n:Nat) (hn:dep d1≤n) (e:eqD d1 d2=some b) (h1:DatB K F H d1 v1) (h2:DatB K F H d2 v2) (r1:RelV v1 u1) (r2:RelV v2 u2) (hu:X.A.units + n < cLine):SeqAt.RcNeAt X.A s u1 u2 (!b):=by
 have d0:0 < dep d1:=by cases d1<;>simp [dep]
 have hu0:X.A.units < cLine:=by omega
 have hin:X.A.in1.units + (n - 1) < cLine:=by have:=zet X.A;omega
 cases d1 with
 | non=>
  rw [h1.non_inv] at r1;cases r1
  cases d2 with
  | non=>simp [eqD] at e;subst e;rw [h2.non_inv] at r2;cases r2;exact SeqAt.RcNeAt.none_none
  | bl x=>simp [eqD] at e;subst e;rw [h2.bl_inv] at r2;cases r2;exact SeqAt.RcNeAt.none_bool x
  | int x=>simp [eqD] at e;subst e;rw [h2.int_inv] at r2;obtain ⟨t,rfl⟩:=r2;exact SeqAt.RcNeAt.none_int x t
  | str x=>simp [eqD] at e;subst e;rw [h2.str_inv] at r2;obtain ⟨t,rfl⟩:=r2;exact SeqAt.RcNeAt.none_str x t
  | tup l=>simp [eqD] at e;subst e;obtain ⟨a,vs,rfl,f,_⟩:=h2.tup_inv;cases r2;obtain ⟨its,_,p⟩:=Inv.tupAt I (sub _ _ f);exact SeqAt.RcNeAt.none_tuple p hu0
  | lst l=>simp [eqD] at e;subst e;obtain ⟨a,vs,rfl,f,_⟩:=h2.lst_inv;cases r2;obtain ⟨its,_,p⟩:=Inv.lstAt I f;exact SeqAt.RcNeAt.none_list p hu0
  | _=>simp [eqD] at e
 | bl y=>
  rw [h1.bl_inv] at r1;cases r1
  cases d2 with
  | non=>simp [eqD] at e;subst e;rw [h2.non_inv] at r2;cases r2;exact SeqAt.RcNeAt.bool_none y
  | bl x=>simp only [eqD,Option.some.injEq] at e;subst e;rw [h2.bl_inv] at r2;cases r2;exact SeqAt.RcNeAt.bool_bool y x
  | _=>simp [eqD] at e
 | int y=>
  rw [h1.int_inv] at r1;obtain ⟨t',rfl⟩:=r1
  cases d2 with
  | non=>simp [eqD] at e;subst e;rw [h2.non_inv] at r2;cases r2;exact SeqAt.RcNeAt.int_none y t'
  | int x=>simp only [eqD,Option.some.injEq] at e;subst e;rw [h2.int_inv] at r2;obtain ⟨t,rfl⟩:=r2;exact SeqAt.RcNeAt.int_int y t' x t
  | str x=>simp [eqD] at e;subst e;rw [h2.str_inv] at r2;obtain ⟨t,rfl⟩:=r2;exact SeqAt.RcNeAt.int_str y t' x t
  | tup l=>simp [eqD] at e;subst e;obtain ⟨a,vs,rfl,f,_⟩:=h2.tup_inv;cases r2;obtain ⟨its,_,p⟩:=Inv.tupAt I (sub _ _ f);exact SeqAt.RcNeAt.int_tuple y t' p hu0
  | _=>simp [eqD] at e
 | str y=>
  rw [h1.str_inv] at r1;obtain ⟨t',rfl⟩:=r1
  cases d2 with
  | non=>simp [eqD] at e;subst e;rw [h2.non_inv] at r2;cases r2;exact SeqAt.RcNeAt.str_none y t'
  | int x=>simp [eqD] at e;subst e;rw [h2.int_inv] at r2;obtain ⟨t,rfl⟩:=r2;exact SeqAt.RcNeAt.str_int y t' x t
  | str x=>simp only [eqD,Option.some.injEq] at e;subst e;rw [h2.str_inv] at r2;obtain ⟨t,rfl⟩:=r2;exact SeqAt.RcNeAt.str_str y t' x t
  | tup l=>simp [eqD] at e;subst e;obtain ⟨a,vs,rfl,f,_⟩:=h2.tup_inv;cases r2;obtain ⟨its,_,p⟩:=Inv.tupAt I (sub _ _ f);exact SeqAt.RcNeAt.str_tuple y t' p hu0
  | lst l=>simp [eqD] at e;subst e;obtain ⟨a,vs,rfl,f,_⟩:=h2.lst_inv;cases r2;obtain ⟨its,_,p⟩:=Inv.lstAt I f;exact SeqAt.RcNeAt.str_list y t' p hu0
  | _=>simp [eqD] at e
 | tup l1=>
  obtain ⟨a,vs,rfl,f1,q1⟩:=h1.tup_inv
  cases r1
  obtain ⟨its,rv,p⟩:=Inv.tupAt I (sub _ _ f1)
  cases d2 with
  | non=>simp [eqD] at e;subst e;rw [h2.non_inv] at r2;cases r2;exact SeqAt.RcNeAt.tuple_none p hu0
  | int x=>simp [eqD] at e;subst e;rw [h2.int_inv] at r2;obtain ⟨t,rfl⟩:=r2;exact SeqAt.RcNeAt.tuple_int x t p hu0
  | str x=>simp [eqD] at e;subst e;rw [h2.str_inv] at r2;obtain ⟨t,rfl⟩:=r2;exact SeqAt.RcNeAt.tuple_str x t p hu0
  | tup l2=>
   obtain ⟨a2,vs2,rfl,f2,q2⟩:=h2.tup_inv
   cases r2
   obtain ⟨its2,rv2,p2⟩:=Inv.tupAt I (sub _ _ f2)
   simp only [eqD] at e
   obtain ⟨hp,hb⟩:=zdI e
   simp only [dep] at hn
   have he:∀ (j:Nat) (h1:j < its.toArray.size) (h2:j < its2.toArray.size),SeqAt.EqAt X.A.in1 s its.toArray[j] its2.toArray[j] (eAt l1 l2 j):=fun j k1 k2=>by
    obtain ⟨x,v,hx,_,dx,rx⟩:=zcv q1 rv k1
    obtain ⟨y,w,hy,_,dy,ry⟩:=zcv q2 rv2 k2
    have:=zev (List.mem_of_getElem? hx)
    exact zjr I sub (n - 1) x y _ v w _ _ X.A.in1 (by omega) (hp j x y hx hy) dx dy rx ry hin
   have z:=SeqAt.RcNeAt.tuples p p2 hu0 he
   have e1:its.toArray.size=l1.length:=by rw [List.size_toArray,← rv.length,q1.length]
   have e2:its2.toArray.size=l2.length:=by rw [List.size_toArray,← rv2.length,q2.length]
   rw [e1,e2] at z
   rw [hb]
   exact z
  | lst l2=>simp [eqD] at e;subst e;obtain ⟨a2,vs2,rfl,f2,_⟩:=h2.lst_inv;cases r2;obtain ⟨its2,_,p2⟩:=Inv.lstAt I f2;exact SeqAt.RcNeAt.tuple_list p p2 hu0
  | _=>simp [eqD] at e
 | lst l1=>
  obtain ⟨a,vs,rfl,f1,q1⟩:=h1.lst_inv
  cases r1
  obtain ⟨its,rv,p⟩:=Inv.lstAt I f1
  cases d2 with
  | non=>simp [eqD] at e;subst e;rw [h2.non_inv] at r2;cases r2;exact SeqAt.RcNeAt.list_none p hu0
  | str x=>simp [eqD] at e;subst e;rw [h2.str_inv] at r2;obtain ⟨t,rfl⟩:=r2;exact SeqAt.RcNeAt.list_str x t p hu0
  | tup l2=>simp [eqD] at e;subst e;obtain ⟨a2,vs2,rfl,f2,_⟩:=h2.tup_inv;cases r2;obtain ⟨its2,_,p2⟩:=Inv.tupAt I (sub _ _ f2);exact SeqAt.RcNeAt.list_tuple p p2 hu0
  | lst l2=>
   obtain ⟨a2,vs2,rfl,f2,q2⟩:=h2.lst_inv
   cases r2
   obtain ⟨its2,rv2,p2⟩:=Inv.lstAt I f2
   simp only [eqD] at e
   obtain ⟨hp,hb⟩:=zdI e
   simp only [dep] at hn
   have he:∀ (j:Nat) (h1:j < its.toArray.size) (h2:j < its2.toArray.size),SeqAt.EqAt X.A.in1 s its.toArray[j] its2.toArray[j] (eAt l1 l2 j):=fun j k1 k2=>by
    obtain ⟨x,v,hx,_,dx,rx⟩:=zcv q1 rv k1
    obtain ⟨y,w,hy,_,dy,ry⟩:=zcv q2 rv2 k2
    have:=zev (List.mem_of_getElem? hx)
    exact zjr I sub (n - 1) x y _ v w _ _ X.A.in1 (by omega) (hp j x y hx hy) dx dy rx ry hin
   have e1:its.toArray.size=l1.length:=by rw [List.size_toArray,← rv.length,q1.length]
   have e2:its2.toArray.size=l2.length:=by rw [List.size_toArray,← rv2.length,q2.length]
   by_cases hsz:l1.length=l2.length
   ·have z:=SeqAt.RcNeAt.lists p p2 (by rw [e1,e2,hsz]) hu0 he
    rw [e1] at z
    rw [hb,hsz,Nat.min_self,beq_self_eq_true,Bool.and_true,← hsz]
    exact z
   ·have z:=SeqAt.RcNeAt.lists_lengths p p2 (by rw [e1,e2];simpa using hsz) hu0
    have hb0:b=false:=by
     rw [hb]
     have:(l1.length == l2.length)=false:=by simpa using hsz
     rw [this,Bool.and_false]
    rw [hb0]
    exact z
  | _=>simp [eqD] at e
 | _=>simp [eqD] at e
end
noncomputable def eqB (x y:D):Option D:=if dep x≤100 then (eqD x y).map D.bl else none
noncomputable def neB (x y:D):Option D:=if dep x≤100 then (eqD x y).map fun b=>D.bl (!b) else none
noncomputable def rEqD (K:PySem.W.Frag) (f:Bool→Bool):R2:=fun x y H Q=>∃ F d1 d2 b,Same F H∧DatB K F H d1 x∧DatB K F H d2 y∧dep d1≤100∧eqD d1 d2=some b∧Q (.bl (f b)) H
section
variable {K:PySem.W.Frag}{X:Cx}
theorem op_eqD (hu:X.A.units + 100 < cLine):OpR X (compareOp .Eq) (rEqD K id):=by
 intro pins s σ H x y v u Q I rx ry h
 obtain ⟨F,d1,d2,b,sub,h1,h2,hn,e,q⟩:=h
 exact RcAt_D I sub d1 d2 b x y v u 100 hn e h1 h2 rx ry hu _ _ _ _ ⟨.bl b,H,I,rfl,q⟩
theorem op_neD (hu:X.A.units + 100 < cLine):OpR X (compareOp .NotEq) (rEqD K not):=by
 intro pins s σ H x y v u Q I rx ry h
 obtain ⟨F,d1,d2,b,sub,h1,h2,hn,e,q⟩:=h
 exact RcNeAt_D I sub d1 d2 b x y v u 100 hn e h1 h2 rx ry hu _ _ _ _ ⟨.bl (!b),H,I,rfl,q⟩
theorem p_eq (hu:X.A.units + 100 < cLine):Op2 K X (compareOp .Eq) .fz eqB:=by
 refine ⟨_,op_eqD (K:=K) hu,fun x y d F H v u Q e s h1 h2 k=>?_⟩
 unfold eqB at e
 by_cases hc:dep x≤100
 ·rw [if_pos hc] at e
  cases e1:eqD x y with
  | none=>rw [e1] at e;cases e
  | some b=>
   rw [e1] at e;cases e
   exact ⟨F,x,y,b,s,h1,h2,hc,e1,k _ F H (Grow.refl s) (Res.bl b)⟩
 ·rw [if_neg hc] at e;cases e
theorem p_ne (hu:X.A.units + 100 < cLine):Op2 K X (compareOp .NotEq) .fz neB:=by
 refine ⟨_,op_neD (K:=K) hu,fun x y d F H v u Q e s h1 h2 k=>?_⟩
 unfold neB at e
 by_cases hc:dep x≤100
 ·rw [if_pos hc] at e
  cases e1:eqD x y with
  | none=>rw [e1] at e;cases e
  | some b=>
   rw [e1] at e;cases e
   exact ⟨F,x,y,b,s,h1,h2,hc,e1,k _ F H (Grow.refl s) (Res.bl _)⟩
 ·rw [if_neg hc] at e;cases e
end
end FL
set_option Elab.async false
set_option linter.all false
set_option maxRecDepth 100000
namespace FL
open PySem PySem.Spec PyProof.Rows L2
noncomputable def inL (x:D):List D→Option Bool
 | []=>some false
 | d::l=>(eqD d x).bind fun b=>(inL x l).map fun c=>b || c
theorem zkL {x:D}:∀ {l:List D}{b:Bool},inL x l=some b→(∀ d∈l,∃ c,eqD d x=some c)∧b=l.any fun d=>(eqD d x).getD false
 | [],b,h=>by simp [inL] at h;subst h;simp
 | d::l,b,h=>by
  simp only [inL] at h
  cases e1:eqD d x with
  | none=>rw [e1] at h;cases h
  | some c=>
   cases e2:inL x l with
   | none=>rw [e1,e2] at h;cases h
   | some c2=>
    rw [e1,e2] at h
    have hb:(c || c2)=b:=by simpa using h
    obtain ⟨h1,h2⟩:=zkL e2
    refine ⟨fun y hy=>?_,?_⟩
    ·rcases List.mem_cons.mp hy with rfl | hy
     ·exact ⟨c,e1⟩
     ·exact h1 y hy
    ·rw [← hb,h2,List.any_cons,e1];rfl
theorem any_get {α β:Type}{e:α→Bool} {g:β→Bool}:∀ {xs:List α}{ys:List β},xs.length=ys.length→(∀ (k:Nat) x y,xs[k]?=some x→ys[k]?=some y→e x=g y)→xs.any e=ys.any g
 | [],[],_,_=>rfl
 | [],_::_,h,_=>by simp at h
 | _::_,[],h,_=>by simp at h
 | x::xs,y::ys,h,k=>by
  rw [List.any_cons,List.any_cons,k 0 x y rfl rfl,any_get (xs:=xs) (ys:=ys) (by simpa using h) fun j a b ha hb=>k (j + 1) a b (by simpa using ha) (by simpa using hb)]
section
variable {X:Cx}{pins:List (Addr×Obj)} {σ:St}{H F:Hp} {s:Shared}{K:PySem.W.Frag}
theorem mem_D (I:Inv X pins σ H s) (sub:Same F H) {l:List D}{vs:List V} {its:List Value}{x:D} {v:V}{u:Value} {b:Bool}(q:DatL K F l vs) (r:Vals vs its) (hx:Dat K F x v) (ru:RelV v u) (hd:depL l≤100) (e:inL x l=some b) (hu:X.A.in1.units + 100 < cLine) :
  ∃ f:Value→Bool,(∀ y,y∈its.toArray→SeqAt.EqAt X.A.in1 s y u (f y))∧its.toArray.any f=b:=by
 obtain ⟨h1,h2⟩:=zkL e
 have hl:its.length=l.length:=by rw [← r.length,q.length]
 have at_:∀ (k:Nat) (y:Value),its[k]?=some y→∃ d w,l[k]?=some d∧Dat K F d w∧RelV w y:=fun k y hk=>by
  have hk':k < its.toArray.size:=by simpa using (List.getElem?_eq_some_iff.mp hk).1
  obtain ⟨d,w,e1,_,e3,e4⟩:=zcv q r hk'
  refine ⟨d,w,e1,e3,?_⟩
  have:its.toArray[k]=y:=by
   rw [List.getElem?_eq_getElem (by simpa using hk')] at hk
   simpa using Option.some.inj hk
  rw [← this];exact e4
 refine ⟨fun y=>match (its.zip l).find? (fun p=>p.1 == y) with
  | some p=>(eqD p.2 x).getD false
  | none=>false,fun y hy=>?_,?_⟩
 ·have hy':y∈its:=by simpa using hy
  obtain ⟨k,hk⟩:=List.mem_iff_getElem?.mp hy'
  cases f:(its.zip l).find? (fun p=>p.1 == y) with
  | none=>
   exfalso
   have hk2:k < its.length:=(List.getElem?_eq_some_iff.mp hk).1
   have:=List.find?_eq_none.mp f (its[k],l[k]'(by omega)) (by
    have:(its.zip l)[k]?=some (its[k],l[k]'(by omega)):=by simp [List.getElem?_zip_eq_some,hk2]
    exact List.mem_of_getElem? this)
   rw [List.getElem?_eq_getElem hk2] at hk
   have e0:=Option.some.inj hk
   simp [e0] at this
  | some p=>
   have hp:=List.find?_some f
   have hm:=List.mem_of_find?_eq_some f
   obtain ⟨j,hj⟩:=List.mem_iff_getElem?.mp hm
   obtain ⟨j1,j2⟩:=List.getElem?_zip_eq_some.mp hj
   have e1:p.1=y:=by simpa using hp
   obtain ⟨d,w,e2,e3,e4⟩:=at_ j p.1 j1
   rw [j2] at e2;cases e2
   obtain ⟨c,hc⟩:=h1 p.2 (List.mem_of_getElem? j2)
   have:=zev (List.mem_of_getElem? j2)
   simp only [f,hc,Option.getD_some]
   exact zjr I sub 100 p.2 x c w v y u X.A.in1 (by omega) hc e3 hx (e1 ▸ e4) ru hu
 ·rw [h2,List.any_toArray]
  refine any_get hl fun k y d hk hd'=>?_
  cases f:(its.zip l).find? (fun p=>p.1 == y) with
  | none=>
   exfalso
   have:=List.find?_eq_none.mp f (y,d) (List.mem_of_getElem? (i:=k) (List.getElem?_zip_eq_some.mpr ⟨hk,hd'⟩))
   simp at this
  | some p=>
   have hp:=List.find?_some f
   have hm:=List.mem_of_find?_eq_some f
   obtain ⟨j,hj⟩:=List.mem_iff_getElem?.mp hm
   obtain ⟨j1,j2⟩:=List.getElem?_zip_eq_some.mp hj
   have e1:p.1=y:=by simpa using hp
   obtain ⟨d1,w1,e2,e3,e4⟩:=at_ j p.1 j1
   rw [j2] at e2;cases e2
   obtain ⟨d2,w2,f2,f3,f4⟩:=at_ k y hk
   rw [hd'] at f2;cases f2
   obtain ⟨c1,hc1⟩:=h1 p.2 (List.mem_of_getElem? j2)
   obtain ⟨c2,hc2⟩:=h1 d (List.mem_of_getElem? hd')
   rw [e1] at e4
   have ew:=e4.inj f4
   subst ew
   simp only [f,hc1,hc2,Option.getD_some]
   exact eq_fun _ p.2 d x c1 c2 w1 (Nat.le_refl _) e3 f3 hc1 hc2
end
noncomputable def inB (x y:D):Option D:=match y with
 | .lst l=>if depL l≤100 then (inL x l).map D.bl else none
 | .tup l=>if depL l≤100 then (inL x l).map D.bl else none
 | _=>none
noncomputable def zdM (x y:D):Option D:=match y with
 | .lst l=>if depL l≤100 then (inL x l).map fun b=>D.bl (!b) else none
 | .tup l=>if depL l≤100 then (inL x l).map fun b=>D.bl (!b) else none
 | _=>none
noncomputable def rInD (K:PySem.W.Frag) (f:Bool→Bool):R2:=fun x y H Q=>∃ F d l b a vs,Same F H∧Dat K F d x∧y=.ref a∧(H a=some (.lst vs)∨H a=some (.tup vs))∧DatL K F l vs∧depL l≤100∧inL d l=some b∧Q (.bl (f b)) H
section
variable {K:PySem.W.Frag}{X:Cx}
theorem op_inD (hu:X.A.units + 101 < cLine):OpR X (compareOp .In) (rInD K id):=by
 intro pins s σ H x y v u Q I rx ry h
 obtain ⟨F,d,l,b,a,vs,sub,h1,rfl,ho,q,hd,e,k⟩:=h
 cases ry
 have hu':X.A.in1.units + 100 < cLine:=by have:=zet X.A;omega
 rcases ho with ho | ho
 ·obtain ⟨its,r,p⟩:=Inv.lstAt I ho
  obtain ⟨f,h3,h4⟩:=mem_D I sub q r h1 rx hd e hu'
  exact SeqAt.in_listAt f p h3 (by rw [h4];exact ⟨.bl b,H,I,rfl,k⟩)
 ·obtain ⟨its,r,p⟩:=Inv.tupAt I ho
  obtain ⟨f,h3,h4⟩:=mem_D I sub q r h1 rx hd e hu'
  exact SeqAt.in_tupleAt f p h3 (by rw [h4];exact ⟨.bl b,H,I,rfl,k⟩)
theorem zmB (hu:X.A.units + 101 < cLine):OpR X (compareOp .NotIn) (rInD K not):=by
 intro pins s σ H x y v u Q I rx ry h
 obtain ⟨F,d,l,b,a,vs,sub,h1,rfl,ho,q,hd,e,k⟩:=h
 cases ry
 have hu':X.A.in1.units + 100 < cLine:=by have:=zet X.A;omega
 rcases ho with ho | ho
 ·obtain ⟨its,r,p⟩:=Inv.lstAt I ho
  obtain ⟨f,h3,h4⟩:=mem_D I sub q r h1 rx hd e hu'
  exact SeqAt.notIn_listAt f p h3 (by rw [h4];exact ⟨.bl (!b),H,I,rfl,k⟩)
 ·obtain ⟨its,r,p⟩:=Inv.tupAt I ho
  obtain ⟨f,h3,h4⟩:=mem_D I sub q r h1 rx hd e hu'
  exact SeqAt.notIn_tupleAt f p h3 (by rw [h4];exact ⟨.bl (!b),H,I,rfl,k⟩)
end
noncomputable def Op2f (K:PySem.W.Frag) (X:Cx) (f:Value→Value→Sem Value) (p:D→D→Option D):Prop:=
 ∃ r:R2,OpR X f r∧∀ x y d F H v u Q,p x y=some d→Same F H→Dat K F x v→DatB K F H y u→(∀ w F' H',Grow F H F' H'→Res K .fz H F' H' d w→Q w H')→r v u H Q
section
variable {K:PySem.W.Frag}{X:Cx} {a b:Expr}{fa fb:En→Option D} {pos:Pos}{p:D→D→Option D}
theorem p_inG {f:Value→Value→Sem Value}{n:Bool→Bool} {p:D→D→Option D}(o:OpR X f (rInD K n)) (h:∀ x y d,p x y=some d→∃ l b,(y=.lst l∨y=.tup l)∧depL l≤100∧inL x l=some b∧d=.bl (n b)):Op2f K X f p:=by
 refine ⟨_,o,fun x y d F H v u Q e s h1 h2 k=>?_⟩
 obtain ⟨l,b,hy,hd,e1,rfl⟩:=h x y d e
 rcases hy with rfl | rfl
 ·obtain ⟨a,vs,rfl,f,q⟩:=h2.lst_inv
  exact ⟨F,x,l,b,a,vs,s,h1,rfl,.inl f,q,hd,e1,k _ F H (Grow.refl s) (Res.bl _)⟩
 ·obtain ⟨a,vs,rfl,f,q⟩:=h2.tup_inv
  exact ⟨F,x,l,b,a,vs,s,h1,rfl,.inr (s _ _ f),q,hd,e1,k _ F H (Grow.refl s) (Res.bl _)⟩
theorem p_in (hu:X.A.units + 101 < cLine):Op2f K X (compareOp .In) inB:=p_inG (op_inD hu) fun x y d e=>by
 unfold inB at e
 split at e
 ·split at e
  ·rename_i l hd
   cases e1:inL x l with
   | none=>rw [e1] at e;cases e
   | some b=>rw [e1] at e;cases e;exact ⟨l,b,.inl rfl,hd,e1,rfl⟩
  ·cases e
 ·split at e
  ·rename_i l hd
   cases e1:inL x l with
   | none=>rw [e1] at e;cases e
   | some b=>rw [e1] at e;cases e;exact ⟨l,b,.inr rfl,hd,e1,rfl⟩
  ·cases e
 ·cases e
theorem zmy (hu:X.A.units + 101 < cLine):Op2f K X (compareOp .NotIn) zdM:=p_inG (zmB hu) fun x y d e=>by
 unfold zdM at e
 split at e
 ·split at e
  ·rename_i l hd
   cases e1:inL x l with
   | none=>rw [e1] at e;cases e
   | some b=>rw [e1] at e;cases e;exact ⟨l,b,.inl rfl,hd,e1,rfl⟩
  ·cases e
 ·split at e
  ·rename_i l hd
   cases e1:inL x l with
   | none=>rw [e1] at e;cases e
   | some b=>rw [e1] at e;cases e;exact ⟨l,b,.inr rfl,hd,e1,rfl⟩
  ·cases e
 ·cases e
theorem two_f {ρ:En}{x y d:D} {r:R2}(ha:PE X a (rdE K .fz ρ x)) (hb:PE X b (rdE K .br ρ y))
  (hr:∀ F H v u Q,Same F H→Dat K F x v→DatB K F H y u→(∀ w F' H',Grow F H F' H'→Res K .fz H F' H' d w→Q w H')→r v u H Q)
  (σ:St) (H:Hp) (Q:VK) (h:rdE K .fz ρ d σ H Q):tOp r (rdE K .fz ρ x) (rdE K .br ρ y) σ H Q:=by
 obtain ⟨F,rl,q⟩:=h
 refine ⟨F,rl,fun v F1 H1 g1 r1=>⟨F1,rl.grow g1,fun u F2 H2 g2 r2=>?_⟩⟩
 refine hr F2 H2 v u Q g2.fh (Dat.mono g2.ff r1) r2 fun w F3 H3 g3 r3=>?_
 exact q w F3 H3 (g1.trans (g2.trans g3)) r3
theorem fcmpf {op:CmpOp}(o:Op2f K X (compareOp op) p) (ha:FP K .fz X a fa) (hb:FP K .br X b fb) (hm:behindInMarks op b=false):FP K .fz X (.Compare a [op] [b] pos) (c2 p fa fb):=FP.mk fun ρ d hf=>by
 obtain ⟨x,y,e1,e2,e3⟩:=zcV hf
 obtain ⟨r,ho,hr⟩:=o
 exact PE.imp (zms ho (ha.h ρ x e1) (hb.h ρ y e2) hm) (two_f (ha.h ρ x e1) (hb.h ρ y e2) fun F H v u Q s h1 h2 k=>hr x y d F H v u Q e3 s h1 h2 k)
end
end FL
set_option Elab.async false
set_option linter.all false
set_option maxRecDepth 100000
namespace HT
open PySem PySem.Spec PyProof.Rows
section
variable {prog:Program}{w:World} {A:Around}{E:Value→Shared→Prop} {s:Shared}
theorem getItem_tuple_whole {t sl:Addr}{items:Array Value} {vl vu:Value}{lo hi:Option Int} {Q:Value→Shared→Prop}(ht:IsTup s.heap t items) (hs:s.heap.IsSliceOf sl vl vu .none) (pl:IsPart vl lo) (pu:IsPart vu hi)
  (hw:sIx items.size 0 lo=0∧sIx items.size items.size hi=items.size)
  (h:Q (.ref t) s):wpAny (model prog w) A (getItem (.ref t) (.ref sl)) Q E s:=by
 obtain ⟨os,hos,hcs,hds⟩:=id hs
 have hTs:s.TypeIs (.ref sl) "slice" := ⟨os,hos,hcs⟩
 unfold getItem
 try with_reducible refine wpAny_holding ?_
 first | refine wpAny_bind (wpAny_pure ?_) | skip
 refine wpAny_bind (wpAny_sequenceKey ht.typeIs (by decide) ?_)
 refine wpAny_bind (wpAny_callSpecial?_slot (name:=Str.ofString "__getitem__") ht.typeIs PyProof.Rows.slot_tuple_getitem
  (wpAny_call_entry PyProof.Rows.slot_tuple_getitem ht.typeIs entry_tuple_getitem ?_ (args_tuple_getitem _ _)))
 show wpAny _ _ (Builtin.Tuple.tupleItemsOf (.ref t) >>= _) _ _ s
 refine wpAny_bind (tupleItemsOf_ ht ?_)
 refine wpAny_bind (wpAny_typeOf hTs ?_)
 rw [if_pos (by decide)]
 refine wpAny_bind (zdL hs pl pu ?_)
 have hyes:(((sIx items.size 0 lo:Nat):Int) == 0 && (1:Int) == 1 && (sIx items.size items.size hi - sIx items.size 0 lo) == items.size)=true:=by
  rw [hw.1,hw.2];simp
 show wpAny _ _ (if (((sIx items.size 0 lo:Nat):Int) == 0 && (1:Int) == 1 && (sIx items.size items.size hi - sIx items.size 0 lo) == items.size)=true then _ else _) _ _ s
 rw [if_pos hyes]
 unfold Builtin.Tuple.tupleIsExact
 refine wpAny_bind (wpAny_bind (wpAny_typeOf ht.typeIs (wpAny_pure ?_)))
 rw [if_pos (by decide)]
 refine wpAny_bind (wpAny_rule ?_)
 exact wpAny_pure ⟨_,rfl,wpAny_pure h⟩
end
end HT
namespace L2
open PySem PySem.Spec PyProof.Rows
section
variable {X:Cx}{K:PySem.W.Frag}
noncomputable def rSlTA (K:PySem.W.Frag):V→Option Int→Option Int→Hp→VK→Prop:=fun x lo hi H Q=>∃ a xs,x=.ref a∧SqT K H a xs∧
 ((HT.sIx xs.length 0 lo=0∧HT.sIx xs.length xs.length hi=xs.length)→Q (.ref a) H)∧∀ p,H p=none→Q (.ref p) (upd H p (.tup (cutV xs lo hi)))
theorem sl_tupW:SlR X (fun x lo hi H Q=>∃ a xs,x=.ref a∧SqT X.K H a xs∧(HT.sIx xs.length 0 lo=0∧HT.sIx xs.length xs.length hi=xs.length)∧Q (.ref a) H):=by
 intro pins s σ H x v vl vu lo hi sl Q I rx hs pl pu h
 obtain ⟨a,xs,rfl,hx,hw,q⟩:=h
 cases rx
 obtain ⟨its,r,ht,hz⟩:=I.tuple hx
 have hlen:its.toArray.size=xs.length:=by rw [List.size_toArray];exact r.length.symm
 refine ⟨"tuple",_,PyProof.Rows.slot_tuple_getitem.lookup,ht.typeIs,?_⟩
 exact HT.getItem_tuple_whole ht hs pl pu (by rw [hlen];exact hw) ⟨.ref a,H,I,rfl,q⟩
theorem sl_tupA (hK:X.K=K:=by rfl):SlR X (rSlTA K):=by
 subst hK
 intro pins s σ H x v vl vu lo hi sl Q I rx hs pl pu h
 obtain ⟨a,xs,rfl,hx,h1,h2⟩:=h
 by_cases hw:HT.sIx xs.length 0 lo=0∧HT.sIx xs.length xs.length hi=xs.length
 ·exact sl_tupW pins s σ H _ v vl vu lo hi sl Q I rx hs pl pu ⟨a,xs,rfl,hx,hw,h1 hw⟩
 ·exact sl_tup pins s σ H _ v vl vu lo hi sl Q I rx hs pl pu ⟨a,xs,rfl,hx,hw,h2⟩
end
end L2
set_option Elab.async false
set_option linter.all false
set_option maxRecDepth 100000
namespace FL
open PySem PySem.Spec PyProof.Rows L2
noncomputable def cmpI (f:Int→Int→Bool):D→D→Option D
 | .int a,.int b=>some (.bl (f a b))
 | _,_=>none
noncomputable abbrev ltD:=cmpI fun i j=>decide (i < j)
noncomputable abbrev leD:=cmpI fun i j=>decide (i≤j)
noncomputable abbrev gtD:=cmpI fun i j=>decide (j < i)
noncomputable def zbP:List D→Option (List Int)
 | []=>some []
 | .int i::l=>(zbP l).map (i::·)
 | _::_=>none
theorem zcT:∀ {l:List D}{ns:List Int},zbP l=some ns→l=ns.map D.int
 | [],ns,h=>by simp [zbP] at h;subst h;rfl
 | .int i::l,ns,h=>by
  simp only [zbP] at h
  cases e:zbP l with
  | none=>rw [e] at h;cases h
  | some ms=>rw [e] at h;cases h;rw [zcT e];rfl
 | .non::_,_,h=>by simp [zbP] at h
 | .bl _::_,_,h=>by simp [zbP] at h
 | .str _::_,_,h=>by simp [zbP] at h
 | .tup _::_,_,h=>by simp [zbP] at h
 | .lst _::_,_,h=>by simp [zbP] at h
 | .scr _::_,_,h=>by simp [zbP] at h
 | .dic _ _::_,_,h=>by simp [zbP] at h
theorem zfH:∀ (ns:List Int),zbP (ns.map D.int)=some ns
 | []=>rfl
 | n::ns=>by rw [List.map_cons,zbP,zfH ns];rfl
noncomputable def geD:D→D→Option D
 | .int a,.int b=>some (.bl (decide (b≤a)))
 | .tup a,.tup b=>(zbP a).bind fun ns=>(zbP b).map fun ms=>.bl (!HT.lexLt ns ms)
 | _,_=>none
noncomputable def isNon:D→Bool
 | .non=>true
 | _=>false
noncomputable def isB (x y:D):Option D:=match y with
 | .non=>some (.bl (isNon x))
 | _=>none
noncomputable def zes (x y:D):Option D:=match y with
 | .non=>some (.bl (!isNon x))
 | _=>none
section
variable {K:PySem.W.Frag}{X:Cx}
theorem zmz {f:Value→Value→Sem Value}{g:Int→Int→Bool} (o:OpR X f (rI0 fun i j=>.bl (g i j))):Op2 K X f .fz (cmpI g):=by
 refine ⟨_,o,fun x y d F H v u Q e s h1 h2 k=>?_⟩
 unfold cmpI at e
 split at e
 ·cases e
  exact ⟨_,_,h1.int_inv,h2.int_inv,k _ F H (Grow.refl s) (Res.bl _)⟩
 ·cases e
theorem p_lt:Op2 K X (compareOp .Lt) .fz ltD:=zmz op_lt
theorem p_le:Op2 K X (compareOp .LtE) .fz leD:=zmz op_le
theorem p_gt:Op2 K X (compareOp .Gt) .fz gtD:=zmz op_gt
theorem p_ge (hu:X.A.units + 100 < cLine) (hK:X.K=K:=by rfl):Op2 K X (compareOp .GtE) .fz geD:=by
 subst hK
 refine ⟨_,op_ge.or (op_geT (by omega)),fun x y d F H v u Q e s h1 h2 k=>?_⟩
 unfold geD at e
 split at e
 ·cases e
  exact .inl ⟨_,_,h1.int_inv,h2.int_inv,k _ F H (Grow.refl s) (Res.bl _)⟩
 ·rename_i l m
  cases e1:zbP l with
  | none=>rw [e1] at e;cases e
  | some ns=>
   cases e2:zbP m with
   | none=>rw [e1,e2] at e;cases e
   | some ms=>
    rw [e1,e2] at e;cases e
    rw [zcT e1] at h1
    rw [zcT e2] at h2
    obtain ⟨a,vs,rfl,f1,q1⟩:=h1.tup_inv
    obtain ⟨b,us,rfl,f2,q2⟩:=h2.tup_inv
    rw [q1.ints] at f1
    rw [q2.ints] at f2
    exact .inr ⟨a,b,ns,ms,rfl,rfl,SqT.of (s _ _ f1),SqT.of (s _ _ f2),k _ F H (Grow.refl s) (Res.bl _)⟩
 ·cases e
theorem DatB.isNon {F H:Hp}{d:D} {v:V}(h:DatB K F H d v):decide (v=.non)=FL.isNon d:=by
 cases d with
 | non=>rw [h.non_inv];rfl
 | bl b=>rw [h.bl_inv];rfl
 | int b=>rw [h.int_inv];rfl
 | str b=>rw [h.str_inv];rfl
 | tup l=>obtain ⟨a,vs,rfl,_⟩:=h.tup_inv;rfl
 | lst l=>obtain ⟨a,vs,rfl,_⟩:=h.lst_inv;rfl
 | scr l=>obtain ⟨a,rfl,_⟩:=h.scr_inv;rfl
 | dic k l=>obtain ⟨a,vs,rfl,_⟩:=h.dic_inv;rfl
theorem p_is:Op2 K X (compareOp .Is) .fz isB:=by
 refine ⟨_,op_isN,fun x y d F H v u Q e s h1 h2 k=>?_⟩
 cases y<;>simp only [isB] at e<;>try (cases e;done)
 cases e
 refine ⟨h2.non_inv,?_⟩
 rw [h1.isNon]
 exact k _ F H (Grow.refl s) (Res.bl _)
theorem p_isNot:Op2 K X (compareOp .IsNot) .fz zes:=by
 refine ⟨_,op_notN,fun x y d F H v u Q e s h1 h2 k=>?_⟩
 cases y<;>simp only [zes] at e<;>try (cases e;done)
 cases e
 refine ⟨h2.non_inv,?_⟩
 rw [h1.isNon]
 exact k _ F H (Grow.refl s) (Res.bl _)
theorem DatL.atI {F:Hp}{l:List D} {vs:List V}(q:DatL K F l vs) {i:Int}{d:D} (h:L2.atI l i=some d):∃ v,L2.atI vs i=some v∧Dat K F d v:=by
 unfold L2.atI at h ⊢
 rw [q.length]
 cases e:ixN l.length i with
 | none=>rw [e] at h;cases h
 | some j=>
  rw [e] at h
  exact q.get h
noncomputable def idxD:D→D→Option D
 | .lst l,.int i=>L2.atI l i
 | .tup l,.int i=>L2.atI l i
 | .scr l,.int i=>(L2.atI l i).map D.int
 | .str z,.int i=>if z.length≤lim then (L2.atI z.cps.toList i).map fun c=>.str ⟨#[c]⟩ else none
 | _,_=>none
theorem p_ix (hK:X.K=K:=by rfl):Ix2 K X .fz idxD:=by
 subst hK
 refine ⟨_,ix_list.or (ix_tup.or ix_str),fun x y d F H v u Q e s h1 h2 k=>?_⟩
 unfold idxD at e
 split at e
 ·obtain ⟨a,vs,rfl,f,q⟩:=h1.lst_inv
  obtain ⟨w,hw,dw⟩:=q.atI e
  exact .inl ⟨a,vs,_,w,rfl,h2.int_inv,SqL.of f,hw,k _ F H (Grow.refl s) dw⟩
 ·obtain ⟨a,vs,rfl,f,q⟩:=h1.tup_inv
  obtain ⟨w,hw,dw⟩:=q.atI e
  exact .inr (.inl ⟨a,vs,_,w,rfl,h2.int_inv,SqT.of (s _ _ f),hw,k _ F H (Grow.refl s) dw⟩)
 ·rename_i ns i
  obtain ⟨a,rfl,f⟩:=h1.scr_inv
  cases e1:L2.atI ns i with
  | none=>rw [e1] at e;cases e
  | some c=>
   rw [e1] at e;cases e
   refine .inl ⟨a,_,i,.int c,rfl,h2.int_inv,Same.seq s f,?_,k _ F H (Grow.refl s) (Res.int _)⟩
   unfold L2.atI at e1 ⊢
   rw [List.length_map]
   cases e2:ixN ns.length i with
   | none=>rw [e2] at e1;cases e1
   | some j=>
    rw [e2] at e1
    have e1':ns[j]?=some c:=e1
    show (ns.map V.int)[j]?=_
    rw [List.getElem?_map,e1'];rfl
 ·obtain ⟨hz,e⟩:_∧_:=by
   split at e
   ·rename_i hz;exact ⟨hz,e⟩
   ·cases e
  rename_i z i _
  cases e1:L2.atI z.cps.toList i with
  | none=>rw [e1] at e;cases e
  | some c=>
   rw [e1] at e;cases e
   exact .inr (.inr ⟨z,i,c,h1.str_inv,h2.int_inv,zel hz,e1,k _ F H (Grow.refl s) (Res.str _)⟩)
 ·cases e
end
noncomputable def cutG {α:Type}(xs:List α) (lo hi:Option Int):List α:=(xs.drop (HT.sIx xs.length 0 lo)).take (HT.sIx xs.length xs.length hi - HT.sIx xs.length 0 lo)
theorem DatL.cut {K:PySem.W.Frag}{F:Hp} {l:List D}{vs:List V} (q:DatL K F l vs) (lo hi:Option Int):DatL K F (cutG l lo hi) (cutV vs lo hi):=by
 unfold cutG cutV
 rw [q.length]
 exact (q.drop _).take _
noncomputable def zbi (x:D) (lo hi:Option Int):Option D:=match x with
 | .tup l=>some (.tup (cutG l lo hi))
 | .lst l=>some (.lst (cutG l lo hi))
 | .scr l=>some (.lst ((cutG l lo hi).map D.int))
 | .str z=>if z.length≤lim then some (.str (Txt.slice z lo hi)) else none
 | _=>none
noncomputable def zfP (x:D) (lo hi:Option Int):Option D:=match x with
 | .lst l=>some (.lst (cutG l lo hi))
 | .scr l=>some (.lst ((cutG l lo hi).map D.int))
 | _=>none
theorem cut_map {α β:Type}(f:α→β) (l:List α) (lo hi:Option Int):cutG (l.map f) lo hi=(cutG l lo hi).map f:=by
 unfold cutG
 rw [List.length_map,List.map_take,List.map_drop]
theorem cutV_map (l:List Int) (lo hi:Option Int):cutV (l.map V.int) lo hi=(cutG l lo hi).map V.int:=cut_map _ _ _ _
noncomputable def rdO (K:PySem.W.Frag) (ρ:En) (o:Option Int):TO:=fun σ H Q=>∃ F,Rel K F H ρ σ∧∀ F' H',Grow F H F' H'→Q o H'
structure FPO (K:PySem.W.Frag) (X:Cx) (e:Option Expr) (f:En→Option (Option Int)):Prop where
 h:∀ ρ o,f ρ=some o→PO X e (rdO K ρ o)
theorem PO.imp {X:Cx}{e:Option Expr} {t t':TO}(h:PO X e t) (w:∀ σ H Q,t' σ H Q→t σ H Q):PO X e t':=fun pins s σ H Q I ht=>h pins s σ H Q I (w σ H Q ht)
noncomputable def zck:En→Option (Option Int):=fun _=>some none
noncomputable def zbV (f:En→Option D):En→Option (Option Int):=fun ρ=>match f ρ with
 | some (.int i)=>some (some i)
 | _=>none
noncomputable def cS (p:D→Option Int→Option Int→Option D) (fa:En→Option D) (fl fh:En→Option (Option Int)):En→Option D:=fun ρ=>(fa ρ).bind fun x=>(fl ρ).bind fun lo=>(fh ρ).bind fun hi=>p x lo hi
section
variable {K:PySem.W.Frag}{X:Cx} {a:Expr}{fa:En→Option D} {pos p2:Pos}{lo hi:Option Expr} {fl fh:En→Option (Option Int)}
theorem zcc:FPO K X none zck:=FPO.mk fun ρ o hf=>PO.imp po_none fun σ H Q ⟨F,r,q⟩=>by
 cases hf;exact q F H (Grow.refl r.sub)
theorem zbO {e:Expr}{f:En→Option D} (h:FP K .fz X e f):FPO K X (some e) (zbV f):=FPO.mk fun ρ o hf=>by
 unfold zbV at hf
 split at hf
 ·rename_i i e1
  cases hf
  exact PO.imp (po_some (h.h ρ _ e1)) fun σ H Q ⟨F,r,q⟩=>⟨F,r,fun v F' H' g hr=>⟨i,Dat.int_inv (K:=K) (F:=F') hr,q F' H' g⟩⟩
 ·cases hf
noncomputable def Sl3 (K:PySem.W.Frag) (X:Cx) (md:Md) (p:D→Option Int→Option Int→Option D):Prop:=
 ∃ r,SlR X r∧∀ x lo hi d F H v Q,p x lo hi=some d→Same F H→DatB K F H x v→(∀ w F' H',Grow F H F' H'→Res K md H F' H' d w→Q w H')→r v lo hi H Q
theorem zbW {md:Md}{p:D→Option Int→Option Int→Option D} (o:Sl3 K X md p) (ha:FP K .br X a fa) (hl:FPO K X lo fl) (hh:FPO K X hi fh):FP K md X (.Subscript a (.Slice lo hi none p2) pos) (cS p fa fl fh):=FP.mk fun ρ d hf=>by
 unfold cS at hf
 cases e1:fa ρ with
 | none=>rw [e1] at hf;cases hf
 | some x=>
  cases e2:fl ρ with
  | none=>rw [e1,e2] at hf;cases hf
  | some l=>
   cases e3:fh ρ with
   | none=>rw [e1,e2,e3] at hf;cases hf
   | some h=>
    rw [e1,e2,e3] at hf
    obtain ⟨r,ho,hr⟩:=o
    refine PE.imp (pe_slice ho (ha.h ρ x e1) (hl.h ρ l e2) (hh.h ρ h e3)) fun σ H Q h_=>?_
    obtain ⟨F,rl,q⟩:=h_
    refine ⟨F,rl,fun v F1 H1 g1 r1=>⟨F1,rl.grow g1,fun F2 H2 g2=>⟨F2,(rl.grow g1).grow g2,fun F3 H3 g3=>?_⟩⟩⟩
    refine hr x l h d F3 H3 v Q hf g3.fh (DatB.mono (g2.trans g3).ff (g2.trans g3).hh r1) fun w F4 H4 g4 r4=>?_
    have g:=g1.trans (g2.trans (g3.trans g4))
    refine q w F4 H4 g ?_
    cases md with
    | fz=>exact r4
    | br=>exact r4
    | ow=>
     obtain ⟨a,e,h1,h2,h3⟩:=r4
     exact ⟨a,e,(g1.hh.trans (g2.hh.trans g3.hh)).free h1,h2,h3⟩
theorem zbo (hK:X.K=K:=by rfl):Sl3 K X .fz zbi:=by
 subst hK
 refine ⟨_,SlR.or (sl_tupA rfl) (SlR.or sl_list sl_str),fun x lo hi d F H v Q e s h1 k=>?_⟩
 cases x<;>simp only [zbi] at e<;>try (cases e;done)
 ·obtain ⟨hz,rfl⟩:=zaO e
  exact .inr (.inr ⟨_,h1.str_inv,zel hz,fun y _ ey=>by subst ey;exact k _ F H (Grow.refl s) (Res.str _)⟩)
 ·rename_i l
  cases e
  obtain ⟨a,vs,rfl,f,q⟩:=h1.tup_inv
  refine .inl ⟨a,vs,rfl,SqT.of (s _ _ f),fun hw=>?_,fun p hp=>?_⟩
  ·refine k _ F H (Grow.refl s) ?_
   have e:cutG l lo hi=l:=by
    unfold cutG
    rw [q.length] at hw
    rw [hw.1,hw.2,List.drop_zero,Nat.sub_zero,List.take_length]
   rw [e];exact h1
  ·have g:=Grow.frozen (o:=.tup (cutV vs lo hi)) s hp
   exact k _ _ _ g (Dat.tup (K:=X.K) zas ((q.mono g.ff).cut lo hi))
 ·cases e
  obtain ⟨a,vs,rfl,f,q⟩:=h1.lst_inv
  refine .inr (.inl ⟨a,vs,rfl,SqL.of f,fun p hp=>?_⟩)
  have g:=Grow.frozen (o:=.lst (cutV vs lo hi)) s hp
  exact k _ _ _ g (Dat.lst (K:=X.K) zas ((q.mono g.ff).cut lo hi))
 ·rename_i ns
  cases e
  obtain ⟨a,rfl,f⟩:=h1.scr_inv
  refine .inr (.inl ⟨a,_,rfl,Same.seq s f,fun p hp=>?_⟩)
  rw [cutV_map]
  have g:=Grow.frozen (o:=.lst ((cutG ns lo hi).map V.int)) s hp
  exact k _ _ _ g (Dat.lst (K:=X.K) zas (DatL.ofInts _))
noncomputable def revD:D→Option D
 | .lst l=>some (.lst l.reverse)
 | _=>none
noncomputable def revX (x y:D):Option D:=match y with
 | .int (-1)=>revD x
 | _=>none
theorem frev {st:Expr}{fs:En→Option D} (ha:FP K .br X a fa) (hs:FP K .fz X st fs) (hK:X.K=K:=by rfl):FP K .ow X (.Subscript a (.Slice none none (some st) p2) pos) (c2 revX fa fs):=FP.mk fun ρ d hf=>by
 subst hK
 obtain ⟨x,y,e1,e2,e3⟩:=zcV hf
 unfold revX at e3
 split at e3
 ·cases x<;>simp only [revD] at e3<;>try (cases e3;done)
  cases e3
  refine PE.imp (pe_rev (ha.h ρ _ e1) (hs.h ρ _ e2)) fun σ H Q h_=>?_
  obtain ⟨F,rl,q⟩:=h_
  refine ⟨F,rl,fun v F1 H1 g1 r1=>⟨F1,rl.grow g1,fun u F2 H2 g2 r2=>⟨Dat.int_inv (K:=X.K) (F:=F2) r2,?_⟩⟩⟩
  obtain ⟨a,vs,rfl,f,qq⟩:=DatB.lst_inv (DatB.mono g2.ff g2.hh r1)
  refine ⟨a,vs,rfl,SqL.of f,fun p hp=>?_⟩
  have g:=g1.trans (g2.trans (Grow.fresh (o:=.lst vs.reverse) g2.fh hp))
  exact q _ _ _ g ⟨p,rfl,(g1.hh.trans g2.hh).free hp,g2.fh.free hp,vs.reverse,zas,qq.reverse⟩
 ·cases e3
end
noncomputable def zlK (K:PySem.W.Frag) (F H:Hp):List D→List V→Prop
 | [],vs=>vs=[]
 | d::l,vs=>∃ v r,vs=v::r∧DatB K F H d v∧zlK K F H l r
noncomputable def ResL (K:PySem.W.Frag) (fz:Bool) (F' H':Hp) (ds:List D) (vs:List V):Prop:=if fz=true then DatL K F' ds vs else zlK K F' H' ds vs
noncomputable def rdA (K:PySem.W.Frag) (fz:Bool) (ρ:En) (ds:List D):TA:=fun σ H Q=>∃ F,Rel K F H ρ σ∧∀ vs F' H',Grow F H F' H'→ResL K fz F' H' ds vs→Q vs H'
structure FPs (K:PySem.W.Frag) (fz:Bool) (X:Cx) (es:List Expr) (f:En→Option (List D)):Prop where
 h:∀ ρ ds,f ρ=some ds→PA X es (rdA K fz ρ ds)
noncomputable def nilF:En→Option (List D):=fun _=>some []
noncomputable def zaa (f:En→Option D) (fs:En→Option (List D)):En→Option (List D):=fun ρ=>(f ρ).bind fun d=>(fs ρ).map fun l=>d::l
noncomputable def cL (p:List D→Option D) (fs:En→Option (List D)):En→Option D:=fun ρ=>(fs ρ).bind p
noncomputable def zbL (l:List D):Option D:=if l.length≤lim then some (.tup l) else none
noncomputable def zbs (l:List D):Option D:=if l.length≤lim then some (.lst l) else none
section
variable {K:PySem.W.Frag}{X:Cx} {e:Expr}{es:List Expr} {f:En→Option D}{fs:En→Option (List D)} {pos:Pos}{fz:Bool}
theorem fnil:FPs K fz X [] nilF:=FPs.mk fun ρ ds hf=>PA.imp zcM fun σ H Q ⟨F,r,q⟩=>by
 cases hf
 refine q [] F H (Grow.refl r.sub) ?_
 unfold ResL
 split
 ·exact DatL.nil
 ·rfl
theorem zdv {ρ:En}{ds:List D} (h:zaa f fs ρ=some ds):∃ d l,f ρ=some d∧fs ρ=some l∧ds=d::l:=by
 unfold zaa at h
 cases e1:f ρ with
 | none=>rw [e1] at h;cases h
 | some d=>
  cases e2:fs ρ with
  | none=>rw [e1,e2] at h;cases h
  | some l=>rw [e1,e2] at h;cases h;exact ⟨d,l,rfl,rfl,rfl⟩
theorem zae (h1:FP K .fz X e f) (h2:FPs K true X es fs) (hs:starEach (e::es) X.env=(false,eval e X.env)::starEach es X.env:=by rfl):FPs K true X (e::es) (zaa f fs):=FPs.mk fun ρ ds hf=>by
 obtain ⟨d,l,e1,e2,rfl⟩:=zdv hf
 refine PA.imp (zbk (h1.h ρ d e1) (h2.h ρ l e2) hs) fun σ H Q h_=>?_
 obtain ⟨F,r,q⟩:=h_
 refine ⟨F,r,fun v F1 H1 g1 r1=>⟨F1,r.grow g1,fun vs F2 H2 g2 r2=>?_⟩⟩
 exact q (v::vs) F2 H2 (g1.trans g2) (DatL.cons (Dat.mono g2.ff r1) r2)
theorem zcf (h1:FP K .br X e f) (h2:FPs K false X es fs) (hs:starEach (e::es) X.env=(false,eval e X.env)::starEach es X.env:=by rfl):FPs K false X (e::es) (zaa f fs):=FPs.mk fun ρ ds hf=>by
 obtain ⟨d,l,e1,e2,rfl⟩:=zdv hf
 refine PA.imp (zbk (h1.h ρ d e1) (h2.h ρ l e2) hs) fun σ H Q h_=>?_
 obtain ⟨F,r,q⟩:=h_
 refine ⟨F,r,fun v F1 H1 g1 r1=>⟨F1,r.grow g1,fun vs F2 H2 g2 r2=>?_⟩⟩
 exact q (v::vs) F2 H2 (g1.trans g2) ⟨v,vs,rfl,DatB.mono g2.ff g2.hh r1,r2⟩
theorem zhf {p:List D→Option D}{ρ:En} {d:D}(h:cL p fs ρ=some d):∃ l,fs ρ=some l∧p l=some d:=by
 unfold cL at h
 cases e1:fs ρ with
 | none=>rw [e1] at h;cases h
 | some l=>rw [e1] at h;exact ⟨l,rfl,h⟩
theorem ftup {x1} (h:FPs K true X es fs):FP K .fz X (.Tuple es x1 pos) (cL zbL fs):=FP.mk fun ρ d hf=>by
 obtain ⟨l,e1,e2⟩:=zhf hf
 obtain ⟨hz,rfl⟩:=zaO e2
 refine PE.imp (pe_tup (h.h ρ l e1)) fun σ H Q ⟨F,r,q⟩=>⟨F,r,fun vs F1 H1 g1 r1=>⟨?_,fun p hp=>?_⟩⟩
 ·rw [DatL.length (K:=K) (F:=F1) r1];exact zel hz
 ·have g:=Grow.frozen (o:=.tup vs) g1.fh hp
  exact q _ _ _ (g1.trans g) (Dat.tup (K:=K) zas (DatL.mono g.ff r1))
theorem flst (h:FPs K true X es fs):FP K .ow X (.List es pos) (cL zbs fs):=FP.mk fun ρ d hf=>by
 obtain ⟨l,e1,e2⟩:=zhf hf
 obtain ⟨hz,rfl⟩:=zaO e2
 refine PE.imp (pe_lst (h.h ρ l e1)) fun σ H Q ⟨F,r,q⟩=>⟨F,r,fun vs F1 H1 g1 r1=>⟨?_,fun p hp=>?_⟩⟩
 ·rw [DatL.length (K:=K) (F:=F1) r1];exact zel hz
 ·exact q _ _ _ (g1.trans (Grow.fresh g1.fh hp)) ⟨p,rfl,g1.hh.free hp,g1.fh.free hp,vs,zas,r1⟩
end
end FL
set_option Elab.async false
set_option linter.all false
set_option maxRecDepth 100000
namespace FL
open PySem PySem.Spec PyProof.Rows L2
noncomputable def ziI (K:PySem.W.Frag) (X:Cx) (f:Value) (md:Md) (p:List D→Option D):Prop:=
 ∃ r,zeE X f r∧∀ ds d F H vs Q,p ds=some d→Same F H→zlK K F H ds vs→(∀ w F' H',Grow F H F' H'→Res K md H F' H' d w→Q w H')→r vs H Q
section
variable {K:PySem.W.Frag}{X:Cx} {e:Expr}{es:List Expr} {f:En→Option D}{fs:En→Option (List D)} {pos p:Pos}{md:Md} {pf:List D→Option D}{x:Str} {id T:String}
theorem zkw {r:List V→Hp→VK→Prop}{ρ:En} {l:List D}{d:D} (hr:∀ F H vs Q,Same F H→zlK K F H l vs→(∀ w F' H',Grow F H F' H'→Res K md H F' H' d w→Q w H')→r vs H Q)
  (σ:St) (H:Hp) (Q:VK) (h:rdE K md ρ d σ H Q):tCB r (rdA K false ρ l) σ H Q:=by
 obtain ⟨F,rl,q⟩:=h
 refine ⟨F,rl,fun vs F1 H1 g1 r1=>hr F1 H1 vs Q g1.fh r1 fun w F2 H2 g2 r2=>?_⟩
 refine q w F2 H2 (g1.trans g2) ?_
 cases md with
 | fz=>exact r2
 | br=>exact r2
 | ow=>
  obtain ⟨a,e,h1,h2,h3⟩:=r2
  exact ⟨a,e,g1.hh.free h1,h2,h3⟩
theorem zbz (o:ziI K X (.builtin id) md pf) (hg:Gl X x) (hm:X.mg x=none) (hv:bootBuiltins x=some (.builtin id)) (ha:FPs K false X (e::es) fs) (hn:x ≠ "__name__" := by decide) (hdb:(x == ("__debug__" : Str))=false:=by decide)
  (he:starEach (e::es) X.env=(false,eval e X.env)::starEach es X.env:=by rfl) (hpl:(backTo pos (starEach es X.env)).any (·.1)=false:=by rfl):FP K md X (.Call (.Name x p) (e::es) [] pos) (cL pf fs):=FP.mk fun ρ d hf=>by
 obtain ⟨l,e1,e2⟩:=zhf hf
 obtain ⟨r,ho,hr⟩:=o
 exact PE.imp (zkE ho hg hm hv (ha.h ρ l e1) hn hdb he hpl) (zkw fun F H vs Q s h k=>hr l d F H vs Q e2 s h k)
theorem zjq (o:ziI K X (.type T) md pf) (hg:Gl X x) (hm:X.mg x=none) (hv:bootBuiltins x=some (.type T)) (ha:FPs K false X (e::es) fs) (hn:x ≠ "__name__" := by decide) (hdb:(x == ("__debug__" : Str))=false:=by decide)
  (he:starEach (e::es) X.env=(false,eval e X.env)::starEach es X.env:=by rfl) (hpl:(backTo pos (starEach es X.env)).any (·.1)=false:=by rfl):FP K md X (.Call (.Name x p) (e::es) [] pos) (cL pf fs):=FP.mk fun ρ d hf=>by
 obtain ⟨l,e1,e2⟩:=zhf hf
 obtain ⟨r,ho,hr⟩:=o
 exact PE.imp (zmt ho hg hm hv (ha.h ρ l e1) hn hdb he hpl) (zkw fun F H vs Q s h k=>hr l d F H vs Q e2 s h k)
theorem zlK.one {F H:Hp}{d:D} {vs:List V}(h:zlK K F H [d] vs):∃ v,vs=[v]∧DatB K F H d v:=by
 obtain ⟨v,r,rfl,h1,rfl⟩:=h;exact ⟨v,rfl,h1⟩
noncomputable def lenD:List D→Option D
 | [.lst l]=>some (.int l.length)
 | [.tup l]=>some (.int l.length)
 | [.scr l]=>some (.int l.length)
 | [.str z]=>if z.length≤lim then some (.int z.length) else none
 | _=>none
theorem zcW (hK:X.K=K:=by rfl):ziI K X (.builtin "len") .fz lenD:=by
 subst hK
 refine ⟨_,zeE.or zjA zjz,fun ds d F H vs Q e s h k=>?_⟩
 unfold lenD at e
 split at e
 ·obtain ⟨v,rfl,h1⟩:=h.one
  cases e
  obtain ⟨a,vs,rfl,f,q⟩:=h1.lst_inv
  refine .inl ⟨a,vs,rfl,.inl (SqL.of f),?_⟩
  rw [q.length];exact k _ F H (Grow.refl s) (Res.int _)
 ·obtain ⟨v,rfl,h1⟩:=h.one
  cases e
  obtain ⟨a,vs,rfl,f,q⟩:=h1.tup_inv
  refine .inl ⟨a,vs,rfl,.inr (SqT.of (s _ _ f)),?_⟩
  rw [q.length];exact k _ F H (Grow.refl s) (Res.int _)
 ·obtain ⟨v,rfl,h1⟩:=h.one
  cases e
  obtain ⟨a,rfl,f⟩:=h1.scr_inv
  refine .inl ⟨a,_,rfl,.inl (Same.seq s f),?_⟩
  rw [List.length_map];exact k _ F H (Grow.refl s) (Res.int _)
 ·obtain ⟨v,rfl,h1⟩:=h.one
  obtain ⟨hz,rfl⟩:=zaO e
  rw [h1.str_inv]
  exact .inr ⟨_,rfl,zel hz,k _ F H (Grow.refl s) (Res.int _)⟩
 ·cases e
noncomputable def zdm:List D→Option D
 | [.lst l]=>some (.tup l)
 | [.tup l]=>some (.tup l)
 | _=>none
theorem zkj (hK:X.K=K:=by rfl):ziI K X (.type "tuple") .fz zdm:=by
 subst hK
 refine ⟨_,ziy,fun ds d F H vs Q e s h k=>?_⟩
 unfold zdm at e
 split at e
 ·obtain ⟨v,rfl,h1⟩:=h.one
  cases e
  obtain ⟨a,vs,rfl,f,q⟩:=h1.lst_inv
  refine ⟨a,vs,rfl,.inl ⟨SqL.of f,fun p hp=>?_⟩⟩
  have g:=Grow.frozen (o:=.tup vs) s hp
  exact k _ _ _ g (Dat.tup (K:=X.K) zas (q.mono g.ff))
 ·obtain ⟨v,rfl,h1⟩:=h.one
  cases e
  obtain ⟨a,vs,rfl,f,q⟩:=id h1.tup_inv
  exact ⟨a,vs,rfl,.inr ⟨SqT.of (s _ _ f),k _ F H (Grow.refl s) h1⟩⟩
 ·cases e
noncomputable def zgH:List D→Option D
 | [.lst l]=>some (.lst l)
 | [.tup l]=>some (.lst l)
 | _=>none
theorem c_list (hK:X.K=K:=by rfl):ziI K X (.type "list") .ow zgH:=by
 subst hK
 refine ⟨_,zjy,fun ds d F H vs Q e s h k=>?_⟩
 unfold zgH at e
 split at e
 ·obtain ⟨v,rfl,h1⟩:=h.one
  cases e
  obtain ⟨a,vs,rfl,f,q⟩:=h1.lst_inv
  exact ⟨a,vs,rfl,.inl (SqL.of f),fun p hp=>k _ _ _ (Grow.fresh s hp) ⟨p,rfl,hp,s.free hp,vs,zas,q⟩⟩
 ·obtain ⟨v,rfl,h1⟩:=h.one
  cases e
  obtain ⟨a,vs,rfl,f,q⟩:=h1.tup_inv
  exact ⟨a,vs,rfl,.inr (SqT.of (s _ _ f)),fun p hp=>k _ _ _ (Grow.fresh s hp) ⟨p,rfl,hp,s.free hp,vs,zas,q⟩⟩
 ·cases e
noncomputable def okSum (ns:List Int):Prop:=(∀ n∈ns,0≤n)∧ns.sum < 2 ^ 62
open Classical in
noncomputable def sumD:List D→Option D
 | [.lst l]=>(zbP l).bind fun ns=>if okSum ns then some (.int ns.sum) else none
 | _=>none
theorem c_sum (hc:X.calm=true) (hK:X.K=K:=by rfl):ziI K X (.builtin "sum") .fz sumD:=by
 subst hK
 refine ⟨_,zns hc,fun ds d F H vs Q e s h k=>?_⟩
 unfold sumD at e
 split at e
 ·rename_i l
  cases e1:zbP l with
  | none=>rw [e1] at e;cases e
  | some ns=>
   rw [e1] at e
   obtain ⟨hz,rfl⟩:=zaO e
   obtain ⟨v,rfl,h1⟩:=h.one
   rw [zcT e1] at h1
   obtain ⟨a,vs,rfl,f,q⟩:=h1.lst_inv
   rw [q.ints] at f
   exact ⟨a,ns,rfl,SqL.of f,zlg hz.1 hz.2,k _ F H (Grow.refl s) (Res.int _)⟩
 ·cases e
noncomputable def absD:List D→Option D
 | [.int i]=>some (.int (if i < 0 then -i else i))
 | _=>none
theorem c_abs:ziI K X (.builtin "abs") .fz absD:=by
 refine ⟨_,call_abs,fun ds d F H vs Q e s h k=>?_⟩
 unfold absD at e
 split at e
 ·obtain ⟨v,rfl,h1⟩:=h.one
  cases e
  rw [h1.int_inv]
  exact ⟨_,rfl,k _ F H (Grow.refl s) (Res.int _)⟩
 ·cases e
noncomputable def intD:List D→Option D
 | [.int i]=>some (.int i)
 | [.bl k]=>some (.int (if k then 1 else 0))
 | _=>none
theorem c_int:ziI K X (.type "int") .fz intD:=by
 refine ⟨_,znu,fun ds d F H vs Q e s h k=>?_⟩
 unfold intD at e
 split at e
 ·obtain ⟨v,rfl,h1⟩:=h.one
  cases e
  rw [h1.int_inv]
  exact .inl ⟨_,rfl,k _ F H (Grow.refl s) (Res.int _)⟩
 ·obtain ⟨v,rfl,h1⟩:=h.one
  cases e
  rw [h1.bl_inv]
  exact .inr ⟨_,rfl,k _ F H (Grow.refl s) (Res.int _)⟩
 ·cases e
noncomputable def zgG (x y:D):Option D:=match x,y with
 | .lst l,.int d=>(zbP l).map fun ns=>.int (maxD ns d)
 | _,_=>none
theorem fmaxD {a b:Expr}{fa fb:En→Option D} {kp:Pos}(hc:X.calm=true) (hg:Gl X "max") (hm:X.mg "max" = none) (ha:FP K .br X a fa) (hb:FP K .fz X b fb)
  (hs:starEach [a] X.env=[(false,eval a X.env)]:=by rfl) (hK:X.K=K:=by rfl)
  (H1:∀ {ta tb:TE},X.calm=true→Gl X "max" → X.mg "max" = none→PE X a ta→PE X b tb→PE X (.Call (.Name "max" p) [a] [⟨some "default",b,kp⟩] pos) (tCBK (fun xs zs H Q=>∃ (p:Addr) (ns:List Int) (d:Int),xs=[.ref p]∧zs=[.int d]∧SqL X.K H p (ns.map V.int)∧Q (.int (maxD ns d)) H) (tCons ta tNil) (tCons tb tNil)):=by
   exact fun hc hg hm ha hb=>zmu (znt hc) hg hm PyProof.Rows.boot_max (zbk ha zcM) (pk_cons hb pk_nil)) :
  FP K .fz X (.Call (.Name "max" p) [a] [⟨some "default",b,kp⟩] pos) (c2 zgG fa fb):=FP.mk fun ρ d hf=>by
 subst hK
 obtain ⟨x,y,e1,e2,e3⟩:=zcV hf
 refine PE.imp (H1 hc hg hm (ha.h ρ x e1) (hb.h ρ y e2)) fun σ H Q h_=>?_
 obtain ⟨F,rl,q⟩:=h_
 unfold zgG at e3
 split at e3
 ·rename_i l dd
  cases e4:zbP l with
  | none=>rw [e4] at e3;cases e3
  | some ns=>
   rw [e4] at e3;cases e3
   rw [zcT e4]
   refine ⟨F,rl,fun v F1 H1 g1 r1=>⟨F1,rl.grow g1,fun u F2 H2 g2 r2=>?_⟩⟩
   obtain ⟨a,vs,rfl,f,qq⟩:=DatB.lst_inv (DatB.mono g2.ff g2.hh r1)
   rw [qq.ints] at f
   have ru:=Dat.int_inv (K:=X.K) (F:=F2) r2
   subst ru
   exact ⟨a,ns,dd,rfl,rfl,SqL.of f,q _ F2 H2 (g1.trans g2) (Res.int _)⟩
 ·cases e3
noncomputable def tyN:D→Option String
 | .non=>some "NoneType"
 | .bl _=>some "bool"
 | .int _=>some "int"
 | .str _=>some "str"
 | .tup _=>some "tuple"
 | .lst _=>some "list"
 | .dic _ _=>some "dict"
 | _=>none
noncomputable def isiB (k T:String):Bool:=k == T || (k == "bool" && T == "int")
theorem kit_all (K:PySem.W.Frag):(["NoneType", "bool", "int", "str", "tuple", "list", "dict"].all fun k=>["bool", "int", "str", "tuple", "list", "dict"].all fun T=>PySem.W.kitOne K (.type k) (.type T) == some (isiB k T))=true:=by kernel_rfl
theorem kit_of (K:PySem.W.Frag) {k T:String}(hk:k∈["NoneType", "bool", "int", "str", "tuple", "list", "dict"]) (hT:T∈["bool", "int", "str", "tuple", "list", "dict"]):PySem.W.kitOne K (.type k) (.type T)=some (isiB k T):=by
 have h:=List.all_eq_true.mp (kit_all K) k hk
 exact eq_of_beq (List.all_eq_true.mp h T hT)
noncomputable def isiD (T:String) (x:D):Option D:=(tyN x).map fun k=>.bl (isiB k T)
theorem tyN_mem {d:D}{k:String} (h:tyN d=some k):k∈["NoneType", "bool", "int", "str", "tuple", "list", "dict"]:=by
 cases d<;>simp only [tyN] at h<;>cases h<;>decide
theorem tyN_of {F H:Hp}{d:D} {v:V}{k:String} (s:Same F H) (h:DatB K F H d v) (e:tyN d=some k):TyOf K H v (.type k):=by
 cases d<;>simp only [tyN] at e<;>cases e
 ·rw [h.non_inv];exact .non
 ·rw [h.bl_inv];exact .bl _
 ·rw [h.int_inv];exact .int _
 ·rw [h.str_inv];exact .str _
 ·obtain ⟨a,vs,rfl,f,_⟩:=h.tup_inv;exact .tup (s _ _ f)
 ·obtain ⟨a,vs,rfl,f,_⟩:=h.lst_inv;exact .lst f
 ·obtain ⟨a,vs,rfl,f,_⟩:=h.dic_inv
  rcases f with (⟨kvs,f,_⟩ | ⟨kvs,f,_⟩) | ⟨o,⟨kvs,f,_⟩ | ⟨kvs,f,_⟩⟩
  ·exact .dK (.inl f)
  ·exact .dT (.inl f)
  ·exact .dK (.inr ⟨o,f⟩)
  ·exact .dT (.inr ⟨o,f⟩)
theorem fisi {a:Expr}{fa:En→Option D} {T:String}{y:Str} {p2:Pos}(ha:FP K .br X a fa) (hg:Gl X "isinstance") (hm:X.mg "isinstance" = none) (hgT:Gl X y) (hmT:X.mg y=none) (hv:bootBuiltins y=some (.type T)) (hT:T∈["bool", "int", "str", "tuple", "list", "dict"]:=by decide)
  (hn:y ≠ "__name__" := by decide) (hd:(y == ("__debug__" : Str))=false:=by decide) (he:starEach [a,.Name y p2] X.env=(false,eval a X.env)::starEach [.Name y p2] X.env:=by rfl) (he2:starEach [.Name y p2] X.env=[(false,eval (.Name y p2) X.env)]:=by rfl)
  (hpl:(backTo pos (starEach [.Name y p2] X.env)).any (·.1)=false:=by rfl) (hK:X.K=K:=by rfl) :
  FP K .fz X (.Call (.Name "isinstance" p) [a,.Name y p2] [] pos) (c1 (isiD T) fa):=FP.mk fun ρ d hf=>by
 subst hK
 obtain ⟨x,e1,e2⟩:=znw hf
 unfold isiD at e2
 cases e3:tyN x with
 | none=>rw [e3] at e2;cases e2
 | some k=>
  rw [e3] at e2;cases e2
  refine PE.imp (zkE call_isi hg hm boot_isinstance (zbk (ha.h ρ x e1) (zbk (pe_bltn (v:=.ty T) hgT hmT hv rfl hn hd) zcM he2) he) (by decide) (by decide) he hpl) fun σ H Q h_=>?_
  obtain ⟨F,rl,q⟩:=h_
  refine ⟨F,rl,fun v F1 H1 g1 r1=>⟨v,T,_,_,rfl,tyN_of g1.fh r1 e3,kit_of X.K (tyN_mem e3) hT,q _ F1 H1 g1 (Res.bl _)⟩⟩
end
end FL
set_option Elab.async false
set_option linter.all false
set_option maxRecDepth 100000
namespace FL
open PySem PySem.Spec PyProof.Rows L2
noncomputable def rdTp (K:PySem.W.Frag) (ρ:En) (b:Bool):TT:=fun σ H Q=>∃ F,Rel K F H ρ σ∧∀ F' H',Grow F H F' H'→Q b H'
structure FTp (K:PySem.W.Frag) (X:Cx) (e:Expr) (f:En→Option Bool):Prop where
 h:∀ ρ b,f ρ=some b→PT X e (rdTp K ρ b)
structure FWp (K:PySem.W.Frag) (X:Cx) (e:Expr) (f:En→Option Bool):Prop where
 h:∀ ρ b,f ρ=some b→PW X e (rdTp K ρ b)
noncomputable def rdT (K:PySem.W.Frag) (ρ:En) (b:Bool) (ρ':En):TT:=fun σ H Q=>∃ F,Rel K F H ρ σ∧∀ F' H',Rel K F' H' ρ' σ→Step ρ σ F H ρ' σ F' H'→Q b H'
structure FT (K:PySem.W.Frag) (X:Cx) (e:Expr) (m:En→Option (Bool×En)):Prop where
 h:∀ ρ b ρ',m ρ=some (b,ρ')→PT X e (rdT K ρ b ρ')
structure FW (K:PySem.W.Frag) (X:Cx) (e:Expr) (m:En→Option (Bool×En)):Prop where
 h:∀ ρ b ρ',m ρ=some (b,ρ')→PW X e (rdT K ρ b ρ')
noncomputable def cT (f:En→Option D):En→Option Bool:=fun ρ=>match f ρ with
 | some (.bl b)=>some b
 | _=>none
noncomputable def andP (f g:En→Option Bool):En→Option Bool:=fun ρ=>(f ρ).bind fun b=>if b=true then g ρ else some false
noncomputable def orP (f g:En→Option Bool):En→Option Bool:=fun ρ=>(f ρ).bind fun b=>if b=true then some true else g ρ
noncomputable def notP (f:En→Option Bool):En→Option Bool:=fun ρ=>(f ρ).map fun b=>!b
noncomputable def upT (f:En→Option Bool):En→Option (Bool×En):=fun ρ=>(f ρ).map fun b=>(b,ρ)
noncomputable def andM (f g:En→Option (Bool×En)):En→Option (Bool×En):=fun ρ=>(f ρ).bind fun p=>if p.1=true then g p.2 else some (false,p.2)
noncomputable def notM (f:En→Option (Bool×En)):En→Option (Bool×En):=fun ρ=>(f ρ).map fun p=>(!p.1,p.2)
theorem zkk {f:En→Option D}{ρ:En} {b:Bool}(h:cT f ρ=some b):f ρ=some (.bl b):=by
 unfold cT at h
 split at h
 ·rename_i e;cases h;exact e
 ·cases h
theorem andP_some {f g:En→Option Bool}{ρ:En} {b:Bool}(h:andP f g ρ=some b):(f ρ=some true∧g ρ=some b)∨(f ρ=some false∧b=false):=by
 unfold andP at h
 cases e:f ρ with
 | none=>rw [e] at h;cases h
 | some c=>
  rw [e] at h
  cases c with
  | true=>exact .inl ⟨rfl,h⟩
  | false=>exact .inr ⟨rfl,(Option.some.inj h).symm⟩
theorem orP_some {f g:En→Option Bool}{ρ:En} {b:Bool}(h:orP f g ρ=some b):(f ρ=some false∧g ρ=some b)∨(f ρ=some true∧b=true):=by
 unfold orP at h
 cases e:f ρ with
 | none=>rw [e] at h;cases h
 | some c=>
  rw [e] at h
  cases c with
  | false=>exact .inl ⟨rfl,h⟩
  | true=>exact .inr ⟨rfl,(Option.some.inj h).symm⟩
theorem zik {X:Cx}{e:Expr}:PW X e (fun _ _ _=>False):=fun _ _ _ _ _ _ _ h=>h.elim
section
variable {K:PySem.W.Frag}{X:Cx} {a b e:Expr}{rest:List Expr} {fa fb f:En→Option D}{pos:Pos} {p:D→D→Option D}{t u:En→Option Bool} {m n:En→Option (Bool×En)}
theorem tcmp {op:CmpOp}(o:Op2 K X (compareOp op) .fz p) (ha:FP K .br X a fa) (hb:FP K .br X b fb) (hm:behindInMarks op b=false):FTp K X (.Compare a [op] [b] pos) (cT (c2 p fa fb)):=FTp.mk fun ρ c hf=>by
 obtain ⟨x,y,e1,e2,e3⟩:=zcV (zkk hf)
 obtain ⟨r,ho,hr⟩:=o
 refine PT.imp (zjO ho (ha.h ρ x e1) (hb.h ρ y e2) hm) fun σ H Q h_=>?_
 obtain ⟨F,rl,q⟩:=h_
 refine two (md:=.fz) (d:=.bl c) (ta:=fun _ _ _=>True) (tb:=fun _ _ _=>True) (ha.h ρ x e1) (hb.h ρ y e2) (fun F H v u Q s h1 h2 k=>hr x y _ F H v u Q e3 s h1 h2 k) σ H _ ⟨F,rl,fun v F' H' g h=>⟨c,Dat.bl_inv (K:=K) (F:=F') h,q F' H' g⟩⟩
theorem tcmpf {op:CmpOp}(o:Op2f K X (compareOp op) p) (ha:FP K .fz X a fa) (hb:FP K .br X b fb) (hm:behindInMarks op b=false):FTp K X (.Compare a [op] [b] pos) (cT (c2 p fa fb)):=FTp.mk fun ρ c hf=>by
 obtain ⟨x,y,e1,e2,e3⟩:=zcV (zkk hf)
 obtain ⟨r,ho,hr⟩:=o
 refine PT.imp (zjO ho (ha.h ρ x e1) (hb.h ρ y e2) hm) fun σ H Q h_=>?_
 obtain ⟨F,rl,q⟩:=h_
 exact two_f (d:=.bl c) (ha.h ρ x e1) (hb.h ρ y e2) (fun F H v u Q s h1 h2 k=>hr x y _ F H v u Q e3 s h1 h2 k) σ H _ ⟨F,rl,fun v F' H' g h=>⟨c,Dat.bl_inv (K:=K) (F:=F') h,q F' H' g⟩⟩
theorem tval (h:FP K .fz X e f) (he:∀ whole,isTrue e X.env whole=(do let v ← whole;standAt e.pos;holding [v] (truthy v)):=by intro _;rfl):FTp K X e (cT f):=FTp.mk fun ρ c hf=>
 PT.imp (pt_val (h.h ρ _ (zkk hf)) he) fun σ H Q ⟨F,rl,q⟩=>⟨F,rl,fun v F' H' g h=>⟨c,Dat.bl_inv (K:=K) (F:=F') h,q F' H' g⟩⟩
noncomputable def truD:D→Option Bool
 | .non=>some false
 | .bl b=>some b
 | .int i=>some (i != 0)
 | .str z=>if z.length≤lim then some ((z.length:Int) != 0) else none
 | .lst l=>some (!l.isEmpty)
 | .tup l=>some (!l.isEmpty)
 | _=>none
noncomputable def cTr (f:En→Option D):En→Option Bool:=fun ρ=>(f ρ).bind truD
theorem DatL.empty {F:Hp}{l:List D} {vs:List V}(q:DatL K F l vs):vs.isEmpty=l.isEmpty:=by
 have:=q.length
 cases l<;>cases vs<;>simp at this ⊢
theorem ttru (h:FP K .br X e f) (he:∀ whole,isTrue e X.env whole=(do let v ← whole;standAt e.pos;holding [v] (truthy v)):=by intro _;rfl) (hK:X.K=K:=by rfl):FTp K X e (cTr f):=FTp.mk fun ρ c hf=>by
 subst hK
 unfold cTr at hf
 cases e1:f ρ with
 | none=>rw [e1] at hf;cases hf
 | some d=>
  rw [e1] at hf
  have hf:truD d=some c:=hf
  refine PT.imp (pt_truth (h.h ρ d e1) he) fun σ H Q ⟨F,rl,q⟩=>⟨F,rl,fun v F' H' g h=>⟨c,?_,q F' H' g⟩⟩
  have h:DatB X.K F' H' d v:=h
  cases d<;>simp only [truD] at hf<;>try (cases hf;done)
  ·cases hf;rw [h.non_inv];rfl
  ·cases hf;rw [h.bl_inv];rfl
  ·cases hf;rw [h.int_inv];rfl
  ·obtain ⟨hz,rfl⟩:=zaO hf
   rw [h.str_inv];exact ⟨zel hz,rfl⟩
  ·cases hf
   obtain ⟨a,vs,rfl,f,q⟩:=h.tup_inv
   exact .inr (.inl ⟨vs,SqT.of (g.fh _ _ f),by rw [q.empty]⟩)
  ·cases hf
   obtain ⟨a,vs,rfl,f,q⟩:=h.lst_inv
   exact .inl ⟨vs,SqL.of f,by rw [q.empty]⟩
theorem tand1 (h:FTp K X a t):FWp K X (.BoolOp .And [a] pos) t:=FWp.mk fun ρ c hf=>zmd (h.h ρ c hf)
theorem tor1 (h:FTp K X a t):FWp K X (.BoolOp .Or [a] pos) t:=FWp.mk fun ρ c hf=>pw_or1 (h.h ρ c hf)
theorem tand (h1:FTp K X a t) (h2:FWp K X (.BoolOp .And (b::rest) pos) u):FWp K X (.BoolOp .And (a::b::rest) pos) (andP t u):=FWp.mk fun ρ c hf=>by
 rcases andP_some hf with ⟨e1,e2⟩ | ⟨e1,rfl⟩
 ·exact PW.imp (zkz (h1.h ρ _ e1) (h2.h ρ c e2)) fun σ H Q ⟨F,rl,q⟩=>⟨F,rl,fun F1 H1 g1=>iteT ⟨F1,rl.grow g1,fun F2 H2 g2=>q F2 H2 (g1.trans g2)⟩⟩
 ·exact PW.imp (zkz (h1.h ρ _ e1) zik) fun σ H Q ⟨F,rl,q⟩=>⟨F,rl,fun F1 H1 g1=>iteF (q F1 H1 g1)⟩
theorem tor (h1:FTp K X a t) (h2:FWp K X (.BoolOp .Or (b::rest) pos) u):FWp K X (.BoolOp .Or (a::b::rest) pos) (orP t u):=FWp.mk fun ρ c hf=>by
 rcases orP_some hf with ⟨e1,e2⟩ | ⟨e1,rfl⟩
 ·exact PW.imp (pw_or (h1.h ρ _ e1) (h2.h ρ c e2)) fun σ H Q ⟨F,rl,q⟩=>⟨F,rl,fun F1 H1 g1=>iteF ⟨F1,rl.grow g1,fun F2 H2 g2=>q F2 H2 (g1.trans g2)⟩⟩
 ·exact PW.imp (pw_or (h1.h ρ _ e1) zik) fun σ H Q ⟨F,rl,q⟩=>⟨F,rl,fun F1 H1 g1=>iteT (q F1 H1 g1)⟩
theorem FWp.pt (h:FWp K X e t):FTp K X e t:=FTp.mk fun ρ c hf=>(h.h ρ c hf).pt
theorem tnot (h:FTp K X a t):FTp K X (.UnaryOp .Not a pos) (notP t):=FTp.mk fun ρ c hf=>by
 unfold notP at hf
 cases e1:t ρ with
 | none=>rw [e1] at hf;cases hf
 | some d=>
  rw [e1] at hf
  cases hf
  exact PT.imp (pt_not (h.h ρ d e1)) fun σ H Q ⟨F,rl,q⟩=>⟨F,rl,fun F1 H1 g1=>q F1 H1 g1⟩
theorem FTp.up (h:FTp K X e t):FT K X e (upT t):=FT.mk fun ρ c ρ' hf=>by
 unfold upT at hf
 cases e1:t ρ with
 | none=>rw [e1] at hf;cases hf
 | some d=>
  rw [e1] at hf
  cases hf
  exact PT.imp (h.h ρ c e1) fun σ H Q ⟨F,rl,q⟩=>⟨F,rl,fun F1 H1 g1=>q F1 H1 (rl.grow g1) g1.step⟩
theorem mand1 (h:FT K X a m):FW K X (.BoolOp .And [a] pos) m:=FW.mk fun ρ c ρ' hf=>zmd (h.h ρ c ρ' hf)
theorem mand (h1:FT K X a m) (h2:FW K X (.BoolOp .And (b::rest) pos) n):FW K X (.BoolOp .And (a::b::rest) pos) (andM m n):=FW.mk fun ρ c ρ' hf=>by
 unfold andM at hf
 cases e1:m ρ with
 | none=>rw [e1] at hf;cases hf
 | some q1=>
  obtain ⟨b1,ρ1⟩:=q1
  rw [e1] at hf
  cases b1 with
  | true=>
   have hf:n ρ1=some (c,ρ'):=hf
   exact PW.imp (zkz (h1.h ρ _ _ e1) (h2.h ρ1 c ρ' hf)) fun σ H Q ⟨F,rl,q⟩=>⟨F,rl,fun F1 H1 r1 s1=>iteT ⟨F1,r1,fun F2 H2 r2 s2=>q F2 H2 r2 (s1.trans s2 rl.sub)⟩⟩
  | false=>
   have hf:some (false,ρ1)=some (c,ρ'):=hf
   cases hf
   exact PW.imp (zkz (h1.h ρ _ _ e1) zik) fun σ H Q ⟨F,rl,q⟩=>⟨F,rl,fun F1 H1 r1 s1=>iteF (q F1 H1 r1 s1)⟩
theorem FW.pt (h:FW K X e m):FT K X e m:=FT.mk fun ρ c ρ' hf=>(h.h ρ c ρ' hf).pt
theorem mnot (h:FT K X a m):FT K X (.UnaryOp .Not a pos) (notM m):=FT.mk fun ρ c ρ' hf=>by
 unfold notM at hf
 cases e1:m ρ with
 | none=>rw [e1] at hf;cases hf
 | some q1=>
  rw [e1] at hf
  cases hf
  exact PT.imp (pt_not (h.h ρ _ _ e1)) fun σ H Q ⟨F,rl,q⟩=>⟨F,rl,fun F1 H1 r1 s1=>q F1 H1 r1 s1⟩
noncomputable def andV (f g:En→Option D):En→Option D:=fun ρ=>match f ρ with
 | some (.bl true)=>g ρ
 | some (.bl false)=>some (.bl false)
 | _=>none
noncomputable def orV (f g:En→Option D):En→Option D:=fun ρ=>match f ρ with
 | some (.bl true)=>some (.bl true)
 | some (.bl false)=>g ρ
 | _=>none
noncomputable def notV (f:En→Option D):En→Option D:=fun ρ=>match f ρ with
 | some (.bl b)=>some (.bl (!b))
 | _=>none
noncomputable def negD:D→Option D
 | .int i=>some (.int (-i))
 | _=>none
theorem fneg (h:FP K .fz X a fa):FP K .fz X (.UnaryOp .USub a pos) (c1 negD fa):=FP.mk fun ρ d hf=>by
 obtain ⟨x,e1,e2⟩:=znw hf
 cases x<;>simp only [negD] at e2<;>try (cases e2;done)
 cases e2
 exact PE.imp (pe_un un_neg (h.h ρ _ e1)) fun σ H Q ⟨F,rl,q⟩=>⟨F,rl,fun v F1 H1 g1 r1=>⟨_,Dat.int_inv (K:=K) (F:=F1) r1,q _ F1 H1 g1 (Res.int _)⟩⟩
end
end FL
set_option Elab.async false
set_option linter.all false
set_option maxRecDepth 100000
namespace FL
open PySem PySem.Spec PyProof.Rows L2
section
variable {K:PySem.W.Frag}{F H F' H':Hp} {ρ ρ':En}{σ σ':St} {i:Nat}
theorem zai {α:Type}{l:List α} {i j:Nat}{x y:α} (h:(l.set i x)[j]?=some y):(j=i∧y=x)∨(j≠i∧l[j]?=some y):=by
 by_cases e:j=i
 ·subst e
  rw [List.getElem?_set] at h
  simp at h
  exact .inl ⟨rfl,h.2.symm⟩
 ·rw [List.getElem?_set_ne (Ne.symm e)] at h
  exact .inr ⟨e,h⟩
theorem zeF {α:Type}{l:List α} {i:Nat}{x:α} (h:i < l.length):(l.set i x)[i]?=some x:=by simp [h]
theorem ziP {α:Type}{l:List α} {i:Nat}{x y:α} (h:(l.set i x)[i]?=some y):i < l.length:=by
 have:=(List.getElem?_eq_some_iff.mp h).1;simpa using this
theorem Rel.setD (r:Rel K F H ρ σ) {d:D}{v:V} (h:Dat K F d v):Rel K F H (ρ.set i (some (.dat d))) (σ.set i (some v)):=by
 refine ⟨r.sub,fun j x e=>?_,fun j x e=>?_,fun j q x e=>?_,fun j k q x s a ne e1 e2 e3 e4=>?_,by simp [r.len]⟩
 ·rcases zai e with ⟨rfl,e'⟩ | ⟨ne,e'⟩
  ·cases e'
   exact ⟨v,zeF (by rw [← r.len];exact ziP e),h⟩
  ·rw [List.getElem?_set_ne (Ne.symm ne)];exact r.dat j x e'
 ·rcases zai e with ⟨rfl,e'⟩ | ⟨ne,e'⟩
  ·cases e'
  ·rw [List.getElem?_set_ne (Ne.symm ne)];exact r.bor j x e'
 ·rcases zai e with ⟨rfl,e'⟩ | ⟨ne,e'⟩
  ·cases e'
  ·rw [List.getElem?_set_ne (Ne.symm ne)];exact r.own j q x e'
 ·rcases zai e1 with ⟨rfl,e'⟩ | ⟨ne1,e1'⟩
  ·cases e'
  ·rcases zai e3 with ⟨rfl,e'⟩ | ⟨ne3,e3'⟩
   ·cases e';cases e4
   ·rw [List.getElem?_set_ne (Ne.symm ne1)] at e2
    rw [List.getElem?_set_ne (Ne.symm ne3)]
    exact r.inj j k q x s a ne e1' e2 e3' e4
theorem Rel.setN (r:Rel K F H ρ σ) {v:Option V}:Rel K F H (ρ.set i none) (σ.set i v):=by
 refine ⟨r.sub,fun j x e=>?_,fun j x e=>?_,fun j q x e=>?_,fun j k q x s a ne e1 e2 e3 e4=>?_,by simp [r.len]⟩
 ·rcases zai e with ⟨rfl,e'⟩ | ⟨ne,e'⟩
  ·cases e'
  ·rw [List.getElem?_set_ne (Ne.symm ne)];exact r.dat j x e'
 ·rcases zai e with ⟨rfl,e'⟩ | ⟨ne,e'⟩
  ·cases e'
  ·rw [List.getElem?_set_ne (Ne.symm ne)];exact r.bor j x e'
 ·rcases zai e with ⟨rfl,e'⟩ | ⟨ne,e'⟩
  ·cases e'
  ·rw [List.getElem?_set_ne (Ne.symm ne)];exact r.own j q x e'
 ·rcases zai e1 with ⟨rfl,e'⟩ | ⟨ne1,e1'⟩
  ·cases e'
  ·rcases zai e3 with ⟨rfl,e'⟩ | ⟨ne3,e3'⟩
   ·cases e'
   ·rw [List.getElem?_set_ne (Ne.symm ne1)] at e2
    rw [List.getElem?_set_ne (Ne.symm ne3)]
    exact r.inj j k q x s a ne e1' e2 e3' e4
theorem Rel.drop (r:Rel K F H ρ σ):Rel K F H (ρ.set i none) σ:=by
 by_cases hi:i < σ.length
 ·have h:=r.setN (i:=i) (v:=σ[i])
  rw [List.set_getElem_self] at h
  exact h
 ·have e:ρ.set i none=ρ:=List.set_eq_of_length_le (by rw [r.len];omega)
  rw [e];exact r
theorem Rel.setO (r0:Rel K F H ρ σ) (g:Grow F H F' H') {d:D}{a:Addr} (hn:H a=none) (hf:F' a=none) (ho:Own K F' H' d a) (nb:∀ (j:Nat) (s:Sl),ρ[j]?=some (some s)→s.isDat=false→∃ q x,s=.ow q x) :
  Rel K F' H' (ρ.set i (some (.own d))) (σ.set i (some (.ref a))):=by
 have r:=r0.grow g
 have nf:∀ (j:Nat) s,ρ[j]?=some (some s)→s.isDat=false→σ[j]?≠some (some (.ref a)):=fun j s e hs z=>by
  obtain ⟨q,x,rfl⟩:=nb j s e hs
  obtain ⟨b,e1,_,e3⟩:=r0.own j q x e
  rw [z] at e1;cases e1
  obtain ⟨o,e4⟩:=e3.some
  rw [hn] at e4;cases e4
 refine ⟨r.sub,fun j x e=>?_,fun j x e=>?_,fun j q x e=>?_,fun j k q x s c ne e1 e2 e3 e4=>?_,by simp [r.len]⟩
 ·rcases zai e with ⟨rfl,e'⟩ | ⟨ne,e'⟩
  ·cases e'
  ·rw [List.getElem?_set_ne (Ne.symm ne)];exact r.dat j x e'
 ·rcases zai e with ⟨rfl,e'⟩ | ⟨ne,e'⟩
  ·cases e'
  ·rw [List.getElem?_set_ne (Ne.symm ne)];exact r.bor j x e'
 ·rcases zai e with ⟨rfl,e'⟩ | ⟨ne,e'⟩
  ·cases e'
   exact ⟨a,zeF (by rw [← r.len];exact ziP e),hf,ho⟩
  ·rw [List.getElem?_set_ne (Ne.symm ne)];exact r.own j q x e'
 ·rcases zai e1 with ⟨rfl,e1'⟩ | ⟨ne1,e1'⟩
  ·cases e1'
   rw [zeF (by rw [← r.len];exact ziP e1)] at e2
   cases e2
   rcases zai e3 with ⟨rfl,e3'⟩ | ⟨ne3,e3'⟩
   ·exact absurd rfl ne
   ·rw [List.getElem?_set_ne (Ne.symm ne3)];exact nf k s e3' e4
  ·rw [List.getElem?_set_ne (Ne.symm ne1)] at e2
   rcases zai e3 with ⟨rfl,e3'⟩ | ⟨ne3,e3'⟩
   ·rw [zeF (by rw [← r.len];exact ziP e3)]
    intro z;cases z
    exact nf j _ e1' rfl e2
   ·rw [List.getElem?_set_ne (Ne.symm ne3)]
    exact r.inj j k q x s c ne e1' e2 e3' e4
theorem zja {sl:Option Sl}{v:Option V} {b:Addr}(h:zeD (ρ.set i sl) (σ.set i v) b):(∃ q d,sl=some (.ow q d)∧v=some (.ref b))∨zeD ρ σ b:=by
 obtain ⟨j,q,d,e1,e2⟩:=h
 rcases zai e1 with ⟨rfl,e1'⟩ | ⟨ne,e1'⟩
 ·rcases zai e2 with ⟨_,e2'⟩ | ⟨ne,_⟩
  ·exact .inl ⟨q,d,e1'.symm,e2'.symm⟩
  ·exact absurd rfl ne
 ·rw [List.getElem?_set_ne (Ne.symm ne)] at e2
  exact .inr ⟨j,q,d,e1',e2⟩
theorem zhF {b:Addr}(h:zeD (ρ.set i none) σ b):zeD ρ σ b:=by
 obtain ⟨j,q,d,e1,e2⟩:=h
 rcases zai e1 with ⟨rfl,e1'⟩ | ⟨ne,e1'⟩
 ·cases e1'
 ·exact ⟨j,q,d,e1',e2⟩
structure Kp (ρ:En) (σ:St) (ρ':En) (σ':St):Prop where
 own:∀ b,zeD ρ' σ' b→zeD ρ σ b
 pin:∀ (i:Nat) (d':D),ρ'[i]?=some (some (.ow true d'))→∃ d,ρ[i]?=some (some (.ow true d))∧σ'[i]?=σ[i]?
theorem Kp.refl:Kp ρ σ ρ σ:=⟨fun _ h=>h,fun _ d e=>⟨d,e,rfl⟩⟩
theorem Kp.trans {ρ2:En}{σ2:St} (a:Kp ρ σ ρ' σ') (b:Kp ρ' σ' ρ2 σ2):Kp ρ σ ρ2 σ2:=⟨fun c h=>a.own c (b.own c h),fun i d e=>by
 obtain ⟨d1,e1,e2⟩:=b.pin i d e
 obtain ⟨d2,e3,e4⟩:=a.pin i d1 e1
 exact ⟨d2,e3,e2.trans e4⟩⟩
theorem zmk {sl:Option Sl}{v:Option V} (hs:∀ d,sl≠some (.ow true d)):∀ (j:Nat) (d':D),(ρ.set i sl)[j]?=some (some (.ow true d'))→∃ d,ρ[j]?=some (some (.ow true d))∧(σ.set i v)[j]?=σ[j]?:=fun j d' e=>by
 rcases zai e with ⟨rfl,e'⟩ | ⟨ne,e'⟩
 ·exact absurd e'.symm (hs d')
 ·exact ⟨d',e',List.getElem?_set_ne (Ne.symm ne)⟩
theorem zkD:∀ (j:Nat) (d':D),(ρ.set i none)[j]?=some (some (.ow true d'))→∃ d,ρ[j]?=some (some (.ow true d))∧σ[j]?=σ[j]?:=fun j d' e=>by
 rcases zai e with ⟨rfl,e'⟩ | ⟨ne,e'⟩
 ·cases e'
 ·exact ⟨d',e',rfl⟩
theorem Kp.setD {d:D}{v:Option V}:Kp ρ σ (ρ.set i (some (.dat d))) (σ.set i v):=⟨fun b z=>by
 rcases zja z with ⟨_,_,z,_⟩ | z
 ·cases z
 ·exact z,zmk fun d h=>by cases h⟩
theorem Step.kp {ρ2:En}{σ2:St} (a:Step ρ σ F H ρ' σ' F' H') (k:Kp ρ' σ' ρ2 σ2):Step ρ σ F H ρ2 σ2 F' H':=⟨a.ff,a.rest,fun b z=>a.own b (k.own b z),fun i d e=>by
 obtain ⟨d1,e1,e2⟩:=k.pin i d e
 obtain ⟨d2,e3,e4⟩:=a.pin i d1 e1
 exact ⟨d2,e3,e2.trans e4⟩,a.fh⟩
end
inductive Fl where
 | nx (ρ:En) | rt (d:D) (ρ:En) | bk (ρ:En) | ct (ρ:En)
noncomputable def ResR (K:PySem.W.Frag) (md:Md) (ρ:En) (σ:St) (H F' H':Hp) (d:D) (v:V):Prop:=match md with
 | .fz=>Dat K F' d v
 | .ow=>∃ a,v=.ref a∧(H a=none∨zeD ρ σ a)∧F' a=none∧Own K F' H' d a
 | .br=>False
noncomputable def rdS (K:PySem.W.Frag) (md:Md) (ρ:En) (fl:Fl):TS:=fun D σ H=>∃ F,Rel K F H ρ σ∧match fl with
 | .nx ρ'=>∀ σ' F' H',Rel K F' H' ρ' σ'→Step ρ σ F H ρ' σ' F' H'→D.nx σ' H'
 | .bk ρ'=>∀ σ' F' H',Rel K F' H' ρ' σ'→Step ρ σ F H ρ' σ' F' H'→D.bk σ' H'
 | .ct ρ'=>∀ σ' F' H',Rel K F' H' ρ' σ'→Step ρ σ F H ρ' σ' F' H'→D.ct σ' H'
 | .rt d ρ'=>∀ v σ' F' H',Rel K F' H' ρ' σ'→Step ρ σ F H ρ' σ' F' H'→ResR K md ρ σ H F' H' d v→D.rt v H'
structure FS (K:PySem.W.Frag) (md:Md) (X:Cx) (st:Stmt) (m:En→Option Fl):Prop where
 h:∀ ρ fl,m ρ=some fl→PS X st (rdS K md ρ fl)
structure FSs (K:PySem.W.Frag) (md:Md) (X:Cx) (sts:List Stmt) (m:En→Option Fl):Prop where
 h:∀ ρ fl,m ρ=some fl→PSs X sts (rdS K md ρ fl)
noncomputable def nxM:En→Option Fl:=fun ρ=>some (.nx ρ)
noncomputable def seqM (m n:En→Option Fl):En→Option Fl:=fun ρ=>match m ρ with
 | some (.nx ρ1)=>n ρ1
 | r=>r
theorem ResR.back {K:PySem.W.Frag}{md:Md} {ρ ρ':En}{σ σ':St} {F H F' H' F2 H2:Hp}{d:D} {v:V}(a:Step ρ σ F H ρ' σ' F' H') (s:Same F H) (h:ResR K md ρ' σ' H' F2 H2 d v):ResR K md ρ σ H F2 H2 d v:=by
 cases md with
 | fz=>exact h
 | br=>exact h
 | ow=>
  obtain ⟨b,e,h1,h2,h3⟩:=h
  exact ⟨b,e,a.back s h1,h2,h3⟩
theorem rdS.after {K:PySem.W.Frag}{md:Md} {ρ ρ':En}{σ σ':St} {F H F' H':Hp}{fl:Fl} {D:Ends}(s:Same F H) (r:Rel K F' H' ρ' σ') (a:Step ρ σ F H ρ' σ' F' H')
  (h:match fl with
   | .nx ρ'=>∀ σ' F' H',Rel K F' H' ρ' σ'→Step ρ σ F H ρ' σ' F' H'→D.nx σ' H'
   | .bk ρ'=>∀ σ' F' H',Rel K F' H' ρ' σ'→Step ρ σ F H ρ' σ' F' H'→D.bk σ' H'
   | .ct ρ'=>∀ σ' F' H',Rel K F' H' ρ' σ'→Step ρ σ F H ρ' σ' F' H'→D.ct σ' H'
   | .rt d ρ'=>∀ v σ' F' H',Rel K F' H' ρ' σ'→Step ρ σ F H ρ' σ' F' H'→ResR K md ρ σ H F' H' d v→D.rt v H'):rdS K md ρ' fl D σ' H':=by
 refine ⟨F',r,?_⟩
 cases fl with
 | nx ρ2=>exact fun σ2 F2 H2 r2 s2=>h σ2 F2 H2 r2 (a.trans s2 s)
 | bk ρ2=>exact fun σ2 F2 H2 r2 s2=>h σ2 F2 H2 r2 (a.trans s2 s)
 | ct ρ2=>exact fun σ2 F2 H2 r2 s2=>h σ2 F2 H2 r2 (a.trans s2 s)
 | rt d ρ2=>exact fun v σ2 F2 H2 r2 s2 q=>h v σ2 F2 H2 r2 (a.trans s2 s) (ResR.back a s q)
section
variable {K:PySem.W.Frag}{md:Md} {X:Cx}{st:Stmt} {rest:List Stmt}{m n:En→Option Fl} {e:Expr}{f:En→Option D} {pos:Pos}
theorem snil:FSs K md X [] nxM:=FSs.mk fun ρ fl hf=>by
 cases hf
 exact PSs.imp pss_nil fun D σ H ⟨F,r,q⟩=>q σ F H r (Grow.refl r.sub).step
theorem sone (h:FS K md X st m):FSs K md X [st] m:=FSs.mk fun ρ fl hf=>pss_one (h.h ρ fl hf)
theorem sseq (h1:FS K md X st m) (h2:FSs K md X rest n):FSs K md X (st::rest) (seqM m n):=FSs.mk fun ρ fl hf=>by
 unfold seqM at hf
 split at hf
 ·rename_i ρ1 e1
  refine PSs.imp (zkB (h1.h ρ _ e1) (h2.h ρ1 fl hf)) fun D σ H ⟨F,r,q⟩=>⟨F,r,fun σ1 F1 H1 r1 s1=>?_⟩
  exact rdS.after r.sub r1 s1 q
 ·rename_i hno
  refine PSs.imp (zkB (h1.h ρ fl hf) zgo) fun D σ H ⟨F,r,q⟩=>⟨F,r,?_⟩
  cases fl with
  | nx ρ1=>exact absurd hf (hno ρ1)
  | bk ρ1=>exact q
  | ct ρ1=>exact q
  | rt d ρ1=>exact q
theorem scont:FS K md X (.Continue pos) (fun ρ=>some (.ct ρ)):=FS.mk fun ρ fl hf=>by
 cases hf
 exact PS.imp zjQ fun D σ H ⟨F,r,q⟩=>q σ F H r (Grow.refl r.sub).step
theorem zlX:FS K md X st (fun _=>none):=FS.mk fun ρ fl hf=>by cases hf
noncomputable def zgX (f:En→Option D):En→Option Fl:=fun ρ=>(f ρ).map fun _=>.nx ρ
theorem sexpr (he:FP K .fz X e f) (hs:swapsWith e none pos.line X.env=pure false:=by rfl):FS K md X (.Expr e pos) (zgX f):=FS.mk fun ρ fl hf=>by
 unfold zgX at hf
 cases e1:f ρ with
 | none=>rw [e1] at hf;cases hf
 | some d=>
  rw [e1] at hf;cases hf
  exact PS.imp (zmg (he.h ρ d e1) hs) fun D σ H ⟨F,r,q⟩=>⟨F,r,fun v F1 H1 g1 _=>q σ F1 H1 (r.grow g1) g1.step⟩
noncomputable def retM (f:En→Option D):En→Option Fl:=fun ρ=>(f ρ).map fun d=>.rt d ρ
theorem sret (he:FP K .fz X e f):FS K .fz X (.Return (some e) pos) (retM f):=FS.mk fun ρ fl hf=>by
 unfold retM at hf
 cases e1:f ρ with
 | none=>rw [e1] at hf;cases hf
 | some d=>
  rw [e1] at hf;cases hf
  exact PS.imp (ziS (he.h ρ d e1)) fun D σ H ⟨F,r,q⟩=>⟨F,r,fun v F1 H1 g1 h=>q v σ F1 H1 (r.grow g1) g1.step h⟩
theorem zhi (he:FP K .ow X e f):FS K .ow X (.Return (some e) pos) (retM f):=FS.mk fun ρ fl hf=>by
 unfold retM at hf
 cases e1:f ρ with
 | none=>rw [e1] at hf;cases hf
 | some d=>
  rw [e1] at hf;cases hf
  refine PS.imp (ziS (he.h ρ d e1)) fun D σ H ⟨F,r,q⟩=>⟨F,r,fun v F1 H1 g1 ⟨a,e,h1,h2,h3⟩=>q v σ F1 H1 (r.grow g1) g1.step ⟨a,e,.inl h1,h2,h3⟩⟩
noncomputable def retO (i:Nat):En→Option Fl:=fun ρ=>match ρ[i]? with
 | some (some (.ow _ d))=>some (.rt d (ρ.set i none))
 | _=>none
theorem sretO (i:Nat) {x:Str}{p:Pos} (hN:X.N[i]?=some x:=by rfl) (hv:Vis X.env.scope x:=by first | exact Or.inl rfl | exact Or.inr (Or.inl rfl) | exact Or.inr (Or.inr rfl)) (hd:(x == ("__debug__" : Str))=false:=by decide)
  (hcd:(x == ("__classdict__" : Str))=false:=by decide):FS K .ow X (.Return (some (.Name x p)) pos) (retO i):=FS.mk fun ρ fl hf=>by
 unfold retO at hf
 split at hf
 ·rename_i pp d e1
  cases hf
  refine PS.imp (ziS (zcK hN hv hd hcd)) fun D σ H h_=>?_
  obtain ⟨F,r,q⟩:=h_
  obtain ⟨a,e2,h1,h2⟩:=r.own i pp d e1
  refine ⟨_,e2,q _ σ F H r.drop ?_ ⟨a,rfl,.inr ⟨i,pp,d,e1,e2⟩,h1,h2⟩⟩
  exact ⟨Same.refl _,fun b o e n _=>⟨e,n⟩,fun b h=>.inr (zhF h),zkD,r.sub⟩
 ·cases hf
theorem sretF (i:Nat) {x:Str}{p:Pos} (hN:X.N[i]?=some x:=by rfl) (hv:Vis X.env.scope x:=by first | exact Or.inl rfl | exact Or.inr (Or.inl rfl) | exact Or.inr (Or.inr rfl)) (hd:(x == ("__debug__" : Str))=false:=by decide)
  (hcd:(x == ("__classdict__" : Str))=false:=by decide):FS K .fz X (.Return (some (.Name x p)) pos) (retO i):=FS.mk fun ρ fl hf=>by
 unfold retO at hf
 split at hf
 ·rename_i pp d e1
  cases hf
  refine PS.imp (ziS (pe_frz (zcK hN hv hd hcd))) fun D σ H h_=>?_
  obtain ⟨F,r,q⟩:=h_
  obtain ⟨a,e2,h1,h2⟩:=r.own i pp d e1
  have rd:=r.drop (i:=i)
  have ne:∀ b,zeD (ρ.set i none) σ b→b≠a:=fun b ⟨j,q,x,j1,j2⟩ z=>by
   subst z
   rcases zai j1 with ⟨rfl,j1'⟩ | ⟨hne,j1'⟩
   ·cases j1'
   ·exact r.inj j i q x (.ow pp d) b hne j1' j2 e1 rfl e2
  refine ⟨_,e2,a,rfl,fun H2 fz=>?_⟩
  have g:Step ρ σ F H (ρ.set i none) σ (frz1 F H2 a) H2:=by
   refine ⟨zde h1,fun b o e n ho=>?_,fun b h=>.inr (zhF h),zkD,zeK (fz.same r.sub h1)⟩
   have hb:b≠a:=fun z=>ho (by subst z;exact ⟨i,pp,d,e1,e2⟩)
   exact ⟨by rw [fz.ne hb];exact e,by rw [zdH hb];exact n⟩
  have rf:Rel K (frz1 F H2 a) H2 (ρ.set i none) σ:=by
   refine ⟨zeK (fz.same r.sub h1),fun j x e=>?_,fun j x e=>?_,fun j q x e=>?_,rd.inj,rd.len⟩
   ·obtain ⟨v,h3,h4⟩:=rd.dat j x e;exact ⟨v,h3,h4.mono (zde h1)⟩
   ·obtain ⟨v,h3,h4⟩:=rd.bor j x e;exact ⟨v,h3,DatB.frz h4 (zde h1) fz (fun z=>r.inj i j pp d (.bor x) a (fun q=>by subst q;rcases zai e with ⟨_,e'⟩ | ⟨hne,_⟩;cases e';exact hne rfl) e1 e2 (by rcases zai e with ⟨_,e'⟩ | ⟨_,e'⟩;cases e';exact e') rfl (by rw [h3,z]))⟩
   ·obtain ⟨c,h3,h4,h5⟩:=rd.own j q x e
    exact ⟨c,h3,by rw [zdH (ne c ⟨j,q,x,e,h3⟩)];exact h4,h5.mono (zde h1) fun o e=>by rw [fz.ne (ne c ⟨j,q,x,by assumption,h3⟩)];exact e⟩
  exact q _ σ _ H2 rf g (h2.freeze h1 fz)
 ·cases hf
noncomputable def retN:En→Option Fl:=fun ρ=>some (.rt .non ρ)
noncomputable def ifM (t:En→Option (Bool×En)) (m n:En→Option Fl):En→Option Fl:=fun ρ=>(t ρ).bind fun p=>if p.1=true then m p.2 else n p.2
theorem sif {c:Expr}{a b:List Stmt} {t:En→Option (Bool×En)}(hc:FT K X c t) (ha:FSs K md X a m) (hb:FSs K md X b n):FS K md X (.If c a b pos) (ifM t m n):=FS.mk fun ρ fl hf=>by
 unfold ifM at hf
 cases e1:t ρ with
 | none=>rw [e1] at hf;cases hf
 | some p=>
  obtain ⟨k,ρ1⟩:=p
  rw [e1] at hf
  cases k with
  | true=>
   refine PS.imp (ps_if (hc.h ρ _ _ e1) (ha.h ρ1 fl hf) zgo) fun D σ H ⟨F,r,q⟩=>⟨F,r,fun F1 H1 r1 s1=>iteT (rdS.after r.sub r1 s1 q)⟩
  | false=>
   refine PS.imp (ps_if (hc.h ρ _ _ e1) zgo (hb.h ρ1 fl hf)) fun D σ H ⟨F,r,q⟩=>⟨F,r,fun F1 H1 r1 s1=>iteF (rdS.after r.sub r1 s1 q)⟩
noncomputable def rdG (K:PySem.W.Frag) (ρ:En) (d:D) (ρ':En):TG:=fun v σ H Q=>∃ F,Rel K F H ρ σ∧Dat K F d v∧∀ σ',Rel K F H ρ' σ'→Kp ρ σ ρ' σ'→Q σ' H
structure FG (K:PySem.W.Frag) (X:Cx) (tg:Expr) (g:D→En→Option En):Prop where
 h:∀ ρ d ρ',g d ρ=some ρ'→PG X tg (rdG K ρ d ρ')
noncomputable def rdGs (K:PySem.W.Frag) (ρ:En) (ds:List D) (ρ':En):TGs:=fun vs σ H Q=>∃ F,Rel K F H ρ σ∧DatL K F ds vs∧∀ σ',Rel K F H ρ' σ'→Kp ρ σ ρ' σ'→Q σ' H
structure FGs (K:PySem.W.Frag) (X:Cx) (ts:List Expr) (g:List D→En→Option En):Prop where
 h:∀ ρ ds ρ',g ds ρ=some ρ'→PGs X ts (rdGs K ρ ds ρ')
theorem PG.imp {tg:Expr}{t t':TG} (h:PG X tg t) (w:∀ v σ H Q,t' v σ H Q→t v σ H Q):PG X tg t':=fun pins s σ H v u Q I r ht=>h pins s σ H v u Q I r (w v σ H Q ht)
theorem PGs.imp {tg:List Expr}{t t':TGs} (h:PGs X tg t) (w:∀ v σ H Q,t' v σ H Q→t v σ H Q):PGs X tg t':=fun pins s σ H v u Q I r ht=>h pins s σ H v u Q I r (w v σ H Q ht)
noncomputable def gN (i:Nat):D→En→Option En:=fun d ρ=>some (ρ.set i (some (.dat d)))
theorem zaN (i:Nat) {x:Str}(hN:X.N.Nodup) (hi:X.N[i]?=some x:=by rfl) (hx:Loc X.env.scope x:=by first | exact Or.inl rfl | exact Or.inr rfl) (hf:X.fn x=true∨X.env.scope.names.lookup x=some .local:=by first | exact .inl rfl | exact .inr rfl | assumption):FG K X (.Name x pos) (gN i):=FG.mk fun ρ d ρ' hg=>by
 cases hg
 refine PG.imp (pg_name hN hi hx hf) fun v σ H Q ⟨F,r,h,q⟩=>q _ (r.setD h) Kp.setD
noncomputable def gNil:List D→En→Option En:=fun ds ρ=>match ds with
 | []=>some ρ
 | _=>none
noncomputable def zaY (g:D→En→Option En) (gs:List D→En→Option En):List D→En→Option En:=fun ds ρ=>match ds with
 | d::l=>(g d ρ).bind (gs l)
 | []=>none
noncomputable def gTup (gs:List D→En→Option En):D→En→Option En:=fun d ρ=>match d with
 | .tup l=>gs l ρ
 | _=>none
theorem gnil:FGs K X [] gNil:=FGs.mk fun ρ ds ρ' hg=>by
 unfold gNil at hg
 split at hg
 ·cases hg
  exact PGs.imp pgs_nil fun vs σ H Q ⟨F,r,h,q⟩=>⟨h.nil_inv,q σ r Kp.refl⟩
 ·cases hg
theorem zcG {es:List Expr}{g:D→En→Option En} {gs:List D→En→Option En}(h1:FG K X e g) (h2:FGs K X es gs)
  (hs:(assignEach (e::es) X.env).map (·.2)=assign e X.env::(assignEach es X.env).map (·.2):=by rfl):FGs K X (e::es) (zaY g gs):=FGs.mk fun ρ ds ρ' hg=>by
 unfold zaY at hg
 split at hg
 ·rename_i d l
  cases e1:g d ρ with
  | none=>rw [e1] at hg;cases hg
  | some ρ1=>
   rw [e1] at hg
   refine PGs.imp (pgs_cons (h1.h ρ d ρ1 e1) (h2.h ρ1 l ρ' hg) hs) fun vs σ H Q h_=>?_
   obtain ⟨F,r,h,q⟩:=h_
   obtain ⟨v,vr,e,d1,d2⟩:=h.cons_inv
   exact ⟨v,vr,e,F,r,d1,fun σ1 r1 o1=>⟨F,r1,d2,fun σ2 r2 o2=>q σ2 r2 (o1.trans o2)⟩⟩
 ·cases hg
theorem gtup {es:List Expr}{k:Nat} {gs:List D→En→Option En}{n:Nat} (hc:X.calm=true) (h:FGs K X es gs) (hl:∀ ds ρ ρ',gs ds ρ=some ρ'→ds.length=n)
  (hn:(assignEach es X.env).length=n:=by rfl) (hst:(assignEach es X.env).findIdx? (·.1)=none:=by rfl) (hK:X.K=K:=by rfl):FG K X (.Tuple es k pos) (gTup gs):=FG.mk fun ρ d ρ' hg=>by
 subst hK
 unfold gTup at hg
 split at hg
 ·rename_i l
  refine PG.imp (pg_tup hc (h.h ρ l ρ' hg) hn hst) fun v σ H Q h_=>?_
  obtain ⟨F,r,hd,q⟩:=h_
  obtain ⟨a,vs,rfl,f,qq⟩:=hd.tup_inv
  exact ⟨a,vs,rfl,SqT.of (r.sub _ _ f),by rw [qq.length];exact hl l ρ ρ' hg,F,r,qq,q⟩
 ·cases hg
theorem zcD:∀ ds ρ ρ',gNil ds ρ=some ρ'→ds.length=0:=fun ds ρ ρ' h=>by
 unfold gNil at h
 split at h
 ·rfl
 ·cases h
theorem zaP {g:D→En→Option En}{gs:List D→En→Option En} {n:Nat}(h:∀ ds ρ ρ',gs ds ρ=some ρ'→ds.length=n):∀ ds ρ ρ',zaY g gs ds ρ=some ρ'→ds.length=n + 1:=fun ds ρ ρ' hg=>by
 unfold zaY at hg
 split at hg
 ·rename_i d l
  cases e1:g d ρ with
  | none=>rw [e1] at hg;cases hg
  | some ρ1=>rw [e1] at hg;rw [List.length_cons,h l ρ1 ρ' hg]
 ·cases hg
noncomputable def asgM (f:En→Option D) (g:D→En→Option En):En→Option Fl:=fun ρ=>(f ρ).bind fun d=>(g d ρ).map Fl.nx
theorem sasg {tg:Expr}{g:D→En→Option En} (he:FP K .fz X e f) (hg:FG K X tg g) (hs:swapsWithSole [tg] e pos.line X.env=pure false:=by rfl) (hw:swappedStores [tg] e X.env=pure none:=by rfl)
  (h1:(assignEach [tg] X.env).map (·.2)=[assign tg X.env]:=by rfl):FS K md X (.Assign [tg] e pos) (asgM f g):=FS.mk fun ρ fl hf=>by
 unfold asgM at hf
 cases e1:f ρ with
 | none=>rw [e1] at hf;cases hf
 | some d=>
  cases e2:g d ρ with
  | none=>rw [e1] at hf;simp [e2] at hf
  | some ρ1=>
   rw [e1] at hf;simp [e2] at hf;cases hf
   refine PS.imp (ziT (he.h ρ d e1) (hg.h ρ d ρ1 e2) hs hw h1) fun D σ H ⟨F,r,q⟩=>⟨F,r,fun v F1 H1 g1 h=>⟨F1,r.grow g1,h,fun σ1 r1 o1=>?_⟩⟩
   have s1:=g1.step (ρ:=ρ) (σ:=σ)
   exact q σ1 F1 H1 r1 (s1.kp o1)
noncomputable def setM (i:Nat) (f:En→Option D):En→Option Fl:=fun ρ=>(f ρ).map fun d=>.nx (ρ.set i (some (.dat d)))
theorem sset (i:Nat) {x:Str}{pos':Pos} (hN:X.N.Nodup) (he:FP K .fz X e f) (hi:X.N[i]?=some x:=by rfl) (hx:Loc X.env.scope x:=by first | exact Or.inl rfl | exact Or.inr rfl) (hs:swapsWith e (some (.Name x pos')) pos.line X.env=pure false:=by rfl) (hf:X.fn x=true∨X.env.scope.names.lookup x=some .local:=by first | exact .inl rfl | exact .inr rfl | assumption) :
  FS K md X (.Assign [.Name x pos'] e pos) (setM i f):=FS.mk fun ρ fl hm=>by
 unfold setM at hm
 cases e1:f ρ with
 | none=>rw [e1] at hm;cases hm
 | some d=>
  rw [e1] at hm;cases hm
  refine PS.imp (ps_set hN hi hx (he.h ρ d e1) hs hf) fun D σ H ⟨F,r,q⟩=>⟨F,r,fun v F1 H1 g1 h=>?_⟩
  have s1:=g1.step (ρ:=ρ) (σ:=σ)
  exact q _ F1 H1 ((r.grow g1).setD h) (s1.kp Kp.setD)
noncomputable def zgy (ρ:En):Bool:=ρ.all fun s=>match s with
 | some (.bor _)=>false
 | _=>true
theorem zmG {ρ:En}(h:zgy ρ=true):∀ (j:Nat) s,ρ[j]?=some (some s)→s.isDat=false→∃ q x,s=.ow q x:=fun j s e hs=>by
 have:=List.all_eq_true.mp h (some s) (List.mem_of_getElem? e)
 cases s with
 | dat d=>cases hs
 | ow q d=>exact ⟨q,d,rfl⟩
 | bor d=>cases this
noncomputable def setO (i:Nat) (f:En→Option D):En→Option Fl:=fun ρ=>if zgy ρ=true then (f ρ).map fun d=>.nx (ρ.set i (some (.own d))) else none
theorem zdT (i:Nat) {x:Str}{pos':Pos} (hN:X.N.Nodup) (he:FP K .ow X e f) (hi:X.N[i]?=some x:=by rfl) (hx:Loc X.env.scope x:=by first | exact Or.inl rfl | exact Or.inr rfl) (hs:swapsWith e (some (.Name x pos')) pos.line X.env=pure false:=by rfl) (hf:X.fn x=true∨X.env.scope.names.lookup x=some .local:=by first | exact .inl rfl | exact .inr rfl | assumption) :
  FS K md X (.Assign [.Name x pos'] e pos) (setO i f):=FS.mk fun ρ fl hm=>by
 unfold setO at hm
 split at hm
 ·rename_i nb
  cases e1:f ρ with
  | none=>rw [e1] at hm;cases hm
  | some d=>
   rw [e1] at hm;cases hm
   refine PS.imp (ps_set hN hi hx (he.h ρ d e1) hs hf) fun D σ H ⟨F,r,q⟩=>⟨F,r,fun v F1 H1 g1 ⟨a,ev,h1,h2,h3⟩=>?_⟩
   subst ev
   have s1:=g1.step (ρ:=ρ) (σ:=σ)
   refine q _ F1 H1 (r.setO g1 h1 h2 h3 (zmG nb)) ⟨s1.ff,s1.rest,fun b z=>?_,zmk (fun d h=>by cases h),s1.fh⟩
   rcases zja z with ⟨_,_,_,z⟩ | z
   ·cases z;exact .inl h1
   ·exact .inr z
 ·cases hm
end
end FL
set_option Elab.async false
set_option linter.all false
set_option maxRecDepth 100000
namespace FL
open PySem PySem.Spec PyProof.Rows L2
section
variable {K:PySem.W.Frag}{F H F' H':Hp} {ρ ρ':En}{σ σ':St} {i:Nat}
theorem DatB.upd {d:D}{v:V} {a:Addr}{o:HO} (h:DatB K F H d v) (hv:v≠.ref a):DatB K F (upd H a o) d v:=by
 cases d with
 | lst l=>obtain ⟨b,vs,rfl,f,q⟩:=h.lst_inv;exact ⟨b,vs,rfl,by rw [zaw (fun z=>hv (by rw [z]))];exact f,q⟩
 | dic k l=>obtain ⟨b,vs,rfl,f,q⟩:=h.dic_inv;exact ⟨b,vs,rfl,f.at (zaw (fun z=>hv (by rw [z]))),q⟩
 | _=>exact h
theorem Rel.mut (r:Rel K F H ρ σ) {pp:Bool}{d d':D} {a:Addr}{o:HO} (e:ρ[i]?=some (some (.ow pp d))) (hσ:σ[i]?=some (some (.ref a))) (ho:Own K F (upd H a o) d' a) :
  Rel K F (upd H a o) (ρ.set i (some (.ow pp d'))) σ∧Step ρ σ F H (ρ.set i (some (.ow pp d'))) σ F (upd H a o):=by
 obtain ⟨a',e1,fa,_⟩:=r.own i pp d e
 rw [hσ] at e1;cases e1
 have sub:Same F (L2.upd H a o):=fun b u h=>by rw [zaw (zal h fa)];exact r.sub _ _ h
 have hi:i < ρ.length:=(List.getElem?_eq_some_iff.mp e).1
 refine ⟨⟨sub,fun j x q=>?_,fun j x q=>?_,fun j qq x q=>?_,fun j k qq x s c ne e1 e2 e3 e4=>?_,by simp [r.len]⟩,⟨Same.refl _,fun b u h n no=>⟨?_,n⟩,fun b h=>.inr ?_,fun j x e'=>?_,sub⟩⟩
 ·rcases zai q with ⟨rfl,q'⟩ | ⟨ne,q'⟩
  ·cases q'
  ·exact r.dat j x q'
 ·rcases zai q with ⟨rfl,q'⟩ | ⟨ne,q'⟩
  ·cases q'
  ·obtain ⟨v,h1,h2⟩:=r.bor j x q'
   refine ⟨v,h1,h2.upd fun z=>?_⟩
   subst z
   exact r.inj i j pp d _ a (Ne.symm ne) e hσ q' rfl h1
 ·rcases zai q with ⟨rfl,q'⟩ | ⟨ne,q'⟩
  ·cases q'
   exact ⟨a,hσ,fa,ho⟩
  ·obtain ⟨c,h1,h2,h3⟩:=r.own j qq x q'
   have hc:c≠a:=fun z=>by
    subst z
    exact r.inj i j pp d _ c (Ne.symm ne) e hσ q' rfl h1
   exact ⟨c,h1,h2,h3.mono (Same.refl _) fun u hu=>by rw [zaw hc];exact hu⟩
 ·rcases zai e1 with ⟨rfl,e1'⟩ | ⟨ne1,e1'⟩
  ·rcases zai e3 with ⟨rfl,e3'⟩ | ⟨ne3,e3'⟩
   ·exact absurd rfl ne
   ·exact r.inj j k pp d s c ne e e2 e3' e4
  ·rcases zai e3 with ⟨rfl,e3'⟩ | ⟨ne3,e3'⟩
   ·exact r.inj j k qq x (.ow pp d) c ne e1' e2 e rfl
   ·exact r.inj j k qq x s c ne e1' e2 e3' e4
 ·rw [zaw (fun z=>no (by subst z;exact ⟨i,pp,d,e,hσ⟩))];exact h
 ·obtain ⟨j,qq,x,j1,j2⟩:=h
  rcases zai j1 with ⟨rfl,j1'⟩ | ⟨ne,j1'⟩
  ·exact ⟨j,pp,d,e,j2⟩
  ·exact ⟨j,qq,x,j1',j2⟩
 ·rcases zai e' with ⟨rfl,e''⟩ | ⟨ne,e''⟩
  ·cases e''
   exact ⟨d,e,rfl⟩
  ·exact ⟨x,e'',rfl⟩
end
noncomputable def rdX (K:PySem.W.Frag) (ρ:En) (d:D) (ρ':En):TE:=fun σ H Q=>∃ F,Rel K F H ρ σ∧∀ v F' H',Rel K F' H' ρ' σ→Step ρ σ F H ρ' σ F' H'→Dat K F' d v→Q v H'
structure FX (K:PySem.W.Frag) (X:Cx) (e:Expr) (m:En→Option (D×En)):Prop where
 h:∀ ρ d ρ',m ρ=some (d,ρ')→PE X e (rdX K ρ d ρ')
noncomputable def appM (i:Nat) (f:En→Option D):En→Option (D×En):=fun ρ=>match ρ[i]?,f ρ with
 | some (some (.ow pp (.lst l))),some d=>if l.length < lim then some (.non,ρ.set i (some (.ow pp (.lst (l++[d]))))) else none
 | _,_=>none
noncomputable def extM (i:Nat) (f:En→Option D):En→Option (D×En):=fun ρ=>match ρ[i]?,f ρ with
 | some (some (.ow pp (.lst l))),some (.lst m)=>if l.length + m.length≤lim then some (.non,ρ.set i (some (.ow pp (.lst (l++m))))) else none
 | _,_=>none
noncomputable def popM (i:Nat):En→Option (D×En):=fun ρ=>match ρ[i]? with
 | some (some (.ow pp (.lst l)))=>(l[l.length - 1]?).map fun d=>(d,ρ.set i (some (.ow pp (.lst l.dropLast))))
 | _=>none
noncomputable def zea (i:Nat) (f:En→Option D):En→Option (D×En):=fun ρ=>match ρ[i]?,f ρ with
 | some (some (.ow pp (.lst l))),some (.int k)=>if -(2 ^ 63)≤k∧k < 2 ^ 63 then (seqIndex? k l.length).bind fun j=>(l[j]?).map fun d=>(d,ρ.set i (some (.ow pp (.lst (l.eraseIdx j))))) else none
 | _,_=>none
noncomputable def clrM (i:Nat):En→Option (D×En):=fun ρ=>match ρ[i]? with
 | some (some (.ow pp (.lst l)))=>some (.non,ρ.set i (some (.ow pp (.lst []))))
 | _=>none
section
variable {K:PySem.W.Frag}{md:Md} {X:Cx}{e:Expr} {f:En→Option D}{pos:Pos} {x:Str}{p apos cpos:Pos}
theorem zfx (i:Nat) (he:FP K .fz X e f) (hN:X.N[i]?=some x:=by rfl) (hv:Vis X.env.scope x:=by first | exact Or.inl rfl | exact Or.inr (Or.inl rfl) | exact Or.inr (Or.inr rfl)) (hd:(x == ("__debug__" : Str))=false:=by decide)
  (hcd:(x == ("__classdict__" : Str))=false:=by decide) (hbase:attributeBase (.Name x p) "append" X.env (eval (.Name x p) X.env)=eval (.Name x p) X.env:=by rfl)
  (hfew:((backTo cpos (starEach [e] X.env)).all (fun x=>!x.1) && (backToKw cpos (keywordEach [] X.env)).all (fun x=>x.1.isSome) && decide (([e]:List Expr).length + ([]:List Keyword).length + (if ([]:List Keyword).isEmpty then 0 else 1) < 30))=true:=by rfl)
  (hline:(apos.endLine == cpos.line)=true:=by rfl) (hs:starEach [e] X.env=(false,eval e X.env)::starEach [] X.env:=by rfl) (hplain:(backTo cpos (starEach [] X.env)).any (·.1)=false:=by rfl) (hK:X.K=K:=by rfl) :
  FX K X (.Call (.Attribute (.Name x p) "append" apos) [e] [] cpos) (appM i f):=FX.mk fun ρ d ρ' hf=>by
 subst hK
 unfold appM at hf
 split at hf
 ·rename_i pp l dd e1 e2
  obtain ⟨hz,hf⟩:=zaO hf
  cases hf
  refine PE.imp (pe_bm PySem.F.plainAttrs_list PySem.F.slot_list_append PySem.F.type_list_append zgB (zcK hN hv hd hcd) (zbk (he.h ρ dd e2) zcM hs) hbase hfew hline hs hplain) fun σ H Q h_=>?_
  obtain ⟨F,r,q⟩:=h_
  obtain ⟨a,h1,h2,vs,h3,h4⟩:=r.own i _ _ e1
  refine ⟨_,h1,.inl ⟨rfl,vs,SqL.of h3⟩,F,r,fun v F1 H1 g1 r1=>?_⟩
  have rg:=r.grow g1
  obtain ⟨a',h1',h2',vs',h3',h4'⟩:=rg.own i _ _ e1
  rw [h1] at h1';cases h1'
  have h3'':=g1.hh _ _ h3
  rw [h3'] at h3'';cases h3''
  refine ⟨a,vs,v,rfl,rfl,h3',by rw [h4'.length];exact zgJ (Nat.le_of_lt hz),?_⟩
  obtain ⟨m1,m2⟩:=rg.mut (i:=i) (o:=.lst (vs++[v])) (d':=.lst (l++[dd])) e1 h1 ⟨_,zas,h4'.snoc r1⟩
  exact q _ _ _ m1 (g1.step.trans m2 r.sub) (Dat.non (K:=X.K))
 ·cases hf
theorem zlO (i:Nat) (he:FP K .fz X e f) (hN:X.N[i]?=some x:=by rfl) (hv:Vis X.env.scope x:=by first | exact Or.inl rfl | exact Or.inr (Or.inl rfl) | exact Or.inr (Or.inr rfl)) (hd:(x == ("__debug__" : Str))=false:=by decide)
  (hcd:(x == ("__classdict__" : Str))=false:=by decide) (hbase:attributeBase (.Name x p) "extend" X.env (eval (.Name x p) X.env)=eval (.Name x p) X.env:=by rfl)
  (hfew:((backTo cpos (starEach [e] X.env)).all (fun x=>!x.1) && (backToKw cpos (keywordEach [] X.env)).all (fun x=>x.1.isSome) && decide (([e]:List Expr).length + ([]:List Keyword).length + (if ([]:List Keyword).isEmpty then 0 else 1) < 30))=true:=by rfl)
  (hline:(apos.endLine == cpos.line)=true:=by rfl) (hs:starEach [e] X.env=(false,eval e X.env)::starEach [] X.env:=by rfl) (hplain:(backTo cpos (starEach [] X.env)).any (·.1)=false:=by rfl) (hK:X.K=K:=by rfl) :
  FX K X (.Call (.Attribute (.Name x p) "extend" apos) [e] [] cpos) (extM i f):=FX.mk fun ρ d ρ' hf=>by
 subst hK
 unfold extM at hf
 split at hf
 ·rename_i pp l m e1 e2
  obtain ⟨hz,hf⟩:=zaO hf
  cases hf
  refine PE.imp (pe_bm PySem.F.plainAttrs_list PySem.F.slot_list_extend PySem.F.type_list_extend zmK (zcK hN hv hd hcd) (zbk (he.h ρ _ e2) zcM hs) hbase hfew hline hs hplain) fun σ H Q h_=>?_
  obtain ⟨F,r,q⟩:=h_
  obtain ⟨a,h1,h2,vs,h3,h4⟩:=r.own i _ _ e1
  refine ⟨_,h1,.inl ⟨rfl,vs,SqL.of h3⟩,F,r,fun v F1 H1 g1 r1=>?_⟩
  have rg:=r.grow g1
  obtain ⟨a',h1',h2',vs',h3',h4'⟩:=rg.own i _ _ e1
  rw [h1] at h1';cases h1'
  have h3'':=g1.hh _ _ h3
  rw [h3'] at h3'';cases h3''
  obtain ⟨b,us,rfl,f1,q1⟩:=Dat.lst_inv (K:=X.K) (F:=F1) r1
  refine ⟨a,b,vs,us,rfl,rfl,h3',g1.fh _ _ f1,by rw [h4'.length,q1.length];exact zel hz,?_⟩
  obtain ⟨m1,m2⟩:=rg.mut (i:=i) (o:=.lst (vs++us)) (d':=.lst (l++m)) e1 h1 ⟨_,zas,h4'.append q1⟩
  exact q _ _ _ m1 (g1.step.trans m2 r.sub) (Dat.non (K:=X.K))
 ·cases hf
theorem xpop (i:Nat) (hN:X.N[i]?=some x:=by rfl) (hv:Vis X.env.scope x:=by first | exact Or.inl rfl | exact Or.inr (Or.inl rfl) | exact Or.inr (Or.inr rfl)) (hd:(x == ("__debug__" : Str))=false:=by decide)
  (hcd:(x == ("__classdict__" : Str))=false:=by decide) (hbase:attributeBase (.Name x p) "pop" X.env (eval (.Name x p) X.env)=eval (.Name x p) X.env:=by rfl)
  (hline:(apos.endLine == cpos.line)=true:=by rfl) (hK:X.K=K:=by rfl) :
  FX K X (.Call (.Attribute (.Name x p) "pop" apos) [] [] cpos) (popM i):=FX.mk fun ρ d ρ' hf=>by
 subst hK
 unfold popM at hf
 split at hf
 ·rename_i pp l e1
  cases e2:l[l.length - 1]? with
  | none=>rw [e2] at hf;cases hf
  | some dd=>
   rw [e2] at hf;cases hf
   refine PE.imp (pe_bm0 PySem.F.plainAttrs_list PySem.F.slot_list_pop PySem.F.type_list_pop mt_pop (zcK hN hv hd hcd) hbase hline) fun σ H Q h_=>?_
   obtain ⟨F,r,q⟩:=h_
   obtain ⟨a,h1,h2,vs,h3,h4⟩:=r.own i _ _ e1
   obtain ⟨v,h5,h6⟩:=h4.get e2
   refine ⟨_,h1,.inl ⟨rfl,vs,SqL.of h3⟩,a,vs,v,rfl,rfl,h3,by rw [h4.length];exact h5,?_⟩
   obtain ⟨m1,m2⟩:=r.mut (i:=i) (o:=.lst vs.dropLast) (d':=.lst l.dropLast) e1 h1 ⟨_,zas,h4.dropLast⟩
   exact q _ _ _ m1 m2 h6
 ·cases hf
theorem xpopAt (i:Nat) (he:FP K .fz X e f) (hN:X.N[i]?=some x:=by rfl) (hv:Vis X.env.scope x:=by first | exact Or.inl rfl | exact Or.inr (Or.inl rfl) | exact Or.inr (Or.inr rfl)) (hd:(x == ("__debug__" : Str))=false:=by decide)
  (hcd:(x == ("__classdict__" : Str))=false:=by decide) (hbase:attributeBase (.Name x p) "pop" X.env (eval (.Name x p) X.env)=eval (.Name x p) X.env:=by rfl)
  (hfew:((backTo cpos (starEach [e] X.env)).all (fun x=>!x.1) && (backToKw cpos (keywordEach [] X.env)).all (fun x=>x.1.isSome) && decide (([e]:List Expr).length + ([]:List Keyword).length + (if ([]:List Keyword).isEmpty then 0 else 1) < 30))=true:=by rfl)
  (hline:(apos.endLine == cpos.line)=true:=by rfl) (hs:starEach [e] X.env=(false,eval e X.env)::starEach [] X.env:=by rfl) (hplain:(backTo cpos (starEach [] X.env)).any (·.1)=false:=by rfl) (hK:X.K=K:=by rfl) :
  FX K X (.Call (.Attribute (.Name x p) "pop" apos) [e] [] cpos) (zea i f):=FX.mk fun ρ d ρ' hf=>by
 subst hK
 unfold zea at hf
 split at hf
 ·rename_i pp l k e1 e2
  split at hf
  ·rename_i hk
   cases e3:seqIndex? k l.length with
   | none=>rw [e3] at hf;cases hf
   | some j=>
    cases e4:l[j]? with
    | none=>rw [e3] at hf;simp [e4] at hf
    | some dd=>
     rw [e3] at hf;simp [e4] at hf
     obtain ⟨hf1,hf2⟩:=hf
     subst hf1 hf2
     refine PE.imp (pe_bm PySem.F.plainAttrs_list PySem.F.slot_list_pop PySem.F.type_list_pop mt_popAt (zcK hN hv hd hcd) (zbk (he.h ρ _ e2) zcM hs) hbase hfew hline hs hplain) fun σ H Q h_=>?_
     obtain ⟨F,r,q⟩:=h_
     obtain ⟨a,h1,h2,vs,h3,h4⟩:=r.own i _ _ e1
     refine ⟨_,h1,.inl ⟨rfl,vs,SqL.of h3⟩,F,r,fun v F1 H1 g1 r1=>?_⟩
     have rg:=r.grow g1
     obtain ⟨a',h1',h2',vs',h3',h4'⟩:=rg.own i _ _ e1
     rw [h1] at h1';cases h1'
     have ev:=Dat.int_inv (K:=X.K) (F:=F1) r1
     subst ev
     obtain ⟨w,h5,h6⟩:=h4'.get e4
     refine ⟨a,vs',k,j,w,rfl,rfl,h3',hk.1,hk.2,by rw [h4'.length];exact e3,h5,?_⟩
     obtain ⟨m1,m2⟩:=rg.mut (i:=i) (o:=.lst (vs'.eraseIdx j)) (d':=.lst (l.eraseIdx j)) e1 h1 ⟨_,zas,h4'.eraseIdx j⟩
     exact q _ _ _ m1 (g1.step.trans m2 r.sub) h6
  ·cases hf
 ·cases hf
theorem xclear (i:Nat) (hN:X.N[i]?=some x:=by rfl) (hv:Vis X.env.scope x:=by first | exact Or.inl rfl | exact Or.inr (Or.inl rfl) | exact Or.inr (Or.inr rfl)) (hd:(x == ("__debug__" : Str))=false:=by decide)
  (hcd:(x == ("__classdict__" : Str))=false:=by decide) (hbase:attributeBase (.Name x p) "clear" X.env (eval (.Name x p) X.env)=eval (.Name x p) X.env:=by rfl)
  (hline:(apos.endLine == cpos.line)=true:=by rfl) (hK:X.K=K:=by rfl) :
  FX K X (.Call (.Attribute (.Name x p) "clear" apos) [] [] cpos) (clrM i):=FX.mk fun ρ d ρ' hf=>by
 subst hK
 unfold clrM at hf
 split at hf
 ·rename_i pp l e1
  cases hf
  refine PE.imp (pe_bm0 PySem.F.plainAttrs_list PySem.F.slot_list_clear PySem.F.type_list_clear mt_clear (zcK hN hv hd hcd) hbase hline) fun σ H Q h_=>?_
  obtain ⟨F,r,q⟩:=h_
  obtain ⟨a,h1,h2,vs,h3,h4⟩:=r.own i _ _ e1
  refine ⟨_,h1,.inl ⟨rfl,vs,SqL.of h3⟩,a,vs,rfl,rfl,h3,?_⟩
  obtain ⟨m1,m2⟩:=r.mut (i:=i) (o:=.lst []) (d':=.lst []) e1 h1 ⟨_,zas,DatL.nil⟩
  exact q _ _ _ m1 m2 (Dat.non (K:=X.K))
 ·cases hf
noncomputable def zdK (m:En→Option (D×En)):En→Option Fl:=fun ρ=>(m ρ).map fun p=>.nx p.2
theorem zfn {m:En→Option (D×En)}(he:FX K X e m) (hs:swapsWith e none pos.line X.env=pure false:=by rfl):FS K md X (.Expr e pos) (zdK m):=FS.mk fun ρ fl hf=>by
 unfold zdK at hf
 cases e1:m ρ with
 | none=>rw [e1] at hf;cases hf
 | some q1=>
  obtain ⟨d,ρ1⟩:=q1
  rw [e1] at hf;cases hf
  exact PS.imp (zmg (he.h ρ d ρ1 e1) hs) fun D σ H ⟨F,r,q⟩=>⟨F,r,fun v F1 H1 r1 s1 _=>q σ F1 H1 r1 s1⟩
noncomputable def asgX (m:En→Option (D×En)) (g:D→En→Option En):En→Option Fl:=fun ρ=>(m ρ).bind fun p=>(g p.1 p.2).map Fl.nx
theorem zhl {m:En→Option (D×En)}{tg:Expr} {g:D→En→Option En}(he:FX K X e m) (hg:FG K X tg g) (hs:swapsWithSole [tg] e pos.line X.env=pure false:=by rfl) (hw:swappedStores [tg] e X.env=pure none:=by rfl)
  (h1:(assignEach [tg] X.env).map (·.2)=[assign tg X.env]:=by rfl):FS K md X (.Assign [tg] e pos) (asgX m g):=FS.mk fun ρ fl hf=>by
 unfold asgX at hf
 cases e1:m ρ with
 | none=>rw [e1] at hf;cases hf
 | some q1=>
  obtain ⟨d,ρ1⟩:=q1
  cases e2:g d ρ1 with
  | none=>rw [e1] at hf;simp [e2] at hf
  | some ρ2=>
   rw [e1] at hf;simp [e2] at hf;cases hf
   refine PS.imp (ziT (he.h ρ d ρ1 e1) (hg.h ρ1 d ρ2 e2) hs hw h1) fun D σ H ⟨F,r,q⟩=>⟨F,r,fun v F1 H1 r1 s1 h=>⟨F1,r1,h,fun σ2 r2 o2=>?_⟩⟩
   exact q σ2 F1 H1 r2 (s1.kp o2)
noncomputable def cmpX (pp:D→D→Option D) (m:En→Option (D×En)) (fb:En→Option D):En→Option (Bool×En):=fun ρ=>(m ρ).bind fun q=>(fb q.2).bind fun y=>match pp q.1 y with
 | some (.bl c)=>some (c,q.2)
 | _=>none
noncomputable def valX (m:En→Option (D×En)):En→Option (Bool×En):=fun ρ=>match m ρ with
 | some (.bl c,ρ1)=>some (c,ρ1)
 | _=>none
theorem mcmpX {m:En→Option (D×En)}{b:Expr} {fb:En→Option D}{pp:D→D→Option D} {op:CmpOp}(o:Op2 K X (compareOp op) .fz pp) (ha:FX K X e m) (hb:FP K .br X b fb) (hm:behindInMarks op b=false) :
  FT K X (.Compare e [op] [b] pos) (cmpX pp m fb):=FT.mk fun ρ c ρ' hf=>by
 unfold cmpX at hf
 cases e1:m ρ with
 | none=>rw [e1] at hf;cases hf
 | some q1=>
  obtain ⟨x,ρ1⟩:=q1
  cases e2:fb ρ1 with
  | none=>rw [e1] at hf;simp [e2] at hf
  | some y=>
   rw [e1] at hf;simp only [Option.bind_some,e2] at hf
   split at hf
   ·rename_i c' e3
    cases hf
    obtain ⟨r,ho,hr⟩:=o
    refine PT.imp (zjO ho (ha.h ρ x _ e1) (hb.h _ y e2) hm) fun σ H Q h_=>?_
    obtain ⟨F,rl,q⟩:=h_
    refine ⟨F,rl,fun v F1 H1 r1 s1 d1=>⟨F1,r1,fun u F2 H2 g2 d2=>?_⟩⟩
    refine hr x y _ F2 H2 v u _ e3 g2.fh ((d1.mono g2.ff).b g2.fh) d2 fun w F3 H3 g3 d3=>⟨c,Dat.bl_inv (K:=K) (F:=F3) d3,?_⟩
    exact q F3 H3 ((r1.grow g2).grow g3) (s1.trans ((g2.trans g3).step) rl.sub)
   ·cases hf
theorem mvalX {m:En→Option (D×En)}(h:FX K X e m) (he:∀ whole,isTrue e X.env whole=(do let v ← whole;standAt e.pos;holding [v] (truthy v)):=by intro _;rfl) :
  FT K X e (valX m):=FT.mk fun ρ c ρ' hf=>by
 unfold valX at hf
 split at hf
 ·rename_i c' ρ1 e1
  cases hf
  exact PT.imp (pt_val (h.h ρ _ _ e1) he) fun σ H Q ⟨F,rl,q⟩=>⟨F,rl,fun v F' H' r' s' h=>⟨c,Dat.bl_inv (K:=K) (F:=F') h,q F' H' r' s'⟩⟩
 ·cases hf
end
end FL
set_option Elab.async false
set_option linter.all false
set_option maxRecDepth 100000
namespace FL
open PySem PySem.Spec PyProof.Rows L2
noncomputable def zcE (t:En→Option (Bool×En)) (b:En→Option Fl):Nat→En→Option Fl
 | 0,_=>none
 | n + 1,ρ=>match t ρ with
  | some (true,ρ1)=>match b ρ1 with
   | some (.nx ρ2)=>zcE t b n ρ2
   | some (.ct ρ2)=>zcE t b n ρ2
   | some (.bk ρ2)=>some (.nx ρ2)
   | some (.rt d ρ2)=>some (.rt d ρ2)
   | none=>none
  | some (false,ρ1)=>some (.nx ρ1)
  | none=>none
section
variable {K:PySem.W.Frag}{md:Md} {X:Cx}{pos:Pos}
theorem PT.any {c:Expr}{ι:Type} {t:ι→TT}(h:∀ i,PT X c (t i)):PT X c (fun σ H Q=>∃ i,t i σ H Q):=fun pins s σ H Q I ⟨i,hi⟩=>h i pins s σ H Q I hi
theorem PSs.any {c:List Stmt}{ι:Type} {t:ι→TS}(h:∀ i,PSs X c (t i)):PSs X c (fun D σ H=>∃ i,t i D σ H):=fun pins s σ H D I ⟨i,hi⟩=>h i pins s σ H D I hi
theorem PE.any {c:Expr}{ι:Type} {t:ι→TE}(h:∀ i,PE X c (t i)):PE X c (fun σ H Q=>∃ i,t i σ H Q):=fun pins s σ H Q I ⟨i,hi⟩=>h i pins s σ H Q I hi
theorem PG.any {c:Expr}{ι:Type} {t:ι→TG}(h:∀ i,PG X c (t i)):PG X c (fun v σ H Q=>∃ i,t i v σ H Q):=fun pins s σ H v u Q I r ⟨i,hi⟩=>h i pins s σ H v u Q I r hi
theorem PIf.any {c:List Expr}{ι:Type} {t:ι→TT}(h:∀ i,PIf X c (t i)):PIf X c (fun σ H Q=>∃ i,t i σ H Q):=fun pins s σ H Q I ⟨i,hi⟩=>h i pins s σ H Q I hi
theorem swhile {c:Expr}{body:List Stmt} {t:En→Option (Bool×En)}{b:En→Option Fl} (n:Nat) (hp:PassesOwn (model X.prog X.w) X.A X.env X.xe) (hc:FT K X c t) (hb:FSs K md X body b):FS K md X (.While c body [] pos) (zcE t b n):=FS.mk fun ρ fl hf=>by
 have hc':=PT.any (X:=X) (c:=c) (t:=fun i:{ q:En×Bool×En // t q.1=some q.2 }=>rdT K i.1.1 i.1.2.1 i.1.2.2) fun i=>hc.h _ _ _ i.2
 have hb':=PSs.any (X:=X) (c:=body) (t:=fun i:{ q:En×Fl // b q.1=some q.2 }=>rdS K md i.1.1 i.1.2) fun i=>hb.h _ _ i.2
 refine PS.imp (ps_while hp hc' hb') fun D σ H h_=>?_
 obtain ⟨F,r,q⟩:=h_
 refine ⟨fun k σ1 H1=>∃ ρ1 F1,Rel K F1 H1 ρ1 σ1∧Step ρ σ F H ρ1 σ1 F1 H1∧zcE t b k ρ1=some fl,⟨n,ρ,F,r,(Grow.refl r.sub).step,hf⟩,?_⟩
 rintro k σ1 H1 ⟨ρ1,F1,r1,s1,e1⟩
 cases k with
 | zero=>simp [zcE] at e1
 | succ k=>
  simp only [zcE] at e1
  cases e2:t ρ1 with
  | none=>rw [e2] at e1;cases e1
  | some p=>
   obtain ⟨c1,ρ2⟩:=p
   rw [e2] at e1
   refine ⟨⟨(ρ1,c1,ρ2),e2⟩,F1,r1,fun F2 H2 r2 s2=>?_⟩
   have s12:=s1.trans s2 r.sub
   cases c1 with
   | false=>
    have e1:some (Fl.nx ρ2)=some fl:=e1
    cases e1
    exact iteF (q σ1 F2 H2 r2 s12)
   | true=>
    refine iteT ?_
    refine ⟨fun σ' H'=>∃ ρ3 F3,Rel K F3 H' ρ3 σ'∧Step ρ σ F H ρ3 σ' F3 H'∧zcE t b k ρ3=some fl,fun σ' H' z=>⟨k,Nat.lt_succ_self k,z⟩,?_⟩
    cases e3:b ρ2 with
    | none=>simp only [e3] at e1;cases e1
    | some fl2=>
     simp only [e3] at e1
     refine ⟨⟨(ρ2,fl2),e3⟩,F2,r2,?_⟩
     cases fl2 with
     | nx ρ3=>exact fun σ3 F3 H3 r3 s3=>⟨ρ3,F3,r3,s12.trans s3 r.sub,e1⟩
     | ct ρ3=>exact fun σ3 F3 H3 r3 s3=>⟨ρ3,F3,r3,s12.trans s3 r.sub,e1⟩
     | bk ρ3=>cases e1;exact fun σ3 F3 H3 r3 s3=>q σ3 F3 H3 r3 (s12.trans s3 r.sub)
     | rt d ρ3=>cases e1;exact fun v σ3 F3 H3 r3 s3 h=>q v σ3 F3 H3 r3 (s12.trans s3 r.sub) (ResR.back s12 r.sub h)
end
noncomputable def zhh (K:PySem.W.Frag) (J:It) (F:Hp) (ds:List D):Prop:=∀ F2 H2,Same F F2→Same F2 H2→
 (∀ i,i < ds.length→J.go i H2)∧(∀ i x H3 d,ds[i]?=some d→J.yld i H2 x H3→∃ F3,Grow F2 H2 F3 H3∧Dat K F3 d x)∧J.stop ds.length H2
noncomputable def rdI (K:PySem.W.Frag) (ρ:En) (ds:List D):TI:=fun σ H R=>∃ F,Rel K F H ρ σ∧∀ J F' H',Grow F H F' H'→zhh K J F' ds→R J H'
structure FI (K:PySem.W.Frag) (X:Cx) (tg iter:Expr) (f:En→Option (List D)):Prop where
 h:∀ ρ ds,f ρ=some ds→PI X tg iter (rdI K ρ ds)
theorem PI.imp {X:Cx}{tg iter:Expr} {t t':TI}(h:PI X tg iter t) (w:∀ σ H R,t' σ H R→t σ H R):PI X tg iter t':=fun pins s σ H R I ht=>h pins s σ H R I (w σ H R ht)
noncomputable def itS:D→Option (List D)
 | .lst l=>some l
 | .tup l=>some l
 | .scr l=>some (l.map D.int)
 | _=>none
noncomputable def cI (f:En→Option D):En→Option (List D):=fun ρ=>(f ρ).bind itS
theorem zjn {K:PySem.W.Frag}{a:Addr} {F:Hp}{vs:List V} {ds:List D}(h:∀ F2 H2,Same F F2→Same F2 H2→SqL K H2 a vs) (q:DatL K F ds vs):zhh K (Itl K a) F ds:=fun F2 H2 f2 h2=>by
 have hs:=h F2 H2 f2 h2
 have hl:=q.length
 refine ⟨fun i hi=>⟨vs,vs[i]'(by omega),hs,by simp⟩,fun i x H3 d hd y=>?_,⟨vs,hs,by omega⟩⟩
 obtain ⟨rfl,y⟩:=y
 obtain ⟨v,hv,dv⟩:=q.get hd
 rw [y vs hs] at hv;cases hv
 exact ⟨F2,Grow.refl h2,dv.mono f2⟩
theorem iter_tup {K:PySem.W.Frag}{a:Addr} {F:Hp}{vs:List V} {ds:List D}(h:F a=some (.tup vs)) (q:DatL K F ds vs):zhh K (Itt K a) F ds:=fun F2 H2 f2 h2=>by
 have hs:SqT K H2 a vs:=SqT.of (h2 _ _ (f2 _ _ h))
 have hl:=q.length
 refine ⟨fun i hi=>⟨vs,vs[i]'(by omega),hs,by simp⟩,fun i x H3 d hd y=>?_,⟨vs,hs,by omega⟩⟩
 obtain ⟨rfl,y⟩:=y
 obtain ⟨v,hv,dv⟩:=q.get hd
 rw [y vs hs] at hv;cases hv
 exact ⟨F2,Grow.refl h2,dv.mono f2⟩
section
variable {K:PySem.W.Frag}{md:Md} {X:Cx}{pos:Pos} {tg l:Expr}{f:En→Option D}
theorem iseq (h:FP K .fz X l f) (hK:X.K=K:=by rfl):FI K X tg l (cI f):=FI.mk fun ρ ds hf=>by
 subst hK
 unfold cI at hf
 cases e1:f ρ with
 | none=>rw [e1] at hf;cases hf
 | some d=>
  rw [e1] at hf
  have hf:itS d=some ds:=hf
  cases d<;>simp only [itS] at hf<;>try (cases hf;done)
  ·cases hf
   refine PI.imp (pi_tup (h.h ρ _ e1)) fun σ H R ⟨F,r,q⟩=>⟨F,r,fun v F1 H1 g1 r1=>?_⟩
   obtain ⟨a,vs,rfl,f1,q1⟩:=Dat.tup_inv (K:=X.K) (F:=F1) r1
   exact ⟨a,rfl,⟨vs,SqT.of (g1.fh _ _ f1)⟩,q _ F1 H1 g1 (iter_tup f1 q1)⟩
  ·cases hf
   refine PI.imp (zmo (h.h ρ _ e1)) fun σ H R ⟨F,r,q⟩=>⟨F,r,fun v F1 H1 g1 r1=>?_⟩
   obtain ⟨a,vs,rfl,f1,q1⟩:=Dat.lst_inv (K:=X.K) (F:=F1) r1
   exact ⟨a,rfl,⟨vs,SqL.of (g1.fh _ _ f1)⟩,q _ F1 H1 g1 (zjn (fun F2 H2 a b=>SqL.of (b _ _ (a _ _ f1))) q1)⟩
  ·cases hf
   refine PI.imp (zmo (h.h ρ _ e1)) fun σ H R ⟨F,r,q⟩=>⟨F,r,fun v F1 H1 g1 r1=>?_⟩
   obtain ⟨a,rfl,f1⟩:=Dat.scr_inv (K:=X.K) (F:=F1) r1
   exact ⟨a,rfl,⟨_,Same.seq g1.fh f1⟩,q _ F1 H1 g1 (zjn (fun F2 H2 a b=>Same.seq b (Same.seq a f1)) (DatL.ofInts _))⟩
noncomputable def zaU (lo:Int) (n:Nat):List D:=(List.range n).map fun (k:Nat)=>D.int (lo + (k:Int))
theorem zhJ {lo:Int}{n:Nat} {F:Hp}:zhh K (Itr lo n) F (zaU lo n):=fun F2 H2 f2 h2=>by
 refine ⟨fun i hi=>(show i < n by simpa [zaU] using hi),fun i x H3 d hd y=>?_,by simp [zaU,Itr]⟩
 obtain ⟨rfl,rfl⟩:=y
 have:d=D.int (lo + (i:Int)):=by
  unfold zaU at hd
  rw [List.getElem?_map] at hd
  cases e:(List.range n)[i]? with
  | none=>rw [e] at hd;cases hd
  | some k=>
   rw [e] at hd
   have:=(List.getElem?_eq_some_iff.mp e).2
   simp at this
   subst this
   exact (Option.some.inj hd).symm
 subst this
 exact ⟨F2,Grow.refl h2,Dat.int (K:=K) (F:=F2) _⟩
noncomputable def zeO (j:Int):Prop:=-(2 ^ 62)≤j∧j < 2 ^ 62
theorem zaZ {j:Int}(h1:-4611686018427387904≤j) (h2:j < 4611686018427387904):zeO j:=⟨h1,h2⟩
open Classical in
noncomputable def rng1:D→Option (List D)
 | .int j=>if zeO j then some (zaU 0 j.toNat) else none
 | _=>none
open Classical in
noncomputable def rng2:D→D→Option (List D)
 | .int i,.int j=>if zeO i∧zeO j then some (zaU i (j - i).toNat) else none
 | _,_=>none
noncomputable def cR1 (f:En→Option D):En→Option (List D):=fun ρ=>(f ρ).bind rng1
noncomputable def cR2 (f g:En→Option D):En→Option (List D):=fun ρ=>(f ρ).bind fun x=>(g ρ).bind fun y=>rng2 x y
theorem zbZ {a:Expr}{p:Pos} (h:FP K .fz X a f) (hg:Gl X "range") (hm:X.mg "range" = none) (hs:starEach [a] X.env=[(false,eval a X.env)]:=by rfl):FI K X tg (.Call (.Name "range" p) [a] [] pos) (cR1 f):=FI.mk fun ρ ds hf=>by
 unfold cR1 at hf
 cases e1:f ρ with
 | none=>rw [e1] at hf;cases hf
 | some d=>
  rw [e1] at hf
  have hf:rng1 d=some ds:=hf
  cases d<;>simp only [rng1] at hf<;>try (cases hf;done)
  obtain ⟨hz,rfl⟩:=zaO hf
  refine PI.imp (zmn hg hm (zbk (h.h ρ _ e1) zcM hs) hs) fun σ H R ⟨F,r,q⟩=>⟨F,r,fun v F1 H1 g1 r1=>?_⟩
  have ev:=Dat.int_inv (K:=K) (F:=F1) r1
  subst ev
  exact ⟨_,rfl,hz.1,hz.2,q _ F1 H1 g1 zhJ⟩
theorem irange2 {a b:Expr}{p:Pos} {g:En→Option D}(h:FP K .fz X a f) (h':FP K .fz X b g) (hg:Gl X "range") (hm:X.mg "range" = none) (hs:starEach [a,b] X.env=[(false,eval a X.env),(false,eval b X.env)]:=by rfl) (hs2:starEach [b] X.env=[(false,eval b X.env)]:=by rfl) :
  FI K X tg (.Call (.Name "range" p) [a,b] [] pos) (cR2 f g):=FI.mk fun ρ ds hf=>by
 unfold cR2 at hf
 cases e1:f ρ with
 | none=>rw [e1] at hf;cases hf
 | some d=>
  cases e2:g ρ with
  | none=>rw [e1] at hf;simp [e2] at hf
  | some d2=>
   rw [e1] at hf
   simp only [Option.bind_some,e2] at hf
   cases d<;>cases d2<;>simp only [rng2] at hf<;>try (cases hf;done)
   obtain ⟨hz,rfl⟩:=zaO hf
   refine PI.imp (zmm hg hm (zbk (h.h ρ _ e1) (zbk (h'.h ρ _ e2) zcM hs2) (by rw [hs,hs2])) hs hs2) fun σ H R ⟨F,r,q⟩=>⟨F,r,fun v F1 H1 g1 r1=>⟨F1,r.grow g1,fun u F2 H2 g2 r2=>?_⟩⟩
   have ev:=Dat.int_inv (K:=K) (F:=F1) r1
   have eu:=Dat.int_inv (K:=K) (F:=F2) r2
   subst ev eu
   exact ⟨_,_,rfl,⟨hz.1.1,hz.1.2,hz.2.1,hz.2.2⟩,q _ F2 H2 (g1.trans g2) zhJ⟩
noncomputable def zgS:Nat→List D→List D
 | _,[]=>[]
 | k,d::l=>.tup [.int k,d]::zgS (k + 1) l
theorem zeu:∀ (k:Nat) (l:List D) (i:Nat) (d:D),(zgS k l)[i]?=some d→∃ x,l[i]?=some x∧d=.tup [.int ((k + i:Nat):Int),x]
 | _,[],i,d,h=>by simp [zgS] at h
 | k,x::l,0,d,h=>by simp [zgS] at h;exact ⟨x,rfl,by rw [← h];simp⟩
 | k,x::l,i + 1,d,h=>by
  obtain ⟨y,h1,h2⟩:=zeu (k + 1) l i d (by simpa [zgS] using h)
  exact ⟨y,by simpa using h1,by rw [h2,show k + 1 + i=k + (i + 1) by omega]⟩
theorem zco:∀ (k:Nat) (l:List D),(zgS k l).length=l.length
 | _,[]=>rfl
 | k,_::l=>by simp [zgS,zco (k + 1) l]
noncomputable def cEnT (f:En→Option D):En→Option (List D):=fun ρ=>match f ρ with
 | some (.tup l)=>some (zgS 0 l)
 | _=>none
theorem ienumT {elts:List Expr}{k:Nat} {tpos p:Pos}{a:Expr} (h:FP K .fz X a f) (hg:Gl X "enumerate") (hm:X.mg "enumerate" = none) (hs:starEach [a] X.env=[(false,eval a X.env)]:=by rfl) (hK:X.K=K:=by rfl) :
  FI K X (.Tuple elts k tpos) (.Call (.Name "enumerate" p) [a] [] pos) (cEnT f):=FI.mk fun ρ ds hf=>by
 subst hK
 unfold cEnT at hf
 split at hf
 ·rename_i l e1
  cases hf
  refine PI.imp (pi_enumT hg hm (zbk (h.h ρ _ e1) zcM hs) hs) fun σ H R ⟨F,r,q⟩=>⟨F,r,fun v F1 H1 g1 r1=>?_⟩
  obtain ⟨a,vs,rfl,f1,q1⟩:=Dat.tup_inv (K:=X.K) (F:=F1) r1
  refine ⟨a,vs,rfl,SqT.of (g1.fh _ _ f1),q _ F1 H1 g1 fun F2 H2 a2 b2=>?_⟩
  have hs:SqT X.K H2 a vs:=SqT.of (b2 _ _ (a2 _ _ f1))
  have hl:=q1.length
  refine ⟨fun i hi=>?_,fun i x H3 d hd y=>?_,?_⟩
  ·rw [zco] at hi
   exact ⟨vs,vs[i]'(by omega),hs,by simp⟩
  ·obtain ⟨x0,hx0,rfl⟩:=zeu 0 l i d hd
   obtain ⟨pp,vv,hpp,rfl,rfl,hv⟩:=y
   obtain ⟨w,hw,dw⟩:=q1.get hx0
   rw [hv vs hs] at hw;cases hw
   have g:=Grow.frozen (o:=.tup [.int (i:Int),vv]) b2 hpp
   refine ⟨_,g,Dat.tup (K:=X.K) zas ?_⟩
   rw [Nat.zero_add]
   exact DatL.cons (Dat.int (K:=X.K) _) (DatL.cons ((dw.mono a2).mono g.ff) DatL.nil)
  ·rw [zco]
   exact ⟨vs,hs,by omega⟩
 ·cases hf
noncomputable def forM (g:D→En→Option En) (b:En→Option Fl):List D→En→Option Fl
 | [],ρ=>some (.nx ρ)
 | x::xs,ρ=>match g x ρ with
  | some ρ1=>match b ρ1 with
   | some (.nx ρ2)=>forM g b xs ρ2
   | some (.ct ρ2)=>forM g b xs ρ2
   | some (.bk ρ2)=>some (.nx ρ2)
   | some (.rt d ρ2)=>some (.rt d ρ2)
   | none=>none
  | none=>none
noncomputable def forS (fi:En→Option (List D)) (g:D→En→Option En) (b:En→Option Fl):En→Option Fl:=fun ρ=>(fi ρ).bind fun ds=>forM g b ds ρ
theorem sfor {iter:Expr}{body:List Stmt} {fi:En→Option (List D)}{g:D→En→Option En} {b:En→Option Fl}(hp:PassesOwn (model X.prog X.w) X.A X.env X.xe) (hc:X.calm=true) (hi:FI K X tg iter fi) (hg:FG K X tg g) (hb:FSs K md X body b)
  (hs:∀ x,foldedSetIterable iter X.env x=pure x:=by intro _;rfl):FS K md X (.For tg iter body [] pos) (forS fi g b):=FS.mk fun ρ fl hf=>by
 unfold forS at hf
 cases e1:fi ρ with
 | none=>rw [e1] at hf;cases hf
 | some ds=>
  rw [e1] at hf
  have hf:forM g b ds ρ=some fl:=hf
  have hg':=PG.any (X:=X) (c:=tg) (t:=fun i:{ q:En×D×En // g q.2.1 q.1=some q.2.2 }=>rdG K i.1.1 i.1.2.1 i.1.2.2) fun i=>hg.h _ _ _ i.2
  have hb':=PSs.any (X:=X) (c:=body) (t:=fun i:{ q:En×Fl // b q.1=some q.2 }=>rdS K md i.1.1 i.1.2) fun i=>hb.h _ _ i.2
  refine PS.imp (ps_for hp hc (hi.h ρ ds e1) hg' hb' hs) fun D σ H ⟨F,r,q⟩=>⟨F,r,fun J F0 H0 g0 ok=>?_⟩
  refine ⟨fun i k σ1 H1=>i≤ds.length∧k=ds.length - i∧∃ ρ1 F1,Rel K F1 H1 ρ1 σ1∧Step ρ σ F H ρ1 σ1 F1 H1∧Same F0 F1∧forM g b (ds.drop i) ρ1=some fl,
   ⟨ds.length,Nat.zero_le _,rfl,ρ,F0,r.grow g0,g0.step,Same.refl _,hf⟩,?_⟩
  rintro i k σ1 H1 ⟨hi,rfl,ρ1,F1,r1,s1,ff1,e2⟩
  obtain ⟨o1,o2,o3⟩:=ok F1 H1 ff1 r1.sub
  by_cases hlt:i < ds.length
  ·rw [List.drop_eq_getElem_cons hlt] at e2
   simp only [forM] at e2
   refine .inr ⟨o1 i hlt,fun σ' H'=>i + 1≤ds.length∧∃ ρ3 F3,Rel K F3 H' ρ3 σ'∧Step ρ σ F H ρ3 σ' F3 H'∧Same F0 F3∧forM g b (ds.drop (i + 1)) ρ3=some fl,fun σ' H' ⟨z1,z2⟩=>⟨ds.length - (i + 1),by omega,z1,rfl,z2⟩,fun x H2 y=>?_⟩
   obtain ⟨F2,g2,d2⟩:=o2 i x H2 _ (List.getElem?_eq_getElem hlt) y
   have r2:=r1.grow g2
   have s2:=s1.trans (g2.step (ρ:=ρ1) (σ:=σ1)) r.sub
   cases e3:g ds[i] ρ1 with
   | none=>rw [e3] at e2;cases e2
   | some ρ2=>
    rw [e3] at e2
    refine ⟨⟨(ρ1,ds[i],ρ2),e3⟩,F2,r2,d2,fun σ2 r2' ow=>?_⟩
    have s2':Step ρ σ F H ρ2 σ2 F2 H2:=s2.kp ow
    cases e4:b ρ2 with
    | none=>simp only [e4] at e2;cases e2
    | some fl2=>
     simp only [e4] at e2
     refine ⟨⟨(ρ2,fl2),e4⟩,F2,r2',?_⟩
     cases fl2 with
     | nx ρ3=>exact fun σ3 F3 H3 r3 s3=>⟨hlt,ρ3,F3,r3,s2'.trans s3 r.sub,ff1.trans (g2.ff.trans s3.ff),e2⟩
     | ct ρ3=>exact fun σ3 F3 H3 r3 s3=>⟨hlt,ρ3,F3,r3,s2'.trans s3 r.sub,ff1.trans (g2.ff.trans s3.ff),e2⟩
     | bk ρ3=>cases e2;exact fun σ3 F3 H3 r3 s3=>q σ3 F3 H3 r3 (s2'.trans s3 r.sub)
     | rt d ρ3=>cases e2;exact fun v σ3 F3 H3 r3 s3 h=>q v σ3 F3 H3 r3 (s2'.trans s3 r.sub) (ResR.back s2' r.sub h)
  ·have e:i=ds.length:=by omega
   subst e
   rw [List.drop_length] at e2
   have e2:some (Fl.nx ρ1)=some fl:=e2
   cases e2
   exact .inl ⟨o3,q σ1 F1 H1 r1 s1⟩
end
end FL
set_option Elab.async false
set_option linter.all false
set_option maxRecDepth 100000
namespace FL
open PySem PySem.Spec PyProof.Rows L2
noncomputable def bors:Option Sl→Option Sl
 | some (.ow _ d)=>some (.bor d)
 | s=>s
noncomputable def st0E (cap:List (Option Nat)) (ρ:En):En:=cap.map fun o=>match o with
 | some j=>bors ((ρ[j]?).getD none)
 | none=>none
theorem zdy {cap:List (Option Nat)}{ρ:En} {i:Nat}{s:Sl} (h:(st0E cap ρ)[i]?=some (some s)):∃ j s0,cap[i]?=some (some j)∧ρ[j]?=some (some s0)∧bors (some s0)=some s:=by
 unfold st0E at h
 rw [List.getElem?_map] at h
 cases e:cap[i]? with
 | none=>rw [e] at h;cases h
 | some o=>
  rw [e] at h
  cases o with
  | none=>cases h
  | some j=>
   have h:bors ((ρ[j]?).getD none)=some s:=Option.some.inj h
   cases e2:ρ[j]? with
   | none=>rw [e2] at h;cases h
   | some o2=>
    rw [e2] at h
    cases o2 with
    | none=>cases h
    | some s0=>exact ⟨j,s0,rfl,e2,h⟩
theorem zgk {cap:List (Option Nat)}{σ:St} {i j:Nat}{v:V} (h:cap[i]?=some (some j)) (e:σ[j]?=some (some v)):(st0 cap σ)[i]?=some (some v):=by
 unfold st0
 rw [List.getElem?_map,h]
 simp [e]
theorem Rel.inner {K:PySem.W.Frag}{F H:Hp} {ρ:En}{σ:St} {cap:List (Option Nat)}(r:Rel K F H ρ σ):Rel K F H (st0E cap ρ) (st0 cap σ):=by
 refine ⟨r.sub,fun i d h=>?_,fun i d h=>?_,fun i q d h=>?_,fun i j q d s a ne h1=>?_,by simp [st0E,st0]⟩
 ·obtain ⟨j,s0,e1,e2,e3⟩:=zdy h
  cases s0<;>simp [bors] at e3
  subst e3
  obtain ⟨v,h1,h2⟩:=r.dat j _ e2
  exact ⟨v,zgk e1 h1,h2⟩
 ·obtain ⟨j,s0,e1,e2,e3⟩:=zdy h
  cases s0<;>simp [bors] at e3<;>subst e3
  ·obtain ⟨a,h1,_,h2⟩:=r.own j _ _ e2
   exact ⟨_,zgk e1 h1,h2.b⟩
  ·obtain ⟨v,h1,h2⟩:=r.bor j _ e2
   exact ⟨v,zgk e1 h1,h2⟩
 ·obtain ⟨j,s0,e1,e2,e3⟩:=zdy h
  cases s0<;>simp [bors] at e3
 ·obtain ⟨j,s0,e1,e2,e3⟩:=zdy h1
  cases s0<;>simp [bors] at e3
noncomputable def zcp (g:D→En→Option En) (t:En→Option Bool) (f:En→Option D) (ρi:En):List D→Option (List D)
 | []=>some []
 | x::xs=>(g x ρi).bind fun ρ1=>(t ρ1).bind fun b=>if b=true then (f ρ1).bind fun d=>(zcp g t f ρi xs).map fun l=>d::l else zcp g t f ρi xs
noncomputable def zcq (cap:List (Option Nat)) (fi:En→Option (List D)) (g:D→En→Option En) (t:En→Option Bool) (f:En→Option D):En→Option D:=fun ρ=>(fi ρ).bind fun ds=>if ds.length≤lim then (zcp g t f (st0E cap ρ) ds).map D.lst else none
structure rdIf (K:PySem.W.Frag) (X:Cx) (ifs:List Expr) (t:En→Option Bool):Prop where
 h:∀ ρ b,t ρ=some b→PIf X ifs (rdTp K ρ b)
noncomputable def yesP:En→Option Bool:=fun _=>some true
theorem pif0 {K:PySem.W.Frag}{X:Cx}:rdIf K X [] yesP:=rdIf.mk fun ρ b h=>by
 cases h
 intro pins s σ H Q I ⟨F,r,q⟩
 exact zml pins s σ H Q I (q F H (Grow.refl r.sub))
theorem pif1 {K:PySem.W.Frag}{X:Cx} {c:Expr}{t:En→Option Bool} (h:FTp K X c t):rdIf K X [c] t:=rdIf.mk fun ρ b hf=>pif_one (h.h ρ b hf)
section
variable {K:PySem.W.Frag}{md:Md} {X:Cx}{pos:Pos} {tg iter elt:Expr}{ifs:List Expr} {scope:Scope}
theorem zno {cap:List (Option Nat)}{g:D→En→Option En} {t:En→Option Bool}{f:En→Option D} {ρ:En}{ds rs:List D} {σ:St}{H F:Hp} {Q:VK}(hm:zcp g t f (st0E cap ρ) ds=some rs) (hn:ds.length≤lim)
  (r:Rel K F H ρ σ) (q:∀ v F' H',Grow F H F' H'→Res K .ow H F' H' (.lst rs) v→Q v H') {J:It}{F1 H1:Hp} (g1:Grow F H F1 H1) (ok:zhh K J F1 ds) :
  wComp K J (fun v σ H Q=>∃ i:{ q:En×D×En // g q.2.1 q.1=some q.2.2 },rdG K i.1.1 i.1.2.1 i.1.2.2 v σ H Q) (fun σ H Q=>∃ i:{ q:En×Bool // t q.1=some q.2 },rdTp K i.1.1 i.1.2 σ H Q) (fun σ H Q=>∃ i:{ q:En×D // f q.1=some q.2 },rdE K .fz i.1.1 i.1.2 σ H Q) cap σ H1 Q:=by
 intro a ha
 refine ⟨fun i m H2=>∃ acc,i≤ds.length∧m=ds.length - i∧∃ F2 done left,Grow F H F2 H2∧Same F1 F2∧(∀ b o,H1 b=some o→H2 b=some o)∧F2 a=none∧H2 a=some (.lst acc)∧DatL K F2 done acc∧acc.length≤i∧zcp g t f (st0E cap ρ) (ds.drop i)=some left∧rs=done++left,
  ⟨ds.length,[],Nat.zero_le _,rfl,F1,[],rs,⟨g1.ff,g1.hh.trans (zcx ha _),g1.fh.trans (zcx ha _),g1.nw⟩,Same.refl _,fun b o e=>zcx ha _ _ _ e,g1.fh.free ha,zas,DatL.nil,Nat.zero_le _,hm,rfl⟩,?_⟩
 rintro i m H2 ⟨acc,hi,rfl,F2,done,left,g2,ff,hh,fa,hd,da,al,e1,e2⟩
 obtain ⟨o1,o2,o3⟩:=ok F2 H2 ff g2.fh
 by_cases hlt:i < ds.length
 ·refine .inr ⟨o1 i hlt,fun x H3 y=>?_⟩
  obtain ⟨F3,g3,d3⟩:=o2 i x H3 _ (List.getElem?_eq_getElem hlt) y
  rw [List.drop_eq_getElem_cons hlt] at e1
  simp only [zcp] at e1
  have g23:=g2.trans g3
  have hd3:=g3.hh _ _ hd
  have fa3:=g3.nw a _ hd fa
  cases e3:g ds[i] (st0E cap ρ) with
  | none=>rw [e3] at e1;cases e1
  | some ρ1=>
   simp only [e3,Option.bind_some] at e1
   refine ⟨⟨(st0E cap ρ,ds[i],ρ1),e3⟩,F3,(r.grow g23).inner,d3,fun σ2 r2 _=>?_⟩
   cases e4:t ρ1 with
   | none=>rw [e4] at e1;cases e1
   | some b=>
    simp only [e4,Option.bind_some] at e1
    refine ⟨⟨(ρ1,b),e4⟩,F3,r2,fun F4 H4 g4=>?_⟩
    have g24:=g23.trans g4
    have hd4:=g4.hh _ _ hd3
    have fa4:=g4.nw a _ hd3 fa3
    have ff4:Same F1 F4:=ff.trans (g3.ff.trans g4.ff)
    have hh4:∀ c o,H1 c=some o→H4 c=some o:=fun c o e=>g4.hh _ _ (g3.hh _ _ (hh c o e))
    cases b with
    | false=>
     rw [if_neg Bool.false_ne_true] at e1
     exact iteF ⟨ds.length - (i + 1),by omega,acc,hlt,rfl,F4,done,left,g24,ff4,hh4,fa4,hd4,da.mono (g3.ff.trans g4.ff),by omega,e1,e2⟩
    | true=>
     rw [if_pos rfl] at e1
     refine iteT ?_
     cases e5:f ρ1 with
     | none=>rw [e5] at e1;cases e1
     | some d=>
      simp only [e5,Option.bind_some] at e1
      cases e6:zcp g t f (st0E cap ρ) (ds.drop (i + 1)) with
      | none=>rw [e6] at e1;cases e1
      | some l=>
       rw [e6] at e1;cases e1
       refine ⟨⟨(ρ1,d),e5⟩,F4,r2.grow g4,fun v F5 H5 g5 d5=>?_⟩
       have g25:=g24.trans g5
       have hd5:=g5.hh _ _ hd4
       have fa5:=g5.nw a _ hd4 fa4
       have haH:H a=none:=g1.hh.free ha
       refine ⟨acc,hd5,zgJ (by omega),ds.length - (i + 1),by omega,_,hlt,rfl,F5,done++[d],l,?_,ff4.trans g5.ff,fun c o e=>?_,fa5,zas,?_,by rw [List.length_append,List.length_singleton];omega,e6,by rw [e2];simp⟩
       ·refine ⟨g25.ff,fun c o e=>?_,fun c o e=>?_,g25.nw⟩
        ·rw [zaw (zal e haH)];exact g25.hh _ _ e
        ·rw [zaw (zal e fa5)];exact g25.fh _ _ e
       ·rw [zaw (zal e ha)];exact g5.hh _ _ (hh4 c o e)
       ·exact (da.mono (g3.ff.trans (g4.ff.trans g5.ff))).snoc d5
 ·have e:i=ds.length:=by omega
  subst e
  rw [List.drop_length] at e1
  have e1:some []=some left:=e1
  cases e1
  rw [List.append_nil] at e2
  subst e2
  exact .inl ⟨o3,q _ F2 H2 g2 ⟨a,rfl,g1.hh.free ha,fa,acc,hd,da⟩⟩
theorem zhR {cap:List (Option Nat)}{fi:En→Option (List D)} {g:D→En→Option En}{t:En→Option Bool} {f:En→Option D}{ρ:En} {d:D}(h:zcq cap fi g t f ρ=some d):∃ ds rs,fi ρ=some ds∧ds.length≤lim∧zcp g t f (st0E cap ρ) ds=some rs∧d=.lst rs:=by
 unfold zcq at h
 cases e1:fi ρ with
 | none=>rw [e1] at h;cases h
 | some ds=>
  rw [e1] at h
  simp only [Option.bind_some] at h
  split at h
  ·rename_i hz
   cases e2:zcp g t f (st0E cap ρ) ds with
   | none=>rw [e2] at h;cases h
   | some rs=>rw [e2] at h;cases h;exact ⟨ds,rs,rfl,hz,e2,rfl⟩
  ·cases h
theorem zfJ {fi:En→Option (List D)}{g:D→En→Option En} {t:En→Option Bool}{f:En→Option D} (N:List Str) (cap:List (Option Nat)) (cp:Cap X scope N cap) (hc:X.calm=true) (hi:FI K X tg iter fi)
  (hg:∀ C s0 H0 fp,FG K (zaR X N scope (clOf X.env scope.names []) C s0 H0 fp) tg g) (ht:∀ C s0 H0 fp,rdIf K (zaR X N scope (clOf X.env scope.names []) C s0 H0 fp) ifs t) (he:∀ C s0 H0 fp,FP K .fz (zaR X N scope (clOf X.env scope.names []) C s0 H0 fp) elt f)
  (S:zbQ X scope:=by exact zbQ.mk') (hs:∀ x,foldedSetIterable iter X.env x=pure x:=by intro _;rfl) (hK:X.K=K:=by rfl) :
  FP K .ow X (.ListComp elt [⟨tg,iter,ifs,0⟩] scope pos) (zcq cap fi g t f):=FP.mk fun ρ d hf=>by
 subst hK
 obtain ⟨ds,rs,e1,hz,e2,rfl⟩:=zhR hf
 refine PE.imp (zmr N cap cp hc (hi.h ρ ds e1) (fun C s0 H0 fp=>PG.any fun i:{ q:En×D×En // g q.2.1 q.1=some q.2.2 }=>(hg C s0 H0 fp).h _ _ _ i.2) (fun C s0 H0 fp=>PIf.any fun i:{ q:En×Bool // t q.1=some q.2 }=>(ht C s0 H0 fp).h _ _ i.2)
  (fun C s0 H0 fp=>PE.any fun i:{ q:En×D // f q.1=some q.2 }=>(he C s0 H0 fp).h _ _ i.2) S hs) fun σ H Q ⟨F,r,q⟩=>?_
 exact ⟨F,r,fun J F1 H1 g1 ok=>zno e2 hz r q g1 ok⟩
theorem ssetC (k:Nat) {y:Str}{py spos:Pos} {fi:En→Option (List D)}{g:D→En→Option En} {t:En→Option Bool}{f:En→Option D} (N:List Str) (cap:List (Option Nat)) (cp:Cap X scope N cap) (hc:X.calm=true) (hN:X.N.Nodup) (hi:FI K X tg iter fi)
  (hg:∀ C s0 H0 fp,FG K (zaR X N scope (clOf X.env scope.names []) C s0 H0 fp) tg g) (ht:∀ C s0 H0 fp,rdIf K (zaR X N scope (clOf X.env scope.names []) C s0 H0 fp) ifs t) (he:∀ C s0 H0 fp,FP K .fz (zaR X N scope (clOf X.env scope.names []) C s0 H0 fp) elt f)
  (hk:X.N[k]?=some y:=by rfl) (hy:Loc X.env.scope y:=by first | exact Or.inl rfl | exact Or.inr rfl) (S:zbQ X scope:=by exact zbQ.mk') (hs:∀ x,foldedSetIterable iter X.env x=pure x:=by intro _;rfl)
  (hsw:swapsWith (.ListComp elt [⟨tg,iter,ifs,0⟩] scope pos) (some (.Name y py)) spos.line X.env=pure true:=by rfl)
  (hf:X.fn y=true∨X.env.scope.names.lookup y=some .local:=by first | exact .inl rfl | exact .inr rfl | assumption) (hK:X.K=K:=by rfl) :
  FS K md X (.Assign [.Name y py] (.ListComp elt [⟨tg,iter,ifs,0⟩] scope pos) spos) (setM k (zcq cap fi g t f)):=FS.mk fun ρ fl hm=>by
 subst hK
 unfold setM at hm
 cases e0:zcq cap fi g t f ρ with
 | none=>rw [e0] at hm;cases hm
 | some d=>
  rw [e0] at hm;cases hm
  obtain ⟨ds,rs,e1,hz,e2,rfl⟩:=zhR e0
  refine PS.imp (zli N cap cp hc hN hk hy (hi.h ρ ds e1) (fun C s0 H0 fp=>PG.any fun i:{ q:En×D×En // g q.2.1 q.1=some q.2.2 }=>(hg C s0 H0 fp).h _ _ _ i.2) (fun C s0 H0 fp=>PIf.any fun i:{ q:En×Bool // t q.1=some q.2 }=>(ht C s0 H0 fp).h _ _ i.2)
   (fun C s0 H0 fp=>PE.any fun i:{ q:En×D // f q.1=some q.2 }=>(he C s0 H0 fp).h _ _ i.2) S hs hsw hf) fun D σ H ⟨F,r,q⟩=>?_
  refine ⟨F,r,fun J F1 H1 g1 ok=>zno e2 hz r (fun v F2 H2 g2 h=>?_) g1 ok⟩
  obtain ⟨a0,ea,z1,z2,z3⟩:=h
  obtain ⟨F3,g3,h3⟩:=Res.fz_of_ow g2 ⟨a0,ea,z1,z2,z3⟩ ea z3.fl
  have s3:=g3.step (ρ:=ρ) (σ:=σ)
  exact q _ F3 H2 ((r.grow g3).setD h3) (s3.kp Kp.setD)
end
noncomputable def SpD (K:PySem.W.Frag) (md:Md) (m:List D→Option D):Sp:=fun vs H Q _=>∃ F ds d,Same F H∧DatL K F ds vs∧m ds=some d∧∀ v F' H',Grow F H F' H'→Res K md H F' H' d v→Q v H'
section
variable {P:Program}{w:World} {K:PySem.W.Frag}{mg:Str→Option Value} {base:Heap}{md:Md} {X:Cx}{k:Nat} {f:Addr}{fd:FuncData} {ps:List Str}{m:List D→Option D} {x:Str}{e:Expr} {es:List Expr}{fs:En→Option (List D)} {p pos:Pos}
theorem fcall (F:FnOk X.prog X.w X.K X.mg X.base CX0 k f fd ps (SpD K md m)) (hr:Room k X.A) (hg:Gl X x) (hm:X.mg x=some (.ref f)) (hk:PySem.W.keepIn X.K (.ref f)=true) (hb:zfw X.K fd ps []) (ha:FPs K true X (e::es) fs)
  (H1:∀ {t:TA},PA X (e::es) t→PE X (.Call (.Name x p) (e::es) [] pos) (zlf (SpD K md m) [] E0 t):=by exact fun ha=>zgv ‹_› ‹_› ‹_› ‹_› ‹_› ‹_› .nil zmv ha) :
  FP K md X (.Call (.Name x p) (e::es) [] pos) (cL m fs):=FP.mk fun ρ d hf=>by
 obtain ⟨l,e1,e2⟩:=zhf hf
 refine PE.imp (H1 (ha.h ρ l e1)) fun σ H Q ⟨F,r,q⟩=>⟨F,r,fun vs F1 H1 g1 r1=>?_⟩
 refine ⟨F1,l,d,g1.fh,by rw [List.append_nil];exact r1,e2,fun v F2 H2 g2 h2=>q v F2 H2 (g1.trans g2) ?_⟩
 cases md with
 | fz=>exact h2
 | br=>exact h2
 | ow=>
  obtain ⟨a,e,h3,h4,h5⟩:=h2
  exact ⟨a,e,g1.hh.free h3,h4,h5⟩
noncomputable def zby (n:Nat) (ds:List D):En:=ds.map (fun d=>some (.dat d))++List.replicate (n - ds.length) none
theorem Rel.start {N:List Str}{F H:Hp} {ds:List D}{vs:List V} (s:Same F H) (q:DatL K F ds vs):Rel K F H (zby N.length ds) (L2.start N vs):=by
 have hl:=q.length
 have key:∀ (i:Nat) s,(zby N.length ds)[i]?=some (some s)→∃ d,s=.dat d∧ds[i]?=some d:=fun i s h=>by
  unfold zby at h
  by_cases hi:i < ds.length
  ·rw [List.getElem?_append_left (by simpa using hi),List.getElem?_map,List.getElem?_eq_getElem hi] at h
   cases h
   exact ⟨_,rfl,List.getElem?_eq_getElem hi⟩
  ·rw [List.getElem?_append_right (by simpa using hi)] at h
   rw [List.getElem?_replicate] at h
   split at h<;>cases h
 refine ⟨s,fun i d h=>?_,fun i d h=>?_,fun i q d h=>?_,fun i j q d s a ne h1=>?_,?_⟩
 ·obtain ⟨d',e,hd⟩:=key i _ h
  cases e
  obtain ⟨v,hv,dv⟩:=q.get hd
  refine ⟨v,?_,dv⟩
  unfold L2.start
  have hi:i < vs.length:=(List.getElem?_eq_some_iff.mp hv).1
  rw [List.getElem?_append_left (by simpa using hi),List.getElem?_map,hv];rfl
 ·obtain ⟨d',e,_⟩:=key i _ h;cases e
 ·obtain ⟨d',e,_⟩:=key i _ h;cases e
 ·obtain ⟨d',e,_⟩:=key i _ h1;cases e
 ·unfold zby L2.start;simp [hl]
theorem zdx {n:Nat}{ds:List D} {σ:St}{b:Addr} (h:zeD (zby n ds) σ b):False:=by
 obtain ⟨i,q,d,h,_⟩:=h
 unfold zby at h
 by_cases hi:i < ds.length
 ·rw [List.getElem?_append_left (by simpa using hi),List.getElem?_map,List.getElem?_eq_getElem hi] at h
  cases h
 ·rw [List.getElem?_append_right (by simpa using hi)] at h
  rw [List.getElem?_replicate] at h
  split at h<;>cases h
theorem Step.grow {n:Nat}{ds:List D} {ρ':En}{σ σ':St} {F H F' H':Hp}(a:Step (zby n ds) σ F H ρ' σ' F' H') (s:Same F H):Grow F H F' H':=by
 refine ⟨a.ff,fun b o e=>?_,a.fh,fun b o e n=>(a.rest b o e n zdx).2⟩
 cases q:F b with
 | some u=>
  have:=s _ _ q
  rw [e] at this;cases this
  exact a.fh _ _ (a.ff _ _ q)
 | none=>exact (a.rest b o e q zdx).1
theorem zbN {qual:Str}{st:Stmt} {N:List Str}(Fn:Fun K x qual st f fd) (S:zaE N ps (zar st)) {mb:Nat→En→Option Fl}
  (hb:∀ (n:Nat) (cdv:Value) (A:Around) (outer:List Env) (s:Shared) (H:Hp) (E:XK),Room k (A.deeper (envOfC qual (zar st) s.heap.objs.size f cdv))→FSs K md (cxOf CX0 P w K mg base N qual (zar st) f cdv A outer s H E).nox (zfK st) (mb n))
  (hm:∀ ds d,m ds=some d→ds.length=ps.length∧∃ n,(∃ ρ',mb n (zby N.length ds)=some (.rt d ρ'))∨(d=.non∧md=.fz∧∃ ρ',mb n (zby N.length ds)=some (.nx ρ'))):FnOk P w K mg base CX0 (k + 1) f fd ps (SpD K md m):=by
 refine Fn.ok S (fun vs H Q E h=>?_) (fun cdv A outer s H vs Q E hr h=>?_)
 ·obtain ⟨F,ds,d,_,q,e,_⟩:=h
  rw [q.length];exact (hm ds d e).1
 obtain ⟨F,ds,d,sub,qd,e,k⟩:=h
 obtain ⟨_,n,h⟩:=hm ds d e
 rcases h with ⟨ρ',h⟩ | ⟨rfl,rfl,ρ',h⟩
 ·refine ⟨_,(hb n cdv A outer s H E hr).h _ _ h,F,Rel.start sub qd,fun v σ' F' H' r' s' res=>?_⟩
  refine k v F' H' (s'.grow sub) ?_
  cases md with
  | fz=>exact res
  | br=>exact res.elim
  | ow=>
   obtain ⟨a,ea,h1,h2,h3⟩:=res
   refine ⟨a,ea,?_,h2,h3⟩
   rcases h1 with h1 | h1
   ·exact h1
   ·exact (zdx h1).elim
 ·refine ⟨_,(hb n cdv A outer s H E hr).h _ _ h,F,Rel.start sub qd,fun σ' F' H' r' s'=>?_⟩
  exact k _ F' H' (s'.grow sub) (Dat.non (K:=K) (F:=F'))
end
end FL
set_option Elab.async false
set_option linter.all false
set_option maxRecDepth 100000
namespace FL
open PySem PySem.Spec PyProof.Rows L2
theorem u100 {k:Nat}{A:Around} (hr:Room k A):A.units + 100 < cLine:=by have:=hr.un;omega
theorem u101 {k:Nat}{A:Around} (hr:Room k A):A.units + 101 < cLine:=by have:=hr.un;omega
structure Glb (mg:Str→Option Value):Prop where
 isi:mg "isinstance" = none
 str:mg "str" = none
 tuple:mg "tuple" = none
 list:mg "list" = none
 int:mg "int" = none
 bool:mg "bool" = none
 dict:mg "dict" = none
 len:mg "len" = none
 range:mg "range" = none
 enum:mg "enumerate" = none
 sum:mg "sum" = none
 max:mg "max" = none
 min:mg "min" = none
 abs:mg "abs" = none
 zip:mg "zip" = none
 reversed:mg "reversed" = none
 sorted:mg "sorted" = none
 set:mg "set" = none
 any:mg "any" = none
 all:mg "all" = none
structure Fk (P:Program) (w:World) (K:PySem.W.Frag) (mg:Str→Option Value) (base:Heap) (x:Str) (ps:List Str) (md:Md) (k:Nat) (m:List D→Option D):Prop where
 ex:∃ f fd,FnOk P w K mg base CX0 k f fd ps (SpD K md m)∧zfw K fd ps []∧PySem.W.keepIn K (.ref f)=true∧mg x=some (.ref f)
section
variable {P:Program}{w:World} {K:PySem.W.Frag}{mg:Str→Option Value} {base:Heap}{md:Md} {X:Cx}{k j:Nat} {ps:List Str}{m m':List D→Option D} {x:Str}{e:Expr} {es:List Expr}{fs:En→Option (List D)} {p pos:Pos}
theorem fk (G:Fk X.prog X.w X.K X.mg X.base x ps md k m) (hr:Room j X.A) (ha:FPs K true X (e::es) fs) (hle:k≤j:=by first | decide | omega) (hg:Gl X x:=by rfl) (hK:X.K=K:=by rfl)
  (H1:∀ {f:Addr}{fd:FuncData} {t:TA},FnOk X.prog X.w X.K X.mg X.base CX0 k f fd ps (SpD K md m)→Room k X.A→Gl X x→X.mg x=some (.ref f)→PySem.W.keepIn X.K (.ref f)=true→zfw X.K fd ps []→PA X (e::es) t→PE X (.Call (.Name x p) (e::es) [] pos) (zlf (SpD K md m) [] E0 t):=by
   exact fun F hr hg hm hk hb ha=>zgv F hr hg hm hk hb .nil zmv ha) :
  FP K md X (.Call (.Name x p) (e::es) [] pos) (cL m fs):=by
 subst hK
 obtain ⟨f,fd,F,hb,hk,hm⟩:=G.ex
 exact fcall F (hr.mono hle) hg hm hk hb ha fun ha=>H1 F (hr.mono hle) hg hm hk hb ha
theorem Fk.mono (G:Fk P w K mg base x ps md k m) (h:k≤j):Fk P w K mg base x ps md j m:=by
 obtain ⟨f,fd,F,r⟩:=G.ex
 exact ⟨f,fd,F.mono h,r⟩
theorem Fk.never {f:Addr}{fd:FuncData} (h:zfw K fd ps []∧PySem.W.keepIn K (.ref f)=true∧mg x=some (.ref f)) (hm:∀ ds,m ds=none):Fk P w K mg base x ps md 0 m:=by
 refine ⟨f,fd,⟨fun vs H Q E h=>?_,fun A outer s H args us vs Q E _ _ _ _ h=>?_⟩,h⟩
 ·obtain ⟨F,ds,d,_,_,e,_⟩:=h;rw [hm] at e;cases e
 ·obtain ⟨F,ds,d,_,_,e,_⟩:=h;rw [hm] at e;cases e
noncomputable def zcy:List D→Option (List Str)
 | []=>some []
 | .str i::l=>(zcy l).map (i::·)
 | _::_=>none
theorem zgi:∀ {l:List D}{ns:List Str},zcy l=some ns→l=ns.map D.str
 | [],ns,h=>by simp [zcy] at h;subst h;rfl
 | .str i::l,ns,h=>by
  simp only [zcy] at h
  cases e:zcy l with
  | none=>rw [e] at h;cases h
  | some ms=>rw [e] at h;cases h;rw [zgi e];rfl
 | .non::_,_,h=>by simp [zcy] at h
 | .bl _::_,_,h=>by simp [zcy] at h
 | .int _::_,_,h=>by simp [zcy] at h
 | .tup _::_,_,h=>by simp [zcy] at h
 | .lst _::_,_,h=>by simp [zcy] at h
 | .scr _::_,_,h=>by simp [zcy] at h
 | .dic _ _::_,_,h=>by simp [zcy] at h
theorem zhA:∀ (ns:List Str),zcy (ns.map D.str)=some ns
 | []=>rfl
 | n::ns=>by rw [List.map_cons,zcy,zhA ns];rfl
noncomputable def joinD:D→D→Option D
 | .str sep,.lst l=>(zcy l).bind fun ys=>if (ys.map (·.length)).sum + ys.length * sep.length≤16777216 then some (.str (Txt.join sep ys)) else none
 | _,_=>none
theorem fjoin {a o:Expr}{fo fa:En→Option D} {apos cpos:Pos}(ho:FP K .fz X o fo) (ha:FP K .br X a fa) (hbase:attributeBase o "join" X.env (eval o X.env)=eval o X.env:=by rfl)
  (hfew:((backTo cpos (starEach [a] X.env)).all (fun x=>!x.1) && (backToKw cpos (keywordEach [] X.env)).all (fun x=>x.1.isSome) && decide (([a]:List Expr).length + ([]:List Keyword).length + (if ([]:List Keyword).isEmpty then 0 else 1) < 30))=true:=by rfl)
  (hline:(apos.endLine == cpos.line)=true:=by rfl) (hs:starEach [a] X.env=(false,eval a X.env)::starEach [] X.env:=by rfl) (hplain:(backTo cpos (starEach [] X.env)).any (·.1)=false:=by rfl) (hK:X.K=K:=by rfl) :
  FP K .fz X (.Call (.Attribute o "join" apos) [a] [] cpos) (c2 joinD fo fa):=FP.mk fun ρ d hf=>by
 subst hK
 obtain ⟨x,y,e1,e2,e3⟩:=zcV hf
 unfold joinD at e3
 split at e3
 ·rename_i sep l
  cases e4:zcy l with
  | none=>rw [e4] at e3;cases e3
  | some ys=>
   rw [e4] at e3
   obtain ⟨hz,rfl⟩:=zaO e3
   rw [zgi e4] at e2
   refine PE.imp (pe_bm PySem.F.plainAttrs_str PySem.F.slot_str_join PySem.F.type_str_join mt_join (ho.h ρ _ e1) (zbk (ha.h ρ _ e2) zcM hs) hbase hfew hline hs hplain) fun σ H Q ⟨F,r,q⟩=>⟨F,r,fun v F1 H1 g1 r1=>?_⟩
   have ev:=Dat.str_inv (K:=X.K) (F:=F1) r1
   subst ev
   refine ⟨rfl,F1,r.grow g1,fun u F2 H2 g2 r2=>?_⟩
   obtain ⟨a,vs,rfl,f,qq⟩:=DatB.lst_inv r2
   rw [qq.strs] at f
   exact ⟨sep,a,ys,rfl,rfl,SqL.of f,hz,fun z ez=>by subst ez;exact q _ F2 H2 (g1.trans g2) (Res.str _)⟩
 ·cases e3
end
noncomputable def FUEL:Nat:=1000000000
noncomputable def runF (mb:En→Option Fl) (np nn:Nat) (ds:List D):Option D:=if ds.length=np then (match mb (zby nn ds) with
 | some (.rt d _)=>some d
 | _=>none) else none
noncomputable def runN (mb:En→Option Fl) (np nn:Nat) (ds:List D):Option D:=if ds.length=np then (match mb (zby nn ds) with
 | some (.rt d _)=>some d
 | some (.nx _)=>some .non
 | _=>none) else none
theorem zaI {mb:Nat→En→Option Fl}{np nn:Nat} {md:Md}:∀ ds d,runF (mb FUEL) np nn ds=some d→ds.length=np∧∃ n,(∃ ρ',mb n (zby nn ds)=some (.rt d ρ'))∨(d=.non∧md=.fz∧∃ ρ',mb n (zby nn ds)=some (.nx ρ')):=fun ds d h=>by
 unfold runF at h
 split at h
 ·rename_i hl
  refine ⟨hl,FUEL,.inl ?_⟩
  split at h
  ·rename_i d' ρ' e;cases h;exact ⟨ρ',e⟩
  ·cases h
 ·cases h
theorem runN_hm {mb:Nat→En→Option Fl}{np nn:Nat}:∀ ds d,runN (mb FUEL) np nn ds=some d→ds.length=np∧∃ n,(∃ ρ',mb n (zby nn ds)=some (.rt d ρ'))∨(d=.non∧Md.fz=.fz∧∃ ρ',mb n (zby nn ds)=some (.nx ρ')):=fun ds d h=>by
 unfold runN at h
 split at h
 ·rename_i hl
  refine ⟨hl,FUEL,?_⟩
  split at h
  ·rename_i d' ρ' e;cases h;exact .inl ⟨ρ',e⟩
  ·rename_i ρ' e;cases h;exact .inr ⟨rfl,rfl,ρ',e⟩
  ·cases h
 ·cases h
theorem walkD {l:PySem.W.OpenLaw}{k:Nat} {q:Program}{loose:List Str} {XP:(Str→Option Value)→Heap→Prop}{YP:World→Heap→Prop} {d:DefRec}{K:Params→PySem.W.Frag} {x:Str}{m:List D→Option D} (hn:l.most=some 63) (hdf:d.params.defaults=[]) (hr:Room k callerA)
  (hY:∀ (w:World) (h:Heap),YP w h→(K w.params).In h)
  (F:∀ (w:World) (mg:Str→Option Value) (fa:Addr) (h:Heap),(K w.params).In h→h.Ns mainGlobals mg→mg d.name=some (.ref fa)→
   ∃ fd:FuncData,(∀ (s:Shared) (u:Value),BindsTo s fd ⟨[u],[]⟩ [(x,u)])∧∀ base:Heap,(K w.params).In base→base.Ns mainGlobals mg→FnOk l.prog w (K w.params) mg base CX0 k fa fd [x] (SpD (K w.params) .fz m))
  (H:∀ ns:List Int,ns.length≤63→m [.scr ns]=some (.bl true)):PySem.W.WalkO q loose XP YP l.row.toRowW d [] (fun f vs=>PySem.call f vs):=
 L2.walk_of (n:=63) (k:=k) (x:=x) (CX:=fun _=>CX0) (sp:=fun w=>SpD (K w.params) .fz m) hn (by decide) hdf hr hY F
  (fun w H' a ns hl _ hS=>⟨H',[.scr ns],.bl true,Same.refl _,DatL.cons (Dat.scr hS) DatL.nil,H ns hl,fun v F' H2 _ h=>Dat.bl_inv (K:=K w.params) (F:=F') h⟩) fun _ _ _ _ _ z=>z
end FL
set_option Elab.async false
set_option linter.all false
set_option maxRecDepth 100000
namespace FL
open PySem PySem.Spec PyProof.Rows L2
structure Chg (F H:Hp) (a:Addr) (F' H':Hp):Prop where
 ff:Same F F'
 fh:Same F' H'
 rest:∀ b o,H b=some o→F b=none→b≠a→H' b=some o∧F' b=none
 fa:F' a=none
section
variable {K:PySem.W.Frag}{F H F' H' F2 H2:Hp} {ρ ρ':En}{σ σ':St} {i:Nat}{a:Addr}
theorem Chg.trans (x:Chg F H a F' H') (y:Chg F' H' a F2 H2):Chg F H a F2 H2:=
 ⟨x.ff.trans y.ff,y.fh,fun b o e n ne=>let ⟨e1,n1⟩:=x.rest b o e n ne;y.rest b o e1 n1 ne,y.fa⟩
theorem Grow.chg (g:Grow F H F' H') {o:HO}(h:H a=some o) (n:F a=none):Chg F H a F' H':=⟨g.ff,g.fh,fun b o e n _=>⟨g.hh _ _ e,g.nw b o e n⟩,g.nw a o h n⟩
theorem DatB.chg {d:D}{v:V} (s:Same F H) (c:Chg F H a F' H') (h:DatB K F H d v) (hv:v≠.ref a):DatB K F' H' d v:=by
 have key:∀ b o,b≠a→H b=some o→H' b=some o:=fun b o ne e=>by
  cases f:F b with
  | some u=>
   have:=s _ _ f
   rw [e] at this;cases this
   exact c.fh _ _ (c.ff _ _ f)
  | none=>exact (c.rest b o e f ne).1
 cases d with
 | lst l=>obtain ⟨b,vs,rfl,f,q⟩:=h.lst_inv;exact ⟨b,vs,rfl,key b _ (fun z=>hv (by rw [z])) f,q.mono c.ff⟩
 | dic k l=>
  obtain ⟨b,vs,rfl,f,q⟩:=h.dic_inv
  obtain ⟨o,ho⟩:=f.some
  exact ⟨b,vs,rfl,f.at (by rw [ho];exact key b _ (fun z=>hv (by rw [z])) ho),q.mono c.ff⟩
 | _=>exact Dat.mono c.ff h
theorem Rel.chg (r:Rel K F H ρ σ) {pp:Bool}{d d':D} (e:ρ[i]?=some (some (.ow pp d))) (hσ:σ[i]?=some (some (.ref a))) (c:Chg F H a F' H') (ho:Own K F' H' d' a) :
  Rel K F' H' (ρ.set i (some (.ow pp d'))) σ∧Step ρ σ F H (ρ.set i (some (.ow pp d'))) σ F' H':=by
 refine ⟨⟨c.fh,fun j x q=>?_,fun j x q=>?_,fun j qq x q=>?_,fun j k qq x s c ne e1 e2 e3 e4=>?_,by simp [r.len]⟩,⟨c.ff,fun b u h n no=>c.rest b u h n (fun z=>no (by subst z;exact ⟨i,pp,d,e,hσ⟩)),fun b h=>.inr ?_,fun j x e'=>?_,c.fh⟩⟩
 ·rcases zai q with ⟨rfl,q'⟩ | ⟨ne,q'⟩
  ·cases q'
  ·obtain ⟨v,h1,h2⟩:=r.dat j x q';exact ⟨v,h1,h2.mono c.ff⟩
 ·rcases zai q with ⟨rfl,q'⟩ | ⟨ne,q'⟩
  ·cases q'
  ·obtain ⟨v,h1,h2⟩:=r.bor j x q'
   refine ⟨v,h1,h2.chg r.sub c fun z=>?_⟩
   subst z
   exact r.inj i j pp d _ a (Ne.symm ne) e hσ q' rfl h1
 ·rcases zai q with ⟨rfl,q'⟩ | ⟨ne,q'⟩
  ·cases q'
   exact ⟨a,hσ,c.fa,ho⟩
  ·obtain ⟨b,h1,h2,h3⟩:=r.own j qq x q'
   have hc:b≠a:=fun z=>by
    subst z
    exact r.inj i j pp d _ b (Ne.symm ne) e hσ q' rfl h1
   obtain ⟨o,hob⟩:=h3.some
   obtain ⟨g1,g2⟩:=c.rest b o hob h2 hc
   exact ⟨b,h1,g2,h3.mono c.ff fun u hu=>by rw [hob] at hu;cases hu;exact g1⟩
 ·rcases zai e1 with ⟨rfl,e1'⟩ | ⟨ne1,e1'⟩
  ·rcases zai e3 with ⟨rfl,e3'⟩ | ⟨ne3,e3'⟩
   ·exact absurd rfl ne
   ·exact r.inj j k pp d s c ne e e2 e3' e4
  ·rcases zai e3 with ⟨rfl,e3'⟩ | ⟨ne3,e3'⟩
   ·exact r.inj j k qq x (.ow pp d) c ne e1' e2 e rfl
   ·exact r.inj j k qq x s c ne e1' e2 e3' e4
 ·obtain ⟨j,qq,x,j1,j2⟩:=h
  rcases zai j1 with ⟨rfl,j1'⟩ | ⟨ne,j1'⟩
  ·exact ⟨j,pp,d,e,j2⟩
  ·exact ⟨j,qq,x,j1',j2⟩
 ·rcases zai e' with ⟨rfl,e''⟩ | ⟨ne,e''⟩
  ·cases e''
   exact ⟨d,e,rfl⟩
  ·exact ⟨x,e'',rfl⟩
theorem Rel.setI (r:Rel K F H ρ σ) {pp:Bool}{d:D} (nf:∀ (j:Nat) (s:Sl),ρ[j]?=some (some s)→s.isDat=true) (hf:F a=none) (ho:Own K F H d a):Rel K F H (ρ.set i (some (.ow pp d))) (σ.set i (some (.ref a))):=by
 have no:∀ (j:Nat) (s:Sl),ρ[j]?=some (some s)→s.isDat=false→False:=fun j s e hs=>by rw [nf j s e] at hs;cases hs
 refine ⟨r.sub,fun j x e=>?_,fun j x e=>?_,fun j q x e=>?_,fun j k q x s c ne e1 e2 e3 e4=>?_,by simp [r.len]⟩
 ·rcases zai e with ⟨rfl,e'⟩ | ⟨ne,e'⟩
  ·cases e'
  ·rw [List.getElem?_set_ne (Ne.symm ne)];exact r.dat j x e'
 ·rcases zai e with ⟨rfl,e'⟩ | ⟨ne,e'⟩
  ·cases e'
  ·exact (no j _ e' rfl).elim
 ·rcases zai e with ⟨rfl,e'⟩ | ⟨ne,e'⟩
  ·cases e'
   exact ⟨a,zeF (by rw [← r.len];exact ziP e),hf,ho⟩
  ·exact (no j _ e' rfl).elim
 ·rcases zai e3 with ⟨rfl,e3'⟩ | ⟨ne3,e3'⟩
  ·rcases zai e1 with ⟨rfl,e1'⟩ | ⟨ne1,e1'⟩
   ·exact absurd rfl ne
   ·exact (no j _ e1' rfl).elim
  ·exact (no k _ e3' e4).elim
end
noncomputable def SpX (K:PySem.W.Frag) (j:Nat) (m:D→List D→Option (D×D)):Sp:=fun vs H Q _=>∃ F a us ds c d c',vs=us.take j++.ref a::us.drop j∧j≤us.length∧Same F H∧F a=none∧Own K F H c a∧DatL K F ds us∧m c ds=some (d,c')∧
 ∀ v F' H',Chg F H a F' H'→Own K F' H' c' a→Dat K F' d v→Q v H'
noncomputable def zdn (nn j:Nat) (c:D) (ds:List D):En:=(zby nn (ds.take j++.non::ds.drop j)).set j (some (.inn c))
theorem zlU (N:List Str) (xs ys:List V) (u v:V):(L2.start N (xs++v::ys)).set xs.length (some u)=L2.start N (xs++u::ys):=by
 unfold L2.start
 simp [List.set_append]
noncomputable def runX (mb:En→Option Fl) (np nn j:Nat) (c:D) (ds:List D):Option (D×D):=if ds.length + 1=np∧j≤ds.length then (match mb (zdn nn j c ds) with
 | some (.rt d ρ')=>(match ρ'[j]? with
  | some (some (.ow true c'))=>some (d,c')
  | _=>none)
 | _=>none) else none
structure FkX (P:Program) (w:World) (K:PySem.W.Frag) (mg:Str→Option Value) (base:Heap) (x:Str) (ps:List Str) (j k:Nat) (m:D→List D→Option (D×D)):Prop where
 ex:∃ f fd,FnOk P w K mg base CX0 k f fd ps (SpX K j m)∧zfw K fd ps []∧PySem.W.keepIn K (.ref f)=true∧mg x=some (.ref f)
section
variable {P:Program}{w:World} {K:PySem.W.Frag}{mg:Str→Option Value} {base:Heap}{X:Cx} {k j:Nat}{f:Addr} {fd:FuncData}{ps:List Str} {x:Str}
theorem fn_mkX {qual:Str}{st:Stmt} {N:List Str}(Fn:Fun K x qual st f fd) (S:zaE N ps (zar st)) {mb:Nat→En→Option Fl}(np nn j:Nat) (hnp:ps.length=np) (hnn:N.length=nn)
  (hb:∀ (n:Nat) (cdv:Value) (A:Around) (outer:List Env) (s:Shared) (H:Hp) (E:XK),Room k (A.deeper (envOfC qual (zar st) s.heap.objs.size f cdv))→FSs K .fz (cxOf CX0 P w K mg base N qual (zar st) f cdv A outer s H E).nox (zfK st) (mb n)) :
  FnOk P w K mg base CX0 (k + 1) f fd ps (SpX K j (runX (mb FUEL) np nn j)):=by
 subst hnp hnn
 have hlen:∀ (us:List V) (v:V),j≤us.length→(us.take j++v::us.drop j).length=us.length + 1:=fun us v h=>by
  rw [List.length_append,List.length_cons,List.length_take,List.length_drop];omega
 have inv:∀ {c:D}{ds:List D} {d c':D},runX (mb FUEL) ps.length N.length j c ds=some (d,c')→ds.length + 1=ps.length∧j≤ds.length∧∃ ρ',mb FUEL (zdn N.length j c ds)=some (.rt d ρ')∧ρ'[j]?=some (some (.ow true c')):=fun {c ds d c'} h=>by
  unfold runX at h
  split at h
  ·rename_i hl
   split at h
   ·rename_i d' ρ' e
    split at h
    ·rename_i c2 e2;cases h;exact ⟨hl.1,hl.2,ρ',e,e2⟩
    ·cases h
   ·cases h
  ·cases h
 refine Fn.ok S (fun vs H Q E h=>?_) (fun cdv A outer s H vs Q E hr h=>?_)
 ·obtain ⟨F,a,us,ds,c,d,c',rfl,hj,_,_,_,q,e,_⟩:=h
  rw [hlen us _ hj,q.length];exact (inv e).1
 obtain ⟨F,a,us,ds,c,d,c',rfl,hj,sub,fa,ho,qd,e,kq⟩:=h
 obtain ⟨h1,h2,ρ',h3,h4⟩:=inv e
 have q0:DatL K F (ds.take j++.non::ds.drop j) (us.take j++.non::us.drop j):=(qd.take j).append (DatL.cons Dat.non (qd.drop j))
 have r0:=Rel.start (N:=N) sub q0
 have tl:(us.take j).length=j:=by rw [List.length_take];omega
 have r1:Rel K F H (zdn N.length j c ds) (L2.start N (us.take j++.ref a::us.drop j)):=by
  have:=Rel.setI (i:=j) (pp:=true) r0 (fun i s e=>by
   unfold zby at e
   by_cases hi:i < (ds.take j++D.non::ds.drop j).length
   ·rw [List.getElem?_append_left (by simpa using hi),List.getElem?_map,List.getElem?_eq_getElem hi] at e
    cases e;rfl
   ·rw [List.getElem?_append_right (by simpa using hi),List.getElem?_replicate] at e
    split at e<;>cases e) fa ho
  have e2:=zlU N (us.take j) (us.drop j) (.ref a) .non
  rw [tl] at e2
  rw [e2] at this
  exact this
 refine ⟨_,(hb FUEL cdv A outer s H E hr).h _ _ h3,F,r1,fun v σ' F' H' r' s' res=>?_⟩
 obtain ⟨d0,p1,p2⟩:=s'.pin j c' h4
 obtain ⟨b,g1,g2,g3⟩:=r'.own j true c' h4
 have sj:(L2.start N (us.take j++.ref a::us.drop j))[j]?=some (some (.ref a)):=by
  unfold L2.start
  rw [List.getElem?_append_left (by rw [List.length_map,hlen us _ hj];omega),List.getElem?_map,List.getElem?_append_right (by omega),tl]
  simp
 rw [p2,sj] at g1
 cases g1
 have only:∀ b,zeD (zdn N.length j c ds) (L2.start N (us.take j++.ref a::us.drop j)) b→b=a:=fun b ⟨i,pp,x,i1,i2⟩=>by
  unfold zdn at i1
  rcases zai i1 with ⟨rfl,_⟩ | ⟨ne,i1'⟩
  ·rw [sj] at i2;cases i2;rfl
  ·exact (zdx (σ:=L2.start N (us.take j++.ref a::us.drop j)) ⟨i,pp,x,i1',i2⟩).elim
 exact kq v F' H' ⟨s'.ff,s'.fh,fun b o e n ne=>s'.rest b o e n fun z=>ne (only b z),g2⟩ g3 res
theorem FkX.mono {j':Nat}{m:D→List D→Option (D×D)} (G:FkX P w K mg base x ps j k m) (h:k≤j'):FkX P w K mg base x ps j j' m:=by
 obtain ⟨f,fd,F,r⟩:=G.ex
 exact ⟨f,fd,F.mono h,r⟩
theorem FkX.never {f:Addr}{fd:FuncData} {m:D→List D→Option (D×D)}(h:zfw K fd ps []∧PySem.W.keepIn K (.ref f)=true∧mg x=some (.ref f)) (hm:∀ c ds,m c ds=none):FkX P w K mg base x ps j 0 m:=by
 refine ⟨f,fd,⟨fun vs H Q E h=>?_,fun A outer s H args us vs Q E _ _ _ _ h=>?_⟩,h⟩
 ·obtain ⟨F,a,us,ds,c,d,c',_,_,_,_,_,_,e,_⟩:=h;rw [hm] at e;cases e
 ·obtain ⟨F,a,us,ds,c,d,c',_,_,_,_,_,_,e,_⟩:=h;rw [hm] at e;cases e
noncomputable def zcr (m:D→List D→Option (D×D)) (i:Nat) (fs:En→Option (List D)):En→Option (D×En):=fun ρ=>match ρ[i]?,fs ρ with
 | some (some (.ow p c)),some ds=>(m c ds).map fun q=>(q.1,ρ.set i (some (.ow p q.2)))
 | _,_=>none
theorem zhT {m:D→List D→Option (D×D)}{i:Nat} {fs:En→Option (List D)}{ρ:En} {d:D}{ρ':En} (h:zcr m i fs ρ=some (d,ρ')):∃ p c ds c',ρ[i]?=some (some (.ow p c))∧fs ρ=some ds∧m c ds=some (d,c')∧ρ'=ρ.set i (some (.ow p c')):=by
 unfold zcr at h
 split at h
 ·rename_i p c ds e1 e2
  cases e3:m c ds with
  | none=>rw [e3] at h;cases h
  | some q=>
   rw [e3] at h
   cases h
   exact ⟨p,c,ds,q.2,e1,e2,e3,rfl⟩
 ·cases h
theorem zeQ (i:Nat) {y:Str}{p1 p pos:Pos} {e:Expr}{fe:En→Option D} {m:D→List D→Option (D×D)}{jj:Nat} (G:FkX X.prog X.w X.K X.mg X.base x ps 0 k m) (hr:Room jj X.A) (he:FP K .fz X e fe) (hle:k≤jj:=by first | decide | omega) (hg:Gl X x:=by rfl) (hK:X.K=K:=by rfl)
  (hN:X.N[i]?=some y:=by rfl) (hv:Vis X.env.scope y:=by first | exact Or.inl rfl | exact Or.inr (Or.inl rfl) | exact Or.inr (Or.inr rfl)) (hd:(y == ("__debug__" : Str))=false:=by decide) (hcd:(y == ("__classdict__" : Str))=false:=by decide)
  (hs:starEach [e] X.env=(false,eval e X.env)::starEach [] X.env:=by rfl)
  (H1:∀ {f:Addr}{fd:FuncData} {t:TA},FnOk X.prog X.w X.K X.mg X.base CX0 k f fd ps (SpX K 0 m)→Room k X.A→Gl X x→X.mg x=some (.ref f)→PySem.W.keepIn X.K (.ref f)=true→zfw X.K fd ps []→PA X [.Name y p1,e] t→PE X (.Call (.Name x p) [.Name y p1,e] [] pos) (zlf (SpX K 0 m) [] E0 t):=by
   exact fun F hr hg hm hk hb ha=>zgv F hr hg hm hk hb .nil zmv ha)
  (hs0:starEach [.Name y p1,e] X.env=(false,eval (.Name y p1) X.env)::starEach [e] X.env:=by rfl) :
  FX K X (.Call (.Name x p) [.Name y p1,e] [] pos) (zcr m i (zaa fe nilF)):=FX.mk fun ρ d ρ' hf=>by
 subst hK
 obtain ⟨pp,c,ds,c',e1,e2,e3,rfl⟩:=zhT hf
 obtain ⟨d1,l,e4,e5,rfl⟩:=zdv e2
 have e5:some []=some l:=e5
 cases e5
 obtain ⟨f,fd,F,hb,hk,hm⟩:=G.ex
 refine PE.imp (H1 F (hr.mono hle) hg hm hk hb (zbk (zcK hN hv hd hcd) (zbk (he.h ρ d1 e4) zcM hs) hs0)) fun σ H Q h_=>?_
 obtain ⟨Fz,r,q⟩:=h_
 obtain ⟨a,h1,h2,h3⟩:=r.own i pp c e1
 refine ⟨_,h1,Fz,r,fun v F1 H1 g1 r1=>?_⟩
 have rg:=r.grow g1
 obtain ⟨a',h1',h2',h3'⟩:=rg.own i pp c e1
 rw [h1] at h1';cases h1'
 refine ⟨F1,a,[v],[d1],c,d,c',rfl,Nat.zero_le _,g1.fh,h2',h3',DatL.cons r1 DatL.nil,e3,fun v' F' H' ch ho hd'=>?_⟩
 obtain ⟨x1,x2⟩:=rg.chg e1 h1 ch ho
 exact q v' F' H' x1 (g1.step.trans x2 r.sub) hd'
theorem xcall2 (i:Nat) {y:Str}{p1 p pos:Pos} {e e':Expr}{fe fe':En→Option D} {m:D→List D→Option (D×D)}{jj:Nat} (G:FkX X.prog X.w X.K X.mg X.base x ps 2 k m) (hr:Room jj X.A) (he:FP K .fz X e fe) (he':FP K .fz X e' fe') (hle:k≤jj:=by first | decide | omega) (hg:Gl X x:=by rfl) (hK:X.K=K:=by rfl)
  (hN:X.N[i]?=some y:=by rfl) (hv:Vis X.env.scope y:=by first | exact Or.inl rfl | exact Or.inr (Or.inl rfl) | exact Or.inr (Or.inr rfl)) (hd:(y == ("__debug__" : Str))=false:=by decide) (hcd:(y == ("__classdict__" : Str))=false:=by decide)
  (hs:starEach [.Name y p1] X.env=(false,eval (.Name y p1) X.env)::starEach [] X.env:=by rfl)
  (hs1:starEach [e',.Name y p1] X.env=(false,eval e' X.env)::starEach [.Name y p1] X.env:=by rfl) (hs0:starEach [e,e',.Name y p1] X.env=(false,eval e X.env)::starEach [e',.Name y p1] X.env:=by rfl)
  (H1:∀ {f:Addr}{fd:FuncData} {t:TA},FnOk X.prog X.w X.K X.mg X.base CX0 k f fd ps (SpX K 2 m)→Room k X.A→Gl X x→X.mg x=some (.ref f)→PySem.W.keepIn X.K (.ref f)=true→zfw X.K fd ps []→PA X [e,e',.Name y p1] t→PE X (.Call (.Name x p) [e,e',.Name y p1] [] pos) (zlf (SpX K 2 m) [] E0 t):=by
   exact fun F hr hg hm hk hb ha=>zgv F hr hg hm hk hb .nil zmv ha) :
  FX K X (.Call (.Name x p) [e,e',.Name y p1] [] pos) (zcr m i (zaa fe (zaa fe' nilF))):=FX.mk fun ρ d ρ' hf=>by
 subst hK
 obtain ⟨pp,c,ds,c',e1,e2,e3,rfl⟩:=zhT hf
 obtain ⟨d1,l,e4,e5,rfl⟩:=zdv e2
 obtain ⟨d2,l2,e6,e7,rfl⟩:=zdv e5
 have e7:some []=some l2:=e7
 cases e7
 obtain ⟨f,fd,F,hb,hk,hm⟩:=G.ex
 refine PE.imp (H1 F (hr.mono hle) hg hm hk hb (zbk (he.h ρ d1 e4) (zbk (he'.h ρ d2 e6) (zbk (zcK hN hv hd hcd) zcM hs) hs1) hs0)) fun σ H Q h_=>?_
 obtain ⟨Fz,r,q⟩:=h_
 refine ⟨Fz,r,fun v F1 H1 g1 r1=>⟨F1,r.grow g1,fun u F2 H2 g2 r2=>?_⟩⟩
 have rg:=(r.grow g1).grow g2
 obtain ⟨a,h1,h2,h3⟩:=rg.own i pp c e1
 refine ⟨_,h1,F2,a,[v,u],[d1,d2],c,d,c',rfl,Nat.le_refl _,g2.fh,h2,h3,DatL.cons (Dat.mono g2.ff r1) (DatL.cons r2 DatL.nil),e3,fun v' F' H' ch ho hd'=>?_⟩
 obtain ⟨x1,x2⟩:=rg.chg e1 h1 ch ho
 exact q v' F' H' x1 ((g1.trans g2).step.trans x2 r.sub) hd'
noncomputable def retX (m:En→Option (D×En)):En→Option Fl:=fun ρ=>(m ρ).map fun q=>.rt q.1 q.2
theorem sretX {e:Expr}{m:En→Option (D×En)} {pos:Pos}(he:FX K X e m):FS K .fz X (.Return (some e) pos) (retX m):=FS.mk fun ρ fl hf=>by
 unfold retX at hf
 cases e1:m ρ with
 | none=>rw [e1] at hf;cases hf
 | some q1=>
  obtain ⟨d,ρ1⟩:=q1
  rw [e1] at hf;cases hf
  exact PS.imp (ziS (he.h ρ d ρ1 e1)) fun D σ H ⟨F,r,q⟩=>⟨F,r,fun v F1 H1 r1 s1 h=>q v σ F1 H1 r1 s1 h⟩
end
noncomputable def zfY (jj:Nat) (ρ:En):Option D:=match ρ[jj]? with
 | some (some (.ow true c))=>some c
 | _=>none
theorem zhL {jj:Nat}{ρ:En} {c:D}(h:zfY jj ρ=some c):ρ[jj]?=some (some (.ow true c)):=by
 unfold zfY at h
 split at h
 ·rename_i e;cases h;exact e
 ·cases h
noncomputable def zfL (g:D→En→Option En) (m:En→Option (D×En)) (ρi:En) (jj:Nat):D→List D→Option (List D×D)
 | c,[]=>some ([],c)
 | c,x::xs=>(g x (ρi.set jj (some (.inn c)))).bind fun ρ1=>(m ρ1).bind fun q=>(zfY jj q.2).bind fun c2=>(zfL g m ρi jj c2 xs).map fun r=>(q.1::r.1,r.2)
noncomputable def zdf (i jj:Nat) (cap:List (Option Nat)) (fi:En→Option (List D)) (g:D→En→Option En) (m:En→Option (D×En)):En→Option (D×En):=fun ρ=>match ρ[i]?,fi ρ with
 | some (some (.ow p c)),some ds=>if ds.length≤lim then (zfL g m (st0E cap ρ) jj c ds).map fun r=>(.lst r.1,ρ.set i (some (.ow p r.2))) else none
 | _,_=>none
section
variable {K:PySem.W.Frag}{X:Cx} {pos:Pos}{tg iter elt:Expr} {scope:Scope}
theorem Rel.innerX {F H:Hp}{ρ:En} {σ:St}{cap:List (Option Nat)} {i jj:Nat}{p:Bool} {c:D}(r:Rel K F H ρ σ) (e:ρ[i]?=some (some (.ow p c))) (hc:cap[jj]?=some (some i)) (ho:∀ k,cap[k]?=some (some i)→k=jj) :
  Rel K F H ((st0E cap ρ).set jj (some (.inn c))) (st0 cap σ):=by
 have b:=r.inner (cap:=cap)
 obtain ⟨a,h1,h2,h3⟩:=r.own i p c e
 have hs:=zgk (σ:=σ) hc h1
 refine ⟨r.sub,fun j x q=>?_,fun j x q=>?_,fun j qq x q=>?_,fun j k qq x s d ne e1 e2 e3 e4=>?_,by simp [b.len]⟩
 ·rcases zai q with ⟨rfl,q'⟩ | ⟨ne,q'⟩
  ·cases q'
  ·exact b.dat j x q'
 ·rcases zai q with ⟨rfl,q'⟩ | ⟨ne,q'⟩
  ·cases q'
  ·exact b.bor j x q'
 ·rcases zai q with ⟨rfl,q'⟩ | ⟨ne,q'⟩
  ·cases q';exact ⟨a,hs,h2,h3⟩
  ·exact b.own j qq x q'
 ·rcases zai e1 with ⟨rfl,e1'⟩ | ⟨ne1,e1'⟩
  ·rcases zai e3 with ⟨rfl,e3'⟩ | ⟨ne3,e3'⟩
   ·exact absurd rfl ne
   ·rw [hs] at e2;cases e2
    obtain ⟨l,s0,l1,l2,l3⟩:=zdy e3'
    have hl:l≠i:=fun z=>ne3 (ho k (by rw [l1,z]))
    intro z
    have zz:σ[l]?=some (some (.ref a)):=by
     unfold st0 at z
     rw [List.getElem?_map,l1] at z
     simp at z
     cases e5:σ[l]? with
     | none=>rw [e5] at z;cases z
     | some y=>rw [e5] at z;simp at z;rw [z]
    refine r.inj i l p c s0 a (Ne.symm hl) e h1 l2 ?_ zz
    cases s0<;>simp [bors] at l3
    ·subst l3;cases e4
    ·rfl
    ·rfl
  ·obtain ⟨l,s0,l1,l2,l3⟩:=zdy e1'
   cases s0<;>simp [bors] at l3
theorem st0E_set {cap:List (Option Nat)}{ρ:En} {i jj:Nat}{y z:Option Sl} (ho:∀ k,cap[k]?=some (some i)→k=jj):(st0E cap (ρ.set i y)).set jj z=(st0E cap ρ).set jj z:=by
 apply List.ext_getElem?
 intro k
 by_cases hk:k=jj
 ·subst hk
  rw [List.getElem?_set,List.getElem?_set]
  simp [st0E]
 ·rw [List.getElem?_set_ne (Ne.symm hk),List.getElem?_set_ne (Ne.symm hk)]
  unfold st0E
  rw [List.getElem?_map,List.getElem?_map]
  cases e:cap[k]? with
  | none=>rfl
  | some o=>
   cases o with
   | none=>rfl
   | some j=>
    have hj:j≠i:=fun z=>hk (ho k (by rw [e,z]))
    simp [List.getElem?_set_ne (Ne.symm hj)]
theorem compX_rd {i jj:Nat}{cap:List (Option Nat)} {g:D→En→Option En}{m:En→Option (D×En)} {ρ:En}{ds rs:List D} {c0 c9:D}{p:Bool} {σ:St}{H F:Hp} {Q:VK}(hcap:cap[jj]?=some (some i)) (ho:∀ k,cap[k]?=some (some i)→k=jj)
  (e1:ρ[i]?=some (some (.ow p c0))) (e3:zfL g m (st0E cap ρ) jj c0 ds=some (rs,c9)) (hn:ds.length≤lim) (r:Rel K F H ρ σ)
  (q:∀ v F' H',Rel K F' H' (ρ.set i (some (.ow p c9))) σ→Step ρ σ F H (ρ.set i (some (.ow p c9))) σ F' H'→Dat K F' (.lst rs) v→Q v H') {J:It}{F1 H1:Hp} (g1:Grow F H F1 H1) (ok:zhh K J F1 ds) :
  wComp K J (fun v σ H Q=>∃ i:{ q:En×D×En // g q.2.1 q.1=some q.2.2 },rdG K i.1.1 i.1.2.1 i.1.2.2 v σ H Q) tYes (fun σ H Q=>∃ i:{ q:En×D×En // m q.1=some q.2 },rdX K i.1.1 i.1.2.1 i.1.2.2 σ H Q) cap σ H1 Q:=by
 obtain ⟨a,hσ,fa0,own0⟩:=r.own i p c0 e1
 obtain ⟨oa,hoa⟩:=own0.some
 intro dd hdd
 have hdH:H dd=none:=g1.hh.free hdd
 have hda:dd≠a:=fun z=>by rw [z,hoa] at hdH;cases hdH
 have g1':Grow F H F1 (upd H1 dd (.lst [])):=g1.trans (Grow.fresh g1.fh hdd)
 refine ⟨fun n mm H2=>∃ acc,n≤ds.length∧mm=ds.length - n∧∃ F2 done left c,Chg F H a F2 H2∧Own K F2 H2 c a∧Same F1 F2∧F2 dd=none∧H2 dd=some (.lst acc)∧DatL K F2 done acc∧acc.length≤n∧zfL g m (st0E cap ρ) jj c (ds.drop n)=some (left,c9)∧rs=done++left,
  ⟨ds.length,[],Nat.zero_le _,rfl,F1,[],rs,c0,g1'.chg hoa fa0,own0.mono g1'.ff (fun o e=>g1'.hh _ _ e),Same.refl _,g1.fh.free hdd,zas,DatL.nil,Nat.zero_le _,e3,rfl⟩,?_⟩
 rintro n mm H2 ⟨acc,hi,rfl,F2,done,left,c,ch,own2,ff,fd,hd,da,al,e4,e5⟩
 obtain ⟨o1,o2,o3⟩:=ok F2 H2 ff ch.fh
 by_cases hlt:n < ds.length
 ·refine .inr ⟨o1 n hlt,fun x H3 y=>?_⟩
  obtain ⟨F3,g3,d3⟩:=o2 n x H3 _ (List.getElem?_eq_getElem hlt) y
  rw [List.drop_eq_getElem_cons hlt] at e4
  simp only [zfL] at e4
  obtain ⟨o2a,ho2a⟩:=own2.some
  have ch3:Chg F H a F3 H3:=ch.trans (g3.chg ho2a ch.fa)
  have own3:=own2.mono g3.ff (fun o e=>g3.hh _ _ e)
  obtain ⟨r3,_⟩:=r.chg e1 hσ ch3 own3
  have hil:i < ρ.length:=(List.getElem?_eq_some_iff.mp e1).1
  have rin:=r3.innerX (cap:=cap) (jj:=jj) (zeF hil) hcap ho
  rw [st0E_set ho] at rin
  cases e6:g ds[n] ((st0E cap ρ).set jj (some (.inn c))) with
  | none=>rw [e6] at e4;cases e4
  | some ρ1=>
   simp only [e6,Option.bind_some] at e4
   refine ⟨⟨(_,ds[n],ρ1),e6⟩,F3,rin,d3,fun σ2 r2 kp=>?_⟩
   simp only [tYes,if_true]
   cases e7:m ρ1 with
   | none=>rw [e7] at e4;cases e4
   | some q1=>
    obtain ⟨d1,ρ2⟩:=q1
    simp only [e7,Option.bind_some] at e4
    cases e8:zfY jj ρ2 with
    | none=>rw [e8] at e4;cases e4
    | some c2=>
     simp only [e8,Option.bind_some] at e4
     cases e9:zfL g m (st0E cap ρ) jj c2 (ds.drop (n + 1)) with
     | none=>rw [e9] at e4;cases e4
     | some l=>
      obtain ⟨l,c8⟩:=l
      rw [e9] at e4;cases e4
      refine ⟨⟨(ρ1,d1,ρ2),e7⟩,F3,r2,fun v F4 H4 r4 s4 d4=>?_⟩
      have hsi:(st0 cap σ)[jj]?=some (some (.ref a)):=zgk hcap hσ
      obtain ⟨x1,p1,p2⟩:=s4.pin jj c2 (zhL e8)
      obtain ⟨x2,p3,p4⟩:=kp.pin jj x1 p1
      obtain ⟨b,b1,b2,b3⟩:=r4.own jj true c2 (zhL e8)
      rw [p4,hsi] at b1
      cases b1
      have only:∀ b,zeD ρ1 σ2 b→b=a:=fun b z=>by
       obtain ⟨k,pp,x,k1,k2⟩:=kp.own b z
       rcases zai k1 with ⟨rfl,_⟩ | ⟨ne,k1'⟩
       ·rw [hsi] at k2;cases k2;rfl
       ·obtain ⟨l,s0,l1,l2,l3⟩:=zdy k1'
        cases s0<;>simp [bors] at l3
      have ch4:Chg F3 H3 a F4 H4:=⟨s4.ff,s4.fh,fun b o e n ne=>s4.rest b o e n fun z=>ne (only b z),b2⟩
      have hd3:=g3.hh _ _ hd
      have fd3:=g3.nw _ _ hd fd
      obtain ⟨hd4,fd4⟩:=ch4.rest dd _ hd3 fd3 hda
      refine ⟨acc,hd4,zgJ (by omega),ds.length - (n + 1),by omega,_,hlt,rfl,F4,done++[d1],l,c2,?_,b3.mono (Same.refl _) (fun o e=>by rw [zaw (Ne.symm hda)];exact e),ff.trans (g3.ff.trans ch4.ff),fd4,zas,(da.mono (g3.ff.trans ch4.ff)).snoc d4,by rw [List.length_append,List.length_singleton];omega,e9,by rw [e5];simp⟩
      have chh:=ch3.trans ch4
      exact ⟨chh.ff,fun b o e=>by rw [zaw (zal e fd4)];exact chh.fh _ _ e,fun b o e n ne=>by
       obtain ⟨z1,z2⟩:=chh.rest b o e n ne
       exact ⟨by rw [zaw (zal e hdH)];exact z1,z2⟩,chh.fa⟩
 ·have e:n=ds.length:=by omega
  subst e
  rw [List.drop_length] at e4
  have e4:some ([],c)=some (left,c9):=e4
  cases e4
  rw [List.append_nil] at e5
  subst e5
  have x:Same F2 (frz1 F2 H2 dd):=zde fd
  have chf:Chg F H a (frz1 F2 H2 dd) H2:=⟨ch.ff.trans x,zeK ch.fh,fun b o e n ne=>by
   obtain ⟨z1,z2⟩:=ch.rest b o e n ne
   exact ⟨z1,by rw [zdH (zal e hdH)];exact z2⟩,by rw [zdH (Ne.symm hda)];exact ch.fa⟩
  obtain ⟨rf,sf⟩:=r.chg e1 hσ chf (own2.mono x fun o e=>e)
  exact .inl ⟨o3,q _ _ _ rf sf (Own.freeze (d:=.lst rs) ⟨acc,hd,da⟩ fd (Own.fl (K:=K) (F:=F2) (l:=rs) ⟨acc,hd,da⟩))⟩
theorem xcomp (i jj:Nat) {fi:En→Option (List D)}{g:D→En→Option En} {m:En→Option (D×En)}(N:List Str) (cap:List (Option Nat)) (cp:Cap X scope N cap) (hc:X.calm=true) (hi:FI K X tg iter fi)
  (hg:∀ C s0 H0 fp,FG K (zaR X N scope (clOf X.env scope.names []) C s0 H0 fp) tg g) (he:∀ C s0 H0 fp,FX K (zaR X N scope (clOf X.env scope.names []) C s0 H0 fp) elt m)
  (hcap:cap[jj]?=some (some i):=by rfl) (hol:(List.range cap.length).all (fun k=>cap[k]? != some (some i) || k == jj)=true:=by rfl)
  (S:zbQ X scope:=by exact zbQ.mk') (hs:∀ x,foldedSetIterable iter X.env x=pure x:=by intro _;rfl) (hK:X.K=K:=by rfl) :
  FX K X (.ListComp elt [⟨tg,iter,[],0⟩] scope pos) (zdf i jj cap fi g m):=FX.mk fun ρ d ρ' hf=>by
 subst hK
 have ho:∀ k,cap[k]?=some (some i)→k=jj:=fun k hk=>by
  have h:=List.all_eq_true.mp hol k (List.mem_range.mpr (List.getElem?_eq_some_iff.mp hk).1)
  simpa [hk] using h
 unfold zdf at hf
 split at hf
 ·rename_i p c0 ds e1 e2
  split at hf
  ·rename_i hn
   cases e3:zfL g m (st0E cap ρ) jj c0 ds with
   | none=>rw [e3] at hf;cases hf
   | some rr=>
    obtain ⟨rs,c9⟩:=rr
    rw [e3] at hf
    cases hf
    refine PE.imp (zmr N cap cp hc (hi.h ρ ds e2) (fun C s0 H0 fp=>PG.any fun i:{ q:En×D×En // g q.2.1 q.1=some q.2.2 }=>(hg C s0 H0 fp).h _ _ _ i.2) (fun C s0 H0 fp=>zml)
     (fun C s0 H0 fp=>PE.any fun i:{ q:En×D×En // m q.1=some q.2 }=>(he C s0 H0 fp).h _ _ _ i.2) S hs) fun σ H Q ⟨F,r,q⟩=>?_
    exact ⟨F,r,fun J F1 H1 g1 ok=>compX_rd hcap ho e1 e3 hn r q g1 ok⟩
  ·cases hf
 ·cases hf
end
end FL
set_option Elab.async false
set_option linter.all false
set_option maxRecDepth 100000
namespace HT
open PySem PySem.Spec PyProof.Rows
noncomputable def ZS (h:Heap) (z TI TO:Addr):Prop:=∃ f0 f1,h.get? z=some { cls:=.type "zip",dict:=none,data:=.fields #[f0,f1,.bool false,.ref TI,.ref TO],slots:=#[] }∧(f0=.none∨∃ T:Nat,f0=rawInt T)
section
variable {prog:Program}{w:World} {A:Around}{E:Value→Shared→Prop} {s:Shared}
theorem zfy {a:Addr}{Q:Option Obj→Shared→Prop} (h:Q (s.heap.get? a) s):wpAny (model prog w) A (loadIfAlive a) Q E s:=by
 exact fun _ _ _=>h
theorem isFree {z TI TO:Addr}{Q:Bool→Shared→Prop} (hz:ZS s.heap z TI TO) (h1:Q true s) (h2:∀ h',ZS h' z TI TO→Heap.SameBut z s.heap h'→Q false { s with heap:=h' }) :
  wpAny (model prog w) A (Builtin.SmallTypes.ownedTupleIsFree (.ref z)) Q E s:=by
 obtain ⟨f0,f1,hz,hf⟩:=hz
 unfold Builtin.SmallTypes.ownedTupleIsFree
 rcases hf with rfl | ⟨T,rfl⟩
 ·exact wpAny_bind (wpAny_field hz rfl (x:=.none) rfl (wpAny_pure h1))
 ·refine wpAny_bind (wpAny_field hz rfl (x:=rawInt T) rfl ?_)
  show wpAny _ _ (loadIfAlive _ >>= _) _ _ _
  refine wpAny_bind (zfy ?_)
  split
  ·exact wpAny_pure h1
  ·refine wpAny_bind (wpAny_field hz rfl (x:=f1) rfl ?_)
   split
   ·refine wpAny_bind (wpAny_setField_rec hz (by simp) fun h' hz' hs'=>wpAny_pure (h2 h' ⟨_,_,hz',.inr ⟨T,rfl⟩⟩ hs'))
   ·exact wpAny_pure (h2 s.heap ⟨_,_,hz,.inr ⟨T,rfl⟩⟩ ⟨rfl,fun _ _=>rfl⟩)
theorem zlL {z TI TO i1 i2 l1 l2:Addr}{n1 n2 i:Nat} {P1 P2:Nat→Value→Prop}{S1 S2:Nat→Heap→Prop} {Q:Value→Shared→Prop}(D:ZipApart z TI TO i1 i2 l1 l2)
  (D1:Draws prog w A i1 [i1,l1] n1 P1 S1) (D2:Draws prog w A i2 [i2,l2] n2 P2 S2) (hz:ZS s.heap z TI TO) (hTI:IsPair s.heap TI (.ref i1) (.ref i2)) (hTO:∃ a b,IsPair s.heap TO a b) (st1:S1 i s.heap) (st2:S2 i s.heap) (hi1:i < n1) (hi2:i < n2)
  (hQ:∀ x y h' tk,P1 i x→P2 i y→ZS h' z TI TO→(∃ a b,IsPair h' TO a b)→S1 (i + 1) h'→S2 (i + 1) h'→IsPair h' s.heap.objs.size x y→h'.objs.size=s.heap.objs.size + 1→
   (∀ c o,c≠z→c≠TO→c≠i1→c≠i2→s.heap.get? c=some o→h'.get? c=some o)→Q (.ref s.heap.objs.size) { s with heap:=h',toks:=tk }) :
  wpAny (model prog w) A (Builtin.«zip.__next__» ⟨[.ref z],[]⟩) (fun fin s'=>∃ v,fin=.done (.ret v)∧Q v s') E s:=by
 obtain ⟨f0,f1,hz0,hf⟩:=id hz
 obtain ⟨o1,live1⟩:=D1.live _ _ st1
 obtain ⟨o2,live2⟩:=D2.live _ _ st2
 have F1:∀ {k:Nat}{h h':Heap} {c:Addr},S1 k h→Heap.SameBut c h h'→i1≠c→l1≠c→S1 k h':=fun st hs e1 e2=>D1.frame _ _ _ st fun b hb o e=>by
  rcases List.mem_cons.mp hb with rfl | hb
  ·exact hs.extBut _ _ e1 e
  ·rw [List.mem_singleton.mp hb] at e ⊢;exact hs.extBut _ _ e2 e
 have F2:∀ {k:Nat}{h h':Heap} {c:Addr},S2 k h→Heap.SameBut c h h'→i2≠c→l2≠c→S2 k h':=fun st hs e1 e2=>D2.frame _ _ _ st fun b hb o e=>by
  rcases List.mem_cons.mp hb with rfl | hb
  ·exact hs.extBut _ _ e1 e
  ·rw [List.mem_singleton.mp hb] at e ⊢;exact hs.extBut _ _ e2 e
 show wpAny _ _ (field (.ref z) 2 >>= _) _ _ _
 refine wpAny_bind (wpAny_field hz0 rfl (x:=.bool false) rfl ?_)
 show wpAny _ _ (field (.ref z) 3 >>= _) _ _ _
 refine wpAny_bind (wpAny_field hz0 rfl (x:=.ref TI) rfl ?_)
 refine wpAny_bind (wpAny_seqItems hTI rfl ?_)
 show wpAny _ _ (Builtin.SmallTypes.ownedTupleIsFree (.ref z) >>= _) _ _ _
 refine wpAny_bind (isFree hz ?_ fun h₁ hz₁ hs₁=>?_)
 ·simp only [if_true]
  obtain ⟨a,b,hTO⟩:=hTO
  refine wpAny_bind (wpAny_rule ?_)
  refine wpAny_bind (wpAny_field hz0 rfl (x:=.ref TO) rfl ?_)
  refine wpAny_bind (wpAny_setField_rec hz0 (by simp) fun h₁ hz₁ hs₁=>?_)
  refine wpAny_bind ?_
  simp only [List.zipIdx_cons,List.zipIdx_nil,List.forIn_cons,List.forIn_nil]
  refine wpAny_bind (wpAny_bind (wpAny_onRaise ?_))
  show wpAny _ _ (Builtin.SmallTypes.nextOf (.ref i1) >>= _) _ _ _
  refine wpAny_bind (D1.item i { s with heap:=h₁ } _ _ hi1 (F1 st1 hs₁ D.i1z D.l1z) fun x h₂ tk₂ px st1' hs₂=>wpAny_pure ?_)
  have hTO₂:IsPair h₂ TO a b:=hs₂.extBut _ _ D.TOi1 (hs₁.extBut _ _ D.TOz hTO)
  refine wpAny_bind (wpAny_seqItems hTO₂ rfl ?_)
  refine wpAny_bind (wpAny_updateSeq_pair hTO₂ fun h₃ hTO₃ hs₃=>?_)
  replace hTO₃:IsPair h₃ TO x b:=hTO₃
  refine wpAny_bind (wpAny_letGo (wpAny_pure ?_))
  refine wpAny_bind (wpAny_bind (wpAny_onRaise ?_))
  show wpAny _ _ (Builtin.SmallTypes.nextOf (.ref i2) >>= _) _ _ _
  refine wpAny_bind (D2.item i { s with heap:=h₃,toks:=tk₂ } _ _ hi2 (F2 (F2 (F2 st2 hs₁ D.i2z D.l2z) hs₂ D.i12.symm D.l2i1) hs₃ D.TOi2.symm D.l2TO) fun y h₄ tk₄ py st2' hs₄=>wpAny_pure ?_)
  have hTO₄:IsPair h₄ TO x b:=hs₄.extBut _ _ D.TOi2 hTO₃
  refine wpAny_bind (wpAny_seqItems hTO₄ rfl ?_)
  refine wpAny_bind (wpAny_updateSeq_pair hTO₄ fun h₅ hTO₅ hs₅=>?_)
  replace hTO₅:IsPair h₅ TO x y:=hTO₅
  refine wpAny_bind (wpAny_letGo (wpAny_pure (wpAny_pure ?_)))
  refine wpAny_bind (wpAny_seqItems hTO₅ rfl ?_)
  refine wpAny_bind (wpAny_newTuple ?_)
  have hsz:h₅.objs.size=s.heap.objs.size:=by rw [hs₅.1,hs₄.1,hs₃.1,hs₂.1,hs₁.1]
  have hz₅:=hs₅.extBut _ _ D.TOz.symm (hs₄.extBut _ _ D.i2z.symm (hs₃.extBut _ _ D.TOz.symm (hs₂.extBut _ _ D.i1z.symm hz₁)))
  have hk₅:∀ c o,c≠z→c≠TO→c≠i1→c≠i2→s.heap.get? c=some o→h₅.get? c=some o:=fun c o c1 c2 c3 c4 e=>
   hs₅.extBut _ _ c2 (hs₄.extBut _ _ c4 (hs₃.extBut _ _ c2 (hs₂.extBut _ _ c3 (hs₁.extBut _ _ c1 e))))
  have h1₅:S1 (i + 1) h₅:=F1 (F1 (F1 st1' hs₃ D.TOi1.symm D.l1TO) hs₄ D.i12 D.l1i2) hs₅ D.TOi1.symm D.l1TO
  have h2₅:S2 (i + 1) h₅:=F2 st2' hs₅ D.TOi2.symm D.l2TO
  have hzlt:z < h₅.objs.size:=Heap.lt_size hz₅
  show wpAny _ _ (Builtin.SmallTypes.ownedTupleHandOut (.ref z) (.ref h₅.objs.size) >>= _) _ _ _
  refine wpAny_bind ?_
  unfold Builtin.SmallTypes.ownedTupleHandOut
  have hz₆:=Heap.get?_push_of_some { cls:=.type "tuple",data:=.seq #[x,y] } hz₅
  refine wpAny_bind (wpAny_setField_rec hz₆ (by simp) fun h₇ hz₇ hs₇=>?_)
  refine wpAny_setField_rec hz₇ (by simp) fun h₈ hz₈ hs₈=>?_
  have up:∀ c o,c≠z→h₅.get? c=some o→h₈.get? c=some o:=fun c o c1 e=>hs₈.extBut _ _ c1 (hs₇.extBut _ _ c1 (Heap.get?_push_of_some _ e))
  have hT₈:IsPair h₈ h₅.objs.size x y:=hs₈.extBut _ _ (Nat.ne_of_gt hzlt) (hs₇.extBut _ _ (Nat.ne_of_gt hzlt) (Heap.get?_push_size _ rfl))
  have hz8:h₈.objs.size=h₅.objs.size + 1:=by rw [hs₈.1,hs₇.1,Heap.size_push]
  rw [hsz] at hT₈ hz8
  refine wpAny_pure ⟨_,rfl,?_⟩
  show Q (.ref h₅.objs.size) _
  rw [hsz]
  refine hQ x y h₈ tk₄ px py ⟨_,_,hz₈,.inr ⟨_,rfl⟩⟩ ⟨_,_,up _ _ D.TOz hTO₅⟩ (D1.frame _ _ _ h1₅ fun b hb o e=>up b o ?_ e) (D2.frame _ _ _ h2₅ fun b hb o e=>up b o ?_ e) hT₈ hz8 fun c o c1 c2 c3 c4 e=>up c o c1 (hk₅ c o c1 c2 c3 c4 e)
  ·rcases List.mem_cons.mp hb with rfl | hb
   ·exact D.i1z
   ·rw [List.mem_singleton.mp hb];exact D.l1z
  ·rcases List.mem_cons.mp hb with rfl | hb
   ·exact D.i2z
   ·rw [List.mem_singleton.mp hb];exact D.l2z
 ·simp only [Bool.false_eq_true,if_false]
  obtain ⟨a,b,hTO⟩:=hTO
  rw [← Array.forIn_toList]
  refine wpAny_bind ?_
  simp only [List.forIn_cons,List.forIn_nil]
  refine wpAny_bind (wpAny_bind (wpAny_holding ?_))
  show wpAny _ _ (Builtin.SmallTypes.nextOf (.ref i1) >>= _) _ _ _
  refine wpAny_bind (D1.item i { s with heap:=h₁ } _ _ hi1 (F1 st1 hs₁ D.i1z D.l1z) fun x h₂ tk₂ px st1' hs₂=>wpAny_pure (wpAny_pure ?_))
  refine wpAny_bind (wpAny_bind (wpAny_holding ?_))
  show wpAny _ _ (Builtin.SmallTypes.nextOf (.ref i2) >>= _) _ _ _
  refine wpAny_bind (D2.item i { s with heap:=h₂,toks:=tk₂ } _ _ hi2 (F2 (F2 st2 hs₁ D.i2z D.l2z) hs₂ D.i12.symm D.l2i1) fun y h₄ tk₄ py st2' hs₄=>wpAny_pure (wpAny_pure (wpAny_pure ?_)))
  show wpAny _ _ (newTuple [x,y] >>= _) _ _ _
  refine wpAny_bind (wpAny_newTuple ?_)
  have hsz:h₄.objs.size=s.heap.objs.size:=by rw [hs₄.1,hs₂.1,hs₁.1]
  obtain ⟨g0,g1,hz₁',hg⟩:=hz₁
  have hz₄:=hs₄.extBut _ _ D.i2z.symm (hs₂.extBut _ _ D.i1z.symm hz₁')
  refine wpAny_pure ⟨_,rfl,?_⟩
  show Q (.ref h₄.objs.size) _
  have up:∀ c o,h₄.get? c=some o→(h₄.push { cls:=.type "tuple",data:=.seq #[x,y] }).get? c=some o:=fun c o e=>Heap.get?_push_of_some _ e
  have hT:IsPair (h₄.push { cls:=.type "tuple",data:=.seq #[x,y] }) h₄.objs.size x y:=Heap.get?_push_size _ rfl
  have hz8:(h₄.push { cls:=.type "tuple",data:=.seq #[x,y] }).objs.size=h₄.objs.size + 1:=Heap.size_push ..
  rw [hsz] at hT hz8 ⊢
  exact hQ x y _ tk₄ px py ⟨_,_,up _ _ hz₄,hg⟩ ⟨_,_,up _ _ (hs₄.extBut _ _ D.TOi2 (hs₂.extBut _ _ D.TOi1 (hs₁.extBut _ _ D.TOz hTO)))⟩ (D1.frame _ _ _ (F1 st1' hs₄ D.i12 D.l1i2) fun b hb o e=>up b o e) (D2.frame _ _ _ st2' fun b hb o e=>up b o e) hT hz8
   fun c o c1 c2 c3 c4 e=>up c o (hs₄.extBut _ _ c4 (hs₂.extBut _ _ c3 (hs₁.extBut _ _ c1 e)))
theorem zip_endD {z TI TO i1 i2 l1 l2:Addr}{n1 n2 i:Nat} {P1 P2:Nat→Value→Prop}{S1 S2:Nat→Heap→Prop} {Q:Fin→Shared→Prop}(D:ZipApart z TI TO i1 i2 l1 l2)
  (D1:Draws prog w A i1 [i1,l1] n1 P1 S1) (D2:Draws prog w A i2 [i2,l2] n2 P2 S2) (hz:ZS s.heap z TI TO) (hTI:IsPair s.heap TI (.ref i1) (.ref i2)) (hTO:∃ a b,IsPair s.heap TO a b) (st1:S1 i s.heap) (st2:S2 i s.heap) (he:i=n1∨(i < n1∧i=n2))
  (hE:∀ h' e tk,(∀ c o,c≠z→c≠TO→c≠i1→c≠i2→s.heap.get? c=some o→h'.get? c=some o)→(∃ o,h'.get? e=some o∧o.cls=.type "StopIteration")→E (.ref e) { s with heap:=h',toks:=tk }) :
  wpAny (model prog w) A (Builtin.«zip.__next__» ⟨[.ref z],[]⟩) Q E s:=by
 obtain ⟨f0,f1,hz0,hf⟩:=id hz
 have F1:∀ {k:Nat}{h h':Heap} {c:Addr},S1 k h→Heap.SameBut c h h'→i1≠c→l1≠c→S1 k h':=fun st hs e1 e2=>D1.frame _ _ _ st fun b hb o e=>by
  rcases List.mem_cons.mp hb with rfl | hb
  ·exact hs.extBut _ _ e1 e
  ·rw [List.mem_singleton.mp hb] at e ⊢;exact hs.extBut _ _ e2 e
 have F2:∀ {k:Nat}{h h':Heap} {c:Addr},S2 k h→Heap.SameBut c h h'→i2≠c→l2≠c→S2 k h':=fun st hs e1 e2=>D2.frame _ _ _ st fun b hb o e=>by
  rcases List.mem_cons.mp hb with rfl | hb
  ·exact hs.extBut _ _ e1 e
  ·rw [List.mem_singleton.mp hb] at e ⊢;exact hs.extBut _ _ e2 e
 show wpAny _ _ (field (.ref z) 2 >>= _) _ _ _
 refine wpAny_bind (wpAny_field hz0 rfl (x:=.bool false) rfl ?_)
 show wpAny _ _ (field (.ref z) 3 >>= _) _ _ _
 refine wpAny_bind (wpAny_field hz0 rfl (x:=.ref TI) rfl ?_)
 refine wpAny_bind (wpAny_seqItems hTI rfl ?_)
 show wpAny _ _ (Builtin.SmallTypes.ownedTupleIsFree (.ref z) >>= _) _ _ _
 refine wpAny_bind (isFree hz ?_ fun h₁ hz₁ hs₁=>?_)
 ·simp only [if_true]
  obtain ⟨a,b,hTO⟩:=hTO
  refine wpAny_bind (wpAny_rule ?_)
  refine wpAny_bind (wpAny_field hz0 rfl (x:=.ref TO) rfl ?_)
  refine wpAny_bind (wpAny_setField_rec hz0 (by simp) fun h₁ hz₁ hs₁=>?_)
  refine wpAny_bind ?_
  simp only [List.zipIdx_cons,List.zipIdx_nil,List.forIn_cons,List.forIn_nil]
  refine wpAny_bind (wpAny_bind (wpAny_onRaise ?_))
  show wpAny _ _ (Builtin.SmallTypes.nextOf (.ref i1) >>= _) _ _ _
  rcases he with rfl | ⟨hlt,rfl⟩
  ·refine wpAny_bind (D1.done { s with heap:=h₁ } _ _ (F1 st1 hs₁ D.i1z D.l1z) fun h₂ e hs₂ he=>?_)
   obtain ⟨oe,hoe,hce⟩:=he
   have hz₂:=hs₂ _ _ D.i1z.symm hz₁
   have hez:e≠z:=fun x=>by subst x;rw [hz₂] at hoe;cases hoe;simp at hce
   exact wpAny_setField_rec hz₂ (by simp) fun h₃ _ hs₃=>hE h₃ e s.toks (fun c o c1 _ c3 _ x=>hs₃.extBut _ _ c1 (hs₂ _ _ c3 (hs₁.extBut _ _ c1 x))) ⟨oe,hs₃.extBut _ _ hez hoe,hce⟩
  ·refine wpAny_bind (D1.item i { s with heap:=h₁ } _ _ hlt (F1 st1 hs₁ D.i1z D.l1z) fun x h₂ tk₂ px st1' hs₂=>wpAny_pure ?_)
   have hTO₂:IsPair h₂ TO a b:=hs₂.extBut _ _ D.TOi1 (hs₁.extBut _ _ D.TOz hTO)
   refine wpAny_bind (wpAny_seqItems hTO₂ rfl ?_)
   refine wpAny_bind (wpAny_updateSeq_pair hTO₂ fun h₃ hTO₃ hs₃=>?_)
   refine wpAny_bind (wpAny_letGo (wpAny_pure ?_))
   refine wpAny_bind (wpAny_bind (wpAny_onRaise ?_))
   show wpAny _ _ (Builtin.SmallTypes.nextOf (.ref i2) >>= _) _ _ _
   refine wpAny_bind (D2.done { s with heap:=h₃,toks:=tk₂ } _ _ (F2 (F2 (F2 st2 hs₁ D.i2z D.l2z) hs₂ D.i12.symm D.l2i1) hs₃ D.TOi2.symm D.l2TO) fun h₄ e hs₄ he=>?_)
   obtain ⟨oe,hoe,hce⟩:=he
   have hz₄:=hs₄ _ _ D.i2z.symm (hs₃.extBut _ _ D.TOz.symm (hs₂.extBut _ _ D.i1z.symm hz₁))
   have hez:e≠z:=fun x=>by subst x;rw [hz₄] at hoe;cases hoe;simp at hce
   exact wpAny_setField_rec hz₄ (by simp) fun h₅ _ hs₅=>hE h₅ e tk₂ (fun c o c1 c2 c3 c4 x=>hs₅.extBut _ _ c1 (hs₄ _ _ c4 (hs₃.extBut _ _ c2 (hs₂.extBut _ _ c3 (hs₁.extBut _ _ c1 x))))) ⟨oe,hs₅.extBut _ _ hez hoe,hce⟩
 ·simp only [Bool.false_eq_true,if_false]
  rw [← Array.forIn_toList]
  refine wpAny_bind ?_
  simp only [List.forIn_cons,List.forIn_nil]
  refine wpAny_bind (wpAny_bind (wpAny_holding ?_))
  show wpAny _ _ (Builtin.SmallTypes.nextOf (.ref i1) >>= _) _ _ _
  rcases he with rfl | ⟨hlt,rfl⟩
  ·refine wpAny_bind (D1.done { s with heap:=h₁ } _ _ (F1 st1 hs₁ D.i1z D.l1z) fun h₂ e hs₂ he=>?_)
   exact hE h₂ e s.toks (fun c o c1 _ c3 _ x=>hs₂ _ _ c3 (hs₁.extBut _ _ c1 x)) he
  ·refine wpAny_bind (D1.item i { s with heap:=h₁ } _ _ hlt (F1 st1 hs₁ D.i1z D.l1z) fun x h₂ tk₂ px st1' hs₂=>wpAny_pure (wpAny_pure ?_))
   refine wpAny_bind (wpAny_bind (wpAny_holding ?_))
   show wpAny _ _ (Builtin.SmallTypes.nextOf (.ref i2) >>= _) _ _ _
   refine wpAny_bind (D2.done { s with heap:=h₂,toks:=tk₂ } _ _ (F2 (F2 st2 hs₁ D.i2z D.l2z) hs₂ D.i12.symm D.l2i1) fun h₄ e hs₄ he=>?_)
   exact hE h₄ e tk₂ (fun c o c1 _ c3 c4 x=>hs₄ _ _ c4 (hs₂.extBut _ _ c3 (hs₁.extBut _ _ c1 x))) he
structure ZSt (z TI TO i1 i2:Addr) (S1 S2:Nat→Heap→Prop) (i:Nat) (h:Heap):Prop where
 zs:ZS h z TI TO
 ti:IsPair h TI (.ref i1) (.ref i2)
 to:∃ a b,IsPair h TO a b
 s1:S1 i h
 s2:S2 i h
theorem next_zip {z TI TO i1 i2 l1 l2:Addr}{n1 n2 i:Nat} {P1 P2:Nat→Value→Prop}{S1 S2:Nat→Heap→Prop} {Q:Option Value→Shared→Prop}(D:ZipApart z TI TO i1 i2 l1 l2)
  (D1:Draws prog w A.in1 i1 [i1,l1] n1 P1 S1) (D2:Draws prog w A.in1 i2 [i2,l2] n2 P2 S2) (st:ZSt z TI TO i1 i2 S1 S2 i s.heap) (hi1:i < n1) (hi2:i < n2)
  (hQ:∀ x y h' tk,P1 i x→P2 i y→ZSt z TI TO i1 i2 S1 S2 (i + 1) h'→IsPair h' s.heap.objs.size x y→h'.objs.size=s.heap.objs.size + 1→
   (∀ c o,c∉[z,TO,i1,i2]→s.heap.get? c=some o→h'.get? c=some o)→Q (some (.ref s.heap.objs.size)) { s with heap:=h',toks:=tk }) :
  wpAny (model prog w) A (pyNext (.ref z)) Q E s:=by
 obtain ⟨f0,f1,hz0,hf⟩:=id st.zs
 have hT:s.TypeIs (.ref z) "zip" := ⟨_,hz0,rfl⟩
 unfold pyNext
 exact wpAny_bind (wpAny_attempt (wpAny_callSpecial?_slot (name:=Str.ofString "__next__") hT PySem.F.slot_zip_next
  (wpAny_call_entry PySem.F.slot_zip_next hT PySem.F.entry_zip_next
   (zlL D D1 D2 st.zs st.ti st.to st.s1 st.s2 hi1 hi2 fun x y h' tk a1 a2 a3 a4 a5 a6 a7 a8 a9=>wpAny_pure (hQ x y h' tk a1 a2 ⟨a3,a9 _ _ D.TIz D.TITO D.TIi1 D.TIi2 st.ti,a4,a5,a6⟩ a7 a8
    fun c o hc e=>a9 c o (fun z=>hc (by simp [z])) (fun z=>hc (by simp [z])) (fun z=>hc (by simp [z])) (fun z=>hc (by simp [z])) e)) (PySem.F.args_zip_next_1 _))))
theorem end_zip {z TI TO i1 i2 l1 l2:Addr}{n1 n2 i:Nat} {P1 P2:Nat→Value→Prop}{S1 S2:Nat→Heap→Prop} {Q:Option Value→Shared→Prop}(D:ZipApart z TI TO i1 i2 l1 l2)
  (D1:Draws prog w A.in1 i1 [i1,l1] n1 P1 S1) (D2:Draws prog w A.in1 i2 [i2,l2] n2 P2 S2) (st:ZSt z TI TO i1 i2 S1 S2 i s.heap) (he:i=n1∨(i < n1∧i=n2))
  (hQ:∀ h' tk,(∀ c o,c∉[z,TO,i1,i2]→s.heap.get? c=some o→h'.get? c=some o)→Q none { s with heap:=h',toks:=tk }):wpAny (model prog w) A (pyNext (.ref z)) Q E s:=by
 obtain ⟨f0,f1,hz0,hf⟩:=id st.zs
 have hT:s.TypeIs (.ref z) "zip" := ⟨_,hz0,rfl⟩
 unfold pyNext
 refine wpAny_bind (wpAny_attempt (wpAny_callSpecial?_slot (name:=Str.ofString "__next__") hT PySem.F.slot_zip_next
  (wpAny_call_entry PySem.F.slot_zip_next hT PySem.F.entry_zip_next (zip_endD D D1 D2 st.zs st.ti st.to st.s1 st.s2 he fun h' e tk hk he=>?_) (PySem.F.args_zip_next_1 _))))
 obtain ⟨o,ho,hc⟩:=he
 refine wpAny_bind (wpAny_isInstance (T := "StopIteration") (b:=true) ⟨o,ho,hc⟩ isSubtype_stop ?_)
 exact wpAny_pure (hQ _ _ fun c o hc e=>hk c o (fun z=>hc (by simp [z])) (fun z=>hc (by simp [z])) (fun z=>hc (by simp [z])) (fun z=>hc (by simp [z])) e)
noncomputable def SqI (b:Bool) (h:Heap) (l:Addr) (items:Array Value):Prop:=match b with
 | true=>h.IsList l items
 | false=>h.IsTuple l items
noncomputable def itI (b:Bool) (l:Addr) (k:Nat):Obj:={ cls:=.type (match b with | true => "list_iterator" | false => "tuple_iterator"),data:=.fields #[.ref l,.int k 0] }
noncomputable def StI (b:Bool) (it l:Addr) (items:Array Value):Nat→Heap→Prop:=fun i h=>match b with
 | true=>h.IsListIter it l i∧h.IsList l items
 | false=>h.IsTupleIter it l i∧h.IsTuple l items
theorem drawsI {prog:Program}{w:World} {A:Around}(hh:A.handled=none) (b:Bool) (it l:Addr) (hne:l≠it) (items:Array Value) :
  Draws prog w A it [it,l] items.size (fun i v=>items[i]?=some v) (StI b it l items):=by
 cases b
 ·exact drawsT hh it l hne items
 ·exact Draws.list hh it l hne items
theorem SqI.at {b:Bool}{h h':Heap} {l:Addr}{items:Array Value} (x:SqI b h l items) (k:∀ o,h.get? l=some o→h'.get? l=some o):SqI b h' l items:=by
 cases b
 ·obtain ⟨o,ho,r⟩:=x;exact ⟨o,k o ho,r⟩
 ·exact Heap.IsList.at x k
theorem zmc {b:Bool}{l:Addr} {items:Array Value}{Q:Value→Shared→Prop} (hl:SqI b s.heap l items) (hQ:Q (.ref s.heap.objs.size) { s with heap:=s.heap.push (itI b l 0) }):wpAny (model prog w) A (pyIter (.ref l)) Q E s:=by
 cases b
 ·exact wpAny_pyIter_tuple hl hQ
 ·exact wpAny_pyIter_list hl hQ
theorem stI0 {b:Bool}{h:Heap} {it l:Addr}{items:Array Value} (h1:h.get? it=some (itI b l 0)) (h2:SqI b h l items):StI b it l items 0 h:=by
 cases b
 ·exact ⟨⟨_,h1,rfl,rfl⟩,h2⟩
 ·exact ⟨⟨_,h1,rfl,rfl⟩,h2⟩
noncomputable def zH2 (b1 b2:Bool) (h:Heap) (l1 l2:Addr):Heap:=(h.push (itI b1 l1 0)).push (itI b2 l2 0)
noncomputable def zH4 (b1 b2:Bool) (h:Heap) (l1 l2:Addr):Heap:=((zH2 b1 b2 h l1 l2).push { cls:=.type "tuple",data:=.seq #[.ref h.objs.size,.ref (h.push (itI b1 l1 0)).objs.size] }).push { cls:=.type "tuple",data:=.seq #[.none,.none] }
noncomputable def zH5 (b1 b2:Bool) (h:Heap) (l1 l2:Addr):Heap:=(zH4 b1 b2 h l1 l2).push { cls:=.type "zip",data:=.fields #[.none,.bool false,.bool false,.ref (zH2 b1 b2 h l1 l2).objs.size,.ref ((zH2 b1 b2 h l1 l2).push { cls:=.type "tuple",data:=.seq #[.ref h.objs.size,.ref (h.push (itI b1 l1 0)).objs.size] }).objs.size] }
theorem zmL (b1 b2:Bool) (l1 l2:Addr) (xs ys:Array Value) :
  Meets (Builtin.«zip.__new__» ⟨[.type "zip",.ref l1,.ref l2],[]⟩) (fun _ R s=>SqI b1 s.heap l1 xs∧SqI b2 s.heap l2 ys∧
   R (.ok (.ret (.ref (zH4 b1 b2 s.heap l1 l2).objs.size))) { s with heap:=zH5 b1 b2 s.heap l1 l2 }):=
 .of_wp fun prog w A R s h=>by
  obtain ⟨hp,g,d,tk,os⟩:=s;obtain ⟨hl1,hl2,h⟩:=h
  have hsub:=sub_zip
  have hL1:SqI b1 (Shared.heap ⟨hp,g,d,tk,os⟩) l1 xs:=hl1
  have hL2:SqI b2 (Shared.heap ⟨hp.push (itI b1 l1 0),g,d,tk,os⟩) l2 ys:=hl2.at fun o e=>Heap.get?_push_of_some _ e
  wp_walk using zmc hL1,zmc hL2
  exact ⟨_,rfl,h⟩
theorem call_zip {b1 b2:Bool}{l1 l2:Addr} {xs ys:Array Value}{Q:Value→Shared→Prop} (hl1:SqI b1 s.heap l1 xs) (hl2:SqI b2 s.heap l2 ys)
  (h:∀ h',ZSt (s.heap.objs.size + 4) (s.heap.objs.size + 2) (s.heap.objs.size + 3) s.heap.objs.size (s.heap.objs.size + 1) (StI b1 s.heap.objs.size l1 xs) (StI b2 (s.heap.objs.size + 1) l2 ys) 0 h'→h'.objs.size=s.heap.objs.size + 5→
   (∀ c o,s.heap.get? c=some o→h'.get? c=some o)→Q (.ref (s.heap.objs.size + 4)) { s with heap:=h' }) :
  wpAny (model prog w) A (call (.type "zip") [.ref l1,.ref l2]) Q E s:=by
 refine callType_new PySem.F.called_zip (by decide) (PySem.F.typeCall_zip_2 _ _) (PySem.F.newCall_zip_2 _ _) (fun obj=>PySem.F.args_object_init_3 obj _ _) PySem.F.entry_zip_new
  (zmL b1 b2 l1 l2 xs ys) ⟨hl1,hl2,?_⟩
 have z1:(s.heap.push (itI b1 l1 0)).objs.size=s.heap.objs.size + 1:=Heap.size_push ..
 have z2:(zH2 b1 b2 s.heap l1 l2).objs.size=s.heap.objs.size + 2:=by unfold zH2;rw [Heap.size_push,z1]
 have z3:((zH2 b1 b2 s.heap l1 l2).push { cls:=.type "tuple",data:=.seq #[.ref s.heap.objs.size,.ref (s.heap.push (itI b1 l1 0)).objs.size] }).objs.size=s.heap.objs.size + 3:=by rw [Heap.size_push,z2]
 have z4:(zH4 b1 b2 s.heap l1 l2).objs.size=s.heap.objs.size + 4:=by unfold zH4;rw [Heap.size_push,z3]
 have z5:(zH5 b1 b2 s.heap l1 l2).objs.size=s.heap.objs.size + 5:=by unfold zH5;rw [Heap.size_push,z4]
 have fr:∀ (b:Bool) (l:Addr) (k:Nat),(itI b l k).isFreed=false:=fun b l k=>by cases b<;>rfl
 have g5:(zH5 b1 b2 s.heap l1 l2).get? (zH4 b1 b2 s.heap l1 l2).objs.size=some _:=Heap.get?_push_size _ rfl
 have g4:(zH5 b1 b2 s.heap l1 l2).get? _=some _:=Heap.get?_push_of_some _ (Heap.get?_push_size (((zH2 b1 b2 s.heap l1 l2).push { cls:=.type "tuple",data:=.seq #[.ref s.heap.objs.size,.ref (s.heap.push (itI b1 l1 0)).objs.size] })) rfl)
 have g3:(zH5 b1 b2 s.heap l1 l2).get? _=some _:=Heap.get?_push_of_some _ (Heap.get?_push_of_some _ (Heap.get?_push_size (zH2 b1 b2 s.heap l1 l2) rfl))
 have g2:(zH5 b1 b2 s.heap l1 l2).get? _=some _:=Heap.get?_push_of_some _ (Heap.get?_push_of_some _ (Heap.get?_push_of_some _ (Heap.get?_push_size (s.heap.push (itI b1 l1 0)) (fr b2 l2 0))))
 have g1:(zH5 b1 b2 s.heap l1 l2).get? _=some _:=Heap.get?_push_of_some _ (Heap.get?_push_of_some _ (Heap.get?_push_of_some _ (Heap.get?_push_of_some _ (Heap.get?_push_size s.heap (fr b1 l1 0)))))
 have kp:∀ c o,s.heap.get? c=some o→(zH5 b1 b2 s.heap l1 l2).get? c=some o:=fun c o x=>Heap.get?_push_of_some _ (Heap.get?_push_of_some _ (Heap.get?_push_of_some _ (Heap.get?_push_of_some _ (Heap.get?_push_of_some _ x))))
 show _∧_
 rw [z2,z3,z4] at g5
 rw [z1,z2] at g3
 rw [z3] at g4
 rw [z1] at g2
 rw [z4]
 exact ⟨⟨_,g5,rfl⟩,h _ ⟨⟨_,_,g5,.inl rfl⟩,g3,⟨_,_,g4⟩,stI0 g1 (hl1.at fun o e=>kp _ o e),stI0 g2 (hl2.at fun o e=>kp _ o e)⟩ z5 kp⟩
end
end HT
set_option Elab.async false
set_option linter.all false
set_option maxRecDepth 100000
namespace PySem.F
theorem zip_no_len:typeLookup (.type "zip") "__len__" = pure none:=by rw [typeLookup_type,builtinLookup_eq_fast];kernel_rfl
theorem zip_no_hint:typeLookup (.type "zip") "__length_hint__" = pure none:=by rw [typeLookup_type,builtinLookup_eq_fast];kernel_rfl
end PySem.F
namespace HT
open PySem PySem.Spec PyProof.Rows
theorem pyIter_zs {prog:Program}{w:World} {A:Around}{E:Value→Shared→Prop} {s:Shared}{z TI TO:Addr} {Q:Value→Shared→Prop}(hz:ZS s.heap z TI TO) (h:Q (.ref z) s):wpAny (model prog w) A (pyIter (.ref z)) Q E s:=by
 obtain ⟨f0,f1,hz,_⟩:=hz
 have hT:s.TypeIs (.ref z) "zip" := ⟨_,hz,rfl⟩
 refine wpAny_pyIter_slot hT PySem.F.slot_zip_iter (wpAny_call_entry PySem.F.slot_zip_iter hT PySem.F.entry_zip_iter ?_ (PySem.F.args_zip_iter_1 _))
 show wpAny _ _ (ret (.ref z)) _ _ s
 exact wpAny_pure ⟨_,rfl, "zip",_,hT,PySem.F.slot_zip_next.lookup,h⟩
end HT
namespace L2
open PySem PySem.Spec PyProof.Rows
section
variable {X:Cx}{pins:List (Addr×Obj)} {σ:St}{H:Hp} {s:Shared}{h':Heap} {ch:List Addr}
theorem Inv.turnedL {t':Nat}(I:Inv X pins σ H s) (hf:∀ b∈ch,FpOk X pins H b) (k:∀ b o,b∉ch→s.heap.get? b=some o→h'.get? b=some o):Inv X pins σ H { s with heap:=h',toks:=t' }:=by
 have nch:∀ b u,H b=some u→b∉ch:=fun b u e z=>by rw [(hf b z).1] at e;cases e
 refine I.step (g':=s.gens) (d':=s.drawn) (ch:=ch) (fun b hb=>?_) (fun b o _ _ hc e _=>k b o hc e) (fun b o _ _ hc e _=>⟨o.slots,k b o hc e⟩) (fun _ _ _ _ n=>n)
  (fun b o hc e=>⟨o,k b o hc e⟩) (fun _ _ e=>e) (fun _ _ _ e=>e) (fun b ps e=>⟨#[],by rw [e];simp⟩) (fun m hm=>?_) (fun b u e=>?_) I.bare
 ·obtain ⟨f0,f1,f2,f3,f4,f5⟩:=hf b hb
  exact ⟨f3,f1,f4,f5⟩
 ·obtain ⟨o,es,ep,ho,r⟩:=hm
  exact ⟨o,es,ep,k _ o (fun z=>(hf _ z).2.1 rfl) ho,r⟩
 ·refine (I.hok b u e).stay (fun c v hc q=>k c v ?_ q) (fun _ q=>q) fun _ _ q=>q
  rcases hc with z | z
  ·rw [z];exact nch b u e
  ·exact nch c _ z
theorem Inv.pairL {t':Nat}{x y:Value} {vx vy:V}(I:Inv X pins σ H s) (hf:∀ b∈ch,FpOk X pins H b) (k:∀ b o,b∉ch→s.heap.get? b=some o→h'.get? b=some o) (hT:IsPair h' s.heap.objs.size x y) (rx:RelV vx x) (ry:RelV vy y) :
  Inv X pins σ (upd H s.heap.objs.size (.tup [vx,vy])) { s with heap:=h',toks:=t' }:=by
 have nch:∀ b u,H b=some u→b∉ch:=fun b u e z=>by rw [(hf b z).1] at e;cases e
 have fr:H s.heap.objs.size=none:=I.fresh
 have hok0:HOk X.prog X.w H h':=fun b u q=>by
  refine (I.hok b u q).stay (fun c v hc q'=>k c v ?_ q') (fun _ z=>z) fun _ _ z=>z
  rcases hc with z | z
  ·rw [z];exact nch b u q
  ·exact nch c _ z
 have new:zcg X.prog X.w (upd H s.heap.objs.size (.tup [vx,vy])) h' s.heap.objs.size (.tup [vx,vy]):=
  ⟨by show 2≤sizeLine;rw [sizeLine_eq];decide,[x,y],.cons rx (.cons ry .nil),⟨_,hT,rfl,_,rfl⟩⟩
 have hok1:HOk X.prog X.w (upd H s.heap.objs.size (.tup [vx,vy])) h':=fun b u q=>by
  by_cases hb:b=s.heap.objs.size
  ·subst hb;rw [zas] at q;cases q;exact new
  ·rw [zaw hb] at q
   exact (hok0 b u q).stay (fun _ _ _ z=>z) (fun c z=>by rw [zaw (zal z fr)];exact z) fun c xs z=>by rw [zaw (zal z fr)];exact z
 refine I.step (g':=s.gens) (d':=s.drawn) (ch:=ch) (fun b hb=>?_) (fun b o _ _ hc e _=>k b o hc e) (fun b o _ _ hc e _=>⟨o.slots,k b o hc e⟩)
  (fun b o _ q n=>by rw [zaw (Nat.ne_of_lt (Heap.lt_size q))];exact n) (fun b o hc e=>⟨o,k b o hc e⟩) (fun b xs q=>by rw [zaw (zal q fr)];exact q) (fun b o xs q=>by rw [zaw (zal q fr)];exact q)
  (fun b ps q=>⟨#[],by rw [zaw (zal q fr),q];simp⟩) (fun m hm=>?_) hok1 I.bare
 ·obtain ⟨f0,f1,f2,f3,f4,f5⟩:=hf b hb
  exact ⟨f3,f1,f4,f5⟩
 ·obtain ⟨o,es,ep,ho,r⟩:=hm
  exact ⟨o,es,ep,k _ o (fun z=>(hf _ z).2.1 rfl) ho,r⟩
end
noncomputable def SqB (b:Bool) (K:PySem.W.Frag) (H:Hp) (a:Addr) (xs:List V):Prop:=match b with
 | true=>SqL K H a xs
 | false=>SqT K H a xs
theorem Inv.sq {X:Cx}{pins:List (Addr×Obj)} {σ:St}{H:Hp} {s:Shared}{b:Bool} {a:Addr}{xs:List V} (I:Inv X pins σ H s) (h:SqB b X.K H a xs):∃ its,Vals xs its∧HT.SqI b s.heap a its.toArray∧xs.length≤sizeLine:=by
 cases b
 ·obtain ⟨its,r,p,z⟩:=I.tuple h;exact ⟨its,r,p,z⟩
 ·obtain ⟨its,r,p,z⟩:=I.list h;exact ⟨its,r,p.isList,z⟩
noncomputable def zgg (S:Addr):List (V×V)→List V→Hp→(Hp→Prop)→Prop
 | [],_,H,R=>R H
 | (x,y)::l,acc,H,R=>∀ T,H T=none→zgg S l (acc++[.ref T]) (upd (upd H T (.tup [x,y])) S (.lst (acc++[.ref T]))) R
theorem zhx {S:Addr}{R R':Hp→Prop} (w:∀ H,R H→R' H):∀ {l:List (V×V)}{acc:List V} {H:Hp},zgg S l acc H R→zgg S l acc H R'
 | [],_,_,h=>w _ h
 | (x,y)::l,acc,H,h=>fun T hT=>zhx w (h T hT)
section
variable {X:Cx}{pins:List (Addr×Obj)} {σ:St}
theorem loopZ {z TI TO i1 i2 l1 l2 S:Addr}{b1 b2:Bool} {its1 its2:List Value}{xs ys:List V} {A:Around}{R:Result→Shared→Prop} {res:Value}(D:ZipApart z TI TO i1 i2 l1 l2) (hA:A.in1.in1.handled=none)
  (rx:Vals xs its1) (ry:Vals ys its2) (hn:xs.length≤sizeLine) (nS:S∉[z,TI,TO,i1,i2,l1,l2]) :
  ∀ (l:List (V×V)) (i:Nat) (s:Shared) (H:Hp) (acc:List V),l=(xs.zip ys).drop i→i≤xs.length→i≤ys.length→acc.length=i→Inv X pins σ H s→(∀ b∈[z,TO,i1,i2],FpOk X pins H b)→H S=some (.lst acc)→
  HT.ZSt z TI TO i1 i2 (HT.StI b1 i1 l1 its1.toArray) (HT.StI b2 i2 l2 its2.toArray) i s.heap→zgg S l acc H (fun H'=>∀ s',Inv X pins σ H' s'→R (.ok (.ret res)) s')→
  codeAny (model X.prog X.w) A (.builtin "list.extend.loop" ⟨[.ref S,.ref z,res],[]⟩) R s:=by
 have D1:=HT.drawsI (prog:=X.prog) (w:=X.w) (A:=A.in1.in1) hA b1 i1 l1 D.l1i1 its1.toArray
 have D2:=HT.drawsI (prog:=X.prog) (w:=X.w) (A:=A.in1.in1) hA b2 i2 l2 D.l2i2 its2.toArray
 have e1:=rx.length
 have e2:=ry.length
 intro l
 induction l with
 | nil=>
  intro i s H acc hl hi1 hi2 ha I hf hS st q
  have hz:(xs.zip ys).length≤i:=by
   have:=congrArg List.length hl
   rw [List.length_drop,List.length_nil] at this
   omega
  rw [List.length_zip] at hz
  refine codeAny_builtin PySem.F.entry_extend_loop ?_
  rw [Around.under_plainId PySem.F.plain_extend_loop _]
  show wpAny _ A.in1 (pyNext (.ref z) >>= _) _ _ s
  refine wpAny_bind (HT.end_zip D D1 D2 st (by simp only [List.size_toArray];omega) fun h' tk hk=>wpAny_pure ?_)
  exact q _ (I.turnedL hf hk)
 | cons p l ih=>
  obtain ⟨x,y⟩:=p
  intro i s H acc hl hi1 hi2 ha I hf hS st q
  have hlen:i < (xs.zip ys).length:=by
   have:=congrArg List.length hl
   rw [List.length_drop,List.length_cons] at this
   omega
  have hl2:=hl
  rw [List.drop_eq_getElem_cons hlen] at hl2
  injection hl2 with hp hl3
  have hlen':=hlen
  rw [List.length_zip] at hlen'
  have hx:xs[i]?=some x:=by
   rw [List.getElem_zip] at hp
   injection hp with hp1 hp2
   rw [hp1];simp
  have hy:ys[i]?=some y:=by
   rw [List.getElem_zip] at hp
   injection hp with hp1 hp2
   rw [hp2];simp
  obtain ⟨u,hu,ru⟩:=rx.get hx
  obtain ⟨v,hv,rv⟩:=ry.get hy
  refine codeAny_builtin PySem.F.entry_extend_loop ?_
  rw [Around.under_plainId PySem.F.plain_extend_loop _]
  show wpAny _ A.in1 (pyNext (.ref z) >>= _) _ _ s
  refine wpAny_bind (HT.next_zip D D1 D2 st (by simp only [List.size_toArray];omega) (by simp only [List.size_toArray];omega) fun x' y' h' tk px py st' hT hsz hk=>?_)
  have ex:x'=u:=by
   have:its1[i]?=some x':=by simpa using px
   rw [hu] at this;exact (Option.some.inj this).symm
  have ey:y'=v:=by
   have:its2[i]?=some y':=by simpa using py
   rw [hv] at this;exact (Option.some.inj this).symm
  subst ex ey
  have I1:Inv X pins σ (upd H s.heap.objs.size (.tup [x,y])) { s with heap:=h',toks:=tk }:=I.pairL hf hk hT ru rv
  have fr:H s.heap.objs.size=none:=I.fresh
  have hST:S≠s.heap.objs.size:=zal hS fr
  have hS1:upd H s.heap.objs.size (.tup [x,y]) S=some (.lst acc):=by rw [zaw hST];exact hS
  obtain ⟨its,n,r,ho,hz⟩:=I1.lst hS1
  show wpAny _ A.in1 (updateSeq S (·.push (.ref s.heap.objs.size)) >>= _) _ _ _
  refine wpAny_bind ?_
  have hal:its.length=i:=by rw [← r.length];exact ha
  refine wpAny_updateSeq ho rfl (wpAny_pure ⟨plainId_quiet PySem.F.plain_extend_loop _,?_⟩) (by simp only [List.size_toArray];omega) (by simp only [Array.size_push,List.size_toArray];omega)
  have I2:=I1.lstUpd hS1 ho (f:=Obj.mapSeq (·.push (.ref s.heap.objs.size))) (its':=its++[.ref s.heap.objs.size]) (ys:=acc++[.ref s.heap.objs.size]) (by simp [Obj.mapSeq];rfl) (r.append (.cons (show RelV (.ref s.heap.objs.size) (.ref s.heap.objs.size) from rfl) .nil)) (by rw [List.length_append,List.length_singleton];omega) tk
  refine ih (i + 1) _ _ (acc++[.ref s.heap.objs.size]) hl3 (by omega) (by omega) (by rw [List.length_append,List.length_singleton,ha]) I2 (fun b hb=>?_) zas ?_ (q _ fr)
  ·obtain ⟨f0,f1⟩:=hf b hb
   refine ⟨?_,f1⟩
   have hbS:b≠S:=fun z=>nS (by subst z;simp at hb ⊢;rcases hb with h | h | h | h<;>simp [h])
   have hbT:b≠s.heap.objs.size:=by
    intro z
    subst z
    obtain ⟨q1,q2,q3,_⟩:=st.zs
    obtain ⟨a1,a2,q4⟩:=st.to
    obtain ⟨o1,q5⟩:=D1.live _ _ st.s1
    obtain ⟨o2,q6⟩:=D2.live _ _ st.s2
    simp at hb
    rcases hb with h | h | h | h
    ·rw [← h] at q3;exact Nat.lt_irrefl _ (Heap.lt_size q3)
    ·rw [← h] at q4;exact Nat.lt_irrefl _ (Heap.lt_size q4)
    ·rw [← h] at q5;exact Nat.lt_irrefl _ (Heap.lt_size q5)
    ·rw [← h] at q6;exact Nat.lt_irrefl _ (Heap.lt_size q6)
   rw [zaw hbS,zaw hbT];exact f0
  ·have kk:∀ c o,c≠S→h'.get? c=some o→(h'.update S (Obj.mapSeq (·.push (.ref s.heap.objs.size)))).get? c=some o:=fun c o hc e=>(Heap.get?_update_other _ _ (Ne.symm hc)).trans e
   obtain ⟨q1,q2,q3,q3'⟩:=st'.zs
   obtain ⟨a1,a2,q4⟩:=st'.to
   refine ⟨⟨q1,q2,kk _ _ (fun z=>nS (by simp [← z])) q3,q3'⟩,kk _ _ (fun z=>nS (by simp [← z])) st'.ti,⟨a1,a2,kk _ _ (fun z=>nS (by simp [← z])) q4⟩,D1.frame _ _ _ st'.s1 fun b hb o e=>kk b o ?_ e,D2.frame _ _ _ st'.s2 fun b hb o e=>kk b o ?_ e⟩
   ·intro z;subst z;simp at hb;exact nS (by rcases hb with h | h<;>simp [h])
   ·intro z;subst z;simp at hb;exact nS (by rcases hb with h | h<;>simp [h])
theorem ziz {z TI TO i1 i2 l1 l2:Addr}{b1 b2:Bool} {its1 its2:List Value}{xs ys:List V} {H:Hp}{s:Shared} {Q:VK}(D:ZipApart z TI TO i1 i2 l1 l2) (hc:X.calm=true)
  (rx:Vals xs its1) (ry:Vals ys its2) (hn:xs.length≤sizeLine) (I:Inv X pins σ H s) (hf:∀ b∈[z,TO,i1,i2],FpOk X pins H b)
  (st:HT.ZSt z TI TO i1 i2 (HT.StI b1 i1 l1 its1.toArray) (HT.StI b2 i2 l2 its2.toArray) 0 s.heap)
  (q:∀ S,H S=none→zgg S (xs.zip ys) [] (upd H S (.lst [])) (fun H'=>Q (.ref S) H')) :
  wpAny (model X.prog X.w) X.A (call (.type "list") [.ref z]) (EP X pins σ Q) X.xe s:=by
 have hh:X.A.in1.in1.in1.in1.handled=none:=I.ok.hd hc
 have D1:=HT.drawsI (prog:=X.prog) (w:=X.w) (A:=X.A.in1.in1.in1.in1) hh b1 i1 l1 D.l1i1 its1.toArray
 have D2:=HT.drawsI (prog:=X.prog) (w:=X.w) (A:=X.A.in1.in1.in1.in1) hh b2 i2 l2 D.l2i2 its2.toArray
 have lt:∀ b∈[z,TI,TO,i1,i2,l1,l2],b < s.heap.objs.size:=fun b hb=>by
  obtain ⟨q1,q2,q3,_⟩:=st.zs
  obtain ⟨a1,a2,q4⟩:=st.to
  obtain ⟨o1,q5⟩:=D1.live _ _ st.s1
  obtain ⟨o2,q6⟩:=D2.live _ _ st.s2
  have q7:=st.ti
  have q8:∃ o,s.heap.get? l1=some o:=by
   have h:=st.s1
   cases b1
   ·obtain ⟨o,ho,_⟩:=h.2;exact ⟨o,ho⟩
   ·obtain ⟨o,ho,_⟩:=h.2;exact ⟨o,ho⟩
  have q9:∃ o,s.heap.get? l2=some o:=by
   have h:=st.s2
   cases b2
   ·obtain ⟨o,ho,_⟩:=h.2;exact ⟨o,ho⟩
   ·obtain ⟨o,ho,_⟩:=h.2;exact ⟨o,ho⟩
  obtain ⟨o8,q8⟩:=q8
  obtain ⟨o9,q9⟩:=q9
  simp at hb
  rcases hb with h | h | h | h | h | h | h<;>rw [h]
  ·exact Heap.lt_size q3
  ·exact Heap.lt_size q7
  ·exact Heap.lt_size q4
  ·exact Heap.lt_size q5
  ·exact Heap.lt_size q6
  ·exact Heap.lt_size q8
  ·exact Heap.lt_size q9
 have nS:s.heap.objs.size∉[z,TI,TO,i1,i2,l1,l2]:=fun hm=>Nat.lt_irrefl _ (lt _ hm)
 have mv:∀ (h1 h2:Heap),(∀ b o,b≠s.heap.objs.size→h1.get? b=some o→h2.get? b=some o)→HT.ZSt z TI TO i1 i2 (HT.StI b1 i1 l1 its1.toArray) (HT.StI b2 i2 l2 its2.toArray) 0 h1→HT.ZSt z TI TO i1 i2 (HT.StI b1 i1 l1 its1.toArray) (HT.StI b2 i2 l2 its2.toArray) 0 h2:=fun h1 h2 k st=>by
  obtain ⟨q1,q2,q3,q3'⟩:=st.zs
  obtain ⟨a1,a2,q4⟩:=st.to
  refine ⟨⟨q1,q2,k _ _ (fun z=>nS (by simp [← z])) q3,q3'⟩,k _ _ (fun z=>nS (by simp [← z])) st.ti,⟨a1,a2,k _ _ (fun z=>nS (by simp [← z])) q4⟩,D1.frame _ _ _ st.s1 fun b hb o e=>k b o ?_ e,D2.frame _ _ _ st.s2 fun b hb o e=>k b o ?_ e⟩
  ·intro z;subst z;simp at hb;exact nS (by rcases hb with h | h<;>simp [h])
  ·intro z;subst z;simp at hb;exact nS (by rcases hb with h | h<;>simp [h])
 have fr:H s.heap.objs.size=none:=I.fresh
 refine callType_codes (Q₁:=fun obj s₁=>obj=.ref s.heap.objs.size∧s₁={ s with heap:=s.heap.push { cls:=.type "list",data:=.seq #[] } }) PySem.F.called_list (PySem.F.typeCall_list_1 _) PySem.F.entry_list_init
  (code_list_new _ ⟨rfl,rfl⟩) fun obj s₁ h₁=>?_
 obtain ⟨rfl,rfl⟩:=h₁
 have hS:(s.heap.push { cls:=.type "list",data:=.seq #[] }).get? s.heap.objs.size=some { cls:=.type "list",data:=.seq #[] }:=Heap.get?_push_size _ rfl
 have st1:HT.ZSt z TI TO i1 i2 (HT.StI b1 i1 l1 its1.toArray) (HT.StI b2 i2 l2 its2.toArray) 0 (s.heap.push { cls:=.type "list",data:=.seq #[] }):=mv _ _ (fun b o _ e=>Heap.get?_push_of_some _ e) st
 refine ⟨⟨_,hS,rfl⟩,PySem.F.args_list_init_2 _ _,?_⟩
 show wpAny _ X.A.in1.in1 (do let old ← Builtin.List.listItems (.ref s.heap.objs.size);Builtin.List.listUpdate (.ref s.heap.objs.size) (fun _=>#[]);letGo old.toList.reverse;Builtin.List.listExtendWith (.ref s.heap.objs.size) (.ref z) .none) _ _ _
 refine wpAny_bind ?_
 unfold Builtin.List.listItems
 refine wpAny_bind (wpAny_seqItems hS rfl (wpAny_pure ?_))
 show wpAny _ X.A.in1.in1 (updateSeq s.heap.objs.size (fun _=>#[]) >>= fun _=>letGo (#[]:Array Value).toList.reverse >>= fun _=>Builtin.List.listExtendWith (.ref s.heap.objs.size) (.ref z) .none) _ _ _
 refine wpAny_bind (wpAny_updateSeq hS rfl ?_)
 have hS₂:=Heap.get?_update_self (Obj.mapSeq (fun _=>(#[]:Array Value))) hS rfl
 refine wpAny_bind (wpAny_letGo ?_)
 have st2:=mv _ ((s.heap.push { cls:=.type "list",data:=.seq #[] }).update s.heap.objs.size (Obj.mapSeq (fun _=>(#[]:Array Value)))) (fun b o hb e=>(Heap.get?_update_other _ _ (Ne.symm hb)).trans e) st1
 obtain ⟨q1,q2,q3,q3'⟩:=id st2.zs
 unfold Builtin.List.listExtendWith
 refine wpAny_bind (wpAny_typeOf (T := "zip") ⟨_,q3,rfl⟩ ?_)
 have hSz:s.heap.objs.size≠z:=fun e=>nS (by simp [e])
 have h1:Builtin.List.listSameRef (.ref s.heap.objs.size) (.ref z)=false:=by simp [Builtin.List.listSameRef,hSz]
 have h2:(Value.type "zip" == Value.type "list")=false:=by decide
 have h3:(Value.type "zip" == Value.type "tuple")=false:=by decide
 simp only [h1,h2,h3,Bool.or_false,Bool.false_eq_true,if_false]
 refine wpAny_bind (HT.pyIter_zs st2.zs ?_)
 refine wpAny_bind (wpAny_holding ?_)
 unfold Builtin.List.listLengthHint
 refine wpAny_bind (wpAny_specialOf (T := "zip") ⟨_,q3,rfl⟩ PySem.F.zip_no_len ?_)
 show wpAny _ X.A.in1.in1 (specialOf (Value.ref z) (Str.ofString "__length_hint__") >>= _) _ _ _
 refine wpAny_bind (wpAny_specialOf (T := "zip") ⟨_,q3,rfl⟩ PySem.F.zip_no_hint ?_)
 refine wpAny_pure ?_
 show wpAny _ X.A.in1.in1 (rule "list.extend.makes-room" >>= fun _=>Builtin.List.listTouch (.ref s.heap.objs.size) >>= fun _=>
  again (.builtin "list.extend.loop" ⟨[.ref s.heap.objs.size,.ref z,.none],[]⟩)) _ _ _
 refine wpAny_bind (wpAny_rule ?_)
 refine wpAny_bind ?_
 show wpAny _ X.A.in1.in1 (updateSeq s.heap.objs.size (·.push .none) >>= fun _=>updateSeq s.heap.objs.size (·.pop)) _ _ _
 refine wpAny_bind (wpAny_updateSeq hS₂ rfl ?_)
 have hS₃:=Heap.get?_update_self (Obj.mapSeq (·.push Value.none)) hS₂ rfl
 refine wpAny_updateSeq (hz:=by seq_fits) hS₃ rfl ?_
 have hS₄:=Heap.get?_update_self (Obj.mapSeq (·.pop)) hS₃ rfl
 have st4:=mv _ ((((s.heap.push { cls:=.type "list",data:=.seq #[] }).update s.heap.objs.size (Obj.mapSeq (fun _=>(#[]:Array Value)))).update s.heap.objs.size (Obj.mapSeq (·.push Value.none))).update s.heap.objs.size (Obj.mapSeq (·.pop)))
  (fun b o hb e=>(Heap.get?_update_other _ _ (Ne.symm hb)).trans ((Heap.get?_update_other _ _ (Ne.symm hb)).trans e)) st2
 have I4:Inv X pins σ (upd H s.heap.objs.size (.lst [])) { s with heap:=(((s.heap.push { cls:=.type "list",data:=.seq #[] }).update s.heap.objs.size (Obj.mapSeq (fun _=>(#[]:Array Value)))).update s.heap.objs.size (Obj.mapSeq (·.push Value.none))).update s.heap.objs.size (Obj.mapSeq (·.pop)) }:=by
  refine I.laid (t':=s.toks) (fun b u e=>?_) (Nat.le_refl _) ?_
  ·have hb:b≠s.heap.objs.size:=Nat.ne_of_lt (Heap.lt_size e)
   exact (Heap.get?_update_other _ _ (Ne.symm hb)).trans ((Heap.get?_update_other _ _ (Ne.symm hb)).trans ((Heap.get?_update_other _ _ (Ne.symm hb)).trans (Heap.get?_push_of_some _ e)))
  ·exact ⟨Nat.zero_le _,[],_,.nil,hS₄⟩
 refine wpAny_pure ⟨plainId_quiet PySem.F.plain_extend_loop _,loopZ (A:=X.A.in1) D (I.ok.hd hc) rx ry hn nS _ 0 _ _ [] rfl (Nat.zero_le _) (Nat.zero_le _) rfl I4 (fun b hb=>?_) zas st4 ?_⟩
 ·obtain ⟨f0,f1⟩:=hf b hb
  refine ⟨?_,f1⟩
  rw [zaw (fun z=>nS (by subst z;simp at hb ⊢;rcases hb with h | h | h | h<;>simp [h]))];exact f0
 ·exact zhx (fun H' h s' I'=>⟨rfl,.ref s.heap.objs.size,H',I',rfl,h⟩) (q _ fr)
theorem zip_made {a1 a2:Addr}{b1 b2:Bool} {xs ys:List V}{H:Hp} {s:Shared}{Q:Value→Shared→Prop} {E:Value→Shared→Prop}(I:Inv X pins σ H s) (h1:SqB b1 X.K H a1 xs) (h2:SqB b2 X.K H a2 ys)
  (k:∀ z TI TO i1 i2 its1 its2 s',ZipApart z TI TO i1 i2 a1 a2→Vals xs its1→Vals ys its2→xs.length≤sizeLine→Inv X pins σ H s'→(∀ b∈[z,TO,i1,i2],FpOk X pins H b)→HT.ZSt z TI TO i1 i2 (HT.StI b1 i1 a1 its1.toArray) (HT.StI b2 i2 a2 its2.toArray) 0 s'.heap→Q (.ref z) s') :
  wpAny (model X.prog X.w) X.A (call (.type "zip") [.ref a1,.ref a2]) Q E s:=by
 obtain ⟨its1,r1,p1,z1⟩:=I.sq h1
 obtain ⟨its2,r2,p2,z2⟩:=I.sq h2
 have lt:∀ {b:Bool}{a:Addr} {its:Array Value},HT.SqI b s.heap a its→a < s.heap.objs.size:=fun {b a its} h=>by
  cases b
  ·obtain ⟨o,e,_⟩:=h;exact Heap.lt_size e
  ·obtain ⟨o,e,_⟩:=h;exact Heap.lt_size e
 refine HT.call_zip p1 p2 fun h' st hsz hk=>?_
 refine k _ _ _ _ _ its1 its2 _ (zipApart_new (lt p1) (lt p2)) r1 r2 z1 (I.kept (t':=s.toks) hk) (fun b hb=>?_) st
 have hb':s.heap.objs.size≤b:=by
  simp only [List.mem_cons,List.not_mem_nil,or_false] at hb
  rcases hb with h | h | h | h<;>rw [h]<;>first | exact Nat.le_add_right _ _ | exact Nat.le_refl _
 exact I.fpOk hb' (I.hok.fresh hb')
noncomputable def tZipL (K:PySem.W.Frag) (ta:TA):TE:=fun σ H Q=>ta σ H fun vs H1=>∃ b1 b2 a1 a2 xs ys,vs=[.ref a1,.ref a2]∧SqB b1 K H1 a1 xs∧SqB b2 K H1 a2 ys∧∀ S,H1 S=none→zgg S (xs.zip ys) [] (upd H1 S (.lst [])) (fun H'=>Q (.ref S) H')
theorem zlk {a b:Expr}{ta:TA} {p p2 p3 pos:Pos}(hc:X.calm=true) (hg:Gl X "list") (hm:X.mg "list" = none) (hg2:Gl X "zip") (hm2:X.mg "zip" = none) (ha:PA X [a,b] ta)
  (hs:starEach [a,b] X.env=[(false,eval a X.env),(false,eval b X.env)]:=by rfl) (hs2:starEach [b] X.env=[(false,eval b X.env)]:=by rfl)
  (hs3:starEach [.Call (.Name "zip" p2) [a,b] [] p3] X.env=[(false,eval (.Call (.Name "zip" p2) [a,b] [] p3) X.env)]:=by rfl) :
  PE X (.Call (.Name "list" p) [.Call (.Name "zip" p2) [a,b] [] p3] [] pos) (tZipL X.K ta):=by
 intro pins s σ H Q I h
 refine wpAny_Call_Name_kw (zem I hg hm boot_list ?_)
 refine PyProof.Rows.callWith_type1 ?_ hs3 rfl
 rw [hs3]
 show wpAny _ _ (spliced ((false,eval (.Call (.Name "zip" p2) [a,b] [] p3) X.env)::backTo pos (starEach [] X.env))) _ _ s
 refine Calls.spliced_cons (wpAny_Call_Name_kw (zem I hg2 hm2 boot_zip ?_))
 refine PyProof.Rows.callWith_type1 (thn (ha p3 pins s σ H _ I h) fun us s1 ⟨vs,H1,I1,r1,q1⟩=>?_) (by rw [hs,hs2]) (by rw [hs2];rfl)
 obtain ⟨b1,b2,a1,a2,xs,ys,rfl,e1,e2,q⟩:=q1
 obtain ⟨u1,u2,rfl,ru1,ru2⟩:=vals2 r1
 cases ru1
 cases ru2
 refine zip_made I1 e1 e2 fun z TI TO i1 i2 its1 its2 s' D rx ry hn I' hf st=>?_
 exact Calls.spliced_nil (ziz D hc rx ry hn I' hf st q)
end
end L2
set_option Elab.async false
set_option linter.all false
set_option maxRecDepth 100000
namespace HT
open PySem PySem.Spec PyProof.Rows
end HT
namespace L2
open PySem PySem.Spec PyProof.Rows
section
variable {X:Cx}{pins:List (Addr×Obj)} {σ:St}
end
noncomputable def Itrv (K:PySem.W.Frag) (a:Addr) (n:Nat):It:=
 ⟨fun i H=>i < n∧∃ xs,SqL K H a xs∧xs.length=n,fun i H x H'=>H'=H∧∀ xs,SqL K H a xs→xs[n - 1 - i]?=some x,fun i H=>i=n⟩
theorem turn_rev {P:Program}{w:World} {K:PySem.W.Frag}{tg:Expr} (a it:Addr) (n:Nat):Turn P w K tg (Itrv K a n) [it] it (fun i h=>i≤n∧h.IsRevIter it a ((n:Int) - 1 - i)) where
 mem:=by simp
 obj:=fun i h st b hb=>by
  obtain ⟨_,o,e,c,d⟩:=st
  rw [List.mem_singleton.mp hb]
  exact ⟨o,e,fun v z=>by rw [d] at z;cases z⟩
 keep:=fun i h h' st k=>⟨st.1,st.2.at fun o e=>k it (by simp) o e⟩
 item:=by
  intro X hP hw hK hc i pins s σ H E I hf st hg
  subst hP hw hK
  obtain ⟨hi,xs,hq,hn⟩:=hg
  obtain ⟨its,rv,p,hz⟩:=I.list hq
  have hx:xs[n - 1 - i]?=some (xs[n - 1 - i]'(by omega)):=by simp
  obtain ⟨u,hu,ru⟩:=rv.get hx
  have fi:=hf it (by simp)
  have e:(n:Int) - 1 - i=((n - 1 - i:Nat):Int):=by omega
  have hit:=st.2
  rw [e] at hit
  refine wpAny_pyNext_rev_item hit p.isList (by simpa using hu) fun h' hit' hs'=>⟨_,rfl,?_⟩
  obtain ⟨o,ho,hc',hd⟩:=id hit'
  obtain ⟨f0,f1,f2,f3,f4,f5⟩:=fi
  refine go_of ho hc' hd (by decide) ⟨_,H,I.turned (t':=s.toks) (fun b o hb e=>hs'.extBut _ _ hb e) f0 f1 f3 f4 f5,ru,⟨rfl,fun ys hy=>by rw [I.list_inj hy hq];exact hx⟩,⟨by omega,?_⟩,fun b hb=>(hf b hb).1⟩
  have e2:(n:Int) - 1 - ((i + 1:Nat):Int)=((n - 1 - i:Nat):Int) - 1:=by omega
  rw [e2];exact hit'
 done:=by
  intro X hP hw hK hc i pins s σ H E I hf st hg
  subst hP hw hK
  have hg:i=n:=hg
  subst hg
  have e:(i:Int) - 1 - i=-1:=by omega
  have hit:=st.2
  rw [e] at hit
  obtain ⟨f0,f1,f2,f3,f4,f5⟩:=hf it (by simp)
  exact wpAny_pyNext_rev_end (I.ok.hd hc) hit fun h' hx=>⟨rfl,I.turned (t':=s.toks) (fun b o hb e=>hx b o hb e) f0 f1 f3 f4 f5⟩
 self:=fun A i s Q E st h=>wpAny_pyIter_revIter st.2 h
section
variable {X:Cx}
noncomputable def iRev (K:PySem.W.Frag) (ta:TA):TI:=fun σ H R=>ta σ H fun vs H1=>∃ a xs,vs=[.ref a]∧SqL K H1 a xs∧R (Itrv K a xs.length) H1
theorem pi_rev {a tg:Expr}{ta:TA} {p pos:Pos}(hg:Gl X "reversed") (hm:X.mg "reversed" = none) (ha:PA X [a] ta) (hs:starEach [a] X.env=[(false,eval a X.env)]:=by rfl):PI X tg (.Call (.Name "reversed" p) [a] [] pos) (iRev X.K ta):=by
 intro pins s σ H R I h
 refine Call_ (zem I hg hm boot_reversed (PyProof.Rows.callWith_type1 (thn (ha pos pins s σ H _ I h) fun us s1 ⟨vs,H1,I1,r1,q1⟩=>?_) hs rfl))
 obtain ⟨a,xs,rfl,hq,q⟩:=q1
 obtain ⟨u,rfl,ru⟩:=zeN r1
 cases ru
 obtain ⟨its,rv,p,hz⟩:=I1.list hq
 refine call_reversed_list p.isList ?_
 have hit:(s1.heap.push (revObj a ((its.toArray.size:Int) - 1))).IsRevIter s1.heap.objs.size a ((xs.length:Int) - 1 - (0:Nat)):=by
  refine ⟨_,Heap.get?_push_size _ rfl,rfl,?_⟩
  show Data.fields _=_
  rw [List.size_toArray,← rv.length]
  simp
 have I2:Inv X pins σ H1 { s1 with heap:=s1.heap.push (revObj a ((its.toArray.size:Int) - 1)) }:=I1.kept (t':=s1.toks) fun b o e=>Heap.get?_push_of_some _ e
 refine wpAny_pyIter_revIter hit ?_
 refine ⟨_,_,_,_,H1,rfl,I2,turn_rev a _ xs.length,⟨Nat.zero_le _,hit⟩,fun b hb=>?_,q⟩
 rw [List.mem_singleton.mp hb]
 exact I1.fpOk (Nat.le_refl _) (I1.hok.fresh (Nat.le_refl _))
end
end L2
set_option Elab.async false
set_option linter.all false
set_option maxRecDepth 100000
namespace FL
open PySem PySem.Spec PyProof.Rows L2
noncomputable def zdq (xs ys:List D):List D:=List.zipWith (fun x y=>.tup [x,y]) xs ys
noncomputable def zipD (x y:D):Option D:=(itS x).bind fun a=>(itS y).map fun b=>.lst (zdq a b)
section
variable {K:PySem.W.Frag}{X:Cx} {pos:Pos}
theorem Dat.seqB {F:Hp}{d:D} {v:V}{l:List D} (h:Dat K F d v) (e:itS d=some l):∃ b a vs,v=.ref a∧(∀ H,Same F H→SqB b K H a vs)∧DatL K F l vs:=by
 cases d<;>simp only [itS] at e<;>try (cases e;done)
 ·cases e
  obtain ⟨a,vs,rfl,f,q⟩:=h.tup_inv
  exact ⟨false,a,vs,rfl,fun H s=>SqT.of (s _ _ f),q⟩
 ·cases e
  obtain ⟨a,vs,rfl,f,q⟩:=h.lst_inv
  exact ⟨true,a,vs,rfl,fun H s=>SqL.of (s _ _ f),q⟩
 ·cases e
  obtain ⟨a,rfl,f⟩:=h.scr_inv
  exact ⟨true,a,_,rfl,fun H s=>Same.seq s f,DatL.ofInts _⟩
theorem zip_rd {F H:Hp}{S:Addr} {R:Hp→Prop}(hS0:H S=none):∀ (xs ys:List D) (vs us:List V) (acc:List V) (dn:List D) (F' H':Hp),Grow F H F' H'→F' S=none→H' S=some (.lst acc)→DatL K F' dn acc→DatL K F' xs vs→DatL K F' ys us→
  (∀ F2 H2 acc2,Grow F H F2 H2→F2 S=none→H2 S=some (.lst acc2)→DatL K F2 (dn++zdq xs ys) acc2→R H2)→zgg S (vs.zip us) acc H' R
 | [],ys,vs,us,acc,dn,F',H',g,fS,hS,da,dx,dy,q=>by
  rw [dx.nil_inv]
  exact q F' H' acc g fS hS (by simpa [zdq] using da)
 | x::xs,[],vs,us,acc,dn,F',H',g,fS,hS,da,dx,dy,q=>by
  rw [dy.nil_inv,List.zip_nil_right]
  exact q F' H' acc g fS hS (by simpa [zdq] using da)
 | x::xs,y::ys,vs,us,acc,dn,F',H',g,fS,hS,da,dx,dy,q=>by
  obtain ⟨v,vs,rfl,h1,h2⟩:=dx.cons_inv
  obtain ⟨u,us,rfl,h3,h4⟩:=dy.cons_inv
  intro T hT
  have hTS:S≠T:=zal hS hT
  have fT:F' T=none:=g.fh.free hT
  have g2:=Grow.frozen (o:=.tup [v,u]) g.fh hT
  have fS2:upd F' T (.tup [v,u]) S=none:=by rw [zaw hTS];exact fS
  have g3:Grow F H (upd F' T (.tup [v,u])) (upd (upd H' T (.tup [v,u])) S (.lst (acc++[.ref T]))):=by
   have gg:=g.trans g2
   exact ⟨gg.ff,fun b o e=>by rw [zaw (zal e hS0)];exact gg.hh _ _ e,fun b o e=>by rw [zaw (zal e fS2)];exact gg.fh _ _ e,gg.nw⟩
  refine zip_rd hS0 xs ys vs us (acc++[.ref T]) (dn++[.tup [x,y]]) _ _ g3 fS2 zas ((da.mono g2.ff).snoc (Dat.tup (K:=K) zas (DatL.cons (h1.mono g2.ff) (DatL.cons (h3.mono g2.ff) DatL.nil)))) (h2.mono g2.ff) (h4.mono g2.ff) fun F2 H2 acc2 a b c d=>q F2 H2 acc2 a b c ?_
  simpa [zdq] using d
theorem zlM {x y d:D}(h:zipD x y=some d):∃ a b,itS x=some a∧itS y=some b∧d=.lst (zdq a b):=by
 unfold zipD at h
 cases e1:itS x with
 | none=>rw [e1] at h;cases h
 | some a=>
  cases e2:itS y with
  | none=>rw [e1,e2] at h;cases h
  | some b=>rw [e1,e2] at h;cases h;exact ⟨a,b,rfl,rfl,rfl⟩
theorem fzipL {a b:Expr}{fa fb:En→Option D} {p p2 p3:Pos}(hc:X.calm=true) (hg:Gl X "list") (hm:X.mg "list" = none) (hg2:Gl X "zip") (hm2:X.mg "zip" = none) (ha:FP K .fz X a fa) (hb:FP K .fz X b fb)
  (hs:starEach [a,b] X.env=[(false,eval a X.env),(false,eval b X.env)]:=by rfl) (hs2:starEach [b] X.env=[(false,eval b X.env)]:=by rfl)
  (hs3:starEach [.Call (.Name "zip" p2) [a,b] [] p3] X.env=[(false,eval (.Call (.Name "zip" p2) [a,b] [] p3) X.env)]:=by rfl) (hK:X.K=K:=by rfl) :
  FP K .ow X (.Call (.Name "list" p) [.Call (.Name "zip" p2) [a,b] [] p3] [] pos) (c2 zipD fa fb):=FP.mk fun ρ d hf=>by
 subst hK
 obtain ⟨x,y,e1,e2,e3⟩:=zcV hf
 obtain ⟨xs,ys,i1,i2,rfl⟩:=zlM e3
 refine PE.imp (zlk hc hg hm hg2 hm2 (zbk (ha.h ρ x e1) (zbk (hb.h ρ y e2) zcM hs2) (by rw [hs,hs2])) hs hs2 hs3) fun σ H Q h_=>?_
 obtain ⟨F,rl,q⟩:=h_
 refine ⟨F,rl,fun v F1 H1 g1 r1=>⟨F1,rl.grow g1,fun u F2 H2 g2 r2=>?_⟩⟩
 obtain ⟨b1,a1,vs,rfl,s1,q1⟩:=Dat.seqB (K:=X.K) (F:=F1) r1 i1
 obtain ⟨b2,a2,us,rfl,s2,q2⟩:=Dat.seqB (K:=X.K) (F:=F2) r2 i2
 refine ⟨b1,b2,a1,a2,vs,us,rfl,s1 H2 (g2.ff.trans g2.fh),s2 H2 g2.fh,fun S hS=>?_⟩
 have g:=g1.trans g2
 have g':Grow F H F2 (upd H2 S (.lst [])):=g.trans (Grow.fresh g2.fh hS)
 refine zip_rd (g.hh.free hS) xs ys vs us [] [] F2 _ g' (g2.fh.free hS) zas DatL.nil (q1.mono g2.ff) q2 fun F3 H3 acc2 g3 f3 h3 d3=>?_
 exact q _ F3 H3 g3 ⟨S,rfl,g.hh.free hS,f3,acc2,h3,d3⟩
noncomputable def cRv (f:En→Option D):En→Option (List D):=fun ρ=>match f ρ with
 | some (.lst l)=>some l.reverse
 | _=>none
theorem irev {a tg:Expr}{fa:En→Option D} {p:Pos}(ha:FP K .fz X a fa) (hg:Gl X "reversed") (hm:X.mg "reversed" = none) (hs:starEach [a] X.env=[(false,eval a X.env)]:=by rfl) (hK:X.K=K:=by rfl) :
  FI K X tg (.Call (.Name "reversed" p) [a] [] pos) (cRv fa):=FI.mk fun ρ ds hf=>by
 subst hK
 unfold cRv at hf
 split at hf
 ·rename_i l e1
  cases hf
  refine PI.imp (L2.pi_rev hg hm (zbk (ha.h ρ _ e1) zcM hs) hs) fun σ H R ⟨F,rl,q⟩=>⟨F,rl,fun v F1 H1 g1 r1=>?_⟩
  obtain ⟨a,vs,rfl,f1,q1⟩:=Dat.lst_inv (K:=X.K) (F:=F1) r1
  have hl:=q1.length
  refine ⟨a,vs,rfl,SqL.of (g1.fh _ _ f1),q _ F1 H1 g1 fun F2 H2 f2 h2=>?_⟩
  have hs:SqL X.K H2 a vs:=SqL.of (h2 _ _ (f2 _ _ f1))
  refine ⟨fun i hi=>⟨by rw [List.length_reverse] at hi;omega,vs,hs,rfl⟩,fun i x H3 d hd y=>?_,by show _=_;rw [List.length_reverse,hl]⟩
  obtain ⟨rfl,y⟩:=y
  have hi:i < l.length:=by
   have:=(List.getElem?_eq_some_iff.mp hd).1
   rwa [List.length_reverse] at this
  rw [List.getElem?_reverse hi] at hd
  obtain ⟨w,hw,dw⟩:=q1.get hd
  have:=y vs hs
  rw [hl,hw] at this
  cases this
  exact ⟨F2,Grow.refl h2,dw.mono f2⟩
 ·cases hf
noncomputable def putM (i:Nat) (fk fe:En→Option D):En→Option Fl:=fun ρ=>match ρ[i]?,fe ρ,fk ρ with
 | some (some (.ow pp (.lst l))),some d,some (.int k)=>(ixN l.length k).map fun j=>.nx (ρ.set i (some (.ow pp (.lst (l.set j d)))))
 | _,_,_=>none
theorem sput {md:Md}(i:Nat) {x:Str}{p p2:Pos} {ke e:Expr}{fk fe:En→Option D} (he:FP K .fz X e fe) (hk:FP K .fz X ke fk)
  (hN:X.N[i]?=some x:=by rfl) (hv:Vis X.env.scope x:=by first | exact Or.inl rfl | exact Or.inr (Or.inl rfl) | exact Or.inr (Or.inr rfl)) (hd:(x == ("__debug__" : Str))=false:=by decide) (hcd:(x == ("__classdict__" : Str))=false:=by decide)
  (H1:∀ {to ti:TE}{t:TSet},PE X (.Name x p) to→PE X ke ti→PSet X t→PG X (.Subscript (.Name x p) ke p2) (gSub to ti t):=by exact fun a b c=>zmp a b c)
  (hs:swapsWithSole [.Subscript (.Name x p) ke p2] e pos.line X.env=pure false:=by rfl) (hw:swappedStores [.Subscript (.Name x p) ke p2] e X.env=pure none:=by rfl)
  (h1:(assignEach [.Subscript (.Name x p) ke p2] X.env).map (·.2)=[assign (.Subscript (.Name x p) ke p2) X.env]:=by rfl) (hK:X.K=K:=by rfl) :
  FS K md X (.Assign [.Subscript (.Name x p) ke p2] e pos) (putM i fk fe):=FS.mk fun ρ fl hf=>by
 subst hK
 unfold putM at hf
 split at hf
 ·rename_i pp l d k e1 e2 e3
  cases e4:ixN l.length k with
  | none=>rw [e4] at hf;cases hf
  | some j=>
   rw [e4] at hf;cases hf
   refine PS.imp (ziT (he.h ρ d e2) (H1 (zcK hN hv hd hcd) (hk.h ρ _ e3) set_list) hs hw h1) fun D σ H h_=>?_
   obtain ⟨F,r,q⟩:=h_
   obtain ⟨a,h1,h2,h3⟩:=r.own i pp _ e1
   refine ⟨F,r,fun v F1 H1 g1 r1=>⟨_,h1,F1,r.grow g1,fun u F2 H2 g2 r2=>?_⟩⟩
   have rg:=(r.grow g1).grow g2
   obtain ⟨a',h1',h2',vs,h3',h4'⟩:=rg.own i pp _ e1
   rw [h1] at h1';cases h1'
   have ev:=Dat.int_inv (K:=X.K) (F:=F2) r2
   subst ev
   refine ⟨a,vs,k,j,rfl,rfl,h3',by rw [h4'.length];exact e4,?_⟩
   obtain ⟨m1,m2⟩:=rg.mut (i:=i) (o:=.lst (vs.set j v)) (d':=.lst (l.set j d)) e1 h1 ⟨_,zas,h4'.set j (Dat.mono g2.ff r1)⟩
   exact q σ _ _ m1 ((g1.trans g2).step.trans m2 r.sub)
 ·cases hf
end
end FL
set_option Elab.async false
set_option linter.all false
set_option maxRecDepth 100000
namespace L2
open PySem PySem.Spec PyProof.Rows
section
variable {κ:Type} [DecidableEq κ]
noncomputable def valV (kvs:List (κ×V)) (k:κ):Option V:=(kvs.find? fun kv=>decide (kv.1=k)).map (·.2)
noncomputable def putK (kvs:List (κ×V)) (k:κ) (v:V):List (κ×V):=
 if (kvs.any fun kv=>decide (kv.1=k))=true then kvs.map (fun kv=>if kv.1=k then (kv.1,v) else kv) else kvs++[(k,v)]
theorem zgc {p:κ×V}{r:List (κ×V)} {k:κ}(e:p.1=k):valV (p::r) k=some p.2:=by simp [valV,List.find?_cons,e]
theorem zgd {p:κ×V}{r:List (κ×V)} {k:κ}(e:¬ p.1=k):valV (p::r) k=valV r k:=by simp [valV,List.find?_cons,e]
theorem zkp (k:κ):∀ kvs:List (κ×V),(kvs.any fun kv=>decide (kv.1=k))=(valV kvs k).isSome
 | []=>rfl
 | p::r=>by
  rw [List.any_cons]
  by_cases e:p.1=k
  ·simp only [zgc e,decide_eq_true e,Bool.true_or,Option.isSome_some]
  ·rw [zgd e,decide_eq_false e,Bool.false_or];exact zkp k r
theorem zff (kvs:List (κ×V)) (k:κ) (v:V):(putK kvs k v).length≤kvs.length + 1:=by
 unfold putK
 split
 ·rw [List.length_map];omega
 ·rw [List.length_append,List.length_cons,List.length_nil];omega
theorem RelO.isSome_eq {o:Option V}{u:Option Value} (r:RelO o u):o.isSome=u.isSome:=by
 cases o with
 | none=>cases u with
  | none=>rfl
  | some _=>exact (show False from r).elim
 | some _=>cases u with
  | none=>exact (show False from r).elim
  | some _=>rfl
theorem RelO.getD {o:Option V}{u:Option Value} {d:V}{d':Value} (r:RelO o u) (rd:RelV d d'):RelV (o.getD d) (u.getD d'):=by
 cases o with
 | none=>cases u with
  | none=>exact rd
  | some _=>exact (show False from r).elim
 | some _=>cases u with
  | none=>exact (show False from r).elim
  | some _=>exact r
theorem KV.val {kvs:List (κ×V)}{vs:List (κ×Value)} (r:KV kvs vs) (k:κ):RelO (valV kvs k) (valueAt vs k):=by
 unfold KV at r
 induction r with
 | nil=>exact True.intro
 | @cons p q ps qs h t ih=>
  obtain ⟨h1,h2⟩:=h
  by_cases e:p.1=k
  ·have e':q.1=k:=h1.symm.trans e
   have b:valueAt (q::qs) k=some q.2:=by simp [valueAt,List.find?_cons,e']
   rw [zgc e,b];exact h2
  ·have e':¬ q.1=k:=fun z=>e (h1.trans z)
   have b:valueAt (q::qs) k=valueAt qs k:=by simp [valueAt,List.find?_cons,e']
   rw [zgd e,b];exact ih
theorem KV.any {kvs:List (κ×V)}{vs:List (κ×Value)} (r:KV kvs vs) (k:κ):(kvs.any fun kv=>decide (kv.1=k))=vs.any fun kv=>decide (kv.1=k):=by
 unfold KV at r
 induction r with
 | nil=>rfl
 | cons h t ih=>rw [List.any_cons,List.any_cons,ih,h.1]
theorem KV.repl {kvs:List (κ×V)}{vs:List (κ×Value)} (r:KV kvs vs) (k:κ) {y:V}{u:Value} (ry:RelV y u) :
  KV (kvs.map fun kv=>if kv.1=k then (kv.1,y) else kv) (vs.map fun kv=>if kv.1=k then (kv.1,u) else kv):=by
 unfold KV at r ⊢
 induction r with
 | nil=>exact .nil
 | @cons p q ps qs h t ih=>
  rw [List.map_cons,List.map_cons]
  refine .cons ?_ ih
  obtain ⟨h1,h2⟩:=h
  by_cases e:p.1=k
  ·rw [if_pos e,if_pos (h1.symm.trans e)];exact ⟨h1,ry⟩
  ·rw [if_neg e,if_neg (fun z=>e (h1.trans z))];exact ⟨h1,h2⟩
theorem KV.put {kvs:List (κ×V)}{vs:List (κ×Value)} (r:KV kvs vs) (k:κ) {y:V}{u:Value} (ry:RelV y u):KV (putK kvs k y) (stored vs k u):=by
 unfold putK stored
 rw [r.any k]
 by_cases e:(vs.any fun kv=>decide (kv.1=k))=true
 ·rw [if_pos e,if_pos e];exact r.repl k ry
 ·rw [if_neg e,if_neg e];exact Paired.snoc r ⟨rfl,ry⟩
theorem KV.length {kvs:List (κ×V)}{vs:List (κ×Value)} (r:KV kvs vs):kvs.length=vs.length:=Paired.length r
end
theorem zlv {P:Program}{w:World} {k:Key}{u:Value} (r:RelV (kV k) u):(zbE P w).is k u=true:=by
 cases k with
 | inl i=>obtain ⟨t,e⟩:=(show ∃ t,u=Value.int i t from r);subst e;exact zjX P w i t
 | inr x=>obtain ⟨t,e⟩:=(show ∃ t,u=Value.str x t from r);subst e;exact zjW P w x t
theorem zjo {P:Program}{w:World}:∀ {ks:List Key}{us:List Value},Vals (ks.map kV) us→ItemsAre (zbE P w) ks us
 | [],_,r=>by rw [List.map_nil] at r;cases r;exact .nil
 | k::ks,_,r=>by
  rw [List.map_cons] at r
  cases r with
  | cons h t=>exact .cons (zlv h) (zjo t)
noncomputable abbrev KT (H:Hp):List (List Key×V)→List (List Key×Addr×Value)→Prop:=Paired fun p q=>p.1=q.1∧H q.2.1=some (.tup (p.1.map kV))∧RelV p.2 q.2.2
theorem KT.val {H:Hp}{kvs:List (List Key×V)} {xs:List (List Key×Addr×Value)}(r:KT H kvs xs) (k:List Key):RelO (valV kvs k) ((atKey xs k).map (·.2)):=by
 induction r with
 | nil=>exact True.intro
 | @cons p q ps qs h t ih=>
  obtain ⟨h1,_,h2⟩:=h
  by_cases e:p.1=k
  ·have e':q.1=k:=h1.symm.trans e
   have b:atKey (q::qs) k=some q.2:=by simp [atKey,List.find?_cons,e']
   rw [zgc e,b];exact h2
  ·have e':¬ q.1=k:=fun z=>e (h1.trans z)
   have b:atKey (q::qs) k=atKey qs k:=by simp [atKey,List.find?_cons,e']
   rw [zgd e,b];exact ih
theorem KT.repl {H:Hp}{kvs:List (List Key×V)} {xs:List (List Key×Addr×Value)}(r:KT H kvs xs) (k:List Key) {y:V}{u:Value} (ry:RelV y u) :
  KT H (kvs.map fun kv=>if kv.1=k then (kv.1,y) else kv) (xs.map (putAt k u)):=by
 induction r with
 | nil=>exact .nil
 | @cons p q ps qs h t ih=>
  rw [List.map_cons,List.map_cons]
  refine .cons ?_ ih
  obtain ⟨h1,h2,h3⟩:=h
  unfold putAt
  by_cases e:p.1=k
  ·rw [if_pos e,if_pos (h1.symm.trans e)];exact ⟨h1,h2,ry⟩
  ·rw [if_neg e,if_neg (fun z=>e (h1.trans z))];exact ⟨h1,h2,h3⟩
theorem KT.put {H:Hp}{kvs:List (List Key×V)} {xs:List (List Key×Addr×Value)}(r:KT H kvs xs) (k:List Key) {b:Addr}{y:V} {u:Value}(hb:H b=some (.tup (k.map kV))) (ry:RelV y u) :
  KT H (putK kvs k y) (storedH xs k b u):=by
 have e:(kvs.any fun kv=>decide (kv.1=k))=(atKey xs k).isSome:=by
  rw [zkp,(r.val k).isSome_eq,Option.isSome_map]
 unfold putK storedH
 rw [e]
 by_cases q:(atKey xs k).isSome=true
 ·rw [if_pos q,if_pos q];exact r.repl k ry
 ·rw [if_neg q,if_neg q];exact Paired.snoc r ⟨rfl,hb,ry⟩
theorem KT.keeps {H H':Hp}{kvs:List (List Key×V)} {xs:List (List Key×Addr×Value)}(r:KT H kvs xs) (ht:∀ b ys,H b=some (.tup ys)→H' b=some (.tup ys)):KT H' kvs xs:=
 Paired.mapP r fun _ _ z=>⟨z.1,ht _ _ z.2.1,z.2.2⟩
section
variable {P:Program}{w:World} {H:Hp}{h:Heap} {a:Addr}
theorem rd_of {u:HO}(ok:HOk P w H h) (e:Rd H a u):zcg P w H h a u:=e.ok ok
theorem zlD {kvs:List (Key×V)}(ok:HOk P w H h) (e:Rd H a (.dK kvs)):kvs.length≤sizeLine∧(a == sysModules)=false∧∃ vs,KV kvs vs∧h.DictOf (zbE P w) a vs:=
 show zcg P w H h a (.dK kvs) from rd_of ok e
theorem dk_of {kvs:List (Key×V)}(ok:HOk P w H h) (e:H a=some (.dK kvs)):kvs.length≤sizeLine∧(a == sysModules)=false∧∃ vs,KV kvs vs∧h.DictOf (zbE P w) a vs:=zlD ok (.inl e)
theorem zjm {ks:List Key}(ok:HOk P w H h) (e:H a=some (.tup (ks.map kV))):(tupleKind (zbE P w)).is h ks a:=by
 obtain ⟨_,its,r,o,h1,h2,n,h3⟩:=(show zcg P w H h a (.tup (ks.map kV)) from ok a _ e)
 exact ⟨o,its.toArray,n,h1,h2,h3,by simpa using zjo r⟩
theorem zlC {kvs:List (List Key×V)}(ok:HOk P w H h) (e:Rd H a (.dT kvs)):kvs.length≤sizeLine∧(a == sysModules)=false∧
  ∃ xs,KT H kvs xs∧h.DictOfH (tupleKind (zbE P w)) a xs:=by
 obtain ⟨z,y,xs,r,o,es,ep,h1,h2,h3,h4,h5⟩:=(show zcg P w H h a (.dT kvs) from rd_of ok e)
 refine ⟨z,y,xs,r,o,es,ep,h1,h2,h3,h4,fun x hx=>?_,h5⟩
 have all:∀ {l:List (List Key×V)}{m:List (List Key×Addr×Value)},KT H l m→∀ x∈m,(tupleKind (zbE P w)).is h x.1 x.2.1:=by
  intro l m q
  induction q with
  | nil=>intro x hx;exact nomatch hx
  | @cons p q ps qs hq t ih=>
   intro x hx
   rcases List.mem_cons.mp hx with e | hx
   ·subst e
    exact zjm ok (by rw [← hq.1];exact hq.2.1)
   ·exact ih x hx
 exact all r x hx
theorem dt_of {kvs:List (List Key×V)}(ok:HOk P w H h) (e:H a=some (.dT kvs)):kvs.length≤sizeLine∧(a == sysModules)=false∧
  ∃ xs,KT H kvs xs∧h.DictOfH (tupleKind (zbE P w)) a xs:=zlC ok (.inl e)
end
noncomputable def DGet (H:Hp) (a:Addr) (y:V) (r:Option V):Prop:=
 (∃ kvs k,Rd H a (.dK kvs)∧y=kV k∧r=valV kvs k)∨∃ kvs k b,Rd H a (.dT kvs)∧y=.ref b∧H b=some (.tup (k.map kV))∧r=valV kvs k
noncomputable def DPut (H:Hp) (a:Addr) (y v:V) (H':Hp):Prop:=
 (∃ kvs k,H a=some (.dK kvs)∧y=kV k∧kvs.length < sizeLine∧H'=upd H a (.dK (putK kvs k v)))∨
 ∃ kvs k b,H a=some (.dT kvs)∧y=.ref b∧H b=some (.tup (k.map kV))∧kvs.length < sizeLine∧H'=upd H a (.dT (putK kvs k v))
theorem DPut.k {H:Hp}{a:Addr} {kvs:List (Key×V)}{k:Key} {v:V}(e:H a=some (.dK kvs)) (hl:kvs.length < sizeLine):DPut H a (kV k) v (upd H a (.dK (putK kvs k v))):=.inl ⟨kvs,k,e,rfl,hl,rfl⟩
section
variable {X:Cx}{pins:List (Addr×Obj)} {σ:St}{H:Hp} {s:Shared}{a:Addr} {y v:V}{u r:Value} {o:Option V}{A:Around} {E:Value→Shared→Prop}
theorem Inv.big (I:Inv X pins σ H s):sysModules < s.heap.objs.size:=by
 have h:mainGlobals < s.heap.objs.size:=(I.mod.glob.keeps I.bk).lt
 exact Nat.lt_trans (by decide) h
theorem znm {Q:Value→Shared→Prop}(hu:A.units + 1 < cLine) (I:Inv X pins σ H s) (g:DGet H a y (some v)) (ry:RelV y u) (h:∀ w' s',Inv X pins σ H s'→RelV v w'→Q w' s') :
  wpAny (model X.prog X.w) A (getItem (.ref a) u) Q E s:=by
 rcases g with ⟨kvs,k,e,ey,l⟩ | ⟨kvs,k,b,e,ey,eb,l⟩
 ·subst ey
  obtain ⟨z,hd,vs,rel,dd⟩:=zlD I.hok e
  obtain ⟨w',hw,rw'⟩:=RelO.some_of (v:=v) (o:=valueAt vs k) (by rw [l];exact rel.val k)
  exact wpAny_getItem_of (zlv ry) dd.mapOf hw (h w' _ (I.tok _) rw')
 ·subst ey
  cases (show u=Value.ref b from ry)
  obtain ⟨z,hd,xs,rel,dd⟩:=zlC I.hok e
  obtain ⟨w',hw,rw'⟩:=RelO.some_of (v:=v) (o:=(atKey xs k).map (·.2)) (by rw [l];exact rel.val k)
  obtain ⟨p,hp,hp2⟩:=Option.map_eq_some_iff.mp hw
  refine wpAny_getItem_heap (tupleKind_room_in1 hu) (zjm I.hok eb) dd hp ?_
  rw [hp2]
  exact h w' _ (I.tok _) rw'
theorem d_notIn {Q:Value→Shared→Prop}(hu:A.units + 1 < cLine) (I:Inv X pins σ H s) (g:DGet H a y o) (ry:RelV y u) (h:∀ s',Inv X pins σ H s'→Q (.bool (!o.isSome)) s') :
  wpAny (model X.prog X.w) A (compareOp .NotIn u (.ref a)) Q E s:=by
 rcases g with ⟨kvs,k,e,ey,l⟩ | ⟨kvs,k,b,e,ey,eb,l⟩
 ·subst ey
  obtain ⟨z,hd,vs,rel,dd⟩:=zlD I.hok e
  refine wpAny_notIn_of (zlv ry) hd dd.mapOf ?_
  rw [← (rel.val k).isSome_eq,← l]
  exact h _ (I.tok _)
 ·subst ey
  cases (show u=Value.ref b from ry)
  obtain ⟨z,hd,xs,rel,dd⟩:=zlC I.hok e
  refine wpAny_notIn_heap (tupleKind_room_in1 hu) (zjm I.hok eb) hd dd ?_
  have q:=(rel.val k).isSome_eq
  rw [Option.isSome_map] at q
  rw [← q,← l]
  exact h _ (I.tok _)
theorem zkh {h':Heap}{t':Nat} {ob:HO}(I:Inv X pins σ H s) (mu:Mut (H a)) (hs:Heap.SameBut a s.heap h') (he:∃ q,h'.get? a=some q) (new:zcg X.prog X.w (upd H a ob) h' a ob) :
  Inv X pins σ (upd H a ob) { s with heap:=h',toks:=t' }:=
 I.write (x:=a) (e:=a) mu (.inl rfl) (fun b q hb z=>(hs.2 b hb).trans z) he new
theorem dk_new {P:Program}{w:World} {H':Hp}{h':Heap} {kvs:List (Key×V)}{vs:List (Key×Value)} (z:kvs.length≤sizeLine) (hd:(a == sysModules)=false) (rel:KV kvs vs) (dd:h'.DictOf (zbE P w) a vs) :
  zcg P w H' h' a (.dK kvs):=⟨z,hd,vs,rel,dd⟩
theorem znl {H':Hp}{Q:Unit→Shared→Prop} (hu:A.units + 1 < cLine) (I:Inv X pins σ H s) (g:DPut H a y v H') (ry:RelV y u) (rv:RelV v r) (h:∀ s',Inv X pins σ H' s'→Q () s') :
  wpAny (model X.prog X.w) A (setItem (.ref a) u r) Q E s:=by
 rcases g with ⟨kvs,k,e,ey,l,eH⟩ | ⟨kvs,k,b,e,ey,eb,l,eH⟩
 ·subst ey eH
  obtain ⟨z,hd,vs,rel,dd⟩:=dk_of I.hok e
  have hz:vs.length≤sizeLine:=by rw [← rel.length];exact z
  have hl:(putK kvs k v).length≤sizeLine:=by have:=zff kvs k v;omega
  refine wpAny_setItem_pairs (hsz:=hz) (zlv ry) dd fun h' dd' hs=>h _ ?_
  have he:∃ q,h'.get? a=some q:=let ⟨q,_,_,hq,_⟩:=dd';⟨q,hq⟩
  exact zkh I (by rw [e];exact True.intro) hs he (dk_new hl hd (rel.put k rv) dd')
 ·subst ey eH
  cases (show u=Value.ref b from ry)
  obtain ⟨z,hd,xs,rel,dd⟩:=dt_of I.hok e
  have hz:xs.length≤sizeLine:=by rw [← Paired.length rel];exact z
  have hl:(putK kvs k v).length≤sizeLine:=by have:=zff kvs k v;omega
  refine wpAny_setItem_heap (hsz:=hz) (tupleKind_room_in1 hu) (zjm I.hok eb) dd fun h' dd' hs=>h _ ?_
  obtain ⟨q,es,ep,hq,h2,h3,h4,_,h5⟩:=dd'
  refine zkh I (by rw [e];exact True.intro) hs ⟨q,hq⟩ ⟨hl,hd,_,(rel.put k eb rv).keeps fun c ys ec=>?_,q,es,ep,hq,h2,h3,h4,h5⟩
  rw [zaw (ne_of ec e (fun z=>nomatch z))]
  exact ec
end
section
variable {X:Cx}{pins:List (Addr×Obj)} {σ:St}{H:Hp} {s:Shared}{a:Addr} {kvs:List (Key×V)}{k:Key} {u:Value}{A:Around} {E:Value→Shared→Prop}
end
noncomputable def NoSl (i:Expr):Prop:=∀ ov iv,subscripted i false ov iv=operate [ov,iv] (getItem ov iv)
theorem subD_of {prog:Program}{w:World} {A:Around}{E:Value→Shared→Prop} {s:Shared}{env:Env} {value slice:Expr}{pos:Pos} {T id:String}{Q:Value→Shared→Prop}
  (hl:typeLookup (.type T) "__getitem__" = pure (some (.builtin id))) (hs:NoSl slice)
  (h:wpAny (model prog w) A (eval value env) (fun o s₁=>wpAny (model prog w) A (eval slice env) (fun i s₂=>s₂.TypeIs o T∧wpAny (model prog w) A (getItem o i) Q E s₂) E s₁) E s) :
  wpAny (model prog w) A (eval (.Subscript value slice pos) env) Q E s:=by
 refine Subscript_ (wpAny_mono h (fun o s₁ h₁=>wpAny_mono h₁ (fun i s₂ h₂=>?_) fun _ _ x=>x) fun _ _ x=>x)
 obtain ⟨hT,h₂⟩:=h₂
 unfold subscriptTail
 refine wpAny_bind ?_
 rw [getitemInPython_of_ne hT.not_modules]
 refine wpAny_bind (wpAny_specialOf hT hl ?_)
 have fin:wpAny (model prog w) A (subscripted slice false o i) (fun r s₃=>wpAny (model prog w) A (letTemporaryGo value o r >>= fun _=>pure r) Q E s₃) E s₂:=by
  rw [hs o i]
  exact wpAny_operating (wpAny_mono h₂ (fun r s₃ h₃=>wpAny_bind (wpAny_letTemporaryGo (wpAny_pure h₃))) fun _ _ x=>x)
 first
  | exact wpAny_pure (wpAny_bind fin)
  | exact wpAny_bind (wpAny_pure (wpAny_bind fin))
  | exact wpAny_bind fin
theorem zkf {X:Cx}{pins:List (Addr×Obj)} {σ:St}{H:Hp} {s:Shared}{a:Addr} {y:V}{o:Option V} (I:Inv X pins σ H s) (g:DGet H a y o):s.TypeIs (.ref a) "dict" := by
 rcases g with ⟨kvs,k,e,_,_⟩ | ⟨kvs,k,b,e,_,_,_⟩
 ·obtain ⟨_,_,vs,_,dd⟩:=zlD I.hok e
  exact dd.typeIs
 ·obtain ⟨_,_,xs,_,dd⟩:=zlC I.hok e
  exact dd.typeIs
noncomputable def tDGet (td ty:TE):TE:=fun σ H Q=>td σ H fun x H1=>ty σ H1 fun y H2=>∃ a v,x=.ref a∧DGet H2 a y (some v)∧Q v H2
section
variable {X:Cx}{o i e value:Expr} {pos pos' tpos:Pos}{td ty tv:TE}
theorem pe_dget (hu:X.A.units + 1 < cLine) (ho:PE X o td) (hi:PE X i ty) (hs:NoSl i):PE X (.Subscript o i pos) (tDGet td ty):=by
 intro pins s σ H Q I h
 refine subD_of PySem.F.slot_dict_getitem.lookup hs (thn (ho pins s σ H _ I h) fun u s1 ⟨x,H1,I1,rx,q1⟩=>thn (hi pins s1 σ H1 _ I1 q1) fun iv s2 ⟨y,H2,I2,ry,a,v,ex,g,q2⟩=>?_)
 subst ex
 obtain rfl:u=Value.ref a:=rx
 exact ⟨zkf I2 g,znm hu I2 g ry fun w' s3 I3 rw'=>⟨v,H2,I3,rw',q2⟩⟩
end
theorem dk_empty {P:Program}{w:World} {H:Hp}(h:Heap) (hb:sysModules < h.objs.size):zcg P w H (h.push { cls:=.type "dict",data:=.dict #[] }) h.objs.size (.dK []):=
 ⟨Nat.zero_le _,beq_eq_false_iff_ne.mpr (Ne.symm (Nat.ne_of_lt hb)),[],.nil,Heap.DictOf.new h⟩
noncomputable def tDNewK:TE:=fun _ H Q=>∀ p,H p=none→Q (.ref p) (upd H p (.dK []))
section
variable {X:Cx}{pos:Pos}
theorem pe_dnewK:PE X (.Dict [] [] pos) tDNewK:=fun pins s σ H Q I h=>
 wpAny_Dict_empty ⟨.ref s.heap.objs.size,_,I.laid (a:=s.heap.objs.size) (o:=.dK []) (t':=s.toks) (fun _ _ q=>Heap.get?_push_of_some _ q) (Nat.le_refl _) (dk_empty s.heap I.big),rfl,h _ (I.hok.fresh (Nat.le_refl _))⟩
end
structure M2 (X:Cx) (o:Expr) (m:Str) (apos:Pos) (e f:Expr) (cpos:Pos):Prop where
 base:attributeBase o m X.env (eval o X.env)=eval o X.env
 few:((backTo cpos (starEach [e,f] X.env)).all (fun x=>!x.1) && (backToKw cpos (keywordEach [] X.env)).all (fun x=>x.1.isSome)
  && decide (([e,f]:List Expr).length + ([]:List Keyword).length + (if ([]:List Keyword).isEmpty then 0 else 1) < 30))=true
 line:(apos.endLine == cpos.line)=true
 trees:backTo cpos (starEach [e,f] X.env)=[(false,eval e X.env),(false,eval f X.env)]
noncomputable def IsD (H:Hp) (a:Addr):Prop:=(∃ kvs,Rd H a (.dK kvs))∨∃ kvs,Rd H a (.dT kvs)
theorem isD_at {X:Cx}{pins:List (Addr×Obj)} {σ:St}{H:Hp} {s:Shared}{a:Addr} (I:Inv X pins σ H s) (d:IsD H a) :
  s.TypeIs (.ref a) "dict" ∧ (∀ b,Value.ref a=.ref b→∃ ob,s.heap.get? b=some ob∧ob.dict=none)∧(a == sysModules)=false:=by
 rcases d with ⟨kvs,e⟩ | ⟨kvs,e⟩
 ·obtain ⟨_,hd,vs,_,dd⟩:=zlD I.hok e
  refine ⟨dd.typeIs,fun b q=>?_,hd⟩
  cases q
  obtain ⟨ob,_,_,h1,h2,_⟩:=dd
  exact ⟨ob,h1,h2.2.1⟩
 ·obtain ⟨_,hd,xs,_,dd⟩:=zlC I.hok e
  refine ⟨dd.typeIs,fun b q=>?_,hd⟩
  cases q
  obtain ⟨ob,_,_,h1,h2,_⟩:=dd
  exact ⟨ob,h1,h2.2.1⟩
section
variable {X:Cx}{pins:List (Addr×Obj)} {σ:St}{H:Hp} {s:Shared}{a:Addr} {y d:V}{u r:Value} {o:Option V}{A:Around} {E:Value→Shared→Prop}
theorem d_get2 {Q:Value→Shared→Prop}(hu:A.units + 1 < cLine) (I:Inv X pins σ H s) (g:DGet H a y o) (ry:RelV y u) (rd:RelV d r) (h:∀ w' s',Inv X pins σ H s'→RelV (o.getD d) w'→Q w' s') :
  wpAny (model X.prog X.w) A (call (.builtin "dict.get") [.ref a,u,r]) Q E s:=by
 rcases g with ⟨kvs,k,e,ey,l⟩ | ⟨kvs,k,b,e,ey,eb,l⟩
 ·subst ey
  obtain ⟨z,hd,vs,rel,dd⟩:=zlD I.hok e
  refine call_meetsIn PySem.F.slot_dict_get dd.typeIs PySem.F.entry_dict_get (PySem.F.args_dict_get_3 _ _ _) (meets_dict_get_default (zbE X.prog X.w) a (zlv ry) hd r) ⟨_,dd.mapOf,h _ _ (I.tok _) ?_⟩
  rw [l]
  exact (rel.val k).getD rd
 ·subst ey
  cases (show u=Value.ref b from ry)
  obtain ⟨z,hd,xs,rel,dd⟩:=zlC I.hok e
  refine call_meetsIn PySem.F.slot_dict_get dd.typeIs PySem.F.entry_dict_get (PySem.F.args_dict_get_3 _ _ _) (meetsH_dict_get_default (tupleKind (zbE X.prog X.w)) a b hd r) ⟨tupleKind_room_in1 hu,k,xs,zjm I.hok eb,dd,h _ _ (I.tok _) ?_⟩
  rw [l]
  exact (rel.val k).getD rd
end
noncomputable def tDGet2 (td ty tx:TE):TE:=fun σ H Q=>td σ H fun x H1=>∃ a,x=.ref a∧IsD H1 a∧ty σ H1 fun y H2=>tx σ H2 fun z H3=>∃ o,DGet H3 a y o∧Q (o.getD z) H3
section
variable {X:Cx}{o e f:Expr} {apos cpos:Pos}{td ty tx:TE}
theorem pe_dget2 (hu:X.A.units + 1 < cLine) (ho:PE X o td) (he:PE X e ty) (hf:PE X f tx) (m:M2 X o "get" apos e f cpos):PE X (.Call (.Attribute o "get" apos) [e,f] [] cpos) (tDGet2 td ty tx):=by
 intro pins s σ H Q I h
 refine wpAny_Call_method m.base m.few m.line PySem.F.plainAttrs_dict PySem.F.slot_dict_get PySem.F.type_dict_get (thn (ho pins s σ H _ I h) fun u s1 ⟨x,H1,I1,rx,a,ex,d,q1⟩=>?_)
 subst ex
 obtain rfl:u=Value.ref a:=rx
 obtain ⟨t1,t2,_⟩:=isD_at I1 d
 refine ⟨t1,t2,?_⟩
 rw [m.trees]
 refine Calls.callWith_builtin rfl (Calls.evalArgs_plain (Calls.spliced_cons (thn (he pins s1 σ H1 _ I1 q1) fun iv s2 ⟨y,H2,I2,ry,q2⟩=>
  Calls.spliced_cons (thn (hf pins s2 σ H2 _ I2 q2) fun fv s3 ⟨z,H3,I3,rz,ov,g,q3⟩=>Calls.spliced_nil ?_))))
 exact d_get2 hu I3 g ry rz fun w' s4 I4 rw'=>⟨_,H3,I4,rw',q3⟩
end
section
variable {X:Cx}{pins:List (Addr×Obj)} {σ:St}{H:Hp} {s:Shared}{a:Addr} {kvs:List (Key×V)}{A:Around} {E:Value→Shared→Prop}
end
section
variable {X:Cx}{pins:List (Addr×Obj)} {σ:St}{H:Hp} {s:Shared}{a:Addr} {y:V}{u:Value} {A:Around}{E:Value→Shared→Prop}
end
end L2
set_option Elab.async false
set_option linter.all false
set_option maxRecDepth 100000
namespace FL
open PySem PySem.Spec PyProof.Rows L2
noncomputable def keyD:D→Option Key
 | .int i=>some (.inl i)
 | .str x=>some (.inr x)
 | _=>none
theorem zjZ {a b:Key}(h:kdK a=kdK b):a=b:=by
 cases a<;>cases b<;>simp [kdK] at h<;>rw [h]
noncomputable def kds (kvs:List (Key×V)):List KD:=kvs.map fun p=>kdK p.1
noncomputable def valD (ks:List KD) (ds:List D) (k:KD):Option D:=((ks.zip ds).find? fun p=>decide (p.1=k)).map (·.2)
noncomputable def putD (ks:List KD) (ds:List D) (k:KD) (d:D):List KD×List D:=
 if (ks.any fun x=>decide (x=k))=true then (ks,(ks.zip ds).map fun p=>if p.1=k then d else p.2) else (ks++[k],ds++[d])
section
variable {K:PySem.W.Frag}{X:Cx} {pos:Pos}
theorem zdt {d:D}{k:Key} {F:Hp}{v:V} (h:keyD d=some k) (r:Dat K F d v):v=kV k:=by
 cases d<;>simp only [keyD] at h<;>cases h
 ·rw [r.int_inv];rfl
 ·rw [r.str_inv];rfl
theorem zfz {F:Hp}(k:Key):∀ (kvs:List (Key×V)) (ds:List D),DatL K F ds (kvs.map (·.2))→(valD (kds kvs) ds (kdK k)=none∧valV kvs k=none)∨∃ d v,valD (kds kvs) ds (kdK k)=some d∧valV kvs k=some v∧Dat K F d v
 | [],ds,h=>.inl ⟨by simp [valD,kds],rfl⟩
 | (a,v)::kvs,[],h=>by have:=h.nil_inv;simp at this
 | (a,v)::kvs,d::ds,h=>by
  obtain ⟨v',r,e,h1,h2⟩:=h.cons_inv
  simp at e
  obtain ⟨rfl,rfl⟩:=e
  by_cases hk:a=k
  ·subst hk
   exact .inr ⟨d,v,by simp [valD,kds],zgc rfl,h1⟩
  ·have hk':¬ kdK a=kdK k:=fun z=>hk (zjZ z)
   have e1:valD (kds ((a,v)::kvs)) (d::ds) (kdK k)=valD (kds kvs) ds (kdK k):=by simp [valD,kds,List.find?_cons,hk']
   rw [e1,zgd (p:=(a,v)) hk]
   exact zfz k kvs ds h2
theorem zny (k:Key):∀ kvs:List (Key×V),((kds kvs).any fun x=>decide (x=kdK k))=(kvs.any fun kv=>decide (kv.1=k))
 | []=>rfl
 | (a,v)::kvs=>by
  have ih:=zny k kvs
  by_cases hk:a=k
  ·subst hk;simp [kds]
  ·have hk':¬ kdK a=kdK k:=fun z=>hk (zjZ z)
   simp only [kds,List.map_cons,List.any_cons,hk',hk,decide_false,Bool.false_or]
   exact ih
theorem zme {F:Hp}(k:Key) {d:D}{v:V} (hd:Dat K F d v):∀ (kvs:List (Key×V)) (ds:List D),DatL K F ds (kvs.map (·.2))→
  DatL K F (((kds kvs).zip ds).map fun p=>if p.1=kdK k then d else p.2) ((kvs.map fun kv=>if kv.1=k then (kv.1,v) else kv).map (·.2))
 | [],ds,h=>by simp [kds];exact DatL.nil
 | (a,u)::kvs,[],h=>by have:=h.nil_inv;simp at this
 | (a,u)::kvs,c::ds,h=>by
  obtain ⟨v',r,e,h1,h2⟩:=h.cons_inv
  simp at e
  obtain ⟨rfl,rfl⟩:=e
  have ih:=zme k hd kvs ds h2
  simp only [kds,List.map_cons,List.zip_cons_cons]
  by_cases hk:a=k
  ·subst hk
   rw [if_pos rfl,if_pos rfl]
   exact DatL.cons hd ih
  ·have hk':¬ kdK a=kdK k:=fun z=>hk (zjZ z)
   rw [if_neg hk',if_neg hk]
   exact DatL.cons h1 ih
theorem zjM {F:Hp}(k:Key) {d:D}{v:V} (hd:Dat K F d v) (kvs:List (Key×V)) (ds:List D) (h:DatL K F ds (kvs.map (·.2))) :
  (putD (kds kvs) ds (kdK k) d).1=kds (putK kvs k v)∧DatL K F (putD (kds kvs) ds (kdK k) d).2 ((putK kvs k v).map (·.2)):=by
 unfold putD putK
 rw [zny]
 split
 ·refine ⟨?_,zme k hd kvs ds h⟩
  unfold kds
  rw [List.map_map]
  apply List.map_congr_left
  intro p _
  simp only [Function.comp]
  split<;>rfl
 ·exact ⟨by simp [kds],by rw [List.map_append];exact h.snoc hd⟩
theorem zgY {H:Hp}{a:Addr} {ks:List KD}{vs:List V} (h:zfh H a ks vs) (hk:∀ l,KD.tup l∉ks):∃ kvs,H a=some (.dK kvs)∧ks=kds kvs∧vs=kvs.map (·.2):=by
 rcases h with ⟨kvs,h,e1,e2⟩ | ⟨kvs,h,⟨e1,e3⟩,e2⟩
 ·exact ⟨kvs,h,e1,e2⟩
 ·cases kvs with
  | nil=>exact absurd rfl e3
  | cons p r=>exact absurd (by rw [e1];simp) (hk p.1)
theorem zni {H:Hp}{a:Addr} {ks:List KD}{vs:List V} (h:DicB H a ks vs) (hk:∀ l,KD.tup l∉ks):∃ kvs,Rd H a (.dK kvs)∧ks=kds kvs∧vs=kvs.map (·.2):=by
 rcases h with h | ⟨o,⟨kvs,h,e1,e2⟩ | ⟨kvs,h,⟨e1,e3⟩,e2⟩⟩
 ·obtain ⟨kvs,h,r⟩:=zgY h hk
  exact ⟨kvs,.inl h,r⟩
 ·exact ⟨kvs,.inr ⟨o,h⟩,e1,e2⟩
 ·cases kvs with
  | nil=>exact absurd rfl e3
  | cons p r=>exact absurd (by rw [e1];simp) (hk p.1)
theorem Rd.mono {H H':Hp}{a:Addr} {u:HO}(s:Same H H') (h:Rd H a u):Rd H' a u:=h.imp (s _ _) fun ⟨o,h⟩=>⟨o,s _ _ h⟩
noncomputable def kOk (ks:List KD):Bool:=ks.all fun x=>match x with
 | .tup _=>false
 | _=>true
theorem zgM {ks:List KD}(h:kOk ks=true):∀ l,KD.tup l∉ks:=fun l hl=>by
 have:=List.all_eq_true.mp h _ hl
 cases this
theorem fdic0:FP K .ow X (.Dict [] [] pos) (cst (.dic [] [])):=FP.mk fun ρ d hf=>by
 cases hf
 refine PE.imp pe_dnewK fun σ H Q ⟨F,r,q⟩ p hp=>?_
 exact q _ _ _ (Grow.fresh r.sub hp) ⟨p,rfl,hp,r.sub.free hp,[],.inl ⟨[],zas,rfl,rfl⟩,DatL.nil⟩
noncomputable def c3 (p:D→D→D→Option D) (fa fb fc:En→Option D):En→Option D:=fun ρ=>(fa ρ).bind fun x=>(fb ρ).bind fun y=>(fc ρ).bind fun z=>p x y z
theorem c3_some {p:D→D→D→Option D}{fa fb fc:En→Option D} {ρ:En}{d:D} (h:c3 p fa fb fc ρ=some d):∃ x y z,fa ρ=some x∧fb ρ=some y∧fc ρ=some z∧p x y z=some d:=by
 unfold c3 at h
 cases e1:fa ρ with
 | none=>rw [e1] at h;cases h
 | some x=>
  cases e2:fb ρ with
  | none=>rw [e1] at h;simp [e2] at h
  | some y=>
   cases e3:fc ρ with
   | none=>rw [e1] at h;simp [e2,e3] at h
   | some z=>rw [e1] at h;simp [e2,e3] at h;exact ⟨x,y,z,rfl,rfl,rfl,h⟩
noncomputable def zfZ (x y z:D):Option D:=match x,keyD y with
 | .dic ks ds,some k=>if kOk ks=true then some ((valD ks ds (kdK k)).getD z) else none
 | _,_=>none
theorem fget {o e f:Expr}{fo fe ff:En→Option D} {apos cpos:Pos}(hu:X.A.units + 100 < cLine) (ho:FP K .br X o fo) (he:FP K .fz X e fe) (hf:FP K .fz X f ff)
  (m1:attributeBase o "get" X.env (eval o X.env)=eval o X.env:=by rfl)
  (m2:((backTo cpos (starEach [e,f] X.env)).all (fun x=>!x.1) && (backToKw cpos (keywordEach [] X.env)).all (fun x=>x.1.isSome) && decide (([e,f]:List Expr).length + ([]:List Keyword).length + (if ([]:List Keyword).isEmpty then 0 else 1) < 30))=true:=by rfl)
  (m3:(apos.endLine == cpos.line)=true:=by rfl) (m4:backTo cpos (starEach [e,f] X.env)=[(false,eval e X.env),(false,eval f X.env)]:=by rfl) :
  FP K .fz X (.Call (.Attribute o "get" apos) [e,f] [] cpos) (c3 zfZ fo fe ff):=FP.mk fun ρ d hf'=>by
 obtain ⟨x,y,z,e1,e2,e3,e4⟩:=c3_some hf'
 refine PE.imp (pe_dget2 (by omega) (ho.h ρ x e1) (he.h ρ y e2) (hf.h ρ z e3) ⟨m1,m2,m3,m4⟩) fun σ H Q h_=>?_
 obtain ⟨F,rl,q⟩:=h_
 unfold zfZ at e4
 split at e4
 ·rename_i ks ds k ek
  obtain ⟨hk,rfl⟩:=zaO e4
  refine ⟨F,rl,fun v F1 H1 g1 r1=>?_⟩
  obtain ⟨a,vs,rfl,f1,q1⟩:=DatB.dic_inv r1
  obtain ⟨kvs,h1,rfl,rfl⟩:=zni f1 (zgM hk)
  refine ⟨a,rfl,.inl ⟨kvs,h1⟩,F1,rl.grow g1,fun u F2 H2 g2 r2=>⟨F2,(rl.grow g1).grow g2,fun w F3 H3 g3 r3=>?_⟩⟩
  have eu:=zdt (K:=K) ek r2
  subst eu
  refine ⟨valV kvs k,.inl ⟨kvs,k,Rd.mono (g2.hh.trans g3.hh) h1,rfl,rfl⟩,q _ F3 H3 (g1.trans (g2.trans g3)) ?_⟩
  rcases zfz (K:=K) (F:=F3) k kvs ds (q1.mono (g2.ff.trans g3.ff)) with ⟨n1,n2⟩ | ⟨d,v,n1,n2,n3⟩
  ·rw [n1,n2];exact r3
  ·rw [n1,n2];exact n3
 ·cases e4
noncomputable def zjt:List D→Option D
 | [.dic ks ds]=>if kOk ks=true then some (.dic ks ds) else none
 | _=>none
noncomputable def rSetD:V→V→V→Hp→(Hp→Prop)→Prop:=fun o i v H Q=>∃ a H',o=.ref a∧DPut H a i v H'∧Q H'
theorem zkv (hu:X.A.units + 1 < cLine):PSet X rSetD:=by
 intro pins s σ H o i v ov iv u Q I ro ri rv h
 obtain ⟨a,H',rfl,g,q⟩:=h
 cases ro
 exact znl hu I g ri rv fun s' I'=>⟨H',I',q⟩
noncomputable def zfA (i:Nat) (fk fe:En→Option D):En→Option Fl:=fun ρ=>match ρ[i]?,fe ρ,(fk ρ).bind keyD with
 | some (some (.ow pp (.dic ks ds))),some d,some k=>if kOk ks=true∧ks.length < lim then some (.nx (ρ.set i (some (.ow pp (.dic (putD ks ds (kdK k) d).1 (putD ks ds (kdK k) d).2))))) else none
 | _,_,_=>none
theorem sputK {md:Md}(i:Nat) {x:Str}{p p2:Pos} {ke e:Expr}{fk fe:En→Option D} (hu:X.A.units + 100 < cLine) (he:FP K .fz X e fe) (hk:FP K .fz X ke fk)
  (hN:X.N[i]?=some x:=by rfl) (hv:Vis X.env.scope x:=by first | exact Or.inl rfl | exact Or.inr (Or.inl rfl) | exact Or.inr (Or.inr rfl)) (hd:(x == ("__debug__" : Str))=false:=by decide) (hcd:(x == ("__classdict__" : Str))=false:=by decide)
  (H1:∀ {to ti:TE}{t:TSet},PE X (.Name x p) to→PE X ke ti→PSet X t→PG X (.Subscript (.Name x p) ke p2) (gSub to ti t):=by exact fun a b c=>zmp a b c)
  (hs:swapsWithSole [.Subscript (.Name x p) ke p2] e pos.line X.env=pure false:=by rfl) (hw:swappedStores [.Subscript (.Name x p) ke p2] e X.env=pure none:=by rfl)
  (h1:(assignEach [.Subscript (.Name x p) ke p2] X.env).map (·.2)=[assign (.Subscript (.Name x p) ke p2) X.env]:=by rfl) (hK:X.K=K:=by rfl) :
  FS K md X (.Assign [.Subscript (.Name x p) ke p2] e pos) (zfA i fk fe):=FS.mk fun ρ fl hf=>by
 subst hK
 unfold zfA at hf
 split at hf
 ·rename_i pp ks ds d k e1 e2 e3
  obtain ⟨⟨hk1,hk2⟩,hf⟩:=zaO hf
  cases hf
  cases e4:fk ρ with
  | none=>rw [e4] at e3;cases e3
  | some y=>
   rw [e4] at e3
   have e3:keyD y=some k:=e3
   refine PS.imp (ziT (he.h ρ d e2) (H1 (zcK hN hv hd hcd) (hk.h ρ y e4) (zkv (by omega))) hs hw h1) fun D σ H h_=>?_
   obtain ⟨F,r,q⟩:=h_
   obtain ⟨a,h1,h2,h3⟩:=r.own i pp _ e1
   refine ⟨F,r,fun v F1 H1 g1 r1=>⟨_,h1,F1,r.grow g1,fun u F2 H2 g2 r2=>?_⟩⟩
   have rg:=(r.grow g1).grow g2
   obtain ⟨a',h1',h2',vs,h3',h4'⟩:=rg.own i pp _ e1
   rw [h1] at h1';cases h1'
   obtain ⟨kvs,g3,rfl,rfl⟩:=zgY h3' (zgM hk1)
   have ev:=zdt (K:=X.K) e3 r2
   subst ev
   have hl:kvs.length < sizeLine:=by
    have:(kds kvs).length=kvs.length:=by simp [kds]
    exact zgJ (by omega)
   obtain ⟨m0,m00⟩:=zjM (K:=X.K) (F:=F2) k (Dat.mono g2.ff r1) kvs ds h4'
   refine ⟨a,_,rfl,DPut.k g3 hl,?_⟩
   obtain ⟨m1,m2⟩:=rg.mut (i:=i) (o:=.dK (putK kvs k v)) (d':=.dic (putD (kds kvs) ds (kdK k) d).1 (putD (kds kvs) ds (kdK k) d).2) e1 h1 ⟨_,.inl ⟨putK kvs k v,zas,m0,rfl⟩,m00⟩
   exact q σ _ _ m1 ((g1.trans g2).step.trans m2 r.sub)
 ·cases hf
noncomputable def frzM (i:Nat) (m:En→Option Fl):En→Option Fl:=fun ρ=>match ρ[i]? with
 | some (some (.ow false d))=>m (ρ.set i (some (.dat d)))
 | _=>none
theorem Rel.frz {F H:Hp}{ρ:En} {σ:St}{i:Nat} {d:D}(r:Rel K F H ρ σ) (e:ρ[i]?=some (some (.ow false d))) :
  ∃ a,∀ H2,zfO H a H2→∃ F',Rel K F' H2 (ρ.set i (some (.dat d))) σ∧Step ρ σ F H (ρ.set i (some (.dat d))) σ F' H2:=by
 obtain ⟨a,h1,h2,h3⟩:=r.own i false d e
 refine ⟨a,fun H2 fz=>?_⟩
 have x:Same F (frz1 F H2 a):=zde h2
 have hi:i < ρ.length:=(List.getElem?_eq_some_iff.mp e).1
 refine ⟨frz1 F H2 a,⟨zeK (fz.same r.sub h2),fun j y q=>?_,fun j y q=>?_,fun j qq y q=>?_,fun j k qq y s c ne e1 e2 e3 e4=>?_,by simp [r.len]⟩,⟨x,fun b o hb n no=>?_,fun b hb=>.inr ?_,fun j y e'=>?_,zeK (fz.same r.sub h2)⟩⟩
 ·rcases zai q with ⟨rfl,q'⟩ | ⟨ne,q'⟩
  ·cases q';exact ⟨_,h1,h3.freeze h2 fz⟩
  ·obtain ⟨v,g1,g2⟩:=r.dat j y q';exact ⟨v,g1,g2.mono x⟩
 ·rcases zai q with ⟨rfl,q'⟩ | ⟨ne,q'⟩
  ·cases q'
  ·obtain ⟨v,g1,g2⟩:=r.bor j y q';exact ⟨v,g1,g2.frz x fz fun z=>r.inj i j false d _ a (Ne.symm ne) e h1 q' rfl (by rw [g1,z])⟩
 ·rcases zai q with ⟨rfl,q'⟩ | ⟨ne,q'⟩
  ·cases q'
  ·obtain ⟨b,g1,g2,g3⟩:=r.own j qq y q'
   have hb:b≠a:=fun z=>by
    subst z
    exact r.inj i j false d _ b (Ne.symm ne) e h1 q' rfl g1
   exact ⟨b,g1,by rw [zdH hb];exact g2,g3.mono x fun o e=>by rw [fz.ne hb];exact e⟩
 ·rcases zai e1 with ⟨rfl,e1'⟩ | ⟨ne1,e1'⟩
  ·cases e1'
  ·rcases zai e3 with ⟨rfl,e3'⟩ | ⟨ne3,e3'⟩
   ·cases e3';cases e4
   ·exact r.inj j k qq y s c ne e1' e2 e3' e4
 ·have hb':b≠a:=fun z=>no (by subst z;exact ⟨i,false,d,e,h1⟩)
  exact ⟨by rw [fz.ne hb'];exact hb,by rw [zdH hb'];exact n⟩
 ·obtain ⟨j,qq,y,j1,j2⟩:=hb
  rcases zai j1 with ⟨rfl,j1'⟩ | ⟨ne,j1'⟩
  ·cases j1'
  ·exact ⟨j,qq,y,j1',j2⟩
 ·rcases zai e' with ⟨rfl,e''⟩ | ⟨ne,e''⟩
  ·cases e''
  ·exact ⟨y,e'',rfl⟩
end
end FL
set_option Elab.async false
set_option linter.all false
set_option maxRecDepth 100000
namespace L2
open PySem PySem.Spec PyProof.Rows
end L2
namespace FL
open PySem PySem.Spec PyProof.Rows L2
section
variable {K:PySem.W.Frag}{X:Cx} {pos:Pos}
theorem ps_frz {st:Stmt}{t:TS} (h:PS X st t):PS X st (fun D σ H=>∃ a,∀ H2,zfO H a H2→t D σ H2):=fun pins s σ H D I ⟨a,ht⟩=>by
 obtain ⟨H2,f,I2⟩:=Inv.frzTo I a
 exact h pins s σ H2 D I2 (ht H2 f)
theorem sfrz {md:Md}(i:Nat) {st:Stmt}{m:En→Option Fl} (h:FS K md X st m):FS K md X st (frzM i m):=FS.mk fun ρ fl hf=>by
 unfold frzM at hf
 split at hf
 ·rename_i d e1
  refine PS.imp (ps_frz (h.h _ fl hf)) fun D σ H h_=>?_
  obtain ⟨F,r,q⟩:=h_
  obtain ⟨a,hf2⟩:=r.frz e1
  refine ⟨a,fun H2 fz=>?_⟩
  obtain ⟨F',r',s'⟩:=hf2 H2 fz
  exact rdS.after r.sub r' s' q
 ·cases hf
noncomputable def signsD (z:Str):List D:=z.cps.toList.map fun c=>D.str ⟨#[c]⟩
noncomputable def cSg (f:En→Option D):En→Option (List D):=fun ρ=>match f ρ with
 | some (.str z)=>some (signsD z)
 | _=>none
noncomputable def zjs (y z:D):Option D:=(keyD y).map fun k=>.dic [kdK k] [z]
end
end FL
set_option Elab.async false
set_option linter.all false
set_option maxRecDepth 100000
namespace FL
open PySem PySem.Spec PyProof.Rows L2
section
variable {K:PySem.W.Frag}{X:Cx} {pos:Pos}
noncomputable def rInK (f:Bool→Bool):R2:=fun y x H Q=>∃ a o,x=.ref a∧DGet H a y o∧Q (.bl (f o.isSome)) H
theorem zmA (hu:X.A.units + 100 < cLine):OpR X (compareOp .NotIn) (rInK not):=by
 intro pins s σ H x y v u Q I rx ry h
 obtain ⟨a,o,rfl,g,q⟩:=h
 cases ry
 exact d_notIn (by omega) I g rx fun s' I'=>⟨.bl (!o.isSome),H,I',rfl,q⟩
noncomputable def inK (f:Bool→Bool) (y x:D):Option D:=match x,keyD y with
 | .dic ks ds,some k=>if kOk ks=true then some (.bl (f (valD ks ds (kdK k)).isSome)) else none
 | _,_=>none
theorem p_inKG {op:CmpOp}{f:Bool→Bool} (o:OpR X (compareOp op) (rInK f)):Op2f K X (compareOp op) (inK f):=by
 refine ⟨_,o,fun y x d F H v u Q e s h1 h2 k=>?_⟩
 unfold inK at e
 split at e
 ·rename_i ks ds kk ek
  obtain ⟨hk,rfl⟩:=zaO e
  obtain ⟨a,vs,rfl,f1,q1⟩:=DatB.dic_inv h2
  obtain ⟨kvs,g1,rfl,rfl⟩:=zni f1 (zgM hk)
  have ev:=zdt (K:=K) ek h1
  subst ev
  refine ⟨a,valV kvs kk,rfl,.inl ⟨kvs,kk,g1,rfl,rfl⟩,?_⟩
  have hs:(valV kvs kk).isSome=(valD (kds kvs) ds (kdK kk)).isSome:=by
   rcases zfz (K:=K) (F:=F) kk kvs ds q1 with ⟨n1,n2⟩ | ⟨d,v,n1,n2,_⟩<;>rw [n1,n2]<;>rfl
  rw [hs]
  exact k _ F H (Grow.refl s) (Res.bl _)
 ·cases e
theorem zll (hu:X.A.units + 101 < cLine):Op2f K X (compareOp .NotIn) (inK not):=p_inKG (zmA (by omega))
noncomputable def idxK (x y:D):Option D:=match x,keyD y with
 | .dic ks ds,some k=>if kOk ks=true then valD ks ds (kdK k) else none
 | _,_=>none
theorem fixK {a b:Expr}{fa fb:En→Option D} (hu:X.A.units + 100 < cLine) (ha:FP K .br X a fa) (hb:FP K .fz X b fb) (hs:NoSl b):FP K .fz X (.Subscript a b pos) (c2 idxK fa fb):=FP.mk fun ρ d hf=>by
 obtain ⟨x,y,e1,e2,e3⟩:=zcV hf
 refine PE.imp (pe_dget (by omega) (ha.h ρ x e1) (hb.h ρ y e2) hs) fun σ H Q h_=>?_
 obtain ⟨F,rl,q⟩:=h_
 unfold idxK at e3
 split at e3
 ·rename_i ks ds k ek
  obtain ⟨hk,e3⟩:kOk ks=true∧_:=by
   split at e3
   ·rename_i hz;exact ⟨hz,e3⟩
   ·cases e3
  refine ⟨F,rl,fun v F1 H1 g1 r1=>⟨F1,rl.grow g1,fun u F2 H2 g2 r2=>?_⟩⟩
  obtain ⟨a,vs,rfl,f1,q1⟩:=DatB.dic_inv (DatB.mono g2.ff g2.hh r1)
  obtain ⟨kvs,h1,rfl,rfl⟩:=zni f1 (zgM hk)
  have ev:=zdt (K:=K) ek r2
  subst ev
  rcases zfz (K:=K) (F:=F2) k kvs ds q1 with ⟨n1,n2⟩ | ⟨d',v,n1,n2,n3⟩
  ·rw [n1] at e3;cases e3
  ·rw [n1] at e3;cases e3
   exact ⟨a,v,rfl,by rw [← n2];exact .inl ⟨kvs,k,h1,rfl,rfl⟩,q _ F2 H2 (g1.trans g2) n3⟩
 ·cases e3
theorem d_setdef {pins:List (Addr×Obj)}{σ:St} {H:Hp}{s:Shared} {a:Addr}{kvs:List (Key×V)} {k:Key}{d:V} {u r:Value}{A:Around} {E:Value→Shared→Prop}{Q:Value→Shared→Prop} (I:Inv X pins σ H s) (e:H a=some (.dK kvs)) (hl:kvs.length < sizeLine) (ry:RelV (kV k) u) (rr:RelV d r)
  (h1:∀ v,valV kvs k=some v→∀ w' s',Inv X pins σ H s'→RelV v w'→Q w' s') (h2:valV kvs k=none→∀ s',Inv X pins σ (upd H a (.dK (putK kvs k d))) s'→Q r s') :
  wpAny (model X.prog X.w) A (call (.builtin "dict.setdefault") [.ref a,u,r]) Q E s:=by
 obtain ⟨z,hd,vs,rel,dd⟩:=dk_of I.hok e
 refine call_meetsIn PySem.F.slot_dict_setdefault dd.typeIs PySem.F.entry_dict_setdefault (PySem.F.args_dict_setdefault_3 _ _ _) (PySem.kt_meets_setdefault (zbE X.prog X.w) a (zlv ry) hd r)
  ⟨vs,dd,by rw [← rel.length];exact z,fun w' hw=>?_,fun hn h' dd' hs=>?_⟩
 ·have vr:=rel.val k
  rw [hw] at vr
  cases e2:valV kvs k with
  | none=>rw [e2] at vr;exact vr.elim
  | some v=>rw [e2] at vr;exact h1 v e2 w' _ (I.tok _) vr
 ·have vr:=rel.val k
  rw [hn] at vr
  cases e2:valV kvs k with
  | some v=>rw [e2] at vr;exact vr.elim
  | none=>
   have he:∃ q,h'.get? a=some q:=let ⟨q,_,_,hq,_⟩:=dd';⟨q,hq⟩
   have hl':(putK kvs k d).length≤sizeLine:=by have:=zff kvs k d;omega
   exact h2 e2 _ (zkh I (by rw [e];exact True.intro) hs he (dk_new hl' hd (rel.put k rr) dd'))
noncomputable def tSdf (td ty tx:TE):TE:=fun σ H Q=>td σ H fun x H1=>∃ a,x=.ref a∧IsD H1 a∧ty σ H1 fun y H2=>tx σ H2 fun z H3=>∃ kvs k,H3 a=some (.dK kvs)∧y=kV k∧kvs.length < sizeLine∧
 (∀ v,valV kvs k=some v→Q v H3)∧(valV kvs k=none→Q z (upd H3 a (.dK (putK kvs k z))))
theorem pe_sdf {o e f:Expr}{apos cpos:Pos} {td ty tx:TE}(ho:PE X o td) (he:PE X e ty) (hf:PE X f tx) (m:M2 X o "setdefault" apos e f cpos):PE X (.Call (.Attribute o "setdefault" apos) [e,f] [] cpos) (tSdf td ty tx):=by
 intro pins s σ H Q I h
 refine wpAny_Call_method m.base m.few m.line PySem.F.plainAttrs_dict PySem.F.slot_dict_setdefault PySem.F.type_dict_setdefault (thn (ho pins s σ H _ I h) fun u s1 ⟨x,H1,I1,rx,a,ex,d,q1⟩=>?_)
 subst ex
 obtain rfl:u=Value.ref a:=rx
 obtain ⟨t1,t2,_⟩:=isD_at I1 d
 refine ⟨t1,t2,?_⟩
 rw [m.trees]
 refine Calls.callWith_builtin rfl (Calls.evalArgs_plain (Calls.spliced_cons (thn (he pins s1 σ H1 _ I1 q1) fun iv s2 ⟨y,H2,I2,ry,q2⟩=>
  Calls.spliced_cons (thn (hf pins s2 σ H2 _ I2 q2) fun fv s3 ⟨z,H3,I3,rz,kvs,k,ea,ey,hl,q3,q4⟩=>Calls.spliced_nil ?_))))
 subst ey
 exact d_setdef I3 ea hl ry rz (fun v hv w' s4 I4 rw'=>⟨v,H3,I4,rw',q3 v hv⟩) fun hn s4 I4=>⟨z,_,I4,rz,q4 hn⟩
noncomputable def sdfM (i:Nat) (fe ff:En→Option D):En→Option (D×En):=fun ρ=>match ρ[i]?,(fe ρ).bind keyD,ff ρ with
 | some (some (.ow pp (.dic ks ds))),some k,some z=>if kOk ks=true∧ks.length < lim then (match valD ks ds (kdK k) with
  | some d=>some (d,ρ)
  | none=>some (z,ρ.set i (some (.ow pp (.dic (putD ks ds (kdK k) z).1 (putD ks ds (kdK k) z).2))))) else none
 | _,_,_=>none
theorem zlN (i:Nat) {x:Str}{p apos cpos:Pos} {e f:Expr}{fe ff:En→Option D} (hu:X.A.units + 100 < cLine) (he:FP K .fz X e fe) (hf:FP K .fz X f ff)
  (hN:X.N[i]?=some x:=by rfl) (hv:Vis X.env.scope x:=by first | exact Or.inl rfl | exact Or.inr (Or.inl rfl) | exact Or.inr (Or.inr rfl)) (hd:(x == ("__debug__" : Str))=false:=by decide) (hcd:(x == ("__classdict__" : Str))=false:=by decide)
  (m1:attributeBase (.Name x p) "setdefault" X.env (eval (.Name x p) X.env)=eval (.Name x p) X.env:=by rfl)
  (m2:((backTo cpos (starEach [e,f] X.env)).all (fun x=>!x.1) && (backToKw cpos (keywordEach [] X.env)).all (fun x=>x.1.isSome) && decide (([e,f]:List Expr).length + ([]:List Keyword).length + (if ([]:List Keyword).isEmpty then 0 else 1) < 30))=true:=by rfl)
  (m3:(apos.endLine == cpos.line)=true:=by rfl) (m4:backTo cpos (starEach [e,f] X.env)=[(false,eval e X.env),(false,eval f X.env)]:=by rfl) (hK:X.K=K:=by rfl) :
  FX K X (.Call (.Attribute (.Name x p) "setdefault" apos) [e,f] [] cpos) (sdfM i fe ff):=FX.mk fun ρ d ρ' hm=>by
 subst hK
 unfold sdfM at hm
 split at hm
 ·rename_i pp ks ds k z e1 e2 e3
  obtain ⟨hk,hm⟩:(kOk ks=true∧ks.length < lim)∧_:=by
   split at hm
   ·rename_i hz;exact ⟨hz,hm⟩
   ·cases hm
  cases e4:fe ρ with
  | none=>rw [e4] at e2;cases e2
  | some y=>
   rw [e4] at e2
   have e2:keyD y=some k:=e2
   refine PE.imp (pe_sdf (zcK hN hv hd hcd) (he.h ρ y e4) (hf.h ρ z e3) ⟨m1,m2,m3,m4⟩) fun σ H Q h_=>?_
   obtain ⟨F,r,q⟩:=h_
   obtain ⟨a,h1,h2,vs0,h3,h4⟩:=r.own i pp _ e1
   obtain ⟨kvs0,g0,_,_⟩:=zgY h3 (zgM hk.1)
   refine ⟨_,h1,a,rfl,.inl ⟨kvs0,.inl g0⟩,F,r,fun v F1 H1 g1 r1=>⟨F1,r.grow g1,fun u F2 H2 g2 r2=>?_⟩⟩
   have rg:=(r.grow g1).grow g2
   obtain ⟨a',h1',h2',vs,h3',h4'⟩:=rg.own i pp _ e1
   rw [h1] at h1';cases h1'
   obtain ⟨kvs,g3,rfl,rfl⟩:=zgY h3' (zgM hk.1)
   have ev:=zdt (K:=X.K) e2 r1
   subst ev
   have hl:kvs.length < sizeLine:=by
    have:(kds kvs).length=kvs.length:=by simp [kds]
    exact zgJ (by omega)
   have st:=(g1.trans g2).step (ρ:=ρ) (σ:=σ)
   refine ⟨kvs,k,g3,rfl,hl,fun v' hv'=>?_,fun hn=>?_⟩
   ·rcases zfz (K:=X.K) (F:=F2) k kvs ds h4' with ⟨n1,n2⟩ | ⟨d',w,n1,n2,n3⟩
    ·rw [n2] at hv';cases hv'
    ·rw [n2] at hv';cases hv'
     rw [n1] at hm
     cases hm
     exact q _ F2 H2 rg st n3
   ·rcases zfz (K:=X.K) (F:=F2) k kvs ds h4' with ⟨n1,n2⟩ | ⟨d',w,n1,n2,n3⟩
    ·rw [n1] at hm
     cases hm
     obtain ⟨m0,m00⟩:=zjM (K:=X.K) (F:=F2) k r2 kvs ds h4'
     obtain ⟨w1,w2⟩:=rg.mut (i:=i) (o:=.dK (putK kvs k u)) (d':=.dic (putD (kds kvs) ds (kdK k) d).1 (putD (kds kvs) ds (kdK k) d).2) e1 h1 ⟨_,.inl ⟨putK kvs k u,zas,m0,rfl⟩,m00⟩
     exact q _ F2 _ w1 (st.trans w2 r.sub) r2
    ·rw [n2] at hn;cases hn
 ·cases hm
end
end FL
set_option Elab.async false
set_option linter.all false
set_option maxRecDepth 100000
namespace L2
open PySem PySem.Spec PyProof.Rows
end L2
namespace FL
open PySem PySem.Spec PyProof.Rows L2
section
variable {K:PySem.W.Frag}{X:Cx} {pos:Pos}{tg l:Expr} {f:En→Option D}
end
end FL
set_option Elab.async false
set_option linter.all false
set_option maxRecDepth 100000
namespace L2
open PySem PySem.Spec PyProof.Rows
section
variable {X:Cx}{pins:List (Addr×Obj)} {σ:St}{N:List Str} {cap:List (Option Nat)}{scope:Scope} {tg iter kx vx:Expr}{ifs:List Expr} {pos:Pos}{g:TG} {tt:TT}{tk tv:TE}
end
end L2
namespace FL
open PySem PySem.Spec PyProof.Rows L2
section
variable {K:PySem.W.Frag}{md:Md} {X:Cx}{pos:Pos} {tg iter kx vx:Expr}{ifs:List Expr} {scope:Scope}
end
end FL
set_option Elab.async false
set_option linter.all false
set_option maxRecDepth 100000
namespace HT
open PySem PySem.Spec PyProof.Rows PySem.Calls
theorem noFill_tuple_mul:fillsNumberSlot (.type "tuple") "mul" = pure false:=
 PySem.fillsNumberSlot_seq (id := "tuple.__mul__") (r:=some (.builtin "tuple.__rmul__")) PySem.F.slot_tuple_mul.lookup (by decide +kernel) PySem.F.slot_tuple_rmul.lookup (by decide +kernel)
theorem repeat_tuple:seqRepeat? (.type "tuple")=pure (some (.builtin "tuple.__mul__")):=by
 unfold seqRepeat?
 rw [PySem.seqSlot_of (T := "tuple") (name := "__mul__") (id := "tuple.__mul__") PySem.F.slot_tuple_mul.lookup (by decide +kernel),PySem.seqSlot_of (T := "tuple") (name := "__rmul__") (id := "tuple.__rmul__") PySem.F.slot_tuple_rmul.lookup (by decide +kernel)]
 rfl
theorem rmul_tuple (a:Int) (t:Tok) (l:Addr) (items:Array Value) (n:Nat) (d:Option Addr) (sl:Array (Option Value)) :
  Meets (Builtin.«int.__rmul__» ⟨[.int a t,.ref l],[]⟩) (fun _ R s=>s.heap.get? l=some { cls:=.type "tuple",dict:=d,data:=.seq items n,slots:=sl }∧R (.ok (.ret Value.notImplemented)) s):=
 .of_wp fun prog w A R s h=>by obtain ⟨hp,g,d,tk,os⟩:=s;obtain ⟨hl,h⟩:=h;wp_walk;exact ⟨_,rfl,h⟩
theorem mul_one (l:Addr) (items:Array Value) (n:Nat) (d:Option Addr) (sl:Array (Option Value)) (x:Int) (u:Tok) (h1:x=1) :
  Meets (Builtin.«tuple.__mul__» ⟨[.ref l,.int x u],[]⟩) (fun _ R s=>s.heap.get? l=some { cls:=.type "tuple",dict:=d,data:=.seq items n,slots:=sl }∧R (.ok (.ret (.ref l))) s):=
 .of_wp fun prog w A R s h=>by
  subst h1
  obtain ⟨hp,g,d,tk,os⟩:=s;obtain ⟨hl,h⟩:=h
  have f1:=PySem.AutoSeq1.idx_int
  wp_walk
  exact ⟨_,rfl,h⟩
theorem mul_zero (l:Addr) (items:Array Value) (n:Nat) (d:Option Addr) (sl:Array (Option Value)) (x:Int) (u:Tok) (h1:x=0) (hc:¬ items.isEmpty=true) :
  Meets (Builtin.«tuple.__mul__» ⟨[.ref l,.int x u],[]⟩) (fun _ R s=>s.heap.get? l=some { cls:=.type "tuple",dict:=d,data:=.seq items n,slots:=sl }∧R (.ok (.ret (.ref s.heap.objs.size))) { s with heap:=s.heap.push { cls:=.type "tuple",data:=.seq #[] } }):=
 .of_wp fun prog w A R s h=>by
  subst h1
  obtain ⟨hp,g,d,tk,os⟩:=s;obtain ⟨hl,h⟩:=h
  have f1:=PySem.AutoSeq1.idx_int
  have hc':items.isEmpty=false:=by simpa using hc
  wp_walk
  all_goals first | exact ⟨_,rfl,h⟩ | skip
theorem mul_2 (l:Addr) (v:Value) (n:Nat) (d:Option Addr) (sl:Array (Option Value)) (x:Int) (u:Tok) (h1:x=2) :
  Meets (Builtin.«tuple.__mul__» ⟨[.ref l,.int x u],[]⟩) (fun _ R s=>s.heap.get? l=some { cls:=.type "tuple",dict:=d,data:=.seq #[v] n,slots:=sl }∧R (.ok (.ret (.ref s.heap.objs.size))) { s with heap:=s.heap.push { cls:=.type "tuple",data:=.seq #[v,v] } }):=
 .of_wp fun prog w A R s h=>by
  subst h1
  obtain ⟨hp,g,d,tk,os⟩:=s;obtain ⟨hl,h⟩:=h
  have f1:=PySem.AutoSeq1.idx_int
  wp_walk
  exact ⟨_,rfl,h⟩
theorem mul_3 (l:Addr) (v:Value) (n:Nat) (d:Option Addr) (sl:Array (Option Value)) (x:Int) (u:Tok) (h1:x=3) :
  Meets (Builtin.«tuple.__mul__» ⟨[.ref l,.int x u],[]⟩) (fun _ R s=>s.heap.get? l=some { cls:=.type "tuple",dict:=d,data:=.seq #[v] n,slots:=sl }∧R (.ok (.ret (.ref s.heap.objs.size))) { s with heap:=s.heap.push { cls:=.type "tuple",data:=.seq #[v,v,v] } }):=
 .of_wp fun prog w A R s h=>by
  subst h1
  obtain ⟨hp,g,d,tk,os⟩:=s;obtain ⟨hl,h⟩:=h
  have f1:=PySem.AutoSeq1.idx_int
  wp_walk
  exact ⟨_,rfl,h⟩
end HT
namespace L2
open PySem PySem.Spec PyProof.Rows
section
variable {X:Cx}
noncomputable def rRepT (K:PySem.W.Frag):R2:=fun x y H Q=>∃ a k v,x=.ref a∧y=.int k∧SqT K H a [v]∧0≤k∧k≤3∧(k=1→Q (.ref a) H)∧(k≠1→∀ p,H p=none→Q (.ref p) (upd H p (.tup (List.replicate k.toNat v))))
theorem op_repT:OpR X (binaryOp .Mult) (rRepT X.K):=by
 intro pins s σ H x y v u Q I rx ry h
 obtain ⟨a,k,z,rfl,rfl,ha,h0,h3,q1,q2⟩:=h
 cases rx
 obtain ⟨t,rfl⟩:=ry
 obtain ⟨its,r1,⟨⟨cls,dd,data,sl⟩,ho,hc,n,hd⟩,_⟩:=I.tuple ha
 simp only at hc hd
 subst hc hd
 obtain ⟨w,rfl,rw'⟩:=zeN r1
 have new:∀ ws:List Value,Vals (List.replicate k.toNat z) ws→k≠1→EP X pins σ Q (.ref s.heap.objs.size) { s with heap:=s.heap.push { cls:=.type "tuple",data:=.seq ws.toArray } }:=fun ws rr hk=>
  ⟨.ref s.heap.objs.size,_,I.laid (t':=s.toks) (o:=.tup (List.replicate k.toNat z)) (fun b ob q=>Heap.get?_push_of_some _ q) (Nat.le_refl _) ⟨by rw [List.length_replicate,sizeLine_eq];omega,_,rr,IsTup.new _ _⟩,rfl,q2 hk _ (I.hok.fresh (Nat.le_refl _))⟩
 refine wpAny_binaryOp_repeat_ref (T := "tuple") (U := "int") (by decide) ⟨_,ho,rfl⟩ (fun s'=>typeIs_int s' k t) HT.noFill_tuple_mul PySem.F.fills_int_mul PySem.F.slot_int_rmul HT.repeat_tuple PySem.F.slot_int_index.lookup
  (call_meets PySem.F.slot_int_rmul (typeIs_int s k t) PySem.F.entry_int_rmul (PySem.F.args_int_rmul_2 _ _) (HT.rmul_tuple k t a #[w] n dd sl) ⟨ho,rfl,⟨_,ho,rfl⟩,?_⟩)
 rcases (by omega:k=0∨k=1∨k=2∨k=3) with e | e | e | e
 ·exact call_meets PySem.F.slot_tuple_mul ⟨_,ho,rfl⟩ PySem.F.entry_tuple_mul (PySem.F.args_tuple_mul_2 _ _) (HT.mul_zero a #[w] n dd sl k t e (by simp)) ⟨ho,new [] (by rw [e];exact .nil) (by omega)⟩
 ·exact call_meets PySem.F.slot_tuple_mul ⟨_,ho,rfl⟩ PySem.F.entry_tuple_mul (PySem.F.args_tuple_mul_2 _ _) (HT.mul_one a #[w] n dd sl k t e) ⟨ho,⟨.ref a,H,I,rfl,q1 e⟩⟩
 ·exact call_meets PySem.F.slot_tuple_mul ⟨_,ho,rfl⟩ PySem.F.entry_tuple_mul (PySem.F.args_tuple_mul_2 _ _) (HT.mul_2 a w n dd sl k t e) ⟨ho,new [w,w] (by rw [e];exact .cons rw' (.cons rw' .nil)) (by omega)⟩
 ·exact call_meets PySem.F.slot_tuple_mul ⟨_,ho,rfl⟩ PySem.F.entry_tuple_mul (PySem.F.args_tuple_mul_2 _ _) (HT.mul_3 a w n dd sl k t e) ⟨ho,new [w,w,w] (by rw [e];exact .cons rw' (.cons rw' (.cons rw' .nil))) (by omega)⟩
end
end L2
namespace FL
open PySem PySem.Spec PyProof.Rows L2
noncomputable def repD:D→D→Option D
 | .tup [d],.int k=>if 0≤k∧k≤3 then some (.tup (List.replicate k.toNat d)) else none
 | _,_=>none
theorem DatL.rep {K:PySem.W.Frag}{F:Hp} {d:D}{v:V} (h:Dat K F d v):∀ n:Nat,DatL K F (List.replicate n d) (List.replicate n v)
 | 0=>DatL.nil
 | n + 1=>DatL.cons h (DatL.rep h n)
section
variable {K:PySem.W.Frag}{X:Cx} {md:Md}{pos:Pos}
theorem p_rep (hK:X.K=K:=by rfl):Op2 K X (binaryOp .Mult) .fz repD:=by
 subst hK
 refine ⟨_,op_repT,fun x y d F H v u Q e s h1 h2 k=>?_⟩
 unfold repD at e
 split at e
 ·rename_i d0 n
  obtain ⟨⟨h0,h3⟩,rfl⟩:=zaO e
  obtain ⟨a,vs,rfl,f1,q1⟩:=h1.tup_inv
  obtain ⟨w,rfl,dw⟩:=q1.one
  refine ⟨a,n,w,rfl,h2.int_inv,SqT.of (s _ _ f1),h0,h3,fun e=>?_,fun e p hp=>?_⟩
  ·subst e
   exact k _ F H (Grow.refl s) (Dat.tup (K:=X.K) f1 (DatL.cons dw DatL.nil))
  ·have g:=Grow.frozen (o:=.tup (List.replicate n.toNat w)) s hp
   exact k _ _ _ g (Dat.tup (K:=X.K) zas (DatL.rep (dw.mono g.ff) _))
 ·cases e
end
end FL
set_option Elab.async false
set_option linter.all false
set_option maxRecDepth 100000
namespace FL
open PySem PySem.Spec PyProof.Rows L2
section
variable {P:Program}{w:World} {K:PySem.W.Frag}{mg:Str→Option Value} {base:Heap}{X:Cx} {k j:Nat}{ps:List Str} {x:Str}
end
end FL
set_option Elab.async false
set_option linter.all false
set_option maxRecDepth 100000
namespace FL
open PySem PySem.Spec PyProof.Rows L2
noncomputable def opX (p:D→D→Option D) (fa:En→Option D) (m:En→Option (D×En)):En→Option (D×En):=fun ρ=>(fa ρ).bind fun x=>(m ρ).bind fun q=>(p x q.1).map fun d=>(d,q.2)
noncomputable def ixX (p:D→D→Option D) (m:En→Option (D×En)) (fb:En→Option D):En→Option (D×En):=fun ρ=>(m ρ).bind fun q=>(fb q.2).bind fun y=>(p q.1 y).map fun d=>(d,q.2)
section
variable {K:PySem.W.Frag}{md:Md} {X:Cx}{a b e:Expr} {fa fb:En→Option D}{m:En→Option (D×En)} {p:D→D→Option D}{pos:Pos}
theorem zkF {ρ:En}{d:D} {ρ':En}(h:opX p fa m ρ=some (d,ρ')):∃ x y,fa ρ=some x∧m ρ=some (y,ρ')∧p x y=some d:=by
 unfold opX at h
 cases e1:fa ρ with
 | none=>rw [e1] at h;cases h
 | some x=>
  cases e2:m ρ with
  | none=>rw [e1,e2] at h;cases h
  | some q=>
   obtain ⟨y,ρ1⟩:=q
   rw [e1,e2] at h
   simp only [Option.bind_some] at h
   cases e3:p x y with
   | none=>rw [e3] at h;cases h
   | some d'=>rw [e3] at h;cases h;exact ⟨x,y,rfl,rfl,e3⟩
theorem ixX_some {ρ:En}{d:D} {ρ':En}(h:ixX p m fb ρ=some (d,ρ')):∃ x y,m ρ=some (x,ρ')∧fb ρ'=some y∧p x y=some d:=by
 unfold ixX at h
 cases e1:m ρ with
 | none=>rw [e1] at h;cases h
 | some q=>
  obtain ⟨x,ρ1⟩:=q
  rw [e1] at h
  simp only [Option.bind_some] at h
  cases e2:fb ρ1 with
  | none=>rw [e2] at h;cases h
  | some y=>
   rw [e2] at h
   simp only [Option.bind_some] at h
   cases e3:p x y with
   | none=>rw [e3] at h;cases h
   | some d'=>rw [e3] at h;cases h;exact ⟨x,y,rfl,e2,e3⟩
theorem xopR {op:Operator}(o:Op2 K X (binaryOp op) .fz p) (ha:FP K .fz X a fa) (hb:FX K X b m):FX K X (.BinOp a op b pos) (opX p fa m):=FX.mk fun ρ d ρ' hf=>by
 obtain ⟨x,y,e1,e2,e3⟩:=zkF hf
 obtain ⟨r,ho,hr⟩:=o
 refine PE.imp (pe_op ho (ha.h ρ x e1) (hb.h ρ y ρ' e2)) fun σ H Q h_=>?_
 obtain ⟨F,rl,q⟩:=h_
 refine ⟨F,rl,fun v F1 H1 g1 r1=>⟨F1,rl.grow g1,fun u F2 H2 rl2 s2 d2=>?_⟩⟩
 have r1':Dat K F1 x v:=r1
 refine hr x y d F2 H2 v u _ e3 rl2.sub ((r1'.mono s2.ff).b rl2.sub) (d2.b rl2.sub) fun w F3 H3 g3 d3=>?_
 exact q w F3 H3 (rl2.grow g3) ((g1.step.trans s2 rl.sub).trans g3.step rl.sub) d3
theorem xixR (o:Ix2 K X .fz p) (ha:FP K .fz X a fa) (hb:FX K X b m) (hs:ziH b):FX K X (.Subscript a b pos) (opX p fa m):=FX.mk fun ρ d ρ' hf=>by
 obtain ⟨x,y,e1,e2,e3⟩:=zkF hf
 obtain ⟨r,ho,hr⟩:=o
 refine PE.imp (pe_ix ho (ha.h ρ x e1) (hb.h ρ y ρ' e2) hs) fun σ H Q h_=>?_
 obtain ⟨F,rl,q⟩:=h_
 refine ⟨F,rl,fun v F1 H1 g1 r1=>⟨F1,rl.grow g1,fun u F2 H2 rl2 s2 d2=>?_⟩⟩
 have r1':Dat K F1 x v:=r1
 refine hr x y d F2 H2 v u _ e3 rl2.sub ((r1'.mono s2.ff).b rl2.sub) (d2.b rl2.sub) fun w F3 H3 g3 d3=>?_
 exact q w F3 H3 (rl2.grow g3) ((g1.step.trans s2 rl.sub).trans g3.step rl.sub) d3
theorem xixL (o:Ix2 K X .fz p) (ha:FX K X a m) (hb:FP K .br X b fb) (hs:ziH b):FX K X (.Subscript a b pos) (ixX p m fb):=FX.mk fun ρ d ρ' hf=>by
 obtain ⟨x,y,e1,e2,e3⟩:=ixX_some hf
 obtain ⟨r,ho,hr⟩:=o
 refine PE.imp (pe_ix ho (ha.h ρ x ρ' e1) (hb.h ρ' y e2) hs) fun σ H Q h_=>?_
 obtain ⟨F,rl,q⟩:=h_
 refine ⟨F,rl,fun v F1 H1 rl1 s1 d1=>⟨F1,rl1,fun u F2 H2 g2 r2=>?_⟩⟩
 refine hr x y d F2 H2 v u _ e3 g2.fh ((d1.mono g2.ff).b g2.fh) r2 fun w F3 H3 g3 d3=>?_
 exact q w F3 H3 ((rl1.grow g2).grow g3) (s1.trans (g2.trans g3).step rl.sub) d3
end
noncomputable def rdAX (K:PySem.W.Frag) (ρ:En) (ds:List D) (ρ':En):TA:=fun σ H Q=>∃ F,Rel K F H ρ σ∧∀ vs F' H',Rel K F' H' ρ' σ→Step ρ σ F H ρ' σ F' H'→DatL K F' ds vs→Q vs H'
structure FXs (K:PySem.W.Frag) (X:Cx) (es:List Expr) (f:En→Option (List D×En)):Prop where
 h:∀ ρ ds ρ',f ρ=some (ds,ρ')→PA X es (rdAX K ρ ds ρ')
noncomputable def zga (m:En→Option (D×En)) (fs:En→Option (List D)):En→Option (List D×En):=fun ρ=>(m ρ).bind fun q=>(fs q.2).map fun l=>(q.1::l,q.2)
noncomputable def cLX (p:List D→Option D) (fs:En→Option (List D×En)):En→Option (D×En):=fun ρ=>(fs ρ).bind fun q=>(p q.1).map fun d=>(d,q.2)
section
variable {K:PySem.W.Frag}{X:Cx} {e:Expr}{es:List Expr} {m:En→Option (D×En)}{fs:En→Option (List D)} {gs:En→Option (List D×En)}{pos p:Pos} {x:Str}{ps:List Str} {k j:Nat}{mm:List D→Option D}
theorem xcons (h1:FX K X e m) (h2:FPs K true X es fs) (hs:starEach (e::es) X.env=(false,eval e X.env)::starEach es X.env:=by rfl):FXs K X (e::es) (zga m fs):=FXs.mk fun ρ ds ρ' hf=>by
 unfold zga at hf
 cases e1:m ρ with
 | none=>rw [e1] at hf;cases hf
 | some q=>
  obtain ⟨d,ρ1⟩:=q
  rw [e1] at hf
  simp only [Option.bind_some] at hf
  cases e2:fs ρ1 with
  | none=>rw [e2] at hf;cases hf
  | some l=>
   rw [e2] at hf;cases hf
   refine PA.imp (zbk (h1.h ρ d _ e1) (h2.h _ l e2) hs) fun σ H Q h_=>?_
   obtain ⟨F,r,q⟩:=h_
   refine ⟨F,r,fun v F1 H1 rl1 s1 d1=>⟨F1,rl1,fun vs F2 H2 g2 r2=>?_⟩⟩
   exact q (v::vs) F2 H2 (rl1.grow g2) (s1.trans g2.step r.sub) (DatL.cons (d1.mono g2.ff) r2)
theorem xk (G:Fk X.prog X.w X.K X.mg X.base x ps .fz k mm) (hr:Room j X.A) (ha:FXs K X (e::es) gs) (hle:k≤j:=by first | decide | omega) (hg:Gl X x:=by rfl) (hK:X.K=K:=by rfl)
  (H1:∀ {f:Addr}{fd:FuncData} {t:TA},FnOk X.prog X.w X.K X.mg X.base CX0 k f fd ps (SpD K .fz mm)→Room k X.A→Gl X x→X.mg x=some (.ref f)→PySem.W.keepIn X.K (.ref f)=true→zfw X.K fd ps []→PA X (e::es) t→PE X (.Call (.Name x p) (e::es) [] pos) (zlf (SpD K .fz mm) [] E0 t):=by
   exact fun F hr hg hm hk hb ha=>zgv F hr hg hm hk hb .nil zmv ha) :
  FX K X (.Call (.Name x p) (e::es) [] pos) (cLX mm gs):=FX.mk fun ρ d ρ' hf=>by
 subst hK
 unfold cLX at hf
 cases e1:gs ρ with
 | none=>rw [e1] at hf;cases hf
 | some q=>
  obtain ⟨l,ρ1⟩:=q
  rw [e1] at hf
  simp only [Option.bind_some] at hf
  cases e2:mm l with
  | none=>rw [e2] at hf;cases hf
  | some d'=>
   rw [e2] at hf;cases hf
   obtain ⟨f,fd,F,hb,hk,hm⟩:=G.ex
   refine PE.imp (H1 F (hr.mono hle) hg hm hk hb (ha.h ρ l _ e1)) fun σ H Q ⟨F,r,q⟩=>⟨F,r,fun vs F1 H1 rl1 s1 d1=>?_⟩
   refine ⟨F1,l,_,rl1.sub,by rw [List.append_nil];exact d1,e2,fun v F2 H2 g2 h2=>?_⟩
   exact q v F2 H2 (rl1.grow g2) (s1.trans g2.step r.sub) h2
end
noncomputable def putKX (i:Nat) (fk:En→Option D) (m:En→Option (D×En)):En→Option Fl:=fun ρ=>(m ρ).bind fun q=>zfA i fk (fun _=>some q.1) q.2
section
variable {K:PySem.W.Frag}{X:Cx} {pos:Pos}
theorem sputKX {md:Md}(i:Nat) {x:Str}{p p2:Pos} {ke e:Expr}{fk:En→Option D} {m:En→Option (D×En)}(hu:X.A.units + 100 < cLine) (he:FX K X e m) (hk:FP K .fz X ke fk)
  (hN:X.N[i]?=some x:=by rfl) (hv:Vis X.env.scope x:=by first | exact Or.inl rfl | exact Or.inr (Or.inl rfl) | exact Or.inr (Or.inr rfl)) (hd:(x == ("__debug__" : Str))=false:=by decide) (hcd:(x == ("__classdict__" : Str))=false:=by decide)
  (H1:∀ {to ti:TE}{t:TSet},PE X (.Name x p) to→PE X ke ti→PSet X t→PG X (.Subscript (.Name x p) ke p2) (gSub to ti t):=by exact fun a b c=>zmp a b c)
  (hs:swapsWithSole [.Subscript (.Name x p) ke p2] e pos.line X.env=pure false:=by rfl) (hw:swappedStores [.Subscript (.Name x p) ke p2] e X.env=pure none:=by rfl)
  (h1:(assignEach [.Subscript (.Name x p) ke p2] X.env).map (·.2)=[assign (.Subscript (.Name x p) ke p2) X.env]:=by rfl) (hK:X.K=K:=by rfl) :
  FS K md X (.Assign [.Subscript (.Name x p) ke p2] e pos) (putKX i fk m):=FS.mk fun ρ0 fl hf=>by
 subst hK
 unfold putKX at hf
 cases e0:m ρ0 with
 | none=>rw [e0] at hf;cases hf
 | some q0=>
 obtain ⟨d,ρ⟩:=q0
 rw [e0] at hf
 simp only [Option.bind_some] at hf
 unfold zfA at hf
 split at hf
 ·rename_i pp ks ds d' k e1 e2 e3
  cases e2
  obtain ⟨⟨hk1,hk2⟩,hf⟩:=zaO hf
  cases hf
  cases e4:fk ρ with
  | none=>rw [e4] at e3;cases e3
  | some y=>
   rw [e4] at e3
   have e3:keyD y=some k:=e3
   refine PS.imp (ziT (he.h ρ0 d ρ e0) (H1 (zcK hN hv hd hcd) (hk.h ρ y e4) (zkv (by omega))) hs hw h1) fun D σ H h_=>?_
   obtain ⟨F,r,q⟩:=h_
   refine ⟨F,r,fun v F1 H1 rl1 s1 r1=>?_⟩
   obtain ⟨a,h1,h2,h3⟩:=rl1.own i pp _ e1
   refine ⟨_,h1,F1,rl1,fun u F2 H2 g2 r2=>?_⟩
   have rg:=rl1.grow g2
   obtain ⟨a',h1',h2',vs,h3',h4'⟩:=rg.own i pp _ e1
   rw [h1] at h1';cases h1'
   obtain ⟨kvs,g3,rfl,rfl⟩:=zgY h3' (zgM hk1)
   have ev:=zdt (K:=X.K) e3 r2
   subst ev
   have hl:kvs.length < sizeLine:=by
    have:(kds kvs).length=kvs.length:=by simp [kds]
    exact zgJ (by omega)
   obtain ⟨m0,m00⟩:=zjM (K:=X.K) (F:=F2) k (Dat.mono g2.ff r1) kvs ds h4'
   refine ⟨a,_,rfl,DPut.k g3 hl,?_⟩
   obtain ⟨m1,m2⟩:=rg.mut (i:=i) (o:=.dK (putK kvs k v)) (d':=.dic (putD (kds kvs) ds (kdK k) d).1 (putD (kds kvs) ds (kdK k) d).2) e1 h1 ⟨_,.inl ⟨putK kvs k v,zas,m0,rfl⟩,m00⟩
   exact q σ _ _ m1 ((s1.trans g2.step r.sub).trans m2 r.sub)
 ·cases hf
end
end FL
set_option Elab.async false
set_option linter.all false
set_option maxRecDepth 100000
namespace L2
open PySem PySem.Spec PyProof.Rows
section
variable {X:Cx}
theorem znv (hc:X.calm=true):zeE X (.builtin "all") (fun xs H Q=>∃ (p:Addr) (bs:List Bool),xs=[.ref p]∧SqL X.K H p (bs.map V.bl)∧Q (.bl (bs.all id)) H):=by
 intro pins s σ H xs us Q I r h
 obtain ⟨p,bs,rfl,hq,q⟩:=h
 obtain ⟨u,rfl,rx⟩:=zeN r
 cases rx
 obtain ⟨its,r',pl,_⟩:=I.list hq
 have hh:X.A.handled=none:=I.ok.hd hc
 obtain ⟨ol,hol,_⟩:=id pl.isList
 have hll:p < s.heap.objs.size:=Heap.lt_size hol
 have hlen:its.toArray.size=bs.length:=by rw [List.size_toArray,← r'.length,List.length_map]
 have hlI:p≠s.heap.objs.size:=Nat.ne_of_lt hll
 have W:=Walks.list (prog:=X.prog) (w:=X.w) (A:=X.A.in1) hh s.heap.objs.size p hlI its.toArray
 rw [hlen] at W
 refine call_all_walk (wpAny_pyIter_list pl.isList ⟨s.heap.objs.size,_,_,bs.length,_,_,fun i=>(bs[i]?).getD true,rfl,W,⟨⟨_,Heap.get?_push_size _ rfl,rfl,rfl⟩,pl.isList.at fun o e=>Heap.get?_push_of_some _ e⟩,fun i v s Q E hP hQ=>?_,fun h' tk hk=>?_⟩)
 ·have hv:its[i]?=some v:=by simpa using hP
  have hi:i < bs.length:=by
   have:=(List.getElem?_eq_some_iff.mp hv).1
   rw [List.size_toArray] at hlen;omega
  obtain ⟨u,e1,r1⟩:=r'.get (i:=i) (x:=.bl bs[i]) (by simp [hi])
  rw [hv] at e1;cases e1
  have r1:v=.bool bs[i]:=r1
  subst r1
  have hQ:Q ((bs[i]?).getD true) s:=hQ
  rw [List.getElem?_eq_getElem hi] at hQ
  exact wpAny_truthy_bool hQ
 ·refine ⟨.bl (bs.all id),H,I.kept (fun b o e=>hk b o (by
   have:b < s.heap.objs.size:=Heap.lt_size e
   have n:b≠s.heap.objs.size:=Nat.ne_of_lt this
   simpa using n) (Heap.get?_push_of_some _ e)),?_,q⟩
  show Value.bool _=Value.bool _
  congr 1
  rw [Bool.eq_iff_iff,List.all_eq_true,List.all_eq_true]
  constructor
  ·intro h x hx
   obtain ⟨i,hi,rfl⟩:=List.getElem_of_mem hx
   have:=h i (List.mem_range.mpr hi)
   simpa [hi] using this
  ·intro h i hi
   have hi:=List.mem_range.mp hi
   simpa [hi] using h _ (List.getElem_mem hi)
end
end L2
namespace FL
open PySem PySem.Spec PyProof.Rows L2
noncomputable def ziA:List D→Option (List Bool)
 | []=>some []
 | .bl b::l=>(ziA l).map (b::·)
 | _::_=>none
theorem zlI:∀ {l:List D}{ns:List Bool},ziA l=some ns→l=ns.map D.bl:=by
 intro l
 induction l with
 | nil=>intro ns h;simp [ziA] at h;subst h;rfl
 | cons d l ih=>
  intro ns h
  cases d<;>simp only [ziA] at h<;>try (cases h;done)
  cases e:ziA l with
  | none=>rw [e] at h;cases h
  | some ms=>rw [e] at h;cases h;rw [ih e];rfl
theorem zjB:∀ (ns:List Bool),ziA (ns.map D.bl)=some ns
 | []=>rfl
 | b::l=>by rw [List.map_cons,ziA,zjB l];rfl
noncomputable def allD:List D→Option D
 | [.lst l]=>(ziA l).map fun bs=>.bl (bs.all id)
 | _=>none
section
variable {K:PySem.W.Frag}{F H:Hp} {X:Cx}
theorem DatL.bls:∀ {bs:List Bool}{vs:List V},DatL K F (bs.map D.bl) vs→vs=bs.map V.bl
 | [],vs,h=>h.nil_inv
 | b::l,vs,h=>by
  obtain ⟨v,r,e,h1,h2⟩:=h.cons_inv
  have:=Dat.bl_inv (K:=K) (F:=F) h1
  rw [e,this,DatL.bls h2];rfl
theorem c_all (hc:X.calm=true) (hK:X.K=K:=by rfl):ziI K X (.builtin "all") .fz allD:=by
 subst hK
 refine ⟨_,znv hc,fun ds d F H vs Q e s h k=>?_⟩
 unfold allD at e
 split at e
 ·rename_i l
  cases e1:ziA l with
  | none=>rw [e1] at e;cases e
  | some bs=>
   rw [e1] at e
   cases e
   obtain ⟨v,rfl,h1⟩:=h.one
   rw [zlI e1] at h1
   obtain ⟨a,vs,rfl,f,q⟩:=h1.lst_inv
   rw [q.bls] at f
   exact ⟨a,bs,rfl,SqL.of f,k _ F H (Grow.refl s) (Res.bl _)⟩
 ·cases e
end
end FL
set_option Elab.async false
set_option linter.all false
set_option maxRecDepth 100000
namespace L2
open PySem PySem.Spec PyProof.Rows
section
variable {X:Cx}{tg iter tg2 iter2 elt:Expr} {scope:Scope}{pos:Pos} {wi:TI}{g2:TG} {te:TE}
noncomputable abbrev lc2 (elt tg iter tg2 iter2:Expr) (scope:Scope) (pos:Pos):Expr:=.ListComp elt [⟨tg,iter,[],0⟩,⟨tg2,iter2,[],0⟩] scope pos
noncomputable def actN (e iter2:Expr):Value→Env→Sem Unit:=fun acc env=>do
 let x ← eval iter2 env
 standAt iter2.pos
 let x ← foldedSetIterable iter2 env x
 let _ ← runOwn (.compStart e 1 (← holding [x] (pyIter x)) acc env) env
theorem ck_nest:zeM X (lc2 elt tg iter tg2 iter2 scope pos) tg iter [] (newList []) (actN (lc2 elt tg iter tg2 iter2 scope pos) iter2) (.lst []) where
 new:=fun pins σ H s Q E I h=>wpAny_newObj_type (h _ (I.lnew (t':=s.toks) .nil (Nat.zero_le _)))
 turn:=fun it D env=>by
  simp only [actN,bind_assoc,pure_bind]
  rfl
 loop:=fun A it D env Q E s h=>h
 start:=fun h0 h=>codeAny_compStart_list h0 h
theorem turn1 (it acc:Value) (env:Env) :
  compTurn (lc2 elt tg iter tg2 iter2 scope pos) 1 it acc env=(standAt iter2.pos >>= fun _=>pyNext it >>= fun r=>match r with
   | none=>pure (.done .next)
   | some v=>letOwnedTupleGo tg2 it v >>= fun _=>assign tg2 env v >>= fun _=>
    (eval elt env >>= fun x=>call (.builtin "list.append") [acc,x] >>= fun _=>pure ()) >>= fun _=>
     again (.compLoop (lc2 elt tg iter tg2 iter2 scope pos) 1 it acc env)):=by rfl
theorem start1 {prog:Program}{w:World} {A:Around}{R:Result→Shared→Prop} {s:Shared}{it acc:Value} {env:Env}
  (h0:codeAny (model prog w) A (.compLoop (lc2 elt tg iter tg2 iter2 scope pos) 1 it acc env) R s)
  (h:wpAny (model prog w) A (pyIter it) (fun it' s'=>codeAny (model prog w) A (.compLoop (lc2 elt tg iter tg2 iter2 scope pos) 1 it' acc env) R s')
   (notedBy (model prog w) A env fun x s'=>R (.error x) s') s) :
  codeAny (model prog w) A (.compStart (lc2 elt tg iter tg2 iter2 scope pos) 1 it acc env) R s:=by
 refine codeAny_of_tree ?_
 show wpAny _ _ ((compStart (lc2 elt tg iter tg2 iter2 scope pos) 1 it acc env).onRaise (fun x=>do noteFrame x env;standAt theWindowsPlace)) _ _ s
 refine wpAny_notedAt ?_
 unfold compStart
 show wpAny _ _ (ask >>= _) _ _ s
 refine wpAny_bind (wpAny_askSetting (wpAny_ite ?_))
 split
 ·first
   | exact wpAny_bind (wpAny_pure (wpAny_pure (And.intro rfl h0)))
   | exact wpAny_pure (And.intro rfl h0)
 ·first
   | exact wpAny_bind (wpAny_rule (wpAny_bind (wpAny_standAt (wpAny_bind (wpAny_mono h (fun it' s' h'=>wpAny_pure (And.intro rfl h')) fun _ _ x=>x)))))
   | (refine wpAny_bind (wpAny_rule ?_);show wpAny _ _ (standAt iter2.pos >>= _) _ _ s;exact wpAny_bind (wpAny_standAt (wpAny_bind (wpAny_mono h (fun it' s' h'=>wpAny_pure (And.intro rfl h')) fun _ _ x=>x))))
noncomputable def taN (wi:TI) (g2:TG) (te:TE) (D:Addr):TAct:=fun σ H Q=>wi σ H fun J H1=>∃ W:Nat→Nat→St→Hp→Prop,(∃ m,W 0 m σ H1)∧∀ i m σ' H',W i m σ' H'→
 ((J.stop i H'∧Q H')∨(J.go i H'∧∀ x H'',J.yld i H' x H''→g2 x σ' H'' fun σ2 H2=>taL te D σ2 H2 fun H4=>∃ m',m' < m∧W (i + 1) m' σ2 H4))
theorem act_list {Y:Cx}(he:PE Y elt te) (D:Addr) (pins:List (Addr×Obj)) (s:Shared) (σ:St) (H:Hp) (Q:Hp→Prop) (I:Inv Y pins σ H s) (h:taL te D σ H Q) :
  wpAny (model Y.prog Y.w) Y.A (eval elt Y.env >>= fun x=>call (.builtin "list.append") [.ref D,x] >>= fun _=>pure ()) (fun _ s'=>∃ H',Inv Y pins σ H' s'∧Q H') Y.xe s:=by
 refine wpAny_bind (thn (he pins s σ H _ I h) fun v s9 ⟨v9,H9,I9,r9,acc,hD9,hlen,q9⟩=>?_)
 refine wpAny_bind (thn (zgB (X:=Y) _ s9 σ H9 (.ref D) [v9] (.ref D) [v] (fun z Hz=>z=.non∧Hz=upd H9 D (.lst (acc++[v9]))) I9 rfl (.cons r9 .nil) ⟨D,acc,v9,rfl,rfl,hD9,hlen,rfl,rfl⟩) fun _ s10 h10=>?_)
 obtain ⟨_,H10,I10,_,_,e10⟩:=h10
 subst e10
 exact wpAny_pure ⟨_,I10,q9⟩
theorem zmx {Y:Cx}(hxe:∀ e s,¬ Y.xe e s) (hc:Y.calm=true) (hi:PI Y tg2 iter2 wi) (hg:PG Y tg2 g2) (he:PE Y elt te) (hs:∀ x,foldedSetIterable iter2 Y.env x=pure x) (D:Addr) :
  PAct Y (actN (lc2 elt tg iter tg2 iter2 scope pos) iter2) D (taN wi g2 te D):=by
 intro pins s σ H Q I h
 unfold actN
 refine wpAny_bind (thn (hi pins s σ H _ I h) fun v s1 h1=>?_)
 refine wpAny_bind (wpAny_standAt ?_)
 rw [hs]
 refine wpAny_bind (wpAny_pure ?_)
 refine wpAny_bind (wpAny_holding (thn h1 fun itv s2 h2=>?_))
 obtain ⟨it,fp,tn,J,H2,e,I2,T,st2,f2,W,⟨m0,w0⟩,turn⟩:=h2
 subst e
 refine wpAny_bind (wpAny_runOwn ?_)
 have stat:∀ {H':Hp},(∀ b∈fp,H' b=none)→∀ b∈fp,FpOk Y pins H' b:=fun hn b hb=>⟨hn b hb,(f2 b hb).2⟩
 have lp:∀ {R:Result→Shared→Prop},(∀ σ' H' s',Inv Y pins σ' H' s'→Q H'→R (.ok .next) s')→codeAny (model Y.prog Y.w) Y.A (.compLoop (lc2 elt tg iter tg2 iter2 scope pos) 1 (.ref it) (.ref D) Y.env) R s2:=by
  intro R hR
  refine codeAny_loop rfl (fun n s'=>∃ i σ' H',Inv Y pins σ' H' s'∧tn i s'.heap∧(∀ b∈fp,H' b=none)∧W i n σ' H') ?_ m0 ⟨0,σ,H2,I2,st2,fun b hb=>(f2 b hb).1,w0⟩
  rintro n s3 ⟨i,σ3,H3,I3,st3,fr3,w3⟩
  show wpAny _ Y.A ((compTurn (lc2 elt tg iter tg2 iter2 scope pos) 1 (.ref it) (.ref D) Y.env).onRaise (fun x=>do noteFrame x Y.env;theTreesLotGoes x)) _ _ s3
  refine wpAny_noted ?_
  rw [turn1]
  refine wpAny_bind (wpAny_standAt (wpAny_bind ?_))
  rcases turn i n σ3 H3 w3 with ⟨stop,qn⟩ | ⟨go,step⟩
  ·refine wpAny_mono (T.done Y rfl rfl rfl hc i pins s3 σ3 H3 Y.xe I3 (stat fr3) st3 stop) (fun r s4 h4=>?_) fun e s' z=>absurd z (hxe e s')
   obtain ⟨hr,I4⟩:=h4
   subst hr
   exact wpAny_pure (hR σ3 H3 s4 I4 qn)
  ·refine wpAny_mono (T.item Y rfl rfl rfl hc i pins s3 σ3 H3 Y.xe I3 (stat fr3) st3 go) (fun r s4 h4=>?_) fun e s' z=>absurd z (hxe e s')
   obtain ⟨u,hr,h4⟩:=h4
   subst hr
   refine wpAny_bind (wpAny_mono h4 (fun _ s5 h5=>?_) fun e s' z=>absurd z (hxe e s'))
   obtain ⟨x,H5,I5,r5,y5,st5,fr5⟩:=h5
   have I5':=I5.pinned (stat fr5) (T.obj _ _ st5)
   refine wpAny_bind (wpAny_mono (hg _ s5 σ3 H5 x u _ I5' r5 (step x H5 y5)) (fun _ s6 h6=>?_) fun e s' z=>absurd z (hxe e s'))
   obtain ⟨σ6,H6,I6,q6⟩:=h6
   refine wpAny_bind (wpAny_mono (act_list he D _ s6 σ6 H6 _ I6 q6) (fun _ s7 h7=>?_) fun e s' z=>absurd z (hxe e s'))
   obtain ⟨H7,I7,m',hm,w7⟩:=h7
   refine wpAny_pure ⟨rfl,m',hm,i + 1,σ6,H7,I7.unpinned,T.keep _ _ _ st5 fun b hb o e=>(I7.pin (b,o) (List.mem_append_right _ (List.mem_append_right _ (zcI hb e)))).1,fun b hb=>?_,w7⟩
   obtain ⟨o,e,d⟩:=T.obj _ _ st5 b hb
   exact (I7.pin (b,o) (List.mem_append_right _ (List.mem_append_right _ (zcI hb e)))).2.1
 have fin:∀ σ' H' s',Inv Y pins σ' H' s'→Q H'→wpAny (model Y.prog Y.w) Y.A (pure ()) (fun _ s'=>∃ σ' H',Inv Y pins σ' H' s'∧Q H') Y.xe s':=fun σ' H' s' I' q'=>wpAny_pure ⟨σ',H',I',q'⟩
 exact start1 (lp fin) (T.self Y.A 0 _ _ _ st2 (lp fin))
variable {pins:List (Addr×Obj)}{σ:St} {N:List Str}{cap:List (Option Nat)} {ifs:List Expr}{g:TG} {tt:TT}
theorem zmq {e:Expr}{newAcc:Sem Value} {act:Value→Env→Sem Unit}{ho:HO} {ta:Addr→TAct}{wi:TI} {gs:List Comprehension}(ck:zeM X e tg iter ifs newAcc act ho) (N:List Str) (cap:List (Option Nat)) (cp:Cap X scope N cap) (hc:X.calm=true) (hi:PI X tg iter wi)
  (hg:∀ C s0 H0 fp,PG (zaR X N scope (clOf X.env scope.names []) C s0 H0 fp) tg g) (ht:∀ C s0 H0 fp,PIf (zaR X N scope (clOf X.env scope.names []) C s0 H0 fp) ifs tt) (he:∀ C s0 H0 fp D,PAct (zaR X N scope (clOf X.env scope.names []) C s0 H0 fp) act D (ta D))
  (S:zbQ X scope) (hs:∀ x,foldedSetIterable iter X.env x=pure x) (hcl:clausesOf e=⟨tg,iter,ifs,0⟩::gs) {p:Pos}(hev:eval e X.env=comprehension e scope X.env p newAcc false (eval iter X.env)) :
  PE X e (zkr wi g tt ta ho cap):=by
 intro pins s σ H Q I h
 rw [hev]
 refine wpAny_comprehension_free (use:=none) hcl hs (zfM (S.cellsOf I.ok)) S.kind S.names (thn (hi pins s σ H _ I h) fun v s1 h1=>thn h1 fun itv s2 h2=>?_)
 obtain ⟨it,fp,tn,J,H2,e,I2,T,st2,f2,hw⟩:=h2
 subst e
 refine zhc (RR:=fun acc C=>compPost (model X.prog X.w) X.A X.xe none (EP X pins σ Q) acc C) ck hc S cp hg ht he I2 T st2 f2 hw ?_
 intro D C H' s' m' I' ns fC c1 c2 c3 c4 q
 exact ⟨m',ns,fun h' hs'=>⟨.ref D,H',I'.turned (t':=s'.toks) (fun b o hb e=>(hs'.2 b hb).trans e) fC c1 (.inr c2) c3 c4,rfl,q⟩⟩
end
end L2
set_option Elab.async false
set_option linter.all false
set_option maxRecDepth 100000
namespace FL
open PySem PySem.Spec PyProof.Rows L2
noncomputable def datO (ρ:En):Bool:=ρ.all fun s=>match s with
 | none=>true
 | some (.dat _)=>true
 | _=>false
theorem ziv {ρ:En}(h:datO ρ=true) {i:Nat}{s:Sl} (e:ρ[i]?=some (some s)):∃ d,s=.dat d:=by
 have:=List.all_eq_true.mp h _ (List.mem_of_getElem? e)
 cases s with
 | dat d=>exact ⟨d,rfl⟩
 | ow p d=>cases this
 | bor d=>cases this
theorem Rel.dats {K:PySem.W.Frag}{F H F' H':Hp} {ρ:En}{σ:St} (r:Rel K F H ρ σ) (h:datO ρ=true) (f:Same F F') (g:Same F' H'):Rel K F' H' ρ σ:=by
 refine ⟨g,fun i d e=>?_,fun i d e=>?_,fun i p d e=>?_,fun i j p d s a ne e1=>?_,r.len⟩
 ·obtain ⟨v,h1,h2⟩:=r.dat i d e
  exact ⟨v,h1,h2.mono f⟩
 ·obtain ⟨d',z⟩:=ziv h e;cases z
 ·obtain ⟨d',z⟩:=ziv h e;cases z
 ·obtain ⟨d',z⟩:=ziv h e1;cases z
noncomputable def innM (g2:D→En→Option En) (f:En→Option D):List D→En→Option (List D)
 | [],_=>some []
 | y::ys,ρ=>(g2 y ρ).bind fun ρ'=>if datO ρ'=true then (f ρ').bind fun d=>(innM g2 f ys ρ').map fun l=>d::l else none
noncomputable def outM (g:D→En→Option En) (fi2:En→Option (List D)) (g2:D→En→Option En) (f:En→Option D) (ρi:En):List D→Option (List D)
 | []=>some []
 | x::xs=>(g x ρi).bind fun ρ1=>if datO ρ1=true then (fi2 ρ1).bind fun ys=>(innM g2 f ys ρ1).bind fun l=>(outM g fi2 g2 f ρi xs).map fun r=>l++r else none
noncomputable def zjx (cap:List (Option Nat)) (fi:En→Option (List D)) (g:D→En→Option En) (fi2:En→Option (List D)) (g2:D→En→Option En) (f:En→Option D):En→Option D:=fun ρ=>(fi ρ).bind fun ds=>(outM g fi2 g2 f (st0E cap ρ) ds).bind fun rs=>if rs.length≤lim then some (.lst rs) else none
theorem zki {cap:List (Option Nat)}{fi fi2:En→Option (List D)} {g g2:D→En→Option En}{f:En→Option D} {ρ:En}{d:D} (h:zjx cap fi g fi2 g2 f ρ=some d):∃ ds rs,fi ρ=some ds∧outM g fi2 g2 f (st0E cap ρ) ds=some rs∧rs.length≤lim∧d=.lst rs:=by
 unfold zjx at h
 cases e1:fi ρ with
 | none=>rw [e1] at h;cases h
 | some ds=>
  rw [e1] at h
  simp only [Option.bind_some] at h
  cases e2:outM g fi2 g2 f (st0E cap ρ) ds with
  | none=>rw [e2] at h;cases h
  | some rs=>
   rw [e2] at h
   simp only [Option.bind_some] at h
   obtain ⟨hz,rfl⟩:=zaO h
   exact ⟨ds,rs,rfl,e2,hz,rfl⟩
theorem PI.any {X:Cx}{tg iter:Expr} {ι:Type}{t:ι→TI} (h:∀ i,PI X tg iter (t i)):PI X tg iter (fun σ H R=>∃ i,t i σ H R):=fun pins s σ H R I ⟨i,ht⟩=>h i pins s σ H R I ht
section
variable {K:PySem.W.Frag}{md:Md} {X:Cx}{pos:Pos} {tg iter tg2 iter2 elt:Expr}{scope:Scope}
noncomputable abbrev anyG (K:PySem.W.Frag) (g:D→En→Option En):TG:=fun v σ H Q=>∃ i:{ q:En×D×En // g q.2.1 q.1=some q.2.2 },rdG K i.1.1 i.1.2.1 i.1.2.2 v σ H Q
noncomputable abbrev anyE (K:PySem.W.Frag) (f:En→Option D):TE:=fun σ H Q=>∃ i:{ q:En×D // f q.1=some q.2 },rdE K .fz i.1.1 i.1.2 σ H Q
noncomputable abbrev anyI (K:PySem.W.Frag) (f:En→Option (List D)):TI:=fun σ H R=>∃ i:{ q:En×List D // f q.1=some q.2 },rdI K i.1.1 i.1.2 σ H R
theorem inn_rd {fi2:En→Option (List D)}{g2:D→En→Option En} {f:En→Option D}{ρ1:En} {ys l done rest rs:List D}{σ:St} {F H:Hp}{a:Addr} {acc:List V}{Q:Hp→Prop} (hi:fi2 ρ1=some ys) (hm:innM g2 f ys ρ1=some l) (r:Rel K F H ρ1 σ) (hd:datO ρ1=true)
  (fa:F a=none) (ha:H a=some (.lst acc)) (da:DatL K F done acc) (hrs:rs=done++(l++rest)) (hz:rs.length≤lim)
  (q:∀ F' H' acc',Same F F'→(∀ b o,b≠a→H b=some o→H' b=some o)→Same F' H'→(∀ b o,H b=some o→F b=none→F' b=none)→F' a=none→H' a=some (.lst acc')→DatL K F' (done++l) acc'→Q H') :
  taN (anyI K fi2) (anyG K g2) (anyE K f) a σ H Q:=by
 refine ⟨⟨(ρ1,ys),hi⟩,F,r,fun J F1 H1 g1 ok=>?_⟩
 refine ⟨fun i m σ' H'=>i≤ys.length∧m=ys.length - i∧∃ F' ρ' acc' dn left,Rel K F' H' ρ' σ'∧datO ρ'=true∧Same F1 F'∧(∀ b o,b≠a→H1 b=some o→H' b=some o)∧(∀ b o,H1 b=some o→F1 b=none→F' b=none)∧F' a=none∧H' a=some (.lst acc')∧DatL K F' (done++dn) acc'∧innM g2 f (ys.drop i) ρ'=some left∧l=dn++left,
  ⟨ys.length,Nat.zero_le _,rfl,F1,ρ1,acc,[],l,r.grow g1,hd,Same.refl _,fun b o _ e=>e,fun b o _ e=>e,g1.nw a _ ha fa,g1.hh _ _ ha,by rw [List.append_nil];exact da.mono g1.ff,by rw [List.drop_zero];exact hm,rfl⟩,?_⟩
 rintro i m σ' H' ⟨hi',rfl,F',ρ',acc',dn,left,r',hd',ff,hh,nw,fa',ha',da',e1,e2⟩
 obtain ⟨o1,o2,o3⟩:=ok F' H' ff r'.sub
 by_cases hlt:i < ys.length
 ·refine .inr ⟨o1 i hlt,fun x H3 y=>?_⟩
  obtain ⟨F3,g3,d3⟩:=o2 i x H3 _ (List.getElem?_eq_getElem hlt) y
  rw [List.drop_eq_getElem_cons hlt] at e1
  simp only [innM] at e1
  cases e3:g2 ys[i] ρ' with
  | none=>rw [e3] at e1;cases e1
  | some ρ2=>
   simp only [e3,Option.bind_some] at e1
   obtain ⟨hd2,e1⟩:datO ρ2=true∧_:=by
    split at e1
    ·rename_i hz;exact ⟨hz,e1⟩
    ·cases e1
   refine ⟨⟨(ρ',ys[i],ρ2),e3⟩,F3,r'.grow g3,d3,fun σ2 r2 _=>?_⟩
   cases e5:f ρ2 with
   | none=>rw [e5] at e1;cases e1
   | some d=>
    simp only [e5,Option.bind_some] at e1
    cases e6:innM g2 f (ys.drop (i + 1)) ρ2 with
    | none=>rw [e6] at e1;cases e1
    | some l2=>
     rw [e6] at e1;cases e1
     refine ⟨⟨(ρ2,d),e5⟩,F3,r2,fun v F5 H5 g5 d5=>?_⟩
     have ha3:=g3.hh _ _ ha'
     have fa3:=g3.nw a _ ha' fa'
     have ha5:=g5.hh _ _ ha3
     have fa5:=g5.nw a _ ha3 fa3
     have al:acc'.length < lim:=by
      have h1:=da'.length
      have h2:rs.length=done.length + (dn.length + (l2.length + 1) + rest.length):=by rw [hrs,e2];simp;omega
      rw [List.length_append] at h1
      omega
     have sub5:Same F5 (upd H5 a (.lst (acc'++[v]))):=fun b o e=>by rw [zaw (zal e fa5)];exact g5.fh _ _ e
     refine ⟨acc',ha5,zgJ (Nat.le_of_lt al),ys.length - (i + 1),by omega,hlt,rfl,F5,ρ2,acc'++[v],dn++[d],l2,r2.dats hd2 g5.ff sub5,hd2,ff.trans (g3.ff.trans g5.ff),fun b o ne e=>?_,fun b o e n=>?_,fa5,zas,?_,e6,by rw [e2];simp⟩
     ·rw [zaw ne];exact g5.hh _ _ (g3.hh _ _ (hh b o ne e))
     ·by_cases hb:b=a
      ·rw [hb];exact fa5
      ·exact g5.nw b o (g3.hh _ _ (hh b o hb e)) (g3.nw b o (hh b o hb e) (nw b o e n))
     ·rw [← List.append_assoc];exact (da'.mono (g3.ff.trans g5.ff)).snoc d5
 ·have e:i=ys.length:=by omega
  subst e
  rw [List.drop_length] at e1
  have e1:some []=some left:=e1
  cases e1
  rw [List.append_nil] at e2
  subst e2
  refine .inl ⟨o3,q F' H' acc' (g1.ff.trans ff) (fun b o ne e=>hh b o ne (g1.hh _ _ e)) r'.sub (fun b o e n=>nw b o (g1.hh _ _ e) (g1.nw b o e n)) fa' ha' da'⟩
theorem comp_rd2 {cap:List (Option Nat)}{fi2:En→Option (List D)} {g g2:D→En→Option En}{f:En→Option D} {ρ:En}{ds rs:List D} {σ:St}{H F:Hp} {Q:VK}(hm:outM g fi2 g2 f (st0E cap ρ) ds=some rs) (hz:rs.length≤lim)
  (r:Rel K F H ρ σ) (q:∀ v F' H',Grow F H F' H'→Res K .ow H F' H' (.lst rs) v→Q v H') {J:It}{F1 H1:Hp} (g1:Grow F H F1 H1) (ok:zhh K J F1 ds) :
  zko J (anyG K g) (fun σ H Q=>∃ i:{ q:En×Bool // yesP q.1=some q.2 },rdTp K i.1.1 i.1.2 σ H Q) (taN (anyI K fi2) (anyG K g2) (anyE K f)) (.lst []) cap σ H1 Q:=by
 intro a ha
 refine ⟨fun i m H2=>i≤ds.length∧m=ds.length - i∧∃ F2 acc done left,Grow F H F2 H2∧Same F1 F2∧(∀ b o,H1 b=some o→H2 b=some o)∧F2 a=none∧H2 a=some (.lst acc)∧DatL K F2 done acc∧outM g fi2 g2 f (st0E cap ρ) (ds.drop i)=some left∧rs=done++left,
  ⟨ds.length,Nat.zero_le _,rfl,F1,[],[],rs,⟨g1.ff,g1.hh.trans (zcx ha _),g1.fh.trans (zcx ha _),g1.nw⟩,Same.refl _,fun b o e=>zcx ha _ _ _ e,g1.fh.free ha,zas,DatL.nil,by rw [List.drop_zero];exact hm,rfl⟩,?_⟩
 rintro i m H2 ⟨hi,rfl,F2,acc,done,left,gg,ff,hh,fa,hd,da,e1,e2⟩
 obtain ⟨o1,o2,o3⟩:=ok F2 H2 ff gg.fh
 have haH:H a=none:=g1.hh.free ha
 by_cases hlt:i < ds.length
 ·refine .inr ⟨o1 i hlt,fun x H3 y=>?_⟩
  obtain ⟨F3,g3,d3⟩:=o2 i x H3 _ (List.getElem?_eq_getElem hlt) y
  rw [List.drop_eq_getElem_cons hlt] at e1
  simp only [outM] at e1
  have g23:=gg.trans g3
  have hd3:=g3.hh _ _ hd
  have fa3:=g3.nw a _ hd fa
  cases e3:g ds[i] (st0E cap ρ) with
  | none=>rw [e3] at e1;cases e1
  | some ρ1=>
   simp only [e3,Option.bind_some] at e1
   obtain ⟨hd1,e1⟩:datO ρ1=true∧_:=by
    split at e1
    ·rename_i hz;exact ⟨hz,e1⟩
    ·cases e1
   refine ⟨⟨(st0E cap ρ,ds[i],ρ1),e3⟩,F3,(r.grow g23).inner,d3,fun σ2 r2 _=>?_⟩
   refine ⟨⟨(ρ1,true),rfl⟩,F3,r2,fun F4 H4 g4=>iteT ?_⟩
   cases e4:fi2 ρ1 with
   | none=>rw [e4] at e1;cases e1
   | some ys=>
    simp only [e4,Option.bind_some] at e1
    cases e5:innM g2 f ys ρ1 with
    | none=>rw [e5] at e1;cases e1
    | some l=>
     simp only [e5,Option.bind_some] at e1
     cases e6:outM g fi2 g2 f (st0E cap ρ) (ds.drop (i + 1)) with
     | none=>rw [e6] at e1;cases e1
     | some rest=>
      rw [e6] at e1;cases e1
      have g24:=g23.trans g4
      refine inn_rd e4 e5 (r2.grow g4) hd1 (g4.nw a _ hd3 fa3) (g4.hh _ _ hd3) (da.mono (g3.ff.trans g4.ff)) e2 hz fun F5 H5 acc5 f5 h5 s5 n5 fa5 ha5 da5=>?_
      refine ⟨ds.length - (i + 1),by omega,hlt,rfl,F5,acc5,done++l,rest,⟨g24.ff.trans f5,fun b o e=>?_,s5,fun b o e n=>?_⟩,ff.trans (g3.ff.trans (g4.ff.trans f5)),fun b o e=>?_,fa5,ha5,da5,e6,by rw [e2];simp⟩
      ·exact h5 b o (zal e haH) (g24.hh _ _ e)
      ·exact n5 b o (g24.hh _ _ e) (g24.nw b o e n)
      ·exact h5 b o (zal e ha) (g4.hh _ _ (g3.hh _ _ (hh b o e)))
 ·have e:i=ds.length:=by omega
  subst e
  rw [List.drop_length] at e1
  have e1:some []=some left:=e1
  cases e1
  rw [List.append_nil] at e2
  subst e2
  exact .inl ⟨o3,q _ F2 H2 gg ⟨a,rfl,haH,fa,acc,hd,da⟩⟩
theorem fcomp2 {fi fi2:En→Option (List D)}{g g2:D→En→Option En} {f:En→Option D}(N:List Str) (cap:List (Option Nat)) (cp:Cap X scope N cap) (hc:X.calm=true) (hi:FI K X tg iter fi)
  (hg:∀ C s0 H0 fp,FG K (zaR X N scope (clOf X.env scope.names []) C s0 H0 fp) tg g) (hi2:∀ C s0 H0 fp,FI K (zaR X N scope (clOf X.env scope.names []) C s0 H0 fp) tg2 iter2 fi2) (hg2:∀ C s0 H0 fp,FG K (zaR X N scope (clOf X.env scope.names []) C s0 H0 fp) tg2 g2) (he:∀ C s0 H0 fp,FP K .fz (zaR X N scope (clOf X.env scope.names []) C s0 H0 fp) elt f)
  (S:zbQ X scope:=by exact zbQ.mk') (hs:∀ x,foldedSetIterable iter X.env x=pure x:=by intro _;rfl) (hs2:∀ C s0 H0 fp x,foldedSetIterable iter2 (zaR X N scope (clOf X.env scope.names []) C s0 H0 fp).env x=pure x:=by intro _ _ _ _ _;rfl) (hK:X.K=K:=by rfl) :
  FP K .ow X (lc2 elt tg iter tg2 iter2 scope pos) (zjx cap fi g fi2 g2 f):=FP.mk fun ρ d hf=>by
 subst hK
 obtain ⟨ds,rs,e1,e2,hz,rfl⟩:=zki hf
 refine PE.imp (zmq (ck_nest (elt:=elt) (tg:=tg) (iter:=iter) (tg2:=tg2) (iter2:=iter2) (scope:=scope) (pos:=pos)) N cap cp hc (hi.h ρ ds e1) (fun C s0 H0 fp=>PG.any fun i:{ q:En×D×En // g q.2.1 q.1=some q.2.2 }=>(hg C s0 H0 fp).h _ _ _ i.2) (fun C s0 H0 fp=>PIf.any fun i:{ q:En×Bool // yesP q.1=some q.2 }=>(pif0 (K:=X.K)).h _ _ i.2)
  (fun C s0 H0 fp A=>zmx (Y:=zaR X N scope (clOf X.env scope.names []) C s0 H0 fp) (fun e s z=>z) hc (PI.any fun i:{ q:En×List D // fi2 q.1=some q.2 }=>(hi2 C s0 H0 fp).h _ _ i.2) (PG.any fun i:{ q:En×D×En // g2 q.2.1 q.1=some q.2.2 }=>(hg2 C s0 H0 fp).h _ _ _ i.2) (PE.any fun i:{ q:En×D // f q.1=some q.2 }=>(he C s0 H0 fp).h _ _ i.2) (hs2 C s0 H0 fp) A) S hs rfl (eval_ListComp ..)) fun σ H Q ⟨F,r,q⟩=>?_
 exact ⟨F,r,fun J F1 H1 g1 ok=>comp_rd2 e2 hz r q g1 ok⟩
end
end FL
set_option Elab.async false
set_option linter.all false
set_option maxRecDepth 100000
namespace L2
open PySem PySem.Spec PyProof.Rows
section
variable {X:Cx}
noncomputable def ItEl (K:PySem.W.Frag) (a:Addr):It:=
 ⟨fun i H=>∃ xs x,SqL K H a xs∧xs[i]?=some x,fun i H x H'=>∃ p v,H p=none∧x=.ref p∧H'=upd H p (.tup [.int i,v])∧∀ xs,SqL K H a xs→xs[i]?=some v,fun i H=>∃ xs,SqL K H a xs∧xs.length=i⟩
theorem zle {P:Program}{w:World} {K:PySem.W.Frag}{elts:List Expr} {k:Nat}{tpos:Pos} (a e it:Addr) (hei:e≠it):Turn P w K (.Tuple elts k tpos) (ItEl K a) [e,it] e (fun i h=>(∃ old,IsEnum h e it i old)∧h.IsListIter it a i) where
 mem:=by simp
 obj:=fun i h st b hb=>by
  obtain ⟨⟨old,he⟩,o,e2,c,d⟩:=st
  rcases List.mem_cons.mp hb with rfl | hb
  ·exact ⟨_,he,fun v z=>by cases (show Data.fields _=Data.cell v from z)⟩
  ·rw [List.mem_singleton.mp hb]
   exact ⟨o,e2,fun v z=>by rw [d] at z;cases z⟩
 keep:=fun i h h' st k=>⟨let ⟨old,he⟩:=st.1;⟨old,k e (by simp) _ he⟩,st.2.at fun o e=>k it (by simp) o e⟩
 item:=by
  intro X hP hw hK hc i pins s σ H E I hf st hg
  subst hP hw hK
  obtain ⟨xs,x,hq,hx⟩:=hg
  obtain ⟨its,rv,p,hz⟩:=I.list hq
  replace p:=p.isList
  obtain ⟨u,hu,ru⟩:=rv.get hx
  obtain ⟨⟨old,he⟩,hit⟩:=st
  have fe:=hf e (by simp)
  have fi:=hf it (by simp)
  have hai:a≠it:=by
   rintro rfl
   obtain ⟨o,e1,c1,_⟩:=id hit
   obtain ⟨o',e2,c2,_⟩:=id p
   rw [e1] at e2;cases e2;rw [c1] at c2
   exact absurd c2 (by decide)
  have hae:a≠e:=by
   rintro rfl
   obtain ⟨o',e2,c2,_⟩:=id p
   rw [he] at e2;cases e2
   exact absurd (show Value.type "enumerate" = Value.type "list" from c2) (by decide)
  have hilt:i < its.toArray.size:=by
   have:=(List.getElem?_eq_some_iff.mp hu).1
   simpa using this
  refine wpAny_pyNext_enum_itemD (Draws.list (A:=X.A.in1) (I.ok.hd hc) it a hai its.toArray) he ⟨hit,p⟩ hilt hei (by simp [hei,Ne.symm hae]) fun x' h' tk hP ho hs' hT hsz hk=>?_
  have ex:x'=u:=by
   have:its[i]?=some x':=by simpa using hP
   rw [hu] at this;exact (Option.some.inj this).symm
  subst ex
  refine ⟨_,rfl,?_⟩
  refine wpAny_letOwnedTupleGo_enum ho fun h2 he2 hs2=>?_
  have hTe:s.heap.objs.size≠e:=Nat.ne_of_gt (Heap.lt_size he)
  have hTn:h2.get? s.heap.objs.size=some { cls:=.type "tuple",data:=.seq #[.int i tk,x'] }:=(hs2.2 _ hTe).trans hT
  have kk:∀ b o,b≠e→b≠it→s.heap.get? b=some o→h2.get? b=some o:=fun b o h1 h3 e=>(hs2.2 b h1).trans (hk b o h1 h3 e)
  have hit2:h2.IsListIter it a (i + 1):=hs'.1.at fun o e=>(hs2.2 it (Ne.symm hei)).trans e
  have fr:H s.heap.objs.size=none:=I.fresh
  have nE:∀ b u,H b=some u→b≠e:=fun b u q z=>by rw [z,fe.1] at q;cases q
  have nI:∀ b u,H b=some u→b≠it:=fun b u q z=>by rw [z,fi.1] at q;cases q
  have hok0:HOk X.prog X.w H h2:=fun b u q=>by
   refine (I.hok b u q).stay (fun c v hc q'=>kk c v ?_ ?_ q') (fun _ z=>z) fun _ _ z=>z
   ·rcases hc with z | z
    ·rw [z];exact nE b u q
    ·exact nE c _ z
   ·rcases hc with z | z
    ·rw [z];exact nI b u q
    ·exact nI c _ z
  have new:zcg X.prog X.w (upd H s.heap.objs.size (.tup [.int i,x])) h2 s.heap.objs.size (.tup [.int i,x]):=
   ⟨by show 2≤sizeLine;rw [sizeLine_eq];decide,[.int i tk,x'],.cons ⟨_,rfl⟩ (.cons ru .nil),⟨_,hTn,rfl,_,rfl⟩⟩
  have hok1:HOk X.prog X.w (upd H s.heap.objs.size (.tup [.int i,x])) h2:=fun b u q=>by
   by_cases hb:b=s.heap.objs.size
   ·subst hb;rw [zas] at q;cases q;exact new
   ·rw [zaw hb] at q
    exact (hok0 b u q).stay (fun _ _ _ z=>z) (fun c z=>by rw [zaw (zal z fr)];exact z) fun c xs z=>by rw [zaw (zal z fr)];exact z
  have I1:Inv X pins σ (upd H s.heap.objs.size (.tup [.int i,x])) { s with heap:=h2,toks:=tk + 1 }:=by
   refine I.step (g':=s.gens) (d':=s.drawn) (ch:=[e,it]) (fun b hb=>?_) (fun b o _ _ hcc q _=>kk b o (fun z=>hcc (by simp [z])) (fun z=>hcc (by simp [z])) q) (fun b o _ _ hcc q _=>⟨o.slots,kk b o (fun z=>hcc (by simp [z])) (fun z=>hcc (by simp [z])) q⟩)
    (fun b o _ q n=>by rw [zaw (Nat.ne_of_lt (Heap.lt_size q))];exact n) (fun b o hcc q=>⟨o,kk b o (fun z=>hcc (by simp [z])) (fun z=>hcc (by simp [z])) q⟩) (fun b xs q=>by rw [zaw (zal q fr)];exact q) (fun b o xs q=>by rw [zaw (zal q fr)];exact q)
    (fun b ps q=>⟨#[],by rw [zaw (zal q fr),q];simp⟩) (fun m hm=>?_) hok1 I.bare
   ·rcases List.mem_cons.mp hb with rfl | hb
    ·exact ⟨fe.2.2.2.1,fe.2.1,fe.2.2.2.2.1,fe.2.2.2.2.2⟩
    ·rw [List.mem_singleton.mp hb]
     exact ⟨fi.2.2.2.1,fi.2.1,fi.2.2.2.2.1,fi.2.2.2.2.2⟩
   ·obtain ⟨o,es,ep,ho',r⟩:=hm
    exact ⟨o,es,ep,kk _ o (Ne.symm fe.2.1) (Ne.symm fi.2.1) ho',r⟩
  refine ⟨.ref s.heap.objs.size,_,I1,rfl,⟨s.heap.objs.size,x,fr,rfl,rfl,fun ys hy=>by rw [I.list_inj hy hq];exact hx⟩,⟨⟨x',by simpa using he2⟩,hit2⟩,fun b hb=>?_⟩
  have hbl:b≠s.heap.objs.size:=by
   rcases List.mem_cons.mp hb with rfl | hb
   ·exact Ne.symm hTe
   ·rw [List.mem_singleton.mp hb]
    obtain ⟨o,e1,_⟩:=hit
    exact Nat.ne_of_lt (Heap.lt_size e1)
  rw [zaw hbl]
  exact (hf b hb).1
 done:=by
  intro X hP hw hK hc i pins s σ H E I hf st hg
  subst hP hw hK
  obtain ⟨xs,hq,hx⟩:=hg
  obtain ⟨its,rv,p,hz⟩:=I.list hq
  replace p:=p.isList
  obtain ⟨⟨old,he⟩,hit⟩:=st
  have fi:=hf it (by simp)
  have hai:a≠it:=by
   rintro rfl
   obtain ⟨o,e1,c1,_⟩:=id hit
   obtain ⟨o',e2,c2,_⟩:=id p
   rw [e1] at e2;cases e2;rw [c1] at c2
   exact absurd c2 (by decide)
  have hn:its.toArray.size=i:=by rw [List.size_toArray,← rv.length];exact hx
  refine wpAny_pyNext_enum_endD (Draws.list (A:=X.A.in1) (I.ok.hd hc) it a hai its.toArray) he (by rw [hn];exact ⟨hit,p⟩) fun h' hx'=>⟨rfl,?_⟩
  obtain ⟨f0,f1,f2,f3,f4,f5⟩:=fi
  exact I.turned (t':=s.toks) (fun b o hb e=>hx' b o hb e) f0 f1 f3 f4 f5
 self:=fun A i s Q E st h=>by
  obtain ⟨⟨old,he⟩,_⟩:=st
  exact wpAny_pyIter_enum he h
noncomputable def iEnumL (K:PySem.W.Frag) (ta:TA):TI:=fun σ H R=>ta σ H fun vs H1=>∃ a xs,vs=[.ref a]∧SqL K H1 a xs∧R (ItEl K a) H1
theorem pi_enumL {elts:List Expr}{k:Nat} {tpos p pos:Pos}{a:Expr} {ta:TA}(hg:Gl X "enumerate") (hm:X.mg "enumerate" = none) (ha:PA X [a] ta) (hs:starEach [a] X.env=[(false,eval a X.env)]:=by rfl):PI X (.Tuple elts k tpos) (.Call (.Name "enumerate" p) [a] [] pos) (iEnumL X.K ta):=by
 intro pins s σ H R I h
 refine Call_ (zem I hg hm boot_enumerate (PyProof.Rows.callWith_type1 (thn (ha pos pins s σ H _ I h) fun us s1 ⟨vs,H1,I1,r1,q1⟩=>?_) hs rfl))
 obtain ⟨a,xs,e,hq,q⟩:=q1
 subst e
 obtain ⟨u,rfl,ru⟩:=zeN r1
 cases ru
 obtain ⟨its,rv,p,hz⟩:=I1.list hq
 replace p:=p.isList
 refine call_enumerate_list p fun h' he hit hsz hk=>?_
 have I2:Inv X pins σ H1 { s1 with heap:=h' }:=I1.kept (t':=s1.toks) hk
 refine wpAny_pyIter_enum he ?_
 refine ⟨s1.heap.objs.size + 1,[s1.heap.objs.size + 1,s1.heap.objs.size],_,_,H1,rfl,I2,zle a (s1.heap.objs.size + 1) s1.heap.objs.size (Nat.succ_ne_self _),⟨⟨_,he⟩,hit⟩,fun b hb=>?_,q⟩
 rcases List.mem_cons.mp hb with rfl | hb
 ·exact I1.fpOk (Nat.le_succ _) (I1.hok.fresh (Nat.le_succ _))
 ·rw [List.mem_singleton.mp hb]
  exact I1.fpOk (Nat.le_refl _) (I1.hok.fresh (Nat.le_refl _))
end
end L2
namespace FL
open PySem PySem.Spec PyProof.Rows L2
section
variable {K:PySem.W.Frag}{md:Md} {X:Cx}{f:En→Option D} {pos:Pos}
noncomputable def cEnL (f:En→Option D):En→Option (List D):=fun ρ=>match f ρ with
 | some (.lst l)=>some (zgS 0 l)
 | _=>none
theorem ienumL {elts:List Expr}{k:Nat} {tpos p:Pos}{a:Expr} (h:FP K .fz X a f) (hg:Gl X "enumerate") (hm:X.mg "enumerate" = none) (hs:starEach [a] X.env=[(false,eval a X.env)]:=by rfl) (hK:X.K=K:=by rfl) :
  FI K X (.Tuple elts k tpos) (.Call (.Name "enumerate" p) [a] [] pos) (cEnL f):=FI.mk fun ρ ds hf=>by
 subst hK
 unfold cEnL at hf
 split at hf
 ·rename_i l e1
  cases hf
  refine PI.imp (pi_enumL hg hm (zbk (h.h ρ _ e1) zcM hs) hs) fun σ H R ⟨F,r,q⟩=>⟨F,r,fun v F1 H1 g1 r1=>?_⟩
  obtain ⟨a,vs,rfl,f1,q1⟩:=Dat.lst_inv (K:=X.K) (F:=F1) r1
  refine ⟨a,vs,rfl,SqL.of (g1.fh _ _ f1),q _ F1 H1 g1 fun F2 H2 a2 b2=>?_⟩
  have hs:SqL X.K H2 a vs:=SqL.of (b2 _ _ (a2 _ _ f1))
  have hl:=q1.length
  refine ⟨fun i hi=>?_,fun i x H3 d hd y=>?_,?_⟩
  ·rw [zco] at hi
   exact ⟨vs,vs[i]'(by omega),hs,by simp⟩
  ·obtain ⟨x0,hx0,rfl⟩:=zeu 0 l i d hd
   obtain ⟨pp,vv,hpp,rfl,rfl,hv⟩:=y
   obtain ⟨w,hw,dw⟩:=q1.get hx0
   rw [hv vs hs] at hw;cases hw
   have g:=Grow.frozen (o:=.tup [.int (i:Int),vv]) b2 hpp
   refine ⟨_,g,Dat.tup (K:=X.K) zas ?_⟩
   rw [Nat.zero_add]
   exact DatL.cons (Dat.int (K:=X.K) _) (DatL.cons ((dw.mono a2).mono g.ff) DatL.nil)
  ·rw [zco]
   exact ⟨vs,hs,by omega⟩
 ·cases hf
end
end FL
set_option Elab.async false
set_option linter.all false
set_option maxRecDepth 100000
namespace HD
open PySem PySem.W PySem.Calls PyProof.Rows
noncomputable def bal (S:SharedT→Thread→Option (SharedT×Thread)) (ok:Thread→Bool) (d:Nat):SharedT→Thread→Option (SharedT×Thread):=
 @Nat.rec (fun _=>SharedT→Thread→Option (SharedT×Thread)) (fun s t=>match through t with
  | true=>some (s,t)
  | false=>match ok t with
   | false=>none
   | true=>S s t)
  (fun _ ih s t=>match ih s t with
   | none=>none
   | some (s',t')=>match through t' with
    | true=>some (s',t')
    | false=>ih s' t') d
section
variable {tb:String→Option Builtin}{p:Program} {w:World}{n₀:Nat} {ann:Option Value}
theorem ziK:∀ {n m:Nat}{s s' s2:Shared} {t t' t2:Thread},topGo tb p w n₀ ann n s t=some (s',t')→topGo tb p w n₀ ann m s' t'=some (s2,t2)→topGo tb p w n₀ ann (n + m) s t=some (s2,t2)
 | 0,m,s,s',s2,t,t',t2,h,k=>by
  obtain ⟨rfl,rfl⟩:s=s'∧t=t':=by simpa [topGo] using h
  rw [Nat.zero_add];exact k
 | n + 1,m,s,s',s2,t,t',t2,h,k=>by
  rw [show n + 1 + m=n + m + 1 by omega]
  unfold topGo at h ⊢
  cases ht:through t with
  | true=>rw [ht] at h;cases h
  | false=>
   rw [ht] at h
   cases hk:stepOk n₀ ann t with
   | false=>rw [hk] at h;cases h
   | true=>
    rw [hk] at h
    cases hs:step (denote tb) p w s t with
    | halt o s₂=>rw [hs] at h;cases h
    | go s₂ t₂=>rw [hs] at h;exact ziK h k
theorem znx:∀ (d:Nat) {s s':SharedT}{t t':Thread},bal (stepT (denote tb) p w) (stepOk n₀ ann) d s t=some (s',t')→∃ n,n≤2 ^ d∧topGo tb p w n₀ ann n s.abs t=some (s'.abs,t')
 | 0,s,s',t,t',h=>by
  have h:(match through t with
   | true=>some (s,t)
   | false=>match stepOk n₀ ann t with
    | false=>none
    | true=>stepT (denote tb) p w s t)=some (s',t'):=h
  cases ht:through t with
  | true=>rw [ht] at h;cases h;exact ⟨0,Nat.zero_le _,rfl⟩
  | false=>
   rw [ht] at h
   cases hk:stepOk n₀ ann t with
   | false=>rw [hk] at h;cases h
   | true=>
    rw [hk] at h
    refine ⟨1,by simp,?_⟩
    unfold topGo
    rw [ht,hk,stepT_spec h]
    rfl
 | d + 1,s,s',t,t',h=>by
  have h:(match bal (stepT (denote tb) p w) (stepOk n₀ ann) d s t with
   | none=>none
   | some (s',t')=>match through t' with
    | true=>some (s',t')
    | false=>bal (stepT (denote tb) p w) (stepOk n₀ ann) d s' t')=some (s',t'):=h
  cases e:bal (stepT (denote tb) p w) (stepOk n₀ ann) d s t with
  | none=>rw [e] at h;cases h
  | some r=>
   obtain ⟨s1,t1⟩:=r
   rw [e] at h
   obtain ⟨n,hn,g⟩:=znx d e
   cases ht:through t1 with
   | true=>simp only [ht] at h;cases h;exact ⟨n,by rw [Nat.pow_succ];omega,g⟩
   | false=>
    simp only [ht] at h
    obtain ⟨m,hm,g2⟩:=znx d h
    exact ⟨n + m,by rw [Nat.pow_succ];omega,ziK g g2⟩
theorem bal_run {d:Nat}{s s':SharedT} {t t':Thread}(h:bal (stepT (denote tb) p w) (stepOk n₀ ann) d s t=some (s',t')) (ht:through t'=true) {N:Nat}(hN:2 ^ d + 1≤N) :
  topRun tb p w n₀ ann N s.abs t=some s'.abs:=by
 obtain ⟨n,hn,g⟩:=znx d h
 have k:topRun tb p w n₀ ann 1 s'.abs t'=some s'.abs:=by unfold topRun;rw [ht]
 have r:=topRun_mono (N - (n + 1)) _ _ _ _ (go_top g k)
 rwa [show n + 1 + (N - (n + 1))=N by omega] at r
end
noncomputable def insAll (l:List Obj):Nat→BT→BT:=@List.rec Obj (fun _=>Nat→BT→BT) (fun _ t=>t) (fun o _ ih n t=>ih (n + 1) (t.ins n o)) l
noncomputable def bootT (P:Params):BT:=insAll (boot_heap P).objs.toList 0 .nil
theorem boot_abs (P:Params):absHeap (bootT P) 11 {}=boot_heap P:=by kernel_rfl
theorem zlH (P:Params):((boot_heap P).isNs mainGlobals,(boot_heap P).objs.size,(boot_heap P).nsMap mainGlobals "__annotations__")=(true,11,some (.ref 6)):=by kernel_rfl
section
variable {p q:Program}{loose:List Str} {Xt:Shared→Bool}{α:Type} {Yf:Shared→α}{Ya:World→α} {N d:Nat}
noncomputable def bootS (w:World) (os:OsState):SharedT:=⟨bootT w.params,11,{},⟨[]⟩,boot_drawn,boot_toks,os⟩
noncomputable def looks (p q:Program) (loose:List Str) (Xt:Shared→Bool) (Yf:Shared→α) (sn:Program→List Str→List Str→(Shared→Bool)→Bool→Shared→β) (im:List Stmt→List Str) (w:World) (r:SharedT×Thread):Bool×Bool×β×α:=
 (through r.2,staticsOk (im p.main.body) (boot_heap w.params) r.1.abs.heap && namesBound p r.1.abs.heap && gensDone r.1.abs && laidKept (boot_heap w.params) r.1.abs.heap,sn q loose (im p.main.body) Xt true r.1.abs,Yf r.1.abs)
theorem left_of (e:opening p=plainProg p.main.scope.names) (hN:Nat.ble 600 N=true) (hd:Nat.ble (2 ^ d + 1) N=true) (f:∀ s,fenceModules? p s=some s)
  (h:∀ w:World,(fun os:OsState=>(bal (stepT (denote treeTable) p w) (stepOk 11 (some (.ref 6))) d (bootS w os) (topStub p)).map (looks p q loose Xt Yf openSeen importedModules w))=fun _=>some (true,true,openGood q loose,Ya w)) :
  LeftO p q loose Xt Yf Ya N:=fun w=>by
 obtain ⟨⟨hp,gs,dr,k,os⟩,e1,e2⟩:=Option.map_eq_some_iff.mp (boot_open e hN f w)
 obtain ⟨rfl,rfl,rfl,rfl⟩:hp=boot_heap w.params∧gs=⟨[]⟩∧dr=boot_drawn∧k=boot_toks:=by simpa using e2
 obtain ⟨⟨s,t⟩,b1,b2⟩:=Option.map_eq_some_iff.mp (congrFun (h w) os)
 have l1:=congrArg (fun x=>x.1) b2
 have l2:=congrArg (fun x=>x.2.1) b2
 have l3:=congrArg (fun x=>x.2.2.1) b2
 have l4:=congrArg (fun x=>x.2.2.2) b2
 dsimp only [looks] at l1 l2 l3 l4
 have r:=bal_run b1 l1 (Nat.le_of_ble_eq_true hd)
 have ea:(bootS w os).abs=⟨boot_heap w.params,⟨[]⟩,boot_drawn,boot_toks,os⟩:=by
  show Shared.mk (absHeap (bootT w.params) 11 {}) _ _ _ _=_
  rw [boot_abs];rfl
 rw [ea] at r
 have z:=zlH w.params
 simp only [Prod.mk.injEq] at z
 obtain ⟨z1,z2,z3⟩:=z
 have t':topFrom treeTable p w N ⟨boot_heap w.params,⟨[]⟩,boot_drawn,boot_toks,os⟩=some s.abs:=by
  unfold topFrom
  dsimp only
  rw [z1,z2,z3,r]
  show (match staticsOk (importedModules p.main.body) (boot_heap w.params) s.abs.heap && namesBound p s.abs.heap && gensDone s.abs && laidKept (boot_heap w.params) s.abs.heap with | true=>_ | false=>_)=_
  rw [l2]
 unfold openEnds
 rw [e1]
 show (topFrom treeTable p w N _).map _=_
 rw [t']
 exact congrArg some (Prod.ext l3 l4)
end
end HD
namespace FL
open PySem PySem.Spec PyProof.Rows L2
noncomputable def allIn (h:Heap):PySem.W.Frag:=(List.range h.objs.size).filterMap fun a=>(h.get? a).map fun o=>(a,o)
theorem allIn_in (h:Heap):(allIn h).In h:=by
 intro a o
 unfold allIn
 generalize List.range h.objs.size=l
 induction l with
 | nil=>intro e;cases e
 | cons b l ih=>
  rw [List.filterMap_cons]
  cases e:h.get? b with
  | none=>exact ih
  | some u=>
   intro q
   have q:List.lookup a ((b,u)::List.filterMap (fun a=>Option.map (fun o=>(a,o)) (h.get? a)) l)=some o:=q
   rw [List.lookup_cons] at q
   cases z:a == b with
   | true=>rw [z] at q;cases q;rw [beq_iff_eq.mp z];exact e
   | false=>rw [z] at q;exact ih q
noncomputable abbrev FnT:=Str×Str×Arguments×FuncBody×Scope×Addr×List (Str×Addr)×Value×Addr
noncomputable def fnT (fd:FuncData):FnT:=(fd.name,fd.qualname,fd.params,fd.body,fd.scope,fd.globals,fd.closure,fd.defaults,fd.builtins)
noncomputable def fnv (K:PySem.W.Frag) (n:Str):Option (FnT×Bool):=match PySem.W.nsIn K mainGlobals n with
 | some (some (.ref f))=>(match K.lookup f with
  | some ⟨_,_,.func fd,_⟩=>some (fnT fd,PySem.W.codeIn K fd.code n && PySem.W.keepIn K (.ref f))
  | _=>none)
 | _=>none
noncomputable def stN:Stmt→Str
 | .FunctionDef n ..=>n
 | .ClassDef n ..=>n
 | _=>⟨#[]⟩
noncomputable def fnx (p:Program) (i:Nat):Option (FnT×Bool):=
 let st:=p.main.body.getD i (.Pass ⟨0,0,0,0⟩)
 some (fnT (PySem.W.fnOf (stN st) (stN st) (zkg st) (zfK st) (zar st) .none .none .none .none none .none .none),true)
theorem zmY {K:PySem.W.Frag}{p:Program} {i:Nat}(st:Stmt) (hst:p.main.body.getD i (.Pass ⟨0,0,0,0⟩)=st) {n:Str}(hn:stN st=n) (e:fnv K (stN (p.main.body.getD i (.Pass ⟨0,0,0,0⟩)))=fnx p i) :
  ∃ f fd,PySem.W.nsIn K mainGlobals n=some (some (.ref f))∧Fun K n n st f fd:=by
 subst hst
 unfold fnx at e
 dsimp only at e
 rw [hn] at e
 unfold fnv at e
 split at e
 ·rename_i f e1
  split at e
  ·rename_i oc od fd osl e2
   have e3:=Option.some.inj e
   have e4:=congrArg Prod.fst e3
   have e5:=congrArg Prod.snd e3
   dsimp only at e4 e5
   obtain ⟨c,k⟩:=Bool.and_eq_true_iff.mp e5
   refine ⟨f,fd,e1,⟨oc,od,fd.kwdefaults,fd.doc,fd.pyModule,fd.annotations,fd.code,fd.closureTuple,osl,?_,e2,c⟩,k⟩
   obtain ⟨a1,a2,a3,a4,a5,a6,a7,a8,a9,a10,a11,a12,a13,a14,a15⟩:=fd
   unfold fnT at e4
   simp only [Prod.mk.injEq] at e4
   obtain ⟨rfl,rfl,rfl,rfl,rfl,rfl,rfl,rfl,rfl⟩:=e4
   rfl
  ·cases e
 ·cases e
noncomputable def topS (p:Program) (i:Nat):Stmt:=p.main.body.getD i (.Pass ⟨0,0,0,0⟩)
noncomputable def biN:List Str:=["isinstance", "str", "tuple", "list", "int", "bool", "dict", "len", "range", "enumerate", "sum", "max", "min", "abs", "zip", "reversed", "sorted", "set", "any", "all"]
noncomputable abbrev FaT:=List (Option (FnT×Bool))×List (Option (Option Value))
noncomputable def faV (p:Program) (I:List Nat) (K:PySem.W.Frag):FaT:=(I.map fun i=>fnv K (stN (p.main.body.getD i (.Pass ⟨0,0,0,0⟩))),biN.map fun n=>PySem.W.nsIn K mainGlobals n)
noncomputable def faX (p:Program) (I:List Nat):FaT:=(I.map fun i=>fnx p i,biN.map fun _=>some none)
theorem zmM {α β:Type}{f g:α→β}:∀ {l:List α},l.map f=l.map g→∀ i∈l,f i=g i
 | [],_,_,h=>nomatch h
 | a::l,e,i,h=>by
  injection e with e1 e2
  cases h with
  | head=>exact e1
  | tail _ h=>exact zmM e2 i h
theorem zbC {p:Program}{I:List Nat} {K:PySem.W.Frag}(A:faV p I K=faX p I) (i:Nat) (hi:i∈I) {n:Str}(hn:stN (topS p i)=n) :
  ∃ f fd,PySem.W.nsIn K mainGlobals n=some (some (.ref f))∧Fun K n n (topS p i) f fd:=zmY _ rfl hn (zmM (congrArg Prod.fst A) i hi)
theorem fa_glb {p:Program}{I:List Nat} {K:PySem.W.Frag}{h:Heap} {mg:Str→Option Value}(A:faV p I K=faX p I) (X:K.In h) (G:h.Ns mainGlobals mg):Glb mg:=by
 have z:∀ n∈biN,mg n=none:=fun n hn=>PySem.W.mg_none_of X G (zmM (f:=fun n=>PySem.W.nsIn K mainGlobals n) (g:=fun _=>some none) (congrArg Prod.snd A) n hn)
 simp only [biN,List.forall_mem_cons] at z
 obtain ⟨z1,z2,z3,z4,z5,z6,z7,z8,z9,z10,z11,z12,z13,z14,z15,z16,z17,z18,z19,z20,_⟩:=z
 exact ⟨z1,z2,z3,z4,z5,z6,z7,z8,z9,z10,z11,z12,z13,z14,z15,z16,z17,z18,z19,z20⟩
noncomputable def YP (p:Program) (I:List Nat) (_:World) (h:Heap):Prop:=∃ K:PySem.W.Frag,K.In h∧faV p I K=faX p I
theorem YP.keeps {p:Program}{I:List Nat} (w:World) (h h':Heap) (y:YP p I w h) (k:∀ b o,h.get? b=some o→h'.get? b=some o):YP p I w h':=
 let ⟨K,X,A⟩:=y;⟨K,fun a o e=>k _ _ (X a o e),A⟩
theorem walkE {l:PySem.W.OpenLaw}{k:Nat} {q:Program}{loose:List Str} {XP:(Str→Option Value)→Heap→Prop}{d:DefRec} {x:Str}{m:List D→Option D} {p:Program}{I:List Nat} (hn:l.most=some 63) (hdf:d.params.defaults=[]) (hr:Room k callerA)
  (F:∀ (K:PySem.W.Frag) (w:World) (mg:Str→Option Value) (fa:Addr) (h:Heap),faV p I K=faX p I→K.In h→h.Ns mainGlobals mg→mg d.name=some (.ref fa)→
   ∃ fd:FuncData,(∀ (s:Shared) (u:Value),BindsTo s fd ⟨[u],[]⟩ [(x,u)])∧∀ base:Heap,K.In base→base.Ns mainGlobals mg→FnOk l.prog w K mg base CX0 k fa fd [x] (SpD K .fz m))
  (H:∀ ns:List Int,ns.length≤63→m [.scr ns]=some (.bl true)):PySem.W.WalkO q loose XP (YP p I) l.row.toRowW d [] (fun f vs=>PySem.call f vs):=by
 intro w s0 s1 mg mb G Y
 obtain ⟨K,hK,A⟩:=Y
 exact walkD (K:=fun _=>K) (YP:=fun _ h'=>K.In h') hn hdf hr (fun _ _ z=>z) (fun w mg fa h=>F K w mg fa h A) H w s0 s1 mg mb ⟨G.T,G.B,G.D,G.TE,G.TD,G.W,G.X,G.cls,G.has,G.apart,G.once,G.K⟩ hK
end FL
set_option Elab.async false
set_option linter.all false
set_option maxRecDepth 100000
namespace FL
open PySem PySem.Spec PyProof.Rows L2
noncomputable abbrev zeo (n:Nat):En→Option Fl:=
 (seqM (setM 3 (c2 addD (gb 3) (c2 idxD (gb 1) (c2 modD (c2 divD (gb 2) (cst (.int 7))) (cst (.int 26)))))) (setM 2 (c2 divD (gb 2) (cst (.int 11)))))
noncomputable abbrev zey (n:Nat):En→Option D:=
 (c2 idxD (gb 1) (c2 modD (c2 divD (gb 2) (c2 addD (cst (.int 3)) (c2 mulD (gb 0) (gb 0)))) (cst (.int 26))))
noncomputable abbrev zex (n:Nat):En→Option D:=
 (cS zbi (gb 1) zck (zbV (c2 addD (gb 0) (cst (.int 1)))))
noncomputable abbrev zew (n:Nat):En→Option D:=
 (c2 addD (c2 addD (cS zbi (gb 1) zck (zbV (gv 3))) (c2 idxD (gb 2) (c2 modD (c2 addD (c2 divD (gb 4) (cst (.int 5))) (c2 mulD (cst (.int 5)) (gb 0))) (cst (.int 26))))) (cS zbi (gb 1) (zbV (gv 3)) zck))
noncomputable abbrev zdB (n:Nat):En→Option Fl:=
 (seqM (setM 1 (cst (.str "abcdefghijklmnopqrstuvwxyz"))) (seqM (setM 2 (c2 modD (c2 mulD (gb 0) (cst (.int 1000000007))) (c2 powD (cst (.int 10)) (cst (.int 18))))) (seqM (setM 3 (cst (.str ""))) (seqM (forS (cR1 (c2 modD (gb 2) (cst (.int 7)))) (gN 4) (zeo n)) (seqM (setM 5 (c2 modD (c2 divD (gb 2) (cst (.int 7))) (c2 addD (cL lenD (zaa (gb 3) nilF)) (cst (.int 1))))) (seqM (ifM (upT (cT (c2 eqB (c2 modD (gb 2) (cst (.int 3))) (cst (.int 0))))) (seqM (setM 3 (c2 joinD (cst (.str "")) (zcq [none,some 1,some 2] (cR1 (cst (.int 6))) (gN 0) yesP (zey n)))) (retM (zcq [none,some 3] (cR1 (cst (.int 5))) (gN 0) yesP (zex n)))) nxM) (retM (zcq [none,some 3,some 1,some 5,some 2] (cR1 (cst (.int 5))) (gN 0) yesP (zew n)))))))))
noncomputable def zaL:List D→Option D:=runF (zdB  FUEL) 1 6
noncomputable abbrev zez (zaL:List D→Option D) (n:Nat):En→Option D:=
 (cL zbL (zaa (c2 idxD (gb 1) (gb 0)) (zaa (c2 idxD (gb 2) (gb 0)) nilF)))
noncomputable abbrev zdD (zaL:List D→Option D) (n:Nat):En→Option Fl:=
 (seqM (setM 1 (cL zaL (zaa (gv 0) nilF))) (seqM (setM 2 (c2 idxD (cL zbs (zaa (cL zbs (zaa (cst (.int 0)) (zaa (cst (.int 2)) (zaa (cst (.int 1)) (zaa (cst (.int 0)) (zaa (cst (.int 3)) nilF)))))) (zaa (cL zbs (zaa (cst (.int 0)) (zaa (cst (.int 1)) (zaa (cst (.int 2)) (zaa (cst (.int 2)) (zaa (cst (.int 0)) nilF)))))) (zaa (cL zbs (zaa (cst (.int 0)) (zaa (cst (.int 3)) (zaa (cst (.int 1)) (zaa (cst (.int 1)) (zaa (cst (.int 0)) nilF)))))) (zaa (cL zbs (zaa (cst (.int 0)) (zaa (cst (.int 2)) (zaa (cst (.int 0)) (zaa (cst (.int 1)) (zaa (cst (.int 1)) nilF)))))) nilF))))) (c2 modD (c2 divD (gb 0) (cst (.int 3))) (cst (.int 4))))) (seqM (setM 3 (c2 addD (cst (.int 2)) (c2 modD (c2 divD (gb 0) (cst (.int 12))) (cst (.int 4))))) (retM (zcq [none,some 1,some 2] (cR1 (gv 3)) (gN 0) yesP (zez zaL n))))))
noncomputable def zaG:List D→Option D:=runF (zdD zaL FUEL) 1 4
noncomputable abbrev zdS (n:Nat):En→Option D:=
 (c2 idxD (gb 1) (c2 modD (c2 addD (c2 modD (gb 2) (cst (.int 26))) (c2 mulD (cst (.int 7)) (gb 0))) (cst (.int 26))))
noncomputable abbrev zdk (n:Nat):En→Option Fl:=
 (seqM (setM 1 (cst (.str "ABCDEFGHIJKLMNOPQRSTUVWXYZ"))) (retM (zcq [none,some 1,some 0] (cR1 (c2 addD (cst (.int 1)) (c2 modD (c2 divD (gb 0) (cst (.int 26))) (cst (.int 4))))) (gN 0) yesP (zdS n))))
noncomputable def zaC:List D→Option D:=runF (zdk  FUEL) 1 2
noncomputable abbrev zek (n:Nat):En→Option Fl:=
 (seqM (ifM (upT (cT (c2 ltD (gb 1) (cL lenD (zaa (gb 0) nilF))))) (retM (c2 idxD (gb 0) (gb 1))) nxM) (retM (cst (.int 0))))
noncomputable def zaD:List D→Option D:=runF (zek  FUEL) 2 2
noncomputable abbrev zeB (n:Nat):En→Option D:=
 (c2 idxD (gb 0) (cst (.int 1)))
noncomputable abbrev zeA (n:Nat):En→Option D:=
 (c2 idxD (gb 0) (cst (.int 0)))
noncomputable abbrev zdF (n:Nat):En→Option Fl:=
 (seqM (asgM (c2 idxD (gb 2) (c2 modD (gb 1) (cL lenD (zaa (gb 2) nilF)))) (gTup (zaY (gN 5) (zaY (gN 6) gNil)))) (seqM (setM 1 (c2 divD (gb 1) (cst (.int 20)))) (seqM (setM 7 (cS zbi (gb 0) (zbV (c2 subD (cL lenD (zaa (gb 0) nilF)) (gb 6))) zck)) (seqM (setM 8 (c2 zgG (zcq [none] (cI (gv 7)) (gN 0) yesP (zeB n)) (cst (.int 0)))) (seqM (ifM (upT (andP (cT (c2 gtD (gb 6) (cst (.int 0)))) (andP (cT (c2 leD (gb 6) (cL lenD (zaa (gb 0) nilF)))) (andP (cT (c2 ltD (gb 8) (gb 4))) (cT (c2 gtD (c2 modD (gb 1) (cst (.int 4))) (cst (.int 0)))))))) (retM (c2 catD (cS zbi (gb 0) zck (zbV (c2 subD (cL lenD (zaa (gb 0) nilF)) (gb 6)))) (cL zbs (zaa (cL zbs (zaa (c2 addD (cL zbL (zaa (gv 5) nilF)) (cL zdm (zaa (zcq [none] (cI (gv 7)) (gN 0) yesP (zeA n)) nilF))) (zaa (c2 addD (gb 8) (cst (.int 1))) nilF))) nilF)))) nxM) (seqM (ifM (upT (orP (cT (c2 eqB (gb 3) (cL zbs nilF))) (cT (c2 eqB (c2 modD (c2 divD (gb 1) (cst (.int 4))) (cst (.int 3))) (cst (.int 0)))))) (retM (c2 catD (gb 0) (cL zbs (zaa (cL zbs (zaa (cL zbL (zaa (c2 idxD (c2 idxD (gb 2) (cst (.int 0))) (cst (.int 0))) nilF)) (zaa (cst (.int 1)) nilF))) nilF)))) nxM) (retM (c2 catD (gb 0) (cL zbs (zaa (cL zbs (zaa (c2 idxD (gb 3) (c2 modD (c2 divD (gb 1) (cst (.int 12))) (cL lenD (zaa (gb 3) nilF)))) (zaa (cst (.int 1)) nilF))) nilF))))))))))
noncomputable def zan:List D→Option D:=runF (zdF  FUEL) 5 9
noncomputable abbrev zfV (m__law_count:List D→Option D) (n:Nat):En→Option D:=
 (cL m__law_count (zaa (gv 0) nilF))
noncomputable abbrev zfG (m__law_count:List D→Option D) (n:Nat):En→Option Fl:=
 (seqM (ifM (upT (cT (c1 (isiD "str") (gb 0)))) (retM (cst (.int 1))) nxM) (retM (c2 addD (cst (.int 1)) (cL sumD (zaa (zcq [none] (cI (cS zbi (gb 0) (zbV (cst (.int 1))) zck)) (gN 0) yesP (zfV m__law_count n)) nilF)))))
noncomputable def zbY:Nat→List D→Option D
 | 0=>fun _=>none
 | n + 1=>runF (zfG (zbY n) FUEL) 1 1
noncomputable def zcm:List D→Option D:=zbY 100
noncomputable abbrev zfd (n:Nat):En→Option Fl:=
 (retM (c1 (isiD "str") (gb 0)))
noncomputable def zad:List D→Option D:=runF (zfd  FUEL) 1 1
noncomputable abbrev zdg (zad:List D→Option D) (n:Nat):En→Option Fl:=
 (seqM (ifM (upT (cT (cL zad (zaa (gv 0) nilF)))) (retM (cL zbL nilF)) nxM) (retM (cS zbi (gb 0) (zbV (cst (.int 1))) zck)))
noncomputable def zam:List D→Option D:=runF (zdg zad FUEL) 1 1
noncomputable abbrev zfN (zam:List D→Option D) (n:Nat):En→Option D:=
 (cL zbL (zaa (c2 addD (gb 2) (cL zbL (zaa (gv 0) nilF))) (zaa (gv 1) nilF)))
noncomputable abbrev zds (zam:List D→Option D) (n:Nat):En→Option Fl:=
 (seqM (asgX (popM 2) (gTup (zaY (gN 3) (zaY (gN 4) gNil)))) (seqM (zdK (appM 1 (cL zbL (zaa (gv 3) (zaa (gv 4) nilF))))) (seqM (setM 5 (zcq [none,none,some 3] (cEnT (cL zam (zaa (gv 4) nilF))) (gTup (zaY (gN 0) (zaY (gN 1) gNil))) yesP (zfN zam n))) (zdK (extM 2 (c2 revX (gb 5) (c1 negD (cst (.int 1)))))))))
noncomputable abbrev zcO (zam:List D→Option D) (n:Nat):En→Option Fl:=
 (seqM (setO 1 (cL zbs nilF)) (seqM (setO 2 (cL zbs (zaa (cL zbL (zaa (cL zbL nilF) (zaa (gv 0) nilF))) nilF))) (seqM (zcE (upT (cTr (gb 2))) (zds zam n) n) (retO 1))))
noncomputable def zag:List D→Option D:=runF (zcO zam FUEL) 1 6
end FL
set_option Elab.async false
set_option linter.all false
set_option maxRecDepth 100000
namespace FL
open PySem PySem.Spec PyProof.Rows L2
theorem zkM {g:D→En→Option En}{b:En→Option Fl} (I:Nat→En→Prop):∀ (xs:List D) (k:Nat) (ρ:En),I k ρ→
  (∀ (i:Nat) x ρ,xs[i]?=some x→I (k + i) ρ→∃ ρ1 ρ2,g x ρ=some ρ1∧(b ρ1=some (.nx ρ2)∨b ρ1=some (.ct ρ2))∧I (k + i + 1) ρ2)→∃ ρ',forM g b xs ρ=some (.nx ρ')∧I (k + xs.length) ρ'
 | [],k,ρ,h,_=>⟨ρ,rfl,h⟩
 | x::xs,k,ρ,h,hs=>by
  obtain ⟨ρ1,ρ2,e1,e2,h2⟩:=hs 0 x ρ rfl h
  obtain ⟨ρ',e3,h3⟩:=zkM I xs (k + 1) ρ2 h2 fun i y σ hy hi=>by
   have:=hs (i + 1) y σ (by simpa using hy) (by rw [show k + (i + 1)=k + 1 + i by omega];exact hi)
   rw [show k + (i + 1) + 1=k + 1 + i + 1 by omega] at this
   exact this
  refine ⟨ρ',?_,by rw [List.length_cons,show k + (xs.length + 1)=k + 1 + xs.length by omega];exact h3⟩
  simp only [forM,e1]
  rcases e2 with e2 | e2<;>(rw [e2];exact e3)
theorem for_inv {g:D→En→Option En}{b:En→Option Fl} {xs:List D}{ρ:En} (I:Nat→En→Prop) (h0:I 0 ρ)
  (hs:∀ (i:Nat) x ρ,xs[i]?=some x→I i ρ→∃ ρ1 ρ2,g x ρ=some ρ1∧(b ρ1=some (.nx ρ2)∨b ρ1=some (.ct ρ2))∧I (i + 1) ρ2):∃ ρ',forM g b xs ρ=some (.nx ρ')∧I xs.length ρ':=by
 have:=zkM (g:=g) (b:=b) I xs 0 ρ h0 fun i x σ hx hi=>by
  rw [Nat.zero_add] at hi ⊢
  exact hs i x σ hx hi
 rw [Nat.zero_add] at this
 exact this
theorem zcn {g:D→En→Option En}{b:En→Option Fl} {xs:List D}{ρ:En} (I:Nat→En→Prop) (h0:I 0 ρ)
  (hs:∀ (i:Nat) x ρ,xs[i]?=some x→I i ρ→∃ ρ2,((g x ρ).bind b=some (.nx ρ2)∨(g x ρ).bind b=some (.ct ρ2))∧I (i + 1) ρ2):∃ ρ',forM g b xs ρ=some (.nx ρ')∧I xs.length ρ':=
 for_inv I h0 fun i x ρ hx hi=>by
  obtain ⟨ρ2,e,h⟩:=hs i x ρ hx hi
  cases e1:g x ρ with
  | none=>rw [e1] at e;rcases e with e | e<;>cases e
  | some ρ1=>rw [e1] at e;exact ⟨ρ1,ρ2,rfl,e,h⟩
theorem ziJ {t:En→Option (Bool×En)}{b:En→Option Fl} (I:Nat→En→Prop) (Post:En→Prop)
  (hs:∀ m ρ,I m ρ→(∃ ρ1,t ρ=some (false,ρ1)∧Post ρ1)∨(∃ ρ1 ρ2 m',t ρ=some (true,ρ1)∧(b ρ1=some (.nx ρ2)∨b ρ1=some (.ct ρ2))∧m' < m∧I m' ρ2)) :
  ∀ (n m:Nat) (ρ:En),I m ρ→m < n→∃ ρ',zcE t b n ρ=some (.nx ρ')∧Post ρ'
 | 0,_,_,_,h=>absurd h (Nat.not_lt_zero _)
 | n + 1,m,ρ,h,hn=>by
  rcases hs m ρ h with ⟨ρ1,e,p⟩ | ⟨ρ1,ρ2,m',e,e2,hm,h2⟩
  ·exact ⟨ρ1,by simp only [zcE,e],p⟩
  ·obtain ⟨ρ',e3,p⟩:=ziJ I Post hs n m' ρ2 h2 (by omega)
   refine ⟨ρ',?_,p⟩
   simp only [zcE,e]
   rcases e2 with e2 | e2<;>(rw [e2];exact e3)
theorem zhz {t:En→Option (Bool×En)}{b:En→Option Fl} (I:Nat→En→Prop) (Post:Fl→Prop)
  (hs:∀ m ρ,I m ρ→(∃ ρ1,t ρ=some (false,ρ1)∧Post (.nx ρ1))∨(∃ ρ1 ρ2 m',t ρ=some (true,ρ1)∧(b ρ1=some (.nx ρ2)∨b ρ1=some (.ct ρ2))∧m' < m∧I m' ρ2)∨(∃ ρ1 d ρ2,t ρ=some (true,ρ1)∧b ρ1=some (.rt d ρ2)∧Post (.rt d ρ2))) :
  ∀ (n m:Nat) (ρ:En),I m ρ→m < n→∃ fl,zcE t b n ρ=some fl∧Post fl
 | 0,_,_,_,h=>absurd h (Nat.not_lt_zero _)
 | n + 1,m,ρ,h,hn=>by
  rcases hs m ρ h with ⟨ρ1,e,p⟩ | ⟨ρ1,ρ2,m',e,e2,hm,h2⟩ | ⟨ρ1,d,ρ2,e,e2,p⟩
  ·exact ⟨_,by simp only [zcE,e],p⟩
  ·obtain ⟨ρ',e3,p⟩:=zhz I Post hs n m' ρ2 h2 (by omega)
   refine ⟨ρ',?_,p⟩
   simp only [zcE,e]
   rcases e2 with e2 | e2<;>(rw [e2];exact e3)
  ·exact ⟨_,by simp only [zcE,e,e2],p⟩
theorem zcH {g:D→En→Option En}{t:En→Option Bool} {f:En→Option D}{ρ:En}:∀ {xs ys:List D},xs.length=ys.length→(∀ (i:Nat) x y,xs[i]?=some x→ys[i]?=some y→∃ ρ1,g x ρ=some ρ1∧t ρ1=some true∧f ρ1=some y)→zcp g t f ρ xs=some ys
 | [],[],_,_=>rfl
 | [],_::_,h,_=>by simp at h
 | _::_,[],h,_=>by simp at h
 | x::xs,y::ys,h,k=>by
  obtain ⟨ρ1,e1,e2,e3⟩:=k 0 x y rfl rfl
  have:=zcH (g:=g) (t:=t) (f:=f) (ρ:=ρ) (xs:=xs) (ys:=ys) (by simpa using h) fun i a b ha hb=>k (i + 1) a b (by simpa using ha) (by simpa using hb)
  simp [zcp,e1,e2,e3,this]
theorem zhb {g:D→En→Option En}{t:En→Option Bool} {f:En→Option D}{ρ:En} {φ:D→D}{p:D→Bool}:∀ {xs:List D},(∀ x∈xs,∃ ρ1,g x ρ=some ρ1∧t ρ1=some (p x)∧(p x=true→f ρ1=some (φ x)))→zcp g t f ρ xs=some ((xs.filter p).map φ)
 | [],_=>rfl
 | x::xs,k=>by
  obtain ⟨ρ1,e1,e2,e3⟩:=k x List.mem_cons_self
  have:=zhb (g:=g) (t:=t) (f:=f) (ρ:=ρ) (xs:=xs) fun y hy=>k y (List.mem_cons_of_mem _ hy)
  cases hp:p x with
  | true=>simp [zcp,e1,e2,hp,e3 hp,this,List.filter_cons]
  | false=>simp [zcp,e1,e2,hp,this,List.filter_cons]
theorem zbn {lo:Int}{n i:Nat} {d:D}(h:(zaU lo n)[i]?=some d):i < n∧d=.int (lo + (i:Int)):=by
 unfold zaU at h
 rw [List.getElem?_map] at h
 cases e:(List.range n)[i]? with
 | none=>rw [e] at h;cases h
 | some k=>
  rw [e] at h
  have h1:=List.getElem?_eq_some_iff.mp e
  have h2:=h1.2
  simp at h2
  subst h2
  exact ⟨by simpa using h1.1,(Option.some.inj h).symm⟩
theorem zau (lo:Int) (n:Nat):(zaU lo n).length=n:=by simp [zaU]
theorem at0 {α:Type}(a:α) (l:List α):atI (a::l) 0=some a:=zbT (j:=0) rfl
theorem at1 {α:Type}(a b:α) (l:List α):atI (a::b::l) 1=some b:=zbT (j:=1) rfl
theorem at2 {α:Type}(a b c:α) (l:List α):atI (a::b::c::l) 2=some c:=zbT (j:=2) rfl
theorem at3 {α:Type}(a b c d:α) (l:List α):atI (a::b::c::d::l) 3=some d:=zbT (j:=3) rfl
local macro_rules | `(tactic| simp! [$xs,*] $[$loc]?)=>`(tactic| simp [$xs,*,runF,zby,seqM,setM,setO,zgy,asgM,asgX,zgX,zdK,retM,retO,retN,ifM,upT,cT,cTr,truD,andP,orP,notP,andV,orV,notV,c1,c2,cL,cS,zaa,nilF,cst,gv,gb,gN,gNil,zaY,gTup,zck,zbV,zcq,yesP,cI,cR1,cR2,cEnT,forS,itS,rng1,rng2,appM,extM,popM,zea,zbL,zbs,nxM,isiD,tyN,isiB,lim,bors,st0E,negD,revX,revD,zdm,zgH,lenD,idxD,zbi,zfP,addD,catD,subD,mulD,divD,modD,powD,cmpI,geD,isB,zes,isNon,absD,intD,runX,zdn,zcr,retX,putM,zfA,keyD,frzM,c3,zfZ,zjt,zjs,cSg,zfY,itS,Sl.inn,Sl.own,zgG,eqB,neB,inB,zdM,zcN,zed,zda,zcZ,zcY,zaZ,at0,at1,at2,at3] $[$loc]?)
local macro_rules | `(tactic| dsimp! [$xs,*] $[$loc]?)=>`(tactic| simp [$xs,*,runF,zby,seqM,setM,setO,asgM,asgX,zgX,zdK,retM,retO,retN,ifM,upT,cT,cTr,truD,andP,orP,notP,andV,orV,notV,c1,c2,cL,cS,zaa,nilF,cst,gv,gb,gN,gNil,zaY,gTup,zck,zbV,zcq,yesP,cI,cR1,cR2,cEnT,forS,itS,rng1,rng2,appM,extM,popM,zea,zbL,zbs,nxM,isiD,tyN,isiB,lim,bors,st0E,negD,revX,revD,zdm,zgH,lenD,idxD,zbi,zfP,addD,catD,subD,mulD,divD,modD,powD,cmpI,geD,isB,zes,isNon,absD,intD,runX,zdn,zcr,retX,putM,zfA,keyD,frzM,c3,zfZ,zjt,zjs,cSg,zfY,itS,Sl.inn,Sl.own,zgG,inB,zdM,zcN,zed,zda,zcZ,zcY,zaZ,at0,at1,at2,at3] $[$loc]?)
inductive T where
 | bl (x:Str) | nd (s:Str) (ts:List T)
mutual
noncomputable def T.d:T→D
 | .bl x=>.str x
 | .nd s ts=>.tup (.str s::T.ds ts)
noncomputable def T.ds:List T→List D
 | []=>[]
 | t::r=>t.d::T.ds r
end
theorem ds_eq:∀ ts:List T,T.ds ts=ts.map T.d
 | []=>by simp [T.ds]
 | t::r=>by rw [T.ds,ds_eq r,List.map_cons]
theorem d_nd (s:Str) (ts:List T):(T.nd s ts).d=.tup (.str s::ts.map T.d):=by rw [T.d,ds_eq]
theorem d_bl (x:Str):(T.bl x).d=.str x:=by rw [T.d]
mutual
noncomputable def T.size:T→Nat
 | .bl _=>1
 | .nd _ ts=>1 + T.sizes ts
noncomputable def T.sizes:List T→Nat
 | []=>0
 | t::r=>t.size + T.sizes r
end
mutual
noncomputable def T.depth:T→Nat
 | .bl _=>1
 | .nd _ ts=>1 + T.depths ts
noncomputable def T.depths:List T→Nat
 | []=>0
 | t::r=>max t.depth (T.depths r)
end
noncomputable def T.isBl:T→Bool
 | .bl _=>true
 | .nd _ _=>false
noncomputable def T.kids:T→List T
 | .bl _=>[]
 | .nd _ ts=>ts
theorem zgl (t:T):t.size=1 + T.sizes t.kids:=by cases t<;>simp [T.size,T.kids,T.sizes]
theorem zch (t:T):0 < t.size:=by rw [zgl];omega
theorem zaW:∀ a b:List T,T.sizes (a++b)=T.sizes a + T.sizes b
 | [],b=>by simp [T.sizes]
 | t::a,b=>by simp only [List.cons_append,T.sizes,zaW a b];omega
theorem zbq:∀ a:List T,a.length≤T.sizes a
 | []=>by simp
 | t::a=>by have:=zch t;have:=zbq a;simp only [List.length_cons,T.sizes];omega
theorem zbu:∀ {ts:List T}{t:T},t∈ts→t.depth≤T.depths ts
 | _::_,_,h=>by
  rcases List.mem_cons.mp h with rfl | h
  ·rw [T.depths];exact Nat.le_max_left _ _
  ·rw [T.depths];exact Nat.le_trans (zbu h) (Nat.le_max_right _ _)
theorem zbw:∀ {ts:List T}{t:T},t∈ts→t.size≤T.sizes ts
 | _::_,_,h=>by
  rcases List.mem_cons.mp h with rfl | h
  ·rw [T.sizes];omega
  ·rw [T.sizes];have:=zbw h;omega
theorem zdu (t:T):0 < t.depth:=by cases t<;>simp [T.depth]<;>omega
mutual
theorem zlF:∀ t:T,dep t.d≤t.depth + 1
 | .bl x=>by simp [T.d,dep]
 | .nd s ts=>by
  have:=znj ts
  simp only [T.d,dep,depL,T.depth]
  omega
theorem znj:∀ ts:List T,depL (T.ds ts)≤T.depths ts + 1
 | []=>by simp [T.ds,depL]
 | t::r=>by
  have h1:=zlF t
  have h2:=znj r
  simp only [T.ds,depL,T.depths]
  omega
end
noncomputable def idx (p:List Int):Nat→List T→List (List Int×T)
 | _,[]=>[]
 | k,t::r=>(p++[(k:Int)],t)::idx p (k + 1) r
mutual
noncomputable def zaq (p:List Int):T→List (List Int×T)
 | .bl x=>[(p,.bl x)]
 | .nd s ts=>(p,.nd s ts)::zbj p 0 ts
noncomputable def zbj (p:List Int) (k:Nat):List T→List (List Int×T)
 | []=>[]
 | t::r=>zaq (p++[(k:Int)]) t++zbj p (k + 1) r
end
theorem zgt (p:List Int) (t:T):zaq p t=(p,t)::zbj p 0 t.kids:=by cases t<;>simp [zaq,T.kids,zbj]
noncomputable def flat (ws:List (List Int×T)):List (List Int×T):=ws.flatMap fun q=>zaq q.1 q.2
theorem zkP (p:List Int):∀ (k:Nat) (ts:List T),flat (idx p k ts)=zbj p k ts
 | _,[]=>by simp [idx,flat,zbj]
 | k,t::r=>by
  have:=zkP p (k + 1) r
  unfold flat at this
  simp only [idx,flat,zbj,List.flatMap_cons,this]
theorem zgP (a b:List (List Int×T)):flat (a++b)=flat a++flat b:=by simp [flat]
theorem zir (p:List Int):∀ (k:Nat) (ts:List T),(idx p k ts).length=ts.length
 | _,[]=>rfl
 | k,t::r=>by simp [idx,zir p (k + 1) r]
noncomputable def zdw (ws:List (List Int×T)):Nat:=T.sizes (ws.map (·.2))
theorem zmU (p:List Int):∀ (k:Nat) (ts:List T),(idx p k ts).map (·.2)=ts
 | _,[]=>rfl
 | k,t::r=>by simp [idx,zmU p (k + 1) r]
theorem zfm:∀ a:List T,T.sizes a.reverse=T.sizes a
 | []=>rfl
 | t::a=>by rw [List.reverse_cons,zaW,zfm a];simp only [T.sizes];omega
mutual
theorem zdp (p:List Int):∀ t:T,(zaq p t).length=t.size
 | .bl x=>by simp [zaq,T.size]
 | .nd s ts=>by simp [zaq,T.size,zgu p 0 ts];omega
theorem zgu (p:List Int):∀ (k:Nat) (ts:List T),(zbj p k ts).length=T.sizes ts
 | _,[]=>by simp [zbj,T.sizes]
 | k,t::r=>by simp [zbj,T.sizes,zdp (p++[(k:Int)]) t,zgu p (k + 1) r]
end
noncomputable def zaF:T→List Int→Option T
 | t,[]=>some t
 | .bl _,_::_=>none
 | .nd _ ts,k::r=>if 0≤k then (match ts[k.toNat]? with | some t=>zaF t r | none=>none) else none
theorem zcj:∀ (p q:List Int) (t u:T),zaF t p=some u→zaF t (p++q)=zaF u q
 | [],q,t,u,h=>by simp [zaF] at h;subst h;rfl
 | k::p,q,.bl _,u,h=>by simp [zaF] at h
 | k::p,q,.nd s ts,u,h=>by
  simp only [List.cons_append,zaF] at h ⊢
  split at h
  ·rename_i h0
   rw [if_pos h0]
   cases e:ts[k.toNat]? with
   | none=>rw [e] at h;cases h
   | some t'=>rw [e] at h;simp only at h ⊢;exact zcj p q t' u h
  ·cases h
mutual
theorem ziV (t0:T) (p:List Int):∀ t:T,zaF t0 p=some t→∀ q∈zaq p t,zaF t0 q.1=some q.2
 | .bl x,h,q,hq=>by
  simp only [zaq,List.mem_singleton] at hq
  subst hq;exact h
 | .nd s ts,h,q,hq=>by
  simp only [zaq,List.mem_cons] at hq
  rcases hq with rfl | hq
  ·exact h
  ·refine zhE t0 p 0 ts (fun i t hi=>?_) q hq
   rw [zcj p _ t0 _ h]
   have:(0:Int)≤((0 + i:Nat):Int):=by omega
   simp only [zaF,if_pos this]
   rw [Int.toNat_natCast,Nat.zero_add,hi]
theorem zhE (t0:T) (p:List Int):∀ (k:Nat) (ts:List T),(∀ i t,ts[i]?=some t→zaF t0 (p++[((k + i:Nat):Int)])=some t)→∀ q∈zbj p k ts,zaF t0 q.1=some q.2
 | _,[],_,q,hq=>by simp [zbj] at hq
 | k,t::r,h,q,hq=>by
  simp only [zbj,List.mem_append] at hq
  rcases hq with hq | hq
  ·exact ziV t0 (p++[(k:Int)]) t (by have:=h 0 t rfl;simpa using this) q hq
  ·refine zhE t0 p (k + 1) r (fun i t' hi=>?_) q hq
   have:=h (i + 1) t' (by simpa using hi)
   rw [show k + 1 + i=k + (i + 1) by omega];exact this
end
mutual
theorem zgq (p:List Int):∀ t:T,∀ q∈zaq p t,q.1.length < p.length + t.size
 | .bl x,q,hq=>by simp only [zaq,List.mem_singleton] at hq;subst hq;simp [T.size]
 | .nd s ts,q,hq=>by
  simp only [zaq,List.mem_cons] at hq
  rcases hq with rfl | hq
  ·have:=zch (.nd s ts);simp only;omega
  ·have:=zfS p 0 ts q hq
   simp only [T.size];omega
theorem zfS (p:List Int):∀ (k:Nat) (ts:List T),∀ q∈zbj p k ts,q.1.length < p.length + 1 + T.sizes ts
 | _,[],q,hq=>by simp [zbj] at hq
 | k,t::r,q,hq=>by
  simp only [zbj,List.mem_append] at hq
  rcases hq with hq | hq
  ·have:=zgq (p++[(k:Int)]) t q hq
   rw [List.length_append,List.length_singleton] at this
   simp only [T.sizes];omega
  ·have:=zfS p (k + 1) r q hq
   simp only [T.sizes];omega
end
noncomputable def pd (q:List Int×T):D:=.tup [.tup (q.1.map D.int),q.2.d]
theorem zbA (t:T):zad [t.d]=some (.bl t.isBl):=by
 cases t<;>simp! [zad,T.d,T.isBl]
theorem cut1 {α:Type}(a:α) (l:List α):cutG (a::l) (some 1) none=l:=by
 simp [cutG,HT.sIx]
theorem zdJ (t:T):zam [t.d]=some (.tup (t.kids.map T.d)):=by
 cases t with
 | bl x=>simp! [zam,zbA,T.isBl,T.kids]
 | nd s ts=>
  simp! [zam,zbA,T.isBl,T.kids]
  simp [d_nd,cut1]
theorem zdU (a b:List (List Int×T)):zdw (a++b)=zdw a + zdw b:=by simp [zdw,zaW]
theorem zfi (a:List (List Int×T)):zdw a.reverse=zdw a:=by unfold zdw;rw [List.map_reverse,zfm]
theorem zlP (p:List Int) (k:Nat) (ts:List T):zdw (idx p k ts)=T.sizes ts:=by unfold zdw;rw [zmU]
theorem zkO:∀ l:List (List Int×T),l.length≤(flat l).length
 | []=>by simp [flat]
 | a::l=>by
  have:=zch a.2
  have:=zkO l
  have e5:flat (a::l)=zaq a.1 a.2++flat l:=by simp [flat]
  rw [e5,List.length_append,zdp,List.length_cons];omega
theorem zgO:∀ l:List (List Int×T),(flat l).length=zdw l
 | []=>by simp [flat,zdw,T.sizes]
 | a::l=>by
  have e5:flat (a::l)=zaq a.1 a.2++flat l:=by simp [flat]
  have:=zgO l
  rw [e5,List.length_append,zdp,this];simp [zdw,T.sizes]
theorem zmV (p:List Int):∀ (k:Nat) (ts:List T) (i:Nat) (q:List Int×T),(idx p k ts)[i]?=some q→∃ t,ts[i]?=some t∧q=(p++[((k + i:Nat):Int)],t)
 | _,[],i,q,h=>by simp [idx] at h
 | k,t::r,0,q,h=>by simp [idx] at h;exact ⟨t,rfl,by rw [← h];simp⟩
 | k,t::r,i + 1,q,h=>by
  obtain ⟨u,h1,h2⟩:=zmV p (k + 1) r i q (by simpa [idx] using h)
  exact ⟨u,by simpa using h1,by rw [h2,show k + 1 + i=k + (i + 1) by omega]⟩
theorem zlx (p:List Int) (t x:D) (y z u:Option Sl) (ks:List T) (hp:p.length≤999999) :
  zcp (gTup (zaY (gN 0) (zaY (gN 1) gNil))) yesP (cL zbL (zaa (c2 addD (gb 2) (cL zbL (zaa (gv 0) nilF))) (zaa (gv 1) nilF))) [none,none,some (.dat (.tup (p.map D.int)))] (zgS 0 (ks.map T.d))=some ((idx p 0 ks).map pd):=by
 refine zcH (by simp [zco,zir]) fun i a b ha hb=>?_
 obtain ⟨d0,h1,rfl⟩:=zeu 0 _ i a ha
 rw [List.getElem?_map] at h1 hb
 cases e1:(idx p 0 ks)[i]? with
 | none=>rw [e1] at hb;cases hb
 | some q=>
  rw [e1] at hb
  obtain ⟨t0,h2,rfl⟩:=zmV p 0 ks i q e1
  rw [h2] at h1
  cases h1
  cases hb
  have:p.length + 1≤1000000:=by omega
  refine ⟨[some (.dat (.int ((0 + i:Nat):Int))),some (.dat t0.d),some (.dat (.tup (p.map D.int)))],?_,rfl,?_⟩
  ·simp [runF,zby,seqM,setM,setO,zgy,asgM,asgX,zgX,zdK,retM,retO,retN,ifM,upT,cT,cTr,truD,andP,orP,notP,andV,orV,notV,c1,c2,cL,cS,zaa,nilF,cst,gv,gb,gN,gNil,zaY,gTup,zck,zbV,zcq,yesP,cI,cR1,cR2,cEnT,forS,itS,rng1,rng2,appM,extM,popM,zea,zbL,zbs,nxM,isiD,tyN,isiB,lim,bors,st0E,negD,revX,revD,zdm,zgH,lenD,idxD,zbi,zfP,addD,catD,subD,mulD,divD,modD,powD,cmpI,geD,isB,zes,isNon,absD,intD,runX,zdn,zcr,retX,putM,zfA,keyD,frzM,c3,zfZ,zjt,zjs,cSg,zfY,itS,Sl.inn,Sl.own,zgG,eqB,neB,inB,zdM,zcN,zed,zda,zcZ,zcY,zaZ,at0,at1,at2,at3]
  ·simp! [pd,this]
theorem zdl (t:T) (hz:t.size≤900000):zag [t.d]=some (.lst ((zaq [] t).map pd)):=by
 have W:=ziJ (t:=upT (cTr (gb 2)))
  (b:=zds zam FUEL)
  (fun m ρ=>∃ (fs ws:List (List Int×T)) (x3 x4 x5:Option Sl),ρ=[some (.dat t.d),some (.own (.lst (fs.map pd))),some (.own (.lst (ws.map pd))),x3,x4,x5]∧m=zdw ws∧fs++flat ws.reverse=zaq [] t)
  (fun ρ=>∃ x2 x3 x4 x5,ρ=[some (.dat t.d),some (.own (.lst ((zaq [] t).map pd))),x2,x3,x4,x5]) ?_ FUEL t.size
  [some (.dat t.d),some (.own (.lst [])),some (.own (.lst [pd ([],t)])),none,none,none] ⟨[],[([],t)],none,none,none,rfl,by simp [zdw,T.sizes],by simp [flat]⟩ (by unfold FUEL;omega)
 ·obtain ⟨ρ',e,x2,x3,x4,x5,rfl⟩:=W
  have e0:pd ([],t)=.tup [.tup [],t.d]:=rfl
  rw [e0] at e
  simp! [zag] at e ⊢
  rw [e]
  simp
 ·rintro m ρ ⟨fs,ws,x3,x4,x5,rfl,rfl,inv⟩
  rcases List.eq_nil_or_concat ws with rfl | ⟨ws',⟨p,t1⟩,rfl⟩
  ·refine .inl ⟨_,by simp [runF,zby,seqM,setM,setO,zgy,asgM,asgX,zgX,zdK,retM,retO,retN,ifM,upT,cT,cTr,truD,andP,orP,notP,andV,orV,notV,c1,c2,cL,cS,zaa,nilF,cst,gv,gb,gN,gNil,zaY,gTup,zck,zbV,zcq,yesP,cI,cR1,cR2,cEnT,forS,itS,rng1,rng2,appM,extM,popM,zea,zbL,zbs,nxM,isiD,tyN,isiB,lim,bors,st0E,negD,revX,revD,zdm,zgH,lenD,idxD,zbi,zfP,addD,catD,subD,mulD,divD,modD,powD,cmpI,geD,isB,zes,isNon,absD,intD,runX,zdn,zcr,retX,putM,zfA,keyD,frzM,c3,zfZ,zjt,zjs,cSg,zfY,itS,Sl.inn,Sl.own,zgG,eqB,neB,inB,zdM,zcN,zed,zda,zcZ,zcY,zaZ,at0,at1,at2,at3];rfl,?_⟩
   have e:fs=zaq [] t:=by simpa [flat] using inv
   rw [e]
   exact ⟨_,_,_,_,rfl⟩
  ·rw [List.concat_eq_append] at inv ⊢
   have el:fs.length + zdw (ws'++[(p,t1)])=t.size:=by
    rw [← zdp [] t,← inv,List.length_append,zgO,zfi]
   have ew:zdw [(p,t1)]=t1.size:=by simp [zdw,T.sizes]
   have ek:=zgl t1
   rw [zdU,ew] at el
   have hm:(p,t1)∈zaq [] t:=by
    rw [← inv]
    refine List.mem_append_right _ ?_
    rw [List.reverse_append,zgP]
    refine List.mem_append_left _ ?_
    show (p,t1)∈flat [(p,t1)]
    unfold flat
    rw [List.flatMap_cons,List.flatMap_nil,List.append_nil,zgt]
    exact List.mem_cons_self
   have pl:=zgq [] t _ hm
   simp only [List.length_nil] at pl
   have kl:=zbq t1.kids
   have wl:ws'.length≤zdw ws':=by rw [← zgO];exact zkO _
   refine .inr ⟨_,[some (.dat t.d),some (.own (.lst ((fs++[(p,t1)]).map pd))),some (.own (.lst ((ws'++(idx p 0 t1.kids).reverse).map pd))),some (.dat (.tup (p.map D.int))),some (.dat t1.d),some (.dat (.lst ((idx p 0 t1.kids).map pd)))],zdw (ws'++(idx p 0 t1.kids).reverse),by simp [runF,zby,seqM,setM,setO,zgy,asgM,asgX,zgX,zdK,retM,retO,retN,ifM,upT,cT,cTr,truD,andP,orP,notP,andV,orV,notV,c1,c2,cL,cS,zaa,nilF,cst,gv,gb,gN,gNil,zaY,gTup,zck,zbV,zcq,yesP,cI,cR1,cR2,cEnT,forS,itS,rng1,rng2,appM,extM,popM,zea,zbL,zbs,nxM,isiD,tyN,isiB,lim,bors,st0E,negD,revX,revD,zdm,zgH,lenD,idxD,zbi,zfP,addD,catD,subD,mulD,divD,modD,powD,cmpI,geD,isB,zes,isNon,absD,intD,runX,zdn,zcr,retX,putM,zfA,keyD,frzM,c3,zfZ,zjt,zjs,cSg,zfY,itS,Sl.inn,Sl.own,zgG,eqB,neB,inB,zdM,zcN,zed,zda,zcZ,zcY,zaZ,at0,at1,at2,at3];rfl,.inl ?_,?_,fs++[(p,t1)],ws'++(idx p 0 t1.kids).reverse,_,_,_,rfl,rfl,?_⟩
   ·have c:=zlx p t.d t.d none none none t1.kids (by omega)
    have h1:fs.length < 1000000:=by omega
    have h2:t1.kids.length≤1000000:=by omega
    have h3:ws'.length + t1.kids.length≤1000000:=by omega
    simp! [pd,zdJ,zco,zir,h1,h2,h3] at c ⊢
    rw [c]
    simp! [pd,zdJ,zco,zir,h1,h2,h3]
   ·rw [zdU,zdU,zfi,zlP,ew];omega
   ·rw [← inv]
    simp only [List.reverse_append,List.reverse_reverse,zgP,List.append_assoc,List.reverse_cons,List.reverse_nil,List.nil_append]
    rw [zkP]
    have e5:flat [(p,t1)]=(p,t1)::zbj p 0 t1.kids:=by
     unfold flat;rw [List.flatMap_cons,List.flatMap_nil,List.append_nil,zgt]
    rw [e5];simp
noncomputable def cellOf (ns:List Int) (k:Int):Int:=ns.getD k.toNat 0
theorem zeY {α:Type}{l:List α} {k:Int}(h0:0≤k) (h1:k < (l.length:Int)):atI l k=l[k.toNat]?:=by
 unfold atI ixN
 rw [if_pos h0,if_pos h1];rfl
theorem zkV (ns:List Int) (k:Int) (h0:0≤k):zaD [.scr ns,.int k]=some (.int (cellOf ns k)):=by
 by_cases h:k < (ns.length:Int)
 ·have e:ns[k.toNat]?=some (cellOf ns k):=by
   unfold cellOf
   rw [List.getD_eq_getElem?_getD,List.getElem?_eq_getElem (by omega)];rfl
  simp! [zaD,h,zeY h0 h,e]
 ·have e:cellOf ns k=0:=by
   unfold cellOf
   rw [List.getD_eq_getElem?_getD,List.getElem?_eq_none (by omega)];rfl
  simp! [zaD,h,e]
theorem zkJ {z:Str}(h:z.cps.toList.length=26) (n:Int):∃ c,atI z.cps.toList (n % 26)=some c:=by
 have h0:0≤n % 26:=Int.emod_nonneg _ (by decide)
 have h1:n % 26 < 26:=Int.emod_lt_of_pos _ (by decide)
 refine ⟨z.cps.toList[(n % 26).toNat]'(by omega),?_⟩
 rw [zeY h0 (by rw [h];exact_mod_cast h1),List.getElem?_eq_getElem (by omega)]
theorem len1 (c:Nat):(⟨#[c]⟩:Str).length=1:=rfl
theorem zkK (a b:Str):(a++b).length=a.length + b.length:=by simp [Str.length,PySem.Str.cps_append]
theorem alen:(Str.ofString "abcdefghijklmnopqrstuvwxyz").cps.toList.length=26:=by decide +kernel
theorem alen':(Str.ofString "abcdefghijklmnopqrstuvwxyz").length=26:=by decide +kernel
theorem ALEN:(Str.ofString "ABCDEFGHIJKLMNOPQRSTUVWXYZ").cps.toList.length=26:=by decide +kernel
theorem ALEN':(Str.ofString "ABCDEFGHIJKLMNOPQRSTUVWXYZ").length=26:=by decide +kernel
theorem elen:(Str.ofString "").length=0:=by decide +kernel
noncomputable def nle (m:Nat) (ys:List Str):Prop:=∀ y∈ys,y.length≤m
theorem zjw {g:D→En→Option En}{f:En→Option D} {ρ:En}{m:Nat}:∀ {xs:List D},(∀ x∈xs,∃ ρ1 y,g x ρ=some ρ1∧f ρ1=some (.str y)∧y.length≤m)→∃ ys:List Str,zcp g yesP f ρ xs=some (ys.map D.str)∧ys.length=xs.length∧nle m ys
 | [],_=>⟨[],rfl,rfl,fun _ h=>by cases h⟩
 | x::xs,k=>by
  obtain ⟨ρ1,y,e1,e2,e3⟩:=k x List.mem_cons_self
  obtain ⟨ys,h1,h2,h3⟩:=zjw (g:=g) (f:=f) (ρ:=ρ) (m:=m) (xs:=xs) fun z hz=>k z (List.mem_cons_of_mem _ hz)
  refine ⟨y::ys,by simp [zcp,e1,e2,h1,yesP],by simp [h2],fun z hz=>?_⟩
  rcases List.mem_cons.mp hz with rfl | hz
  ·exact e3
  ·exact h3 z hz
theorem mem_range {lo:Int}{n:Nat} {d:D}(h:d∈zaU lo n):∃ i:Nat,i < n∧d=.int (lo + (i:Int)):=by
 obtain ⟨i,hi⟩:=List.mem_iff_getElem?.mp h
 exact ⟨i,zbn hi⟩
theorem ziM (z:Str) (lo hi:Option Int):(Txt.slice z lo hi).length≤z.length:=Txt.slice_le z lo hi
theorem join_len (ys:List Str):(Txt.join (Str.ofString "") ys).length=(ys.map (·.length)).sum:=by
 show (PySem.Builtin.Str.glued _ ys).length=_
 rw [PySem.size_glued,elen];omega
noncomputable def sd (p:Str×Int):D:=.tup [.str p.1,.int p.2]
theorem zbF {α β:Type}(f:α→β) (l:List α) (i:Int):atI (l.map f) i=(atI l i).map f:=by
 unfold atI
 rw [List.length_map]
 cases ixN l.length i<;>simp
theorem zeL {α:Type}(h:α→D) (P:Nat→α→Prop) {g:D→En→Option En}{f:En→Option D} {ρ:En}:∀ {xs:List D}(k:Nat),(∀ (i:Nat) x,xs[i]?=some x→∃ ρ1 y,g x ρ=some ρ1∧f ρ1=some (h y)∧P (k + i) y)→∃ ys:List α,zcp g yesP f ρ xs=some (ys.map h)∧ys.length=xs.length∧∀ (i:Nat) y,ys[i]?=some y→P (k + i) y
 | [],_,_=>⟨[],rfl,rfl,fun _ _ h=>by simp at h⟩
 | x::xs,k,q=>by
  obtain ⟨ρ1,y,e1,e2,e3⟩:=q 0 x rfl
  obtain ⟨ys,h1,h2,h3⟩:=zeL h P (g:=g) (f:=f) (ρ:=ρ) (xs:=xs) (k + 1) fun i z hz=>by
   have:=q (i + 1) z (by simpa using hz)
   rw [show k + 1 + i=k + (i + 1) by omega];exact this
  refine ⟨y::ys,by simp [zcp,e1,e2,h1,yesP],by simp [h2],fun i z hz=>?_⟩
  cases i with
  | zero=>simp at hz;subst hz;exact e3
  | succ i=>
   have:=h3 i z (by simpa using hz)
   rw [show k + (i + 1)=k + 1 + i by omega];exact this
structure zeC (ps:List (Str×Int)):Prop where
 lo:2≤ps.length
 hi:ps.length≤5
 cnt:∀ p∈ps,0≤p.2∧p.2≤3
 fst:∀ p,ps[0]?=some p→p.2=0
 wd:∀ p∈ps,p.1.length≤16
theorem e_blanks (c:Int):∃ bs:List Str,zaC [.int c]=some (.lst (bs.map D.str))∧1≤bs.length∧bs.length≤4∧nle 1 bs:=by
 have h0:0≤c / 26 % 4:=Int.emod_nonneg _ (by decide)
 have h4:c / 26 % 4 < 4:=Int.emod_lt_of_pos _ (by decide)
 have hr:-4611686018427387904≤1 + c / 26 % 4∧1 + c / 26 % 4 < 4611686018427387904:=by omega
 obtain ⟨bs,p1,p2,p3⟩:=zjw (g:=gN 0) (f:=zdS FUEL) (ρ:=[none,some (.dat (.str "ABCDEFGHIJKLMNOPQRSTUVWXYZ")),some (.dat (.int c))]) (m:=1) (xs:=zaU 0 (1 + c / 26 % 4).toNat) (by
  intro x hx
  obtain ⟨i,hi,rfl⟩:=mem_range hx
  obtain ⟨cc,hcc⟩:=zkJ ALEN (c + 7 * (i:Int))
  refine ⟨_,⟨#[cc]⟩,rfl,?_,by rw [len1];exact Nat.le_refl _⟩
  simp! [ALEN',hcc])
 rw [zau] at p2
 refine ⟨bs,?_,by omega,by omega,p3⟩
 have hz:(1 + c / 26 % 4).toNat≤1000000:=by omega
 simp! [zaC,hr,p1,hz,zau]
noncomputable def ent (t:T):D:=.lst [t.d,.int t.depth]
inductive zjG (ps:List (Str×Int)) (bs:List Str) (most:Int) (ts:List T):List T→Prop
 | sign (w:Str) (m:Int) (h:ps[0]?=some (w,m)):zjG ps bs most ts (ts++[.nd w []])
 | blank (b:Str) (h:b∈bs):zjG ps bs most ts (ts++[.bl b])
 | take (k:Nat) (s:Str) (m:Int) (h:(s,m)∈ps) (hk:k < ts.length) (hm:m=((ts.length - k:Nat):Int)) (hd:((T.nd s (ts.drop k)).depth:Int)≤most):zjG ps bs most ts (ts.take k++[.nd s (ts.drop k)])
theorem zkX {α:Type}(us:List α) (i:Int):cutG us (some i) none=us.drop (HT.sIx us.length 0 (some i)):=by
 unfold cutG
 show List.take (us.length - _) _=_
 exact List.take_of_length_le (by rw [List.length_drop];exact Nat.le_refl _)
theorem znn {α:Type}(us:List α) (k:Nat) (hk:k≤us.length):cutG us none (some (k:Int))=us.take k:=by
 unfold cutG
 rw [HT.sIx_nat,HT.sIx_none,List.drop_zero,Nat.sub_zero,Nat.min_eq_left hk]
theorem zhQ:∀ (ts:List T) (a:Int),0≤a→(ts.map fun t=>(t.depth:Int)).foldl max a=max a (T.depths ts)
 | [],a,h=>by simp [T.depths];omega
 | t::ts,a,h=>by
  rw [List.map_cons,List.foldl_cons,zhQ ts _ (by omega),T.depths]
  omega
noncomputable def zmH (ts:List T):List Int:=ts.map fun t=>(t.depth:Int)
theorem zaT (ts:List T):maxD (zmH ts) 0=(T.depths ts:Int):=by
 unfold zmH
 cases ts with
 | nil=>rfl
 | cons t ts=>
  show (ts.map fun t=>(t.depth:Int)).foldl max (t.depth:Int)=_
  rw [zhQ ts _ (by omega),T.depths];omega
theorem znc (ts:List T) (n:Nat):zcp (gN 0) yesP (zeB n) [none] (ts.map ent)=some ((zmH ts).map D.int):=by
 unfold zmH
 refine zcH (by simp) fun i x y hx hy=>?_
 rw [List.getElem?_map] at hx
 rw [List.map_map,List.getElem?_map] at hy
 cases e:ts[i]? with
 | none=>rw [e] at hx;cases hx
 | some t=>
  rw [e] at hx hy
  cases hx;cases hy
  exact ⟨_,rfl,rfl,by simp! [ent,atI,ixN]⟩
theorem znb (ts:List T) (n:Nat):zcp (gN 0) yesP (zeA n) [none] (ts.map ent)=some (ts.map T.d):=by
 refine zcH (by simp) fun i x y hx hy=>?_
 rw [List.getElem?_map] at hx hy
 cases e:ts[i]? with
 | none=>rw [e] at hx;cases hx
 | some t=>
  rw [e] at hx hy
  cases hx;cases hy
  exact ⟨_,rfl,rfl,by simp! [ent,atI,ixN]⟩
set_option maxHeartbeats 1000000 in
theorem e_grownA (ts:List T) (n most:Int) (ps:List (Str×Int)) (bs:List Str) (S:zeC ps) (hb2:bs.length≤1000) (ht:ts.length≤1000) :
  ∃ ts',zan [.lst (ts.map ent),.int n,.lst (ps.map sd),.lst (bs.map D.str),.int most]=some (.lst (ts'.map ent))∧zjG ps bs most ts ts':=by
 have lo:=S.lo
 have hi:=S.hi
 have h0:0≤n % (ps.length:Int):=Int.emod_nonneg _ (by omega)
 have h1:n % (ps.length:Int) < (ps.length:Int):=Int.emod_lt_of_pos _ (by omega)
 have hpl:(0:Int) < (ps.length:Int):=by omega
 obtain ⟨⟨wd,mn⟩,ej,mj⟩:∃ q,atI ps (n % (ps.length:Int))=some q∧q∈ps:=
  ⟨ps[(n % (ps.length:Int)).toNat]'(by omega),by rw [zeY h0 h1,List.getElem?_eq_getElem (by omega)],List.getElem_mem _⟩
 have hmod:zjj (ps.length:Int):=hpl
 obtain ⟨hm0,hm3⟩:=S.cnt _ mj
 have hm0:0≤mn:=hm0
 generalize hk0:HT.sIx ts.length 0 (some ((ts.length:Int) - mn))=k0
 have cutL:cutG (ts.map ent) (some ((ts.length:Int) - mn)) none=(ts.drop k0).map ent:=by
  rw [zkX,List.length_map,hk0,List.map_drop]
 have ll:(ts.drop k0).length=ts.length - k0:=List.length_drop
 generalize hls:ts.drop k0=ls at cutL ll
 have en:=znc ls FUEL
 have et:=znb ls FUEL
 have dl:ls.length≤1000000:=by omega
 have io:=zfH (zmH ls)
 by_cases cc:0 < mn∧mn≤(ts.length:Int)∧(T.depths ls:Int) < most∧0 < n / 20 % 4
 ·obtain ⟨a1,a2,a3,a4⟩:=cc
  have ek:k0=ts.length - mn.toNat:=by
   rw [← hk0]
   have e4:(ts.length:Int) - mn=((ts.length - mn.toNat:Nat):Int):=by omega
   rw [e4,HT.sIx_nat];omega
  have e5:(ts.length:Int) - mn=(k0:Int):=by omega
  have cutR:cutG (ts.map ent) none (some ((ts.length:Int) - mn))=(ts.take k0).map ent:=by
   rw [e5,znn _ _ (by rw [List.length_map];omega),List.map_take]
  have rl:(ts.take k0).length≤ts.length:=by rw [List.length_take];omega
  refine ⟨ts.take k0++[.nd wd (ts.drop k0)],?_,.take k0 wd mn mj (by omega) (by omega) (by rw [T.depth,hls];omega)⟩
  rw [hls]
  generalize ts.take k0=rs at cutR rl ⊢
  have z1:rs.length + 1≤1000000:=by omega
  have z2:1 + ls.length≤1000000:=by omega
  have z3:ls.length + 1≤1000000:=by omega
  have de:((T.depth (T.nd wd ls):Nat):Int)=(T.depths ls:Int) + 1:=by rw [T.depth];omega
  simp! [zan,zbF,ej,sd,hmod,cutL,cutR,en,et,io,zaT,a1,a2,a3,a4,dl,z1,z2,z3]
  simp [ent,d_nd,de]
 ·have w0:∃ w m,ps[0]?=some (w,m)∧atI ps 0=some (w,m):=by
   refine ⟨(ps[0]'(by omega)).1,(ps[0]'(by omega)).2,List.getElem?_eq_getElem (by omega),?_⟩
   exact zbT (j:=0) (List.getElem?_eq_getElem (by omega))
  obtain ⟨w0,m0,g0,g1⟩:=w0
  have z1:ts.length + 1≤1000000:=by omega
  have hnc:¬ 0 < mn∨(0 < mn∧¬ mn≤(ts.length:Int))∨(0 < mn∧mn≤(ts.length:Int)∧¬ (T.depths ls:Int) < most)∨(0 < mn∧mn≤(ts.length:Int)∧(T.depths ls:Int) < most∧¬ 0 < n / 20 % 4):=by omega
  by_cases hbn:bs=[]
  ·subst hbn
   refine ⟨ts++[.nd w0 []],?_,.sign w0 m0 g0⟩
   have fin:ent (.nd w0 [])=.lst [.tup [.str w0],.int 1]:=by simp [ent,d_nd,T.depth,T.depths]
   rcases hnc with x1 | ⟨x1,x2⟩ | ⟨x1,x2,x3⟩ | ⟨x1,x2,x3,x4⟩
   ·simp! [zan,zbF,ej,sd,hmod,cutL,en,io,zaT,dl,z1,depL,eqL,g1,fin,eqD,dep,x1]
   ·simp! [zan,zbF,ej,sd,hmod,cutL,en,io,zaT,dl,z1,depL,eqL,g1,fin,eqD,dep,x1,x2]
   ·simp! [zan,zbF,ej,sd,hmod,cutL,en,io,zaT,dl,z1,depL,eqL,g1,fin,eqD,dep,x1,x2,x3]
   ·simp! [zan,zbF,ej,sd,hmod,cutL,en,io,zaT,dl,z1,depL,eqL,g1,fin,eqD,dep,x1,x2,x3,x4]
  have hb:1≤bs.length:=by cases bs with | nil=>exact absurd rfl hbn | cons x l=>simp
  have hbm:zjj (bs.length:Int):=by show (0:Int) < (bs.length:Int);omega
  obtain ⟨b,eb,mb⟩:∃ b,atI bs (n / 20 / 12 % (bs.length:Int))=some b∧b∈bs:=by
   have q0:0≤n / 20 / 12 % (bs.length:Int):=Int.emod_nonneg _ (by omega)
   have q1:n / 20 / 12 % (bs.length:Int) < (bs.length:Int):=Int.emod_lt_of_pos _ (by omega)
   exact ⟨bs[(n / 20 / 12 % (bs.length:Int)).toNat]'(by omega),by rw [zeY q0 q1,List.getElem?_eq_getElem (by omega)],List.getElem_mem _⟩
  have dq:depL (bs.map D.str)≤99:=by
   have:∀ l:List Str,depL (l.map D.str)≤1:=by
    intro l
    induction l with
    | nil=>simp [depL]
    | cons x l ih=>simp only [List.map_cons,depL,dep];omega
   have:=this bs
   omega
  have eq0:eqL (bs.map D.str) []=some false:=by
   cases bs with
   | nil=>simp at hb
   | cons x l=>simp [eqL]
  by_cases h3:n / 20 / 4 % 3=0
  ·refine ⟨ts++[.nd w0 []],?_,.sign w0 m0 g0⟩
   have fin:ent (.nd w0 [])=.lst [.tup [.str w0],.int 1]:=by simp [ent,d_nd,T.depth,T.depths]
   rcases hnc with x1 | ⟨x1,x2⟩ | ⟨x1,x2,x3⟩ | ⟨x1,x2,x3,x4⟩
   ·simp! [zan,zbF,ej,sd,hmod,cutL,en,io,zaT,dl,z1,dq,eq0,h3,g1,fin,eqD,dep,x1]
   ·simp! [zan,zbF,ej,sd,hmod,cutL,en,io,zaT,dl,z1,dq,eq0,h3,g1,fin,eqD,dep,x1,x2]
   ·simp! [zan,zbF,ej,sd,hmod,cutL,en,io,zaT,dl,z1,dq,eq0,h3,g1,fin,eqD,dep,x1,x2,x3]
   ·simp! [zan,zbF,ej,sd,hmod,cutL,en,io,zaT,dl,z1,dq,eq0,h3,g1,fin,eqD,dep,x1,x2,x3,x4]
  ·refine ⟨ts++[.bl b],?_,.blank b mb⟩
   have fin:ent (.bl b)=.lst [.str b,.int 1]:=by simp [ent,d_bl,T.depth]
   rcases hnc with x1 | ⟨x1,x2⟩ | ⟨x1,x2,x3⟩ | ⟨x1,x2,x3,x4⟩
   ·simp! [zan,zbF,ej,sd,hmod,cutL,en,io,zaT,dl,z1,dq,eq0,h3,hbm,eb,fin,eqD,dep,x1]
   ·simp! [zan,zbF,ej,sd,hmod,cutL,en,io,zaT,dl,z1,dq,eq0,h3,hbm,eb,fin,eqD,dep,x1,x2]
   ·simp! [zan,zbF,ej,sd,hmod,cutL,en,io,zaT,dl,z1,dq,eq0,h3,hbm,eb,fin,eqD,dep,x1,x2,x3]
   ·simp! [zan,zbF,ej,sd,hmod,cutL,en,io,zaT,dl,z1,dq,eq0,h3,hbm,eb,fin,eqD,dep,x1,x2,x3,x4]
noncomputable def szs (ts:List T):List Int:=ts.map fun t=>(t.size:Int)
theorem zjI:∀ ts:List T,(szs ts).sum=(T.sizes ts:Int)
 | []=>rfl
 | t::r=>by
  have:=zjI r
  unfold szs at this ⊢
  rw [List.map_cons,List.sum_cons,this,T.sizes];omega
theorem szs_ok (ts:List T) (h:T.sizes ts≤1000000):okSum (szs ts):=by
 refine ⟨fun n hn=>?_,?_⟩
 ·unfold szs at hn
  obtain ⟨t,_,rfl⟩:=List.mem_map.mp hn
  omega
 ·rw [zjI]
  show (T.sizes ts:Int) < 4611686018427387904
  omega
theorem zke:∀ (n:Nat) (t:T),t.depth≤n→t.size≤1000000→zbY n [t.d]=some (.int t.size)
 | 0,t,h,_=>by have:=zdu t;omega
 | n + 1,.bl x,h,_=>by simp! [zbY,d_bl,T.size]
 | n + 1,.nd s ts,h,hz=>by
  rw [T.depth] at h
  rw [T.size] at hz
  have kl:=zbq ts
  have hl:ts.length≤1000000:=by omega
  have w1:zcp (gN 0) yesP (zfV (zbY n) FUEL) [none] (ts.map T.d)=some ((szs ts).map D.int):=by
   refine zcH (by simp [szs]) fun i x y hx hy=>?_
   unfold szs at hy
   rw [List.getElem?_map] at hx
   rw [List.map_map,List.getElem?_map] at hy
   cases e:ts[i]? with
   | none=>rw [e] at hx;cases hx
   | some t=>
    rw [e] at hx hy
    cases hx;cases hy
    have hm:=List.mem_of_getElem? e
    have d1:=zbu hm
    have d2:=zbw hm
    exact ⟨_,rfl,rfl,by simp! [zke n t (by omega) (by omega)]⟩
  have io:=zfH (szs ts)
  have ok:=szs_ok ts (by omega)
  simp! [zbY,d_nd,cut1,w1,hl,io,ok,sumD,zjI,T.size]
theorem zka {ps:List (Str×Int)}{bs:List Str} {most:Int}{ts ts':List T} (h:zjG ps bs most ts ts'):T.sizes ts'≤T.sizes ts + 1:=by
 cases h with
 | sign w m h=>rw [zaW];simp [T.sizes,T.size]
 | blank b h=>rw [zaW];simp [T.sizes,T.size]
 | take k s m h hk hm hd=>
  have e:T.sizes ts=T.sizes (ts.take k) + T.sizes (ts.drop k):=by rw [← zaW,List.take_append_drop]
  rw [zaW]
  simp only [T.sizes,T.size]
  omega
theorem zly {ps:List (Str×Int)}{bs:List Str} {most:Int}{ts ts':List T} (h:zjG ps bs most ts ts') (hm:1≤most):∃ r t,ts'=r++[t]∧(t.depth:Int)≤most:=by
 cases h with
 | sign w m h=>exact ⟨_,_,rfl,by simp [T.depth,T.depths];omega⟩
 | blank b h=>exact ⟨_,_,rfl,by simp [T.depth];omega⟩
 | take k s m h hk hm hd=>exact ⟨_,_,rfl,hd⟩
noncomputable abbrev zeV (zan m__law_count:List D→Option D) (n:Nat):En→Option Fl:=
 (setM 4 (cL zan (zaa (gv 4) (zaa (gv 5) (zaa (gv 1) (zaa (gv 2) (zaa (gv 3) nilF)))))))
noncomputable abbrev zeU (zan m__law_count:List D→Option D) (n:Nat):En→Option Fl:=
 (ifM (upT (cT (c2 geD (cL m__law_count (zaa (c2 idxD (gb 7) (cst (.int 0))) nilF)) (cL m__law_count (zaa (gv 6) nilF))))) (setM 6 (c2 idxD (gb 7) (cst (.int 0)))) nxM)
noncomputable abbrev zef (zan m__law_count:List D→Option D) (n:Nat):En→Option Fl:=
 (seqM (setM 4 (cL zbs nilF)) (seqM (forS (cI (gv 0)) (gN 5) (zeV zan m__law_count n)) (seqM (setM 6 (c2 idxD (c2 idxD (gb 4) (cst (.int 0))) (cst (.int 0)))) (seqM (forS (cI (cS zbi (gb 4) (zbV (cst (.int 1))) zck)) (gN 7) (zeU zan m__law_count n)) (retM (gv 6))))))
noncomputable def zao:List D→Option D:=runF (zef zan zcm FUEL) 4 8
noncomputable abbrev zdQ (zab:List D→Option D) (n:Nat):En→Option D:=
 (c2 addD (cL zbL (zaa (gv 1) nilF)) (gb 0))
noncomputable abbrev zdO (zab:List D→Option D) (n:Nat):En→Option Fl:=
 (setM 1 (c2 addD (gb 1) (zcq [none,some 2] (cI (cL zab (zaa (c2 idxD (gb 0) (c2 addD (cst (.int 1)) (gb 2))) nilF))) (gN 0) yesP (zdQ zab n))))
noncomputable abbrev zdi (zab:List D→Option D) (n:Nat):En→Option Fl:=
 (seqM (setM 1 (cL zbs (zaa (cL zbL nilF) nilF))) (seqM (ifM (upT (cT (c1 (isiD "tuple") (gb 0)))) (forS (cR1 (c2 subD (cL lenD (zaa (gb 0) nilF)) (cst (.int 1)))) (gN 2) (zdO zab n)) nxM) (retM (gv 1))))
noncomputable def zaX:Nat→List D→Option D
 | 0=>fun _=>none
 | n + 1=>runF (zdi (zaX n) FUEL) 1 3
noncomputable def zab:List D→Option D:=zaX 100
noncomputable abbrev zeq (n:Nat):En→Option Fl:=
 (seqM (setM 1 (c2 modD (c2 addD (c2 addD (c2 addD (c2 mulD (gb 1) (gb 1)) (c2 mulD (c2 mulD (cst (.int 48271)) (gb 3)) (gb 3))) (gb 3)) (cst (.int 3))) (cst (.int 2147483629)))) (setM 2 (c2 addD (c2 mulD (gb 2) (cst (.int 2147483587))) (c2 modD (c2 mulD (gb 1) (gb 1)) (cst (.int 2147483587))))))
noncomputable abbrev zdE (n:Nat):En→Option Fl:=
 (seqM (setM 1 (c2 modD (gb 0) (cst (.int 2147483647)))) (seqM (setM 2 (cst (.int 1))) (seqM (forS (cR1 (cst (.int 16))) (gN 3) (zeq n)) (seqM (ifM (upT (cT (c2 eqB (c2 modD (gb 0) (cst (.int 2))) (cst (.int 0))))) (retM (cL zbs (zaa (c2 divD (cL absD (zaa (gb 0) nilF)) (cst (.int 2))) (zaa (gv 2) nilF)))) nxM) (retM (cL zbs (zaa (cst (.int 0)) (zaa (gv 2) nilF))))))))
noncomputable def zak:List D→Option D:=runF (zdE  FUEL) 1 4
noncomputable abbrev zeg (n:Nat):En→Option Fl:=
 (seqM (setM 2 (cL intD (zaa (c2 eqB (c2 idxD (gb 0) (cst (.int 0))) (cst (.int 0))) nilF))) (seqM (setM 3 (c2 modD (c2 idxD (gb 0) (gb 2)) (gb 1))) (seqM (putM 0 (gv 2) (c2 divD (c2 idxD (gb 0) (gb 2)) (gb 1))) (retM (gv 3)))))
noncomputable def zaf:D→List D→Option (D×D):=runX (zeg  FUEL) 2 4 0
noncomputable abbrev zdP (zak:List D→Option D) (zaf:D→List D→Option (D×D)) (n:Nat):En→Option (D×En):=
 (zcr zaf 1 (zaa (cst (.int 4800)) nilF))
noncomputable abbrev zdh (zak:List D→Option D) (zaf:D→List D→Option (D×D)) (n:Nat):En→Option Fl:=
 (seqM (setO 2 (cL zak (zaa (gv 0) nilF))) (retX (zdf 2 1 [none,some 2] (cR1 (gv 1)) (gN 0) (zdP zak zaf n))))
noncomputable def zaB:List D→Option D:=runF (zdh zak zaf FUEL) 2 3
noncomputable abbrev zgK (zam:List D→Option D) (n:Nat):En→Option Fl:=
 (seqM (setM 4 (cL zam (zaa (c2 idxD (gb 2) (c1 negD (cst (.int 1)))) nilF))) (seqM (ifM (upT (orP (cT (c2 ltD (gb 3) (cst (.int 0)))) (cT (c2 geD (gb 3) (cL lenD (zaa (gb 4) nilF)))))) (fun _=>none) nxM) (zdK (appM 2 (c2 idxD (gb 4) (gb 3))))))
noncomputable abbrev zgC (zam:List D→Option D) (n:Nat):En→Option Fl:=
 (seqM (setO 2 (cL zbs (zaa (gv 0) nilF))) (seqM (forS (cI (gv 1)) (gN 3) (zgK zam n)) (retO 2)))
noncomputable def zbM:List D→Option D:=runF (zgC zam FUEL) 2 5
noncomputable abbrev zgL (zbM:List D→Option D) (n:Nat):En→Option Fl:=
 (setM 4 (c2 addD (c2 addD (cS zbi (gb 5) zck (zbV (c2 addD (gb 6) (cst (.int 1))))) (cL zbL (zaa (gv 4) nilF))) (cS zbi (gb 5) (zbV (c2 addD (gb 6) (cst (.int 2)))) zck)))
noncomputable abbrev zgD (zbM:List D→Option D) (n:Nat):En→Option Fl:=
 (seqM (setM 3 (cS zbi (cL zbM (zaa (gv 0) (zaa (gv 1) nilF))) zck (zbV (c1 negD (cst (.int 1)))))) (seqM (setM 4 (gv 2)) (seqM (forS (cRv (c2 zipD (gv 3) (gv 1))) (gTup (zaY (gN 5) (zaY (gN 6) gNil))) (zgL zbM n)) (retM (gv 4)))))
noncomputable def zbB:List D→Option D:=runF (zgD zbM FUEL) 3 7
noncomputable abbrev zeW (n:Nat):En→Option Fl:=
 (setM 0 (c2 idxD (gb 0) (c2 addD (cst (.int 1)) (gb 2))))
noncomputable abbrev zei (n:Nat):En→Option Fl:=
 (seqM (forS (cI (gv 1)) (gN 2) (zeW n)) (retM (gv 0)))
noncomputable def zap:List D→Option D:=runF (zei  FUEL) 2 3
noncomputable abbrev zfe (zaj:List D→Option D) (n:Nat):En→Option Fl:=
 (seqM (ifM (upT (cT (c2 eqB (gb 1) (cL zbL nilF)))) (retM (gv 2)) nxM) (seqM (setM 3 (c2 addD (cst (.int 1)) (c2 idxD (gb 1) (cst (.int 0))))) (retM (c2 addD (c2 addD (cS zbi (gb 0) zck (zbV (gv 3))) (cL zbL (zaa (cL zaj (zaa (c2 idxD (gb 0) (gb 3)) (zaa (cS zbi (gb 1) (zbV (cst (.int 1))) zck) (zaa (gv 2) nilF)))) nilF))) (cS zbi (gb 0) (zbV (c2 addD (gb 3) (cst (.int 1)))) zck)))))
noncomputable def zcd:Nat→List D→Option D
 | 0=>fun _=>none
 | n + 1=>runF (zfe (zcd n) FUEL) 3 4
noncomputable def zaj:List D→Option D:=zcd 100
noncomputable def zbU (a b:Int):D:=.lst [.int a,.int b]
theorem zkc (c:Int):∃ a b,zak [.int c]=some (zbU a b):=by
 obtain ⟨ρ',e1,x,y,k,rfl,_,_⟩:=zcn (g:=gN 3) (b:=zeq FUEL) (xs:=zaU 0 16) (ρ:=[some (.dat (.int c)),some (.dat (.int (c % 2147483647))),some (.dat (.int 1)),none])
  (fun i ρ=>∃ (x y:Int) (k:Option Sl),ρ=[some (.dat (.int c)),some (.dat (.int x)),some (.dat (.int y)),k]∧0≤x∧x < 2147483648) ⟨_,_,_,rfl,by omega,by omega⟩ (by
   rintro i v ρ hv ⟨x,y,k,rfl,h0,h1⟩
   obtain ⟨hi,rfl⟩:=zbn hv
   have o1:zlo x x:=zcN (by omega) (by omega)
   generalize hz:(x * x + 48271 * (0 + (i:Int)) * (0 + (i:Int)) + (0 + (i:Int)) + 3) % 2147483629=z
   have z0:0≤z:=by rw [← hz];exact Int.emod_nonneg _ (by decide)
   have z1:z < 2147483629:=by rw [← hz];exact Int.emod_lt_of_pos _ (by decide)
   have o2:zlo (48271 * (0 + (i:Int))) (0 + (i:Int)):=zcN (by omega) (by omega)
   have o3:zlo z z:=zcN (by omega) (by omega)
   refine ⟨[some (.dat (.int c)),some (.dat (.int z)),some (.dat (.int (y * 2147483587 + z * z % 2147483587))),some (.dat (.int (0 + (i:Int))))],.inl ?_,_,_,_,rfl,z0,by omega⟩
   subst hz
   rw [Int.zero_add] at *
   simp! [o1,o2,o3])
 by_cases h:c % 2=0
 ·exact ⟨(if c < 0 then -c else c) / 2,y,by simp! [zak,e1,h,zbU,eqD,dep]⟩
 ·exact ⟨0,y,by simp! [zak,e1,h,zbU,eqD,dep]⟩
theorem zgT (a b m:Int) (h0:0 < m) (h1:m < 1073741824):∃ r a' b',zaf (zbU a b) [.int m]=some (.int r,zbU a' b')∧0≤r∧r < m:=by
 have o1:zjj m:=h0
 have o2:okDiv m:=⟨h0,h1⟩
 by_cases h:a=0
 ·refine ⟨b % m,a,b / m,?_,Int.emod_nonneg _ (by omega),Int.emod_lt_of_pos _ h0⟩
  subst h
  simp! [zaf,zbU,o1,o2,eqD,dep,ixN]
 ·refine ⟨a % m,a / m,b,?_,Int.emod_nonneg _ (by omega),Int.emod_lt_of_pos _ h0⟩
  simp! [zaf,zbU,o1,o2,h,eqD,dep,ixN]
theorem zdV (n:Nat) (s:Option Sl):∀ (xs:List D) (a b:Int),∃ (rs:List Int) (a' b':Int),zfL (gN 0) (zdP zak zaf n) [none,s] 1 (zbU a b) xs=some (rs.map D.int,zbU a' b')∧rs.length=xs.length
 | [],a,b=>⟨[],a,b,rfl,rfl⟩
 | x::xs,a,b=>by
  obtain ⟨r,a',b',e,_⟩:=zgT a b 4800 (by decide) (by decide)
  obtain ⟨rs,a2,b2,e2,e3⟩:=zdV n s xs a' b'
  refine ⟨r::rs,a2,b2,?_,by simp [e3]⟩
  simp! [zfL,e,e2]
theorem e_stream (c:Int) (k:Nat) (hk:k≤1000):∃ rs:List Int,zaB [.int c,.int k]=some (.lst (rs.map D.int))∧rs.length=k:=by
 obtain ⟨a,b,e1⟩:=zkc c
 have o1:zeO (k:Int):=zaZ (by omega) (by omega)
 obtain ⟨rs,a',b',e2,e3⟩:=zdV FUEL (some (.bor (zbU a b))) (zaU 0 (k:Int).toNat) a b
 rw [zau] at e3
 have e3:rs.length=k:=by omega
 have hz:k≤1000000:=by omega
 refine ⟨rs,?_,e3⟩
 rw [Int.toNat_natCast] at e2
 simp! [zaB,e1,zdf,o1,zau,hz,e2]
theorem zjp {ps:List (Str×Int)}{bs:List Str} {most:Int}{ts ts':List T} (h:zjG ps bs most ts ts') (hm:1≤most) (hd:∀ t∈ts,(t.depth:Int)≤most):∀ t∈ts',(t.depth:Int)≤most:=by
 cases h with
 | sign w m h=>
  intro t ht
  rcases List.mem_append.mp ht with ht | ht
  ·exact hd t ht
  ·rw [List.mem_singleton.mp ht];simp [T.depth,T.depths];omega
 | blank b h=>
  intro t ht
  rcases List.mem_append.mp ht with ht | ht
  ·exact hd t ht
  ·rw [List.mem_singleton.mp ht];simp [T.depth];omega
 | take k s m h hk hm hd'=>
  intro t ht
  rcases List.mem_append.mp ht with ht | ht
  ·exact hd t (List.mem_of_mem_take ht)
  ·rw [List.mem_singleton.mp ht];exact hd'
inductive WT (ps:List (Str×Int)) (bs:List Str):T→Prop
 | bl {x:Str}(h:x∈bs):WT ps bs (.bl x)
 | nd {s:Str}{ts:List T} (h:(s,(ts.length:Int))∈ps) (hs:∀ t∈ts,WT ps bs t):WT ps bs (.nd s ts)
theorem grown_WT {ps:List (Str×Int)}{bs:List Str} {most:Int}{ts ts':List T} (S:zeC ps) (h:zjG ps bs most ts ts') (hd:∀ t∈ts,WT ps bs t):∀ t∈ts',WT ps bs t:=by
 cases h with
 | sign w m h=>
  intro t ht
  rcases List.mem_append.mp ht with ht | ht
  ·exact hd t ht
  ·rw [List.mem_singleton.mp ht]
   have:=S.fst _ h
   simp only at this
   subst this
   exact .nd (by simpa using List.mem_of_getElem? h) (by simp)
 | blank b h=>
  intro t ht
  rcases List.mem_append.mp ht with ht | ht
  ·exact hd t ht
  ·rw [List.mem_singleton.mp ht];exact .bl h
 | take k s m h hk hm hd'=>
  intro t ht
  rcases List.mem_append.mp ht with ht | ht
  ·exact hd t (List.mem_of_mem_take ht)
  ·rw [List.mem_singleton.mp ht]
   refine .nd (by rw [List.length_drop,← hm];exact h) fun t ht=>hd t (List.mem_of_mem_drop ht)
theorem zne (ns:List Int) (ps:List (Str×Int)) (bs:List Str) (most:Int) (S:zeC ps) (hb2:bs.length≤1000) (hm:1≤most) (hm2:most≤90) (h0:1≤ns.length) (h1:ns.length≤900) :
  ∃ t:T,zao [.lst (ns.map D.int),.lst (ps.map sd),.lst (bs.map D.str),.int most]=some t.d∧(t.depth:Int)≤most∧t.size≤ns.length∧WT ps bs t:=by
 obtain ⟨ρ',f1,ts,k,rfl,hs,hd,hW,hne⟩:=zcn (g:=gN 5) (b:=zeV zan zcm FUEL) (xs:=ns.map D.int) (ρ:=[some (.dat (.lst (ns.map D.int))),some (.dat (.lst (ps.map sd))),some (.dat (.lst (bs.map D.str))),some (.dat (.int most)),some (.dat (.lst [])),none,none,none])
  (fun i ρ=>∃ (ts:List T) (k:Option Sl),ρ=[some (.dat (.lst (ns.map D.int))),some (.dat (.lst (ps.map sd))),some (.dat (.lst (bs.map D.str))),some (.dat (.int most)),some (.dat (.lst (ts.map ent))),k,none,none]∧T.sizes ts≤i∧(∀ t∈ts,(t.depth:Int)≤most)∧(∀ t∈ts,WT ps bs t)∧(0 < i→ts≠[])) ⟨[],none,rfl,by simp [T.sizes],by simp,by simp,by simp⟩ (by
   rintro i x ρ hx ⟨ts,k,rfl,hs,hd,hW,_⟩
   have hi:i < ns.length:=by have:=(List.getElem?_eq_some_iff.mp hx).1;simpa using this
   obtain ⟨c,_,rfl⟩:=List.mem_map.mp (List.mem_of_getElem? hx)
   have tl:=zbq ts
   obtain ⟨ts',g1,g2⟩:=e_grownA ts c most ps bs S hb2 (by omega)
   have g3:=zka g2
   refine ⟨[some (.dat (.lst (ns.map D.int))),some (.dat (.lst (ps.map sd))),some (.dat (.lst (bs.map D.str))),some (.dat (.int most)),some (.dat (.lst (ts'.map ent))),some (.dat (.int c)),none,none],.inl ?_,ts',_,rfl,by omega,zjp g2 hm hd,grown_WT S g2 hW,fun _ z=>?_⟩
   ·simp! [g1]
   ·obtain ⟨r,t,e,_⟩:=zly g2 hm
    rw [e] at z;simp at z)
 rw [List.length_map] at hs hne
 cases ts with
 | nil=>exact absurd rfl (hne (by omega))
 | cons t0 tr=>
  have cnt:∀ t:T,t∈t0::tr→zcm [t.d]=some (.int t.size):=fun t ht=>zke 100 t (by have:=hd t ht;omega) (by have:=zbw ht;omega)
  have sz:∀ t:T,t∈t0::tr→t.size≤ns.length:=fun t ht=>by have:=zbw ht;omega
  obtain ⟨ρ',f2,t,k2,rfl,ht⟩:=zcn (g:=gN 7) (b:=zeU zan zcm FUEL) (xs:=tr.map ent) (ρ:=[some (.dat (.lst (ns.map D.int))),some (.dat (.lst (ps.map sd))),some (.dat (.lst (bs.map D.str))),some (.dat (.int most)),some (.dat (.lst ((t0::tr).map ent))),k,some (.dat t0.d),none])
   (fun i ρ=>∃ (t:T) (k2:Option Sl),ρ=[some (.dat (.lst (ns.map D.int))),some (.dat (.lst (ps.map sd))),some (.dat (.lst (bs.map D.str))),some (.dat (.int most)),some (.dat (.lst ((t0::tr).map ent))),k,some (.dat t.d),k2]∧t∈t0::tr) ⟨t0,none,rfl,by simp⟩ (by
    rintro i x ρ hx ⟨t,k2,rfl,ht⟩
    obtain ⟨u,hu,rfl⟩:=List.mem_map.mp (List.mem_of_getElem? hx)
    have hu':u∈t0::tr:=List.mem_cons_of_mem _ hu
    have c1':=cnt t ht
    have c2':=cnt u hu'
    by_cases hc:(t.size:Int)≤u.size
    ·refine ⟨[some (.dat (.lst (ns.map D.int))),some (.dat (.lst (ps.map sd))),some (.dat (.lst (bs.map D.str))),some (.dat (.int most)),some (.dat (.lst ((t0::tr).map ent))),k,some (.dat u.d),some (.dat (ent u))],.inl ?_,u,_,rfl,hu'⟩
     have hc':t.size≤u.size:=by omega
     simp! [ent,c1',c2',hc']
    ·refine ⟨[some (.dat (.lst (ns.map D.int))),some (.dat (.lst (ps.map sd))),some (.dat (.lst (bs.map D.str))),some (.dat (.int most)),some (.dat (.lst ((t0::tr).map ent))),k,some (.dat t.d),some (.dat (ent u))],.inl ?_,t,_,rfl,ht⟩
     have hc':¬ t.size≤u.size:=by omega
     simp! [ent,c1',c2',hc'])
  refine ⟨t,?_,hd t ht,sz t ht,hW t ht⟩
  have en:ent t0=.lst [t0.d,.int t0.depth]:=rfl
  simp only [List.map_cons] at f1 f2 ⊢
  simp! [zao,f1,cut1,en,f2]
  rw [en] at f2
  simp [f2]
theorem zkb (ns:List Int) (ps:List (Str×Int)) (bs:List Str) (most:Int) (S:zeC ps) (hb:1≤bs.length) (hb2:bs.length≤1000) (hm:1≤most) (hm2:most≤90) (h0:1≤ns.length) (h1:ns.length≤900) :
  ∃ t:T,zao [.lst (ns.map D.int),.lst (ps.map sd),.lst (bs.map D.str),.int most]=some t.d∧(t.depth:Int)≤most∧t.size≤ns.length∧WT ps bs t:=zne ns ps bs most S hb2 hm hm2 h0 h1
mutual
noncomputable def plc:T→List (List Int)
 | .bl _=>[[]]
 | .nd _ ts=>[]::plcL 0 ts
noncomputable def plcL (k:Nat):List T→List (List Int)
 | []=>[]
 | t::r=>(plc t).map ((k:Int)::·)++plcL (k + 1) r
end
theorem zgp:∀ (k:Nat) (a b:List T),plcL k (a++b)=plcL k a++plcL (k + a.length) b
 | k,[],b=>by simp [plcL]
 | k,t::a,b=>by
  rw [List.cons_append,plcL,plcL,zgp (k + 1) a b,List.append_assoc,List.length_cons,show k + 1 + a.length=k + (a.length + 1) by omega]
mutual
theorem zeb:∀ t:T,(plc t).length=t.size
 | .bl x=>by simp [plc,T.size]
 | .nd s ts=>by simp [plc,T.size,zia 0 ts];omega
theorem zia:∀ (k:Nat) (ts:List T),(plcL k ts).length=T.sizes ts
 | _,[]=>by simp [plcL,T.sizes]
 | k,t::r=>by simp [plcL,T.sizes,zeb t,zia (k + 1) r]
end
mutual
theorem zmi:∀ (t:T) (p:List Int),p∈plc t→∃ u,zaF t p=some u
 | .bl x,p,h=>by
  simp only [plc,List.mem_singleton] at h
  subst h;exact ⟨_,rfl⟩
 | .nd s ts,p,h=>by
  simp only [plc,List.mem_cons] at h
  rcases h with rfl | h
  ·exact ⟨_,rfl⟩
  ·obtain ⟨i,q,t,u,rfl,e,hu⟩:=zmj 0 ts p h
   refine ⟨u,?_⟩
   have:(0:Int)≤((0 + i:Nat):Int):=by omega
   simp only [zaF,if_pos this]
   rw [Int.toNat_natCast,Nat.zero_add,e]
   exact hu
theorem zmj:∀ (k:Nat) (ts:List T) (p:List Int),p∈plcL k ts→∃ (i:Nat) (q:List Int) (t u:T),p=((k + i:Nat):Int)::q∧ts[i]?=some t∧zaF t q=some u
 | _,[],p,h=>by simp [plcL] at h
 | k,t::r,p,h=>by
  simp only [plcL,List.mem_append] at h
  rcases h with h | h
  ·obtain ⟨q,hq,rfl⟩:=List.mem_map.mp h
   obtain ⟨u,hu⟩:=zmi t q hq
   exact ⟨0,q,t,u,by simp,rfl,hu⟩
  ·obtain ⟨i,q,t',u,rfl,e,hu⟩:=zmj (k + 1) r p h
   exact ⟨i + 1,q,t',u,by rw [show k + 1 + i=k + (i + 1) by omega],by simpa using e,hu⟩
end
noncomputable def pD (p:List Int):D:=.tup (p.map D.int)
mutual
theorem zkC:∀ (t:T) (p:List Int),p∈plc t→p.length≤t.depth
 | .bl x,p,h=>by
  simp only [plc,List.mem_singleton] at h
  subst h;simp
 | .nd s ts,p,h=>by
  simp only [plc,List.mem_cons] at h
  rcases h with rfl | h
  ·simp
  ·rw [T.depth];exact ziU 0 ts p h
theorem ziU:∀ (k:Nat) (ts:List T) (p:List Int),p∈plcL k ts→p.length≤1 + T.depths ts
 | _,[],p,h=>by simp [plcL] at h
 | k,t::r,p,h=>by
  simp only [plcL,List.mem_append] at h
  rw [T.depths]
  rcases h with h | h
  ·obtain ⟨q,hq,rfl⟩:=List.mem_map.mp h
   have:=zkC t q hq
   rw [List.length_cons];omega
  ·have:=ziU (k + 1) r p h
   omega
end
theorem zgf:∀ (n:Nat) (t:T),t.depth≤n→t.depth≤100→t.size≤1000→zaX n [t.d]=some (.lst ((plc t).map pD))
 | 0,t,h,_,_=>by have:=zdu t;omega
 | n + 1,.bl x,h,_,_=>by simp! [zaX,d_bl,plc,pD]
 | n + 1,.nd s ts,h,hd,hz=>by
  rw [T.depth] at h hd
  rw [T.size] at hz
  have kl:=zbq ts
  obtain ⟨ρ',f1,k,rfl⟩:=zcn (g:=gN 2) (b:=zdO (zaX n) FUEL) (xs:=zaU 0 ts.length) (ρ:=[some (.dat (.tup (.str s::ts.map T.d))),some (.dat (.lst [.tup []])),none])
   (fun i ρ=>∃ (k:Option Sl),ρ=[some (.dat (.tup (.str s::ts.map T.d))),some (.dat (.lst (([]::plcL 0 (ts.take i)).map pD))),k]) ⟨none,by simp [plcL,pD]⟩ (by
    rintro i x ρ hx ⟨k,rfl⟩
    obtain ⟨hi,rfl⟩:=zbn hx
    have hm:ts[i]∈ts:=List.getElem_mem hi
    have d1:=zbu hm
    have d2:=zbw hm
    have e1:=zgf n ts[i] (by omega) (by omega) (by omega)
    have e2:atI (D.str s::ts.map T.d) (1 + (i:Int))=some ts[i].d:=by
     rw [show (1:Int) + (i:Int)=((i + 1:Nat):Int) by omega]
     exact zbT (by simp [hi])
    have pl1:((plc ts[i]).map pD).length≤1000000:=by rw [List.length_map,zeb];omega
    have w1:zcp (gN 0) yesP (zdQ (zaX n) FUEL) [none,some (.dat (.int (i:Int)))] ((plc ts[i]).map pD)=some (((plc ts[i]).map ((i:Int)::·)).map pD):=by
     refine zcH (by simp) fun j x y hx hy=>?_
     rw [List.getElem?_map] at hx
     rw [List.map_map,List.getElem?_map] at hy
     cases e:(plc ts[i])[j]? with
     | none=>rw [e] at hx;cases hx
     | some q=>
      rw [e] at hx hy
      cases hx;cases hy
      have ql:=zkC ts[i] q (List.mem_of_getElem? e)
      have z1:1 + q.length≤1000000:=by omega
      exact ⟨_,rfl,rfl,by simp! [pD,z1]⟩
    generalize hL:(plc ts[i]).map pD=L at e1 w1 pl1
    have tk:ts.take (i + 1)=ts.take i++[ts[i]]:=by rw [List.take_succ_eq_append_getElem hi]
    have e5:plcL 0 (ts.take (i + 1))=plcL 0 (ts.take i)++(plc ts[i]).map ((i:Int)::·):=by
     rw [tk,zgp]
     simp only [plcL,List.append_nil,List.length_take]
     rw [show 0 + min i ts.length=i by omega]
    have e6:T.sizes (ts.take i)≤T.sizes ts:=by
     have:T.sizes ts=T.sizes (ts.take i) + T.sizes (ts.drop i):=by rw [← zaW,List.take_append_drop]
     omega
    have e7:=zia 0 (ts.take i)
    have e8:=zeb ts[i]
    have z2:(plcL 0 (ts.take i)).length + 1 + (plc ts[i]).length≤1000000:=by omega
    refine ⟨[some (.dat (.tup (.str s::ts.map T.d))),some (.dat (.lst (([]::plcL 0 (ts.take (i + 1))).map pD))),some (.dat (.int (0 + (i:Int))))],.inl ?_,_,rfl⟩
    rw [e5]
    generalize plcL 0 (ts.take i)=A at z2
    have z3:A.length + 1 + (plc ts[i]).length≤1000000:=z2
    have z4:(A.length:Nat) + 1 + ((plc ts[i]).map ((i:Int)::·)).length≤1000000:=by simpa using z2
    generalize hB:(plc ts[i]).map ((i:Int)::·)=B at w1 z4 ⊢
    simp! [e2,e1,w1,pl1,z4])
  rw [zau,List.take_length] at f1
  have hr2:zeO (ts.length:Int):=zaZ (by omega) (by omega)
  simp! [zaX,d_nd,f1,plc,hr2]
theorem zaS {t u:T}{k:Int} {p:List Int}(h:zaF t (k::p)=some u):∃ s ts c,t=.nd s ts∧0≤k∧ts[k.toNat]?=some c∧zaF c p=some u:=by
 cases t with
 | bl x=>simp [zaF] at h
 | nd s ts=>
  simp only [zaF] at h
  split at h
  ·rename_i h0
   cases e:ts[k.toNat]? with
   | none=>rw [e] at h;cases h
   | some c=>rw [e] at h;exact ⟨s,ts,c,rfl,h0,e,h⟩
  ·cases h
theorem ziX {s:Str}{ts:List T} {c:T}{k:Int} {p:List Int}(h0:0≤k) (e:ts[k.toNat]?=some c):zaF (.nd s ts) (k::p)=zaF c p:=by
 simp only [zaF,if_pos h0,e]
noncomputable def wayT:T→List Int→List T
 | t,[]=>[t]
 | .bl x,_::_=>[.bl x]
 | .nd s ts,k::p=>.nd s ts::(match ts[k.toNat]? with | some c=>wayT c p | none=>[])
theorem zjH {s:Str}{ts:List T} {c:T}{k:Int} {p:List Int}(e:ts[k.toNat]?=some c):wayT (.nd s ts) (k::p)=.nd s ts::wayT c p:=by
 simp only [wayT,e]
theorem zfj:∀ (p:List Int) (t u:T),zaF t p=some u→(wayT t p).length=p.length + 1
 | [],t,u,h=>by cases t<;>simp [wayT]
 | k::p,t,u,h=>by
  obtain ⟨s,ts,c,rfl,h0,e,h2⟩:=zaS h
  rw [zjH e,List.length_cons,zfj p c u h2,List.length_cons]
theorem zfk:∀ (p:List Int) (t u:T),zaF t p=some u→∀ i,i≤p.length→(wayT t p)[i]?=zaF t (p.take i)
 | [],t,u,h,i,hi=>by
  have:i=0:=by simpa using hi
  subst this
  cases t<;>simp [wayT,zaF]
 | k::p,t,u,h,0,hi=>by
  obtain ⟨s,ts,c,rfl,h0,e,h2⟩:=zaS h
  rw [zjH e];simp [zaF]
 | k::p,t,u,h,i + 1,hi=>by
  obtain ⟨s,ts,c,rfl,h0,e,h2⟩:=zaS h
  rw [zjH e,List.take_succ_cons,ziX h0 e]
  simpa using zfk p c u h2 i (by simpa using hi)
theorem znf (t u:T) (p:List Int) (h:zaF t p=some u):zap [t.d,pD p]=some u.d:=by
 obtain ⟨ρ',e1,c,k,rfl,hc⟩:=zcn (g:=gN 2) (b:=zeW FUEL) (xs:=p.map D.int) (ρ:=[some (.dat t.d),some (.dat (.tup (p.map D.int))),none])
  (fun i ρ=>∃ (c:T) (k:Option Sl),ρ=[some (.dat c.d),some (.dat (.tup (p.map D.int))),k]∧zaF c (p.drop i)=some u) ⟨t,none,rfl,h⟩ (by
   rintro i x ρ hx ⟨c,k,rfl,hc⟩
   rw [List.getElem?_map] at hx
   cases e:p[i]? with
   | none=>rw [e] at hx;cases hx
   | some a=>
    rw [e] at hx
    cases hx
    have hi:i < p.length:=(List.getElem?_eq_some_iff.mp e).1
    have ea:p[i]=a:=by rw [List.getElem?_eq_getElem hi] at e;exact Option.some.inj e
    rw [List.drop_eq_getElem_cons hi,ea] at hc
    obtain ⟨s,ts,c',rfl,h0,e2,hc2⟩:=zaS hc
    have g3:atI (D.str s::ts.map T.d) (1 + a)=some c'.d:=by
     have e3:(1:Int) + a=((a.toNat + 1:Nat):Int):=by omega
     rw [e3]
     exact zbT (by simp [e2])
    refine ⟨[some (.dat c'.d),some (.dat (.tup (p.map D.int))),some (.dat (.int a))],.inl ?_,c',_,rfl,hc2⟩
    simp! [d_nd,g3])
 rw [List.length_map,List.drop_length] at hc
 have hc:some c=some u:=by cases c<;>simpa [zaF] using hc
 cases hc
 simp! [zap,pD,e1]
theorem e_way (t u:T) (p:List Int) (h:zaF t p=some u) (hp:p.length≤1000):zbM [t.d,pD p]=some (.lst ((wayT t p).map T.d)):=by
 obtain ⟨ρ',e1,k,j,rfl,_,_⟩:=zcn (g:=gN 3) (b:=zgK zam FUEL) (xs:=p.map D.int) (ρ:=[some (.dat t.d),some (.dat (.tup (p.map D.int))),some (.own (.lst [t.d])),none,none])
  (fun i ρ=>∃ (k j:Option Sl),ρ=[some (.dat t.d),some (.dat (.tup (p.map D.int))),some (.own (.lst (((wayT t p).take (i + 1)).map T.d))),k,j]∧(k=none∨∃ d,k=some (.dat d))∧(j=none∨∃ d,j=some (.dat d))) ⟨none,none,by cases p<;>cases t<;>simp [wayT],.inl rfl,.inl rfl⟩ (by
   rintro i x ρ hx ⟨k,j,rfl,hk,hj⟩
   rw [List.getElem?_map] at hx
   cases e:p[i]? with
   | none=>rw [e] at hx;cases hx
   | some a=>
    rw [e] at hx
    cases hx
    have hi:i < p.length:=(List.getElem?_eq_some_iff.mp e).1
    have ea:p[i]=a:=by rw [List.getElem?_eq_getElem hi] at e;exact Option.some.inj e
    have hl:=zfj p t u h
    have w1:=zfk p t u h i (by omega)
    have w2:=zfk p t u h (i + 1) (by omega)
    have i1:i < (wayT t p).length:=by omega
    have i2:i + 1 < (wayT t p).length:=by omega
    rw [List.getElem?_eq_getElem i1] at w1
    rw [List.getElem?_eq_getElem i2] at w2
    have sp:p=p.take i++(a::p.drop (i + 1)):=by rw [← ea,← List.drop_eq_getElem_cons hi,List.take_append_drop]
    have h2:=h
    rw [sp,zcj _ _ _ _ w1.symm] at h2
    obtain ⟨s,ts,c',ew,h0,e2,hc2⟩:=zaS h2
    have tk:p.take (i + 1)=p.take i++[a]:=by rw [List.take_succ_eq_append_getElem hi,ea]
    have w3:(wayT t p)[i + 1]=c':=by
     rw [tk,zcj _ _ _ _ w1.symm,ew,ziX h0 e2] at w2
     have:zaF c' []=some c':=by cases c'<;>rfl
     rw [this] at w2
     exact Option.some.inj w2
    have t1:(wayT t p).take (i + 1)=(wayT t p).take i++[T.nd s ts]:=by rw [List.take_succ_eq_append_getElem i1,ew]
    have t2:(wayT t p).take (i + 1 + 1)=((wayT t p).take i++[T.nd s ts])++[c']:=by rw [List.take_succ_eq_append_getElem i2,w3,t1]
    refine ⟨[some (.dat t.d),some (.dat (.tup (p.map D.int))),some (.own (.lst (((wayT t p).take (i + 1 + 1)).map T.d))),some (.dat (.int a)),some (.dat (.tup (ts.map T.d)))],.inl ?_,_,_,rfl,.inr ⟨_,rfl⟩,.inr ⟨_,rfl⟩⟩
    rw [t1,t2]
    have tl:((wayT t p).take i).length≤1000:=by rw [List.length_take];omega
    generalize (wayT t p).take i=A at tl ⊢
    have al:atI (A.map T.d++[(T.nd s ts).d]) (-1)=some (T.nd s ts).d:=zla _ _
    have ei:=zdJ (T.nd s ts)
    have hal:a.toNat < ts.length:=(List.getElem?_eq_some_iff.mp e2).1
    have g1:¬ a < 0:=by omega
    have g2:¬ (ts.length:Int)≤a:=by omega
    have g3:atI (ts.map T.d) a=some c'.d:=by
     have e3:a=((a.toNat:Nat):Int):=by omega
     rw [e3]
     exact zbT (by simp [e2])
    have z1:A.length + 1 < 1000000:=by omega
    have hkids:(T.nd s ts).kids=ts:=rfl
    rw [hkids] at ei
    rcases hk with rfl | ⟨dk,rfl⟩<;>rcases hj with rfl | ⟨dj,rfl⟩<;>simp! [al,ei,g1,g2,g3,z1])
 rw [List.length_map,List.take_of_length_le (by rw [zfj p t u h];exact Nat.le_refl _)] at e1
 simp! [zbM,pD,e1]
noncomputable def putT:T→List Int→T→T
 | _,[],n=>n
 | .bl x,_::_,_=>.bl x
 | .nd s ts,k::p,n=>match ts[k.toNat]? with
  | some c=>.nd s (ts.set k.toNat (putT c p n))
  | none=>.nd s ts
theorem zeG (t n:T):putT t [] n=n:=by cases t<;>rfl
theorem zjN {s:Str}{ts:List T} {c n:T}{k:Int} {p:List Int}(e:ts[k.toNat]?=some c):putT (.nd s ts) (k::p) n=.nd s (ts.set k.toNat (putT c p n)):=by
 simp only [putT,e]
mutual
theorem zbX:∀ (p:List Int) (t u:T),zaF t p=some u→u.size≤t.size
 | [],t,u,h=>by
  have:some t=some u:=by cases t<;>simpa [zaF] using h
  rw [Option.some.inj this];exact Nat.le_refl _
 | k::p,t,u,h=>by
  obtain ⟨s,ts,c,rfl,h0,e,h2⟩:=zaS h
  have:=zbX p c u h2
  have:=zbw (List.mem_of_getElem? e)
  rw [T.size];omega
end
theorem ziO:∀ (ts:List T) (i:Nat) (c x:T),ts[i]?=some c→T.sizes (ts.set i x) + c.size=T.sizes ts + x.size
 | [],i,c,x,h=>by simp at h
 | t::r,0,c,x,h=>by
  simp at h;subst h
  simp only [List.set_cons_zero,T.sizes];omega
 | t::r,i + 1,c,x,h=>by
  have:=ziO r i c x (by simpa using h)
  simp only [List.set_cons_succ,T.sizes];omega
theorem zhP:∀ (ts:List T) (i:Nat) (x:T),T.depths (ts.set i x)≤max (T.depths ts) x.depth
 | [],i,x=>by simp [T.depths]
 | t::r,0,x=>by simp only [List.set_cons_zero,T.depths];omega
 | t::r,i + 1,x=>by
  have:=zhP r i x
  simp only [List.set_cons_succ,T.depths];omega
theorem zfp:∀ (p:List Int) (t n:T),(putT t p n).size≤t.size + n.size
 | [],t,n=>by rw [zeG];omega
 | k::p,.bl x,n=>by simp [putT,T.size]
 | k::p,.nd s ts,n=>by
  simp only [putT]
  cases e:ts[k.toNat]? with
  | none=>simp
  | some c=>
   have h1:=zfp p c n
   have h2:=ziO ts k.toNat c (putT c p n) e
   simp only [T.size];omega
theorem zeH:∀ (p:List Int) (t n:T),(putT t p n).depth≤t.depth + n.depth
 | [],t,n=>by rw [zeG];omega
 | k::p,.bl x,n=>by simp [putT,T.depth]
 | k::p,.nd s ts,n=>by
  simp only [putT]
  cases e:ts[k.toNat]? with
  | none=>simp
  | some c=>
   have h1:=zeH p c n
   have h2:=zhP ts k.toNat (putT c p n)
   have h3:=zbu (List.mem_of_getElem? e)
   simp only [T.depth];omega
theorem zcL:∀ (p:List Int) (t u:T),zaF t p=some u→p.length≤t.depth
 | [],t,u,h=>by simp
 | k::p,t,u,h=>by
  obtain ⟨s,ts,c,rfl,h0,e,h2⟩:=zaS h
  have h1:=zcL p c u h2
  have h3:=zbu (List.mem_of_getElem? e)
  rw [T.depth,List.length_cons];omega
theorem zlY {α:Type}(l:List α) (i:Nat) (x:α) (h:i < l.length):l.take i++x::l.drop (i + 1)=l.set i x:=by
 rw [List.set_eq_take_append_cons_drop,if_pos h]
theorem cut_lo {α:Type}(l:List α) (i:Int) (h0:0≤i) (h:i.toNat≤l.length):cutG l none (some i)=l.take i.toNat:=by
 have:i=((i.toNat:Nat):Int):=by omega
 rw [this,znn l _ (by omega),Int.toNat_natCast]
theorem cut_hi {α:Type}(l:List α) (i:Int) (h0:0≤i) (h:i.toNat≤l.length):cutG l (some i) none=l.drop i.toNat:=by
 have e:i=((i.toNat:Nat):Int):=by omega
 rw [zkX,e,HT.sIx_nat,Int.toNat_natCast,Nat.min_eq_left h]
theorem mid_d {s:Str}{ts:List T} {k:Nat}(hk:k < ts.length) (x:T):(D.str s::ts.map T.d).take (k + 1)++x.d::(D.str s::ts.map T.d).drop (k + 2)=D.str s::(ts.set k x).map T.d:=by
 rw [List.take_succ_cons,List.cons_append,List.drop_succ_cons,zlY _ k _ (by simpa using hk),List.map_set]
theorem zkS:∀ (m:Nat) (p:List Int) (t u n:T),p.length < m→p.length≤90→zaF t p=some u→t.size≤1000→zcd m [t.d,pD p,n.d]=some (putT t p n).d
 | 0,p,t,u,n,h,_,_,_=>by omega
 | m + 1,[],t,u,n,h,_,_,_=>by
  rw [zeG]
  simp! [zcd,pD,eqD,eqL,dep,depL]
 | m + 1,k::p,t,u,n,h,h9,hp,hz=>by
  obtain ⟨s,ts,c,rfl,h0,e,h2⟩:=zaS hp
  have hl:k.toNat < ts.length:=(List.getElem?_eq_some_iff.mp e).1
  have h3:=zbw (List.mem_of_getElem? e)
  rw [T.size] at hz
  have tl:=zbq ts
  rw [List.length_cons] at h h9
  have ih:=zkS m p c u n (by omega) (by omega) h2 (by omega)
  have a1:atI (D.str s::ts.map T.d) (1 + k)=some c.d:=by
   have e3:(1:Int) + k=((k.toNat + 1:Nat):Int):=by omega
   rw [e3]
   exact zbT (by simp [e])
  have k1:(1 + k).toNat=k.toNat + 1:=by omega
  have k2:(1 + k + 1).toNat=k.toNat + 2:=by omega
  have c1':cutG (D.str s::ts.map T.d) none (some (1 + k))=(D.str s::ts.map T.d).take (k.toNat + 1):=by rw [cut_lo _ _ (by omega) (by simp;omega),k1]
  have c2':cutG (D.str s::ts.map T.d) (some (1 + k + 1)) none=(D.str s::ts.map T.d).drop (k.toNat + 2):=by rw [cut_hi _ _ (by omega) (by simp;omega),k2]
  have md:=mid_d (s:=s) hl (putT c p n)
  rw [zjN e,d_nd,d_nd,← md]
  have l1:((D.str s::ts.map T.d).take (k.toNat + 1)).length≤1001:=by rw [List.length_take];simp;omega
  have l2:((D.str s::ts.map T.d).drop (k.toNat + 2)).length≤1001:=by rw [List.length_drop];simp;omega
  have dp:depL (p.map D.int)≤1:=by
   have:∀ l:List Int,depL (l.map D.int)≤1:=by
    intro l
    induction l with
    | nil=>simp [depL]
    | cons x l ih=>simp only [List.map_cons,depL,dep];omega
   exact this p
  generalize (D.str s::ts.map T.d)=L at a1 c1' c2' l1 l2 ⊢
  generalize L.take (k.toNat + 1)=A at c1' l1 ⊢
  generalize L.drop (k.toNat + 2)=B at c2' l2 ⊢
  have z1:A.length + 1≤1000000:=by omega
  have z2:A.length + 1 + B.length≤1000000:=by omega
  have z2':A.length + (B.length + 1)≤1000000:=by omega
  have dz:max 1 (depL (p.map D.int)) + 1≤100:=by omega
  unfold pD at ih
  simp! [zcd,pD,a1,c1',c2',ih,z1,z2,cut1,eqL,eqD,dep,depL,dz]
theorem zjR {t u:T}{p:List Int} (h:zaF t p=some u) (i:Nat):∃ c,zaF t (p.take i)=some c:=by
 by_cases hi:i≤p.length
 ·have w:=zfk p t u h i hi
  rw [← w,List.getElem?_eq_getElem (by rw [zfj p t u h];omega)]
  exact ⟨_,rfl⟩
 ·rw [List.take_of_length_le (by omega)];exact ⟨u,h⟩
theorem e_put_at (t u n:T) (p:List Int) (h:zaF t p=some u) (hp:p.length≤1000) (hz:t.size≤1000):zbB [t.d,pD p,n.d]=some (putT t p n).d:=by
 have e1:=e_way t u p h hp
 have hl:=zfj p t u h
 have cutW:cutG ((wayT t p).map T.d) none (some (-1))=((wayT t p).take p.length).map T.d:=by
  have:HT.sIx ((wayT t p).map T.d).length ((wayT t p).map T.d).length (some (-1))=p.length:=by
   rw [List.length_map,hl]
   simp [HT.sIx]
   omega
  unfold cutG
  rw [this,HT.sIx_none,List.drop_zero,Nat.sub_zero,List.map_take]
 have zl:(zdq (((wayT t p).take p.length).map T.d) (p.map D.int)).length=p.length:=by simp [zdq];omega
 have zg:∀ i,(hi:i < p.length)→∀ w,zaF t (p.take i)=some w→(zdq (((wayT t p).take p.length).map T.d) (p.map D.int))[i]?=some (.tup [w.d,.int p[i]]):=fun i hi w hw=>by
  have w1:=zfk p t u h i (by omega)
  rw [hw] at w1
  have i1:i < (wayT t p).length:=by omega
  rw [List.getElem?_eq_getElem i1] at w1
  rw [List.getElem?_eq_getElem (by rw [zl];exact hi)]
  simp [zdq,Option.some.inj w1]
 obtain ⟨ρ',f1,c,a,b,rfl,h1,h2⟩:=zcn (g:=gTup (zaY (gN 5) (zaY (gN 6) gNil))) (b:=zgL zbM FUEL) (xs:=(zdq (((wayT t p).take p.length).map T.d) (p.map D.int)).reverse) (ρ:=[some (.dat t.d),some (.dat (pD p)),some (.dat n.d),some (.dat (.lst (((wayT t p).take p.length).map T.d))),some (.dat n.d),none,none])
  (fun i ρ=>∃ (c:T) (a b:Option Sl),ρ=[some (.dat t.d),some (.dat (pD p)),some (.dat n.d),some (.dat (.lst (((wayT t p).take p.length).map T.d))),some (.dat (putT c (p.drop (p.length - i)) n).d),a,b]∧zaF t (p.take (p.length - i))=some c∧i≤p.length) ⟨u,none,none,by simp [zeG],by simpa using h,Nat.zero_le _⟩ (by
   rintro i x ρ hx ⟨c,a,b,rfl,hc,hi⟩
   have hi2:i < p.length:=by
    have:=(List.getElem?_eq_some_iff.mp hx).1
    rwa [List.length_reverse,zl] at this
   obtain ⟨w,hw⟩:=zjR h (p.length - 1 - i)
   rw [List.getElem?_reverse (by rw [zl];exact hi2),zl] at hx
   have hj:p.length - 1 - i < p.length:=by omega
   rw [zg _ hj w hw] at hx
   cases hx
   have ej:p.length - i=p.length - 1 - i + 1:=by omega
   rw [ej,List.take_succ_eq_append_getElem hj,zcj _ _ _ _ hw] at hc
   generalize hk:p[p.length - 1 - i]=k at hc
   obtain ⟨s,ts,c',rfl,h0,e,h3⟩:=zaS hc
   have h3:some c'=some c:=by cases c'<;>simpa [zaF] using h3
   cases h3
   have hlt:k.toNat < ts.length:=(List.getElem?_eq_some_iff.mp e).1
   have sz:=zbX _ _ _ hw
   rw [T.size] at sz
   have tl:=zbq ts
   have dr:p.drop (p.length - (i + 1))=k::p.drop (p.length - i):=by
    rw [show p.length - (i + 1)=p.length - 1 - i by omega,List.drop_eq_getElem_cons hj,hk,← ej]
   refine ⟨[some (.dat t.d),some (.dat (pD p)),some (.dat n.d),some (.dat (.lst (((wayT t p).take p.length).map T.d))),some (.dat (putT (.nd s ts) (p.drop (p.length - (i + 1))) n).d),some (.dat (T.nd s ts).d),some (.dat (.int k))],.inl ?_,T.nd s ts,_,_,rfl,?_,by omega⟩
   ·rw [dr,zjN e]
    rw [ej]
    generalize putT c (p.drop (p.length - 1 - i + 1)) n=y
    rw [d_nd,d_nd]
    have k1:(k + 1).toNat=k.toNat + 1:=by omega
    have k2:(k + 2).toNat=k.toNat + 2:=by omega
    have c1':cutG (D.str s::ts.map T.d) none (some (k + 1))=(D.str s::ts.map T.d).take (k.toNat + 1):=by rw [cut_lo _ _ (by omega) (by simp;omega),k1]
    have c2':cutG (D.str s::ts.map T.d) (some (k + 2)) none=(D.str s::ts.map T.d).drop (k.toNat + 2):=by rw [cut_hi _ _ (by omega) (by simp;omega),k2]
    have md:=mid_d (s:=s) hlt y
    rw [← md]
    have l1:((D.str s::ts.map T.d).take (k.toNat + 1)).length≤1001:=by rw [List.length_take];simp;omega
    have l2:((D.str s::ts.map T.d).drop (k.toNat + 2)).length≤1001:=by rw [List.length_drop];simp;omega
    generalize (D.str s::ts.map T.d)=L at c1' c2' l1 l2 ⊢
    generalize L.take (k.toNat + 1)=AA at c1' l1 ⊢
    generalize L.drop (k.toNat + 2)=BB at c2' l2 ⊢
    have z1:AA.length + 1≤1000000:=by omega
    have z2:AA.length + 1 + BB.length≤1000000:=by omega
    simp! [c1',c2',z1,z2]
   ·rw [show p.length - (i + 1)=p.length - 1 - i by omega];exact hw)
 rw [List.length_reverse,zl,Nat.sub_self,List.drop_zero] at f1
 rw [List.length_reverse,zl,Nat.sub_self,List.take_zero] at h1
 have h1:some t=some c:=by cases t<;>simpa [zaF] using h1
 cases h1
 generalize hW:((wayT t p).take p.length).map T.d=W at cutW f1
 unfold pD at e1 f1 ⊢
 simp! [zbB,e1,cutW,cRv,zipD,f1]
mutual
theorem eq_dT:∀ t:T,eqD t.d t.d=some true
 | .bl x=>by simp [d_bl,eqD]
 | .nd s ts=>by simp [d_nd,eqD,eqL,eq_dTs ts]
theorem eq_dTs:∀ ts:List T,eqL (ts.map T.d) (ts.map T.d)=some true
 | []=>by simp [eqL]
 | t::ts=>by simp [eqL,eq_dT t,eq_dTs ts]
end
theorem zna:∀ p q:List Int,eqL (p.map D.int) (q.map D.int)=some (decide (p=q))
 | [],[]=>by simp [eqL]
 | [],_::_=>by simp [eqL]
 | _::_,[]=>by simp [eqL]
 | a::p,b::q=>by
  simp only [List.map_cons,eqL,eqD,zna p q]
  by_cases h:a=b
  ·subst h;simp
  ·simp [h]
theorem dep_ints (p:List Int):depL (p.map D.int)≤1:=by
 induction p with
 | nil=>simp [depL]
 | cons x l ih=>simp only [List.map_cons,depL,dep];omega
theorem zcz:∀ (p:List Int) (t u:T),zaF t p=some u→u.depth≤t.depth
 | [],t,u,h=>by
  have:some t=some u:=by cases t<;>simpa [zaF] using h
  rw [Option.some.inj this];exact Nat.le_refl _
 | k::p,t,u,h=>by
  obtain ⟨s,ts,c,rfl,h0,e,h2⟩:=zaS h
  have h1:=zcz p c u h2
  have h3:=zbu (List.mem_of_getElem? e)
  rw [T.depth];omega
noncomputable abbrev zhd (zad zba:List D→Option D) (n:Nat):En→Option D:=
 (cL zba (zaa (gv 0) (zaa (gv 1) nilF)))
noncomputable abbrev zgF (zad zba:List D→Option D) (n:Nat):En→Option Fl:=
 (seqM (ifM (upT (cT (cL zad (zaa (gv 0) nilF)))) (retM (c3 zfZ (gb 1) (gv 0) (gv 0))) nxM) (retM (c2 addD (cL zbL (zaa (c2 idxD (gb 0) (cst (.int 0))) nilF)) (cL zdm (zaa (zcq [none,some 1] (cI (cS zbi (gb 0) (zbV (cst (.int 1))) zck)) (gN 0) yesP (zhd zad zba n)) nilF)))))
noncomputable def zcu:Nat→List D→Option D
 | 0=>fun _=>none
 | n + 1=>runF (zgF zad (zcu n) FUEL) 2 2
noncomputable def zba:List D→Option D:=zcu 100
noncomputable abbrev zdR (zah:List D→Option D) (n:Nat):En→Option D:=
 (cL zah (zaa (gv 0) (zaa (gv 1) nilF)))
noncomputable abbrev zdj (zah:List D→Option D) (n:Nat):En→Option Fl:=
 (seqM (ifM (upT (cT (c1 (isiD "str") (gb 0)))) (retM (c3 zfZ (gb 1) (gv 0) (gv 0))) nxM) (retM (c2 addD (cS zbi (gb 0) zck (zbV (cst (.int 1)))) (cL zdm (zaa (zcq [none,some 1] (cI (cS zbi (gb 0) (zbV (cst (.int 1))) zck)) (gN 0) yesP (zdR zah n)) nilF)))))
noncomputable def zbl:Nat→List D→Option D
 | 0=>fun _=>none
 | n + 1=>runF (zdj (zbl n) FUEL) 2 2
noncomputable def zah:List D→Option D:=zbl 100
noncomputable abbrev Fil:=List (Str×T)
noncomputable def fks (φ:Fil):List KD:=φ.map fun p=>KD.str p.1
noncomputable def fds (φ:Fil):List D:=φ.map fun p=>p.2.d
noncomputable def fdic (φ:Fil):D:=.dic (fks φ) (fds φ)
noncomputable def fval (φ:Fil) (x:Str):Option T:=(φ.find? fun p=>decide (p.1=x)).map (·.2)
theorem zhN (φ:Fil):kOk (fks φ)=true:=by
 unfold kOk fks
 rw [List.all_map]
 exact List.all_eq_true.mpr fun p _=>rfl
theorem zhM (x:Str):∀ φ:Fil,valD (fks φ) (fds φ) (.str x)=(fval φ x).map T.d
 | []=>by simp [valD,fks,fval]
 | (y,t)::φ=>by
  have ih:=zhM x φ
  by_cases h:y=x
  ·subst h;simp [valD,fks,fds,fval]
  ·have h':¬ KD.str y=KD.str x:=fun z=>h (by cases z;rfl)
   simp only [valD,fks,fds,fval,List.map_cons,List.zip_cons_cons,List.find?_cons,h,h',decide_false] at ih ⊢
   exact ih
mutual
noncomputable def zbv (φ:Fil):T→T
 | .bl x=>(fval φ x).getD (.bl x)
 | .nd s ts=>.nd s (zcU φ ts)
noncomputable def zcU (φ:Fil):List T→List T
 | []=>[]
 | t::r=>zbv φ t::zcU φ r
end
theorem zcJ (φ:Fil):∀ ts:List T,zcU φ ts=ts.map (zbv φ)
 | []=>by simp [zcU]
 | t::r=>by simp [zcU,zcJ φ r]
theorem zft {φ:Fil}{x:Str} {t:T}(h:fval φ x=some t):∃ p∈φ,p.1=x∧p.2=t:=by
 unfold fval at h
 cases e:φ.find? fun p=>decide (p.1=x) with
 | none=>rw [e] at h;cases h
 | some p=>
  rw [e] at h;cases h
  exact ⟨p,List.mem_of_find?_eq_some e,by simpa using List.find?_some e,rfl⟩
mutual
theorem zfI {φ:Fil}{m:Nat} (hm:∀ p∈φ,p.2.depth≤m):∀ t:T,(zbv φ t).depth≤t.depth + m
 | .bl x=>by
  rw [zbv]
  cases e:fval φ x with
  | none=>simp [T.depth]
  | some t=>
   obtain ⟨p,hp,_,rfl⟩:=zft e
   have:=hm p hp
   simp;omega
 | .nd s ts=>by
  have:=zgR hm ts
  rw [zbv]
  simp only [T.depth];omega
theorem zgR {φ:Fil}{m:Nat} (hm:∀ p∈φ,p.2.depth≤m):∀ ts:List T,T.depths (zcU φ ts)≤T.depths ts + m
 | []=>by simp [zcU,T.depths]
 | t::r=>by
  have h1:=zfI hm t
  have h2:=zgR hm r
  rw [zcU]
  simp only [T.depths];omega
end
theorem zkU (φ:Fil):∀ (n:Nat) (t:T),t.depth≤n→t.size≤1000→zcu n [t.d,fdic φ]=some (zbv φ t).d
 | 0,t,h,_=>by have:=zdu t;omega
 | n + 1,.bl x,h,_=>by
  have ib:=zbA (.bl x)
  have ok:=zhN φ
  have fv:=zhM x φ
  have hd:((fval φ x).map T.d).getD (.str x)=(zbv φ (.bl x)).d:=by
   rw [zbv]
   cases fval φ x<;>simp [d_bl]
  rw [← hd]
  simp only [d_bl] at ib ⊢
  simp! [zcu,fdic,ib,T.isBl,ok,fv,kdK]
 | n + 1,.nd s ts,h,hz=>by
  rw [T.depth] at h
  rw [T.size] at hz
  have kl:=zbq ts
  have hl:ts.length≤1000000:=by omega
  have ib:=zbA (.nd s ts)
  have w1:zcp (gN 0) yesP (zhd zad (zcu n) FUEL) [none,some (.dat (fdic φ))] (ts.map T.d)=some ((zcU φ ts).map T.d):=by
   rw [zcJ]
   refine zcH (by simp) fun i x y hx hy=>?_
   rw [List.getElem?_map] at hx
   rw [List.map_map,List.getElem?_map] at hy
   cases e:ts[i]? with
   | none=>rw [e] at hx;cases hx
   | some t=>
    rw [e] at hx hy
    cases hx;cases hy
    have hm:=List.mem_of_getElem? e
    have d1:=zbu hm
    have d2:=zbw hm
    exact ⟨_,rfl,rfl,by simp! [zkU φ n t (by omega) (by omega)]⟩
  have fl:(zcU φ ts).length=ts.length:=by rw [zcJ];simp
  have z1:1 + ts.length≤1000000:=by omega
  rw [zbv,d_nd,d_nd]
  rw [d_nd] at ib
  simp! [zcu,ib,T.isBl,cut1,w1,hl,fl,z1]
theorem zgU (φ:Fil):∀ (n:Nat) (t:T),t.depth≤n→t.size≤1000→zbl n [t.d,fdic φ]=some (zbv φ t).d
 | 0,t,h,_=>by have:=zdu t;omega
 | n + 1,.bl x,h,_=>by
  have ok:=zhN φ
  have fv:=zhM x φ
  have hd:((fval φ x).map T.d).getD (.str x)=(zbv φ (.bl x)).d:=by
   rw [zbv]
   cases fval φ x<;>simp [d_bl]
  rw [← hd]
  simp! [zbl,fdic,d_bl,ok,fv,kdK]
 | n + 1,.nd s ts,h,hz=>by
  rw [T.depth] at h
  rw [T.size] at hz
  have kl:=zbq ts
  have hl:ts.length≤1000000:=by omega
  have w1:zcp (gN 0) yesP (zdR (zbl n) FUEL) [none,some (.dat (fdic φ))] (ts.map T.d)=some ((zcU φ ts).map T.d):=by
   rw [zcJ]
   refine zcH (by simp) fun i x y hx hy=>?_
   rw [List.getElem?_map] at hx
   rw [List.map_map,List.getElem?_map] at hy
   cases e:ts[i]? with
   | none=>rw [e] at hx;cases hx
   | some t=>
    rw [e] at hx hy
    cases hx;cases hy
    have hm:=List.mem_of_getElem? e
    have d1:=zbu hm
    have d2:=zbw hm
    exact ⟨_,rfl,rfl,by simp! [zgU φ n t (by omega) (by omega)]⟩
  have fl:(zcU φ ts).length=ts.length:=by rw [zcJ];simp
  have z1:1 + ts.length≤1000000:=by omega
  have c0:cutG (D.str s::ts.map T.d) none (some 1)=[D.str s]:=by
   have:=znn (D.str s::ts.map T.d) 1 (by simp)
   simpa using this
  rw [zbv,d_nd,d_nd]
  simp! [zbl,cut1,c0,w1,hl,fl,z1]
noncomputable def putF (φ:Fil) (x:Str) (t:T):Fil:=if (φ.any fun p=>decide (p.1=x))=true then φ.map (fun p=>if p.1=x then (p.1,t) else p) else φ++[(x,t)]
theorem zmf (φ:Fil) (x:Str) (t:T):putD (fks φ) (fds φ) (.str x) t.d=(fks (putF φ x t),fds (putF φ x t)):=by
 have ha:((fks φ).any fun y=>decide (y=KD.str x))=(φ.any fun p=>decide (p.1=x)):=by
  unfold fks
  rw [List.any_map]
  congr 1
  funext p
  simp
 unfold putD putF
 rw [ha]
 split
 ·have h1:fks (φ.map fun p=>if p.1=x then (p.1,t) else p)=fks φ:=by
   unfold fks
   rw [List.map_map]
   apply List.map_congr_left
   intro p _
   simp only [Function.comp]
   split<;>rfl
  have h2:((fks φ).zip (fds φ)).map (fun p=>if p.1=KD.str x then t.d else p.2)=fds (φ.map fun p=>if p.1=x then (p.1,t) else p):=by
   unfold fks fds
   rw [List.zip_map',List.map_map,List.map_map]
   apply List.map_congr_left
   intro p _
   simp only [Function.comp,KD.str.injEq]
   split<;>rfl
  rw [h1,h2]
 ·simp [fks,fds]
theorem putF_mem {φ:Fil}{x:Str} {t:T}{p:Str×T} (h:p∈putF φ x t):p∈φ∨p.2=t:=by
 unfold putF at h
 split at h
 ·obtain ⟨q,hq,rfl⟩:=List.mem_map.mp h
  split
  ·exact .inr rfl
  ·exact .inl hq
 ·rcases List.mem_append.mp h with h | h
  ·exact .inl h
  ·rw [List.mem_singleton.mp h];exact .inr rfl
theorem putF_len (φ:Fil) (x:Str) (t:T):(putF φ x t).length≤φ.length + 1:=by
 unfold putF
 split<;>simp
theorem zmO:∀ (l b:List Str),l.Nodup→(∀ x∈l,x∈b)→l.length≤b.length
 | [],b,_,_=>Nat.zero_le _
 | x::l,b,h,hs=>by
  rw [List.nodup_cons] at h
  have hx:=hs x (by simp)
  have:=zmO l (b.erase x) h.2 fun y hy=>(List.mem_erase_of_ne (fun z=>h.1 (by rw [← z];exact hy))).mpr (hs y (List.mem_cons_of_mem _ hy))
  rw [List.length_erase_of_mem hx] at this
  have:=List.length_pos_of_mem hx
  rw [List.length_cons];omega
theorem ziq (x:Str):∀ bs:List Str,inL (.str x) (bs.map D.str)=some (decide (x∈bs))
 | []=>by simp [inL]
 | b::bs=>by
  simp only [List.map_cons,inL,eqD,ziq x bs]
  by_cases h:b=x
  ·subst h;simp
  ·have h2:(b == x)=false:=by simpa using h
   have h3:¬ x=b:=fun z=>h z.symm
   simp [h2,h3]
theorem zit (l:List Str):depL (l.map D.str)≤1:=by
 induction l with
 | nil=>simp [depL]
 | cons x l ih=>simp only [List.map_cons,depL,dep];omega
noncomputable def nb (s:Option Sl):Bool:=match s with
 | some (.bor _)=>false
 | _=>true
theorem zbK (s:Option Sl) (ρ:En):zgy (s::ρ)=(nb s && zgy ρ):=rfl
theorem zcl:zgy []=true:=rfl
theorem zfr (d:D):nb (some (.dat d))=true:=rfl
theorem zfq (q:Bool) (d:D):nb (some (.ow q d))=true:=rfl
theorem zil:nb none=true:=rfl
noncomputable abbrev zca (zac:List D→Option D) (n:Nat):En→Option Bool:=
 (cT (c2 zdM (gv 0) (gb 1)))
noncomputable abbrev zcb (zac:List D→Option D) (n:Nat):En→Option D:=
 (gv 0)
noncomputable abbrev zcS (zac:List D→Option D) (n:Nat):En→Option Fl:=
 (setM 1 (c2 addD (gb 1) (zcq [none,some 1] (cI (cL zac (zaa (gv 2) nilF))) (gN 0) (zca zac n) (zcb zac n))))
noncomputable abbrev zct (zac:List D→Option D) (n:Nat):En→Option Fl:=
 (seqM (ifM (upT (cT (c1 (isiD "str") (gb 0)))) (retM (cL zbs (zaa (gv 0) nilF))) nxM) (seqM (setM 1 (cL zbs nilF)) (seqM (forS (cI (cS zbi (gb 0) (zbV (cst (.int 1))) zck)) (gN 2) (zcS zac n)) (retM (gv 1)))))
noncomputable def zaM:Nat→List D→Option D
 | 0=>fun _=>none
 | n + 1=>runF (zct (zaM n) FUEL) 1 3
noncomputable def zac:List D→Option D:=zaM 100
noncomputable abbrev zcP (zad:List D→Option D) (n:Nat):En→Option Fl:=
 (seqM (ifM (upT (orP (cT (cL zad (zaa (gv 0) nilF))) (cT (cL zad (zaa (gv 1) nilF))))) (retM (cst .non)) nxM) (seqM (ifM (upT (orP (cT (c2 neB (c2 idxD (gb 0) (cst (.int 0))) (c2 idxD (gb 1) (cst (.int 0))))) (cT (c2 neB (cL lenD (zaa (gb 0) nilF)) (cL lenD (zaa (gb 1) nilF)))))) (retM (cst .non)) nxM) (retM (c2 zipD (cS zbi (gb 0) (zbV (cst (.int 1))) zck) (cS zbi (gb 1) (zbV (cst (.int 1))) zck)))))
noncomputable def zax:List D→Option D:=runF (zcP zad FUEL) 2 2
noncomputable abbrev zjl (zad zax:List D→Option D) (n:Nat):En→Option Fl:=
 (seqM (asgX (zea 3 (cst (.int 0))) (gTup (zaY (gN 4) (zaY (gN 5) gNil)))) (seqM (ifM (upT (cT (cL zad (zaa (gv 4) nilF)))) (seqM (ifM (cmpX neB (sdfM 2 (gv 4) (gv 5)) (gb 5)) (retM (cst .non)) nxM) (fun ρ=>some (.ct ρ))) nxM) (seqM (setM 6 (cL zax (zaa (gv 4) (zaa (gv 5) nilF)))) (seqM (ifM (upT (cT (c2 isB (gb 6) (cst .non)))) (retM (cst .non)) nxM) (setO 3 (c2 catD (gb 6) (gb 3)))))))
noncomputable abbrev zjY (zad zax:List D→Option D) (n:Nat):En→Option Fl:=
 (seqM (setO 2 (cst (.dic [] []))) (seqM (setO 3 (cL zbs (zaa (cL zbL (zaa (gv 0) (zaa (gv 1) nilF))) nilF))) (seqM (zcE (upT (cTr (gb 3))) (zjl zad zax n) n) (retO 2))))
noncomputable def zdb:List D→Option D:=runF (zjY zad zax FUEL) 2 7
noncomputable abbrev zeX (zav:D→List D→Option (D×D)) (n:Nat):En→Option Fl:=
 (ifM (notM (valX (zcr zav 2 (zaa (c2 idxD (gb 0) (gb 3)) (zaa (c2 idxD (gb 1) (gb 3)) nilF))))) (retM (cst (.bl false))) nxM)
noncomputable abbrev zej (zav:D→List D→Option (D×D)) (n:Nat):En→Option Fl:=
 (seqM (ifM (upT (cT (c1 (isiD "str") (gb 0)))) (seqM (ifM (upT (cT (c2 (inK not) (gv 0) (gb 2)))) (zfA 2 (gv 0) (gv 1)) nxM) (retM (c2 eqB (c2 idxK (gb 2) (gv 0)) (gb 1)))) nxM) (seqM (ifM (upT (orP (cT (c1 (isiD "str") (gb 1))) (orP (cT (c2 neB (c2 idxD (gb 0) (cst (.int 0))) (c2 idxD (gb 1) (cst (.int 0))))) (cT (c2 neB (cL lenD (zaa (gb 0) nilF)) (cL lenD (zaa (gb 1) nilF))))))) (retM (cst (.bl false))) nxM) (seqM (forS (cR2 (cst (.int 1)) (cL lenD (zaa (gb 1) nilF))) (gN 3) (zeX zav n)) (retM (cst (.bl true))))))
noncomputable def zaH:Nat→D→List D→Option (D×D)
 | 0=>fun _ _=>none
 | n + 1=>runX (zej (zaH n) FUEL) 3 4 2
noncomputable def zav:D→List D→Option (D×D):=zaH 100
open Classical in
mutual
theorem eqT:∀ t u:T,eqD t.d u.d=some (decide (t=u))
 | .bl x,.bl y=>by
  simp only [d_bl,eqD]
  by_cases h:x=y
  ·subst h;simp
  ·have h2:(x == y)=false:=by simpa using h
   simp [h,h2]
 | .bl x,.nd s ts=>by simp [d_bl,d_nd,eqD]
 | .nd s ts,.bl x=>by simp [d_bl,d_nd,eqD]
 | .nd s ts,.nd r us=>by
  simp only [d_nd,eqD,eqL,eqTs ts us]
  by_cases h:s=r
  ·subst h;simp
  ·have h2:(s == r)=false:=by simpa using h
   simp [h,h2]
theorem eqTs:∀ ts us:List T,eqL (ts.map T.d) (us.map T.d)=some (decide (ts=us))
 | [],[]=>by simp [eqL]
 | [],_::_=>by simp [eqL]
 | _::_,[]=>by simp [eqL]
 | t::ts,u::us=>by
  simp only [List.map_cons,eqL,eqT t u,eqTs ts us]
  simp [Bool.decide_and]
end
noncomputable def zec:T→T→Option (List (T×T))
 | .nd s ts,.nd r us=>if s=r∧ts.length=us.length then some (ts.zip us) else none
 | _,_=>none
noncomputable def ptD (p:T×T):D:=.tup [p.1.d,p.2.d]
noncomputable def ziY (o:Option (List (T×T))):D:=match o with
 | some l=>.lst (l.map ptD)
 | none=>.non
theorem zmw (ts us:List T):zdq (ts.map T.d) (us.map T.d)=(ts.zip us).map ptD:=by
 unfold zdq
 induction ts generalizing us with
 | nil=>simp
 | cons t ts ih=>
  cases us with
  | nil=>simp
  | cons u us=>simp [ptD,ih us]
theorem ne_str (x y:Str):neB (.str x) (.str y)=some (.bl (!decide (x=y))):=by
 by_cases h:x=y
 ·subst h;simp [neB,eqD,dep]
 ·have h2:(x == y)=false:=by simpa using h
  simp [neB,eqD,dep,h,h2]
theorem zkI (x y:Int):neB (.int x) (.int y)=some (.bl (!decide (x=y))):=by
 by_cases h:x=y
 ·subst h;simp [neB,eqD,dep]
 ·have h2:(x == y)=false:=by simpa using h
  simp [neB,eqD,dep,h,h2]
theorem e_paired (a b:T) (ha:a.size≤1000) (hb:b.size≤1000):zax [a.d,b.d]=some (ziY (zec a b)):=by
 have i1:=zbA a
 have i2:=zbA b
 cases a with
 | bl x => 
  simp only [T.isBl] at i1
  dsimp! [zax,i1,zec,ziY]
 | nd s ts=>
  simp only [T.isBl] at i1
  cases b with
  | bl y=>
   simp only [T.isBl] at i2
   dsimp! [zax,i1,i2,zec,ziY]
  | nd r us=>
   simp only [T.isBl] at i2
   rw [d_nd] at i1 i2
   have n1:=ne_str s r
   have n2:=zkI ((ts.length:Int) + 1) ((us.length:Int) + 1)
   have pm:=zmw ts us
   rw [d_nd,d_nd]
   by_cases h1:s=r
   ·subst h1
    by_cases h2:ts.length=us.length
    ·have h3:((ts.length:Int) + 1=(us.length:Int) + 1):=by omega
     simp only [h3,decide_true,Bool.not_true] at n2
     have n1':neB (D.str s) (D.str s)=some (.bl false):=by simpa using n1
     have h4:(ts.length:Int)=(us.length:Int):=by omega
     dsimp! [zax,i1,i2,n1',h4,n2,zipD,cut1,pm,zec,ziY,h2]
    ·have h3:¬ ((ts.length:Int) + 1=(us.length:Int) + 1):=by omega
     simp only [h3,decide_false,Bool.not_false] at n2
     have n1':neB (D.str s) (D.str s)=some (.bl false):=by simpa using n1
     dsimp! [zax,i1,i2,n1',n2,zec,ziY,h2]
   ·simp only [h1,decide_false,Bool.not_false] at n1
    dsimp! [zax,i1,i2,n1,zec,ziY,h1]
open Classical in
noncomputable def mtB (φ:Fil) (x:Str) (u:T):Option Fil:=match fval φ x with
 | some v=>if v=u then some φ else none
 | none=>some (φ++[(x,u)])
mutual
noncomputable def mt (φ:Fil):T→T→Option Fil
 | .bl x,u=>mtB φ x u
 | .nd s ts,.nd r us=>if s=r∧ts.length=us.length then mts φ ts us else none
 | .nd _ _,.bl _=>none
noncomputable def mts (φ:Fil):List T→List T→Option Fil
 | t::ts,u::us=>(mt φ t u).bind fun φ'=>mts φ' ts us
 | [],_=>some φ
 | _::_,[]=>some φ
end
noncomputable def mtl (φ:Fil):List (T×T)→Option Fil
 | []=>some φ
 | (a,b)::ws=>(mt φ a b).bind fun φ'=>mtl φ' ws
theorem zmI:∀ (ts us:List T) (φ:Fil),ts.length=us.length→mts φ ts us=mtl φ (ts.zip us)
 | [],us,φ,h=>by cases us<;>simp [mts,mtl] at h ⊢
 | t::ts,[],φ,h=>by simp at h
 | t::ts,u::us,φ,h=>by
  rw [mts,List.zip_cons_cons,mtl]
  congr 1
  funext φ'
  exact zmI ts us φ' (by simpa using h)
theorem zhG:∀ (l ws:List (T×T)) (φ:Fil),mtl φ (l++ws)=(mtl φ l).bind fun φ'=>mtl φ' ws
 | [],ws,φ=>by simp [mtl]
 | (a,b)::l,ws,φ=>by
  rw [List.cons_append,mtl,mtl,Option.bind_assoc]
  congr 1
  funext φ'
  exact zhG l ws φ'
theorem mt_pair {φ:Fil}{s:Str} {ts:List T}{b:T}:mt φ (.nd s ts) b=match zec (.nd s ts) b with
  | some l=>mtl φ l
  | none=>none:=by
 cases b with
 | bl y=>simp [mt,zec]
 | nd r us=>
  simp only [mt,zec]
  by_cases h:s=r∧ts.length=us.length
  ·simp only [if_pos h];exact zmI ts us φ h.2
  ·simp only [if_neg h]
noncomputable def wsz (ws:List (T×T)):Nat:=T.sizes (ws.map (·.1))
theorem zhy (a b:List (T×T)):wsz (a++b)=wsz a + wsz b:=by simp [wsz,zaW]
theorem wsz_pair {s:Str}{ts:List T} {b:T}{l:List (T×T)} (h:zec (.nd s ts) b=some l):wsz l=T.sizes ts:=by
 cases b with
 | bl y=>simp [zec] at h
 | nd r us=>
  simp only [zec] at h
  split at h
  ·rename_i hc
   cases h
   unfold wsz
   rw [List.map_fst_zip (by omega)]
  ·cases h
theorem pair_mem {a b:T}{l:List (T×T)} (h:zec a b=some l):∀ p∈l,p.1∈a.kids∧p.2∈b.kids:=by
 cases a with
 | bl y=>simp [zec] at h
 | nd s ts=>
  cases b with
  | bl y=>simp [zec] at h
  | nd r us=>
   simp only [zec] at h
   split at h
   ·cases h
    intro p hp
    exact ⟨(List.of_mem_zip hp).1,(List.of_mem_zip hp).2⟩
   ·cases h
open Classical in
theorem ne_T (t u:T) (h:t.depth≤90):neB t.d u.d=some (.bl (!decide (t=u))):=by
 have e:=eqT t u
 have d:=zlF t
 have d':dep t.d≤100:=by omega
 simp [neB,e,d']
theorem zkA {φ:Fil}{x:Str} (u:T) (h:fval φ x=none):putF φ x u=φ++[(x,u)]:=by
 unfold putF
 rw [if_neg]
 intro z
 obtain ⟨p,hp,hq⟩:=List.any_eq_true.mp z
 unfold fval at h
 cases e:φ.find? fun p=>decide (p.1=x) with
 | some q=>rw [e] at h;cases h
 | none=>exact absurd hq (List.find?_eq_none.mp e p hp)
noncomputable def fitR (o:Option Fil):D:=match o with
 | some φ=>fdic φ
 | none=>.non
theorem e_fits (p t:T) (hp:p.size≤400) (ht:t.size≤400) (htd:t.depth≤90):zdb [p.d,t.d]=some (fitR (mt [] p t)):=by
 obtain ⟨fl,e1,P⟩:=zhz (t:=upT (cTr (gb 3))) (b:=zjl zad zax FUEL)
  (fun m ρ=>∃ (φ:Fil) (ws:List (T×T)) (s4 s5 s6:Option Sl),ρ=[some (.dat p.d),some (.dat t.d),some (.own (fdic φ)),some (.own (.lst (ws.map ptD))),s4,s5,s6]∧m=wsz ws∧mtl φ ws=mt [] p t∧(∀ q∈ws,q.1.size≤400∧q.2.size≤400∧q.2.depth≤90)∧(∀ v∈φ,v.2.depth≤90)∧φ.length + wsz ws≤400∧nb s4=true∧nb s5=true∧nb s6=true)
  (fun fl=>(∃ φ a b c d e f,fl=.nx [a,b,some (.own (fdic φ)),c,d,e,f]∧mt [] p t=some φ)∨(∃ ρ,fl=.rt .non ρ∧mt [] p t=none)) (by
   rintro m ρ ⟨φ,ws,s4,s5,s6,rfl,rfl,hr,hw,hφ,hl,n4,n5,n6⟩
   cases ws with
   | nil=>
    left
    refine ⟨[some (.dat p.d),some (.dat t.d),some (.own (fdic φ)),some (.own (.lst [])),s4,s5,s6],by simp [runF,zby,seqM,setM,setO,asgM,asgX,zgX,zdK,retM,retO,retN,ifM,upT,cT,cTr,truD,andP,orP,notP,andV,orV,notV,c1,c2,cL,cS,zaa,nilF,cst,gv,gb,gN,gNil,zaY,gTup,zck,zbV,zcq,yesP,cI,cR1,cR2,cEnT,forS,itS,rng1,rng2,appM,extM,popM,zea,zbL,zbs,nxM,isiD,tyN,isiB,lim,bors,st0E,negD,revX,revD,zdm,zgH,lenD,idxD,zbi,zfP,addD,catD,subD,mulD,divD,modD,powD,cmpI,geD,isB,zes,isNon,absD,intD,runX,zdn,zcr,retX,putM,zfA,keyD,frzM,c3,zfZ,zjt,zjs,cSg,zfY,itS,Sl.inn,Sl.own,zgG,inB,zdM,zcN,zed,zda,zcZ,zcY,zaZ,at0,at1,at2,at3],.inl ⟨φ,_,_,_,_,_,_,rfl,by rw [← hr];rfl⟩⟩
   | cons q ws=>
    obtain ⟨a,b⟩:=q
    right
    obtain ⟨h1,h2,h3⟩:a.size≤400∧b.size≤400∧b.depth≤90:=hw (a,b) (by simp)
    have hw':∀ q∈ws,q.1.size≤400∧q.2.size≤400∧q.2.depth≤90:=fun q hq=>hw q (List.mem_cons_of_mem _ hq)
    have ib:=zbA a
    have hz:wsz ((a,b)::ws)=a.size + wsz ws:=by simp [wsz,T.sizes]
    have hap:=zch a
    have six:seqIndex? 0 (ws.length + 1)=some 0:=by simp [seqIndex?]
    have r0:upT (cTr (gb 3)) [some (.dat p.d),some (.dat t.d),some (.own (fdic φ)),some (.own (.lst (((a,b)::ws).map ptD))),s4,s5,s6]=some (true,[some (.dat p.d),some (.dat t.d),some (.own (fdic φ)),some (.own (.lst (((a,b)::ws).map ptD))),s4,s5,s6]):=by simp [runF,zby,seqM,setM,setO,asgM,asgX,zgX,zdK,retM,retO,retN,ifM,upT,cT,cTr,truD,andP,orP,notP,andV,orV,notV,c1,c2,cL,cS,zaa,nilF,cst,gv,gb,gN,gNil,zaY,gTup,zck,zbV,zcq,yesP,cI,cR1,cR2,cEnT,forS,itS,rng1,rng2,appM,extM,popM,zea,zbL,zbs,nxM,isiD,tyN,isiB,lim,bors,st0E,negD,revX,revD,zdm,zgH,lenD,idxD,zbi,zfP,addD,catD,subD,mulD,divD,modD,powD,cmpI,geD,isB,zes,isNon,absD,intD,runX,zdn,zcr,retX,putM,zfA,keyD,frzM,c3,zfZ,zjt,zjs,cSg,zfY,itS,Sl.inn,Sl.own,zgG,inB,zdM,zcN,zed,zda,zcZ,zcY,zaZ,at0,at1,at2,at3]
    have pp:ptD (a,b)=.tup [a.d,b.d]:=rfl
    cases a with
    | bl x=>
     simp only [T.isBl] at ib
     have kl:(fks φ).length < 1000000:=by simp [fks];omega
     have ok:=zhN φ
     have fv:=zhM x φ
     rw [mtl,mt,mtB] at hr
     cases e:fval φ x with
     | some v=>
      rw [e] at hr fv
      obtain ⟨q,hq,_,rfl⟩:=zft e
      have nv:=ne_T q.2 b (hφ q hq)
      by_cases hv:q.2=b
      ·left
       simp only [hv,if_true] at hr
       simp only [hv,decide_true,Bool.not_true] at nv
       refine ⟨_,[some (.dat p.d),some (.dat t.d),some (.own (fdic φ)),some (.own (.lst (ws.map ptD))),some (.dat (.str x)),some (.dat b.d),s6],wsz ws,r0,.inr ?_,by rw [hz];simp [T.size],φ,ws,_,_,s6,rfl,rfl,by simpa using hr,hw',hφ,by rw [hz] at hl;omega,rfl,rfl,n6⟩
       simp only [d_bl] at ib pp
       simp only [d_bl,List.map_cons,fdic,hv] at fv ⊢
       dsimp! [pp,six,ib,ok,kl,fv,kdK,sdfM,cmpX,nv]
      ·right
       simp only [hv,if_false] at hr
       simp only [hv,decide_false,Bool.not_false] at nv
       refine ⟨_,.non,[some (.dat p.d),some (.dat t.d),some (.own (fdic φ)),some (.own (.lst (ws.map ptD))),some (.dat (.str x)),some (.dat b.d),s6],r0,?_,.inr ⟨_,rfl,by rw [← hr];rfl⟩⟩
       simp only [d_bl] at ib pp
       simp only [d_bl,List.map_cons,fdic] at fv ⊢
       dsimp! [pp,six,ib,ok,kl,fv,kdK,sdfM,cmpX,nv]
     | none=>
      rw [e] at hr fv
      left
      have pf:=zmf φ x b
      rw [zkA b e] at pf
      have nv:=ne_T b b h3
      simp only [decide_true,Bool.not_true] at nv
      refine ⟨_,[some (.dat p.d),some (.dat t.d),some (.own (fdic (φ++[(x,b)]))),some (.own (.lst (ws.map ptD))),some (.dat (.str x)),some (.dat b.d),s6],wsz ws,r0,.inr ?_,by rw [hz];simp [T.size],φ++[(x,b)],ws,_,_,s6,rfl,rfl,by simpa using hr,hw',fun v hv=>?_,by rw [hz] at hl;simp [T.size] at hl ⊢;omega,rfl,rfl,n6⟩
      ·simp only [d_bl] at ib pp
       simp only [d_bl,List.map_cons,fdic] at fv ⊢
       dsimp! [pp,six,ib,ok,kl,fv,kdK,sdfM,cmpX,nv,pf]
      ·rcases List.mem_append.mp hv with hv | hv
       ·exact hφ v hv
       ·rw [List.mem_singleton.mp hv];exact h3
    | nd s ts=>
     simp only [T.isBl] at ib
     have ep:=e_paired (.nd s ts) b (by omega) (by omega)
     rw [mtl,mt_pair] at hr
     cases e:zec (.nd s ts) b with
     | none=>
      rw [e] at hr ep
      right
      refine ⟨_,.non,[some (.dat p.d),some (.dat t.d),some (.own (fdic φ)),some (.own (.lst (ws.map ptD))),some (.dat (T.nd s ts).d),some (.dat b.d),some (.dat .non)],r0,?_,.inr ⟨_,rfl,by rw [← hr];rfl⟩⟩
      simp only [List.map_cons,ziY] at ep ⊢
      dsimp! [pp,six,ib,ep]
     | some l=>
      rw [e] at hr ep
      left
      have hzl:=wsz_pair e
      have ml:=pair_mem e
      have sl:=zbq (l.map (·.1))
      rw [List.length_map] at sl
      have sw:=zbq (ws.map (·.1))
      rw [List.length_map] at sw
      rw [hz] at hl
      simp only [T.size] at hl hz
      have hzl':T.sizes (l.map (·.1))=T.sizes ts:=hzl
      have hws:T.sizes (ws.map (·.1))=wsz ws:=rfl
      have z1:l.length + ws.length≤1000000:=by omega
      refine ⟨_,[some (.dat p.d),some (.dat t.d),some (.own (fdic φ)),some (.own (.lst ((l++ws).map ptD))),some (.dat (T.nd s ts).d),some (.dat b.d),some (.dat (.lst (l.map ptD)))],wsz (l++ws),r0,.inl ?_,by rw [zhy,hzl,hz];omega,φ,l++ws,_,_,_,rfl,rfl,by rw [zhG];exact hr,fun q hq=>?_,hφ,by rw [zhy,hzl];omega,rfl,rfl,rfl⟩
      ·simp only [List.map_cons,List.map_append,ziY] at ep ⊢
       dsimp! [pp,six,ib,ep,z1,zbK,zcl,zfr,zfq,zil]
      ·rcases List.mem_append.mp hq with hq | hq
       ·obtain ⟨m1,m2⟩:=ml q hq
        have k1:q.1.size≤T.sizes ts:=zbw m1
        have k2:q.2.size≤b.size:=by
         have:=zbw m2
         rw [zgl b];omega
        have k3:q.2.depth≤b.depth:=by
         cases b with
         | bl y=>simp [T.kids] at m2
         | nd r us=>
          have:=zbu (ts:=us) m2
          rw [T.depth];omega
        simp only [T.size] at h1
        exact ⟨by omega,by omega,by omega⟩
       ·exact hw' q hq
    ) FUEL (wsz [(p,t)]) [some (.dat p.d),some (.dat t.d),some (.own (fdic [])),some (.own (.lst ([(p,t)].map ptD))),none,none,none] ⟨[],[(p,t)],none,none,none,rfl,rfl,by simp [mtl],by simp;omega,by simp,by simp [wsz,T.sizes];omega,rfl,rfl,rfl⟩ (by simp [wsz,T.sizes];show p.size < FUEL;unfold FUEL;omega)
 have fe:fdic []=.dic [] []:=rfl
 rcases P with ⟨φ,a,b,c,d,e,f,rfl,hm⟩ | ⟨ρ,rfl,hm⟩
 ·rw [hm]
  simp only [fe,List.map_cons,List.map_nil,ptD] at e1
  dsimp! [zdb,zbK,zcl,zfr,zfq,zil,e1,fitR]
 ·rw [hm]
  simp only [fe,List.map_cons,List.map_nil,ptD] at e1
  dsimp! [zdb,zbK,zcl,zfr,zfq,zil,e1,fitR]
theorem eq_T (t u:T) (h:t.depth≤90):eqB t.d u.d=some (.bl (@decide (t=u) (Classical.propDecidable _))):=by
 have e:=eqT t u
 have d:=zlF t
 have d':dep t.d≤100:=by omega
 simp [eqB,e,d']
theorem zlB (n:Nat) (x:Str) (u:T) (φ:Fil) (hφ:∀ v∈φ,v.2.depth≤90) (hl:φ.length < 900000) (hu:u.depth≤90) :
  ∃ φ',zaH (n + 1) (fdic φ) [(T.bl x).d,u.d]=some (.bl (mt φ (.bl x) u).isSome,fdic φ')∧(∀ ψ,mt φ (.bl x) u=some ψ→φ'=ψ)∧(∀ v∈φ',v.2.depth≤90)∧φ'.length≤φ.length + 1:=by
 have kl:(fks φ).length < 1000000:=by simp [fks];omega
 have ok:=zhN φ
 have fv:=zhM x φ
 rw [mt,mtB]
 cases e:fval φ x with
 | some v=>
  rw [e] at fv
  obtain ⟨q,hq,_,rfl⟩:=zft e
  have ev:=eq_T q.2 u (hφ q hq)
  refine ⟨φ,?_,fun ψ hψ=>?_,hφ,by omega⟩
  ·by_cases hv:q.2=u
   ·simp only [hv,decide_true] at ev
    simp only [hv] at fv ⊢
    simp only [d_bl,fdic]
    dsimp! [zaH,ok,kl,fv,kdK,inK,idxK,ev]
   ·simp only [hv,decide_false] at ev
    simp only [hv] at fv ⊢
    simp only [d_bl,fdic]
    dsimp! [zaH,ok,kl,fv,kdK,inK,idxK,ev]
  ·simp only at hψ
   split at hψ
   ·exact Option.some.inj hψ
   ·cases hψ
 | none=>
  rw [e] at fv
  have pf:=zmf φ x u
  rw [zkA u e] at pf
  have fv2:=zhM x (φ++[(x,u)])
  have fn:fval (φ++[(x,u)]) x=some u:=by
   unfold fval at e ⊢
   cases e2:φ.find? fun p=>decide (p.1=x) with
   | some q=>rw [e2] at e;cases e
   | none=>rw [List.find?_append,e2];simp
  rw [fn] at fv2
  have ev:=eq_T u u hu
  simp only [decide_true] at ev
  have ok2:=zhN (φ++[(x,u)])
  refine ⟨φ++[(x,u)],?_,fun ψ hψ=>by simpa using hψ,fun v hv=>?_,by simp⟩
  ·simp only [d_bl,fdic]
   dsimp! [zaH,ok,ok2,kl,fv,fv2,kdK,inK,idxK,ev,pf]
  ·rcases List.mem_append.mp hv with hv | hv
   ·exact hφ v hv
   ·rw [List.mem_singleton.mp hv];exact hu
theorem zjL (lo:Int) (n i:Nat) (h:i < n):(zaU lo n).drop i=.int (lo + (i:Int))::(zaU lo n).drop (i + 1):=by
 have hl:i < (zaU lo n).length:=by rw [zau];exact h
 rw [List.drop_eq_getElem_cons hl]
 congr 1
 have:=zbn (List.getElem?_eq_getElem hl)
 exact this.2
noncomputable def Told (m:D→List D→Option (D×D)) (φ:Fil) (p t:T):Prop:=∃ φ',m (fdic φ) [p.d,t.d]=some (.bl (mt φ p t).isSome,fdic φ')∧(∀ ψ,mt φ p t=some ψ→φ'=ψ)∧(∀ v∈φ',v.2.depth≤90)∧φ'.length≤φ.length + p.size
theorem zlr (m:D→List D→Option (D×D)) (s r:Str) (ts us:List T) (hl:ts.length=us.length) (hm:∀ i (h1:i < ts.length) (h2:i < us.length) φ,(∀ v∈φ,v.2.depth≤90)→φ.length + ts[i].size≤1000→Told m φ ts[i] us[i]) :
  ∀ (j i:Nat),j=ts.length - i→i≤ts.length→∀ (φ:Fil) (k:Option Sl),(∀ v∈φ,v.2.depth≤90)→φ.length + T.sizes (ts.drop i)≤1000→
   ∃ (φ':Fil) (k':Option Sl),forM (gN 3) (zeX m FUEL) ((zaU 1 ts.length).drop i) [some (.dat (.tup (.str s::ts.map T.d))),some (.dat (.tup (.str r::us.map T.d))),some (.inn (fdic φ)),k] =
    some (if (mts φ (ts.drop i) (us.drop i)).isSome=true then .nx [some (.dat (.tup (.str s::ts.map T.d))),some (.dat (.tup (.str r::us.map T.d))),some (.inn (fdic φ')),k'] else .rt (.bl false) [some (.dat (.tup (.str s::ts.map T.d))),some (.dat (.tup (.str r::us.map T.d))),some (.inn (fdic φ')),k'])∧
    (∀ ψ,mts φ (ts.drop i) (us.drop i)=some ψ→φ'=ψ)∧(∀ v∈φ',v.2.depth≤90)∧φ'.length≤φ.length + T.sizes (ts.drop i):=by
 intro j
 induction j with
 | zero=>
  intro i hj hi φ k hφ hb
  have e:i=ts.length:=by omega
  subst e
  have e2:(zaU 1 ts.length).drop ts.length=[]:=List.drop_of_length_le (by rw [zau];exact Nat.le_refl _)
  refine ⟨φ,k,?_,?_,hφ,by omega⟩
  ·rw [e2,List.drop_length];simp [forM,mts]
  ·rw [List.drop_length];intro ψ h;simpa [mts] using h
 | succ j ih=>
  intro i hj hi φ k hφ hb
  have h1:i < ts.length:=by omega
  have h2:i < us.length:=by omega
  have dt:=List.drop_eq_getElem_cons h1
  have du:=List.drop_eq_getElem_cons h2
  rw [dt,T.sizes] at hb
  obtain ⟨φ1,t1,t2,t3,t4⟩:=hm i h1 h2 φ hφ (by omega)
  rw [zjL 1 ts.length i h1,dt,du,mts]
  have a1:atI (D.str s::ts.map T.d) (1 + (i:Int))=some ts[i].d:=by
   rw [show (1:Int) + (i:Int)=((i + 1:Nat):Int) by omega]
   exact zbT (by simp [h1])
  have a2:atI (D.str r::us.map T.d) (1 + (i:Int))=some us[i].d:=by
   rw [show (1:Int) + (i:Int)=((i + 1:Nat):Int) by omega]
   exact zbT (by simp [h2])
  cases e:mt φ ts[i] us[i] with
  | none=>
   rw [e] at t1
   refine ⟨φ1,some (.dat (.int (1 + (i:Int)))),?_,fun ψ h=>by simp at h,t3,by rw [T.sizes];omega⟩
   simp only [Option.isSome_none] at t1
   dsimp! [forM,notM,valX,a1,a2,t1]
  | some ψ=>
   rw [e] at t1
   have:=t2 ψ e
   subst this
   simp only [Option.isSome_some] at t1
   obtain ⟨φ',k',f1,f2,f3,f4⟩:=ih (i + 1) (by omega) (by omega) φ1 (some (.dat (.int (1 + (i:Int))))) t3 (by omega)
   refine ⟨φ',k',?_,fun ψ h=>f2 ψ (by simpa using h),f3,by rw [T.sizes];omega⟩
   simp only [Option.bind_some]
   rw [← f1]
   dsimp! [forM,notM,valX,a1,a2,t1]
theorem zng:∀ (n:Nat) (p t:T) (φ:Fil),p.depth≤n→p.size≤400→t.size≤400→t.depth≤90→(∀ v∈φ,v.2.depth≤90)→φ.length + p.size≤1000→Told (zaH n) φ p t
 | 0,p,t,φ,h,_,_,_,_,_=>by have:=zdu p;omega
 | n + 1,.bl x,t,φ,h,_,_,htd,hφ,hl=>by
  have:=zch (.bl x)
  exact zlB n x t φ hφ (by omega) htd
 | n + 1,.nd s ts,.bl y,φ,h,hp,ht,htd,hφ,hl=>by
  refine ⟨φ,?_,fun ψ h=>by simp [mt] at h,hφ,by omega⟩
  dsimp! [zaH,d_nd,d_bl,mt]
 | n + 1,.nd s ts,.nd r us,φ,h,hp,ht,htd,hφ,hl=>by
  have n1:=ne_str s r
  have n2:=zkI ((ts.length:Int) + 1) ((us.length:Int) + 1)
  by_cases hc:s=r∧ts.length=us.length
  ·obtain ⟨rfl,hlen⟩:=hc
   rw [T.depth] at h htd
   rw [T.size] at hp ht hl
   have kl:=zbq ts
   have n1':neB (D.str s) (D.str s)=some (.bl false):=by simpa using n1
   have h3:((ts.length:Int) + 1=(us.length:Int) + 1):=by omega
   simp only [h3,decide_true,Bool.not_true] at n2
   obtain ⟨φ',k',f1,f2,f3,f4⟩:=zlr (zaH n) s s ts us hlen (fun i h1 h2 ψ hψ hb=>by
    have m1:ts[i]∈ts:=List.getElem_mem h1
    have m2:us[i]∈us:=List.getElem_mem h2
    have d1:=zbu m1
    have d2:=zbu m2
    have z1:=zbw m1
    have z2:=zbw m2
    exact zng n _ _ ψ (by omega) (by omega) (by omega) (by omega) hψ hb) ts.length 0 (by omega) (by omega) φ none hφ (by rw [List.drop_zero];omega)
   rw [List.drop_zero,List.drop_zero,List.drop_zero] at f1
   rw [List.drop_zero,List.drop_zero] at f2
   have em:mt φ (.nd s ts) (.nd s us)=mts φ ts us:=by simp [mt,hlen]
   have r1:zeO 1:=zaZ (by decide) (by decide)
   have r2:zeO ((us.length:Int) + 1):=zaZ (by omega) (by omega)
   have e1:((us.length:Int) + 1 - 1).toNat=ts.length:=by omega
   have e1':us.length=ts.length:=hlen.symm
   have n3:neB (.int ((ts.length:Int) + 1)) (.int ((ts.length:Int) + 1))=some (.bl false):=by simpa using zkI ((ts.length:Int) + 1) ((ts.length:Int) + 1)
   have r3:zeO ((ts.length:Int) + 1):=zaZ (by omega) (by omega)
   refine ⟨φ',?_,by rw [em];exact f2,f3,by rw [List.drop_zero] at f4;rw [T.size];omega⟩
   rw [em]
   cases hs:(mts φ ts us).isSome
   ·rw [hs] at f1
    simp only [Bool.false_eq_true,if_false] at f1
    dsimp! [zaH,d_nd,e1',n1',n3,r1,r3,f1]
   ·rw [hs] at f1
    simp only [if_true] at f1
    dsimp! [zaH,d_nd,e1',n1',n3,r1,r3,f1]
  ·have em:mt φ (.nd s ts) (.nd r us)=none:=by simp only [mt,if_neg hc]
   refine ⟨φ,?_,(fun ψ h=>by rw [em] at h;cases h),hφ,by omega⟩
   rw [em]
   by_cases h1:s=r
   ·subst h1
    have h3:¬ ((ts.length:Int) + 1=(us.length:Int) + 1):=fun z=>hc ⟨rfl,by omega⟩
    simp only [h3,decide_false,Bool.not_false] at n2
    have n1':neB (D.str s) (D.str s)=some (.bl false):=by simpa using n1
    dsimp! [zaH,d_nd,n1',n2]
   ·simp only [h1,decide_false,Bool.not_false] at n1
    dsimp! [zaH,d_nd,n1]
mutual
noncomputable def bks:T→List Str
 | .bl x=>[x]
 | .nd _ ts=>bksL [] ts
noncomputable def bksL (acc:List Str):List T→List Str
 | []=>acc
 | t::ts=>bksL (acc++(bks t).filter fun x=>!decide (x∈acc)) ts
end
theorem znp {acc:List Str}(n:Nat) (hd:depL (acc.map D.str)≤100) (m:List D→Option D) (l:List Str) :
  zcp (gN 0) (zca m n) (zcb m n) [none,some (.dat (.lst (acc.map D.str)))] (l.map D.str)=some ((l.filter fun x=>!decide (x∈acc)).map D.str):=by
 have:=zhb (g:=gN 0) (t:=zca m n) (f:=zcb m n) (ρ:=[none,some (.dat (.lst (acc.map D.str)))]) (xs:=l.map D.str) (φ:=id)
  (p:=fun x=>match x with | .str z=>!decide (z∈acc) | _=>false) (by
   intro x hx
   obtain ⟨z,_,rfl⟩:=List.mem_map.mp hx
   have i1:=ziq z acc
   exact ⟨_,rfl,by simp! [i1,hd],fun _=>by simp [runF,zby,seqM,setM,setO,zgy,asgM,asgX,zgX,zdK,retM,retO,retN,ifM,upT,cT,cTr,truD,andP,orP,notP,andV,orV,notV,c1,c2,cL,cS,zaa,nilF,cst,gv,gb,gN,gNil,zaY,gTup,zck,zbV,zcq,yesP,cI,cR1,cR2,cEnT,forS,itS,rng1,rng2,appM,extM,popM,zea,zbL,zbs,nxM,isiD,tyN,isiB,lim,bors,st0E,negD,revX,revD,zdm,zgH,lenD,idxD,zbi,zfP,addD,catD,subD,mulD,divD,modD,powD,cmpI,geD,isB,zes,isNon,absD,intD,runX,zdn,zcr,retX,putM,zfA,keyD,frzM,c3,zfZ,zjt,zjs,cSg,zfY,itS,Sl.inn,Sl.own,zgG,eqB,neB,inB,zdM,zcN,zed,zda,zcZ,zcY,zaZ,at0,at1,at2,at3]⟩)
 rw [this]
 congr 1
 rw [List.filter_map,List.map_id]
 rfl
mutual
theorem ziD:∀ t:T,(bks t).length≤t.size
 | .bl x=>by simp [bks,T.size]
 | .nd s ts=>by have:=ziE ts [];simp [bks,T.size] at this ⊢;omega
theorem ziE:∀ (ts:List T) (l:List Str),(bksL l ts).length≤l.length + T.sizes ts
 | [],l=>by simp [bksL]
 | t::ts,l=>by
  have h1:=ziE ts (l++(bks t).filter fun x=>!decide (x∈l))
  have h2:=ziD t
  have h3:=List.length_filter_le (fun x=>!decide (x∈l)) (bks t)
  rw [List.length_append] at h1
  rw [bksL,T.sizes];omega
end
theorem zgV:∀ (n:Nat) (t:T),t.depth≤n→t.size≤900000→zaM n [t.d]=some (.lst ((bks t).map D.str))
 | 0,t,h,_=>by have:=zdu t;omega
 | n + 1,.bl x,h,_=>by simp! [zaM,d_bl,bks]
 | n + 1,.nd s ts,h,hz=>by
  rw [T.depth] at h
  rw [T.size] at hz
  obtain ⟨ρ',f1,k,rfl⟩:=zcn (g:=gN 2) (b:=zcS (zaM n) FUEL) (xs:=ts.map T.d) (ρ:=[some (.dat (.tup (.str s::ts.map T.d))),some (.dat (.lst [])),none])
   (fun i ρ=>∃ (k:Option Sl),ρ=[some (.dat (.tup (.str s::ts.map T.d))),some (.dat (.lst ((bksL [] (ts.take i)).map D.str))),k]) ⟨none,by simp [bksL]⟩ (by
    rintro i x ρ hx ⟨k,rfl⟩
    rw [List.getElem?_map] at hx
    cases e:ts[i]? with
    | none=>rw [e] at hx;cases hx
    | some t=>
     rw [e] at hx
     cases hx
     have hi:i < ts.length:=(List.getElem?_eq_some_iff.mp e).1
     have et:ts[i]=t:=by rw [List.getElem?_eq_getElem hi] at e;exact Option.some.inj e
     have hm:=List.mem_of_getElem? e
     have d1:=zbu hm
     have d2:=zbw hm
     have e1:=zgV n t (by omega) (by omega)
     have tk:ts.take (i + 1)=ts.take i++[t]:=by rw [List.take_succ_eq_append_getElem hi,et]
     have e5:bksL [] (ts.take (i + 1))=bksL [] (ts.take i)++(bks t).filter fun x=>!decide (x∈bksL [] (ts.take i)):=by
      have app:∀ (a b:List T) (l:List Str),bksL l (a++b)=bksL (bksL l a) b:=by
       intro a
       induction a with
       | nil=>intro b l;simp [bksL]
       | cons c a ih=>intro b l;rw [List.cons_append,bksL,bksL,ih]
      rw [tk,app,bksL,bksL]
     have l1:=ziE (ts.take i) []
     have e6:T.sizes (ts.take i) + t.size≤T.sizes ts:=by
      have:T.sizes ts=T.sizes (ts.take (i + 1)) + T.sizes (ts.drop (i + 1)):=by rw [← zaW,List.take_append_drop]
      rw [tk,zaW] at this
      simp only [T.sizes] at this
      omega
     have l2:=ziD t
     rw [e5]
     generalize bksL [] (ts.take i)=acc at l1 ⊢
     have dd:=zit acc
     have cf:=znp (acc:=acc) FUEL (by omega) (zaM n) (bks t)
     have l3:=List.length_filter_le (fun x=>!decide (x∈acc)) (bks t)
     simp only [List.length_nil,Nat.zero_add] at l1
     have z0:(bks t).length≤1000000:=by omega
     generalize hB:((bks t).filter fun x=>!decide (x∈acc))=B at cf l3 ⊢
     have z1:acc.length + B.length≤1000000:=by omega
     refine ⟨[some (.dat (.tup (.str s::ts.map T.d))),some (.dat (.lst ((acc++B).map D.str))),some (.dat t.d)],.inl ?_,_,rfl⟩
     simp! [e1,cf,z0,z1])
  rw [List.length_map,List.take_length] at f1
  simp! [zaM,d_nd,cut1,f1,bks]
mutual
theorem zgQ {φ:Fil}{m:Nat} (h1:1≤m) (hm:∀ p∈φ,p.2.size≤m):∀ t:T,(zbv φ t).size≤t.size * m
 | .bl x=>by
  rw [zbv]
  cases e:fval φ x with
  | none=>simp [T.size];exact h1
  | some t=>
   obtain ⟨p,hp,_,rfl⟩:=zft e
   have:=hm p hp
   simp [T.size];exact this
 | .nd s ts=>by
  have:=zhO h1 hm ts
  rw [zbv]
  simp only [T.size,Nat.add_mul];omega
theorem zhO {φ:Fil}{m:Nat} (h1:1≤m) (hm:∀ p∈φ,p.2.size≤m):∀ ts:List T,T.sizes (zcU φ ts)≤T.sizes ts * m
 | []=>by simp [zcU,T.sizes]
 | t::r=>by
  have h2:=zgQ h1 hm t
  have h3:=zhO h1 hm r
  rw [zcU]
  simp only [T.sizes,Nat.add_mul];omega
end
mutual
theorem WT_bks {ps:List (Str×Int)}{bs:List Str}:∀ t:T,WT ps bs t→∀ x∈bks t,x∈bs
 | .bl y,h,x,hx=>by
  simp [bks] at hx;subst hx
  cases h with | bl h=>exact h
 | .nd s ts,h,x,hx=>by
  cases h with
  | nd h hs=>
   rw [bks] at hx
   rcases WT_bksL ts hs [] x hx with h | h
   ·cases h
   ·exact h
theorem WT_bksL {ps:List (Str×Int)}{bs:List Str}:∀ ts:List T,(∀ t∈ts,WT ps bs t)→∀ (l:List Str) (x:Str),x∈bksL l ts→x∈l∨x∈bs
 | [],h,l,x,hx=>by rw [bksL] at hx;exact .inl hx
 | t::ts,h,l,x,hx=>by
  rw [bksL] at hx
  rcases WT_bksL ts (fun u hu=>h u (List.mem_cons_of_mem _ hu)) _ x hx with h1 | h1
  ·rcases List.mem_append.mp h1 with h2 | h2
   ·exact .inl h2
   ·exact .inr (WT_bks t (h t (by simp)) x (List.mem_filter.mp h2).1)
  ·exact .inr h1
end
noncomputable abbrev zeT (zag zad:List D→Option D) (n:Nat):En→Option Fl:=
 (ifM (upT (andP (cT (cL zad (zaa (gv 3) nilF))) (cT (c2 zdM (gv 3) (gb 1))))) (zdK (appM 1 (gv 3))) nxM)
noncomputable abbrev zee (zag zad:List D→Option D) (n:Nat):En→Option Fl:=
 (seqM (setO 1 (cL zbs nilF)) (seqM (forS (cI (cL zag (zaa (gv 0) nilF))) (gTup (zaY (gN 2) (zaY (gN 3) gNil))) (zeT zag zad n)) (retO 1)))
noncomputable def zaQ:List D→Option D:=runF (zee zag zad FUEL) 1 4
mutual
noncomputable def vs:T→List Str
 | .bl x=>[x]
 | .nd _ ts=>vsL ts
noncomputable def vsL:List T→List Str
 | []=>[]
 | t::r=>vs t++vsL r
end
theorem zgh {x:Str}:∀ {ts:List T},x∈vsL ts↔∃ t∈ts,x∈vs t
 | []=>by simp [vsL]
 | t::r=>by simp [vsL,List.mem_append,zgh (ts:=r)]
mutual
theorem ziC {x:Str}:∀ t:T,x∈bks t↔x∈vs t
 | .bl y=>by simp [bks,vs]
 | .nd s ts=>by rw [bks,vs,zkZ ts];simp
theorem zkZ {x:Str}:∀ (ts:List T) (l:List Str),x∈bksL l ts↔x∈l∨x∈vsL ts
 | [],l=>by simp [bksL,vsL]
 | t::r,l=>by
  rw [bksL,zkZ r,List.mem_append,List.mem_filter,ziC t,vsL,List.mem_append]
  by_cases h:x∈l<;>simp [h]
end
inductive Sub:T→T→Prop
 | refl (t:T):Sub t t
 | kid {s:Str}{ts:List T} {u t:T}(h:t∈ts) (r:Sub u t):Sub u (.nd s ts)
theorem Sub.size {u t:T}(h:Sub u t):u.size≤t.size:=by
 induction h with
 | refl=>exact Nat.le_refl _
 | kid h _ ih=>have:=zbw h;rw [T.size];omega
theorem Sub.depth {u t:T}(h:Sub u t):u.depth≤t.depth:=by
 induction h with
 | refl=>exact Nat.le_refl _
 | kid h _ ih=>have:=zbu h;rw [T.depth];omega
theorem fill_bl {φ:Fil}{x:Str} (h:fval φ x=none):zbv φ (.bl x)=.bl x:=by rw [zbv,h];rfl
theorem zmZ {φ:Fil}{x:Str} {t:T}(h:fval φ x=some t):zbv φ (.bl x)=t:=by rw [zbv,h];rfl
section
variable {a b:T}{φ:Fil} {W:List (T×T)}{w:T×T}
end
noncomputable def ded (l:List Str):List Str:=l.foldl (fun acc x=>if x∈acc then acc else acc++[x]) []
noncomputable def dedA (acc l:List Str):List Str:=l.foldl (fun acc x=>if x∈acc then acc else acc++[x]) acc
theorem zkW {x:Str}:∀ (l acc:List Str),x∈dedA acc l↔x∈acc∨x∈l
 | [],acc=>by simp [dedA]
 | y::l,acc=>by
  have ih:=zkW (x:=x) l (if y∈acc then acc else acc++[y])
  unfold dedA at ih ⊢
  rw [List.foldl_cons,ih]
  by_cases h:y∈acc
  ·rw [if_pos h]
   constructor
   ·rintro (h1 | h1)
    ·exact .inl h1
    ·exact .inr (List.mem_cons_of_mem _ h1)
   ·rintro (h1 | h1)
    ·exact .inl h1
    ·rcases List.mem_cons.mp h1 with rfl | h1
     ·exact .inl h
     ·exact .inr h1
  ·rw [if_neg h]
   simp [or_assoc]
theorem ziu:∀ (l acc:List Str),(dedA acc l).length≤acc.length + l.length
 | [],acc=>by simp [dedA]
 | y::l,acc=>by
  have ih:=ziu l (if y∈acc then acc else acc++[y])
  unfold dedA at ih ⊢
  rw [List.foldl_cons,List.length_cons]
  by_cases h:y∈acc
  ·rw [if_pos h] at ih ⊢;omega
  ·rw [if_neg h] at ih ⊢;rw [List.length_append,List.length_singleton] at ih;omega
noncomputable def blp:List (List Int×T)→List Str
 | []=>[]
 | (_,.bl x)::r=>x::blp r
 | (_,.nd _ _)::r=>blp r
theorem ziB:∀ a b:List (List Int×T),blp (a++b)=blp a++blp b
 | [],b=>by simp [blp]
 | (_,.bl x)::r,b=>by rw [List.cons_append,blp,blp,ziB r b,List.cons_append]
 | (_,.nd _ _)::r,b=>by rw [List.cons_append,blp,blp,ziB r b]
mutual
theorem zhU (p:List Int):∀ t:T,blp (zaq p t)=vs t
 | .bl x=>by simp [zaq,blp,vs]
 | .nd s ts=>by rw [zaq,blp,zhg p 0 ts,vs]
theorem zhg (p:List Int):∀ (k:Nat) (ts:List T),blp (zbj p k ts)=vsL ts
 | _,[]=>by simp [zbj,blp,vsL]
 | k,t::r=>by rw [zbj,ziB,zhU (p++[(k:Int)]) t,zhg p (k + 1) r,vsL]
end
theorem zkl:∀ l:List (List Int×T),(blp l).length≤l.length
 | []=>by simp [blp]
 | (_,.bl x)::r=>by have:=zkl r;simp [blp];exact this
 | (_,.nd _ _)::r=>by have:=zkl r;simp [blp];omega
theorem zgW (t:T) (hz:t.size≤900000):zaQ [t.d]=some (.lst ((ded (vs t)).map D.str)):=by
 have pp:=zdl t hz
 have hl:=zdp [] t
 obtain ⟨ρ',f1,k2,k3,rfl⟩:=zcn (g:=gTup (zaY (gN 2) (zaY (gN 3) gNil))) (b:=zeT zag zad FUEL) (xs:=(zaq [] t).map pd) (ρ:=[some (.dat t.d),some (.own (.lst [])),none,none])
  (fun i ρ=>∃ k2 k3:Option Sl,ρ=[some (.dat t.d),some (.own (.lst ((dedA [] (blp ((zaq [] t).take i))).map D.str))),k2,k3]) ⟨none,none,by simp [dedA,blp]⟩ (by
   rintro i x ρ hx ⟨k2,k3,rfl⟩
   rw [List.getElem?_map] at hx
   cases e:(zaq [] t)[i]? with
   | none=>rw [e] at hx;cases hx
   | some q=>
    rw [e] at hx
    cases hx
    have hi:i < (zaq [] t).length:=(List.getElem?_eq_some_iff.mp e).1
    have eq:(zaq [] t)[i]=q:=by rw [List.getElem?_eq_getElem hi] at e;exact Option.some.inj e
    have tk:(zaq [] t).take (i + 1)=(zaq [] t).take i++[q]:=by rw [List.take_succ_eq_append_getElem hi,eq]
    have l1:=ziu (blp ((zaq [] t).take i)) []
    have l2:=zkl ((zaq [] t).take i)
    rw [List.length_take] at l2
    simp only [List.length_nil,Nat.zero_add] at l1
    obtain ⟨p,u⟩:=q
    have ib:=zbA u
    rw [tk,ziB]
    generalize hacc:dedA [] (blp ((zaq [] t).take i))=acc at l1
    have da:dedA [] (blp ((zaq [] t).take i)++blp [(p,u)])=dedA acc (blp [(p,u)]):=by
     rw [← hacc];unfold dedA;rw [List.foldl_append]
    rw [da]
    cases u with
    | nd s ts=>
     simp only [T.isBl] at ib
     refine ⟨[some (.dat t.d),some (.own (.lst ((dedA acc (blp [(p,T.nd s ts)])).map D.str))),some (.dat (.tup (p.map D.int))),some (.dat (T.nd s ts).d)],.inl ?_,_,_,rfl⟩
     simp! [pd,ib,blp,dedA]
    | bl y=>
     simp only [T.isBl] at ib
     have i1:=ziq y acc
     have dd:=zit acc
     have dz:depL (acc.map D.str)≤100:=by omega
     rw [d_bl] at ib
     refine ⟨[some (.dat t.d),some (.own (.lst ((dedA acc (blp [(p,T.bl y)])).map D.str))),some (.dat (.tup (p.map D.int))),some (.dat (.str y))],.inl ?_,_,_,rfl⟩
     by_cases hy:y∈acc
     ·simp! [pd,d_bl,ib,blp,dedA,i1,dz,hy]
     ·have z1:acc.length < 1000000:=by omega
      simp! [pd,d_bl,ib,blp,dedA,i1,dz,hy,z1])
 rw [List.length_map,List.take_length,zhU] at f1
 have e0:dedA [] (vs t)=ded (vs t):=rfl
 rw [e0] at f1
 simp! [zaQ,pp,f1]
theorem znk {x:Str}(l:List Str):x∈ded l↔x∈l:=by
 have e:ded l=dedA [] l:=rfl
 rw [e,zkW];simp
theorem WT_vs {ps:List (Str×Int)}{bs:List Str} {t:T}(h:WT ps bs t):∀ x∈vs t,x∈bs:=fun x hx=>WT_bks t h x ((ziC t).mpr hx)
theorem vs_set {ts:List T}{i:Nat} {n:T}{x:Str} (h:x∈vsL (ts.set i n)):x∈vsL ts∨x∈vs n:=by
 rw [zgh] at h
 obtain ⟨t,ht,hx⟩:=h
 rcases List.mem_or_eq_of_mem_set ht with h1 | h1
 ·exact .inl (zgh.mpr ⟨t,h1,hx⟩)
 ·subst h1;exact .inr hx
theorem zlQ:∀ (p:List Int) (t n:T) (x:Str),x∈vs (putT t p n)→x∈vs t∨x∈vs n
 | [],t,n,x,h=>by rw [zeG] at h;exact .inr h
 | k::p,.bl y,n,x,h=>by simp only [putT] at h;exact .inl h
 | k::p,.nd s ts,n,x,h=>by
  simp only [putT] at h
  cases e:ts[k.toNat]? with
  | none=>rw [e] at h;exact .inl h
  | some c=>
   rw [e] at h
   simp only [vs] at h ⊢
   rcases vs_set h with h1 | h1
   ·exact .inl h1
   ·rcases zlQ p c n x h1 with h2 | h2
    ·exact .inl (zgh.mpr ⟨c,List.mem_of_getElem? e,h2⟩)
    ·exact .inr h2
theorem zkx (b:Str):∀ k:Nat,T.sizes (List.replicate k (T.bl b))=k∧T.depths (List.replicate k (T.bl b))≤1
 | 0=>by simp [T.sizes,T.depths]
 | k + 1=>by
  have:=zkx b k
  rw [List.replicate_succ,T.sizes,T.depths]
  simp only [T.size,T.depth];omega
noncomputable abbrev zhw (zak:List D→Option D) (zaf:D→List D→Option (D×D)) (zao zac:List D→Option D) (zab zaj zap:List D→Option D) (n:Nat):En→Option (D×En):=
 (zcr zaf 1 (zaa (cst (.int 4800)) nilF))
noncomputable abbrev zhv (zak:List D→Option D) (zaf:D→List D→Option (D×D)) (zao zac:List D→Option D) (zab zaj zap:List D→Option D) (n:Nat):En→Option (D×En):=
 (zcr zaf 1 (zaa (cst (.int 4800)) nilF))
noncomputable abbrev zeh (zak:List D→Option D) (zaf:D→List D→Option (D×D)) (zao zac:List D→Option D) (zab zaj zap:List D→Option D) (n:Nat):En→Option Fl:=
 (seqM (setO 3 (cL zak (zaa (gv 0) nilF))) (seqM (asgX (zcr zaf 3 (zaa (cst (.int 3)) nilF)) (gN 4)) (seqM (asgX (zcr zaf 3 (zaa (cst (.int 5040)) nilF)) (gN 5)) (seqM (asgX (opX addD (cst (.int 3)) (zcr zaf 3 (zaa (cst (.int 5)) nilF))) (gN 6)) (seqM (asgX (cLX zao (zga (zdf 3 1 [none,some 3] (cR1 (gv 6)) (gN 0) (zhw zak zaf zao zac zab zaj zap n)) (zaa (gv 1) (zaa (gv 2) (zaa (cst (.int 5)) nilF))))) (gN 7)) (seqM (ifM (upT (cT (c1 (isiD "str") (gb 7)))) (seqM (asgM (c2 idxD (gb 1) (c2 modD (gb 5) (cL lenD (zaa (gb 1) nilF)))) (gTup (zaY (gN 8) (zaY (gN 9) gNil)))) (setM 7 (c2 addD (cL zbL (zaa (gv 8) nilF)) (c2 repD (cL zbL (zaa (gv 7) nilF)) (gb 9))))) nxM) (seqM (setM 10 (cL zac (zaa (gv 7) nilF))) (seqM (setM 11 (cL zab (zaa (gv 7) nilF))) (seqM (setM 12 (c2 idxD (gb 11) (c2 modD (gb 5) (cL lenD (zaa (gb 11) nilF))))) (seqM (ifM (upT (cT (c2 eqB (gb 4) (cst (.int 0))))) (retM (cL zbL (zaa (gv 7) (zaa (cL zap (zaa (gv 7) (zaa (gv 12) nilF))) nilF)))) nxM) (seqM (asgX (opX addD (cst (.int 1)) (zcr zaf 3 (zaa (cst (.int 4)) nilF))) (gN 6)) (seqM (asgX (cLX zao (zga (zdf 3 1 [none,some 3] (cR1 (gv 6)) (gN 0) (zhv zak zaf zao zac zab zaj zap n)) (zaa (gv 1) (zaa (gv 10) (zaa (cst (.int 2)) nilF))))) (gN 13)) (seqM (ifM (upT (cT (c2 eqB (gb 4) (cst (.int 1))))) (retM (cL zbL (zaa (gv 7) (zaa (gv 13) nilF)))) nxM) (retM (cL zbL (zaa (gv 7) (zaa (cL zaj (zaa (gv 7) (zaa (gv 12) (zaa (gv 13) nilF)))) nilF)))))))))))))))))
noncomputable def zay:List D→Option D:=runF (zeh zak zaf zao zac zab zaj zap FUEL) 3 14
noncomputable abbrev zhe (zao zak:List D→Option D) (zab zac:List D→Option D) (zah zaj zaB:List D→Option D) (zaf:D→List D→Option (D×D)) (n:Nat):En→Option (D×En):=
 (zcr zaf 1 (zaa (cst (.int 4800)) nilF))
noncomputable abbrev zer (zao zak:List D→Option D) (zab zac:List D→Option D) (zah zaj zaB:List D→Option D) (zaf:D→List D→Option (D×D)) (n:Nat):En→Option Fl:=
 (putKX 11 (gv 12) (cLX zao (zga (zdf 7 1 [none,some 7] (cR1 (cst (.int 3))) (gN 0) (zhe zao zak zab zac zah zaj zaB zaf n)) (zaa (gv 4) (zaa (gv 5) (zaa (cst (.int 3)) nilF))))))
noncomputable abbrev zdG (zao zak:List D→Option D) (zab zac:List D→Option D) (zah zaj zaB:List D→Option D) (zaf:D→List D→Option (D×D)) (n:Nat):En→Option Fl:=
 (seqM (setM 6 (cL zao (zaa (cL zaB (zaa (gv 1) (zaa (cst (.int 12)) nilF))) (zaa (gv 4) (zaa (gv 5) (zaa (cst (.int 6)) nilF)))))) (seqM (ifM (upT (cT (c2 eqB (gb 0) (cst (.int 0))))) (retM (gv 6)) nxM) (seqM (setO 7 (cL zak (zaa (gv 2) nilF))) (seqM (asgX (ixX idxD (opX idxD (gv 3) (zcr zaf 7 (zaa (cL lenD (zaa (gb 3) nilF)) nilF))) (cst (.int 0))) (gN 8)) (seqM (setM 9 (cL zab (zaa (gv 6) nilF))) (seqM (asgX (opX idxD (gv 9) (zcr zaf 7 (zaa (cL lenD (zaa (gb 9) nilF)) nilF))) (gN 10)) (seqM (setO 11 (cst (.dic [] []))) (seqM (forS (cI (cL zac (zaa (gv 8) nilF))) (gN 12) (zer zao zak zab zac zah zaj zaB zaf n)) (seqM (frzM 11 (setM 8 (cL zah (zaa (gv 8) (zaa (gv 11) nilF))))) (seqM (ifM (upT (cT (c2 eqB (gb 0) (cst (.int 1))))) (retM (gv 8)) nxM) (retM (cL zaj (zaa (gv 6) (zaa (gv 10) (zaa (gv 8) nilF)))))))))))))))
noncomputable def zaA:List D→Option D:=runF (zdG zao zak zab zac zah zaj zaB zaf FUEL) 6 13
noncomputable abbrev zcR (zab zap:List D→Option D) (zav:D→List D→Option (D×D)) (zaj zah:List D→Option D) (n:Nat):En→Option Fl:=
 (seqM (setO 6 (cst (.dic [] []))) (ifM (valX (zcr zav 6 (zaa (c2 idxD (c2 idxD (gb 0) (gb 5)) (cst (.int 0))) (zaa (gv 4) nilF)))) (frzM 6 (zdK (appM 2 (cL zbL (zaa (gv 3) (zaa (gv 5) (zaa (cL zaj (zaa (gv 1) (zaa (gv 3) (zaa (cL zah (zaa (c2 idxD (c2 idxD (gb 0) (gb 5)) (cst (.int 1))) (zaa (gv 6) nilF))) nilF)))) nilF))))))) nxM))
noncomputable abbrev zep (zab zap:List D→Option D) (zav:D→List D→Option (D×D)) (zaj zah:List D→Option D) (n:Nat):En→Option Fl:=
 (seqM (setM 4 (cL zap (zaa (gv 1) (zaa (gv 3) nilF)))) (forS (cR1 (cL lenD (zaa (gb 0) nilF))) (gN 5) (zcR zab zap zav zaj zah n)))
noncomputable abbrev zdC (zab zap:List D→Option D) (zav:D→List D→Option (D×D)) (zaj zah:List D→Option D) (n:Nat):En→Option Fl:=
 (seqM (setO 2 (cL zbs nilF)) (seqM (forS (cI (cL zab (zaa (gv 1) nilF))) (gN 3) (zep zab zap zav zaj zah n)) (retO 2)))
noncomputable def zat:List D→Option D:=runF (zdC zab zap zav zaj zah FUEL) 2 7
noncomputable abbrev zdd (zag zad:List D→Option D) (n:Nat):En→Option Fl:=
 (ifM (andM (upT (notP (cT (cL zad (zaa (gv 5) nilF))))) (cmpX neB (sdfM 1 (c2 idxD (gb 5) (cst (.int 0))) (cL lenD (zaa (gb 5) nilF))) (cL lenD (zaa (gb 5) nilF)))) (zdK (appM 2 (c2 idxD (gb 5) (cst (.int 0))))) nxM)
noncomputable abbrev zdc (zag zad:List D→Option D) (n:Nat):En→Option Fl:=
 (forS (cI (cL zag (zaa (gv 3) nilF))) (gTup (zaY (gN 4) (zaY (gN 5) gNil))) (zdd zag zad n))
noncomputable abbrev zcC (zag zad:List D→Option D) (n:Nat):En→Option Fl:=
 (seqM (setO 1 (cst (.dic [] []))) (seqM (setO 2 (cL zbs nilF)) (seqM (forS (cI (gv 0)) (gN 3) (zdc zag zad n)) (retO 2))))
noncomputable def zaz:List D→Option D:=runF (zcC zag zad FUEL) 1 6
noncomputable abbrev zfU (zad zaQ:List D→Option D) (n:Nat):En→Option D:=
 (c2 inB (gv 0) (gb 1))
noncomputable abbrev zfF (zad zaQ:List D→Option D) (n:Nat):En→Option Fl:=
 (seqM (ifM (upT (cT (cL zad (zaa (gv 0) nilF)))) (retM (cst (.bl false))) nxM) (seqM (setM 2 (cL zaQ (zaa (gv 0) nilF))) (retM (cL allD (zaa (zcq [none,some 2] (cI (cL zaQ (zaa (gv 1) nilF))) (gN 0) yesP (zfU zad zaQ n)) nilF)))))
noncomputable def zbt:List D→Option D:=runF (zfF zad zaQ FUEL) 2 3
noncomputable abbrev zfv (n:Nat):En→Option D:=
 (gv 1)
noncomputable abbrev zfc (n:Nat):En→Option Fl:=
 (retM (zjx [none,none] (cI (gv 0)) (gN 0) (cI (gv 0)) (gN 1) (zfv n)))
noncomputable def zbh:List D→Option D:=runF (zfc  FUEL) 1 1
noncomputable abbrev zen (zaz zbt zbh:List D→Option D) (n:Nat):En→Option Fl:=
 (seqM (asgM (gv 2) (gTup (zaY (gN 3) (zaY (gN 4) gNil)))) (ifM (upT (notP (cT (cL zbt (zaa (gv 3) (zaa (gv 4) nilF)))))) (fun _=>none) nxM))
noncomputable abbrev zdA (zaz zbt zbh:List D→Option D) (n:Nat):En→Option Fl:=
 (seqM (forS (cI (gv 0)) (gN 2) (zen zaz zbt zbh n)) (seqM (setM 5 (cL zaz (zaa (c2 addD (cL zbh (zaa (gv 0) nilF)) (gb 1)) nilF))) (ifM (upT (cTr (gb 5))) (fun _=>none) nxM)))
noncomputable def zaK:List D→Option D:=runN (zdA zaz zbt zbh FUEL) 2 6
noncomputable abbrev zfs (zdb zbB zba:List D→Option D) (n:Nat):En→Option Fl:=
 (seqM (setM 8 (cL zdb (zaa (gv 6) (zaa (gv 3) nilF)))) (ifM (upT (cT (c2 zes (gb 8) (cst .non)))) (zdK (appM 4 (cL zbL (zaa (gv 2) (zaa (gv 5) (zaa (cL zbB (zaa (gv 1) (zaa (gv 2) (zaa (cL zba (zaa (gv 7) (zaa (gv 8) nilF))) nilF)))) nilF)))))) nxM))
noncomputable abbrev zfb (zdb zbB zba:List D→Option D) (n:Nat):En→Option Fl:=
 (seqM (setO 4 (cL zbs nilF)) (seqM (forS (cEnL (gv 0)) (gTup (zaY (gN 5) (zaY (gTup (zaY (gN 6) (zaY (gN 7) gNil))) gNil))) (zfs zdb zbB zba n)) (retO 4)))
noncomputable def zbg:List D→Option D:=runF (zfb zdb zbB zba FUEL) 4 9
noncomputable abbrev zhH (zaK zag zbg:List D→Option D) (n:Nat):En→Option Fl:=
 (zdK (extM 2 (cL zbg (zaa (gv 0) (zaa (gv 1) (zaa (gv 3) (zaa (gv 4) nilF)))))))
noncomputable abbrev zim (zaK zag zbg:List D→Option D) (n:Nat):En→Option Fl:=
 (seqM (zgX (cL zaK (zaa (gv 0) (zaa (cL zbs (zaa (gv 1) nilF)) nilF)))) (seqM (setO 2 (cL zbs nilF)) (seqM (forS (cI (cL zag (zaa (gv 1) nilF))) (gTup (zaY (gN 3) (zaY (gN 4) gNil))) (zhH zaK zag zbg n)) (retO 2))))
noncomputable def zcQ:List D→Option D:=runF (zim zaK zag zbg FUEL) 2 5
noncomputable abbrev zgE (zat zcQ:List D→Option D) (n:Nat):En→Option Fl:=
 (seqM (setM 2 (cL zat (zaa (gv 0) (zaa (gv 1) nilF)))) (seqM (setO 3 (cL zcQ (zaa (gv 0) (zaa (gv 1) nilF)))) (seqM (ifM (upT (orP (notP (cT (c1 (isiD "list") (gb 3)))) (cT (c2 neB (gb 3) (gb 2))))) (retM (cst (.bl false))) nxM) (seqM (zdK (clrM 3)) (retM (c2 eqB (cL zcQ (zaa (gv 0) (zaa (gv 1) nilF))) (gb 2)))))))
noncomputable def zeI:List D→Option D:=runF (zgE zat zcQ FUEL) 2 4
noncomputable abbrev zhS (zaG zaC:List D→Option D) (zaD zay:List D→Option D) (zaA zat:List D→Option D) (m__law_good m__law_count:List D→Option D) (n:Nat):En→Option D:=
 (cL zay (zaa (cL zaD (zaa (gv 3) (zaa (c2 addD (cst (.int 3)) (gb 0)) nilF))) (zaa (gv 1) (zaa (gv 2) nilF))))
noncomputable abbrev zhI (zaG zaC:List D→Option D) (zaD zay:List D→Option D) (zaA zat:List D→Option D) (m__law_good m__law_count:List D→Option D) (n:Nat):En→Option Fl:=
 (seqM (setM 8 (c2 modD (c2 addD (c2 idxD (gb 6) (gb 7)) (c2 idxD (gb 6) (c2 addD (gb 7) (cst (.int 1))))) (cst (.int 3)))) (seqM (setM 9 (cL zaA (zaa (gv 8) (zaa (c2 idxD (gb 6) (gb 7)) (zaa (c2 idxD (gb 6) (c2 addD (gb 7) (cst (.int 1)))) (zaa (gv 4) (zaa (gv 1) (zaa (gv 2) nilF)))))))) (seqM (ifM (upT (orP (notP (cT (cL m__law_good (zaa (gv 4) (zaa (gv 9) nilF))))) (cT (c2 neB (gb 4) (gb 5))))) (retM (cst (.bl false))) nxM) (seqM (setM 10 (cL zat (zaa (gv 4) (zaa (gv 9) nilF)))) (ifM (upT (andP (cT (c2 eqB (gb 8) (cst (.int 0)))) (andP (cT (c2 neB (gb 10) (cL zbs nilF))) (cT (c2 ltD (cL m__law_count (zaa (c2 idxD (c2 idxD (gb 10) (c1 negD (cst (.int 1)))) (cst (.int 2))) nilF)) (cst (.int 30))))))) (ifM (upT (notP (cT (cL m__law_good (zaa (gv 4) (zaa (c2 idxD (c2 idxD (gb 10) (c1 negD (cst (.int 1)))) (cst (.int 2))) nilF)))))) (retM (cst (.bl false))) nxM) nxM)))))
noncomputable abbrev zin (zaG zaC:List D→Option D) (zaD zay:List D→Option D) (zaA zat:List D→Option D) (m__law_good m__law_count:List D→Option D) (n:Nat):En→Option Fl:=
 (seqM (setM 1 (cL zaG (zaa (cL zaD (zaa (gv 0) (zaa (cst (.int 0)) nilF))) nilF))) (seqM (setM 2 (cL zaC (zaa (cL zaD (zaa (gv 0) (zaa (cst (.int 1)) nilF))) nilF))) (seqM (setM 3 (c2 idxD (cL zbs (zaa (cst (.int 1)) (zaa (cst (.int 2)) (zaa (cst (.int 3)) (zaa (cst (.int 4)) (zaa (cst (.int 2)) (zaa (cst (.int 3)) (zaa (cst (.int 9)) (zaa (cst (.int 6)) nilF))))))))) (c2 modD (cL zaD (zaa (gv 0) (zaa (cst (.int 2)) nilF))) (cst (.int 8))))) (seqM (setM 4 (zcq [none,some 1,some 2,some 0] (cR1 (gv 3)) (gN 0) yesP (zhS zaG zaC zaD zay zaA zat m__law_good m__law_count n))) (seqM (setM 5 (cL zgH (zaa (gb 4) nilF))) (seqM (setM 6 (c2 addD (c2 addD (cL zbs (zaa (cst (.int 1)) (zaa (cst (.int 3)) (zaa (cst (.int 5)) nilF)))) (cS zbi (gb 0) (zbV (cst (.int 7))) (zbV (cst (.int 20))))) (cL zbs (zaa (cst (.int 7)) nilF)))) (seqM (forS (cR1 (c2 subD (cL lenD (zaa (gb 6) nilF)) (cst (.int 1)))) (gN 7) (zhI zaG zaC zaD zay zaA zat m__law_good m__law_count n)) (retM (cst (.bl true))))))))))
noncomputable def m_law21:List D→Option D:=runF (zin zaG zaC zaD zay zaA zat zeI zcm FUEL) 1 11
noncomputable def rD (r:T×T):D:=.tup [r.1.d,r.2.d]
noncomputable def sD (x:List Int×Nat×T):D:=.tup [pD x.1,.int x.2.1,x.2.2.d]
noncomputable def stA (t:T) (p:List Int) (u:T):Nat→List (T×T)→List (List Int×Nat×T)
 | _,[]=>[]
 | k,r::rs=>(match mt [] r.1 u with
  | some φ=>[(p,k,putT t p (zbv φ r.2))]
  | none=>[])++stA t p u (k + 1) rs
theorem zgj (t:T) (p:List Int) (u:T):∀ (k:Nat) (rs:List (T×T)),(stA t p u k rs).length≤rs.length
 | _,[]=>by simp [stA]
 | k,r::rs=>by
  have:=zgj t p u (k + 1) rs
  rw [stA,List.length_append,List.length_cons]
  cases mt [] r.1 u<;>simp<;>omega
theorem zhX (t:T) (p:List Int) (u:T):∀ (rs:List (T×T)) (k:Nat) (r:T×T),stA t p u k (rs++[r])=stA t p u k rs++(match mt [] r.1 u with
  | some φ=>[(p,k + rs.length,putT t p (zbv φ r.2))]
  | none=>[])
 | [],k,r=>by simp [stA]
 | r'::rs,k,r=>by
  rw [List.cons_append,stA,stA,zhX t p u rs (k + 1) r,List.append_assoc,List.length_cons,show k + 1 + rs.length=k + (rs.length + 1) by omega]
noncomputable def stL (t:T) (rs:List (T×T)) (ps:List (List Int×T)):List (List Int×Nat×T):=ps.flatMap fun q=>stA t q.1 q.2 0 rs
structure zfg (rs:List (T×T)):Prop where
 len:rs.length≤9
 lz:∀ r∈rs,r.1.size≤20∧r.1.depth≤20
 rz:∀ r∈rs,r.2.size≤40∧r.2.depth≤12
theorem zlA (rs:List (T×T)) (R:zfg rs) (t u:T) (p:List Int) (ht:t.size≤400) (hp:zaF t p=some u) (hd:t.depth≤60):zbg [.lst (rs.map rD),t.d,pD p,u.d]=some (.lst ((stA t p u 0 rs).map sD)):=by
 have uz:=zbX p t u hp
 have ud:=zcz p t u hp
 have pl:=zcL p t u hp
 obtain ⟨ρ',f1,k5,k6,k7,k8,rfl,_⟩:=zcn (g:=gTup (zaY (gN 5) (zaY (gTup (zaY (gN 6) (zaY (gN 7) gNil))) gNil))) (b:=zfs zdb zbB zba FUEL) (xs:=zgS 0 (rs.map rD)) (ρ:=[some (.dat (.lst (rs.map rD))),some (.dat t.d),some (.dat (pD p)),some (.dat u.d),some (.own (.lst [])),none,none,none,none])
  (fun i ρ=>∃ k5 k6 k7 k8:Option Sl,ρ=[some (.dat (.lst (rs.map rD))),some (.dat t.d),some (.dat (pD p)),some (.dat u.d),some (.own (.lst ((stA t p u 0 (rs.take i)).map sD))),k5,k6,k7,k8]∧zgy [k5,k6,k7,k8]=true) ⟨none,none,none,none,by simp [stA],rfl⟩ (by
   rintro i x ρ hx ⟨k5,k6,k7,k8,rfl,nbk⟩
   obtain ⟨y,hy,rfl⟩:=zeu 0 _ i x hx
   have hi:i < rs.length:=by
    have:=(List.getElem?_eq_some_iff.mp hy).1
    simpa using this
   rw [List.getElem?_map,List.getElem?_eq_getElem hi] at hy
   cases hy
   rw [Nat.zero_add]
   have hr:=List.getElem_mem hi
   have z1:=R.lz _ hr
   have z2:=R.rz _ hr
   have ft:=e_fits rs[i].1 u (by omega) (by omega) (by omega)
   have tk:rs.take (i + 1)=rs.take i++[rs[i]]:=List.take_succ_eq_append_getElem hi
   have st:=zhX t p u (rs.take i) 0 rs[i]
   rw [← tk] at st
   have tl:(rs.take i).length=i:=by rw [List.length_take];omega
   have sl:=zgj t p u 0 (rs.take i)
   have rl:=R.len
   cases hm:mt [] rs[i].1 u with
   | none=>
    rw [hm] at ft st
    simp only [List.append_nil,fitR] at st ft
    refine ⟨[some (.dat (.lst (rs.map rD))),some (.dat t.d),some (.dat (pD p)),some (.dat u.d),some (.own (.lst ((stA t p u 0 (rs.take (i + 1))).map sD))),some (.dat (.int i)),some (.dat rs[i].1.d),some (.dat rs[i].2.d),some (.dat .non)],.inl ?_,_,_,_,_,rfl,rfl⟩
    rw [st]
    generalize stA t p u 0 (rs.take i)=AA
    simp! [rD,ft]
   | some φ=>
    rw [hm] at ft st
    simp only [fitR] at st ft
    have fl:zba [rs[i].2.d,fdic φ]=some (zbv φ rs[i].2).d:=zkU φ 100 rs[i].2 (by omega) (by omega)
    have pt:zbB [t.d,pD p,(zbv φ rs[i].2).d]=some (putT t p (zbv φ rs[i].2)).d:=e_put_at t u _ p hp (by omega) (by omega)
    refine ⟨[some (.dat (.lst (rs.map rD))),some (.dat t.d),some (.dat (pD p)),some (.dat u.d),some (.own (.lst ((stA t p u 0 (rs.take (i + 1))).map sD))),some (.dat (.int i)),some (.dat rs[i].1.d),some (.dat rs[i].2.d),some (.dat (fdic φ))],.inl ?_,_,_,_,_,rfl,rfl⟩
    rw [st,tl,List.map_append]
    have zl':(stA t p u 0 (rs.take i)).length < 1000000:=by omega
    generalize stA t p u 0 (rs.take i)=AA at zl' ⊢
    simp only [fdic] at ft fl ⊢
    simp! [rD,sD,ft,fl,pt,zl'])
 rw [zco,List.length_map,List.take_length] at f1
 simp! [zbg,cEnL,f1]
theorem zkd (rs:List (T×T)) (R:zfg rs) (t u:T) (p:List Int) (ht:t.size≤400) (hp:zaF t p=some u) (hd:t.depth≤60) (L:List (List Int×Nat×T)) (hL:L.length≤10000) (s6 k5:Option Sl) (h6:nb s6=true) (h5:nb k5=true) :
  ∃ s6' k5':Option Sl,nb s6'=true∧nb k5'=true∧forM (gN 5) (zcR zab zap zav zaj zah FUEL) (zaU 0 rs.length) [some (.dat (.lst (rs.map rD))),some (.dat t.d),some (.own (.lst (L.map sD))),some (.dat (pD p)),some (.dat u.d),k5,s6] =
   some (.nx [some (.dat (.lst (rs.map rD))),some (.dat t.d),some (.own (.lst ((L++stA t p u 0 rs).map sD))),some (.dat (pD p)),some (.dat u.d),k5',s6']):=by
 have uz:=zbX p t u hp
 have ud:=zcz p t u hp
 have pl:=zcL p t u hp
 obtain ⟨ρ',f1,s6',k5',rfl,g6,g5⟩:=zcn (g:=gN 5) (b:=zcR zab zap zav zaj zah FUEL) (xs:=zaU 0 rs.length) (ρ:=[some (.dat (.lst (rs.map rD))),some (.dat t.d),some (.own (.lst (L.map sD))),some (.dat (pD p)),some (.dat u.d),k5,s6])
  (fun i ρ=>∃ s6' k5':Option Sl,ρ=[some (.dat (.lst (rs.map rD))),some (.dat t.d),some (.own (.lst ((L++stA t p u 0 (rs.take i)).map sD))),some (.dat (pD p)),some (.dat u.d),k5',s6']∧nb s6'=true∧nb k5'=true) ⟨s6,k5,by simp [stA],h6,h5⟩ (by
   rintro i x ρ hx ⟨s6',k5',rfl,g6,g5⟩
   obtain ⟨hi,rfl⟩:=zbn hx
   rw [Int.zero_add]
   have ar:atI (rs.map rD) (i:Int)=some (rD rs[i]):=zbT (by simp [hi])
   have hr:=List.getElem_mem hi
   have z1:=R.lz _ hr
   have z2:=R.rz _ hr
   obtain ⟨φ',t1,t2,t3,t4⟩:=zng 100 rs[i].1 u [] (by omega) (by omega) (by omega) (by omega) (by intro v hv;cases hv) (by simp;omega)
   have t1:zav (.dic [] []) [rs[i].1.d,u.d]=some (.bl (mt [] rs[i].1 u).isSome,fdic φ'):=t1
   have tk:rs.take (i + 1)=rs.take i++[rs[i]]:=List.take_succ_eq_append_getElem hi
   have st:=zhX t p u (rs.take i) 0 rs[i]
   rw [← tk] at st
   have tl:(rs.take i).length=i:=by rw [List.length_take];omega
   have sl:=zgj t p u 0 (rs.take i)
   have rl:=R.len
   cases hm:mt [] rs[i].1 u with
   | none=>
    rw [hm] at t1 st
    simp only [List.append_nil,Option.isSome_none] at st t1
    refine ⟨[some (.dat (.lst (rs.map rD))),some (.dat t.d),some (.own (.lst ((L++stA t p u 0 (rs.take (i + 1))).map sD))),some (.dat (pD p)),some (.dat u.d),some (.dat (.int i)),some (.own (fdic φ'))],.inl ?_,_,_,rfl,rfl,rfl⟩
    rw [st]
    generalize (L++stA t p u 0 (rs.take i)).map sD=AA
    simp only [fdic] at t1 ⊢
    dsimp! [valX,ar,rD,t1,zbK,zcl,zfr,zfq,g6,g5]
   | some φ=>
    rw [hm] at t1 st
    have e:=t2 φ hm
    subst e
    simp only [Option.isSome_some] at st t1
    have fl:zah [rs[i].2.d,fdic φ']=some (zbv φ' rs[i].2).d:=zgU φ' 100 rs[i].2 (by omega) (by omega)
    have pt:zaj [t.d,pD p,(zbv φ' rs[i].2).d]=some (putT t p (zbv φ' rs[i].2)).d:=zkS 100 p t u _ (by omega) (by omega) hp (by omega)
    refine ⟨[some (.dat (.lst (rs.map rD))),some (.dat t.d),some (.own (.lst ((L++stA t p u 0 (rs.take (i + 1))).map sD))),some (.dat (pD p)),some (.dat u.d),some (.dat (.int i)),some (.dat (fdic φ'))],.inl ?_,_,_,rfl,rfl,rfl⟩
    rw [st,tl]
    have zl:((L++stA t p u 0 (rs.take i)).map sD).length < 1000000:=by rw [List.length_map,List.length_append];omega
    rw [← List.append_assoc,List.map_append (l₁:=L++stA t p u 0 (rs.take i))]
    rw [List.length_map] at zl
    have zl':(L++stA t p u 0 (rs.take i)).length < 1000000:=zl
    generalize hAA:(L++stA t p u 0 (rs.take i)).map sD=AA
    have zA:AA.length < 1000000:=by rw [← hAA,List.length_map];exact zl'
    simp only [fdic] at t1 fl ⊢
    dsimp! [valX,ar,rD,sD,t1,fl,pt,zA,zbK,zcl,zfr,zfq,g6,g5])
 rw [zau,List.take_length] at f1
 exact ⟨s6',k5',g6,g5,f1⟩
mutual
theorem zhD:∀ (t:T) (p:List Int),(zaq p t).map (·.1)=(plc t).map (p++·)
 | .bl x,p=>by simp [zaq,plc]
 | .nd s ts,p=>by rw [zaq,plc,List.map_cons,List.map_cons,zgr ts p 0,List.append_nil]
theorem zgr:∀ (ts:List T) (p:List Int) (k:Nat),(zbj p k ts).map (·.1)=(plcL k ts).map (p++·)
 | [],p,k=>by simp [zbj,plcL]
 | t::r,p,k=>by
  rw [zbj,plcL,List.map_append,List.map_append,zhD t,zgr r p (k + 1),List.map_map]
  congr 1
  apply List.map_congr_left
  intro q _
  simp
end
theorem plc_eq (t:T):plc t=(zaq [] t).map (·.1):=by
 rw [zhD t []]
 simp
theorem zgs (t:T):(zaq [] t).length=t.size:=by
 rw [← zeb t,plc_eq t,List.length_map]
theorem zdz {t:T}{q:List Int×T} (h:q∈zaq [] t):zaF t q.1=some q.2:=ziV t [] t (by cases t<;>rfl) q h
theorem zhW (t:T) (rs:List (T×T)):∀ ps:List (List Int×T),(stL t rs ps).length≤ps.length * rs.length
 | []=>by simp [stL]
 | q::ps=>by
  have h1:=zgj t q.1 q.2 0 rs
  have h2:=zhW t rs ps
  rw [stL,List.flatMap_cons,List.length_append,List.length_cons,Nat.succ_mul]
  unfold stL at h2
  omega
theorem zku {t:T}{rs:List (T×T)} {ps:List (List Int×T)}{i:Nat} (hi:i < ps.length):stL t rs (ps.take (i + 1))=stL t rs (ps.take i)++stA t ps[i].1 ps[i].2 0 rs:=by
 unfold stL
 rw [List.take_succ_eq_append_getElem hi,List.flatMap_append,List.flatMap_cons,List.flatMap_nil,List.append_nil]
theorem zkR (rs:List (T×T)) (R:zfg rs) (t:T) (ht:t.size≤400) (hd:t.depth≤60):zat [.lst (rs.map rD),t.d]=some (.lst ((stL t rs (zaq [] t)).map sD)):=by
 have pc:zab [t.d]=some (.lst ((plc t).map pD)):=zgf 100 t (by omega) (by omega) (by omega)
 have pl:=zgs t
 have rl:=R.len
 rw [plc_eq,List.map_map] at pc
 have okr:zeO (rs.length:Int):=zaZ (by omega) (by omega)
 have zr:rs.length≤1000000:=by omega
 obtain ⟨ρ',f1,k3,k4,k5,k6,rfl,_⟩:=zcn (g:=gN 3) (b:=zep zab zap zav zaj zah FUEL) (xs:=(zaq [] t).map (pD ∘ fun x=>x.1)) (ρ:=[some (.dat (.lst (rs.map rD))),some (.dat t.d),some (.own (.lst [])),none,none,none,none])
  (fun i ρ=>∃ k3 k4 k5 k6:Option Sl,ρ=[some (.dat (.lst (rs.map rD))),some (.dat t.d),some (.own (.lst ((stL t rs ((zaq [] t).take i)).map sD))),k3,k4,k5,k6]∧(nb k5=true∧nb k6=true)) ⟨none,none,none,none,by simp [stL],rfl,rfl⟩ (by
   rintro i x ρ hx ⟨k3,k4,k5,k6,rfl,n5,n6⟩
   have hi:i < (zaq [] t).length:=by have:=(List.getElem?_eq_some_iff.mp hx).1;simpa using this
   rw [List.getElem?_map,List.getElem?_eq_getElem hi] at hx
   cases hx
   have hp:=zdz (List.getElem_mem hi)
   have lp:=znf t _ _ hp
   have sl:=zhW t rs ((zaq [] t).take i)
   have tl:((zaq [] t).take i).length≤400:=by rw [List.length_take];omega
   have sz:(stL t rs ((zaq [] t).take i)).length≤10000:=by
    have:((zaq [] t).take i).length * rs.length≤400 * 9:=Nat.mul_le_mul tl rl
    omega
   obtain ⟨s6',k5',g6,g5,lo⟩:=zkd rs R t _ _ ht hp hd _ sz k6 k5 n6 n5
   rw [← zku hi] at lo
   refine ⟨[some (.dat (.lst (rs.map rD))),some (.dat t.d),some (.own (.lst ((stL t rs ((zaq [] t).take (i + 1))).map sD))),some (.dat (pD (zaq [] t)[i].1)),some (.dat (zaq [] t)[i].2.d),k5',s6'],.inl ?_,_,_,_,_,rfl,g5,g6⟩
   generalize (stL t rs ((zaq [] t).take (i + 1))).map sD=AA at lo ⊢
   generalize (stL t rs ((zaq [] t).take i)).map sD=BB at lo ⊢
   simp only [Sl.own] at lo
   simp! [lp,okr,zau,zr,lo])
 rw [List.length_map,List.take_length] at f1
 simp only [Sl.own] at f1
 simp! [zat,pc,f1]
theorem e_steps (rs:List (T×T)) (R:zfg rs) (t:T) (ht:t.size≤400) (hd:t.depth≤60) (hm:zaK [.lst (rs.map rD),.lst [t.d]]=some .non):zcQ [.lst (rs.map rD),t.d]=some (.lst ((stL t rs (zaq [] t)).map sD)):=by
 have pp:=zdl t (by omega)
 have pl:=zgs t
 have rl:=R.len
 obtain ⟨ρ',f1,k3,k4,rfl,_⟩:=zcn (g:=gTup (zaY (gN 3) (zaY (gN 4) gNil))) (b:=zhH zaK zag zbg FUEL) (xs:=(zaq [] t).map pd) (ρ:=[some (.dat (.lst (rs.map rD))),some (.dat t.d),some (.own (.lst [])),none,none])
  (fun i ρ=>∃ k3 k4:Option Sl,ρ=[some (.dat (.lst (rs.map rD))),some (.dat t.d),some (.own (.lst ((stL t rs ((zaq [] t).take i)).map sD))),k3,k4]∧True) ⟨none,none,by simp [stL],trivial⟩ (by
   rintro i x ρ hx ⟨k3,k4,rfl,_⟩
   have hi:i < (zaq [] t).length:=by have:=(List.getElem?_eq_some_iff.mp hx).1;simpa using this
   rw [List.getElem?_map,List.getElem?_eq_getElem hi] at hx
   cases hx
   have hp:=zdz (List.getElem_mem hi)
   have sa:=zlA rs R t _ _ ht hp hd
   have sl:=zhW t rs ((zaq [] t).take i)
   have tl:((zaq [] t).take i).length≤400:=by rw [List.length_take];omega
   have al:=zgj t (zaq [] t)[i].1 (zaq [] t)[i].2 0 rs
   have sz:(stL t rs ((zaq [] t).take i)).length≤10000:=by
    have:((zaq [] t).take i).length * rs.length≤400 * 9:=Nat.mul_le_mul tl rl
    omega
   have zz:(stL t rs ((zaq [] t).take i)).length + (stA t (zaq [] t)[i].1 (zaq [] t)[i].2 0 rs).length≤1000000:=by omega
   refine ⟨[some (.dat (.lst (rs.map rD))),some (.dat t.d),some (.own (.lst ((stL t rs ((zaq [] t).take (i + 1))).map sD))),some (.dat (pD (zaq [] t)[i].1)),some (.dat (zaq [] t)[i].2.d)],.inl ?_,_,_,rfl,trivial⟩
   rw [zku hi,List.map_append]
   simp only [pD] at sa ⊢
   generalize (stL t rs ((zaq [] t).take i))=BB at zz ⊢
   generalize stA t (zaq [] t)[i].1 (zaq [] t)[i].2 0 rs=CC at zz sa ⊢
   simp! [pd,sa,zz])
 rw [List.length_map,List.take_length] at f1
 simp only [Sl.own] at f1
 simp! [zcQ,hm,pp,f1]
theorem ziF {ps:List (Str×Int)}{bs:List Str}:∀ (p:List Int) (t u:T),zaF t p=some u→WT ps bs t→WT ps bs u
 | [],t,u,h,w=>by
  have:some t=some u:=by cases t<;>simpa [zaF] using h
  cases this;exact w
 | k::p,t,u,h,w=>by
  obtain ⟨s,ts,c,rfl,h0,e,h2⟩:=zaS h
  cases w with
  | nd hs hk=>exact ziF p c u h2 (hk c (List.mem_of_getElem? e))
mutual
theorem vs_len:∀ t:T,(vs t).length≤t.size
 | .bl x=>by simp [vs,T.size]
 | .nd s ts=>by rw [vs,T.size];have:=zlR ts;omega
theorem zlR:∀ ts:List T,(vsL ts).length≤T.sizes ts
 | []=>by simp [vsL,T.sizes]
 | t::r=>by rw [vsL,T.sizes,List.length_append];have:=vs_len t;have:=zlR r;omega
end
theorem znh (l r:T) (hl:l.isBl=false) (hv:∀ x∈vs r,x∈vs l) (zl:l.size≤1000) (zr:r.size≤1000):zbt [l.d,r.d]=some (.bl true):=by
 have ib:=zbA l
 rw [hl] at ib
 have b1:=zgW l (by omega)
 have b2:=zgW r (by omega)
 have ln:(ded (vs r)).length≤1000000:=by
  have:=ziu (vs r) []
  have h2:=vs_len r
  have:(ded (vs r)).length≤(vs r).length:=by simpa [ded,dedA] using this
  omega
 have cm:zcp (gN 0) yesP (zfU zad zaQ FUEL) [none,some (.dat (.lst ((ded (vs l)).map D.str)))] ((ded (vs r)).map D.str)=some (((ded (vs r)).map fun _=>true).map D.bl):=by
  refine zcH (by simp) fun i x y hx hy=>?_
  rw [List.getElem?_map] at hx
  rw [List.map_map,List.getElem?_map] at hy
  cases e:(ded (vs r))[i]? with
  | none=>rw [e] at hx;cases hx
  | some z=>
   rw [e] at hx hy
   cases hx;cases hy
   have hz:z∈ded (vs l):=(znk _).mpr (hv z ((znk _).mp (List.mem_of_getElem? e)))
   have i1:=ziq z (ded (vs l))
   rw [decide_eq_true hz] at i1
   have dz:depL ((ded (vs l)).map D.str)≤100:=by have:=zit (ded (vs l));omega
   exact ⟨_,rfl,rfl,by simp! [i1,dz]⟩
 have bo:=zjB ((ded (vs r)).map fun _=>true)
 have al:((ded (vs r)).map fun _=>true).all id=true:=by simp
 generalize ((ded (vs r)).map fun _=>true)=BB at cm bo al
 generalize ded (vs r)=RR at b2 ln cm
 have cm':zcp (gN 0) yesP (c2 inB (gv 0) (gb 1)) [none,some (.dat (.lst ((ded (vs l)).map D.str)))] (RR.map D.str)=some (BB.map D.bl):=cm
 simp! [zbt,ib,b1,b2,ln,cm',allD,bo,al]
theorem e_sides (rs:List (T×T)) (hr:rs.length≤100):zbh [.lst (rs.map rD)]=some (.lst ((rs.flatMap fun r=>[r.1,r.2]).map T.d)):=by
 have key:∀ rs:List (T×T),outM (gN 0) (cI (gv 0)) (gN 1) (zfv FUEL) [none,none] (rs.map rD)=some ((rs.flatMap fun r=>[r.1,r.2]).map T.d):=by
  intro rs
  induction rs with
  | nil=>rfl
  | cons r rs ih=>
   rw [List.map_cons,outM,ih]
   simp! [rD,datO,innM]
 have k:=key rs
 have ln:((rs.flatMap fun r=>[r.1,r.2]).map T.d).length≤1000000:=by
  have:∀ rs:List (T×T),(rs.flatMap fun r=>[r.1,r.2]).length=2 * rs.length:=by
   intro rs
   induction rs with
   | nil=>rfl
   | cons r rs ih=>rw [List.flatMap_cons,List.length_append,ih];simp;omega
  rw [List.length_map,this];omega
 generalize ((rs.flatMap fun r=>[r.1,r.2]).map T.d)=SS at k ln ⊢
 have k':outM (gN 0) (cI (gv 0)) (gN 1) (gv 1) [none,none] (rs.map rD)=some SS:=k
 simp! [zbh,zjx,k',ln]
noncomputable abbrev Cnt:=List (Str×Int)
noncomputable def cks (C:Cnt):List KD:=C.map fun p=>KD.str p.1
noncomputable def cds (C:Cnt):List D:=C.map fun p=>D.int p.2
noncomputable def cval (C:Cnt) (x:Str):Option Int:=(C.find? fun p=>decide (p.1=x)).map (·.2)
theorem cks_ok (C:Cnt):kOk (cks C)=true:=by
 unfold kOk cks
 rw [List.all_map]
 exact List.all_eq_true.mpr fun p _=>rfl
theorem cval_d (x:Str):∀ C:Cnt,valD (cks C) (cds C) (.str x)=(cval C x).map D.int
 | []=>by simp [valD,cks,cval]
 | (y,t)::C=>by
  have ih:=cval_d x C
  by_cases h:y=x
  ·subst h;simp [valD,cks,cds,cval]
  ·have h':¬ KD.str y=KD.str x:=fun z=>h (by cases z;rfl)
   simp only [valD,cks,cds,cval,List.map_cons,List.zip_cons_cons,List.find?_cons,h,h',decide_false] at ih ⊢
   exact ih
theorem cval_mem {C:Cnt}{x:Str} {k:Int}(h:cval C x=some k):(x,k)∈C:=by
 unfold cval at h
 cases e:C.find? fun p=>decide (p.1=x) with
 | none=>rw [e] at h;cases h
 | some q=>
  rw [e] at h
  cases h
  have h1:=List.find?_some e
  have h2:=List.mem_of_find?_eq_some e
  simp at h1
  rw [← h1];exact h2
theorem zjv {C:Cnt}{x:Str} (h:cval C x=none):x∉C.map (·.1):=by
 intro hx
 obtain ⟨q,hq,rfl⟩:=List.mem_map.mp hx
 unfold cval at h
 rw [Option.map_eq_none_iff,List.find?_eq_none] at h
 exact h q hq (by simp)
theorem cput {C:Cnt}{x:Str} (h:cval C x=none) (k:Int):putD (cks C) (cds C) (.str x) (.int k)=(cks (C++[(x,k)]),cds (C++[(x,k)])):=by
 have hn:=zjv h
 have ha:((cks C).any fun y=>decide (y=KD.str x))=false:=by
  rw [List.any_eq_false]
  intro y hy
  obtain ⟨q,hq,rfl⟩:=List.mem_map.mp hy
  simp only [decide_eq_true_eq,KD.str.injEq]
  intro z
  exact hn (List.mem_map.mpr ⟨q,hq,z⟩)
 unfold putD
 rw [ha]
 simp [cks,cds]
structure CO (ps:List (Str×Int)) (C:Cnt):Prop where
 nd:(C.map (·.1)).Nodup
 mem:∀ c∈C,(c.1,c.2 - 1)∈ps
theorem CO.len {ps:List (Str×Int)}{C:Cnt} (h:CO ps C):C.length≤ps.length:=by
 have:=zmO (C.map (·.1)) (ps.map (·.1)) h.nd fun x hx=>by
  obtain ⟨c,hc,rfl⟩:=List.mem_map.mp hx
  exact List.mem_map.mpr ⟨_,h.mem c hc,rfl⟩
 simpa using this
theorem znd (ps:List (Str×Int)) (bs:List Str) (hps:ps.length≤100) (ap:∀ s k k',(s,k)∈ps→(s,k')∈ps→k=k') (us:List T) (hu:∀ u∈us,WT ps bs u∧u.size≤1000):zaz [.lst (us.map T.d)]=some (.lst []):=by
 obtain ⟨ρ',f1,C,k3,k4,k5,rfl,_⟩:=zcn (g:=gN 3) (b:=zdc zag zad FUEL) (xs:=us.map T.d) (ρ:=[some (.dat (.lst (us.map T.d))),some (.own (.dic [] [])),some (.own (.lst [])),none,none,none])
  (fun i ρ=>∃ (C:Cnt) (k3 k4 k5:Option Sl),ρ=[some (.dat (.lst (us.map T.d))),some (.own (.dic (cks C) (cds C))),some (.own (.lst [])),k3,k4,k5]∧CO ps C) ⟨[],none,none,none,rfl,by simp,fun c hc=>by cases hc⟩ (by
   rintro i x ρ hx ⟨C,k3,k4,k5,rfl,hC⟩
   obtain ⟨u,hu',rfl⟩:=List.mem_map.mp (List.mem_of_getElem? hx)
   obtain ⟨hw,hz⟩:=hu u hu'
   have pp:=zdl u (by omega)
   obtain ⟨ρ2,f2,C2,k4',k5',rfl,hC2⟩:=zcn (g:=gTup (zaY (gN 4) (zaY (gN 5) gNil))) (b:=zdd zag zad FUEL) (xs:=(zaq [] u).map pd) (ρ:=[some (.dat (.lst (us.map T.d))),some (.own (.dic (cks C) (cds C))),some (.own (.lst [])),some (.dat u.d),k4,k5])
    (fun i ρ=>∃ (C:Cnt) (k4 k5:Option Sl),ρ=[some (.dat (.lst (us.map T.d))),some (.own (.dic (cks C) (cds C))),some (.own (.lst [])),some (.dat u.d),k4,k5]∧CO ps C) ⟨C,k4,k5,rfl,hC⟩ (by
     rintro j y ρ hy ⟨C,k4,k5,rfl,hC⟩
     obtain ⟨q,hq,rfl⟩:=List.mem_map.mp (List.mem_of_getElem? hy)
     have hp:=zdz hq
     have wq:=ziF _ _ _ hp hw
     have zq:=zbX _ _ _ hp
     have ib:=zbA q.2
     obtain ⟨qp,qt⟩:=q
     simp only at wq zq ib hp
     cases wq with
     | bl h=>
      rename_i x
      refine ⟨[some (.dat (.lst (us.map T.d))),some (.own (.dic (cks C) (cds C))),some (.own (.lst [])),some (.dat u.d),some (.dat (.tup (qp.map D.int))),some (.dat (.str x))],.inl ?_,C,_,_,rfl,hC⟩
      simp only [T.isBl,d_bl] at ib
      simp! [pd,d_bl,ib,andM]
     | nd h hk=>
      rename_i s ts
      simp only [T.isBl,d_nd] at ib
      have cv:=cval_d s C
      have ok:=cks_ok C
      have cl:=hC.len
      have kl:(cks C).length < 1000000:=by simp [cks];omega
      have ne:neB (.int ((ts.length:Int) + 1)) (.int ((ts.length:Int) + 1))=some (.bl false):=by simpa using zkI ((ts.length:Int) + 1) ((ts.length:Int) + 1)
      have tl:ts.length + 1≤1000000:=by rw [T.size] at zq;have:=zbq ts;omega
      cases e:cval C s with
      | some k=>
       rw [e] at cv
       have hk2:=hC.mem _ (cval_mem e)
       have:k - 1=(ts.length:Int):=ap s _ _ hk2 h
       have ek:k=(ts.length:Int) + 1:=by omega
       subst ek
       refine ⟨[some (.dat (.lst (us.map T.d))),some (.own (.dic (cks C) (cds C))),some (.own (.lst [])),some (.dat u.d),some (.dat (.tup (qp.map D.int))),some (.dat (.tup (.str s::ts.map T.d)))],.inl ?_,C,_,_,rfl,hC⟩
       dsimp! [pd,d_nd,ib,andM,cmpX,sdfM,cv,ok,kl,kdK,ne,tl,atI,ixN]
      | none=>
       rw [e] at cv
       have cp:=cput e ((ts.length:Int) + 1)
       refine ⟨[some (.dat (.lst (us.map T.d))),some (.own (.dic (cks (C++[(s,(ts.length:Int) + 1)])) (cds (C++[(s,(ts.length:Int) + 1)])))),some (.own (.lst [])),some (.dat u.d),some (.dat (.tup (qp.map D.int))),some (.dat (.tup (.str s::ts.map T.d)))],.inl ?_,C++[(s,(ts.length:Int) + 1)],_,_,rfl,?_⟩
       ·dsimp! [pd,d_nd,ib,andM,cmpX,sdfM,cv,ok,kl,kdK,cp,ne,tl,atI,ixN]
       ·refine ⟨?_,fun c hc=>?_⟩
        ·rw [List.map_append,List.nodup_append]
         refine ⟨hC.nd,by simp,fun a ha b hb=>?_⟩
         simp at hb
         subst hb
         rintro rfl
         exact zjv e ha
        ·rcases List.mem_append.mp hc with hc | hc
         ·exact hC.mem c hc
         ·rw [List.mem_singleton.mp hc]
          simpa using h)
   refine ⟨[some (.dat (.lst (us.map T.d))),some (.own (.dic (cks C2) (cds C2))),some (.own (.lst [])),some (.dat u.d),k4',k5'],.inl ?_,C2,_,_,_,rfl,hC2⟩
   simp only [Sl.own] at f2
   simp! [pp,f2])
 simp only [Sl.own] at f1
 simp! [zaz,f1]
theorem e_must (ps:List (Str×Int)) (bs:List Str) (hps:ps.length≤100) (ap:∀ s k k',(s,k)∈ps→(s,k')∈ps→k=k') (rs:List (T×T)) (R:zfg rs) (hr:∀ r∈rs,r.1.isBl=false∧(∀ x∈vs r.2,x∈vs r.1)∧WT ps bs r.1∧WT ps bs r.2) (t:T) (hw:WT ps bs t) (hz:t.size≤1000) :
  zaK [.lst (rs.map rD),.lst [t.d]]=some .non:=by
 have rl:=R.len
 have sd:=e_sides rs (by omega)
 have ln:(rs.flatMap fun r=>[r.1,r.2]).length≤100:=by
  have:∀ rs:List (T×T),(rs.flatMap fun r=>[r.1,r.2]).length=2 * rs.length:=by
   intro rs
   induction rs with
   | nil=>rfl
   | cons r rs ih=>rw [List.flatMap_cons,List.length_append,ih];simp;omega
  rw [this];omega
 have tw:=znd ps bs hps ap ((rs.flatMap fun r=>[r.1,r.2])++[t]) (fun u hu=>by
  rcases List.mem_append.mp hu with hu | hu
  ·obtain ⟨r,hr',hu⟩:=List.mem_flatMap.mp hu
   have h1:=hr r hr'
   have h2:=R.lz r hr'
   have h3:=R.rz r hr'
   simp at hu
   rcases hu with rfl | rfl
   ·exact ⟨h1.2.2.1,by omega⟩
   ·exact ⟨h1.2.2.2,by omega⟩
  ·rw [List.mem_singleton.mp hu];exact ⟨hw,hz⟩)
 obtain ⟨ρ',f1,k2,k3,k4,rfl⟩:=zcn (g:=gN 2) (b:=zen zaz zbt zbh FUEL) (xs:=rs.map rD) (ρ:=[some (.dat (.lst (rs.map rD))),some (.dat (.lst [t.d])),none,none,none,none])
  (fun i ρ=>∃ k2 k3 k4:Option Sl,ρ=[some (.dat (.lst (rs.map rD))),some (.dat (.lst [t.d])),k2,k3,k4,none]) ⟨none,none,none,rfl⟩ (by
   rintro i x ρ hx ⟨k2,k3,k4,rfl⟩
   obtain ⟨r,hr',rfl⟩:=List.mem_map.mp (List.mem_of_getElem? hx)
   have h1:=hr r hr'
   have h2:=R.lz r hr'
   have h3:=R.rz r hr'
   have ir:=znh r.1 r.2 h1.1 h1.2.1 (by omega) (by omega)
   refine ⟨[some (.dat (.lst (rs.map rD))),some (.dat (.lst [t.d])),some (.dat (rD r)),some (.dat r.1.d),some (.dat r.2.d),none],.inl ?_,_,_,_,rfl⟩
   simp! [rD,ir])
 rw [List.map_append] at tw
 have l2:((rs.flatMap fun r=>[r.1,r.2]).map T.d).length + 1≤1000000:=by rw [List.length_map];omega
 generalize (rs.flatMap fun r=>[r.1,r.2]).map T.d=SS at sd tw l2
 have tw:zaz [.lst (SS++[t.d])]=some (.lst []):=tw
 simp! [zaK,runN,f1,sd,l2,tw]
mutual
theorem mt_sub:∀ (p u:T) (φ ψ:Fil),mt φ p u=some ψ→∀ v∈ψ,v∈φ∨Sub v.2 u
 | .bl x,u,φ,ψ,h=>by
  rw [mt] at h
  unfold mtB at h
  cases e:fval φ x with
  | some v=>
   rw [e] at h
   simp only at h
   split at h
   ·cases h;exact fun v hv=>.inl hv
   ·cases h
  | none=>
   rw [e] at h
   cases h
   intro v hv
   rcases List.mem_append.mp hv with hv | hv
   ·exact .inl hv
   ·rw [List.mem_singleton.mp hv];exact .inr (.refl _)
 | .nd s ts,.bl y,φ,ψ,h=>by simp [mt] at h
 | .nd s ts,.nd r us,φ,ψ,h=>by
  simp only [mt] at h
  split at h
  ·intro v hv
   rcases zmJ ts us φ ψ h v hv with h1 | ⟨u,hu,h1⟩
   ·exact .inl h1
   ·exact .inr (.kid hu h1)
  ·cases h
theorem zmJ:∀ (ts us:List T) (φ ψ:Fil),mts φ ts us=some ψ→∀ v∈ψ,v∈φ∨∃ u∈us,Sub v.2 u
 | [],us,φ,ψ,h=>by simp [mts] at h;subst h;exact fun v hv=>.inl hv
 | t::ts,[],φ,ψ,h=>by simp [mts] at h;subst h;exact fun v hv=>.inl hv
 | t::ts,u::us,φ,ψ,h=>by
  rw [mts] at h
  cases e:mt φ t u with
  | none=>rw [e] at h;cases h
  | some φ'=>
   rw [e] at h
   intro v hv
   rcases zmJ ts us φ' ψ h v hv with h5 | ⟨w,hw,h5⟩
   ·rcases mt_sub t u φ φ' e v h5 with h6 | h6
    ·exact .inl h6
    ·exact .inr ⟨u,by simp,h6⟩
   ·exact .inr ⟨w,List.mem_cons_of_mem _ hw,h5⟩
end
theorem WT.sub {ps:List (Str×Int)}{bs:List Str} {u t:T}(h:WT ps bs t) (s:Sub u t):WT ps bs u:=by
 induction s with
 | refl=>exact h
 | kid hm _ ih=>cases h with | nd hs hk=>exact ih (hk _ hm)
theorem WT.fill {ps:List (Str×Int)}{bs:List Str} {φ:Fil}(hφ:∀ v∈φ,WT ps bs v.2) {t:T}(h:WT ps bs t):WT ps bs (zbv φ t):=by
 induction h with
 | bl hx=>
  rename_i x
  cases e:fval φ x with
  | none=>rw [fill_bl e];exact .bl hx
  | some v=>
   rw [zmZ e]
   obtain ⟨q,hq,_,rfl⟩:=zft e
   exact hφ q hq
 | nd hs _ ih=>
  rw [zbv,zcJ]
  refine .nd (by rw [List.length_map];exact hs) fun t ht=>?_
  obtain ⟨u,hu,rfl⟩:=List.mem_map.mp ht
  exact ih u hu
theorem WT.put {ps:List (Str×Int)}{bs:List Str} {n:T}(hn:WT ps bs n):∀ (p:List Int) (t u:T),zaF t p=some u→WT ps bs t→WT ps bs (putT t p n)
 | [],t,u,_,_=>by rw [zeG];exact hn
 | k::p,t,u,h,w=>by
  obtain ⟨s,ts,c,rfl,h0,e,h2⟩:=zaS h
  rw [zjN e]
  cases w with
  | nd hs hk=>
   have ih:=WT.put hn p c u h2 (hk c (List.mem_of_getElem? e))
   refine .nd (by rw [List.length_set];exact hs) fun t ht=>?_
   rcases List.mem_or_eq_of_mem_set ht with h1 | h1
   ·exact hk t h1
   ·rw [h1];exact ih
theorem WT.mono {ps:List (Str×Int)}{bs cs:List Str} (hb:∀ x∈bs,x∈cs) {t:T}(h:WT ps bs t):WT ps cs t:=by
 induction h with
 | bl hx=>exact .bl (hb _ hx)
 | nd hs _ ih=>exact .nd hs ih
theorem zlW {t:T}{p:List Int} {u:T}{x:List Int×Nat×T}:∀ {k:Nat}{rs:List (T×T)},x∈stA t p u k rs→∃ r∈rs,∃ φ,mt [] r.1 u=some φ∧x.2.2=putT t p (zbv φ r.2)
 | _,[],h=>by simp [stA] at h
 | k,r::rs,h=>by
  rw [stA] at h
  rcases List.mem_append.mp h with h | h
  ·cases e:mt [] r.1 u with
   | none=>rw [e] at h;cases h
   | some φ=>
    rw [e] at h
    have:=List.mem_singleton.mp h
    exact ⟨r,by simp,φ,e,by rw [this]⟩
  ·obtain ⟨r',hr',z⟩:=zlW h
   exact ⟨r',List.mem_cons_of_mem _ hr',z⟩
structure RulesW (ps:List (Str×Int)) (bs:List Str) (rs:List (T×T)):Prop where
 ok:zfg rs
 ru:∀ r∈rs,r.1.isBl=false∧(∀ x∈vs r.2,x∈vs r.1)∧WT ps bs r.1∧WT ps bs r.2
theorem zlV {ps:List (Str×Int)}{bs:List Str} {rs:List (T×T)}(R:RulesW ps bs rs) {t:T}(hw:WT ps bs t) (hz:t.size≤40) {x:List Int×Nat×T}(h:x∈stL t rs (zaq [] t)):WT ps bs x.2.2∧x.2.2.depth≤2 * t.depth + 12∧x.2.2.size≤2000:=by
 obtain ⟨q,hq,h⟩:=List.mem_flatMap.mp h
 have hp:=zdz hq
 obtain ⟨r,hr,φ,e,ex⟩:=zlW h
 have hs:=mt_sub r.1 q.2 [] φ e
 have wq:=ziF _ _ _ hp hw
 have dq:=zcz _ _ _ hp
 have zq:=zbX _ _ _ hp
 have hv:∀ v∈φ,Sub v.2 q.2:=fun v hv=>(hs v hv).elim (fun z=>by cases z) id
 have h1:=R.ru r hr
 have h2:=R.ok.rz r hr
 rw [ex]
 have f1:=zfI (φ:=φ) (m:=q.2.depth) (fun v hv'=>(hv v hv').depth) r.2
 have f2:=zgQ (φ:=φ) (m:=q.2.size) (zch _) (fun v hv'=>(hv v hv').size) r.2
 have p1:=zeH q.1 t (zbv φ r.2)
 have p2:=zfp q.1 t (zbv φ r.2)
 refine ⟨WT.put (WT.fill (fun v hv'=>wq.sub (hv v hv')) h1.2.2.2) _ _ _ hp hw,by omega,?_⟩
 have:r.2.size * q.2.size≤40 * 40:=Nat.mul_le_mul h2.1 (by omega)
 omega
theorem zis:∀ L:List (List Int×Nat×T),eqL (L.map sD) (L.map sD)=some true
 | []=>by simp [eqL]
 | x::L=>by
  have h1:=zna x.1 x.1
  have h2:=eq_dT x.2.2
  simp [eqL,sD,pD,eqD,h1,h2,zis L]
theorem zgZ {b:Nat}:∀ L:List (List Int×Nat×T),(∀ x∈L,x.2.2.depth≤b)→depL (L.map sD)≤b + 4
 | [],_=>by simp [depL]
 | x::L,h=>by
  have h1:=zgZ L fun y hy=>h y (List.mem_cons_of_mem _ hy)
  have h2:=h x (by simp)
  have h3:=zlF x.2.2
  have h4:=dep_ints x.1
  simp only [List.map_cons,depL,sD,pD,dep]
  omega
theorem zkT (ps:List (Str×Int)) (bs:List Str) (hps:ps.length≤100) (ap:∀ s k k',(s,k)∈ps→(s,k')∈ps→k=k') (rs:List (T×T)) (R:RulesW ps bs rs) (t:T) (hw:WT ps bs t) (hz:t.size≤40) (hd:t.depth≤35):zeI [.lst (rs.map rD),t.d]=some (.bl true):=by
 have e1:=zkR rs R.ok t (by omega) (by omega)
 have e2:=e_steps rs R.ok t (by omega) (by omega) (e_must ps bs hps ap rs R.ok R.ru t hw (by omega))
 have q:=zis (stL t rs (zaq [] t))
 have dz:=zgZ (b:=82) (stL t rs (zaq [] t)) fun x hx=>by have:=(zlV R hw hz hx).2.1;omega
 generalize (stL t rs (zaq [] t)).map sD=L at e1 e2 q dz
 have dz':depL L≤99:=by omega
 have qe:eqB (.lst L) (.lst L)=some (.bl true):=by simp [eqB,eqD,dep,dz',q]
 have qn:neB (.lst L) (.lst L)=some (.bl false):=by simp [neB,eqD,dep,dz',q]
 dsimp! [zeI,e1,e2,qe,qn,clrM,zbK,zcl,zfr,zfq,zil]
theorem zkH {α β:Type}{l:List α} (f:α→β) (h:∀ (i j:Nat) x y,l[i]?=some x→l[j]?=some y→f x=f y→i=j):l.Nodup:=by
 rw [List.nodup_iff_pairwise_ne,List.pairwise_iff_getElem]
 intro i j hi hj hij e
 have:=h i j l[i] l[j] (List.getElem?_eq_getElem hi) (List.getElem?_eq_getElem hj) (by rw [e])
 omega
theorem slice_to (z:Str) (k:Nat) (hk:k≤z.length):(Txt.slice z none (some (k:Int))).length=k:=by
 have hz:Builtin.Str.strSliceIndices none (some (k:Int)) 1 z.length=List.range k:=by
  unfold Builtin.Str.strSliceIndices sliceRange
  simp only [show (1:Int) > 0 by decide,if_true]
  have e1:¬ ((k:Int) < 0):=by omega
  simp only [e1,if_false]
  have e2:max 0 (min (k:Int) (z.length:Int))=(k:Int):=by omega
  rw [e2]
  by_cases h0:(0:Int) < (k:Int)
  ·rw [if_pos h0]
   have e3:(((k:Int) - 0 + 1 - 1) / 1).toNat=k:=by omega
   rw [e3]
   conv=>rhs;rw [← List.map_id (List.range k)]
   apply List.map_congr_left
   intro a _
   simp
  ·have:k=0:=by omega
   subst this
   simp
 unfold Txt.slice
 rw [hz]
 split
 ·rename_i h
  simp at h
  exact h.symm
 ·show (List.filterMap _ (List.range k)).toArray.size=k
  rw [List.size_toArray]
  have key:∀ l:List Nat,(∀ a∈l,a < z.cps.size)→(l.filterMap fun x=>z.cps[x]?).length=l.length:=by
   intro l
   induction l with
   | nil=>intro _;rfl
   | cons a l ih=>
    intro h
    have ha:=h a (by simp)
    rw [List.filterMap_cons,Array.getElem?_eq_getElem ha,List.length_cons,List.length_cons,ih fun b hb=>h b (List.mem_cons_of_mem _ hb)]
  rw [key _ fun a ha=>by have:=List.mem_range.mp ha;have:z.length=z.cps.size:=rfl;omega,List.length_range]
theorem zks:∀ (ys:List Str),(∀ y∈ys,y.length=1)→(ys.map (·.length)).sum=ys.length
 | [],_=>rfl
 | y::ys,h=>by
  rw [List.map_cons,List.sum_cons,h y (by simp),zks ys fun z hz=>h z (List.mem_cons_of_mem _ hz),List.length_cons];omega
theorem zkn:(Str.ofString "abcdefghijklmnopqrstuvwxyz").cps.toList.Nodup:=by decide +kernel
theorem zlt {a b:Int}{c:Nat} (h1:atI (Str.ofString "abcdefghijklmnopqrstuvwxyz").cps.toList (a % 26)=some c) (h2:atI (Str.ofString "abcdefghijklmnopqrstuvwxyz").cps.toList (b % 26)=some c):a % 26=b % 26:=by
 have a0:0≤a % 26:=Int.emod_nonneg _ (by decide)
 have a1:a % 26 < 26:=Int.emod_lt_of_pos _ (by decide)
 have b0:0≤b % 26:=Int.emod_nonneg _ (by decide)
 have b1:b % 26 < 26:=Int.emod_lt_of_pos _ (by decide)
 rw [zeY a0 (by rw [alen];exact_mod_cast a1)] at h1
 rw [zeY b0 (by rw [alen];exact_mod_cast b1)] at h2
 have:=(List.getElem?_inj (by rw [alen];omega) zkn).mp (h1.trans h2.symm)
 omega
theorem str_mid {A B:Str}{c c':Nat} (h:A++⟨#[c]⟩++B=A++⟨#[c']⟩++B):c=c':=by
 have h1:=congrArg (fun z:Str=>z.cps.toList) h
 have e:∀ a b:Str,(a++b).cps.toList=a.cps.toList++b.cps.toList:=fun a b=>by
  show (a.cps++b.cps).toList=_
  simp
 simp only [e] at h1
 simpa using h1
theorem e_wordsN (c:Int):∃ ws:List Str,zaL [.int c]=some (.lst (ws.map D.str))∧ws.length=5∧nle 16 ws∧ws.Nodup:=by
 obtain ⟨n0,e0⟩:∃ n0:Int,c * 1000000007 % 1000000000000000000=n0:=⟨_,rfl⟩
 have h7:0≤n0 % 7:=Int.emod_nonneg _ (by decide)
 have h7':n0 % 7 < 7:=Int.emod_lt_of_pos _ (by decide)
 obtain ⟨ρ',e1,nb,bs,k,rfl,hb⟩:=zcn (g:=gN 4) (b:=zeo FUEL) (xs:=zaU 0 (n0 % 7).toNat) (ρ:=[some (.dat (.int c)),some (.dat (.str "abcdefghijklmnopqrstuvwxyz")),some (.dat (.int n0)),some (.dat (.str "")),none,none])
  (fun i ρ=>∃ (nb:Int) (bs:Str) (k:Option Sl),ρ=[some (.dat (.int c)),some (.dat (.str "abcdefghijklmnopqrstuvwxyz")),some (.dat (.int nb)),some (.dat (.str bs)),k,none]∧bs.length≤min i 7)
  ⟨n0, "",none,rfl,by rw [elen];omega⟩ (by
   rintro i x ρ hx ⟨nb,bs,k,rfl,hb⟩
   obtain ⟨hi,rfl⟩:=zbn hx
   obtain ⟨cc,hcc⟩:=zkJ alen (nb / 7)
   have hl:bs.length + 1≤1000000:=by omega
   refine ⟨[some (.dat (.int c)),some (.dat (.str "abcdefghijklmnopqrstuvwxyz")),some (.dat (.int (nb / 11))),some (.dat (.str (bs++⟨#[cc]⟩))),some (.dat (.int (0 + (i:Int)))),none],.inl ?_,_,_,_,rfl,?_⟩
   ·simp! [alen',hcc,len1,hl]
   ·rw [zkK,len1];omega)
 have hb6:bs.length≤7:=by omega
 have hz:bs.length≤1000000:=by omega
 have hp:(0:Int) < (bs.length:Int) + 1:=by omega
 have hr7:-4611686018427387904≤n0 % 7∧n0 % 7 < 4611686018427387904:=by omega
 by_cases h3:nb % 3=0
 ·obtain ⟨ys,w1,w2,w3⟩:=zeL D.str (fun _ y=>y.length=1) (g:=gN 0) (f:=zey FUEL) (ρ:=[none,some (.dat (.str "abcdefghijklmnopqrstuvwxyz")),some (.dat (.int nb))]) (xs:=zaU 0 6) 0 (by
   intro i x hx
   obtain ⟨hi,rfl⟩:=zbn hx
   rw [Int.zero_add]
   have hd:0 < (3:Int) + (i:Int) * (i:Int):=by
    have:0≤(i:Int) * (i:Int):=Int.mul_nonneg (by omega) (by omega)
    omega
   have hd2:(3:Int) + (i:Int) * (i:Int) < 1073741824:=by
    have:(i:Int) * (i:Int)≤6 * 6:=Int.mul_le_mul (by omega) (by omega) (by omega) (by decide)
    omega
   have hm:(-18446744073709551616 < (i:Int)∧(i:Int) < 18446744073709551616):=by omega
   obtain ⟨cc,hcc⟩:=zkJ alen (nb / (3 + (i:Int) * (i:Int)))
   refine ⟨_,⟨#[cc]⟩,rfl,?_,len1 cc⟩
   simp! [alen',hcc,hd,hd2,hm])
  rw [zau] at w2
  have w3':∀ y∈ys,y.length=1:=fun y hy=>by obtain ⟨i,hi⟩:=List.mem_iff_getElem?.mp hy;exact w3 i y hi
  have js6:(ys.map (·.length)).sum=6:=by rw [zks ys w3'];exact w2
  have js:(ys.map (·.length)).sum≤6:=by omega
  have jl6:(Txt.join (Str.ofString "") ys).length=6:=by rw [join_len];exact js6
  have jl:(Txt.join (Str.ofString "") ys).length≤6:=by omega
  have jo:zcy (ys.map D.str)=some ys:=zhA ys
  have jz:(ys.map (·.length)).sum + ys.length * (Str.ofString "").length≤16777216:=by rw [elen];omega
  obtain ⟨zs,d1,d2,d4⟩:=zeL D.str (fun i y=>y.length=i + 1∧y.length≤16) (g:=gN 0) (f:=zex FUEL) (ρ:=[none,some (.dat (.str (Txt.join (Str.ofString "") ys)))]) (xs:=zaU 0 5) 0 (by
   intro i x hx
   obtain ⟨hi,rfl⟩:=zbn hx
   have sl:=slice_to (Txt.join (Str.ofString "") ys) (i + 1) (by omega)
   have ce:(((i + 1:Nat)):Int)=0 + (i:Int) + 1:=by omega
   rw [ce] at sl
   have hz2:(Txt.join (Str.ofString "") ys).length≤1000000:=by omega
   refine ⟨_,Txt.slice (Txt.join (Str.ofString "") ys) none (some (0 + (i:Int) + 1)),rfl,?_,by rw [sl];omega,by rw [sl];omega⟩
   simp! [hz2])
  rw [zau] at d2
  refine ⟨zs,?_,d2,(fun y hy=>by obtain ⟨i,hi⟩:=List.mem_iff_getElem?.mp hy;exact (d4 i y hi).2),zkH (fun y=>y.length) fun i j x y hx hy e=>?_⟩
  rotate_left
  ·have h1:=(d4 i x hx).1
   have h2:=(d4 j y hy).1
   omega
  simp! [zaL,e0,e1,h3,w1,d1,hz,hp,hr7,zau,joinD,jo,jz,dep,eqD]
 ·obtain ⟨zs,d1,d2,d4⟩:=zeL D.str (fun i y=>y.length≤16∧∃ cc,atI (Str.ofString "abcdefghijklmnopqrstuvwxyz").cps.toList ((nb / 5 + 5 * (i:Int)) % 26)=some cc∧y=Txt.slice bs none (some (nb / 7 % ((bs.length:Int) + 1)))++⟨#[cc]⟩++Txt.slice bs (some (nb / 7 % ((bs.length:Int) + 1))) none) (g:=gN 0) (f:=zew FUEL) (ρ:=[none,some (.dat (.str bs)),some (.dat (.str "abcdefghijklmnopqrstuvwxyz")),some (.dat (.int (nb / 7 % ((bs.length:Int) + 1)))),some (.dat (.int nb))]) (xs:=zaU 0 5) 0 (by
   intro i x hx
   obtain ⟨hi,rfl⟩:=zbn hx
   rw [Int.zero_add,Nat.zero_add]
   obtain ⟨cc,hcc⟩:=zkJ alen (nb / 5 + 5 * (i:Int))
   have s1:=ziM bs none (some (nb / 7 % ((bs.length:Int) + 1)))
   have s2:=ziM bs (some (nb / 7 % ((bs.length:Int) + 1))) none
   have l1:(Txt.slice bs none (some (nb / 7 % ((bs.length:Int) + 1)))).length + 1≤1000000:=by omega
   have l2:(Txt.slice bs none (some (nb / 7 % ((bs.length:Int) + 1)))).length + 1 + (Txt.slice bs (some (nb / 7 % ((bs.length:Int) + 1))) none).length≤1000000:=by omega
   refine ⟨_,Txt.slice bs none (some (nb / 7 % ((bs.length:Int) + 1)))++⟨#[cc]⟩++Txt.slice bs (some (nb / 7 % ((bs.length:Int) + 1))) none,rfl,?_,by rw [zkK,zkK,len1];omega,cc,hcc,rfl⟩
   simp! [hz,alen',hcc,len1,zkK,l1,l2])
  rw [zau] at d2
  refine ⟨zs,?_,d2,(fun y hy=>by obtain ⟨i,hi⟩:=List.mem_iff_getElem?.mp hy;exact (d4 i y hi).1),zkH id fun i j x y hx hy e=>?_⟩
  rotate_left
  ·obtain ⟨_,c1',a1,rfl⟩:=d4 i x hx
   obtain ⟨_,c2',a2,rfl⟩:=d4 j y hy
   have i5:i < 5:=by have:=(List.getElem?_eq_some_iff.mp hx).1;omega
   have j5:j < 5:=by have:=(List.getElem?_eq_some_iff.mp hy).1;omega
   have ec:=str_mid (show _++_++_=_++_++_ from e)
   subst ec
   have:=zlt a1 a2
   rw [Nat.zero_add,Nat.zero_add] at this
   omega
  simp! [zaL,e0,e1,h3,d1,hz,hp,hr7,zau,dep,eqD]
theorem e_sortsN (c:Int):∃ ps:List (Str×Int),zaG [.int c]=some (.lst (ps.map sd))∧zeC ps∧∀ s k k',(s,k)∈ps→(s,k')∈ps→k=k':=by
 obtain ⟨ws,ew,wl,wn,wnd⟩:=e_wordsN c
 have h0:0≤c / 3 % 4:=Int.emod_nonneg _ (by decide)
 have h4':c / 3 % 4 < 4:=Int.emod_lt_of_pos _ (by decide)
 have h12:0≤c / 12 % 4:=Int.emod_nonneg _ (by decide)
 have h12':c / 12 % 4 < 4:=Int.emod_lt_of_pos _ (by decide)
 have hr:-4611686018427387904≤2 + c / 12 % 4∧2 + c / 12 % 4 < 4611686018427387904:=by omega
 obtain ⟨cs,ecs,cl,cb,cf⟩:∃ cs:List Int,atI [D.lst [.int 0,.int 2,.int 1,.int 0,.int 3],.lst [.int 0,.int 1,.int 2,.int 2,.int 0],.lst [.int 0,.int 3,.int 1,.int 1,.int 0],.lst [.int 0,.int 2,.int 0,.int 1,.int 1]] (c / 3 % 4)=some (.lst (cs.map D.int))∧cs.length=5∧(∀ n∈cs,0≤n∧n≤3)∧cs[0]?=some 0:=by
  rcases (by omega:c / 3 % 4=0∨c / 3 % 4=1∨c / 3 % 4=2∨c / 3 % 4=3) with e | e | e | e
  ·exact ⟨[0,2,1,0,3],by rw [e];rfl,rfl,by decide,rfl⟩
  ·exact ⟨[0,1,2,2,0],by rw [e];rfl,rfl,by decide,rfl⟩
  ·exact ⟨[0,3,1,1,0],by rw [e];rfl,rfl,by decide,rfl⟩
  ·exact ⟨[0,2,0,1,1],by rw [e];rfl,rfl,by decide,rfl⟩
 obtain ⟨ps,p1,p2,p3⟩:=zeL sd (fun i p=>(p.1∈ws∧cs[i]?=some p.2)∧ws[i]?=some p.1) (g:=gN 0) (f:=zez zaL FUEL) (ρ:=[none,some (.dat (.lst (ws.map D.str))),some (.dat (.lst (cs.map D.int)))]) (xs:=zaU 0 (2 + c / 12 % 4).toNat) 0 (by
  intro i x hx
  obtain ⟨hi,rfl⟩:=zbn hx
  have i1:i < ws.length:=by omega
  have i2:i < cs.length:=by omega
  have a1:atI ws (i:Int)=some ws[i]:=zbT (List.getElem?_eq_getElem i1)
  have a2:atI cs (i:Int)=some cs[i]:=zbT (List.getElem?_eq_getElem i2)
  refine ⟨_,(ws[i],cs[i]),rfl,?_,⟨List.getElem_mem _,?_⟩,by rw [Nat.zero_add];exact List.getElem?_eq_getElem i1⟩
  ·simp! [zbF,a1,a2,sd]
  ·rw [Nat.zero_add];exact List.getElem?_eq_getElem i2)
 rw [zau] at p2
 have pm:∀ p∈ps,p.1∈ws∧p.2∈cs:=fun p hp=>by
  obtain ⟨i,hi⟩:=List.mem_iff_getElem?.mp hp
  have:=(p3 i p hi).1
  exact ⟨this.1,List.mem_of_getElem? this.2⟩
 refine ⟨ps,?_,⟨by omega,by omega,fun p hp=>cb _ (pm p hp).2,fun p hp=>?_,fun p hp=>wn _ (pm p hp).1⟩,fun s k k' h1 h2=>?_⟩
 ·have hz:(2 + c / 12 % 4).toNat≤1000000:=by omega
  simp! [zaG,ew,ecs,hr,p1,hz,zau]
 ·have:=(p3 0 p hp).1.2
  rw [Nat.add_zero,cf] at this
  exact (Option.some.inj this).symm
 ·obtain ⟨i,hi⟩:=List.mem_iff_getElem?.mp h1
  obtain ⟨j,hj⟩:=List.mem_iff_getElem?.mp h2
  have a1:=p3 i _ hi
  have a2:=p3 j _ hj
  rw [Nat.zero_add] at a1 a2
  have il:i < ws.length:=(List.getElem?_eq_some_iff.mp a1.2).1
  have ij:i=j:=(List.getElem?_inj il wnd).mp (a1.2.trans a2.2.symm)
  subst ij
  exact Option.some.inj (a1.1.2.symm.trans a2.1.2)
theorem WT_rep {ps:List (Str×Int)}{bs:List Str} {w x:Str}{k:Int} (h:(w,k)∈ps) (h0:0≤k) (hx:x∈bs):WT ps bs (.nd w (List.replicate k.toNat (.bl x))):=by
 have e:((k.toNat:Nat):Int)=k:=by omega
 refine .nd (by rw [List.length_replicate,e];exact h) fun t ht=>?_
 rw [(List.mem_replicate.mp ht).2];exact .bl hx
theorem e_right (ps:List (Str×Int)) (bs:List Str) (S:zeC ps) (l:T) (hl:l.isBl=false) (hw:WT ps bs l) (hz:l.size≤7) (hd:l.depth≤5) (kd sp a b:Int) (k0:0≤kd) (k3:kd < 3) (s0:0≤sp) :
  ∃ (r:T) (p:List Int),atI ((plc l).map pD) (sp % (l.size:Int))=some (pD p)∧(∀ x∈vs r,x∈vs l)∧WT ps bs r∧r.size≤40∧r.depth≤12∧
   ((kd=0∧zap [l.d,pD p]=some r.d)∨
    (∃ (z a' b' a2 b2:Int) (ns:List Int) (q:T),zaf (zbU a b) [.int 4]=some (.int z,zbU a' b')∧0≤z∧z < 4∧zfL (gN 0) (zcr zaf 1 (zaa (cst (.int 4800)) nilF)) [none,some (.bor (zbU a' b'))] 1 (zbU a' b') (zaU 0 (1 + z).toNat)=some (ns.map D.int,zbU a2 b2)∧zao [.lst (ns.map D.int),.lst (ps.map sd),.lst ((bks l).map D.str),.int 2]=some q.d∧((kd=1∧r=q)∨(kd=2∧zaj [l.d,pD p,q.d]=some r.d)))):=by
 have lp:=zeb l
 have sz:=zch l
 have q0:0≤sp % (l.size:Int):=Int.emod_nonneg _ (by omega)
 have q1:sp % (l.size:Int) < (l.size:Int):=Int.emod_lt_of_pos _ (by omega)
 obtain ⟨p,hp⟩:∃ p,(plc l)[(sp % (l.size:Int)).toNat]?=some p:=⟨_,List.getElem?_eq_getElem (by omega)⟩
 have ap:atI ((plc l).map pD) (sp % (l.size:Int))=some (pD p):=by
  rw [zeY q0 (by rw [List.length_map,lp];exact q1),List.getElem?_map,hp];rfl
 obtain ⟨u,hu⟩:=zmi l p (List.mem_of_getElem? hp)
 have uz:=zbX p l u hu
 have ud:=zcz p l u hu
 have pl:=zcL p l u hu
 by_cases h0:kd=0
 ·refine ⟨u,p,ap,fun x hx=>?_,ziF p l u hu hw,by omega,by omega,.inl ⟨h0,znf l u p hu⟩⟩
  have:=zlQ p l u x
  have hs:∀ (p:List Int) (t u:T),zaF t p=some u→∀ x∈vs u,x∈vs t:=by
   intro p
   induction p with
   | nil=>
    intro t u h x hx
    have:some t=some u:=by cases t<;>simpa [zaF] using h
    cases this;exact hx
   | cons k p ih=>
    intro t u h x hx
    obtain ⟨s,ts,c,rfl,h0,e,h2⟩:=zaS h
    rw [vs,zgh]
    exact ⟨c,List.mem_of_getElem? e,ih c u h2 x hx⟩
  exact hs p l u hu x hx
 ·obtain ⟨z,a',b',t1,z0,z4⟩:=zgT a b 4 (by decide) (by decide)
  obtain ⟨ns,a2,b2,g1,g2⟩:=zdV FUEL (some (.bor (zbU a' b'))) (zaU 0 (1 + z).toNat) a' b'
  rw [zau] at g2
  have bl:=ziD l
  obtain ⟨q,m1,m2,m3,mW⟩:=zne ns ps (bks l) 2 S (by omega) (by decide) (by decide) (by omega) (by omega)
  have bm:∀ x∈bks l,x∈bs:=fun x hx=>WT_vs hw x ((ziC l).mp hx)
  have mW':WT ps bs q:=mW.mono bm
  have vq:∀ x∈vs q,x∈vs l:=fun x hx=>(ziC l).mp (WT_vs mW x hx)
  by_cases h1:kd=1
  ·exact ⟨q,p,ap,vq,mW',by omega,by omega,.inr ⟨z,a',b',a2,b2,ns,q,t1,z0,z4,g1,m1,.inl ⟨h1,rfl⟩⟩⟩
  ·have pt:zaj [l.d,pD p,q.d]=some (putT l p q).d:=zkS 100 p l u q (by omega) (by omega) hu (by omega)
   have:=zfp p l q
   have:=zeH p l q
   refine ⟨putT l p q,p,ap,fun x hx=>?_,WT.put mW' p l u hu hw,by omega,by omega,.inr ⟨z,a',b',a2,b2,ns,q,t1,z0,z4,g1,m1,.inr ⟨by omega,pt⟩⟩⟩
   rcases zlQ p l q x hx with h | h
   ·exact h
   ·exact vq x h
theorem e_rule (c:Int) (ps:List (Str×Int)) (bs:List Str) (S:zeC ps) (hb:1≤bs.length) (hb2:bs.length≤4) :
  ∃ l r:T,zay [.int c,.lst (ps.map sd),.lst (bs.map D.str)]=some (rD (l,r))∧l.isBl=false∧(∀ x∈vs r,x∈vs l)∧WT ps bs l∧WT ps bs r∧l.size≤7∧l.depth≤5∧r.size≤40∧r.depth≤12:=by
 obtain ⟨a,b,pu⟩:=zkc c
 obtain ⟨kd,a1,b1,tk1,k0,k3⟩:=zgT a b 3 (by decide) (by decide)
 obtain ⟨sp,a2,b2,tk2,s0,s1⟩:=zgT a1 b1 5040 (by decide) (by decide)
 obtain ⟨z,a3,b3,tk3,z0,z5⟩:=zgT a2 b2 5 (by decide) (by decide)
 obtain ⟨ns,a4,b4,g1,g2⟩:=zdV FUEL (some (.bor (zbU a3 b3))) (zaU 0 (3 + z).toNat) a3 b3
 rw [zau] at g2
 have g1:zfL (gN 0) (zcr zaf 1 (zaa (cst (.int 4800)) nilF)) [none,some (.bor (zbU a3 b3))] 1 (zbU a3 b3) (zaU 0 (3 + z).toNat)=some (ns.map D.int,zbU a4 b4):=g1
 have o1:zeO (3 + z):=zaZ (by omega) (by omega)
 have l1:(3 + z).toNat≤1000000:=by omega
 obtain ⟨l0,m1,m2,m3,mW⟩:=zkb ns ps bs 5 S hb (by omega) (by decide) (by decide) (by omega) (by omega)
 have lo:=S.lo
 have hi:=S.hi
 have fin:∀ l:T,l.isBl=false→WT ps bs l→l.size≤7→l.depth≤5→(∀ r:T,∀ p:List Int,zac [l.d]=some (.lst ((bks l).map D.str))→zab [l.d]=some (.lst ((plc l).map pD))→atI ((plc l).map pD) (sp % (l.size:Int))=some (pD p)→
   ((kd=0∧zap [l.d,pD p]=some r.d)∨
    (∃ (z a' b' a2 b2:Int) (ns:List Int) (q:T),zaf (zbU a4 b4) [.int 4]=some (.int z,zbU a' b')∧0≤z∧z < 4∧zfL (gN 0) (zcr zaf 1 (zaa (cst (.int 4800)) nilF)) [none,some (.bor (zbU a' b'))] 1 (zbU a' b') (zaU 0 (1 + z).toNat)=some (ns.map D.int,zbU a2 b2)∧zao [.lst (ns.map D.int),.lst (ps.map sd),.lst ((bks l).map D.str),.int 2]=some q.d∧((kd=1∧r=q)∨(kd=2∧zaj [l.d,pD p,q.d]=some r.d))))→zay [.int c,.lst (ps.map sd),.lst (bs.map D.str)]=some (rD (l,r)))→
   ∃ l r:T,zay [.int c,.lst (ps.map sd),.lst (bs.map D.str)]=some (rD (l,r))∧l.isBl=false∧(∀ x∈vs r,x∈vs l)∧WT ps bs l∧WT ps bs r∧l.size≤7∧l.depth≤5∧r.size≤40∧r.depth≤12:=by
  intro l hl hw hz hd hev
  obtain ⟨r,p,c1',c2',c3',c4',c5',c6'⟩:=e_right ps bs S l hl hw hz hd kd sp a4 b4 k0 k3 s0
  exact ⟨l,r,hev r p (zgV 100 l (by omega) (by omega)) (zgf 100 l (by omega) (by omega) (by omega)) c1' c6',hl,c2',hw,c3',hz,hd,c4',c5'⟩
 cases l0 with
 | bl x=>
  rw [d_bl] at m1
  have h0:0≤sp % (ps.length:Int):=Int.emod_nonneg _ (by omega)
  have h1:sp % (ps.length:Int) < (ps.length:Int):=Int.emod_lt_of_pos _ (by omega)
  obtain ⟨⟨w,k⟩,ej,mj⟩:∃ q,atI ps (sp % (ps.length:Int))=some q∧q∈ps:=
   ⟨ps[(sp % (ps.length:Int)).toNat]'(by omega),by rw [zeY h0 h1,List.getElem?_eq_getElem (by omega)],List.getElem_mem _⟩
  have hmod:zjj (ps.length:Int):=by show (0:Int) < _;omega
  obtain ⟨hk0,hk3⟩:=S.cnt _ mj
  have hk0:0≤k:=hk0
  have hk3:k≤3:=hk3
  have xb:x∈bs:=by cases mW with | bl h=>exact h
  have rsz:=zkx x k.toNat
  refine fin (.nd w (List.replicate k.toNat (.bl x))) rfl (WT_rep mj hk0 xb) (by rw [T.size,rsz.1];omega) (by rw [T.depth];omega) fun r p bo pc ap alt=>?_
  have lp:=zeb (.nd w (List.replicate k.toNat (.bl x)))
  have sz:=zch (.nd w (List.replicate k.toNat (.bl x)))
  have sz2:(T.nd w (List.replicate k.toNat (.bl x))).size≤7:=by rw [T.size,rsz.1];omega
  have om:zjj ((T.nd w (List.replicate k.toNat (.bl x))).size:Int):=by show (0:Int) < _;omega
  generalize hPL:(plc (.nd w (List.replicate k.toNat (.bl x)))).map pD=PL at pc ap
  have ll:PL.length=(T.nd w (List.replicate k.toNat (.bl x))).size:=by rw [← hPL,List.length_map,lp]
  have zl:(T.nd w (List.replicate k.toNat (.bl x))).size≤1000000:=by omega
  generalize (T.nd w (List.replicate k.toNat (.bl x))).size=SZ at om ll zl ap
  have z1:1 + k.toNat≤1000000:=by omega
  generalize hBK:(bks (.nd w (List.replicate k.toNat (.bl x)))).map D.str=BK at bo alt
  simp only [d_nd,List.map_replicate,d_bl] at bo pc alt
  have hk':0≤k∧k≤3:=⟨hk0,hk3⟩
  have lsd:(ps.map sd).length=ps.length:=List.length_map _
  have zp:ps.length≤1000000:=by omega
  rcases alt with ⟨e,pa⟩ | ⟨y,a',b',a5,b5,ms,q,t1,y0,y4,h1',h2',alt⟩
  ·subst e
   simp! [zay,pu,tk1,tk2,opX,tk3,cLX,zga,zdf,o1,zau,l1,g1,m1,hmod,zbF,ej,sd,repD,hk',z1,bo,pc,ll,om,zl,ap,pa,rD,d_nd,d_bl,eqD,dep]
  ·have o2:zeO (1 + y):=zaZ (by omega) (by omega)
   have l2:(1 + y).toNat≤1000000:=by omega
   rcases alt with ⟨e,rfl⟩ | ⟨e,pa⟩
   ·subst e
    simp! [zay,pu,tk1,tk2,opX,tk3,cLX,zga,zdf,o1,o2,zau,l1,l2,g1,m1,hmod,zbF,ej,sd,repD,hk',z1,bo,pc,ll,om,zl,ap,t1,h1',h2',rD,d_nd,d_bl,eqD,dep]
   ·subst e
    simp! [zay,pu,tk1,tk2,opX,tk3,cLX,zga,zdf,o1,o2,zau,l1,l2,g1,m1,hmod,zbF,ej,sd,repD,hk',z1,bo,pc,ll,om,zl,ap,t1,h1',h2',pa,rD,d_nd,d_bl,eqD,dep]
 | nd s ts=>
  refine fin (.nd s ts) rfl mW (by omega) (by omega) fun r p bo pc ap alt=>?_
  have lp:=zeb (.nd s ts)
  have sz:=zch (.nd s ts)
  have om:zjj ((T.nd s ts).size:Int):=by show (0:Int) < _;omega
  generalize hPL:(plc (.nd s ts)).map pD=PL at pc ap
  have ll:PL.length=(T.nd s ts).size:=by rw [← hPL,List.length_map,lp]
  have zl:(T.nd s ts).size≤1000000:=by omega
  generalize (T.nd s ts).size=SZ at om ll zl ap
  generalize hBK:(bks (.nd s ts)).map D.str=BK at bo alt
  simp only [d_nd] at bo pc alt m1
  rcases alt with ⟨e,pa⟩ | ⟨y,a',b',a5,b5,ms,q,t1,y0,y4,h1',h2',alt⟩
  ·subst e
   simp! [zay,pu,tk1,tk2,opX,tk3,cLX,zga,zdf,o1,zau,l1,g1,m1,bo,pc,ll,om,zl,ap,pa,rD,d_nd,eqD,dep]
  ·have o2:zeO (1 + y):=zaZ (by omega) (by omega)
   have l2:(1 + y).toNat≤1000000:=by omega
   rcases alt with ⟨e,rfl⟩ | ⟨e,pa⟩
   ·subst e
    simp! [zay,pu,tk1,tk2,opX,tk3,cLX,zga,zdf,o1,o2,zau,l1,l2,g1,m1,bo,pc,ll,om,zl,ap,t1,h1',h2',rD,d_nd,eqD,dep]
   ·subst e
    simp! [zay,pu,tk1,tk2,opX,tk3,cLX,zga,zdf,o1,o2,zau,l1,l2,g1,m1,bo,pc,ll,om,zl,ap,t1,h1',h2',pa,rD,d_nd,eqD,dep]
theorem e_asked (kd cl ot:Int) (k0:0≤kd) (k3:kd < 3) (ps:List (Str×Int)) (bs:List Str) (S:zeC ps) (hb:1≤bs.length) (hb2:bs.length≤4) (rs:List (T×T)) (hr:1≤rs.length) (hr2:rs.length≤9) (R:∀ r∈rs,WT ps bs r.1∧r.1.size≤7∧r.1.depth≤5) :
  ∃ t:T,zaA [.int kd,.int cl,.int ot,.lst (rs.map rD),.lst (ps.map sd),.lst (bs.map D.str)]=some t.d∧WT ps bs t∧t.size≤40∧t.depth≤20:=by
 obtain ⟨ra,qa,la⟩:=e_stream cl 12 (by decide)
 have qa:zaB [.int cl,.int 12]=some (.lst (ra.map D.int)):=qa
 obtain ⟨t0,t1,t2,t3,tW⟩:=zkb ra ps bs 6 S hb (by omega) (by decide) (by decide) (by omega) (by omega)
 by_cases h0:kd=0
 ·subst h0
  exact ⟨t0,by simp! [zaA,qa,t1,eqD,dep],tW,by omega,by omega⟩
 ·obtain ⟨a,b,pu⟩:=zkc ot
  obtain ⟨x,a1,b1,tk1,x0,x1⟩:=zgT a b (rs.length:Int) (by omega) (by omega)
  have xi:x.toNat < rs.length:=by omega
  have ar:atI (rs.map rD) x=some (rD rs[x.toNat]):=by
   rw [zeY x0 (by rw [List.length_map];exact x1),List.getElem?_map,List.getElem?_eq_getElem xi];rfl
  have hR:=R _ (List.getElem_mem xi)
  generalize hl:rs[x.toNat].1=l at hR
  have ar':atI (rs.map rD) x=some (.tup [l.d,rs[x.toNat].2.d]):=by rw [ar,← hl];rfl
  have pc:zab [t0.d]=some (.lst ((plc t0).map pD)):=zgf 100 t0 (by omega) (by omega) (by omega)
  have lp:=zeb t0
  have sz:=zch t0
  obtain ⟨y,a2,b2,tk2,y0,y1⟩:=zgT a1 b1 (t0.size:Int) (by omega) (by omega)
  obtain ⟨p,hp⟩:∃ p,(plc t0)[y.toNat]?=some p:=⟨_,List.getElem?_eq_getElem (by omega)⟩
  have ap:atI ((plc t0).map pD) y=some (pD p):=by
   rw [zeY y0 (by rw [List.length_map,lp];exact y1),List.getElem?_map,hp];rfl
  obtain ⟨u,hu⟩:=zmi t0 p (List.mem_of_getElem? hp)
  have pl:=zcL p t0 u hu
  have bo:zac [l.d]=some (.lst ((bks l).map D.str)):=zgV 100 l (by omega) (by omega)
  have bl:=ziD l
  generalize hPL:(plc t0).map pD=PL at pc ap
  have ll:PL.length=t0.size:=by rw [← hPL,List.length_map,lp]
  have zl:t0.size≤1000000:=by omega
  have zr:rs.length≤1000000:=by omega
  have o3:zeO 3:=zaZ (by decide) (by decide)
  obtain ⟨ρ',f1,φ,aa,bb,k12,rfl,hφ,hk,hln⟩:=zcn (g:=gN 12) (b:=zer zao zak zab zac zah zaj zaB zaf FUEL) (xs:=(bks l).map D.str) (ρ:=[some (.dat (.int kd)),some (.dat (.int cl)),some (.dat (.int ot)),some (.dat (.lst (rs.map rD))),some (.dat (.lst (ps.map sd))),some (.dat (.lst (bs.map D.str))),some (.dat t0.d),some (.own (zbU a2 b2)),some (.dat l.d),some (.dat (.lst PL)),some (.dat (pD p)),some (.own (fdic [])),none])
   (fun i ρ=>∃ (φ:Fil) (aa bb:Int) (k12:Option Sl),ρ=[some (.dat (.int kd)),some (.dat (.int cl)),some (.dat (.int ot)),some (.dat (.lst (rs.map rD))),some (.dat (.lst (ps.map sd))),some (.dat (.lst (bs.map D.str))),some (.dat t0.d),some (.own (zbU aa bb)),some (.dat l.d),some (.dat (.lst PL)),some (.dat (pD p)),some (.own (fdic φ)),k12]∧(∀ v∈φ,WT ps bs v.2∧v.2.size≤3∧v.2.depth≤3)∧nb k12=true∧φ.length≤i) ⟨[],a2,b2,none,rfl,by simp,rfl,by simp⟩ (by
    rintro i xx ρ hx ⟨φ,aa,bb,k12,rfl,hφ,hk,hln⟩
    have hi:i < (bks l).length:=by have:=(List.getElem?_eq_some_iff.mp hx).1;simpa using this
    obtain ⟨z,hz,rfl⟩:=List.mem_map.mp (List.mem_of_getElem? hx)
    obtain ⟨ns,a3,b3,g1,g2⟩:=zdV FUEL (some (.bor (zbU aa bb))) (zaU 0 3) aa bb
    rw [zau] at g2
    have g1:zfL (gN 0) (zcr zaf 1 (zaa (cst (.int 4800)) nilF)) [none,some (.bor (zbU aa bb))] 1 (zbU aa bb) (zaU 0 3)=some (ns.map D.int,zbU a3 b3):=g1
    obtain ⟨q,m1,m2,m3,mW⟩:=zkb ns ps bs 3 S hb (by omega) (by decide) (by decide) (by omega) (by omega)
    have pf:=zmf φ z q
    have ok:=zhN φ
    have kl:(fks φ).length < 1000000:=by simp [fks];omega
    have pln:=putF_len φ z q
    refine ⟨[some (.dat (.int kd)),some (.dat (.int cl)),some (.dat (.int ot)),some (.dat (.lst (rs.map rD))),some (.dat (.lst (ps.map sd))),some (.dat (.lst (bs.map D.str))),some (.dat t0.d),some (.own (zbU a3 b3)),some (.dat l.d),some (.dat (.lst PL)),some (.dat (pD p)),some (.own (fdic (putF φ z q))),some (.dat (.str z))],.inl ?_,putF φ z q,_,_,_,rfl,fun v hv=>?_,rfl,by omega⟩
    ·simp only [fdic]
     dsimp! [putKX,cLX,zga,zdf,o3,zau,g1,m1,ok,kl,kdK,pf,zbK,zcl,zfr,zfq,hk]
    ·rcases putF_mem hv with h | h
     ·exact hφ v h
     ·rw [h];exact ⟨mW,by omega,by omega⟩)
  rw [List.length_map] at hln
  have lf:zah [l.d,fdic φ]=some (zbv φ l).d:=zgU φ 100 l (by omega) (by omega)
  have fz:=zgQ (φ:=φ) (m:=3) (by decide) (fun v hv=>(hφ v hv).2.1) l
  have fd:=zfI (φ:=φ) (m:=3) (fun v hv=>(hφ v hv).2.2) l
  have fw:=WT.fill (fun v hv=>(hφ v hv).1) hR.1
  have f0:fdic []=D.dic [] []:=rfl
  simp only [f0,Sl.own] at f1
  have pt:zaj [t0.d,pD p,(zbv φ l).d]=some (putT t0 p (zbv φ l)).d:=zkS 100 p t0 u _ (by omega) (by omega) hu (by omega)
  have ps1:=zfp p t0 (zbv φ l)
  have ps2:=zeH p t0 (zbv φ l)
  simp only [fdic] at f1 lf
  by_cases h1:kd=1
  ·subst h1
   refine ⟨zbv φ l,?_,fw,by omega,by omega⟩
   simp! [zaA,qa,t1,pu,ixX,opX,tk1,zr,ar',pc,tk2,ll,zl,ap,bo,f1,lf,zbK,zcl,zfr,zfq,eqD,dep]
  ·have h2:kd=2:=by omega
   subst h2
   refine ⟨putT t0 p (zbv φ l),?_,WT.put fw p t0 u hu tW,by omega,by omega⟩
   simp! [zaA,qa,t1,pu,ixX,opX,tk1,zr,ar',pc,tk2,ll,zl,ap,bo,f1,lf,pt,zbK,zcl,zfr,zfq,eqD,dep]
theorem zju:∀ rs:List (T×T),(∀ r∈rs,r.1.depth≤20∧r.2.depth≤20)→depL (rs.map rD)≤30
 | [],_=>by simp [depL]
 | r::rs,h=>by
  have h1:=zju rs fun y hy=>h y (List.mem_cons_of_mem _ hy)
  have h2:=h r (by simp)
  have h3:=zlF r.1
  have h4:=zlF r.2
  simp only [List.map_cons,depL,rD,dep]
  omega
theorem zkQ:∀ rs:List (T×T),eqL (rs.map rD) (rs.map rD)=some true
 | []=>by simp [eqL]
 | r::rs=>by simp [eqL,rD,eqD,eq_dT r.1,eq_dT r.2,zkQ rs]
theorem zlE (t:T):t.depth≤t.size:=by
 have key:∀ n (t:T),t.size≤n→t.depth≤t.size:=by
  intro n
  induction n with
  | zero=>intro t h;have:=zch t;omega
  | succ n ih=>
   intro t h
   cases t with
   | bl x=>simp [T.depth,T.size]
   | nd s ts=>
    rw [T.size] at h
    have:∀ l:List T,T.sizes l≤n→T.depths l≤T.sizes l:=by
     intro l
     induction l with
     | nil=>intro _;simp [T.depths]
     | cons t l ihl=>intro h;rw [T.sizes] at h;have:=ih t (by omega);have:=ihl (by omega);rw [T.depths,T.sizes];omega
    have:=this ts (by omega)
    rw [T.depth,T.size];omega
 exact key _ t (Nat.le_refl _)
theorem FACT21:∀ ns:List Int,ns.length≤63→m_law21 [.scr ns]=some (.bl true):=by
 intro ns hn
 have c0:=zkV ns 0 (by omega)
 have c1':=zkV ns 1 (by omega)
 have c2':=zkV ns 2 (by omega)
 obtain ⟨ps,s1,S,ap⟩:=e_sortsN (cellOf ns 0)
 obtain ⟨bs,b1,b2,b3,_⟩:=e_blanks (cellOf ns 1)
 have hi:=S.hi
 obtain ⟨m,hm,m1,m9⟩:∃ m:Nat,atI [D.int 1,.int 2,.int 3,.int 4,.int 2,.int 3,.int 9,.int 6] (cellOf ns 2 % 8)=some (.int m)∧1≤m∧m≤9:=by
  have h0:0≤cellOf ns 2 % 8:=Int.emod_nonneg _ (by decide)
  have h8:cellOf ns 2 % 8 < 8:=Int.emod_lt_of_pos _ (by decide)
  generalize cellOf ns 2 % 8=q at h0 h8
  have:q=0∨q=1∨q=2∨q=3∨q=4∨q=5∨q=6∨q=7:=by omega
  rcases this with rfl | rfl | rfl | rfl | rfl | rfl | rfl | rfl
  ·exact ⟨1,rfl,by decide,by decide⟩
  ·exact ⟨2,rfl,by decide,by decide⟩
  ·exact ⟨3,rfl,by decide,by decide⟩
  ·exact ⟨4,rfl,by decide,by decide⟩
  ·exact ⟨2,rfl,by decide,by decide⟩
  ·exact ⟨3,rfl,by decide,by decide⟩
  ·exact ⟨9,rfl,by decide,by decide⟩
  ·exact ⟨6,rfl,by decide,by decide⟩
 have om:zeO (m:Int):=zaZ (by omega) (by omega)
 have zm:m≤1000000:=by omega
 obtain ⟨rs,r1,r2,r3⟩:=zeL rD (fun _ r=>r.1.isBl=false∧(∀ x∈vs r.2,x∈vs r.1)∧WT ps bs r.1∧WT ps bs r.2∧r.1.size≤7∧r.1.depth≤5∧r.2.size≤40∧r.2.depth≤12) (g:=gN 0) (f:=zhS zaG zaC zaD zay zaA zat zeI zcm FUEL) (ρ:=[none,some (.dat (.lst (ps.map sd))),some (.dat (.lst (bs.map D.str))),some (.dat (.scr ns))]) (xs:=zaU 0 m) 0 (by
  intro i x hx
  obtain ⟨hi,rfl⟩:=zbn hx
  rw [Int.zero_add]
  have ci:=zkV ns (3 + (i:Int)) (by omega)
  obtain ⟨l,r,e,q⟩:=e_rule (cellOf ns (3 + (i:Int))) ps bs S b2 b3
  exact ⟨_,(l,r),rfl,by simp! [ci,e],q⟩)
 rw [zau] at r2
 have rm:∀ r∈rs,r.1.isBl=false∧(∀ x∈vs r.2,x∈vs r.1)∧WT ps bs r.1∧WT ps bs r.2∧r.1.size≤7∧r.1.depth≤5∧r.2.size≤40∧r.2.depth≤12:=fun r hr=>by
  obtain ⟨i,hi⟩:=List.mem_iff_getElem?.mp hr
  exact r3 i r hi
 have RO:zfg rs:=⟨by omega,fun r hr=>by have:=rm r hr;omega,fun r hr=>by have:=rm r hr;omega⟩
 have RW:RulesW ps bs rs:=⟨RO,fun r hr=>by have:=rm r hr;exact ⟨this.1,this.2.1,this.2.2.1,this.2.2.2.1⟩⟩
 have dr:=zju rs fun r hr=>by have:=rm r hr;omega
 have er:=zkQ rs
 have rl:(rs.map rD).length≤1000000:=by rw [List.length_map];omega
 have nr:neB (.lst (rs.map rD)) (.lst (rs.map rD))=some (.bl false):=by
  have:depL (rs.map rD)≤99:=by omega
  simp [neB,eqD,dep,this,er]
 have cl:(cutG ns (some 7) (some 20)).length≤63:=by
  unfold cutG
  rw [List.length_take,List.length_drop];omega
 generalize hcs:cutG ns (some 7) (some 20)=cs at cl
 have cellsE:D.lst ([.int 1,.int 3,.int 5]++cs.map D.int++[.int 7])=.lst (([1,3,5]++cs++[7]).map D.int):=by simp
 have cellsL:([1,3,5]++cs++[7]:List Int).length=cs.length + 4:=by simp
 generalize hC:([1,3,5]++cs++[7]:List Int)=C at cellsE cellsL
 obtain ⟨ρ3,f3,k7,k8,k9,k10,rfl⟩:=zcn (g:=gN 7) (b:=zhI zaG zaC zaD zay zaA zat zeI zcm FUEL) (xs:=zaU 0 (C.length - 1)) (ρ:=[some (.dat (.scr ns)),some (.dat (.lst (ps.map sd))),some (.dat (.lst (bs.map D.str))),some (.dat (.int m)),some (.dat (.lst (rs.map rD))),some (.dat (.lst (rs.map rD))),some (.dat (.lst (C.map D.int))),none,none,none,none])
  (fun i ρ=>∃ k7 k8 k9 k10:Option Sl,ρ=[some (.dat (.scr ns)),some (.dat (.lst (ps.map sd))),some (.dat (.lst (bs.map D.str))),some (.dat (.int m)),some (.dat (.lst (rs.map rD))),some (.dat (.lst (rs.map rD))),some (.dat (.lst (C.map D.int))),k7,k8,k9,k10]) ⟨_,_,_,_,rfl⟩ (by
   rintro i x ρ hx ⟨k7,k8,k9,k10,rfl⟩
   obtain ⟨hi,rfl⟩:=zbn hx
   rw [Int.zero_add]
   have a0:atI (C.map D.int) (i:Int)=some (.int C[i]):=zbT (by simp)
   have a1:atI (C.map D.int) ((i:Int) + 1)=some (.int C[i + 1]):=by
    rw [show (i:Int) + 1=((i + 1:Nat):Int) by omega];exact zbT (by simp)
   generalize C[i]=c at a0
   generalize C[i + 1]=c' at a1
   have k0:0≤(c + c') % 3:=Int.emod_nonneg _ (by decide)
   have k3:(c + c') % 3 < 3:=Int.emod_lt_of_pos _ (by decide)
   generalize hkd:(c + c') % 3=kd at k0 k3
   obtain ⟨t,as,tW,tz,td⟩:=e_asked kd c c' k0 k3 ps bs S b2 b3 rs (by omega) (by omega) (fun r hr=>by have:=rm r hr;exact ⟨this.2.2.1,this.2.2.2.2.1,this.2.2.2.2.2.1⟩)
   have gd:=zkT ps bs (by omega) ap rs RW t tW tz (by omega)
   have ls:=zkR rs RO t (by omega) (by omega)
   have mem:=fun x hx=>zlV RW tW tz (x:=x) hx
   have q:=zis (stL t rs (zaq [] t))
   have sl:=zhW t rs (zaq [] t)
   have dz:=zgZ (b:=52) (stL t rs (zaq [] t)) fun x hx=>by have:=(mem x hx).2.1;omega
   generalize hLL:stL t rs (zaq [] t)=L at ls mem q sl dz
   have dz':depL (L.map sD)≤99:=by omega
   generalize hRR:rs.map rD=RR at *
   generalize hCC:C.map D.int=CC at a0 a1 ⊢
   refine ⟨[some (.dat (.scr ns)),some (.dat (.lst (ps.map sd))),some (.dat (.lst (bs.map D.str))),some (.dat (.int m)),some (.dat (.lst RR)),some (.dat (.lst RR)),some (.dat (.lst CC)),some (.dat (.int i)),some (.dat (.int kd)),some (.dat t.d),some (.dat (.lst (L.map sD)))],.inl ?_,_,_,_,_,rfl⟩
   by_cases h0:kd=0
   ·subst h0
    rcases List.eq_nil_or_concat L with h | ⟨L',y,h⟩
    ·subst h
     have ne:neB (.lst []) (.lst [])=some (.bl false):=by simp [neB,eqD,eqL,dep,depL]
     simp only [List.map_nil] at ls ⊢
     dsimp! [a0,a1,hkd,as,gd,nr,ls,ne,eqB,eqD,dep]
    ·rw [List.concat_eq_append] at h
     have my:=mem y (by rw [h];simp)
     have ne:neB (.lst (L.map sD)) (.lst [])=some (.bl true):=by
      have:eqL (L.map sD) []=some false:=by rw [h];cases L'<;>simp [eqL]
      simp [neB,eqD,dep,dz',this]
     have al:atI (L.map sD) (-1)=some (.tup [pD y.1,.int y.2.1,y.2.2.d]):=by
      rw [h,List.map_append]
      exact zla _ _
     have kc:zcm [y.2.2.d]=some (.int y.2.2.size):=zke 100 y.2.2 (by omega) (by omega)
     generalize L.map sD=LL at ls ne al ⊢
     by_cases h30:(y.2.2.size:Int) < 30
     ·have g2:=zkT ps bs (by omega) ap rs RW y.2.2 my.1 (by omega) (by have:=zlE y.2.2;omega)
      rw [hRR] at g2
      dsimp! [a0,a1,hkd,as,gd,nr,ls,ne,al,kc,h30,g2,eqB,eqD,dep]
     ·dsimp! [a0,a1,hkd,as,gd,nr,ls,ne,al,kc,h30,eqB,eqD,dep]
   ·generalize L.map sD=LL at ls ⊢
    dsimp! [a0,a1,hkd,as,gd,nr,ls,h0,eqB,eqD,dep])
 rw [cellsL,show cs.length + 4 - 1=cs.length + 3 from rfl] at f3
 have rr':zeO ((cs.length:Int) + 4 - 1):=zaZ (by omega) (by omega)
 have tn:((cs.length:Int) + 4 - 1).toNat=cs.length + 3:=by omega
 have z1:cs.length + 3≤1000000:=by omega
 have z1':3 + cs.length≤1000000:=by omega
 have z2:cs.length + 4≤1000000:=by omega
 have cE:D.lst (.int 1::.int 3::.int 5::(cs.map D.int++[.int 7]))=.lst (C.map D.int):=by rw [← cellsE];rfl
 generalize rs.map rD=RR at r1 rl f3
 dsimp! [m_law21,c0,c1',c2',s1,b1,hm,om,zau,zm,r1,rl,hcs,z1,z1',z2,cE,cellsL,rr',tn,f3]
noncomputable abbrev pwk:Program:=PySem.Challenge.pw_endmeet_k21_steps
noncomputable abbrev rwk:PySem.W.OpenLaw:=PySem.Challenge.rw_endmeet_k21_steps
noncomputable def fnI:List Nat:=[6,7,8,9,10,11,13,14,15,17,18,19,20,21,22,24,25,26,27,28,29,30,31,32,33,34,35,36,37,38,39,40,41,42,43,44]
noncomputable def qwk:Program:={ pwk with main:={ pwk.main with body:=[topS pwk 44] } }
noncomputable def lzk:List Str:=pwk.main.body.dropLast.filterMap fun st=>match st with
 | .FunctionDef n ..=>some n
 | .ClassDef n ..=>some n
 | .Assign [.Name n _] _ _=>if n == "__name__" then none else some n
 | _=>none
section
variable {P:Program}{w:World} {K:PySem.W.Frag}{mg:Str→Option Value} {base:Heap}
theorem zce:(["_law_k", "_law_letters", "_law_number"]:List Str).Nodup:=by decide +kernel
theorem zfa:(["_law_k", "_law_base"]:List Str).Nodup:=by decide +kernel
theorem zbf:(["_law_k", "_law_base", "_law_letters", "_law_at", "_law_number"]:List Str).Nodup:=by decide +kernel
theorem zbd:zaE ["_law_cell_here", "_law_letters", "_law_number", "_law_base", "_law_k", "_law_at"] ["_law_cell_here"] (zar (topS pwk 25)):=⟨rfl,rfl,rfl,by decide +kernel,rfl,by decide +kernel,by decide +kernel⟩
set_option maxHeartbeats 4000000 in
theorem zid {k:Nat}{f:Addr} {fd:FuncData}(B:Glb mg) (Fn:Fun K "_law_words" "_law_words" (topS pwk 25) f fd):FnOk P w K mg base CX0 (k + 1) f fd ["_law_cell_here"] (SpD K .ow (runF (zdB  FUEL) 1 6)):=
 zbN Fn zbd (mb:=zdB ) (fun n cdv A outer s H E hr=>(sseq (sset 1 zbd.nd fstr) (sseq (sset 2 zbd.nd (fop zcB (FP.br (fop zib (fb 0) (FP.br fint))) (FP.br (fop p_pow (FP.br fint) (FP.br fint))))) (sseq (sset 3 zbd.nd fstr) (sseq (sfor PassesOwn.never rfl (zbZ (fop zcB (fb 2) (FP.br fint)) rfl B.range) (zaN 4 zbd.nd) (sseq (sset 3 zbd.nd (fop zbp (fb 3) (FP.br (fix p_ix (fb 1) (FP.br (fop zcB (FP.br (fop zfB (fb 2) (FP.br fint))) (FP.br fint))) (fun _ _=>rfl))))) (sone (sset 2 zbd.nd (fop zfB (fb 2) (FP.br fint)))))) (sseq (sset 5 zbd.nd (fop zcB (FP.br (fop zfB (fb 2) (FP.br fint))) (FP.br (fop zbp (FP.br (zbz (zcW) rfl B.len PySem.boot_len (zcf (fb 3) fnil))) (FP.br fint))))) (sseq (sif (FTp.up (tcmp (p_eq (u100 hr)) (FP.br (fop zcB (fb 2) (FP.br fint))) (FP.br fint) (zbb _))) (sseq (sset 3 zbd.nd (fjoin fstr (FP.ob (zfJ ["_law_k", "_law_letters", "_law_number"] [none,some 1,some 2] (.own (.cap (.cap .nil))) rfl (zbZ fint rfl B.range) (fun _ _ _ _=>(zaN 0 zce)) (fun _ _ _ _=>pif0) (fun _ _ _ _=>(fix p_ix (fb 1) (FP.br (fop zcB (FP.br (fop zfB (fb 2) (FP.br (fop zbp (FP.br fint) (FP.br (fop zib (fb 0) (fb 0))))))) (FP.br fint))) (fun _ _=>rfl))))))) (sone (zhi (zfJ ["_law_k", "_law_base"] [none,some 3] (.own (.cap .nil)) rfl (zbZ fint rfl B.range) (fun _ _ _ _=>(zaN 0 zfa)) (fun _ _ _ _=>pif0) (fun _ _ _ _=>(zbW zbo (fb 1) zcc (zbO (fop zbp (fb 0) (FP.br fint))))))))) snil) (sone (zhi (zfJ ["_law_k", "_law_base", "_law_letters", "_law_at", "_law_number"] [none,some 3,some 1,some 5,some 2] (.own (.cap (.cap (.cap (.cap .nil))))) rfl (zbZ fint rfl B.range) (fun _ _ _ _=>(zaN 0 zbf)) (fun _ _ _ _=>pif0) (fun _ _ _ _=>(fop zbp (FP.br (fop zbp (FP.br (zbW zbo (fb 1) zcc (zbO (fv 3)))) (FP.br (fix p_ix (fb 2) (FP.br (fop zcB (FP.br (fop zbp (FP.br (fop zfB (fb 4) (FP.br fint))) (FP.br (fop zib (FP.br fint) (fb 0))))) (FP.br fint))) (fun _ _=>rfl))))) (FP.br (zbW zbo (fb 1) (zbO (fv 3)) zcc)))))))))))))) zaI
theorem zbR:(["_law_k", "_law_words_here", "_law_counts"]:List Str).Nodup:=by decide +kernel
theorem zcF:zaE ["_law_cell_here", "_law_words_here", "_law_counts", "_law_many"] ["_law_cell_here"] (zar (topS pwk 26)):=⟨rfl,rfl,rfl,by decide +kernel,rfl,by decide +kernel,by decide +kernel⟩
set_option maxHeartbeats 4000000 in
theorem zif {zaL:List D→Option D}{k:Nat} {f:Addr}{fd:FuncData} (B:Glb mg) (Fn:Fun K "_law_sorts" "_law_sorts" (topS pwk 26) f fd) (G__law_words:Fk P w K mg base "_law_words" ["_law_cell_here"] .ow k zaL):FnOk P w K mg base CX0 (k + 1) f fd ["_law_cell_here"] (SpD K .ow (runF (zdD zaL FUEL) 1 4)):=
 zbN Fn zcF (mb:=zdD zaL) (fun n cdv A outer s H E hr=>(sseq (sset 1 zcF.nd (FP.fz (fk G__law_words hr (zae (fv 0) fnil)))) (sseq (sset 2 zcF.nd (fix p_ix (FP.ob (flst (zae (FP.fz (flst (zae fint (zae fint (zae fint (zae fint (zae fint fnil))))))) (zae (FP.fz (flst (zae fint (zae fint (zae fint (zae fint (zae fint fnil))))))) (zae (FP.fz (flst (zae fint (zae fint (zae fint (zae fint (zae fint fnil))))))) (zae (FP.fz (flst (zae fint (zae fint (zae fint (zae fint (zae fint fnil))))))) fnil)))))) (FP.br (fop zcB (FP.br (fop zfB (fb 0) (FP.br fint))) (FP.br fint))) (fun _ _=>rfl))) (sseq (sset 3 zcF.nd (fop zbp (FP.br fint) (FP.br (fop zcB (FP.br (fop zfB (fb 0) (FP.br fint))) (FP.br fint))))) (sone (zhi (zfJ ["_law_k", "_law_words_here", "_law_counts"] [none,some 1,some 2] (.own (.cap (.cap .nil))) rfl (zbZ (fv 3) rfl B.range) (fun _ _ _ _=>(zaN 0 zbR)) (fun _ _ _ _=>pif0) (fun _ _ _ _=>(ftup (zae (fix p_ix (fb 1) (fb 0) (fun _ _=>rfl)) (zae (fix p_ix (fb 2) (fb 0) (fun _ _=>rfl)) fnil))))))))))) zaI
theorem zbS:(["_law_k", "_law_letters", "_law_cell_here"]:List Str).Nodup:=by decide +kernel
theorem zeS:zaE ["_law_cell_here", "_law_letters"] ["_law_cell_here"] (zar (topS pwk 27)):=⟨rfl,rfl,rfl,by decide +kernel,rfl,by decide +kernel,by decide +kernel⟩
set_option maxHeartbeats 4000000 in
theorem zhq {k:Nat}{f:Addr} {fd:FuncData}(B:Glb mg) (Fn:Fun K "_law_blanks" "_law_blanks" (topS pwk 27) f fd):FnOk P w K mg base CX0 (k + 1) f fd ["_law_cell_here"] (SpD K .ow (runF (zdk  FUEL) 1 2)):=
 zbN Fn zeS (mb:=zdk ) (fun n cdv A outer s H E hr=>(sseq (sset 1 zeS.nd fstr) (sone (zhi (zfJ ["_law_k", "_law_letters", "_law_cell_here"] [none,some 1,some 0] (.own (.cap (.cap .nil))) rfl (zbZ (fop zbp (FP.br fint) (FP.br (fop zcB (FP.br (fop zfB (fb 0) (FP.br fint))) (FP.br fint)))) rfl B.range) (fun _ _ _ _=>(zaN 0 zbS)) (fun _ _ _ _=>pif0) (fun _ _ _ _=>(fix p_ix (fb 1) (FP.br (fop zcB (FP.br (fop zbp (FP.br (fop zcB (fb 2) (FP.br fint))) (FP.br (fop zib (FP.br fint) (fb 0))))) (FP.br fint))) (fun _ _=>rfl)))))))) zaI
theorem ziQ:zaE ["_law_script", "_law_k"] ["_law_script", "_law_k"] (zar (topS pwk 24)):=⟨rfl,rfl,rfl,by decide +kernel,rfl,by decide +kernel,by decide +kernel⟩
set_option maxHeartbeats 4000000 in
theorem zji {k:Nat}{f:Addr} {fd:FuncData}(B:Glb mg) (Fn:Fun K "_law_cell" "_law_cell" (topS pwk 24) f fd):FnOk P w K mg base CX0 (k + 1) f fd ["_law_script", "_law_k"] (SpD K .fz (runF (zek  FUEL) 2 2)):=
 zbN Fn ziQ (mb:=zek ) (fun n cdv A outer s H E hr=>(sseq (sif (FTp.up (tcmp (p_lt) (fb 1) (FP.br (zbz (zcW) rfl B.len PySem.boot_len (zcf (fb 0) fnil))) (zbb _))) (sone (sret (fix p_ix (fb 0) (fb 1) (fun _ _=>rfl)))) snil) (sone (sret fint)))) zaI
theorem zbH:zaE ["_law_cell_here", "_law_number", "_law_found", "_law_k"] ["_law_cell_here"] (zar (topS pwk 29)):=⟨rfl,rfl,rfl,by decide +kernel,rfl,by decide +kernel,by decide +kernel⟩
set_option maxHeartbeats 4000000 in
theorem zig {k:Nat}{f:Addr} {fd:FuncData}(B:Glb mg) (Fn:Fun K "_law_purse" "_law_purse" (topS pwk 29) f fd):FnOk P w K mg base CX0 (k + 1) f fd ["_law_cell_here"] (SpD K .ow (runF (zdE  FUEL) 1 4)):=
 zbN Fn zbH (mb:=zdE ) (fun n cdv A outer s H E hr=>(sseq (sset 1 zbH.nd (fop zcB (fb 0) (FP.br fint))) (sseq (sset 2 zbH.nd fint) (sseq (sfor PassesOwn.never rfl (zbZ fint rfl B.range) (zaN 3 zbH.nd) (sseq (sset 1 zbH.nd (fop zcB (FP.br (fop zbp (FP.br (fop zbp (FP.br (fop zbp (FP.br (fop zib (fb 1) (fb 1))) (FP.br (fop zib (FP.br (fop zib (FP.br fint) (fb 3))) (fb 3))))) (fb 3))) (FP.br fint))) (FP.br fint))) (sone (sset 2 zbH.nd (fop zbp (FP.br (fop zib (fb 2) (FP.br fint))) (FP.br (fop zcB (FP.br (fop zib (fb 1) (fb 1))) (FP.br fint)))))))) (sseq (sif (FTp.up (tcmp (p_eq (u100 hr)) (FP.br (fop zcB (fb 0) (FP.br fint))) (FP.br fint) (zbb _))) (sone (zhi (flst (zae (fop zfB (FP.br (zbz (c_abs) rfl B.abs PyProof.Rows.boot_abs (zcf (fb 0) fnil))) (FP.br fint)) (zae (fv 2) fnil))))) snil) (sone (zhi (flst (zae fint (zae (fv 2) fnil)))))))))) zaI
theorem zdX:zaE ["_law_purse_here", "_law_many", "_law_at", "_law_found"] ["_law_purse_here", "_law_many"] (zar (topS pwk 30)):=⟨rfl,rfl,rfl,by decide +kernel,rfl,by decide +kernel,by decide +kernel⟩
set_option maxHeartbeats 4000000 in
theorem zjd {k:Nat}{f:Addr} {fd:FuncData}(B:Glb mg) (Fn:Fun K "_law_take" "_law_take" (topS pwk 30) f fd):FnOk P w K mg base CX0 (k + 1) f fd ["_law_purse_here", "_law_many"] (SpX K 0 (runX (zeg  FUEL) 2 4 0)):=
 fn_mkX Fn zdX (mb:=zeg ) 2 4 0 rfl rfl (fun n cdv A outer s H E hr=>(sseq (sset 2 zdX.nd (zjq c_int rfl B.int PyProof.Rows.boot_int (zcf (FP.br (fcmp (p_eq (u100 hr)) (FP.br (fix p_ix (fb 0) (FP.br fint) (fun _ _=>rfl))) (FP.br fint) (zbb _))) fnil))) (sseq (sset 3 zdX.nd (fop zcB (FP.br (fix p_ix (fb 0) (fb 2) (fun _ _=>rfl))) (fb 1))) (sseq (sput 0 (fop zfB (FP.br (fix p_ix (fb 0) (fb 2) (fun _ _=>rfl))) (fb 1)) (fv 2)) (sone (sret (fv 3)))))))
theorem zgA:(["_law_one"]:List Str).Nodup:=by decide +kernel
theorem zbI:zaE ["_law_row", "_law_number", "_law_sorts_here", "_law_blanks_here", "_law_most", "_law_word", "_law_many", "_law_last", "_law_nest"] ["_law_row", "_law_number", "_law_sorts_here", "_law_blanks_here", "_law_most"] (zar (topS pwk 28)):=⟨rfl,rfl,rfl,by decide +kernel,rfl,by decide +kernel,by decide +kernel⟩
set_option maxHeartbeats 4000000 in
theorem zih {k:Nat}{f:Addr} {fd:FuncData}(B:Glb mg) (Fn:Fun K "_law_grown" "_law_grown" (topS pwk 28) f fd):FnOk P w K mg base CX0 (k + 1) f fd ["_law_row", "_law_number", "_law_sorts_here", "_law_blanks_here", "_law_most"] (SpD K .ow (runF (zdF  FUEL) 5 9)):=
 zbN Fn zbI (mb:=zdF ) (fun n cdv A outer s H E hr=>(sseq (sasg (fix p_ix (fb 2) (FP.br (fop zcB (fb 1) (FP.br (zbz (zcW) rfl B.len PySem.boot_len (zcf (fb 2) fnil))))) (fun _ _=>rfl)) (gtup rfl (zcG (zaN 5 zbI.nd) (zcG (zaN 6 zbI.nd) gnil)) (zaP (zaP zcD)))) (sseq (sset 1 zbI.nd (fop zfB (fb 1) (FP.br fint))) (sseq (sset 7 zbI.nd (zbW zbo (fb 0) (zbO (fop p_sub (FP.br (zbz (zcW) rfl B.len PySem.boot_len (zcf (fb 0) fnil))) (fb 6))) zcc)) (sseq (sset 8 zbI.nd (fmaxD rfl rfl B.max (FP.ob (zfJ ["_law_one"] [none] (.own .nil) rfl (iseq (fv 7)) (fun _ _ _ _=>(zaN 0 zgA)) (fun _ _ _ _=>pif0) (fun _ _ _ _=>(fix p_ix (fb 0) (FP.br fint) (fun _ _=>rfl))))) fint)) (sseq (sif (FTp.up (FWp.pt (tand (tcmp (p_gt) (fb 6) (FP.br fint) (zbb _)) (tand (tcmp (p_le) (fb 6) (FP.br (zbz (zcW) rfl B.len PySem.boot_len (zcf (fb 0) fnil))) (zbb _)) (tand (tcmp (p_lt) (fb 8) (fb 4) (zbb _)) (tand1 (tcmp (p_gt) (FP.br (fop zcB (fb 1) (FP.br fint))) (FP.br fint) (zbb _)))))))) (sone (zhi (fop p_cat (FP.br (zbW zbo (fb 0) zcc (zbO (fop p_sub (FP.br (zbz (zcW) rfl B.len PySem.boot_len (zcf (fb 0) fnil))) (fb 6))))) (FP.ob (flst (zae (FP.fz (flst (zae (fop zbp (FP.br (ftup (zae (fv 5) fnil))) (FP.br (zjq zkj rfl B.tuple PyProof.Rows.boot_tuple (zcf (FP.ob (zfJ ["_law_one"] [none] (.own .nil) rfl (iseq (fv 7)) (fun _ _ _ _=>(zaN 0 zgA)) (fun _ _ _ _=>pif0) (fun _ _ _ _=>(fix p_ix (fb 0) (FP.br fint) (fun _ _=>rfl))))) fnil)))) (zae (fop zbp (fb 8) (FP.br fint)) fnil)))) fnil)))))) snil) (sseq (sif (FTp.up (FWp.pt (tor (tcmp (p_eq (u100 hr)) (fb 3) (FP.ob (flst fnil)) (zbb _)) (tor1 (tcmp (p_eq (u100 hr)) (FP.br (fop zcB (FP.br (fop zfB (fb 1) (FP.br fint))) (FP.br fint))) (FP.br fint) (zbb _)))))) (sone (zhi (fop p_cat (fb 0) (FP.ob (flst (zae (FP.fz (flst (zae (ftup (zae (fix p_ix (FP.br (fix p_ix (fb 2) (FP.br fint) (fun _ _=>rfl))) (FP.br fint) (fun _ _=>rfl)) fnil)) (zae fint fnil)))) fnil)))))) snil) (sone (zhi (fop p_cat (fb 0) (FP.ob (flst (zae (FP.fz (flst (zae (fix p_ix (fb 3) (FP.br (fop zcB (FP.br (fop zfB (fb 1) (FP.br fint))) (FP.br (zbz (zcW) rfl B.len PySem.boot_len (zcf (fb 3) fnil))))) (fun _ _=>rfl)) (zae fint fnil)))) fnil))))))))))))) zaI
theorem zfE:(["_law_part_here"]:List Str).Nodup:=by decide +kernel
theorem zhZ:zaE ["_law_term_here"] ["_law_term_here"] (zar (topS pwk 32)):=⟨rfl,rfl,rfl,by decide +kernel,rfl,by decide +kernel,by decide +kernel⟩
set_option maxHeartbeats 4000000 in
theorem zii {m__law_count:List D→Option D}{k:Nat} {f:Addr}{fd:FuncData} (B:Glb mg) (Fn:Fun K "_law_count" "_law_count" (topS pwk 32) f fd) (G__law_count:Fk P w K mg base "_law_count" ["_law_term_here"] .fz k m__law_count):FnOk P w K mg base CX0 (k + 1) f fd ["_law_term_here"] (SpD K .fz (runF (zfG m__law_count FUEL) 1 1)):=
 zbN Fn zhZ (mb:=zfG m__law_count) (fun n cdv A outer s H E hr=>(sseq (sif (FTp.up (tval (fisi (fb 0) rfl B.isi rfl B.str PyProof.Rows.boot_str))) (sone (sret fint)) snil) (sone (sret (fop zbp (FP.br fint) (FP.br (zbz (c_sum rfl) rfl B.sum PyProof.Rows.boot_sum (zcf (FP.ob (zfJ ["_law_part_here"] [none] (.own .nil) rfl (iseq (zbW zbo (fb 0) (zbO fint) zcc)) (fun _ _ _ _=>(zaN 0 zfE)) (fun _ _ _ _=>pif0) (fun _ _ _ _=>(fk G__law_count hr (zae (fv 0) fnil))))) fnil)))))))) zaI
theorem zbD:zaE ["_law_numbers", "_law_sorts_here", "_law_blanks_here", "_law_most", "_law_row", "_law_number", "_law_found", "_law_one"] ["_law_numbers", "_law_sorts_here", "_law_blanks_here", "_law_most"] (zar (topS pwk 33)):=⟨rfl,rfl,rfl,by decide +kernel,rfl,by decide +kernel,by decide +kernel⟩
set_option maxHeartbeats 4000000 in
theorem zjc {zan:List D→Option D}{m__law_count:List D→Option D} {k:Nat}{f:Addr} {fd:FuncData}(B:Glb mg) (Fn:Fun K "_law_term" "_law_term" (topS pwk 33) f fd) (G__law_grown:Fk P w K mg base "_law_grown" ["_law_row", "_law_number", "_law_sorts_here", "_law_blanks_here", "_law_most"] .ow k zan) (G__law_count:Fk P w K mg base "_law_count" ["_law_term_here"] .fz k m__law_count):FnOk P w K mg base CX0 (k + 1) f fd ["_law_numbers", "_law_sorts_here", "_law_blanks_here", "_law_most"] (SpD K .fz (runF (zef zan m__law_count FUEL) 4 8)):=
 zbN Fn zbD (mb:=zef zan m__law_count) (fun n cdv A outer s H E hr=>(sseq (sset 4 zbD.nd (FP.fz (flst fnil))) (sseq (sfor PassesOwn.never rfl (iseq (fv 0)) (zaN 5 zbD.nd) (sone (sset 4 zbD.nd (FP.fz (fk G__law_grown hr (zae (fv 4) (zae (fv 5) (zae (fv 1) (zae (fv 2) (zae (fv 3) fnil)))))))))) (sseq (sset 6 zbD.nd (fix p_ix (FP.br (fix p_ix (fb 4) (FP.br fint) (fun _ _=>rfl))) (FP.br fint) (fun _ _=>rfl))) (sseq (sfor PassesOwn.never rfl (iseq (zbW zbo (fb 4) (zbO fint) zcc)) (zaN 7 zbD.nd) (sone (sif (FTp.up (tcmp (p_ge (u100 hr)) (FP.br (fk G__law_count hr (zae (fix p_ix (fb 7) (FP.br fint) (fun _ _=>rfl)) fnil))) (FP.br (fk G__law_count hr (zae (fv 6) fnil))) (zbb _))) (sone (sset 6 zbD.nd (fix p_ix (fb 7) (FP.br fint) (fun _ _=>rfl)))) snil))) (sone (sret (fv 6)))))))) zaI
theorem zdr:(["_law_blank", "_law_found"]:List Str).Nodup:=by decide +kernel
theorem zbJ:zaE ["_law_term_here", "_law_found", "_law_part_here"] ["_law_term_here"] (zar (topS pwk 34)):=⟨rfl,rfl,rfl,by decide +kernel,rfl,by decide +kernel,by decide +kernel⟩
set_option maxHeartbeats 4000000 in
theorem zfC {zac:List D→Option D}{k:Nat} {f:Addr}{fd:FuncData} (B:Glb mg) (Fn:Fun K "_law_blanks_of" "_law_blanks_of" (topS pwk 34) f fd) (G__law_blanks_of:Fk P w K mg base "_law_blanks_of" ["_law_term_here"] .fz k zac):FnOk P w K mg base CX0 (k + 1) f fd ["_law_term_here"] (SpD K .fz (runF (zct zac FUEL) 1 3)):=
 zbN Fn zbJ (mb:=zct zac) (fun n cdv A outer s H E hr=>(sseq (sif (FTp.up (tval (fisi (fb 0) rfl B.isi rfl B.str PyProof.Rows.boot_str))) (sone (sret (FP.fz (flst (zae (fv 0) fnil))))) snil) (sseq (sset 1 zbJ.nd (FP.fz (flst fnil))) (sseq (sfor PassesOwn.never rfl (iseq (zbW zbo (fb 0) (zbO fint) zcc)) (zaN 2 zbJ.nd) (sone (sset 1 zbJ.nd (fop zbp (fb 1) (FP.ob (zfJ ["_law_blank", "_law_found"] [none,some 1] (.own (.cap .nil)) rfl (iseq (fk G__law_blanks_of hr (zae (fv 2) fnil))) (fun _ _ _ _=>(zaN 0 zdr)) (fun _ _ _ _=>pif1 (tcmpf (zmy (u101 hr)) (fv 0) (fb 1) (by with_unfolding_all rfl))) (fun _ _ _ _=>(fv 0)))))))) (sone (sret (fv 1))))))) zaI
theorem zeP:(["_law_place", "_law_k"]:List Str).Nodup:=by decide +kernel
theorem zcw:zaE ["_law_term_here", "_law_found", "_law_k"] ["_law_term_here"] (zar (topS pwk 36)):=⟨rfl,rfl,rfl,by decide +kernel,rfl,by decide +kernel,by decide +kernel⟩
set_option maxHeartbeats 4000000 in
theorem zho {zab:List D→Option D}{k:Nat} {f:Addr}{fd:FuncData} (B:Glb mg) (Fn:Fun K "_law_places" "_law_places" (topS pwk 36) f fd) (G__law_places:Fk P w K mg base "_law_places" ["_law_term_here"] .fz k zab):FnOk P w K mg base CX0 (k + 1) f fd ["_law_term_here"] (SpD K .fz (runF (zdi zab FUEL) 1 3)):=
 zbN Fn zcw (mb:=zdi zab) (fun n cdv A outer s H E hr=>(sseq (sset 1 zcw.nd (FP.fz (flst (zae (ftup fnil) fnil)))) (sseq (sif (FTp.up (tval (fisi (fb 0) rfl B.isi rfl B.tuple PyProof.Rows.boot_tuple))) (sone (sfor PassesOwn.never rfl (zbZ (fop p_sub (FP.br (zbz (zcW) rfl B.len PySem.boot_len (zcf (fb 0) fnil))) (FP.br fint)) rfl B.range) (zaN 2 zcw.nd) (sone (sset 1 zcw.nd (fop zbp (fb 1) (FP.ob (zfJ ["_law_place", "_law_k"] [none,some 2] (.own (.cap .nil)) rfl (iseq (fk G__law_places hr (zae (fix p_ix (fb 0) (FP.br (fop zbp (FP.br fint) (fb 2))) (fun _ _=>rfl)) fnil))) (fun _ _ _ _=>(zaN 0 zeP)) (fun _ _ _ _=>pif0) (fun _ _ _ _=>(fop zbp (FP.br (ftup (zae (fv 1) fnil))) (fb 0)))))))))) snil) (sone (sret (fv 1)))))) zaI
theorem zgn:zaE ["_law_term_here", "_law_place", "_law_new", "_law_k"] ["_law_term_here", "_law_place", "_law_new"] (zar (topS pwk 37)):=⟨rfl,rfl,rfl,by decide +kernel,rfl,by decide +kernel,by decide +kernel⟩
set_option maxHeartbeats 4000000 in
theorem zjV {zaj:List D→Option D}{k:Nat} {f:Addr}{fd:FuncData} (B:Glb mg) (Fn:Fun K "_law_put" "_law_put" (topS pwk 37) f fd) (G__law_put:Fk P w K mg base "_law_put" ["_law_term_here", "_law_place", "_law_new"] .fz k zaj):FnOk P w K mg base CX0 (k + 1) f fd ["_law_term_here", "_law_place", "_law_new"] (SpD K .fz (runF (zfe zaj FUEL) 3 4)):=
 zbN Fn zgn (mb:=zfe zaj) (fun n cdv A outer s H E hr=>(sseq (sif (FTp.up (tcmp (p_eq (u100 hr)) (fb 1) (FP.br (ftup fnil)) (zbb _))) (sone (sret (fv 2))) snil) (sseq (sset 3 zgn.nd (fop zbp (FP.br fint) (FP.br (fix p_ix (fb 1) (FP.br fint) (fun _ _=>rfl))))) (sone (sret (fop zbp (FP.br (fop zbp (FP.br (zbW zbo (fb 0) zcc (zbO (fv 3)))) (FP.br (ftup (zae (fk G__law_put hr (zae (fix p_ix (fb 0) (fb 3) (fun _ _=>rfl)) (zae (zbW zbo (fb 1) (zbO fint) zcc) (zae (fv 2) fnil)))) fnil))))) (FP.br (zbW zbo (fb 0) (zbO (fop zbp (fb 3) (FP.br fint))) zcc)))))))) zaI
theorem zdY:zaE ["_law_term_here", "_law_place", "_law_k"] ["_law_term_here", "_law_place"] (zar (topS pwk 35)):=⟨rfl,rfl,rfl,by decide +kernel,rfl,by decide +kernel,by decide +kernel⟩
set_option maxHeartbeats 4000000 in
theorem zjf {k:Nat}{f:Addr} {fd:FuncData}(B:Glb mg) (Fn:Fun K "_law_part" "_law_part" (topS pwk 35) f fd):FnOk P w K mg base CX0 (k + 1) f fd ["_law_term_here", "_law_place"] (SpD K .fz (runF (zei  FUEL) 2 3)):=
 zbN Fn zdY (mb:=zei ) (fun n cdv A outer s H E hr=>(sseq (sfor PassesOwn.never rfl (iseq (fv 1)) (zaN 2 zdY.nd) (sone (sset 0 zdY.nd (fix p_ix (fb 0) (FP.br (fop zbp (FP.br fint) (fb 2))) (fun _ _=>rfl))))) (sone (sret (fv 0))))) zaI
theorem zaV:(["_law_k", "_law_purse_here"]:List Str).Nodup:=by decide +kernel
theorem zaJ:zaE ["_law_cell_here", "_law_sorts_here", "_law_blanks_here", "_law_purse_here", "_law_kind", "_law_spot", "_law_size", "_law_left", "_law_word", "_law_many", "_law_kept", "_law_places_here", "_law_place", "_law_right"] ["_law_cell_here", "_law_sorts_here", "_law_blanks_here"] (zar (topS pwk 38)):=⟨rfl,rfl,rfl,by decide +kernel,rfl,by decide +kernel,by decide +kernel⟩
set_option maxHeartbeats 4000000 in
theorem zje {zak:List D→Option D}{zaf:D→List D→Option (D×D)} {zao:List D→Option D}{zac:List D→Option D} {zab:List D→Option D}{zaj:List D→Option D} {zap:List D→Option D}{k:Nat} {f:Addr}{fd:FuncData} (B:Glb mg) (Fn:Fun K "_law_rule" "_law_rule" (topS pwk 38) f fd) (G__law_purse:Fk P w K mg base "_law_purse" ["_law_cell_here"] .ow k zak) (G__law_take:FkX P w K mg base "_law_take" ["_law_purse_here", "_law_many"] 0 k zaf) (G__law_term:Fk P w K mg base "_law_term" ["_law_numbers", "_law_sorts_here", "_law_blanks_here", "_law_most"] .fz k zao) (G__law_blanks_of:Fk P w K mg base "_law_blanks_of" ["_law_term_here"] .fz k zac) (G__law_places:Fk P w K mg base "_law_places" ["_law_term_here"] .fz k zab) (G__law_put:Fk P w K mg base "_law_put" ["_law_term_here", "_law_place", "_law_new"] .fz k zaj) (G__law_part:Fk P w K mg base "_law_part" ["_law_term_here", "_law_place"] .fz k zap):FnOk P w K mg base CX0 (k + 1) f fd ["_law_cell_here", "_law_sorts_here", "_law_blanks_here"] (SpD K .fz (runF (zeh zak zaf zao zac zab zaj zap FUEL) 3 14)):=
 zbN Fn zaJ (mb:=zeh zak zaf zao zac zab zaj zap) (fun n cdv A outer s H E hr=>(sseq (zdT 3 zaJ.nd (fk G__law_purse hr (zae (fv 0) fnil))) (sseq (zhl (zeQ 3 G__law_take hr fint) (zaN 4 zaJ.nd)) (sseq (zhl (zeQ 3 G__law_take hr fint) (zaN 5 zaJ.nd)) (sseq (zhl (xopR zbp fint (zeQ 3 G__law_take hr fint)) (zaN 6 zaJ.nd)) (sseq (zhl (xk G__law_term hr (xcons (xcomp 3 1 ["_law_k", "_law_purse_here"] [none,some 3] (.own (.cap .nil)) rfl (zbZ (fv 6) rfl B.range) (fun _ _ _ _=>(zaN 0 zaV)) (fun _ _ _ _=>(zeQ 1 G__law_take hr fint))) (zae (fv 1) (zae (fv 2) (zae fint fnil))))) (zaN 7 zaJ.nd)) (sseq (sif (FTp.up (tval (fisi (fb 7) rfl B.isi rfl B.str PyProof.Rows.boot_str))) (sseq (sasg (fix p_ix (fb 1) (FP.br (fop zcB (fb 5) (FP.br (zbz (zcW) rfl B.len PySem.boot_len (zcf (fb 1) fnil))))) (fun _ _=>rfl)) (gtup rfl (zcG (zaN 8 zaJ.nd) (zcG (zaN 9 zaJ.nd) gnil)) (zaP (zaP zcD)))) (sone (sset 7 zaJ.nd (fop zbp (FP.br (ftup (zae (fv 8) fnil))) (FP.br (fop p_rep (FP.br (ftup (zae (fv 7) fnil))) (fb 9))))))) snil) (sseq (sset 10 zaJ.nd (fk G__law_blanks_of hr (zae (fv 7) fnil))) (sseq (sset 11 zaJ.nd (fk G__law_places hr (zae (fv 7) fnil))) (sseq (sset 12 zaJ.nd (fix p_ix (fb 11) (FP.br (fop zcB (fb 5) (FP.br (zbz (zcW) rfl B.len PySem.boot_len (zcf (fb 11) fnil))))) (fun _ _=>rfl))) (sseq (sif (FTp.up (tcmp (p_eq (u100 hr)) (fb 4) (FP.br fint) (zbb _))) (sone (sret (ftup (zae (fv 7) (zae (fk G__law_part hr (zae (fv 7) (zae (fv 12) fnil))) fnil))))) snil) (sseq (zhl (xopR zbp fint (zeQ 3 G__law_take hr fint)) (zaN 6 zaJ.nd)) (sseq (zhl (xk G__law_term hr (xcons (xcomp 3 1 ["_law_k", "_law_purse_here"] [none,some 3] (.own (.cap .nil)) rfl (zbZ (fv 6) rfl B.range) (fun _ _ _ _=>(zaN 0 zaV)) (fun _ _ _ _=>(zeQ 1 G__law_take hr fint))) (zae (fv 1) (zae (fv 10) (zae fint fnil))))) (zaN 13 zaJ.nd)) (sseq (sif (FTp.up (tcmp (p_eq (u100 hr)) (fb 4) (FP.br fint) (zbb _))) (sone (sret (ftup (zae (fv 7) (zae (fv 13) fnil))))) snil) (sone (sret (ftup (zae (fv 7) (zae (fk G__law_put hr (zae (fv 7) (zae (fv 12) (zae (fv 13) fnil)))) fnil))))))))))))))))))) zaI
theorem zcA:(["_law_part_here", "_law_filling"]:List Str).Nodup:=by decide +kernel
theorem zhk:zaE ["_law_term_here", "_law_filling"] ["_law_term_here", "_law_filling"] (zar (topS pwk 39)):=⟨rfl,rfl,rfl,by decide +kernel,rfl,by decide +kernel,by decide +kernel⟩
set_option maxHeartbeats 4000000 in
theorem zhp {zah:List D→Option D}{k:Nat} {f:Addr}{fd:FuncData} (B:Glb mg) (Fn:Fun K "_law_filled" "_law_filled" (topS pwk 39) f fd) (G__law_filled:Fk P w K mg base "_law_filled" ["_law_term_here", "_law_filling"] .fz k zah):FnOk P w K mg base CX0 (k + 1) f fd ["_law_term_here", "_law_filling"] (SpD K .fz (runF (zdj zah FUEL) 2 2)):=
 zbN Fn zhk (mb:=zdj zah) (fun n cdv A outer s H E hr=>(sseq (sif (FTp.up (tval (fisi (fb 0) rfl B.isi rfl B.str PyProof.Rows.boot_str))) (sone (sret (fget (u100 hr) (fb 1) (fv 0) (fv 0)))) snil) (sone (sret (fop zbp (FP.br (zbW zbo (fb 0) zcc (zbO fint))) (FP.br (zjq zkj rfl B.tuple PyProof.Rows.boot_tuple (zcf (FP.ob (zfJ ["_law_part_here", "_law_filling"] [none,some 1] (.own (.cap .nil)) rfl (iseq (zbW zbo (fb 0) (zbO fint) zcc)) (fun _ _ _ _=>(zaN 0 zcA)) (fun _ _ _ _=>pif0) (fun _ _ _ _=>(fk G__law_filled hr (zae (fv 0) (zae (fv 1) fnil)))))) fnil)))))))) zaI
theorem zeR:zaE ["_law_cell_here", "_law_many", "_law_purse_here"] ["_law_cell_here", "_law_many"] (zar (topS pwk 31)):=⟨rfl,rfl,rfl,by decide +kernel,rfl,by decide +kernel,by decide +kernel⟩
set_option maxHeartbeats 4000000 in
theorem zhn {zak:List D→Option D}{zaf:D→List D→Option (D×D)} {k:Nat}{f:Addr} {fd:FuncData}(B:Glb mg) (Fn:Fun K "_law_stream" "_law_stream" (topS pwk 31) f fd) (G__law_purse:Fk P w K mg base "_law_purse" ["_law_cell_here"] .ow k zak) (G__law_take:FkX P w K mg base "_law_take" ["_law_purse_here", "_law_many"] 0 k zaf):FnOk P w K mg base CX0 (k + 1) f fd ["_law_cell_here", "_law_many"] (SpD K .fz (runF (zdh zak zaf FUEL) 2 3)):=
 zbN Fn zeR (mb:=zdh zak zaf) (fun n cdv A outer s H E hr=>(sseq (zdT 2 zeR.nd (fk G__law_purse hr (zae (fv 0) fnil))) (sone (sretX (xcomp 2 1 ["_law_k", "_law_purse_here"] [none,some 2] (.own (.cap .nil)) rfl (zbZ (fv 1) rfl B.range) (fun _ _ _ _=>(zaN 0 zaV)) (fun _ _ _ _=>(zeQ 1 G__law_take hr fint))))))) zaI
theorem zbe:zaE ["_law_kind", "_law_cell_here", "_law_other", "_law_rules", "_law_sorts_here", "_law_blanks_here", "_law_term_here", "_law_purse_here", "_law_left", "_law_places_here", "_law_place", "_law_filling", "_law_blank"] ["_law_kind", "_law_cell_here", "_law_other", "_law_rules", "_law_sorts_here", "_law_blanks_here"] (zar (topS pwk 42)):=⟨rfl,rfl,rfl,by decide +kernel,rfl,by decide +kernel,by decide +kernel⟩
set_option maxHeartbeats 4000000 in
theorem zij {zao:List D→Option D}{zak:List D→Option D} {zab:List D→Option D}{zac:List D→Option D} {zah:List D→Option D}{zaj:List D→Option D} {zaB:List D→Option D}{zaf:D→List D→Option (D×D)} {k:Nat}{f:Addr} {fd:FuncData}(B:Glb mg) (Fn:Fun K "_law_asked" "_law_asked" (topS pwk 42) f fd) (G__law_term:Fk P w K mg base "_law_term" ["_law_numbers", "_law_sorts_here", "_law_blanks_here", "_law_most"] .fz k zao) (G__law_purse:Fk P w K mg base "_law_purse" ["_law_cell_here"] .ow k zak) (G__law_places:Fk P w K mg base "_law_places" ["_law_term_here"] .fz k zab) (G__law_blanks_of:Fk P w K mg base "_law_blanks_of" ["_law_term_here"] .fz k zac) (G__law_filled:Fk P w K mg base "_law_filled" ["_law_term_here", "_law_filling"] .fz k zah) (G__law_put:Fk P w K mg base "_law_put" ["_law_term_here", "_law_place", "_law_new"] .fz k zaj) (G__law_stream:Fk P w K mg base "_law_stream" ["_law_cell_here", "_law_many"] .fz k zaB) (G__law_take:FkX P w K mg base "_law_take" ["_law_purse_here", "_law_many"] 0 k zaf):FnOk P w K mg base CX0 (k + 1) f fd ["_law_kind", "_law_cell_here", "_law_other", "_law_rules", "_law_sorts_here", "_law_blanks_here"] (SpD K .fz (runF (zdG zao zak zab zac zah zaj zaB zaf FUEL) 6 13)):=
 zbN Fn zbe (mb:=zdG zao zak zab zac zah zaj zaB zaf) (fun n cdv A outer s H E hr=>(sseq (sset 6 zbe.nd (fk G__law_term hr (zae (fk G__law_stream hr (zae (fv 1) (zae fint fnil))) (zae (fv 4) (zae (fv 5) (zae fint fnil)))))) (sseq (sif (FTp.up (tcmp (p_eq (u100 hr)) (fb 0) (FP.br fint) (zbb _))) (sone (sret (fv 6))) snil) (sseq (zdT 7 zbe.nd (fk G__law_purse hr (zae (fv 2) fnil))) (sseq (zhl (xixL p_ix (xixR p_ix (fv 3) (zeQ 7 G__law_take hr (zbz (zcW) rfl B.len PySem.boot_len (zcf (fb 3) fnil))) (fun _ _=>rfl)) (FP.br fint) (fun _ _=>rfl)) (zaN 8 zbe.nd)) (sseq (sset 9 zbe.nd (fk G__law_places hr (zae (fv 6) fnil))) (sseq (zhl (xixR p_ix (fv 9) (zeQ 7 G__law_take hr (zbz (zcW) rfl B.len PySem.boot_len (zcf (fb 9) fnil))) (fun _ _=>rfl)) (zaN 10 zbe.nd)) (sseq (zdT 11 zbe.nd fdic0) (sseq (sfor PassesOwn.never rfl (iseq (fk G__law_blanks_of hr (zae (fv 8) fnil))) (zaN 12 zbe.nd) (sone (sputKX 11 (u100 hr) (xk G__law_term hr (xcons (xcomp 7 1 ["_law_k", "_law_purse_here"] [none,some 7] (.own (.cap .nil)) rfl (zbZ fint rfl B.range) (fun _ _ _ _=>(zaN 0 zaV)) (fun _ _ _ _=>(zeQ 1 G__law_take hr fint))) (zae (fv 4) (zae (fv 5) (zae fint fnil))))) (fv 12)))) (sseq (sfrz 11 (sset 8 zbe.nd (fk G__law_filled hr (zae (fv 8) (zae (fv 11) fnil))))) (sseq (sif (FTp.up (tcmp (p_eq (u100 hr)) (fb 0) (FP.br fint) (zbb _))) (sone (sret (fv 8))) snil) (sone (sret (fk G__law_put hr (zae (fv 6) (zae (fv 10) (zae (fv 8) fnil))))))))))))))))) zaI
theorem zfQ:zaE ["_law_pattern", "_law_term_here", "_law_filling", "_law_k"] ["_law_pattern", "_law_term_here", "_law_filling"] (zar (topS pwk 40)):=⟨rfl,rfl,rfl,by decide +kernel,rfl,by decide +kernel,by decide +kernel⟩
set_option maxHeartbeats 4000000 in
theorem zjh {zav:D→List D→Option (D×D)}{k:Nat} {f:Addr}{fd:FuncData} (B:Glb mg) (Fn:Fun K "_law_fits" "_law_fits" (topS pwk 40) f fd) (G__law_fits:FkX P w K mg base "_law_fits" ["_law_pattern", "_law_term_here", "_law_filling"] 2 k zav):FnOk P w K mg base CX0 (k + 1) f fd ["_law_pattern", "_law_term_here", "_law_filling"] (SpX K 2 (runX (zej zav FUEL) 3 4 2)):=
 fn_mkX Fn zfQ (mb:=zej zav) 3 4 2 rfl rfl (fun n cdv A outer s H E hr=>(sseq (sif (FTp.up (tval (fisi (fb 0) rfl B.isi rfl B.str PyProof.Rows.boot_str))) (sseq (sif (FTp.up (tcmpf (zll (u101 hr)) (fv 0) (fb 2) (by with_unfolding_all rfl))) (sone (sputK 2 (u100 hr) (fv 1) (fv 0))) snil) (sone (sret (fcmp (p_eq (u100 hr)) (FP.br (fixK (u100 hr) (fb 2) (fv 0) (fun _ _=>rfl))) (fb 1) (zbb _))))) snil) (sseq (sif (FTp.up (FWp.pt (tor (tval (fisi (fb 1) rfl B.isi rfl B.str PyProof.Rows.boot_str)) (tor (tcmp (p_ne (u100 hr)) (FP.br (fix p_ix (fb 0) (FP.br fint) (fun _ _=>rfl))) (FP.br (fix p_ix (fb 1) (FP.br fint) (fun _ _=>rfl))) (zbb _)) (tor1 (tcmp (p_ne (u100 hr)) (FP.br (zbz (zcW) rfl B.len PySem.boot_len (zcf (fb 0) fnil))) (FP.br (zbz (zcW) rfl B.len PySem.boot_len (zcf (fb 1) fnil))) (zbb _))))))) (sone (sret fbl)) snil) (sseq (sfor PassesOwn.never rfl (irange2 fint (zbz (zcW) rfl B.len PySem.boot_len (zcf (fb 1) fnil)) rfl B.range) (zaN 3 zfQ.nd) (sone (sif (mnot (mvalX (xcall2 2 G__law_fits hr (fix p_ix (fb 0) (fb 3) (fun _ _=>rfl)) (fix p_ix (fb 1) (fb 3) (fun _ _=>rfl))))) (sone (sret fbl)) snil))) (sone (sret fbl))))))
theorem zbG:zaE ["_law_rules", "_law_term_here", "_law_found", "_law_place", "_law_part_here", "_law_k", "_law_filling"] ["_law_rules", "_law_term_here"] (zar (topS pwk 41)):=⟨rfl,rfl,rfl,by decide +kernel,rfl,by decide +kernel,by decide +kernel⟩
set_option maxHeartbeats 4000000 in
theorem zie {zab:List D→Option D}{zap:List D→Option D} {zav:D→List D→Option (D×D)}{zaj:List D→Option D} {zah:List D→Option D}{k:Nat} {f:Addr}{fd:FuncData} (B:Glb mg) (Fn:Fun K "_law_steps" "_law_steps" (topS pwk 41) f fd) (G__law_places:Fk P w K mg base "_law_places" ["_law_term_here"] .fz k zab) (G__law_part:Fk P w K mg base "_law_part" ["_law_term_here", "_law_place"] .fz k zap) (G__law_fits:FkX P w K mg base "_law_fits" ["_law_pattern", "_law_term_here", "_law_filling"] 2 k zav) (G__law_put:Fk P w K mg base "_law_put" ["_law_term_here", "_law_place", "_law_new"] .fz k zaj) (G__law_filled:Fk P w K mg base "_law_filled" ["_law_term_here", "_law_filling"] .fz k zah):FnOk P w K mg base CX0 (k + 1) f fd ["_law_rules", "_law_term_here"] (SpD K .ow (runF (zdC zab zap zav zaj zah FUEL) 2 7)):=
 zbN Fn zbG (mb:=zdC zab zap zav zaj zah) (fun n cdv A outer s H E hr=>(sseq (zdT 2 zbG.nd (flst fnil)) (sseq (sfor PassesOwn.never rfl (iseq (fk G__law_places hr (zae (fv 1) fnil))) (zaN 3 zbG.nd) (sseq (sset 4 zbG.nd (fk G__law_part hr (zae (fv 1) (zae (fv 3) fnil)))) (sone (sfor PassesOwn.never rfl (zbZ (zbz (zcW) rfl B.len PySem.boot_len (zcf (fb 0) fnil)) rfl B.range) (zaN 5 zbG.nd) (sseq (zdT 6 zbG.nd fdic0) (sone (sif (mvalX (xcall2 6 G__law_fits hr (fix p_ix (FP.br (fix p_ix (fb 0) (fb 5) (fun _ _=>rfl))) (FP.br fint) (fun _ _=>rfl)) (fv 4))) (sone (sfrz 6 (zfn (zfx 2 (ftup (zae (fv 3) (zae (fv 5) (zae (fk G__law_put hr (zae (fv 1) (zae (fv 3) (zae (fk G__law_filled hr (zae (fix p_ix (FP.br (fix p_ix (fb 0) (fb 5) (fun _ _=>rfl))) (FP.br fint) (fun _ _=>rfl)) (zae (fv 6) fnil))) fnil)))) fnil)))))))) snil))))))) (sone (sretO 2))))) zaI
theorem zjK:zaE ["term"] ["term"] (zar (topS pwk 6)):=⟨rfl,rfl,rfl,by decide +kernel,rfl,by decide +kernel,by decide +kernel⟩
set_option maxHeartbeats 4000000 in
theorem zjU {k:Nat}{f:Addr} {fd:FuncData}(B:Glb mg) (Fn:Fun K "is_blank" "is_blank" (topS pwk 6) f fd):FnOk P w K mg base CX0 (k + 1) f fd ["term"] (SpD K .fz (runF (zfd  FUEL) 1 1)):=
 zbN Fn zjK (mb:=zfd ) (fun n cdv A outer s H E hr=>(sone (sret (fisi (fb 0) rfl B.isi rfl B.str PyProof.Rows.boot_str)))) zaI
theorem zhj:zaE ["term"] ["term"] (zar (topS pwk 7)):=⟨rfl,rfl,rfl,by decide +kernel,rfl,by decide +kernel,by decide +kernel⟩
set_option maxHeartbeats 4000000 in
theorem zhm {zad:List D→Option D}{k:Nat} {f:Addr}{fd:FuncData} (B:Glb mg) (Fn:Fun K "inner_parts" "inner_parts" (topS pwk 7) f fd) (G_is_blank:Fk P w K mg base "is_blank" ["term"] .fz k zad):FnOk P w K mg base CX0 (k + 1) f fd ["term"] (SpD K .fz (runF (zdg zad FUEL) 1 1)):=
 zbN Fn zhj (mb:=zdg zad) (fun n cdv A outer s H E hr=>(sseq (sif (FTp.up (tval (fk G_is_blank hr (zae (fv 0) fnil)))) (sone (sret (ftup fnil))) snil) (sone (sret (zbW zbo (fb 0) (zbO fint) zcc))))) zaI
theorem zdN:(["at", "held", "place"]:List Str).Nodup:=by decide +kernel
theorem zbr:zaE ["term", "found", "waiting", "place", "part", "inner"] ["term"] (zar (topS pwk 8)):=⟨rfl,rfl,rfl,by decide +kernel,rfl,by decide +kernel,by decide +kernel⟩
set_option maxHeartbeats 4000000 in
theorem zgw {zam:List D→Option D}{k:Nat} {f:Addr}{fd:FuncData} (B:Glb mg) (Fn:Fun K "placed_parts" "placed_parts" (topS pwk 8) f fd) (G_inner_parts:Fk P w K mg base "inner_parts" ["term"] .fz k zam):FnOk P w K mg base CX0 (k + 1) f fd ["term"] (SpD K .fz (runF (zcO zam FUEL) 1 6)):=
 zbN Fn zbr (mb:=zcO zam) (fun n cdv A outer s H E hr=>(sseq (zdT 1 zbr.nd (flst fnil)) (sseq (zdT 2 zbr.nd (flst (zae (ftup (zae (ftup fnil) (zae (fv 0) fnil))) fnil))) (sseq (swhile n PassesOwn.never (FTp.up (ttru (fb 2))) (sseq (zhl (xpop 2) (gtup rfl (zcG (zaN 3 zbr.nd) (zcG (zaN 4 zbr.nd) gnil)) (zaP (zaP zcD)))) (sseq (zfn (zfx 1 (ftup (zae (fv 3) (zae (fv 4) fnil))))) (sseq (ssetC 5 ["at", "held", "place"] [none,none,some 3] (.own (.own (.cap .nil))) rfl zbr.nd (ienumT (fk G_inner_parts hr (zae (fv 4) fnil)) rfl B.enum) (fun _ _ _ _=>(gtup rfl (zcG (zaN 0 zdN) (zcG (zaN 1 zdN) gnil)) (zaP (zaP zcD)))) (fun _ _ _ _=>pif0) (fun _ _ _ _=>(ftup (zae (fop zbp (fb 2) (FP.br (ftup (zae (fv 0) fnil)))) (zae (fv 1) fnil))))) (sone (zfn (zlO 2 (FP.fz (frev (fb 5) (fneg fint)))))))))) (sone (sretF 1)))))) zaI
theorem zbm:zaE ["terms", "counts", "found", "term", "place", "part"] ["terms"] (zar (topS pwk 19)):=⟨rfl,rfl,rfl,by decide +kernel,rfl,by decide +kernel,by decide +kernel⟩
set_option maxHeartbeats 4000000 in
theorem zfW {zag:List D→Option D}{zad:List D→Option D} {k:Nat}{f:Addr} {fd:FuncData}(B:Glb mg) (Fn:Fun K "twofold_signs" "twofold_signs" (topS pwk 19) f fd) (G_placed_parts:Fk P w K mg base "placed_parts" ["term"] .fz k zag) (G_is_blank:Fk P w K mg base "is_blank" ["term"] .fz k zad):FnOk P w K mg base CX0 (k + 1) f fd ["terms"] (SpD K .ow (runF (zcC zag zad FUEL) 1 6)):=
 zbN Fn zbm (mb:=zcC zag zad) (fun n cdv A outer s H E hr=>(sseq (zdT 1 zbm.nd fdic0) (sseq (zdT 2 zbm.nd (flst fnil)) (sseq (sfor PassesOwn.never rfl (iseq (fv 0)) (zaN 3 zbm.nd) (sone (sfor PassesOwn.never rfl (iseq (fk G_placed_parts hr (zae (fv 3) fnil))) (gtup rfl (zcG (zaN 4 zbm.nd) (zcG (zaN 5 zbm.nd) gnil)) (zaP (zaP zcD))) (sone (sif (FW.pt (mand (FTp.up (tnot (tval (fk G_is_blank hr (zae (fv 5) fnil))))) (mand1 (mcmpX (p_ne (u100 hr)) (zlN 1 (u100 hr) (fix p_ix (fb 5) (FP.br fint) (fun _ _=>rfl)) (zbz (zcW) rfl B.len PySem.boot_len (zcf (fb 5) fnil))) (FP.br (zbz (zcW) rfl B.len PySem.boot_len (zcf (fb 5) fnil))) (zbb _))))) (sone (zfn (zfx 2 (fix p_ix (fb 5) (FP.br fint) (fun _ _=>rfl))))) snil))))) (sone (sretO 2)))))) zaI
theorem zcX:zaE ["term", "found", "place", "part"] ["term"] (zar (topS pwk 9)):=⟨rfl,rfl,rfl,by decide +kernel,rfl,by decide +kernel,by decide +kernel⟩
set_option maxHeartbeats 4000000 in
theorem zjb {zag:List D→Option D}{zad:List D→Option D} {k:Nat}{f:Addr} {fd:FuncData}(B:Glb mg) (Fn:Fun K "blanks_of" "blanks_of" (topS pwk 9) f fd) (G_placed_parts:Fk P w K mg base "placed_parts" ["term"] .fz k zag) (G_is_blank:Fk P w K mg base "is_blank" ["term"] .fz k zad):FnOk P w K mg base CX0 (k + 1) f fd ["term"] (SpD K .fz (runF (zee zag zad FUEL) 1 4)):=
 zbN Fn zcX (mb:=zee zag zad) (fun n cdv A outer s H E hr=>(sseq (zdT 1 zcX.nd (flst fnil)) (sseq (sfor PassesOwn.never rfl (iseq (fk G_placed_parts hr (zae (fv 0) fnil))) (gtup rfl (zcG (zaN 2 zcX.nd) (zcG (zaN 3 zcX.nd) gnil)) (zaP (zaP zcD))) (sone (sif (FTp.up (FWp.pt (tand (tval (fk G_is_blank hr (zae (fv 3) fnil))) (tand1 (tcmpf (zmy (u101 hr)) (fv 3) (fb 1) (by with_unfolding_all rfl)))))) (sone (zfn (zfx 1 (fv 3)))) snil))) (sone (sretF 1))))) zaI
theorem zhr:(["blank", "known"]:List Str).Nodup:=by decide +kernel
theorem zhC:zaE ["left", "right", "known"] ["left", "right"] (zar (topS pwk 17)):=⟨rfl,rfl,rfl,by decide +kernel,rfl,by decide +kernel,by decide +kernel⟩
set_option maxHeartbeats 4000000 in
theorem zln {zad:List D→Option D}{zaQ:List D→Option D} {k:Nat}{f:Addr} {fd:FuncData}(B:Glb mg) (Fn:Fun K "is_rule" "is_rule" (topS pwk 17) f fd) (G_is_blank:Fk P w K mg base "is_blank" ["term"] .fz k zad) (G_blanks_of:Fk P w K mg base "blanks_of" ["term"] .fz k zaQ):FnOk P w K mg base CX0 (k + 1) f fd ["left", "right"] (SpD K .fz (runF (zfF zad zaQ FUEL) 2 3)):=
 zbN Fn zhC (mb:=zfF zad zaQ) (fun n cdv A outer s H E hr=>(sseq (sif (FTp.up (tval (fk G_is_blank hr (zae (fv 0) fnil)))) (sone (sret fbl)) snil) (sseq (sset 2 zhC.nd (fk G_blanks_of hr (zae (fv 0) fnil))) (sone (sret (zbz (c_all rfl) rfl B.all PyProof.Rows.boot_all (zcf (FP.ob (zfJ ["blank", "known"] [none,some 2] (.own (.cap .nil)) rfl (iseq (fk G_blanks_of hr (zae (fv 1) fnil))) (fun _ _ _ _=>(zaN 0 zhr)) (fun _ _ _ _=>pif0) (fun _ _ _ _=>(fcmpf (p_in (u101 hr)) (fv 0) (fb 1) (by with_unfolding_all rfl))))) fnil))))))) zaI
theorem zfT:(["rule", "side"]:List Str).Nodup:=by decide +kernel
theorem zjJ:zaE ["rules"] ["rules"] (zar (topS pwk 18)):=⟨rfl,rfl,rfl,by decide +kernel,rfl,by decide +kernel,by decide +kernel⟩
set_option maxHeartbeats 4000000 in
theorem zjT {k:Nat}{f:Addr} {fd:FuncData}(B:Glb mg) (Fn:Fun K "sides_of" "sides_of" (topS pwk 18) f fd):FnOk P w K mg base CX0 (k + 1) f fd ["rules"] (SpD K .ow (runF (zfc  FUEL) 1 1)):=
 zbN Fn zjJ (mb:=zfc ) (fun n cdv A outer s H E hr=>(sone (zhi (fcomp2 ["rule", "side"] [none,none] (.own (.own .nil)) rfl (iseq (fv 0)) (fun _ _ _ _=>(zaN 0 zfT)) (fun _ _ _ _=>(iseq (fv 0))) (fun _ _ _ _=>(zaN 1 zfT)) (fun _ _ _ _=>(fv 1)))))) zaI
theorem zci:zaE ["rules", "terms", "rule", "left", "right", "twofold"] ["rules", "terms"] (zar (topS pwk 20)):=⟨rfl,rfl,rfl,by decide +kernel,rfl,by decide +kernel,by decide +kernel⟩
set_option maxHeartbeats 4000000 in
theorem zic {zaz:List D→Option D}{zbt:List D→Option D} {zbh:List D→Option D}{k:Nat} {f:Addr}{fd:FuncData} (B:Glb mg) (Fn:Fun K "must_rules" "must_rules" (topS pwk 20) f fd) (G_twofold_signs:Fk P w K mg base "twofold_signs" ["terms"] .ow k zaz) (G_is_rule:Fk P w K mg base "is_rule" ["left", "right"] .fz k zbt) (G_sides_of:Fk P w K mg base "sides_of" ["rules"] .ow k zbh):FnOk P w K mg base CX0 (k + 1) f fd ["rules", "terms"] (SpD K .fz (runN (zdA zaz zbt zbh FUEL) 2 6)):=
 zbN Fn zci (mb:=zdA zaz zbt zbh) (fun n cdv A outer s H E hr=>(sseq (sfor PassesOwn.never rfl (iseq (fv 0)) (zaN 2 zci.nd) (sseq (sasg (fv 2) (gtup rfl (zcG (zaN 3 zci.nd) (zcG (zaN 4 zci.nd) gnil)) (zaP (zaP zcD)))) (sone (sif (FTp.up (tnot (tval (fk G_is_rule hr (zae (fv 3) (zae (fv 4) fnil)))))) (sone zlX) snil)))) (sseq (sset 5 zci.nd (FP.fz (fk G_twofold_signs hr (zae (fop zbp (FP.ob (fk G_sides_of hr (zae (fv 0) fnil))) (fb 1)) fnil)))) (sone (sif (FTp.up (ttru (fb 5))) (sone zlX) snil))))) runN_hm
theorem zgm:zaE ["one", "other"] ["one", "other"] (zar (topS pwk 14)):=⟨rfl,rfl,rfl,by decide +kernel,rfl,by decide +kernel,by decide +kernel⟩
set_option maxHeartbeats 4000000 in
theorem zgx {zad:List D→Option D}{k:Nat} {f:Addr}{fd:FuncData} (B:Glb mg) (Fn:Fun K "paired_parts" "paired_parts" (topS pwk 14) f fd) (G_is_blank:Fk P w K mg base "is_blank" ["term"] .fz k zad):FnOk P w K mg base CX0 (k + 1) f fd ["one", "other"] (SpD K .fz (runF (zcP zad FUEL) 2 2)):=
 zbN Fn zgm (mb:=zcP zad) (fun n cdv A outer s H E hr=>(sseq (sif (FTp.up (FWp.pt (tor (tval (fk G_is_blank hr (zae (fv 0) fnil))) (tor1 (tval (fk G_is_blank hr (zae (fv 1) fnil))))))) (sone (sret fnon)) snil) (sseq (sif (FTp.up (FWp.pt (tor (tcmp (p_ne (u100 hr)) (FP.br (fix p_ix (fb 0) (FP.br fint) (fun _ _=>rfl))) (FP.br (fix p_ix (fb 1) (FP.br fint) (fun _ _=>rfl))) (zbb _)) (tor1 (tcmp (p_ne (u100 hr)) (FP.br (zbz (zcW) rfl B.len PySem.boot_len (zcf (fb 0) fnil))) (FP.br (zbz (zcW) rfl B.len PySem.boot_len (zcf (fb 1) fnil))) (zbb _)))))) (sone (sret fnon)) snil) (sone (sret (FP.fz (fzipL rfl rfl B.list rfl B.zip (zbW zbo (fb 0) (zbO fint) zcc) (zbW zbo (fb 1) (zbO fint) zcc)))))))) zaI
theorem zeZ:zaE ["pattern", "term", "filling", "waiting", "asked", "given", "pairs"] ["pattern", "term"] (zar (topS pwk 15)):=⟨rfl,rfl,rfl,by decide +kernel,rfl,by decide +kernel,by decide +kernel⟩
set_option maxHeartbeats 4000000 in
theorem ok_fits {zad:List D→Option D}{zax:List D→Option D} {k:Nat}{f:Addr} {fd:FuncData}(B:Glb mg) (Fn:Fun K "fits" "fits" (topS pwk 15) f fd) (G_is_blank:Fk P w K mg base "is_blank" ["term"] .fz k zad) (G_paired_parts:Fk P w K mg base "paired_parts" ["one", "other"] .fz k zax):FnOk P w K mg base CX0 (k + 1) f fd ["pattern", "term"] (SpD K .fz (runF (zjY zad zax FUEL) 2 7)):=
 zbN Fn zeZ (mb:=zjY zad zax) (fun n cdv A outer s H E hr=>(sseq (zdT 2 zeZ.nd fdic0) (sseq (zdT 3 zeZ.nd (flst (zae (ftup (zae (fv 0) (zae (fv 1) fnil))) fnil))) (sseq (swhile n PassesOwn.never (FTp.up (ttru (fb 3))) (sseq (zhl (xpopAt 3 fint) (gtup rfl (zcG (zaN 4 zeZ.nd) (zcG (zaN 5 zeZ.nd) gnil)) (zaP (zaP zcD)))) (sseq (sif (FTp.up (tval (fk G_is_blank hr (zae (fv 4) fnil)))) (sseq (sif (mcmpX (p_ne (u100 hr)) (zlN 2 (u100 hr) (fv 4) (fv 5)) (fb 5) (zbb _)) (sone (sret fnon)) snil) (sone scont)) snil) (sseq (sset 6 zeZ.nd (fk G_paired_parts hr (zae (fv 4) (zae (fv 5) fnil)))) (sseq (sif (FTp.up (tcmp (p_is) (fb 6) (FP.br fnon) (zbb _))) (sone (sret fnon)) snil) (sone (zdT 3 zeZ.nd (fop p_cat (fb 6) (fb 3))))))))) (sone (sretF 2)))))) zaI
theorem zfo:zaE ["term", "place", "way", "number", "inner"] ["term", "place"] (zar (topS pwk 10)):=⟨rfl,rfl,rfl,by decide +kernel,rfl,by decide +kernel,by decide +kernel⟩
set_option maxHeartbeats 4000000 in
theorem zmC {zam:List D→Option D}{k:Nat} {f:Addr}{fd:FuncData} (B:Glb mg) (Fn:Fun K "way_to" "way_to" (topS pwk 10) f fd) (G_inner_parts:Fk P w K mg base "inner_parts" ["term"] .fz k zam):FnOk P w K mg base CX0 (k + 1) f fd ["term", "place"] (SpD K .fz (runF (zgC zam FUEL) 2 5)):=
 zbN Fn zfo (mb:=zgC zam) (fun n cdv A outer s H E hr=>(sseq (zdT 2 zfo.nd (flst (zae (fv 0) fnil))) (sseq (sfor PassesOwn.never rfl (iseq (fv 1)) (zaN 3 zfo.nd) (sseq (sset 4 zfo.nd (fk G_inner_parts hr (zae (fix p_ix (fb 2) (FP.br (fneg fint)) (fun _ _=>rfl)) fnil))) (sseq (sif (FTp.up (FWp.pt (tor (tcmp (p_lt) (fb 3) (FP.br fint) (zbb _)) (tor1 (tcmp (p_ge (u100 hr)) (fb 3) (FP.br (zbz (zcW) rfl B.len PySem.boot_len (zcf (fb 4) fnil))) (zbb _)))))) (sone zlX) snil) (sone (zfn (zfx 2 (fix p_ix (fb 4) (fb 3) (fun _ _=>rfl)))))))) (sone (sretF 2))))) zaI
theorem zdo:zaE ["term", "place", "new", "wholes", "made", "whole", "number"] ["term", "place", "new"] (zar (topS pwk 11)):=⟨rfl,rfl,rfl,by decide +kernel,rfl,by decide +kernel,by decide +kernel⟩
set_option maxHeartbeats 4000000 in
theorem zmD {zbM:List D→Option D}{k:Nat} {f:Addr}{fd:FuncData} (B:Glb mg) (Fn:Fun K "put_at" "put_at" (topS pwk 11) f fd) (G_way_to:Fk P w K mg base "way_to" ["term", "place"] .fz k zbM):FnOk P w K mg base CX0 (k + 1) f fd ["term", "place", "new"] (SpD K .fz (runF (zgD zbM FUEL) 3 7)):=
 zbN Fn zdo (mb:=zgD zbM) (fun n cdv A outer s H E hr=>(sseq (sset 3 zdo.nd (zbW zbo (FP.br (fk G_way_to hr (zae (fv 0) (zae (fv 1) fnil)))) zcc (zbO (fneg fint)))) (sseq (sset 4 zdo.nd (fv 2)) (sseq (sfor PassesOwn.never rfl (irev (FP.fz (fzipL rfl rfl B.list rfl B.zip (fv 3) (fv 1))) rfl B.reversed) (gtup rfl (zcG (zaN 5 zdo.nd) (zcG (zaN 6 zdo.nd) gnil)) (zaP (zaP zcD))) (sone (sset 4 zdo.nd (fop zbp (FP.br (fop zbp (FP.br (zbW zbo (fb 5) zcc (zbO (fop zbp (fb 6) (FP.br fint))))) (FP.br (ftup (zae (fv 4) fnil))))) (FP.br (zbW zbo (fb 5) (zbO (fop zbp (fb 6) (FP.br fint))) zcc)))))) (sone (sret (fv 4))))))) zaI
theorem zgz:(["part", "filling"]:List Str).Nodup:=by decide +kernel
theorem zma:zaE ["term", "filling"] ["term", "filling"] (zar (topS pwk 13)):=⟨rfl,rfl,rfl,by decide +kernel,rfl,by decide +kernel,by decide +kernel⟩
set_option maxHeartbeats 4000000 in
theorem zmE {zad:List D→Option D}{zba:List D→Option D} {k:Nat}{f:Addr} {fd:FuncData}(B:Glb mg) (Fn:Fun K "filled" "filled" (topS pwk 13) f fd) (G_is_blank:Fk P w K mg base "is_blank" ["term"] .fz k zad) (G_filled:Fk P w K mg base "filled" ["term", "filling"] .fz k zba):FnOk P w K mg base CX0 (k + 1) f fd ["term", "filling"] (SpD K .fz (runF (zgF zad zba FUEL) 2 2)):=
 zbN Fn zma (mb:=zgF zad zba) (fun n cdv A outer s H E hr=>(sseq (sif (FTp.up (tval (fk G_is_blank hr (zae (fv 0) fnil)))) (sone (sret (fget (u100 hr) (fb 1) (fv 0) (fv 0)))) snil) (sone (sret (fop zbp (FP.br (ftup (zae (fix p_ix (fb 0) (FP.br fint) (fun _ _=>rfl)) fnil))) (FP.br (zjq zkj rfl B.tuple PyProof.Rows.boot_tuple (zcf (FP.ob (zfJ ["part", "filling"] [none,some 1] (.own (.cap .nil)) rfl (iseq (zbW zbo (fb 0) (zbO fint) zcc)) (fun _ _ _ _=>(zaN 0 zgz)) (fun _ _ _ _=>pif0) (fun _ _ _ _=>(fk G_filled hr (zae (fv 0) (zae (fv 1) fnil)))))) fnil)))))))) zaI
theorem zcs:zaE ["rules", "term", "place", "part", "found", "number", "left", "right", "filling"] ["rules", "term", "place", "part"] (zar (topS pwk 21)):=⟨rfl,rfl,rfl,by decide +kernel,rfl,by decide +kernel,by decide +kernel⟩
set_option maxHeartbeats 4000000 in
theorem zjS {zdb:List D→Option D}{zbB:List D→Option D} {zba:List D→Option D}{k:Nat} {f:Addr}{fd:FuncData} (B:Glb mg) (Fn:Fun K "steps_at" "steps_at" (topS pwk 21) f fd) (G_fits:Fk P w K mg base "fits" ["pattern", "term"] .fz k zdb) (G_put_at:Fk P w K mg base "put_at" ["term", "place", "new"] .fz k zbB) (G_filled:Fk P w K mg base "filled" ["term", "filling"] .fz k zba):FnOk P w K mg base CX0 (k + 1) f fd ["rules", "term", "place", "part"] (SpD K .ow (runF (zfb zdb zbB zba FUEL) 4 9)):=
 zbN Fn zcs (mb:=zfb zdb zbB zba) (fun n cdv A outer s H E hr=>(sseq (zdT 4 zcs.nd (flst fnil)) (sseq (sfor PassesOwn.never rfl (ienumL (fv 0) rfl B.enum) (gtup rfl (zcG (zaN 5 zcs.nd) (zcG (gtup rfl (zcG (zaN 6 zcs.nd) (zcG (zaN 7 zcs.nd) gnil)) (zaP (zaP zcD))) gnil)) (zaP (zaP zcD))) (sseq (sset 8 zcs.nd (fk G_fits hr (zae (fv 6) (zae (fv 3) fnil)))) (sone (sif (FTp.up (tcmp (p_isNot) (fb 8) (FP.br fnon) (zbb _))) (sone (zfn (zfx 4 (ftup (zae (fv 2) (zae (fv 5) (zae (fk G_put_at hr (zae (fv 1) (zae (fv 2) (zae (fk G_filled hr (zae (fv 7) (zae (fv 8) fnil))) fnil)))) fnil))))))) snil)))) (sone (sretO 4))))) zaI
theorem zge:zaE ["rules", "term", "found", "place", "part"] ["rules", "term"] (zar (topS pwk 22)):=⟨rfl,rfl,rfl,by decide +kernel,rfl,by decide +kernel,by decide +kernel⟩
set_option maxHeartbeats 4000000 in
theorem ok_steps {zaK:List D→Option D}{zag:List D→Option D} {zbg:List D→Option D}{k:Nat} {f:Addr}{fd:FuncData} (B:Glb mg) (Fn:Fun K "steps" "steps" (topS pwk 22) f fd) (G_must_rules:Fk P w K mg base "must_rules" ["rules", "terms"] .fz k zaK) (G_placed_parts:Fk P w K mg base "placed_parts" ["term"] .fz k zag) (G_steps_at:Fk P w K mg base "steps_at" ["rules", "term", "place", "part"] .ow k zbg):FnOk P w K mg base CX0 (k + 1) f fd ["rules", "term"] (SpD K .ow (runF (zim zaK zag zbg FUEL) 2 5)):=
 zbN Fn zge (mb:=zim zaK zag zbg) (fun n cdv A outer s H E hr=>(sseq (sexpr (fk G_must_rules hr (zae (fv 0) (zae (FP.fz (flst (zae (fv 1) fnil))) fnil)))) (sseq (zdT 2 zge.nd (flst fnil)) (sseq (sfor PassesOwn.never rfl (iseq (fk G_placed_parts hr (zae (fv 1) fnil))) (gtup rfl (zcG (zaN 3 zge.nd) (zcG (zaN 4 zge.nd) gnil)) (zaP (zaP zcD))) (sone (zfn (zlO 2 (FP.fz (fk G_steps_at hr (zae (fv 0) (zae (fv 1) (zae (fv 3) (zae (fv 4) fnil)))))))))) (sone (sretO 2)))))) zaI
theorem zdZ:zaE ["_law_rules", "_law_term_here", "_law_due", "_law_found"] ["_law_rules", "_law_term_here"] (zar (topS pwk 43)):=⟨rfl,rfl,rfl,by decide +kernel,rfl,by decide +kernel,by decide +kernel⟩
set_option maxHeartbeats 4000000 in
theorem zjg {zat:List D→Option D}{zcQ:List D→Option D} {k:Nat}{f:Addr} {fd:FuncData}(B:Glb mg) (Fn:Fun K "_law_good" "_law_good" (topS pwk 43) f fd) (G__law_steps:Fk P w K mg base "_law_steps" ["_law_rules", "_law_term_here"] .ow k zat) (G_steps:Fk P w K mg base "steps" ["rules", "term"] .ow k zcQ):FnOk P w K mg base CX0 (k + 1) f fd ["_law_rules", "_law_term_here"] (SpD K .fz (runF (zgE zat zcQ FUEL) 2 4)):=
 zbN Fn zdZ (mb:=zgE zat zcQ) (fun n cdv A outer s H E hr=>(sseq (sset 2 zdZ.nd (FP.fz (fk G__law_steps hr (zae (fv 0) (zae (fv 1) fnil))))) (sseq (zdT 3 zdZ.nd (fk G_steps hr (zae (fv 0) (zae (fv 1) fnil)))) (sseq (sif (FTp.up (FWp.pt (tor (tnot (tval (fisi (fb 3) rfl B.isi rfl B.list PyProof.Rows.boot_list))) (tor1 (tcmp (p_ne (u100 hr)) (fb 3) (fb 2) (zbb _)))))) (sone (sret fbl)) snil) (sseq (zfn (xclear 3)) (sone (sret (fcmp (p_eq (u100 hr)) (FP.ob (fk G_steps hr (zae (fv 0) (zae (fv 1) fnil)))) (fb 2) (zbb _))))))))) zaI
theorem zbc:(["_law_k", "_law_sorts_here", "_law_blanks_here", "_law_script"]:List Str).Nodup:=by decide +kernel
theorem zdW:zaE ["_law_script", "_law_sorts_here", "_law_blanks_here", "_law_many", "_law_rules", "_law_kept", "_law_cells", "_law_k", "_law_kind", "_law_term_here", "_law_row"] ["_law_script"] (zar (topS pwk 44)):=⟨rfl,rfl,rfl,by decide +kernel,rfl,by decide +kernel,by decide +kernel⟩
set_option maxHeartbeats 4000000 in
theorem ok_law {zaG:List D→Option D}{zaC:List D→Option D} {zaD:List D→Option D}{zay:List D→Option D} {zaA:List D→Option D}{zat:List D→Option D} {m__law_good:List D→Option D}{m__law_count:List D→Option D} {k:Nat}{f:Addr} {fd:FuncData}(B:Glb mg) (Fn:Fun K "law" "law" (topS pwk 44) f fd) (G__law_sorts:Fk P w K mg base "_law_sorts" ["_law_cell_here"] .ow k zaG) (G__law_blanks:Fk P w K mg base "_law_blanks" ["_law_cell_here"] .ow k zaC) (G__law_cell:Fk P w K mg base "_law_cell" ["_law_script", "_law_k"] .fz k zaD) (G__law_rule:Fk P w K mg base "_law_rule" ["_law_cell_here", "_law_sorts_here", "_law_blanks_here"] .fz k zay) (G__law_asked:Fk P w K mg base "_law_asked" ["_law_kind", "_law_cell_here", "_law_other", "_law_rules", "_law_sorts_here", "_law_blanks_here"] .fz k zaA) (G__law_steps:Fk P w K mg base "_law_steps" ["_law_rules", "_law_term_here"] .ow k zat) (G__law_good:Fk P w K mg base "_law_good" ["_law_rules", "_law_term_here"] .fz k m__law_good) (G__law_count:Fk P w K mg base "_law_count" ["_law_term_here"] .fz k m__law_count):FnOk P w K mg base CX0 (k + 1) f fd ["_law_script"] (SpD K .fz (runF (zin zaG zaC zaD zay zaA zat m__law_good m__law_count FUEL) 1 11)):=
 zbN Fn zdW (mb:=zin zaG zaC zaD zay zaA zat m__law_good m__law_count) (fun n cdv A outer s H E hr=>(sseq (sset 1 zdW.nd (FP.fz (fk G__law_sorts hr (zae (fk G__law_cell hr (zae (fv 0) (zae fint fnil))) fnil)))) (sseq (sset 2 zdW.nd (FP.fz (fk G__law_blanks hr (zae (fk G__law_cell hr (zae (fv 0) (zae fint fnil))) fnil)))) (sseq (sset 3 zdW.nd (fix p_ix (FP.ob (flst (zae fint (zae fint (zae fint (zae fint (zae fint (zae fint (zae fint (zae fint fnil)))))))))) (FP.br (fop zcB (FP.br (fk G__law_cell hr (zae (fv 0) (zae fint fnil)))) (FP.br fint))) (fun _ _=>rfl))) (sseq (ssetC 4 ["_law_k", "_law_sorts_here", "_law_blanks_here", "_law_script"] [none,some 1,some 2,some 0] (.own (.cap (.cap (.cap .nil)))) rfl zdW.nd (zbZ (fv 3) rfl B.range) (fun _ _ _ _=>(zaN 0 zbc)) (fun _ _ _ _=>pif0) (fun _ _ _ _=>(fk G__law_rule hr (zae (fk G__law_cell hr (zae (fv 3) (zae (fop zbp (FP.br fint) (fb 0)) fnil))) (zae (fv 1) (zae (fv 2) fnil)))))) (sseq (sset 5 zdW.nd (FP.fz (zjq c_list rfl B.list PyProof.Rows.boot_list (zcf (fb 4) fnil)))) (sseq (sset 6 zdW.nd (fop zbp (FP.br (fop zbp (FP.ob (flst (zae fint (zae fint (zae fint fnil))))) (FP.br (zbW zbo (fb 0) (zbO fint) (zbO fint))))) (FP.ob (flst (zae fint fnil))))) (sseq (sfor PassesOwn.never rfl (zbZ (fop p_sub (FP.br (zbz (zcW) rfl B.len PySem.boot_len (zcf (fb 6) fnil))) (FP.br fint)) rfl B.range) (zaN 7 zdW.nd) (sseq (sset 8 zdW.nd (fop zcB (FP.br (fop zbp (FP.br (fix p_ix (fb 6) (fb 7) (fun _ _=>rfl))) (FP.br (fix p_ix (fb 6) (FP.br (fop zbp (fb 7) (FP.br fint))) (fun _ _=>rfl))))) (FP.br fint))) (sseq (sset 9 zdW.nd (fk G__law_asked hr (zae (fv 8) (zae (fix p_ix (fb 6) (fb 7) (fun _ _=>rfl)) (zae (fix p_ix (fb 6) (FP.br (fop zbp (fb 7) (FP.br fint))) (fun _ _=>rfl)) (zae (fv 4) (zae (fv 1) (zae (fv 2) fnil)))))))) (sseq (sif (FTp.up (FWp.pt (tor (tnot (tval (fk G__law_good hr (zae (fv 4) (zae (fv 9) fnil))))) (tor1 (tcmp (p_ne (u100 hr)) (fb 4) (fb 5) (zbb _)))))) (sone (sret fbl)) snil) (sseq (sset 10 zdW.nd (FP.fz (fk G__law_steps hr (zae (fv 4) (zae (fv 9) fnil))))) (sone (sif (FTp.up (FWp.pt (tand (tcmp (p_eq (u100 hr)) (fb 8) (FP.br fint) (zbb _)) (tand (tcmp (p_ne (u100 hr)) (fb 10) (FP.ob (flst fnil)) (zbb _)) (tand1 (tcmp (p_lt) (FP.br (fk G__law_count hr (zae (fix p_ix (FP.br (fix p_ix (fb 10) (FP.br (fneg fint)) (fun _ _=>rfl))) (FP.br fint) (fun _ _=>rfl)) fnil))) (FP.br fint) (zbb _))))))) (sone (sif (FTp.up (tnot (tval (fk G__law_good hr (zae (fv 4) (zae (fix p_ix (FP.br (fix p_ix (fb 10) (FP.br (fneg fint)) (fun _ _=>rfl))) (FP.br fint) (fun _ _=>rfl)) fnil)))))) (sone (sret fbl)) snil)) snil))))))) (sone (sret fbl)))))))))) zaI
end
theorem us1 {us:List Value}(h:us.length=1):∃ a,us=[a]:=List.length_eq_one_iff.mp h
theorem us2 {us:List Value}(h:us.length=2):∃ a0 a1,us=[a0,a1]:=by
 cases us with
 | nil=>cases h
 | cons a0 l=>obtain ⟨a1,rfl⟩:=us1 (Nat.succ.inj h);exact ⟨a0,a1,rfl⟩
theorem us3 {us:List Value}(h:us.length=3):∃ a0 a1 a2,us=[a0,a1,a2]:=by
 cases us with
 | nil=>cases h
 | cons a0 l=>obtain ⟨a1,a2,rfl⟩:=us2 (Nat.succ.inj h);exact ⟨a0,a1,a2,rfl⟩
theorem us4 {us:List Value}(h:us.length=4):∃ a0 a1 a2 a3,us=[a0,a1,a2,a3]:=by
 cases us with
 | nil=>cases h
 | cons a0 l=>obtain ⟨a1,a2,a3,rfl⟩:=us3 (Nat.succ.inj h);exact ⟨a0,a1,a2,a3,rfl⟩
theorem us5 {us:List Value}(h:us.length=5):∃ a0 a1 a2 a3 a4,us=[a0,a1,a2,a3,a4]:=by
 cases us with
 | nil=>cases h
 | cons a0 l=>obtain ⟨a1,a2,a3,a4,rfl⟩:=us4 (Nat.succ.inj h);exact ⟨a0,a1,a2,a3,a4,rfl⟩
theorem us6 {us:List Value}(h:us.length=6):∃ a0 a1 a2 a3 a4 a5,us=[a0,a1,a2,a3,a4,a5]:=by
 cases us with
 | nil=>cases h
 | cons a0 l=>obtain ⟨a1,a2,a3,a4,a5,rfl⟩:=us5 (Nat.succ.inj h);exact ⟨a0,a1,a2,a3,a4,a5,rfl⟩
set_option maxHeartbeats 0 in
theorem all_mk {l:PySem.W.OpenLaw}{w:World} {K:PySem.W.Frag}{h:Heap} {mg:Str→Option Value}{fa:Addr} (X:K.In h) (G:h.Ns mainGlobals mg) (hfa:mg "law" = some (.ref fa)) (A:faV pwk fnI K=faX pwk fnI)
  : ∃ fd:FuncData,(∀ (s:Shared) (v:Value),BindsTo s fd ⟨[v],[]⟩ [("_law_script",v)])∧∀ base:Heap,K.In base→base.Ns mainGlobals mg→FnOk l.prog w K mg base CX0 105 fa fd ["_law_script"] (SpD K .fz m_law21):=by
 have B:Glb mg:=fa_glb A X G
 obtain ⟨f36,fd36,a36,F36⟩:=zbC A 44 (by decide) (n := "law") rfl
 have e:=hfa.symm.trans (PySem.W.mg_of X G a36)
 cases e
 refine ⟨fd36,?_,fun base _ _=>?_⟩
 ·obtain ⟨oc,od,kV,doc,pm,an,cdv,ct,osl,rfl,lk,cd⟩:=F36.ex;exact fun s v=>.of_eq rfl
 obtain ⟨f1,fd1,a1,F1⟩:=zbC A 25 (by decide) (n := "_law_words") rfl
 have k1:=F1.kp
 have b1:=F1.binds (ps:=["_law_cell_here"]) fun _ _ _ _ _ _ us hl=>by obtain ⟨_,rfl⟩:=us1 hl;rfl
 have G__law_words:Fk l.prog w K mg base "_law_words" ["_law_cell_here"] .ow 1 zaL:=⟨_,_,zid (k:=0) B F1,b1,k1,PySem.W.mg_of X G a1⟩
 obtain ⟨f2,fd2,a2,F2⟩:=zbC A 26 (by decide) (n := "_law_sorts") rfl
 have k2:=F2.kp
 have b2:=F2.binds (ps:=["_law_cell_here"]) fun _ _ _ _ _ _ us hl=>by obtain ⟨_,rfl⟩:=us1 hl;rfl
 have G__law_sorts:Fk l.prog w K mg base "_law_sorts" ["_law_cell_here"] .ow 2 zaG:=⟨_,_,zif (k:=1) B F2 (G__law_words.mono (j:=1) (by first | decide | omega)),b2,k2,PySem.W.mg_of X G a2⟩
 obtain ⟨f3,fd3,a3,F3⟩:=zbC A 27 (by decide) (n := "_law_blanks") rfl
 have k3:=F3.kp
 have b3:=F3.binds (ps:=["_law_cell_here"]) fun _ _ _ _ _ _ us hl=>by obtain ⟨_,rfl⟩:=us1 hl;rfl
 have G__law_blanks:Fk l.prog w K mg base "_law_blanks" ["_law_cell_here"] .ow 1 zaC:=⟨_,_,zhq (k:=0) B F3,b3,k3,PySem.W.mg_of X G a3⟩
 obtain ⟨f4,fd4,a4,F4⟩:=zbC A 24 (by decide) (n := "_law_cell") rfl
 have k4:=F4.kp
 have b4:=F4.binds (ps:=["_law_script", "_law_k"]) fun _ _ _ _ _ _ us hl=>by obtain ⟨_,_,rfl⟩:=us2 hl;rfl
 have G__law_cell:Fk l.prog w K mg base "_law_cell" ["_law_script", "_law_k"] .fz 1 zaD:=⟨_,_,zji (k:=0) B F4,b4,k4,PySem.W.mg_of X G a4⟩
 obtain ⟨f5,fd5,a5,F5⟩:=zbC A 29 (by decide) (n := "_law_purse") rfl
 have k5:=F5.kp
 have b5:=F5.binds (ps:=["_law_cell_here"]) fun _ _ _ _ _ _ us hl=>by obtain ⟨_,rfl⟩:=us1 hl;rfl
 have G__law_purse:Fk l.prog w K mg base "_law_purse" ["_law_cell_here"] .ow 1 zak:=⟨_,_,zig (k:=0) B F5,b5,k5,PySem.W.mg_of X G a5⟩
 obtain ⟨f6,fd6,a6,F6⟩:=zbC A 30 (by decide) (n := "_law_take") rfl
 have k6:=F6.kp
 have b6:=F6.binds (ps:=["_law_purse_here", "_law_many"]) fun _ _ _ _ _ _ us hl=>by obtain ⟨_,_,rfl⟩:=us2 hl;rfl
 have G__law_take:FkX l.prog w K mg base "_law_take" ["_law_purse_here", "_law_many"] 0 1 zaf:=⟨_,_,zjd (k:=0) B F6,b6,k6,PySem.W.mg_of X G a6⟩
 obtain ⟨f7,fd7,a7,F7⟩:=zbC A 28 (by decide) (n := "_law_grown") rfl
 have k7:=F7.kp
 have b7:=F7.binds (ps:=["_law_row", "_law_number", "_law_sorts_here", "_law_blanks_here", "_law_most"]) fun _ _ _ _ _ _ us hl=>by obtain ⟨_,_,_,_,_,rfl⟩:=us5 hl;rfl
 have G__law_grown:Fk l.prog w K mg base "_law_grown" ["_law_row", "_law_number", "_law_sorts_here", "_law_blanks_here", "_law_most"] .ow 1 zan:=⟨_,_,zih (k:=0) B F7,b7,k7,PySem.W.mg_of X G a7⟩
 obtain ⟨f8,fd8,a8,F8⟩:=zbC A 32 (by decide) (n := "_law_count") rfl
 have k8:=F8.kp
 have b8:=F8.binds (ps:=["_law_term_here"]) fun _ _ _ _ _ _ us hl=>by obtain ⟨_,rfl⟩:=us1 hl;rfl
 have H__law_count:∀ n:Nat,Fk l.prog w K mg base "_law_count" ["_law_term_here"] .fz (0 + n) (zbY n):=by
  intro n
  induction n with
  | zero=>exact (Fk.never ⟨b8,k8,PySem.W.mg_of X G a8⟩ fun _=>rfl).mono (by omega)
  | succ n ih=>exact ⟨_,_,zii (k:=0 + n) B F8 (ih.mono (j:=0 + n) (by omega)),b8,k8,PySem.W.mg_of X G a8⟩
 have G__law_count:Fk l.prog w K mg base "_law_count" ["_law_term_here"] .fz 100 zcm:=H__law_count 100
 obtain ⟨f9,fd9,a9,F9⟩:=zbC A 33 (by decide) (n := "_law_term") rfl
 have k9:=F9.kp
 have b9:=F9.binds (ps:=["_law_numbers", "_law_sorts_here", "_law_blanks_here", "_law_most"]) fun _ _ _ _ _ _ us hl=>by obtain ⟨_,_,_,_,rfl⟩:=us4 hl;rfl
 have G__law_term:Fk l.prog w K mg base "_law_term" ["_law_numbers", "_law_sorts_here", "_law_blanks_here", "_law_most"] .fz 101 zao:=⟨_,_,zjc (k:=100) B F9 (G__law_grown.mono (j:=100) (by first | decide | omega)) (G__law_count.mono (j:=100) (by first | decide | omega)),b9,k9,PySem.W.mg_of X G a9⟩
 obtain ⟨f10,fd10,a10,F10⟩:=zbC A 34 (by decide) (n := "_law_blanks_of") rfl
 have k10:=F10.kp
 have b10:=F10.binds (ps:=["_law_term_here"]) fun _ _ _ _ _ _ us hl=>by obtain ⟨_,rfl⟩:=us1 hl;rfl
 have H__law_blanks_of:∀ n:Nat,Fk l.prog w K mg base "_law_blanks_of" ["_law_term_here"] .fz (0 + n) (zaM n):=by
  intro n
  induction n with
  | zero=>exact (Fk.never ⟨b10,k10,PySem.W.mg_of X G a10⟩ fun _=>rfl).mono (by omega)
  | succ n ih=>exact ⟨_,_,zfC (k:=0 + n) B F10 (ih.mono (j:=0 + n) (by omega)),b10,k10,PySem.W.mg_of X G a10⟩
 have G__law_blanks_of:Fk l.prog w K mg base "_law_blanks_of" ["_law_term_here"] .fz 100 zac:=H__law_blanks_of 100
 obtain ⟨f11,fd11,a11,F11⟩:=zbC A 36 (by decide) (n := "_law_places") rfl
 have k11:=F11.kp
 have b11:=F11.binds (ps:=["_law_term_here"]) fun _ _ _ _ _ _ us hl=>by obtain ⟨_,rfl⟩:=us1 hl;rfl
 have H__law_places:∀ n:Nat,Fk l.prog w K mg base "_law_places" ["_law_term_here"] .fz (0 + n) (zaX n):=by
  intro n
  induction n with
  | zero=>exact (Fk.never ⟨b11,k11,PySem.W.mg_of X G a11⟩ fun _=>rfl).mono (by omega)
  | succ n ih=>exact ⟨_,_,zho (k:=0 + n) B F11 (ih.mono (j:=0 + n) (by omega)),b11,k11,PySem.W.mg_of X G a11⟩
 have G__law_places:Fk l.prog w K mg base "_law_places" ["_law_term_here"] .fz 100 zab:=H__law_places 100
 obtain ⟨f12,fd12,a12,F12⟩:=zbC A 37 (by decide) (n := "_law_put") rfl
 have k12:=F12.kp
 have b12:=F12.binds (ps:=["_law_term_here", "_law_place", "_law_new"]) fun _ _ _ _ _ _ us hl=>by obtain ⟨_,_,_,rfl⟩:=us3 hl;rfl
 have H__law_put:∀ n:Nat,Fk l.prog w K mg base "_law_put" ["_law_term_here", "_law_place", "_law_new"] .fz (0 + n) (zcd n):=by
  intro n
  induction n with
  | zero=>exact (Fk.never ⟨b12,k12,PySem.W.mg_of X G a12⟩ fun _=>rfl).mono (by omega)
  | succ n ih=>exact ⟨_,_,zjV (k:=0 + n) B F12 (ih.mono (j:=0 + n) (by omega)),b12,k12,PySem.W.mg_of X G a12⟩
 have G__law_put:Fk l.prog w K mg base "_law_put" ["_law_term_here", "_law_place", "_law_new"] .fz 100 zaj:=H__law_put 100
 obtain ⟨f13,fd13,a13,F13⟩:=zbC A 35 (by decide) (n := "_law_part") rfl
 have k13:=F13.kp
 have b13:=F13.binds (ps:=["_law_term_here", "_law_place"]) fun _ _ _ _ _ _ us hl=>by obtain ⟨_,_,rfl⟩:=us2 hl;rfl
 have G__law_part:Fk l.prog w K mg base "_law_part" ["_law_term_here", "_law_place"] .fz 1 zap:=⟨_,_,zjf (k:=0) B F13,b13,k13,PySem.W.mg_of X G a13⟩
 obtain ⟨f14,fd14,a14,F14⟩:=zbC A 38 (by decide) (n := "_law_rule") rfl
 have k14:=F14.kp
 have b14:=F14.binds (ps:=["_law_cell_here", "_law_sorts_here", "_law_blanks_here"]) fun _ _ _ _ _ _ us hl=>by obtain ⟨_,_,_,rfl⟩:=us3 hl;rfl
 have G__law_rule:Fk l.prog w K mg base "_law_rule" ["_law_cell_here", "_law_sorts_here", "_law_blanks_here"] .fz 102 zay:=⟨_,_,zje (k:=101) B F14 (G__law_purse.mono (j:=101) (by first | decide | omega)) (G__law_take.mono (j':=101) (by first | decide | omega)) (G__law_term.mono (j:=101) (by first | decide | omega)) (G__law_blanks_of.mono (j:=101) (by first | decide | omega)) (G__law_places.mono (j:=101) (by first | decide | omega)) (G__law_put.mono (j:=101) (by first | decide | omega)) (G__law_part.mono (j:=101) (by first | decide | omega)),b14,k14,PySem.W.mg_of X G a14⟩
 obtain ⟨f15,fd15,a15,F15⟩:=zbC A 39 (by decide) (n := "_law_filled") rfl
 have k15:=F15.kp
 have b15:=F15.binds (ps:=["_law_term_here", "_law_filling"]) fun _ _ _ _ _ _ us hl=>by obtain ⟨_,_,rfl⟩:=us2 hl;rfl
 have H__law_filled:∀ n:Nat,Fk l.prog w K mg base "_law_filled" ["_law_term_here", "_law_filling"] .fz (0 + n) (zbl n):=by
  intro n
  induction n with
  | zero=>exact (Fk.never ⟨b15,k15,PySem.W.mg_of X G a15⟩ fun _=>rfl).mono (by omega)
  | succ n ih=>exact ⟨_,_,zhp (k:=0 + n) B F15 (ih.mono (j:=0 + n) (by omega)),b15,k15,PySem.W.mg_of X G a15⟩
 have G__law_filled:Fk l.prog w K mg base "_law_filled" ["_law_term_here", "_law_filling"] .fz 100 zah:=H__law_filled 100
 obtain ⟨f16,fd16,a16,F16⟩:=zbC A 31 (by decide) (n := "_law_stream") rfl
 have k16:=F16.kp
 have b16:=F16.binds (ps:=["_law_cell_here", "_law_many"]) fun _ _ _ _ _ _ us hl=>by obtain ⟨_,_,rfl⟩:=us2 hl;rfl
 have G__law_stream:Fk l.prog w K mg base "_law_stream" ["_law_cell_here", "_law_many"] .fz 2 zaB:=⟨_,_,zhn (k:=1) B F16 (G__law_purse.mono (j:=1) (by first | decide | omega)) (G__law_take.mono (j':=1) (by first | decide | omega)),b16,k16,PySem.W.mg_of X G a16⟩
 obtain ⟨f17,fd17,a17,F17⟩:=zbC A 42 (by decide) (n := "_law_asked") rfl
 have k17:=F17.kp
 have b17:=F17.binds (ps:=["_law_kind", "_law_cell_here", "_law_other", "_law_rules", "_law_sorts_here", "_law_blanks_here"]) fun _ _ _ _ _ _ us hl=>by obtain ⟨_,_,_,_,_,_,rfl⟩:=us6 hl;rfl
 have G__law_asked:Fk l.prog w K mg base "_law_asked" ["_law_kind", "_law_cell_here", "_law_other", "_law_rules", "_law_sorts_here", "_law_blanks_here"] .fz 102 zaA:=⟨_,_,zij (k:=101) B F17 (G__law_term.mono (j:=101) (by first | decide | omega)) (G__law_purse.mono (j:=101) (by first | decide | omega)) (G__law_places.mono (j:=101) (by first | decide | omega)) (G__law_blanks_of.mono (j:=101) (by first | decide | omega)) (G__law_filled.mono (j:=101) (by first | decide | omega)) (G__law_put.mono (j:=101) (by first | decide | omega)) (G__law_stream.mono (j:=101) (by first | decide | omega)) (G__law_take.mono (j':=101) (by first | decide | omega)),b17,k17,PySem.W.mg_of X G a17⟩
 obtain ⟨f18,fd18,a18,F18⟩:=zbC A 40 (by decide) (n := "_law_fits") rfl
 have k18:=F18.kp
 have b18:=F18.binds (ps:=["_law_pattern", "_law_term_here", "_law_filling"]) fun _ _ _ _ _ _ us hl=>by obtain ⟨_,_,_,rfl⟩:=us3 hl;rfl
 have H__law_fits:∀ n:Nat,FkX l.prog w K mg base "_law_fits" ["_law_pattern", "_law_term_here", "_law_filling"] 2 (0 + n) (zaH n):=by
  intro n
  induction n with
  | zero=>exact (FkX.never ⟨b18,k18,PySem.W.mg_of X G a18⟩ fun _ _=>rfl).mono (by omega)
  | succ n ih=>exact ⟨_,_,zjh (k:=0 + n) B F18 (ih.mono (j':=0 + n) (by omega)),b18,k18,PySem.W.mg_of X G a18⟩
 have G__law_fits:FkX l.prog w K mg base "_law_fits" ["_law_pattern", "_law_term_here", "_law_filling"] 2 100 zav:=H__law_fits 100
 obtain ⟨f19,fd19,a19,F19⟩:=zbC A 41 (by decide) (n := "_law_steps") rfl
 have k19:=F19.kp
 have b19:=F19.binds (ps:=["_law_rules", "_law_term_here"]) fun _ _ _ _ _ _ us hl=>by obtain ⟨_,_,rfl⟩:=us2 hl;rfl
 have G__law_steps:Fk l.prog w K mg base "_law_steps" ["_law_rules", "_law_term_here"] .ow 101 zat:=⟨_,_,zie (k:=100) B F19 (G__law_places.mono (j:=100) (by first | decide | omega)) (G__law_part.mono (j:=100) (by first | decide | omega)) (G__law_fits.mono (j':=100) (by first | decide | omega)) (G__law_put.mono (j:=100) (by first | decide | omega)) (G__law_filled.mono (j:=100) (by first | decide | omega)),b19,k19,PySem.W.mg_of X G a19⟩
 obtain ⟨f20,fd20,a20,F20⟩:=zbC A 6 (by decide) (n := "is_blank") rfl
 have k20:=F20.kp
 have b20:=F20.binds (ps:=["term"]) fun _ _ _ _ _ _ us hl=>by obtain ⟨_,rfl⟩:=us1 hl;rfl
 have G_is_blank:Fk l.prog w K mg base "is_blank" ["term"] .fz 1 zad:=⟨_,_,zjU (k:=0) B F20,b20,k20,PySem.W.mg_of X G a20⟩
 obtain ⟨f21,fd21,a21,F21⟩:=zbC A 7 (by decide) (n := "inner_parts") rfl
 have k21:=F21.kp
 have b21:=F21.binds (ps:=["term"]) fun _ _ _ _ _ _ us hl=>by obtain ⟨_,rfl⟩:=us1 hl;rfl
 have G_inner_parts:Fk l.prog w K mg base "inner_parts" ["term"] .fz 2 zam:=⟨_,_,zhm (k:=1) B F21 (G_is_blank.mono (j:=1) (by first | decide | omega)),b21,k21,PySem.W.mg_of X G a21⟩
 obtain ⟨f22,fd22,a22,F22⟩:=zbC A 8 (by decide) (n := "placed_parts") rfl
 have k22:=F22.kp
 have b22:=F22.binds (ps:=["term"]) fun _ _ _ _ _ _ us hl=>by obtain ⟨_,rfl⟩:=us1 hl;rfl
 have G_placed_parts:Fk l.prog w K mg base "placed_parts" ["term"] .fz 3 zag:=⟨_,_,zgw (k:=2) B F22 (G_inner_parts.mono (j:=2) (by first | decide | omega)),b22,k22,PySem.W.mg_of X G a22⟩
 obtain ⟨f23,fd23,a23,F23⟩:=zbC A 19 (by decide) (n := "twofold_signs") rfl
 have k23:=F23.kp
 have b23:=F23.binds (ps:=["terms"]) fun _ _ _ _ _ _ us hl=>by obtain ⟨_,rfl⟩:=us1 hl;rfl
 have G_twofold_signs:Fk l.prog w K mg base "twofold_signs" ["terms"] .ow 4 zaz:=⟨_,_,zfW (k:=3) B F23 (G_placed_parts.mono (j:=3) (by first | decide | omega)) (G_is_blank.mono (j:=3) (by first | decide | omega)),b23,k23,PySem.W.mg_of X G a23⟩
 obtain ⟨f24,fd24,a24,F24⟩:=zbC A 9 (by decide) (n := "blanks_of") rfl
 have k24:=F24.kp
 have b24:=F24.binds (ps:=["term"]) fun _ _ _ _ _ _ us hl=>by obtain ⟨_,rfl⟩:=us1 hl;rfl
 have G_blanks_of:Fk l.prog w K mg base "blanks_of" ["term"] .fz 4 zaQ:=⟨_,_,zjb (k:=3) B F24 (G_placed_parts.mono (j:=3) (by first | decide | omega)) (G_is_blank.mono (j:=3) (by first | decide | omega)),b24,k24,PySem.W.mg_of X G a24⟩
 obtain ⟨f25,fd25,a25,F25⟩:=zbC A 17 (by decide) (n := "is_rule") rfl
 have k25:=F25.kp
 have b25:=F25.binds (ps:=["left", "right"]) fun _ _ _ _ _ _ us hl=>by obtain ⟨_,_,rfl⟩:=us2 hl;rfl
 have G_is_rule:Fk l.prog w K mg base "is_rule" ["left", "right"] .fz 5 zbt:=⟨_,_,zln (k:=4) B F25 (G_is_blank.mono (j:=4) (by first | decide | omega)) (G_blanks_of.mono (j:=4) (by first | decide | omega)),b25,k25,PySem.W.mg_of X G a25⟩
 obtain ⟨f26,fd26,a26,F26⟩:=zbC A 18 (by decide) (n := "sides_of") rfl
 have k26:=F26.kp
 have b26:=F26.binds (ps:=["rules"]) fun _ _ _ _ _ _ us hl=>by obtain ⟨_,rfl⟩:=us1 hl;rfl
 have G_sides_of:Fk l.prog w K mg base "sides_of" ["rules"] .ow 1 zbh:=⟨_,_,zjT (k:=0) B F26,b26,k26,PySem.W.mg_of X G a26⟩
 obtain ⟨f27,fd27,a27,F27⟩:=zbC A 20 (by decide) (n := "must_rules") rfl
 have k27:=F27.kp
 have b27:=F27.binds (ps:=["rules", "terms"]) fun _ _ _ _ _ _ us hl=>by obtain ⟨_,_,rfl⟩:=us2 hl;rfl
 have G_must_rules:Fk l.prog w K mg base "must_rules" ["rules", "terms"] .fz 6 zaK:=⟨_,_,zic (k:=5) B F27 (G_twofold_signs.mono (j:=5) (by first | decide | omega)) (G_is_rule.mono (j:=5) (by first | decide | omega)) (G_sides_of.mono (j:=5) (by first | decide | omega)),b27,k27,PySem.W.mg_of X G a27⟩
 obtain ⟨f28,fd28,a28,F28⟩:=zbC A 14 (by decide) (n := "paired_parts") rfl
 have k28:=F28.kp
 have b28:=F28.binds (ps:=["one", "other"]) fun _ _ _ _ _ _ us hl=>by obtain ⟨_,_,rfl⟩:=us2 hl;rfl
 have G_paired_parts:Fk l.prog w K mg base "paired_parts" ["one", "other"] .fz 2 zax:=⟨_,_,zgx (k:=1) B F28 (G_is_blank.mono (j:=1) (by first | decide | omega)),b28,k28,PySem.W.mg_of X G a28⟩
 obtain ⟨f29,fd29,a29,F29⟩:=zbC A 15 (by decide) (n := "fits") rfl
 have k29:=F29.kp
 have b29:=F29.binds (ps:=["pattern", "term"]) fun _ _ _ _ _ _ us hl=>by obtain ⟨_,_,rfl⟩:=us2 hl;rfl
 have G_fits:Fk l.prog w K mg base "fits" ["pattern", "term"] .fz 3 zdb:=⟨_,_,ok_fits (k:=2) B F29 (G_is_blank.mono (j:=2) (by first | decide | omega)) (G_paired_parts.mono (j:=2) (by first | decide | omega)),b29,k29,PySem.W.mg_of X G a29⟩
 obtain ⟨f30,fd30,a30,F30⟩:=zbC A 10 (by decide) (n := "way_to") rfl
 have k30:=F30.kp
 have b30:=F30.binds (ps:=["term", "place"]) fun _ _ _ _ _ _ us hl=>by obtain ⟨_,_,rfl⟩:=us2 hl;rfl
 have G_way_to:Fk l.prog w K mg base "way_to" ["term", "place"] .fz 3 zbM:=⟨_,_,zmC (k:=2) B F30 (G_inner_parts.mono (j:=2) (by first | decide | omega)),b30,k30,PySem.W.mg_of X G a30⟩
 obtain ⟨f31,fd31,a31,F31⟩:=zbC A 11 (by decide) (n := "put_at") rfl
 have k31:=F31.kp
 have b31:=F31.binds (ps:=["term", "place", "new"]) fun _ _ _ _ _ _ us hl=>by obtain ⟨_,_,_,rfl⟩:=us3 hl;rfl
 have G_put_at:Fk l.prog w K mg base "put_at" ["term", "place", "new"] .fz 4 zbB:=⟨_,_,zmD (k:=3) B F31 (G_way_to.mono (j:=3) (by first | decide | omega)),b31,k31,PySem.W.mg_of X G a31⟩
 obtain ⟨f32,fd32,a32,F32⟩:=zbC A 13 (by decide) (n := "filled") rfl
 have k32:=F32.kp
 have b32:=F32.binds (ps:=["term", "filling"]) fun _ _ _ _ _ _ us hl=>by obtain ⟨_,_,rfl⟩:=us2 hl;rfl
 have H_filled:∀ n:Nat,Fk l.prog w K mg base "filled" ["term", "filling"] .fz (1 + n) (zcu n):=by
  intro n
  induction n with
  | zero=>exact (Fk.never ⟨b32,k32,PySem.W.mg_of X G a32⟩ fun _=>rfl).mono (by omega)
  | succ n ih=>exact ⟨_,_,zmE (k:=1 + n) B F32 (G_is_blank.mono (j:=1 + n) (by first | decide | omega)) (ih.mono (j:=1 + n) (by omega)),b32,k32,PySem.W.mg_of X G a32⟩
 have G_filled:Fk l.prog w K mg base "filled" ["term", "filling"] .fz 101 zba:=H_filled 100
 obtain ⟨f33,fd33,a33,F33⟩:=zbC A 21 (by decide) (n := "steps_at") rfl
 have k33:=F33.kp
 have b33:=F33.binds (ps:=["rules", "term", "place", "part"]) fun _ _ _ _ _ _ us hl=>by obtain ⟨_,_,_,_,rfl⟩:=us4 hl;rfl
 have G_steps_at:Fk l.prog w K mg base "steps_at" ["rules", "term", "place", "part"] .ow 102 zbg:=⟨_,_,zjS (k:=101) B F33 (G_fits.mono (j:=101) (by first | decide | omega)) (G_put_at.mono (j:=101) (by first | decide | omega)) (G_filled.mono (j:=101) (by first | decide | omega)),b33,k33,PySem.W.mg_of X G a33⟩
 obtain ⟨f34,fd34,a34,F34⟩:=zbC A 22 (by decide) (n := "steps") rfl
 have k34:=F34.kp
 have b34:=F34.binds (ps:=["rules", "term"]) fun _ _ _ _ _ _ us hl=>by obtain ⟨_,_,rfl⟩:=us2 hl;rfl
 have G_steps:Fk l.prog w K mg base "steps" ["rules", "term"] .ow 103 zcQ:=⟨_,_,ok_steps (k:=102) B F34 (G_must_rules.mono (j:=102) (by first | decide | omega)) (G_placed_parts.mono (j:=102) (by first | decide | omega)) (G_steps_at.mono (j:=102) (by first | decide | omega)),b34,k34,PySem.W.mg_of X G a34⟩
 obtain ⟨f35,fd35,a35,F35⟩:=zbC A 43 (by decide) (n := "_law_good") rfl
 have k35:=F35.kp
 have b35:=F35.binds (ps:=["_law_rules", "_law_term_here"]) fun _ _ _ _ _ _ us hl=>by obtain ⟨_,_,rfl⟩:=us2 hl;rfl
 have G__law_good:Fk l.prog w K mg base "_law_good" ["_law_rules", "_law_term_here"] .fz 104 zeI:=⟨_,_,zjg (k:=103) B F35 (G__law_steps.mono (j:=103) (by first | decide | omega)) (G_steps.mono (j:=103) (by first | decide | omega)),b35,k35,PySem.W.mg_of X G a35⟩
 exact ok_law (k:=104) B F36 (G__law_sorts.mono (j:=104) (by first | decide | omega)) (G__law_blanks.mono (j:=104) (by first | decide | omega)) (G__law_cell.mono (j:=104) (by first | decide | omega)) (G__law_rule.mono (j:=104) (by first | decide | omega)) (G__law_asked.mono (j:=104) (by first | decide | omega)) (G__law_steps.mono (j:=104) (by first | decide | omega)) (G__law_good.mono (j:=104) (by first | decide | omega)) (G__law_count.mono (j:=104) (by first | decide | omega))
open PySem.W
theorem bigk:∀ w:World,(fun os:OsState=>(HD.bal (Fast.tw10156331382660048174 (Fast.tw11892475500146522536 Fast.tw14364793385576792824) pwk w) (Fast.tw6613529449190102663 11 (some (.ref 6))) 12 (HD.bootS w os) (topStub pwk)).map (HD.looks pwk qwk lzk (fun s=>recOk rwk.row.toRowW.records s) (fun s=>faV pwk fnI (allIn s.heap)) Fast.tw4187177175401517315 Fast.tw5923862056798008813 w))=fun _=>some (true,true,openGood qwk lzk,faX pwk fnI):=by
 intro w
 kernel_rfl
theorem saidk:rwk.wellSaid=true:=by kernel_rfl
theorem leftk:LeftO pwk qwk lzk (fun s=>recOk rwk.row.toRowW.records s) (fun s=>faV pwk fnI (allIn s.heap)) (fun _=>faX pwk fnI) 4796:=by
 refine HD.left_of (d:=12) (by kernel_rfl) (by decide) (by decide) (fun s=>by kernel_rfl) ?_
 rw [Fast.te10156331382660048174,Fast.te11892475500146522536,Fast.te14364793385576792824,Fast.te6613529449190102663,Fast.te4187177175401517315,Fast.te5923862056798008813]
 exact bigk
end FL
end
open PySem PySem.W PyProof.Rows
set_option maxRecDepth 100000 in
set_option maxHeartbeats 0 in
theorem PySem.Challenge.cw_endmeet_k21_steps_holds : PySem.Challenge.rw_endmeet_k21_steps.Holds := by
  refine holds_law FL.saidk fun said => ?_
  refine holds_open (q := FL.qwk) (loose := FL.lzk) (XP := fun _ _ => True) (YP := FL.YP FL.pwk FL.fnI) FL.leftk (fun w s e => ⟨_, FL.allIn_in s.heap, e⟩) FL.YP.keeps (fun _ _ => trivial) (fun _ _ _ _ _ => trivial) (by rfl) (by rfl) (by rfl) (fun s e => recFacts_of e) (by rfl) said (by decide +kernel) ⟨rfl, rfl, rfl, rfl, rfl, by decide +kernel⟩ ?hw ?hc
  case hw => w_witness2
  case hc =>
    refine FL.walkE (l := PySem.Challenge.rw_endmeet_k21_steps) (k := 105) (x := "_law_script") (m := FL.m_law21) rfl rfl ⟨rfl, by decide, by decide⟩ ?F FL.FACT21
    intro K w mg fa h A KX G hmg
    exact FL.all_mk KX G hmg A
