import PyProof.Rows.All
import Wide.All
import OpenK.AllK
import Wide.FinOn
import PyProof.Rows.SortStr
import Lean
import PyProof.EqAt
import PyProof.EqKinds
import PyProof.TupleCall
import PyProof.NeKinds
import PyProof.ZipIter
import PyProof.Draws
import KE.KRevIter
import PyProof.ListNew
import KE.KEqDict
import PyProof.EnumMake
import PyProof.StrWalks
import KE.KDictLaws
import PyProof.DictItemsLoops
import PyProof.DictWalks
import PyProof.DictCompW
import PyProof.ListMulAny
import PyProof.FactsAll.tuple_2
import PyProof.ConsumeWalk
import PyProof.ReprRoads
import PyProof.ExcInit
import PyProof.ExcBaseAll.ValueError
import PyProof.InstStoreFacts
import PyProof.RulesAs
import PyProof.NsDelKeeps
import PyProof.ExcAttrAll.ValueError
import PyProof.StrLawsIn
import PySem.Challenge.RW_endmeet_k04_no_place
section
local macro_rules | `(tactic| omega) => `(tactic| lia)
set_option Elab.async false
set_option linter.all false
set_option maxRecDepth 100000
namespace TS
open PySem PySem.Spec PyProof.Rows
noncomputable def El (w:World) (l:List (Int×Value)):Prop:=∀ e∈l,∃ k t,e=(hashStr w k,Value.str k t)
noncomputable def txt (l:List (Int×Value)):List Str:=l.map fun e=>strOf e.2
noncomputable def St (w:World) (h:Heap) (a:Addr) (L:List Str):Prop:=
 ∃ o es ep t,h.get? a=some o∧o.ExactSet∧o.data=.set es ep t∧El w es.toList∧(txt es.toList).Perm L∧L.Nodup∧es.size < scanBound∧t.fits es.size=true∧
  (L≠[]→t.plain=false)∧(w.params.followText "set-order" = false→t.led=true)
section
variable {w:World}{t:SetTable} {es:Array (Int×Value)}{h:Int} {x:Value}
end
section
variable {P:Program}{w:World} {A:Around}{E:Value→Shared→Prop} {s:Shared}{a:Addr}
end
end TS
set_option Elab.async false
set_option linter.all false
set_option maxRecDepth 100000
namespace L2
open PySem PySem.Spec PyProof.Rows
noncomputable abbrev Key:=Sum Int Str
noncomputable def zmW:Key→Value→Bool
 | .inl k,v=>Value.isInt k v
 | .inr x,v=>Value.isStrOf x v
noncomputable def keyH (w:World):Key→Int
 | .inl k=>hashInt k
 | .inr x=>hashStr w x
theorem zaG:∀ {k:Key}{v:Value},zmW k v=true→(∃ i t,k=Sum.inl i∧v=Value.int i t)∨(∃ x t,k=Sum.inr x∧v=Value.str x t)
 | .inl i,v,h=>by
  obtain ⟨t,e⟩:=Value.isInt_shape (k:=i) (v:=v) h
  exact .inl ⟨i,t,rfl,e⟩
 | .inr x,v,h=>by
  obtain ⟨t,e⟩:=Value.isStrOf_shape (x:=x) (v:=v) h
  exact .inr ⟨x,t,rfl,e⟩
theorem zmV (a b:Int):decide ((Sum.inl a:Key)=Sum.inl b)=(a == b):=by
 by_cases e:a=b
 ·subst e;simp
 ·have h:¬ (Sum.inl a:Key)=Sum.inl b:=fun q=>e (Sum.inl.inj q)
  rw [decide_eq_false h]
  exact (beq_eq_false_iff_ne.mpr e).symm
theorem zmS (a b:Str):decide ((Sum.inr a:Key)=Sum.inr b)=decide (a=b):=by
 by_cases e:a=b
 ·subst e;simp
 ·have h:¬ (Sum.inr a:Key)=Sum.inr b:=fun q=>e (Sum.inr.inj q)
  rw [decide_eq_false h,decide_eq_false e]
theorem zmU (a:Int) (b:Str):decide ((Sum.inl a:Key)=Sum.inr b)=false:=decide_eq_false (fun q=>nomatch q)
theorem zmT (a:Str) (b:Int):decide ((Sum.inr a:Key)=Sum.inl b)=false:=decide_eq_false (fun q=>nomatch q)
noncomputable def ziA (prog:Program) (w:World):PySem.KeyKind prog w Key where
 is:=zmW
 hash:=keyH w
 inj:=fun v a b ha hb=>by
  rcases zaG ha with ⟨i,t,rfl,rfl⟩ | ⟨x,t,rfl,rfl⟩
  ·rcases zaG hb with ⟨j,u,rfl,e⟩ | ⟨y,u,rfl,e⟩
   ·injection e with e1 _;rw [e1]
   ·exact nomatch e
  ·rcases zaG hb with ⟨j,u,rfl,e⟩ | ⟨y,u,rfl,e⟩
   ·exact nomatch e
   ·injection e with e1 _;rw [e1]
 byValue:=fun k v h=>by
  rcases zaG h with ⟨i,t,rfl,rfl⟩ | ⟨x,t,rfl,rfl⟩<;>rfl
 pyHash:=fun hv h=>by
  rcases zaG hv with ⟨i,t,rfl,rfl⟩ | ⟨x,t,rfl,rfl⟩
  ·exact wpAny_pyHash_int h
  ·exact wpAny_pyHash_str h
 eqBool:=fun hu hv h=>by
  rcases zaG hu with ⟨i,t,rfl,rfl⟩ | ⟨x,t,rfl,rfl⟩
  ·rcases zaG hv with ⟨j,u,rfl,rfl⟩ | ⟨y,u,rfl,rfl⟩
   ·rw [zmV] at h;exact wpAny_eqBool_int h
   ·rw [zmU] at h;exact SeqAt.EqAt.int_str i t y u _ _ _ _ h
  ·rcases zaG hv with ⟨j,u,rfl,rfl⟩ | ⟨y,u,rfl,rfl⟩
   ·rw [zmT] at h;exact SeqAt.EqAt.str_int x t j u _ _ _ _ h
   ·rw [zmS] at h;exact wpAny_eqBool_str h
 «strs»:=fun k x t v h=>by
  rcases zaG h with ⟨i,u,rfl,e⟩ | ⟨y,u,rfl,e⟩
  ·exact nomatch e
  ·injection e with e1 _
   subst e1
   cases v<;>rfl
end L2
namespace L2
open PySem PySem.Spec PyProof.Rows
inductive V where
 | non | bl (b:Bool) | int (i:Int) | str (x:Str) | byt (b:Array UInt8) | flt (b:UInt64) | ref (a:Addr) | ty (n:String)
 deriving DecidableEq
noncomputable def RelV:V→Value→Prop
 | .non,u=>u=Value.none
 | .bl b,u=>u=Value.bool b
 | .int i,u=>∃ t,u=Value.int i t
 | .str x,u=>∃ t,u=Value.str x t
 | .byt b,u=>∃ t,u=Value.bytes b t
 | .flt b,u=>∃ t,u=Value.float b t
 | .ref a,u=>u=Value.ref a
 | .ty n,u=>u=Value.type n
noncomputable abbrev Vals:List V→List Value→Prop:=Paired RelV
theorem Vals.length {xs:List V}{us:List Value} (r:Vals xs us):xs.length=us.length:=Paired.length r
theorem Vals.get:∀ {xs:List V}{us:List Value} {i:Nat}{x:V},Vals xs us→xs[i]?=some x→∃ u,us[i]?=some u∧RelV x u
 | _,_,_,_,.nil,e=>by simp at e
 | _,_,0,_,.cons r _,e=>by simp at e;subst e;exact ⟨_,rfl,r⟩
 | _,_,i + 1,x,.cons _ t,e=>by
  obtain ⟨u,h1,h2⟩:=Vals.get (i:=i) (x:=x) t (by simpa using e)
  exact ⟨u,by simpa using h1,h2⟩
theorem Vals.append:∀ {xs ys:List V}{us ws:List Value},Vals xs us→Vals ys ws→Vals (xs++ys) (us++ws)
 | _,_,_,_,.nil,s=>s
 | _,_,_,_,.cons r t,s=>.cons r (Vals.append t s)
theorem Vals.take:∀ {xs:List V}{us:List Value} (n:Nat),Vals xs us→Vals (xs.take n) (us.take n)
 | _,_,0,_=>.nil
 | _,_,_ + 1,.nil=>.nil
 | _,_,n + 1,.cons r t=>.cons r (Vals.take n t)
theorem Vals.drop:∀ {xs:List V}{us:List Value} (n:Nat),Vals xs us→Vals (xs.drop n) (us.drop n)
 | _,_,0,r=>r
 | _,_,_ + 1,.nil=>.nil
 | _,_,n + 1,.cons _ t=>Vals.drop n t
noncomputable def RelO:Option V→Option Value→Prop
 | some v,some u=>RelV v u
 | none,none=>True
 | _,_=>False
noncomputable def KV {κ:Type}:List (κ×V)→List (κ×Value)→Prop:=Paired fun (p:κ×V) (q:κ×Value)=>p.1=q.1∧RelV p.2 q.2
noncomputable def kV:Key→V
 | .inl i=>.int i
 | .inr x=>.str x
inductive HO where
 | lst (xs:List V)
 | tup (xs:List V)
 | dK (kvs:List (Key×V)) | dT (kvs:List (List Key×V))
 | set (S:List Str)
 | ins (C dx:Addr) (fs:List (Str×V))
 | own (x:Addr)
 | xd (fs:List (Str×V))
 | met (f x:Addr)
 | rng (lo hi:Int)
 | frz (o:Obj) (u:HO)
 | tbl (ps:Array Value)
 | ext (φ:Heap→Prop)
noncomputable abbrev Hp:=Addr→Option HO
noncomputable def upd (H:Hp) (a:Addr) (o:HO):Hp:=fun b=>if b=a then some o else H b
theorem zag {H:Hp}{a:Addr} {o:HO}:upd H a o a=some o:=by unfold upd;rw [if_pos rfl]
theorem zaj {H:Hp}{a b:Addr} {o:HO}(h:b≠a):upd H a o b=H b:=by unfold upd;rw [if_neg h]
theorem zkM {H:Hp}{a:Addr} {o u:HO}:upd (upd H a o) a u=upd H a u:=by
 funext b;unfold upd;split<;>rfl
theorem zaa {H:Hp}{a b:Addr} {o:HO}(h:H a=some o) (h':H b=none):a≠b:=by
 intro e;subst e;rw [h] at h';cases h'
section
variable (P:Program) (w:World)
noncomputable def zbK (H:Hp) (h:Heap) (a:Addr):HO→Prop
 | .lst xs=>xs.length≤sizeLine∧∃ (its:List Value) (n:Nat),Vals xs its∧h.get? a=some { cls:=.type "list",data:=.seq its.toArray n }
 | .tup xs=>xs.length≤sizeLine∧∃ its:List Value,Vals xs its∧IsTup h a its.toArray
 | .dK kvs=>kvs.length≤sizeLine∧(a == sysModules)=false∧∃ vs,KV kvs vs∧h.DictOf (ziA P w) a vs
 | .dT kvs=>kvs.length≤sizeLine∧(a == sysModules)=false∧∃ xs:List (List Key×Addr×Value),
   Paired (fun (p:List Key×V) (q:List Key×Addr×Value)=>p.1=q.1∧H q.2.1=some (.tup (p.1.map kV))∧RelV p.2 q.2.2) kvs xs∧
   ∃ o es ep,h.get? a=some o∧o.ExactDict∧o.data=.dict es ep∧es.toList=xs.map (entryOfKey (tupleKind (ziA P w)))∧(xs.map (·.1)).Nodup
 | .set S=>TS.St w h a S
 | .ins C dx fs=>H dx=some (.own a)∧fs.length≤1000∧dx≠a∧h.get? a=some (PySem.W.instObj C dx)∧
   ∃ mA,h.Ns1 dx mA∧(∀ f,RelO (fs.lookup f) (mA f))∧PySem.Within mA (fs.map (·.1))
 | .own _=>∃ o,h.get? a=some o
 | .xd fs=>∃ mA,h.Ns1 a mA∧∀ f,RelO (fs.lookup f) (mA f)
 | .rng lo hi=>∃ t u v,h.get? a=some { cls:=.type "range",data:=.fields #[.int lo t,.int hi u,.int 1 v] }
 | .frz o u=>h.get? a=some o∧zbK H h a u
 | .tbl ps=>h.get? a=some { cls:=.none,data:=.fields ps }
 | .met f x=>h.get? a=some (PySem.W.methodObj (.ref f) (.ref x))
 | .ext φ=>φ h∧(∃ o,h.get? a=some o)∧∀ h1 h2:Heap,φ h1→(∀ o,h1.get? a=some o→h2.get? a=some o)→φ h2
noncomputable def HOk (H:Hp) (h:Heap):Prop:=∀ a o,H a=some o→zbK P w H h a o
end
section
variable {P:Program}{w:World} {H H':Hp}{h h':Heap} {a:Addr}{o:HO}
theorem zbK.lt (x:zbK P w H h a o):a < h.objs.size:=by
 cases o with
 | lst xs=>obtain ⟨_,_,_,_,e⟩:=x;exact Heap.lt_size e
 | tup xs=>obtain ⟨_,_,_,p⟩:=x;exact p.lt
 | dK kvs=>obtain ⟨_,_,_,_,o,_,_,e,_⟩:=x;exact Heap.lt_size e
 | dT kvs=>obtain ⟨_,_,_,_,o,_,_,e,_⟩:=x;exact Heap.lt_size e
 | set S=>obtain ⟨o,_,_,_,e,_⟩:=x;exact Heap.lt_size e
 | ins C dx fs=>obtain ⟨_,_,_,e,_⟩:=x;exact Heap.lt_size e
 | own y=>obtain ⟨_,e⟩:=x;exact Heap.lt_size e
 | xd fs=>obtain ⟨_,⟨_,_,_,e,_⟩,_⟩:=x;exact Heap.lt_size e
 | rng lo hi=>obtain ⟨_,_,_,e⟩:=x;exact Heap.lt_size e
 | frz ob u=>obtain ⟨e,_⟩:=x;exact Heap.lt_size e
 | tbl ps=>exact Heap.lt_size (show h.get? a=some _ from x)
 | met f y=>exact Heap.lt_size (show h.get? a=some _ from x)
 | ext φ=>obtain ⟨_,⟨_,e⟩,_⟩:=x;exact Heap.lt_size e
theorem Paired.mapP {α β:Type}{F G:α→β→Prop}:∀ {l₁:List α}{l₂:List β},Paired F l₁ l₂→(∀ a b,F a b→G a b)→Paired G l₁ l₂
 | _,_,.nil,_=>.nil
 | _,_,.cons r t,f=>.cons (f _ _ r) (Paired.mapP t f)
theorem zbK.stay (x:zbK P w H h a o) (k:∀ b u,(b=a∨H b=some (.own a))→h.get? b=some u→h'.get? b=some u)
  (ho:∀ b,H b=some (.own a)→H' b=some (.own a)) (ht:∀ b xs,H b=some (.tup xs)→H' b=some (.tup xs)):zbK P w H' h' a o:=by
 induction o with
 | lst xs=>obtain ⟨z,its,n,r,e⟩:=x;exact ⟨z,its,n,r,k _ _ (.inl rfl) e⟩
 | tup xs=>obtain ⟨z,its,r,ob,e,c⟩:=x;exact ⟨z,its,r,ob,k _ _ (.inl rfl) e,c⟩
 | dK kvs=>obtain ⟨z,y,vs,r,ob,es,ep,e,c⟩:=x;exact ⟨z,y,vs,r,ob,es,ep,k _ _ (.inl rfl) e,c⟩
 | dT kvs=>
  obtain ⟨z,y,xs,r,ob,es,ep,e,c⟩:=x
  exact ⟨z,y,xs,Paired.mapP r fun p q z=>⟨z.1,ht _ _ z.2.1,z.2.2⟩,ob,es,ep,k _ _ (.inl rfl) e,c⟩
 | set S=>obtain ⟨ob,es,ep,t,e,c⟩:=x;exact ⟨ob,es,ep,t,k _ _ (.inl rfl) e,c⟩
 | ins C dx fs=>
  obtain ⟨d,z,ne,e,mA,⟨od,es,ep,e2,c⟩,r⟩:=x
  exact ⟨ho _ d,z,ne,k _ _ (.inl rfl) e,mA,⟨od,es,ep,k _ _ (.inr d) e2,c⟩,r⟩
 | own y=>obtain ⟨ob,e⟩:=x;exact ⟨ob,k _ _ (.inl rfl) e⟩
 | xd fs=>obtain ⟨mA,⟨od,es,ep,e,c⟩,r⟩:=x;exact ⟨mA,⟨od,es,ep,k _ _ (.inl rfl) e,c⟩,r⟩
 | rng lo hi=>obtain ⟨t,u,v,e⟩:=x;exact ⟨t,u,v,k _ _ (.inl rfl) e⟩
 | frz ob u ih=>obtain ⟨e,q⟩:=x;exact ⟨k _ _ (.inl rfl) e,ih q⟩
 | tbl ps=>
  have e:h.get? a=some { cls:=.none,data:=.fields ps }:=x
  show h'.get? a=some { cls:=.none,data:=.fields ps }
  exact k a _ (.inl rfl) e
 | met f y=>
  have e:h.get? a=some (PySem.W.methodObj (.ref f) (.ref y)):=x
  show h'.get? a=some (PySem.W.methodObj (.ref f) (.ref y))
  exact k a _ (.inl rfl) e
 | ext φ=>obtain ⟨p,⟨o,e⟩,st⟩:=x;exact ⟨st _ _ p fun o q=>k _ _ (.inl rfl) q,⟨o,k _ _ (.inl rfl) e⟩,st⟩
theorem HOk.lt (x:HOk P w H h) (e:H a=some o):a < h.objs.size:=(x a o e).lt
theorem HOk.fresh (x:HOk P w H h) (e:h.objs.size≤a):H a=none:=by
 cases q:H a with
 | none=>rfl
 | some u=>exact absurd (Nat.lt_of_lt_of_le (x.lt q) e) (Nat.lt_irrefl _)
theorem HOk.kept (x:HOk P w H h) (k:∀ b u,h.get? b=some u→h'.get? b=some u):HOk P w H h':=fun a o e=>
 (x a o e).stay (fun b u _ q=>k b u q) (fun _ q=>q) fun _ _ q=>q
theorem HOk.laid (x:HOk P w H h) (k:∀ b u,h.get? b=some u→h'.get? b=some u) (hp:h.objs.size≤a) (new:zbK P w (upd H a o) h' a o):HOk P w (upd H a o) h':=fun b u e=>by
 have hn:=x.fresh hp
 by_cases hb:b=a
 ·subst hb;rw [zag] at e;cases e;exact new
 ·rw [zaj hb] at e
  exact (x b u e).stay (fun c v _ q=>k c v q) (fun c q=>by rw [zaj (zaa q hn)];exact q) fun c xs q=>by rw [zaj (zaa q hn)];exact q
end
noncomputable def Rd (H:Hp) (a:Addr) (u:HO):Prop:=H a=some u∨∃ o,H a=some (.frz o u)
theorem Rd.ok {P:Program}{w:World} {H:Hp}{h:Heap} {a:Addr}{u:HO} (r:Rd H a u) (x:HOk P w H h):zbK P w H h a u:=by
 rcases r with r | ⟨o,r⟩
 ·exact x a u r
 ·obtain ⟨_,q⟩:=x a _ r
  exact q
noncomputable def Mut:Option HO→Prop
 | some (.lst _)=>True
 | some (.dK _)=>True
 | some (.dT _)=>True
 | some (.set _)=>True
 | some (.ins _ _ _)=>True
 | some (.ext _)=>True
 | _=>False
section
variable {P:Program}{w:World} {H:Hp}{h h':Heap} {x e:Addr}{o':HO}
theorem HOk.write (ok:HOk P w H h) (mu:Mut (H x)) (he:e=x∨H e=some (.own x)) (k:∀ b u,b≠e→h.get? b=some u→h'.get? b=some u) (heo:∃ u,h'.get? e=some u)
  (new:zbK P w (upd H x o') h' x o'):HOk P w (upd H x o') h':=fun b u q=>by
 have nown:∀ c y,H c=some (.own y)→c≠x:=fun c y r z=>by subst z;rw [r] at mu;exact mu
 have ntup:∀ c xs,H c=some (.tup xs)→c≠x:=fun c xs r z=>by subst z;rw [r] at mu;exact mu
 by_cases hb:b=x
 ·subst hb;rw [zag] at q;cases q;exact new
 ·rw [zaj hb] at q
  by_cases hbe:b=e
  ·have q':H b=some (.own x):=by
    rcases he with z | z
    ·exact absurd (hbe.trans z) hb
    ·rw [hbe];exact z
   rw [q] at q';cases q'
   obtain ⟨v,hv⟩:=heo
   exact ⟨v,by rw [hbe];exact hv⟩
  ·refine (ok b u q).stay (fun c v hc r=>k c v ?_ r) (fun c r=>by rw [zaj (nown c b r)];exact r) fun c xs r=>by rw [zaj (ntup c xs r)];exact r
   rcases hc with rfl | hc
   ·exact hbe
   ·rintro rfl
    rcases he with z | z
    ·exact nown c b hc z
    ·rw [hc] at z;cases z;exact hb rfl
end
structure Un (fs ex:List Addr) (H H':Hp) (h h':Heap):Prop where
 keep:∀ b o,h.get? b=some o→H b=none→b∉fs→b∉ex→h'.get? b=some o
 slot:∀ b o,h.get? b=some o→H b=none→b∈fs→b∉ex→∃ sl,h'.get? b=some { o with slots:=sl }
 free:∀ b o,h.get? b=some o→H b=none→b∉ex→H' b=none
 there:∀ b o,h.get? b=some o→b∉ex→∃ o',h'.get? b=some o'
 tups:∀ b xs,H b=some (.tup xs)→H' b=some (.tup xs)
 frzs:∀ b o u,H b=some (.frz o u)→H' b=some (.frz o u)
 tbls:∀ b ps,H b=some (.tbl ps)→∃ more,H' b=some (.tbl (ps++more))
section
variable {fs fs' ex ex':List Addr}{H H1 H2:Hp} {h h1 h2 h':Heap}{a x e:Addr} {o:HO}
theorem Un.any (u:Un fs ex H H1 h h1) {b:Addr}{ob:Obj} (q:h.get? b=some ob) (n:H b=none) (hx:b∉ex):∃ sl,h1.get? b=some { ob with slots:=sl }:=by
 by_cases hb:b∈fs
 ·exact u.slot b ob q n hb hx
 ·exact ⟨ob.slots,u.keep b ob q n hb hx⟩
theorem Un.kept (k:∀ b u,h.get? b=some u→h'.get? b=some u):Un fs ex H H h h':=
 ⟨fun b ob q _ _ _=>k b ob q,fun b ob q _ _ _=>⟨ob.slots,k b ob q⟩,fun _ _ _ n _=>n,fun b ob q _=>⟨ob,k b ob q⟩,fun _ _ q=>q,fun _ _ _ q=>q,fun _ ps q=>⟨#[],by rw [q];simp⟩⟩
theorem Un.refl:Un fs ex H H h h:=Un.kept fun _ _ q=>q
theorem Un.laid (k:∀ b u,h.get? b=some u→h'.get? b=some u) (hp:h.objs.size≤a) (hn:H a=none):Un fs ex H (upd H a o) h h' where
 keep:=fun b u q _ _ _=>k b u q
 slot:=fun b u q _ _ _=>⟨u.slots,k b u q⟩
 free:=fun b u q n _=>by rw [zaj (Nat.ne_of_lt (Nat.lt_of_lt_of_le (Heap.lt_size q) hp))];exact n
 there:=fun b u q _=>⟨u,k b u q⟩
 tups:=fun b xs q=>by rw [zaj (zaa q hn)];exact q
 frzs:=fun b u xs q=>by rw [zaj (zaa q hn)];exact q
 tbls:=fun b ps q=>⟨#[],by rw [zaj (zaa q hn),q];simp⟩
theorem Un.write (mu:Mut (H x)) (he:e=x∨H e=some (.own x)) (k:∀ b u,b≠e→h.get? b=some u→h'.get? b=some u) (heo:∃ u,h'.get? e=some u):Un fs ex H (upd H x o) h h':=by
 have hx:∀ b,H b=none→b≠x:=fun b n z=>by subst z;rw [n] at mu;exact mu
 have hb:∀ b,H b=none→b≠e:=fun b n z=>by
  subst z
  rcases he with r | r
  ·exact hx b n r
  ·rw [n] at r;cases r
 have hm:∀ b u,H b=some u→¬ Mut (some u)→b≠x:=fun b u q nm z=>by subst z;rw [q] at mu;exact nm mu
 refine ⟨fun b u q n _ _=>k b u (hb b n) q,fun b u q n _ _=>⟨u.slots,k b u (hb b n) q⟩,fun b u q n _=>by rw [zaj (hx b n)];exact n,fun b u q _=>?_,
  fun b xs q=>by rw [zaj (hm b _ q fun z=>z)];exact q,fun b u xs q=>by rw [zaj (hm b _ q fun z=>z)];exact q,fun b ps q=>⟨#[],by rw [zaj (hm b _ q fun z=>z),q];simp⟩⟩
 by_cases hbe:b=e
 ·subst hbe;exact heo
 ·exact ⟨u,k b u hbe q⟩
end
noncomputable def trk (h:Heap) (H:Hp):List Addr:=(List.range h.objs.size).filter fun a=>(H a).isSome
noncomputable def hidT (h:Heap) (H:Hp):Heap:=PySem.W.hideAll h (trk h H)
theorem ziM (h:Heap) (H:Hp):(hidT h H).objs.size=h.objs.size:=PySem.W.hideAll_size _ _
theorem zjS {h:Heap}{H:Hp} {b:Addr}{o:Obj} (e:h.get? b=some o) (n:H b=none):(hidT h H).get? b=some o:=
 PySem.W.hideAll_get _ e fun hm=>by
  have q:(H b).isSome=true:=(List.mem_filter.mp hm).2
  rw [n] at q;simp at q
theorem zlu {h:Heap}{H:Hp} {b:Addr}{o:Obj} (e:(hidT h H).get? b=some o):h.get? b=some o∧H b=none:=by
 have e':h.get? b=some o:=PySem.W.of_hideAll (trk h H) e
 refine ⟨e',?_⟩
 cases q:H b with
 | none=>rfl
 | some x=>
  have hm:b∈trk h H:=List.mem_filter.mpr ⟨List.mem_range.mpr (Heap.lt_size e'),by simp [q]⟩
  have z:(hidT h H).get? b=none:=PySem.W.hideAll_none (trk h H) hm
  rw [z] at e;cases e
end L2
namespace L2
open PySem PySem.Spec PyProof.Rows
structure Mod (K:PySem.W.Frag) (mg:Str→Option Value) (base:Heap):Prop where
 kin:K.In base
 glob:base.Ns mainGlobals mg
 blt:∃ mb,base.Ns builtinsNs mb∧∀ x:Str,x ≠ "__name__" → mb x=bootBuiltins x
 nolimit:base.NoLimit
structure Cx where
 prog:Program
 w:World
 K:PySem.W.Frag
 mg:Str→Option Value
 base:Heap
 A:Around
 N:List Str
 s₀:Shared
 H₀:Hp
 env:Env
 outer:List Env
 stack:List Env
 ex:List Addr
 fn:Str→Bool
 calm:Bool
 pn:List (Addr×Obj)
 xe:Value→Shared→Prop
noncomputable def frs (l:List Env):List Addr:=l.filterMap (·.frame)
noncomputable abbrev Cx.fs (X:Cx):List Addr:=frs X.outer
noncomputable def Vis (sc:Scope) (x:Str):Prop:=sc.names.lookup x=some .local∨sc.names.lookup x=some .cell∨sc.names.lookup x=some .free
noncomputable def Loc (sc:Scope) (x:Str):Prop:=sc.names.lookup x=some .local∨sc.names.lookup x=some .cell
noncomputable def Look (env:Env) (h:Heap) (m:Str→Option Value) (x:Str) (u:Value):Prop:=
 (env.kindOf x=some .local∧m x=some u)∨((env.kindOf x=some .cell∨env.kindOf x=some .free)∧∃ c,env.cells.lookup x=some c∧h.IsCell c (some u))
structure Cx.Ok (X:Cx):Prop where
 mod:Mod X.K X.mg X.base
 kind:X.env.scope.kind=.function
 glob:X.env.globals=mainGlobals
 blt:X.env.builtins=builtinsNs
 above:X.s₀.heap.objs.size≤X.env.locals
 inj:∀ x y c,X.env.cells.lookup x=some c→X.env.cells.lookup y=some c→x=y
 has:∀ x,(X.env.kindOf x=some .cell∨X.env.kindOf x=some .free)→∃ c,X.env.cells.lookup x=some c
 cab:∀ x c,X.fn x=true→X.env.cells.lookup x=some c→X.s₀.heap.objs.size≤c
 hd:X.calm=true→X.A.handled=none
 frames:X.A.frames=some X.stack
 stk:X.stack=X.outer∨(X.stack=X.env::X.outer∧X.env.frame=some X.env.locals)
 exf:∀ b∈X.ex,b≠X.env.locals∧∀ x c,X.env.cells.lookup x=some c→c≠b
 bs:∀ b o,X.base.get? b=some o→X.s₀.heap.get? b=some o∧X.H₀ b=none
 bsz:X.base.objs.size≤X.s₀.heap.objs.size
 noex:∀ b o,X.base.get? b=some o→b∉X.ex
 exfs:∀ b∈X.ex,b∉X.fs
 funs:X.s₀.heap.FunFrames X.base X.outer
 frf:∀ b∈X.fs,X.H₀ b=none
structure Inv (X:Cx) (pins:List (Addr×Obj)) (σ:List (Option V)) (H:Hp) (s:Shared):Prop where
 ok:X.Ok
 os:s.os=X.s₀.os
 bare:AllBare s.gens
 base:Un X.fs X.ex X.H₀ H X.s₀.heap s.heap
 loc:∃ m,s.heap.Ns X.env.locals m∧∀ (i:Nat) (x:Str) (v:V),X.N[i]?=some x→σ[i]?=some (some v)→Vis X.env.scope x→∃ u,RelV v u∧Look X.env s.heap m x u
 cell:∀ x c,X.env.cells.lookup x=some c→∃ v,s.heap.IsCell c v
 free:H X.env.locals=none
 freeC:∀ x c,X.env.cells.lookup x=some c→H c=none
 pin:∀ p∈X.pn++pins,s.heap.get? p.1=some p.2∧H p.1=none∧p.1≠X.env.locals∧p.1∉X.fs∧∀ v,p.2.data≠.cell v
 hok:HOk X.prog X.w H s.heap
 len:σ.length=X.N.length
section
variable {X:Cx}{pins:List (Addr×Obj)} {σ:List (Option V)}{H H':Hp} {s:Shared}{h':Heap}
theorem Cx.Ok.nofr (ok:X.Ok) {b:Addr}{o:Obj} (e:X.base.get? b=some o):b∉X.fs:=fun hb=>by
 have:=(ok.funs.mem hb).1
 rw [e] at this;cases this
theorem Inv.bs (I:Inv X pins σ H s):∀ b o,X.base.get? b=some o→s.heap.get? b=some o∧H b=none:=fun b o e=>
 ⟨I.base.keep b o (I.ok.bs b o e).1 (I.ok.bs b o e).2 (I.ok.nofr e) (I.ok.noex b o e),I.base.free b o (I.ok.bs b o e).1 (I.ok.bs b o e).2 (I.ok.noex b o e)⟩
theorem Inv.bk (I:Inv X pins σ H s):∀ b o,X.base.get? b=some o→s.heap.get? b=some o:=fun b o e=>(I.bs b o e).1
theorem Inv.mod (I:Inv X pins σ H s):Mod X.K X.mg X.base:=I.ok.mod
theorem Inv.kIn (I:Inv X pins σ H s):X.K.In s.heap:=I.ok.mod.kin.keeps I.bk
theorem Inv.lt (I:Inv X pins σ H s):X.env.locals < s.heap.objs.size:=let ⟨_,hn,_⟩:=I.loc;hn.lt
theorem Inv.sz (I:Inv X pins σ H s):X.s₀.heap.objs.size≤s.heap.objs.size:=Nat.le_trans I.ok.above (Nat.le_of_lt I.lt)
theorem Inv.nofs (I:Inv X pins σ H s) {a:Addr}(h:s.heap.objs.size≤a):a∉X.fs:=fun hb=>by
 obtain ⟨_,o,ho,_⟩:=I.ok.funs.mem hb
 exact absurd (Nat.lt_of_lt_of_le (Heap.lt_size ho) (Nat.le_trans I.sz h)) (Nat.lt_irrefl _)
theorem Inv.cne (I:Inv X pins σ H s):∀ x c,X.env.cells.lookup x=some c→c≠X.env.locals:=fun x c e z=>by
 obtain ⟨v,o,ho,hd⟩:=I.cell x c e
 obtain ⟨m,⟨o',es,ep,ho',hd',_⟩,_⟩:=I.loc
 rw [z,ho'] at ho;cases ho;rw [hd'] at hd;cases hd
theorem Inv.funs (I:Inv X pins σ H s):s.heap.FunFrames X.base X.outer:=by
 have all:∀ (l:List Env),(∀ b∈frs l,b∈X.fs)→X.s₀.heap.FunFrames X.base l→s.heap.FunFrames X.base l:=by
  intro l
  induction l with
  | nil=>intro _ _;trivial
  | cons env r ih=>
   intro hs hl
   obtain ⟨hk,⟨L,o,hf,hn,ho,hd⟩,hr⟩:=hl
   have hL:L∈X.fs:=hs L (by unfold frs;rw [List.filterMap_cons,hf];exact List.mem_cons_self)
   obtain ⟨sl,e⟩:=I.base.slot L o ho (I.ok.frf L hL) hL fun z=>I.ok.exfs L z hL
   exact ⟨hk,⟨L,_,hf,hn,e,hd⟩,ih (fun b hb=>hs b (by unfold frs;rw [List.filterMap_cons,hf];exact List.mem_cons_of_mem _ hb)) hr⟩
 exact all X.outer (fun _ hb=>hb) I.ok.funs
theorem Inv.stack (I:Inv X pins σ H s):s.heap.FunFrames X.base X.stack:=by
 rcases I.ok.stk with e | ⟨e,hf⟩
 ·rw [e];exact I.funs
 ·rw [e]
  obtain ⟨m,hn,_⟩:=I.loc
  refine .cons (by rw [I.ok.kind];decide) hf hn ?_ I.funs
  exact Heap.get?_none_of_le (Nat.le_trans I.ok.bsz I.ok.above)
theorem Inv.stkSub (I:Inv X pins σ H s):∀ b∈frs X.stack,b∈X.env.locals::X.fs:=fun b hb=>by
 rcases I.ok.stk with e | ⟨e,hf⟩
 ·rw [e] at hb;exact List.mem_cons_of_mem _ hb
 ·rw [e] at hb
  unfold frs at hb
  rw [List.filterMap_cons,hf] at hb
  exact hb
theorem Inv.stkFree (I:Inv X pins σ H s):∀ b∈frs X.stack,H b=none:=fun b hb=>by
 rcases List.mem_cons.mp (I.stkSub b hb) with e | hb
 ·rw [e];exact I.free
 ·obtain ⟨_,o,ho,_⟩:=I.ok.funs.mem hb
  exact I.base.free b o ho (I.ok.frf b hb) fun z=>I.ok.exfs b z hb
theorem Inv.step {g':Array GenState}{t':Nat} {d':Drawn}{ch:List Addr} (I:Inv X pins σ H s)
  (hch:∀ b∈ch,(b∈X.ex∨X.s₀.heap.objs.size≤b)∧b≠X.env.locals∧(∀ x c,X.env.cells.lookup x=some c→c≠b)∧∀ p∈X.pn++pins,p.1≠b)
  (keep:∀ b o,b≠X.env.locals→b∉X.fs→b∉ch→s.heap.get? b=some o→H b=none→h'.get? b=some o)
  (slot:∀ b o,b≠X.env.locals→b∈X.fs→b∉ch→s.heap.get? b=some o→H b=none→∃ sl,h'.get? b=some { o with slots:=sl }) (free:∀ b o,b∉ch→s.heap.get? b=some o→H b=none→H' b=none)
  (there:∀ b o,b∉ch→s.heap.get? b=some o→∃ o',h'.get? b=some o')
  (tups:∀ b xs,H b=some (.tup xs)→H' b=some (.tup xs)) (frzs:∀ b o u,H b=some (.frz o u)→H' b=some (.frz o u)) (tbls:∀ b ps,H b=some (.tbl ps)→∃ more,H' b=some (.tbl (ps++more)))
  (ns:∀ m,s.heap.Ns X.env.locals m→h'.Ns X.env.locals m) (hok:HOk X.prog X.w H' h') (hg:AllBare g') :
  Inv X pins σ H' { s with heap:=h',gens:=g',drawn:=d',toks:=t' }:=by
 have neL:∀ b o,X.s₀.heap.get? b=some o→b≠X.env.locals:=fun b o e=>Nat.ne_of_lt (Nat.lt_of_lt_of_le (Heap.lt_size e) I.ok.above)
 have neC:∀ b o,X.s₀.heap.get? b=some o→b∉X.ex→b∉ch:=fun b o e hx hb=>by
  rcases (hch b hb).1 with z | z
  ·exact hx z
  ·exact absurd (Nat.lt_of_lt_of_le (Heap.lt_size e) z) (Nat.lt_irrefl _)
 have cellK:∀ x c,X.env.cells.lookup x=some c→∀ v,s.heap.IsCell c v→h'.IsCell c v:=fun x c e v ⟨o,ho,hd⟩=>by
  have nch:c∉ch:=fun z=>(hch c z).2.2.1 x c e rfl
  by_cases hc:c∈X.fs
  ·obtain ⟨sl,q⟩:=slot c o (I.cne x c e) hc nch ho (I.freeC x c e)
   exact ⟨_,q,hd⟩
  ·exact ⟨o,keep c o (I.cne x c e) hc nch ho (I.freeC x c e),hd⟩
 refine ⟨I.ok,I.os,hg,⟨fun b o e n hb hx=>?_,fun b o e n hb hx=>?_,fun b o e n hx=>?_,fun b o e hx=>?_,fun b xs e=>tups b xs (I.base.tups b xs e),fun b o xs e=>frzs b o xs (I.base.frzs b o xs e),fun b ps e=>?_⟩,?_,fun x c e=>?_,?_,fun x c e=>?_,fun p hp=>?_,hok,I.len⟩
 ·exact keep b o (neL b o e) hb (neC b o e hx) (I.base.keep b o e n hb hx) (I.base.free b o e n hx)
 ·obtain ⟨sl,e1⟩:=I.base.slot b o e n hb hx
  obtain ⟨sl',e2⟩:=slot b _ (neL b o e) hb (neC b o e hx) e1 (I.base.free b o e n hx)
  exact ⟨sl',e2⟩
 ·obtain ⟨o',e1⟩:=I.base.there b o e hx
  exact free b o' (neC b o e hx) e1 (I.base.free b o e n hx)
 ·obtain ⟨o',e1⟩:=I.base.there b o e hx
  exact there b o' (neC b o e hx) e1
 ·obtain ⟨m1,e1⟩:=I.base.tbls b ps e
  obtain ⟨m2,e2⟩:=tbls b _ e1
  exact ⟨m1++m2,by rw [e2,Array.append_assoc]⟩
 ·obtain ⟨m,hn,hl⟩:=I.loc
  refine ⟨m,ns m hn,fun i x v e1 e2 e3=>?_⟩
  obtain ⟨u,r,l⟩:=hl i x v e1 e2 e3
  refine ⟨u,r,?_⟩
  rcases l with l | ⟨k,c,e,z⟩
  ·exact .inl l
  ·exact .inr ⟨k,c,e,cellK x c e _ z⟩
 ·obtain ⟨v,z⟩:=I.cell x c e
  exact ⟨v,cellK x c e v z⟩
 ·obtain ⟨m,⟨o,_,_,ho,_⟩,_⟩:=I.loc
  exact free _ o (fun z=>(hch _ z).2.1 rfl) ho I.free
 ·obtain ⟨v,o,ho,hd⟩:=I.cell x c e
  exact free c o (fun z=>(hch c z).2.2.1 x c e rfl) ho (I.freeC x c e)
 ·obtain ⟨e,n,ne,nf,d⟩:=I.pin p hp
  have nch:p.1∉ch:=fun z=>(hch p.1 z).2.2.2 p hp rfl
  exact ⟨keep p.1 p.2 ne nf nch e n,free p.1 p.2 nch e n,ne,nf,d⟩
theorem Inv.un {t':Nat}(I:Inv X pins σ H s) (u:Un X.fs [] H H' s.heap h') (hok:HOk X.prog X.w H' h'):Inv X pins σ H' { s with heap:=h',toks:=t' }:=by
 obtain ⟨m,⟨o,es,ep,ho,r⟩,_⟩:=id I.loc
 obtain ⟨sl,hL⟩:=u.any ho I.free (by simp)
 exact I.step (g':=s.gens) (d':=s.drawn) (ch:=[]) (fun _ z=>nomatch z) (fun b o _ hb _ e n=>u.keep b o e n hb (by simp)) (fun b o _ hb _ e n=>u.slot b o e n hb (by simp)) (fun b o _ e n=>u.free b o e n (by simp)) (fun b o _ e=>u.there b o e (by simp)) u.tups u.frzs u.tbls (fun m' hm=>by
  obtain ⟨o',es',ep',ho',r'⟩:=hm
  rw [ho] at ho';cases ho'
  exact ⟨_,es',ep',hL,r'⟩) hok I.bare
theorem Inv.call {g':Array GenState}{t':Nat} {d':Drawn}{ch:List Addr} (I:Inv X pins σ H s) (u:Un (frs X.stack) ch H H' s.heap h') (hok:HOk X.prog X.w H' h') (hg:AllBare g')
  (hch:∀ b∈ch,(b∈X.ex∨X.s₀.heap.objs.size≤b)∧b≠X.env.locals∧(∀ x c,X.env.cells.lookup x=some c→c≠b)∧∀ p∈X.pn++pins,p.1≠b) :
  Inv X pins σ H' { s with heap:=h',gens:=g',drawn:=d',toks:=t' }:=by
 obtain ⟨m,⟨o,es,ep,ho,r⟩,_⟩:=id I.loc
 obtain ⟨sl,hL⟩:=u.any ho I.free fun z=>(hch _ z).2.1 rfl
 exact I.step (ch:=ch) hch (fun b o hL hb hc e n=>u.keep b o e n (fun z=>(List.mem_cons.mp (I.stkSub b z)).elim hL hb) hc) (fun b o _ _ hc e n=>u.any e n hc) (fun b o hc e n=>u.free b o e n hc) (fun b o hc e=>u.there b o e hc) u.tups u.frzs u.tbls (fun m' hm=>by
  obtain ⟨o',es',ep',ho',r'⟩:=hm
  rw [ho] at ho';cases ho'
  exact ⟨_,es',ep',hL,r'⟩) hok hg
theorem Inv.turned {t':Nat}{it:Addr} (I:Inv X pins σ H s) (k:∀ b o,b≠it→s.heap.get? b=some o→h'.get? b=some o) (hn:H it=none) (hL:it≠X.env.locals)
  (h1:it∈X.ex∨X.s₀.heap.objs.size≤it) (h2:∀ x c,X.env.cells.lookup x=some c→c≠it) (h3:∀ p∈X.pn++pins,p.1≠it):Inv X pins σ H { s with heap:=h',toks:=t' }:=by
 have nit:∀ b u,H b=some u→b≠it:=fun b u e z=>by rw [z,hn] at e;cases e
 refine I.step (g':=s.gens) (d':=s.drawn) (ch:=[it]) (fun b hb=>?_) (fun b o _ _ hc e _=>k b o (fun z=>hc (by simp [z])) e) (fun b o _ _ hc e _=>⟨o.slots,k b o (fun z=>hc (by simp [z])) e⟩) (fun _ _ _ _ n=>n)
  (fun b o hc e=>⟨o,k b o (fun z=>hc (by simp [z])) e⟩) (fun _ _ e=>e) (fun _ _ _ e=>e) (fun b ps e=>⟨#[],by rw [e];simp⟩) (fun m hm=>?_) (fun b u e=>?_) I.bare
 ·have e:b=it:=by simpa using hb
  subst e
  exact ⟨h1,hL,h2,h3⟩
 ·obtain ⟨o,es,ep,ho,r⟩:=hm
  exact ⟨o,es,ep,k _ o (Ne.symm hL) ho,r⟩
 ·refine (I.hok b u e).stay (fun c v hc q=>k c v ?_ q) (fun _ q=>q) fun _ _ q=>q
  rcases hc with z | z
  ·rw [z];exact nit b u e
  ·exact nit c _ z
theorem Inv.tok (I:Inv X pins σ H s) (t:Nat):Inv X pins σ H { s with toks:=t }:=I.un (h':=s.heap) (t':=t) Un.refl I.hok
theorem Inv.kept {t':Nat}(I:Inv X pins σ H s) (k:∀ b u,s.heap.get? b=some u→h'.get? b=some u):Inv X pins σ H { s with heap:=h',toks:=t' }:=I.un (Un.kept k) (I.hok.kept k)
theorem Inv.laid {a:Addr}{o:HO} {t':Nat}(I:Inv X pins σ H s) (k:∀ b u,s.heap.get? b=some u→h'.get? b=some u) (hp:s.heap.objs.size≤a) (new:zbK X.prog X.w (upd H a o) h' a o) :
  Inv X pins σ (upd H a o) { s with heap:=h',toks:=t' }:=I.un (Un.laid k hp (I.hok.fresh hp)) (I.hok.laid k hp new)
theorem Inv.write {x e:Addr}{o:HO} {t':Nat}(I:Inv X pins σ H s) (mu:Mut (H x)) (he:e=x∨H e=some (.own x)) (k:∀ b u,b≠e→s.heap.get? b=some u→h'.get? b=some u) (heo:∃ u,h'.get? e=some u)
  (new:zbK X.prog X.w (upd H x o) h' x o):Inv X pins σ (upd H x o) { s with heap:=h',toks:=t' }:=I.un (Un.write mu he k heo) (I.hok.write mu he k heo new)
theorem Inv.pins_of {pins':List (Addr×Obj)}(I:Inv X pins σ H s) (h:∀ p∈pins',s.heap.get? p.1=some p.2∧H p.1=none∧p.1≠X.env.locals∧p.1∉X.fs∧∀ v,p.2.data≠.cell v):Inv X pins' σ H s:=
 ⟨I.ok,I.os,I.bare,I.base,I.loc,I.cell,I.free,I.freeC,fun p hp=>(List.mem_append.mp hp).elim (fun z=>I.pin p (List.mem_append_left _ z)) (h p),I.hok,I.len⟩
theorem zfg {N:List Str}(hN:N.Nodup) {i j:Nat}{x:Str} (a:N[i]?=some x) (b:N[j]?=some x):i=j:=by
 obtain ⟨h1,e1⟩:=List.getElem?_eq_some_iff.mp a
 obtain ⟨h2,e2⟩:=List.getElem?_eq_some_iff.mp b
 exact (List.getElem_inj hN).mp (e1.trans e2.symm)
theorem zfz {M:Model}{A:Around} {E:Value→Shared→Prop}{i:Nat} {x:Str}{v:V} {u:Value}{Q:Unit→Shared→Prop} (I:Inv X pins σ H s) (hN:X.N.Nodup) (hi:X.N[i]?=some x) (hx:Loc X.env.scope x) (r:RelV v u)
  (h:∀ s',Inv X pins (σ.set i (some v)) H s'→(∃ a,Heap.SameBut a s.heap s'.heap∧(a=X.env.locals∨X.env.cells.lookup x=some a))→Q () s') (hf:X.fn x=true∨X.env.scope.names.lookup x=some .local:=by first | exact .inl rfl | exact .inr rfl | assumption):wpAny M A (storeName X.env x u) Q E s:=by
 obtain ⟨m,hn,hl⟩:=id I.loc
 have hcls:(X.env.scope.kind == .class || (X.env.scope.kind == .module && X.env.locals != X.env.globals))=false:=by rw [I.ok.kind];rfl
 have hiσ:i < σ.length:=by rw [I.len];exact (List.getElem?_eq_some_iff.mp hi).1
 have cne:=I.cne
 have tracked:∀ {a:Addr}{h':Heap},(∃ o,s.heap.get? a=some o∧H a=none)→Heap.SameBut a s.heap h'→HOk X.prog X.w H h':=fun {a h'} ha hs b ob e=>by
  obtain ⟨_,_,hfree⟩:=ha
  refine (I.hok b ob e).stay (fun c w' hc q=>(hs.2 c ?_).trans q) (fun _ q=>q) fun _ _ q=>q
  rintro rfl
  rcases hc with rfl | hc
  ·rw [hfree] at e;cases e
  ·rw [hfree] at hc;cases hc
 rcases hx with hk | hk
 ·refine wpAny_storeName_local hk hn (fun h' hn' hs=>?_) hcls
  obtain ⟨oL,_,_,hoL,_⟩:=id hn
  refine h _ ⟨I.ok,I.os,I.bare,⟨fun b o e n hb hx=>?_,fun b o e n hb hx=>?_,I.base.free,fun b o e hx=>?_,I.base.tups,I.base.frzs,I.base.tbls⟩,⟨_,hn',fun j y v' e1 e2 e3=>?_⟩,fun y c e=>?_,I.free,I.freeC,fun p hp=>?_,tracked ⟨oL,hoL,I.free⟩ hs,by simpa using I.len⟩ ⟨_,hs,.inl rfl⟩
  ·exact (hs.2 b (Nat.ne_of_lt (Nat.lt_of_lt_of_le (Heap.lt_size e) I.ok.above))).trans (I.base.keep b o e n hb hx)
  ·obtain ⟨sl,e1⟩:=I.base.slot b o e n hb hx
   exact ⟨sl,(hs.2 b (Nat.ne_of_lt (Nat.lt_of_lt_of_le (Heap.lt_size e) I.ok.above))).trans e1⟩
  ·obtain ⟨o',e1⟩:=I.base.there b o e hx
   exact ⟨o',(hs.2 b (Nat.ne_of_lt (Nat.lt_of_lt_of_le (Heap.lt_size e) I.ok.above))).trans e1⟩
  ·by_cases hj:j=i
   ·subst hj
    rw [hi] at e1;cases e1
    rw [List.getElem?_set_self hiσ] at e2
    cases e2
    exact ⟨u,r,.inl ⟨hk,by simp⟩⟩
   ·rw [List.getElem?_set_ne (Ne.symm hj)] at e2
    obtain ⟨u',r',q⟩:=hl j y v' e1 e2 e3
    refine ⟨u',r',?_⟩
    rcases q with ⟨k,e⟩ | ⟨k,c,e,z⟩
    ·refine .inl ⟨k,?_⟩
     have:y≠x:=fun e=>hj (zfg hN e1 (e ▸ hi))
     simp [this,e]
    ·exact .inr ⟨k,c,e,z.sameBut hs (cne y c e)⟩
  ·obtain ⟨w',z⟩:=I.cell y c e
   exact ⟨w',z.sameBut hs (cne y c e)⟩
  ·obtain ⟨e,n,ne,nf,d⟩:=I.pin p hp
   exact ⟨(hs.2 p.1 ne).trans e,n,ne,nf,d⟩
 ·have hfn:X.fn x=true:=by
   rcases hf with z | z
   ·exact z
   ·rw [z] at hk;cases hk
  obtain ⟨c,hc⟩:=I.ok.has x (.inl hk)
  obtain ⟨w',z⟩:=I.cell x c hc
  refine wpAny_storeName_cell I.ok.kind hk hc z (fun h' hc' hs=>?_)
  obtain ⟨oc,hoc,hocd⟩:=id z
  refine h { s with heap:=h' } ⟨I.ok,I.os,I.bare,⟨fun b o e n hb hx=>?_,fun b o e n hb hx=>?_,I.base.free,fun b o e hx=>?_,I.base.tups,I.base.frzs,I.base.tbls⟩,⟨m,hn.sameBut hs (Ne.symm (cne x c hc)),fun j y v' e1 e2 e3=>?_⟩,fun y c' e=>?_,I.free,I.freeC,fun p hp=>?_,tracked ⟨oc,hoc,I.freeC x c hc⟩ hs,by simpa using I.len⟩ ⟨c,hs,.inr hc⟩
  ·exact (hs.2 b (Nat.ne_of_lt (Nat.lt_of_lt_of_le (Heap.lt_size e) (I.ok.cab x c hfn hc)))).trans (I.base.keep b o e n hb hx)
  ·obtain ⟨sl,e1⟩:=I.base.slot b o e n hb hx
   exact ⟨sl,(hs.2 b (Nat.ne_of_lt (Nat.lt_of_lt_of_le (Heap.lt_size e) (I.ok.cab x c hfn hc)))).trans e1⟩
  ·obtain ⟨o',e1⟩:=I.base.there b o e hx
   exact ⟨o',(hs.2 b (Nat.ne_of_lt (Nat.lt_of_lt_of_le (Heap.lt_size e) (I.ok.cab x c hfn hc)))).trans e1⟩
  ·by_cases hj:j=i
   ·subst hj
    rw [hi] at e1;cases e1
    rw [List.getElem?_set_self hiσ] at e2
    cases e2
    exact ⟨u,r,.inr ⟨.inl hk,c,hc,hc'⟩⟩
   ·rw [List.getElem?_set_ne (Ne.symm hj)] at e2
    obtain ⟨u',r',q⟩:=hl j y v' e1 e2 e3
    refine ⟨u',r',?_⟩
    rcases q with q | ⟨k,c',e,z'⟩
    ·exact .inl q
    ·refine .inr ⟨k,c',e,z'.sameBut hs ?_⟩
     rintro rfl
     exact hj (zfg hN e1 (I.ok.inj _ _ _ e hc ▸ hi))
  ·by_cases hcc:c'=c
   ·subst hcc;exact ⟨_,hc'⟩
   ·obtain ⟨w2,z2⟩:=I.cell y c' e
    exact ⟨w2,z2.sameBut hs hcc⟩
  ·obtain ⟨e,n,ne,nf,d⟩:=I.pin p hp
   refine ⟨(hs.2 p.1 ?_).trans e,n,ne,nf,d⟩
   intro q
   rw [q,hoc] at e
   have q':oc=p.2:=Option.some.inj e
   exact d w' (by rw [← q'];exact hocd)
theorem zeW {M:Model}{A:Around} {E:Value→Shared→Prop}{i:Nat} {x:Str}{v:V} {u:Value}{Q:Unit→Shared→Prop} (I:Inv X pins σ H s) (hN:X.N.Nodup) (hi:X.N[i]?=some x) (hx:Loc X.env.scope x) (r:RelV v u)
  (h:∀ s',Inv X pins (σ.set i (some v)) H s'→Q () s') (hf:X.fn x=true∨X.env.scope.names.lookup x=some .local:=by first | exact .inl rfl | exact .inr rfl | assumption):wpAny M A (storeName X.env x u) Q E s:=
 zfz I hN hi hx r (fun s' I' _=>h s' I') hf
theorem Inv.call' {s':Shared}{ch:List Addr} (I:Inv X pins σ H s) (ho:s'.os=s.os) (u:Un (frs X.stack) ch H H' s.heap s'.heap) (hok:HOk X.prog X.w H' s'.heap) (hg:AllBare s'.gens)
  (hch:∀ b∈ch,(b∈X.ex∨X.s₀.heap.objs.size≤b)∧b≠X.env.locals∧(∀ x c,X.env.cells.lookup x=some c→c≠b)∧∀ p∈X.pn++pins,p.1≠b):Inv X pins σ H' s':=by
 obtain ⟨h',g',d',t',o'⟩:=s'
 have e:o'=s.os:=ho
 subst e
 exact I.call (g':=g') (t':=t') (d':=d') u hok hg hch
end
noncomputable abbrev XK:=Value→Option Addr→Hp→Prop
noncomputable abbrev St:=List (Option V)
noncomputable abbrev VK:=V→Hp→Prop
noncomputable abbrev TE:=St→Hp→VK→Prop
noncomputable abbrev TT:=St→Hp→(Bool→Hp→Prop)→Prop
noncomputable abbrev TA:=St→Hp→(List V→Hp→Prop)→Prop
structure Ends where
 nx:St→Hp→Prop
 rt:VK
 bk:St→Hp→Prop:=fun _ _=>False
 ct:St→Hp→Prop:=fun _ _=>False
noncomputable abbrev TS:=Ends→St→Hp→Prop
noncomputable def EP (X:Cx) (pins:List (Addr×Obj)) (σ:St) (Q:VK) (u:Value) (s':Shared):Prop:=∃ v H',Inv X pins σ H' s'∧RelV v u∧Q v H'
noncomputable def TP (X:Cx) (pins:List (Addr×Obj)) (σ:St) (Q:Bool→Hp→Prop) (b:Bool) (s':Shared):Prop:=∃ H',Inv X pins σ H' s'∧Q b H'
noncomputable def AP (X:Cx) (pins:List (Addr×Obj)) (σ:St) (Q:List V→Hp→Prop) (us:List Value) (s':Shared):Prop:=∃ vs H',Inv X pins σ H' s'∧Vals vs us∧Q vs H'
noncomputable def SP (X:Cx) (pins:List (Addr×Obj)) (D:Ends) (f:Flow) (s':Shared):Prop:=
 match f with
 | .next=>∃ σ' H',Inv X pins σ' H' s'∧D.nx σ' H'
 | .brk=>∃ σ' H',Inv X pins σ' H' s'∧D.bk σ' H'
 | .cont=>∃ σ' H',Inv X pins σ' H' s'∧D.ct σ' H'
 | .ret u=>∃ v σ' H',Inv X pins σ' H' s'∧RelV v u∧D.rt v H'
noncomputable def PE (X:Cx) (e:Expr) (t:TE):Prop:=
 ∀ (pins:List (Addr×Obj)) (s:Shared) (σ:St) (H:Hp) (Q:VK),Inv X pins σ H s→t σ H Q→wpAny (model X.prog X.w) X.A (eval e X.env) (EP X pins σ Q) X.xe s
noncomputable def PT (X:Cx) (e:Expr) (t:TT):Prop:=
 ∀ (pins:List (Addr×Obj)) (s:Shared) (σ:St) (H:Hp) (Q:Bool→Hp→Prop),Inv X pins σ H s→t σ H Q→wpAny (model X.prog X.w) X.A (isTrue e X.env (eval e X.env)) (TP X pins σ Q) X.xe s
noncomputable def PW (X:Cx) (e:Expr) (t:TT):Prop:=
 ∀ (whole:Sem Value) (pins:List (Addr×Obj)) (s:Shared) (σ:St) (H:Hp) (Q:Bool→Hp→Prop),Inv X pins σ H s→t σ H Q→wpAny (model X.prog X.w) X.A (isTrue e X.env whole) (TP X pins σ Q) X.xe s
theorem PW.pt {X:Cx}{e:Expr} {t:TT}(h:PW X e t):PT X e t:=h _
noncomputable def PA (X:Cx) (es:List Expr) (t:TA):Prop:=
 ∀ (pos:Pos) (pins:List (Addr×Obj)) (s:Shared) (σ:St) (H:Hp) (Q:List V→Hp→Prop),Inv X pins σ H s→t σ H Q→wpAny (model X.prog X.w) X.A (spliced (backTo pos (starEach es X.env))) (AP X pins σ Q) X.xe s
noncomputable def PS (X:Cx) (st:Stmt) (t:TS):Prop:=
 ∀ (pins:List (Addr×Obj)) (s:Shared) (σ:St) (H:Hp) (D:Ends),Inv X pins σ H s→t D σ H→wpAny (model X.prog X.w) X.A (exec st X.env) (SP X pins D) X.xe s
noncomputable def PSs (X:Cx) (st:List Stmt) (t:TS):Prop:=
 ∀ (pins:List (Addr×Obj)) (s:Shared) (σ:St) (H:Hp) (D:Ends),Inv X pins σ H s→t D σ H→wpAny (model X.prog X.w) X.A (execs st X.env) (SP X pins D) X.xe s
theorem thn {α:Type}{t:Sem α} {Q Q':α→Shared→Prop}{M:Model} {A:Around}{E:Value→Shared→Prop} {s:Shared}(h:wpAny M A t Q E s) (hQ:∀ a s,Q a s→Q' a s):wpAny M A t Q' E s:=wpAny_mono h hQ fun _ _ x=>x
end L2
namespace L2
open PySem PySem.Spec PyProof.Rows
section
variable {X:Cx}
noncomputable def tVar (i:Nat):TE:=fun σ H Q=>∃ v,σ[i]?=some (some v)∧Q v H
noncomputable def tC (v:V):TE:=fun _ H Q=>Q v H
theorem zaS {i:Nat}{x:Str} {pos:Pos}(hN:X.N[i]?=some x) (hv:Vis X.env.scope x) (hd:(x == ("__debug__" : Str))=false:=by decide) (hcd:(x == ("__classdict__" : Str))=false:=by decide):PE X (.Name x pos) (tVar i):=by
 intro pins s σ H Q I h
 obtain ⟨v,e,h⟩:=h
 obtain ⟨m,hn,hl⟩:=I.loc
 obtain ⟨u,r,l⟩:=hl i x v hN e hv
 have fin:EP X pins σ Q u s:=⟨v,H,I,r,h⟩
 rcases l with ⟨hk,hm⟩ | ⟨hk,c,hc,hcell⟩
 ·exact wpAny_Name (wpAny_loadName_local I.ok.kind hk hn hm fin) hd
 ·rcases hk with hk | hk
  ·exact wpAny_Name (wpAny_loadName_cell I.ok.kind hk hc hcell fin) hd
  ·exact wpAny_Name (wpAny_loadName_free I.ok.kind hk hc hcell fin hcd) hd
theorem zmz {i j pos}:PE X (.Constant (.int i) j pos) (tC (.int i)):=fun _ _ _ H _ I h=>wpAny_Constant_int ⟨.int i,H,I.tok _,⟨_,rfl⟩,h⟩
theorem pe_bl {b j pos}:PE X (.Constant (.bool b) j pos) (tC (.bl b)):=fun _ _ _ H _ I h=>Constant_bool ⟨.bl b,H,I,rfl,h⟩
theorem zmx {j pos}:PE X (.Constant .none j pos) (tC .non):=fun _ _ _ H _ I h=>Constant_none ⟨.non,H,I,rfl,h⟩
theorem zdE {x j pos}:PE X (.Constant (.str x) j pos) (tC (.str x)):=fun _ _ _ H _ I h=>Calls.Constant_str ⟨.str x,H,I.tok _,⟨_,rfl⟩,h⟩
noncomputable def Gl (X:Cx) (x:Str):Prop:=X.env.kindOf x=some .globalImplicit
theorem zdd {E:Value→Shared→Prop}{pins:List (Addr×Obj)} {s:Shared}{σ:St} {H:Hp}{x:Str} {u:Value}{pos:Pos} {Q:Value→Shared→Prop}(I:Inv X pins σ H s) (hg:Gl X x) (hm:X.mg x=some u) (h:Q u s)
  (hd:(x == ("__debug__" : Str))=false:=by decide):wpAny (model X.prog X.w) X.A (eval (.Name x pos) X.env) Q E s:=
 Calls.Name_function_global I.ok.kind hg (Calls.loadGlobal_global (by rw [I.ok.glob];exact I.mod.glob.keeps I.bk) hm h) hd
theorem zdn {E:Value→Shared→Prop}{pins:List (Addr×Obj)} {s:Shared}{σ:St} {H:Hp}{x:Str} {u:Value}{pos:Pos} {Q:Value→Shared→Prop}(I:Inv X pins σ H s) (hg:Gl X x) (hm:X.mg x=none) (hv:bootBuiltins x=some u) (h:Q u s)
  (hn:x ≠ "__name__" := by decide) (hd:(x == ("__debug__" : Str))=false:=by decide):wpAny (model X.prog X.w) X.A (eval (.Name x pos) X.env) Q E s:=by
 obtain ⟨mb,h1,h2⟩:=I.mod.blt
 exact Calls.Name_function_global I.ok.kind hg (Calls.loadGlobal_builtin (by rw [I.ok.glob];exact I.mod.glob.keeps I.bk) hm (by rw [I.ok.blt];exact h1.keeps I.bk) ((h2 x hn).trans hv) h) hd
theorem zij {x:Str}{v:V} {u:Value}{pos:Pos} (hg:Gl X x) (hm:X.mg x=some u) (r:RelV v u) (hd:(x == ("__debug__" : Str))=false:=by decide):PE X (.Name x pos) (tC v):=
 fun _ _ _ H _ I h=>zdd I hg hm ⟨v,H,I,r,h⟩ hd
theorem zgs {x:Str}{v:V} {u:Value}{pos:Pos} (hg:Gl X x) (hm:X.mg x=none) (hv:bootBuiltins x=some u) (r:RelV v u) (hn:x ≠ "__name__" := by decide) (hd:(x == ("__debug__" : Str))=false:=by decide):PE X (.Name x pos) (tC v):=
 fun _ _ _ H _ I h=>zdn I hg hm hv ⟨v,H,I,r,h⟩ hn hd
variable {a b:Expr}{ta tb:TE} {pos:Pos}
noncomputable def tB (t:TE):TT:=fun σ H Q=>t σ H fun x H1=>∃ c,x=.bl c∧Q c H1
theorem zmn {e:Expr}{t:TE} (h:PE X e t) (he:∀ whole,isTrue e X.env whole=(do let v ← whole;standAt e.pos;holding [v] (truthy v)):=by intro _;rfl):PT X e (tB t):=by
 intro pins s σ H Q I hw
 refine isTrue_plain (thn (h pins s σ H _ I hw) fun v s1 ⟨x,H1,I1,r1,q1⟩=>?_) (he _)
 obtain ⟨d,rfl,q⟩:=q1
 cases r1
 exact wpAny_truthy_bool ⟨H1,I1,q⟩
variable {tA tB':TT}{rest:List Expr}
noncomputable def tAnd (t u:TT):TT:=fun σ H Q=>t σ H fun c H1=>if c=true then u σ H1 Q else Q false H1
noncomputable def tOr (t u:TT):TT:=fun σ H Q=>t σ H fun c H1=>if c=true then Q true H1 else u σ H1 Q
noncomputable def tNot (t:TT):TT:=fun σ H Q=>t σ H fun c H1=>Q (!c) H1
theorem zkZ (ha:PT X a tA):PW X (.BoolOp .And [a] pos) tA:=by
 intro wh pins s σ H Q I h
 refine isTrue_and (thn (ha pins s σ H Q I h) fun c s1 e=>?_)
 cases c with
 | true=>exact isTrue_and_nil e
 | false=>exact e
theorem zml (ha:PT X a tA):PW X (.BoolOp .Or [a] pos) tA:=by
 intro wh pins s σ H Q I h
 refine isTrue_or (thn (ha pins s σ H Q I h) fun c s1 e=>?_)
 cases c with
 | false=>exact isTrue_or_nil e
 | true=>exact e
theorem zkv (ha:PT X a tA) (hb:PW X (.BoolOp .And (b::rest) pos) tB'):PW X (.BoolOp .And (a::b::rest) pos) (tAnd tA tB'):=by
 intro wh pins s σ H Q I h
 refine isTrue_and (thn (ha pins s σ H _ I h) fun c s1 ⟨H1,I1,q1⟩=>?_)
 cases c with
 | true=>exact hb wh pins s1 σ H1 Q I1 q1
 | false=>exact ⟨H1,I1,q1⟩
theorem zmm (ha:PT X a tA) (hb:PW X (.BoolOp .Or (b::rest) pos) tB'):PW X (.BoolOp .Or (a::b::rest) pos) (tOr tA tB'):=by
 intro wh pins s σ H Q I h
 refine isTrue_or (thn (ha pins s σ H _ I h) fun c s1 ⟨H1,I1,q1⟩=>?_)
 cases c with
 | true=>exact ⟨H1,I1,q1⟩
 | false=>exact hb wh pins s1 σ H1 Q I1 q1
theorem zmo (ha:PT X a tA):PT X (.UnaryOp .Not a pos) (tNot tA):=by
 intro pins s σ H Q I h
 exact isTrue_not (ha pins s σ H (fun c H1=>Q (!c) H1) I h)
noncomputable def tAndV (ta tb:TE):TE:=fun σ H Q=>ta σ H fun x H1=>∃ c,x=.bl c∧if c=true then tb σ H1 Q else Q (.bl false) H1
noncomputable def tNotV (ta:TE):TE:=fun σ H Q=>ta σ H fun x H1=>∃ c,x=.bl c∧Q (.bl (!c)) H1
theorem zmv {op} {t:TE}(h:PE X a t):PE X (.BoolOp op [a] pos) t:=fun pins s σ H Q I hw=>BoolOp_one (h pins s σ H Q I hw)
theorem zkz (ha:PE X a ta) (hb:PE X (.BoolOp .And (b::rest) pos) tb):PE X (.BoolOp .And (a::b::rest) pos) (tAndV ta tb):=by
 intro pins s σ H Q I h
 refine BoolOp_and (thn (ha pins s σ H _ I h) fun v s1 ⟨x,H1,I1,r1,q1⟩=>?_)
 obtain ⟨c,rfl,q1⟩:=q1
 cases r1
 refine wpAny_truthy_bool ?_
 cases c with
 | true=>exact hb pins s1 σ H1 Q I1 q1
 | false=>exact ⟨.bl false,H1,I1,rfl,q1⟩
theorem zmw (ha:PE X a ta):PE X (.UnaryOp .Not a pos) (tNotV ta):=by
 intro pins s σ H Q I h
 refine UnaryOp_ (thn (ha pins s σ H _ I h) fun v s1 ⟨x,H1,I1,r1,q1⟩=>?_)
 obtain ⟨c,rfl,q1⟩:=q1
 cases r1
 exact not_of (wpAny_truthy_bool ⟨.bl (!c),H1,I1,rfl,q1⟩)
end
end L2
namespace L2
open PySem PySem.Spec PyProof.Rows
noncomputable def SqL (K:PySem.W.Frag) (H:Hp) (a:Addr) (xs:List V):Prop:=
 Rd H a (.lst xs)∨
  ∃ (o:Obj) (its:Array Value) (n:Nat),K.lookup a=some o∧o.cls=.type "list" ∧ o.dict=none∧o.data=.seq its n∧its.size≤sizeLine∧Vals xs its.toList
noncomputable def SqT (K:PySem.W.Frag) (H:Hp) (a:Addr) (xs:List V):Prop:=
 Rd H a (.tup xs)∨
  ∃ (o:Obj) (its:Array Value) (n:Nat),K.lookup a=some o∧o.cls=.type "tuple" ∧ o.data=.seq its n∧its.size≤sizeLine∧Vals xs its.toList
noncomputable def absV:Value→Option V
 | .none=>some .non
 | .bool b=>some (.bl b)
 | .int i _=>some (.int i)
 | .str x _=>some (.str x)
 | .bytes b _=>some (.byt b)
 | .float b _=>some (.flt b)
 | .ref a=>some (.ref a)
 | .type n=>some (.ty n)
 | _=>none
theorem RelV.abs {x:V}{u:Value} (r:RelV x u):absV u=some x:=by
 cases x with
 | non=>cases r;rfl
 | bl _=>cases r;rfl
 | int _=>obtain ⟨t,rfl⟩:=r;rfl
 | str _=>obtain ⟨t,rfl⟩:=r;rfl
 | byt _=>obtain ⟨t,rfl⟩:=r;rfl
 | flt _=>obtain ⟨t,rfl⟩:=r;rfl
 | ref _=>cases r;rfl
 | ty _=>cases r;rfl
theorem RelV.inj {x y:V}{u:Value} (r:RelV x u) (q:RelV y u):x=y:=Option.some.inj (r.abs.symm.trans q.abs)
theorem Vals.inj:∀ {xs ys:List V}{us:List Value},Vals xs us→Vals ys us→xs=ys
 | _,_,_,.nil,.nil=>rfl
 | _,_,_,.cons r t,.cons r' t'=>by rw [r.inj r',Vals.inj t t']
section
variable {X:Cx}{pins:List (Addr×Obj)} {σ:St}{H:Hp} {s:Shared}{a:Addr} {xs ys:List V}
theorem SqL.of {K:PySem.W.Frag}(h:H a=some (.lst xs)):SqL K H a xs:=.inl (.inl h)
theorem SqT.of {K:PySem.W.Frag}(h:H a=some (.tup xs)):SqT K H a xs:=.inl (.inl h)
theorem Inv.list (I:Inv X pins σ H s) (h:SqL X.K H a xs):∃ its:List Value,Vals xs its∧PlainL s.heap a its.toArray∧xs.length≤sizeLine:=by
 rcases h with h | ⟨o,its,n,hk,hc,hd,hs,hz,r⟩
 ·obtain ⟨z,its,n,r,e⟩:=h.ok I.hok
  exact ⟨its,r,⟨_,n,e,rfl,rfl,rfl⟩,z⟩
 ·refine ⟨its.toList,r,⟨o,n,I.kIn a o hk,hc,hd,by simpa using hs⟩,?_⟩
  have e:=r.length
  simp only [Array.length_toList] at e
  omega
theorem Inv.tuple (I:Inv X pins σ H s) (h:SqT X.K H a xs):∃ its:List Value,Vals xs its∧IsTup s.heap a its.toArray∧xs.length≤sizeLine:=by
 rcases h with h | ⟨o,its,n,hk,hc,hs,hz,r⟩
 ·obtain ⟨z,its,r,p⟩:=h.ok I.hok
  exact ⟨its,r,p,z⟩
 ·refine ⟨its.toList,r,⟨o,I.kIn a o hk,hc,n,by simpa using hs⟩,?_⟩
  have e:=r.length
  simp only [Array.length_toList] at e
  omega
theorem Inv.list_inj (I:Inv X pins σ H s) (h:SqL X.K H a xs) (h':SqL X.K H a ys):xs=ys:=by
 obtain ⟨its,r,⟨o,n,e,_,_,d⟩,_⟩:=I.list h
 obtain ⟨its',r',⟨o',n',e',_,_,d'⟩,_⟩:=I.list h'
 rw [e] at e';cases e'
 rw [d] at d'
 injection d' with d1 _
 have:its=its':=by simpa using congrArg Array.toList d1
 subst this
 exact r.inj r'
theorem Inv.tuple_inj (I:Inv X pins σ H s) (h:SqT X.K H a xs) (h':SqT X.K H a ys):xs=ys:=by
 obtain ⟨its,r,⟨o,e,_,n,d⟩,_⟩:=I.tuple h
 obtain ⟨its',r',⟨o',e',_,n',d'⟩,_⟩:=I.tuple h'
 rw [e] at e';cases e'
 rw [d] at d'
 injection d' with d1 _
 have:its=its':=by simpa using congrArg Array.toList d1
 subst this
 exact r.inj r'
end
noncomputable abbrev Cx.wish (X:Cx) (E:Value→Shared→Prop):Cx:={ X with xe:=E }
noncomputable abbrev Cx.nox (X:Cx):Cx:=X.wish fun _ _=>False
theorem Cx.Ok.wish {X:Cx}(ok:X.Ok) (E:Value→Shared→Prop):(X.wish E).Ok:=
 ⟨ok.mod,ok.kind,ok.glob,ok.blt,ok.above,ok.inj,ok.has,ok.cab,ok.hd,ok.frames,ok.stk,ok.exf,ok.bs,ok.bsz,ok.noex,ok.exfs,ok.funs,ok.frf⟩
theorem Cx.Ok.unwish {X:Cx}{E:Value→Shared→Prop} (ok:(X.wish E).Ok):X.Ok:=
 ⟨ok.mod,ok.kind,ok.glob,ok.blt,ok.above,ok.inj,ok.has,ok.cab,ok.hd,ok.frames,ok.stk,ok.exf,ok.bs,ok.bsz,ok.noex,ok.exfs,ok.funs,ok.frf⟩
section
variable {X:Cx}{pins:List (Addr×Obj)} {σ:St}{H:Hp} {s:Shared}{E:Value→Shared→Prop}
theorem Inv.wish (I:Inv X pins σ H s) (E:Value→Shared→Prop):Inv (X.wish E) pins σ H s:=⟨I.ok.wish E,I.os,I.bare,I.base,I.loc,I.cell,I.free,I.freeC,I.pin,I.hok,I.len⟩
theorem Inv.unwish (I:Inv (X.wish E) pins σ H s):Inv X pins σ H s:=⟨I.ok.unwish,I.os,I.bare,I.base,I.loc,I.cell,I.free,I.freeC,I.pin,I.hok,I.len⟩
theorem SP.unwish {D:Ends}{f:Flow} {s':Shared}(h:SP (X.wish E) pins D f s'):SP X pins D f s':=by
 cases f with
 | next=>obtain ⟨σ',H',I,q⟩:=h;exact ⟨σ',H',I.unwish,q⟩
 | brk=>obtain ⟨σ',H',I,q⟩:=h;exact ⟨σ',H',I.unwish,q⟩
 | cont=>obtain ⟨σ',H',I,q⟩:=h;exact ⟨σ',H',I.unwish,q⟩
 | ret u=>obtain ⟨v,σ',H',I,r,q⟩:=h;exact ⟨v,σ',H',I.unwish,r,q⟩
theorem PSs.nox {st:List Stmt}{t:TS} (h:PSs X.nox st t):PSs X st t:=fun pins s σ H D I hw=>
 wpAny_mono (h pins s σ H D (I.wish _) hw) (fun _ _ q=>q.unwish) fun _ _ z=>False.elim z
end
section
variable {X:Cx}{st:Stmt} {rest:List Stmt}{t u:TS} {e:Expr}{te:TE} {pos:Pos}
noncomputable def tNext:TS:=fun D σ H=>D.nx σ H
noncomputable def tSeq (t u:TS):TS:=fun D σ H=>t { D with nx:=u D } σ H
theorem zlc:PSs X [] tNext:=fun _ _ σ H _ I h=>wpAny_execs_nil ⟨σ,H,I,h⟩
theorem zbS (h1:PS X st t) (h2:PSs X rest u):PSs X (st::rest) (tSeq t u):=by
 intro pins s σ H D I h
 refine wpAny_execs_cons (thn (h1 pins s σ H { D with nx:=u D } I h) fun f s1 q=>?_)
 cases f with
 | next=>
  obtain ⟨σ',H',I',q⟩:=q
  exact h2 pins s1 σ' H' D I' q
 | ret v=>exact q
 | brk=>exact q
 | cont=>exact q
theorem zck (h1:PS X st t):PSs X [st] t:=by
 intro pins s σ H D I h
 refine wpAny_execs_cons (thn (h1 pins s σ H D I h) fun f s1 q=>?_)
 cases f with
 | next=>exact wpAny_execs_nil q
 | ret v=>exact q
 | brk=>exact q
 | cont=>exact q
theorem Inv.quiet {pins:List (Addr×Obj)}{σ:St} {H:Hp}{s:Shared} (I:Inv X pins σ H s):interactive X.env=false:=by simp [interactive,I.ok.kind]
noncomputable def zkP (te:TE):TS:=fun D σ H=>te σ H fun _ H1=>D.nx σ H1
theorem zbT (he:PE X e te) (hs:swapsWith e none pos.line X.env=pure false:=by rfl):PS X (.Expr e pos) (zkP te):=by
 intro pins s σ H D I h
 exact wpAny_Expr_any (thn (he pins s σ H _ I h) fun v s1 ⟨x,H1,I1,r1,q1⟩=>⟨σ,H1,I1,q1⟩) I.quiet hs
noncomputable def tRet (te:TE):TS:=fun D σ H=>te σ H D.rt
theorem zgV (he:PE X e te):PS X (.Return (some e) pos) (tRet te):=by
 intro pins s σ H D I h
 exact wpAny_Return_some (thn (he pins s σ H _ I h) fun v s1 ⟨x,H1,I1,r1,q1⟩=>⟨x,σ,H1,I1,r1,q1⟩)
noncomputable def tIfS (c:TT) (t u:TS):TS:=fun D σ H=>c σ H fun b H1=>if b=true then t D σ H1 else u D σ H1
theorem zmp {c:Expr}{a b:List Stmt} {tc:TT}(hc:PT X c tc) (ha:PSs X a t) (hb:PSs X b u):PS X (.If c a b pos) (tIfS tc t u):=by
 intro pins s σ H D I h
 refine wpAny_If (thn (hc pins s σ H _ I h) fun d s1 ⟨H1,I1,q1⟩=>?_)
 cases d with
 | true=>exact ha pins s1 σ H1 D I1 q1
 | false=>exact hb pins s1 σ H1 D I1 q1
noncomputable def zlZ:TS:=fun _ _ _=>False
theorem zdW {sts:List Stmt}:PSs X sts zlZ:=fun _ _ _ _ _ _ h=>h.elim
end
noncomputable abbrev TG:=V→St→Hp→(St→Hp→Prop)→Prop
noncomputable abbrev TGs:=List V→St→Hp→(St→Hp→Prop)→Prop
noncomputable def PG (X:Cx) (target:Expr) (t:TG):Prop:=
 ∀ (pins:List (Addr×Obj)) (s:Shared) (σ:St) (H:Hp) (v:V) (u:Value) (Q:St→Hp→Prop),Inv X pins σ H s→RelV v u→t v σ H Q→
  wpAny (model X.prog X.w) X.A (assign target X.env u) (fun _ s'=>∃ σ' H',Inv X pins σ' H' s'∧Q σ' H') X.xe s
noncomputable def PGs (X:Cx) (ts:List Expr) (t:TGs):Prop:=
 ∀ (pins:List (Addr×Obj)) (s:Shared) (σ:St) (H:Hp) (vs:List V) (us:List Value) (Q:St→Hp→Prop),Inv X pins σ H s→Vals vs us→t vs σ H Q→
  wpAny (model X.prog X.w) X.A (assignInOrder ((assignEach ts X.env).map (·.2)) us) (fun _ s'=>∃ σ' H',Inv X pins σ' H' s'∧Q σ' H') X.xe s
section
variable {X:Cx}{pos:Pos}
noncomputable def zjZ (i:Nat):TG:=fun v σ H Q=>Q (σ.set i (some v)) H
theorem zli {i:Nat}{x:Str} (hN:X.N.Nodup) (hi:X.N[i]?=some x) (hx:Loc X.env.scope x) (hf:X.fn x=true∨X.env.scope.names.lookup x=some .local:=by first | exact .inl rfl | exact .inr rfl | assumption):PG X (.Name x pos) (zjZ i):=by
 intro pins s σ H v u Q I r h
 exact wpAny_assign_Name (zeW I hN hi hx r (fun s' I'=>⟨_,H,I',h⟩) hf)
noncomputable def gNil:TGs:=fun vs σ H Q=>vs=[]∧Q σ H
noncomputable def zbJ (t:TG) (u:TGs):TGs:=fun vs σ H Q=>∃ v r,vs=v::r∧t v σ H fun σ' H'=>u r σ' H' Q
theorem zlh:PGs X [] gNil:=by
 intro pins s σ H vs us Q I r h
 obtain ⟨e,h⟩:=h
 subst e
 cases r
 exact assignInOrder_nil ⟨σ,H,I,h⟩
theorem zjz {e:Expr}{es:List Expr} {t:TG}{u:TGs} (h1:PG X e t) (h2:PGs X es u)
  (hs:(assignEach (e::es) X.env).map (·.2)=assign e X.env::(assignEach es X.env).map (·.2):=by rfl):PGs X (e::es) (zbJ t u):=by
 intro pins s σ H vs us Q I r h
 obtain ⟨v,vr,e1,h⟩:=h
 subst e1
 cases r with
 | cons r rr=>
  rw [hs]
  refine assignInOrder_cons (thn (h1 pins s σ H _ _ _ I r h) fun _ s1 ⟨σ1,H1,I1,q1⟩=>?_)
  exact h2 pins s1 σ1 H1 _ _ Q I1 rr q1
noncomputable def gTup (K:PySem.W.Frag) (n:Nat) (t:TGs):TG:=fun v σ H Q=>∃ a xs,v=.ref a∧SqT K H a xs∧xs.length=n∧t xs σ H Q
theorem zmu {es:List Expr}{k:Nat} {t:TGs}{n:Nat} (hc:X.calm=true) (h:PGs X es t)
  (hn:(assignEach es X.env).length=n:=by rfl) (hst:(assignEach es X.env).findIdx? (·.1)=none:=by rfl):PG X (.Tuple es k pos) (gTup X.K n t):=by
 intro pins s σ H v u Q I r hw
 obtain ⟨a,xs,e1,hq,hl,hw⟩:=hw
 subst e1
 cases r
 obtain ⟨its,rv,ht,hz⟩:=I.tuple hq
 refine assign_Tuple_tuple (I.ok.hd hc) ht (by simp [hn,← hl,rv.length]) hst fun h' hx=>?_
 have I1:Inv X pins σ H { s with heap:=h' }:=I.kept (t':=s.toks) fun b o e=>hx b o (Nat.ne_of_lt (Heap.lt_size e)) e
 exact h pins _ σ H xs _ Q I1 (by simpa using rv) hw
noncomputable def tAsg (te:TE) (g:TG):TS:=fun D σ H=>te σ H fun x H1=>g x σ H1 D.nx
theorem zmr {tg e:Expr}{te:TE} {g:TG}(he:PE X e te) (hg:PG X tg g) (hs:swapsWithSole [tg] e pos.line X.env=pure false:=by rfl) (hw:swappedStores [tg] e X.env=pure none:=by rfl)
  (h1:(assignEach [tg] X.env).map (·.2)=[assign tg X.env]:=by rfl):PS X (.Assign [tg] e pos) (tAsg te g):=by
 intro pins s σ H D I h
 refine wpAny_Assign_stores (thn (he pins s σ H _ I h) fun v s1 ⟨x,H1,I1,r1,q1⟩=>?_) hs hw
 rw [h1]
 exact thn (hg pins s1 σ H1 x v _ I1 r1 q1) fun _ s2 q=>q
theorem zgU {i:Nat}{x:Str} {e:Expr}{te:TE} {pos':Pos}(hN:X.N.Nodup) (hi:X.N[i]?=some x) (hx:Loc X.env.scope x) (he:PE X e te) (hs:swapsWith e (some (.Name x pos')) pos.line X.env=pure false:=by rfl) (hf:X.fn x=true∨X.env.scope.names.lookup x=some .local:=by first | exact .inl rfl | exact .inr rfl | assumption) :
  PS X (.Assign [.Name x pos'] e pos) (tAsg te (zjZ i)):=by
 intro pins s σ H D I h
 refine wpAny_Assign_Name (thn (he pins s σ H _ I h) fun v s1 ⟨y,H1,I1,r1,q1⟩=>?_) hs
 exact zeW I1 hN hi hx r1 (fun s2 I2=>⟨_,H1,I2,q1⟩) hf
end
section
variable {X:Cx}{pos:Pos}
end
structure It where
 go:Nat→Hp→Prop
 yld:Nat→Hp→V→Hp→Prop
 stop:Nat→Hp→Prop
noncomputable def FpOk (X:Cx) (pins:List (Addr×Obj)) (H:Hp) (b:Addr):Prop:=
 H b=none∧b≠X.env.locals∧b∉X.fs∧(b∈X.ex∨X.s₀.heap.objs.size≤b)∧(∀ x c,X.env.cells.lookup x=some c→c≠b)∧∀ p∈X.pn++pins,p.1≠b
theorem Inv.fpOk {X:Cx}{pins:List (Addr×Obj)} {σ:St}{H H':Hp} {s:Shared}{b:Addr} (I:Inv X pins σ H s) (hb:s.heap.objs.size≤b) (hn:H' b=none):FpOk X pins H' b:=by
 refine ⟨hn,Nat.ne_of_gt (Nat.lt_of_lt_of_le I.lt hb),I.nofs hb,.inr (Nat.le_trans I.sz hb),fun x c e z=>?_,fun p hp z=>?_⟩
 ·obtain ⟨v,q⟩:=I.cell x c e
  exact absurd (Nat.lt_of_lt_of_le q.lt (by rw [z];exact hb)) (Nat.lt_irrefl _)
 ·exact absurd (Nat.lt_of_lt_of_le (Heap.lt_size (I.pin p hp).1) (by rw [z];exact hb)) (Nat.lt_irrefl _)
structure Turn (P:Program) (w:World) (K:PySem.W.Frag) (tg:Expr) (J:It) (fp:List Addr) (it:Addr) (tn:Nat→Heap→Prop):Prop where
 mem:it∈fp
 obj:∀ i h,tn i h→∀ b∈fp,∃ o,h.get? b=some o∧∀ v,o.data≠.cell v
 keep:∀ i h h',tn i h→(∀ b∈fp,∀ o,h.get? b=some o→h'.get? b=some o)→tn i h'
 item:∀ (X:Cx),X.prog=P→X.w=w→X.K=K→X.calm=true→∀ (i:Nat) (pins:List (Addr×Obj)) (s:Shared) (σ:St) (H:Hp) (E:Value→Shared→Prop),Inv X pins σ H s→(∀ b∈fp,FpOk X pins H b)→tn i s.heap→J.go i H→
  wpAny (model P w) X.A (pyNext (.ref it)) (fun r s1=>∃ u,r=some u∧
   wpAny (model P w) X.A (letOwnedTupleGo tg (.ref it) u) (fun _ s2=>∃ x H',Inv X pins σ H' s2∧RelV x u∧J.yld i H x H'∧tn (i + 1) s2.heap∧∀ b∈fp,H' b=none) E s1) E s
 done:∀ (X:Cx),X.prog=P→X.w=w→X.K=K→X.calm=true→∀ (i:Nat) (pins:List (Addr×Obj)) (s:Shared) (σ:St) (H:Hp) (E:Value→Shared→Prop),Inv X pins σ H s→(∀ b∈fp,FpOk X pins H b)→tn i s.heap→J.stop i H→
  wpAny (model P w) X.A (pyNext (.ref it)) (fun r s1=>r=none∧Inv X pins σ H s1) E s
 self:∀ (A:Around) (i:Nat) (s:Shared) (Q:Value→Shared→Prop) (E:Value→Shared→Prop),tn i s.heap→Q (.ref it) s→wpAny (model P w) A (pyIter (.ref it)) Q E s
noncomputable abbrev TI:=St→Hp→(It→Hp→Prop)→Prop
noncomputable def PIE (X:Cx) (pins:List (Addr×Obj)) (σ:St) (tg:Expr) (R:It→Hp→Prop) (itv:Value) (s2:Shared):Prop:=
 ∃ (it:Addr) (fp:List Addr) (tn:Nat→Heap→Prop) (J:It) (H':Hp),itv=.ref it∧Inv X pins σ H' s2∧Turn X.prog X.w X.K tg J fp it tn∧tn 0 s2.heap∧(∀ b∈fp,FpOk X pins H' b)∧R J H'
noncomputable def PI (X:Cx) (tg iter:Expr) (wi:TI):Prop:=
 ∀ (pins:List (Addr×Obj)) (s:Shared) (σ:St) (H:Hp) (R:It→Hp→Prop),Inv X pins σ H s→wi σ H R→
  wpAny (model X.prog X.w) X.A (eval iter X.env) (fun v s1=>wpAny (model X.prog X.w) X.A (pyIter v) (PIE X pins σ tg R) X.xe s1) X.xe s
theorem zjU {M:Model}{A:Around} {E:Value→Shared→Prop}{s:Shared} {tg:Expr}{it:Addr} {u:Value}{o:Obj} {n:String}{vs:Array Value} {Q:Unit→Shared→Prop}(ho:s.heap.get? it=some o) (hc:o.cls=.type n) (hd:o.data=.fields vs)
  (hn:["enumerate", "zip", "dict_itemiterator", "dict_reverseitemiterator", "odict_iterator", "itertools.zip_longest", "itertools.pairwise"].contains n=false) (hQ:Q () s):wpAny M A (letOwnedTupleGo tg (.ref it) u) Q E s:=by
 unfold letOwnedTupleGo
 cases tg<;>first
  | exact wpAny_pure hQ
  | (cases u<;>first
    | exact wpAny_pure hQ
    | (refine wpAny_bind (wpAny_load ho ?_)
       rw [hc,hd]
       show wpAny M A (if (["enumerate", "zip", "dict_itemiterator", "dict_reverseitemiterator", "odict_iterator", "itertools.zip_longest", "itertools.pairwise"].contains n && vs[0]? == some (rawInt _))=true then _ else _) Q E s
       rw [if_neg (by intro h;rw [hn,Bool.false_and] at h;cases h)]
       exact wpAny_pure hQ))
noncomputable def Itl (K:PySem.W.Frag) (a:Addr):It:=
 ⟨fun i H=>∃ xs x,SqL K H a xs∧xs[i]?=some x,fun i H x H'=>H'=H∧∀ xs,SqL K H a xs→xs[i]?=some x,fun i H=>∃ xs,SqL K H a xs∧xs.length≤i⟩
noncomputable def Itt (K:PySem.W.Frag) (a:Addr):It:=
 ⟨fun i H=>∃ xs x,SqT K H a xs∧xs[i]?=some x,fun i H x H'=>H'=H∧∀ xs,SqT K H a xs→xs[i]?=some x,fun i H=>∃ xs,SqT K H a xs∧xs.length≤i⟩
noncomputable def Itr (lo:Int) (n:Nat):It:=⟨fun i _=>i < n,fun i H x H'=>H'=H∧x=.int (lo + i),fun i _=>n≤i⟩
theorem zhS {P:Program}{w:World} {K:PySem.W.Frag}{tg:Expr} (a it:Addr):Turn P w K tg (Itl K a) [it] it (fun i h=>h.IsListIter it a i) where
 mem:=by simp
 obj:=fun i h st b hb=>by
  have e:b=it:=by simpa using hb
  subst e
  obtain ⟨o,e,c,d⟩:=st
  exact ⟨o,e,fun v z=>by rw [d] at z;cases z⟩
 keep:=fun i h h' st k=>st.at fun o e=>k it (by simp) o e
 item:=by
  intro X hP hw hK hc i pins s σ H E I hf st hg
  subst hP hw hK
  obtain ⟨xs,x,hq,hx⟩:=hg
  obtain ⟨its,rv,p,hz⟩:=I.list hq
  obtain ⟨u,hu,ru⟩:=rv.get hx
  obtain ⟨f0,f1,f2,f3,f4,f5⟩:=hf it (by simp)
  refine wpAny_pyNext_list_item st p.isList (x:=u) (by simpa using hu) fun h' st' sb=>?_
  have I1:Inv X pins σ H { s with heap:=h' }:=I.turned (t':=s.toks) (fun b o hb e=>(sb.2 b hb).trans e) f0 f1 f3 f4 f5
  obtain ⟨o,e,c,d⟩:=id st'
  exact ⟨u,rfl,zjU (s:={ s with heap:=h' }) e c d (by decide) ⟨x,H,I1,ru,⟨rfl,fun ys hy=>by rw [I.list_inj hy hq];exact hx⟩,st',fun b hb=>(hf b hb).1⟩⟩
 done:=by
  intro X hP hw hK hc i pins s σ H E I hf st hg
  subst hP hw hK
  obtain ⟨xs,hq,hx⟩:=hg
  obtain ⟨its,rv,p,hz⟩:=I.list hq
  obtain ⟨f0,f1,f2,f3,f4,f5⟩:=hf it (by simp)
  have hl:=rv.length
  exact wpAny_pyNext_list_end (I.ok.hd hc) st p.isList (by simp;omega) fun h' eb=>⟨rfl,I.turned (t':=s.toks) (fun b o hb e=>eb b o hb e) f0 f1 f3 f4 f5⟩
 self:=fun _ _ _ _ _ st h=>wpAny_pyIter_listiter st h
theorem zhk {P:Program}{w:World} {K:PySem.W.Frag}{tg:Expr} (a it:Addr):Turn P w K tg (Itt K a) [it] it (fun i h=>h.IsTupleIter it a i) where
 mem:=by simp
 obj:=fun i h st b hb=>by
  have e:b=it:=by simpa using hb
  subst e
  obtain ⟨o,e,c,d⟩:=st
  exact ⟨o,e,fun v z=>by rw [d] at z;cases z⟩
 keep:=fun i h h' st k=>st.at fun o e=>k it (by simp) o e
 item:=by
  intro X hP hw hK hc i pins s σ H E I hf st hg
  subst hP hw hK
  obtain ⟨xs,x,hq,hx⟩:=hg
  obtain ⟨its,rv,p,hz⟩:=I.tuple hq
  obtain ⟨u,hu,ru⟩:=rv.get hx
  obtain ⟨f0,f1,f2,f3,f4,f5⟩:=hf it (by simp)
  refine wpAny_pyNext_tuple_item st (show s.heap.IsTuple a its.toArray from p) (x:=u) (by simpa using hu) fun h' st' sb=>?_
  have I1:Inv X pins σ H { s with heap:=h' }:=I.turned (t':=s.toks) (fun b o hb e=>(sb.2 b hb).trans e) f0 f1 f3 f4 f5
  obtain ⟨o,e,c,d⟩:=id st'
  exact ⟨u,rfl,zjU (s:={ s with heap:=h' }) e c d (by decide) ⟨x,H,I1,ru,⟨rfl,fun ys hy=>by rw [I.tuple_inj hy hq];exact hx⟩,st',fun b hb=>(hf b hb).1⟩⟩
 done:=by
  intro X hP hw hK hc i pins s σ H E I hf st hg
  subst hP hw hK
  obtain ⟨xs,hq,hx⟩:=hg
  obtain ⟨its,rv,p,hz⟩:=I.tuple hq
  obtain ⟨f0,f1,f2,f3,f4,f5⟩:=hf it (by simp)
  have hl:=rv.length
  exact wpAny_pyNext_tuple_end (I.ok.hd hc) st (show s.heap.IsTuple a its.toArray from p) (by simp;omega) fun h' eb=>⟨rfl,I.turned (t':=s.toks) (fun b o hb e=>eb b o hb e) f0 f1 f3 f4 f5⟩
 self:=fun _ _ _ _ _ st h=>wpAny_pyIter_tupleiter st h
theorem zhl {P:Program}{w:World} {K:PySem.W.Frag}{tg:Expr} (it:Addr) (lo:Int) (n:Nat):Turn P w K tg (Itr lo n) [it] it (fun i h=>IsRangeIter h it (lo + (i:Nat) * 1) ((n:Int) - (i:Nat)) 1) where
 mem:=by simp
 obj:=fun i h st b hb=>by
  have e:b=it:=by simpa using hb
  subst e
  exact ⟨_,st,fun v z=>by
   have z':Data.fields _=Data.cell v:=z
   cases z'⟩
 keep:=fun i h h' st k=>k it (by simp) _ st
 item:=by
  intro X hP hw hK hc i pins s σ H E I hf st hg
  subst hP hw hK
  obtain ⟨f0,f1,f2,f3,f4,f5⟩:=hf it (by simp)
  have W:=Walks.range (prog:=X.prog) (w:=X.w) (I.ok.hd hc) it lo 1 n
  refine W.item i s _ _ hg st fun v h' tk hv st' kk=>?_
  obtain ⟨t,rfl⟩:=hv
  have I1:Inv X pins σ H { s with heap:=h',toks:=tk }:=I.turned (fun b o hb e=>kk b o (by simpa using hb) e) f0 f1 f3 f4 f5
  refine ⟨_,rfl,zjU (s:={ s with heap:=h',toks:=tk }) (n := "range_iterator") st' rfl rfl (by decide) ⟨.int (lo + i),H,I1,⟨t,?_⟩,⟨rfl,rfl⟩,st',fun b hb=>(hf b hb).1⟩⟩
  rw [Int.mul_one]
 done:=by
  intro X hP hw hK hc i pins s σ H E I hf st hg
  subst hP hw hK
  obtain ⟨f0,f1,f2,f3,f4,f5⟩:=hf it (by simp)
  exact wpAny_pyNext_range_end (I.ok.hd hc) st (by have:n≤i:=hg;omega) fun h' eb=>⟨rfl,I.turned (t':=s.toks) (fun b o hb e=>eb b o hb e) f0 f1 f3 f4 f5⟩
 self:=fun _ _ _ _ _ st h=>wpAny_pyIter_rangeiter st h
end L2
namespace L2
open PySem PySem.Spec PyProof.Rows
section
variable {X:Cx}{tg:Expr}
noncomputable def iList (K:PySem.W.Frag) (tl:TE):TI:=fun σ H R=>tl σ H fun x H1=>∃ a,x=.ref a∧(∃ xs,SqL K H1 a xs)∧R (Itl K a) H1
noncomputable def iTup (K:PySem.W.Frag) (tl:TE):TI:=fun σ H R=>tl σ H fun x H1=>∃ a,x=.ref a∧(∃ xs,SqT K H1 a xs)∧R (Itt K a) H1
theorem zii {l:Expr}{tl:TE} (hl:PE X l tl):PI X tg l (iList X.K tl):=by
 intro pins s σ H R I h
 refine thn (hl pins s σ H _ I h) fun v s1 h_=>?_
 obtain ⟨x,H1,I1,r1,q1⟩:=h_
 obtain ⟨a,e,⟨xs,hq⟩,q⟩:=q1
 subst e
 cases r1
 obtain ⟨its,rv,p,hz⟩:=I1.list hq
 refine wpAny_pyIter_list p.isList ?_
 refine ⟨s1.heap.objs.size,[s1.heap.objs.size],_,_,H1,rfl,I1.kept (t':=s1.toks) fun b o e=>Heap.get?_push_of_some _ e,zhS a _,⟨_,Heap.get?_push_size _ rfl,rfl,rfl⟩,fun b hb=>?_,q⟩
 have e:b=s1.heap.objs.size:=by simpa using hb
 subst e
 exact I1.fpOk (Nat.le_refl _) (I1.hok.fresh (Nat.le_refl _))
theorem zmt {l:Expr}{tl:TE} (hl:PE X l tl):PI X tg l (iTup X.K tl):=by
 intro pins s σ H R I h
 refine thn (hl pins s σ H _ I h) fun v s1 h_=>?_
 obtain ⟨x,H1,I1,r1,q1⟩:=h_
 obtain ⟨a,e,⟨xs,hq⟩,q⟩:=q1
 subst e
 cases r1
 obtain ⟨its,rv,p,hz⟩:=I1.tuple hq
 refine wpAny_pyIter_tuple (show s1.heap.IsTuple a its.toArray from p) ?_
 refine ⟨s1.heap.objs.size,[s1.heap.objs.size],_,_,H1,rfl,I1.kept (t':=s1.toks) fun b o e=>Heap.get?_push_of_some _ e,zhk a _,⟨_,Heap.get?_push_size _ rfl,rfl,rfl⟩,fun b hb=>?_,q⟩
 have e:b=s1.heap.objs.size:=by simpa using hb
 subst e
 exact I1.fpOk (Nat.le_refl _) (I1.hok.fresh (Nat.le_refl _))
theorem zjv {pins:List (Addr×Obj)}{σ:St} {H:Hp}{s:Shared} {R:It→Hp→Prop}{E:Value→Shared→Prop} {lo hi:Int}{t u v:Tok} {tk:Nat}(I:Inv X pins σ H s) (h1:-(2 ^ 62)≤lo) (h2:lo < 2 ^ 62) (h3:-(2 ^ 62)≤hi) (h4:hi < 2 ^ 62)
  (q:R (Itr lo (hi - lo).toNat) H):wpAny (model X.prog X.w) X.A (pyIter (.ref s.heap.objs.size)) (PIE X pins σ tg R) E { s with heap:=s.heap.push { cls:=.type "range",data:=.fields #[.int lo t,.int hi u,.int 1 v] },toks:=tk }:=by
 refine wpAny_pyIter_range (IsRange.new ..) (small_one h1 h2 h3 h4) ?_
 have I1:Inv X pins σ H { s with heap:=s.heap.push { cls:=.type "range",data:=.fields #[.int lo t,.int hi u,.int 1 v] },toks:=tk }:=I.kept fun b o e=>Heap.get?_push_of_some _ e
 refine ⟨(s.heap.push { cls:=.type "range",data:=.fields #[.int lo t,.int hi u,.int 1 v] }).objs.size,[(s.heap.push { cls:=.type "range",data:=.fields #[.int lo t,.int hi u,.int 1 v] }).objs.size],_,_,H,rfl,
  I1.kept (t':=tk) fun b o e=>Heap.get?_push_of_some _ e,zhl _ lo (hi - lo).toNat,?_,fun b hb=>?_,q⟩
 ·have e1:lo + ((0:Nat):Int) * 1=lo:=by simp
  have e2:(((hi - lo).toNat:Nat):Int) - ((0:Nat):Int)=Builtin.Range.rangeSize lo hi 1:=by rw [rangeSize_one];split<;>omega
  show IsRangeIter _ _ (lo + ((0:Nat):Int) * 1) ((((hi - lo).toNat:Nat):Int) - ((0:Nat):Int)) 1
  rw [e1,e2]
  exact Heap.get?_push_size _ rfl
 ·have e:b=(s.heap.push { cls:=.type "range",data:=.fields #[.int lo t,.int hi u,.int 1 v] }).objs.size:=by simpa using hb
  subst e
  exact I1.fpOk (Nat.le_refl _) (I1.hok.fresh (Nat.le_refl _))
noncomputable def iRng1 (ta:TA):TI:=fun σ H R=>ta σ H fun vs H1=>∃ j:Int,vs=[.int j]∧-(2 ^ 62)≤j∧j < 2 ^ 62∧R (Itr 0 j.toNat) H1
theorem zih {a:Expr}{ta:TA} {p pos:Pos}(hg:Gl X "range") (hm:X.mg "range" = none) (ha:PA X [a] ta) (hs:starEach [a] X.env=[(false,eval a X.env)]:=by rfl):PI X tg (.Call (.Name "range" p) [a] [] pos) (iRng1 ta):=by
 intro pins s σ H R I h
 refine Call_ (zdn I hg hm boot_range (PyProof.Rows.callWith_type1 (thn (ha pos pins s σ H _ I h) fun us s1 ⟨vs,H1,I1,r1,q1⟩=>?_) hs rfl))
 obtain ⟨j,e,q1,q2,q⟩:=q1
 subst e
 cases r1 with
 | cons r rr=>
  cases rr
  obtain ⟨t,rfl⟩:=r
  exact call_range_1 (zjv I1 (by omega) (by omega) q1 q2 (by simpa using q))
noncomputable def tFor (wi:TI) (g:TG) (tb:TS):TS:=fun D σ H=>wi σ H fun J H1=>∃ W:Nat→Nat→St→Hp→Prop,(∃ m,W 0 m σ H1)∧∀ i m σ H,W i m σ H→
 (J.stop i H∧D.nx σ H)∨(J.go i H∧∃ N:St→Hp→Prop,(∀ σ' H',N σ' H'→∃ m',m' < m∧W (i + 1) m' σ' H')∧∀ x H',J.yld i H x H'→g x σ H' fun σ2 H2=>tb { D with nx:=N,ct:=N,bk:=D.nx } σ2 H2)
noncomputable def zfI (fp:List Addr) (h:Heap):List (Addr×Obj):=fp.filterMap fun b=>(h.get? b).map fun o=>(b,o)
theorem zcF {fp:List Addr}{h:Heap} {b:Addr}{o:Obj} (hb:b∈fp) (e:h.get? b=some o):(b,o)∈zfI fp h:=List.mem_filterMap.mpr ⟨b,hb,by rw [e];rfl⟩
theorem ziv {fp:List Addr}{h:Heap} {p:Addr×Obj}(hp:p∈zfI fp h):p.1∈fp∧h.get? p.1=some p.2:=by
 obtain ⟨b,hb,e⟩:=List.mem_filterMap.mp hp
 cases q:h.get? b with
 | none=>rw [q] at e;cases e
 | some o=>
  rw [q] at e
  have e':(b,o)=p:=Option.some.inj e
  subst e'
  exact ⟨hb,q⟩
theorem Inv.pinned {pins:List (Addr×Obj)}{σ:St} {H:Hp}{s:Shared} {fp:List Addr}(I:Inv X pins σ H s) (hf:∀ b∈fp,FpOk X pins H b) (ho:∀ b∈fp,∃ o,s.heap.get? b=some o∧∀ v,o.data≠.cell v):Inv X (pins++zfI fp s.heap) σ H s:=
 I.pins_of fun p hp=>(List.mem_append.mp hp).elim (fun z=>I.pin p (List.mem_append_right _ z)) fun z=>by
  obtain ⟨hb,e⟩:=ziv z
  obtain ⟨f0,f1,f2,_⟩:=hf p.1 hb
  obtain ⟨o,e',d⟩:=ho p.1 hb
  rw [e] at e';cases e'
  exact ⟨e,f0,f1,f2,d⟩
theorem Inv.unpinned {pins pl:List (Addr×Obj)}{σ:St} {H:Hp}{s:Shared} (I:Inv X (pins++pl) σ H s):Inv X pins σ H s:=I.pins_of fun p hp=>I.pin p (List.mem_append_right _ (List.mem_append_left _ hp))
theorem zmq {iter:Expr}{body:List Stmt} {wi:TI}{g:TG} {tb:TS}{pos:Pos} (hp:PassesOwn (model X.prog X.w) X.A X.env X.xe) (hc:X.calm=true) (hi:PI X tg iter wi) (hg:PG X tg g) (hb:PSs X body tb)
  (hs:∀ x,foldedSetIterable iter X.env x=pure x:=by intro _;rfl):PS X (.For tg iter body [] pos) (tFor wi g tb):=by
 intro pins s σ H D I h
 refine wpAny_For (thn (hi pins s σ H _ I h) fun v s1 h1=>thn h1 fun itv s2 h2=>?_) hs
 obtain ⟨it,fp,tn,J,H2,e,I2,T,st2,f2,W,⟨m0,w0⟩,turn⟩:=h2
 subst e
 have stat:∀ {H':Hp},(∀ b∈fp,H' b=none)→∀ b∈fp,FpOk X pins H' b:=fun hn b hb=>⟨hn b hb,(f2 b hb).2⟩
 refine codeAny_forLoop_any (fun n s'=>∃ i σ' H',Inv X pins σ' H' s'∧tn i s'.heap∧(∀ b∈fp,H' b=none)∧W i n σ' H') ?_ m0 ⟨0,σ,H2,I2,st2,fun b hb=>(f2 b hb).1,w0⟩
 rintro n s3 ⟨i,σ3,H3,I3,st3,fr3,w3⟩
 rcases turn i n σ3 H3 w3 with ⟨stop,qn⟩ | ⟨go,N,hN,step⟩
 ·refine wpAny_passesOwn hp (thn (T.done X rfl rfl rfl hc i pins s3 σ3 H3 X.xe I3 (stat fr3) st3 stop) fun r s4 ⟨hr,I4⟩=>?_)
  subst hr
  exact wpAny_execs_nil ⟨σ3,H3,I4,qn⟩
 ·refine wpAny_passesOwn hp (thn (T.item X rfl rfl rfl hc i pins s3 σ3 H3 X.xe I3 (stat fr3) st3 go) fun r s4 ⟨u,hr,h4⟩=>?_)
  subst hr
  refine wpAny_passesOwn hp (thn h4 fun _ s5 ⟨x,H5,I5,r5,y5,st5,fr5⟩=>?_)
  have I5':=I5.pinned (stat fr5) (T.obj _ _ st5)
  refine wpAny_passesOwn hp (thn (hg _ s5 σ3 H5 x u _ I5' r5 (step x H5 y5)) fun _ s6 ⟨σ6,H6,I6,q6⟩=>?_)
  refine wpAny_passesOwn hp (thn (hb _ s6 σ6 H6 _ I6 q6) fun f s7 q7=>?_)
  have again:∀ {σ7:St}{H7:Hp},Inv X (pins++zfI fp s5.heap) σ7 H7 s7→N σ7 H7→∃ m,m < n∧∃ i σ' H',Inv X pins σ' H' s7∧tn i s7.heap∧(∀ b∈fp,H' b=none)∧W i m σ' H':=fun {σ7 H7} I7 n7=>by
   obtain ⟨m',hm,w7⟩:=hN σ7 H7 n7
   refine ⟨m',hm,i + 1,σ7,H7,I7.unpinned,T.keep _ _ _ st5 fun b hb o e=>(I7.pin (b,o) (List.mem_append_right _ (List.mem_append_right _ (zcF hb e)))).1,fun b hb=>?_,w7⟩
   obtain ⟨o,e,d⟩:=T.obj _ _ st5 b hb
   exact (I7.pin (b,o) (List.mem_append_right _ (List.mem_append_right _ (zcF hb e)))).2.1
  cases f with
  | next=>obtain ⟨σ7,H7,I7,n7⟩:=q7;exact again I7 n7
  | cont=>obtain ⟨σ7,H7,I7,n7⟩:=q7;exact again I7 n7
  | brk=>obtain ⟨σ7,H7,I7,q7⟩:=q7;exact ⟨σ7,H7,I7.unpinned,q7⟩
  | ret v=>obtain ⟨x7,σ7,H7,I7,r7,q7⟩:=q7;exact ⟨x7,σ7,H7,I7.unpinned,r7,q7⟩
end
end L2
namespace L2
open PySem PySem.Spec PyProof.Rows
noncomputable abbrev R2:=V→V→Hp→VK→Prop
noncomputable def OpR (X:Cx) (f:Value→Value→Sem Value) (r:R2):Prop:=
 ∀ (pins:List (Addr×Obj)) (s:Shared) (σ:St) (H:Hp) (x y:V) (v u:Value) (Q:VK),Inv X pins σ H s→RelV x v→RelV y u→r x y H Q→
  wpAny (model X.prog X.w) X.A (f v u) (EP X pins σ Q) X.xe s
noncomputable def UnR (X:Cx) (f:Value→Sem Value) (r:V→Hp→VK→Prop):Prop:=
 ∀ (pins:List (Addr×Obj)) (s:Shared) (σ:St) (H:Hp) (x:V) (v:Value) (Q:VK),Inv X pins σ H s→RelV x v→r x H Q→
  wpAny (model X.prog X.w) X.A (f v) (EP X pins σ Q) X.xe s
noncomputable def zcN (X:Cx) (f:Value) (r:List V→Hp→VK→Prop):Prop:=
 ∀ (pins:List (Addr×Obj)) (s:Shared) (σ:St) (H:Hp) (xs:List V) (us:List Value) (Q:VK),Inv X pins σ H s→Vals xs us→r xs H Q→
  wpAny (model X.prog X.w) X.A (call f us) (EP X pins σ Q) X.xe s
noncomputable def tOp (r:R2) (ta tb:TE):TE:=fun σ H Q=>ta σ H fun x H1=>tb σ H1 fun y H2=>r x y H2 Q
noncomputable def tUn (r:V→Hp→VK→Prop) (ta:TE):TE:=fun σ H Q=>ta σ H fun x H1=>r x H1 Q
noncomputable def rI (C:Int→Int→Prop) (g:Int→Int→V):R2:=fun x y H Q=>∃ i j,x=.int i∧y=.int j∧C i j∧Q (g i j) H
noncomputable def rI0 (g:Int→Int→V):R2:=fun x y H Q=>∃ i j,x=.int i∧y=.int j∧Q (g i j) H
noncomputable def rU (g:Int→V):V→Hp→VK→Prop:=fun x H Q=>∃ i,x=.int i∧Q (g i) H
section
variable {X:Cx}{a b c:Expr} {ta tb tc:TE}{pos:Pos}
theorem binT (ha:PE X a ta) (hb:PE X b tb) {pins:List (Addr×Obj)}{s:Shared} {σ:St}{H:Hp} {R:V→V→Hp→Prop}(I:Inv X pins σ H s)
  (h:ta σ H fun x H1=>tb σ H1 fun y H2=>R x y H2) {Q:Value→Shared→Prop}{f:Value→Value→Sem Value}
  (hf:∀ v u s2 x y H2,Inv X pins σ H2 s2→RelV x v→RelV y u→R x y H2→wpAny (model X.prog X.w) X.A (f v u) Q X.xe s2) :
  wpAny (model X.prog X.w) X.A (eval a X.env) (fun v s₁=>wpAny (model X.prog X.w) X.A (eval b X.env) (fun u s₂=>wpAny (model X.prog X.w) X.A (f v u) Q X.xe s₂) X.xe s₁) X.xe s:=by
 refine thn (ha pins s σ H _ I h) fun v s1 h_=>?_
 obtain ⟨x,H1,I1,r1,q1⟩:=h_
 refine thn (hb pins s1 σ H1 _ I1 q1) fun u s2 h_=>?_
 obtain ⟨y,H2,I2,r2,q2⟩:=h_
 exact hf v u s2 x y H2 I2 r1 r2 q2
theorem pe_op {op:Operator}{r:R2} (ho:OpR X (binaryOp op) r) (ha:PE X a ta) (hb:PE X b tb):PE X (.BinOp a op b pos) (tOp r ta tb):=by
 intro pins s σ H Q I h
 exact wpAny_BinOp (binT ha hb I h fun v u s2 x y H2 I2 rx ry q=>ho pins s2 σ H2 x y v u Q I2 rx ry q)
theorem pe_un {op:UnaryOp}{r:V→Hp→VK→Prop} (ho:UnR X (unaryOp op) r) (ha:PE X a ta):PE X (.UnaryOp op a pos) (tUn r ta):=by
 intro pins s σ H Q I h
 exact UnaryOp_ (thn (ha pins s σ H _ I h) fun v s1 ⟨x,H1,I1,r1,q1⟩=>ho pins s1 σ H1 x v Q I1 r1 q1)
theorem opI {f:Value→Value→Sem Value}{C:Int→Int→Prop} {g:Int→Int→Int}
  (rule:∀ (i j:Int) (t u:Tok) (s:Shared) (Q:Value→Shared→Prop) (E:Value→Shared→Prop),C i j→Q (.int (g i j) s.toks) { s with toks:=s.toks + 1 }→wpAny (model X.prog X.w) X.A (f (.int i t) (.int j u)) Q E s) :
  OpR X f (rI C fun i j=>.int (g i j)):=by
 intro pins s σ H x y v u Q I rx ry h
 obtain ⟨i,j,rfl,rfl,hc,q⟩:=h
 obtain ⟨t,rfl⟩:=rx
 obtain ⟨t',rfl⟩:=ry
 exact rule i j t t' s _ _ hc ⟨.int (g i j),H,I.tok _,⟨_,rfl⟩,q⟩
theorem opI0 {f:Value→Value→Sem Value}{g:Int→Int→Int}
  (rule:∀ (i j:Int) (t u:Tok) (s:Shared) (Q:Value→Shared→Prop) (E:Value→Shared→Prop),Q (.int (g i j) s.toks) { s with toks:=s.toks + 1 }→wpAny (model X.prog X.w) X.A (f (.int i t) (.int j u)) Q E s) :
  OpR X f (rI0 fun i j=>.int (g i j)):=by
 intro pins s σ H x y v u Q I rx ry h
 obtain ⟨i,j,rfl,rfl,q⟩:=h
 obtain ⟨t,rfl⟩:=rx
 obtain ⟨t',rfl⟩:=ry
 exact rule i j t t' s _ _ ⟨.int (g i j),H,I.tok _,⟨_,rfl⟩,q⟩
theorem opB0 {f:Value→Value→Sem Value}{g:Int→Int→Bool}
  (rule:∀ (i j:Int) (t u:Tok) (s:Shared) (Q:Value→Shared→Prop) (E:Value→Shared→Prop),Q (.bool (g i j)) s→wpAny (model X.prog X.w) X.A (f (.int i t) (.int j u)) Q E s) :
  OpR X f (rI0 fun i j=>.bl (g i j)):=by
 intro pins s σ H x y v u Q I rx ry h
 obtain ⟨i,j,rfl,rfl,q⟩:=h
 obtain ⟨t,rfl⟩:=rx
 obtain ⟨t',rfl⟩:=ry
 exact rule i j t t' s _ _ ⟨.bl (g i j),H,I,rfl,q⟩
noncomputable def CDiv (i j:Int):Prop:=0 < j∧j < 1073741824
noncomputable def CPow (i j:Int):Prop:=0≤j∧j≤1000000∧i.natAbs < 2 ^ 64
noncomputable def CMul (i j:Int):Prop:=(-(2 ^ 64) < i∧i < 2 ^ 64)∨(-(2 ^ 64) < j∧j < 2 ^ 64)
theorem CMul.ok {i j:Int}(h:CMul i j):IntMulOk i j:=by
 rcases h with ⟨h1,h2⟩ | ⟨h1,h2⟩
 ·exact .of_left (intBits_le_64 h1 h2)
 ·exact .of_right (intBits_le_64 h1 h2)
theorem zmI:OpR X (binaryOp .Add) (rI0 fun i j=>.int (i + j)):=opI0 fun _ _ _ _ _ _ _ q=>add_int q
theorem zmB:OpR X (binaryOp .Sub) (rI0 fun i j=>.int (i - j)):=opI0 fun _ _ _ _ _ _ _ q=>sub_int q
theorem zmE:OpR X (binaryOp .Mult) (rI CMul fun i j=>.int (i * j)):=opI fun _ _ _ _ _ _ _ hc q=>mul_int q hc.ok
theorem zlp:OpR X (binaryOp .FloorDiv) (rI CDiv fun i j=>.int (i / j)):=opI fun i j _ _ _ _ _ hc q=>by
 have h1:(0:Int) < j:=hc.1
 have h2:j < 1073741824:=hc.2
 exact floordiv_int (by omega) (by rw [Int.fdiv_eq_ediv_of_nonneg i (by omega)];exact q) (.inl (PyProof.noPylong_small (by omega)))
theorem zmF:OpR X (binaryOp .Mod) (rI (fun _ j=>0 < j) fun i j=>.int (i % j)):=opI fun i j _ _ _ _ _ hc q=>by
 have h1:(0:Int) < j:=hc
 exact mod_int' (by omega) (by rw [Int.fmod_eq_emod_of_nonneg i (by omega)];exact q)
theorem zmC:OpR X (binaryOp .Pow) (rI CPow fun i j=>.int (i ^ j.toNat)):=opI fun _ _ _ _ _ _ _ hc q=>pow_int_small hc.1 hc.2.1 hc.2.2 q
theorem unI {f:Value→Sem Value}{g:Int→Int}
  (rule:∀ (i:Int) (t:Tok) (s:Shared) (Q:Value→Shared→Prop) (E:Value→Shared→Prop),Q (.int (g i) s.toks) { s with toks:=s.toks + 1 }→wpAny (model X.prog X.w) X.A (f (.int i t)) Q E s) :
  UnR X f (rU fun i=>.int (g i)):=by
 intro pins s σ H x v Q I rx h
 obtain ⟨i,rfl,q⟩:=h
 obtain ⟨t,rfl⟩:=rx
 exact rule i t s _ _ ⟨.int (g i),H,I.tok _,⟨_,rfl⟩,q⟩
theorem zlV:UnR X (unaryOp .USub) (rU fun i=>.int (-i)):=unI fun _ _ _ _ _ q=>neg_int q
end
section
variable {X:Cx}{a b c:Expr} {ta tb tc:TE}{pos:Pos}
theorem znd {pins:List (Addr×Obj)}{σ:St} {H:Hp}{s:Shared} {Q:VK}{k k':Bool} (I:Inv X pins σ H s) (q:Q (.bl k) H) (e:k=k'):EP X pins σ Q (.bool k') s:=by
 subst e
 exact ⟨.bl k,H,I,rfl,q⟩
theorem op_lt:OpR X (compareOp .Lt) (rI0 fun i j=>.bl (decide (i < j))):=opB0 fun _ _ _ _ _ _ _ q=>lt_int q
theorem op_le:OpR X (compareOp .LtE) (rI0 fun i j=>.bl (decide (i≤j))):=opB0 fun _ _ _ _ _ _ _ q=>le_int q
theorem op_gt:OpR X (compareOp .Gt) (rI0 fun i j=>.bl (decide (j < i))):=opB0 fun _ _ _ _ _ _ _ q=>gt_int q
theorem op_ge:OpR X (compareOp .GtE) (rI0 fun i j=>.bl (decide (j≤i))):=opB0 fun _ _ _ _ _ _ _ q=>ge_int q
theorem zlo:OpR X (compareOp .IsNot) (fun x y H Q=>y=.non∧Q (.bl (!decide (x=.non))) H):=by
 intro pins s σ H x y v u Q I rx ry h
 obtain ⟨rfl,q⟩:=h
 cases ry
 refine isnot_none_gen (znd I q ?_)
 cases x<;>first
  | (cases rx;rfl)
  | (obtain ⟨t,rfl⟩:=rx;rfl)
theorem OpR.or {f:Value→Value→Sem Value}{r r':R2} (h:OpR X f r) (h':OpR X f r'):OpR X f (fun x y H Q=>r x y H Q∨r' x y H Q):=by
 intro pins s σ H x y v u Q I rx ry q
 rcases q with q | q
 ·exact h pins s σ H x y v u Q I rx ry q
 ·exact h' pins s σ H x y v u Q I rx ry q
theorem zaH (b:Expr) {op:CmpOp}(h:op≠.In:=by decide) (h2:op≠.NotIn:=by decide):behindInMarks op b=false:=by
 have e1:(op == CmpOp.In)=false:=by cases op<;>first | rfl | exact absurd rfl h
 have e2:(op == CmpOp.NotIn)=false:=by cases op<;>first | rfl | exact absurd rfl h2
 cases b<;>simp [behindInMarks,e1,e2]
theorem zlk {op:CmpOp}{r:R2} (ho:OpR X (compareOp op) r) (ha:PE X a ta) (hb:PE X b tb) (hm:behindInMarks op b=false):PE X (.Compare a [op] [b] pos) (tOp r ta tb):=by
 intro pins s σ H Q I h
 exact wpAny_Compare1 (binT ha hb I h fun v u s2 x y H2 I2 rx ry q=>ho pins s2 σ H2 x y v u Q I2 rx ry q) hm
noncomputable def zny (t:TE):TT:=fun σ H Q=>t σ H fun x H'=>∃ k,x=.bl k∧Q k H'
theorem zlb {op:CmpOp}{r:R2} (ho:OpR X (compareOp op) r) (ha:PE X a ta) (hb:PE X b tb) (hm:behindInMarks op b=false):PT X (.Compare a [op] [b] pos) (zny (tOp r ta tb)):=by
 intro pins s σ H Q I h
 refine wpAny_isTrue_Compare1 (thn (ha pins s σ H _ I h) fun v s1 ⟨x,H1,I1,r1,q1⟩=>thn (hb pins s1 σ H1 _ I1 q1) fun u s2 ⟨y,H2,I2,r2,q2⟩=>
  thn (ho pins s2 σ H2 x y v u _ I2 r1 r2 q2) fun c s3 ⟨z,H3,I3,r3,k,e,q3⟩=>?_) hm
 subst e
 cases r3
 exact wpAny_truthy_bool ⟨H3,I3,q3⟩
theorem zfS:(sizeLine:Nat) < 2 ^ 63:=by rw [sizeLine_eq];decide
theorem zhv:OpR X (binaryOp .Add) (fun x y H Q=>∃ i j,x=.str i∧y=.str j∧i.length + j.length≤sizeLine∧Q (.str (i++j)) H):=by
 intro pins s σ H x y v u Q I rx ry h
 obtain ⟨i,j,rfl,rfl,hz,q⟩:=h
 obtain ⟨t,rfl⟩:=rx
 obtain ⟨t',rfl⟩:=ry
 exact add_str (fun t' tk=>⟨.str (i++j),H,I.tok _,⟨_,rfl⟩,q⟩) hz
theorem zfx {x:V}{us:List Value} (r:Vals [x] us):∃ u,us=[u]∧RelV x u:=by
 cases r with
 | cons r1 r2=>cases r2;exact ⟨_,rfl,r1⟩
theorem zhQ {x y:V}{us:List Value} (r:Vals [x,y] us):∃ u w',us=[u,w']∧RelV x u∧RelV y w':=by
 cases r with
 | cons r1 r2=>
  cases r2 with
  | cons r3 r4=>cases r4;exact ⟨_,_,rfl,r1,r3⟩
end
end L2
namespace L2
open PySem PySem.Spec PyProof.Rows
structure ObjM (h:Heap) (x dx C:Addr) (mA:Str→Option Value):Prop where
 obj:h.get? x=some (PySem.W.instObj C dx)
 ns:h.Ns1 dx mA
 ne:dx≠x
theorem zfR {h:Heap}{dx:Addr} {mA:Str→Option Value}(n:h.Ns1 dx mA):∃ od,h.get? dx=some od∧∀ name,PySem.W.lookIn name od=some (mA name):=by
 obtain ⟨o,es,ep,ho,hd,hk,_,hm⟩:=n
 refine ⟨o,ho,fun name=>?_⟩
 have e:=hm name
 unfold nsFind findBy at e
 rw [← Array.find?_toList] at e
 unfold PySem.W.lookIn
 rw [hd]
 dsimp only
 split
 ·rename_i y q
  rw [q] at e
  exact congrArg some e
 ·rename_i q
  rw [q] at e
  have a:es.toList.any (·.refKey)=false:=by
   rw [List.any_eq_false]
   intro y hy
   obtain ⟨z,t,hkey⟩:=hk y (Array.mem_toList_iff.mp hy)
   simp [DictEntry.refKey,hkey]
  have a':¬ es.toList.any (·.refKey)=true:=by rw [a];exact Bool.false_ne_true
  rw [if_neg a']
  exact congrArg some e
theorem ObjM.look {h:Heap}{x dx C:Addr} {mA:Str→Option Value}(I:ObjM h x dx C mA):∃ od,PySem.W.InstAt h x (PySem.W.instObj C dx) C (some od)∧∀ name,PySem.W.lookIn name od=some (mA name):=
 let ⟨od,ho,hl⟩:=zfR I.ns
 ⟨od,⟨I.obj,rfl,rfl,ho⟩,hl⟩
section
variable {prog:Program}{w:World} {A:Around}{E:Value→Shared→Prop} {s:Shared}{K:PySem.W.Frag} {x dx C f:Addr}{mA:Str→Option Value} {name:Str}{v:Value}
end
theorem ziN {v:V}{u:Value} (r:RelV v u):PySem.W.handedIn u=true:=by
 cases v with
 | non=>cases (show u=Value.none from r);rfl
 | bl b=>cases (show u=Value.bool b from r);rfl
 | int i=>obtain ⟨t,e⟩:=(show ∃ t,u=Value.int i t from r);cases e;rfl
 | str x=>obtain ⟨t,e⟩:=(show ∃ t,u=Value.str x t from r);cases e;rfl
 | byt b=>obtain ⟨t,e⟩:=(show ∃ t,u=Value.bytes b t from r);cases e;rfl
 | flt b=>obtain ⟨t,e⟩:=(show ∃ t,u=Value.float b t from r);cases e;rfl
 | ref a=>cases (show u=Value.ref a from r);rfl
 | ty n=>cases (show u=Value.type n from r);rfl
section
variable {P:Program}{w:World} {H H':Hp}{h h':Heap} {a C dx:Addr}{fs fs':List (Str×V)}
theorem zlB (hok:HOk P w H h) (e:H a=some (.ins C dx fs)):∃ mA,ObjM h a dx C mA∧(∀ f,RelO (fs.lookup f) (mA f))∧PySem.Within mA (fs.map (·.1))∧fs.length≤1000∧H dx=some (.own a):=by
 obtain ⟨d,z,ne,ob,mA,n,r,q⟩:=(show zbK P w H h a (.ins C dx fs) from hok a _ e)
 exact ⟨mA,⟨ob,n,ne⟩,r,q,z,d⟩
end
structure Cls (K:PySem.W.Frag) (C:Addr):Prop where
 pg:PySem.W.plainGet K C Str.empty=true
 hd:PySem.W.hasDictIn K C=true
 po:PySem.W.plainOver K C=true
 sa:PySem.W.findIn K (.ref C) "__setattr__" = some (some (.builtin "object.__setattr__"))
theorem Cls.get {K:PySem.W.Frag}{C:Addr} (c:Cls K C) (f:Str):PySem.W.plainGet K C f=true:=c.pg
section
variable {X:Cx}{pins:List (Addr×Obj)} {σ:St}{H:Hp} {s:Shared}{a C dx:Addr} {fs:List (Str×V)}{f:Str} {v:V}{A:Around} {E:Value→Shared→Prop}
theorem zlR {prog:Program}{w:World} {env:Env}{e:Expr} {f:Str}{pos:Pos} {s:Shared}{Q:Value→Shared→Prop} (hb:attributeBase e f env (eval e env)=eval e env)
  (h:wpAny (model prog w) A (eval e env) (fun o s₁=>wpAny (model prog w) A (getAttr o f true) Q E s₁) E s):wpAny (model prog w) A (eval (.Attribute e f pos) env) Q E s:=
 Attribute_any_ h (by rw [arm_eval_Attribute,hb])
end
section
variable {X:Cx}{o e value:Expr} {f:Str}{pos pos' tpos:Pos} {ta tv:TE}
end
section
variable {X:Cx}{pins:List (Addr×Obj)} {σ:St}{H:Hp} {s:Shared}{A:Around} {E:Value→Shared→Prop}{Q:Value→Shared→Prop} {c:Value}{b:Bool}
inductive TyOf (K:PySem.W.Frag) (H:Hp):V→Value→Prop where
 | non:TyOf K H .non (.type "NoneType")
 | bl (x:Bool):TyOf K H (.bl x) (.type "bool")
 | int (i:Int):TyOf K H (.int i) (.type "int")
 | str (x:Str):TyOf K H (.str x) (.type "str")
 | flt (x:UInt64):TyOf K H (.flt x) (.type "float")
 | lst {a:Addr}{xs:List V} (e:H a=some (.lst xs)):TyOf K H (.ref a) (.type "list")
 | frz {a:Addr}{o:Obj} {xs:List V}(e:H a=some (.frz o (.lst xs))):TyOf K H (.ref a) (.type "list")
 | tup {a:Addr}{xs:List V} (e:H a=some (.tup xs)):TyOf K H (.ref a) (.type "tuple")
 | dK {a:Addr}{kvs:List (Key×V)} (e:Rd H a (.dK kvs)):TyOf K H (.ref a) (.type "dict")
 | dT {a:Addr}{kvs:List (List Key×V)} (e:Rd H a (.dT kvs)):TyOf K H (.ref a) (.type "dict")
 | ins {a C dx:Addr}{fs:List (Str×V)} (e:H a=some (.ins C dx fs)) (cl:Cls K C) (ha:PySem.W.findIn K (.ref C) "__class__" = some (some (.builtin "object.__class__")))
   (hn:PySem.W.specialIn K (.builtin "object.__class__") "__get__" = some (some (.builtin "getset_descriptor.__get__"))) (htk:PySem.W.takesIn K (.builtin "object.__class__")=some true)
   (hm:PySem.W.mroIn K C (.type "object")=some true):TyOf K H (.ref a) (.ref C)
theorem ziH {x:V}{u t:Value} (I:Inv X pins σ H s) (rx:RelV x u) (ty:TyOf X.K H x t) (e:PySem.W.kitOne X.K t c=some b) (h:∀ tk,Q (.bool b) { s with toks:=tk }) :
  wpAny (model X.prog X.w) A (call (.builtin "isinstance") [u,c]) Q E s:=by
 cases ty with
 | non=>cases (show u=Value.none from rx);exact PySem.W.kia_one PySem.W.kitx_none I.kIn True.intro e (fun z=>nomatch z) h
 | bl y=>cases (show u=Value.bool y from rx);exact PySem.W.kia_one PySem.W.kitx_bool I.kIn True.intro e (fun z=>nomatch z) h
 | int i=>obtain ⟨t,q⟩:=(show ∃ t,u=Value.int i t from rx);cases q;exact PySem.W.kia_one PySem.W.kitx_int I.kIn True.intro e (fun z=>nomatch z) h
 | str y=>obtain ⟨t,q⟩:=(show ∃ t,u=Value.str y t from rx);cases q;exact PySem.W.kia_one PySem.W.kitx_str I.kIn True.intro e (fun z=>nomatch z) h
 | flt y=>obtain ⟨t,q⟩:=(show ∃ t,u=Value.float y t from rx);cases q;exact PySem.W.kia_one PySem.W.kitx_float I.kIn True.intro e (fun z=>nomatch z) h
 | @lst a xs ea=>
  cases (show u=Value.ref a from rx)
  obtain ⟨_,_,n,_,h1⟩:=(show zbK X.prog X.w H s.heap a (.lst xs) from I.hok a _ ea)
  exact PySem.W.kia_one PySem.W.kitx_list I.kIn ⟨_,h1,rfl⟩ e (fun z=>nomatch z) h
 | @frz a ob xs ea=>
  cases (show u=Value.ref a from rx)
  obtain ⟨_,_,_,n,_,h1⟩:=(show zbK X.prog X.w H s.heap a (.frz ob (.lst xs)) from I.hok a _ ea)
  exact PySem.W.kia_one PySem.W.kitx_list I.kIn ⟨_,h1,rfl⟩ e (fun z=>nomatch z) h
 | @tup a xs ea=>
  cases (show u=Value.ref a from rx)
  obtain ⟨_,_,_,p⟩:=(show zbK X.prog X.w H s.heap a (.tup xs) from I.hok a _ ea)
  obtain ⟨o,h1,h2,_⟩:=p
  exact PySem.W.kia_one PySem.W.kitx_tuple I.kIn ⟨o,h1,h2⟩ e (fun z=>nomatch z) h
 | @dK a kvs ea=>
  cases (show u=Value.ref a from rx)
  obtain ⟨_,_,vs,_,p⟩:=(show zbK X.prog X.w H s.heap a (.dK kvs) from ea.ok I.hok)
  obtain ⟨o,es,ep,h1,h2,_⟩:=p
  exact PySem.W.kia_one PySem.W.kitx_dict I.kIn ⟨o,h1,h2.1⟩ e (fun z=>nomatch z) h
 | @dT a kvs ea=>
  cases (show u=Value.ref a from rx)
  obtain ⟨_,_,xs,_,o,es,ep,h1,h2,_⟩:=(show zbK X.prog X.w H s.heap a (.dT kvs) from ea.ok I.hok)
  exact PySem.W.kia_one PySem.W.kitx_dict I.kIn ⟨o,h1,h2.1⟩ e (fun z=>nomatch z) h
 | @ins a C dx fs ea cl ha hn htk hm=>
  cases (show u=Value.ref a from rx)
  obtain ⟨mA,O,_⟩:=zlB I.hok ea
  obtain ⟨od,J,_⟩:=O.look
  exact PySem.W.kia_one (PySem.W.kitx_own (cl.get _) cl.hd ha hn htk hm) I.kIn J e (fun z=>nomatch z) h
end
end L2
namespace L2
open PySem PySem.Spec PyProof.Rows
structure Room (k:Nat) (A:Around):Prop where
 hd:A.handled=none
 dp:A.depth + 3 * k + 5 < recursionLimit
 un:A.units + 16 * k + 200 < cLine
 gd:A.guards=some []
theorem Room.mono {j k:Nat}{A:Around} (r:Room k A) (h:j≤k):Room j A:=⟨r.hd,by have:=r.dp;omega,by have:=r.un;omega,r.gd⟩
theorem Room.deeper {k:Nat}{A:Around} (r:Room (k + 1) A) (env:Env):Room k (A.deeper env):=
 ⟨r.hd,by have:=r.dp;show A.depth + 1 + 3 * k + 5 < _;omega,by have:=r.un;show A.units + 3 + 16 * k + 200 < _;omega,r.gd⟩
theorem Room.in1 {k:Nat}{A:Around} (r:Room (k + 1) A):Room k A.in1:=
 ⟨r.hd,by have:=r.dp;show A.depth + 3 * k + 5 < _;omega,by have:=r.un;show A.units + 1 + 16 * k + 200 < _;omega,r.gd⟩
theorem zhC {A:Around}{C:Addr} {us:List Value}{kw:List (Str×Value)}:(A.under (.builtin "type.__call__" ⟨.ref C::us,kw⟩)).depth=A.depth + 1:=by
 first | rfl | simp [Around.under,Code.weight,Code.isCreation,Code.isGuard,Code.isCaller,Code.frames,Code.isFrame,guardIds]
theorem zhB {A:Around}{C:Addr} {us:List Value}{kw:List (Str×Value)}:(A.under (.builtin "type.__call__" ⟨.ref C::us,kw⟩)).units=A.units + 1:=by
 first | rfl | simp [Around.under,Code.cUnits,Code.frames,Code.isFrame]
theorem Room.make {k:Nat}{A:Around} (r:Room (k + 1) A) (C:Addr) (us:List Value) (kw:List (Str×Value)):Room k (A.under (.builtin "type.__call__" ⟨.ref C::us,kw⟩)):=
 ⟨r.hd,by have:=r.dp;rw [zhC];omega,by have:=r.un;rw [zhB];omega,by first | exact r.gd | (simp [Around.under,Code.isGuard,guardIds];exact r.gd)⟩
theorem Room.depth {k:Nat}{A:Around} (r:Room k A):A.depth < recursionLimit:=by have:=r.dp;omega
noncomputable def tNil:TA:=fun _ H Q=>Q [] H
noncomputable def zex (ta:TE) (tr:TA):TA:=fun σ H Q=>ta σ H fun x H1=>tr σ H1 fun xs H2=>Q (x::xs) H2
section
variable {X:Cx}{e:Expr} {es:List Expr}{te:TE} {t:TA}{pos:Pos}
theorem zaV:PA X [] tNil:=fun _ _ _ _ H Q I h=>Calls.spliced_nil ⟨[],H,I,.nil,h⟩
theorem zaq (ha:PE X e te) (hr:PA X es t) (hs:starEach (e::es) X.env=(false,eval e X.env)::starEach es X.env:=by rfl):PA X (e::es) (zex te t):=by
 intro pos pins s σ H Q I h
 rw [hs]
 show wpAny _ _ (spliced ((false,eval e X.env)::backTo pos (starEach es X.env))) _ _ s
 refine Calls.spliced_cons (thn (ha pins s σ H _ I h) fun u s1 ⟨x,H1,I1,r1,q1⟩=>?_)
 exact thn (hr pos pins s1 σ H1 _ I1 q1) fun us s2 ⟨xs,H2,I2,r2,q2⟩=>⟨x::xs,H2,I2,.cons r1 r2,q2⟩
noncomputable def tTup (t:TA):TE:=fun σ H Q=>t σ H fun xs H1=>xs.length≤sizeLine∧∀ p,H1 p=none→Q (.ref p) (upd H1 p (.tup xs))
noncomputable def tLst (t:TA):TE:=fun σ H Q=>t σ H fun xs H1=>xs.length≤sizeLine∧∀ p,H1 p=none→Q (.ref p) (upd H1 p (.lst xs))
theorem zkx {x1} (h:PA X es t):PE X (.Tuple es x1 pos) (tTup t):=by
 intro pins s σ H Q I hq
 refine wpAny_Tuple_spliced (thn (h pos pins s σ H _ I hq) fun us s1 ⟨xs,H1,I1,r,z,q⟩=>⟨by rw [← r.length];exact z,?_⟩)
 have hf:H1 s1.heap.objs.size=none:=I1.hok.fresh (Nat.le_refl _)
 refine ⟨.ref s1.heap.objs.size,upd H1 s1.heap.objs.size (.tup xs),I1.laid (t':=s1.toks) (fun b u e=>Heap.get?_push_of_some _ e) (Nat.le_refl _) ?_,rfl,q _ hf⟩
 exact ⟨z,us,r,⟨_,Heap.get?_push_size _ rfl,rfl,_,rfl⟩⟩
theorem zmy (h:PA X es t):PE X (.List es pos) (tLst t):=by
 intro pins s σ H Q I hq
 refine wpAny_List_spliced (thn (h pos pins s σ H _ I hq) fun us s1 ⟨xs,H1,I1,r,z,q⟩=>⟨by rw [← r.length];exact z,?_⟩)
 have hf:H1 s1.heap.objs.size=none:=I1.hok.fresh (Nat.le_refl _)
 refine ⟨.ref s1.heap.objs.size,upd H1 s1.heap.objs.size (.lst xs),I1.laid (t':=s1.toks) (fun b u e=>Heap.get?_push_of_some _ e) (Nat.le_refl _) ?_,rfl,q _ hf⟩
 exact ⟨z,us,0,r,Heap.get?_push_size _ rfl⟩
end
noncomputable abbrev Sp:=List V→Hp→VK→XK→Prop
noncomputable abbrev CXT:=List Env→Hp→Shared→XK→Value→Shared→Prop
structure Env0 (P:Program) (w:World) (K:PySem.W.Frag) (mg:Str→Option Value) (base:Heap) (A:Around) (outer:List Env) (s:Shared) (H:Hp):Prop where
 frames:A.frames=some outer
 mod:Mod K mg base
 bs:∀ b o,base.get? b=some o→s.heap.get? b=some o∧H b=none
 bsz:base.objs.size≤s.heap.objs.size
 funs:s.heap.FunFrames base outer
 frf:∀ b∈frs outer,H b=none
 hok:HOk P w H s.heap
 bare:AllBare s.gens
noncomputable def CE (outer:List Env) (P:Program) (w:World) (H:Hp) (s:Shared) (Q:VK) (u:Value) (s':Shared):Prop:=
 ∃ v H',s'.os=s.os∧AllBare s'.gens∧Un (frs outer) [] H H' s.heap s'.heap∧HOk P w H' s'.heap∧RelV v u∧Q v H'
noncomputable def CR (CX:CXT) (outer:List Env) (P:Program) (w:World) (H:Hp) (s:Shared) (Q:VK) (E:XK) (r:Result) (s':Shared):Prop:=
 match r with
 | .ok (.ret u)=>CE outer P w H s Q u s'
 | .ok _=>False
 | .error e=>CX outer H s E e s'
structure FnOk (P:Program) (w:World) (K:PySem.W.Frag) (mg:Str→Option Value) (base:Heap) (CX:CXT) (k:Nat) (f:Addr) (fd:FuncData) (ps:List Str) (sp:Sp):Prop where
 len:∀ vs H Q E,sp vs H Q E→vs.length=ps.length
 run:∀ (A:Around) (outer:List Env) (s:Shared) (H:Hp) (args:Args) (us:List Value) (vs:List V) (Q:VK) (E:XK),Room k A→Env0 P w K mg base A outer s H→BindsTo s fd args (ps.zip us)→Vals vs us→sp vs H Q E→
  codeAny (model P w) A (.call (.ref f) args) (CR CX outer P w H s Q E) s
theorem FnOk.mono {P:Program}{w:World} {K:PySem.W.Frag}{mg:Str→Option Value} {base:Heap}{CX:CXT} {j k:Nat}{f:Addr} {fd:FuncData}{ps:List Str} {sp:Sp}(F:FnOk P w K mg base CX j f fd ps sp) (h:j≤k) :
  FnOk P w K mg base CX k f fd ps sp:=⟨F.len,fun A outer s H args us vs Q E hr=>F.run A outer s H args us vs Q E (hr.mono h)⟩
theorem Env0.make {P:Program}{w:World} {K:PySem.W.Frag}{mg:Str→Option Value} {base:Heap}{A:Around} {outer:List Env}{s:Shared} {H:Hp}(e:Env0 P w K mg base A outer s H) (C:Addr) (us:List Value) (kw:List (Str×Value)) :
  Env0 P w K mg base (A.under (.builtin "type.__call__" ⟨.ref C::us,kw⟩)) outer s H:=⟨by first | exact e.frames | (simpa [Around.under,Code.envs,Code.isFrame,pushEnvs] using e.frames),e.mod,e.bs,e.bsz,e.funs,e.frf,e.hok,e.bare⟩
section
variable {X:Cx}{pins:List (Addr×Obj)} {σ:St}{H:Hp} {s s':Shared}
theorem Inv.env0 (I:Inv X pins σ H s):Env0 X.prog X.w X.K X.mg X.base X.A X.stack s H:=
 ⟨I.ok.frames,I.ok.mod,I.bs,Nat.le_trans I.ok.bsz I.sz,I.stack,I.stkFree,I.hok,I.bare⟩
theorem Inv.after {Q:VK}{u:Value} (I:Inv X pins σ H s) (h:CE X.stack X.prog X.w H s Q u s'):EP X pins σ Q u s':=by
 obtain ⟨v,H',os,bare,un,hok,r,q⟩:=h
 obtain ⟨hh,g,d,t,os'⟩:=s'
 obtain rfl:os'=s.os:=os
 exact ⟨v,H',I.call (h':=hh) (g':=g) (d':=d) (t':=t) (ch:=[]) un hok bare (fun b z=>absurd z (by simp)),r,q⟩
end
noncomputable def zkQ (sp:Sp) (dvs:List V) (E:XK) (t:TA):TE:=fun σ H Q=>t σ H fun vs H1=>sp (vs++dvs) H1 Q E
noncomputable def zbA (K:PySem.W.Frag) (fd:FuncData) (ps:List Str) (ds:List Value):Prop:=
 ∀ (s:Shared) (us:List Value),K.In s.heap→(us++ds).length=ps.length→BindsTo s fd ⟨us,[]⟩ (ps.zip (us++ds))
theorem zbA.all {K:PySem.W.Frag}{fd:FuncData} {ps:List Str}(h:∀ us:List Value,us.length=ps.length→bindArgs fd ⟨us,[]⟩=pure (ps.zip us)):zbA K fd ps []:=fun s us _ hl=>by
 rw [List.append_nil] at hl ⊢
 exact .of_eq (h us hl)
noncomputable def zjj (CX:CXT) (X:Cx) (E:XK):Prop:=∀ (pins:List (Addr×Obj)) (σ:St) (H:Hp) (s:Shared) (e:Value) (s':Shared),Inv X pins σ H s→CX X.stack H s E e s'→X.xe e s'
section
variable {X:Cx}{CX:CXT} {k:Nat}{f C:Addr} {fd:FuncData}{ps:List Str} {sp:Sp}{dvs:List V} {ds:List Value}{E:XK} {x m:Str}{p pos apos:Pos} {e o:Expr}{es:List Expr} {ta:TE}{t:TA}
theorem zku {pins:List (Addr×Obj)}{σ:St} {H:Hp}{s:Shared} {Q:VK}{us:List Value} {vs:List V}(F:FnOk X.prog X.w X.K X.mg X.base CX k f fd ps sp) (hr:Room k X.A) (hb:zbA X.K fd ps ds) (hd:Vals dvs ds) (hx:zjj CX X E)
  (I:Inv X pins σ H s) (r:Vals vs us) (h:sp (vs++dvs) H Q E):wpAny (model X.prog X.w) X.A (call (.ref f) us) (EP X pins σ Q) X.xe s:=by
 have r2:Vals (vs++dvs) (us++ds):=r.append hd
 have hl:(us++ds).length=ps.length:=by rw [← r2.length];exact F.len _ _ _ _ h
 refine wpAny_call (codeAny_mono (F.run X.A X.stack s H ⟨us,[]⟩ (us++ds) (vs++dvs) Q E hr I.env0 (hb s us I.kIn hl) r2 h) fun r s' hq=>?_)
 cases r with
 | error e=>exact hx pins σ H s e s' I hq
 | ok fl=>
  cases fl with
  | ret u=>exact I.after hq
  | next=>exact False.elim hq
  | brk=>exact False.elim hq
  | cont=>exact False.elim hq
theorem zim (F:FnOk X.prog X.w X.K X.mg X.base CX k f fd ps sp) (hr:Room k X.A) (hg:Gl X x) (hm:X.mg x=some (.ref f)) (hk:PySem.W.keepIn X.K (.ref f)=true) (hb:zbA X.K fd ps ds) (hd:Vals dvs ds) (hx:zjj CX X E)
  (ha:PA X (e::es) t) (hdb:(x == ("__debug__" : Str))=false:=by decide) (he:starEach (e::es) X.env=(false,eval e X.env)::starEach es X.env:=by rfl) (hpl:(backTo pos (starEach es X.env)).any (·.1)=false:=by rfl) :
  PE X (.Call (.Name x p) (e::es) [] pos) (zkQ sp dvs E t):=by
 intro pins s σ H Q I h
 refine wpAny_Call_Name_kw (zdd I hg hm ?_ hdb)
 refine PySem.W.callWith_K (h₀:=X.base) I.ok.mod.kin hk (thn (ha pos pins s σ H _ I h) fun us s1 ⟨vs,H1,I1,r,q⟩=>⟨I1.kIn,?_⟩) he hpl
 exact zku F hr hb hd hx I1 r q
end
noncomputable def PK (X:Cx) (kws:List Keyword) (t:TA):Prop:=
 ∀ (pos:Pos) (pins:List (Addr×Obj)) (s:Shared) (σ:St) (H:Hp) (Q:List V→Hp→Prop),Inv X pins σ H s→t σ H Q→wpAny (model X.prog X.w) X.A (evalAll ((backToKw pos (keywordEach kws X.env)).map (·.2))) (AP X pins σ Q) X.xe s
section
variable {X:Cx}{CX:CXT} {k:Nat}{f C:Addr} {fd:FuncData}{ps ks:List Str} {sp:Sp}{E:XK} {x m:Str}{p pos apos kpos:Pos} {e o:Expr}{es:List Expr} {kws:List Keyword}{te ta:TE} {t tk:TA}{nm:Option Str}
theorem zms:PK X [] tNil:=fun _ _ _ _ H Q I h=>wpAny_evalAll_nil ⟨[],H,I,.nil,h⟩
theorem zlf (ha:PE X e te) (hr:PK X kws t):PK X (⟨nm,e,kpos⟩::kws) (zex te t):=by
 intro pos pins s σ H Q I h
 show wpAny _ _ (evalAll ((do let v ← eval e X.env;standAt pos;pure v)::(backToKw pos (keywordEach kws X.env)).map (·.2))) _ _ s
 refine wpAny_evalAll_cons (wpAny_bind (thn (ha pins s σ H _ I h) fun u s1 ⟨x,H1,I1,r1,q1⟩=>wpAny_bind (wpAny_standAt (wpAny_pure ?_))))
 exact thn (hr pos pins s1 σ H1 _ I1 q1) fun us s2 ⟨xs,H2,I2,r2,q2⟩=>⟨x::xs,H2,I2,.cons r1 r2,q2⟩
variable {g:List Value→List Value→List Value}{gV:List V→List V→List V}
end
structure zar (N P:List Str) (sc:Scope):Prop where
 kind:sc.kind=.function
 co:sc.isCoroutine=false
 gen:sc.isGenerator=false
 nd:N.Nodup
 pre:N.take P.length=P
 par:∀ x∈P,sc.names.lookup x=some .local∨sc.names.lookup x=some .cell
 nofree:∀ y∈sc.names,y.2≠.free
theorem zgb {kindOf:Str→Option NameKind}{x:Str}:∀ {binds:List (Str×Value)}{m:Str→Option Value},(∀ v,(x,v)∉binds)→bindL kindOf binds m x=m x
 | [],_,_=>rfl
 | (n,v)::r,m,h=>by
  unfold bindL
  rw [zgb fun w hw=>h w (List.mem_cons_of_mem _ hw)]
  split
  ·have:x≠n:=by rintro rfl;exact h v List.mem_cons_self
   simp [this]
  ·rfl
theorem zgd {kindOf:Str→Option NameKind}{x:Str}:∀ {binds:List (Str×Value)}{m:Str→Option Value},(∀ v,(x,v)∉binds)→bindC kindOf binds m x=m x
 | [],_,_=>rfl
 | (n,v)::r,m,h=>by
  unfold bindC
  rw [zgd fun w hw=>h w (List.mem_cons_of_mem _ hw)]
  split
  ·rfl
  ·have:x≠n:=by rintro rfl;exact h v List.mem_cons_self
   simp [this]
theorem zgc {kindOf:Str→Option NameKind}{x:Str} {v:Value}:∀ {P:List Str}{vs:List Value} {i:Nat}{m:Str→Option Value},P.Nodup→P[i]?=some x→vs[i]?=some v→kindOf x=some .local→
  bindL kindOf (P.zip vs) m x=some v
 | [],_,_,_,_,h,_,_=>by simp at h
 | _::_,[],_,_,_,_,h,_=>by simp at h
 | p::P,w::vs,0,m,nd,h1,h2,hk=>by
  simp at h1 h2;subst h1;subst h2
  show bindL kindOf ((p,w)::P.zip vs) m p=_
  unfold bindL
  rw [zgb fun v hv=>(List.nodup_cons.mp nd).1 (List.of_mem_zip hv).1,if_pos hk]
  simp
 | p::P,w::vs,i + 1,m,nd,h1,h2,hk=>by
  show bindL kindOf ((p,w)::P.zip vs) m x=_
  unfold bindL
  exact zgc (i:=i) (List.nodup_cons.mp nd).2 (by simpa using h1) (by simpa using h2) hk
theorem zge {kindOf:Str→Option NameKind}{x:Str} {v:Value}:∀ {P:List Str}{vs:List Value} {i:Nat}{m:Str→Option Value},P.Nodup→P[i]?=some x→vs[i]?=some v→kindOf x≠some .local→
  bindC kindOf (P.zip vs) m x=some v
 | [],_,_,_,_,h,_,_=>by simp at h
 | _::_,[],_,_,_,_,h,_=>by simp at h
 | p::P,w::vs,0,m,nd,h1,h2,hk=>by
  simp at h1 h2;subst h1;subst h2
  show bindC kindOf ((p,w)::P.zip vs) m p=_
  unfold bindC
  rw [zgd fun v hv=>(List.nodup_cons.mp nd).1 (List.of_mem_zip hv).1,if_neg hk]
  simp
 | p::P,w::vs,i + 1,m,nd,h1,h2,hk=>by
  show bindC kindOf ((p,w)::P.zip vs) m x=_
  unfold bindC
  exact zge (i:=i) (List.nodup_cons.mp nd).2 (by simpa using h1) (by simpa using h2) hk
noncomputable def start (N:List Str) (vs:List V):St:=vs.map some++List.replicate (N.length - vs.length) none
noncomputable def cxOf (CX:CXT) (P:Program) (w:World) (K:PySem.W.Frag) (mg:Str→Option Value) (base:Heap) (N:List Str) (qual:Str) (scope:Scope) (f:Addr) (cd:Value) (A:Around) (outer:List Env) (s:Shared) (H:Hp) (E:XK):Cx where
 prog:=P
 w:=w
 K:=K
 mg:=mg
 base:=base
 A:=A.deeper (envOfC qual scope s.heap.objs.size f cd)
 N:=N
 s₀:=s
 H₀:=H
 env:=envOfC qual scope s.heap.objs.size f cd
 outer:=outer
 stack:=envOfC qual scope s.heap.objs.size f cd::outer
 ex:=[]
 calm:=true
 fn:=fun _=>true
 pn:=[]
 xe:=fun e s'=>wpAny (model P w) (A.deeper (envOfC qual scope s.heap.objs.size f cd)) (leaving (envOfC qual scope s.heap.objs.size f cd) e) (fun _ s''=>CX outer H s E e s'') (fun e' s''=>CX outer H s E e' s'') s'
theorem zhh {sc:Scope}{n:Nat} {x:Str}(h:sc.names.lookup x=some .cell):∃ c,(cellsFrom n sc.names []).lookup x=some c:=by
 have q:=PySem.W.cellsFrom_some sc.names n [] (.inl h)
 exact Option.isSome_iff_exists.mp q
theorem ziK {CX:CXT}{P:Program} {w:World}{K:PySem.W.Frag} {mg:Str→Option Value}{base:Heap} {N ps:List Str}{qual:Str} {scope:Scope}{f:Addr} {cd:Value}{A:Around} {outer:List Env}{s s1:Shared} {H:Hp}{E:XK} {us:List Value}{vs:List V}
  (S:zar N ps scope) (hd:A.handled=none) (e0:Env0 P w K mg base A outer s H) (hl:vs.length=ps.length) (r:Vals vs us)
  (x:InCallC s s.heap.objs.size (bindL (envOfC qual scope s.heap.objs.size f cd).kindOf (ps.zip us) fun _=>none) (cellsFrom (s.heap.objs.size + 1) scope.names []) (bindC (envOfC qual scope s.heap.objs.size f cd).kindOf (ps.zip us) fun _=>none) s1) :
  Inv (cxOf CX P w K mg base N qual scope f cd A outer s H E) [] (start N vs) H s1:=by
 have hpl:ps.length≤N.length:=by have:=congrArg List.length S.pre;rw [List.length_take] at this;omega
 obtain ⟨h1,tk,rfl,hk⟩:=x.done
 have noA:∀ b:Addr,b∉(cxOf CX P w K mg base N qual scope f cd A outer s H E).ex:=fun b z=>absurd (show b∈([]:List Addr) from z) (by simp)
 refine ⟨⟨e0.mod,S.kind,rfl,rfl,Nat.le_refl _,fun y z c h1 h2=>?_,fun y hy=>?_,fun y c _ h=>?_,fun _=>hd,Around.frames_deeper e0.frames,.inr ⟨rfl,rfl⟩,fun b z=>absurd z (noA b),e0.bs,e0.bsz,fun b _ _=>noA b,fun b z=>absurd z (noA b),e0.funs,e0.frf⟩,
  rfl,e0.bare,Un.kept hk,⟨_,x.toInCall.ns,fun i y v h1 h2 h3=>?_⟩,fun y c h=>⟨_,x.cell y c h⟩,e0.hok.fresh (Nat.le_refl _),fun y c h=>?_,fun p hp=>absurd (show p∈([]:List (Addr×Obj)) from hp) (by simp),e0.hok.kept hk,?_⟩
 ·exact name_of_addr x.apart (PySem.mem_of_lookup h1) (PySem.mem_of_lookup h2)
 ·have hy:scope.names.lookup y=some .cell∨scope.names.lookup y=some .free:=hy
  rcases hy with hy | hy
  ·exact zhh hy
  ·exact absurd rfl (S.nofree _ (PySem.mem_of_lookup hy))
 ·exact Nat.le_of_lt (x.above y c (PySem.mem_of_lookup h))
 ·have hi:i < vs.length:=by
   unfold start at h2
   by_cases hi:i < vs.length
   ·exact hi
   ·rw [List.getElem?_append_right (by simpa using hi)] at h2
    rw [List.getElem?_replicate] at h2
    split at h2<;>cases h2
  have ha:vs[i]?=some v:=by
   unfold start at h2
   rw [List.getElem?_append_left (by simpa using hi),List.getElem?_map] at h2
   cases e:vs[i]? with
   | none=>rw [e] at h2;cases h2
   | some a=>rw [e] at h2;cases h2;rfl
  obtain ⟨u,hu,rv⟩:=r.get ha
  have hp:ps[i]?=some y:=by
   rw [← S.pre,List.getElem?_take_of_lt (by omega)];exact h1
  have ndP:ps.Nodup:=by rw [← S.pre];exact S.nd.sublist (List.take_sublist _ _)
  refine ⟨u,rv,?_⟩
  rcases S.par y (List.mem_of_getElem? hp) with k | k
  ·exact .inl ⟨k,zgc ndP hp hu k⟩
  ·obtain ⟨c,e⟩:=zhh (n:=s.heap.objs.size + 1) k
   refine .inr ⟨.inl k,c,e,?_⟩
   have q:=x.cell y c e
   rw [zge ndP hp hu (by show scope.names.lookup y≠_;rw [k];decide)] at q
   exact q
 ·exact e0.hok.fresh (Nat.le_of_lt (x.above y c (PySem.mem_of_lookup h)))
 ·unfold start
  show _=N.length
  rw [List.length_append,List.length_map,List.length_replicate]
  omega
theorem znc {CX:CXT}{P:Program} {w:World}{K:PySem.W.Frag} {mg:Str→Option Value}{base:Heap} {k:Nat}{f:Addr} {name qual:Str}{params:Arguments} {body:List Stmt}{scope:Scope} {dV kV doc pm cdv ct oc:Value}{an od:Option Addr}
  {osl:Array (Option Value)} {N ps:List Str}{sp:Sp} (lk:K.lookup f=some ⟨oc,od,.func (PySem.W.fnOf name qual params body scope dV kV doc pm an cdv ct),osl⟩) (hcd:PySem.W.codeIn K cdv qual=true) (S:zar N ps scope)
  (len:∀ vs H Q E,sp vs H Q E→vs.length=ps.length)
  (hbody:∀ (A:Around) (outer:List Env) (s:Shared) (H:Hp) (vs:List V) (Q:VK) (E:XK),Room k (A.deeper (envOfC qual scope s.heap.objs.size f cdv))→sp vs H Q E→
   ∃ t,PSs (cxOf CX P w K mg base N qual scope f cdv A outer s H E) body t∧t { nx:=fun _ H'=>Q .non H',rt:=Q } (start N vs) H) :
  FnOk P w K mg base CX (k + 1) f (PySem.W.fnOf name qual params body scope dV kV doc pm an cdv ct) ps sp:=by
 refine ⟨len,fun A outer s H args us vs Q E hr e0 hb r hsp=>?_⟩
 have hl:=len _ _ _ _ hsp
 have KX:K.In s.heap:=e0.mod.kin.keeps fun b o e=>(e0.bs b o e).1
 have lim:s.heap.NoLimit:=e0.mod.nolimit.keeps fun b o e=>(e0.bs b o e).1
 have hkind:∀ y∈ps.zip us,scope.names.lookup y.1=some .local∨(scope.names.lookup y.1=some .cell∧((cellsFrom (s.heap.objs.size + 1) scope.names []).lookup y.1).isSome=true):=fun ⟨n,v⟩ hy=>by
  rcases S.par n (List.of_mem_zip hy).1 with q | q
  ·exact .inl q
  ·exact .inr ⟨q,PySem.W.cellsFrom_some _ _ _ (.inl q)⟩
 refine codeAny_call_function hr.depth (KX _ _ lk) rfl S.co S.gen rfl (PySem.W.codeRec_of KX hcd) (hb _ _ _ _ ?_)
 refine wpAny_newFunctionEnv_cells S.kind hkind fun env he s1 x=>?_
 subst he
 refine ⟨lim.keeps x.toInCall.keep,codeAny_func ?_⟩
 obtain ⟨t,ht,hq⟩:=hbody A outer s H vs Q E (hr.deeper _) hsp
 have I:Inv (cxOf CX P w K mg base N qual scope f cdv A outer s H E) [] (start N vs) H s1:=ziK S hr.hd e0 hl r x
 refine wpAny_mono (ht [] s1 (start N vs) H _ I hq) (fun fl s' hs=>?_) fun e s' hs=>hs
 have fin:∀ {σ':St}{H':Hp} {v:V}{u:Value},Inv (cxOf CX P w K mg base N qual scope f cdv A outer s H E) [] σ' H' s'→RelV v u→Q v H'→CE outer P w H s Q u s':=
  fun {σ' H' v u} J rv q=>⟨v,H',J.os,J.bare,J.base,J.hok,rv,q⟩
 cases fl with
 | ret u=>
  obtain ⟨v,σ',H',J,rv,q⟩:=hs
  exact fin J rv q
 | next=>
  obtain ⟨σ',H',J,q⟩:=hs
  exact fin (v:=V.non) (u:=Value.none) J rfl q
 | brk=>
  obtain ⟨_,_,_,q⟩:=hs
  exact False.elim q
 | cont=>
  obtain ⟨_,_,_,q⟩:=hs
  exact False.elim q
end L2
namespace L2
open PySem PySem.Spec PyProof.Rows
section
variable {X:Cx}{x:Str} {p pos:Pos}{e:Expr} {es:List Expr}{t:TA} {id T:String}{r:List V→Hp→VK→Prop}
noncomputable def tCB (r:List V→Hp→VK→Prop) (t:TA):TE:=fun σ H Q=>t σ H fun vs H1=>r vs H1 Q
theorem zcE (hc:zcN X (.builtin id) r) (hg:Gl X x) (hm:X.mg x=none) (hv:bootBuiltins x=some (.builtin id)) (ha:PA X (e::es) t) (hn:x ≠ "__name__" := by decide) (hdb:(x == ("__debug__" : Str))=false:=by decide)
  (he:starEach (e::es) X.env=(false,eval e X.env)::starEach es X.env:=by rfl) (hpl:(backTo pos (starEach es X.env)).any (·.1)=false:=by rfl):PE X (.Call (.Name x p) (e::es) [] pos) (tCB r t):=by
 intro pins s σ H Q I h
 refine wpAny_Call_Name_kw (zdn I hg hm hv ?_ hn hdb)
 exact PyProof.Rows.callWith_builtin1 (thn (ha pos pins s σ H _ I h) fun us s1 ⟨vs,H1,I1,r1,q1⟩=>hc pins s1 σ H1 vs us Q I1 r1 q1) he hpl
theorem zik (hc:zcN X (.type T) r) (hg:Gl X x) (hm:X.mg x=none) (hv:bootBuiltins x=some (.type T)) (ha:PA X (e::es) t) (hn:x ≠ "__name__" := by decide) (hdb:(x == ("__debug__" : Str))=false:=by decide)
  (he:starEach (e::es) X.env=(false,eval e X.env)::starEach es X.env:=by rfl) (hpl:(backTo pos (starEach es X.env)).any (·.1)=false:=by rfl):PE X (.Call (.Name x p) (e::es) [] pos) (tCB r t):=by
 intro pins s σ H Q I h
 refine wpAny_Call_Name_kw (zdn I hg hm hv ?_ hn hdb)
 exact PyProof.Rows.callWith_type1 (thn (ha pos pins s σ H _ I h) fun us s1 ⟨vs,H1,I1,r1,q1⟩=>hc pins s1 σ H1 vs us Q I1 r1 q1) he hpl
end
end L2
namespace HT
open PySem PyProof.Rows
noncomputable def lexLt:List Int→List Int→Bool
 | [],[]=>false
 | [],_::_=>true
 | _::_,[]=>false
 | x::xs,y::ys=>if x=y then lexLt xs ys else decide (x < y)
theorem zhD (x y:Int) (xs ys:List Int):lexLt (x::xs) (y::ys)=if x=y then lexLt xs ys else decide (x < y):=rfl
theorem zfk:lexLt [] []=false:=rfl
theorem zeE (y:Int) (ys:List Int):lexLt [] (y::ys)=true:=rfl
theorem zeF (x:Int) (xs:List Int):lexLt (x::xs) []=false:=rfl
theorem zkd (A:Around) (s:Shared) (a:Int) (t:Tok) (c:Int) (u:Tok):∃ e,SeqAt.EqAt A s (.int a t) (.int c u) e∧(e=true↔a=c):=
 ⟨(a == c),SeqAt.EqAt.int_int a t c u,by simp⟩
section
open PySem.SeqAt
open PySem.AutoSeq1 (wpAny_loadPart')
open PySem.MeetsSeq PySem.MeetsSeq2 PySem.MeetsSeq3
end
section
variable {prog:Program}{w:World} {A:Around}{E:Value→Shared→Prop} {s:Shared}
theorem cat_tup {t b:Addr}{vs ws:List Value} {Q:Value→Shared→Prop}(ht:IsTup s.heap t vs.toArray) (hb:IsTup s.heap b ws.toArray) (hv:vs≠[])
  (h1:ws=[]→Q (.ref t) s) (h2:ws≠[]→Q (.ref s.heap.objs.size) { s with heap:=s.heap.push { cls:=.type "tuple",data:=.seq (vs++ws).toArray } })
  (hsz:vs.length + ws.length≤sizeLine):wpAny (model prog w) A (binaryOp .Add (.ref t) (.ref b)) Q E s:=by
 obtain ⟨⟨cls,dd,data,sl⟩,ho,hc,n,hd⟩:=id ht
 obtain ⟨⟨cls2,dd2,data2,sl2⟩,ho2,hc2,n2,hd2⟩:=id hb
 simp only at hc hd hc2 hd2
 subst hc hd hc2 hd2
 have e:vs.toArray++ws.toArray=(vs++ws).toArray:=by simp
 by_cases hw:ws=[]
 ·exact concat_meets ⟨_,ho,rfl⟩ ⟨_,ho2,rfl⟩ noFill_tuple_add seq_tuple_add PySem.F.slot_tuple_add PySem.F.entry_tuple_add (PySem.F.args_tuple_add_2 _ _)
   (tuple_addW1 t b vs.toArray ws.toArray n n2 dd dd2 sl sl2 (by simpa using hv) (by simp [hw])) ⟨ho,ho2,h1 hw⟩
 ·refine concat_meets ⟨_,ho,rfl⟩ ⟨_,ho2,rfl⟩ noFill_tuple_add seq_tuple_add PySem.F.slot_tuple_add PySem.F.entry_tuple_add (PySem.F.args_tuple_add_2 _ _)
   (tuple_addW2 t b vs.toArray ws.toArray n n2 dd dd2 sl sl2 (by simpa using hv) (by simpa using hw) (by rw [List.size_toArray,List.size_toArray];exact hsz)) ⟨ho,ho2,?_⟩
  rw [e]
  exact h2 hw
noncomputable def sIx (n d:Nat):Option Int→Nat
 | none=>d
 | some v=>if v < 0 then (v + (n:Int)).toNat else min v.toNat n
theorem sIx_none (n d:Nat):sIx n d none=d:=rfl
theorem sIx_nat (n d k:Nat):sIx n d (some (k:Int))=min k n:=by
 show (if (k:Int) < 0 then ((k:Int) + (n:Int)).toNat else min (k:Int).toNat n)=min k n
 rw [if_neg (by omega),Int.toNat_natCast]
theorem zmj (n d:Nat) (hd:d≤n) (o:Option Int):sIx n d o≤n:=by
 cases o with
 | none=>exact hd
 | some v=>
  show (if v < 0 then (v + (n:Int)).toNat else min v.toNat n)≤n
  by_cases hv:v < 0
  ·rw [if_pos hv];omega
  ·rw [if_neg hv];exact Nat.min_le_right _ _
theorem zja (v:Int) (n d:Nat):(if v < 0 then max (v + (n:Int)) 0 else min v (n:Int))=((sIx n d (some v):Nat):Int):=by
 show (if v < 0 then max (v + (n:Int)) 0 else min v (n:Int))=(((if v < 0 then (v + (n:Int)).toNat else min v.toNat n):Nat):Int)
 by_cases hv:v < 0
 ·simp only [if_pos hv];omega
 ·simp only [if_neg hv];omega
theorem zhL (lo hi:Option Int) (n:Nat):Builtin.Slice.sliceAdjust lo hi 1 (n:Int)=(((sIx n 0 lo:Nat):Int),((sIx n n hi:Nat):Int)):=by
 have h1:¬ ((1:Int) < 0):=by omega
 unfold Builtin.Slice.sliceAdjust
 simp only [h1,if_false]
 refine Prod.ext ?_ ?_
 ·cases lo with
  | none=>rfl
  | some v=>exact zja v n 0
 ·cases hi with
  | none=>rfl
  | some v=>exact zja v n n
theorem zhs (i j:Nat):Builtin.Slice.slicePlaces (i:Int) (j:Int) 1=j - i:=by
 unfold Builtin.Slice.slicePlaces
 have h1:(1:Int) > 0:=by omega
 simp only [h1,if_true,Int.ediv_one]
 split<;>omega
theorem zeJ {v:Value}{o:Option Int} {Q:Option Int→Shared→Prop}(p:IsPart v o) (h:Q o s):wpAny (model prog w) A (Builtin.Slice.slicePartIndex v) Q E s:=by
 cases p with
 | none=>exact slicePart_none h
 | int i t=>exact slicePart_int h
theorem zcd {sl:Addr}{vl vu:Value} {lo hi:Option Int}{n:Nat} {Q:Int×Int×Nat→Shared→Prop}(hs:s.heap.IsSliceOf sl vl vu .none) (pl:IsPart vl lo) (pu:IsPart vu hi)
  (h:Q (((sIx n 0 lo:Nat):Int),1,sIx n n hi - sIx n 0 lo) s):wpAny (model prog w) A (Builtin.Slice.sliceApplied (.ref sl) (pure (n:Int))) Q E s:=by
 obtain ⟨os,hos,hcs,hds⟩:=id hs
 unfold Builtin.Slice.sliceApplied Builtin.Slice.sliceFields
 refine wpAny_bind (wpAny_bind (wpAny_field hos hds (x:=vl) rfl (wpAny_bind (wpAny_field hos hds (x:=vu) rfl (wpAny_bind (wpAny_field hos hds (x:=.none) rfl (wpAny_pure ?_)))))))
 refine wpAny_bind (slicePart_none ?_)
 show wpAny _ _ (if ((1:Int) == 0)=true then _ else _) _ _ s
 rw [if_neg (by decide)]
 refine wpAny_bind (zeJ pl (wpAny_bind (zeJ pu (wpAny_bind (wpAny_pure ?_)))))
 show wpAny _ _ (match Builtin.Slice.sliceAdjust lo hi 1 (n:Int) with | (lo,hi)=>pure (lo,(1:Int),Builtin.Slice.slicePlaces lo hi 1)) _ _ s
 rw [zhL lo hi n]
 show wpAny _ _ (pure (((sIx n 0 lo:Nat):Int),(1:Int),Builtin.Slice.slicePlaces ((sIx n 0 lo:Nat):Int) ((sIx n n hi:Nat):Int) 1)) _ _ s
 rw [zhs]
 exact wpAny_pure h
theorem zjy (xs:Array Value) (i k:Nat):((List.range k).filterMap fun (m:Nat)=>xs[((i:Int) + (m:Int) * 1).toNat]?).toArray=((xs.toList.drop i).take k).toArray:=by
 have e:(fun (m:Nat)=>xs[((i:Int) + (m:Int) * 1).toNat]?)=fun m=>xs[i + m]?:=by
  funext m
  have:((i:Int) + (m:Int) * 1).toNat=i + m:=by omega
  rw [this]
 rw [e]
 have:=pick_run xs i k
 rw [List.filterMap_map] at this
 have e2:((fun x=>xs[x]?) ∘ fun x=>i + x)=fun m=>xs[i + m]?:=rfl
 rw [e2] at this
 rw [this]
theorem getItem_tuple_cut {t sl:Addr}{items:Array Value} {vl vu:Value}{lo hi:Option Int} {Q:Value→Shared→Prop}(ht:IsTup s.heap t items) (hs:s.heap.IsSliceOf sl vl vu .none) (pl:IsPart vl lo) (pu:IsPart vu hi)
  (hw:¬ (sIx items.size 0 lo=0∧sIx items.size items.size hi=items.size))
  (h:Q (.ref s.heap.objs.size) { s with heap:=s.heap.push { cls:=.type "tuple",data:=.seq ((items.toList.drop (sIx items.size 0 lo)).take (sIx items.size items.size hi - sIx items.size 0 lo)).toArray } })
  (hsz:items.size≤sizeLine):wpAny (model prog w) A (getItem (.ref t) (.ref sl)) Q E s:=by
 have htake:sizeOk (.seq ((items.toList.drop (sIx items.size 0 lo)).take (sIx items.size items.size hi - sIx items.size 0 lo)).toArray):=by
  show ((items.toList.drop (sIx items.size 0 lo)).take (sIx items.size items.size hi - sIx items.size 0 lo)).toArray.size≤sizeLine
  rw [List.size_toArray,List.length_take,List.length_drop,Array.length_toList]
  omega
 have hj:sIx items.size items.size hi≤items.size:=zmj _ _ (Nat.le_refl _) hi
 obtain ⟨os,hos,hcs,hds⟩:=id hs
 have hTs:s.TypeIs (.ref sl) "slice" := ⟨os,hos,hcs⟩
 unfold getItem
 try with_reducible refine wpAny_holding ?_
 first | refine wpAny_bind (wpAny_pure ?_) | skip
 refine wpAny_bind (wpAny_sequenceKey ht.typeIs (by decide) ?_)
 refine wpAny_bind (wpAny_callSpecial?_slot (name:=Str.ofString "__getitem__") ht.typeIs PyProof.Rows.slot_tuple_getitem
  (wpAny_call_entry PyProof.Rows.slot_tuple_getitem ht.typeIs entry_tuple_getitem ?_ (args_tuple_getitem _ _)))
 show wpAny _ _ (Builtin.Tuple.tupleItemsOf (.ref t) >>= _) _ _ s
 refine wpAny_bind (tupleItemsOf_ ht ?_)
 refine wpAny_bind (wpAny_typeOf hTs ?_)
 rw [if_pos (by decide)]
 refine wpAny_bind (zcd hs pl pu ?_)
 have hno:¬ ((((sIx items.size 0 lo:Nat):Int) == 0 && (1:Int) == 1 && (sIx items.size items.size hi - sIx items.size 0 lo) == items.size)=true):=by
  intro q
  rw [Bool.and_eq_true,Bool.and_eq_true] at q
  have q1:((sIx items.size 0 lo:Nat):Int)=0:=eq_of_beq q.1.1
  have q2:sIx items.size items.size hi - sIx items.size 0 lo=items.size:=eq_of_beq q.2
  exact hw ⟨by omega,by omega⟩
 show wpAny _ _ (if (((sIx items.size 0 lo:Nat):Int) == 0 && (1:Int) == 1 && (sIx items.size items.size hi - sIx items.size 0 lo) == items.size)=true then _ else _) _ _ s
 rw [if_neg hno,zjy]
 first
  | exact wpAny_bind (m:=Builtin.Tuple.tupleExact _) (wpAny_newObj_type (wpAny_pure ⟨_,rfl,wpAny_pure h⟩) htake)
  | exact wpAny_bind (m:=Builtin.Tuple.tupleExact _) (wpAny_newObj_type (wpAny_bind (wpAny_pure (wpAny_pure ⟨_,rfl,wpAny_pure h⟩))) htake)
  | exact wpAny_bind (wpAny_bind (m:=Builtin.Tuple.tupleExact _) (wpAny_newObj_type (wpAny_pure (wpAny_pure ⟨_,rfl,wpAny_pure h⟩)) htake))
  | exact wpAny_bind (wpAny_bind (m:=Builtin.Tuple.tupleExact _) (wpAny_newObj_type (wpAny_pure ⟨_,rfl,wpAny_pure h⟩) htake))
end
end HT
namespace L2
open PySem PySem.Spec PyProof.Rows
noncomputable abbrev TO:=St→Hp→(Option Int→Hp→Prop)→Prop
noncomputable def PO (X:Cx) (e:Option Expr) (t:TO):Prop:=
 ∀ (pins:List (Addr×Obj)) (s:Shared) (σ:St) (H:Hp) (Q:Option Int→Hp→Prop),Inv X pins σ H s→t σ H Q→
  wpAny (model X.prog X.w) X.A (evalPart e X.env) (fun u s'=>∃ o H',Inv X pins σ H' s'∧IsPart u o∧Q o H') X.xe s
noncomputable def zkO:TO:=fun _ H Q=>Q none H
noncomputable def tPart (t:TE):TO:=fun σ H Q=>t σ H fun x H1=>∃ i,x=.int i∧Q (some i) H1
theorem zcI {ns:List Int}:∀ {us:List Value},Vals (ns.map V.int) us→IntsAre us ns:=by
 induction ns with
 | nil=>intro us r;rw [List.map_nil] at r;cases r;exact .nil
 | cons n ns ih=>
  intro us r
  rw [List.map_cons] at r
  cases r with
  | cons r1 r2=>
   obtain ⟨t,e⟩:=r1
   subst e
   exact .cons n t (ih r2)
section
variable {X:Cx}{e:Expr} {te:TE}{lo hi:Option Expr} {tl th:TO}{pos p2:Pos}
theorem zle:PO X none zkO:=by
 intro pins s σ H Q I h
 rw [evalPart_none]
 exact wpAny_pure ⟨none,H,I,.none,h⟩
theorem zld (h:PE X e te):PO X (some e) (tPart te):=by
 intro pins s σ H Q I hw
 rw [evalPart_some]
 refine thn (h pins s σ H _ I hw) fun u s1 h_=>?_
 obtain ⟨x,H1,I1,r1,q1⟩:=h_
 obtain ⟨i,rfl,q⟩:=q1
 obtain ⟨t,rfl⟩:=r1
 exact ⟨some i,H1,I1,.int i t,q⟩
noncomputable def SlR (X:Cx) (r:V→Option Int→Option Int→Hp→VK→Prop):Prop:=
 ∀ (pins:List (Addr×Obj)) (s:Shared) (σ:St) (H:Hp) (x:V) (v vl vu:Value) (lo hi:Option Int) (sl:Addr) (Q:VK),Inv X pins σ H s→RelV x v→s.heap.IsSliceOf sl vl vu .none→IsPart vl lo→IsPart vu hi→r x lo hi H Q→
  ∃ T id,typeLookup (.type T) "__getitem__" = pure (some (.builtin id))∧s.TypeIs v T∧wpAny (model X.prog X.w) X.A (getItem v (.ref sl)) (EP X pins σ Q) X.xe s
theorem SlR.or {r r':V→Option Int→Option Int→Hp→VK→Prop}(h:SlR X r) (h':SlR X r'):SlR X (fun x lo hi H Q=>r x lo hi H Q∨r' x lo hi H Q):=by
 intro pins s σ H x v vl vu lo hi sl Q I rx hs pl pu q
 rcases q with q | q
 ·exact h pins s σ H x v vl vu lo hi sl Q I rx hs pl pu q
 ·exact h' pins s σ H x v vl vu lo hi sl Q I rx hs pl pu q
noncomputable def tSl (r:V→Option Int→Option Int→Hp→VK→Prop) (te:TE) (tl th:TO):TE:=fun σ H Q=>te σ H fun x H1=>tl σ H1 fun l H2=>th σ H2 fun u H3=>r x l u H3 Q
theorem zjB {r:V→Option Int→Option Int→Hp→VK→Prop}(hr:SlR X r) (he:PE X e te) (hl:PO X lo tl) (hu:PO X hi th):PE X (.Subscript e (.Slice lo hi none p2) pos) (tSl r te tl th):=by
 intro pins s σ H Q I h
 refine Subscript_ (thn (he pins s σ H _ I h) fun v s1 ⟨x,H1,I1,r1,q1⟩=>?_)
 refine wpAny_Slice (thn (hl pins s1 σ H1 _ I1 q1) fun vl s2 ⟨l,H2,I2,pl,q2⟩=>thn (hu pins s2 σ H2 _ I2 q2) fun vu s3 ⟨u,H3,I3,pu,q3⟩=>?_)
 rw [evalPart_none]
 refine wpAny_pure ?_
 have I4:Inv X pins σ H3 { s3 with heap:=s3.heap.push { cls:=.type "slice",data:=.fields #[vl,vu,.none] } }:=I3.kept (t':=s3.toks) fun b ob q=>Heap.get?_push_of_some _ q
 obtain ⟨T,id,hT,ht,hg⟩:=hr pins { s3 with heap:=s3.heap.push { cls:=.type "slice",data:=.fields #[vl,vu,.none] } } σ H3 x v vl vu l u s3.heap.objs.size Q I4 r1 (Heap.IsSliceOf.new ..) pl pu q3
 show wpAny (model X.prog X.w) X.A (subscriptTail e (.Slice lo hi none p2) v (.ref s3.heap.objs.size)) (EP X pins σ Q) X.xe { s3 with heap:=s3.heap.push { cls:=.type "slice",data:=.fields #[vl,vu,.none] } }
 exact tail_any (ops:=[.ref s3.heap.objs.size,v]) ht hT hg (by with_unfolding_all rfl)
noncomputable def cutV (xs:List V) (lo hi:Option Int):List V:=(xs.drop (HT.sIx xs.length 0 lo)).take (HT.sIx xs.length xs.length hi - HT.sIx xs.length 0 lo)
theorem zet (xs:List V) (lo hi:Option Int):(cutV xs lo hi).length≤xs.length:=by
 unfold cutV
 rw [List.length_take,List.length_drop]
 omega
noncomputable def rSlT (K:PySem.W.Frag):V→Option Int→Option Int→Hp→VK→Prop:=fun x lo hi H Q=>∃ a xs,x=.ref a∧SqT K H a xs∧
 ¬ (HT.sIx xs.length 0 lo=0∧HT.sIx xs.length xs.length hi=xs.length)∧∀ p,H p=none→Q (.ref p) (upd H p (.tup (cutV xs lo hi)))
theorem zmd:SlR X (rSlT X.K):=by
 intro pins s σ H x v vl vu lo hi sl Q I rx hs pl pu h
 obtain ⟨a,xs,rfl,hx,hw,q⟩:=h
 cases rx
 obtain ⟨its,r,ht,hz⟩:=I.tuple hx
 have hlen:its.toArray.size=xs.length:=by rw [List.size_toArray];exact r.length.symm
 refine ⟨"tuple",_,PyProof.Rows.slot_tuple_getitem.lookup,ht.typeIs,?_⟩
 refine HT.getItem_tuple_cut ht hs pl pu (by rw [hlen];exact hw) ?_ (by rw [hlen];exact hz)
 rw [hlen]
 refine ⟨.ref s.heap.objs.size,_,I.laid (t':=s.toks) (o:=.tup (cutV xs lo hi)) (fun b ob q=>Heap.get?_push_of_some _ q) (Nat.le_refl _) ?_,rfl,q _ (I.hok.fresh (Nat.le_refl _))⟩
 exact ⟨Nat.le_trans (zet xs lo hi) hz,_,(r.drop (HT.sIx xs.length 0 lo)).take (HT.sIx xs.length xs.length hi - HT.sIx xs.length 0 lo),IsTup.new _ _⟩
noncomputable def rCatT (K:PySem.W.Frag):R2:=fun x y H Q=>∃ a b xs ys,x=.ref a∧y=.ref b∧SqT K H a xs∧SqT K H b ys∧xs≠[]∧xs.length + ys.length≤sizeLine∧
 (ys=[]→Q (.ref a) H)∧(ys≠[]→∀ p,H p=none→Q (.ref p) (upd H p (.tup (xs++ys))))
theorem Vals.nil_iff {xs:List V}{us:List Value} (r:Vals xs us):us=[]↔xs=[]:=by
 cases r with
 | nil=>simp
 | cons _ _=>simp
theorem zlq:OpR X (binaryOp .Add) (rCatT X.K):=by
 intro pins s σ H x y v u Q I rx ry h
 obtain ⟨a,b,xs,ys,rfl,rfl,ha,hb,hx,hz,q1,q2⟩:=h
 cases rx
 cases ry
 obtain ⟨its,r1,p1,_⟩:=I.tuple ha
 obtain ⟨its2,r2,p2,_⟩:=I.tuple hb
 refine HT.cat_tup p1 p2 (fun z=>hx (r1.nil_iff.mp z)) (fun z=>⟨.ref a,H,I,rfl,q1 (r2.nil_iff.mp z)⟩) (fun z=>?_) (by rw [← r1.length,← r2.length];exact hz)
 refine ⟨.ref s.heap.objs.size,_,I.laid (t':=s.toks) (o:=.tup (xs++ys)) (fun b ob q=>Heap.get?_push_of_some _ q) (Nat.le_refl _) ?_,rfl,q2 (fun w=>z (r2.nil_iff.mpr w)) _ (I.hok.fresh (Nat.le_refl _))⟩
 exact ⟨by rw [List.length_append];exact hz,_,r1.append r2,IsTup.new _ _⟩
end
end L2
namespace L2
open PySem PySem.Spec PyProof.Rows
noncomputable def ixN (n:Nat) (i:Int):Option Nat:=if 0≤i then (if i < n then some i.toNat else none) else if -(n:Int)≤i then some (i + n).toNat else none
noncomputable def atI {α:Type}(xs:List α) (i:Int):Option α:=(ixN xs.length i).bind fun j=>xs[j]?
theorem zlz {n:Nat}{i:Int} {j:Nat}(h:ixN n i=some j):seqIndex? i n=some j∧j < n∧-(n:Int)≤i∧i < n:=by
 unfold ixN at h
 by_cases h0:0≤i
 ·rw [if_pos h0] at h
  by_cases h1:i < n
  ·rw [if_pos h1] at h
   have e:i.toNat=j:=Option.some.inj h
   exact ⟨by rw [seqIndex_of h0 h1,e],by omega,by omega,h1⟩
  ·rw [if_neg h1] at h;cases h
 ·rw [if_neg h0] at h
  by_cases h1:-(n:Int)≤i
  ·rw [if_pos h1] at h
   have e:(i + n).toNat=j:=Option.some.inj h
   exact ⟨by rw [seqIndex_neg (by omega) h1,e],by omega,h1,by omega⟩
  ·rw [if_neg h1] at h;cases h
theorem zgN {α:Type}{xs:List α} {i:Int}{v:α} (h:atI xs i=some v):∃ j,seqIndex? i xs.length=some j∧xs[j]?=some v∧j < xs.length∧-(xs.length:Int)≤i∧i < xs.length:=by
 unfold atI at h
 cases e:ixN xs.length i with
 | none=>rw [e] at h;cases h
 | some j=>
  rw [e] at h
  obtain ⟨h1,h2,h3,h4⟩:=zlz e
  exact ⟨j,h1,h,h2,h3,h4⟩
theorem zbp {α:Type}{xs:List α} {j:Nat}{v:α} (h:xs[j]?=some v):atI xs (j:Int)=some v:=by
 have hj:j < xs.length:=(List.getElem?_eq_some_iff.mp h).1
 have e:ixN xs.length (j:Int)=some j:=by
  unfold ixN
  rw [if_pos (by omega),if_pos (by omega)];simp
 unfold atI;rw [e];exact h
theorem zdN {α:Type}(xs:List α) (v:α):atI (xs++[v]) (-1)=some v:=by
 have hl:(xs++[v]).length=xs.length + 1:=by simp
 have e:ixN (xs++[v]).length (-1)=some xs.length:=by
  unfold ixN
  rw [hl,if_neg (by decide),if_pos (by omega)]
  congr 1
  omega
 unfold atI
 rw [e]
 show (xs++[v])[xs.length]?=some v
 simp
noncomputable def zji (b:Expr):Prop:=∀ o i,subscripted b false o i=operate [o,i] (getItem o i)
noncomputable def IxR (X:Cx) (r:R2):Prop:=
 ∀ (value slice:Expr) (pins:List (Addr×Obj)) (s:Shared) (σ:St) (H:Hp) (x y:V) (v u:Value) (Q:VK),Inv X pins σ H s→RelV x v→RelV y u→r x y H Q→
  subscripted slice false v u=operate [v,u] (getItem v u)→wpAny (model X.prog X.w) X.A (subscriptTail value slice v u) (EP X pins σ Q) X.xe s
noncomputable def MtR (X:Cx) (id:String) (r:V→List V→Hp→VK→Prop):Prop:=
 ∀ (pins:List (Addr×Obj)) (s:Shared) (σ:St) (H:Hp) (x:V) (xs:List V) (v:Value) (us:List Value) (Q:VK),Inv X pins σ H s→RelV x v→Vals xs us→r x xs H Q→
  wpAny (model X.prog X.w) X.A (call (.builtin id) (v::us)) (EP X pins σ Q) X.xe s
section
variable {X:Cx}{a b:Expr} {ta tb:TE}{pos:Pos}
theorem IxR.or {r r':R2}(h:IxR X r) (h':IxR X r'):IxR X (fun x y H Q=>r x y H Q∨r' x y H Q):=by
 intro value slice pins s σ H x y v u Q I rx ry q hs
 rcases q with q | q
 ·exact h value slice pins s σ H x y v u Q I rx ry q hs
 ·exact h' value slice pins s σ H x y v u Q I rx ry q hs
theorem pe_ix {r:R2}(hr:IxR X r) (ha:PE X a ta) (hb:PE X b tb) (hs:zji b):PE X (.Subscript a b pos) (tOp r ta tb):=by
 intro pins s σ H Q I h
 exact Subscript_ (binT ha hb I h fun v u s2 x y H2 I2 rx ry q=>hr a b pins s2 σ H2 x y v u Q I2 rx ry q (hs _ _))
noncomputable def rIxL (K:PySem.W.Frag):R2:=fun x y H Q=>∃ p xs i v,x=.ref p∧y=.int i∧SqL K H p xs∧atI xs i=some v∧Q v H
noncomputable def rIxT (K:PySem.W.Frag):R2:=fun x y H Q=>∃ p xs i v,x=.ref p∧y=.int i∧SqT K H p xs∧atI xs i=some v∧Q v H
noncomputable def rIxS:R2:=fun x y H Q=>∃ z i c,x=.str z∧y=.int i∧z.length≤sizeLine∧atI z.cps.toList i=some c∧Q (.str ⟨#[c]⟩) H
theorem zly:IxR X (rIxL X.K):=by
 intro value slice pins s σ H x y v u Q I rx ry h hs
 obtain ⟨p,xs,i,z,rfl,rfl,hq,he,q⟩:=h
 cases rx
 obtain ⟨t,rfl⟩:=ry
 obtain ⟨its,r,pl,hz⟩:=I.list hq
 obtain ⟨j,h1,h2,h3,h4,h5⟩:=zgN he
 obtain ⟨w,ew,rw'⟩:=r.get h2
 have hl:=r.length
 have hn:=zfS
 have fin:EP X pins σ Q w s:=⟨z,H,I,rw',q⟩
 by_cases h0:0≤i
 ·have hj:i.toNat=j:=by
   rw [seqIndex_of h0 h5] at h1
   exact Option.some.inj h1
  exact item_listR pl.isList h0 (by omega) (by rw [hj];simpa using ew) fin hs
 ·have hj:(i + (its.toArray.size:Int)).toNat=j:=by
   rw [seqIndex_neg (by omega) h4] at h1
   rw [List.size_toArray,← hl]
   exact Option.some.inj h1
  exact subscriptTail_builtinR (x:=w) pl.isList.typeIs slot_list_getitem.lookup
   (wpAny_getItem_list_neg (Q:=fun r s'=>r=w∧EP X pins σ Q r s') pl.isList (by omega) (by rw [List.size_toArray]<;>omega) (by omega) (by rw [hj];simpa using ew) ⟨rfl,fin⟩) hs
theorem zmX:IxR X (rIxT X.K):=by
 intro value slice pins s σ H x y v u Q I rx ry h hs
 obtain ⟨p,xs,i,z,rfl,rfl,hq,he,q⟩:=h
 cases rx
 obtain ⟨t,rfl⟩:=ry
 obtain ⟨its,r,pl,hz⟩:=I.tuple hq
 obtain ⟨j,h1,h2,h3,h4,h5⟩:=zgN he
 obtain ⟨w,ew,rw'⟩:=r.get h2
 have hl:=r.length
 have hn:=zfS
 have fin:EP X pins σ Q w s:=⟨z,H,I,rw',q⟩
 exact subscriptTail_builtinR (x:=w) pl.typeIs slot_tuple_getitem.lookup
  (getItem_tuple (j:=j) (Q:=fun r s'=>r=w∧EP X pins σ Q r s') pl (by omega) (by omega) (by rw [List.size_toArray,← hl];exact h1) (by simpa using ew) ⟨rfl,fin⟩) hs
theorem zmY:IxR X rIxS:=by
 intro value slice pins s σ H x y v u Q I rx ry h hs
 obtain ⟨z,i,c,rfl,rfl,hz,he,q⟩:=h
 obtain ⟨t,rfl⟩:=rx
 obtain ⟨t',rfl⟩:=ry
 obtain ⟨j,h1,h2,h3,h4,h5⟩:=zgN he
 have hl:z.cps.toList.length=z.length:=by simp [Str.length]
 rw [hl] at h1 h4 h5
 have hn:=zfS
 exact tail_any (typeIs_str s z t) slot_str_getitem.lookup (getItem_str (c:=c) (by
  have e1:decide (i < -(2 ^ 63:Int))=false:=decide_eq_false (by omega)
  have e2:decide (i ≥ 2 ^ 63)=false:=decide_eq_false (by omega)
  rw [e1,e2,Bool.or_false]) (by rw [h1];simpa using h2) ⟨.str ⟨#[c]⟩,H,I.tok _,⟨_,rfl⟩,q⟩) hs
theorem Inv.lst {pins:List (Addr×Obj)}{σ:St} {H:Hp}{s:Shared} {p:Addr}{xs:List V} (I:Inv X pins σ H s) (h:H p=some (.lst xs)) :
  ∃ (its:List Value) (n:Nat),Vals xs its∧s.heap.get? p=some { cls:=.type "list",data:=.seq its.toArray n }∧xs.length≤sizeLine:=by
 obtain ⟨z,its,n,r,e⟩:=I.hok p _ h
 exact ⟨its,n,r,e,z⟩
theorem Inv.lstUpd {pins:List (Addr×Obj)}{σ:St} {H:Hp}{s:Shared} {p:Addr}{xs ys:List V} {its its':List Value}{n n':Nat} {f:Obj→Obj}(I:Inv X pins σ H s) (h:H p=some (.lst xs))
  (ho:s.heap.get? p=some { cls:=.type "list",data:=.seq its.toArray n }) (hf:f { cls:=.type "list",data:=.seq its.toArray n }={ cls:=.type "list",data:=.seq its'.toArray n' }) (r:Vals ys its') (hz:ys.length≤sizeLine) (t:Nat) :
  Inv X pins σ (upd H p (.lst ys)) { s with heap:=s.heap.update p f,toks:=t }:=by
 have e:(s.heap.update p f).get? p=some { cls:=.type "list",data:=.seq its'.toArray n' }:=by
  rw [Heap.get?_update_self f ho (by rw [hf]<;>rfl),hf]
 refine I.write (x:=p) (e:=p) (by rw [h];trivial) (.inl rfl) (fun b u hb q=>(Heap.get?_update_other _ _ (Ne.symm hb)).trans q) ⟨_,e⟩ ?_
 exact ⟨hz,its',n',r,e⟩
theorem zfA (lo hi:Option Int) (n:Nat):(sliceBounds lo hi none n).1=((HT.sIx n 0 lo:Nat):Int)∧(sliceBounds lo hi none n).2.1=((HT.sIx n n hi:Nat):Int)∧(sliceBounds lo hi none n).2.2=1:=by
 refine ⟨?_,?_,rfl⟩
 ·cases lo with
  | none=>simp [sliceBounds,HT.sIx]
  | some i=>
   simp only [sliceBounds,HT.sIx,Option.getD_none,show (1:Int) > 0 by decide,if_true]
   by_cases h:i < 0
   ·simp only [h,if_true]<;>omega
   ·simp only [h,if_false]<;>omega
 ·cases hi with
  | none=>simp [sliceBounds,HT.sIx]
  | some i=>
   simp only [sliceBounds,HT.sIx,Option.getD_none,show (1:Int) > 0 by decide,if_true]
   by_cases h:i < 0
   ·simp only [h,if_true]<;>omega
   ·simp only [h,if_false]<;>omega
theorem zeX (its:List Value) (lo hi:Option Int):slicePick its.toArray lo hi none=((its.drop (HT.sIx its.length 0 lo)).take (HT.sIx its.length its.length hi - HT.sIx its.length 0 lo)).toArray:=by
 obtain ⟨h1,h2,h3⟩:=zfA lo hi its.toArray.size
 unfold slicePick
 rw [h1,h2,h3]
 simp only [sliceRange_one,pick_run,List.size_toArray]<;>rfl
noncomputable def rSlL (K:PySem.W.Frag):V→Option Int→Option Int→Hp→VK→Prop:=fun x lo hi H Q=>∃ a xs,x=.ref a∧SqL K H a xs∧∀ p,H p=none→Q (.ref p) (upd H p (.lst (cutV xs lo hi)))
theorem zkT:SlR X (rSlL X.K):=by
 intro pins s σ H x v vl vu lo hi sl Q I rx hs pl pu h
 obtain ⟨a,xs,rfl,hx,q⟩:=h
 cases rx
 obtain ⟨its,r,ht,hz⟩:=I.list hx
 have hlen:=r.length
 refine ⟨"list",_,slot_list_getitem.lookup,ht.isList.typeIs,?_⟩
 refine wpAny_getItem_list_slice ht.isList hs pl pu .none (by simp) ?_ (by rw [List.size_toArray]<;>omega)
 rw [zeX,← hlen]
 refine ⟨.ref s.heap.objs.size,_,I.laid (t':=s.toks) (o:=.lst (cutV xs lo hi)) (fun b ob q=>Heap.get?_push_of_some _ q) (Nat.le_refl _) ?_,rfl,q _ (I.hok.fresh (Nat.le_refl _))⟩
 exact ⟨Nat.le_trans (zet xs lo hi) hz,_,0,(r.drop (HT.sIx xs.length 0 lo)).take (HT.sIx xs.length xs.length hi - HT.sIx xs.length 0 lo),Heap.get?_push_size _ rfl⟩
theorem zga:zcN X (.builtin "len") (fun xs H Q=>∃ p ys,xs=[.ref p]∧(SqL X.K H p ys∨SqT X.K H p ys)∧Q (.int ys.length) H):=by
 intro pins s σ H xs us Q I r h
 obtain ⟨p,ys,rfl,hq,q⟩:=h
 obtain ⟨u,rfl,rx⟩:=zfx r
 cases rx
 have hn:=zfS
 rcases hq with hq | hq
 ·obtain ⟨its,r',pl,hz⟩:=I.list hq
  have hlen:=r'.length
  exact Calls.call_len_list pl.isList (by simp only [List.size_toArray]<;>omega) ⟨.int ys.length,H,I.tok _,⟨s.toks + 1,by rw [List.size_toArray,hlen]⟩,q⟩
 ·obtain ⟨its,r',pl,hz⟩:=I.tuple hq
  have hlen:=r'.length
  exact len_tuple pl (by simp only [List.size_toArray]<;>omega) ⟨.int ys.length,H,I.tok _,⟨s.toks + 1,by rw [List.size_toArray,hlen]⟩,q⟩
theorem zfZ:zcN X (.builtin "len") (fun xs H Q=>∃ z,xs=[.str z]∧z.length≤sizeLine∧Q (.int z.length) H):=by
 intro pins s σ H xs us Q I r h
 obtain ⟨z,rfl,hz,q⟩:=h
 obtain ⟨u,rfl,t,rfl⟩:=zfx r
 have hn:=zfS
 exact len_str (by omega) ⟨.int z.length,H,I.tok _,⟨_,rfl⟩,q⟩
theorem zcN.or {f:Value}{r r':List V→Hp→VK→Prop} (h:zcN X f r) (h':zcN X f r'):zcN X f (fun xs H Q=>r xs H Q∨r' xs H Q):=by
 intro pins s σ H xs us Q I rs q
 rcases q with q | q
 ·exact h pins s σ H xs us Q I rs q
 ·exact h' pins s σ H xs us Q I rs q
theorem zft:zcN X (.type "tuple") (fun xs H Q=>∃ p ys,xs=[.ref p]∧((SqL X.K H p ys∧∀ l,H l=none→Q (.ref l) (upd H l (.tup ys)))∨(SqT X.K H p ys∧Q (.ref p) H))):=by
 intro pins s σ H xs us Q I r h
 obtain ⟨p,ys,rfl,h⟩:=h
 obtain ⟨u,rfl,rx⟩:=zfx r
 cases rx
 rcases h with ⟨hq,q⟩ | ⟨hq,q⟩
 ·obtain ⟨its,r',pl,hz⟩:=I.list hq
  have hlen:=r'.length
  refine call_tuple_list pl.isList (fun h' kp=>?_) (by simp only [List.size_toArray]<;>omega)
  have I1:Inv X pins σ H { s with heap:=h' }:=I.kept (t':=s.toks) kp
  have I2:Inv X pins σ (upd H h'.objs.size (.tup ys)) { s with heap:=h'.push { cls:=.type "tuple",data:=.seq its.toArray } }:=
   I1.laid (t':=s.toks) (fun b o e=>Heap.get?_push_of_some _ e) (Nat.le_refl _) (show zbK X.prog X.w _ _ _ (.tup ys) from ⟨hz,its,r',IsTup.new _ _⟩)
  exact ⟨.ref h'.objs.size,_,I2,rfl,q _ (I1.hok.fresh (Nat.le_refl _))⟩
 ·obtain ⟨its,r',pl,hz⟩:=I.tuple hq
  exact call_tuple_same pl ⟨.ref p,H,I,rfl,q⟩
noncomputable def tyV (K:PySem.W.Frag) (T:String) (x:V) (H:Hp):Prop:=match x with
 | .str _=>T = "str"
 | .int _=>T = "int"
 | .ref p=>(T = "list" ∧ ∃ xs,SqL K H p xs)∨(T = "tuple" ∧ ∃ o,K.lookup p=some o∧o.cls=.type "tuple" ∧ o.dict=none)∨
   (T = "dict" ∧ ((∃ kvs,H p=some (.dK kvs))∨∃ kvs,H p=some (.dT kvs)))∨(T = "set" ∧ ∃ S,H p=some (.set S))
 | _=>False
theorem zlW {pins:List (Addr×Obj)}{σ:St} {H:Hp}{s:Shared} {T:String}{x:V} {v:Value}(I:Inv X pins σ H s) (r:RelV x v) (ty:tyV X.K T x H) :
  s.TypeIs v T∧∀ a,v=.ref a→∃ ob,s.heap.get? a=some ob∧ob.dict=none:=by
 cases x with
 | str z=>
  obtain ⟨t,rfl⟩:=r
  cases (show T = "str" from ty)
  exact ⟨typeIs_str s z t,fun _ e=>nomatch e⟩
 | int i=>
  obtain ⟨t,rfl⟩:=r
  cases (show T = "int" from ty)
  exact ⟨typeIs_int s i t,fun _ e=>nomatch e⟩
 | ref p=>
  cases r
  rcases ty with ⟨rfl,xs,hq⟩ | ⟨rfl,o,hk,hc,hd⟩ | ⟨rfl,hk⟩ | ⟨rfl,S,hk⟩
  ·obtain ⟨its,_,pl,_⟩:=I.list hq
   refine ⟨pl.isList.typeIs,fun a e=>?_⟩
   cases e
   obtain ⟨o,n,e,c,hd,_⟩:=pl
   exact ⟨o,e,hd⟩
  ·refine ⟨⟨o,I.kIn p o hk,hc⟩,fun a e=>?_⟩
   cases e
   exact ⟨o,I.kIn _ o hk,hd⟩
  ·have z:∃ o,s.heap.get? p=some o∧o.ExactDict:=by
    rcases hk with ⟨kvs,hk⟩ | ⟨kvs,hk⟩
    ·obtain ⟨_,_,_,_,o,_,_,e,ex,_⟩:=I.hok p _ hk
     exact ⟨o,e,ex⟩
    ·obtain ⟨_,_,_,_,o,_,_,e,ex,_⟩:=I.hok p _ hk
     exact ⟨o,e,ex⟩
   obtain ⟨o,e,ex⟩:=z
   refine ⟨⟨o,e,ex.1⟩,fun a e2=>?_⟩
   cases e2
   exact ⟨o,e,ex.2.1⟩
  ·obtain ⟨o,_,_,_,e,ex,_⟩:=I.hok p _ hk
   refine ⟨⟨o,e,ex.1⟩,fun a e2=>?_⟩
   cases e2
   exact ⟨o,e,ex.2.1⟩
 | _=>exact False.elim ty
noncomputable def tBM (K:PySem.W.Frag) (T:String) (r:V→List V→Hp→VK→Prop) (to:TE) (t:TA):TE:=fun σ H Q=>to σ H fun x H1=>tyV K T x H1∧t σ H1 fun xs H2=>r x xs H2 Q
variable {o e:Expr}{es:List Expr} {to:TE}{t:TA} {name:Str}{apos cpos:Pos} {T id:String}{r:V→List V→Hp→VK→Prop}
theorem zmA (pa:PlainAttrs T) (slot:Slot T name id) (hty:typeOf (.builtin id)=pure (.type "method_descriptor")) (hm:MtR X id r) (ho:PE X o to) (ha:PA X (e::es) t)
  (hbase:attributeBase o name X.env (eval o X.env)=eval o X.env:=by rfl)
  (hfew:((backTo cpos (starEach (e::es) X.env)).all (fun x=>!x.1) && (backToKw cpos (keywordEach [] X.env)).all (fun x=>x.1.isSome)
   && decide ((e::es).length + ([]:List Keyword).length + (if ([]:List Keyword).isEmpty then 0 else 1) < 30))=true:=by rfl)
  (hline:(apos.endLine == cpos.line)=true:=by rfl) (hs:starEach (e::es) X.env=(false,eval e X.env)::starEach es X.env:=by rfl) (hplain:(backTo cpos (starEach es X.env)).any (·.1)=false:=by rfl) :
  PE X (.Call (.Attribute o name apos) (e::es) [] cpos) (tBM X.K T r to t):=by
 intro pins s σ H Q I h
 refine wpAny_Call_method_late hbase hfew hline rfl (thn (ho pins s σ H _ I h) fun v s1 ⟨x,H1,I1,r1,ty,q1⟩=>?_)
 obtain ⟨h1,h2⟩:=zlW I1 r1 ty
 refine ⟨T,id,pa,slot,hty,h1,h2,?_⟩
 have hA:=ha cpos pins s1 σ H1 _ I1 q1
 rw [hs] at hA ⊢
 refine Calls.callWith_builtin (by show (false || (backTo cpos (starEach es X.env)).any (·.1))=false;rw [hplain]<;>rfl) (Calls.evalArgs_plain ?_)
 exact thn hA fun us s2 ⟨vs,H2,I2,r2,q2⟩=>hm pins s2 σ H2 x vs v us Q I2 r1 r2 q2
/- xs.append(e),list.index on a module's tuple .. are MtR facts of 06m -/
end
end L2
namespace L2
open PySem PySem.Spec PyProof.Rows
noncomputable def MtM (X:Cx) (id:String) (r:V→List V→Hp→VK→Prop):Prop:=
 ∀ (pins:List (Addr×Obj)) (s:Shared) (σ:St) (H:Hp) (x:V) (xs:List V) (v:Value) (us:List Value) (Q:VK),Inv X pins σ H s→RelV x v→Vals xs us→r x xs H Q→
  wpAny (model X.prog X.w) X.A (call (.builtin id) (v::us)) (EP X pins σ Q) X.xe s
theorem Vals.one:∀ {x:V}{us:List Value},Vals [x] us→∃ u,us=[u]∧RelV x u
 | _,_,.cons r .nil=>⟨_,rfl,r⟩
section
variable {X:Cx}{pins:List (Addr×Obj)} {σ:St}{H:Hp} {s:Shared}{l b:Addr} {xs ys zs:List V}
theorem Inv.lset {its its':List Value}{n:Nat} {f:Array Value→Array Value}{t':Nat} (I:Inv X pins σ H s) (hH:H l=some (.lst xs))
  (e:s.heap.get? l=some { cls:=.type "list",data:=.seq its.toArray n }) (hf:f its.toArray=its'.toArray) (hv:Vals ys its') (hz:ys.length≤sizeLine) :
  Inv X pins σ (upd H l (.lst ys)) { s with heap:=s.heap.update l (Obj.mapSeq f),toks:=t' }:=by
 have q:=PySem.IsL.update e f
 rw [hf] at q
 refine I.write (x:=l) (e:=l) (by rw [hH];exact trivial) (.inl rfl) (fun b' u hb hu=>(Heap.get?_update_other s.heap (Obj.mapSeq f) (Ne.symm hb)).trans hu) ⟨_,q⟩ ?_
 exact ⟨hz,its',_,hv,q⟩
theorem Inv.lnew {its:List Value}{t':Nat} (I:Inv X pins σ H s) (hv:Vals ys its) (hz:ys.length≤sizeLine) :
  Inv X pins σ (upd H s.heap.objs.size (.lst ys)) { s with heap:=s.heap.push { cls:=.type "list",data:=.seq its.toArray },toks:=t' }:=
 I.laid (fun _ _ q=>Heap.get?_push_of_some _ q) (Nat.le_refl _) ⟨hz,its,0,hv,Heap.get?_push_size _ rfl⟩
theorem Inv.fresh (I:Inv X pins σ H s):H s.heap.objs.size=none:=I.hok.fresh (Nat.le_refl _)
theorem Inv.lstM (I:Inv X pins σ H s) (hH:H l=some (.lst xs)):xs.length≤sizeLine∧∃ (its:List Value) (n:Nat),Vals xs its∧xs.length=its.length∧s.heap.get? l=some { cls:=.type "list",data:=.seq its.toArray n }:=by
 obtain ⟨z,its,n,r,e⟩:=I.hok l _ hH
 exact ⟨z,its,n,r,r.length,e⟩
end
section
variable {X:Cx}
noncomputable def zkY:V→List V→Hp→VK→Prop:=fun x vs H Q=>∃ l xs y,x=.ref l∧vs=[y]∧H l=some (.lst xs)∧xs.length < sizeLine∧Q .non (upd H l (.lst (xs++[y])))
theorem zfQ:MtM X "list.append" zkY:=by
 intro pins s σ H x vs v us Q I rx rv h
 obtain ⟨l,xs,y,rfl,rfl,hH,hz,q⟩:=h
 cases rx
 obtain ⟨u,rfl,ru⟩:=rv.one
 obtain ⟨z,its,n,r,hl,e⟩:=I.lstM hH
 refine call_meets F.slot_list_append ⟨_,e,rfl⟩ F.entry_list_append (F.args_list_append_2 _ _) (PySem.list_append l its.toArray n u (by rw [List.size_toArray];omega)) ⟨e,?_⟩
 refine ⟨.non,_,I.lset (its':=its++[u]) hH e (by simp) (r.append (.cons ru .nil)) ?_,rfl,q⟩
 rw [List.length_append,List.length_singleton]
 omega
noncomputable def rCat:R2:=fun x y H Q=>∃ l b xs zs,x=.ref l∧y=.ref b∧H l=some (.lst xs)∧H b=some (.lst zs)∧xs.length + zs.length≤sizeLine∧∀ p,H p=none→Q (.ref p) (upd H p (.lst (xs++zs)))
theorem zkA:OpR X (binaryOp .Add) rCat:=by
 intro pins s σ H x y v u Q I rx ry h
 obtain ⟨l,b,xs,zs,rfl,rfl,hH,hB,hz,q⟩:=h
 cases rx
 cases ry
 obtain ⟨z,its,n,r,hl,e⟩:=I.lstM hH
 obtain ⟨z2,its2,n2,r2,hl2,e2⟩:=I.lstM hB
 refine PySem.P.add_list e e2 ?_ (by rw [List.size_toArray,List.size_toArray];omega)
 have ea:its.toArray++its2.toArray=(its++its2).toArray:=by simp
 rw [ea]
 exact ⟨.ref _,_,I.lnew (t':=s.toks) (r.append r2) (by rw [List.length_append];omega),rfl,q _ I.fresh⟩
end
section
variable {prog:Program}{w:World} {A:Around}{E:Value→Shared→Prop} {s:Shared}
end
section
variable {X:Cx}
end
end L2
namespace Att
open PySem PySem.W PySem.Calls PyProof.Rows
theorem zeo {P:Params}{h:Heap}:∀ (ns:List Int) (vs:List Value),WellAll P h vs (ns.map WData.int)→IntsAre vs ns:=by
 intro ns
 induction ns with
 | nil=>
  intro vs w
  rw [List.map_nil] at w
  cases w
  exact .nil
 | cons n ns ih=>
  intro vs w
  rw [List.map_cons] at w
  cases w with
  | cons a b=>
   cases a
   exact .cons _ _ (ih _ b)
theorem zia {l:OpenLaw}{n:Nat} (hn:l.most=some n) {P:Params}{h:Heap} {args:List WData}{vals:List Value}
  (hpre:l.row.toRowW.claim.pre args=true) (hwl:WellAll P h vals args) :
  ∃ a vs ns,vals=[Value.ref a]∧args=[WData.list (ns.map WData.int)]∧h.get? a=some { cls:=.type "list",data:=.seq vs.toArray }∧IntsAre vs ns∧ns.length≤n:=by
 have hsh:WShape.hasAll [] args [.list .int]=true:=(pre_splitW hpre).1
 have hc:l.pre.holds [] { args:=args }=true:=(pre_splitW hpre).2
 obtain ⟨d,r,rfl,h1,h2⟩:=hasAllW_cons hsh
 obtain rfl:=hasAllW_nil h2
 obtain ⟨xs,rfl,h3⟩:=hasW_list h1
 obtain ⟨ns,rfl⟩:=items_int h3
 have hlen:ns.length≤n:=by
  unfold OpenLaw.pre at hc
  have h4:(WTm.not (.lt (.lit (.int (n:Int))) (.len (.arg 0)))).holds [] { args:=[.list (ns.map .int)] }=true:=by
   have h4:=(holds_andW hc).1
   rw [hn] at h4
   exact h4
  have h5:=condW_of h4 (w_not (w_lt w_lit (w_len_list (w_arg rfl))))
  rw [List.length_map] at h5
  refine Nat.le_of_not_lt fun q=>?_
  have q':(n:Int) < ((ns.length:Nat):Int):=by omega
  first
   | (rw [decide_eq_true q'] at h5;exact absurd h5 (by decide))
   | (simp at h5;omega)
 cases hwl with
 | cons w1 w2=>
  cases w2
  cases w1 with
  | list ho hall=>exact ⟨_,_,ns,rfl,rfl,ho,zeo ns _ hall,hlen⟩
theorem zif (l:OpenLaw) (args:List WData):l.row.toRowW.claim.post args (.bool true) args=true:=
 postW_of (r:=l.row.toRowW) (X:=(true == true))
  (show WShape.has [] (.bool true) .bool=true by first | rfl | decide | simp [WShape.has,WShape.arms,WShape.armsAll])
  (show (WTm.eq .res (.lit (.bool true))).value [] { args:=args,res:=some (.bool true),after:=args }=some (.bool (true == true)) from w_eq_bool (w_res rfl) w_lit) rfl
theorem attach_call {l:OpenLaw}{n:Nat} {q:Program}{loose:List Str} {XP:(Str→Option Value)→Heap→Prop}{YP:World→Heap→Prop} {d:DefRec}
  (hn:l.most=some n) (hdf:d.params.defaults=[])
  (call:∀ (w:World) (s₀ s₁:Shared) (mg mb:Str→Option Value) (fa:Addr) (o:Obj) (pm cd doc:Value) (a:Addr) (vs:List Value) (ns:List Int),
   Ground q loose [] XP w s₀ mg mb s₁.heap→YP w s₁.heap→
   s₁.heap.get? fa=some o→o.data=.func (docDef d.name d.params d.body d.scope pm cd doc)→s₁.heap.CodeRec cd d.name→mg d.name=some (.ref fa)→
   s₁.heap.get? a=some { cls:=.type "list",data:=.seq vs.toArray }→IntsAre vs ns→ns.length≤n→s₁.gens=#[]→
   codeAny (model l.prog w) callerA (.call (.ref fa) ⟨[.ref a],[]⟩) (fun r s'=>r=.ok (.ret (.bool true))∧OldK s₁.heap s'.heap∧s'.os=s₁.os∧AllBare s'.gens) s₁) :
  WalkO q loose XP YP l.row.toRowW d [] (fun f vs=>PySem.call f vs):=by
 intro w s₀ s₁ mg mb G Y fa o pm cd doc dV kV ho hd hcd hD hmg hg args vals as hpre hlay hrd hwl hlo
 obtain rfl:dV=.none:=Dflts.none hD hdf
 obtain rfl:kV=.none:=Dflts.noKw hD
 obtain ⟨a,vs,ns,rfl,rfl,hobj,hints,hlen⟩:=zia hn hpre hwl
 refine enter_call (codeAny_mono (call w s₀ s₁ mg mb fa o pm cd doc a vs ns G Y ho (fd_plain hd) hcd hmg hobj hints hlen hg) fun r s' hq=>?_)
 obtain ⟨rfl,h2,h3,h4⟩:=hq
 exact ⟨.inl ⟨.bool true,.bool true,[],rfl,fun _=>rfl,.bool true,zif l _,fun _=>⟨List.Pairwise.nil,fun _ hm=>(nomatch hm)⟩⟩,h2,h3,h4⟩
section
variable {prog:Program}{w:World} {A:Around}{E:Value→Shared→Prop} {s:Shared}{K:Frag}
end
end Att
namespace L2
open PySem PySem.Spec PyProof.Rows
theorem zdj:∀ {vs:List Value}{ns:List Int},IntsAre vs ns→Vals (ns.map V.int) vs
 | _,_,.nil=>.nil
 | _,_,.cons n t h=>.cons ⟨t,rfl⟩ (zdj h)
noncomputable def Only (H:Hp):Prop:=∀ b,H b=none∨∃ o xs,H b=some (.frz o (.lst xs))
theorem zjK {P:Program}{w:World} {K:PySem.W.Frag}{mg mb:Str→Option Value} {CX:CXT}{k:Nat} {fa a:Addr}{fd:FuncData} {x:Str}{sp:Sp} {s₁:Shared}{vs:List Value} {ns:List Int}
  (KX:K.In s₁.heap) (hns:s₁.heap.Ns mainGlobals mg) (hb:s₁.heap.Ns builtinsNs mb) (hbb:∀ x:Str,x ≠ "__name__" → mb x=bootBuiltins x) (hlim:s₁.heap.NoLimit) (hg:s₁.gens=#[])
  (ha:s₁.heap.get? a=some { cls:=.type "list",data:=.seq vs.toArray }) (hi:IntsAre vs ns) (hl:ns.length≤sizeLine) (hr:Room k callerA)
  (F:∀ base:Heap,K.In base→base.Ns mainGlobals mg→FnOk P w K mg base CX k fa fd [x] sp) (hbind:∀ (s:Shared) (u:Value),BindsTo s fd ⟨[u],[]⟩ [(x,u)])
  (hsp:∀ H:Hp,Only H→SqL K H a (ns.map V.int)→sp [.ref a] H (fun v _=>v=.bl true) fun _ _ _=>False)
  (hCX:∀ H e s',CX [] H s₁ (fun _ _ _=>False) e s'→False) :
  codeAny (model P w) callerA (.call (.ref fa) ⟨[.ref a],[]⟩) (fun r s'=>r=.ok (.ret (.bool true))∧OldK s₁.heap s'.heap∧s'.os=s₁.os∧AllBare s'.gens) s₁:=by
 have rv:=zdj hi
 have lenV:=hi.length
 have core:∀ H:Hp,Only H→SqL K H a (ns.map V.int)→HOk P w H s₁.heap→(∀ b,H b≠none→b=a)→(H a≠none→K.lookup a=none)→
   codeAny (model P w) callerA (.call (.ref fa) ⟨[.ref a],[]⟩) (fun r s'=>r=.ok (.ret (.bool true))∧OldK s₁.heap s'.heap∧s'.os=s₁.os∧AllBare s'.gens) s₁:=by
  intro H hO hS hok hA hK
  have base_of:∀ {b:Addr}{o:Obj},s₁.heap.get? b=some o→H b=none→(hidT s₁.heap H).get? b=some o:=fun e n=>zjS e n
  have noA:∀ {b:Addr}{o:Obj} {es:Array DictEntry}{ep:Nat},s₁.heap.get? b=some o→o.data=.dict es ep→H b=none:=fun {b o es ep} e d=>by
   cases q:H b with
   | none=>rfl
   | some u=>
    have e':b=a:=hA b (by rw [q];simp)
    subst e'
    rw [ha] at e;cases e
    have d':Data.seq vs.toArray _=Data.dict es ep:=d
    cases d'
  have nsK:∀ {b:Addr}{m:Str→Option Value},s₁.heap.Ns b m→(hidT s₁.heap H).Ns b m:=fun {b m} ⟨o,es,ep,e,d,r⟩=>⟨o,es,ep,base_of e (noA e d),d,r⟩
  have hKb:K.In (hidT s₁.heap H):=fun b o e=>base_of (KX b o e) (by
   cases q:H b with
   | none=>rfl
   | some u=>
    have e':b=a:=hA b (by rw [q];simp)
    subst e'
    rw [hK (by rw [q];simp)] at e;cases e)
  have hM:Mod K mg (hidT s₁.heap H):=⟨hKb,nsK hns,⟨mb,nsK hb,hbb⟩,let ⟨mc,h1,h2⟩:=hlim;⟨mc,nsK h1,h2⟩⟩
  have e0:Env0 P w K mg (hidT s₁.heap H) callerA [] s₁ H:=⟨rfl,hM,fun b o e=>zlu e,Nat.le_of_eq (ziM _ _),trivial,fun b hb=>absurd (show b∈([]:List Addr) from hb) (by simp),hok,.of_eq hg⟩
  refine codeAny_mono ((F _ hKb (nsK hns)).run callerA [] s₁ H ⟨[.ref a],[]⟩ [.ref a] [.ref a] _ _ hr e0 (hbind s₁ (.ref a)) (.cons rfl .nil) (hsp H hO hS)) fun r s' h=>?_
  cases r with
  | error e=>exact (hCX H e s' h).elim
  | ok fl=>
   cases fl with
   | next=>exact False.elim h
   | brk=>exact False.elim h
   | cont=>exact False.elim h
   | ret u=>
    obtain ⟨v,H',os,bare,un,hok',r',q⟩:=h
    have q':v=.bl true:=q
    subst q'
    obtain rfl:u=Value.bool true:=r'
    refine ⟨rfl,OldK.of_keep fun b o e=>?_,os,bare⟩
    cases q:H b with
    | none=>exact un.keep b o e q (by intro z;exact absurd (show b∈([]:List Addr) from z) (by simp)) (by simp)
    | some u=>
     rcases hO b with z | ⟨ob,xs,z⟩
     ·rw [q] at z;cases z
     ·have z2:=un.frzs b ob _ z
      obtain ⟨e1,_⟩:=hok b _ z
      obtain ⟨e2,_⟩:=hok' b _ z2
      rw [e] at e1;cases e1
      exact e2
 cases hk:K.lookup a with
 | some o=>
  have e:=KX a o hk
  rw [ha] at e
  cases e
  refine core (fun _=>none) (fun _=>.inl rfl) (.inr ⟨_,vs.toArray,_,hk,rfl,rfl,rfl,by rw [List.size_toArray,lenV];exact hl,by simpa using rv⟩) (fun b u z=>by have z':(none:Option HO)=some u:=z;cases z') (fun b z=>absurd rfl z) fun z=>absurd rfl z
 | none=>
  refine core (fun b=>if b=a then some (.frz { cls:=.type "list",data:=.seq vs.toArray } (.lst (ns.map V.int))) else none) (fun b=>?_) (.inl (.inr ⟨{ cls:=.type "list",data:=.seq vs.toArray },if_pos rfl⟩)) (fun b u z=>?_) (fun b z=>?_) fun _=>hk
  ·by_cases hb:b=a
   ·exact .inr ⟨_,_,if_pos hb⟩
   ·exact .inl (if_neg hb)
  ·by_cases hb:b=a
   ·have z':=(if_pos hb).symm.trans z
    cases z'
    subst hb
    exact ⟨ha,by rw [List.length_map];exact hl,vs,_,rv,ha⟩
   ·have z':=(if_neg hb).symm.trans z
    cases z'
  ·by_cases hb:b=a
   ·exact hb
   ·exact absurd (if_neg hb) z
end L2
namespace L2
open PySem PySem.Spec PyProof.Rows
theorem walk_of {l:PySem.W.OpenLaw}{n k:Nat} {q:Program}{loose:List Str} {XP:(Str→Option Value)→Heap→Prop}{YP:World→Heap→Prop} {d:DefRec}{K:Params→PySem.W.Frag} {CX:World→CXT}{sp:World→Sp} {x:Str}
  (hn:l.most=some n) (hn2:n≤sizeLine) (hdf:d.params.defaults=[]) (hr:Room k callerA)
  (hY:∀ (w:World) (h:Heap),YP w h→(K w.params).In h)
  (F:∀ (w:World) (mg:Str→Option Value) (fa:Addr) (h:Heap),(K w.params).In h→h.Ns mainGlobals mg→mg d.name=some (.ref fa)→
   ∃ fd:FuncData,(∀ (s:Shared) (u:Value),BindsTo s fd ⟨[u],[]⟩ [(x,u)])∧
    ∀ base:Heap,(K w.params).In base→base.Ns mainGlobals mg→FnOk l.prog w (K w.params) mg base (CX w) k fa fd [x] (sp w))
  (hsp:∀ (w:World) (H:Hp) (a:Addr) (ns:List Int),ns.length≤n→Only H→SqL (K w.params) H a (ns.map V.int)→sp w [.ref a] H (fun v _=>v=.bl true) fun _ _ _=>False)
  (hCX:∀ (w:World) (H:Hp) (s:Shared) (e:Value) (s':Shared),CX w [] H s (fun _ _ _=>False) e s'→False) :
  PySem.W.WalkO q loose XP YP l.row.toRowW d [] (fun f vs=>PySem.call f vs):=by
 refine Att.attach_call hn hdf fun w s₀ s₁ mg mb fa o pm cd doc a vs ns G Y ho hd hcd hmg hobj hints hlen hg=>?_
 have KX:=hY w _ Y
 obtain ⟨fd,hb,hF⟩:=F w mg fa _ KX G.T.g hmg
 exact zjK KX G.T.g G.T.b G.T.builtins G.T.nolimit hg hobj hints (Nat.le_trans hlen hn2) hr hF hb (fun H hO hS=>hsp w H a ns hlen hO hS) fun H e s'=>hCX w H s₁ e s'
end L2
/- THE LAST THEOREM (shape;LID,My.* are yours):
  My.Adr: a structure of the addresses that your layer names (classes,functions);My.Txt K t: a structure (Prop) of the equations over K;
  My.txt_mk:{K} {implicit addresses ..} (e1:nsIn K mainGlobals "law" = some (some (.ref f))) (e2:K.lookup f=some ⟨oc,od,.func (fnOf "law" "law" params body scope dV kV doc pm an cdv ct),sl⟩) (e3:codeIn K cdv "law" = true) ..:∃ t,My.Txt K t
set_option maxRecDepth 100000 in
set_option maxHeartbeats 0 in
theorem PySem.Challenge.cw_LID_holds:PySem.Challenge.rw_LID.Holds:=by
 w_on;o_law;k_head;(case hw=>w_witness2)
 k_fill
 refine L2.walk_of (l:=PySem.Challenge.rw_LID) (n:=63) (k:=40) (x := "script") (CX:=fun w=>..) (sp:=fun _=>My.sp_law) rfl (by decide) rfl ⟨rfl,by decide,by decide⟩ (fun w h Y=>PySem.W.kIn_of Y) ?F ?S ?C
 case F=>
  intro w mg fa h KX G hmg
  have T:∃ t,My.Txt (L2.KOf KX) t:=by
   dsimp only [L2.KOf]                          -- K must stand as «<heap const> w.params» for k_is
   refine' My.txt_mk ?e1 ?e2 ?e3 ..
   (case e1=>PySem.W.k_is)                    -- in the order: a name -> its address -> its object -> its parts
   (case e2=>PySem.W.k_is)
   ..
  obtain ⟨t,T⟩:=T
  have e0:=hmg.symm.trans (PySem.W.mg_of KX G T.law)
  cases e0                                       -- fa is the law's own address
  exact ⟨_,fun s u=>.of_eq rfl,fun base kb nb=>My.law_fn T kb nb⟩     -- if «.of_eq rfl» comes too early: refine' ⟨_,?b,fun base kb nb=>My.law_fn T kb nb⟩;exact fun s u=>.of_eq rfl
 case S=>exact fun w H a ns hl hO hS=>..
 case C=>exact ..
(the tactic k_is has no namespace: write k_is) -/
namespace L2
open PySem PySem.Spec PyProof.Rows
noncomputable def zfp (s:Stmt):Arguments:=match s with
 | .FunctionDef _ a _ _ _ _ _ _ _ _=>a
 | _=>{ posonlyargs:=[],args:=[],vararg:=none,kwonlyargs:=[],kw_defaults:=[],kwarg:=none,defaults:=[] }
noncomputable def zcc (s:Stmt):List Stmt:=match s with
 | .FunctionDef _ _ b _ _ _ _ _ _ _=>b
 | _=>[]
noncomputable def zah (s:Stmt):Scope:=match s with
 | .FunctionDef _ _ _ _ _ _ sc _ _ _=>sc
 | _=>{ kind:=.function,names:=[],isGenerator:=false,isCoroutine:=false }
noncomputable abbrev CX0:CXT:=fun _ _ _ _ _ _=>False
noncomputable abbrev E0:XK:=fun _ _ _=>False
theorem zll {X:Cx}:zjj CX0 X E0:=fun _ _ _ _ _ _ _ h=>h.elim
structure Fun (K:PySem.W.Frag) (x qual:Str) (st:Stmt) (f:Addr) (fd:FuncData):Prop where
 ex:∃ (oc:Value) (od:Option Addr) (kV doc pm:Value) (an:Option Addr) (cdv ct:Value) (osl:Array (Option Value)),
  fd=PySem.W.fnOf x qual (zfp st) (zcc st) (zah st) .none kV doc pm an cdv ct∧K.lookup f=some ⟨oc,od,.func fd,osl⟩∧PySem.W.codeIn K cdv qual=true
 kp:PySem.W.keepIn K (.ref f)=true
section
variable {P:Program}{w:World} {K:PySem.W.Frag}{mg:Str→Option Value} {base:Heap}
theorem Fun.ok {x qual:Str}{st:Stmt} {f:Addr}{fd:FuncData} {N ps:List Str}{k:Nat} {sp:Sp}(F:Fun K x qual st f fd) (S:zar N ps (zah st)) (len:∀ vs H Q E,sp vs H Q E→vs.length=ps.length)
  (hbody:∀ (cdv:Value) (A:Around) (outer:List Env) (s:Shared) (H:Hp) (vs:List V) (Q:VK) (E:XK),Room k (A.deeper (envOfC qual (zah st) s.heap.objs.size f cdv))→sp vs H Q E→
   ∃ t,PSs (cxOf CX0 P w K mg base N qual (zah st) f cdv A outer s H E).nox (zcc st) t∧t { nx:=fun _ H'=>Q .non H',rt:=Q } (start N vs) H):FnOk P w K mg base CX0 (k + 1) f fd ps sp:=by
 obtain ⟨oc,od,kV,doc,pm,an,cdv,ct,osl,rfl,lk,hcd⟩:=F.ex
 refine znc lk hcd S len fun A outer s H vs Q E hr hsp=>?_
 obtain ⟨t,h,q⟩:=hbody cdv A outer s H vs Q E hr hsp
 exact ⟨t,h.nox,q⟩
theorem Fun.binds {x qual:Str}{st:Stmt} {f:Addr}{fd:FuncData} {ps:List Str}(F:Fun K x qual st f fd)
  (h:∀ (kV doc pm:Value) (an:Option Addr) (cdv ct:Value) (us:List Value),us.length=ps.length→bindArgs (PySem.W.fnOf x qual (zfp st) (zcc st) (zah st) .none kV doc pm an cdv ct) ⟨us,[]⟩=pure (ps.zip us)):zbA K fd ps []:=by
 obtain ⟨oc,od,kV,doc,pm,an,cdv,ct,osl,rfl,lk,hcd⟩:=F.ex
 exact .all (h kV doc pm an cdv ct)
end
section
variable {X:Cx}
end
theorem iteF {A B:Prop}(h:B):if false=true then A else B:=by
 rw [if_neg Bool.false_ne_true]
 exact h
theorem iteT {A B:Prop}(h:A):if true=true then A else B:=by
 rw [if_pos rfl]
 exact h
noncomputable def Same (H H':Hp):Prop:=∀ b o,H b=some o→H' b=some o
theorem Same.refl (H:Hp):Same H H:=fun _ _ h=>h
theorem Same.trans {H H1 H2:Hp}(a:Same H H1) (b:Same H1 H2):Same H H2:=fun c o h=>b c o (a c o h)
theorem Same.free {H H':Hp}(e:Same H H') {l:Addr}(h:H' l=Option.none):H l=Option.none:=by
 cases q:H l with
 | none=>rfl
 | some o=>
  rw [e l o q] at h
  cases h
theorem Same.seq {K:PySem.W.Frag}{H H':Hp} {a:Addr}{xs:List V} (e:Same H H') (h:SqL K H a xs):SqL K H' a xs:=by
 rcases h with (h | ⟨o,h⟩) | h
 ·exact .inl (.inl (e _ _ h))
 ·exact .inl (.inr ⟨o,e _ _ h⟩)
 ·exact .inr h
end L2
set_option Elab.async false
set_option linter.all false
set_option maxRecDepth 100000
namespace L2
open PySem PySem.Spec PyProof.Rows
noncomputable def clOf (env:Env):List (Str×NameKind)→List (Str×Addr)→List (Str×Addr)
 | [],acc=>acc
 | (n,k)::r,acc=>clOf env r (if k=.free then (n,(env.cells.lookup n).getD 0)::acc else acc)
theorem zeS {env:Env}{scope:Scope} (h:∀ y∈scope.names,y.2=.free→∃ c,env.cells.lookup y.1=some c):closureFor scope env=pure (clOf env scope.names []):=by
 unfold closureFor
 have go:∀ (l:List (Str×NameKind)) (acc:List (Str×Addr)),(∀ y∈l,y.2=.free→∃ c,env.cells.lookup y.1=some c)→
   (forIn l acc (fun (x:Str×NameKind) (r:List (Str×Addr))=>(match x with | (name,kind)=>if (kind == .free)=true then (do let c ← cellOf env name;pure (ForInStep.yield ((name,c)::r))) else (pure (ForInStep.yield r)):Sem (ForInStep (List (Str×Addr))))):Sem (List (Str×Addr)))=pure (clOf env l acc):=by
  intro l
  induction l with
  | nil=>intro acc _;rfl
  | cons a r ih=>
   intro acc hl
   obtain ⟨n,k⟩:=a
   have hr:∀ y∈r,y.2=.free→∃ c,env.cells.lookup y.1=some c:=fun y hy=>hl y (List.mem_cons_of_mem _ hy)
   rw [List.forIn_cons]
   by_cases hk:k=.free
   ·subst hk
    obtain ⟨c,hc⟩:=hl (n,.free) List.mem_cons_self rfl
    simp only [clOf,if_true]
    have e:cellOf env n=pure c:=by unfold cellOf;rw [show env.cells.lookup n=some c from hc]
    simp only [e,beq_self_eq_true,if_true,pure_bind]
    rw [show env.cells.lookup n=some c from hc]
    exact ih _ hr
   ·have hb:(k == NameKind.free)=false:=by simpa using hk
    simp only [clOf,if_neg hk,hb,Bool.false_eq_true,if_false,pure_bind]
    exact ih _ hr
 have:=go scope.names [] h
 simpa using this
theorem zfr {env:Env}:∀ (l:List (Str×NameKind)) (acc:List (Str×Addr)),(∀ y∈l,y.2=.free→∃ c,env.cells.lookup y.1=some c)→(∀ x c,acc.lookup x=some c→env.cells.lookup x=some c)→
  ∀ x c,(clOf env l acc).lookup x=some c→env.cells.lookup x=some c
 | [],_,_,ha=>ha
 | (n,k)::r,acc,hl,ha=>by
  refine zfr r _ (fun y hy=>hl y (List.mem_cons_of_mem _ hy)) ?_
  intro x c hx
  by_cases hk:k=.free
  ·rw [if_pos hk,List.lookup_cons] at hx
   obtain ⟨c',hc⟩:=hl (n,k) List.mem_cons_self hk
   cases e:x == n with
   | true=>
    rw [e] at hx
    have ex:x=n:=eq_of_beq e
    subst ex
    have hc':env.cells.lookup x=some c':=hc
    rw [hc'] at hx ⊢
    exact hx
   | false=>rw [e] at hx;exact ha x c hx
  ·rw [if_neg hk] at hx;exact ha x c hx
theorem zfs {env:Env}:∀ (l:List (Str×NameKind)) (acc:List (Str×Addr)) (x:Str),((x,NameKind.free)∈l∨∃ c,acc.lookup x=some c)→∃ c,(clOf env l acc).lookup x=some c
 | [],_,x,h=>by
  rcases h with h | h
  ·cases h
  ·exact h
 | (n,k)::r,acc,x,h=>by
  refine zfs r _ x ?_
  rcases h with h | ⟨c,h⟩
  ·rcases List.mem_cons.mp h with h | h
   ·cases h
    refine .inr ⟨(env.cells.lookup n).getD 0,?_⟩
    rw [if_pos rfl,List.lookup_cons]
    simp
   ·exact .inl h
  ·by_cases hk:k=.free
   ·rw [if_pos hk]
    cases e:x == n with
    | true=>exact .inr ⟨(env.cells.lookup n).getD 0,by rw [List.lookup_cons,e]⟩
    | false=>exact .inr ⟨c,by rw [List.lookup_cons,e];exact h⟩
   ·rw [if_neg hk];exact .inr ⟨c,h⟩
theorem zdD {env:Env}{names:List (Str×NameKind)} (hc:∀ y∈names,y.2≠.cell) {x:Str}{k:NameKind} (hk:k=.cell∨k=.free)
  (h:(names.map fun (p:Str×NameKind)=>if (p.2 == NameKind.free && env.scope.kind == .function && env.kindOf p.1 == some .cell) then (p.1,NameKind.cell) else (p.1,p.2)).lookup x=some k):(x,NameKind.free)∈names:=by
 obtain ⟨⟨n,k0⟩,hm,e⟩:=List.mem_map.mp (PySem.mem_of_lookup h)
 have n0:=hc _ hm
 simp only at e n0
 by_cases hq:(k0 == NameKind.free && env.scope.kind == .function && env.kindOf n == some .cell)=true
 ·rw [if_pos hq] at e
  simp only [Bool.and_eq_true] at hq
  have:k0=.free:=eq_of_beq hq.1.1
  subst this
  cases e
  exact hm
 ·rw [if_neg hq] at e
  cases e
  rcases hk with rfl | rfl
  ·exact absurd rfl n0
  ·exact hm
noncomputable def zaF (X:Cx) (N:List Str) (scope:Scope) (cl:List (Str×Addr)) (C:Addr) (s0:Shared) (H0:Hp) (fp:List Addr):Cx:=
 { prog:=X.prog,w:=X.w,K:=X.K,mg:=X.mg,base:=X.base,A:=X.A,N:=N,s₀:=s0,H₀:=H0,env:=compEnvC scope cl C X.env,outer:=X.stack,stack:=X.stack,ex:=fp,fn:=fun _=>false,calm:=X.calm,pn:=[],xe:=fun _ _=>False }
inductive Cap (X:Cx) (scope:Scope):List Str→List (Option Nat)→Prop
 | nil:Cap X scope [] []
 | own {x N c}:Cap X scope N c→Cap X scope (x::N) (none::c)
 | cap {x j N c} (h:Cap X scope N c) (h1:X.N[j]?=some x:=by rfl) (h2:scope.names.lookup x=some .free:=by rfl) (h3:X.env.kindOf x=some .cell∨X.env.kindOf x=some .free:=by first | exact Or.inl rfl | exact Or.inr rfl) :
   Cap X scope (x::N) (some j::c)
theorem Cap.len {X:Cx}{scope:Scope} {N:List Str}{c:List (Option Nat)} (h:Cap X scope N c):c.length=N.length:=by
 induction h with
 | nil=>rfl
 | own _ ih=>simp [ih]
 | cap _ _ _ _ ih=>simp [ih]
theorem Cap.get {X:Cx}{scope:Scope} {N:List Str}{c:List (Option Nat)} (h:Cap X scope N c):∀ {i j:Nat}{x:Str},c[i]?=some (some j)→N[i]?=some x→
  X.N[j]?=some x∧scope.names.lookup x=some .free∧(X.env.kindOf x=some .cell∨X.env.kindOf x=some .free):=by
 induction h with
 | nil=>intro i j x h;simp at h
 | own _ ih=>
  intro i j x h1 h2
  cases i with
  | zero=>simp at h1
  | succ i=>exact ih (by simpa using h1) (by simpa using h2)
 | cap _ a b d ih=>
  intro i j x h1 h2
  cases i with
  | zero=>simp at h1 h2;subst h1 h2;exact ⟨a,b,d⟩
  | succ i=>exact ih (by simpa using h1) (by simpa using h2)
noncomputable def st0 (cap:List (Option Nat)) (σ:St):St:=cap.map fun o=>match o with
 | some j=>(σ[j]?).getD none
 | none=>none
structure zbn (X:Cx) (scope:Scope):Prop where
 kind:scope.kind=.function
 cells:∀ y∈scope.names,y.2≠.cell
 names:∀ y∈scope.names,y.2=.local→scope.names.lookup y.1=some .local
 free:∀ y∈scope.names,y.2=.free→X.env.kindOf y.1=some .cell∨X.env.kindOf y.1=some .free
theorem zbn.mk' {X:Cx}{scope:Scope} (h1:scope.kind=.function:=by rfl) (h2:(scope.names.all fun y=>decide (y.2≠.cell))=true:=by rfl)
  (h3:(scope.names.all fun y=>decide (y.2≠.local) || decide (scope.names.lookup y.1=some .local))=true:=by rfl)
  (h4:(scope.names.all fun y=>decide (y.2≠.free) || (decide (X.env.kindOf y.1=some .cell) || decide (X.env.kindOf y.1=some .free)))=true:=by rfl):zbn X scope where
 kind:=h1
 cells:=fun y hy=>of_decide_eq_true (List.all_eq_true.mp h2 y hy)
 names:=fun y hy hl=>by
  have:=List.all_eq_true.mp h3 y hy
  rw [Bool.or_eq_true] at this
  rcases this with z | z
  ·exact absurd hl (of_decide_eq_true z)
  ·exact of_decide_eq_true z
 free:=fun y hy hl=>by
  have:=List.all_eq_true.mp h4 y hy
  rw [Bool.or_eq_true,Bool.or_eq_true] at this
  rcases this with z | z | z
  ·exact absurd hl (of_decide_eq_true z)
  ·exact .inl (of_decide_eq_true z)
  ·exact .inr (of_decide_eq_true z)
section
variable {X:Cx}{pins:List (Addr×Obj)} {σ:St}{H H3:Hp} {s s3:Shared}{N:List Str} {cap:List (Option Nat)}{scope:Scope} {fp:List Addr}{C:Addr}
theorem zbn.cellsOf (S:zbn X scope) (ok:X.Ok):∀ y∈scope.names,y.2=.free→∃ c,X.env.cells.lookup y.1=some c:=fun y hy hf=>ok.has y.1 (S.free y hy hf)
theorem zlN (S:zbn X scope) (I3:Inv X pins σ H3 s3) (f3:∀ b∈fp,FpOk X pins H3 b) (hfp:∀ b∈fp,b < s3.heap.objs.size) (hC:s3.heap.objs.size≤C) :
  (zaF X N scope (clOf X.env scope.names []) C s3 H3 fp).Ok:=by
 have sub:=zfr (env:=X.env) scope.names [] (S.cellsOf I3.ok) (fun x c h=>by simp at h)
 refine ⟨I3.ok.mod,S.kind,I3.ok.glob,I3.ok.blt,hC,fun x y c h1 h2=>I3.ok.inj x y c (sub x c h1) (sub y c h2),fun x hx=>?_,fun x c h=>absurd (show false=true from h) Bool.false_ne_true,I3.ok.hd,I3.ok.frames,.inl rfl,fun b hb=>⟨?_,fun x c h=>?_⟩,
  I3.bs,Nat.le_trans I3.ok.bsz I3.sz,fun b o e hb=>?_,fun b hb=>?_,I3.stack,I3.stkFree⟩
 ·refine zfs scope.names [] x (.inl ?_)
  rcases hx with hx | hx
  ·exact zdD S.cells (.inl rfl) hx
  ·exact zdD S.cells (.inr rfl) hx
 ·exact Nat.ne_of_lt (Nat.lt_of_lt_of_le (hfp b hb) hC)
 ·exact (f3 b hb).2.2.2.2.1 x c (sub x c h)
 ·obtain ⟨_,_,_,h,_⟩:=f3 b hb
  rcases h with h | h
  ·exact I3.ok.noex b o e h
  ·exact absurd (Nat.lt_of_lt_of_le (Heap.lt_size e) (Nat.le_trans I3.ok.bsz h)) (Nat.lt_irrefl _)
 ·intro hz
  obtain ⟨_,h1,h2,_⟩:=f3 b hb
  rcases List.mem_cons.mp (I3.stkSub b hz) with z | z
  ·exact h1 z
  ·exact h2 z
theorem zjR (S:zbn X scope) (cp:Cap X scope N cap) (I3:Inv X pins σ H3 s3) (f3:∀ b∈fp,FpOk X pins H3 b) (hfp:∀ b∈fp,b < s3.heap.objs.size) (hC:s3.heap.objs.size≤C) (os:s.os=s3.os) (bare:AllBare s.gens)
  (un:Un (frs X.stack) fp H3 H s3.heap s.heap) (ns:∃ m,s.heap.Ns C m) (fC:H C=none) (hok:HOk X.prog X.w H s.heap) :
  Inv (zaF X N scope (clOf X.env scope.names []) C s3 H3 fp) [] (st0 cap σ) H s:=by
 have sub:=zfr (env:=X.env) scope.names [] (S.cellsOf I3.ok) (fun x c h=>by simp at h)
 have cellK:∀ x c,X.env.cells.lookup x=some c→∀ v,s3.heap.IsCell c v→s.heap.IsCell c v:=fun x c e v ⟨o,ho,hd⟩=>by
  obtain ⟨sl,q⟩:=un.any ho (I3.freeC x c e) fun z=>(f3 c z).2.2.2.2.1 x c e rfl
  exact ⟨_,q,hd⟩
 obtain ⟨m,hm⟩:=ns
 refine ⟨zlN S I3 f3 hfp hC,os,bare,un,⟨m,hm,fun i x v h1 h2 h3=>?_⟩,fun x c h=>?_,fC,fun x c h=>?_,fun p hp=>absurd (show p∈([]:List (Addr×Obj)) from hp) (by simp),hok,?_⟩
 ·unfold st0 at h2
  rw [List.getElem?_map] at h2
  cases e:cap[i]? with
  | none=>rw [e] at h2;cases h2
  | some o=>
   rw [e] at h2
   cases o with
   | none=>simp at h2
   | some j=>
    obtain ⟨a1,a2,a3⟩:=cp.get e h1
    simp only [Option.map_some] at h2
    have h2':(σ[j]?).getD none=some v:=Option.some.inj h2
    have h2'':σ[j]?=some (some v):=by
     cases q:σ[j]? with
     | none=>rw [q] at h2';cases h2'
     | some z=>rw [q] at h2';simp at h2';rw [h2']
    obtain ⟨m0,_,hl⟩:=I3.loc
    have vis:Vis X.env.scope x:=by
     rcases a3 with z | z
     ·exact .inr (.inl z)
     ·exact .inr (.inr z)
    obtain ⟨u,r,l⟩:=hl j x v a1 h2'' vis
    refine ⟨u,r,?_⟩
    rcases l with ⟨k,_⟩ | ⟨_,c,e1,z⟩
    ·rcases a3 with q | q
     ·rw [q] at k;cases k
     ·rw [q] at k;cases k
    ·obtain ⟨c',hc'⟩:=zfs (env:=X.env) scope.names [] x (.inl (PySem.mem_of_lookup a2))
     have:=sub x c' hc'
     rw [e1] at this
     cases this
     refine .inr ⟨?_,c,hc',cellK x c e1 _ z⟩
     have vis2:(zaF X N scope (clOf X.env scope.names []) C s3 H3 fp).env.kindOf x=some .local∨(zaF X N scope (clOf X.env scope.names []) C s3 H3 fp).env.kindOf x=some .cell∨(zaF X N scope (clOf X.env scope.names []) C s3 H3 fp).env.kindOf x=some .free:=h3
     rcases vis2 with z1 | z1
     ·-- a local name of the block is not free there
      exfalso
      have z2:(scope.names.map fun (p:Str×NameKind)=>if (p.2 == NameKind.free && X.env.scope.kind == .function && X.env.kindOf p.1 == some .cell) then (p.1,NameKind.cell) else (p.1,p.2)).lookup x=some .local:=z1
      have key:∀ l:List (Str×NameKind),l.lookup x=some .free→(l.map fun (p:Str×NameKind)=>if (p.2 == NameKind.free && X.env.scope.kind == .function && X.env.kindOf p.1 == some .cell) then (p.1,NameKind.cell) else (p.1,p.2)).lookup x≠some .local:=by
       intro l
       induction l with
       | nil=>intro h;simp at h
       | cons p l ih=>
        obtain ⟨n,k⟩:=p
        intro h
        rw [List.map_cons]
        cases ex:x == n with
        | true=>
         rw [List.lookup_cons,ex] at h
         cases h
         intro q
         by_cases hq:((NameKind.free == NameKind.free) && X.env.scope.kind == .function && X.env.kindOf n == some .cell)=true
         ·rw [if_pos hq,List.lookup_cons,ex] at q;cases q
         ·rw [if_neg hq,List.lookup_cons,ex] at q;cases q
        | false=>
         rw [List.lookup_cons,ex] at h
         intro q
         by_cases hq:((k == NameKind.free) && X.env.scope.kind == .function && X.env.kindOf n == some .cell)=true
         ·rw [if_pos hq,List.lookup_cons,ex] at q;exact ih h q
         ·rw [if_neg hq,List.lookup_cons,ex] at q;exact ih h q
      exact key _ a2 z2
     ·exact z1
 ·obtain ⟨v,z⟩:=I3.cell x c (sub x c h)
  exact ⟨v,cellK x c (sub x c h) v z⟩
 ·obtain ⟨v,o,ho,_⟩:=I3.cell x c (sub x c h)
  exact un.free c o ho (I3.freeC x c (sub x c h)) fun z=>(f3 c z).2.2.2.2.1 x c (sub x c h) rfl
 ·show (st0 cap σ).length=N.length
  unfold st0
  rw [List.length_map];exact cp.len
end
noncomputable def PIf (Y:Cx) (ifs:List Expr) (t:TT):Prop:=
 ∀ (pins:List (Addr×Obj)) (s:Shared) (σ:St) (H:Hp) (Q:Bool→Hp→Prop),Inv Y pins σ H s→t σ H Q→
  wpAny (model Y.prog Y.w) Y.A (forIn ifs true fun c r=>if r=true then do let ok ← isTrue c Y.env (eval c Y.env);pure (ForInStep.yield ok) else pure (ForInStep.yield r)) (TP Y pins σ Q) Y.xe s
noncomputable def tYes:TT:=fun _ H Q=>Q true H
theorem zlg {Y:Cx}:PIf Y [] tYes:=fun _ _ _ H _ I h=>wpAny_tests_nil ⟨H,I,h⟩
section
variable {X:Cx}{pins:List (Addr×Obj)} {σ:St}{N:List Str} {cap:List (Option Nat)}{scope:Scope} {tg iter elt:Expr}{ifs:List Expr} {pos:Pos}{g:TG} {tt:TT}{te:TE}
noncomputable abbrev TAct:=St→Hp→(Hp→Prop)→Prop
noncomputable def PAct (Y:Cx) (act:Value→Env→Sem Unit) (D:Addr) (t:TAct):Prop:=
 ∀ (pins:List (Addr×Obj)) (s:Shared) (σ:St) (H:Hp) (Q:Hp→Prop),Inv Y pins σ H s→t σ H Q→wpAny (model Y.prog Y.w) Y.A (act (.ref D) Y.env) (fun _ s'=>∃ σ' H',Inv Y pins σ' H' s'∧Q H') Y.xe s
noncomputable def zhP (J:It) (g:TG) (tt:TT) (ta:Addr→TAct) (ho:HO) (cap:List (Option Nat)) (σ:St) (H1:Hp) (Q:VK):Prop:=
 ∀ D,H1 D=none→∃ W:Nat→Nat→Hp→Prop,(∃ m,W 0 m (upd H1 D ho))∧∀ i m H,W i m H→
  ((J.stop i H∧Q (.ref D) H)∨(J.go i H∧∀ x H',J.yld i H x H'→g x (st0 cap σ) H' fun σ2 H2=>tt σ2 H2 fun b H3=>
   if b=true then ta D σ2 H3 fun H4=>∃ m',m' < m∧W (i + 1) m' H4 else ∃ m',m' < m∧W (i + 1) m' H3))
structure zdO (X:Cx) (e tg iter:Expr) (ifs:List Expr) (newAcc:Sem Value) (act:Value→Env→Sem Unit) (ho:HO):Prop where
 new:∀ (pins:List (Addr×Obj)) (σ:St) (H:Hp) (s:Shared) (Q:Value→Shared→Prop) (E:Value→Shared→Prop),Inv X pins σ H s→
  (∀ ob:Obj,Inv X pins σ (upd H s.heap.objs.size ho) { s with heap:=s.heap.push ob }→Q (.ref s.heap.objs.size) { s with heap:=s.heap.push ob })→wpAny (model X.prog X.w) X.A newAcc Q E s
 turn:∀ (it:Value) (D:Addr) (env:Env),compTurn e 0 it (.ref D) env=(do
   standAt iter.pos
   match ← pyNext it with
   | none=>pure (.done .next)
   | some v=>
    letOwnedTupleGo tg it v
    assign tg env v
    let mut ok:=true
    for c in ifs do
     if ok then ok ← isTrue c env (eval c env)
    if ok then act (.ref D) env
    again (.compLoop e 0 it (.ref D) env))
 loop:∀ (A:Around) (it:Value) (D:Addr) (env:Env) (Q:Fin→Shared→Prop) (E:Value→Shared→Prop) (s:Shared),wpAny (model X.prog X.w) A ((compTurn e 0 it (.ref D) env).onRaise (fun x=>do noteFrame x env;theTreesLotGoes x)) Q E s→
  wpAny (model X.prog X.w) (A.under (.compLoop e 0 it (.ref D) env)) ((model X.prog X.w).den (.compLoop e 0 it (.ref D) env)) Q E s
 start:∀ {it acc:Value}{env:Env} {A:Around}{R:Result→Shared→Prop} {s:Shared},codeAny (model X.prog X.w) A (.compLoop e 0 it acc env) R s→
  wpAny (model X.prog X.w) A (pyIter it) (fun it' s'=>codeAny (model X.prog X.w) A (.compLoop e 0 it' acc env) R s') (notedBy (model X.prog X.w) A env fun x s'=>R (.error x) s') s→codeAny (model X.prog X.w) A (.compStart e 0 it acc env) R s
theorem zfY {e:Expr}{newAcc:Sem Value} {act:Value→Env→Sem Unit}{ho:HO} {ta:Addr→TAct}{H2:Hp} {s2:Shared}{J:It} {fp:List Addr}{it:Addr} {tn:Nat→Heap→Prop}{Q:VK} {RR:Value→Addr→Result→Shared→Prop}{E:Value→Shared→Prop} (ck:zdO X e tg iter ifs newAcc act ho) (hc:X.calm=true) (S:zbn X scope) (cp:Cap X scope N cap)
  (hg:∀ C s0 H0 fp,PG (zaF X N scope (clOf X.env scope.names []) C s0 H0 fp) tg g) (ht:∀ C s0 H0 fp,PIf (zaF X N scope (clOf X.env scope.names []) C s0 H0 fp) ifs tt) (he:∀ C s0 H0 fp D,PAct (zaF X N scope (clOf X.env scope.names []) C s0 H0 fp) act D (ta D))
  (I2:Inv X pins σ H2 s2) (T:Turn X.prog X.w X.K tg J fp it tn) (st2:tn 0 s2.heap) (f2:∀ b∈fp,FpOk X pins H2 b) (hw:zhP J g tt ta ho cap σ H2 Q)
  (hRR:∀ D C H' s' m',Inv X pins σ H' s'→s'.heap.Ns C m'→H' C=none→C≠X.env.locals→X.s₀.heap.objs.size≤C→(∀ x c,X.env.cells.lookup x=some c→c≠C)→(∀ p∈X.pn++pins,p.1≠C)→Q (.ref D) H'→RR (.ref D) C (.ok .next) s') :
  wpAny (model X.prog X.w) X.A newAcc (fun acc s3=>wpAny (model X.prog X.w) X.A (newFunctionEnv scope X.env.globals (clOf X.env scope.names []) [] X.env.qual none .none (some X.env)) (fun cenv s4=>
   codeAny (model X.prog X.w) X.A (.compStart e 0 (.ref it) acc { cenv with scope:=relabel scope X.env }) (RR acc cenv.locals) s4) E s3) E s2:=by
 refine ck.new pins σ H2 s2 _ _ I2 fun ob I3=>wpAny_newFunctionEnv S.cells (by intro y hy;simp at hy) (fun h1 hns1 hsb1=>?_) S.kind
 dsimp only at hns1 hsb1 ⊢
 have D0:H2 s2.heap.objs.size=none:=I2.fresh
 obtain ⟨W,⟨m0,w0⟩,turn⟩:=hw s2.heap.objs.size D0
 generalize hs3:({ s2 with heap:=s2.heap.push ob }:Shared)=s3 at I3
 have e3:s3.heap=s2.heap.push ob:=by rw [← hs3]
 have z3:s3.heap.objs.size=s2.heap.objs.size + 1:=by rw [e3,Heap.size_push]
 rw [← e3] at hns1 hsb1 ⊢
 generalize hD:s2.heap.objs.size=D at *
 generalize hC:s3.heap.objs.size=C at *
 have fp2:∀ b∈fp,b < D:=fun b hb=>by
  obtain ⟨o,e,_⟩:=T.obj 0 _ st2 b hb
  rw [← hD];exact Heap.lt_size e
 have f3:∀ b∈fp,FpOk X pins (upd H2 D ho) b:=fun b hb=>by
  obtain ⟨a1,a2⟩:=f2 b hb
  exact ⟨by rw [zaj (Nat.ne_of_lt (fp2 b hb))];exact a1,a2⟩
 have hfp:∀ b∈fp,b < s3.heap.objs.size:=fun b hb=>by rw [hC,z3];exact Nat.lt_succ_of_lt (fp2 b hb)
 have old:∀ b o,s3.heap.get? b=some o→h1.get? b=some o:=fun b o e=>
  hsb1.extBut b o (Nat.ne_of_lt (by rw [← hC];exact Heap.lt_size e)) (Heap.get?_push_of_some _ e)
 have old2:∀ b o,s2.heap.get? b=some o→s3.heap.get? b=some o:=fun b o e=>by rw [e3];exact Heap.get?_push_of_some _ e
 have ds4:∀ s4:Shared,s4={ s2 with heap:=h1,toks:=s2.toks + ([]:List (Str×Value)).length }→
   codeAny (model X.prog X.w) X.A (.compLoop e 0 (.ref it) (.ref D) (compEnvC scope (clOf X.env scope.names []) C X.env)) (RR (.ref D) C) s4:=by
  intro s4 es4
  have os4:s4.os=s3.os:=by rw [es4,← hs3]
  have bare4:AllBare s4.gens:=by rw [es4];exact I2.bare
  have heap4:s4.heap=h1:=by rw [es4]
  have st4:tn 0 s4.heap:=by rw [heap4];exact T.keep _ _ _ st2 fun b _ o e=>old b o (old2 b o e)
  refine codeAny_loop rfl (fun n s=>∃ i H,s.os=s3.os∧AllBare s.gens∧Un (frs X.stack) fp (upd H2 D ho) H s3.heap s.heap∧(∃ m,s.heap.Ns C m)∧H C=none∧HOk X.prog X.w H s.heap∧tn i s.heap∧(∀ b∈fp,H b=none)∧W i n H)
   (fun n s hI=>?_) m0 ⟨0,_,os4,bare4,by rw [heap4];exact Un.kept old,by rw [heap4];exact ⟨_,hns1⟩,I3.hok.fresh (Nat.le_of_eq hC),by rw [heap4];exact I3.hok.kept old,st4,fun b hb=>(f3 b hb).1,w0⟩
  obtain ⟨i,H,os,bare,un,ns,fC,hok,st,fr,wi⟩:=hI
  refine ck.loop _ _ _ _ _ _ _ ?_
  refine wpAny_noted ?_
  rw [ck.turn]
  have hCge:s3.heap.objs.size≤C:=Nat.le_of_eq hC
  have IY:=zjR S cp I3 f3 hfp hCge os bare un ns fC hok
  generalize hYd:zaF X N scope (clOf X.env scope.names []) C s3 (upd H2 D ho) fp=Y at IY
  have hYA:Y.A=X.A:=by rw [← hYd];rfl
  have hYenv:Y.env=compEnvC scope (clOf X.env scope.names []) C X.env:=by rw [← hYd];rfl
  have hYp:Y.prog=X.prog:=by rw [← hYd];rfl
  have hYw:Y.w=X.w:=by rw [← hYd];rfl
  have hYK:Y.K=X.K:=by rw [← hYd];rfl
  have hYc:Y.calm=true:=by rw [← hYd];exact hc
  have hYxe:∀ e s,¬ Y.xe e s:=fun e s z=>by rw [← hYd] at z;exact z
  have gY:PG Y tg g:=by rw [← hYd];exact hg _ _ _ _
  have tY:PIf Y ifs tt:=by rw [← hYd];exact ht _ _ _ _
  have eY:PAct Y act D (ta D):=by rw [← hYd];exact he _ _ _ _ _
  have stat:∀ {H':Hp},(∀ b∈fp,H' b=none)→∀ b∈fp,FpOk Y [] H' b:=fun {H'} hn b hb=>by
   have okY:=IY.ok
   refine ⟨hn b hb,(okY.exf b (by rw [← hYd];exact hb)).1,okY.exfs b (by rw [← hYd];exact hb),.inl (by rw [← hYd];exact hb),fun x c e=>(okY.exf b (by rw [← hYd];exact hb)).2 x c e,fun p hp=>?_⟩
   rw [← hYd] at hp
   exact absurd (show p∈([]:List (Addr×Obj)) from hp) (by simp)
  have alt:=turn i n H wi
  have base_of:∀ {σ':St}{pins':List (Addr×Obj)} {H':Hp}{s':Shared},Inv Y pins' σ' H' s'→s'.os=s3.os∧AllBare s'.gens∧Un (frs X.stack) fp (upd H2 D ho) H' s3.heap s'.heap∧(∃ m,s'.heap.Ns C m)∧H' C=none∧HOk X.prog X.w H' s'.heap:=fun {σ' pins' H' s'} I'=>by
   have b1:=I'.os
   have b2:=I'.base
   have b3:=I'.loc
   have b4:=I'.free
   have b5:=I'.hok
   rw [← hYd] at b1 b2 b3 b4 b5
   obtain ⟨m,hm,_⟩:=b3
   exact ⟨b1,I'.bare,b2,⟨m,hm⟩,b4,b5⟩
  refine wpAny_bind (wpAny_standAt (wpAny_bind ?_))
  rcases alt with ⟨stop,qn⟩ | ⟨go,step⟩
  ·have h1:=T.done Y hYp hYw hYK hYc i [] s _ H (notedBy (model X.prog X.w) X.A (compEnvC scope (clOf X.env scope.names []) C X.env) fun e s'=>RR (.ref D) C (.error e) s') IY (stat fr) st stop
   rw [hYA] at h1
   refine wpAny_mono h1 (fun r s5 h5=>?_) fun _ _ z=>z
   obtain ⟨hr,I5⟩:=h5
   subst hr
   refine wpAny_pure ?_
   obtain ⟨os5,bare5,un5,⟨m5,ns5⟩,fC5,hok5⟩:=base_of I5
   have IX:Inv X pins σ H s5:=I3.call' (ch:=fp) (by rw [os5]) un5 hok5 bare5 fun b hb=>by
    obtain ⟨_,a2,a3,a4,a5,a6⟩:=f3 b hb
    exact ⟨a4,a2,a5,a6⟩
   refine hRR D C H s5 m5 IX ns5 fC5 ?_ ?_ ?_ ?_ qn
   ·exact Nat.ne_of_gt (Nat.lt_of_lt_of_le I3.lt hCge)
   ·exact Nat.le_trans I3.sz hCge
   ·intro x c e z
    obtain ⟨v,q⟩:=I3.cell x c e
    exact absurd (Nat.lt_of_lt_of_le q.lt hCge) (by rw [z];exact Nat.lt_irrefl _)
   ·intro p hp z
    exact absurd (Nat.lt_of_lt_of_le (Heap.lt_size (I3.pin p hp).1) hCge) (by rw [z];exact Nat.lt_irrefl _)
  ·have h1:=T.item Y hYp hYw hYK hYc i [] s _ H Y.xe IY (stat fr) st go
   rw [hYA] at h1
   refine wpAny_mono h1 (fun r s5 h5=>?_) fun e s' z=>absurd z (hYxe e s')
   obtain ⟨u,hr,h5⟩:=h5
   subst hr
   refine wpAny_bind (wpAny_mono h5 (fun _ s6 h6=>?_) fun e s' z=>absurd z (hYxe e s'))
   obtain ⟨x,H6,I6,r6,y6,st6,fr6⟩:=h6
   have I6':=I6.pinned (stat fr6) (T.obj _ _ st6)
   have h7:=gY _ s6 _ H6 x u _ I6' r6 (step x H6 y6)
   rw [hYA,hYenv,hYp,hYw] at h7
   refine wpAny_bind (wpAny_mono h7 (fun _ s7 h7=>?_) fun e s' z=>absurd z (hYxe e s'))
   obtain ⟨σ7,H7,I7,q7⟩:=h7
   have h8:=tY _ s7 σ7 H7 _ I7 q7
   rw [hYA,hYenv,hYp,hYw] at h8
   refine wpAny_bind (wpAny_mono h8 (fun b s8 h8=>?_) fun e s' z=>absurd z (hYxe e s'))
   obtain ⟨H8,I8,q8⟩:=h8
   have again:∀ {σ9:St}{H9:Hp} {s9:Shared},Inv Y ([]++zfI fp s6.heap) σ9 H9 s9→(∃ m',m' < n∧W (i + 1) m' H9)→
     ∃ m,m < n∧∃ i H,s9.os=s3.os∧AllBare s9.gens∧Un (frs X.stack) fp (upd H2 D ho) H s3.heap s9.heap∧(∃ m,s9.heap.Ns C m)∧H C=none∧HOk X.prog X.w H s9.heap∧tn i s9.heap∧(∀ b∈fp,H b=none)∧W i m H:=fun {σ9 H9 s9} I9 ⟨m',hm,w9⟩=>by
    obtain ⟨b1,b2,b3,b4,b5,b6⟩:=base_of I9
    refine ⟨m',hm,i + 1,H9,b1,b2,b3,b4,b5,b6,T.keep _ _ _ st6 fun b hb o e=>(I9.pin (b,o) (List.mem_append_right _ (List.mem_append_right _ (zcF hb e)))).1,fun b hb=>?_,w9⟩
    obtain ⟨o,e,d⟩:=T.obj _ _ st6 b hb
    exact (I9.pin (b,o) (List.mem_append_right _ (List.mem_append_right _ (zcF hb e)))).2.1
   cases b with
   | false=>
    simp only [Bool.false_eq_true,if_false] at q8 ⊢
    exact wpAny_pure ⟨rfl,again I8 q8⟩
   | true=>
    simp only [if_true] at q8 ⊢
    have h9:=eY _ s8 σ7 H8 _ I8 q8
    rw [hYA,hYenv,hYp,hYw] at h9
    refine wpAny_bind (wpAny_mono h9 (fun _ s9 h9=>?_) fun e s' z=>absurd z (hYxe e s'))
    obtain ⟨σ9,H9,I9,q9⟩:=h9
    exact wpAny_pure ⟨rfl,again I9 q9⟩
 have st1:tn 0 h1:=T.keep _ _ _ st2 fun b _ o e=>old b o (old2 b o e)
 exact ck.start (ds4 _ rfl) (T.self X.A 0 _ _ _ st1 (ds4 _ rfl))
noncomputable def actL (elt:Expr):Value→Env→Sem Unit:=fun acc env=>do let _ ← call (.builtin "list.append") [acc,← eval elt env]
theorem zjb:zdO X (.ListComp elt [⟨tg,iter,ifs,0⟩] scope pos) tg iter ifs (newList []) (actL elt) (.lst []) where
 new:=fun pins σ H s Q E I h=>wpAny_newObj_type (h _ (I.lnew (t':=s.toks) .nil (Nat.zero_le _)))
 turn:=fun it D env=>by rw [compTurn_list];rfl
 loop:=fun A it D env Q E s h=>h
 start:=fun h0 h=>codeAny_compStart_list h0 h
noncomputable def taL (te:TE) (D:Addr):TAct:=fun σ H Q=>te σ H fun v H4=>∃ acc,H4 D=some (.lst acc)∧acc.length < sizeLine∧Q (upd H4 D (.lst (acc++[v])))
theorem zfK {Y:Cx}(he:PE Y elt te) (D:Addr):PAct Y (actL elt) D (taL te D):=by
 intro pins s σ H Q I h
 unfold actL
 refine wpAny_bind (thn (he pins s σ H _ I h) fun v s9 ⟨v9,H9,I9,r9,acc,hD9,hlen,q9⟩=>?_)
 refine wpAny_bind (thn (zfQ (X:=Y) _ s9 σ H9 (.ref D) [v9] (.ref D) [v] (fun z Hz=>z=.non∧Hz=upd H9 D (.lst (acc++[v9]))) I9 rfl (.cons r9 .nil) ⟨D,acc,v9,rfl,rfl,hD9,hlen,rfl,rfl⟩) fun _ s10 h10=>?_)
 obtain ⟨_,H10,I10,_,_,e10⟩:=h10
 subst e10
 exact wpAny_pure ⟨_,_,I10,q9⟩
noncomputable def znu (K:PySem.W.Frag) (J:It) (g:TG) (tt:TT) (te:TE) (cap:List (Option Nat)) (σ:St) (H1:Hp) (Q:VK):Prop:=zhP J g tt (taL te) (.lst []) cap σ H1 Q
noncomputable def zhU (wi:TI) (g:TG) (tt:TT) (ta:Addr→TAct) (ho:HO) (cap:List (Option Nat)):TE:=fun σ H Q=>wi σ H fun J H1=>zhP J g tt ta ho cap σ H1 Q
noncomputable def zma (K:PySem.W.Frag) (wi:TI) (g:TG) (tt:TT) (te:TE) (cap:List (Option Nat)):TE:=zhU wi g tt (taL te) (.lst []) cap
theorem zjD {e:Expr}{newAcc:Sem Value} {act:Value→Env→Sem Unit}{ho:HO} {ta:Addr→TAct}{wi:TI} (ck:zdO X e tg iter ifs newAcc act ho) (N:List Str) (cap:List (Option Nat)) (cp:Cap X scope N cap) (hc:X.calm=true) (hi:PI X tg iter wi)
  (hg:∀ C s0 H0 fp,PG (zaF X N scope (clOf X.env scope.names []) C s0 H0 fp) tg g) (ht:∀ C s0 H0 fp,PIf (zaF X N scope (clOf X.env scope.names []) C s0 H0 fp) ifs tt) (he:∀ C s0 H0 fp D,PAct (zaF X N scope (clOf X.env scope.names []) C s0 H0 fp) act D (ta D))
  (S:zbn X scope) (hs:∀ x,foldedSetIterable iter X.env x=pure x) (hcl:clausesOf e=[⟨tg,iter,ifs,0⟩]) {p:Pos}(hev:eval e X.env=comprehension e scope X.env p newAcc false (eval iter X.env)) :
  PE X e (zhU wi g tt ta ho cap):=by
 intro pins s σ H Q I h
 rw [hev]
 refine wpAny_comprehension_free (use:=none) hcl hs (zeS (S.cellsOf I.ok)) S.kind S.names (thn (hi pins s σ H _ I h) fun v s1 h1=>thn h1 fun itv s2 h2=>?_)
 obtain ⟨it,fp,tn,J,H2,e,I2,T,st2,f2,hw⟩:=h2
 subst e
 refine zfY (RR:=fun acc C=>compPost (model X.prog X.w) X.A X.xe none (EP X pins σ Q) acc C) ck hc S cp hg ht he I2 T st2 f2 hw ?_
 intro D C H' s' m' I' ns fC c1 c2 c3 c4 q
 exact ⟨m',ns,fun h' hs'=>⟨.ref D,H',I'.turned (t':=s'.toks) (fun b o hb e=>(hs'.2 b hb).trans e) fC c1 (.inr c2) c3 c4,rfl,q⟩⟩
theorem zgq {e:Expr}{newAcc:Sem Value} {act:Value→Env→Sem Unit}{ho:HO} {ta:Addr→TAct}{wi:TI} {k:Nat}{y:Str} {py spos:Pos}(ck:zdO X e tg iter ifs newAcc act ho) (N:List Str) (cap:List (Option Nat)) (cp:Cap X scope N cap) (hc:X.calm=true) (hN:X.N.Nodup) (hk:X.N[k]?=some y) (hy:Loc X.env.scope y) (hi:PI X tg iter wi)
  (hg:∀ C s0 H0 fp,PG (zaF X N scope (clOf X.env scope.names []) C s0 H0 fp) tg g) (ht:∀ C s0 H0 fp,PIf (zaF X N scope (clOf X.env scope.names []) C s0 H0 fp) ifs tt) (he:∀ C s0 H0 fp D,PAct (zaF X N scope (clOf X.env scope.names []) C s0 H0 fp) act D (ta D))
  (S:zbn X scope) (hs:∀ x,foldedSetIterable iter X.env x=pure x) (hcl:clausesOf e=[⟨tg,iter,ifs,0⟩]) {p:Pos}(hev:∀ use,evalThenUse e X.env use=(do let _ ← comprehension e scope X.env p newAcc false (eval iter X.env) (some use)))
  (hsw:swapsWith e (some (.Name y py)) spos.line X.env=pure true) (hf:X.fn y=true∨X.env.scope.names.lookup y=some .local) :
  PS X (.Assign [.Name y py] e spos) (tAsg (zhU wi g tt ta ho cap) (zjZ k)):=by
 intro pins s σ H D0 I h
 rw [exec_Assign_Name_used _ _ _ _ hsw]
 refine wpAny_bind (wpAny_standAt (wpAny_bind ?_))
 rw [hev]
 refine wpAny_bind (wpAny_mono (wpAny_comprehension_free (use:=some (assign (.Name y py) X.env)) (Q:=fun _ s'=>SP X pins D0 .next s') hcl hs (zeS (S.cellsOf I.ok)) S.kind S.names
  (thn (hi pins s σ H _ I h) fun v s1 h1=>thn h1 fun itv s2 h2=>?_)) (fun _ s' hq=>wpAny_pure (wpAny_pure hq)) fun _ _ e=>e)
 obtain ⟨it,fp,tn,J,H2,e,I2,T,st2,f2,hw⟩:=h2
 subst e
 refine zfY (RR:=fun acc C=>compPost (model X.prog X.w) X.A X.xe (some (assign (.Name y py) X.env)) (fun _ s'=>SP X pins D0 .next s') acc C) ck hc S cp hg ht he I2 T st2 f2 hw ?_
 intro D C H' s' m' I' ns fC c1 c2 c3 c4 q
 show wpAny _ X.A (assign (.Name y py) X.env (.ref D)) _ _ _
 refine wpAny_assign_Name (zfz I' hN hk hy (v:=.ref D) rfl (fun s'' I'' ⟨a,hsb,ha⟩=>?_) hf)
 have hCa:C≠a:=by
  rcases ha with z | z
  ·rw [z];exact c1
  ·exact fun w=>c3 y a z w.symm
 refine ⟨m',ns.sameBut hsb hCa,fun h' hs'=>⟨_,H',I''.turned (t':=s''.toks) (fun b o hb e=>(hs'.2 b hb).trans e) fC c1 (.inr c2) c3 c4,q⟩⟩
theorem zlj {wi:TI}(N:List Str) (cap:List (Option Nat)) (cp:Cap X scope N cap) (hc:X.calm=true) (hi:PI X tg iter wi)
  (hg:∀ C s0 H0 fp,PG (zaF X N scope (clOf X.env scope.names []) C s0 H0 fp) tg g) (ht:∀ C s0 H0 fp,PIf (zaF X N scope (clOf X.env scope.names []) C s0 H0 fp) ifs tt) (he:∀ C s0 H0 fp,PE (zaF X N scope (clOf X.env scope.names []) C s0 H0 fp) elt te)
  (S:zbn X scope:=by exact zbn.mk') (hs:∀ x,foldedSetIterable iter X.env x=pure x:=by intro _;rfl) :
  PE X (.ListComp elt [⟨tg,iter,ifs,0⟩] scope pos) (zma X.K wi g tt te cap):=
 zjD zjb N cap cp hc hi hg ht (fun C s0 H0 fp D=>zfK (he C s0 H0 fp) D) S hs rfl (eval_ListComp ..)
theorem zhr {wi:TI}{k:Nat} {y:Str}{py spos:Pos} (N:List Str) (cap:List (Option Nat)) (cp:Cap X scope N cap) (hc:X.calm=true) (hN:X.N.Nodup) (hk:X.N[k]?=some y) (hy:Loc X.env.scope y) (hi:PI X tg iter wi)
  (hg:∀ C s0 H0 fp,PG (zaF X N scope (clOf X.env scope.names []) C s0 H0 fp) tg g) (ht:∀ C s0 H0 fp,PIf (zaF X N scope (clOf X.env scope.names []) C s0 H0 fp) ifs tt) (he:∀ C s0 H0 fp,PE (zaF X N scope (clOf X.env scope.names []) C s0 H0 fp) elt te)
  (S:zbn X scope:=by exact zbn.mk') (hs:∀ x,foldedSetIterable iter X.env x=pure x:=by intro _;rfl)
  (hsw:swapsWith (.ListComp elt [⟨tg,iter,ifs,0⟩] scope pos) (some (.Name y py)) spos.line X.env=pure true:=by rfl)
  (hf:X.fn y=true∨X.env.scope.names.lookup y=some .local:=by first | exact .inl rfl | exact .inr rfl | assumption) :
  PS X (.Assign [.Name y py] (.ListComp elt [⟨tg,iter,ifs,0⟩] scope pos) spos) (tAsg (zma X.K wi g tt te cap) (zjZ k)):=
 zgq zjb N cap cp hc hN hk hy hi hg ht (fun C s0 H0 fp D=>zfK (he C s0 H0 fp) D) S hs rfl (fun _=>rfl) hsw hf
end
end L2
set_option Elab.async false
set_option linter.all false
set_option maxRecDepth 100000
namespace L2
open PySem PySem.Spec PyProof.Rows
section
variable {X:Cx}{a b:Expr} {ta tb:TE}{pos:Pos}
noncomputable def rIsi (K:PySem.W.Frag):List V→Hp→VK→Prop:=fun xs H Q=>∃ x T t k,xs=[x,.ty T]∧TyOf K H x t∧PySem.W.kitOne K t (.type T)=some k∧Q (.bl k) H
theorem zkn:zcN X (.builtin "isinstance") (rIsi X.K):=by
 intro pins s σ H xs us Q I r h
 obtain ⟨x,T,t,k,rfl,ty,e,q⟩:=h
 obtain ⟨u,c,rfl,r1,r2⟩:=zhQ r
 cases (show c=Value.type T from r2)
 exact ziH I r1 ty e fun tk=>⟨.bl k,H,I.tok _,rfl,q⟩
noncomputable def zmk (K:PySem.W.Frag):R2:=fun x y H Q=>∃ a b ys,x=.ref a∧y=.ref b∧SqT K H a []∧SqT K H b ys∧Q (.ref b) H
theorem zjH:OpR X (binaryOp .Add) (zmk X.K):=by
 intro pins s σ H x y v u Q I rx ry h
 obtain ⟨a,b,ys,rfl,rfl,ha,hb,q⟩:=h
 cases rx
 cases ry
 obtain ⟨its,r1,p1,_⟩:=I.tuple ha
 obtain ⟨its2,r2,p2,_⟩:=I.tuple hb
 have e:its=[]:=by cases r1;rfl
 subst e
 obtain ⟨⟨cls,dd,data,sl⟩,ho,hc,n,hd⟩:=id p1
 obtain ⟨⟨cls2,dd2,data2,sl2⟩,ho2,hc2,n2,hd2⟩:=id p2
 simp only at hc hd hc2 hd2
 subst hc hd hc2 hd2
 exact concat_meets ⟨_,ho,rfl⟩ ⟨_,ho2,rfl⟩ noFill_tuple_add seq_tuple_add PySem.F.slot_tuple_add PySem.F.entry_tuple_add (PySem.F.args_tuple_add_2 _ _)
   (tuple_addW0 a b _ its2.toArray n n2 dd dd2 sl sl2 (by simp)) ⟨ho,ho2,⟨.ref b,H,I.tok _,rfl,q⟩⟩
noncomputable def rCatA (K:PySem.W.Frag):R2:=fun x y H Q=>∃ a b xs ys,x=.ref a∧y=.ref b∧SqT K H a xs∧SqT K H b ys∧xs.length + ys.length≤sizeLine∧
 (xs=[]→Q (.ref b) H)∧(xs≠[]→ys=[]→Q (.ref a) H)∧(xs≠[]→ys≠[]→∀ p,H p=none→Q (.ref p) (upd H p (.tup (xs++ys))))
theorem zlr:OpR X (binaryOp .Add) (rCatA X.K):=by
 intro pins s σ H x y v u Q I rx ry h
 obtain ⟨a,b,xs,ys,rfl,rfl,ha,hb,hz,q0,q1,q2⟩:=h
 by_cases e:xs=[]
 ·subst e
  exact zjH pins s σ H _ _ v u Q I rx ry ⟨a,b,ys,rfl,rfl,ha,hb,q0 rfl⟩
 ·exact zlq pins s σ H _ _ v u Q I rx ry ⟨a,b,xs,ys,rfl,rfl,ha,hb,e,hz,q1 e,q2 e⟩
theorem zhV:∀ l:List Int,(∀ n∈l,0≤n)→0≤l.sum
 | [],_=>by simp
 | a::l,h=>by
  have h1:=zhV l fun n hn=>h n (List.mem_cons_of_mem _ hn)
  have h2:=h a List.mem_cons_self
  rw [List.sum_cons];omega
theorem zgO:∀ (j:Nat) (l:List Int),(∀ n∈l,0≤n)→0≤(l.take j).sum∧(l.take j).sum≤l.sum
 | 0,l,h=>by have:=zhV l h;simp;exact this
 | j + 1,[],_=>by simp
 | j + 1,a::l,h=>by
  have h1:=zgO j l fun n hn=>h n (List.mem_cons_of_mem _ hn)
  have h2:=h a List.mem_cons_self
  rw [List.take_succ_cons,List.sum_cons,List.sum_cons];omega
theorem ziO:∀ (j:Nat) (l:List Int),(∀ n∈l,0≤n)→0≤l.getD j 0∧l.getD j 0≤l.sum
 | j,[],_=>by simp
 | 0,a::l,h=>by
  have h1:=zhV l fun n hn=>h n (List.mem_cons_of_mem _ hn)
  have h2:=h a List.mem_cons_self
  rw [List.sum_cons];simp;omega
 | j + 1,a::l,h=>by
  have h1:=ziO j l fun n hn=>h n (List.mem_cons_of_mem _ hn)
  have h2:=h a List.mem_cons_self
  rw [List.sum_cons];simp only [List.getD_cons_succ];omega
theorem zhm {l:List Int}(h:∀ n∈l,0≤n) (hz:l.sum < 2 ^ 62):PySem.SumFits l:=fun j _=>by
 have h1:=zgO (j + 1) l h
 have h2:=ziO j l h
 unfold InLong
 refine ⟨⟨?_,?_⟩,⟨?_,?_⟩⟩<;>omega
theorem zjd (hc:X.calm=true):zcN X (.builtin "sum") (fun xs H Q=>∃ (p:Addr) (ns:List Int),xs=[.ref p]∧SqL X.K H p (ns.map V.int)∧PySem.SumFits ns∧Q (.int ns.sum) H):=by
 intro pins s σ H xs us Q I r h
 obtain ⟨p,ns,rfl,hq,hz,q⟩:=h
 obtain ⟨u,rfl,rx⟩:=zfx r
 cases rx
 obtain ⟨its,r',pl,_⟩:=I.list hq
 have hi:IntsAre its ns:=zcI r'
 have hall:AllInts its.toArray:=hi.allInts
 have nn:numsOf its.toArray.toList=ns:=by rw [show its.toArray.toList=its from rfl,hi.numsOf]
 obtain ⟨xs,hx⟩:=hall.items
 rw [hx,nums_intItems] at nn
 have hl2:s.heap.IsList p (intItems xs):=by rw [← hx];exact pl.isList
 refine sum_intList (I.ok.hd hc) hl2 (fun j hj=>?_) fun h' tk t' hk=>?_
 ·rw [numAt_eq,preSum_eq,nn]
  exact hz j (by rw [← nn];simpa using hj)
 ·refine ⟨.int ns.sum,H,I.kept hk,⟨t',?_⟩,q⟩
  rw [preSum_eq,nn,List.take_of_length_le (by rw [← nn];simp)]
theorem zdI (a v:Value):argsOk "max" ⟨[a],[(Str.ofString "default",v)]⟩:=by unfold argsOk;kernel_rfl
end
section
variable {prog:Program}{w:World} {A:Around}
theorem zhA {R:Result→Shared→Prop}{l I S:Addr} {its:List Value}{ns:List Int} {d:Value}(hh:A.handled=none) (hi:IntsAre its ns) (hlI:l≠I) (hSI:S≠I) (hSl:S≠l) :
  ∀ (k i:Nat) (s:Shared) (m:Int) (t:Tok) (c:Nat),ns.length - i=k→i≤ns.length→s.heap.IsListIter I l i→s.heap.IsList l its.toArray→
  s.heap.get? S=some { cls:=.type "list",dict:=none,data:=.seq #[.int m t,.int m t] c,slots:=#[] }→
  (∀ h' tk t',(∀ b o,b≠I→b≠S→s.heap.get? b=some o→h'.get? b=some o)→R (.ok (.ret (.int ((ns.drop i).foldl max m) t'))) { s with heap:=h',toks:=tk })→
  codeAny (model prog w) A (.builtin "max.loop" ⟨[.ref I,.none,.ref S],[(Str.ofString "default",d)]⟩) R s:=by
 have hname:(toString "max" ++ toString ".loop" : String) = "max.loop" := by decide
 have W:=Walks.list (prog:=prog) (w:=w) (A:=A.in1) hh I l hlI its.toArray
 have hlen:its.toArray.size=ns.length:=by rw [List.size_toArray];exact hi.length
 intro k
 induction k with
 | zero=>
  intro i s m t c hk hi' hit hl hS hR
  have hin:i=ns.length:=by omega
  subst hin
  refine codeAny_builtin PySem.F.entry_max_loop ?_
  rw [Around.under_plainId PySem.F.plain_max_loop _]
  show wpAny _ A.in1 (seqItems? (.ref S) >>= _) _ _ s
  refine wpAny_bind (wpAny_seqItems hS rfl ?_)
  show wpAny _ A.in1 (tryCatch (pyNext (.ref I)) _ >>= _) _ _ s
  refine wpAny_bind (wpAny_tryCatch (W.done s _ _ (by rw [hlen];exact ⟨hit,hl⟩) fun h' tk hk'=>?_))
  have hS':=hk' S _ (by simpa using hSI) hS
  show wpAny _ A.in1 (updateSeq S (fun _=>#[]) >>= _) _ _ _
  refine wpAny_bind ?_
  refine wpAny_updateSeq hS' rfl (wpAny_bind (wpAny_letGo (wpAny_pure ?_)))
  have:=hR (h'.update S (Obj.mapSeq fun _=>#[])) tk t fun b o hbI hbS e=>(Heap.get?_update_other _ _ (Ne.symm hbS)).trans (hk' b o (by simpa using hbI) e)
  rw [List.drop_length] at this
  exact this
 | succ k ih=>
  intro i s m t c hk hi' hit hl hS hR
  have hlt:i < ns.length:=by omega
  refine codeAny_builtin PySem.F.entry_max_loop ?_
  rw [Around.under_plainId PySem.F.plain_max_loop _]
  show wpAny _ A.in1 (seqItems? (.ref S) >>= _) _ _ s
  refine wpAny_bind (wpAny_seqItems hS rfl ?_)
  show wpAny _ A.in1 (tryCatch (pyNext (.ref I)) _ >>= _) _ _ s
  refine wpAny_bind (wpAny_tryCatch (W.item i s _ _ (by rw [hlen];exact hlt) ⟨hit,hl⟩ fun v h' tk hP hst' hk'=>?_))
  have hv:its[i]?=some v:=by simpa using hP
  obtain ⟨t1,rfl⟩:∃ t1,v=.int ns[i] t1:=by
   have rv:=zdj hi
   obtain ⟨u,e1,r1⟩:=rv.get (i:=i) (x:=.int ns[i]) (by simp [hlt])
   rw [hv] at e1;cases e1
   exact r1
  have hS':=hk' S _ (by simpa using hSI) hS
  have hdrop:ns.drop i=ns[i]::ns.drop (i + 1):=List.drop_eq_getElem_cons hlt
  rw [hdrop,List.foldl_cons] at hR
  show wpAny _ A.in1 (tryCatch (holding [.int ns[i] t1,.int ns[i] t1] (richCompare .Gt (.int ns[i] t1) (.int m t) >>= _)) _ >>= _) _ _ _
  refine wpAny_bind (wpAny_tryCatch (wpAny_holding (wpAny_bind ?_)))
  refine (PyProof.Rows.gt_int ?_:wpAny (model prog w) A.in1 (compareOp .Gt (.int ns[i] t1) (.int m t)) _ _ _)
  refine wpAny_bind (wpAny_holding (wpAny_truthy_bool ?_))
  refine wpAny_bind (wpAny_letGo (wpAny_pure ?_))
  by_cases hb:m < ns[i]
  ·have e:max m ns[i]=ns[i]:=by omega
   rw [e] at hR
   simp only [show decide (ns[i] > m)=true from decide_eq_true hb,if_true]
   refine wpAny_bind ?_
   refine wpAny_updateSeq hS' rfl (wpAny_bind (wpAny_letGo ?_))
   rw [hname]
   have o1:∀ b o,b≠S→h'.get? b=some o→(h'.update S (Obj.mapSeq fun _=>#[.int ns[i] t1,.int ns[i] t1])).get? b=some o:=fun b o hbS e=>(Heap.get?_update_other _ _ (Ne.symm hbS)).trans e
   refine wpAny_pure ⟨plainId_quiet PySem.F.plain_max_loop _,ih (i + 1) _ ns[i] t1 _ (by omega) hlt (hst'.1.at fun o e=>o1 _ _ (Ne.symm hSI) e) (hst'.2.at fun o e=>o1 _ _ (Ne.symm hSl) e) (Heap.get?_update_self _ hS' rfl) fun h'' tk'' t'' hk''=>?_⟩
   exact hR h'' tk'' t'' fun b o hbI hbS e=>hk'' b o hbI hbS (o1 b o hbS (hk' b o (by simpa using hbI) e))
  ·have e:max m ns[i]=m:=by omega
   rw [e] at hR
   simp only [show decide (ns[i] > m)=false from decide_eq_false hb,Bool.false_eq_true,if_false]
   refine wpAny_bind (wpAny_letGo ?_)
   rw [hname]
   refine wpAny_pure ⟨plainId_quiet PySem.F.plain_max_loop _,ih (i + 1) _ m t c (by omega) hlt hst'.1 hst'.2 hS' fun h'' tk'' t'' hk''=>?_⟩
   exact hR h'' tk'' t'' fun b o hbI hbS e=>hk'' b o hbI hbS (hk' b o (by simpa using hbI) e)
noncomputable def maxD (ns:List Int) (d:Int):Int:=match ns with
 | []=>d
 | n::r=>r.foldl max n
theorem zhJ {E:Value→Shared→Prop}{s:Shared} {l:Addr}{its:List Value} {ns:List Int}{d:Int} {td:Tok}{Q:Value→Shared→Prop} (hh:A.handled=none) (hl:s.heap.IsList l its.toArray) (hi:IntsAre its ns)
  (h:∀ h' tk t',(∀ b o,s.heap.get? b=some o→h'.get? b=some o)→Q (.int (maxD ns d) t') { s with heap:=h',toks:=tk }) :
  wpAny (model prog w) A (call (.builtin "max") [.ref l] [(Str.ofString "default",.int d td)]) Q E s:=by
 have hname:(toString "max" ++ toString ".loop" : String) = "max.loop" := by decide
 have hlen:its.toArray.size=ns.length:=by rw [List.size_toArray];exact hi.length
 obtain ⟨ol,hol,_⟩:=id hl
 have hll:l < s.heap.objs.size:=Heap.lt_size hol
 refine PyProof.Rows.kmk_tree PySem.F.kind_max PySem.F.plain_max PySem.F.entry_max (zdI _ _) ?_
 show wpAny _ A.in1 (Builtin.Builtins.bindParams "max" ["key", "default"] 0 ⟨[],[(Str.ofString "default",.int d td)]⟩ >>= _) _ _ s
 refine wpAny_bind (wpAny_of_eq (show Builtin.Builtins.bindParams "max" ["key", "default"] 0 ⟨[],[(Str.ofString "default",.int d td)]⟩=pure [none,some (.int d td)] from rfl) ?_)
 refine wpAny_bind (wpAny_pure ?_)
 refine wpAny_bind (wpAny_pyIter_list hl ?_)
 refine wpAny_bind (wpAny_newObj_type ?_)
 rw [hname]
 refine wpAny_pure ⟨plainId_quiet PySem.F.plain_max_loop _,?_⟩
 have hz:(s.heap.push { cls:=.type "list_iterator",data:=.fields #[.ref l,.int 0 0] }).objs.size=s.heap.objs.size + 1:=Heap.size_push ..
 generalize hH:((s.heap.push { cls:=.type "list_iterator",data:=.fields #[.ref l,.int 0 0] }).push { cls:=.type "list",dict:=none,data:=.seq ([]:List Value).toArray })=H
 have gI:H.IsListIter s.heap.objs.size l 0:=⟨_,by rw [← hH];exact Heap.get?_push_of_some _ (Heap.get?_push_size _ rfl),rfl,rfl⟩
 have gS:H.get? (s.heap.push { cls:=.type "list_iterator",data:=.fields #[.ref l,.int 0 0] }).objs.size=some { cls:=.type "list",dict:=none,data:=.seq #[] 0,slots:=#[] }:=by rw [← hH];exact Heap.get?_push_size _ rfl
 rw [hz] at gS ⊢
 have old:∀ b o,s.heap.get? b=some o→H.get? b=some o:=fun b o e=>by rw [← hH];exact Heap.get?_push_of_some _ (Heap.get?_push_of_some _ e)
 have gl:H.IsList l its.toArray:=hl.at fun o e=>old _ _ e
 have hlI:l≠s.heap.objs.size:=Nat.ne_of_lt hll
 have hSI:s.heap.objs.size + 1≠s.heap.objs.size:=Nat.succ_ne_self _
 have hSl:s.heap.objs.size + 1≠l:=Nat.ne_of_gt (Nat.lt_succ_of_lt hll)
 have W:=Walks.list (prog:=prog) (w:=w) (A:=A.in1) hh s.heap.objs.size l hlI its.toArray
 have kp:∀ b o,s.heap.get? b=some o→b≠s.heap.objs.size∧b≠s.heap.objs.size + 1:=fun b o e=>⟨Nat.ne_of_lt (Heap.lt_size e),Nat.ne_of_lt (Nat.lt_succ_of_lt (Heap.lt_size e))⟩
 refine codeAny_builtin PySem.F.entry_max_loop ?_
 rw [Around.under_plainId PySem.F.plain_max_loop _]
 show wpAny _ A.in1 (seqItems? (.ref (s.heap.objs.size + 1)) >>= _) _ _ _
 refine wpAny_bind (wpAny_seqItems gS rfl ?_)
 show wpAny _ A.in1 (tryCatch (pyNext (.ref s.heap.objs.size)) _ >>= _) _ _ _
 cases ns with
 | nil=>
  have e0:its.toArray.size=0:=by simpa using hlen
  refine wpAny_bind (wpAny_tryCatch (W.done _ _ _ (by rw [e0];exact ⟨gI,gl⟩) fun h' tk hk'=>?_))
  refine wpAny_bind (wpAny_rule (wpAny_pure ?_))
  exact h h' tk td fun b o e=>hk' b o (by simpa using (kp b o e).1) (old b o e)
 | cons n r=>
  refine wpAny_bind (wpAny_tryCatch (W.item 0 _ _ _ (by rw [hlen];simp) ⟨gI,gl⟩ fun v h' tk hP hst' hk'=>?_))
  have hv:its[0]?=some v:=by simpa using hP
  obtain ⟨t1,rfl⟩:∃ t1,v=.int n t1:=by
   have rv:=zdj hi
   obtain ⟨u,e1,r1⟩:=rv.get (i:=0) (x:=.int n) (by simp)
   rw [hv] at e1;cases e1
   exact r1
  have hS':=hk' (s.heap.objs.size + 1) _ (by simpa using hSI) gS
  show wpAny _ A.in1 (updateSeq (s.heap.objs.size + 1) (fun _=>#[.int n t1,.int n t1]) >>= _) _ _ _
  refine wpAny_bind ?_
  refine wpAny_updateSeq hS' rfl ?_
  rw [hname]
  have o1:∀ b o,b≠s.heap.objs.size + 1→h'.get? b=some o→(h'.update (s.heap.objs.size + 1) (Obj.mapSeq fun _=>#[.int n t1,.int n t1])).get? b=some o:=fun b o hbS e=>(Heap.get?_update_other _ _ (Ne.symm hbS)).trans e
  refine wpAny_pure ⟨plainId_quiet PySem.F.plain_max_loop _,zhA hh hi hlI hSI hSl _ 1 _ n t1 _ rfl (by simp) (hst'.1.at fun o e=>o1 _ _ (Ne.symm hSI) e) (hst'.2.at fun o e=>o1 _ _ (Ne.symm hSl) e) (Heap.get?_update_self _ hS' rfl) fun h'' tk'' t'' hk''=>?_⟩
  exact h h'' tk'' t'' fun b o e=>hk'' b o (kp b o e).1 (kp b o e).2 (o1 b o (kp b o e).2 (hk' b o (by simpa using (kp b o e).1) (old b o e)))
end
section
variable {X:Cx}{a b e:Expr} {es:List Expr}{ta tb:TE} {pos p kpos:Pos}{t tk:TA}
noncomputable def zkJ (X:Cx) (f:Value) (ks:List Str) (r:List V→List V→Hp→VK→Prop):Prop:=
 ∀ (pins:List (Addr×Obj)) (s:Shared) (σ:St) (H:Hp) (xs zs:List V) (us ws:List Value) (Q:VK),Inv X pins σ H s→Vals xs us→Vals zs ws→r xs zs H Q→
  wpAny (model X.prog X.w) X.A (call f us (ks.zip ws)) (EP X pins σ Q) X.xe s
noncomputable def tCBK (r:List V→List V→Hp→VK→Prop) (t tk:TA):TE:=fun σ H Q=>t σ H fun vs H1=>tk σ H1 fun zs H2=>r vs zs H2 Q
theorem zil {id:String}{ks:List Str} {r:List V→List V→Hp→VK→Prop}{x:Str} {kws:List Keyword}(hc:zkJ X (.builtin id) ks r) (hg:Gl X x) (hm:X.mg x=none) (hv:bootBuiltins x=some (.builtin id)) (ha:PA X (e::es) t) (hk:PK X kws tk)
  (hks:(backToKw pos (keywordEach kws X.env)).filterMap (·.1)=ks:=by rfl) (hn:x ≠ "__name__" := by decide) (hdb:(x == ("__debug__" : Str))=false:=by decide)
  (he:backTo pos (starEach (e::es) X.env)=(false,eval e X.env)::backTo pos (starEach es X.env):=by rfl)
  (hplain:(backTo pos (starEach (e::es) X.env)).any (·.1)=false:=by rfl)
  (hall:(backToKw pos (keywordEach kws X.env)).all (·.1.isSome)=true:=by rfl)
  (hkw:(backToKw pos (keywordEach kws X.env)).any (·.1.isNone)=false:=by rfl):PE X (.Call (.Name x p) (e::es) kws pos) (tCBK r t tk):=by
 intro pins s σ H Q I h
 refine wpAny_Call_Name_kw (zdn I hg hm hv ?_ hn hdb)
 refine callWith_kw (thn (ha pos pins s σ H _ I h) fun us s1 ⟨vs,H1,I1,r1,q1⟩=>thn (hk pos pins s1 σ H1 _ I1 q1) fun ws s2 ⟨zs,H2,I2,r2,q2⟩=>?_) he hplain hall hkw
 rw [hks]
 exact hc pins s2 σ H2 vs zs us ws Q I2 r1 r2 q2
theorem zje (hc:X.calm=true):zkJ X (.builtin "max") [Str.ofString "default"] (fun xs zs H Q=>∃ (p:Addr) (ns:List Int) (d:Int),xs=[.ref p]∧zs=[.int d]∧SqL X.K H p (ns.map V.int)∧Q (.int (maxD ns d)) H):=by
 intro pins s σ H xs zs us ws Q I r rz h
 obtain ⟨p,ns,d,rfl,rfl,hq,q⟩:=h
 obtain ⟨u,rfl,rx⟩:=zfx r
 obtain ⟨v,rfl,td,rfl⟩:=zfx rz
 cases rx
 obtain ⟨its,r',pl,_⟩:=I.list hq
 exact zhJ (I.ok.hd hc) pl.isList (zcI r') fun h' tk t' hk=>⟨.int _,H,I.kept hk,⟨t',rfl⟩,q⟩
noncomputable def rSlS:V→Option Int→Option Int→Hp→VK→Prop:=fun x lo hi H Q=>∃ z,x=.str z∧z.length≤sizeLine∧∀ y:Str,y.length≤z.length→y=Txt.slice z lo hi→Q (.str y) H
theorem zme:SlR X rSlS:=by
 intro pins s σ H x v vl vu lo hi sl Q I rx hs pl pu h
 obtain ⟨z,rfl,hz,q⟩:=h
 obtain ⟨t,rfl⟩:=rx
 refine ⟨"str",_,PySem.F.slot_str_getitem.lookup,typeIs_str s z t,?_⟩
 obtain ⟨o,ho,hc,hd⟩:=hs
 have fin:∀ (lo hi:Option Int),(∀ y:Str,y.length≤z.length→y=Txt.slice z lo hi→Q (.str y) H)→(Txt.slice z lo hi).length≤sizeLine∧∀ t' k,EP X pins σ Q (.str (Txt.slice z lo hi) t') { s with toks:=k }:=fun lo hi q=>
  ⟨Nat.le_trans (Txt.slice_le z lo hi) hz,fun t' k=>⟨.str _,H,I.tok _,⟨_,rfl⟩,q _ (Txt.slice_le z lo hi) rfl⟩⟩
 cases pl with
 | none=>
  cases pu with
  | none=>exact wpAny_getItem_str_slice (l:=none) (u:=none) (st:=none) ⟨o,ho,hc,hd⟩ rfl (post_val_or_str (fin none none q))
  | int j uj=>exact wpAny_getItem_str_slice (l:=none) (u:=some (j,uj)) (st:=none) ⟨o,ho,hc,hd⟩ rfl (post_val_or_str (fin none (some j) q))
 | int i ui=>
  cases pu with
  | none=>exact wpAny_getItem_str_slice (l:=some (i,ui)) (u:=none) (st:=none) ⟨o,ho,hc,hd⟩ rfl (post_val_or_str (fin (some i) none q))
  | int j uj=>exact wpAny_getItem_str_slice (l:=some (i,ui)) (u:=some (j,uj)) (st:=none) ⟨o,ho,hc,hd⟩ rfl (post_val_or_str (fin (some i) (some j) q))
theorem zhn {ys:List Str}:∀ {us:List Value},Vals (ys.map V.str) us→StrsAre us ys:=by
 induction ys with
 | nil=>intro us r;rw [List.map_nil] at r;cases r;exact .nil
 | cons n ns ih=>
  intro us r
  rw [List.map_cons] at r
  cases r with
  | cons r1 r2=>
   obtain ⟨t,e⟩:=r1
   subst e
   exact .cons n t (ih r2)
theorem zlv:MtR X "str.join" (fun x xs H Q=>∃ (sep:Str) (p:Addr) (ys:List Str),x=.str sep∧xs=[.ref p]∧SqL X.K H p (ys.map V.str)∧(ys.map (·.length)).sum + ys.length * sep.length≤16777216∧
  ∀ y:Str,y=Txt.join sep ys→Q (.str y) H):=by
 intro pins s σ H x xs v us Q I rx rs h
 obtain ⟨sep,p,ys,rfl,rfl,hq,hz,q⟩:=h
 obtain ⟨t,rfl⟩:=rx
 obtain ⟨u,rfl,ru⟩:=zfx rs
 cases ru
 obtain ⟨its,r',pl,_⟩:=I.list hq
 exact join_list pl.isList (zhn r') hz fun t' k=>⟨.str _,H,I.tok _,⟨_,rfl⟩,q _ rfl⟩
end
end L2
set_option Elab.async false
set_option linter.all false
set_option maxRecDepth 100000
namespace L2
open PySem PySem.Spec PyProof.Rows
section
variable {X:Cx}{e st:Expr} {te ts:TE}{pos p2:Pos}
end
end L2
namespace HT
open PySem PyProof.Rows
section
open PySem.SeqAt
open PySem.AutoSeq1 (wpAny_loadPart')
open PySem.MeetsSeq PySem.MeetsSeq2 PySem.MeetsSeq3
theorem zju (A:Around) (s:Shared) (a:Int) (t:Tok) (c:Int) (u:Tok) (prog:Program) (w:World) (E:Value→Shared→Prop) (Q:Value→Shared→Prop) (h:Q (.bool (decide (c≤a))) s) :
  wpAny (model prog w) A (richCompare .GtE (.int a t) (.int c u)) Q E s:=
 (PyProof.Rows.ge_int h:wpAny (model prog w) A (compareOp .GtE (.int a t) (.int c u)) Q E s)
theorem zeV (l b:Addr) (items items2:Array Value) (n n2:Nat) (dd dd2:Option Addr) (sl sl2:Array (Option Value)) (ns ms:List Int) (hi:IntsAre items.toList ns) (hj:IntsAre items2.toList ms) :
  Meets (Builtin.«tuple.__ge__» ⟨[.ref l,.ref b],[]⟩)
   (fun _ R s=>s.heap.get? l=some { cls:=.type "tuple",dict:=dd,data:=.seq items n,slots:=sl }∧s.heap.get? b=some { cls:=.type "tuple",dict:=dd2,data:=.seq items2 n2,slots:=sl2 }∧
    R (.ok (.ret (.bool (!lexLt ns ms)))) s):=
 .of_wp fun prog w A R s h=>by
  obtain ⟨hp,g,d,tk,os⟩:=s;obtain ⟨hl,hb,h⟩:=h
  have f2:=AutoSeq1.sub_tuple_tuple
  have z1:items.size=ns.length:=by rw [← hi.length];simp
  have z2:items2.size=ms.length:=by rw [← hj.length];simp
  wp_walk using wpAny_loadPart' hl,wpAny_loadPart' hb,wpAny_forIn_list _ (fun rest b s'=>b.1=none∧s'=⟨hp,g,d,tk,os⟩∧∃ (vs ws:List Value) (ns' ms':List Int),rest=vs.zip ws∧
   IntsAre vs ns'∧IntsAre ws ms'∧ns'.length + items2.size=ms'.length + items.size∧R (.ok (.ret (.bool (!lexLt ns' ms')))) ⟨hp,g,d,tk,os⟩) _
  case turn=>
   rintro ⟨y,x⟩ rest b s' ⟨hb',rfl,vs,ws,ns',ms',hz,hvi,hwi,hlen,hR⟩
   cases hvi with
   | nil=>rw [List.zip_nil_left] at hz;cases hz
   | cons a t hvi'=>
    cases hwi with
    | nil=>rw [List.zip_nil_right] at hz;cases hz
    | cons c u hwi'=>
     rw [List.zip_cons_cons] at hz
     injection hz with hyx hrest
     injection hyx with hy hx
     subst hy hx
     rw [zhD] at hR
     simp only [List.length_cons] at hlen
     obtain ⟨e,he,hiff⟩:=zkd A.in1 ⟨hp,g,d,tk,os⟩ a t c u
     refine wpAny_bind (he prog w _ _ ?_)
     cases e with
     | true=>
      rw [if_pos (hiff.mp rfl)] at hR
      wp_walk
      exact ⟨rfl,rfl,_,_,_,_,hrest,hvi',hwi',by omega,hR⟩
     | false=>
      rw [if_neg (fun q=>absurd (hiff.mpr q) Bool.false_ne_true)] at hR
      have hri:=zju A.in1 ⟨hp,g,d,tk,os⟩ a t c u prog w
      have e2:(!decide (a < c))=decide (c≤a):=by
       by_cases q:a < c
       ·rw [decide_eq_true q,decide_eq_false (by omega)];rfl
       ·rw [decide_eq_false q,decide_eq_true (by omega)];rfl
      rw [e2] at hR
      wp_walk using hri
      exact ⟨_,rfl,by simpa using hR⟩
  case fin=>
   rintro ⟨b1,b2⟩ s' ⟨hb',rfl,vs,ws,ns',ms',hz,hvi,hwi,hlen,hR⟩
   simp only at hb'
   subst hb'
   have hv:lexLt ns' ms'=decide (items.size < items2.size):=by
    cases hvi with
    | nil=>
     cases hwi with
     | nil=>
      simp only [List.length_nil] at hlen
      rw [zfk]
      exact (decide_eq_false (by omega)).symm
     | cons c u hw=>
      simp only [List.length_nil,List.length_cons] at hlen
      rw [zeE]
      exact (decide_eq_true (by omega)).symm
    | cons a t hv=>
     cases hwi with
     | nil=>
      simp only [List.length_nil,List.length_cons] at hlen
      rw [zeF]
      exact (decide_eq_false (by omega)).symm
     | cons c u hw=>
      rw [List.zip_cons_cons] at hz
      cases hz
   have e2:(!decide (items.size < items2.size))=decide (items.size ≥ items2.size):=by
    by_cases q:items.size < items2.size
    ·rw [decide_eq_true q,decide_eq_false (by omega)];rfl
    ·rw [decide_eq_false q,decide_eq_true (by omega)];rfl
   rw [hv,e2] at hR
   wp_walk
   exact ⟨_,rfl,by simpa [Builtin.Tuple.tupleCompareSizes] using hR⟩
  case h=>
   exact ⟨rfl,rfl,items.toList,items2.toList,ns,ms,rfl,hi,hj,by omega,h⟩
end
section
variable {prog:Program}{w:World} {A:Around}{E:Value→Shared→Prop} {s:Shared}
theorem ge_tupInts {l b:Addr}{items items2:Array Value} {ns ms:List Int}{Q:Value→Shared→Prop} (hl:IsTup s.heap l items) (hb:IsTup s.heap b items2) (hi:IntsAre items.toList ns) (hj:IntsAre items2.toList ms)
  (hu:A.units < cLine) (h:Q (.bool (!lexLt ns ms)) s):wpAny (model prog w) A (compareOp .GtE (.ref l) (.ref b)) Q E s:=by
 obtain ⟨⟨cls,dd,data,sl⟩,ho,hc,n,hd⟩:=id hl
 obtain ⟨⟨cls2,dd2,data2,sl2⟩,ho2,hc2,n2,hd2⟩:=id hb
 simp only at hc hd hc2 hd2
 subst hc hd hc2 hd2
 exact richCompare_meets_room (op:=.GtE) ⟨_,ho,rfl⟩ ⟨_,ho2,rfl⟩ PySem.F.slot_tuple_ge PySem.F.entry_tuple_ge (PySem.F.args_tuple_ge_2 _ _) (zeV l b items items2 n n2 dd dd2 sl sl2 ns ms hi hj)
  ⟨ho,ho2,show Value.bool (!lexLt ns ms)≠Value.notImplemented∧Q (.bool (!lexLt ns ms)) s from ⟨(fun x=>nomatch x),h⟩⟩ hu
theorem zdr {it l:Addr}{i:Nat} {items} {x:Value}{Q:Value→Shared→Prop} (hit:s.heap.IsTupleIter it l i)
  (hl:s.heap.IsTuple l items) (hx:items[i]?=some x)
  (hQ:∀ h',h'.IsTupleIter it l (i + 1)→Heap.SameBut it s.heap h'→Q x { s with heap:=h' }) :
  wpAny (model prog w) A (Builtin.SmallTypes.nextOf (.ref it)) Q E s:=by
 obtain ⟨o,ho,hc,hd⟩:=id hit
 obtain ⟨ol,hol,_,nl,hdl⟩:=hl
 unfold Builtin.SmallTypes.nextOf
 refine wpAny_bind (wpAny_callSpecial?_slot (name:=Str.ofString "__next__") hit.typeIs PySem.F.slot_tuple_iterator_next
  (wpAny_call_entry PySem.F.slot_tuple_iterator_next hit.typeIs PySem.F.entry_tuple_iterator_next ?_ (PySem.F.args_tuple_iterator_next_1 _)))
 show wpAny _ _ (field (.ref it) 0 >>= _) _ _ s
 refine wpAny_bind (wpAny_field ho hd (x:=.ref l) rfl ?_)
 show wpAny _ _ (if (Value.ref l == Value.none)=true then _ else _) _ _ s
 rw [if_neg (show ¬ ((Value.ref l == Value.none)=true) from Bool.false_ne_true)]
 show wpAny _ _ (field (.ref it) 1 >>= _) _ _ s
 refine wpAny_bind (wpAny_field ho hd (x:=.int i 0) rfl ?_)
 show wpAny _ _ (seqItems? (.ref l) >>= _) _ _ s
 refine wpAny_bind (wpAny_seqItems hol hdl ?_)
 simp only [Int.toNat_natCast,hx]
 refine wpAny_bind (wpAny_setField ho hd (by simp) (wpAny_pure ⟨x,rfl,wpAny_pure (hQ _ ?_ (Heap.SameBut.update ..))⟩))
 exact ⟨_,Heap.get?_update_self _ ho (Obj.isFreed_of_fields (Obj.data_mapFields hd _)),(Obj.cls_mapFields ..).trans hc,by
  rw [Obj.data_mapFields hd];simp [rawInt]⟩
theorem zdH {it l:Addr}{i:Nat} {items} {Q:Value→Shared→Prop}(hh:A.handled=none)
  (hit:s.heap.IsTupleIter it l i) (hl:s.heap.IsTuple l items) (hx:items[i]?=none)
  (hE:∀ h' e,Heap.ExtBut it s.heap h'→(∃ o,h'.get? e=some o∧o.cls=.type "StopIteration")→E (.ref e) { s with heap:=h' }) :
  wpAny (model prog w) A (Builtin.SmallTypes.nextOf (.ref it)) Q E s:=by
 obtain ⟨o,ho,hc,hd⟩:=id hit
 obtain ⟨ol,hol,_,nl,hdl⟩:=hl
 unfold Builtin.SmallTypes.nextOf
 refine wpAny_bind (wpAny_callSpecial?_slot (name:=Str.ofString "__next__") hit.typeIs PySem.F.slot_tuple_iterator_next
  (wpAny_call_entry PySem.F.slot_tuple_iterator_next hit.typeIs PySem.F.entry_tuple_iterator_next ?_ (PySem.F.args_tuple_iterator_next_1 _)))
 show wpAny _ _ (field (.ref it) 0 >>= _) _ _ s
 refine wpAny_bind (wpAny_field ho hd (x:=.ref l) rfl ?_)
 show wpAny _ _ (if (Value.ref l == Value.none)=true then _ else _) _ _ s
 rw [if_neg (show ¬ ((Value.ref l == Value.none)=true) from Bool.false_ne_true)]
 show wpAny _ _ (field (.ref it) 1 >>= _) _ _ s
 refine wpAny_bind (wpAny_field ho hd (x:=.int i 0) rfl ?_)
 show wpAny _ _ (seqItems? (.ref l) >>= _) _ _ s
 refine wpAny_bind (wpAny_seqItems hol hdl ?_)
 simp only [Int.toNat_natCast,hx]
 refine wpAny_bind (wpAny_rule (wpAny_bind (wpAny_setField ho hd (by simp) ?_)))
 show wpAny _ _ (newExc (.type "StopIteration") [] >>= _) _ _ _
 refine wpAny_bind ?_
 simp only [newExc,newTuple]
 refine wpAny_bind (wpAny_newObj_type ?_ (by size_fits))
 refine wpAny_bind (m:=firstArgMember _ _) (wpAny_of_eq (a:=Value.none) (by first | rfl | (simp only [firstArgMember];rfl)) ?_)
 refine wpAny_newObj_type ?_ (by size_fits)
 simp only [raiseNew]
 refine wpAny_bind (wpAny_handled ?_)
 first | rw [show A.in1.handled=none from hh] | rw [hh]
 refine wpAny_bind (wpAny_pure (wpAny_throw ?_))
 exact hE _ _ (((Heap.SameBut.update ..).extBut.push _).push _) ⟨_,Heap.get?_push_size _ rfl,rfl⟩
end
theorem znn {prog:Program}{w:World} {A:Around}(hh:A.handled=none) (it l:Addr) (hne:l≠it) (items:Array Value) :
  Draws prog w A it [it,l] items.size (fun i v=>items[i]?=some v) (fun i h=>h.IsTupleIter it l i∧h.IsTuple l items) where
 live:=fun _ _ st=>let ⟨o,ho,_⟩:=st.1;⟨o,ho⟩
 frame:=fun _ _ _ st hk=>⟨st.1.at fun o e=>hk it (by simp) o e,let ⟨o,ho,r⟩:=st.2;⟨o,hk l (by simp) o ho,r⟩⟩
 item:=fun i s Q E hi st hQ=>by
  refine zdr st.1 st.2 (x:=items[i]) (by simp [hi]) fun h' hit' hs'=>?_
  exact hQ _ h' s.toks (by simp [hi]) ⟨hit',let ⟨o,ho,r⟩:=st.2;⟨o,hs'.extBut _ _ hne ho,r⟩⟩ hs'
 done:=fun s Q E st hE=>zdH hh st.1 st.2 (by simp) hE
section
variable {prog:Program}{w:World} {A:Around}{E:Value→Shared→Prop} {s:Shared}
end
end HT
namespace L2
open PySem PySem.Spec PyProof.Rows
section
variable {X:Cx}
noncomputable def rGeT (K:PySem.W.Frag):R2:=fun x y H Q=>∃ a b ns ms,x=.ref a∧y=.ref b∧SqT K H a (ns.map V.int)∧SqT K H b (ms.map V.int)∧Q (.bl (!HT.lexLt ns ms)) H
theorem zmG (hu:X.A.units < cLine):OpR X (compareOp .GtE) (rGeT X.K):=by
 intro pins s σ H x y v u Q I rx ry h
 obtain ⟨a,b,ns,ms,rfl,rfl,ha,hb,q⟩:=h
 cases rx
 cases ry
 obtain ⟨its,r1,p1,_⟩:=I.tuple ha
 obtain ⟨its2,r2,p2,_⟩:=I.tuple hb
 have i1:IntsAre its.toArray.toList ns:=zcI r1
 have i2:IntsAre its2.toArray.toList ms:=zcI r2
 exact HT.ge_tupInts p1 p2 i1 i2 hu ⟨.bl (!HT.lexLt ns ms),H,I,rfl,q⟩
end
end L2
set_option Elab.async false
set_option linter.all false
set_option maxRecDepth 100000
namespace L2
open PySem PySem.Spec PyProof.Rows
section
variable {X:Cx}(K:PySem.W.Frag)
end
end L2
set_option Elab.async false
set_option linter.all false
set_option maxRecDepth 100000
namespace FX
open PySem PyProof.Rows
structure Chg (fs ex:List Addr) (h h':Heap):Prop where
 keep:∀ b o,h.get? b=some o→b∉fs→b∉ex→h'.get? b=some o
 slot:∀ b o,h.get? b=some o→b∈fs→b∉ex→∃ sl,h'.get? b=some { o with slots:=sl }
 there:∀ b o,h.get? b=some o→∃ o',h'.get? b=some o'
theorem Chg.trans {fs ex ex':List Addr}{h h1 h2:Heap} (a:Chg fs ex h h1) (b:Chg fs ex' h1 h2):Chg fs (ex++ex') h h2 where
 keep:=fun c o e n x=>by
  rw [List.mem_append,not_or] at x
  exact b.keep c o (a.keep c o e n x.1) n x.2
 slot:=fun c o e n x=>by
  rw [List.mem_append,not_or] at x
  obtain ⟨sl,e1⟩:=a.slot c o e n x.1
  obtain ⟨sl2,e2⟩:=b.slot c _ e1 n x.2
  exact ⟨sl2,e2⟩
 there:=fun c o e=>let ⟨o1,e1⟩:=a.there c o e;b.there c o1 e1
noncomputable def Fly (h:Heap) (e:Addr) (cls:Value) (d:Option Addr) (tb:Option Addr) (fl:Value):Prop:=
 ∃ oe vs,h.get? e=some oe∧oe.cls=cls∧oe.dict=d∧oe.data=.fields vs∧1 < vs.size∧match tb with
  | none=>vs[1]?=some .none
  | some T=>vs[1]?=some (.ref T)∧T≠e∧∃ oT ts,h.get? T=some oT∧oT.data=.fields ts∧ts[3]?=some fl
theorem zkj (o:Obj) (f:Array Value→Array Value):(o.mapFields f).dict=o.dict:=by obtain ⟨c,d,dt,sl⟩:=o;cases dt<;>rfl
theorem Fly.there {h:Heap}{e:Addr} {cls:Value}{d tb:Option Addr} {fl:Value}(x:Fly h e cls d tb fl):∃ o,h.get? e=some o∧o.cls=cls∧o.dict=d:=by
 obtain ⟨oe,vs,h1,h2,h3,_⟩:=x;exact ⟨oe,h1,h2,h3⟩
noncomputable abbrev exOf (e:Addr):Option Addr→List Addr
 | none=>[e]
 | some T=>[e,T]
section
variable {M:Model}{A:Around} {E:Value→Shared→Prop}{s:Shared}
theorem zfW {base:Heap}{env:Env} {outer:List Env}{L e:Addr} {oe:Obj}{vs:Array Value} {head:Value}{hadNext:Bool} {Q:Unit→Shared→Prop}
  (hfr:A.frames=some (env::outer)) (hl:s.heap.FunFrames base (env::outer)) (hf:env.frame=some L) (he:s.heap.get? e=some oe) (hd:oe.data=.fields vs) (hz:1 < vs.size)
  (q:∀ h' T,Chg ((env::outer).filterMap (·.frame)) [e] s.heap h'→Fly h' e oe.cls oe.dict (some T) (rawInt L)→s.heap.objs.size≤T→Q () { s with heap:=h' }) :
  wpAny M A (do let a ← frameOf env;let pl ← entryPlaceOf L hadNext;let b ← EntryCells.newEntry head a .none (rawInt L) .none pl;setField (.ref e) 1 b) Q E s:=by
 have ne:e∉(env::outer).filterMap (·.frame):=fun hm=>by
  obtain ⟨_,o,ho,hn⟩:=hl.mem hm
  rw [he] at ho;cases ho;exact hn vs hd
 refine wpAny_bind (wpAny_frameOf_fun hfr hl hf fun h1 x1=>?_)
 refine wpAny_bind (wpAny_entryPlaceOf fun pl hp=>?_)
 unfold EntryCells.newEntry newFields
 refine wpAny_bind (wpAny_newObj_type ?_ (hp.sizeOk5 _ _ _ _ _))
 have e1:h1.get? e=some oe:=(x1.2.1 e ne).trans he
 generalize hts:([head,.ref L,.none,rawInt L,.none]++(if pl.isEmpty then List.replicate 6 Value.none else pl)).toArray=ts
 have t3:ts[3]?=some (rawInt L):=by rw [← hts];rfl
 have e2:=Heap.get?_push_of_some (h:=h1) { cls:=.type "traceback",dict:=none,data:=.fields ts } e1
 refine wpAny_setField e2 hd hz (q _ h1.objs.size ?_ ?_ (by rw [x1.1];exact Nat.le_refl _))
 ·have kp:∀ b o,b≠e→h1.get? b=some o→((h1.push { cls:=.type "traceback",dict:=none,data:=.fields ts }).update e (Obj.mapFields (·.setIfInBounds 1 (Value.ref h1.objs.size)))).get? b=some o:=fun b o hb q=>by
   rw [Heap.get?_update_other _ _ (Ne.symm hb)];exact Heap.get?_push_of_some _ q
  refine ⟨fun b o q n x=>kp b o (fun z=>x (by simp [z])) ((x1.2.1 b n).trans q),fun b o q n x=>?_,fun b o q=>?_⟩
  ·obtain ⟨sl,q1⟩:=x1.2.2 b o q
   exact ⟨sl,kp b _ (fun z=>x (by simp [z])) q1⟩
  ·by_cases hb:b=e
   ·subst hb
    exact ⟨_,Heap.get?_update_self _ e2 (Obj.isFreed_of_fields (Obj.data_mapFields hd _))⟩
   ·obtain ⟨sl,q1⟩:=x1.2.2 b o q
    exact ⟨_,kp b _ hb q1⟩
 ·have ne':h1.objs.size≠e:=Nat.ne_of_gt (Heap.lt_size e1)
  refine ⟨_,_,Heap.get?_update_self _ e2 (Obj.isFreed_of_fields (Obj.data_mapFields hd _)),Obj.cls_mapFields _ _,zkj _ _,Obj.data_mapFields hd _,by simpa using hz,by simp [hz],ne',{ cls:=.type "traceback",dict:=none,data:=.fields ts },ts,?_,rfl,t3⟩
  rw [Heap.get?_update_other _ _ (Ne.symm ne')]
  exact Heap.get?_push_size h1 rfl
theorem note_frame {base:Heap}{env:Env} {outer:List Env}{L e:Addr} {cls:Value}{d tb:Option Addr} {Q:Unit→Shared→Prop}
  (hfr:A.frames=some (env::outer)) (hl:s.heap.FunFrames base (env::outer)) (hf:env.frame=some L) (x:Fly s.heap e cls d tb .none)
  (q:∀ h' T,Chg ((env::outer).filterMap (·.frame)) (exOf e tb) s.heap h'→Fly h' e cls d (some T) (rawInt L)→s.heap.objs.size≤T→Q () { s with heap:=h' }):wpAny M A (noteFrame (.ref e) env) Q E s:=by
 obtain ⟨oe,vs,he,rfl,rfl,hd,hz,ht⟩:=x
 unfold noteFrame
 simp only [hf]
 cases tb with
 | none=>
  refine wpAny_bind (wpAny_field he hd ht ?_)
  rw [if_neg (by decide)]
  exact zfW hfr hl hf he hd hz q
 | some T=>
  obtain ⟨h1,hTe,oT,ts,hT,hdT,h3⟩:=ht
  refine wpAny_bind (wpAny_field he hd h1 ?_)
  rw [if_pos (show (Value.ref T != Value.none)=true from by simp)]
  refine wpAny_bind (wpAny_field hT hdT h3 ?_)
  rw [if_neg (show ¬ ((Value.none == rawInt L)=true) from by simp [rawInt])]
  refine wpAny_bind (wpAny_setField hT hdT (Array.getElem?_eq_some_iff.mp h3).1 ?_)
  have other:∀ b,b≠T→(s.heap.update T (Obj.mapFields (·.setIfInBounds 3 Value.none))).get? b=s.heap.get? b:=fun b hb=>Heap.get?_update_other _ _ (Ne.symm hb)
  have nf:∀ b o,s.heap.get? b=some o→(∀ vs,o.data≠.fields vs)→b≠T:=fun b o hb hn z=>by
   rw [z,hT] at hb;cases hb;exact hn ts hdT
  have c1:Chg ((env::outer).filterMap (·.frame)) [T] s.heap (s.heap.update T (Obj.mapFields (·.setIfInBounds 3 Value.none))):=by
   refine ⟨fun b o q _ x=>by rw [other b (fun z=>x (by simp [z]))];exact q,fun b o q _ x=>⟨o.slots,by rw [other b (fun z=>x (by simp [z]))];exact q⟩,fun b o q=>?_⟩
   by_cases hb:b=T
   ·subst hb;exact ⟨_,Heap.get?_update_self _ hT (Obj.isFreed_of_fields (Obj.data_mapFields hdT _))⟩
   ·exact ⟨o,by rw [other b hb];exact q⟩
  refine zfW hfr (hl.of_keeps fun b o hb hn=>⟨o,(other b (nf b o hb hn)).trans hb,rfl⟩) hf ((other e (Ne.symm hTe)).trans he) hd hz fun h' T' c f z=>q h' T' ?_ f ?_
  ·have c2:=c1.trans c
   exact ⟨fun b o q n x=>c2.keep b o q n (by simp at x ⊢;exact ⟨x.2,x.1⟩),fun b o q n x=>c2.slot b o q n (by simp at x ⊢;exact ⟨x.2,x.1⟩),c2.there⟩
  ·have:(s.heap.update T (Obj.mapFields (·.setIfInBounds 3 Value.none))).objs.size=s.heap.objs.size:=by simp [Heap.update]
   rw [this] at z;exact z
theorem set_flight {e T:Addr}{cls fl:Value} {d:Option Addr}{fs:List Addr} {Q:Unit→Shared→Prop}(x:Fly s.heap e cls d (some T) fl)
  (q:∀ h',Chg fs [T] s.heap h'→Fly h' e cls d (some T) .none→Q () { s with heap:=h' }):wpAny M A (setFlight (.ref e) none) Q E s:=by
 obtain ⟨oe,vs,he,rfl,rfl,hd,hz,h1,hTe,oT,ts,hT,hdT,h3⟩:=x
 have z3:3 < ts.size:=(Array.getElem?_eq_some_iff.mp h3).1
 unfold setFlight
 refine wpAny_bind (wpAny_field he hd h1 ?_)
 rw [if_pos (show (Value.ref T != Value.none)=true from by simp)]
 refine wpAny_setField hT hdT z3 (q _ ?_ ?_)
 ·have other:∀ b,b≠T→(s.heap.update T (Obj.mapFields (·.setIfInBounds 3 ((none:Option Addr).elim Value.none fun f=>rawInt f)))).get? b=s.heap.get? b:=fun b hb=>Heap.get?_update_other _ _ (Ne.symm hb)
  refine ⟨fun b o q _ x=>by rw [other b (fun z=>x (by simp [z]))];exact q,fun b o q _ x=>⟨o.slots,by rw [other b (fun z=>x (by simp [z]))];exact q⟩,fun b o q=>?_⟩
  by_cases hb:b=T
  ·subst hb;exact ⟨_,Heap.get?_update_self _ hT (Obj.isFreed_of_fields (Obj.data_mapFields hdT _))⟩
  ·exact ⟨o,by rw [other b hb];exact q⟩
 ·refine ⟨oe,vs,by rw [Heap.get?_update_other _ _ hTe];exact he,rfl,rfl,hd,hz,h1,hTe,_,_,Heap.get?_update_self _ hT (Obj.isFreed_of_fields (Obj.data_mapFields hdT _)),Obj.data_mapFields hdT _,?_⟩
  simp [z3]
theorem zgz {base:Heap}{env:Env} {outer:List Env}{L e:Addr} {cls:Value}{d tb:Option Addr} {Q:Unit→Shared→Prop}
  (hfr:A.frames=some (env::outer)) (hl:s.heap.FunFrames base (env::outer)) (hf:env.frame=some L) (x:Fly s.heap e cls d tb .none)
  (q:∀ h' T,Chg ((env::outer).filterMap (·.frame)) (exOf e tb) s.heap h'→Fly h' e cls d (some T) .none→s.heap.objs.size≤T→Q () { s with heap:=h' }):wpAny M A (leaving env (.ref e)) Q E s:=by
 unfold leaving
 refine wpAny_bind (note_frame hfr hl hf x fun h1 T c1 f1 z=>set_flight (fs:=(env::outer).filterMap (·.frame)) f1 fun h2 c2 f2=>q h2 T ?_ f2 z)
 have nT:∀ b o,s.heap.get? b=some o→b≠T:=fun b o hb=>Nat.ne_of_lt (Nat.lt_of_lt_of_le (Heap.lt_size hb) z)
 have c:=c1.trans c2
 exact ⟨fun b o q n x=>c.keep b o q n (by simp only [List.mem_append,List.mem_singleton,not_or];exact ⟨x,nT b o q⟩),fun b o q n x=>c.slot b o q n (by simp only [List.mem_append,List.mem_singleton,not_or];exact ⟨x,nT b o q⟩),c.there⟩
end
end FX
set_option Elab.async false
set_option linter.all false
set_option maxRecDepth 100000
namespace FL
open PySem PySem.Spec PyProof.Rows L2
inductive KD where
 | int (i:Int) | str (x:Str) | tup (l:List Key)
 deriving DecidableEq
inductive D where
 | non | bl (b:Bool) | int (i:Int) | str (x:Str) | tup (l:List D) | lst (l:List D) | scr (ns:List Int) | dic (ks:List KD) (ds:List D) | set (l:List KD) | exc (c:Str) (d:D)
noncomputable def kdK:Key→KD
 | .inl i=>.int i
 | .inr x=>.str x
noncomputable def zdA (F:Hp) (a:Addr) (ks:List KD) (vs:List V):Prop:=
 (∃ kvs:List (Key×V),F a=some (.dK kvs)∧ks=kvs.map (fun p=>kdK p.1)∧vs=kvs.map (·.2))∨
 (∃ kvs:List (List Key×V),F a=some (.dT kvs)∧(ks=kvs.map (fun p=>KD.tup p.1)∧kvs≠[])∧vs=kvs.map (·.2))
noncomputable def DicF (F:Hp) (a:Addr) (ks:List KD) (vs:List V):Prop:=∃ o,
 (∃ kvs:List (Key×V),F a=some (.frz o (.dK kvs))∧ks=kvs.map (fun p=>kdK p.1)∧vs=kvs.map (·.2))∨
 (∃ kvs:List (List Key×V),F a=some (.frz o (.dT kvs))∧(ks=kvs.map (fun p=>KD.tup p.1)∧kvs≠[])∧vs=kvs.map (·.2))
noncomputable def DicB (H:Hp) (a:Addr) (ks:List KD) (vs:List V):Prop:=zdA H a ks vs∨DicF H a ks vs
noncomputable def zcB (F:Hp) (a:Addr) (l:List KD):Prop:=∃ L,F a=some (.set L)∧l=L.map KD.str
noncomputable def zaR (c:Str):Str:=if c = "NoPlace" then "place" else if c = "NoRule" then "rule" else if c = "TwoCounts" then "sign" else if c = "TooLong" then "term" else "rules"
noncomputable def ExcO (a C da:Addr):HO:=.ext fun h=>∃ oe vs,h.get? a=some oe∧oe.cls=.ref C∧oe.dict=some da∧oe.data=.fields vs
mutual
noncomputable def Dat (K:PySem.W.Frag) (F:Hp):D→V→Prop
 | .non,v=>v=.non
 | .bl b,v=>v=.bl b
 | .int i,v=>v=.int i
 | .str x,v=>v=.str x
 | .tup l,v=>∃ a vs,v=.ref a∧F a=some (.tup vs)∧DatL K F l vs
 | .lst l,v=>∃ a vs,v=.ref a∧F a=some (.lst vs)∧DatL K F l vs
 | .scr ns,v=>∃ a,v=.ref a∧SqL K F a (ns.map V.int)
 | .dic ks ds,v=>∃ a vs,v=.ref a∧DicF F a ks vs∧DatL K F ds vs
 | .set l,v=>∃ a,v=.ref a∧zcB F a l
 | .exc c d,v=>∃ a C da u,v=.ref a∧F a=some (ExcO a C da)∧PySem.W.nsIn K mainGlobals c=some (some (.ref C))∧F da=some (.xd [(zaR c,u)])∧Dat K F d u
noncomputable def DatL (K:PySem.W.Frag) (F:Hp):List D→List V→Prop
 | [],vs=>vs=[]
 | d::l,vs=>∃ v r,vs=v::r∧Dat K F d v∧DatL K F l r
end
section
variable {K:PySem.W.Frag}{F F' H H':Hp}
theorem zdA.mono (s:Same F F') {a:Addr}{ks:List KD} {vs:List V}(h:zdA F a ks vs):zdA F' a ks vs:=by
 rcases h with ⟨kvs,h,r⟩ | ⟨kvs,h,r⟩
 ·exact .inl ⟨kvs,s _ _ h,r⟩
 ·exact .inr ⟨kvs,s _ _ h,r⟩
theorem DicF.mono (s:Same F F') {a:Addr}{ks:List KD} {vs:List V}(h:DicF F a ks vs):DicF F' a ks vs:=by
 obtain ⟨o,⟨kvs,h,r⟩ | ⟨kvs,h,r⟩⟩:=h
 ·exact ⟨o,.inl ⟨kvs,s _ _ h,r⟩⟩
 ·exact ⟨o,.inr ⟨kvs,s _ _ h,r⟩⟩
theorem DicB.mono (s:Same F F') {a:Addr}{ks:List KD} {vs:List V}(h:DicB F a ks vs):DicB F' a ks vs:=h.imp (zdA.mono s) (DicF.mono s)
theorem zcB.mono (s:Same F F') {a:Addr}{l:List KD} (h:zcB F a l):zcB F' a l:=by
 obtain ⟨o,h,z⟩:=h;exact ⟨o,s _ _ h,z⟩
theorem zdA.some {a:Addr}{ks:List KD} {vs:List V}(h:zdA F a ks vs):∃ o,F a=some o:=by
 rcases h with ⟨kvs,h,r⟩ | ⟨kvs,h,r⟩
 ·exact ⟨_,h⟩
 ·exact ⟨_,h⟩
theorem zcB.some {a:Addr}{l:List KD} (h:zcB F a l):∃ o,F a=some o:=let ⟨_,h,_⟩:=h;⟨_,h⟩
theorem zdA.at {a:Addr}(e:F' a=F a) {ks:List KD}{vs:List V} (h:zdA F a ks vs):zdA F' a ks vs:=by
 unfold zdA at h ⊢;rw [e];exact h
theorem DicF.at {a:Addr}(e:F' a=F a) {ks:List KD}{vs:List V} (h:DicF F a ks vs):DicF F' a ks vs:=by
 unfold DicF at h ⊢;rw [e];exact h
theorem DicB.at {a:Addr}(e:F' a=F a) {ks:List KD}{vs:List V} (h:DicB F a ks vs):DicB F' a ks vs:=h.imp (zdA.at e) (DicF.at e)
theorem zcB.at {a:Addr}(e:F' a=F a) {l:List KD}(h:zcB F a l):zcB F' a l:=by
 unfold zcB at h ⊢;rw [e];exact h
mutual
theorem Dat.mono (t:Same F F'):∀ {d:D}{v:V},Dat K F d v→Dat K F' d v
 | .non,_,h=>by simp only [Dat] at h ⊢;exact h
 | .bl _,_,h=>by simp only [Dat] at h ⊢;exact h
 | .int _,_,h=>by simp only [Dat] at h ⊢;exact h
 | .str _,_,h=>by simp only [Dat] at h ⊢;exact h
 | .tup l,_,h=>by
  simp only [Dat] at h ⊢
  obtain ⟨a,vs,e,h1,h2⟩:=h
  exact ⟨a,vs,e,t _ _ h1,DatL.mono t h2⟩
 | .lst l,_,h=>by
  simp only [Dat] at h ⊢
  obtain ⟨a,vs,e,h1,h2⟩:=h
  exact ⟨a,vs,e,t _ _ h1,DatL.mono t h2⟩
 | .scr l,_,h=>by
  simp only [Dat] at h ⊢
  obtain ⟨a,e,h1⟩:=h
  exact ⟨a,e,Same.seq t h1⟩
 | .dic _ l,_,h=>by
  simp only [Dat] at h ⊢
  obtain ⟨a,vs,e,h1,h2⟩:=h
  exact ⟨a,vs,e,h1.mono t,DatL.mono t h2⟩
 | .set l,_,h=>by
  simp only [Dat] at h ⊢
  obtain ⟨a,e,h1⟩:=h
  exact ⟨a,e,h1.mono t⟩
 | .exc c d,_,h=>by
  simp only [Dat] at h ⊢
  obtain ⟨a,C,da,u,e,h1,h2,h3,h4⟩:=h
  exact ⟨a,C,da,u,e,t _ _ h1,h2,t _ _ h3,Dat.mono t h4⟩
theorem DatL.mono (t:Same F F'):∀ {l:List D}{vs:List V},DatL K F l vs→DatL K F' l vs
 | [],_,h=>by simp only [DatL] at h ⊢;exact h
 | d::l,_,h=>by
  simp only [DatL] at h ⊢
  obtain ⟨v,r,e,h1,h2⟩:=h
  exact ⟨v,r,e,Dat.mono t h1,DatL.mono t h2⟩
end
theorem DatL.nil:DatL K F [] []:=by simp only [DatL]
theorem DatL.cons {d:D}{l:List D} {v:V}{vs:List V} (h:Dat K F d v) (r:DatL K F l vs):DatL K F (d::l) (v::vs):=by simp only [DatL];exact ⟨v,vs,rfl,h,r⟩
theorem DatL.nil_inv {vs:List V}(h:DatL K F [] vs):vs=[]:=by simp only [DatL] at h;exact h
theorem DatL.cons_inv {d:D}{l:List D} {vs:List V}(h:DatL K F (d::l) vs):∃ v r,vs=v::r∧Dat K F d v∧DatL K F l r:=by simp only [DatL] at h;exact h
theorem Dat.non_inv {v:V}(h:Dat K F .non v):v=.non:=by simp only [Dat] at h;exact h
theorem Dat.bl_inv {b:Bool}{v:V} (h:Dat K F (.bl b) v):v=.bl b:=by simp only [Dat] at h;exact h
theorem Dat.int_inv {i:Int}{v:V} (h:Dat K F (.int i) v):v=.int i:=by simp only [Dat] at h;exact h
theorem Dat.str_inv {x:Str}{v:V} (h:Dat K F (.str x) v):v=.str x:=by simp only [Dat] at h;exact h
theorem Dat.tup_inv {l:List D}{v:V} (h:Dat K F (.tup l) v):∃ a vs,v=.ref a∧F a=some (.tup vs)∧DatL K F l vs:=by simp only [Dat] at h;exact h
theorem Dat.lst_inv {l:List D}{v:V} (h:Dat K F (.lst l) v):∃ a vs,v=.ref a∧F a=some (.lst vs)∧DatL K F l vs:=by simp only [Dat] at h;exact h
theorem Dat.scr_inv {l:List Int}{v:V} (h:Dat K F (.scr l) v):∃ a,v=.ref a∧SqL K F a (l.map V.int):=by simp only [Dat] at h;exact h
theorem Dat.dic_inv {ks:List KD}{l:List D} {v:V}(h:Dat K F (.dic ks l) v):∃ a vs,v=.ref a∧DicF F a ks vs∧DatL K F l vs:=by simp only [Dat] at h;exact h
theorem Dat.set_inv {l:List KD}{v:V} (h:Dat K F (.set l) v):∃ a,v=.ref a∧zcB F a l:=by simp only [Dat] at h;exact h
theorem Dat.exc_inv {c:Str}{d:D} {v:V}(h:Dat K F (.exc c d) v):∃ a C da u,v=.ref a∧F a=some (ExcO a C da)∧PySem.W.nsIn K mainGlobals c=some (some (.ref C))∧F da=some (.xd [(zaR c,u)])∧Dat K F d u:=by simp only [Dat] at h;exact h
theorem Dat.non:Dat K F .non .non:=by simp only [Dat]
theorem Dat.bl (b:Bool):Dat K F (.bl b) (.bl b):=by simp only [Dat]
theorem Dat.int (i:Int):Dat K F (.int i) (.int i):=by simp only [Dat]
theorem Dat.str (x:Str):Dat K F (.str x) (.str x):=by simp only [Dat]
theorem Dat.tup {l:List D}{a:Addr} {vs:List V}(h:F a=some (.tup vs)) (r:DatL K F l vs):Dat K F (.tup l) (.ref a):=by simp only [Dat];exact ⟨a,vs,rfl,h,r⟩
theorem Dat.lst {l:List D}{a:Addr} {vs:List V}(h:F a=some (.lst vs)) (r:DatL K F l vs):Dat K F (.lst l) (.ref a):=by simp only [Dat];exact ⟨a,vs,rfl,h,r⟩
theorem Dat.scr {l:List Int}{a:Addr} (h:SqL K F a (l.map V.int)):Dat K F (.scr l) (.ref a):=by simp only [Dat];exact ⟨a,rfl,h⟩
theorem Dat.dic {ks:List KD}{l:List D} {a:Addr}{vs:List V} (h:DicF F a ks vs) (r:DatL K F l vs):Dat K F (.dic ks l) (.ref a):=by simp only [Dat];exact ⟨a,vs,rfl,h,r⟩
theorem DatL.length:∀ {l:List D}{vs:List V},DatL K F l vs→vs.length=l.length
 | [],_,h=>by rw [h.nil_inv];rfl
 | _::l,_,h=>by
  obtain ⟨v,r,rfl,_,h2⟩:=h.cons_inv
  simp [DatL.length h2]
theorem DatL.get:∀ {l:List D}{vs:List V} {i:Nat}{d:D},DatL K F l vs→l[i]?=some d→∃ v,vs[i]?=some v∧Dat K F d v
 | [],_,_,_,_,e=>by simp at e
 | _::l,_,i,d,h,e=>by
  obtain ⟨v,r,rfl,h1,h2⟩:=h.cons_inv
  cases i with
  | zero=>simp at e;subst e;exact ⟨v,rfl,h1⟩
  | succ i=>
   obtain ⟨u,e1,h3⟩:=DatL.get (i:=i) h2 (by simpa using e)
   exact ⟨u,by simpa using e1,h3⟩
theorem DatL.get' {l:List D}{vs:List V} {i:Nat}{v:V} (h:DatL K F l vs) (e:vs[i]?=some v):∃ d,l[i]?=some d∧Dat K F d v:=by
 have hl:=h.length
 have hi:i < l.length:=by rw [← hl];exact (List.getElem?_eq_some_iff.mp e).1
 obtain ⟨u,e1,h1⟩:=h.get (List.getElem?_eq_getElem hi)
 rw [e] at e1;cases e1
 exact ⟨_,List.getElem?_eq_getElem hi,h1⟩
theorem DatL.append:∀ {l m:List D}{vs us:List V},DatL K F l vs→DatL K F m us→DatL K F (l++m) (vs++us)
 | [],_,_,_,h,k=>by rw [h.nil_inv];exact k
 | _::l,_,_,_,h,k=>by
  obtain ⟨v,r,rfl,h1,h2⟩:=h.cons_inv
  exact DatL.cons h1 (DatL.append h2 k)
theorem DatL.snoc {l:List D}{vs:List V} {d:D}{v:V} (h:DatL K F l vs) (k:Dat K F d v):DatL K F (l++[d]) (vs++[v]):=h.append (DatL.cons k DatL.nil)
theorem DatL.take:∀ {l:List D}{vs:List V} (n:Nat),DatL K F l vs→DatL K F (l.take n) (vs.take n)
 | _,_,0,_=>by simp;exact DatL.nil
 | [],_,n + 1,h=>by rw [h.nil_inv];simp;exact DatL.nil
 | _::l,_,n + 1,h=>by
  obtain ⟨v,r,rfl,h1,h2⟩:=h.cons_inv
  rw [List.take_succ_cons,List.take_succ_cons]
  exact DatL.cons h1 (DatL.take n h2)
theorem DatL.drop:∀ {l:List D}{vs:List V} (n:Nat),DatL K F l vs→DatL K F (l.drop n) (vs.drop n)
 | _,_,0,h=>by simpa using h
 | [],_,n + 1,h=>by rw [h.nil_inv];simp;exact DatL.nil
 | _::l,_,n + 1,h=>by
  obtain ⟨v,r,rfl,h1,h2⟩:=h.cons_inv
  rw [List.drop_succ_cons,List.drop_succ_cons]
  exact DatL.drop n h2
theorem DatL.ints:∀ {ns:List Int}{vs:List V},DatL K F (ns.map D.int) vs→vs=ns.map V.int
 | [],_,h=>h.nil_inv
 | n::ns,_,h=>by
  obtain ⟨v,r,rfl,h1,h2⟩:=h.cons_inv
  rw [h1.int_inv,DatL.ints h2];rfl
theorem DatL.ofInts:∀ (ns:List Int),DatL K F (ns.map D.int) (ns.map V.int)
 | []=>DatL.nil
 | n::ns=>DatL.cons (Dat.int n) (DatL.ofInts ns)
theorem DatL.strs:∀ {ns:List Str}{vs:List V},DatL K F (ns.map D.str) vs→vs=ns.map V.str
 | [],_,h=>h.nil_inv
 | n::ns,_,h=>by
  obtain ⟨v,r,rfl,h1,h2⟩:=h.cons_inv
  rw [h1.str_inv,DatL.strs h2];rfl
noncomputable def DatB (K:PySem.W.Frag) (F H:Hp):D→V→Prop
 | .lst l,v=>∃ a vs,v=.ref a∧H a=some (.lst vs)∧DatL K F l vs
 | .dic ks ds,v=>∃ a vs,v=.ref a∧DicB H a ks vs∧DatL K F ds vs
 | .set l,v=>∃ a,v=.ref a∧zcB H a l
 | d,v=>Dat K F d v
theorem Dat.b (s:Same F H) {d:D}{v:V} (h:Dat K F d v):DatB K F H d v:=by
 cases d with
 | lst l=>obtain ⟨a,vs,e,h1,h2⟩:=h.lst_inv;exact ⟨a,vs,e,s _ _ h1,h2⟩
 | dic ks l=>obtain ⟨a,vs,e,h1,h2⟩:=h.dic_inv;exact ⟨a,vs,e,.inr (h1.mono s),h2⟩
 | set l=>obtain ⟨a,e,h1⟩:=h.set_inv;exact ⟨a,e,h1.mono s⟩
 | _=>exact h
theorem DatB.mono (f:Same F F') (g:Same H H') {d:D}{v:V} (h:DatB K F H d v):DatB K F' H' d v:=by
 cases d with
 | lst l=>obtain ⟨a,vs,e,h1,h2⟩:=h;exact ⟨a,vs,e,g _ _ h1,h2.mono f⟩
 | dic ks l=>obtain ⟨a,vs,e,h1,h2⟩:=h;exact ⟨a,vs,e,h1.mono g,h2.mono f⟩
 | set l=>obtain ⟨a,e,h1⟩:=h;exact ⟨a,e,h1.mono g⟩
 | _=>exact Dat.mono f h
noncomputable def Own (K:PySem.W.Frag) (F H:Hp):D→Addr→Prop
 | .lst l,a=>∃ vs,H a=some (.lst vs)∧DatL K F l vs
 | .dic ks ds,a=>∃ vs,zdA H a ks vs∧DatL K F ds vs
 | .set l,a=>zcB H a l
 | _,_=>False
theorem Own.mono (f:Same F F') {d:D}{a:Addr} (g:∀ o,H a=some o→H' a=some o) (h:Own K F H d a):Own K F' H' d a:=by
 cases d with
 | lst l=>obtain ⟨vs,h1,h2⟩:=h;exact ⟨vs,g _ h1,h2.mono f⟩
 | dic ks l=>
  obtain ⟨vs,h1,h2⟩:=h
  obtain ⟨o,e⟩:=h1.some
  exact ⟨vs,h1.at (by rw [e];exact g _ e),h2.mono f⟩
 | set l=>
  have h:zcB H a l:=h
  obtain ⟨o,e⟩:=h.some
  exact h.at (by rw [e];exact g _ e)
 | _=>exact h.elim
theorem Own.some {d:D}{a:Addr} (h:Own K F H d a):∃ o,H a=some o:=by
 cases d with
 | lst l=>obtain ⟨vs,h1,h2⟩:=h;exact ⟨_,h1⟩
 | dic ks l=>obtain ⟨vs,h1,h2⟩:=h;exact h1.some
 | set l=>exact zcB.some (l:=l) h
 | _=>exact h.elim
theorem Own.b {d:D}{a:Addr} (h:Own K F H d a):DatB K F H d (.ref a):=by
 cases d with
 | lst l=>obtain ⟨vs,h1,h2⟩:=h;exact ⟨a,vs,rfl,h1,h2⟩
 | dic ks l=>obtain ⟨vs,h1,h2⟩:=h;exact ⟨a,vs,rfl,.inl h1,h2⟩
 | set l=>exact ⟨a,rfl,h⟩
 | _=>exact h.elim
noncomputable def frz1 (F H:Hp) (a:Addr):Hp:=fun b=>if b=a then H a else F b
theorem zcs {a:Addr}:frz1 F H a a=H a:=by unfold frz1;rw [if_pos rfl]
theorem zer {a b:Addr}(h:b≠a):frz1 F H a b=F b:=by unfold frz1;rw [if_neg h]
theorem zcJ {a:Addr}(h:F a=none):Same F (frz1 F H a):=fun b o e=>by
 rw [zer (zaa e h)];exact e
theorem zfm {a:Addr}(s:Same F H):Same (frz1 F H a) H:=fun b o e=>by
 by_cases hb:b=a
 ·subst hb;rw [zcs] at e;exact e
 ·rw [zer hb] at e;exact s _ _ e
noncomputable def zlA:Option HO→Bool
 | some (.dK _)=>true
 | some (.dT _)=>true
 | _=>false
noncomputable def zew (H:Hp) (a:Addr) (H2:Hp):Prop:=(H2=H∧zlA (H a)=false)∨∃ o u,H a=some u∧zlA (some u)=true∧H2=upd H a (.frz o u)
theorem zew.ne {H2:Hp}{a b:Addr} (f:zew H a H2) (h:b≠a):H2 b=H b:=by
 rcases f with ⟨rfl,_⟩ | ⟨o,u,_,_,rfl⟩
 ·rfl
 ·exact zaj h
theorem zew.same {H2:Hp}{a:Addr} (f:zew H a H2) (s:Same F H) (h:F a=none):Same F H2:=fun b o e=>by
 rw [f.ne (zaa e h)];exact s _ _ e
theorem Own.freeze {H2:Hp}{d:D} {a:Addr}(h:Own K F H d a) (hn:F a=none) (f:zew H a H2):Dat K (frz1 F H2 a) d (.ref a):=by
 have x:Same F (frz1 F H2 a):=zcJ hn
 cases d with
 | lst l=>
  obtain ⟨vs,h1,h2⟩:=h
  rcases f with ⟨rfl,_⟩ | ⟨o,u,e,z,_⟩
  ·exact Dat.lst (by rw [zcs];exact h1) (h2.mono x)
  ·rw [h1] at e;cases e;cases z
 | dic ks l=>
  obtain ⟨vs,h1,h2⟩:=h
  refine Dat.dic ?_ (h2.mono x)
  rcases h1 with ⟨kvs,h1,r⟩ | ⟨kvs,h1,r⟩
  ·rcases f with ⟨_,z⟩ | ⟨o,u,e,z,rfl⟩
   ·rw [h1] at z;cases z
   ·rw [h1] at e;cases e
    exact ⟨o,.inl ⟨kvs,by rw [zcs];exact zag,r⟩⟩
  ·rcases f with ⟨_,z⟩ | ⟨o,u,e,z,rfl⟩
   ·rw [h1] at z;cases z
   ·rw [h1] at e;cases e
    exact ⟨o,.inr ⟨kvs,by rw [zcs];exact zag,r⟩⟩
 | set l=>
  have h:zcB H a l:=h
  obtain ⟨L,h1,e0⟩:=h
  rcases f with ⟨rfl,_⟩ | ⟨o,u,e,z,_⟩
  ·simp only [Dat]
   exact ⟨a,rfl,L,by rw [zcs];exact h1,e0⟩
  ·rw [h1] at e;cases e;cases z
 | _=>exact h.elim
theorem DatB.frz {H2:Hp}{a:Addr} {d:D}{v:V} (h:DatB K F H d v) (x:Same F F') (f:zew H a H2) (hv:v≠.ref a):DatB K F' H2 d v:=by
 cases d with
 | lst l=>obtain ⟨b,vs,e,h1,h2⟩:=h;exact ⟨b,vs,e,by rw [f.ne (fun z=>hv (by rw [e,z]))];exact h1,h2.mono x⟩
 | dic ks l=>obtain ⟨b,vs,e,h1,h2⟩:=h;exact ⟨b,vs,e,h1.at (f.ne (fun z=>hv (by rw [e,z]))),h2.mono x⟩
 | set l=>obtain ⟨b,e,h1⟩:=h;exact ⟨b,e,h1.at (f.ne (fun z=>hv (by rw [e,z])))⟩
 | _=>exact Dat.mono x h
theorem Own.fl {l:List D}{a:Addr} (h:Own K F H (.lst l) a):zew H a H:=by
 obtain ⟨vs,h1,_⟩:=h
 exact .inl ⟨rfl,by rw [h1];rfl⟩
end
inductive Sl where
 | dat (d:D) | ow (p:Bool) (d:D) | bor (d:D)
noncomputable abbrev Sl.own (d:D):Sl:=.ow false d
noncomputable abbrev Sl.inn (d:D):Sl:=.ow true d
noncomputable def Sl.isDat:Sl→Bool
 | .dat _=>true
 | _=>false
noncomputable abbrev St:=L2.St
noncomputable abbrev En:=List (Option Sl)
noncomputable def zdi (ρ:En) (σ:St) (b:Addr):Prop:=∃ (i:Nat) (p:Bool) (d:D),ρ[i]?=some (some (.ow p d))∧σ[i]?=some (some (.ref b))
structure Rel (K:PySem.W.Frag) (F H:Hp) (ρ:En) (σ:St):Prop where
 sub:Same F H
 dat:∀ (i:Nat) (d:D),ρ[i]?=some (some (.dat d))→∃ v,σ[i]?=some (some v)∧Dat K F d v
 bor:∀ (i:Nat) (d:D),ρ[i]?=some (some (.bor d))→∃ v,σ[i]?=some (some v)∧DatB K F H d v
 own:∀ (i:Nat) (p:Bool) (d:D),ρ[i]?=some (some (.ow p d))→∃ a,σ[i]?=some (some (.ref a))∧F a=none∧Own K F H d a
 inj:∀ (i j:Nat) (p:Bool) (d:D) (s:Sl) (a:Addr),i≠j→ρ[i]?=some (some (.ow p d))→σ[i]?=some (some (.ref a))→ρ[j]?=some (some s)→s.isDat=false→σ[j]?≠some (some (.ref a))
 len:ρ.length=σ.length
structure Grow (F H F' H':Hp):Prop where
 ff:Same F F'
 hh:Same H H'
 fh:Same F' H'
 nw:∀ b o,H b=some o→F b=none→F' b=none
section
variable {K:PySem.W.Frag}{F F' F2 H H' H2:Hp} {ρ ρ' ρ2:En}{σ σ' σ2:St}
theorem Grow.refl (s:Same F H):Grow F H F H:=⟨Same.refl _,Same.refl _,s,fun _ _ _ n=>n⟩
theorem Grow.trans (a:Grow F H F' H') (b:Grow F' H' F2 H2):Grow F H F2 H2:=
 ⟨a.ff.trans b.ff,a.hh.trans b.hh,b.fh,fun c o e n=>b.nw c o (a.hh _ _ e) (a.nw c o e n)⟩
theorem zbR {p:Addr}(h:H p=none) (o:HO):Same H (upd H p o):=fun b u q=>by rw [zaj (zaa q h)];exact q
theorem Grow.frozen {p:Addr}{o:HO} (s:Same F H) (h:H p=none):Grow F H (upd F p o) (upd H p o):=by
 refine ⟨zbR (s.free h) o,zbR h o,fun b u e=>?_,fun b u e n=>?_⟩
 ·by_cases hb:b=p
  ·subst hb;rw [zag] at e ⊢;exact e
  ·rw [zaj hb] at e ⊢;exact s _ _ e
 ·have hb:b≠p:=zaa e h
  rw [zaj hb];exact n
theorem Grow.fresh {p:Addr}{o:HO} (s:Same F H) (h:H p=none):Grow F H F (upd H p o):=
 ⟨Same.refl _,zbR h o,s.trans (zbR h o),fun b u e n=>n⟩
theorem Grow.freeze {a:Addr}{H3:Hp} (g:Grow F H F' H') (h:H a=none) (hn:F' a=none) (f:zew H' a H3):Grow F H (frz1 F' H3 a) H3:=by
 refine ⟨g.ff.trans (zcJ hn),fun b o e=>?_,zfm (f.same g.fh hn),fun b o e n=>?_⟩
 ·rw [f.ne (zaa e h)];exact g.hh _ _ e
 ·have hb:b≠a:=zaa e h
  rw [zer hb];exact g.nw b o e n
theorem Rel.grow (r:Rel K F H ρ σ) (g:Grow F H F' H'):Rel K F' H' ρ σ where
 sub:=g.fh
 dat:=fun i d e=>let ⟨v,h1,h2⟩:=r.dat i d e;⟨v,h1,h2.mono g.ff⟩
 bor:=fun i d e=>let ⟨v,h1,h2⟩:=r.bor i d e;⟨v,h1,h2.mono g.ff g.hh⟩
 own:=fun i p d e=>by
  obtain ⟨a,h1,h2,h3⟩:=r.own i p d e
  obtain ⟨o,ho⟩:=h3.some
  exact ⟨a,h1,g.nw a o ho h2,h3.mono g.ff fun o e=>g.hh _ _ e⟩
 inj:=r.inj
 len:=r.len
structure Step (ρ:En) (σ:St) (F H:Hp) (ρ':En) (σ':St) (F' H':Hp):Prop where
 ff:Same F F'
 rest:∀ b o,H b=some o→F b=none→¬ zdi ρ σ b→H' b=some o∧F' b=none
 own:∀ b,zdi ρ' σ' b→H b=none∨zdi ρ σ b
 pin:∀ (i:Nat) (d':D),ρ'[i]?=some (some (.ow true d'))→∃ d,ρ[i]?=some (some (.ow true d))∧σ'[i]?=σ[i]?
 fh:Same F' H'
theorem Grow.step (g:Grow F H F' H'):Step ρ σ F H ρ σ F' H':=⟨g.ff,fun b o e n _=>⟨g.hh _ _ e,g.nw b o e n⟩,fun _ h=>.inr h,fun _ d e=>⟨d,e,rfl⟩,g.fh⟩
theorem Step.back (a:Step ρ σ F H ρ' σ' F' H') (s:Same F H) {b:Addr}(h:H' b=none∨zdi ρ' σ' b):H b=none∨zdi ρ σ b:=by
 rcases h with h | h
 ·cases e:H b with
  | none=>exact .inl rfl
  | some o=>
   cases f:F b with
   | some u=>have:=a.fh _ _ (a.ff _ _ f);rw [h] at this;cases this
   | none=>
    by_cases q:zdi ρ σ b
    ·exact .inr q
    ·have:=(a.rest b o e f q).1;rw [h] at this;cases this
 ·exact a.own b h
theorem Step.trans (a:Step ρ σ F H ρ' σ' F' H') (b:Step ρ' σ' F' H' ρ2 σ2 F2 H2) (s:Same F H):Step ρ σ F H ρ2 σ2 F2 H2:=by
 refine ⟨a.ff.trans b.ff,fun c o e n q=>?_,fun c h=>a.back s (b.own c h),fun i d e=>?_,b.fh⟩
 rotate_left
 ·obtain ⟨d1,e1,e2⟩:=b.pin i d e
  obtain ⟨d2,e3,e4⟩:=a.pin i d1 e1
  exact ⟨d2,e3,e2.trans e4⟩
 obtain ⟨h1,h2⟩:=a.rest c o e n q
 refine b.rest c o h1 h2 fun z=>?_
 rcases a.own c z with y | y
 ·rw [e] at y;cases y
 ·exact q y
end
inductive Md where
 | fz | ow | br
noncomputable def Res (K:PySem.W.Frag) (md:Md) (H F' H':Hp) (d:D) (v:V):Prop:=match md with
 | .fz=>Dat K F' d v
 | .ow=>∃ a,v=.ref a∧H a=none∧F' a=none∧Own K F' H' d a
 | .br=>DatB K F' H' d v
noncomputable def rdE (K:PySem.W.Frag) (md:Md) (ρ:En) (d:D):TE:=fun σ H Q=>∃ F,Rel K F H ρ σ∧∀ v F' H',Grow F H F' H'→Res K md H F' H' d v→Q v H'
structure FP (K:PySem.W.Frag) (md:Md) (X:Cx) (e:Expr) (f:En→Option D):Prop where
 h:∀ ρ d,f ρ=some d→PE X e (rdE K md ρ d)
theorem PE.imp {X:Cx}{e:Expr} {t t':TE}(h:PE X e t) (w:∀ σ H Q,t' σ H Q→t σ H Q):PE X e t':=fun pins s σ H Q I ht=>h pins s σ H Q I (w σ H Q ht)
theorem PT.imp {X:Cx}{e:Expr} {t t':TT}(h:PT X e t) (w:∀ σ H Q,t' σ H Q→t σ H Q):PT X e t':=fun pins s σ H Q I ht=>h pins s σ H Q I (w σ H Q ht)
theorem PW.imp {X:Cx}{e:Expr} {t t':TT}(h:PW X e t) (w:∀ σ H Q,t' σ H Q→t σ H Q):PW X e t':=fun wh pins s σ H Q I ht=>h wh pins s σ H Q I (w σ H Q ht)
theorem PA.imp {X:Cx}{e:List Expr} {t t':TA}(h:PA X e t) (w:∀ σ H Q,t' σ H Q→t σ H Q):PA X e t':=fun pos pins s σ H Q I ht=>h pos pins s σ H Q I (w σ H Q ht)
theorem PS.imp {X:Cx}{e:Stmt} {t t':TS}(h:PS X e t) (w:∀ D σ H,t' D σ H→t D σ H):PS X e t':=fun pins s σ H D I ht=>h pins s σ H D I (w D σ H ht)
theorem PSs.imp {X:Cx}{e:List Stmt} {t t':TS}(h:PSs X e t) (w:∀ D σ H,t' D σ H→t D σ H):PSs X e t':=fun pins s σ H D I ht=>h pins s σ H D I (w D σ H ht)
section
variable {K:PySem.W.Frag}{X:Cx} {e:Expr}{f:En→Option D}
theorem Res.fz_of_ow {H F' H' H3:Hp}{d:D} {v:V}{F:Hp} {a:Addr}(g:Grow F H F' H') (h:Res K .ow H F' H' d v) (e:v=.ref a) (f:zew H' a H3):∃ F2,Grow F H F2 H3∧Dat K F2 d v:=by
 subst e
 obtain ⟨b,e,h1,h2,h3⟩:=h
 cases e
 exact ⟨_,g.freeze h1 h2 f,h3.freeze h2 f⟩
theorem Res.ow_ref {H F' H':Hp}{d:D} {v:V}(h:Res K .ow H F' H' d v):∃ a,v=.ref a:=let ⟨a,e,_⟩:=h;⟨a,e⟩
theorem Inv.frzTo {pins:List (Addr×Obj)}{σ:St} {H:Hp}{s:Shared} (I:Inv X pins σ H s) (a:Addr):∃ H2,zew H a H2∧Inv X pins σ H2 s:=by
 cases h:zlA (H a) with
 | false=>exact ⟨H,.inl ⟨rfl,h⟩,I⟩
 | true=>
  cases e:H a with
  | none=>rw [e] at h;cases h
  | some u=>
   rw [e] at h
   have ok:=I.hok a u e
   have mu:Mut (H a):=by
    rw [e]
    cases u<;>first | exact True.intro | cases h
   obtain ⟨o,ho⟩:∃ o,s.heap.get? a=some o:=by
    cases u<;>first
     | cases h;done
     | (obtain ⟨_,_,_,_,o,_,_,q,_⟩:=ok;exact ⟨o,q⟩)
   refine ⟨_,.inr ⟨o,u,e,h,rfl⟩,?_⟩
   have:=I.write (o:=.frz o u) (t':=s.toks) (h':=s.heap) mu (.inl rfl) (fun b u _ q=>q) ⟨o,ho⟩ ⟨ho,ok.stay (fun b u _ q=>q) (fun b q=>?_) fun b xs q=>?_⟩
   ·exact this
   ·rw [zaj (fun z=>by subst z;rw [e] at q;cases q;cases h)];exact q
   ·rw [zaj (fun z=>by subst z;rw [e] at q;cases q;cases h)];exact q
theorem zky {t:TE}(h:PE X e t):PE X e (fun σ H Q=>t σ H fun v H'=>∃ a,v=.ref a∧∀ H2,zew H' a H2→Q v H2):=fun pins s σ H Q I ht=>
 thn (h pins s σ H _ I ht) fun v s1 ⟨x,H1,I1,r1,a,ea,q⟩=>by
  obtain ⟨H2,f,I2⟩:=Inv.frzTo I1 a
  exact ⟨x,H2,I2,r1,q H2 f⟩
theorem FP.fz (h:FP K .ow X e f):FP K .fz X e f:=FP.mk fun ρ d hf=>PE.imp (zky (h.h ρ d hf)) fun σ H Q ⟨F,r,q⟩=>⟨F,r,fun v F' H' g hr=>by
 obtain ⟨a,ea⟩:=hr.ow_ref
 refine ⟨a,ea,fun H2 fz=>?_⟩
 obtain ⟨F2,g2,h2⟩:=Res.fz_of_ow g hr ea fz
 exact q v F2 H2 g2 h2⟩
theorem FP.br (h:FP K .fz X e f):FP K .br X e f:=FP.mk fun ρ d hf=>PE.imp (h.h ρ d hf) fun σ H Q ⟨F,r,q⟩=>⟨F,r,fun v F' H' g hr=>q v F' H' g (Dat.b g.fh hr)⟩
theorem FP.ob (h:FP K .ow X e f):FP K .br X e f:=h.fz.br
end
noncomputable def gv (i:Nat) (ρ:En):Option D:=match ρ[i]? with
 | some (some (.dat d))=>some d
 | _=>none
noncomputable def gb (i:Nat) (ρ:En):Option D:=match ρ[i]? with
 | some (some (.dat d))=>some d
 | some (some (.ow _ d))=>some d
 | some (some (.bor d))=>some d
 | _=>none
theorem zlC {i:Nat}{ρ:En} {d:D}(h:gv i ρ=some d):ρ[i]?=some (some (.dat d)):=by
 unfold gv at h
 split at h<;>first | (cases h;assumption) | cases h
theorem zlD {K:PySem.W.Frag}{F H:Hp} {i:Nat}{ρ:En} {σ:St}{d:D} (r:Rel K F H ρ σ) (h:gb i ρ=some d):∃ v,σ[i]?=some (some v)∧DatB K F H d v:=by
 unfold gb at h
 split at h
 ·rename_i e;cases h
  obtain ⟨v,h1,h2⟩:=r.dat i _ e
  exact ⟨v,h1,h2.b r.sub⟩
 ·rename_i e;cases h
  obtain ⟨a,h1,h2,h3⟩:=r.own i _ _ e
  exact ⟨_,h1,h3.b⟩
 ·rename_i e;cases h
  exact r.bor i _ e
 ·cases h
noncomputable def cst (d:D):En→Option D:=fun _=>some d
section
variable {K:PySem.W.Frag}{X:Cx}
theorem fv (i:Nat) {x:Str}{pos:Pos} (hN:X.N[i]?=some x:=by rfl) (hv:Vis X.env.scope x:=by first | exact Or.inl rfl | exact Or.inr (Or.inl rfl) | exact Or.inr (Or.inr rfl)) (hd:(x == ("__debug__" : Str))=false:=by decide)
  (hcd:(x == ("__classdict__" : Str))=false:=by decide):FP K .fz X (.Name x pos) (gv i):=FP.mk fun ρ d hf=>
 PE.imp (zaS hN hv hd hcd) fun σ H Q ⟨F,r,q⟩=>by
  obtain ⟨v,h1,h2⟩:=r.dat i d (zlC hf)
  exact ⟨v,h1,q v F H (Grow.refl r.sub) h2⟩
theorem fb (i:Nat) {x:Str}{pos:Pos} (hN:X.N[i]?=some x:=by rfl) (hv:Vis X.env.scope x:=by first | exact Or.inl rfl | exact Or.inr (Or.inl rfl) | exact Or.inr (Or.inr rfl)) (hd:(x == ("__debug__" : Str))=false:=by decide)
  (hcd:(x == ("__classdict__" : Str))=false:=by decide):FP K .br X (.Name x pos) (gb i):=FP.mk fun ρ d hf=>
 PE.imp (zaS hN hv hd hcd) fun σ H Q ⟨F,r,q⟩=>by
  obtain ⟨v,h1,h2⟩:=zlD r hf
  exact ⟨v,h1,q v F H (Grow.refl r.sub) h2⟩
theorem fint {i j pos}:FP K .fz X (.Constant (.int i) j pos) (cst (.int i)):=FP.mk fun ρ d hf=>PE.imp zmz fun σ H Q ⟨F,r,q⟩=>by
 cases hf;exact q (.int i) F H (Grow.refl r.sub) (Dat.int (K:=K) (F:=F) i)
theorem fbl {i j pos}:FP K .fz X (.Constant (.bool i) j pos) (cst (.bl i)):=FP.mk fun ρ d hf=>PE.imp pe_bl fun σ H Q ⟨F,r,q⟩=>by
 cases hf;exact q (.bl i) F H (Grow.refl r.sub) (Dat.bl (K:=K) (F:=F) i)
theorem fnon {j pos}:FP K .fz X (.Constant .none j pos) (cst .non):=FP.mk fun ρ d hf=>PE.imp zmx fun σ H Q ⟨F,r,q⟩=>by
 cases hf;exact q .non F H (Grow.refl r.sub) (Dat.non (K:=K) (F:=F))
theorem fstr {i j pos}:FP K .fz X (.Constant (.str i) j pos) (cst (.str i)):=FP.mk fun ρ d hf=>PE.imp zdE fun σ H Q ⟨F,r,q⟩=>by
 cases hf;exact q (.str i) F H (Grow.refl r.sub) (Dat.str (K:=K) (F:=F) i)
end
noncomputable def Op2 (K:PySem.W.Frag) (X:Cx) (f:Value→Value→Sem Value) (md:Md) (p:D→D→Option D):Prop:=
 ∃ r:R2,OpR X f r∧∀ x y d F H v u Q,p x y=some d→Same F H→DatB K F H x v→DatB K F H y u→(∀ w F' H',Grow F H F' H'→Res K md H F' H' d w→Q w H')→r v u H Q
noncomputable def Ix2 (K:PySem.W.Frag) (X:Cx) (md:Md) (p:D→D→Option D):Prop:=
 ∃ r:R2,IxR X r∧∀ x y d F H v u Q,p x y=some d→Same F H→DatB K F H x v→DatB K F H y u→(∀ w F' H',Grow F H F' H'→Res K md H F' H' d w→Q w H')→r v u H Q
noncomputable def c2 (p:D→D→Option D) (fa fb:En→Option D):En→Option D:=fun ρ=>(fa ρ).bind fun x=>(fb ρ).bind fun y=>p x y
noncomputable def c1 (p:D→Option D) (fa:En→Option D):En→Option D:=fun ρ=>(fa ρ).bind p
theorem zdh {p:D→D→Option D}{fa fb:En→Option D} {ρ:En}{d:D} (h:c2 p fa fb ρ=some d):∃ x y,fa ρ=some x∧fb ρ=some y∧p x y=some d:=by
 unfold c2 at h
 cases e1:fa ρ with
 | none=>rw [e1] at h;cases h
 | some x=>
  cases e2:fb ρ with
  | none=>rw [e1,e2] at h;cases h
  | some y=>rw [e1,e2] at h;exact ⟨x,y,rfl,rfl,h⟩
theorem zdz {p:D→Option D}{fa:En→Option D} {ρ:En}{d:D} (h:c1 p fa ρ=some d):∃ x,fa ρ=some x∧p x=some d:=by
 unfold c1 at h
 cases e1:fa ρ with
 | none=>rw [e1] at h;cases h
 | some x=>rw [e1] at h;exact ⟨x,rfl,h⟩
section
variable {K:PySem.W.Frag}{X:Cx} {a b:Expr}{fa fb:En→Option D} {pos:Pos}{md:Md} {p:D→D→Option D}
theorem two {ta tb:TE}{ρ:En} {x y d:D}{r:R2} (ha:PE X a (rdE K .br ρ x)) (hb:PE X b (rdE K .br ρ y))
  (hr:∀ F H v u Q,Same F H→DatB K F H x v→DatB K F H y u→(∀ w F' H',Grow F H F' H'→Res K md H F' H' d w→Q w H')→r v u H Q)
  (σ:St) (H:Hp) (Q:VK) (h:rdE K md ρ d σ H Q):tOp r (rdE K .br ρ x) (rdE K .br ρ y) σ H Q:=by
 obtain ⟨F,rl,q⟩:=h
 refine ⟨F,rl,fun v F1 H1 g1 r1=>⟨F1,rl.grow g1,fun u F2 H2 g2 r2=>?_⟩⟩
 refine hr F2 H2 v u Q g2.fh (DatB.mono g2.ff g2.hh r1) r2 fun w F3 H3 g3 r3=>?_
 have g:=g1.trans (g2.trans g3)
 refine q w F3 H3 g ?_
 cases md with
 | fz=>exact r3
 | br=>exact r3
 | ow=>
  obtain ⟨a,e,h1,h2,h3⟩:=r3
  exact ⟨a,e,(g1.hh.trans g2.hh).free h1,h2,h3⟩
theorem fop {op:Operator}(o:Op2 K X (binaryOp op) md p) (ha:FP K .br X a fa) (hb:FP K .br X b fb):FP K md X (.BinOp a op b pos) (c2 p fa fb):=FP.mk fun ρ d hf=>by
 obtain ⟨x,y,e1,e2,e3⟩:=zdh hf
 obtain ⟨r,ho,hr⟩:=o
 exact PE.imp (pe_op ho (ha.h ρ x e1) (hb.h ρ y e2)) (two (ta:=fun _ _ _=>True) (tb:=fun _ _ _=>True) (ha.h ρ x e1) (hb.h ρ y e2) fun F H v u Q s h1 h2 k=>hr x y d F H v u Q e3 s h1 h2 k)
theorem fcmp {op:CmpOp}(o:Op2 K X (compareOp op) md p) (ha:FP K .br X a fa) (hb:FP K .br X b fb) (hm:behindInMarks op b=false):FP K md X (.Compare a [op] [b] pos) (c2 p fa fb):=FP.mk fun ρ d hf=>by
 obtain ⟨x,y,e1,e2,e3⟩:=zdh hf
 obtain ⟨r,ho,hr⟩:=o
 exact PE.imp (zlk ho (ha.h ρ x e1) (hb.h ρ y e2) hm) (two (ta:=fun _ _ _=>True) (tb:=fun _ _ _=>True) (ha.h ρ x e1) (hb.h ρ y e2) fun F H v u Q s h1 h2 k=>hr x y d F H v u Q e3 s h1 h2 k)
theorem fix (o:Ix2 K X md p) (ha:FP K .br X a fa) (hb:FP K .br X b fb) (hs:zji b):FP K md X (.Subscript a b pos) (c2 p fa fb):=FP.mk fun ρ d hf=>by
 obtain ⟨x,y,e1,e2,e3⟩:=zdh hf
 obtain ⟨r,ho,hr⟩:=o
 exact PE.imp (pe_ix ho (ha.h ρ x e1) (hb.h ρ y e2) hs) (two (ta:=fun _ _ _=>True) (tb:=fun _ _ _=>True) (ha.h ρ x e1) (hb.h ρ y e2) fun F H v u Q s h1 h2 k=>hr x y d F H v u Q e3 s h1 h2 k)
end
end FL
set_option Elab.async false
set_option linter.all false
set_option maxRecDepth 100000
namespace FL
open PySem PySem.Spec PyProof.Rows L2
mutual
noncomputable def eqD : D → D → Option Bool
 | .non, y => match y with
  | .non => some true
  | .bl _ => some false
  | .int _ => some false
  | .str _ => some false
  | .tup _ => some false
  | .lst _ => some false
  | _ => none
 | .bl a, y => match y with
  | .bl b => some (a == b)
  | .non => some false
  | _ => none
 | .int a, y => match y with
  | .int b => some (a == b)
  | .non => some false
  | .str _ => some false
  | .tup _ => some false
  | _ => none
 | .str a, y => match y with
  | .str b => some (a == b)
  | .non => some false
  | .int _ => some false
  | .tup _ => some false
  | .lst _ => some false
  | _ => none
 | .tup l, y => match y with
  | .tup m => eqL l m
  | .non => some false
  | .int _ => some false
  | .str _ => some false
  | .lst _ => some false
  | _ => none
 | .lst l, y => match y with
  | .lst m => eqL l m
  | .non => some false
  | .str _ => some false
  | .tup _ => some false
  | _ => none
 | .scr _, _ => none
 | .dic _ _, _ => none
 | .set _, _ => none
 | .exc _ _, _ => none
noncomputable def eqL:List D→List D→Option Bool
 | [],[]=>some true
 | a::l,b::m=>(eqD a b).bind fun x=>(eqL l m).map fun y=>x && y
 | [],_::_=>some false
 | _::_,[]=>some false
end
mutual
noncomputable def dep:D→Nat
 | .tup l=>depL l + 1
 | .lst l=>depL l + 1
 | _=>1
noncomputable def depL:List D→Nat
 | []=>0
 | a::l=>max (dep a) (depL l)
end
theorem zdg:∀ {l:List D}{d:D},d∈l→dep d≤depL l
 | _::_,_,h=>by
  rcases List.mem_cons.mp h with rfl | h
  ·rw [depL];exact Nat.le_max_left _ _
  ·rw [depL];exact Nat.le_trans (zdg h) (Nat.le_max_right _ _)
noncomputable def eAt (l m:List D) (j:Nat):Bool:=match l[j]?,m[j]? with
 | some a,some b=>(eqD a b).getD false
 | _,_=>false
theorem zcb:∀ {l m:List D}{b:Bool},eqL l m=some b→
  (∀ (j:Nat) (x y:D),l[j]?=some x→m[j]?=some y→eqD x y=some (eAt l m j))∧b=((List.range (min l.length m.length)).all (eAt l m) && l.length == m.length)
 | [],[],b,h=>by simp [eqL] at h;subst h;simp
 | [],_::_,b,h=>by simp [eqL] at h;subst h;simp
 | _::_,[],b,h=>by simp [eqL] at h;subst h;simp
 | a::l,c::m,b,h=>by
  simp only [eqL] at h
  cases e1:eqD a c with
  | none=>rw [e1] at h;cases h
  | some x=>
   cases e2:eqL l m with
   | none=>rw [e1,e2] at h;cases h
   | some y=>
    rw [e1,e2] at h
    have hb:(x && y)=b:=by simpa using h
    obtain ⟨h1,h2⟩:=zcb e2
    have s0:eAt (a::l) (c::m) 0=x:=by simp [eAt,e1]
    have sS:∀ j,eAt (a::l) (c::m) (j + 1)=eAt l m j:=fun j=>by simp [eAt]
    refine ⟨fun j p q hp hq=>?_,?_⟩
    ·cases j with
     | zero=>simp at hp hq;subst hp hq;rw [s0];exact e1
     | succ j=>rw [sS];exact h1 j p q (by simpa using hp) (by simpa using hq)
    ·rw [← hb,h2]
     simp only [List.length_cons]
     rw [Nat.succ_min_succ,List.range_succ_eq_map,List.all_cons,List.all_map,s0]
     have e3:(List.range (min l.length m.length)).all (eAt (a::l) (c::m) ∘ Nat.succ)=(List.range (min l.length m.length)).all (eAt l m):=by
      congr 1
     rw [e3,Bool.and_assoc]
     congr 2
     simp
section
variable {K:PySem.W.Frag}{F:Hp}
noncomputable def comp:D→Bool
 | .tup _=>true
 | .lst _=>true
 | .scr _=>true
 | .dic _ _=>true
 | .set _=>true
 | _=>false
theorem Dat.ref {d:D}{v:V} (h:Dat K F d v) (hc:comp d=true):∃ a,v=.ref a:=by
 cases d with
 | tup l=>obtain ⟨a,_,e,_⟩:=h.tup_inv;exact ⟨a,e⟩
 | lst l=>obtain ⟨a,_,e,_⟩:=h.lst_inv;exact ⟨a,e⟩
 | scr l=>obtain ⟨a,e,_⟩:=h.scr_inv;exact ⟨a,e⟩
 | dic k l=>obtain ⟨a,_,e,_⟩:=h.dic_inv;exact ⟨a,e⟩
 | set l=>obtain ⟨a,e,_⟩:=h.set_inv;exact ⟨a,e⟩
 | _=>cases hc
end
section
variable {X:Cx}{pins:List (Addr×Obj)} {σ:St}{H F:Hp} {s:Shared}{K:PySem.W.Frag}
theorem zfG {d1 d2:D}{b:Bool} {v:V}(h1:Dat K F d1 v) (h2:Dat K F d2 v) (e:eqD d1 d2=some b):b=true:=by
 have key:∀ (n:Nat) (d1 d2:D) (b:Bool) (v:V),dep d1≤n→Dat K F d1 v→Dat K F d2 v→eqD d1 d2=some b→b=true:=by
  intro n
  induction n with
  | zero=>intro d1 d2 b v h;cases d1<;>simp [dep] at h
  | succ n ih=>
   have L:∀ (l1 l2:List D) (b:Bool) (vs:List V),depL l1≤n→DatL K F l1 vs→DatL K F l2 vs→eqL l1 l2=some b→b=true:=by
    intro l1
    induction l1 with
    | nil=>
     intro l2 b vs _ h1 h2 e
     rw [h1.nil_inv] at h2
     cases l2 with
     | nil=>simp [eqL] at e;exact e
     | cons _ _=>obtain ⟨_,_,z,_⟩:=h2.cons_inv;cases z
    | cons a l1 ih2=>
     intro l2 b vs hn h1 h2 e
     obtain ⟨v,r,rfl,q1,q2⟩:=h1.cons_inv
     cases l2 with
     | nil=>have:=h2.nil_inv;cases this
     | cons c l2=>
      obtain ⟨v',r',ee,p1,p2⟩:=h2.cons_inv
      cases ee
      simp only [eqL] at e
      simp only [depL] at hn
      cases f1:eqD a c with
      | none=>rw [f1] at e;cases e
      | some y1=>
       cases g1:eqL l1 l2 with
       | none=>rw [f1,g1] at e;cases e
       | some z1=>
        rw [f1,g1] at e
        have e':(y1 && z1)=b:=by simpa using e
        rw [← e',ih a c y1 v (by omega) q1 p1 f1,ih2 l2 z1 r (by omega) q2 p2 g1];rfl
   intro d1 d2 b v hn h1 h2 e
   cases d1 with
   | tup l1=>
    obtain ⟨a,vs,rfl,f1,q1⟩:=h1.tup_inv
    cases d2 with
    | tup l2=>
     obtain ⟨a',vs',z,f2,q2⟩:=h2.tup_inv
     cases z
     rw [f1] at f2;cases f2
     simp only [dep] at hn
     simp only [eqD] at e
     exact L l1 l2 b vs (by omega) q1 q2 e
    | lst l2=>obtain ⟨a',vs',z,f2,q2⟩:=h2.lst_inv;cases z;rw [f1] at f2;cases f2
    | non=>have:=h2.non_inv;cases this
    | int _=>have:=h2.int_inv;cases this
    | str _=>have:=h2.str_inv;cases this
    | _=>simp [eqD] at e
   | lst l1=>
    obtain ⟨a,vs,rfl,f1,q1⟩:=h1.lst_inv
    cases d2 with
    | lst l2=>
     obtain ⟨a',vs',z,f2,q2⟩:=h2.lst_inv
     cases z
     rw [f1] at f2;cases f2
     simp only [dep] at hn
     simp only [eqD] at e
     exact L l1 l2 b vs (by omega) q1 q2 e
    | tup l2=>obtain ⟨a',vs',z,f2,q2⟩:=h2.tup_inv;cases z;rw [f1] at f2;cases f2
    | non=>have:=h2.non_inv;cases this
    | int _=>have:=h2.int_inv;cases this
    | str _=>have:=h2.str_inv;cases this
    | _=>simp [eqD] at e
   | non=>
    have z:=h1.non_inv
    subst z
    cases d2<;>first | (obtain ⟨_,_,_,_,z,_⟩:=Dat.exc_inv h2;cases z;done) | (simp [eqD] at e;exact e) | (obtain ⟨_,z⟩:=Dat.ref h2 rfl;cases z;done) | (simp only [Dat] at h2;cases h2;done)
   | bl x=>
    have z:=h1.bl_inv
    subst z
    cases d2 with
    | bl y=>have z:=h2.bl_inv;cases z;simp [eqD] at e;exact e
    | non=>have z:=h2.non_inv;cases z
    | _=>simp [eqD] at e
   | int x=>
    have z:=h1.int_inv
    subst z
    cases d2 with
    | int y=>have z:=h2.int_inv;cases z;simp [eqD] at e;exact e
    | non=>have z:=h2.non_inv;cases z
    | str _=>have z:=h2.str_inv;cases z
    | tup _=>obtain ⟨_,z⟩:=Dat.ref h2 rfl;cases z
    | _=>simp [eqD] at e
   | str x=>
    have z:=h1.str_inv
    subst z
    cases d2 with
    | str y=>have z:=h2.str_inv;cases z;simp [eqD] at e;exact e
    | non=>have z:=h2.non_inv;cases z
    | int _=>have z:=h2.int_inv;cases z
    | tup _=>obtain ⟨_,z⟩:=Dat.ref h2 rfl;cases z
    | lst _=>obtain ⟨_,z⟩:=Dat.ref h2 rfl;cases z
    | _=>simp [eqD] at e
   | _=>simp [eqD] at e
 exact key _ d1 d2 b v (Nat.le_refl _) h1 h2 e
theorem Inv.tupAt (I:Inv X pins σ H s) {a:Addr}{vs:List V} (h:H a=some (.tup vs)):∃ its:List Value,Vals vs its∧s.heap.IsTuple a its.toArray:=by
 obtain ⟨its,r,p,_⟩:=I.tuple (SqT.of h)
 exact ⟨its,r,p⟩
theorem Inv.lstAt (I:Inv X pins σ H s) {a:Addr}{vs:List V} (h:H a=some (.lst vs)):∃ its:List Value,Vals vs its∧s.heap.IsList a its.toArray:=by
 obtain ⟨its,r,p,_⟩:=I.list (SqL.of h)
 exact ⟨its,r,p.isList⟩
theorem zbo {l:List D}{vs:List V} {its:List Value}(h:DatL K F l vs) (r:Vals vs its) {j:Nat}(hj:j < its.toArray.size):∃ d v,l[j]?=some d∧vs[j]?=some v∧Dat K F d v∧RelV v its.toArray[j]:=by
 have hl:=r.length
 have hj':j < vs.length:=by rw [hl];simpa using hj
 obtain ⟨u,hu,ru⟩:=r.get (List.getElem?_eq_getElem hj')
 obtain ⟨d,hd,hD⟩:=h.get' (List.getElem?_eq_getElem hj')
 refine ⟨d,vs[j],hd,List.getElem?_eq_getElem hj',hD,?_⟩
 have e:its.toArray[j]=u:=by
  have:its[j]?=some u:=hu
  rw [List.getElem?_eq_getElem (by simpa using hj)] at this
  simpa using Option.some.inj this
 rw [e];exact ru
theorem zeq (A:Around):A.in1.units≤A.units + 1:=by
 have:=(Room.in1 (k:=0) (A:=A));exact Nat.le_refl _
theorem zhd (I:Inv X pins σ H s) (sub:Same F H):∀ (n:Nat) (d1 d2:D) (b:Bool) (v1 v2:V) (u1 u2:Value) (A:Around),dep d1≤n→eqD d1 d2=some b→Dat K F d1 v1→Dat K F d2 v2→RelV v1 u1→RelV v2 u2→A.units + n < cLine→SeqAt.EqAt A s u1 u2 b:=by
 intro n
 induction n with
 | zero=>intro d1 d2 b v1 v2 u1 u2 A h;cases d1<;>simp [dep] at h
 | succ n ih=>
  intro d1 d2 b v1 v2 u1 u2 A hn e h1 h2 r1 r2 hu
  have hu0:A.units < cLine:=by omega
  have hin:A.in1.units + n < cLine:=by have:=zeq A;omega
  cases d1 with
  | non=>
   rw [h1.non_inv] at r1;cases r1
   cases d2 with
   | non=>simp [eqD] at e;subst e;rw [h2.non_inv] at r2;cases r2;exact SeqAt.EqAt.same _
   | bl x=>simp [eqD] at e;subst e;rw [h2.bl_inv] at r2;cases r2;exact SeqAt.EqAt.none_bool x
   | int x=>simp [eqD] at e;subst e;rw [h2.int_inv] at r2;obtain ⟨t,rfl⟩:=r2;exact SeqAt.EqAt.none_int x t
   | str x=>simp [eqD] at e;subst e;rw [h2.str_inv] at r2;obtain ⟨t,rfl⟩:=r2;exact SeqAt.EqAt.none_str x t
   | tup l=>simp [eqD] at e;subst e;obtain ⟨a,vs,rfl,f,_⟩:=h2.tup_inv;cases r2;obtain ⟨its,_,p⟩:=Inv.tupAt I (sub _ _ f);exact SeqAt.EqAt.none_tuple p hu0
   | lst l=>simp [eqD] at e;subst e;obtain ⟨a,vs,rfl,f,_⟩:=h2.lst_inv;cases r2;obtain ⟨its,_,p⟩:=Inv.lstAt I (sub _ _ f);exact SeqAt.EqAt.none_list p hu0
   | _=>simp [eqD] at e
  | bl y=>
   rw [h1.bl_inv] at r1;cases r1
   cases d2 with
   | non=>simp [eqD] at e;subst e;rw [h2.non_inv] at r2;cases r2;exact SeqAt.EqAt.bool_none y
   | bl x=>simp only [eqD,Option.some.injEq] at e;subst e;rw [h2.bl_inv] at r2;cases r2;exact SeqAt.EqAt.bool_bool y x
   | _=>simp [eqD] at e
  | int y=>
   rw [h1.int_inv] at r1;obtain ⟨t',rfl⟩:=r1
   cases d2 with
   | non=>simp [eqD] at e;subst e;rw [h2.non_inv] at r2;cases r2;exact SeqAt.EqAt.int_none y t'
   | int x=>simp only [eqD,Option.some.injEq] at e;subst e;rw [h2.int_inv] at r2;obtain ⟨t,rfl⟩:=r2;exact SeqAt.EqAt.int_int y t' x t
   | str x=>simp [eqD] at e;subst e;rw [h2.str_inv] at r2;obtain ⟨t,rfl⟩:=r2;exact SeqAt.EqAt.int_str y t' x t
   | tup l=>simp [eqD] at e;subst e;obtain ⟨a,vs,rfl,f,_⟩:=h2.tup_inv;cases r2;obtain ⟨its,_,p⟩:=Inv.tupAt I (sub _ _ f);exact SeqAt.EqAt.int_tuple y t' p hu0
   | _=>simp [eqD] at e
  | str y=>
   rw [h1.str_inv] at r1;obtain ⟨t',rfl⟩:=r1
   cases d2 with
   | non=>simp [eqD] at e;subst e;rw [h2.non_inv] at r2;cases r2;exact SeqAt.EqAt.str_none y t'
   | int x=>simp [eqD] at e;subst e;rw [h2.int_inv] at r2;obtain ⟨t,rfl⟩:=r2;exact SeqAt.EqAt.str_int y t' x t
   | str x=>simp only [eqD,Option.some.injEq] at e;subst e;rw [h2.str_inv] at r2;obtain ⟨t,rfl⟩:=r2;exact SeqAt.EqAt.str_str y t' x t
   | tup l=>simp [eqD] at e;subst e;obtain ⟨a,vs,rfl,f,_⟩:=h2.tup_inv;cases r2;obtain ⟨its,_,p⟩:=Inv.tupAt I (sub _ _ f);exact SeqAt.EqAt.str_tuple y t' p hu0
   | lst l=>simp [eqD] at e;subst e;obtain ⟨a,vs,rfl,f,_⟩:=h2.lst_inv;cases r2;obtain ⟨its,_,p⟩:=Inv.lstAt I (sub _ _ f);exact SeqAt.EqAt.str_list y t' p hu0
   | _=>simp [eqD] at e
  | tup l1=>
   obtain ⟨a,vs,rfl,f1,q1⟩:=id h1.tup_inv
   cases r1
   obtain ⟨its,rv,p⟩:=Inv.tupAt I (sub _ _ f1)
   cases d2 with
   | non=>simp [eqD] at e;subst e;rw [h2.non_inv] at r2;cases r2;exact SeqAt.EqAt.tuple_none p hu0
   | int x=>simp [eqD] at e;subst e;rw [h2.int_inv] at r2;obtain ⟨t,rfl⟩:=r2;exact SeqAt.EqAt.tuple_int x t p hu0
   | str x=>simp [eqD] at e;subst e;rw [h2.str_inv] at r2;obtain ⟨t,rfl⟩:=r2;exact SeqAt.EqAt.tuple_str x t p hu0
   | tup l2=>
    obtain ⟨a2,vs2,rfl,f2,q2⟩:=id h2.tup_inv
    cases r2
    by_cases ha:a=a2
    ·subst ha
     rw [zfG h1 h2 e];exact SeqAt.EqAt.same _
    obtain ⟨its2,rv2,p2⟩:=Inv.tupAt I (sub _ _ f2)
    simp only [eqD] at e
    obtain ⟨hp,hb⟩:=zcb e
    simp only [dep] at hn
    have he:∀ (j:Nat) (h1:j < its.toArray.size) (h2:j < its2.toArray.size),SeqAt.EqAt A.in1 s its.toArray[j] its2.toArray[j] (eAt l1 l2 j):=fun j k1 k2=>by
     obtain ⟨x,v,hx,_,dx,rx⟩:=zbo q1 rv k1
     obtain ⟨y,w,hy,_,dy,ry⟩:=zbo q2 rv2 k2
     have:=zdg (List.mem_of_getElem? hx)
     exact ih x y _ v w _ _ A.in1 (by omega) (hp j x y hx hy) dx dy rx ry hin
    have z:=SeqAt.RcAt.tuples p p2 hu0 he
    have e1:its.toArray.size=l1.length:=by rw [List.size_toArray,← rv.length,q1.length]
    have e2:its2.toArray.size=l2.length:=by rw [List.size_toArray,← rv2.length,q2.length]
    rw [e1,e2] at z
    rw [hb]
    exact SeqAt.EqAt.of_refs ha z
   | lst l2=>simp [eqD] at e;subst e;obtain ⟨a2,vs2,rfl,f2,_⟩:=h2.lst_inv;cases r2;obtain ⟨its2,_,p2⟩:=Inv.lstAt I (sub _ _ f2);exact SeqAt.EqAt.tuple_list p p2 hu0
   | _=>simp [eqD] at e
  | lst l1=>
   obtain ⟨a,vs,rfl,f1,q1⟩:=id h1.lst_inv
   cases r1
   obtain ⟨its,rv,p⟩:=Inv.lstAt I (sub _ _ f1)
   cases d2 with
   | non=>simp [eqD] at e;subst e;rw [h2.non_inv] at r2;cases r2;exact SeqAt.EqAt.list_none p hu0
   | str x=>simp [eqD] at e;subst e;rw [h2.str_inv] at r2;obtain ⟨t,rfl⟩:=r2;exact SeqAt.EqAt.list_str x t p hu0
   | tup l2=>simp [eqD] at e;subst e;obtain ⟨a2,vs2,rfl,f2,_⟩:=h2.tup_inv;cases r2;obtain ⟨its2,_,p2⟩:=Inv.tupAt I (sub _ _ f2);exact SeqAt.EqAt.list_tuple p p2 hu0
   | lst l2=>
    obtain ⟨a2,vs2,rfl,f2,q2⟩:=id h2.lst_inv
    cases r2
    by_cases ha:a=a2
    ·subst ha
     rw [zfG h1 h2 e];exact SeqAt.EqAt.same _
    obtain ⟨its2,rv2,p2⟩:=Inv.lstAt I (sub _ _ f2)
    simp only [eqD] at e
    obtain ⟨hp,hb⟩:=zcb e
    simp only [dep] at hn
    have he:∀ (j:Nat) (h1:j < its.toArray.size) (h2:j < its2.toArray.size),SeqAt.EqAt A.in1 s its.toArray[j] its2.toArray[j] (eAt l1 l2 j):=fun j k1 k2=>by
     obtain ⟨x,v,hx,_,dx,rx⟩:=zbo q1 rv k1
     obtain ⟨y,w,hy,_,dy,ry⟩:=zbo q2 rv2 k2
     have:=zdg (List.mem_of_getElem? hx)
     exact ih x y _ v w _ _ A.in1 (by omega) (hp j x y hx hy) dx dy rx ry hin
    have e1:its.toArray.size=l1.length:=by rw [List.size_toArray,← rv.length,q1.length]
    have e2:its2.toArray.size=l2.length:=by rw [List.size_toArray,← rv2.length,q2.length]
    by_cases hsz:l1.length=l2.length
    ·have z:=SeqAt.RcAt.lists p p2 (by rw [e1,e2,hsz]) hu0 he
     rw [e1] at z
     rw [hb,hsz,Nat.min_self,beq_self_eq_true,Bool.and_true,← hsz]
     exact SeqAt.EqAt.of_refs ha z
    ·have z:=SeqAt.RcAt.lists_lengths p p2 (by rw [e1,e2];simpa using hsz) hu0
     have hb0:b=false:=by
      rw [hb]
      have:(l1.length == l2.length)=false:=by simpa using hsz
      rw [this,Bool.and_false]
     rw [hb0]
     exact SeqAt.EqAt.of_refs ha z
   | _=>simp [eqD] at e
  | _=>simp [eqD] at e
end
end FL
set_option Elab.async false
set_option linter.all false
set_option maxRecDepth 100000
namespace FL
open PySem PySem.Spec PyProof.Rows L2
noncomputable abbrev lim:Nat:=1000000
theorem zdm {n:Nat}(h:n≤lim):n≤sizeLine:=by rw [sizeLine_eq];unfold lim at h;omega
theorem zkB {n:Nat}(h:n≤lim):n < sizeLine:=by rw [sizeLine_eq];unfold lim at h;omega
section
variable {K:PySem.W.Frag}{F H F' H':Hp} {v:V}
theorem DatB.non_inv (h:DatB K F H .non v):v=.non:=Dat.non_inv (K:=K) (F:=F) h
theorem DatB.bl_inv {i:Bool}(h:DatB K F H (.bl i) v):v=.bl i:=Dat.bl_inv (K:=K) (F:=F) h
theorem DatB.int_inv {i:Int}(h:DatB K F H (.int i) v):v=.int i:=Dat.int_inv (K:=K) (F:=F) h
theorem DatB.str_inv {i:Str}(h:DatB K F H (.str i) v):v=.str i:=Dat.str_inv (K:=K) (F:=F) h
theorem DatB.tup_inv {l:List D}(h:DatB K F H (.tup l) v):∃ a vs,v=.ref a∧F a=some (.tup vs)∧DatL K F l vs:=Dat.tup_inv (K:=K) (F:=F) h
theorem DatB.scr_inv {l:List Int}(h:DatB K F H (.scr l) v):∃ a,v=.ref a∧SqL K F a (l.map V.int):=Dat.scr_inv (K:=K) (F:=F) h
theorem DatB.lst_inv {l:List D}(h:DatB K F H (.lst l) v):∃ a vs,v=.ref a∧H a=some (.lst vs)∧DatL K F l vs:=h
theorem DatB.dic_inv {ks:List KD}{l:List D} (h:DatB K F H (.dic ks l) v):∃ a vs,v=.ref a∧DicB H a ks vs∧DatL K F l vs:=h
theorem DatB.exc_inv {c:Str}{d:D} (h:DatB K F H (.exc c d) v):∃ a C da u,v=.ref a∧F a=some (ExcO a C da)∧PySem.W.nsIn K mainGlobals c=some (some (.ref C))∧F da=some (.xd [(zaR c,u)])∧Dat K F d u:=Dat.exc_inv (K:=K) (F:=F) (c:=c) (d:=d) (v:=v) h
theorem Res.bl (b:Bool):Res K .fz H F' H' (.bl b) (.bl b):=Dat.bl (K:=K) (F:=F') b
theorem Res.int (b:Int):Res K .fz H F' H' (.int b) (.int b):=Dat.int (K:=K) (F:=F') b
theorem Res.str (b:Str):Res K .fz H F' H' (.str b) (.str b):=Dat.str (K:=K) (F:=F') b
end
noncomputable def addD:D→D→Option D
 | .int a,.int b=>some (.int (a + b))
 | .str a,.str b=>if a.length + b.length≤lim then some (.str (a++b)) else none
 | .tup a,.tup b=>if a.length + b.length≤lim then some (.tup (a++b)) else none
 | .lst a,.lst b=>if a.length + b.length≤lim then some (.lst (a++b)) else none
 | _,_=>none
noncomputable def catD:D→D→Option D
 | .lst a,.lst b=>if a.length + b.length≤lim then some (.lst (a++b)) else none
 | _,_=>none
noncomputable def subD:D→D→Option D
 | .int a,.int b=>some (.int (a - b))
 | _,_=>none
noncomputable def zlt (a b:Int):Prop:=(-(2 ^ 64) < a∧a < 2 ^ 64)∨(-(2 ^ 64) < b∧b < 2 ^ 64)
noncomputable def zmO (b:Int):Prop:=0 < b∧b < 1073741824
noncomputable def zff (b:Int):Prop:=0 < b
noncomputable def zmN (a b:Int):Prop:=0≤b∧b≤1000000∧a.natAbs < 2 ^ 64
theorem zcX {a b:Int}(h1:-18446744073709551616 < b) (h2:b < 18446744073709551616):zlt a b:=.inr ⟨h1,h2⟩
theorem zcY {a b:Int}(h1:-18446744073709551616 < a) (h2:a < 18446744073709551616):zlt a b:=.inl ⟨h1,h2⟩
theorem zbV {b:Int}(h1:0 < b) (h2:b < 1073741824):zmO b:=⟨h1,h2⟩
theorem zbU {b:Int}(h1:0 < b):zff b:=h1
theorem zbt {a b:Int}(h1:0≤b) (h2:b≤1000000) (h3:a.natAbs < 18446744073709551616):zmN a b:=⟨h1,h2,h3⟩
open Classical in
noncomputable def mulD:D→D→Option D
 | .int a,.int b=>if zlt a b then some (.int (a * b)) else none
 | _,_=>none
open Classical in
noncomputable def divD:D→D→Option D
 | .int a,.int b=>if zmO b then some (.int (a / b)) else none
 | _,_=>none
open Classical in
noncomputable def modD:D→D→Option D
 | .int a,.int b=>if zff b then some (.int (a % b)) else none
 | _,_=>none
open Classical in
noncomputable def powD:D→D→Option D
 | .int a,.int b=>if zmN a b then some (.int (a ^ b.toNat)) else none
 | _,_=>none
section
variable {K:PySem.W.Frag}{X:Cx}
theorem zau {α:Type}{c:Prop} {_:Decidable c}{x y:α} (h:(if c then some x else none)=some y):c∧x=y:=by
 by_cases hc:c
 ·rw [if_pos hc] at h;exact ⟨hc,Option.some.inj h⟩
 ·rw [if_neg hc] at h;cases h
theorem zaW (hK:X.K=K:=by rfl):Op2 K X (binaryOp .Add) .fz addD:=by
 subst hK
 refine ⟨_,zmI.or (zhv.or (zlr.or zkA)),fun x y d F H v u Q e s h1 h2 k=>?_⟩
 unfold addD at e
 split at e
 ·cases e
  refine .inl ⟨_,_,h1.int_inv,h2.int_inv,k _ F H (Grow.refl s) (Res.int _)⟩
 ·obtain ⟨hz,rfl⟩:=zau e
  exact .inr (.inl ⟨_,_,h1.str_inv,h2.str_inv,zdm hz,k _ F H (Grow.refl s) (Res.str _)⟩)
 ·obtain ⟨hz,rfl⟩:=zau e
  obtain ⟨a,xs,rfl,f1,q1⟩:=h1.tup_inv
  obtain ⟨b,ys,rfl,f2,q2⟩:=h2.tup_inv
  refine .inr (.inr (.inl ⟨a,b,xs,ys,rfl,rfl,SqT.of (s _ _ f1),SqT.of (s _ _ f2),by rw [q1.length,q2.length];exact zdm hz,fun z=>?_,fun _ z=>?_,fun _ _ p hp=>?_⟩))
  ·subst z
   refine k _ F H (Grow.refl s) ?_
   have:_=([]:List D):=List.eq_nil_of_length_eq_zero (by rw [← q1.length];rfl)
   rw [this];exact h2
  ·subst z
   refine k _ F H (Grow.refl s) ?_
   have:_=([]:List D):=List.eq_nil_of_length_eq_zero (by rw [← q2.length];rfl)
   rw [this,List.append_nil];exact h1
  ·have g:=Grow.frozen (o:=.tup (xs++ys)) s hp
   exact k _ _ _ g (Dat.tup (K:=X.K) zag ((q1.mono g.ff).append (q2.mono g.ff)))
 ·obtain ⟨hz,rfl⟩:=zau e
  obtain ⟨a,xs,rfl,f1,q1⟩:=h1
  obtain ⟨b,ys,rfl,f2,q2⟩:=h2
  refine .inr (.inr (.inr ⟨a,b,xs,ys,rfl,rfl,f1,f2,by rw [q1.length,q2.length];exact zdm hz,fun p hp=>?_⟩))
  have g:=Grow.frozen (o:=.lst (xs++ys)) s hp
  exact k _ _ _ g (Dat.lst (K:=X.K) zag ((q1.mono g.ff).append (q2.mono g.ff)))
 ·cases e
theorem zln (hK:X.K=K:=by rfl):Op2 K X (binaryOp .Add) .ow catD:=by
 subst hK
 refine ⟨_,zkA,fun x y d F H v u Q e s h1 h2 k=>?_⟩
 unfold catD at e
 split at e
 ·obtain ⟨hz,rfl⟩:=zau e
  obtain ⟨a,xs,rfl,f1,q1⟩:=h1
  obtain ⟨b,ys,rfl,f2,q2⟩:=h2
  refine ⟨a,b,xs,ys,rfl,rfl,f1,f2,by rw [q1.length,q2.length];exact zdm hz,fun p hp=>?_⟩
  exact k _ _ _ (Grow.fresh s hp) ⟨p,rfl,hp,s.free hp,xs++ys,zag,q1.append q2⟩
 ·cases e
theorem zjF {f:Value→Value→Sem Value}{C:Int→Int→Prop} {g:Int→Int→Int}{p:D→D→Option D} (o:OpR X f (rI C fun i j=>.int (g i j)))
  (h:∀ x y d,p x y=some d→∃ i j,x=.int i∧y=.int j∧C i j∧d=.int (g i j)):Op2 K X f .fz p:=by
 refine ⟨_,o,fun x y d F H v u Q e s h1 h2 k=>?_⟩
 obtain ⟨i,j,rfl,rfl,c,rfl⟩:=h x y d e
 exact ⟨i,j,h1.int_inv,h2.int_inv,c,k _ F H (Grow.refl s) (Res.int _)⟩
theorem zgt:Op2 K X (binaryOp .Sub) .fz subD:=by
 refine ⟨_,zmB,fun x y d F H v u Q e s h1 h2 k=>?_⟩
 unfold subD at e
 split at e
 ·cases e
  exact ⟨_,_,h1.int_inv,h2.int_inv,k _ F H (Grow.refl s) (Res.int _)⟩
 ·cases e
theorem zin:Op2 K X (binaryOp .Mult) .fz mulD:=zjF zmE fun x y d e=>by
 unfold mulD at e
 split at e
 ·obtain ⟨hz,rfl⟩:=zau e
  exact ⟨_,_,rfl,rfl,hz,rfl⟩
 ·cases e
theorem zcW:Op2 K X (binaryOp .FloorDiv) .fz divD:=zjF zlp fun x y d e=>by
 unfold divD at e
 split at e
 ·obtain ⟨hz,rfl⟩:=zau e
  exact ⟨_,_,rfl,rfl,hz,rfl⟩
 ·cases e
theorem zbj:Op2 K X (binaryOp .Mod) .fz modD:=zjF zmF fun x y d e=>by
 unfold modD at e
 split at e
 ·obtain ⟨hz,rfl⟩:=zau e
  exact ⟨_,_,rfl,rfl,hz,rfl⟩
 ·cases e
theorem zjE:Op2 K X (binaryOp .Pow) .fz powD:=zjF zmC fun x y d e=>by
 unfold powD at e
 split at e
 ·obtain ⟨hz,rfl⟩:=zau e
  exact ⟨_,_,rfl,rfl,hz,rfl⟩
 ·cases e
end
section
variable {X:Cx}{pins:List (Addr×Obj)} {σ:St}{H F:Hp} {s:Shared}{K:PySem.W.Frag}
theorem znp (I:Inv X pins σ H s) (sub:Same F H) (d1 d2:D) (b:Bool) (v1 v2:V) (u1 u2:Value) (n:Nat) (hn:dep d1≤n) (e:eqD d1 d2=some b) (h1:DatB K F H d1 v1) (h2:DatB K F H d2 v2) (r1:RelV v1 u1) (r2:RelV v2 u2) (hu:X.A.units + n < cLine):SeqAt.RcAt X.A s u1 u2 b:=by
 have d0:0 < dep d1:=by cases d1<;>simp [dep]
 have hu0:X.A.units < cLine:=by omega
 have hin:X.A.in1.units + (n - 1) < cLine:=by have:=zeq X.A;omega
 cases d1 with
 | non=>
  rw [h1.non_inv] at r1;cases r1
  cases d2 with
  | non=>simp [eqD] at e;subst e;rw [h2.non_inv] at r2;cases r2;exact SeqAt.RcAt.none_none
  | bl x=>simp [eqD] at e;subst e;rw [h2.bl_inv] at r2;cases r2;exact SeqAt.RcAt.none_bool x
  | int x=>simp [eqD] at e;subst e;rw [h2.int_inv] at r2;obtain ⟨t,rfl⟩:=r2;exact SeqAt.RcAt.none_int x t
  | str x=>simp [eqD] at e;subst e;rw [h2.str_inv] at r2;obtain ⟨t,rfl⟩:=r2;exact SeqAt.RcAt.none_str x t
  | tup l=>simp [eqD] at e;subst e;obtain ⟨a,vs,rfl,f,_⟩:=h2.tup_inv;cases r2;obtain ⟨its,_,p⟩:=Inv.tupAt I (sub _ _ f);exact SeqAt.RcAt.none_tuple p hu0
  | lst l=>simp [eqD] at e;subst e;obtain ⟨a,vs,rfl,f,_⟩:=h2.lst_inv;cases r2;obtain ⟨its,_,p⟩:=Inv.lstAt I f;exact SeqAt.RcAt.none_list p hu0
  | _=>simp [eqD] at e
 | bl y=>
  rw [h1.bl_inv] at r1;cases r1
  cases d2 with
  | non=>simp [eqD] at e;subst e;rw [h2.non_inv] at r2;cases r2;exact SeqAt.RcAt.bool_none y
  | bl x=>simp only [eqD,Option.some.injEq] at e;subst e;rw [h2.bl_inv] at r2;cases r2;exact SeqAt.RcAt.bool_bool y x
  | _=>simp [eqD] at e
 | int y=>
  rw [h1.int_inv] at r1;obtain ⟨t',rfl⟩:=r1
  cases d2 with
  | non=>simp [eqD] at e;subst e;rw [h2.non_inv] at r2;cases r2;exact SeqAt.RcAt.int_none y t'
  | int x=>simp only [eqD,Option.some.injEq] at e;subst e;rw [h2.int_inv] at r2;obtain ⟨t,rfl⟩:=r2;exact SeqAt.RcAt.int_int y t' x t
  | str x=>simp [eqD] at e;subst e;rw [h2.str_inv] at r2;obtain ⟨t,rfl⟩:=r2;exact SeqAt.RcAt.int_str y t' x t
  | tup l=>simp [eqD] at e;subst e;obtain ⟨a,vs,rfl,f,_⟩:=h2.tup_inv;cases r2;obtain ⟨its,_,p⟩:=Inv.tupAt I (sub _ _ f);exact SeqAt.RcAt.int_tuple y t' p hu0
  | _=>simp [eqD] at e
 | str y=>
  rw [h1.str_inv] at r1;obtain ⟨t',rfl⟩:=r1
  cases d2 with
  | non=>simp [eqD] at e;subst e;rw [h2.non_inv] at r2;cases r2;exact SeqAt.RcAt.str_none y t'
  | int x=>simp [eqD] at e;subst e;rw [h2.int_inv] at r2;obtain ⟨t,rfl⟩:=r2;exact SeqAt.RcAt.str_int y t' x t
  | str x=>simp only [eqD,Option.some.injEq] at e;subst e;rw [h2.str_inv] at r2;obtain ⟨t,rfl⟩:=r2;exact SeqAt.RcAt.str_str y t' x t
  | tup l=>simp [eqD] at e;subst e;obtain ⟨a,vs,rfl,f,_⟩:=h2.tup_inv;cases r2;obtain ⟨its,_,p⟩:=Inv.tupAt I (sub _ _ f);exact SeqAt.RcAt.str_tuple y t' p hu0
  | lst l=>simp [eqD] at e;subst e;obtain ⟨a,vs,rfl,f,_⟩:=h2.lst_inv;cases r2;obtain ⟨its,_,p⟩:=Inv.lstAt I f;exact SeqAt.RcAt.str_list y t' p hu0
  | _=>simp [eqD] at e
 | tup l1=>
  obtain ⟨a,vs,rfl,f1,q1⟩:=h1.tup_inv
  cases r1
  obtain ⟨its,rv,p⟩:=Inv.tupAt I (sub _ _ f1)
  cases d2 with
  | non=>simp [eqD] at e;subst e;rw [h2.non_inv] at r2;cases r2;exact SeqAt.RcAt.tuple_none p hu0
  | int x=>simp [eqD] at e;subst e;rw [h2.int_inv] at r2;obtain ⟨t,rfl⟩:=r2;exact SeqAt.RcAt.tuple_int x t p hu0
  | str x=>simp [eqD] at e;subst e;rw [h2.str_inv] at r2;obtain ⟨t,rfl⟩:=r2;exact SeqAt.RcAt.tuple_str x t p hu0
  | tup l2=>
   obtain ⟨a2,vs2,rfl,f2,q2⟩:=h2.tup_inv
   cases r2
   obtain ⟨its2,rv2,p2⟩:=Inv.tupAt I (sub _ _ f2)
   simp only [eqD] at e
   obtain ⟨hp,hb⟩:=zcb e
   simp only [dep] at hn
   have he:∀ (j:Nat) (h1:j < its.toArray.size) (h2:j < its2.toArray.size),SeqAt.EqAt X.A.in1 s its.toArray[j] its2.toArray[j] (eAt l1 l2 j):=fun j k1 k2=>by
    obtain ⟨x,v,hx,_,dx,rx⟩:=zbo q1 rv k1
    obtain ⟨y,w,hy,_,dy,ry⟩:=zbo q2 rv2 k2
    have:=zdg (List.mem_of_getElem? hx)
    exact zhd I sub (n - 1) x y _ v w _ _ X.A.in1 (by omega) (hp j x y hx hy) dx dy rx ry hin
   have z:=SeqAt.RcAt.tuples p p2 hu0 he
   have e1:its.toArray.size=l1.length:=by rw [List.size_toArray,← rv.length,q1.length]
   have e2:its2.toArray.size=l2.length:=by rw [List.size_toArray,← rv2.length,q2.length]
   rw [e1,e2] at z
   rw [hb]
   exact z
  | lst l2=>simp [eqD] at e;subst e;obtain ⟨a2,vs2,rfl,f2,_⟩:=h2.lst_inv;cases r2;obtain ⟨its2,_,p2⟩:=Inv.lstAt I f2;exact SeqAt.RcAt.tuple_list p p2 hu0
  | _=>simp [eqD] at e
 | lst l1=>
  obtain ⟨a,vs,rfl,f1,q1⟩:=h1.lst_inv
  cases r1
  obtain ⟨its,rv,p⟩:=Inv.lstAt I f1
  cases d2 with
  | non=>simp [eqD] at e;subst e;rw [h2.non_inv] at r2;cases r2;exact SeqAt.RcAt.list_none p hu0
  | str x=>simp [eqD] at e;subst e;rw [h2.str_inv] at r2;obtain ⟨t,rfl⟩:=r2;exact SeqAt.RcAt.list_str x t p hu0
  | tup l2=>simp [eqD] at e;subst e;obtain ⟨a2,vs2,rfl,f2,_⟩:=h2.tup_inv;cases r2;obtain ⟨its2,_,p2⟩:=Inv.tupAt I (sub _ _ f2);exact SeqAt.RcAt.list_tuple p p2 hu0
  | lst l2=>
   obtain ⟨a2,vs2,rfl,f2,q2⟩:=h2.lst_inv
   cases r2
   obtain ⟨its2,rv2,p2⟩:=Inv.lstAt I f2
   simp only [eqD] at e
   obtain ⟨hp,hb⟩:=zcb e
   simp only [dep] at hn
   have he:∀ (j:Nat) (h1:j < its.toArray.size) (h2:j < its2.toArray.size),SeqAt.EqAt X.A.in1 s its.toArray[j] its2.toArray[j] (eAt l1 l2 j):=fun j k1 k2=>by
    obtain ⟨x,v,hx,_,dx,rx⟩:=zbo q1 rv k1
    obtain ⟨y,w,hy,_,dy,ry⟩:=zbo q2 rv2 k2
    have:=zdg (List.mem_of_getElem? hx)
    exact zhd I sub (n - 1) x y _ v w _ _ X.A.in1 (by omega) (hp j x y hx hy) dx dy rx ry hin
   have e1:its.toArray.size=l1.length:=by rw [List.size_toArray,← rv.length,q1.length]
   have e2:its2.toArray.size=l2.length:=by rw [List.size_toArray,← rv2.length,q2.length]
   by_cases hsz:l1.length=l2.length
   ·have z:=SeqAt.RcAt.lists p p2 (by rw [e1,e2,hsz]) hu0 he
    rw [e1] at z
    rw [hb,hsz,Nat.min_self,beq_self_eq_true,Bool.and_true,← hsz]
    exact z
   ·have z:=SeqAt.RcAt.lists_lengths p p2 (by rw [e1,e2];simpa using hsz) hu0
    have hb0:b=false:=by
     rw [hb]
     have:(l1.length == l2.length)=false:=by simpa using hsz
     rw [this,Bool.and_false]
    rw [hb0]
    exact z
  | _=>simp [eqD] at e
 | _=>simp [eqD] at e
theorem zkq (I:Inv X pins σ H s) (sub:Same F H) (d1 d2:D) (b:Bool) (v1 v2:V) (u1 u2:Value) (n:Nat) (hn:dep d1≤n) (e:eqD d1 d2=some b) (h1:DatB K F H d1 v1) (h2:DatB K F H d2 v2) (r1:RelV v1 u1) (r2:RelV v2 u2) (hu:X.A.units + n < cLine):SeqAt.RcNeAt X.A s u1 u2 (!b):=by
 have d0:0 < dep d1:=by cases d1<;>simp [dep]
 have hu0:X.A.units < cLine:=by omega
 have hin:X.A.in1.units + (n - 1) < cLine:=by have:=zeq X.A;omega
 cases d1 with
 | non=>
  rw [h1.non_inv] at r1;cases r1
  cases d2 with
  | non=>simp [eqD] at e;subst e;rw [h2.non_inv] at r2;cases r2;exact SeqAt.RcNeAt.none_none
  | bl x=>simp [eqD] at e;subst e;rw [h2.bl_inv] at r2;cases r2;exact SeqAt.RcNeAt.none_bool x
  | int x=>simp [eqD] at e;subst e;rw [h2.int_inv] at r2;obtain ⟨t,rfl⟩:=r2;exact SeqAt.RcNeAt.none_int x t
  | str x=>simp [eqD] at e;subst e;rw [h2.str_inv] at r2;obtain ⟨t,rfl⟩:=r2;exact SeqAt.RcNeAt.none_str x t
  | tup l=>simp [eqD] at e;subst e;obtain ⟨a,vs,rfl,f,_⟩:=h2.tup_inv;cases r2;obtain ⟨its,_,p⟩:=Inv.tupAt I (sub _ _ f);exact SeqAt.RcNeAt.none_tuple p hu0
  | lst l=>simp [eqD] at e;subst e;obtain ⟨a,vs,rfl,f,_⟩:=h2.lst_inv;cases r2;obtain ⟨its,_,p⟩:=Inv.lstAt I f;exact SeqAt.RcNeAt.none_list p hu0
  | _=>simp [eqD] at e
 | bl y=>
  rw [h1.bl_inv] at r1;cases r1
  cases d2 with
  | non=>simp [eqD] at e;subst e;rw [h2.non_inv] at r2;cases r2;exact SeqAt.RcNeAt.bool_none y
  | bl x=>simp only [eqD,Option.some.injEq] at e;subst e;rw [h2.bl_inv] at r2;cases r2;exact SeqAt.RcNeAt.bool_bool y x
  | _=>simp [eqD] at e
 | int y=>
  rw [h1.int_inv] at r1;obtain ⟨t',rfl⟩:=r1
  cases d2 with
  | non=>simp [eqD] at e;subst e;rw [h2.non_inv] at r2;cases r2;exact SeqAt.RcNeAt.int_none y t'
  | int x=>simp only [eqD,Option.some.injEq] at e;subst e;rw [h2.int_inv] at r2;obtain ⟨t,rfl⟩:=r2;exact SeqAt.RcNeAt.int_int y t' x t
  | str x=>simp [eqD] at e;subst e;rw [h2.str_inv] at r2;obtain ⟨t,rfl⟩:=r2;exact SeqAt.RcNeAt.int_str y t' x t
  | tup l=>simp [eqD] at e;subst e;obtain ⟨a,vs,rfl,f,_⟩:=h2.tup_inv;cases r2;obtain ⟨its,_,p⟩:=Inv.tupAt I (sub _ _ f);exact SeqAt.RcNeAt.int_tuple y t' p hu0
  | _=>simp [eqD] at e
 | str y=>
  rw [h1.str_inv] at r1;obtain ⟨t',rfl⟩:=r1
  cases d2 with
  | non=>simp [eqD] at e;subst e;rw [h2.non_inv] at r2;cases r2;exact SeqAt.RcNeAt.str_none y t'
  | int x=>simp [eqD] at e;subst e;rw [h2.int_inv] at r2;obtain ⟨t,rfl⟩:=r2;exact SeqAt.RcNeAt.str_int y t' x t
  | str x=>simp only [eqD,Option.some.injEq] at e;subst e;rw [h2.str_inv] at r2;obtain ⟨t,rfl⟩:=r2;exact SeqAt.RcNeAt.str_str y t' x t
  | tup l=>simp [eqD] at e;subst e;obtain ⟨a,vs,rfl,f,_⟩:=h2.tup_inv;cases r2;obtain ⟨its,_,p⟩:=Inv.tupAt I (sub _ _ f);exact SeqAt.RcNeAt.str_tuple y t' p hu0
  | lst l=>simp [eqD] at e;subst e;obtain ⟨a,vs,rfl,f,_⟩:=h2.lst_inv;cases r2;obtain ⟨its,_,p⟩:=Inv.lstAt I f;exact SeqAt.RcNeAt.str_list y t' p hu0
  | _=>simp [eqD] at e
 | tup l1=>
  obtain ⟨a,vs,rfl,f1,q1⟩:=h1.tup_inv
  cases r1
  obtain ⟨its,rv,p⟩:=Inv.tupAt I (sub _ _ f1)
  cases d2 with
  | non=>simp [eqD] at e;subst e;rw [h2.non_inv] at r2;cases r2;exact SeqAt.RcNeAt.tuple_none p hu0
  | int x=>simp [eqD] at e;subst e;rw [h2.int_inv] at r2;obtain ⟨t,rfl⟩:=r2;exact SeqAt.RcNeAt.tuple_int x t p hu0
  | str x=>simp [eqD] at e;subst e;rw [h2.str_inv] at r2;obtain ⟨t,rfl⟩:=r2;exact SeqAt.RcNeAt.tuple_str x t p hu0
  | tup l2=>
   obtain ⟨a2,vs2,rfl,f2,q2⟩:=h2.tup_inv
   cases r2
   obtain ⟨its2,rv2,p2⟩:=Inv.tupAt I (sub _ _ f2)
   simp only [eqD] at e
   obtain ⟨hp,hb⟩:=zcb e
   simp only [dep] at hn
   have he:∀ (j:Nat) (h1:j < its.toArray.size) (h2:j < its2.toArray.size),SeqAt.EqAt X.A.in1 s its.toArray[j] its2.toArray[j] (eAt l1 l2 j):=fun j k1 k2=>by
    obtain ⟨x,v,hx,_,dx,rx⟩:=zbo q1 rv k1
    obtain ⟨y,w,hy,_,dy,ry⟩:=zbo q2 rv2 k2
    have:=zdg (List.mem_of_getElem? hx)
    exact zhd I sub (n - 1) x y _ v w _ _ X.A.in1 (by omega) (hp j x y hx hy) dx dy rx ry hin
   have z:=SeqAt.RcNeAt.tuples p p2 hu0 he
   have e1:its.toArray.size=l1.length:=by rw [List.size_toArray,← rv.length,q1.length]
   have e2:its2.toArray.size=l2.length:=by rw [List.size_toArray,← rv2.length,q2.length]
   rw [e1,e2] at z
   rw [hb]
   exact z
  | lst l2=>simp [eqD] at e;subst e;obtain ⟨a2,vs2,rfl,f2,_⟩:=h2.lst_inv;cases r2;obtain ⟨its2,_,p2⟩:=Inv.lstAt I f2;exact SeqAt.RcNeAt.tuple_list p p2 hu0
  | _=>simp [eqD] at e
 | lst l1=>
  obtain ⟨a,vs,rfl,f1,q1⟩:=h1.lst_inv
  cases r1
  obtain ⟨its,rv,p⟩:=Inv.lstAt I f1
  cases d2 with
  | non=>simp [eqD] at e;subst e;rw [h2.non_inv] at r2;cases r2;exact SeqAt.RcNeAt.list_none p hu0
  | str x=>simp [eqD] at e;subst e;rw [h2.str_inv] at r2;obtain ⟨t,rfl⟩:=r2;exact SeqAt.RcNeAt.list_str x t p hu0
  | tup l2=>simp [eqD] at e;subst e;obtain ⟨a2,vs2,rfl,f2,_⟩:=h2.tup_inv;cases r2;obtain ⟨its2,_,p2⟩:=Inv.tupAt I (sub _ _ f2);exact SeqAt.RcNeAt.list_tuple p p2 hu0
  | lst l2=>
   obtain ⟨a2,vs2,rfl,f2,q2⟩:=h2.lst_inv
   cases r2
   obtain ⟨its2,rv2,p2⟩:=Inv.lstAt I f2
   simp only [eqD] at e
   obtain ⟨hp,hb⟩:=zcb e
   simp only [dep] at hn
   have he:∀ (j:Nat) (h1:j < its.toArray.size) (h2:j < its2.toArray.size),SeqAt.EqAt X.A.in1 s its.toArray[j] its2.toArray[j] (eAt l1 l2 j):=fun j k1 k2=>by
    obtain ⟨x,v,hx,_,dx,rx⟩:=zbo q1 rv k1
    obtain ⟨y,w,hy,_,dy,ry⟩:=zbo q2 rv2 k2
    have:=zdg (List.mem_of_getElem? hx)
    exact zhd I sub (n - 1) x y _ v w _ _ X.A.in1 (by omega) (hp j x y hx hy) dx dy rx ry hin
   have e1:its.toArray.size=l1.length:=by rw [List.size_toArray,← rv.length,q1.length]
   have e2:its2.toArray.size=l2.length:=by rw [List.size_toArray,← rv2.length,q2.length]
   by_cases hsz:l1.length=l2.length
   ·have z:=SeqAt.RcNeAt.lists p p2 (by rw [e1,e2,hsz]) hu0 he
    rw [e1] at z
    rw [hb,hsz,Nat.min_self,beq_self_eq_true,Bool.and_true,← hsz]
    exact z
   ·have z:=SeqAt.RcNeAt.lists_lengths p p2 (by rw [e1,e2];simpa using hsz) hu0
    have hb0:b=false:=by
     rw [hb]
     have:(l1.length == l2.length)=false:=by simpa using hsz
     rw [this,Bool.and_false]
    rw [hb0]
    exact z
  | _=>simp [eqD] at e
 | _=>simp [eqD] at e
end
noncomputable def eqB (x y:D):Option D:=if dep x≤100 then (eqD x y).map D.bl else none
noncomputable def neB (x y:D):Option D:=if dep x≤100 then (eqD x y).map fun b=>D.bl (!b) else none
noncomputable def rEqD (K:PySem.W.Frag) (f:Bool→Bool):R2:=fun x y H Q=>∃ F d1 d2 b,Same F H∧DatB K F H d1 x∧DatB K F H d2 y∧dep d1≤100∧eqD d1 d2=some b∧Q (.bl (f b)) H
section
variable {K:PySem.W.Frag}{X:Cx}
theorem zmH (hu:X.A.units + 100 < cLine):OpR X (compareOp .Eq) (rEqD K id):=by
 intro pins s σ H x y v u Q I rx ry h
 obtain ⟨F,d1,d2,b,sub,h1,h2,hn,e,q⟩:=h
 exact znp I sub d1 d2 b x y v u 100 hn e h1 h2 rx ry hu _ _ _ _ ⟨.bl b,H,I,rfl,q⟩
theorem zmD (hu:X.A.units + 100 < cLine):OpR X (compareOp .NotEq) (rEqD K not):=by
 intro pins s σ H x y v u Q I rx ry h
 obtain ⟨F,d1,d2,b,sub,h1,h2,hn,e,q⟩:=h
 exact zkq I sub d1 d2 b x y v u 100 hn e h1 h2 rx ry hu _ _ _ _ ⟨.bl (!b),H,I,rfl,q⟩
theorem p_eq (hu:X.A.units + 100 < cLine):Op2 K X (compareOp .Eq) .fz eqB:=by
 refine ⟨_,zmH (K:=K) hu,fun x y d F H v u Q e s h1 h2 k=>?_⟩
 unfold eqB at e
 by_cases hc:dep x≤100
 ·rw [if_pos hc] at e
  cases e1:eqD x y with
  | none=>rw [e1] at e;cases e
  | some b=>
   rw [e1] at e;cases e
   exact ⟨F,x,y,b,s,h1,h2,hc,e1,k _ F H (Grow.refl s) (Res.bl b)⟩
 ·rw [if_neg hc] at e;cases e
theorem p_ne (hu:X.A.units + 100 < cLine):Op2 K X (compareOp .NotEq) .fz neB:=by
 refine ⟨_,zmD (K:=K) hu,fun x y d F H v u Q e s h1 h2 k=>?_⟩
 unfold neB at e
 by_cases hc:dep x≤100
 ·rw [if_pos hc] at e
  cases e1:eqD x y with
  | none=>rw [e1] at e;cases e
  | some b=>
   rw [e1] at e;cases e
   exact ⟨F,x,y,b,s,h1,h2,hc,e1,k _ F H (Grow.refl s) (Res.bl _)⟩
 ·rw [if_neg hc] at e;cases e
end
end FL
set_option Elab.async false
set_option linter.all false
set_option maxRecDepth 100000
namespace FL
open PySem PySem.Spec PyProof.Rows L2
noncomputable def inL (x:D):List D→Option Bool
 | []=>some false
 | d::l=>(eqD d x).bind fun b=>(inL x l).map fun c=>b || c
section
variable {X:Cx}{pins:List (Addr×Obj)} {σ:St}{H F:Hp} {s:Shared}{K:PySem.W.Frag}
end
noncomputable def inB (x y:D):Option D:=match y with
 | .lst l=>if depL l≤100 then (inL x l).map D.bl else none
 | .tup l=>if depL l≤100 then (inL x l).map D.bl else none
 | _=>none
noncomputable def zeh (x y:D):Option D:=match y with
 | .lst l=>if depL l≤100 then (inL x l).map fun b=>D.bl (!b) else none
 | .tup l=>if depL l≤100 then (inL x l).map fun b=>D.bl (!b) else none
 | _=>none
section
variable {K:PySem.W.Frag}{X:Cx}
end
section
variable {K:PySem.W.Frag}{X:Cx} {a b:Expr}{fa fb:En→Option D} {pos:Pos}{p:D→D→Option D}
end
end FL
set_option Elab.async false
set_option linter.all false
set_option maxRecDepth 100000
namespace HT
open PySem PySem.Spec PyProof.Rows
section
variable {prog:Program}{w:World} {A:Around}{E:Value→Shared→Prop} {s:Shared}
theorem getItem_tuple_whole {t sl:Addr}{items:Array Value} {vl vu:Value}{lo hi:Option Int} {Q:Value→Shared→Prop}(ht:IsTup s.heap t items) (hs:s.heap.IsSliceOf sl vl vu .none) (pl:IsPart vl lo) (pu:IsPart vu hi)
  (hw:sIx items.size 0 lo=0∧sIx items.size items.size hi=items.size)
  (h:Q (.ref t) s):wpAny (model prog w) A (getItem (.ref t) (.ref sl)) Q E s:=by
 obtain ⟨os,hos,hcs,hds⟩:=id hs
 have hTs:s.TypeIs (.ref sl) "slice" := ⟨os,hos,hcs⟩
 unfold getItem
 try with_reducible refine wpAny_holding ?_
 first | refine wpAny_bind (wpAny_pure ?_) | skip
 refine wpAny_bind (wpAny_sequenceKey ht.typeIs (by decide) ?_)
 refine wpAny_bind (wpAny_callSpecial?_slot (name:=Str.ofString "__getitem__") ht.typeIs PyProof.Rows.slot_tuple_getitem
  (wpAny_call_entry PyProof.Rows.slot_tuple_getitem ht.typeIs entry_tuple_getitem ?_ (args_tuple_getitem _ _)))
 show wpAny _ _ (Builtin.Tuple.tupleItemsOf (.ref t) >>= _) _ _ s
 refine wpAny_bind (tupleItemsOf_ ht ?_)
 refine wpAny_bind (wpAny_typeOf hTs ?_)
 rw [if_pos (by decide)]
 refine wpAny_bind (zcd hs pl pu ?_)
 have hyes:(((sIx items.size 0 lo:Nat):Int) == 0 && (1:Int) == 1 && (sIx items.size items.size hi - sIx items.size 0 lo) == items.size)=true:=by
  rw [hw.1,hw.2];simp
 show wpAny _ _ (if (((sIx items.size 0 lo:Nat):Int) == 0 && (1:Int) == 1 && (sIx items.size items.size hi - sIx items.size 0 lo) == items.size)=true then _ else _) _ _ s
 rw [if_pos hyes]
 unfold Builtin.Tuple.tupleIsExact
 refine wpAny_bind (wpAny_bind (wpAny_typeOf ht.typeIs (wpAny_pure ?_)))
 rw [if_pos (by decide)]
 refine wpAny_bind (wpAny_rule ?_)
 exact wpAny_pure ⟨_,rfl,wpAny_pure h⟩
end
end HT
namespace L2
open PySem PySem.Spec PyProof.Rows
section
variable {X:Cx}{K:PySem.W.Frag}
noncomputable def rSlTA (K:PySem.W.Frag):V→Option Int→Option Int→Hp→VK→Prop:=fun x lo hi H Q=>∃ a xs,x=.ref a∧SqT K H a xs∧
 ((HT.sIx xs.length 0 lo=0∧HT.sIx xs.length xs.length hi=xs.length)→Q (.ref a) H)∧∀ p,H p=none→Q (.ref p) (upd H p (.tup (cutV xs lo hi)))
theorem zkR:SlR X (fun x lo hi H Q=>∃ a xs,x=.ref a∧SqT X.K H a xs∧(HT.sIx xs.length 0 lo=0∧HT.sIx xs.length xs.length hi=xs.length)∧Q (.ref a) H):=by
 intro pins s σ H x v vl vu lo hi sl Q I rx hs pl pu h
 obtain ⟨a,xs,rfl,hx,hw,q⟩:=h
 cases rx
 obtain ⟨its,r,ht,hz⟩:=I.tuple hx
 have hlen:its.toArray.size=xs.length:=by rw [List.size_toArray];exact r.length.symm
 refine ⟨"tuple",_,PyProof.Rows.slot_tuple_getitem.lookup,ht.typeIs,?_⟩
 exact HT.getItem_tuple_whole ht hs pl pu (by rw [hlen];exact hw) ⟨.ref a,H,I,rfl,q⟩
theorem zkS (hK:X.K=K:=by rfl):SlR X (rSlTA K):=by
 subst hK
 intro pins s σ H x v vl vu lo hi sl Q I rx hs pl pu h
 obtain ⟨a,xs,rfl,hx,h1,h2⟩:=h
 by_cases hw:HT.sIx xs.length 0 lo=0∧HT.sIx xs.length xs.length hi=xs.length
 ·exact zkR pins s σ H _ v vl vu lo hi sl Q I rx hs pl pu ⟨a,xs,rfl,hx,hw,h1 hw⟩
 ·exact zmd pins s σ H _ v vl vu lo hi sl Q I rx hs pl pu ⟨a,xs,rfl,hx,hw,h2⟩
end
end L2
set_option Elab.async false
set_option linter.all false
set_option maxRecDepth 100000
namespace FL
open PySem PySem.Spec PyProof.Rows L2
noncomputable def cmpI (f:Int→Int→Bool):D→D→Option D
 | .int a,.int b=>some (.bl (f a b))
 | _,_=>none
noncomputable abbrev ltD:=cmpI fun i j=>decide (i < j)
noncomputable abbrev leD:=cmpI fun i j=>decide (i≤j)
noncomputable abbrev gtD:=cmpI fun i j=>decide (j < i)
noncomputable def zaK:List D→Option (List Int)
 | []=>some []
 | .int i::l=>(zaK l).map (i::·)
 | _::_=>none
theorem zbx:∀ {l:List D}{ns:List Int},zaK l=some ns→l=ns.map D.int
 | [],ns,h=>by simp [zaK] at h;subst h;rfl
 | .int i::l,ns,h=>by
  simp only [zaK] at h
  cases e:zaK l with
  | none=>rw [e] at h;cases h
  | some ms=>rw [e] at h;cases h;rw [zbx e];rfl
 | .non::_,_,h=>by simp [zaK] at h
 | .bl _::_,_,h=>by simp [zaK] at h
 | .str _::_,_,h=>by simp [zaK] at h
 | .tup _::_,_,h=>by simp [zaK] at h
 | .lst _::_,_,h=>by simp [zaK] at h
 | .scr _::_,_,h=>by simp [zaK] at h
 | .dic _ _::_,_,h=>by simp [zaK] at h
 | .set _::_,_,h=>by simp [zaK] at h
 | .exc _ _::_,_,h=>by simp [zaK] at h
theorem zdx:∀ (ns:List Int),zaK (ns.map D.int)=some ns
 | []=>rfl
 | n::ns=>by rw [List.map_cons,zaK,zdx ns];rfl
noncomputable def geD:D→D→Option D
 | .int a,.int b=>some (.bl (decide (b≤a)))
 | .tup a,.tup b=>(zaK a).bind fun ns=>(zaK b).map fun ms=>.bl (!HT.lexLt ns ms)
 | _,_=>none
noncomputable def isNon:D→Bool
 | .non=>true
 | _=>false
noncomputable def isB (x y:D):Option D:=match y with
 | .non=>some (.bl (isNon x))
 | _=>none
noncomputable def zcT (x y:D):Option D:=match y with
 | .non=>some (.bl (!isNon x))
 | _=>none
section
variable {K:PySem.W.Frag}{X:Cx}
theorem zio {f:Value→Value→Sem Value}{g:Int→Int→Bool} (o:OpR X f (rI0 fun i j=>.bl (g i j))):Op2 K X f .fz (cmpI g):=by
 refine ⟨_,o,fun x y d F H v u Q e s h1 h2 k=>?_⟩
 unfold cmpI at e
 split at e
 ·cases e
  exact ⟨_,_,h1.int_inv,h2.int_inv,k _ F H (Grow.refl s) (Res.bl _)⟩
 ·cases e
theorem p_lt:Op2 K X (compareOp .Lt) .fz ltD:=zio op_lt
theorem p_le:Op2 K X (compareOp .LtE) .fz leD:=zio op_le
theorem p_gt:Op2 K X (compareOp .Gt) .fz gtD:=zio op_gt
theorem p_ge (hu:X.A.units + 100 < cLine) (hK:X.K=K:=by rfl):Op2 K X (compareOp .GtE) .fz geD:=by
 subst hK
 refine ⟨_,op_ge.or (zmG (by omega)),fun x y d F H v u Q e s h1 h2 k=>?_⟩
 unfold geD at e
 split at e
 ·cases e
  exact .inl ⟨_,_,h1.int_inv,h2.int_inv,k _ F H (Grow.refl s) (Res.bl _)⟩
 ·rename_i l m
  cases e1:zaK l with
  | none=>rw [e1] at e;cases e
  | some ns=>
   cases e2:zaK m with
   | none=>rw [e1,e2] at e;cases e
   | some ms=>
    rw [e1,e2] at e;cases e
    rw [zbx e1] at h1
    rw [zbx e2] at h2
    obtain ⟨a,vs,rfl,f1,q1⟩:=h1.tup_inv
    obtain ⟨b,us,rfl,f2,q2⟩:=h2.tup_inv
    rw [q1.ints] at f1
    rw [q2.ints] at f2
    exact .inr ⟨a,b,ns,ms,rfl,rfl,SqT.of (s _ _ f1),SqT.of (s _ _ f2),k _ F H (Grow.refl s) (Res.bl _)⟩
 ·cases e
theorem DatB.isNon {F H:Hp}{d:D} {v:V}(h:DatB K F H d v):decide (v=.non)=FL.isNon d:=by
 cases d with
 | non=>rw [h.non_inv];rfl
 | bl b=>rw [h.bl_inv];rfl
 | int b=>rw [h.int_inv];rfl
 | str b=>rw [h.str_inv];rfl
 | tup l=>obtain ⟨a,vs,rfl,_⟩:=h.tup_inv;rfl
 | lst l=>obtain ⟨a,vs,rfl,_⟩:=h.lst_inv;rfl
 | scr l=>obtain ⟨a,rfl,_⟩:=h.scr_inv;rfl
 | dic k l=>obtain ⟨a,vs,rfl,_⟩:=h.dic_inv;rfl
 | set l=>obtain ⟨a,rfl,_⟩:=h;rfl
 | exc c d=>obtain ⟨a,_,_,_,rfl,_⟩:=h.exc_inv;rfl
theorem zlm:Op2 K X (compareOp .IsNot) .fz zcT:=by
 refine ⟨_,zlo,fun x y d F H v u Q e s h1 h2 k=>?_⟩
 cases y<;>simp only [zcT] at e<;>try (cases e;done)
 cases e
 refine ⟨h2.non_inv,?_⟩
 rw [h1.isNon]
 exact k _ F H (Grow.refl s) (Res.bl _)
theorem DatL.atI {F:Hp}{l:List D} {vs:List V}(q:DatL K F l vs) {i:Int}{d:D} (h:L2.atI l i=some d):∃ v,L2.atI vs i=some v∧Dat K F d v:=by
 unfold L2.atI at h ⊢
 rw [q.length]
 cases e:ixN l.length i with
 | none=>rw [e] at h;cases h
 | some j=>
  rw [e] at h
  exact q.get h
noncomputable def idxD:D→D→Option D
 | .lst l,.int i=>L2.atI l i
 | .tup l,.int i=>L2.atI l i
 | .scr l,.int i=>(L2.atI l i).map D.int
 | .str z,.int i=>if z.length≤lim then (L2.atI z.cps.toList i).map fun c=>.str ⟨#[c]⟩ else none
 | _,_=>none
theorem p_ix (hK:X.K=K:=by rfl):Ix2 K X .fz idxD:=by
 subst hK
 refine ⟨_,zly.or (zmX.or zmY),fun x y d F H v u Q e s h1 h2 k=>?_⟩
 unfold idxD at e
 split at e
 ·obtain ⟨a,vs,rfl,f,q⟩:=h1.lst_inv
  obtain ⟨w,hw,dw⟩:=q.atI e
  exact .inl ⟨a,vs,_,w,rfl,h2.int_inv,SqL.of f,hw,k _ F H (Grow.refl s) dw⟩
 ·obtain ⟨a,vs,rfl,f,q⟩:=h1.tup_inv
  obtain ⟨w,hw,dw⟩:=q.atI e
  exact .inr (.inl ⟨a,vs,_,w,rfl,h2.int_inv,SqT.of (s _ _ f),hw,k _ F H (Grow.refl s) dw⟩)
 ·rename_i ns i
  obtain ⟨a,rfl,f⟩:=h1.scr_inv
  cases e1:L2.atI ns i with
  | none=>rw [e1] at e;cases e
  | some c=>
   rw [e1] at e;cases e
   refine .inl ⟨a,_,i,.int c,rfl,h2.int_inv,Same.seq s f,?_,k _ F H (Grow.refl s) (Res.int _)⟩
   unfold L2.atI at e1 ⊢
   rw [List.length_map]
   cases e2:ixN ns.length i with
   | none=>rw [e2] at e1;cases e1
   | some j=>
    rw [e2] at e1
    have e1':ns[j]?=some c:=e1
    show (ns.map V.int)[j]?=_
    rw [List.getElem?_map,e1'];rfl
 ·obtain ⟨hz,e⟩:_∧_:=by
   split at e
   ·rename_i hz;exact ⟨hz,e⟩
   ·cases e
  rename_i z i _
  cases e1:L2.atI z.cps.toList i with
  | none=>rw [e1] at e;cases e
  | some c=>
   rw [e1] at e;cases e
   exact .inr (.inr ⟨z,i,c,h1.str_inv,h2.int_inv,zdm hz,e1,k _ F H (Grow.refl s) (Res.str _)⟩)
 ·cases e
end
noncomputable def cutG {α:Type}(xs:List α) (lo hi:Option Int):List α:=(xs.drop (HT.sIx xs.length 0 lo)).take (HT.sIx xs.length xs.length hi - HT.sIx xs.length 0 lo)
theorem DatL.cut {K:PySem.W.Frag}{F:Hp} {l:List D}{vs:List V} (q:DatL K F l vs) (lo hi:Option Int):DatL K F (cutG l lo hi) (cutV vs lo hi):=by
 unfold cutG cutV
 rw [q.length]
 exact (q.drop _).take _
noncomputable def zaA (x:D) (lo hi:Option Int):Option D:=match x with
 | .tup l=>some (.tup (cutG l lo hi))
 | .lst l=>some (.lst (cutG l lo hi))
 | .scr l=>some (.lst ((cutG l lo hi).map D.int))
 | .str z=>if z.length≤lim then some (.str (Txt.slice z lo hi)) else none
 | _=>none
noncomputable def zdT (x:D) (lo hi:Option Int):Option D:=match x with
 | .lst l=>some (.lst (cutG l lo hi))
 | .scr l=>some (.lst ((cutG l lo hi).map D.int))
 | _=>none
theorem zgL {α β:Type}(f:α→β) (l:List α) (lo hi:Option Int):cutG (l.map f) lo hi=(cutG l lo hi).map f:=by
 unfold cutG
 rw [List.length_map,List.map_take,List.map_drop]
theorem zkk (l:List Int) (lo hi:Option Int):cutV (l.map V.int) lo hi=(cutG l lo hi).map V.int:=zgL _ _ _ _
noncomputable def rdO (K:PySem.W.Frag) (ρ:En) (o:Option Int):TO:=fun σ H Q=>∃ F,Rel K F H ρ σ∧∀ F' H',Grow F H F' H'→Q o H'
structure FPO (K:PySem.W.Frag) (X:Cx) (e:Option Expr) (f:En→Option (Option Int)):Prop where
 h:∀ ρ o,f ρ=some o→PO X e (rdO K ρ o)
theorem PO.imp {X:Cx}{e:Option Expr} {t t':TO}(h:PO X e t) (w:∀ σ H Q,t' σ H Q→t σ H Q):PO X e t':=fun pins s σ H Q I ht=>h pins s σ H Q I (w σ H Q ht)
noncomputable def zbk:En→Option (Option Int):=fun _=>some none
noncomputable def zaY (f:En→Option D):En→Option (Option Int):=fun ρ=>match f ρ with
 | some (.int i)=>some (some i)
 | _=>none
noncomputable def cS (p:D→Option Int→Option Int→Option D) (fa:En→Option D) (fl fh:En→Option (Option Int)):En→Option D:=fun ρ=>(fa ρ).bind fun x=>(fl ρ).bind fun lo=>(fh ρ).bind fun hi=>p x lo hi
section
variable {K:PySem.W.Frag}{X:Cx} {a:Expr}{fa:En→Option D} {pos p2:Pos}{lo hi:Option Expr} {fl fh:En→Option (Option Int)}
theorem zbv:FPO K X none zbk:=FPO.mk fun ρ o hf=>PO.imp zle fun σ H Q ⟨F,r,q⟩=>by
 cases hf;exact q F H (Grow.refl r.sub)
theorem zbe {e:Expr}{f:En→Option D} (h:FP K .fz X e f):FPO K X (some e) (zaY f):=FPO.mk fun ρ o hf=>by
 unfold zaY at hf
 split at hf
 ·rename_i i e1
  cases hf
  exact PO.imp (zld (h.h ρ _ e1)) fun σ H Q ⟨F,r,q⟩=>⟨F,r,fun v F' H' g hr=>⟨i,Dat.int_inv (K:=K) (F:=F') hr,q F' H' g⟩⟩
 ·cases hf
noncomputable def Sl3 (K:PySem.W.Frag) (X:Cx) (md:Md) (p:D→Option Int→Option Int→Option D):Prop:=
 ∃ r,SlR X r∧∀ x lo hi d F H v Q,p x lo hi=some d→Same F H→DatB K F H x v→(∀ w F' H',Grow F H F' H'→Res K md H F' H' d w→Q w H')→r v lo hi H Q
theorem zbm {md:Md}{p:D→Option Int→Option Int→Option D} (o:Sl3 K X md p) (ha:FP K .br X a fa) (hl:FPO K X lo fl) (hh:FPO K X hi fh):FP K md X (.Subscript a (.Slice lo hi none p2) pos) (cS p fa fl fh):=FP.mk fun ρ d hf=>by
 unfold cS at hf
 cases e1:fa ρ with
 | none=>rw [e1] at hf;cases hf
 | some x=>
  cases e2:fl ρ with
  | none=>rw [e1,e2] at hf;cases hf
  | some l=>
   cases e3:fh ρ with
   | none=>rw [e1,e2,e3] at hf;cases hf
   | some h=>
    rw [e1,e2,e3] at hf
    obtain ⟨r,ho,hr⟩:=o
    refine PE.imp (zjB ho (ha.h ρ x e1) (hl.h ρ l e2) (hh.h ρ h e3)) fun σ H Q h_=>?_
    obtain ⟨F,rl,q⟩:=h_
    refine ⟨F,rl,fun v F1 H1 g1 r1=>⟨F1,rl.grow g1,fun F2 H2 g2=>⟨F2,(rl.grow g1).grow g2,fun F3 H3 g3=>?_⟩⟩⟩
    refine hr x l h d F3 H3 v Q hf g3.fh (DatB.mono (g2.trans g3).ff (g2.trans g3).hh r1) fun w F4 H4 g4 r4=>?_
    have g:=g1.trans (g2.trans (g3.trans g4))
    refine q w F4 H4 g ?_
    cases md with
    | fz=>exact r4
    | br=>exact r4
    | ow=>
     obtain ⟨a,e,h1,h2,h3⟩:=r4
     exact ⟨a,e,(g1.hh.trans (g2.hh.trans g3.hh)).free h1,h2,h3⟩
theorem zaN (hK:X.K=K:=by rfl):Sl3 K X .fz zaA:=by
 subst hK
 refine ⟨_,SlR.or (zkS rfl) (SlR.or zkT zme),fun x lo hi d F H v Q e s h1 k=>?_⟩
 cases x<;>simp only [zaA] at e<;>try (cases e;done)
 ·obtain ⟨hz,rfl⟩:=zau e
  exact .inr (.inr ⟨_,h1.str_inv,zdm hz,fun y _ ey=>by subst ey;exact k _ F H (Grow.refl s) (Res.str _)⟩)
 ·rename_i l
  cases e
  obtain ⟨a,vs,rfl,f,q⟩:=h1.tup_inv
  refine .inl ⟨a,vs,rfl,SqT.of (s _ _ f),fun hw=>?_,fun p hp=>?_⟩
  ·refine k _ F H (Grow.refl s) ?_
   have e:cutG l lo hi=l:=by
    unfold cutG
    rw [q.length] at hw
    rw [hw.1,hw.2,List.drop_zero,Nat.sub_zero,List.take_length]
   rw [e];exact h1
  ·have g:=Grow.frozen (o:=.tup (cutV vs lo hi)) s hp
   exact k _ _ _ g (Dat.tup (K:=X.K) zag ((q.mono g.ff).cut lo hi))
 ·cases e
  obtain ⟨a,vs,rfl,f,q⟩:=h1.lst_inv
  refine .inr (.inl ⟨a,vs,rfl,SqL.of f,fun p hp=>?_⟩)
  have g:=Grow.frozen (o:=.lst (cutV vs lo hi)) s hp
  exact k _ _ _ g (Dat.lst (K:=X.K) zag ((q.mono g.ff).cut lo hi))
 ·rename_i ns
  cases e
  obtain ⟨a,rfl,f⟩:=h1.scr_inv
  refine .inr (.inl ⟨a,_,rfl,Same.seq s f,fun p hp=>?_⟩)
  rw [zkk]
  have g:=Grow.frozen (o:=.lst ((cutG ns lo hi).map V.int)) s hp
  exact k _ _ _ g (Dat.lst (K:=X.K) zag (DatL.ofInts _))
noncomputable def revD:D→Option D
 | .lst l=>some (.lst l.reverse)
 | _=>none
noncomputable def revX (x y:D):Option D:=match y with
 | .int (-1)=>revD x
 | _=>none
end
noncomputable def zhM (K:PySem.W.Frag) (F H:Hp):List D→List V→Prop
 | [],vs=>vs=[]
 | d::l,vs=>∃ v r,vs=v::r∧DatB K F H d v∧zhM K F H l r
noncomputable def ResL (K:PySem.W.Frag) (fz:Bool) (F' H':Hp) (ds:List D) (vs:List V):Prop:=if fz=true then DatL K F' ds vs else zhM K F' H' ds vs
noncomputable def rdA (K:PySem.W.Frag) (fz:Bool) (ρ:En) (ds:List D):TA:=fun σ H Q=>∃ F,Rel K F H ρ σ∧∀ vs F' H',Grow F H F' H'→ResL K fz F' H' ds vs→Q vs H'
structure FPs (K:PySem.W.Frag) (fz:Bool) (X:Cx) (es:List Expr) (f:En→Option (List D)):Prop where
 h:∀ ρ ds,f ρ=some ds→PA X es (rdA K fz ρ ds)
noncomputable def nilF:En→Option (List D):=fun _=>some []
noncomputable def zab (f:En→Option D) (fs:En→Option (List D)):En→Option (List D):=fun ρ=>(f ρ).bind fun d=>(fs ρ).map fun l=>d::l
noncomputable def cL (p:List D→Option D) (fs:En→Option (List D)):En→Option D:=fun ρ=>(fs ρ).bind p
noncomputable def zbW (l:List D):Option D:=if l.length≤lim then some (.tup l) else none
noncomputable def zbc (l:List D):Option D:=if l.length≤lim then some (.lst l) else none
section
variable {K:PySem.W.Frag}{X:Cx} {e:Expr}{es:List Expr} {f:En→Option D}{fs:En→Option (List D)} {pos:Pos}{fz:Bool}
theorem fnil:FPs K fz X [] nilF:=FPs.mk fun ρ ds hf=>PA.imp zaV fun σ H Q ⟨F,r,q⟩=>by
 cases hf
 refine q [] F H (Grow.refl r.sub) ?_
 unfold ResL
 split
 ·exact DatL.nil
 ·rfl
theorem zeQ {ρ:En}{ds:List D} (h:zab f fs ρ=some ds):∃ d l,f ρ=some d∧fs ρ=some l∧ds=d::l:=by
 unfold zab at h
 cases e1:f ρ with
 | none=>rw [e1] at h;cases h
 | some d=>
  cases e2:fs ρ with
  | none=>rw [e1,e2] at h;cases h
  | some l=>rw [e1,e2] at h;cases h;exact ⟨d,l,rfl,rfl,rfl⟩
theorem zaf (h1:FP K .fz X e f) (h2:FPs K true X es fs) (hs:starEach (e::es) X.env=(false,eval e X.env)::starEach es X.env:=by rfl):FPs K true X (e::es) (zab f fs):=FPs.mk fun ρ ds hf=>by
 obtain ⟨d,l,e1,e2,rfl⟩:=zeQ hf
 refine PA.imp (zaq (h1.h ρ d e1) (h2.h ρ l e2) hs) fun σ H Q h_=>?_
 obtain ⟨F,r,q⟩:=h_
 refine ⟨F,r,fun v F1 H1 g1 r1=>⟨F1,r.grow g1,fun vs F2 H2 g2 r2=>?_⟩⟩
 exact q (v::vs) F2 H2 (g1.trans g2) (DatL.cons (Dat.mono g2.ff r1) r2)
theorem zdf (h1:FP K .br X e f) (h2:FPs K false X es fs) (hs:starEach (e::es) X.env=(false,eval e X.env)::starEach es X.env:=by rfl):FPs K false X (e::es) (zab f fs):=FPs.mk fun ρ ds hf=>by
 obtain ⟨d,l,e1,e2,rfl⟩:=zeQ hf
 refine PA.imp (zaq (h1.h ρ d e1) (h2.h ρ l e2) hs) fun σ H Q h_=>?_
 obtain ⟨F,r,q⟩:=h_
 refine ⟨F,r,fun v F1 H1 g1 r1=>⟨F1,r.grow g1,fun vs F2 H2 g2 r2=>?_⟩⟩
 exact q (v::vs) F2 H2 (g1.trans g2) ⟨v,vs,rfl,DatB.mono g2.ff g2.hh r1,r2⟩
theorem zeu {p:List D→Option D}{ρ:En} {d:D}(h:cL p fs ρ=some d):∃ l,fs ρ=some l∧p l=some d:=by
 unfold cL at h
 cases e1:fs ρ with
 | none=>rw [e1] at h;cases h
 | some l=>rw [e1] at h;exact ⟨l,rfl,h⟩
theorem ftup {x1} (h:FPs K true X es fs):FP K .fz X (.Tuple es x1 pos) (cL zbW fs):=FP.mk fun ρ d hf=>by
 obtain ⟨l,e1,e2⟩:=zeu hf
 obtain ⟨hz,rfl⟩:=zau e2
 refine PE.imp (zkx (h.h ρ l e1)) fun σ H Q ⟨F,r,q⟩=>⟨F,r,fun vs F1 H1 g1 r1=>⟨?_,fun p hp=>?_⟩⟩
 ·rw [DatL.length (K:=K) (F:=F1) r1];exact zdm hz
 ·have g:=Grow.frozen (o:=.tup vs) g1.fh hp
  exact q _ _ _ (g1.trans g) (Dat.tup (K:=K) zag (DatL.mono g.ff r1))
theorem flst (h:FPs K true X es fs):FP K .ow X (.List es pos) (cL zbc fs):=FP.mk fun ρ d hf=>by
 obtain ⟨l,e1,e2⟩:=zeu hf
 obtain ⟨hz,rfl⟩:=zau e2
 refine PE.imp (zmy (h.h ρ l e1)) fun σ H Q ⟨F,r,q⟩=>⟨F,r,fun vs F1 H1 g1 r1=>⟨?_,fun p hp=>?_⟩⟩
 ·rw [DatL.length (K:=K) (F:=F1) r1];exact zdm hz
 ·exact q _ _ _ (g1.trans (Grow.fresh g1.fh hp)) ⟨p,rfl,g1.hh.free hp,g1.fh.free hp,vs,zag,r1⟩
end
end FL
set_option Elab.async false
set_option linter.all false
set_option maxRecDepth 100000
namespace FL
open PySem PySem.Spec PyProof.Rows L2
noncomputable def zjk (K:PySem.W.Frag) (X:Cx) (f:Value) (md:Md) (p:List D→Option D):Prop:=
 ∃ r,zcN X f r∧∀ ds d F H vs Q,p ds=some d→Same F H→zhM K F H ds vs→(∀ w F' H',Grow F H F' H'→Res K md H F' H' d w→Q w H')→r vs H Q
section
variable {K:PySem.W.Frag}{X:Cx} {e:Expr}{es:List Expr} {f:En→Option D}{fs:En→Option (List D)} {pos p:Pos}{md:Md} {pf:List D→Option D}{x:Str} {id T:String}
theorem zgS {r:List V→Hp→VK→Prop}{ρ:En} {l:List D}{d:D} (hr:∀ F H vs Q,Same F H→zhM K F H l vs→(∀ w F' H',Grow F H F' H'→Res K md H F' H' d w→Q w H')→r vs H Q)
  (σ:St) (H:Hp) (Q:VK) (h:rdE K md ρ d σ H Q):tCB r (rdA K false ρ l) σ H Q:=by
 obtain ⟨F,rl,q⟩:=h
 refine ⟨F,rl,fun vs F1 H1 g1 r1=>hr F1 H1 vs Q g1.fh r1 fun w F2 H2 g2 r2=>?_⟩
 refine q w F2 H2 (g1.trans g2) ?_
 cases md with
 | fz=>exact r2
 | br=>exact r2
 | ow=>
  obtain ⟨a,e,h1,h2,h3⟩:=r2
  exact ⟨a,e,g1.hh.free h1,h2,h3⟩
theorem zbE (o:zjk K X (.builtin id) md pf) (hg:Gl X x) (hm:X.mg x=none) (hv:bootBuiltins x=some (.builtin id)) (ha:FPs K false X (e::es) fs) (hn:x ≠ "__name__" := by decide) (hdb:(x == ("__debug__" : Str))=false:=by decide)
  (he:starEach (e::es) X.env=(false,eval e X.env)::starEach es X.env:=by rfl) (hpl:(backTo pos (starEach es X.env)).any (·.1)=false:=by rfl):FP K md X (.Call (.Name x p) (e::es) [] pos) (cL pf fs):=FP.mk fun ρ d hf=>by
 obtain ⟨l,e1,e2⟩:=zeu hf
 obtain ⟨r,ho,hr⟩:=o
 exact PE.imp (zcE ho hg hm hv (ha.h ρ l e1) hn hdb he hpl) (zgS fun F H vs Q s h k=>hr l d F H vs Q e2 s h k)
theorem zne (o:zjk K X (.type T) md pf) (hg:Gl X x) (hm:X.mg x=none) (hv:bootBuiltins x=some (.type T)) (ha:FPs K false X (e::es) fs) (hn:x ≠ "__name__" := by decide) (hdb:(x == ("__debug__" : Str))=false:=by decide)
  (he:starEach (e::es) X.env=(false,eval e X.env)::starEach es X.env:=by rfl) (hpl:(backTo pos (starEach es X.env)).any (·.1)=false:=by rfl):FP K md X (.Call (.Name x p) (e::es) [] pos) (cL pf fs):=FP.mk fun ρ d hf=>by
 obtain ⟨l,e1,e2⟩:=zeu hf
 obtain ⟨r,ho,hr⟩:=o
 exact PE.imp (zik ho hg hm hv (ha.h ρ l e1) hn hdb he hpl) (zgS fun F H vs Q s h k=>hr l d F H vs Q e2 s h k)
theorem zhM.one {F H:Hp}{d:D} {vs:List V}(h:zhM K F H [d] vs):∃ v,vs=[v]∧DatB K F H d v:=by
 obtain ⟨v,r,rfl,h1,rfl⟩:=h;exact ⟨v,rfl,h1⟩
noncomputable def lenD:List D→Option D
 | [.lst l]=>some (.int l.length)
 | [.tup l]=>some (.int l.length)
 | [.scr l]=>some (.int l.length)
 | [.str z]=>if z.length≤lim then some (.int z.length) else none
 | _=>none
theorem zdy (hK:X.K=K:=by rfl):zjk K X (.builtin "len") .fz lenD:=by
 subst hK
 refine ⟨_,zcN.or zga zfZ,fun ds d F H vs Q e s h k=>?_⟩
 unfold lenD at e
 split at e
 ·obtain ⟨v,rfl,h1⟩:=h.one
  cases e
  obtain ⟨a,vs,rfl,f,q⟩:=h1.lst_inv
  refine .inl ⟨a,vs,rfl,.inl (SqL.of f),?_⟩
  rw [q.length];exact k _ F H (Grow.refl s) (Res.int _)
 ·obtain ⟨v,rfl,h1⟩:=h.one
  cases e
  obtain ⟨a,vs,rfl,f,q⟩:=h1.tup_inv
  refine .inl ⟨a,vs,rfl,.inr (SqT.of (s _ _ f)),?_⟩
  rw [q.length];exact k _ F H (Grow.refl s) (Res.int _)
 ·obtain ⟨v,rfl,h1⟩:=h.one
  cases e
  obtain ⟨a,rfl,f⟩:=h1.scr_inv
  refine .inl ⟨a,_,rfl,.inl (Same.seq s f),?_⟩
  rw [List.length_map];exact k _ F H (Grow.refl s) (Res.int _)
 ·obtain ⟨v,rfl,h1⟩:=h.one
  obtain ⟨hz,rfl⟩:=zau e
  rw [h1.str_inv]
  exact .inr ⟨_,rfl,zdm hz,k _ F H (Grow.refl s) (Res.int _)⟩
 ·cases e
noncomputable def zcO:List D→Option D
 | [.lst l]=>some (.tup l)
 | [.tup l]=>some (.tup l)
 | _=>none
theorem zlO (hK:X.K=K:=by rfl):zjk K X (.type "tuple") .fz zcO:=by
 subst hK
 refine ⟨_,zft,fun ds d F H vs Q e s h k=>?_⟩
 unfold zcO at e
 split at e
 ·obtain ⟨v,rfl,h1⟩:=h.one
  cases e
  obtain ⟨a,vs,rfl,f,q⟩:=h1.lst_inv
  refine ⟨a,vs,rfl,.inl ⟨SqL.of f,fun p hp=>?_⟩⟩
  have g:=Grow.frozen (o:=.tup vs) s hp
  exact k _ _ _ g (Dat.tup (K:=X.K) zag (q.mono g.ff))
 ·obtain ⟨v,rfl,h1⟩:=h.one
  cases e
  obtain ⟨a,vs,rfl,f,q⟩:=id h1.tup_inv
  exact ⟨a,vs,rfl,.inr ⟨SqT.of (s _ _ f),k _ F H (Grow.refl s) h1⟩⟩
 ·cases e
noncomputable def zgy:List D→Option D
 | [.lst l]=>some (.lst l)
 | [.tup l]=>some (.lst l)
 | _=>none
noncomputable def zmM (ns:List Int):Prop:=(∀ n∈ns,0≤n)∧ns.sum < 2 ^ 62
open Classical in
noncomputable def sumD:List D→Option D
 | [.lst l]=>(zaK l).bind fun ns=>if zmM ns then some (.int ns.sum) else none
 | _=>none
theorem c_sum (hc:X.calm=true) (hK:X.K=K:=by rfl):zjk K X (.builtin "sum") .fz sumD:=by
 subst hK
 refine ⟨_,zjd hc,fun ds d F H vs Q e s h k=>?_⟩
 unfold sumD at e
 split at e
 ·rename_i l
  cases e1:zaK l with
  | none=>rw [e1] at e;cases e
  | some ns=>
   rw [e1] at e
   obtain ⟨hz,rfl⟩:=zau e
   obtain ⟨v,rfl,h1⟩:=h.one
   rw [zbx e1] at h1
   obtain ⟨a,vs,rfl,f,q⟩:=h1.lst_inv
   rw [q.ints] at f
   exact ⟨a,ns,rfl,SqL.of f,zhm hz.1 hz.2,k _ F H (Grow.refl s) (Res.int _)⟩
 ·cases e
noncomputable def absD:List D→Option D
 | [.int i]=>some (.int (if i < 0 then -i else i))
 | _=>none
noncomputable def intD:List D→Option D
 | [.int i]=>some (.int i)
 | [.bl k]=>some (.int (if k then 1 else 0))
 | _=>none
noncomputable def zeD (x y:D):Option D:=match x,y with
 | .lst l,.int d=>(zaK l).map fun ns=>.int (maxD ns d)
 | _,_=>none
theorem fmaxD {a b:Expr}{fa fb:En→Option D} {kp:Pos}(hc:X.calm=true) (hg:Gl X "max") (hm:X.mg "max" = none) (ha:FP K .br X a fa) (hb:FP K .fz X b fb)
  (hs:starEach [a] X.env=[(false,eval a X.env)]:=by rfl) (hK:X.K=K:=by rfl)
  (H1:∀ {ta tb:TE},X.calm=true→Gl X "max" → X.mg "max" = none→PE X a ta→PE X b tb→PE X (.Call (.Name "max" p) [a] [⟨some "default",b,kp⟩] pos) (tCBK (fun xs zs H Q=>∃ (p:Addr) (ns:List Int) (d:Int),xs=[.ref p]∧zs=[.int d]∧SqL X.K H p (ns.map V.int)∧Q (.int (maxD ns d)) H) (zex ta tNil) (zex tb tNil)):=by
   exact fun hc hg hm ha hb=>zil (zje hc) hg hm PyProof.Rows.boot_max (zaq ha zaV) (zlf hb zms)) :
  FP K .fz X (.Call (.Name "max" p) [a] [⟨some "default",b,kp⟩] pos) (c2 zeD fa fb):=FP.mk fun ρ d hf=>by
 subst hK
 obtain ⟨x,y,e1,e2,e3⟩:=zdh hf
 refine PE.imp (H1 hc hg hm (ha.h ρ x e1) (hb.h ρ y e2)) fun σ H Q h_=>?_
 obtain ⟨F,rl,q⟩:=h_
 unfold zeD at e3
 split at e3
 ·rename_i l dd
  cases e4:zaK l with
  | none=>rw [e4] at e3;cases e3
  | some ns=>
   rw [e4] at e3;cases e3
   rw [zbx e4]
   refine ⟨F,rl,fun v F1 H1 g1 r1=>⟨F1,rl.grow g1,fun u F2 H2 g2 r2=>?_⟩⟩
   obtain ⟨a,vs,rfl,f,qq⟩:=DatB.lst_inv (DatB.mono g2.ff g2.hh r1)
   rw [qq.ints] at f
   have ru:=Dat.int_inv (K:=X.K) (F:=F2) r2
   subst ru
   exact ⟨a,ns,dd,rfl,rfl,SqL.of f,q _ F2 H2 (g1.trans g2) (Res.int _)⟩
 ·cases e3
noncomputable def tyN:D→Option String
 | .non=>some "NoneType"
 | .bl _=>some "bool"
 | .int _=>some "int"
 | .str _=>some "str"
 | .tup _=>some "tuple"
 | .lst _=>some "list"
 | .dic _ _=>some "dict"
 | _=>none
noncomputable def isiB (k T:String):Bool:=k == T || (k == "bool" && T == "int")
theorem zlx (K:PySem.W.Frag):(["NoneType", "bool", "int", "str", "tuple", "list", "dict"].all fun k=>["bool", "int", "str", "tuple", "list", "dict"].all fun T=>PySem.W.kitOne K (.type k) (.type T) == some (isiB k T))=true:=by kernel_rfl
theorem zmR (K:PySem.W.Frag) {k T:String}(hk:k∈["NoneType", "bool", "int", "str", "tuple", "list", "dict"]) (hT:T∈["bool", "int", "str", "tuple", "list", "dict"]):PySem.W.kitOne K (.type k) (.type T)=some (isiB k T):=by
 have h:=List.all_eq_true.mp (zlx K) k hk
 exact eq_of_beq (List.all_eq_true.mp h T hT)
noncomputable def isiD (T:String) (x:D):Option D:=(tyN x).map fun k=>.bl (isiB k T)
theorem zkN {d:D}{k:String} (h:tyN d=some k):k∈["NoneType", "bool", "int", "str", "tuple", "list", "dict"]:=by
 cases d<;>simp only [tyN] at h<;>cases h<;>decide
theorem zlX {F H:Hp}{d:D} {v:V}{k:String} (s:Same F H) (h:DatB K F H d v) (e:tyN d=some k):TyOf K H v (.type k):=by
 cases d<;>simp only [tyN] at e<;>cases e
 ·rw [h.non_inv];exact .non
 ·rw [h.bl_inv];exact .bl _
 ·rw [h.int_inv];exact .int _
 ·rw [h.str_inv];exact .str _
 ·obtain ⟨a,vs,rfl,f,_⟩:=h.tup_inv;exact .tup (s _ _ f)
 ·obtain ⟨a,vs,rfl,f,_⟩:=h.lst_inv;exact .lst f
 ·obtain ⟨a,vs,rfl,f,_⟩:=h.dic_inv
  rcases f with (⟨kvs,f,_⟩ | ⟨kvs,f,_⟩) | ⟨o,⟨kvs,f,_⟩ | ⟨kvs,f,_⟩⟩
  ·exact .dK (.inl f)
  ·exact .dT (.inl f)
  ·exact .dK (.inr ⟨o,f⟩)
  ·exact .dT (.inr ⟨o,f⟩)
theorem fisi {a:Expr}{fa:En→Option D} {T:String}{y:Str} {p2:Pos}(ha:FP K .br X a fa) (hg:Gl X "isinstance") (hm:X.mg "isinstance" = none) (hgT:Gl X y) (hmT:X.mg y=none) (hv:bootBuiltins y=some (.type T)) (hT:T∈["bool", "int", "str", "tuple", "list", "dict"]:=by decide)
  (hn:y ≠ "__name__" := by decide) (hd:(y == ("__debug__" : Str))=false:=by decide) (he:starEach [a,.Name y p2] X.env=(false,eval a X.env)::starEach [.Name y p2] X.env:=by rfl) (he2:starEach [.Name y p2] X.env=[(false,eval (.Name y p2) X.env)]:=by rfl)
  (hpl:(backTo pos (starEach [.Name y p2] X.env)).any (·.1)=false:=by rfl) (hK:X.K=K:=by rfl) :
  FP K .fz X (.Call (.Name "isinstance" p) [a,.Name y p2] [] pos) (c1 (isiD T) fa):=FP.mk fun ρ d hf=>by
 subst hK
 obtain ⟨x,e1,e2⟩:=zdz hf
 unfold isiD at e2
 cases e3:tyN x with
 | none=>rw [e3] at e2;cases e2
 | some k=>
  rw [e3] at e2;cases e2
  refine PE.imp (zcE zkn hg hm boot_isinstance (zaq (ha.h ρ x e1) (zaq (zgs (v:=.ty T) hgT hmT hv rfl hn hd) zaV he2) he) (by decide) (by decide) he hpl) fun σ H Q h_=>?_
  obtain ⟨F,rl,q⟩:=h_
  refine ⟨F,rl,fun v F1 H1 g1 r1=>⟨v,T,_,_,rfl,zlX g1.fh r1 e3,zmR X.K (zkN e3) hT,q _ F1 H1 g1 (Res.bl _)⟩⟩
end
end FL
set_option Elab.async false
set_option linter.all false
set_option maxRecDepth 100000
namespace FL
open PySem PySem.Spec PyProof.Rows L2
noncomputable def rdTp (K:PySem.W.Frag) (ρ:En) (b:Bool):TT:=fun σ H Q=>∃ F,Rel K F H ρ σ∧∀ F' H',Grow F H F' H'→Q b H'
structure FTp (K:PySem.W.Frag) (X:Cx) (e:Expr) (f:En→Option Bool):Prop where
 h:∀ ρ b,f ρ=some b→PT X e (rdTp K ρ b)
structure FWp (K:PySem.W.Frag) (X:Cx) (e:Expr) (f:En→Option Bool):Prop where
 h:∀ ρ b,f ρ=some b→PW X e (rdTp K ρ b)
noncomputable def rdT (K:PySem.W.Frag) (ρ:En) (b:Bool) (ρ':En):TT:=fun σ H Q=>∃ F,Rel K F H ρ σ∧∀ F' H',Rel K F' H' ρ' σ→Step ρ σ F H ρ' σ F' H'→Q b H'
structure FT (K:PySem.W.Frag) (X:Cx) (e:Expr) (m:En→Option (Bool×En)):Prop where
 h:∀ ρ b ρ',m ρ=some (b,ρ')→PT X e (rdT K ρ b ρ')
noncomputable def cT (f:En→Option D):En→Option Bool:=fun ρ=>match f ρ with
 | some (.bl b)=>some b
 | _=>none
noncomputable def andP (f g:En→Option Bool):En→Option Bool:=fun ρ=>(f ρ).bind fun b=>if b=true then g ρ else some false
noncomputable def orP (f g:En→Option Bool):En→Option Bool:=fun ρ=>(f ρ).bind fun b=>if b=true then some true else g ρ
noncomputable def notP (f:En→Option Bool):En→Option Bool:=fun ρ=>(f ρ).map fun b=>!b
noncomputable def upT (f:En→Option Bool):En→Option (Bool×En):=fun ρ=>(f ρ).map fun b=>(b,ρ)
theorem zjf {f:En→Option D}{ρ:En} {b:Bool}(h:cT f ρ=some b):f ρ=some (.bl b):=by
 unfold cT at h
 split at h
 ·rename_i e;cases h;exact e
 ·cases h
theorem zjh {f g:En→Option Bool}{ρ:En} {b:Bool}(h:andP f g ρ=some b):(f ρ=some true∧g ρ=some b)∨(f ρ=some false∧b=false):=by
 unfold andP at h
 cases e:f ρ with
 | none=>rw [e] at h;cases h
 | some c=>
  rw [e] at h
  cases c with
  | true=>exact .inl ⟨rfl,h⟩
  | false=>exact .inr ⟨rfl,(Option.some.inj h).symm⟩
theorem zjG {f g:En→Option Bool}{ρ:En} {b:Bool}(h:orP f g ρ=some b):(f ρ=some false∧g ρ=some b)∨(f ρ=some true∧b=true):=by
 unfold orP at h
 cases e:f ρ with
 | none=>rw [e] at h;cases h
 | some c=>
  rw [e] at h
  cases c with
  | false=>exact .inl ⟨rfl,h⟩
  | true=>exact .inr ⟨rfl,(Option.some.inj h).symm⟩
theorem zgZ {X:Cx}{e:Expr}:PW X e (fun _ _ _=>False):=fun _ _ _ _ _ _ _ h=>h.elim
theorem zjI {X:Cx}{e:Expr}:PE X e (fun _ _ _=>False):=fun _ _ _ _ _ _ h=>h.elim
section
variable {K:PySem.W.Frag}{X:Cx} {a b e:Expr}{rest:List Expr} {fa fb f:En→Option D}{pos:Pos} {p:D→D→Option D}{t u:En→Option Bool} {m n:En→Option (Bool×En)}
theorem tcmp {op:CmpOp}(o:Op2 K X (compareOp op) .fz p) (ha:FP K .br X a fa) (hb:FP K .br X b fb) (hm:behindInMarks op b=false):FTp K X (.Compare a [op] [b] pos) (cT (c2 p fa fb)):=FTp.mk fun ρ c hf=>by
 obtain ⟨x,y,e1,e2,e3⟩:=zdh (zjf hf)
 obtain ⟨r,ho,hr⟩:=o
 refine PT.imp (zlb ho (ha.h ρ x e1) (hb.h ρ y e2) hm) fun σ H Q h_=>?_
 obtain ⟨F,rl,q⟩:=h_
 refine two (md:=.fz) (d:=.bl c) (ta:=fun _ _ _=>True) (tb:=fun _ _ _=>True) (ha.h ρ x e1) (hb.h ρ y e2) (fun F H v u Q s h1 h2 k=>hr x y _ F H v u Q e3 s h1 h2 k) σ H _ ⟨F,rl,fun v F' H' g h=>⟨c,Dat.bl_inv (K:=K) (F:=F') h,q F' H' g⟩⟩
theorem tval (h:FP K .fz X e f) (he:∀ whole,isTrue e X.env whole=(do let v ← whole;standAt e.pos;holding [v] (truthy v)):=by intro _;rfl):FTp K X e (cT f):=FTp.mk fun ρ c hf=>
 PT.imp (zmn (h.h ρ _ (zjf hf)) he) fun σ H Q ⟨F,rl,q⟩=>⟨F,rl,fun v F' H' g h=>⟨c,Dat.bl_inv (K:=K) (F:=F') h,q F' H' g⟩⟩
noncomputable def truD:D→Option Bool
 | .non=>some false
 | .bl b=>some b
 | .int i=>some (i != 0)
 | .str z=>if z.length≤lim then some ((z.length:Int) != 0) else none
 | .lst l=>some (!l.isEmpty)
 | .tup l=>some (!l.isEmpty)
 | _=>none
noncomputable def cTr (f:En→Option D):En→Option Bool:=fun ρ=>(f ρ).bind truD
theorem znw (h:FTp K X a t):FWp K X (.BoolOp .And [a] pos) t:=FWp.mk fun ρ c hf=>zkZ (h.h ρ c hf)
theorem tor1 (h:FTp K X a t):FWp K X (.BoolOp .Or [a] pos) t:=FWp.mk fun ρ c hf=>zml (h.h ρ c hf)
theorem tand (h1:FTp K X a t) (h2:FWp K X (.BoolOp .And (b::rest) pos) u):FWp K X (.BoolOp .And (a::b::rest) pos) (andP t u):=FWp.mk fun ρ c hf=>by
 rcases zjh hf with ⟨e1,e2⟩ | ⟨e1,rfl⟩
 ·exact PW.imp (zkv (h1.h ρ _ e1) (h2.h ρ c e2)) fun σ H Q ⟨F,rl,q⟩=>⟨F,rl,fun F1 H1 g1=>iteT ⟨F1,rl.grow g1,fun F2 H2 g2=>q F2 H2 (g1.trans g2)⟩⟩
 ·exact PW.imp (zkv (h1.h ρ _ e1) zgZ) fun σ H Q ⟨F,rl,q⟩=>⟨F,rl,fun F1 H1 g1=>iteF (q F1 H1 g1)⟩
theorem tor (h1:FTp K X a t) (h2:FWp K X (.BoolOp .Or (b::rest) pos) u):FWp K X (.BoolOp .Or (a::b::rest) pos) (orP t u):=FWp.mk fun ρ c hf=>by
 rcases zjG hf with ⟨e1,e2⟩ | ⟨e1,rfl⟩
 ·exact PW.imp (zmm (h1.h ρ _ e1) (h2.h ρ c e2)) fun σ H Q ⟨F,rl,q⟩=>⟨F,rl,fun F1 H1 g1=>iteF ⟨F1,rl.grow g1,fun F2 H2 g2=>q F2 H2 (g1.trans g2)⟩⟩
 ·exact PW.imp (zmm (h1.h ρ _ e1) zgZ) fun σ H Q ⟨F,rl,q⟩=>⟨F,rl,fun F1 H1 g1=>iteT (q F1 H1 g1)⟩
theorem FWp.pt (h:FWp K X e t):FTp K X e t:=FTp.mk fun ρ c hf=>(h.h ρ c hf).pt
theorem tnot (h:FTp K X a t):FTp K X (.UnaryOp .Not a pos) (notP t):=FTp.mk fun ρ c hf=>by
 unfold notP at hf
 cases e1:t ρ with
 | none=>rw [e1] at hf;cases hf
 | some d=>
  rw [e1] at hf
  cases hf
  exact PT.imp (zmo (h.h ρ d e1)) fun σ H Q ⟨F,rl,q⟩=>⟨F,rl,fun F1 H1 g1=>q F1 H1 g1⟩
theorem FTp.up (h:FTp K X e t):FT K X e (upT t):=FT.mk fun ρ c ρ' hf=>by
 unfold upT at hf
 cases e1:t ρ with
 | none=>rw [e1] at hf;cases hf
 | some d=>
  rw [e1] at hf
  cases hf
  exact PT.imp (h.h ρ c e1) fun σ H Q ⟨F,rl,q⟩=>⟨F,rl,fun F1 H1 g1=>q F1 H1 (rl.grow g1) g1.step⟩
noncomputable def andV (f g:En→Option D):En→Option D:=fun ρ=>match f ρ with
 | some (.bl true)=>g ρ
 | some (.bl false)=>some (.bl false)
 | _=>none
noncomputable def orV (f g:En→Option D):En→Option D:=fun ρ=>match f ρ with
 | some (.bl true)=>some (.bl true)
 | some (.bl false)=>g ρ
 | _=>none
noncomputable def notV (f:En→Option D):En→Option D:=fun ρ=>match f ρ with
 | some (.bl b)=>some (.bl (!b))
 | _=>none
theorem vone {op} (h:FP K .fz X a f):FP K .fz X (.BoolOp op [a] pos) f:=FP.mk fun ρ d hf=>zmv (h.h ρ d hf)
theorem vand (h1:FP K .fz X a fa) (h2:FP K .fz X (.BoolOp .And (b::rest) pos) fb):FP K .fz X (.BoolOp .And (a::b::rest) pos) (andV fa fb):=FP.mk fun ρ d hf=>by
 unfold andV at hf
 split at hf
 ·rename_i e1
  exact PE.imp (zkz (h1.h ρ _ e1) (h2.h ρ d hf)) fun σ H Q ⟨F,rl,q⟩=>⟨F,rl,fun v F1 H1 g1 r1=>⟨true,Dat.bl_inv (K:=K) (F:=F1) r1,iteT ⟨F1,rl.grow g1,fun u F2 H2 g2 r2=>q u F2 H2 (g1.trans g2) r2⟩⟩⟩
 ·rename_i e1
  cases hf
  exact PE.imp (zkz (h1.h ρ _ e1) zjI) fun σ H Q ⟨F,rl,q⟩=>⟨F,rl,fun v F1 H1 g1 r1=>⟨false,Dat.bl_inv (K:=K) (F:=F1) r1,iteF (q _ F1 H1 g1 (Res.bl false))⟩⟩
 ·cases hf
theorem vnot (h1:FP K .fz X a fa):FP K .fz X (.UnaryOp .Not a pos) (notV fa):=FP.mk fun ρ d hf=>by
 unfold notV at hf
 split at hf
 ·rename_i e1
  cases hf
  exact PE.imp (zmw (h1.h ρ _ e1)) fun σ H Q ⟨F,rl,q⟩=>⟨F,rl,fun v F1 H1 g1 r1=>⟨_,Dat.bl_inv (K:=K) (F:=F1) r1,q _ F1 H1 g1 (Res.bl _)⟩⟩
 ·cases hf
noncomputable def negD:D→Option D
 | .int i=>some (.int (-i))
 | _=>none
theorem fneg (h:FP K .fz X a fa):FP K .fz X (.UnaryOp .USub a pos) (c1 negD fa):=FP.mk fun ρ d hf=>by
 obtain ⟨x,e1,e2⟩:=zdz hf
 cases x<;>simp only [negD] at e2<;>try (cases e2;done)
 cases e2
 exact PE.imp (pe_un zlV (h.h ρ _ e1)) fun σ H Q ⟨F,rl,q⟩=>⟨F,rl,fun v F1 H1 g1 r1=>⟨_,Dat.int_inv (K:=K) (F:=F1) r1,q _ F1 H1 g1 (Res.int _)⟩⟩
end
end FL
set_option Elab.async false
set_option linter.all false
set_option maxRecDepth 100000
namespace FL
open PySem PySem.Spec PyProof.Rows L2 FX
noncomputable def ExcD (K:PySem.W.Frag) (F:Hp) (c:Str) (d:D) (C da:Addr):Prop:=∃ u,PySem.W.nsIn K mainGlobals c=some (some (.ref C))∧F da=some (.xd [(zaR c,u)])∧Dat K F d u
noncomputable def Wish (X:Cx) (σ:St) (C da:Addr) (H:Hp):Prop:=∀ (pins:List (Addr×Obj)) (a:Addr) (tb:Option Addr) (s:Shared),Inv X pins σ H s→Fly s.heap a (.ref C) (some da) tb .none→FpOk X pins H a→(∀ T,tb=some T→FpOk X pins H T)→X.xe (.ref a) s
noncomputable def CX1 (P:Program) (w:World):CXT:=fun outer H s E e s'=>∃ a C da T H',e=.ref a∧s'.os=s.os∧AllBare s'.gens∧Un (frs outer) [] H H' s.heap s'.heap∧HOk P w H' s'.heap∧
 Fly s'.heap a (.ref C) (some da) (some T) .none∧s.heap.objs.size≤a∧s.heap.objs.size≤T∧H' a=none∧H' T=none∧E (.ref C) (some da) H'
section
variable {X:Cx}{pins:List (Addr×Obj)} {σ:St}{H:Hp} {s:Shared}{h':Heap}
theorem ziL {fs ex:List Addr}{P:Program} {w:World}{h:Heap} (x:HOk P w H h) (c:Chg fs ex h h') (hf:∀ b∈fs,H b=none) (hx:∀ b∈ex,H b=none):HOk P w H h':=fun a o e=>by
 refine (x a o e).stay (fun b u hb q=>?_) (fun _ q=>q) fun _ _ q=>q
 have n:H b≠none:=by
  rcases hb with rfl | hb
  ·rw [e];intro z;cases z
  ·rw [hb];intro z;cases z
 exact c.keep b u q (fun z=>n (hf b z)) fun z=>n (hx b z)
theorem zgA (I:Inv X pins σ H s) {ex:List Addr}{fs:List Addr} (hfs:fs=frs X.stack) (c:Chg fs ex s.heap h') (hx:∀ b∈ex,FpOk X pins H b):Inv X pins σ H { s with heap:=h' }:=by
 subst hfs
 refine Inv.call' (ch:=ex) I rfl ⟨fun b o q n h1 h2=>c.keep b o q h1 h2,fun b o q n h1 h2=>c.slot b o q h1 h2,fun b o q n h2=>n,fun b o q h2=>c.there b o q,fun _ _ q=>q,fun _ _ _ q=>q,fun _ ps q=>⟨#[],by simpa using q⟩⟩
  (ziL I.hok c I.stkFree fun b hb=>(hx b hb).1) I.bare fun b hb=>?_
 obtain ⟨h1,h2,h3,h4,h5,h6⟩:=hx b hb
 exact ⟨h4,h2,h5,h6⟩
theorem ex_ok {e:Addr}{tb:Option Addr} {Pr:Addr→Prop}(h1:Pr e) (h2:∀ T,tb=some T→Pr T):∀ b∈exOf e tb,Pr b:=by
 intro b hb
 cases tb with
 | none=>simp at hb;subst hb;exact h1
 | some T=>
  simp at hb
  rcases hb with rfl | rfl
  ·exact h1
  ·exact h2 _ rfl
theorem zhj {P:Program}{w:World} {K:PySem.W.Frag}{mg:Str→Option Value} {base:Heap}{N:List Str} {qual:Str}{scope:Scope} {f:Addr}{cd:Value} {A:Around}{outer:List Env} {s0:Shared}{H0:Hp} {E:XK}{C da:Addr} (h:E (.ref C) (some da) H) :
  Wish (cxOf (CX1 P w) P w K mg base N qual scope f cd A outer s0 H0 E) σ C da H:=fun pins a tb s I fl pa pt=>by
 have hst:(cxOf (CX1 P w) P w K mg base N qual scope f cd A outer s0 H0 E).stack=envOfC qual scope s0.heap.objs.size f cd::outer:=rfl
 have hfs:(envOfC qual scope s0.heap.objs.size f cd::outer).filterMap (·.frame)=frs (cxOf (CX1 P w) P w K mg base N qual scope f cd A outer s0 H0 E).stack:=rfl
 refine zgz (base:=base) (outer:=outer) (L:=s0.heap.objs.size) I.ok.frames I.stack rfl fl fun h' T c fl' z=>?_
 have exn:∀ b∈exOf a tb,FpOk (cxOf (CX1 P w) P w K mg base N qual scope f cd A outer s0 H0 E) pins H b:=ex_ok pa pt
 have old:∀ b,b < s0.heap.objs.size→b∉exOf a tb:=fun b hb hm=>by
  obtain ⟨_,_,_,h4,_⟩:=exn b hm
  rcases h4 with h4 | h4
  ·exact absurd (show b∈([]:List Addr) from h4) (by simp)
  ·exact absurd (Nat.lt_of_lt_of_le hb h4) (Nat.lt_irrefl _)
 have fro:∀ b,b < s0.heap.objs.size→b∉frs outer→b∉(envOfC qual scope s0.heap.objs.size f cd::outer).filterMap (·.frame):=fun b hb hn hm=>by
  have hm:b∈s0.heap.objs.size::frs outer:=hm
  rcases List.mem_cons.mp hm with e | e
  ·exact absurd hb (by rw [e];exact Nat.lt_irrefl _)
  ·exact hn e
 have B:Un (frs outer) [] H0 H s0.heap s.heap:=I.base
 have za:s0.heap.objs.size≤a:=by
  obtain ⟨_,_,_,h4,_⟩:=pa
  rcases h4 with h4 | h4
  ·exact absurd (show a∈([]:List Addr) from h4) (by simp)
  ·exact h4
 refine ⟨a,C,da,T,H,rfl,I.os,I.bare,⟨fun b o q n h1 h2=>?_,fun b o q n h1 h2=>?_,B.free,fun b o q h2=>?_,B.tups,B.frzs,B.tbls⟩,ziL I.hok c (by rw [hfs];exact I.stkFree) fun b hb=>(exn b hb).1,fl',za,Nat.le_trans I.sz z,pa.1,I.hok.fresh z,h⟩
 ·have lt:=Heap.lt_size q
  exact c.keep b o (B.keep b o q n h1 h2) (fro b lt h1) (old b lt)
 ·have lt:=Heap.lt_size q
  obtain ⟨sl,e1⟩:=B.slot b o q n h1 h2
  obtain ⟨sl2,e2⟩:=c.slot b _ e1 (List.mem_cons_of_mem _ h1) (old b lt)
  exact ⟨sl2,e2⟩
 ·obtain ⟨o1,e1⟩:=B.there b o q h2
  exact c.there b o1 e1
theorem zkW {k:Nat}{f:Addr} {fd:FuncData}{ps:List Str} {sp:Sp}{Q:VK} {us:List Value}{vs:List V} (F:FnOk X.prog X.w X.K X.mg X.base (CX1 X.prog X.w) k f fd ps sp) (hr:Room k X.A) (hb:zbA X.K fd ps []) (I:Inv X pins σ H s) (r:Vals vs us)
  (h:sp vs H Q fun cv od H'=>∃ C da,cv=.ref C∧od=some da∧Wish X σ C da H'):wpAny (model X.prog X.w) X.A (call (.ref f) us) (EP X pins σ Q) X.xe s:=by
 have hl:us.length=ps.length:=by rw [← r.length];exact F.len _ _ _ _ h
 have hb':=hb s us I.kIn (by simpa using hl)
 rw [List.append_nil] at hb'
 refine wpAny_call (codeAny_mono (F.run X.A X.stack s H ⟨us,[]⟩ us vs Q _ hr I.env0 hb' r h) fun r s' hq=>?_)
 cases r with
 | error e=>
  obtain ⟨a,C,da,T,H',rfl,os,bare,un,hok,fl,za,zT,na,nT,C',da',e1,e2,w⟩:=hq
  cases e1;cases e2
  have I':Inv X pins σ H' s':=I.call' (ch:=[]) os un hok bare fun b z=>absurd z (by simp)
  exact w pins a (some T) s' I' fl (I.fpOk za na) fun T' e=>by cases e;exact I.fpOk zT nT
 | ok fl=>
  cases fl with
  | ret u=>exact I.after hq
  | next=>exact False.elim hq
  | brk=>exact False.elim hq
  | cont=>exact False.elim hq
end
end FL
set_option Elab.async false
set_option linter.all false
set_option maxRecDepth 100000
namespace FL
open PySem PySem.Spec PyProof.Rows L2
section
variable {K:PySem.W.Frag}{F H F' H':Hp} {ρ ρ':En}{σ σ':St} {i:Nat}
theorem zal {α:Type}{l:List α} {i j:Nat}{x y:α} (h:(l.set i x)[j]?=some y):(j=i∧y=x)∨(j≠i∧l[j]?=some y):=by
 by_cases e:j=i
 ·subst e
  rw [List.getElem?_set] at h
  simp at h
  exact .inl ⟨rfl,h.2.symm⟩
 ·rw [List.getElem?_set_ne (Ne.symm e)] at h
  exact .inr ⟨e,h⟩
theorem zdK {α:Type}{l:List α} {i:Nat}{x:α} (h:i < l.length):(l.set i x)[i]?=some x:=by simp [h]
theorem zgQ {α:Type}{l:List α} {i:Nat}{x y:α} (h:(l.set i x)[i]?=some y):i < l.length:=by
 have:=(List.getElem?_eq_some_iff.mp h).1;simpa using this
theorem Rel.setD (r:Rel K F H ρ σ) {d:D}{v:V} (h:Dat K F d v):Rel K F H (ρ.set i (some (.dat d))) (σ.set i (some v)):=by
 refine ⟨r.sub,fun j x e=>?_,fun j x e=>?_,fun j q x e=>?_,fun j k q x s a ne e1 e2 e3 e4=>?_,by simp [r.len]⟩
 ·rcases zal e with ⟨rfl,e'⟩ | ⟨ne,e'⟩
  ·cases e'
   exact ⟨v,zdK (by rw [← r.len];exact zgQ e),h⟩
  ·rw [List.getElem?_set_ne (Ne.symm ne)];exact r.dat j x e'
 ·rcases zal e with ⟨rfl,e'⟩ | ⟨ne,e'⟩
  ·cases e'
  ·rw [List.getElem?_set_ne (Ne.symm ne)];exact r.bor j x e'
 ·rcases zal e with ⟨rfl,e'⟩ | ⟨ne,e'⟩
  ·cases e'
  ·rw [List.getElem?_set_ne (Ne.symm ne)];exact r.own j q x e'
 ·rcases zal e1 with ⟨rfl,e'⟩ | ⟨ne1,e1'⟩
  ·cases e'
  ·rcases zal e3 with ⟨rfl,e'⟩ | ⟨ne3,e3'⟩
   ·cases e';cases e4
   ·rw [List.getElem?_set_ne (Ne.symm ne1)] at e2
    rw [List.getElem?_set_ne (Ne.symm ne3)]
    exact r.inj j k q x s a ne e1' e2 e3' e4
theorem Rel.setN (r:Rel K F H ρ σ) {v:Option V}:Rel K F H (ρ.set i none) (σ.set i v):=by
 refine ⟨r.sub,fun j x e=>?_,fun j x e=>?_,fun j q x e=>?_,fun j k q x s a ne e1 e2 e3 e4=>?_,by simp [r.len]⟩
 ·rcases zal e with ⟨rfl,e'⟩ | ⟨ne,e'⟩
  ·cases e'
  ·rw [List.getElem?_set_ne (Ne.symm ne)];exact r.dat j x e'
 ·rcases zal e with ⟨rfl,e'⟩ | ⟨ne,e'⟩
  ·cases e'
  ·rw [List.getElem?_set_ne (Ne.symm ne)];exact r.bor j x e'
 ·rcases zal e with ⟨rfl,e'⟩ | ⟨ne,e'⟩
  ·cases e'
  ·rw [List.getElem?_set_ne (Ne.symm ne)];exact r.own j q x e'
 ·rcases zal e1 with ⟨rfl,e'⟩ | ⟨ne1,e1'⟩
  ·cases e'
  ·rcases zal e3 with ⟨rfl,e'⟩ | ⟨ne3,e3'⟩
   ·cases e'
   ·rw [List.getElem?_set_ne (Ne.symm ne1)] at e2
    rw [List.getElem?_set_ne (Ne.symm ne3)]
    exact r.inj j k q x s a ne e1' e2 e3' e4
theorem Rel.drop (r:Rel K F H ρ σ):Rel K F H (ρ.set i none) σ:=by
 by_cases hi:i < σ.length
 ·have h:=r.setN (i:=i) (v:=σ[i])
  rw [List.set_getElem_self] at h
  exact h
 ·have e:ρ.set i none=ρ:=List.set_eq_of_length_le (by rw [r.len];omega)
  rw [e];exact r
theorem Rel.setO (r0:Rel K F H ρ σ) (g:Grow F H F' H') {d:D}{a:Addr} (hn:H a=none) (hf:F' a=none) (ho:Own K F' H' d a) (nb:∀ (j:Nat) (s:Sl),ρ[j]?=some (some s)→s.isDat=false→∃ q x,s=.ow q x) :
  Rel K F' H' (ρ.set i (some (.own d))) (σ.set i (some (.ref a))):=by
 have r:=r0.grow g
 have nf:∀ (j:Nat) s,ρ[j]?=some (some s)→s.isDat=false→σ[j]?≠some (some (.ref a)):=fun j s e hs z=>by
  obtain ⟨q,x,rfl⟩:=nb j s e hs
  obtain ⟨b,e1,_,e3⟩:=r0.own j q x e
  rw [z] at e1;cases e1
  obtain ⟨o,e4⟩:=e3.some
  rw [hn] at e4;cases e4
 refine ⟨r.sub,fun j x e=>?_,fun j x e=>?_,fun j q x e=>?_,fun j k q x s c ne e1 e2 e3 e4=>?_,by simp [r.len]⟩
 ·rcases zal e with ⟨rfl,e'⟩ | ⟨ne,e'⟩
  ·cases e'
  ·rw [List.getElem?_set_ne (Ne.symm ne)];exact r.dat j x e'
 ·rcases zal e with ⟨rfl,e'⟩ | ⟨ne,e'⟩
  ·cases e'
  ·rw [List.getElem?_set_ne (Ne.symm ne)];exact r.bor j x e'
 ·rcases zal e with ⟨rfl,e'⟩ | ⟨ne,e'⟩
  ·cases e'
   exact ⟨a,zdK (by rw [← r.len];exact zgQ e),hf,ho⟩
  ·rw [List.getElem?_set_ne (Ne.symm ne)];exact r.own j q x e'
 ·rcases zal e1 with ⟨rfl,e1'⟩ | ⟨ne1,e1'⟩
  ·cases e1'
   rw [zdK (by rw [← r.len];exact zgQ e1)] at e2
   cases e2
   rcases zal e3 with ⟨rfl,e3'⟩ | ⟨ne3,e3'⟩
   ·exact absurd rfl ne
   ·rw [List.getElem?_set_ne (Ne.symm ne3)];exact nf k s e3' e4
  ·rw [List.getElem?_set_ne (Ne.symm ne1)] at e2
   rcases zal e3 with ⟨rfl,e3'⟩ | ⟨ne3,e3'⟩
   ·rw [zdK (by rw [← r.len];exact zgQ e3)]
    intro z;cases z
    exact nf j _ e1' rfl e2
   ·rw [List.getElem?_set_ne (Ne.symm ne3)]
    exact r.inj j k q x s c ne e1' e2 e3' e4
theorem zed {sl:Option Sl}{v:Option V} {b:Addr}(h:zdi (ρ.set i sl) (σ.set i v) b):(∃ q d,sl=some (.ow q d)∧v=some (.ref b))∨zdi ρ σ b:=by
 obtain ⟨j,q,d,e1,e2⟩:=h
 rcases zal e1 with ⟨rfl,e1'⟩ | ⟨ne,e1'⟩
 ·rcases zal e2 with ⟨_,e2'⟩ | ⟨ne,_⟩
  ·exact .inl ⟨q,d,e1'.symm,e2'.symm⟩
  ·exact absurd rfl ne
 ·rw [List.getElem?_set_ne (Ne.symm ne)] at e2
  exact .inr ⟨j,q,d,e1',e2⟩
theorem zhu {b:Addr}(h:zdi (ρ.set i none) σ b):zdi ρ σ b:=by
 obtain ⟨j,q,d,e1,e2⟩:=h
 rcases zal e1 with ⟨rfl,e1'⟩ | ⟨ne,e1'⟩
 ·cases e1'
 ·exact ⟨j,q,d,e1',e2⟩
structure Kp (ρ:En) (σ:St) (ρ':En) (σ':St):Prop where
 own:∀ b,zdi ρ' σ' b→zdi ρ σ b
 pin:∀ (i:Nat) (d':D),ρ'[i]?=some (some (.ow true d'))→∃ d,ρ[i]?=some (some (.ow true d))∧σ'[i]?=σ[i]?
theorem Kp.refl:Kp ρ σ ρ σ:=⟨fun _ h=>h,fun _ d e=>⟨d,e,rfl⟩⟩
theorem Kp.trans {ρ2:En}{σ2:St} (a:Kp ρ σ ρ' σ') (b:Kp ρ' σ' ρ2 σ2):Kp ρ σ ρ2 σ2:=⟨fun c h=>a.own c (b.own c h),fun i d e=>by
 obtain ⟨d1,e1,e2⟩:=b.pin i d e
 obtain ⟨d2,e3,e4⟩:=a.pin i d1 e1
 exact ⟨d2,e3,e2.trans e4⟩⟩
theorem zgr {sl:Option Sl}{v:Option V} (hs:∀ d,sl≠some (.ow true d)):∀ (j:Nat) (d':D),(ρ.set i sl)[j]?=some (some (.ow true d'))→∃ d,ρ[j]?=some (some (.ow true d))∧(σ.set i v)[j]?=σ[j]?:=fun j d' e=>by
 rcases zal e with ⟨rfl,e'⟩ | ⟨ne,e'⟩
 ·exact absurd e'.symm (hs d')
 ·exact ⟨d',e',List.getElem?_set_ne (Ne.symm ne)⟩
theorem zjx:∀ (j:Nat) (d':D),(ρ.set i none)[j]?=some (some (.ow true d'))→∃ d,ρ[j]?=some (some (.ow true d))∧σ[j]?=σ[j]?:=fun j d' e=>by
 rcases zal e with ⟨rfl,e'⟩ | ⟨ne,e'⟩
 ·cases e'
 ·exact ⟨d',e',rfl⟩
theorem Kp.setD {d:D}{v:Option V}:Kp ρ σ (ρ.set i (some (.dat d))) (σ.set i v):=⟨fun b z=>by
 rcases zed z with ⟨_,_,z,_⟩ | z
 ·cases z
 ·exact z,zgr fun d h=>by cases h⟩
theorem Step.kp {ρ2:En}{σ2:St} (a:Step ρ σ F H ρ' σ' F' H') (k:Kp ρ' σ' ρ2 σ2):Step ρ σ F H ρ2 σ2 F' H':=⟨a.ff,a.rest,fun b z=>a.own b (k.own b z),fun i d e=>by
 obtain ⟨d1,e1,e2⟩:=k.pin i d e
 obtain ⟨d2,e3,e4⟩:=a.pin i d1 e1
 exact ⟨d2,e3,e2.trans e4⟩,a.fh⟩
end
inductive Fl where
 | nx (ρ:En) | rt (d:D) (ρ:En) | bk (ρ:En) | ct (ρ:En) | rs (c:Str) (d:D) (ρ:En)
noncomputable def ResR (K:PySem.W.Frag) (md:Md) (ρ:En) (σ:St) (H F' H':Hp) (d:D) (v:V):Prop:=match md with
 | .fz=>Dat K F' d v
 | .ow=>∃ a,v=.ref a∧(H a=none∨zdi ρ σ a)∧F' a=none∧Own K F' H' d a
 | .br=>False
noncomputable def rdS (X:Cx) (K:PySem.W.Frag) (md:Md) (ρ:En) (fl:Fl):TS:=fun D σ H=>∃ F,Rel K F H ρ σ∧match fl with
 | .nx ρ'=>∀ σ' F' H',Rel K F' H' ρ' σ'→Step ρ σ F H ρ' σ' F' H'→D.nx σ' H'
 | .bk ρ'=>∀ σ' F' H',Rel K F' H' ρ' σ'→Step ρ σ F H ρ' σ' F' H'→D.bk σ' H'
 | .ct ρ'=>∀ σ' F' H',Rel K F' H' ρ' σ'→Step ρ σ F H ρ' σ' F' H'→D.ct σ' H'
 | .rt d ρ'=>∀ v σ' F' H',Rel K F' H' ρ' σ'→Step ρ σ F H ρ' σ' F' H'→ResR K md ρ σ H F' H' d v→D.rt v H'
 | .rs c d ρ'=>∀ σ' F' H' C da,Rel K F' H' ρ' σ'→Step ρ σ F H ρ' σ' F' H'→ExcD K F' c d C da→Wish X σ' C da H'
structure FS (K:PySem.W.Frag) (md:Md) (X:Cx) (st:Stmt) (m:En→Option Fl):Prop where
 h:∀ ρ fl,m ρ=some fl→PS X st (rdS X K md ρ fl)
structure FSs (K:PySem.W.Frag) (md:Md) (X:Cx) (sts:List Stmt) (m:En→Option Fl):Prop where
 h:∀ ρ fl,m ρ=some fl→PSs X sts (rdS X K md ρ fl)
noncomputable def nxM:En→Option Fl:=fun ρ=>some (.nx ρ)
noncomputable def seqM (m n:En→Option Fl):En→Option Fl:=fun ρ=>match m ρ with
 | some (.nx ρ1)=>n ρ1
 | r=>r
theorem ResR.back {K:PySem.W.Frag}{md:Md} {ρ ρ':En}{σ σ':St} {F H F' H' F2 H2:Hp}{d:D} {v:V}(a:Step ρ σ F H ρ' σ' F' H') (s:Same F H) (h:ResR K md ρ' σ' H' F2 H2 d v):ResR K md ρ σ H F2 H2 d v:=by
 cases md with
 | fz=>exact h
 | br=>exact h
 | ow=>
  obtain ⟨b,e,h1,h2,h3⟩:=h
  exact ⟨b,e,a.back s h1,h2,h3⟩
theorem rdS.after {X:Cx}{K:PySem.W.Frag} {md:Md}{ρ ρ':En} {σ σ':St}{F H F' H':Hp} {fl:Fl}{D:Ends} (s:Same F H) (r:Rel K F' H' ρ' σ') (a:Step ρ σ F H ρ' σ' F' H')
  (h:match fl with
   | .nx ρ'=>∀ σ' F' H',Rel K F' H' ρ' σ'→Step ρ σ F H ρ' σ' F' H'→D.nx σ' H'
   | .bk ρ'=>∀ σ' F' H',Rel K F' H' ρ' σ'→Step ρ σ F H ρ' σ' F' H'→D.bk σ' H'
   | .ct ρ'=>∀ σ' F' H',Rel K F' H' ρ' σ'→Step ρ σ F H ρ' σ' F' H'→D.ct σ' H'
   | .rt d ρ'=>∀ v σ' F' H',Rel K F' H' ρ' σ'→Step ρ σ F H ρ' σ' F' H'→ResR K md ρ σ H F' H' d v→D.rt v H'
   | .rs c d ρ'=>∀ σ' F' H' C da,Rel K F' H' ρ' σ'→Step ρ σ F H ρ' σ' F' H'→ExcD K F' c d C da→Wish X σ' C da H'):rdS X K md ρ' fl D σ' H':=by
 refine ⟨F',r,?_⟩
 cases fl with
 | nx ρ2=>exact fun σ2 F2 H2 r2 s2=>h σ2 F2 H2 r2 (a.trans s2 s)
 | bk ρ2=>exact fun σ2 F2 H2 r2 s2=>h σ2 F2 H2 r2 (a.trans s2 s)
 | ct ρ2=>exact fun σ2 F2 H2 r2 s2=>h σ2 F2 H2 r2 (a.trans s2 s)
 | rt d ρ2=>exact fun v σ2 F2 H2 r2 s2 q=>h v σ2 F2 H2 r2 (a.trans s2 s) (ResR.back a s q)
 | rs c d ρ2=>exact fun σ2 F2 H2 C da r2 s2 x=>h σ2 F2 H2 C da r2 (a.trans s2 s) x
section
variable {K:PySem.W.Frag}{md:Md} {X:Cx}{st:Stmt} {rest:List Stmt}{m n:En→Option Fl} {e:Expr}{f:En→Option D} {pos:Pos}
theorem snil:FSs K md X [] nxM:=FSs.mk fun ρ fl hf=>by
 cases hf
 exact PSs.imp zlc fun D σ H ⟨F,r,q⟩=>q σ F H r (Grow.refl r.sub).step
theorem sone (h:FS K md X st m):FSs K md X [st] m:=FSs.mk fun ρ fl hf=>zck (h.h ρ fl hf)
theorem sseq (h1:FS K md X st m) (h2:FSs K md X rest n):FSs K md X (st::rest) (seqM m n):=FSs.mk fun ρ fl hf=>by
 unfold seqM at hf
 split at hf
 ·rename_i ρ1 e1
  refine PSs.imp (zbS (h1.h ρ _ e1) (h2.h ρ1 fl hf)) fun D σ H ⟨F,r,q⟩=>⟨F,r,fun σ1 F1 H1 r1 s1=>?_⟩
  exact rdS.after r.sub r1 s1 q
 ·rename_i hno
  refine PSs.imp (zbS (h1.h ρ fl hf) zdW) fun D σ H ⟨F,r,q⟩=>⟨F,r,?_⟩
  cases fl with
  | nx ρ1=>exact absurd hf (hno ρ1)
  | bk ρ1=>exact q
  | ct ρ1=>exact q
  | rt d ρ1=>exact q
  | rs c d ρ1=>exact q
noncomputable def zeG (f:En→Option D):En→Option Fl:=fun ρ=>(f ρ).map fun _=>.nx ρ
theorem sexpr (he:FP K .fz X e f) (hs:swapsWith e none pos.line X.env=pure false:=by rfl):FS K md X (.Expr e pos) (zeG f):=FS.mk fun ρ fl hf=>by
 unfold zeG at hf
 cases e1:f ρ with
 | none=>rw [e1] at hf;cases hf
 | some d=>
  rw [e1] at hf;cases hf
  exact PS.imp (zbT (he.h ρ d e1) hs) fun D σ H ⟨F,r,q⟩=>⟨F,r,fun v F1 H1 g1 _=>q σ F1 H1 (r.grow g1) g1.step⟩
noncomputable def retM (f:En→Option D):En→Option Fl:=fun ρ=>(f ρ).map fun d=>.rt d ρ
theorem sret (he:FP K .fz X e f):FS K .fz X (.Return (some e) pos) (retM f):=FS.mk fun ρ fl hf=>by
 unfold retM at hf
 cases e1:f ρ with
 | none=>rw [e1] at hf;cases hf
 | some d=>
  rw [e1] at hf;cases hf
  exact PS.imp (zgV (he.h ρ d e1)) fun D σ H ⟨F,r,q⟩=>⟨F,r,fun v F1 H1 g1 h=>q v σ F1 H1 (r.grow g1) g1.step h⟩
theorem zgl (he:FP K .ow X e f):FS K .ow X (.Return (some e) pos) (retM f):=FS.mk fun ρ fl hf=>by
 unfold retM at hf
 cases e1:f ρ with
 | none=>rw [e1] at hf;cases hf
 | some d=>
  rw [e1] at hf;cases hf
  refine PS.imp (zgV (he.h ρ d e1)) fun D σ H ⟨F,r,q⟩=>⟨F,r,fun v F1 H1 g1 ⟨a,e,h1,h2,h3⟩=>q v σ F1 H1 (r.grow g1) g1.step ⟨a,e,.inl h1,h2,h3⟩⟩
noncomputable def retO (i:Nat):En→Option Fl:=fun ρ=>match ρ[i]? with
 | some (some (.ow _ d))=>some (.rt d (ρ.set i none))
 | _=>none
theorem sretF (i:Nat) {x:Str}{p:Pos} (hN:X.N[i]?=some x:=by rfl) (hv:Vis X.env.scope x:=by first | exact Or.inl rfl | exact Or.inr (Or.inl rfl) | exact Or.inr (Or.inr rfl)) (hd:(x == ("__debug__" : Str))=false:=by decide)
  (hcd:(x == ("__classdict__" : Str))=false:=by decide):FS K .fz X (.Return (some (.Name x p)) pos) (retO i):=FS.mk fun ρ fl hf=>by
 unfold retO at hf
 split at hf
 ·rename_i pp d e1
  cases hf
  refine PS.imp (zgV (zky (zaS hN hv hd hcd))) fun D σ H h_=>?_
  obtain ⟨F,r,q⟩:=h_
  obtain ⟨a,e2,h1,h2⟩:=r.own i pp d e1
  have rd:=r.drop (i:=i)
  have ne:∀ b,zdi (ρ.set i none) σ b→b≠a:=fun b ⟨j,q,x,j1,j2⟩ z=>by
   subst z
   rcases zal j1 with ⟨rfl,j1'⟩ | ⟨hne,j1'⟩
   ·cases j1'
   ·exact r.inj j i q x (.ow pp d) b hne j1' j2 e1 rfl e2
  refine ⟨_,e2,a,rfl,fun H2 fz=>?_⟩
  have g:Step ρ σ F H (ρ.set i none) σ (frz1 F H2 a) H2:=by
   refine ⟨zcJ h1,fun b o e n ho=>?_,fun b h=>.inr (zhu h),zjx,zfm (fz.same r.sub h1)⟩
   have hb:b≠a:=fun z=>ho (by subst z;exact ⟨i,pp,d,e1,e2⟩)
   exact ⟨by rw [fz.ne hb];exact e,by rw [zer hb];exact n⟩
  have rf:Rel K (frz1 F H2 a) H2 (ρ.set i none) σ:=by
   refine ⟨zfm (fz.same r.sub h1),fun j x e=>?_,fun j x e=>?_,fun j q x e=>?_,rd.inj,rd.len⟩
   ·obtain ⟨v,h3,h4⟩:=rd.dat j x e;exact ⟨v,h3,h4.mono (zcJ h1)⟩
   ·obtain ⟨v,h3,h4⟩:=rd.bor j x e;exact ⟨v,h3,DatB.frz h4 (zcJ h1) fz (fun z=>r.inj i j pp d (.bor x) a (fun q=>by subst q;rcases zal e with ⟨_,e'⟩ | ⟨hne,_⟩;cases e';exact hne rfl) e1 e2 (by rcases zal e with ⟨_,e'⟩ | ⟨_,e'⟩;cases e';exact e') rfl (by rw [h3,z]))⟩
   ·obtain ⟨c,h3,h4,h5⟩:=rd.own j q x e
    exact ⟨c,h3,by rw [zer (ne c ⟨j,q,x,e,h3⟩)];exact h4,h5.mono (zcJ h1) fun o e=>by rw [fz.ne (ne c ⟨j,q,x,by assumption,h3⟩)];exact e⟩
  exact q _ σ _ H2 rf g (h2.freeze h1 fz)
 ·cases hf
noncomputable def retN:En→Option Fl:=fun ρ=>some (.rt .non ρ)
noncomputable def ifM (t:En→Option (Bool×En)) (m n:En→Option Fl):En→Option Fl:=fun ρ=>(t ρ).bind fun p=>if p.1=true then m p.2 else n p.2
theorem sif {c:Expr}{a b:List Stmt} {t:En→Option (Bool×En)}(hc:FT K X c t) (ha:FSs K md X a m) (hb:FSs K md X b n):FS K md X (.If c a b pos) (ifM t m n):=FS.mk fun ρ fl hf=>by
 unfold ifM at hf
 cases e1:t ρ with
 | none=>rw [e1] at hf;cases hf
 | some p=>
  obtain ⟨k,ρ1⟩:=p
  rw [e1] at hf
  cases k with
  | true=>
   refine PS.imp (zmp (hc.h ρ _ _ e1) (ha.h ρ1 fl hf) zdW) fun D σ H ⟨F,r,q⟩=>⟨F,r,fun F1 H1 r1 s1=>iteT (rdS.after r.sub r1 s1 q)⟩
  | false=>
   refine PS.imp (zmp (hc.h ρ _ _ e1) zdW (hb.h ρ1 fl hf)) fun D σ H ⟨F,r,q⟩=>⟨F,r,fun F1 H1 r1 s1=>iteF (rdS.after r.sub r1 s1 q)⟩
noncomputable def rdG (K:PySem.W.Frag) (ρ:En) (d:D) (ρ':En):TG:=fun v σ H Q=>∃ F,Rel K F H ρ σ∧Dat K F d v∧∀ σ',Rel K F H ρ' σ'→Kp ρ σ ρ' σ'→Q σ' H
structure FG (K:PySem.W.Frag) (X:Cx) (tg:Expr) (g:D→En→Option En):Prop where
 h:∀ ρ d ρ',g d ρ=some ρ'→PG X tg (rdG K ρ d ρ')
noncomputable def rdGs (K:PySem.W.Frag) (ρ:En) (ds:List D) (ρ':En):TGs:=fun vs σ H Q=>∃ F,Rel K F H ρ σ∧DatL K F ds vs∧∀ σ',Rel K F H ρ' σ'→Kp ρ σ ρ' σ'→Q σ' H
structure FGs (K:PySem.W.Frag) (X:Cx) (ts:List Expr) (g:List D→En→Option En):Prop where
 h:∀ ρ ds ρ',g ds ρ=some ρ'→PGs X ts (rdGs K ρ ds ρ')
theorem PG.imp {tg:Expr}{t t':TG} (h:PG X tg t) (w:∀ v σ H Q,t' v σ H Q→t v σ H Q):PG X tg t':=fun pins s σ H v u Q I r ht=>h pins s σ H v u Q I r (w v σ H Q ht)
theorem PGs.imp {tg:List Expr}{t t':TGs} (h:PGs X tg t) (w:∀ v σ H Q,t' v σ H Q→t v σ H Q):PGs X tg t':=fun pins s σ H v u Q I r ht=>h pins s σ H v u Q I r (w v σ H Q ht)
noncomputable def gN (i:Nat):D→En→Option En:=fun d ρ=>some (ρ.set i (some (.dat d)))
theorem zby (i:Nat) {x:Str}(hN:X.N.Nodup) (hi:X.N[i]?=some x:=by rfl) (hx:Loc X.env.scope x:=by first | exact Or.inl rfl | exact Or.inr rfl) (hf:X.fn x=true∨X.env.scope.names.lookup x=some .local:=by first | exact .inl rfl | exact .inr rfl | assumption):FG K X (.Name x pos) (gN i):=FG.mk fun ρ d ρ' hg=>by
 cases hg
 refine PG.imp (zli hN hi hx hf) fun v σ H Q ⟨F,r,h,q⟩=>q _ (r.setD h) Kp.setD
noncomputable def gNil:List D→En→Option En:=fun ds ρ=>match ds with
 | []=>some ρ
 | _=>none
noncomputable def zbJ (g:D→En→Option En) (gs:List D→En→Option En):List D→En→Option En:=fun ds ρ=>match ds with
 | d::l=>(g d ρ).bind (gs l)
 | []=>none
noncomputable def gTup (gs:List D→En→Option En):D→En→Option En:=fun d ρ=>match d with
 | .tup l=>gs l ρ
 | _=>none
theorem gnil:FGs K X [] gNil:=FGs.mk fun ρ ds ρ' hg=>by
 unfold gNil at hg
 split at hg
 ·cases hg
  exact PGs.imp zlh fun vs σ H Q ⟨F,r,h,q⟩=>⟨h.nil_inv,q σ r Kp.refl⟩
 ·cases hg
theorem zjV {es:List Expr}{g:D→En→Option En} {gs:List D→En→Option En}(h1:FG K X e g) (h2:FGs K X es gs)
  (hs:(assignEach (e::es) X.env).map (·.2)=assign e X.env::(assignEach es X.env).map (·.2):=by rfl):FGs K X (e::es) (zbJ g gs):=FGs.mk fun ρ ds ρ' hg=>by
 unfold zbJ at hg
 split at hg
 ·rename_i d l
  cases e1:g d ρ with
  | none=>rw [e1] at hg;cases hg
  | some ρ1=>
   rw [e1] at hg
   refine PGs.imp (zjz (h1.h ρ d ρ1 e1) (h2.h ρ1 l ρ' hg) hs) fun vs σ H Q h_=>?_
   obtain ⟨F,r,h,q⟩:=h_
   obtain ⟨v,vr,e,d1,d2⟩:=h.cons_inv
   exact ⟨v,vr,e,F,r,d1,fun σ1 r1 o1=>⟨F,r1,d2,fun σ2 r2 o2=>q σ2 r2 (o1.trans o2)⟩⟩
 ·cases hg
theorem gtup {es:List Expr}{k:Nat} {gs:List D→En→Option En}{n:Nat} (hc:X.calm=true) (h:FGs K X es gs) (hl:∀ ds ρ ρ',gs ds ρ=some ρ'→ds.length=n)
  (hn:(assignEach es X.env).length=n:=by rfl) (hst:(assignEach es X.env).findIdx? (·.1)=none:=by rfl) (hK:X.K=K:=by rfl):FG K X (.Tuple es k pos) (gTup gs):=FG.mk fun ρ d ρ' hg=>by
 subst hK
 unfold gTup at hg
 split at hg
 ·rename_i l
  refine PG.imp (zmu hc (h.h ρ l ρ' hg) hn hst) fun v σ H Q h_=>?_
  obtain ⟨F,r,hd,q⟩:=h_
  obtain ⟨a,vs,rfl,f,qq⟩:=hd.tup_inv
  exact ⟨a,vs,rfl,SqT.of (r.sub _ _ f),by rw [qq.length];exact hl l ρ ρ' hg,F,r,qq,q⟩
 ·cases hg
theorem ziG:∀ ds ρ ρ',gNil ds ρ=some ρ'→ds.length=0:=fun ds ρ ρ' h=>by
 unfold gNil at h
 split at h
 ·rfl
 ·cases h
theorem zdM {g:D→En→Option En}{gs:List D→En→Option En} {n:Nat}(h:∀ ds ρ ρ',gs ds ρ=some ρ'→ds.length=n):∀ ds ρ ρ',zbJ g gs ds ρ=some ρ'→ds.length=n + 1:=fun ds ρ ρ' hg=>by
 unfold zbJ at hg
 split at hg
 ·rename_i d l
  cases e1:g d ρ with
  | none=>rw [e1] at hg;cases hg
  | some ρ1=>rw [e1] at hg;rw [List.length_cons,h l ρ1 ρ' hg]
 ·cases hg
noncomputable def asgM (f:En→Option D) (g:D→En→Option En):En→Option Fl:=fun ρ=>(f ρ).bind fun d=>(g d ρ).map Fl.nx
theorem sasg {tg:Expr}{g:D→En→Option En} (he:FP K .fz X e f) (hg:FG K X tg g) (hs:swapsWithSole [tg] e pos.line X.env=pure false:=by rfl) (hw:swappedStores [tg] e X.env=pure none:=by rfl)
  (h1:(assignEach [tg] X.env).map (·.2)=[assign tg X.env]:=by rfl):FS K md X (.Assign [tg] e pos) (asgM f g):=FS.mk fun ρ fl hf=>by
 unfold asgM at hf
 cases e1:f ρ with
 | none=>rw [e1] at hf;cases hf
 | some d=>
  cases e2:g d ρ with
  | none=>rw [e1] at hf;simp [e2] at hf
  | some ρ1=>
   rw [e1] at hf;simp [e2] at hf;cases hf
   refine PS.imp (zmr (he.h ρ d e1) (hg.h ρ d ρ1 e2) hs hw h1) fun D σ H ⟨F,r,q⟩=>⟨F,r,fun v F1 H1 g1 h=>⟨F1,r.grow g1,h,fun σ1 r1 o1=>?_⟩⟩
   have s1:=g1.step (ρ:=ρ) (σ:=σ)
   exact q σ1 F1 H1 r1 (s1.kp o1)
noncomputable def setM (i:Nat) (f:En→Option D):En→Option Fl:=fun ρ=>(f ρ).map fun d=>.nx (ρ.set i (some (.dat d)))
theorem sset (i:Nat) {x:Str}{pos':Pos} (hN:X.N.Nodup) (he:FP K .fz X e f) (hi:X.N[i]?=some x:=by rfl) (hx:Loc X.env.scope x:=by first | exact Or.inl rfl | exact Or.inr rfl) (hs:swapsWith e (some (.Name x pos')) pos.line X.env=pure false:=by rfl) (hf:X.fn x=true∨X.env.scope.names.lookup x=some .local:=by first | exact .inl rfl | exact .inr rfl | assumption) :
  FS K md X (.Assign [.Name x pos'] e pos) (setM i f):=FS.mk fun ρ fl hm=>by
 unfold setM at hm
 cases e1:f ρ with
 | none=>rw [e1] at hm;cases hm
 | some d=>
  rw [e1] at hm;cases hm
  refine PS.imp (zgU hN hi hx (he.h ρ d e1) hs hf) fun D σ H ⟨F,r,q⟩=>⟨F,r,fun v F1 H1 g1 h=>?_⟩
  have s1:=g1.step (ρ:=ρ) (σ:=σ)
  exact q _ F1 H1 ((r.grow g1).setD h) (s1.kp Kp.setD)
noncomputable def zei (ρ:En):Bool:=ρ.all fun s=>match s with
 | some (.bor _)=>false
 | _=>true
theorem zix {ρ:En}(h:zei ρ=true):∀ (j:Nat) s,ρ[j]?=some (some s)→s.isDat=false→∃ q x,s=.ow q x:=fun j s e hs=>by
 have:=List.all_eq_true.mp h (some s) (List.mem_of_getElem? e)
 cases s with
 | dat d=>cases hs
 | ow q d=>exact ⟨q,d,rfl⟩
 | bor d=>cases this
noncomputable def setO (i:Nat) (f:En→Option D):En→Option Fl:=fun ρ=>if zei ρ=true then (f ρ).map fun d=>.nx (ρ.set i (some (.own d))) else none
theorem ssetO (i:Nat) {x:Str}{pos':Pos} (hN:X.N.Nodup) (he:FP K .ow X e f) (hi:X.N[i]?=some x:=by rfl) (hx:Loc X.env.scope x:=by first | exact Or.inl rfl | exact Or.inr rfl) (hs:swapsWith e (some (.Name x pos')) pos.line X.env=pure false:=by rfl) (hf:X.fn x=true∨X.env.scope.names.lookup x=some .local:=by first | exact .inl rfl | exact .inr rfl | assumption) :
  FS K md X (.Assign [.Name x pos'] e pos) (setO i f):=FS.mk fun ρ fl hm=>by
 unfold setO at hm
 split at hm
 ·rename_i nb
  cases e1:f ρ with
  | none=>rw [e1] at hm;cases hm
  | some d=>
   rw [e1] at hm;cases hm
   refine PS.imp (zgU hN hi hx (he.h ρ d e1) hs hf) fun D σ H ⟨F,r,q⟩=>⟨F,r,fun v F1 H1 g1 ⟨a,ev,h1,h2,h3⟩=>?_⟩
   subst ev
   have s1:=g1.step (ρ:=ρ) (σ:=σ)
   refine q _ F1 H1 (r.setO g1 h1 h2 h3 (zix nb)) ⟨s1.ff,s1.rest,fun b z=>?_,zgr (fun d h=>by cases h),s1.fh⟩
   rcases zed z with ⟨_,_,_,z⟩ | z
   ·cases z;exact .inl h1
   ·exact .inr z
 ·cases hm
end
end FL
set_option Elab.async false
set_option linter.all false
set_option maxRecDepth 100000
namespace FL
open PySem PySem.Spec PyProof.Rows L2
section
variable {K:PySem.W.Frag}{F H F' H':Hp} {ρ ρ':En}{σ σ':St} {i:Nat}
theorem DatB.upd {d:D}{v:V} {a:Addr}{o:HO} (h:DatB K F H d v) (hv:v≠.ref a):DatB K F (upd H a o) d v:=by
 cases d with
 | lst l=>obtain ⟨b,vs,rfl,f,q⟩:=h.lst_inv;exact ⟨b,vs,rfl,by rw [zaj (fun z=>hv (by rw [z]))];exact f,q⟩
 | dic k l=>obtain ⟨b,vs,rfl,f,q⟩:=h.dic_inv;exact ⟨b,vs,rfl,f.at (zaj (fun z=>hv (by rw [z]))),q⟩
 | set l=>obtain ⟨b,rfl,f⟩:=h;exact ⟨b,rfl,zcB.at (F:=H) (zaj (fun z=>hv (by rw [z]))) f⟩
 | _=>exact h
theorem Rel.mut (r:Rel K F H ρ σ) {pp:Bool}{d d':D} {a:Addr}{o:HO} (e:ρ[i]?=some (some (.ow pp d))) (hσ:σ[i]?=some (some (.ref a))) (ho:Own K F (upd H a o) d' a) :
  Rel K F (upd H a o) (ρ.set i (some (.ow pp d'))) σ∧Step ρ σ F H (ρ.set i (some (.ow pp d'))) σ F (upd H a o):=by
 obtain ⟨a',e1,fa,_⟩:=r.own i pp d e
 rw [hσ] at e1;cases e1
 have sub:Same F (L2.upd H a o):=fun b u h=>by rw [zaj (zaa h fa)];exact r.sub _ _ h
 have hi:i < ρ.length:=(List.getElem?_eq_some_iff.mp e).1
 refine ⟨⟨sub,fun j x q=>?_,fun j x q=>?_,fun j qq x q=>?_,fun j k qq x s c ne e1 e2 e3 e4=>?_,by simp [r.len]⟩,⟨Same.refl _,fun b u h n no=>⟨?_,n⟩,fun b h=>.inr ?_,fun j x e'=>?_,sub⟩⟩
 ·rcases zal q with ⟨rfl,q'⟩ | ⟨ne,q'⟩
  ·cases q'
  ·exact r.dat j x q'
 ·rcases zal q with ⟨rfl,q'⟩ | ⟨ne,q'⟩
  ·cases q'
  ·obtain ⟨v,h1,h2⟩:=r.bor j x q'
   refine ⟨v,h1,h2.upd fun z=>?_⟩
   subst z
   exact r.inj i j pp d _ a (Ne.symm ne) e hσ q' rfl h1
 ·rcases zal q with ⟨rfl,q'⟩ | ⟨ne,q'⟩
  ·cases q'
   exact ⟨a,hσ,fa,ho⟩
  ·obtain ⟨c,h1,h2,h3⟩:=r.own j qq x q'
   have hc:c≠a:=fun z=>by
    subst z
    exact r.inj i j pp d _ c (Ne.symm ne) e hσ q' rfl h1
   exact ⟨c,h1,h2,h3.mono (Same.refl _) fun u hu=>by rw [zaj hc];exact hu⟩
 ·rcases zal e1 with ⟨rfl,e1'⟩ | ⟨ne1,e1'⟩
  ·rcases zal e3 with ⟨rfl,e3'⟩ | ⟨ne3,e3'⟩
   ·exact absurd rfl ne
   ·exact r.inj j k pp d s c ne e e2 e3' e4
  ·rcases zal e3 with ⟨rfl,e3'⟩ | ⟨ne3,e3'⟩
   ·exact r.inj j k qq x (.ow pp d) c ne e1' e2 e rfl
   ·exact r.inj j k qq x s c ne e1' e2 e3' e4
 ·rw [zaj (fun z=>no (by subst z;exact ⟨i,pp,d,e,hσ⟩))];exact h
 ·obtain ⟨j,qq,x,j1,j2⟩:=h
  rcases zal j1 with ⟨rfl,j1'⟩ | ⟨ne,j1'⟩
  ·exact ⟨j,pp,d,e,j2⟩
  ·exact ⟨j,qq,x,j1',j2⟩
 ·rcases zal e' with ⟨rfl,e''⟩ | ⟨ne,e''⟩
  ·cases e''
   exact ⟨d,e,rfl⟩
  ·exact ⟨x,e'',rfl⟩
end
noncomputable def rdX (K:PySem.W.Frag) (ρ:En) (d:D) (ρ':En):TE:=fun σ H Q=>∃ F,Rel K F H ρ σ∧∀ v F' H',Rel K F' H' ρ' σ→Step ρ σ F H ρ' σ F' H'→Dat K F' d v→Q v H'
structure FX (K:PySem.W.Frag) (X:Cx) (e:Expr) (m:En→Option (D×En)):Prop where
 h:∀ ρ d ρ',m ρ=some (d,ρ')→PE X e (rdX K ρ d ρ')
noncomputable def appM (i:Nat) (f:En→Option D):En→Option (D×En):=fun ρ=>match ρ[i]?,f ρ with
 | some (some (.ow pp (.lst l))),some d=>if l.length < lim then some (.non,ρ.set i (some (.ow pp (.lst (l++[d]))))) else none
 | _,_=>none
noncomputable def extM (i:Nat) (f:En→Option D):En→Option (D×En):=fun ρ=>match ρ[i]?,f ρ with
 | some (some (.ow pp (.lst l))),some (.lst m)=>if l.length + m.length≤lim then some (.non,ρ.set i (some (.ow pp (.lst (l++m))))) else none
 | _,_=>none
noncomputable def popM (i:Nat):En→Option (D×En):=fun ρ=>match ρ[i]? with
 | some (some (.ow pp (.lst l)))=>(l[l.length - 1]?).map fun d=>(d,ρ.set i (some (.ow pp (.lst l.dropLast))))
 | _=>none
noncomputable def zdY (i:Nat) (f:En→Option D):En→Option (D×En):=fun ρ=>match ρ[i]?,f ρ with
 | some (some (.ow pp (.lst l))),some (.int k)=>if -(2 ^ 63)≤k∧k < 2 ^ 63 then (seqIndex? k l.length).bind fun j=>(l[j]?).map fun d=>(d,ρ.set i (some (.ow pp (.lst (l.eraseIdx j))))) else none
 | _,_=>none
section
variable {K:PySem.W.Frag}{md:Md} {X:Cx}{e:Expr} {f:En→Option D}{pos:Pos} {x:Str}{p apos cpos:Pos}
theorem zkK (i:Nat) (he:FP K .fz X e f) (hN:X.N[i]?=some x:=by rfl) (hv:Vis X.env.scope x:=by first | exact Or.inl rfl | exact Or.inr (Or.inl rfl) | exact Or.inr (Or.inr rfl)) (hd:(x == ("__debug__" : Str))=false:=by decide)
  (hcd:(x == ("__classdict__" : Str))=false:=by decide) (hbase:attributeBase (.Name x p) "append" X.env (eval (.Name x p) X.env)=eval (.Name x p) X.env:=by rfl)
  (hfew:((backTo cpos (starEach [e] X.env)).all (fun x=>!x.1) && (backToKw cpos (keywordEach [] X.env)).all (fun x=>x.1.isSome) && decide (([e]:List Expr).length + ([]:List Keyword).length + (if ([]:List Keyword).isEmpty then 0 else 1) < 30))=true:=by rfl)
  (hline:(apos.endLine == cpos.line)=true:=by rfl) (hs:starEach [e] X.env=(false,eval e X.env)::starEach [] X.env:=by rfl) (hplain:(backTo cpos (starEach [] X.env)).any (·.1)=false:=by rfl) (hK:X.K=K:=by rfl) :
  FX K X (.Call (.Attribute (.Name x p) "append" apos) [e] [] cpos) (appM i f):=FX.mk fun ρ d ρ' hf=>by
 subst hK
 unfold appM at hf
 split at hf
 ·rename_i pp l dd e1 e2
  obtain ⟨hz,hf⟩:=zau hf
  cases hf
  refine PE.imp (zmA PySem.F.plainAttrs_list PySem.F.slot_list_append PySem.F.type_list_append zfQ (zaS hN hv hd hcd) (zaq (he.h ρ dd e2) zaV hs) hbase hfew hline hs hplain) fun σ H Q h_=>?_
  obtain ⟨F,r,q⟩:=h_
  obtain ⟨a,h1,h2,vs,h3,h4⟩:=r.own i _ _ e1
  refine ⟨_,h1,.inl ⟨rfl,vs,SqL.of h3⟩,F,r,fun v F1 H1 g1 r1=>?_⟩
  have rg:=r.grow g1
  obtain ⟨a',h1',h2',vs',h3',h4'⟩:=rg.own i _ _ e1
  rw [h1] at h1';cases h1'
  have h3'':=g1.hh _ _ h3
  rw [h3'] at h3'';cases h3''
  refine ⟨a,vs,v,rfl,rfl,h3',by rw [h4'.length];exact zkB (Nat.le_of_lt hz),?_⟩
  obtain ⟨m1,m2⟩:=rg.mut (i:=i) (o:=.lst (vs++[v])) (d':=.lst (l++[dd])) e1 h1 ⟨_,zag,h4'.snoc r1⟩
  exact q _ _ _ m1 (g1.step.trans m2 r.sub) (Dat.non (K:=X.K))
 ·cases hf
noncomputable def zes (m:En→Option (D×En)):En→Option Fl:=fun ρ=>(m ρ).map fun p=>.nx p.2
theorem zmi {m:En→Option (D×En)}(he:FX K X e m) (hs:swapsWith e none pos.line X.env=pure false:=by rfl):FS K md X (.Expr e pos) (zes m):=FS.mk fun ρ fl hf=>by
 unfold zes at hf
 cases e1:m ρ with
 | none=>rw [e1] at hf;cases hf
 | some q1=>
  obtain ⟨d,ρ1⟩:=q1
  rw [e1] at hf;cases hf
  exact PS.imp (zbT (he.h ρ d ρ1 e1) hs) fun D σ H ⟨F,r,q⟩=>⟨F,r,fun v F1 H1 r1 s1 _=>q σ F1 H1 r1 s1⟩
noncomputable def asgX (m:En→Option (D×En)) (g:D→En→Option En):En→Option Fl:=fun ρ=>(m ρ).bind fun p=>(g p.1 p.2).map Fl.nx
end
end FL
set_option Elab.async false
set_option linter.all false
set_option maxRecDepth 100000
namespace FL
open PySem PySem.Spec PyProof.Rows L2
section
variable {K:PySem.W.Frag}{md:Md} {X:Cx}{pos:Pos}
theorem PSs.any {c:List Stmt}{ι:Type} {t:ι→TS}(h:∀ i,PSs X c (t i)):PSs X c (fun D σ H=>∃ i,t i D σ H):=fun pins s σ H D I ⟨i,hi⟩=>h i pins s σ H D I hi
theorem PE.any {c:Expr}{ι:Type} {t:ι→TE}(h:∀ i,PE X c (t i)):PE X c (fun σ H Q=>∃ i,t i σ H Q):=fun pins s σ H Q I ⟨i,hi⟩=>h i pins s σ H Q I hi
theorem PG.any {c:Expr}{ι:Type} {t:ι→TG}(h:∀ i,PG X c (t i)):PG X c (fun v σ H Q=>∃ i,t i v σ H Q):=fun pins s σ H v u Q I r ⟨i,hi⟩=>h i pins s σ H v u Q I r hi
theorem PIf.any {c:List Expr}{ι:Type} {t:ι→TT}(h:∀ i,PIf X c (t i)):PIf X c (fun σ H Q=>∃ i,t i σ H Q):=fun pins s σ H Q I ⟨i,hi⟩=>h i pins s σ H Q I hi
end
noncomputable def zgg (K:PySem.W.Frag) (J:It) (F:Hp) (ds:List D):Prop:=∀ F2 H2,Same F F2→Same F2 H2→
 (∀ i,i < ds.length→J.go i H2)∧(∀ i x H3 d,ds[i]?=some d→J.yld i H2 x H3→∃ F3,Grow F2 H2 F3 H3∧Dat K F3 d x)∧J.stop ds.length H2
noncomputable def rdI (K:PySem.W.Frag) (ρ:En) (ds:List D):TI:=fun σ H R=>∃ F,Rel K F H ρ σ∧∀ J F' H',Grow F H F' H'→zgg K J F' ds→R J H'
structure FI (K:PySem.W.Frag) (X:Cx) (tg iter:Expr) (f:En→Option (List D)):Prop where
 h:∀ ρ ds,f ρ=some ds→PI X tg iter (rdI K ρ ds)
theorem PI.imp {X:Cx}{tg iter:Expr} {t t':TI}(h:PI X tg iter t) (w:∀ σ H R,t' σ H R→t σ H R):PI X tg iter t':=fun pins s σ H R I ht=>h pins s σ H R I (w σ H R ht)
noncomputable def itS:D→Option (List D)
 | .lst l=>some l
 | .tup l=>some l
 | .scr l=>some (l.map D.int)
 | _=>none
noncomputable def cI (f:En→Option D):En→Option (List D):=fun ρ=>(f ρ).bind itS
theorem zfU {K:PySem.W.Frag}{a:Addr} {F:Hp}{vs:List V} {ds:List D}(h:∀ F2 H2,Same F F2→Same F2 H2→SqL K H2 a vs) (q:DatL K F ds vs):zgg K (Itl K a) F ds:=fun F2 H2 f2 h2=>by
 have hs:=h F2 H2 f2 h2
 have hl:=q.length
 refine ⟨fun i hi=>⟨vs,vs[i]'(by omega),hs,by simp⟩,fun i x H3 d hd y=>?_,⟨vs,hs,by omega⟩⟩
 obtain ⟨rfl,y⟩:=y
 obtain ⟨v,hv,dv⟩:=q.get hd
 rw [y vs hs] at hv;cases hv
 exact ⟨F2,Grow.refl h2,dv.mono f2⟩
theorem zjP {K:PySem.W.Frag}{a:Addr} {F:Hp}{vs:List V} {ds:List D}(h:F a=some (.tup vs)) (q:DatL K F ds vs):zgg K (Itt K a) F ds:=fun F2 H2 f2 h2=>by
 have hs:SqT K H2 a vs:=SqT.of (h2 _ _ (f2 _ _ h))
 have hl:=q.length
 refine ⟨fun i hi=>⟨vs,vs[i]'(by omega),hs,by simp⟩,fun i x H3 d hd y=>?_,⟨vs,hs,by omega⟩⟩
 obtain ⟨rfl,y⟩:=y
 obtain ⟨v,hv,dv⟩:=q.get hd
 rw [y vs hs] at hv;cases hv
 exact ⟨F2,Grow.refl h2,dv.mono f2⟩
section
variable {K:PySem.W.Frag}{md:Md} {X:Cx}{pos:Pos} {tg l:Expr}{f:En→Option D}
theorem iseq (h:FP K .fz X l f) (hK:X.K=K:=by rfl):FI K X tg l (cI f):=FI.mk fun ρ ds hf=>by
 subst hK
 unfold cI at hf
 cases e1:f ρ with
 | none=>rw [e1] at hf;cases hf
 | some d=>
  rw [e1] at hf
  have hf:itS d=some ds:=hf
  cases d<;>simp only [itS] at hf<;>try (cases hf;done)
  ·cases hf
   refine PI.imp (zmt (h.h ρ _ e1)) fun σ H R ⟨F,r,q⟩=>⟨F,r,fun v F1 H1 g1 r1=>?_⟩
   obtain ⟨a,vs,rfl,f1,q1⟩:=Dat.tup_inv (K:=X.K) (F:=F1) r1
   exact ⟨a,rfl,⟨vs,SqT.of (g1.fh _ _ f1)⟩,q _ F1 H1 g1 (zjP f1 q1)⟩
  ·cases hf
   refine PI.imp (zii (h.h ρ _ e1)) fun σ H R ⟨F,r,q⟩=>⟨F,r,fun v F1 H1 g1 r1=>?_⟩
   obtain ⟨a,vs,rfl,f1,q1⟩:=Dat.lst_inv (K:=X.K) (F:=F1) r1
   exact ⟨a,rfl,⟨vs,SqL.of (g1.fh _ _ f1)⟩,q _ F1 H1 g1 (zfU (fun F2 H2 a b=>SqL.of (b _ _ (a _ _ f1))) q1)⟩
  ·cases hf
   refine PI.imp (zii (h.h ρ _ e1)) fun σ H R ⟨F,r,q⟩=>⟨F,r,fun v F1 H1 g1 r1=>?_⟩
   obtain ⟨a,rfl,f1⟩:=Dat.scr_inv (K:=X.K) (F:=F1) r1
   exact ⟨a,rfl,⟨_,Same.seq g1.fh f1⟩,q _ F1 H1 g1 (zfU (fun F2 H2 a b=>Same.seq b (Same.seq a f1)) (DatL.ofInts _))⟩
noncomputable def zbi (lo:Int) (n:Nat):List D:=(List.range n).map fun (k:Nat)=>D.int (lo + (k:Int))
theorem zhE {lo:Int}{n:Nat} {F:Hp}:zgg K (Itr lo n) F (zbi lo n):=fun F2 H2 f2 h2=>by
 refine ⟨fun i hi=>(show i < n by simpa [zbi] using hi),fun i x H3 d hd y=>?_,by simp [zbi,Itr]⟩
 obtain ⟨rfl,rfl⟩:=y
 have:d=D.int (lo + (i:Int)):=by
  unfold zbi at hd
  rw [List.getElem?_map] at hd
  cases e:(List.range n)[i]? with
  | none=>rw [e] at hd;cases hd
  | some k=>
   rw [e] at hd
   have:=(List.getElem?_eq_some_iff.mp e).2
   simp at this
   subst this
   exact (Option.some.inj hd).symm
 subst this
 exact ⟨F2,Grow.refl h2,Dat.int (K:=K) (F:=F2) _⟩
noncomputable def ziu (j:Int):Prop:=-(2 ^ 62)≤j∧j < 2 ^ 62
theorem zbB {j:Int}(h1:-4611686018427387904≤j) (h2:j < 4611686018427387904):ziu j:=⟨h1,h2⟩
open Classical in
noncomputable def rng1:D→Option (List D)
 | .int j=>if ziu j then some (zbi 0 j.toNat) else none
 | _=>none
open Classical in
noncomputable def rng2:D→D→Option (List D)
 | .int i,.int j=>if ziu i∧ziu j then some (zbi i (j - i).toNat) else none
 | _,_=>none
noncomputable def cR1 (f:En→Option D):En→Option (List D):=fun ρ=>(f ρ).bind rng1
noncomputable def cR2 (f g:En→Option D):En→Option (List D):=fun ρ=>(f ρ).bind fun x=>(g ρ).bind fun y=>rng2 x y
theorem zde {a:Expr}{p:Pos} (h:FP K .fz X a f) (hg:Gl X "range") (hm:X.mg "range" = none) (hs:starEach [a] X.env=[(false,eval a X.env)]:=by rfl):FI K X tg (.Call (.Name "range" p) [a] [] pos) (cR1 f):=FI.mk fun ρ ds hf=>by
 unfold cR1 at hf
 cases e1:f ρ with
 | none=>rw [e1] at hf;cases hf
 | some d=>
  rw [e1] at hf
  have hf:rng1 d=some ds:=hf
  cases d<;>simp only [rng1] at hf<;>try (cases hf;done)
  obtain ⟨hz,rfl⟩:=zau hf
  refine PI.imp (zih hg hm (zaq (h.h ρ _ e1) zaV hs) hs) fun σ H R ⟨F,r,q⟩=>⟨F,r,fun v F1 H1 g1 r1=>?_⟩
  have ev:=Dat.int_inv (K:=K) (F:=F1) r1
  subst ev
  exact ⟨_,rfl,hz.1,hz.2,q _ F1 H1 g1 zhE⟩
noncomputable def znh:Nat→List D→List D
 | _,[]=>[]
 | k,d::l=>.tup [.int k,d]::znh (k + 1) l
noncomputable def cEnT (f:En→Option D):En→Option (List D):=fun ρ=>match f ρ with
 | some (.tup l)=>some (znh 0 l)
 | _=>none
noncomputable def forM (g:D→En→Option En) (b:En→Option Fl):List D→En→Option Fl
 | [],ρ=>some (.nx ρ)
 | x::xs,ρ=>match g x ρ with
  | some ρ1=>match b ρ1 with
   | some (.nx ρ2)=>forM g b xs ρ2
   | some (.ct ρ2)=>forM g b xs ρ2
   | some (.bk ρ2)=>some (.nx ρ2)
   | some (.rt d ρ2)=>some (.rt d ρ2)
   | some (.rs c d ρ2)=>some (.rs c d ρ2)
   | none=>none
  | none=>none
noncomputable def forS (fi:En→Option (List D)) (g:D→En→Option En) (b:En→Option Fl):En→Option Fl:=fun ρ=>(fi ρ).bind fun ds=>forM g b ds ρ
theorem sfor {iter:Expr}{body:List Stmt} {fi:En→Option (List D)}{g:D→En→Option En} {b:En→Option Fl}(hp:PassesOwn (model X.prog X.w) X.A X.env X.xe) (hc:X.calm=true) (hi:FI K X tg iter fi) (hg:FG K X tg g) (hb:FSs K md X body b)
  (hs:∀ x,foldedSetIterable iter X.env x=pure x:=by intro _;rfl):FS K md X (.For tg iter body [] pos) (forS fi g b):=FS.mk fun ρ fl hf=>by
 unfold forS at hf
 cases e1:fi ρ with
 | none=>rw [e1] at hf;cases hf
 | some ds=>
  rw [e1] at hf
  have hf:forM g b ds ρ=some fl:=hf
  have hg':=PG.any (X:=X) (c:=tg) (t:=fun i:{ q:En×D×En // g q.2.1 q.1=some q.2.2 }=>rdG K i.1.1 i.1.2.1 i.1.2.2) fun i=>hg.h _ _ _ i.2
  have hb':=PSs.any (X:=X) (c:=body) (t:=fun i:{ q:En×Fl // b q.1=some q.2 }=>rdS X K md i.1.1 i.1.2) fun i=>hb.h _ _ i.2
  refine PS.imp (zmq hp hc (hi.h ρ ds e1) hg' hb' hs) fun D σ H ⟨F,r,q⟩=>⟨F,r,fun J F0 H0 g0 ok=>?_⟩
  refine ⟨fun i k σ1 H1=>i≤ds.length∧k=ds.length - i∧∃ ρ1 F1,Rel K F1 H1 ρ1 σ1∧Step ρ σ F H ρ1 σ1 F1 H1∧Same F0 F1∧forM g b (ds.drop i) ρ1=some fl,
   ⟨ds.length,Nat.zero_le _,rfl,ρ,F0,r.grow g0,g0.step,Same.refl _,hf⟩,?_⟩
  rintro i k σ1 H1 ⟨hi,rfl,ρ1,F1,r1,s1,ff1,e2⟩
  obtain ⟨o1,o2,o3⟩:=ok F1 H1 ff1 r1.sub
  by_cases hlt:i < ds.length
  ·rw [List.drop_eq_getElem_cons hlt] at e2
   simp only [forM] at e2
   refine .inr ⟨o1 i hlt,fun σ' H'=>i + 1≤ds.length∧∃ ρ3 F3,Rel K F3 H' ρ3 σ'∧Step ρ σ F H ρ3 σ' F3 H'∧Same F0 F3∧forM g b (ds.drop (i + 1)) ρ3=some fl,fun σ' H' ⟨z1,z2⟩=>⟨ds.length - (i + 1),by omega,z1,rfl,z2⟩,fun x H2 y=>?_⟩
   obtain ⟨F2,g2,d2⟩:=o2 i x H2 _ (List.getElem?_eq_getElem hlt) y
   have r2:=r1.grow g2
   have s2:=s1.trans (g2.step (ρ:=ρ1) (σ:=σ1)) r.sub
   cases e3:g ds[i] ρ1 with
   | none=>rw [e3] at e2;cases e2
   | some ρ2=>
    rw [e3] at e2
    refine ⟨⟨(ρ1,ds[i],ρ2),e3⟩,F2,r2,d2,fun σ2 r2' ow=>?_⟩
    have s2':Step ρ σ F H ρ2 σ2 F2 H2:=s2.kp ow
    cases e4:b ρ2 with
    | none=>simp only [e4] at e2;cases e2
    | some fl2=>
     simp only [e4] at e2
     refine ⟨⟨(ρ2,fl2),e4⟩,F2,r2',?_⟩
     cases fl2 with
     | nx ρ3=>exact fun σ3 F3 H3 r3 s3=>⟨hlt,ρ3,F3,r3,s2'.trans s3 r.sub,ff1.trans (g2.ff.trans s3.ff),e2⟩
     | ct ρ3=>exact fun σ3 F3 H3 r3 s3=>⟨hlt,ρ3,F3,r3,s2'.trans s3 r.sub,ff1.trans (g2.ff.trans s3.ff),e2⟩
     | bk ρ3=>cases e2;exact fun σ3 F3 H3 r3 s3=>q σ3 F3 H3 r3 (s2'.trans s3 r.sub)
     | rt d ρ3=>cases e2;exact fun v σ3 F3 H3 r3 s3 h=>q v σ3 F3 H3 r3 (s2'.trans s3 r.sub) (ResR.back s2' r.sub h)
     | rs c d ρ3=>cases e2;exact fun σ3 F3 H3 C da r3 s3 x=>q σ3 F3 H3 C da r3 (s2'.trans s3 r.sub) x
  ·have e:i=ds.length:=by omega
   subst e
   rw [List.drop_length] at e2
   have e2:some (Fl.nx ρ1)=some fl:=e2
   cases e2
   exact .inl ⟨o3,q σ1 F1 H1 r1 s1⟩
end
end FL
set_option Elab.async false
set_option linter.all false
set_option maxRecDepth 100000
namespace FL
open PySem PySem.Spec PyProof.Rows L2
noncomputable def bors:Option Sl→Option Sl
 | some (.ow _ d)=>some (.bor d)
 | s=>s
noncomputable def st0E (cap:List (Option Nat)) (ρ:En):En:=cap.map fun o=>match o with
 | some j=>bors ((ρ[j]?).getD none)
 | none=>none
theorem zdJ {cap:List (Option Nat)}{ρ:En} {i:Nat}{s:Sl} (h:(st0E cap ρ)[i]?=some (some s)):∃ j s0,cap[i]?=some (some j)∧ρ[j]?=some (some s0)∧bors (some s0)=some s:=by
 unfold st0E at h
 rw [List.getElem?_map] at h
 cases e:cap[i]? with
 | none=>rw [e] at h;cases h
 | some o=>
  rw [e] at h
  cases o with
  | none=>cases h
  | some j=>
   have h:bors ((ρ[j]?).getD none)=some s:=Option.some.inj h
   cases e2:ρ[j]? with
   | none=>rw [e2] at h;cases h
   | some o2=>
    rw [e2] at h
    cases o2 with
    | none=>cases h
    | some s0=>exact ⟨j,s0,rfl,e2,h⟩
theorem zgk {cap:List (Option Nat)}{σ:St} {i j:Nat}{v:V} (h:cap[i]?=some (some j)) (e:σ[j]?=some (some v)):(st0 cap σ)[i]?=some (some v):=by
 unfold st0
 rw [List.getElem?_map,h]
 simp [e]
theorem Rel.inner {K:PySem.W.Frag}{F H:Hp} {ρ:En}{σ:St} {cap:List (Option Nat)}(r:Rel K F H ρ σ):Rel K F H (st0E cap ρ) (st0 cap σ):=by
 refine ⟨r.sub,fun i d h=>?_,fun i d h=>?_,fun i q d h=>?_,fun i j q d s a ne h1=>?_,by simp [st0E,st0]⟩
 ·obtain ⟨j,s0,e1,e2,e3⟩:=zdJ h
  cases s0<;>simp [bors] at e3
  subst e3
  obtain ⟨v,h1,h2⟩:=r.dat j _ e2
  exact ⟨v,zgk e1 h1,h2⟩
 ·obtain ⟨j,s0,e1,e2,e3⟩:=zdJ h
  cases s0<;>simp [bors] at e3<;>subst e3
  ·obtain ⟨a,h1,_,h2⟩:=r.own j _ _ e2
   exact ⟨_,zgk e1 h1,h2.b⟩
  ·obtain ⟨v,h1,h2⟩:=r.bor j _ e2
   exact ⟨v,zgk e1 h1,h2⟩
 ·obtain ⟨j,s0,e1,e2,e3⟩:=zdJ h
  cases s0<;>simp [bors] at e3
 ·obtain ⟨j,s0,e1,e2,e3⟩:=zdJ h1
  cases s0<;>simp [bors] at e3
noncomputable def zch (g:D→En→Option En) (t:En→Option Bool) (f:En→Option D) (ρi:En):List D→Option (List D)
 | []=>some []
 | x::xs=>(g x ρi).bind fun ρ1=>(t ρ1).bind fun b=>if b=true then (f ρ1).bind fun d=>(zch g t f ρi xs).map fun l=>d::l else zch g t f ρi xs
noncomputable def zbz (cap:List (Option Nat)) (fi:En→Option (List D)) (g:D→En→Option En) (t:En→Option Bool) (f:En→Option D):En→Option D:=fun ρ=>(fi ρ).bind fun ds=>if ds.length≤lim then (zch g t f (st0E cap ρ) ds).map D.lst else none
structure rdIf (K:PySem.W.Frag) (X:Cx) (ifs:List Expr) (t:En→Option Bool):Prop where
 h:∀ ρ b,t ρ=some b→PIf X ifs (rdTp K ρ b)
noncomputable def yesP:En→Option Bool:=fun _=>some true
theorem pif0 {K:PySem.W.Frag}{X:Cx}:rdIf K X [] yesP:=rdIf.mk fun ρ b h=>by
 cases h
 intro pins s σ H Q I ⟨F,r,q⟩
 exact zlg pins s σ H Q I (q F H (Grow.refl r.sub))
section
variable {K:PySem.W.Frag}{md:Md} {X:Cx}{pos:Pos} {tg iter elt:Expr}{ifs:List Expr} {scope:Scope}
theorem ziZ {cap:List (Option Nat)}{g:D→En→Option En} {t:En→Option Bool}{f:En→Option D} {ρ:En}{ds rs:List D} {σ:St}{H F:Hp} {Q:VK}(hm:zch g t f (st0E cap ρ) ds=some rs) (hn:ds.length≤lim)
  (r:Rel K F H ρ σ) (q:∀ v F' H',Grow F H F' H'→Res K .ow H F' H' (.lst rs) v→Q v H') {J:It}{F1 H1:Hp} (g1:Grow F H F1 H1) (ok:zgg K J F1 ds) :
  znu K J (fun v σ H Q=>∃ i:{ q:En×D×En // g q.2.1 q.1=some q.2.2 },rdG K i.1.1 i.1.2.1 i.1.2.2 v σ H Q) (fun σ H Q=>∃ i:{ q:En×Bool // t q.1=some q.2 },rdTp K i.1.1 i.1.2 σ H Q) (fun σ H Q=>∃ i:{ q:En×D // f q.1=some q.2 },rdE K .fz i.1.1 i.1.2 σ H Q) cap σ H1 Q:=by
 intro a ha
 refine ⟨fun i m H2=>∃ acc,i≤ds.length∧m=ds.length - i∧∃ F2 done left,Grow F H F2 H2∧Same F1 F2∧(∀ b o,H1 b=some o→H2 b=some o)∧F2 a=none∧H2 a=some (.lst acc)∧DatL K F2 done acc∧acc.length≤i∧zch g t f (st0E cap ρ) (ds.drop i)=some left∧rs=done++left,
  ⟨ds.length,[],Nat.zero_le _,rfl,F1,[],rs,⟨g1.ff,g1.hh.trans (zbR ha _),g1.fh.trans (zbR ha _),g1.nw⟩,Same.refl _,fun b o e=>zbR ha _ _ _ e,g1.fh.free ha,zag,DatL.nil,Nat.zero_le _,hm,rfl⟩,?_⟩
 rintro i m H2 ⟨acc,hi,rfl,F2,done,left,g2,ff,hh,fa,hd,da,al,e1,e2⟩
 obtain ⟨o1,o2,o3⟩:=ok F2 H2 ff g2.fh
 by_cases hlt:i < ds.length
 ·refine .inr ⟨o1 i hlt,fun x H3 y=>?_⟩
  obtain ⟨F3,g3,d3⟩:=o2 i x H3 _ (List.getElem?_eq_getElem hlt) y
  rw [List.drop_eq_getElem_cons hlt] at e1
  simp only [zch] at e1
  have g23:=g2.trans g3
  have hd3:=g3.hh _ _ hd
  have fa3:=g3.nw a _ hd fa
  cases e3:g ds[i] (st0E cap ρ) with
  | none=>rw [e3] at e1;cases e1
  | some ρ1=>
   simp only [e3,Option.bind_some] at e1
   refine ⟨⟨(st0E cap ρ,ds[i],ρ1),e3⟩,F3,(r.grow g23).inner,d3,fun σ2 r2 _=>?_⟩
   cases e4:t ρ1 with
   | none=>rw [e4] at e1;cases e1
   | some b=>
    simp only [e4,Option.bind_some] at e1
    refine ⟨⟨(ρ1,b),e4⟩,F3,r2,fun F4 H4 g4=>?_⟩
    have g24:=g23.trans g4
    have hd4:=g4.hh _ _ hd3
    have fa4:=g4.nw a _ hd3 fa3
    have ff4:Same F1 F4:=ff.trans (g3.ff.trans g4.ff)
    have hh4:∀ c o,H1 c=some o→H4 c=some o:=fun c o e=>g4.hh _ _ (g3.hh _ _ (hh c o e))
    cases b with
    | false=>
     rw [if_neg Bool.false_ne_true] at e1
     exact iteF ⟨ds.length - (i + 1),by omega,acc,hlt,rfl,F4,done,left,g24,ff4,hh4,fa4,hd4,da.mono (g3.ff.trans g4.ff),by omega,e1,e2⟩
    | true=>
     rw [if_pos rfl] at e1
     refine iteT ?_
     cases e5:f ρ1 with
     | none=>rw [e5] at e1;cases e1
     | some d=>
      simp only [e5,Option.bind_some] at e1
      cases e6:zch g t f (st0E cap ρ) (ds.drop (i + 1)) with
      | none=>rw [e6] at e1;cases e1
      | some l=>
       rw [e6] at e1;cases e1
       refine ⟨⟨(ρ1,d),e5⟩,F4,r2.grow g4,fun v F5 H5 g5 d5=>?_⟩
       have g25:=g24.trans g5
       have hd5:=g5.hh _ _ hd4
       have fa5:=g5.nw a _ hd4 fa4
       have haH:H a=none:=g1.hh.free ha
       refine ⟨acc,hd5,zkB (by omega),ds.length - (i + 1),by omega,_,hlt,rfl,F5,done++[d],l,?_,ff4.trans g5.ff,fun c o e=>?_,fa5,zag,?_,by rw [List.length_append,List.length_singleton];omega,e6,by rw [e2];simp⟩
       ·refine ⟨g25.ff,fun c o e=>?_,fun c o e=>?_,g25.nw⟩
        ·rw [zaj (zaa e haH)];exact g25.hh _ _ e
        ·rw [zaj (zaa e fa5)];exact g25.fh _ _ e
       ·rw [zaj (zaa e ha)];exact g5.hh _ _ (hh4 c o e)
       ·exact (da.mono (g3.ff.trans (g4.ff.trans g5.ff))).snoc d5
 ·have e:i=ds.length:=by omega
  subst e
  rw [List.drop_length] at e1
  have e1:some []=some left:=e1
  cases e1
  rw [List.append_nil] at e2
  subst e2
  exact .inl ⟨o3,q _ F2 H2 g2 ⟨a,rfl,g1.hh.free ha,fa,acc,hd,da⟩⟩
theorem zeR {cap:List (Option Nat)}{fi:En→Option (List D)} {g:D→En→Option En}{t:En→Option Bool} {f:En→Option D}{ρ:En} {d:D}(h:zbz cap fi g t f ρ=some d):∃ ds rs,fi ρ=some ds∧ds.length≤lim∧zch g t f (st0E cap ρ) ds=some rs∧d=.lst rs:=by
 unfold zbz at h
 cases e1:fi ρ with
 | none=>rw [e1] at h;cases h
 | some ds=>
  rw [e1] at h
  simp only [Option.bind_some] at h
  split at h
  ·rename_i hz
   cases e2:zch g t f (st0E cap ρ) ds with
   | none=>rw [e2] at h;cases h
   | some rs=>rw [e2] at h;cases h;exact ⟨ds,rs,rfl,hz,e2,rfl⟩
  ·cases h
theorem zfn {fi:En→Option (List D)}{g:D→En→Option En} {t:En→Option Bool}{f:En→Option D} (N:List Str) (cap:List (Option Nat)) (cp:Cap X scope N cap) (hc:X.calm=true) (hi:FI K X tg iter fi)
  (hg:∀ C s0 H0 fp,FG K (zaF X N scope (clOf X.env scope.names []) C s0 H0 fp) tg g) (ht:∀ C s0 H0 fp,rdIf K (zaF X N scope (clOf X.env scope.names []) C s0 H0 fp) ifs t) (he:∀ C s0 H0 fp,FP K .fz (zaF X N scope (clOf X.env scope.names []) C s0 H0 fp) elt f)
  (S:zbn X scope:=by exact zbn.mk') (hs:∀ x,foldedSetIterable iter X.env x=pure x:=by intro _;rfl) (hK:X.K=K:=by rfl) :
  FP K .ow X (.ListComp elt [⟨tg,iter,ifs,0⟩] scope pos) (zbz cap fi g t f):=FP.mk fun ρ d hf=>by
 subst hK
 obtain ⟨ds,rs,e1,hz,e2,rfl⟩:=zeR hf
 refine PE.imp (zlj N cap cp hc (hi.h ρ ds e1) (fun C s0 H0 fp=>PG.any fun i:{ q:En×D×En // g q.2.1 q.1=some q.2.2 }=>(hg C s0 H0 fp).h _ _ _ i.2) (fun C s0 H0 fp=>PIf.any fun i:{ q:En×Bool // t q.1=some q.2 }=>(ht C s0 H0 fp).h _ _ i.2)
  (fun C s0 H0 fp=>PE.any fun i:{ q:En×D // f q.1=some q.2 }=>(he C s0 H0 fp).h _ _ i.2) S hs) fun σ H Q ⟨F,r,q⟩=>?_
 exact ⟨F,r,fun J F1 H1 g1 ok=>ziZ e2 hz r q g1 ok⟩
theorem ssetC (k:Nat) {y:Str}{py spos:Pos} {fi:En→Option (List D)}{g:D→En→Option En} {t:En→Option Bool}{f:En→Option D} (N:List Str) (cap:List (Option Nat)) (cp:Cap X scope N cap) (hc:X.calm=true) (hN:X.N.Nodup) (hi:FI K X tg iter fi)
  (hg:∀ C s0 H0 fp,FG K (zaF X N scope (clOf X.env scope.names []) C s0 H0 fp) tg g) (ht:∀ C s0 H0 fp,rdIf K (zaF X N scope (clOf X.env scope.names []) C s0 H0 fp) ifs t) (he:∀ C s0 H0 fp,FP K .fz (zaF X N scope (clOf X.env scope.names []) C s0 H0 fp) elt f)
  (hk:X.N[k]?=some y:=by rfl) (hy:Loc X.env.scope y:=by first | exact Or.inl rfl | exact Or.inr rfl) (S:zbn X scope:=by exact zbn.mk') (hs:∀ x,foldedSetIterable iter X.env x=pure x:=by intro _;rfl)
  (hsw:swapsWith (.ListComp elt [⟨tg,iter,ifs,0⟩] scope pos) (some (.Name y py)) spos.line X.env=pure true:=by rfl)
  (hf:X.fn y=true∨X.env.scope.names.lookup y=some .local:=by first | exact .inl rfl | exact .inr rfl | assumption) (hK:X.K=K:=by rfl) :
  FS K md X (.Assign [.Name y py] (.ListComp elt [⟨tg,iter,ifs,0⟩] scope pos) spos) (setM k (zbz cap fi g t f)):=FS.mk fun ρ fl hm=>by
 subst hK
 unfold setM at hm
 cases e0:zbz cap fi g t f ρ with
 | none=>rw [e0] at hm;cases hm
 | some d=>
  rw [e0] at hm;cases hm
  obtain ⟨ds,rs,e1,hz,e2,rfl⟩:=zeR e0
  refine PS.imp (zhr N cap cp hc hN hk hy (hi.h ρ ds e1) (fun C s0 H0 fp=>PG.any fun i:{ q:En×D×En // g q.2.1 q.1=some q.2.2 }=>(hg C s0 H0 fp).h _ _ _ i.2) (fun C s0 H0 fp=>PIf.any fun i:{ q:En×Bool // t q.1=some q.2 }=>(ht C s0 H0 fp).h _ _ i.2)
   (fun C s0 H0 fp=>PE.any fun i:{ q:En×D // f q.1=some q.2 }=>(he C s0 H0 fp).h _ _ i.2) S hs hsw hf) fun D σ H ⟨F,r,q⟩=>?_
  refine ⟨F,r,fun J F1 H1 g1 ok=>ziZ e2 hz r (fun v F2 H2 g2 h=>?_) g1 ok⟩
  obtain ⟨a0,ea,z1,z2,z3⟩:=h
  obtain ⟨F3,g3,h3⟩:=Res.fz_of_ow g2 ⟨a0,ea,z1,z2,z3⟩ ea z3.fl
  have s3:=g3.step (ρ:=ρ) (σ:=σ)
  exact q _ F3 H2 ((r.grow g3).setD h3) (s3.kp Kp.setD)
end
noncomputable def SpD (K:PySem.W.Frag) (md:Md) (m:List D→Option D):Sp:=fun vs H Q _=>∃ F ds d,Same F H∧DatL K F ds vs∧m ds=some d∧∀ v F' H',Grow F H F' H'→Res K md H F' H' d v→Q v H'
section
variable {P:Program}{w:World} {K:PySem.W.Frag}{mg:Str→Option Value} {base:Heap}{md:Md} {X:Cx}{k:Nat} {f:Addr}{fd:FuncData} {ps:List Str}{m:List D→Option D} {x:Str}{e:Expr} {es:List Expr}{fs:En→Option (List D)} {p pos:Pos}
theorem fcall (F:FnOk X.prog X.w X.K X.mg X.base CX0 k f fd ps (SpD K md m)) (hr:Room k X.A) (hg:Gl X x) (hm:X.mg x=some (.ref f)) (hk:PySem.W.keepIn X.K (.ref f)=true) (hb:zbA X.K fd ps []) (ha:FPs K true X (e::es) fs)
  (H1:∀ {t:TA},PA X (e::es) t→PE X (.Call (.Name x p) (e::es) [] pos) (zkQ (SpD K md m) [] E0 t):=by exact fun ha=>zim ‹_› ‹_› ‹_› ‹_› ‹_› ‹_› .nil zll ha) :
  FP K md X (.Call (.Name x p) (e::es) [] pos) (cL m fs):=FP.mk fun ρ d hf=>by
 obtain ⟨l,e1,e2⟩:=zeu hf
 refine PE.imp (H1 (ha.h ρ l e1)) fun σ H Q ⟨F,r,q⟩=>⟨F,r,fun vs F1 H1 g1 r1=>?_⟩
 refine ⟨F1,l,d,g1.fh,by rw [List.append_nil];exact r1,e2,fun v F2 H2 g2 h2=>q v F2 H2 (g1.trans g2) ?_⟩
 cases md with
 | fz=>exact h2
 | br=>exact h2
 | ow=>
  obtain ⟨a,e,h3,h4,h5⟩:=h2
  exact ⟨a,e,g1.hh.free h3,h4,h5⟩
noncomputable def zaz (n:Nat) (ds:List D):En:=ds.map (fun d=>some (.dat d))++List.replicate (n - ds.length) none
theorem Rel.start {N:List Str}{F H:Hp} {ds:List D}{vs:List V} (s:Same F H) (q:DatL K F ds vs):Rel K F H (zaz N.length ds) (L2.start N vs):=by
 have hl:=q.length
 have key:∀ (i:Nat) s,(zaz N.length ds)[i]?=some (some s)→∃ d,s=.dat d∧ds[i]?=some d:=fun i s h=>by
  unfold zaz at h
  by_cases hi:i < ds.length
  ·rw [List.getElem?_append_left (by simpa using hi),List.getElem?_map,List.getElem?_eq_getElem hi] at h
   cases h
   exact ⟨_,rfl,List.getElem?_eq_getElem hi⟩
  ·rw [List.getElem?_append_right (by simpa using hi)] at h
   rw [List.getElem?_replicate] at h
   split at h<;>cases h
 refine ⟨s,fun i d h=>?_,fun i d h=>?_,fun i q d h=>?_,fun i j q d s a ne h1=>?_,?_⟩
 ·obtain ⟨d',e,hd⟩:=key i _ h
  cases e
  obtain ⟨v,hv,dv⟩:=q.get hd
  refine ⟨v,?_,dv⟩
  unfold L2.start
  have hi:i < vs.length:=(List.getElem?_eq_some_iff.mp hv).1
  rw [List.getElem?_append_left (by simpa using hi),List.getElem?_map,hv];rfl
 ·obtain ⟨d',e,_⟩:=key i _ h;cases e
 ·obtain ⟨d',e,_⟩:=key i _ h;cases e
 ·obtain ⟨d',e,_⟩:=key i _ h1;cases e
 ·unfold zaz L2.start;simp [hl]
theorem zbP {n:Nat}{ds:List D} {σ:St}{b:Addr} (h:zdi (zaz n ds) σ b):False:=by
 obtain ⟨i,q,d,h,_⟩:=h
 unfold zaz at h
 by_cases hi:i < ds.length
 ·rw [List.getElem?_append_left (by simpa using hi),List.getElem?_map,List.getElem?_eq_getElem hi] at h
  cases h
 ·rw [List.getElem?_append_right (by simpa using hi)] at h
  rw [List.getElem?_replicate] at h
  split at h<;>cases h
theorem Step.grow {n:Nat}{ds:List D} {ρ':En}{σ σ':St} {F H F' H':Hp}(a:Step (zaz n ds) σ F H ρ' σ' F' H') (s:Same F H):Grow F H F' H':=by
 refine ⟨a.ff,fun b o e=>?_,a.fh,fun b o e n=>(a.rest b o e n zbP).2⟩
 cases q:F b with
 | some u=>
  have:=s _ _ q
  rw [e] at this;cases this
  exact a.fh _ _ (a.ff _ _ q)
 | none=>exact (a.rest b o e q zbP).1
theorem zct {qual:Str}{st:Stmt} {N:List Str}(Fn:Fun K x qual st f fd) (S:zar N ps (zah st)) {mb:Nat→En→Option Fl}
  (hb:∀ (n:Nat) (cdv:Value) (A:Around) (outer:List Env) (s:Shared) (H:Hp) (E:XK),Room k (A.deeper (envOfC qual (zah st) s.heap.objs.size f cdv))→FSs K md (cxOf CX0 P w K mg base N qual (zah st) f cdv A outer s H E).nox (zcc st) (mb n))
  (hm:∀ ds d,m ds=some d→ds.length=ps.length∧∃ n,(∃ ρ',mb n (zaz N.length ds)=some (.rt d ρ'))∨(d=.non∧md=.fz∧∃ ρ',mb n (zaz N.length ds)=some (.nx ρ'))):FnOk P w K mg base CX0 (k + 1) f fd ps (SpD K md m):=by
 refine Fn.ok S (fun vs H Q E h=>?_) (fun cdv A outer s H vs Q E hr h=>?_)
 ·obtain ⟨F,ds,d,_,q,e,_⟩:=h
  rw [q.length];exact (hm ds d e).1
 obtain ⟨F,ds,d,sub,qd,e,k⟩:=h
 obtain ⟨_,n,h⟩:=hm ds d e
 rcases h with ⟨ρ',h⟩ | ⟨rfl,rfl,ρ',h⟩
 ·refine ⟨_,(hb n cdv A outer s H E hr).h _ _ h,F,Rel.start sub qd,fun v σ' F' H' r' s' res=>?_⟩
  refine k v F' H' (s'.grow sub) ?_
  cases md with
  | fz=>exact res
  | br=>exact res.elim
  | ow=>
   obtain ⟨a,ea,h1,h2,h3⟩:=res
   refine ⟨a,ea,?_,h2,h3⟩
   rcases h1 with h1 | h1
   ·exact h1
   ·exact (zbP h1).elim
 ·refine ⟨_,(hb n cdv A outer s H E hr).h _ _ h,F,Rel.start sub qd,fun σ' F' H' r' s'=>?_⟩
  exact k _ F' H' (s'.grow sub) (Dat.non (K:=K) (F:=F'))
end
end FL
set_option Elab.async false
set_option linter.all false
set_option maxRecDepth 100000
namespace FL
open PySem PySem.Spec PyProof.Rows L2
theorem u100 {k:Nat}{A:Around} (hr:Room k A):A.units + 100 < cLine:=by have:=hr.un;omega
structure Glb (mg:Str→Option Value):Prop where
 isi:mg "isinstance" = none
 str:mg "str" = none
 tuple:mg "tuple" = none
 list:mg "list" = none
 int:mg "int" = none
 bool:mg "bool" = none
 dict:mg "dict" = none
 len:mg "len" = none
 range:mg "range" = none
 enum:mg "enumerate" = none
 sum:mg "sum" = none
 max:mg "max" = none
 min:mg "min" = none
 abs:mg "abs" = none
 zip:mg "zip" = none
 reversed:mg "reversed" = none
 sorted:mg "sorted" = none
 set:mg "set" = none
 any:mg "any" = none
 all:mg "all" = none
structure Fk (P:Program) (w:World) (K:PySem.W.Frag) (mg:Str→Option Value) (base:Heap) (x:Str) (ps:List Str) (md:Md) (k:Nat) (m:List D→Option D):Prop where
 ex:∃ f fd,FnOk P w K mg base CX0 k f fd ps (SpD K md m)∧zbA K fd ps []∧PySem.W.keepIn K (.ref f)=true∧mg x=some (.ref f)
section
variable {P:Program}{w:World} {K:PySem.W.Frag}{mg:Str→Option Value} {base:Heap}{md:Md} {X:Cx}{k j:Nat} {ps:List Str}{m m':List D→Option D} {x:Str}{e:Expr} {es:List Expr}{fs:En→Option (List D)} {p pos:Pos}
theorem fk (G:Fk X.prog X.w X.K X.mg X.base x ps md k m) (hr:Room j X.A) (ha:FPs K true X (e::es) fs) (hle:k≤j:=by first | decide | omega) (hg:Gl X x:=by rfl) (hK:X.K=K:=by rfl)
  (H1:∀ {f:Addr}{fd:FuncData} {t:TA},FnOk X.prog X.w X.K X.mg X.base CX0 k f fd ps (SpD K md m)→Room k X.A→Gl X x→X.mg x=some (.ref f)→PySem.W.keepIn X.K (.ref f)=true→zbA X.K fd ps []→PA X (e::es) t→PE X (.Call (.Name x p) (e::es) [] pos) (zkQ (SpD K md m) [] E0 t):=by
   exact fun F hr hg hm hk hb ha=>zim F hr hg hm hk hb .nil zll ha) :
  FP K md X (.Call (.Name x p) (e::es) [] pos) (cL m fs):=by
 subst hK
 obtain ⟨f,fd,F,hb,hk,hm⟩:=G.ex
 exact fcall F (hr.mono hle) hg hm hk hb ha fun ha=>H1 F (hr.mono hle) hg hm hk hb ha
theorem Fk.mono (G:Fk P w K mg base x ps md k m) (h:k≤j):Fk P w K mg base x ps md j m:=by
 obtain ⟨f,fd,F,r⟩:=G.ex
 exact ⟨f,fd,F.mono h,r⟩
theorem Fk.never {f:Addr}{fd:FuncData} (h:zbA K fd ps []∧PySem.W.keepIn K (.ref f)=true∧mg x=some (.ref f)) (hm:∀ ds,m ds=none):Fk P w K mg base x ps md 0 m:=by
 refine ⟨f,fd,⟨fun vs H Q E h=>?_,fun A outer s H args us vs Q E _ _ _ _ h=>?_⟩,h⟩
 ·obtain ⟨F,ds,d,_,_,e,_⟩:=h;rw [hm] at e;cases e
 ·obtain ⟨F,ds,d,_,_,e,_⟩:=h;rw [hm] at e;cases e
noncomputable def zbd:List D→Option (List Str)
 | []=>some []
 | .str i::l=>(zbd l).map (i::·)
 | _::_=>none
theorem zdR:∀ {l:List D}{ns:List Str},zbd l=some ns→l=ns.map D.str
 | [],ns,h=>by simp [zbd] at h;subst h;rfl
 | .str i::l,ns,h=>by
  simp only [zbd] at h
  cases e:zbd l with
  | none=>rw [e] at h;cases h
  | some ms=>rw [e] at h;cases h;rw [zdR e];rfl
 | .non::_,_,h=>by simp [zbd] at h
 | .bl _::_,_,h=>by simp [zbd] at h
 | .int _::_,_,h=>by simp [zbd] at h
 | .tup _::_,_,h=>by simp [zbd] at h
 | .lst _::_,_,h=>by simp [zbd] at h
 | .scr _::_,_,h=>by simp [zbd] at h
 | .dic _ _::_,_,h=>by simp [zbd] at h
 | .set _::_,_,h=>by simp [zbd] at h
 | .exc _ _::_,_,h=>by simp [zbd] at h
theorem zeI:∀ (ns:List Str),zbd (ns.map D.str)=some ns
 | []=>rfl
 | n::ns=>by rw [List.map_cons,zbd,zeI ns];rfl
noncomputable def zjO:D→D→Option D
 | .str sep,.lst l=>(zbd l).bind fun ys=>if (ys.map (·.length)).sum + ys.length * sep.length≤16777216 then some (.str (Txt.join sep ys)) else none
 | _,_=>none
theorem fjoin {a o:Expr}{fo fa:En→Option D} {apos cpos:Pos}(ho:FP K .fz X o fo) (ha:FP K .br X a fa) (hbase:attributeBase o "join" X.env (eval o X.env)=eval o X.env:=by rfl)
  (hfew:((backTo cpos (starEach [a] X.env)).all (fun x=>!x.1) && (backToKw cpos (keywordEach [] X.env)).all (fun x=>x.1.isSome) && decide (([a]:List Expr).length + ([]:List Keyword).length + (if ([]:List Keyword).isEmpty then 0 else 1) < 30))=true:=by rfl)
  (hline:(apos.endLine == cpos.line)=true:=by rfl) (hs:starEach [a] X.env=(false,eval a X.env)::starEach [] X.env:=by rfl) (hplain:(backTo cpos (starEach [] X.env)).any (·.1)=false:=by rfl) (hK:X.K=K:=by rfl) :
  FP K .fz X (.Call (.Attribute o "join" apos) [a] [] cpos) (c2 zjO fo fa):=FP.mk fun ρ d hf=>by
 subst hK
 obtain ⟨x,y,e1,e2,e3⟩:=zdh hf
 unfold zjO at e3
 split at e3
 ·rename_i sep l
  cases e4:zbd l with
  | none=>rw [e4] at e3;cases e3
  | some ys=>
   rw [e4] at e3
   obtain ⟨hz,rfl⟩:=zau e3
   rw [zdR e4] at e2
   refine PE.imp (zmA PySem.F.plainAttrs_str PySem.F.slot_str_join PySem.F.type_str_join zlv (ho.h ρ _ e1) (zaq (ha.h ρ _ e2) zaV hs) hbase hfew hline hs hplain) fun σ H Q ⟨F,r,q⟩=>⟨F,r,fun v F1 H1 g1 r1=>?_⟩
   have ev:=Dat.str_inv (K:=X.K) (F:=F1) r1
   subst ev
   refine ⟨rfl,F1,r.grow g1,fun u F2 H2 g2 r2=>?_⟩
   obtain ⟨a,vs,rfl,f,qq⟩:=DatB.lst_inv r2
   rw [qq.strs] at f
   exact ⟨sep,a,ys,rfl,rfl,SqL.of f,hz,fun z ez=>by subst ez;exact q _ F2 H2 (g1.trans g2) (Res.str _)⟩
 ·cases e3
end
noncomputable def FUEL:Nat:=1000000000
noncomputable def runF (mb:En→Option Fl) (np nn:Nat) (ds:List D):Option D:=if ds.length=np then (match mb (zaz nn ds) with
 | some (.rt d _)=>some d
 | _=>none) else none
theorem zaM {mb:Nat→En→Option Fl}{np nn:Nat} {md:Md}:∀ ds d,runF (mb FUEL) np nn ds=some d→ds.length=np∧∃ n,(∃ ρ',mb n (zaz nn ds)=some (.rt d ρ'))∨(d=.non∧md=.fz∧∃ ρ',mb n (zaz nn ds)=some (.nx ρ')):=fun ds d h=>by
 unfold runF at h
 split at h
 ·rename_i hl
  refine ⟨hl,FUEL,.inl ?_⟩
  split at h
  ·rename_i d' ρ' e;cases h;exact ⟨ρ',e⟩
  ·cases h
 ·cases h
theorem znt {l:PySem.W.OpenLaw}{k:Nat} {q:Program}{loose:List Str} {XP:(Str→Option Value)→Heap→Prop}{YP:World→Heap→Prop} {d:DefRec}{K:Params→PySem.W.Frag} {x:Str}{m:List D→Option D} (hn:l.most=some 63) (hdf:d.params.defaults=[]) (hr:Room k callerA)
  (hY:∀ (w:World) (h:Heap),YP w h→(K w.params).In h)
  (F:∀ (w:World) (mg:Str→Option Value) (fa:Addr) (h:Heap),(K w.params).In h→h.Ns mainGlobals mg→mg d.name=some (.ref fa)→
   ∃ fd:FuncData,(∀ (s:Shared) (u:Value),BindsTo s fd ⟨[u],[]⟩ [(x,u)])∧∀ base:Heap,(K w.params).In base→base.Ns mainGlobals mg→FnOk l.prog w (K w.params) mg base CX0 k fa fd [x] (SpD (K w.params) .fz m))
  (H:∀ ns:List Int,ns.length≤63→m [.scr ns]=some (.bl true)):PySem.W.WalkO q loose XP YP l.row.toRowW d [] (fun f vs=>PySem.call f vs):=
 L2.walk_of (n:=63) (k:=k) (x:=x) (CX:=fun _=>CX0) (sp:=fun w=>SpD (K w.params) .fz m) hn (by decide) hdf hr hY F
  (fun w H' a ns hl _ hS=>⟨H',[.scr ns],.bl true,Same.refl _,DatL.cons (Dat.scr hS) DatL.nil,H ns hl,fun v F' H2 _ h=>Dat.bl_inv (K:=K w.params) (F:=F') h⟩) fun _ _ _ _ _ z=>z
end FL
set_option Elab.async false
set_option linter.all false
set_option maxRecDepth 100000
namespace FL
open PySem PySem.Spec PyProof.Rows L2
section
variable {K:PySem.W.Frag}{F H F' H' F2 H2:Hp} {ρ ρ':En}{σ σ':St} {i:Nat}{a:Addr}
end
noncomputable def zdC (nn j:Nat) (c:D) (ds:List D):En:=(zaz nn (ds.take j++.non::ds.drop j)).set j (some (.inn c))
noncomputable def runX (mb:En→Option Fl) (np nn j:Nat) (c:D) (ds:List D):Option (D×D):=if ds.length + 1=np∧j≤ds.length then (match mb (zdC nn j c ds) with
 | some (.rt d ρ')=>(match ρ'[j]? with
  | some (some (.ow true c'))=>some (d,c')
  | _=>none)
 | _=>none) else none
section
variable {P:Program}{w:World} {K:PySem.W.Frag}{mg:Str→Option Value} {base:Heap}{X:Cx} {k j:Nat}{f:Addr} {fd:FuncData}{ps:List Str} {x:Str}
noncomputable def zgM (m:D→List D→Option (D×D)) (i:Nat) (fs:En→Option (List D)):En→Option (D×En):=fun ρ=>match ρ[i]?,fs ρ with
 | some (some (.ow p c)),some ds=>(m c ds).map fun q=>(q.1,ρ.set i (some (.ow p q.2)))
 | _,_=>none
noncomputable def retX (m:En→Option (D×En)):En→Option Fl:=fun ρ=>(m ρ).map fun q=>.rt q.1 q.2
end
noncomputable def zgB (jj:Nat) (ρ:En):Option D:=match ρ[jj]? with
 | some (some (.ow true c))=>some c
 | _=>none
section
variable {K:PySem.W.Frag}{X:Cx} {pos:Pos}{tg iter elt:Expr} {scope:Scope}
end
end FL
set_option Elab.async false
set_option linter.all false
set_option maxRecDepth 100000
namespace HT
open PySem PySem.Spec PyProof.Rows
noncomputable def ZS (h:Heap) (z TI TO:Addr):Prop:=∃ f0 f1,h.get? z=some { cls:=.type "zip",dict:=none,data:=.fields #[f0,f1,.bool false,.ref TI,.ref TO],slots:=#[] }∧(f0=.none∨∃ T:Nat,f0=rawInt T)
section
variable {prog:Program}{w:World} {A:Around}{E:Value→Shared→Prop} {s:Shared}
theorem zdq {a:Addr}{Q:Option Obj→Shared→Prop} (h:Q (s.heap.get? a) s):wpAny (model prog w) A (loadIfAlive a) Q E s:=by
 exact fun _ _ _=>h
theorem zkC {z TI TO:Addr}{Q:Bool→Shared→Prop} (hz:ZS s.heap z TI TO) (h1:Q true s) (h2:∀ h',ZS h' z TI TO→Heap.SameBut z s.heap h'→Q false { s with heap:=h' }) :
  wpAny (model prog w) A (Builtin.SmallTypes.ownedTupleIsFree (.ref z)) Q E s:=by
 obtain ⟨f0,f1,hz,hf⟩:=hz
 unfold Builtin.SmallTypes.ownedTupleIsFree
 rcases hf with rfl | ⟨T,rfl⟩
 ·exact wpAny_bind (wpAny_field hz rfl (x:=.none) rfl (wpAny_pure h1))
 ·refine wpAny_bind (wpAny_field hz rfl (x:=rawInt T) rfl ?_)
  show wpAny _ _ (loadIfAlive _ >>= _) _ _ _
  refine wpAny_bind (zdq ?_)
  split
  ·exact wpAny_pure h1
  ·refine wpAny_bind (wpAny_field hz rfl (x:=f1) rfl ?_)
   split
   ·refine wpAny_bind (wpAny_setField_rec hz (by simp) fun h' hz' hs'=>wpAny_pure (h2 h' ⟨_,_,hz',.inr ⟨T,rfl⟩⟩ hs'))
   ·exact wpAny_pure (h2 s.heap ⟨_,_,hz,.inr ⟨T,rfl⟩⟩ ⟨rfl,fun _ _=>rfl⟩)
theorem zhN {z TI TO i1 i2 l1 l2:Addr}{n1 n2 i:Nat} {P1 P2:Nat→Value→Prop}{S1 S2:Nat→Heap→Prop} {Q:Value→Shared→Prop}(D:ZipApart z TI TO i1 i2 l1 l2)
  (D1:Draws prog w A i1 [i1,l1] n1 P1 S1) (D2:Draws prog w A i2 [i2,l2] n2 P2 S2) (hz:ZS s.heap z TI TO) (hTI:IsPair s.heap TI (.ref i1) (.ref i2)) (hTO:∃ a b,IsPair s.heap TO a b) (st1:S1 i s.heap) (st2:S2 i s.heap) (hi1:i < n1) (hi2:i < n2)
  (hQ:∀ x y h' tk,P1 i x→P2 i y→ZS h' z TI TO→(∃ a b,IsPair h' TO a b)→S1 (i + 1) h'→S2 (i + 1) h'→IsPair h' s.heap.objs.size x y→h'.objs.size=s.heap.objs.size + 1→
   (∀ c o,c≠z→c≠TO→c≠i1→c≠i2→s.heap.get? c=some o→h'.get? c=some o)→Q (.ref s.heap.objs.size) { s with heap:=h',toks:=tk }) :
  wpAny (model prog w) A (Builtin.«zip.__next__» ⟨[.ref z],[]⟩) (fun fin s'=>∃ v,fin=.done (.ret v)∧Q v s') E s:=by
 obtain ⟨f0,f1,hz0,hf⟩:=id hz
 obtain ⟨o1,live1⟩:=D1.live _ _ st1
 obtain ⟨o2,live2⟩:=D2.live _ _ st2
 have F1:∀ {k:Nat}{h h':Heap} {c:Addr},S1 k h→Heap.SameBut c h h'→i1≠c→l1≠c→S1 k h':=fun st hs e1 e2=>D1.frame _ _ _ st fun b hb o e=>by
  rcases List.mem_cons.mp hb with rfl | hb
  ·exact hs.extBut _ _ e1 e
  ·rw [List.mem_singleton.mp hb] at e ⊢;exact hs.extBut _ _ e2 e
 have F2:∀ {k:Nat}{h h':Heap} {c:Addr},S2 k h→Heap.SameBut c h h'→i2≠c→l2≠c→S2 k h':=fun st hs e1 e2=>D2.frame _ _ _ st fun b hb o e=>by
  rcases List.mem_cons.mp hb with rfl | hb
  ·exact hs.extBut _ _ e1 e
  ·rw [List.mem_singleton.mp hb] at e ⊢;exact hs.extBut _ _ e2 e
 show wpAny _ _ (field (.ref z) 2 >>= _) _ _ _
 refine wpAny_bind (wpAny_field hz0 rfl (x:=.bool false) rfl ?_)
 show wpAny _ _ (field (.ref z) 3 >>= _) _ _ _
 refine wpAny_bind (wpAny_field hz0 rfl (x:=.ref TI) rfl ?_)
 refine wpAny_bind (wpAny_seqItems hTI rfl ?_)
 show wpAny _ _ (Builtin.SmallTypes.ownedTupleIsFree (.ref z) >>= _) _ _ _
 refine wpAny_bind (zkC hz ?_ fun h₁ hz₁ hs₁=>?_)
 ·simp only [if_true]
  obtain ⟨a,b,hTO⟩:=hTO
  refine wpAny_bind (wpAny_rule ?_)
  refine wpAny_bind (wpAny_field hz0 rfl (x:=.ref TO) rfl ?_)
  refine wpAny_bind (wpAny_setField_rec hz0 (by simp) fun h₁ hz₁ hs₁=>?_)
  refine wpAny_bind ?_
  simp only [List.zipIdx_cons,List.zipIdx_nil,List.forIn_cons,List.forIn_nil]
  refine wpAny_bind (wpAny_bind (wpAny_onRaise ?_))
  show wpAny _ _ (Builtin.SmallTypes.nextOf (.ref i1) >>= _) _ _ _
  refine wpAny_bind (D1.item i { s with heap:=h₁ } _ _ hi1 (F1 st1 hs₁ D.i1z D.l1z) fun x h₂ tk₂ px st1' hs₂=>wpAny_pure ?_)
  have hTO₂:IsPair h₂ TO a b:=hs₂.extBut _ _ D.TOi1 (hs₁.extBut _ _ D.TOz hTO)
  refine wpAny_bind (wpAny_seqItems hTO₂ rfl ?_)
  refine wpAny_bind (wpAny_updateSeq_pair hTO₂ fun h₃ hTO₃ hs₃=>?_)
  replace hTO₃:IsPair h₃ TO x b:=hTO₃
  refine wpAny_bind (wpAny_letGo (wpAny_pure ?_))
  refine wpAny_bind (wpAny_bind (wpAny_onRaise ?_))
  show wpAny _ _ (Builtin.SmallTypes.nextOf (.ref i2) >>= _) _ _ _
  refine wpAny_bind (D2.item i { s with heap:=h₃,toks:=tk₂ } _ _ hi2 (F2 (F2 (F2 st2 hs₁ D.i2z D.l2z) hs₂ D.i12.symm D.l2i1) hs₃ D.TOi2.symm D.l2TO) fun y h₄ tk₄ py st2' hs₄=>wpAny_pure ?_)
  have hTO₄:IsPair h₄ TO x b:=hs₄.extBut _ _ D.TOi2 hTO₃
  refine wpAny_bind (wpAny_seqItems hTO₄ rfl ?_)
  refine wpAny_bind (wpAny_updateSeq_pair hTO₄ fun h₅ hTO₅ hs₅=>?_)
  replace hTO₅:IsPair h₅ TO x y:=hTO₅
  refine wpAny_bind (wpAny_letGo (wpAny_pure (wpAny_pure ?_)))
  refine wpAny_bind (wpAny_seqItems hTO₅ rfl ?_)
  refine wpAny_bind (wpAny_newTuple ?_)
  have hsz:h₅.objs.size=s.heap.objs.size:=by rw [hs₅.1,hs₄.1,hs₃.1,hs₂.1,hs₁.1]
  have hz₅:=hs₅.extBut _ _ D.TOz.symm (hs₄.extBut _ _ D.i2z.symm (hs₃.extBut _ _ D.TOz.symm (hs₂.extBut _ _ D.i1z.symm hz₁)))
  have hk₅:∀ c o,c≠z→c≠TO→c≠i1→c≠i2→s.heap.get? c=some o→h₅.get? c=some o:=fun c o c1 c2 c3 c4 e=>
   hs₅.extBut _ _ c2 (hs₄.extBut _ _ c4 (hs₃.extBut _ _ c2 (hs₂.extBut _ _ c3 (hs₁.extBut _ _ c1 e))))
  have h1₅:S1 (i + 1) h₅:=F1 (F1 (F1 st1' hs₃ D.TOi1.symm D.l1TO) hs₄ D.i12 D.l1i2) hs₅ D.TOi1.symm D.l1TO
  have h2₅:S2 (i + 1) h₅:=F2 st2' hs₅ D.TOi2.symm D.l2TO
  have hzlt:z < h₅.objs.size:=Heap.lt_size hz₅
  show wpAny _ _ (Builtin.SmallTypes.ownedTupleHandOut (.ref z) (.ref h₅.objs.size) >>= _) _ _ _
  refine wpAny_bind ?_
  unfold Builtin.SmallTypes.ownedTupleHandOut
  have hz₆:=Heap.get?_push_of_some { cls:=.type "tuple",data:=.seq #[x,y] } hz₅
  refine wpAny_bind (wpAny_setField_rec hz₆ (by simp) fun h₇ hz₇ hs₇=>?_)
  refine wpAny_setField_rec hz₇ (by simp) fun h₈ hz₈ hs₈=>?_
  have up:∀ c o,c≠z→h₅.get? c=some o→h₈.get? c=some o:=fun c o c1 e=>hs₈.extBut _ _ c1 (hs₇.extBut _ _ c1 (Heap.get?_push_of_some _ e))
  have hT₈:IsPair h₈ h₅.objs.size x y:=hs₈.extBut _ _ (Nat.ne_of_gt hzlt) (hs₇.extBut _ _ (Nat.ne_of_gt hzlt) (Heap.get?_push_size _ rfl))
  have hz8:h₈.objs.size=h₅.objs.size + 1:=by rw [hs₈.1,hs₇.1,Heap.size_push]
  rw [hsz] at hT₈ hz8
  refine wpAny_pure ⟨_,rfl,?_⟩
  show Q (.ref h₅.objs.size) _
  rw [hsz]
  refine hQ x y h₈ tk₄ px py ⟨_,_,hz₈,.inr ⟨_,rfl⟩⟩ ⟨_,_,up _ _ D.TOz hTO₅⟩ (D1.frame _ _ _ h1₅ fun b hb o e=>up b o ?_ e) (D2.frame _ _ _ h2₅ fun b hb o e=>up b o ?_ e) hT₈ hz8 fun c o c1 c2 c3 c4 e=>up c o c1 (hk₅ c o c1 c2 c3 c4 e)
  ·rcases List.mem_cons.mp hb with rfl | hb
   ·exact D.i1z
   ·rw [List.mem_singleton.mp hb];exact D.l1z
  ·rcases List.mem_cons.mp hb with rfl | hb
   ·exact D.i2z
   ·rw [List.mem_singleton.mp hb];exact D.l2z
 ·simp only [Bool.false_eq_true,if_false]
  obtain ⟨a,b,hTO⟩:=hTO
  rw [← Array.forIn_toList]
  refine wpAny_bind ?_
  simp only [List.forIn_cons,List.forIn_nil]
  refine wpAny_bind (wpAny_bind (wpAny_holding ?_))
  show wpAny _ _ (Builtin.SmallTypes.nextOf (.ref i1) >>= _) _ _ _
  refine wpAny_bind (D1.item i { s with heap:=h₁ } _ _ hi1 (F1 st1 hs₁ D.i1z D.l1z) fun x h₂ tk₂ px st1' hs₂=>wpAny_pure (wpAny_pure ?_))
  refine wpAny_bind (wpAny_bind (wpAny_holding ?_))
  show wpAny _ _ (Builtin.SmallTypes.nextOf (.ref i2) >>= _) _ _ _
  refine wpAny_bind (D2.item i { s with heap:=h₂,toks:=tk₂ } _ _ hi2 (F2 (F2 st2 hs₁ D.i2z D.l2z) hs₂ D.i12.symm D.l2i1) fun y h₄ tk₄ py st2' hs₄=>wpAny_pure (wpAny_pure (wpAny_pure ?_)))
  show wpAny _ _ (newTuple [x,y] >>= _) _ _ _
  refine wpAny_bind (wpAny_newTuple ?_)
  have hsz:h₄.objs.size=s.heap.objs.size:=by rw [hs₄.1,hs₂.1,hs₁.1]
  obtain ⟨g0,g1,hz₁',hg⟩:=hz₁
  have hz₄:=hs₄.extBut _ _ D.i2z.symm (hs₂.extBut _ _ D.i1z.symm hz₁')
  refine wpAny_pure ⟨_,rfl,?_⟩
  show Q (.ref h₄.objs.size) _
  have up:∀ c o,h₄.get? c=some o→(h₄.push { cls:=.type "tuple",data:=.seq #[x,y] }).get? c=some o:=fun c o e=>Heap.get?_push_of_some _ e
  have hT:IsPair (h₄.push { cls:=.type "tuple",data:=.seq #[x,y] }) h₄.objs.size x y:=Heap.get?_push_size _ rfl
  have hz8:(h₄.push { cls:=.type "tuple",data:=.seq #[x,y] }).objs.size=h₄.objs.size + 1:=Heap.size_push ..
  rw [hsz] at hT hz8 ⊢
  exact hQ x y _ tk₄ px py ⟨_,_,up _ _ hz₄,hg⟩ ⟨_,_,up _ _ (hs₄.extBut _ _ D.TOi2 (hs₂.extBut _ _ D.TOi1 (hs₁.extBut _ _ D.TOz hTO)))⟩ (D1.frame _ _ _ (F1 st1' hs₄ D.i12 D.l1i2) fun b hb o e=>up b o e) (D2.frame _ _ _ st2' fun b hb o e=>up b o e) hT hz8
   fun c o c1 c2 c3 c4 e=>up c o (hs₄.extBut _ _ c4 (hs₂.extBut _ _ c3 (hs₁.extBut _ _ c1 e)))
theorem zjm {z TI TO i1 i2 l1 l2:Addr}{n1 n2 i:Nat} {P1 P2:Nat→Value→Prop}{S1 S2:Nat→Heap→Prop} {Q:Fin→Shared→Prop}(D:ZipApart z TI TO i1 i2 l1 l2)
  (D1:Draws prog w A i1 [i1,l1] n1 P1 S1) (D2:Draws prog w A i2 [i2,l2] n2 P2 S2) (hz:ZS s.heap z TI TO) (hTI:IsPair s.heap TI (.ref i1) (.ref i2)) (hTO:∃ a b,IsPair s.heap TO a b) (st1:S1 i s.heap) (st2:S2 i s.heap) (he:i=n1∨(i < n1∧i=n2))
  (hE:∀ h' e tk,(∀ c o,c≠z→c≠TO→c≠i1→c≠i2→s.heap.get? c=some o→h'.get? c=some o)→(∃ o,h'.get? e=some o∧o.cls=.type "StopIteration")→E (.ref e) { s with heap:=h',toks:=tk }) :
  wpAny (model prog w) A (Builtin.«zip.__next__» ⟨[.ref z],[]⟩) Q E s:=by
 obtain ⟨f0,f1,hz0,hf⟩:=id hz
 have F1:∀ {k:Nat}{h h':Heap} {c:Addr},S1 k h→Heap.SameBut c h h'→i1≠c→l1≠c→S1 k h':=fun st hs e1 e2=>D1.frame _ _ _ st fun b hb o e=>by
  rcases List.mem_cons.mp hb with rfl | hb
  ·exact hs.extBut _ _ e1 e
  ·rw [List.mem_singleton.mp hb] at e ⊢;exact hs.extBut _ _ e2 e
 have F2:∀ {k:Nat}{h h':Heap} {c:Addr},S2 k h→Heap.SameBut c h h'→i2≠c→l2≠c→S2 k h':=fun st hs e1 e2=>D2.frame _ _ _ st fun b hb o e=>by
  rcases List.mem_cons.mp hb with rfl | hb
  ·exact hs.extBut _ _ e1 e
  ·rw [List.mem_singleton.mp hb] at e ⊢;exact hs.extBut _ _ e2 e
 show wpAny _ _ (field (.ref z) 2 >>= _) _ _ _
 refine wpAny_bind (wpAny_field hz0 rfl (x:=.bool false) rfl ?_)
 show wpAny _ _ (field (.ref z) 3 >>= _) _ _ _
 refine wpAny_bind (wpAny_field hz0 rfl (x:=.ref TI) rfl ?_)
 refine wpAny_bind (wpAny_seqItems hTI rfl ?_)
 show wpAny _ _ (Builtin.SmallTypes.ownedTupleIsFree (.ref z) >>= _) _ _ _
 refine wpAny_bind (zkC hz ?_ fun h₁ hz₁ hs₁=>?_)
 ·simp only [if_true]
  obtain ⟨a,b,hTO⟩:=hTO
  refine wpAny_bind (wpAny_rule ?_)
  refine wpAny_bind (wpAny_field hz0 rfl (x:=.ref TO) rfl ?_)
  refine wpAny_bind (wpAny_setField_rec hz0 (by simp) fun h₁ hz₁ hs₁=>?_)
  refine wpAny_bind ?_
  simp only [List.zipIdx_cons,List.zipIdx_nil,List.forIn_cons,List.forIn_nil]
  refine wpAny_bind (wpAny_bind (wpAny_onRaise ?_))
  show wpAny _ _ (Builtin.SmallTypes.nextOf (.ref i1) >>= _) _ _ _
  rcases he with rfl | ⟨hlt,rfl⟩
  ·refine wpAny_bind (D1.done { s with heap:=h₁ } _ _ (F1 st1 hs₁ D.i1z D.l1z) fun h₂ e hs₂ he=>?_)
   obtain ⟨oe,hoe,hce⟩:=he
   have hz₂:=hs₂ _ _ D.i1z.symm hz₁
   have hez:e≠z:=fun x=>by subst x;rw [hz₂] at hoe;cases hoe;simp at hce
   exact wpAny_setField_rec hz₂ (by simp) fun h₃ _ hs₃=>hE h₃ e s.toks (fun c o c1 _ c3 _ x=>hs₃.extBut _ _ c1 (hs₂ _ _ c3 (hs₁.extBut _ _ c1 x))) ⟨oe,hs₃.extBut _ _ hez hoe,hce⟩
  ·refine wpAny_bind (D1.item i { s with heap:=h₁ } _ _ hlt (F1 st1 hs₁ D.i1z D.l1z) fun x h₂ tk₂ px st1' hs₂=>wpAny_pure ?_)
   have hTO₂:IsPair h₂ TO a b:=hs₂.extBut _ _ D.TOi1 (hs₁.extBut _ _ D.TOz hTO)
   refine wpAny_bind (wpAny_seqItems hTO₂ rfl ?_)
   refine wpAny_bind (wpAny_updateSeq_pair hTO₂ fun h₃ hTO₃ hs₃=>?_)
   refine wpAny_bind (wpAny_letGo (wpAny_pure ?_))
   refine wpAny_bind (wpAny_bind (wpAny_onRaise ?_))
   show wpAny _ _ (Builtin.SmallTypes.nextOf (.ref i2) >>= _) _ _ _
   refine wpAny_bind (D2.done { s with heap:=h₃,toks:=tk₂ } _ _ (F2 (F2 (F2 st2 hs₁ D.i2z D.l2z) hs₂ D.i12.symm D.l2i1) hs₃ D.TOi2.symm D.l2TO) fun h₄ e hs₄ he=>?_)
   obtain ⟨oe,hoe,hce⟩:=he
   have hz₄:=hs₄ _ _ D.i2z.symm (hs₃.extBut _ _ D.TOz.symm (hs₂.extBut _ _ D.i1z.symm hz₁))
   have hez:e≠z:=fun x=>by subst x;rw [hz₄] at hoe;cases hoe;simp at hce
   exact wpAny_setField_rec hz₄ (by simp) fun h₅ _ hs₅=>hE h₅ e tk₂ (fun c o c1 c2 c3 c4 x=>hs₅.extBut _ _ c1 (hs₄ _ _ c4 (hs₃.extBut _ _ c2 (hs₂.extBut _ _ c3 (hs₁.extBut _ _ c1 x))))) ⟨oe,hs₅.extBut _ _ hez hoe,hce⟩
 ·simp only [Bool.false_eq_true,if_false]
  rw [← Array.forIn_toList]
  refine wpAny_bind ?_
  simp only [List.forIn_cons,List.forIn_nil]
  refine wpAny_bind (wpAny_bind (wpAny_holding ?_))
  show wpAny _ _ (Builtin.SmallTypes.nextOf (.ref i1) >>= _) _ _ _
  rcases he with rfl | ⟨hlt,rfl⟩
  ·refine wpAny_bind (D1.done { s with heap:=h₁ } _ _ (F1 st1 hs₁ D.i1z D.l1z) fun h₂ e hs₂ he=>?_)
   exact hE h₂ e s.toks (fun c o c1 _ c3 _ x=>hs₂ _ _ c3 (hs₁.extBut _ _ c1 x)) he
  ·refine wpAny_bind (D1.item i { s with heap:=h₁ } _ _ hlt (F1 st1 hs₁ D.i1z D.l1z) fun x h₂ tk₂ px st1' hs₂=>wpAny_pure (wpAny_pure ?_))
   refine wpAny_bind (wpAny_bind (wpAny_holding ?_))
   show wpAny _ _ (Builtin.SmallTypes.nextOf (.ref i2) >>= _) _ _ _
   refine wpAny_bind (D2.done { s with heap:=h₂,toks:=tk₂ } _ _ (F2 (F2 st2 hs₁ D.i2z D.l2z) hs₂ D.i12.symm D.l2i1) fun h₄ e hs₄ he=>?_)
   exact hE h₄ e tk₂ (fun c o c1 _ c3 c4 x=>hs₄ _ _ c4 (hs₂.extBut _ _ c3 (hs₁.extBut _ _ c1 x))) he
structure ZSt (z TI TO i1 i2:Addr) (S1 S2:Nat→Heap→Prop) (i:Nat) (h:Heap):Prop where
 zs:ZS h z TI TO
 ti:IsPair h TI (.ref i1) (.ref i2)
 to:∃ a b,IsPair h TO a b
 s1:S1 i h
 s2:S2 i h
theorem next_zip {z TI TO i1 i2 l1 l2:Addr}{n1 n2 i:Nat} {P1 P2:Nat→Value→Prop}{S1 S2:Nat→Heap→Prop} {Q:Option Value→Shared→Prop}(D:ZipApart z TI TO i1 i2 l1 l2)
  (D1:Draws prog w A.in1 i1 [i1,l1] n1 P1 S1) (D2:Draws prog w A.in1 i2 [i2,l2] n2 P2 S2) (st:ZSt z TI TO i1 i2 S1 S2 i s.heap) (hi1:i < n1) (hi2:i < n2)
  (hQ:∀ x y h' tk,P1 i x→P2 i y→ZSt z TI TO i1 i2 S1 S2 (i + 1) h'→IsPair h' s.heap.objs.size x y→h'.objs.size=s.heap.objs.size + 1→
   (∀ c o,c∉[z,TO,i1,i2]→s.heap.get? c=some o→h'.get? c=some o)→Q (some (.ref s.heap.objs.size)) { s with heap:=h',toks:=tk }) :
  wpAny (model prog w) A (pyNext (.ref z)) Q E s:=by
 obtain ⟨f0,f1,hz0,hf⟩:=id st.zs
 have hT:s.TypeIs (.ref z) "zip" := ⟨_,hz0,rfl⟩
 unfold pyNext
 exact wpAny_bind (wpAny_attempt (wpAny_callSpecial?_slot (name:=Str.ofString "__next__") hT PySem.F.slot_zip_next
  (wpAny_call_entry PySem.F.slot_zip_next hT PySem.F.entry_zip_next
   (zhN D D1 D2 st.zs st.ti st.to st.s1 st.s2 hi1 hi2 fun x y h' tk a1 a2 a3 a4 a5 a6 a7 a8 a9=>wpAny_pure (hQ x y h' tk a1 a2 ⟨a3,a9 _ _ D.TIz D.TITO D.TIi1 D.TIi2 st.ti,a4,a5,a6⟩ a7 a8
    fun c o hc e=>a9 c o (fun z=>hc (by simp [z])) (fun z=>hc (by simp [z])) (fun z=>hc (by simp [z])) (fun z=>hc (by simp [z])) e)) (PySem.F.args_zip_next_1 _))))
theorem end_zip {z TI TO i1 i2 l1 l2:Addr}{n1 n2 i:Nat} {P1 P2:Nat→Value→Prop}{S1 S2:Nat→Heap→Prop} {Q:Option Value→Shared→Prop}(D:ZipApart z TI TO i1 i2 l1 l2)
  (D1:Draws prog w A.in1 i1 [i1,l1] n1 P1 S1) (D2:Draws prog w A.in1 i2 [i2,l2] n2 P2 S2) (st:ZSt z TI TO i1 i2 S1 S2 i s.heap) (he:i=n1∨(i < n1∧i=n2))
  (hQ:∀ h' tk,(∀ c o,c∉[z,TO,i1,i2]→s.heap.get? c=some o→h'.get? c=some o)→Q none { s with heap:=h',toks:=tk }):wpAny (model prog w) A (pyNext (.ref z)) Q E s:=by
 obtain ⟨f0,f1,hz0,hf⟩:=id st.zs
 have hT:s.TypeIs (.ref z) "zip" := ⟨_,hz0,rfl⟩
 unfold pyNext
 refine wpAny_bind (wpAny_attempt (wpAny_callSpecial?_slot (name:=Str.ofString "__next__") hT PySem.F.slot_zip_next
  (wpAny_call_entry PySem.F.slot_zip_next hT PySem.F.entry_zip_next (zjm D D1 D2 st.zs st.ti st.to st.s1 st.s2 he fun h' e tk hk he=>?_) (PySem.F.args_zip_next_1 _))))
 obtain ⟨o,ho,hc⟩:=he
 refine wpAny_bind (wpAny_isInstance (T := "StopIteration") (b:=true) ⟨o,ho,hc⟩ isSubtype_stop ?_)
 exact wpAny_pure (hQ _ _ fun c o hc e=>hk c o (fun z=>hc (by simp [z])) (fun z=>hc (by simp [z])) (fun z=>hc (by simp [z])) (fun z=>hc (by simp [z])) e)
noncomputable def SqI (b:Bool) (h:Heap) (l:Addr) (items:Array Value):Prop:=match b with
 | true=>h.IsList l items
 | false=>h.IsTuple l items
noncomputable def itI (b:Bool) (l:Addr) (k:Nat):Obj:={ cls:=.type (match b with | true => "list_iterator" | false => "tuple_iterator"),data:=.fields #[.ref l,.int k 0] }
noncomputable def StI (b:Bool) (it l:Addr) (items:Array Value):Nat→Heap→Prop:=fun i h=>match b with
 | true=>h.IsListIter it l i∧h.IsList l items
 | false=>h.IsTupleIter it l i∧h.IsTuple l items
theorem drawsI {prog:Program}{w:World} {A:Around}(hh:A.handled=none) (b:Bool) (it l:Addr) (hne:l≠it) (items:Array Value) :
  Draws prog w A it [it,l] items.size (fun i v=>items[i]?=some v) (StI b it l items):=by
 cases b
 ·exact znn hh it l hne items
 ·exact Draws.list hh it l hne items
theorem SqI.at {b:Bool}{h h':Heap} {l:Addr}{items:Array Value} (x:SqI b h l items) (k:∀ o,h.get? l=some o→h'.get? l=some o):SqI b h' l items:=by
 cases b
 ·obtain ⟨o,ho,r⟩:=x;exact ⟨o,k o ho,r⟩
 ·exact Heap.IsList.at x k
theorem zie {b:Bool}{l:Addr} {items:Array Value}{Q:Value→Shared→Prop} (hl:SqI b s.heap l items) (hQ:Q (.ref s.heap.objs.size) { s with heap:=s.heap.push (itI b l 0) }):wpAny (model prog w) A (pyIter (.ref l)) Q E s:=by
 cases b
 ·exact wpAny_pyIter_tuple hl hQ
 ·exact wpAny_pyIter_list hl hQ
theorem stI0 {b:Bool}{h:Heap} {it l:Addr}{items:Array Value} (h1:h.get? it=some (itI b l 0)) (h2:SqI b h l items):StI b it l items 0 h:=by
 cases b
 ·exact ⟨⟨_,h1,rfl,rfl⟩,h2⟩
 ·exact ⟨⟨_,h1,rfl,rfl⟩,h2⟩
noncomputable def zH2 (b1 b2:Bool) (h:Heap) (l1 l2:Addr):Heap:=(h.push (itI b1 l1 0)).push (itI b2 l2 0)
noncomputable def zH4 (b1 b2:Bool) (h:Heap) (l1 l2:Addr):Heap:=((zH2 b1 b2 h l1 l2).push { cls:=.type "tuple",data:=.seq #[.ref h.objs.size,.ref (h.push (itI b1 l1 0)).objs.size] }).push { cls:=.type "tuple",data:=.seq #[.none,.none] }
noncomputable def zH5 (b1 b2:Bool) (h:Heap) (l1 l2:Addr):Heap:=(zH4 b1 b2 h l1 l2).push { cls:=.type "zip",data:=.fields #[.none,.bool false,.bool false,.ref (zH2 b1 b2 h l1 l2).objs.size,.ref ((zH2 b1 b2 h l1 l2).push { cls:=.type "tuple",data:=.seq #[.ref h.objs.size,.ref (h.push (itI b1 l1 0)).objs.size] }).objs.size] }
theorem ziB (b1 b2:Bool) (l1 l2:Addr) (xs ys:Array Value) :
  Meets (Builtin.«zip.__new__» ⟨[.type "zip",.ref l1,.ref l2],[]⟩) (fun _ R s=>SqI b1 s.heap l1 xs∧SqI b2 s.heap l2 ys∧
   R (.ok (.ret (.ref (zH4 b1 b2 s.heap l1 l2).objs.size))) { s with heap:=zH5 b1 b2 s.heap l1 l2 }):=
 .of_wp fun prog w A R s h=>by
  obtain ⟨hp,g,d,tk,os⟩:=s;obtain ⟨hl1,hl2,h⟩:=h
  have hsub:=sub_zip
  have hL1:SqI b1 (Shared.heap ⟨hp,g,d,tk,os⟩) l1 xs:=hl1
  have hL2:SqI b2 (Shared.heap ⟨hp.push (itI b1 l1 0),g,d,tk,os⟩) l2 ys:=hl2.at fun o e=>Heap.get?_push_of_some _ e
  wp_walk using zie hL1,zie hL2
  exact ⟨_,rfl,h⟩
theorem call_zip {b1 b2:Bool}{l1 l2:Addr} {xs ys:Array Value}{Q:Value→Shared→Prop} (hl1:SqI b1 s.heap l1 xs) (hl2:SqI b2 s.heap l2 ys)
  (h:∀ h',ZSt (s.heap.objs.size + 4) (s.heap.objs.size + 2) (s.heap.objs.size + 3) s.heap.objs.size (s.heap.objs.size + 1) (StI b1 s.heap.objs.size l1 xs) (StI b2 (s.heap.objs.size + 1) l2 ys) 0 h'→h'.objs.size=s.heap.objs.size + 5→
   (∀ c o,s.heap.get? c=some o→h'.get? c=some o)→Q (.ref (s.heap.objs.size + 4)) { s with heap:=h' }) :
  wpAny (model prog w) A (call (.type "zip") [.ref l1,.ref l2]) Q E s:=by
 refine callType_new PySem.F.called_zip (by decide) (PySem.F.typeCall_zip_2 _ _) (PySem.F.newCall_zip_2 _ _) (fun obj=>PySem.F.args_object_init_3 obj _ _) PySem.F.entry_zip_new
  (ziB b1 b2 l1 l2 xs ys) ⟨hl1,hl2,?_⟩
 have z1:(s.heap.push (itI b1 l1 0)).objs.size=s.heap.objs.size + 1:=Heap.size_push ..
 have z2:(zH2 b1 b2 s.heap l1 l2).objs.size=s.heap.objs.size + 2:=by unfold zH2;rw [Heap.size_push,z1]
 have z3:((zH2 b1 b2 s.heap l1 l2).push { cls:=.type "tuple",data:=.seq #[.ref s.heap.objs.size,.ref (s.heap.push (itI b1 l1 0)).objs.size] }).objs.size=s.heap.objs.size + 3:=by rw [Heap.size_push,z2]
 have z4:(zH4 b1 b2 s.heap l1 l2).objs.size=s.heap.objs.size + 4:=by unfold zH4;rw [Heap.size_push,z3]
 have z5:(zH5 b1 b2 s.heap l1 l2).objs.size=s.heap.objs.size + 5:=by unfold zH5;rw [Heap.size_push,z4]
 have fr:∀ (b:Bool) (l:Addr) (k:Nat),(itI b l k).isFreed=false:=fun b l k=>by cases b<;>rfl
 have g5:(zH5 b1 b2 s.heap l1 l2).get? (zH4 b1 b2 s.heap l1 l2).objs.size=some _:=Heap.get?_push_size _ rfl
 have g4:(zH5 b1 b2 s.heap l1 l2).get? _=some _:=Heap.get?_push_of_some _ (Heap.get?_push_size (((zH2 b1 b2 s.heap l1 l2).push { cls:=.type "tuple",data:=.seq #[.ref s.heap.objs.size,.ref (s.heap.push (itI b1 l1 0)).objs.size] })) rfl)
 have g3:(zH5 b1 b2 s.heap l1 l2).get? _=some _:=Heap.get?_push_of_some _ (Heap.get?_push_of_some _ (Heap.get?_push_size (zH2 b1 b2 s.heap l1 l2) rfl))
 have g2:(zH5 b1 b2 s.heap l1 l2).get? _=some _:=Heap.get?_push_of_some _ (Heap.get?_push_of_some _ (Heap.get?_push_of_some _ (Heap.get?_push_size (s.heap.push (itI b1 l1 0)) (fr b2 l2 0))))
 have g1:(zH5 b1 b2 s.heap l1 l2).get? _=some _:=Heap.get?_push_of_some _ (Heap.get?_push_of_some _ (Heap.get?_push_of_some _ (Heap.get?_push_of_some _ (Heap.get?_push_size s.heap (fr b1 l1 0)))))
 have kp:∀ c o,s.heap.get? c=some o→(zH5 b1 b2 s.heap l1 l2).get? c=some o:=fun c o x=>Heap.get?_push_of_some _ (Heap.get?_push_of_some _ (Heap.get?_push_of_some _ (Heap.get?_push_of_some _ (Heap.get?_push_of_some _ x))))
 show _∧_
 rw [z2,z3,z4] at g5
 rw [z1,z2] at g3
 rw [z3] at g4
 rw [z1] at g2
 rw [z4]
 exact ⟨⟨_,g5,rfl⟩,h _ ⟨⟨_,_,g5,.inl rfl⟩,g3,⟨_,_,g4⟩,stI0 g1 (hl1.at fun o e=>kp _ o e),stI0 g2 (hl2.at fun o e=>kp _ o e)⟩ z5 kp⟩
end
end HT
set_option Elab.async false
set_option linter.all false
set_option maxRecDepth 100000
namespace PySem.F
theorem zip_no_len:typeLookup (.type "zip") "__len__" = pure none:=by rw [typeLookup_type,builtinLookup_eq_fast];kernel_rfl
theorem zip_no_hint:typeLookup (.type "zip") "__length_hint__" = pure none:=by rw [typeLookup_type,builtinLookup_eq_fast];kernel_rfl
end PySem.F
namespace HT
open PySem PySem.Spec PyProof.Rows
theorem pyIter_zs {prog:Program}{w:World} {A:Around}{E:Value→Shared→Prop} {s:Shared}{z TI TO:Addr} {Q:Value→Shared→Prop}(hz:ZS s.heap z TI TO) (h:Q (.ref z) s):wpAny (model prog w) A (pyIter (.ref z)) Q E s:=by
 obtain ⟨f0,f1,hz,_⟩:=hz
 have hT:s.TypeIs (.ref z) "zip" := ⟨_,hz,rfl⟩
 refine wpAny_pyIter_slot hT PySem.F.slot_zip_iter (wpAny_call_entry PySem.F.slot_zip_iter hT PySem.F.entry_zip_iter ?_ (PySem.F.args_zip_iter_1 _))
 show wpAny _ _ (ret (.ref z)) _ _ s
 exact wpAny_pure ⟨_,rfl, "zip",_,hT,PySem.F.slot_zip_next.lookup,h⟩
end HT
namespace L2
open PySem PySem.Spec PyProof.Rows
section
variable {X:Cx}{pins:List (Addr×Obj)} {σ:St}{H:Hp} {s:Shared}{h':Heap} {ch:List Addr}
theorem Inv.turnedL {t':Nat}(I:Inv X pins σ H s) (hf:∀ b∈ch,FpOk X pins H b) (k:∀ b o,b∉ch→s.heap.get? b=some o→h'.get? b=some o):Inv X pins σ H { s with heap:=h',toks:=t' }:=by
 have nch:∀ b u,H b=some u→b∉ch:=fun b u e z=>by rw [(hf b z).1] at e;cases e
 refine I.step (g':=s.gens) (d':=s.drawn) (ch:=ch) (fun b hb=>?_) (fun b o _ _ hc e _=>k b o hc e) (fun b o _ _ hc e _=>⟨o.slots,k b o hc e⟩) (fun _ _ _ _ n=>n)
  (fun b o hc e=>⟨o,k b o hc e⟩) (fun _ _ e=>e) (fun _ _ _ e=>e) (fun b ps e=>⟨#[],by rw [e];simp⟩) (fun m hm=>?_) (fun b u e=>?_) I.bare
 ·obtain ⟨f0,f1,f2,f3,f4,f5⟩:=hf b hb
  exact ⟨f3,f1,f4,f5⟩
 ·obtain ⟨o,es,ep,ho,r⟩:=hm
  exact ⟨o,es,ep,k _ o (fun z=>(hf _ z).2.1 rfl) ho,r⟩
 ·refine (I.hok b u e).stay (fun c v hc q=>k c v ?_ q) (fun _ q=>q) fun _ _ q=>q
  rcases hc with z | z
  ·rw [z];exact nch b u e
  ·exact nch c _ z
theorem Inv.pairL {t':Nat}{x y:Value} {vx vy:V}(I:Inv X pins σ H s) (hf:∀ b∈ch,FpOk X pins H b) (k:∀ b o,b∉ch→s.heap.get? b=some o→h'.get? b=some o) (hT:IsPair h' s.heap.objs.size x y) (rx:RelV vx x) (ry:RelV vy y) :
  Inv X pins σ (upd H s.heap.objs.size (.tup [vx,vy])) { s with heap:=h',toks:=t' }:=by
 have nch:∀ b u,H b=some u→b∉ch:=fun b u e z=>by rw [(hf b z).1] at e;cases e
 have fr:H s.heap.objs.size=none:=I.fresh
 have hok0:HOk X.prog X.w H h':=fun b u q=>by
  refine (I.hok b u q).stay (fun c v hc q'=>k c v ?_ q') (fun _ z=>z) fun _ _ z=>z
  rcases hc with z | z
  ·rw [z];exact nch b u q
  ·exact nch c _ z
 have new:zbK X.prog X.w (upd H s.heap.objs.size (.tup [vx,vy])) h' s.heap.objs.size (.tup [vx,vy]):=
  ⟨by show 2≤sizeLine;rw [sizeLine_eq];decide,[x,y],.cons rx (.cons ry .nil),⟨_,hT,rfl,_,rfl⟩⟩
 have hok1:HOk X.prog X.w (upd H s.heap.objs.size (.tup [vx,vy])) h':=fun b u q=>by
  by_cases hb:b=s.heap.objs.size
  ·subst hb;rw [zag] at q;cases q;exact new
  ·rw [zaj hb] at q
   exact (hok0 b u q).stay (fun _ _ _ z=>z) (fun c z=>by rw [zaj (zaa z fr)];exact z) fun c xs z=>by rw [zaj (zaa z fr)];exact z
 refine I.step (g':=s.gens) (d':=s.drawn) (ch:=ch) (fun b hb=>?_) (fun b o _ _ hc e _=>k b o hc e) (fun b o _ _ hc e _=>⟨o.slots,k b o hc e⟩)
  (fun b o _ q n=>by rw [zaj (Nat.ne_of_lt (Heap.lt_size q))];exact n) (fun b o hc e=>⟨o,k b o hc e⟩) (fun b xs q=>by rw [zaj (zaa q fr)];exact q) (fun b o xs q=>by rw [zaj (zaa q fr)];exact q)
  (fun b ps q=>⟨#[],by rw [zaj (zaa q fr),q];simp⟩) (fun m hm=>?_) hok1 I.bare
 ·obtain ⟨f0,f1,f2,f3,f4,f5⟩:=hf b hb
  exact ⟨f3,f1,f4,f5⟩
 ·obtain ⟨o,es,ep,ho,r⟩:=hm
  exact ⟨o,es,ep,k _ o (fun z=>(hf _ z).2.1 rfl) ho,r⟩
end
noncomputable def SqB (b:Bool) (K:PySem.W.Frag) (H:Hp) (a:Addr) (xs:List V):Prop:=match b with
 | true=>SqL K H a xs
 | false=>SqT K H a xs
theorem Inv.sq {X:Cx}{pins:List (Addr×Obj)} {σ:St}{H:Hp} {s:Shared}{b:Bool} {a:Addr}{xs:List V} (I:Inv X pins σ H s) (h:SqB b X.K H a xs):∃ its,Vals xs its∧HT.SqI b s.heap a its.toArray∧xs.length≤sizeLine:=by
 cases b
 ·obtain ⟨its,r,p,z⟩:=I.tuple h;exact ⟨its,r,p,z⟩
 ·obtain ⟨its,r,p,z⟩:=I.list h;exact ⟨its,r,p.isList,z⟩
noncomputable def zdP (S:Addr):List (V×V)→List V→Hp→(Hp→Prop)→Prop
 | [],_,H,R=>R H
 | (x,y)::l,acc,H,R=>∀ T,H T=none→zdP S l (acc++[.ref T]) (upd (upd H T (.tup [x,y])) S (.lst (acc++[.ref T]))) R
theorem zeH {S:Addr}{R R':Hp→Prop} (w:∀ H,R H→R' H):∀ {l:List (V×V)}{acc:List V} {H:Hp},zdP S l acc H R→zdP S l acc H R'
 | [],_,_,h=>w _ h
 | (x,y)::l,acc,H,h=>fun T hT=>zeH w (h T hT)
section
variable {X:Cx}{pins:List (Addr×Obj)} {σ:St}
theorem loopZ {z TI TO i1 i2 l1 l2 S:Addr}{b1 b2:Bool} {its1 its2:List Value}{xs ys:List V} {A:Around}{R:Result→Shared→Prop} {res:Value}(D:ZipApart z TI TO i1 i2 l1 l2) (hA:A.in1.in1.handled=none)
  (rx:Vals xs its1) (ry:Vals ys its2) (hn:xs.length≤sizeLine) (nS:S∉[z,TI,TO,i1,i2,l1,l2]) :
  ∀ (l:List (V×V)) (i:Nat) (s:Shared) (H:Hp) (acc:List V),l=(xs.zip ys).drop i→i≤xs.length→i≤ys.length→acc.length=i→Inv X pins σ H s→(∀ b∈[z,TO,i1,i2],FpOk X pins H b)→H S=some (.lst acc)→
  HT.ZSt z TI TO i1 i2 (HT.StI b1 i1 l1 its1.toArray) (HT.StI b2 i2 l2 its2.toArray) i s.heap→zdP S l acc H (fun H'=>∀ s',Inv X pins σ H' s'→R (.ok (.ret res)) s')→
  codeAny (model X.prog X.w) A (.builtin "list.extend.loop" ⟨[.ref S,.ref z,res],[]⟩) R s:=by
 have D1:=HT.drawsI (prog:=X.prog) (w:=X.w) (A:=A.in1.in1) hA b1 i1 l1 D.l1i1 its1.toArray
 have D2:=HT.drawsI (prog:=X.prog) (w:=X.w) (A:=A.in1.in1) hA b2 i2 l2 D.l2i2 its2.toArray
 have e1:=rx.length
 have e2:=ry.length
 intro l
 induction l with
 | nil=>
  intro i s H acc hl hi1 hi2 ha I hf hS st q
  have hz:(xs.zip ys).length≤i:=by
   have:=congrArg List.length hl
   rw [List.length_drop,List.length_nil] at this
   omega
  rw [List.length_zip] at hz
  refine codeAny_builtin PySem.F.entry_extend_loop ?_
  rw [Around.under_plainId PySem.F.plain_extend_loop _]
  show wpAny _ A.in1 (pyNext (.ref z) >>= _) _ _ s
  refine wpAny_bind (HT.end_zip D D1 D2 st (by simp only [List.size_toArray];omega) fun h' tk hk=>wpAny_pure ?_)
  exact q _ (I.turnedL hf hk)
 | cons p l ih=>
  obtain ⟨x,y⟩:=p
  intro i s H acc hl hi1 hi2 ha I hf hS st q
  have hlen:i < (xs.zip ys).length:=by
   have:=congrArg List.length hl
   rw [List.length_drop,List.length_cons] at this
   omega
  have hl2:=hl
  rw [List.drop_eq_getElem_cons hlen] at hl2
  injection hl2 with hp hl3
  have hlen':=hlen
  rw [List.length_zip] at hlen'
  have hx:xs[i]?=some x:=by
   rw [List.getElem_zip] at hp
   injection hp with hp1 hp2
   rw [hp1];simp
  have hy:ys[i]?=some y:=by
   rw [List.getElem_zip] at hp
   injection hp with hp1 hp2
   rw [hp2];simp
  obtain ⟨u,hu,ru⟩:=rx.get hx
  obtain ⟨v,hv,rv⟩:=ry.get hy
  refine codeAny_builtin PySem.F.entry_extend_loop ?_
  rw [Around.under_plainId PySem.F.plain_extend_loop _]
  show wpAny _ A.in1 (pyNext (.ref z) >>= _) _ _ s
  refine wpAny_bind (HT.next_zip D D1 D2 st (by simp only [List.size_toArray];omega) (by simp only [List.size_toArray];omega) fun x' y' h' tk px py st' hT hsz hk=>?_)
  have ex:x'=u:=by
   have:its1[i]?=some x':=by simpa using px
   rw [hu] at this;exact (Option.some.inj this).symm
  have ey:y'=v:=by
   have:its2[i]?=some y':=by simpa using py
   rw [hv] at this;exact (Option.some.inj this).symm
  subst ex ey
  have I1:Inv X pins σ (upd H s.heap.objs.size (.tup [x,y])) { s with heap:=h',toks:=tk }:=I.pairL hf hk hT ru rv
  have fr:H s.heap.objs.size=none:=I.fresh
  have hST:S≠s.heap.objs.size:=zaa hS fr
  have hS1:upd H s.heap.objs.size (.tup [x,y]) S=some (.lst acc):=by rw [zaj hST];exact hS
  obtain ⟨its,n,r,ho,hz⟩:=I1.lst hS1
  show wpAny _ A.in1 (updateSeq S (·.push (.ref s.heap.objs.size)) >>= _) _ _ _
  refine wpAny_bind ?_
  have hal:its.length=i:=by rw [← r.length];exact ha
  refine wpAny_updateSeq ho rfl (wpAny_pure ⟨plainId_quiet PySem.F.plain_extend_loop _,?_⟩) (by simp only [List.size_toArray];omega) (by simp only [Array.size_push,List.size_toArray];omega)
  have I2:=I1.lstUpd hS1 ho (f:=Obj.mapSeq (·.push (.ref s.heap.objs.size))) (its':=its++[.ref s.heap.objs.size]) (ys:=acc++[.ref s.heap.objs.size]) (by simp [Obj.mapSeq];rfl) (r.append (.cons (show RelV (.ref s.heap.objs.size) (.ref s.heap.objs.size) from rfl) .nil)) (by rw [List.length_append,List.length_singleton];omega) tk
  refine ih (i + 1) _ _ (acc++[.ref s.heap.objs.size]) hl3 (by omega) (by omega) (by rw [List.length_append,List.length_singleton,ha]) I2 (fun b hb=>?_) zag ?_ (q _ fr)
  ·obtain ⟨f0,f1⟩:=hf b hb
   refine ⟨?_,f1⟩
   have hbS:b≠S:=fun z=>nS (by subst z;simp at hb ⊢;rcases hb with h | h | h | h<;>simp [h])
   have hbT:b≠s.heap.objs.size:=by
    intro z
    subst z
    obtain ⟨q1,q2,q3,_⟩:=st.zs
    obtain ⟨a1,a2,q4⟩:=st.to
    obtain ⟨o1,q5⟩:=D1.live _ _ st.s1
    obtain ⟨o2,q6⟩:=D2.live _ _ st.s2
    simp at hb
    rcases hb with h | h | h | h
    ·rw [← h] at q3;exact Nat.lt_irrefl _ (Heap.lt_size q3)
    ·rw [← h] at q4;exact Nat.lt_irrefl _ (Heap.lt_size q4)
    ·rw [← h] at q5;exact Nat.lt_irrefl _ (Heap.lt_size q5)
    ·rw [← h] at q6;exact Nat.lt_irrefl _ (Heap.lt_size q6)
   rw [zaj hbS,zaj hbT];exact f0
  ·have kk:∀ c o,c≠S→h'.get? c=some o→(h'.update S (Obj.mapSeq (·.push (.ref s.heap.objs.size)))).get? c=some o:=fun c o hc e=>(Heap.get?_update_other _ _ (Ne.symm hc)).trans e
   obtain ⟨q1,q2,q3,q3'⟩:=st'.zs
   obtain ⟨a1,a2,q4⟩:=st'.to
   refine ⟨⟨q1,q2,kk _ _ (fun z=>nS (by simp [← z])) q3,q3'⟩,kk _ _ (fun z=>nS (by simp [← z])) st'.ti,⟨a1,a2,kk _ _ (fun z=>nS (by simp [← z])) q4⟩,D1.frame _ _ _ st'.s1 fun b hb o e=>kk b o ?_ e,D2.frame _ _ _ st'.s2 fun b hb o e=>kk b o ?_ e⟩
   ·intro z;subst z;simp at hb;exact nS (by rcases hb with h | h<;>simp [h])
   ·intro z;subst z;simp at hb;exact nS (by rcases hb with h | h<;>simp [h])
theorem zfu {z TI TO i1 i2 l1 l2:Addr}{b1 b2:Bool} {its1 its2:List Value}{xs ys:List V} {H:Hp}{s:Shared} {Q:VK}(D:ZipApart z TI TO i1 i2 l1 l2) (hc:X.calm=true)
  (rx:Vals xs its1) (ry:Vals ys its2) (hn:xs.length≤sizeLine) (I:Inv X pins σ H s) (hf:∀ b∈[z,TO,i1,i2],FpOk X pins H b)
  (st:HT.ZSt z TI TO i1 i2 (HT.StI b1 i1 l1 its1.toArray) (HT.StI b2 i2 l2 its2.toArray) 0 s.heap)
  (q:∀ S,H S=none→zdP S (xs.zip ys) [] (upd H S (.lst [])) (fun H'=>Q (.ref S) H')) :
  wpAny (model X.prog X.w) X.A (call (.type "list") [.ref z]) (EP X pins σ Q) X.xe s:=by
 have hh:X.A.in1.in1.in1.in1.handled=none:=I.ok.hd hc
 have D1:=HT.drawsI (prog:=X.prog) (w:=X.w) (A:=X.A.in1.in1.in1.in1) hh b1 i1 l1 D.l1i1 its1.toArray
 have D2:=HT.drawsI (prog:=X.prog) (w:=X.w) (A:=X.A.in1.in1.in1.in1) hh b2 i2 l2 D.l2i2 its2.toArray
 have lt:∀ b∈[z,TI,TO,i1,i2,l1,l2],b < s.heap.objs.size:=fun b hb=>by
  obtain ⟨q1,q2,q3,_⟩:=st.zs
  obtain ⟨a1,a2,q4⟩:=st.to
  obtain ⟨o1,q5⟩:=D1.live _ _ st.s1
  obtain ⟨o2,q6⟩:=D2.live _ _ st.s2
  have q7:=st.ti
  have q8:∃ o,s.heap.get? l1=some o:=by
   have h:=st.s1
   cases b1
   ·obtain ⟨o,ho,_⟩:=h.2;exact ⟨o,ho⟩
   ·obtain ⟨o,ho,_⟩:=h.2;exact ⟨o,ho⟩
  have q9:∃ o,s.heap.get? l2=some o:=by
   have h:=st.s2
   cases b2
   ·obtain ⟨o,ho,_⟩:=h.2;exact ⟨o,ho⟩
   ·obtain ⟨o,ho,_⟩:=h.2;exact ⟨o,ho⟩
  obtain ⟨o8,q8⟩:=q8
  obtain ⟨o9,q9⟩:=q9
  simp at hb
  rcases hb with h | h | h | h | h | h | h<;>rw [h]
  ·exact Heap.lt_size q3
  ·exact Heap.lt_size q7
  ·exact Heap.lt_size q4
  ·exact Heap.lt_size q5
  ·exact Heap.lt_size q6
  ·exact Heap.lt_size q8
  ·exact Heap.lt_size q9
 have nS:s.heap.objs.size∉[z,TI,TO,i1,i2,l1,l2]:=fun hm=>Nat.lt_irrefl _ (lt _ hm)
 have mv:∀ (h1 h2:Heap),(∀ b o,b≠s.heap.objs.size→h1.get? b=some o→h2.get? b=some o)→HT.ZSt z TI TO i1 i2 (HT.StI b1 i1 l1 its1.toArray) (HT.StI b2 i2 l2 its2.toArray) 0 h1→HT.ZSt z TI TO i1 i2 (HT.StI b1 i1 l1 its1.toArray) (HT.StI b2 i2 l2 its2.toArray) 0 h2:=fun h1 h2 k st=>by
  obtain ⟨q1,q2,q3,q3'⟩:=st.zs
  obtain ⟨a1,a2,q4⟩:=st.to
  refine ⟨⟨q1,q2,k _ _ (fun z=>nS (by simp [← z])) q3,q3'⟩,k _ _ (fun z=>nS (by simp [← z])) st.ti,⟨a1,a2,k _ _ (fun z=>nS (by simp [← z])) q4⟩,D1.frame _ _ _ st.s1 fun b hb o e=>k b o ?_ e,D2.frame _ _ _ st.s2 fun b hb o e=>k b o ?_ e⟩
  ·intro z;subst z;simp at hb;exact nS (by rcases hb with h | h<;>simp [h])
  ·intro z;subst z;simp at hb;exact nS (by rcases hb with h | h<;>simp [h])
 have fr:H s.heap.objs.size=none:=I.fresh
 refine callType_codes (Q₁:=fun obj s₁=>obj=.ref s.heap.objs.size∧s₁={ s with heap:=s.heap.push { cls:=.type "list",data:=.seq #[] } }) PySem.F.called_list (PySem.F.typeCall_list_1 _) PySem.F.entry_list_init
  (code_list_new _ ⟨rfl,rfl⟩) fun obj s₁ h₁=>?_
 obtain ⟨rfl,rfl⟩:=h₁
 have hS:(s.heap.push { cls:=.type "list",data:=.seq #[] }).get? s.heap.objs.size=some { cls:=.type "list",data:=.seq #[] }:=Heap.get?_push_size _ rfl
 have st1:HT.ZSt z TI TO i1 i2 (HT.StI b1 i1 l1 its1.toArray) (HT.StI b2 i2 l2 its2.toArray) 0 (s.heap.push { cls:=.type "list",data:=.seq #[] }):=mv _ _ (fun b o _ e=>Heap.get?_push_of_some _ e) st
 refine ⟨⟨_,hS,rfl⟩,PySem.F.args_list_init_2 _ _,?_⟩
 show wpAny _ X.A.in1.in1 (do let old ← Builtin.List.listItems (.ref s.heap.objs.size);Builtin.List.listUpdate (.ref s.heap.objs.size) (fun _=>#[]);letGo old.toList.reverse;Builtin.List.listExtendWith (.ref s.heap.objs.size) (.ref z) .none) _ _ _
 refine wpAny_bind ?_
 unfold Builtin.List.listItems
 refine wpAny_bind (wpAny_seqItems hS rfl (wpAny_pure ?_))
 show wpAny _ X.A.in1.in1 (updateSeq s.heap.objs.size (fun _=>#[]) >>= fun _=>letGo (#[]:Array Value).toList.reverse >>= fun _=>Builtin.List.listExtendWith (.ref s.heap.objs.size) (.ref z) .none) _ _ _
 refine wpAny_bind (wpAny_updateSeq hS rfl ?_)
 have hS₂:=Heap.get?_update_self (Obj.mapSeq (fun _=>(#[]:Array Value))) hS rfl
 refine wpAny_bind (wpAny_letGo ?_)
 have st2:=mv _ ((s.heap.push { cls:=.type "list",data:=.seq #[] }).update s.heap.objs.size (Obj.mapSeq (fun _=>(#[]:Array Value)))) (fun b o hb e=>(Heap.get?_update_other _ _ (Ne.symm hb)).trans e) st1
 obtain ⟨q1,q2,q3,q3'⟩:=id st2.zs
 unfold Builtin.List.listExtendWith
 refine wpAny_bind (wpAny_typeOf (T := "zip") ⟨_,q3,rfl⟩ ?_)
 have hSz:s.heap.objs.size≠z:=fun e=>nS (by simp [e])
 have h1:Builtin.List.listSameRef (.ref s.heap.objs.size) (.ref z)=false:=by simp [Builtin.List.listSameRef,hSz]
 have h2:(Value.type "zip" == Value.type "list")=false:=by decide
 have h3:(Value.type "zip" == Value.type "tuple")=false:=by decide
 simp only [h1,h2,h3,Bool.or_false,Bool.false_eq_true,if_false]
 refine wpAny_bind (HT.pyIter_zs st2.zs ?_)
 refine wpAny_bind (wpAny_holding ?_)
 unfold Builtin.List.listLengthHint
 refine wpAny_bind (wpAny_specialOf (T := "zip") ⟨_,q3,rfl⟩ PySem.F.zip_no_len ?_)
 show wpAny _ X.A.in1.in1 (specialOf (Value.ref z) (Str.ofString "__length_hint__") >>= _) _ _ _
 refine wpAny_bind (wpAny_specialOf (T := "zip") ⟨_,q3,rfl⟩ PySem.F.zip_no_hint ?_)
 refine wpAny_pure ?_
 show wpAny _ X.A.in1.in1 (rule "list.extend.makes-room" >>= fun _=>Builtin.List.listTouch (.ref s.heap.objs.size) >>= fun _=>
  again (.builtin "list.extend.loop" ⟨[.ref s.heap.objs.size,.ref z,.none],[]⟩)) _ _ _
 refine wpAny_bind (wpAny_rule ?_)
 refine wpAny_bind ?_
 show wpAny _ X.A.in1.in1 (updateSeq s.heap.objs.size (·.push .none) >>= fun _=>updateSeq s.heap.objs.size (·.pop)) _ _ _
 refine wpAny_bind (wpAny_updateSeq hS₂ rfl ?_)
 have hS₃:=Heap.get?_update_self (Obj.mapSeq (·.push Value.none)) hS₂ rfl
 refine wpAny_updateSeq (hz:=by seq_fits) hS₃ rfl ?_
 have hS₄:=Heap.get?_update_self (Obj.mapSeq (·.pop)) hS₃ rfl
 have st4:=mv _ ((((s.heap.push { cls:=.type "list",data:=.seq #[] }).update s.heap.objs.size (Obj.mapSeq (fun _=>(#[]:Array Value)))).update s.heap.objs.size (Obj.mapSeq (·.push Value.none))).update s.heap.objs.size (Obj.mapSeq (·.pop)))
  (fun b o hb e=>(Heap.get?_update_other _ _ (Ne.symm hb)).trans ((Heap.get?_update_other _ _ (Ne.symm hb)).trans e)) st2
 have I4:Inv X pins σ (upd H s.heap.objs.size (.lst [])) { s with heap:=(((s.heap.push { cls:=.type "list",data:=.seq #[] }).update s.heap.objs.size (Obj.mapSeq (fun _=>(#[]:Array Value)))).update s.heap.objs.size (Obj.mapSeq (·.push Value.none))).update s.heap.objs.size (Obj.mapSeq (·.pop)) }:=by
  refine I.laid (t':=s.toks) (fun b u e=>?_) (Nat.le_refl _) ?_
  ·have hb:b≠s.heap.objs.size:=Nat.ne_of_lt (Heap.lt_size e)
   exact (Heap.get?_update_other _ _ (Ne.symm hb)).trans ((Heap.get?_update_other _ _ (Ne.symm hb)).trans ((Heap.get?_update_other _ _ (Ne.symm hb)).trans (Heap.get?_push_of_some _ e)))
  ·exact ⟨Nat.zero_le _,[],_,.nil,hS₄⟩
 refine wpAny_pure ⟨plainId_quiet PySem.F.plain_extend_loop _,loopZ (A:=X.A.in1) D (I.ok.hd hc) rx ry hn nS _ 0 _ _ [] rfl (Nat.zero_le _) (Nat.zero_le _) rfl I4 (fun b hb=>?_) zag st4 ?_⟩
 ·obtain ⟨f0,f1⟩:=hf b hb
  refine ⟨?_,f1⟩
  rw [zaj (fun z=>nS (by subst z;simp at hb ⊢;rcases hb with h | h | h | h<;>simp [h]))];exact f0
 ·exact zeH (fun H' h s' I'=>⟨rfl,.ref s.heap.objs.size,H',I',rfl,h⟩) (q _ fr)
theorem zjl {a1 a2:Addr}{b1 b2:Bool} {xs ys:List V}{H:Hp} {s:Shared}{Q:Value→Shared→Prop} {E:Value→Shared→Prop}(I:Inv X pins σ H s) (h1:SqB b1 X.K H a1 xs) (h2:SqB b2 X.K H a2 ys)
  (k:∀ z TI TO i1 i2 its1 its2 s',ZipApart z TI TO i1 i2 a1 a2→Vals xs its1→Vals ys its2→xs.length≤sizeLine→Inv X pins σ H s'→(∀ b∈[z,TO,i1,i2],FpOk X pins H b)→HT.ZSt z TI TO i1 i2 (HT.StI b1 i1 a1 its1.toArray) (HT.StI b2 i2 a2 its2.toArray) 0 s'.heap→Q (.ref z) s') :
  wpAny (model X.prog X.w) X.A (call (.type "zip") [.ref a1,.ref a2]) Q E s:=by
 obtain ⟨its1,r1,p1,z1⟩:=I.sq h1
 obtain ⟨its2,r2,p2,z2⟩:=I.sq h2
 have lt:∀ {b:Bool}{a:Addr} {its:Array Value},HT.SqI b s.heap a its→a < s.heap.objs.size:=fun {b a its} h=>by
  cases b
  ·obtain ⟨o,e,_⟩:=h;exact Heap.lt_size e
  ·obtain ⟨o,e,_⟩:=h;exact Heap.lt_size e
 refine HT.call_zip p1 p2 fun h' st hsz hk=>?_
 refine k _ _ _ _ _ its1 its2 _ (zipApart_new (lt p1) (lt p2)) r1 r2 z1 (I.kept (t':=s.toks) hk) (fun b hb=>?_) st
 have hb':s.heap.objs.size≤b:=by
  simp only [List.mem_cons,List.not_mem_nil,or_false] at hb
  rcases hb with h | h | h | h<;>rw [h]<;>first | exact Nat.le_add_right _ _ | exact Nat.le_refl _
 exact I.fpOk hb' (I.hok.fresh hb')
noncomputable def znx (K:PySem.W.Frag) (ta:TA):TE:=fun σ H Q=>ta σ H fun vs H1=>∃ b1 b2 a1 a2 xs ys,vs=[.ref a1,.ref a2]∧SqB b1 K H1 a1 xs∧SqB b2 K H1 a2 ys∧∀ S,H1 S=none→zdP S (xs.zip ys) [] (upd H1 S (.lst [])) (fun H'=>Q (.ref S) H')
theorem zht {a b:Expr}{ta:TA} {p p2 p3 pos:Pos}(hc:X.calm=true) (hg:Gl X "list") (hm:X.mg "list" = none) (hg2:Gl X "zip") (hm2:X.mg "zip" = none) (ha:PA X [a,b] ta)
  (hs:starEach [a,b] X.env=[(false,eval a X.env),(false,eval b X.env)]:=by rfl) (hs2:starEach [b] X.env=[(false,eval b X.env)]:=by rfl)
  (hs3:starEach [.Call (.Name "zip" p2) [a,b] [] p3] X.env=[(false,eval (.Call (.Name "zip" p2) [a,b] [] p3) X.env)]:=by rfl) :
  PE X (.Call (.Name "list" p) [.Call (.Name "zip" p2) [a,b] [] p3] [] pos) (znx X.K ta):=by
 intro pins s σ H Q I h
 refine wpAny_Call_Name_kw (zdn I hg hm boot_list ?_)
 refine PyProof.Rows.callWith_type1 ?_ hs3 rfl
 rw [hs3]
 show wpAny _ _ (spliced ((false,eval (.Call (.Name "zip" p2) [a,b] [] p3) X.env)::backTo pos (starEach [] X.env))) _ _ s
 refine Calls.spliced_cons (wpAny_Call_Name_kw (zdn I hg2 hm2 boot_zip ?_))
 refine PyProof.Rows.callWith_type1 (thn (ha p3 pins s σ H _ I h) fun us s1 ⟨vs,H1,I1,r1,q1⟩=>?_) (by rw [hs,hs2]) (by rw [hs2];rfl)
 obtain ⟨b1,b2,a1,a2,xs,ys,rfl,e1,e2,q⟩:=q1
 obtain ⟨u1,u2,rfl,ru1,ru2⟩:=zhQ r1
 cases ru1
 cases ru2
 refine zjl I1 e1 e2 fun z TI TO i1 i2 its1 its2 s' D rx ry hn I' hf st=>?_
 exact Calls.spliced_nil (zfu D hc rx ry hn I' hf st q)
end
end L2
set_option Elab.async false
set_option linter.all false
set_option maxRecDepth 100000
namespace HT
open PySem PySem.Spec PyProof.Rows
end HT
namespace L2
open PySem PySem.Spec PyProof.Rows
section
variable {X:Cx}{pins:List (Addr×Obj)} {σ:St}
end
noncomputable def Itrv (K:PySem.W.Frag) (a:Addr) (n:Nat):It:=
 ⟨fun i H=>i < n∧∃ xs,SqL K H a xs∧xs.length=n,fun i H x H'=>H'=H∧∀ xs,SqL K H a xs→xs[n - 1 - i]?=some x,fun i H=>i=n⟩
theorem zjp {P:Program}{w:World} {K:PySem.W.Frag}{tg:Expr} (a it:Addr) (n:Nat):Turn P w K tg (Itrv K a n) [it] it (fun i h=>i≤n∧h.IsRevIter it a ((n:Int) - 1 - i)) where
 mem:=by simp
 obj:=fun i h st b hb=>by
  obtain ⟨_,o,e,c,d⟩:=st
  rw [List.mem_singleton.mp hb]
  exact ⟨o,e,fun v z=>by rw [d] at z;cases z⟩
 keep:=fun i h h' st k=>⟨st.1,st.2.at fun o e=>k it (by simp) o e⟩
 item:=by
  intro X hP hw hK hc i pins s σ H E I hf st hg
  subst hP hw hK
  obtain ⟨hi,xs,hq,hn⟩:=hg
  obtain ⟨its,rv,p,hz⟩:=I.list hq
  have hx:xs[n - 1 - i]?=some (xs[n - 1 - i]'(by omega)):=by simp
  obtain ⟨u,hu,ru⟩:=rv.get hx
  have fi:=hf it (by simp)
  have e:(n:Int) - 1 - i=((n - 1 - i:Nat):Int):=by omega
  have hit:=st.2
  rw [e] at hit
  refine wpAny_pyNext_rev_item hit p.isList (by simpa using hu) fun h' hit' hs'=>⟨_,rfl,?_⟩
  obtain ⟨o,ho,hc',hd⟩:=id hit'
  obtain ⟨f0,f1,f2,f3,f4,f5⟩:=fi
  refine zjU ho hc' hd (by decide) ⟨_,H,I.turned (t':=s.toks) (fun b o hb e=>hs'.extBut _ _ hb e) f0 f1 f3 f4 f5,ru,⟨rfl,fun ys hy=>by rw [I.list_inj hy hq];exact hx⟩,⟨by omega,?_⟩,fun b hb=>(hf b hb).1⟩
  have e2:(n:Int) - 1 - ((i + 1:Nat):Int)=((n - 1 - i:Nat):Int) - 1:=by omega
  rw [e2];exact hit'
 done:=by
  intro X hP hw hK hc i pins s σ H E I hf st hg
  subst hP hw hK
  have hg:i=n:=hg
  subst hg
  have e:(i:Int) - 1 - i=-1:=by omega
  have hit:=st.2
  rw [e] at hit
  obtain ⟨f0,f1,f2,f3,f4,f5⟩:=hf it (by simp)
  exact wpAny_pyNext_rev_end (I.ok.hd hc) hit fun h' hx=>⟨rfl,I.turned (t':=s.toks) (fun b o hb e=>hx b o hb e) f0 f1 f3 f4 f5⟩
 self:=fun A i s Q E st h=>wpAny_pyIter_revIter st.2 h
section
variable {X:Cx}
noncomputable def iRev (K:PySem.W.Frag) (ta:TA):TI:=fun σ H R=>ta σ H fun vs H1=>∃ a xs,vs=[.ref a]∧SqL K H1 a xs∧R (Itrv K a xs.length) H1
theorem pi_rev {a tg:Expr}{ta:TA} {p pos:Pos}(hg:Gl X "reversed") (hm:X.mg "reversed" = none) (ha:PA X [a] ta) (hs:starEach [a] X.env=[(false,eval a X.env)]:=by rfl):PI X tg (.Call (.Name "reversed" p) [a] [] pos) (iRev X.K ta):=by
 intro pins s σ H R I h
 refine Call_ (zdn I hg hm boot_reversed (PyProof.Rows.callWith_type1 (thn (ha pos pins s σ H _ I h) fun us s1 ⟨vs,H1,I1,r1,q1⟩=>?_) hs rfl))
 obtain ⟨a,xs,rfl,hq,q⟩:=q1
 obtain ⟨u,rfl,ru⟩:=zfx r1
 cases ru
 obtain ⟨its,rv,p,hz⟩:=I1.list hq
 refine call_reversed_list p.isList ?_
 have hit:(s1.heap.push (revObj a ((its.toArray.size:Int) - 1))).IsRevIter s1.heap.objs.size a ((xs.length:Int) - 1 - (0:Nat)):=by
  refine ⟨_,Heap.get?_push_size _ rfl,rfl,?_⟩
  show Data.fields _=_
  rw [List.size_toArray,← rv.length]
  simp
 have I2:Inv X pins σ H1 { s1 with heap:=s1.heap.push (revObj a ((its.toArray.size:Int) - 1)) }:=I1.kept (t':=s1.toks) fun b o e=>Heap.get?_push_of_some _ e
 refine wpAny_pyIter_revIter hit ?_
 refine ⟨_,_,_,_,H1,rfl,I2,zjp a _ xs.length,⟨Nat.zero_le _,hit⟩,fun b hb=>?_,q⟩
 rw [List.mem_singleton.mp hb]
 exact I1.fpOk (Nat.le_refl _) (I1.hok.fresh (Nat.le_refl _))
end
end L2
set_option Elab.async false
set_option linter.all false
set_option maxRecDepth 100000
namespace FL
open PySem PySem.Spec PyProof.Rows L2
noncomputable def zcl (xs ys:List D):List D:=List.zipWith (fun x y=>.tup [x,y]) xs ys
noncomputable def zipD (x y:D):Option D:=(itS x).bind fun a=>(itS y).map fun b=>.lst (zcl a b)
section
variable {K:PySem.W.Frag}{X:Cx} {pos:Pos}
theorem Dat.seqB {F:Hp}{d:D} {v:V}{l:List D} (h:Dat K F d v) (e:itS d=some l):∃ b a vs,v=.ref a∧(∀ H,Same F H→SqB b K H a vs)∧DatL K F l vs:=by
 cases d<;>simp only [itS] at e<;>try (cases e;done)
 ·cases e
  obtain ⟨a,vs,rfl,f,q⟩:=h.tup_inv
  exact ⟨false,a,vs,rfl,fun H s=>SqT.of (s _ _ f),q⟩
 ·cases e
  obtain ⟨a,vs,rfl,f,q⟩:=h.lst_inv
  exact ⟨true,a,vs,rfl,fun H s=>SqL.of (s _ _ f),q⟩
 ·cases e
  obtain ⟨a,rfl,f⟩:=h.scr_inv
  exact ⟨true,a,_,rfl,fun H s=>Same.seq s f,DatL.ofInts _⟩
theorem zkr {F H:Hp}{S:Addr} {R:Hp→Prop}(hS0:H S=none):∀ (xs ys:List D) (vs us:List V) (acc:List V) (dn:List D) (F' H':Hp),Grow F H F' H'→F' S=none→H' S=some (.lst acc)→DatL K F' dn acc→DatL K F' xs vs→DatL K F' ys us→
  (∀ F2 H2 acc2,Grow F H F2 H2→F2 S=none→H2 S=some (.lst acc2)→DatL K F2 (dn++zcl xs ys) acc2→R H2)→zdP S (vs.zip us) acc H' R
 | [],ys,vs,us,acc,dn,F',H',g,fS,hS,da,dx,dy,q=>by
  rw [dx.nil_inv]
  exact q F' H' acc g fS hS (by simpa [zcl] using da)
 | x::xs,[],vs,us,acc,dn,F',H',g,fS,hS,da,dx,dy,q=>by
  rw [dy.nil_inv,List.zip_nil_right]
  exact q F' H' acc g fS hS (by simpa [zcl] using da)
 | x::xs,y::ys,vs,us,acc,dn,F',H',g,fS,hS,da,dx,dy,q=>by
  obtain ⟨v,vs,rfl,h1,h2⟩:=dx.cons_inv
  obtain ⟨u,us,rfl,h3,h4⟩:=dy.cons_inv
  intro T hT
  have hTS:S≠T:=zaa hS hT
  have fT:F' T=none:=g.fh.free hT
  have g2:=Grow.frozen (o:=.tup [v,u]) g.fh hT
  have fS2:upd F' T (.tup [v,u]) S=none:=by rw [zaj hTS];exact fS
  have g3:Grow F H (upd F' T (.tup [v,u])) (upd (upd H' T (.tup [v,u])) S (.lst (acc++[.ref T]))):=by
   have gg:=g.trans g2
   exact ⟨gg.ff,fun b o e=>by rw [zaj (zaa e hS0)];exact gg.hh _ _ e,fun b o e=>by rw [zaj (zaa e fS2)];exact gg.fh _ _ e,gg.nw⟩
  refine zkr hS0 xs ys vs us (acc++[.ref T]) (dn++[.tup [x,y]]) _ _ g3 fS2 zag ((da.mono g2.ff).snoc (Dat.tup (K:=K) zag (DatL.cons (h1.mono g2.ff) (DatL.cons (h3.mono g2.ff) DatL.nil)))) (h2.mono g2.ff) (h4.mono g2.ff) fun F2 H2 acc2 a b c d=>q F2 H2 acc2 a b c ?_
  simpa [zcl] using d
theorem zhO {x y d:D}(h:zipD x y=some d):∃ a b,itS x=some a∧itS y=some b∧d=.lst (zcl a b):=by
 unfold zipD at h
 cases e1:itS x with
 | none=>rw [e1] at h;cases h
 | some a=>
  cases e2:itS y with
  | none=>rw [e1,e2] at h;cases h
  | some b=>rw [e1,e2] at h;cases h;exact ⟨a,b,rfl,rfl,rfl⟩
theorem fzipL {a b:Expr}{fa fb:En→Option D} {p p2 p3:Pos}(hc:X.calm=true) (hg:Gl X "list") (hm:X.mg "list" = none) (hg2:Gl X "zip") (hm2:X.mg "zip" = none) (ha:FP K .fz X a fa) (hb:FP K .fz X b fb)
  (hs:starEach [a,b] X.env=[(false,eval a X.env),(false,eval b X.env)]:=by rfl) (hs2:starEach [b] X.env=[(false,eval b X.env)]:=by rfl)
  (hs3:starEach [.Call (.Name "zip" p2) [a,b] [] p3] X.env=[(false,eval (.Call (.Name "zip" p2) [a,b] [] p3) X.env)]:=by rfl) (hK:X.K=K:=by rfl) :
  FP K .ow X (.Call (.Name "list" p) [.Call (.Name "zip" p2) [a,b] [] p3] [] pos) (c2 zipD fa fb):=FP.mk fun ρ d hf=>by
 subst hK
 obtain ⟨x,y,e1,e2,e3⟩:=zdh hf
 obtain ⟨xs,ys,i1,i2,rfl⟩:=zhO e3
 refine PE.imp (zht hc hg hm hg2 hm2 (zaq (ha.h ρ x e1) (zaq (hb.h ρ y e2) zaV hs2) (by rw [hs,hs2])) hs hs2 hs3) fun σ H Q h_=>?_
 obtain ⟨F,rl,q⟩:=h_
 refine ⟨F,rl,fun v F1 H1 g1 r1=>⟨F1,rl.grow g1,fun u F2 H2 g2 r2=>?_⟩⟩
 obtain ⟨b1,a1,vs,rfl,s1,q1⟩:=Dat.seqB (K:=X.K) (F:=F1) r1 i1
 obtain ⟨b2,a2,us,rfl,s2,q2⟩:=Dat.seqB (K:=X.K) (F:=F2) r2 i2
 refine ⟨b1,b2,a1,a2,vs,us,rfl,s1 H2 (g2.ff.trans g2.fh),s2 H2 g2.fh,fun S hS=>?_⟩
 have g:=g1.trans g2
 have g':Grow F H F2 (upd H2 S (.lst [])):=g.trans (Grow.fresh g2.fh hS)
 refine zkr (g.hh.free hS) xs ys vs us [] [] F2 _ g' (g2.fh.free hS) zag DatL.nil (q1.mono g2.ff) q2 fun F3 H3 acc2 g3 f3 h3 d3=>?_
 exact q _ F3 H3 g3 ⟨S,rfl,g.hh.free hS,f3,acc2,h3,d3⟩
noncomputable def cRv (f:En→Option D):En→Option (List D):=fun ρ=>match f ρ with
 | some (.lst l)=>some l.reverse
 | _=>none
theorem irev {a tg:Expr}{fa:En→Option D} {p:Pos}(ha:FP K .fz X a fa) (hg:Gl X "reversed") (hm:X.mg "reversed" = none) (hs:starEach [a] X.env=[(false,eval a X.env)]:=by rfl) (hK:X.K=K:=by rfl) :
  FI K X tg (.Call (.Name "reversed" p) [a] [] pos) (cRv fa):=FI.mk fun ρ ds hf=>by
 subst hK
 unfold cRv at hf
 split at hf
 ·rename_i l e1
  cases hf
  refine PI.imp (L2.pi_rev hg hm (zaq (ha.h ρ _ e1) zaV hs) hs) fun σ H R ⟨F,rl,q⟩=>⟨F,rl,fun v F1 H1 g1 r1=>?_⟩
  obtain ⟨a,vs,rfl,f1,q1⟩:=Dat.lst_inv (K:=X.K) (F:=F1) r1
  have hl:=q1.length
  refine ⟨a,vs,rfl,SqL.of (g1.fh _ _ f1),q _ F1 H1 g1 fun F2 H2 f2 h2=>?_⟩
  have hs:SqL X.K H2 a vs:=SqL.of (h2 _ _ (f2 _ _ f1))
  refine ⟨fun i hi=>⟨by rw [List.length_reverse] at hi;omega,vs,hs,rfl⟩,fun i x H3 d hd y=>?_,by show _=_;rw [List.length_reverse,hl]⟩
  obtain ⟨rfl,y⟩:=y
  have hi:i < l.length:=by
   have:=(List.getElem?_eq_some_iff.mp hd).1
   rwa [List.length_reverse] at this
  rw [List.getElem?_reverse hi] at hd
  obtain ⟨w,hw,dw⟩:=q1.get hd
  have:=y vs hs
  rw [hl,hw] at this
  cases this
  exact ⟨F2,Grow.refl h2,dw.mono f2⟩
 ·cases hf
noncomputable def putM (i:Nat) (fk fe:En→Option D):En→Option Fl:=fun ρ=>match ρ[i]?,fe ρ,fk ρ with
 | some (some (.ow pp (.lst l))),some d,some (.int k)=>(ixN l.length k).map fun j=>.nx (ρ.set i (some (.ow pp (.lst (l.set j d)))))
 | _,_,_=>none
end
end FL
set_option Elab.async false
set_option linter.all false
set_option maxRecDepth 100000
namespace L2
open PySem PySem.Spec PyProof.Rows
section
variable {κ:Type} [DecidableEq κ]
end
section
variable {P:Program}{w:World} {H:Hp}{h:Heap} {a:Addr}
end
section
variable {X:Cx}{pins:List (Addr×Obj)} {σ:St}{H:Hp} {s:Shared}{a:Addr} {y v:V}{u r:Value} {o:Option V}{A:Around} {E:Value→Shared→Prop}
end
section
variable {X:Cx}{pins:List (Addr×Obj)} {σ:St}{H:Hp} {s:Shared}{a:Addr} {kvs:List (Key×V)}{k:Key} {u:Value}{A:Around} {E:Value→Shared→Prop}
end
section
variable {X:Cx}{o i e value:Expr} {pos pos' tpos:Pos}{td ty tv:TE}
end
section
variable {X:Cx}{pos:Pos}
end
section
variable {X:Cx}{pins:List (Addr×Obj)} {σ:St}{H:Hp} {s:Shared}{a:Addr} {y d:V}{u r:Value} {o:Option V}{A:Around} {E:Value→Shared→Prop}
end
section
variable {X:Cx}{o e f:Expr} {apos cpos:Pos}{td ty tx:TE}
end
section
variable {X:Cx}{pins:List (Addr×Obj)} {σ:St}{H:Hp} {s:Shared}{a:Addr} {kvs:List (Key×V)}{A:Around} {E:Value→Shared→Prop}
end
section
variable {X:Cx}{pins:List (Addr×Obj)} {σ:St}{H:Hp} {s:Shared}{a:Addr} {y:V}{u:Value} {A:Around}{E:Value→Shared→Prop}
end
end L2
set_option Elab.async false
set_option linter.all false
set_option maxRecDepth 100000
namespace FL
open PySem PySem.Spec PyProof.Rows L2
noncomputable def keyD:D→Option Key
 | .int i=>some (.inl i)
 | .str x=>some (.inr x)
 | _=>none
noncomputable def valD (ks:List KD) (ds:List D) (k:KD):Option D:=((ks.zip ds).find? fun p=>decide (p.1=k)).map (·.2)
noncomputable def putD (ks:List KD) (ds:List D) (k:KD) (d:D):List KD×List D:=
 if (ks.any fun x=>decide (x=k))=true then (ks,(ks.zip ds).map fun p=>if p.1=k then d else p.2) else (ks++[k],ds++[d])
section
variable {K:PySem.W.Frag}{X:Cx} {pos:Pos}
noncomputable def kOk (ks:List KD):Bool:=ks.all fun x=>match x with
 | .tup _=>false
 | _=>true
noncomputable def c3 (p:D→D→D→Option D) (fa fb fc:En→Option D):En→Option D:=fun ρ=>(fa ρ).bind fun x=>(fb ρ).bind fun y=>(fc ρ).bind fun z=>p x y z
noncomputable def zgD (x y z:D):Option D:=match x,keyD y with
 | .dic ks ds,some k=>if kOk ks=true then some ((valD ks ds (kdK k)).getD z) else none
 | _,_=>none
noncomputable def zgK:List D→Option D
 | [.dic ks ds]=>if kOk ks=true then some (.dic ks ds) else none
 | _=>none
noncomputable def zgp (i:Nat) (fk fe:En→Option D):En→Option Fl:=fun ρ=>match ρ[i]?,fe ρ,(fk ρ).bind keyD with
 | some (some (.ow pp (.dic ks ds))),some d,some k=>if kOk ks=true∧ks.length < lim then some (.nx (ρ.set i (some (.ow pp (.dic (putD ks ds (kdK k) d).1 (putD ks ds (kdK k) d).2))))) else none
 | _,_,_=>none
noncomputable def frzM (i:Nat) (m:En→Option Fl):En→Option Fl:=fun ρ=>match ρ[i]? with
 | some (some (.ow false d))=>m (ρ.set i (some (.dat d)))
 | _=>none
end
end FL
set_option Elab.async false
set_option linter.all false
set_option maxRecDepth 100000
namespace L2
open PySem PySem.Spec PyProof.Rows
end L2
namespace FL
open PySem PySem.Spec PyProof.Rows L2
section
variable {K:PySem.W.Frag}{X:Cx} {pos:Pos}
noncomputable def zmf (z:Str):List D:=z.cps.toList.map fun c=>D.str ⟨#[c]⟩
noncomputable def cSg (f:En→Option D):En→Option (List D):=fun ρ=>match f ρ with
 | some (.str z)=>some (zmf z)
 | _=>none
noncomputable def zgJ (y z:D):Option D:=(keyD y).map fun k=>.dic [kdK k] [z]
end
end FL
set_option Elab.async false
set_option linter.all false
set_option maxRecDepth 100000
namespace FL
open PySem PySem.Spec PyProof.Rows L2
section
variable {K:PySem.W.Frag}{X:Cx} {pos:Pos}
end
end FL
set_option Elab.async false
set_option linter.all false
set_option maxRecDepth 100000
namespace L2
open PySem PySem.Spec PyProof.Rows
end L2
namespace FL
open PySem PySem.Spec PyProof.Rows L2
section
variable {K:PySem.W.Frag}{X:Cx} {pos:Pos}{tg l:Expr} {f:En→Option D}
end
end FL
set_option Elab.async false
set_option linter.all false
set_option maxRecDepth 100000
namespace L2
open PySem PySem.Spec PyProof.Rows
section
variable {X:Cx}{pins:List (Addr×Obj)} {σ:St}{N:List Str} {cap:List (Option Nat)}{scope:Scope} {tg iter kx vx:Expr}{ifs:List Expr} {pos:Pos}{g:TG} {tt:TT}{tk tv:TE}
end
end L2
namespace FL
open PySem PySem.Spec PyProof.Rows L2
section
variable {K:PySem.W.Frag}{md:Md} {X:Cx}{pos:Pos} {tg iter kx vx:Expr}{ifs:List Expr} {scope:Scope}
end
end FL
set_option Elab.async false
set_option linter.all false
set_option maxRecDepth 100000
namespace HT
open PySem PySem.Spec PyProof.Rows PySem.Calls
end HT
namespace L2
open PySem PySem.Spec PyProof.Rows
section
variable {X:Cx}
end
end L2
namespace FL
open PySem PySem.Spec PyProof.Rows L2
section
variable {K:PySem.W.Frag}{X:Cx} {md:Md}{pos:Pos}
end
end FL
set_option Elab.async false
set_option linter.all false
set_option maxRecDepth 100000
namespace FL
open PySem PySem.Spec PyProof.Rows L2
section
variable {P:Program}{w:World} {K:PySem.W.Frag}{mg:Str→Option Value} {base:Heap}{X:Cx} {k j:Nat}{ps:List Str} {x:Str}
end
end FL
set_option Elab.async false
set_option linter.all false
set_option maxRecDepth 100000
namespace FL
open PySem PySem.Spec PyProof.Rows L2
section
variable {K:PySem.W.Frag}{md:Md} {X:Cx}{a b e:Expr} {fa fb:En→Option D}{m:En→Option (D×En)} {p:D→D→Option D}{pos:Pos}
end
section
variable {K:PySem.W.Frag}{X:Cx} {e:Expr}{es:List Expr} {m:En→Option (D×En)}{fs:En→Option (List D)} {gs:En→Option (List D×En)}{pos p:Pos} {x:Str}{ps:List Str} {k j:Nat}{mm:List D→Option D}
end
section
variable {K:PySem.W.Frag}{X:Cx} {pos:Pos}
end
end FL
set_option Elab.async false
set_option linter.all false
set_option maxRecDepth 100000
namespace L2
open PySem PySem.Spec PyProof.Rows
section
variable {X:Cx}
end
end L2
namespace FL
open PySem PySem.Spec PyProof.Rows L2
section
variable {K:PySem.W.Frag}{F H:Hp} {X:Cx}
end
end FL
set_option Elab.async false
set_option linter.all false
set_option maxRecDepth 100000
namespace L2
open PySem PySem.Spec PyProof.Rows
section
variable {X:Cx}{tg iter tg2 iter2 elt:Expr} {scope:Scope}{pos:Pos} {wi:TI}{g2:TG} {te:TE}
variable {pins:List (Addr×Obj)}{σ:St} {N:List Str}{cap:List (Option Nat)} {ifs:List Expr}{g:TG} {tt:TT}
end
end L2
set_option Elab.async false
set_option linter.all false
set_option maxRecDepth 100000
namespace FL
open PySem PySem.Spec PyProof.Rows L2
section
variable {K:PySem.W.Frag}{md:Md} {X:Cx}{pos:Pos} {tg iter tg2 iter2 elt:Expr}{scope:Scope}
end
end FL
set_option Elab.async false
set_option linter.all false
set_option maxRecDepth 100000
namespace L2
open PySem PySem.Spec PyProof.Rows
section
variable {X:Cx}
end
end L2
namespace FL
open PySem PySem.Spec PyProof.Rows L2
section
variable {K:PySem.W.Frag}{md:Md} {X:Cx}{f:En→Option D} {pos:Pos}
end
end FL
set_option Elab.async false
set_option linter.all false
set_option maxRecDepth 100000
namespace HD
open PySem PySem.W PySem.Calls PyProof.Rows
noncomputable def bal (S:SharedT→Thread→Option (SharedT×Thread)) (ok:Thread→Bool) (d:Nat):SharedT→Thread→Option (SharedT×Thread):=
 @Nat.rec (fun _=>SharedT→Thread→Option (SharedT×Thread)) (fun s t=>match through t with
  | true=>some (s,t)
  | false=>match ok t with
   | false=>none
   | true=>S s t)
  (fun _ ih s t=>match ih s t with
   | none=>none
   | some (s',t')=>match through t' with
    | true=>some (s',t')
    | false=>ih s' t') d
section
variable {tb:String→Option Builtin}{p:Program} {w:World}{n₀:Nat} {ann:Option Value}
theorem zfy:∀ {n m:Nat}{s s' s2:Shared} {t t' t2:Thread},topGo tb p w n₀ ann n s t=some (s',t')→topGo tb p w n₀ ann m s' t'=some (s2,t2)→topGo tb p w n₀ ann (n + m) s t=some (s2,t2)
 | 0,m,s,s',s2,t,t',t2,h,k=>by
  obtain ⟨rfl,rfl⟩:s=s'∧t=t':=by simpa [topGo] using h
  rw [Nat.zero_add];exact k
 | n + 1,m,s,s',s2,t,t',t2,h,k=>by
  rw [show n + 1 + m=n + m + 1 by omega]
  unfold topGo at h ⊢
  cases ht:through t with
  | true=>rw [ht] at h;cases h
  | false=>
   rw [ht] at h
   cases hk:stepOk n₀ ann t with
   | false=>rw [hk] at h;cases h
   | true=>
    rw [hk] at h
    cases hs:step (denote tb) p w s t with
    | halt o s₂=>rw [hs] at h;cases h
    | go s₂ t₂=>rw [hs] at h;exact zfy h k
theorem zjg:∀ (d:Nat) {s s':SharedT}{t t':Thread},bal (stepT (denote tb) p w) (stepOk n₀ ann) d s t=some (s',t')→∃ n,n≤2 ^ d∧topGo tb p w n₀ ann n s.abs t=some (s'.abs,t')
 | 0,s,s',t,t',h=>by
  have h:(match through t with
   | true=>some (s,t)
   | false=>match stepOk n₀ ann t with
    | false=>none
    | true=>stepT (denote tb) p w s t)=some (s',t'):=h
  cases ht:through t with
  | true=>rw [ht] at h;cases h;exact ⟨0,Nat.zero_le _,rfl⟩
  | false=>
   rw [ht] at h
   cases hk:stepOk n₀ ann t with
   | false=>rw [hk] at h;cases h
   | true=>
    rw [hk] at h
    refine ⟨1,by simp,?_⟩
    unfold topGo
    rw [ht,hk,stepT_spec h]
    rfl
 | d + 1,s,s',t,t',h=>by
  have h:(match bal (stepT (denote tb) p w) (stepOk n₀ ann) d s t with
   | none=>none
   | some (s',t')=>match through t' with
    | true=>some (s',t')
    | false=>bal (stepT (denote tb) p w) (stepOk n₀ ann) d s' t')=some (s',t'):=h
  cases e:bal (stepT (denote tb) p w) (stepOk n₀ ann) d s t with
  | none=>rw [e] at h;cases h
  | some r=>
   obtain ⟨s1,t1⟩:=r
   rw [e] at h
   obtain ⟨n,hn,g⟩:=zjg d e
   cases ht:through t1 with
   | true=>simp only [ht] at h;cases h;exact ⟨n,by rw [Nat.pow_succ];omega,g⟩
   | false=>
    simp only [ht] at h
    obtain ⟨m,hm,g2⟩:=zjg d h
    exact ⟨n + m,by rw [Nat.pow_succ];omega,zfy g g2⟩
theorem zlQ {d:Nat}{s s':SharedT} {t t':Thread}(h:bal (stepT (denote tb) p w) (stepOk n₀ ann) d s t=some (s',t')) (ht:through t'=true) {N:Nat}(hN:2 ^ d + 1≤N) :
  topRun tb p w n₀ ann N s.abs t=some s'.abs:=by
 obtain ⟨n,hn,g⟩:=zjg d h
 have k:topRun tb p w n₀ ann 1 s'.abs t'=some s'.abs:=by unfold topRun;rw [ht]
 have r:=topRun_mono (N - (n + 1)) _ _ _ _ (go_top g k)
 rwa [show n + 1 + (N - (n + 1))=N by omega] at r
end
noncomputable def zmZ (l:List Obj):Nat→BT→BT:=@List.rec Obj (fun _=>Nat→BT→BT) (fun _ t=>t) (fun o _ ih n t=>ih (n + 1) (t.ins n o)) l
noncomputable def zlP (P:Params):BT:=zmZ (boot_heap P).objs.toList 0 .nil
theorem zko (P:Params):absHeap (zlP P) 11 {}=boot_heap P:=by kernel_rfl
theorem zhK (P:Params):((boot_heap P).isNs mainGlobals,(boot_heap P).objs.size,(boot_heap P).nsMap mainGlobals "__annotations__")=(true,11,some (.ref 6)):=by kernel_rfl
section
variable {p q:Program}{loose:List Str} {Xt:Shared→Bool}{α:Type} {Yf:Shared→α}{Ya:World→α} {N d:Nat}
noncomputable def bootS (w:World) (os:OsState):SharedT:=⟨zlP w.params,11,{},⟨[]⟩,boot_drawn,boot_toks,os⟩
noncomputable def looks (p q:Program) (loose:List Str) (Xt:Shared→Bool) (Yf:Shared→α) (sn:Program→List Str→List Str→(Shared→Bool)→Bool→Shared→β) (im:List Stmt→List Str) (w:World) (r:SharedT×Thread):Bool×Bool×β×α:=
 (through r.2,staticsOk (im p.main.body) (boot_heap w.params) r.1.abs.heap && namesBound p r.1.abs.heap && gensDone r.1.abs && laidKept (boot_heap w.params) r.1.abs.heap,sn q loose (im p.main.body) Xt true r.1.abs,Yf r.1.abs)
theorem left_of (e:opening p=plainProg p.main.scope.names) (hN:Nat.ble 600 N=true) (hd:Nat.ble (2 ^ d + 1) N=true) (f:∀ s,fenceModules? p s=some s)
  (h:∀ w:World,(fun os:OsState=>(bal (stepT (denote treeTable) p w) (stepOk 11 (some (.ref 6))) d (bootS w os) (topStub p)).map (looks p q loose Xt Yf openSeen importedModules w))=fun _=>some (true,true,openGood q loose,Ya w)) :
  LeftO p q loose Xt Yf Ya N:=fun w=>by
 obtain ⟨⟨hp,gs,dr,k,os⟩,e1,e2⟩:=Option.map_eq_some_iff.mp (boot_open e hN f w)
 obtain ⟨rfl,rfl,rfl,rfl⟩:hp=boot_heap w.params∧gs=⟨[]⟩∧dr=boot_drawn∧k=boot_toks:=by simpa using e2
 obtain ⟨⟨s,t⟩,b1,b2⟩:=Option.map_eq_some_iff.mp (congrFun (h w) os)
 have l1:=congrArg (fun x=>x.1) b2
 have l2:=congrArg (fun x=>x.2.1) b2
 have l3:=congrArg (fun x=>x.2.2.1) b2
 have l4:=congrArg (fun x=>x.2.2.2) b2
 dsimp only [looks] at l1 l2 l3 l4
 have r:=zlQ b1 l1 (Nat.le_of_ble_eq_true hd)
 have ea:(bootS w os).abs=⟨boot_heap w.params,⟨[]⟩,boot_drawn,boot_toks,os⟩:=by
  show Shared.mk (absHeap (zlP w.params) 11 {}) _ _ _ _=_
  rw [zko];rfl
 rw [ea] at r
 have z:=zhK w.params
 simp only [Prod.mk.injEq] at z
 obtain ⟨z1,z2,z3⟩:=z
 have t':topFrom treeTable p w N ⟨boot_heap w.params,⟨[]⟩,boot_drawn,boot_toks,os⟩=some s.abs:=by
  unfold topFrom
  dsimp only
  rw [z1,z2,z3,r]
  show (match staticsOk (importedModules p.main.body) (boot_heap w.params) s.abs.heap && namesBound p s.abs.heap && gensDone s.abs && laidKept (boot_heap w.params) s.abs.heap with | true=>_ | false=>_)=_
  rw [l2]
 unfold openEnds
 rw [e1]
 show (topFrom treeTable p w N _).map _=_
 rw [t']
 exact congrArg some (Prod.ext l3 l4)
end
end HD
namespace FL
open PySem PySem.Spec PyProof.Rows L2
noncomputable def zkp (h:Heap):PySem.W.Frag:=(List.range h.objs.size).filterMap fun a=>(h.get? a).map fun o=>(a,o)
theorem allIn_in (h:Heap):(zkp h).In h:=by
 intro a o
 unfold zkp
 generalize List.range h.objs.size=l
 induction l with
 | nil=>intro e;cases e
 | cons b l ih=>
  rw [List.filterMap_cons]
  cases e:h.get? b with
  | none=>exact ih
  | some u=>
   intro q
   have q:List.lookup a ((b,u)::List.filterMap (fun a=>Option.map (fun o=>(a,o)) (h.get? a)) l)=some o:=q
   rw [List.lookup_cons] at q
   cases z:a == b with
   | true=>rw [z] at q;cases q;rw [beq_iff_eq.mp z];exact e
   | false=>rw [z] at q;exact ih q
noncomputable abbrev FnT:=Str×Str×Arguments×FuncBody×Scope×Addr×List (Str×Addr)×Value×Addr
noncomputable def fnT (fd:FuncData):FnT:=(fd.name,fd.qualname,fd.params,fd.body,fd.scope,fd.globals,fd.closure,fd.defaults,fd.builtins)
noncomputable def fnv (K:PySem.W.Frag) (n:Str):Option (FnT×Bool):=match PySem.W.nsIn K mainGlobals n with
 | some (some (.ref f))=>(match K.lookup f with
  | some ⟨_,_,.func fd,_⟩=>some (fnT fd,PySem.W.codeIn K fd.code n && PySem.W.keepIn K (.ref f))
  | _=>none)
 | _=>none
noncomputable def stN:Stmt→Str
 | .FunctionDef n ..=>n
 | .ClassDef n ..=>n
 | _=>⟨#[]⟩
noncomputable def fnx (p:Program) (i:Nat):Option (FnT×Bool):=
 let st:=p.main.body.getD i (.Pass ⟨0,0,0,0⟩)
 some (fnT (PySem.W.fnOf (stN st) (stN st) (zfp st) (zcc st) (zah st) .none .none .none .none none .none .none),true)
theorem ziP {K:PySem.W.Frag}{p:Program} {i:Nat}(st:Stmt) (hst:p.main.body.getD i (.Pass ⟨0,0,0,0⟩)=st) {n:Str}(hn:stN st=n) (e:fnv K (stN (p.main.body.getD i (.Pass ⟨0,0,0,0⟩)))=fnx p i) :
  ∃ f fd,PySem.W.nsIn K mainGlobals n=some (some (.ref f))∧Fun K n n st f fd:=by
 subst hst
 unfold fnx at e
 dsimp only at e
 rw [hn] at e
 unfold fnv at e
 split at e
 ·rename_i f e1
  split at e
  ·rename_i oc od fd osl e2
   have e3:=Option.some.inj e
   have e4:=congrArg Prod.fst e3
   have e5:=congrArg Prod.snd e3
   dsimp only at e4 e5
   obtain ⟨c,k⟩:=Bool.and_eq_true_iff.mp e5
   refine ⟨f,fd,e1,⟨oc,od,fd.kwdefaults,fd.doc,fd.pyModule,fd.annotations,fd.code,fd.closureTuple,osl,?_,e2,c⟩,k⟩
   obtain ⟨a1,a2,a3,a4,a5,a6,a7,a8,a9,a10,a11,a12,a13,a14,a15⟩:=fd
   unfold fnT at e4
   simp only [Prod.mk.injEq] at e4
   obtain ⟨rfl,rfl,rfl,rfl,rfl,rfl,rfl,rfl,rfl⟩:=e4
   rfl
  ·cases e
 ·cases e
noncomputable def topS (p:Program) (i:Nat):Stmt:=p.main.body.getD i (.Pass ⟨0,0,0,0⟩)
noncomputable def biN:List Str:=["isinstance", "str", "tuple", "list", "int", "bool", "dict", "len", "range", "enumerate", "sum", "max", "min", "abs", "zip", "reversed", "sorted", "set", "any", "all"]
noncomputable abbrev FaT:=List (Option (FnT×Bool))×List (Option (Option Value))
noncomputable def faV (p:Program) (I:List Nat) (K:PySem.W.Frag):FaT:=(I.map fun i=>fnv K (stN (p.main.body.getD i (.Pass ⟨0,0,0,0⟩))),biN.map fun n=>PySem.W.nsIn K mainGlobals n)
noncomputable def faX (p:Program) (I:List Nat):FaT:=(I.map fun i=>fnx p i,biN.map fun _=>some none)
theorem zha {α β:Type}{f g:α→β}:∀ {l:List α},l.map f=l.map g→∀ i∈l,f i=g i
 | [],_,_,h=>nomatch h
 | a::l,e,i,h=>by
  injection e with e1 e2
  cases h with
  | head=>exact e1
  | tail _ h=>exact zha e2 i h
theorem zbO {p:Program}{I:List Nat} {K:PySem.W.Frag}(A:faV p I K=faX p I) (i:Nat) (hi:i∈I) {n:Str}(hn:stN (topS p i)=n) :
  ∃ f fd,PySem.W.nsIn K mainGlobals n=some (some (.ref f))∧Fun K n n (topS p i) f fd:=ziP _ rfl hn (zha (congrArg Prod.fst A) i hi)
theorem zng {p:Program}{I:List Nat} {K:PySem.W.Frag}{h:Heap} {mg:Str→Option Value}(A:faV p I K=faX p I) (X:K.In h) (G:h.Ns mainGlobals mg):Glb mg:=by
 have z:∀ n∈biN,mg n=none:=fun n hn=>PySem.W.mg_none_of X G (zha (f:=fun n=>PySem.W.nsIn K mainGlobals n) (g:=fun _=>some none) (congrArg Prod.snd A) n hn)
 simp only [biN,List.forall_mem_cons] at z
 obtain ⟨z1,z2,z3,z4,z5,z6,z7,z8,z9,z10,z11,z12,z13,z14,z15,z16,z17,z18,z19,z20,_⟩:=z
 exact ⟨z1,z2,z3,z4,z5,z6,z7,z8,z9,z10,z11,z12,z13,z14,z15,z16,z17,z18,z19,z20⟩
end FL
set_option Elab.async false
set_option linter.all false
set_option maxRecDepth 100000
namespace TS
open PySem PySem.Spec PyProof.Rows
section
variable {P:Program}{w:World} {A:Around}{E:Value→Shared→Prop} {s:Shared}{a:Addr}
end
section
variable {P:Program}{w:World} {A:Around}{R:Result→Shared→Prop} {I:Addr}{fp wr:List Addr} {G:Array GenState→Array GenState→Prop}{n:Nat} {PP:Nat→Value→Prop}{Stt:Nat→Shared→Prop}
end
section
variable {P:Program}{w:World} {A:Around}{E:Value→Shared→Prop} {s:Shared}{a:Addr}
end
end TS
set_option Elab.async false
set_option linter.all false
set_option maxRecDepth 100000
namespace TS
open PySem PySem.Spec PyProof.Rows
section
variable {M:Model}{P:Program} {w:World}{A:Around} {E:Value→Shared→Prop}{s:Shared} {a:Addr}
end
end TS
set_option Elab.async false
set_option linter.all false
set_option maxRecDepth 100000
namespace TS
open PySem PySem.Spec PyProof.Rows
section
variable {P:Program}{w:World} {A:Around}{E:Value→Shared→Prop} {s:Shared}{a it:Addr} {o:Obj}{es:Array (Int×Value)} {ep:Nat}{t:SetTable} {ex:List Addr}{vs:List Value} {i:Nat}
end
end TS
set_option Elab.async false
set_option linter.all false
set_option maxRecDepth 100000
namespace TS
open PySem PySem.Spec PyProof.Rows
section
variable {P:Program}{w:World} {A:Around}{E:Value→Shared→Prop} {s:Shared}{a it:Addr} {o:Obj}{es:Array (Int×Value)} {ep:Nat}{t:SetTable} {ex:List Addr}{vs:List Value} {i:Nat}
end
end TS
set_option Elab.async false
set_option linter.all false
set_option maxRecDepth 100000
namespace TS
open PySem PySem.Spec PyProof.Rows
section
variable {P:Program}{w:World} {A:Around}{E:Value→Shared→Prop} {s:Shared}{a it:Addr} {o:Obj}{es:Array (Int×Value)} {ep:Nat}{t:SetTable} {ex:List Addr}{vs:List Value} {i:Nat}
end
end TS
set_option Elab.async false
set_option linter.all false
set_option maxRecDepth 100000
namespace L2
open PySem PySem.Spec PyProof.Rows
section
variable {X:Cx}
end
end L2
namespace TS
open PySem PySem.Spec PyProof.Rows
end TS
namespace L2
open PySem PySem.Spec PyProof.Rows
section
variable {X:Cx}
end
end L2
namespace FL
open PySem PySem.Spec PyProof.Rows L2
section
variable {K:PySem.W.Frag}{X:Cx} {e:Expr}{f:En→Option D} {pos:Pos}{x:Str} {p apos cpos:Pos}
end
end FL
set_option Elab.async false
set_option linter.all false
set_option maxRecDepth 100000
namespace FL
open PySem PySem.Spec PyProof.Rows L2
mutual
noncomputable def pyD:D→PyData
 | .non=>.none
 | .bl b=>.bool b
 | .int i=>.int i
 | .str x=>.str x
 | .tup l=>.tuple (pyDs l)
 | .lst l=>.list (pyDs l)
 | _=>.none
noncomputable def pyDs:List D→List PyData
 | []=>[]
 | d::l=>pyD d::pyDs l
end
mutual
noncomputable def plD:D→Bool
 | .non=>true
 | .bl _=>true
 | .int _=>true
 | .str _=>true
 | .tup l=>plDs l
 | .lst l=>plDs l
 | _=>false
noncomputable def plDs:List D→Bool
 | []=>true
 | d::l=>plD d && plDs l
end
mutual
theorem ziw:∀ d:D,(pyD d).hasDict=false
 | .non=>by simp [pyD,PyData.hasDict]
 | .bl _=>by simp [pyD,PyData.hasDict]
 | .int _=>by simp [pyD,PyData.hasDict]
 | .str _=>by simp [pyD,PyData.hasDict]
 | .tup l=>by simp [pyD,PyData.hasDict,zgx l]
 | .lst l=>by simp [pyD,PyData.hasDict,zgx l]
 | .scr _=>by simp [pyD,PyData.hasDict]
 | .dic _ _=>by simp [pyD,PyData.hasDict]
 | .set _=>by simp [pyD,PyData.hasDict]
 | .exc _ _=>by simp [pyD,PyData.hasDict]
theorem zgx:∀ l:List D,PyData.hasDictAll (pyDs l)=false
 | []=>by simp [pyDs,PyData.hasDictAll]
 | d::l=>by simp [pyDs,PyData.hasDictAll,ziw d,zgx l]
end
section
variable {K:PySem.W.Frag}{F H:Hp} {P:Program}{w:World} {h:Heap}
mutual
theorem zgT (ok:HOk P w H h) (sub:Same F H):∀ {d:D}{v:V} {u:Value},plD d=true→Dat K F d v→RelV v u→∃ as,Reads h u (pyD d) as
 | .non,v,u,_,hd,r=>by
  rw [hd.non_inv] at r;rw [show u=.none from r];rw [pyD];exact ⟨_,.none⟩
 | .bl b,v,u,_,hd,r=>by
  rw [hd.bl_inv] at r;rw [show u=.bool b from r];rw [pyD];exact ⟨_,.bool b⟩
 | .int i,v,u,_,hd,r=>by
  rw [hd.int_inv] at r;obtain ⟨t,rfl⟩:=r;rw [pyD];exact ⟨_,.int i t⟩
 | .str x,v,u,_,hd,r=>by
  rw [hd.str_inv] at r;obtain ⟨t,rfl⟩:=r;rw [pyD];exact ⟨_,.str x t⟩
 | .tup l,v,u,hp,hd,r=>by
  obtain ⟨a,vs,rfl,h1,h2⟩:=hd.tup_inv
  cases r
  obtain ⟨_,its,rv,o,e,c1,n,c2⟩:=ok a _ (sub _ _ h1)
  obtain ⟨as,ra⟩:=zdV ok sub (by rw [plD] at hp;exact hp) h2 rv
  rw [pyD]
  exact ⟨_,.tuple e c1 c2 (by simpa using ra)⟩
 | .lst l,v,u,hp,hd,r=>by
  obtain ⟨a,vs,rfl,h1,h2⟩:=hd.lst_inv
  cases r
  obtain ⟨_,its,n,rv,e⟩:=ok a _ (sub _ _ h1)
  obtain ⟨as,ra⟩:=zdV ok sub (by rw [plD] at hp;exact hp) h2 rv
  rw [pyD]
  exact ⟨_,.list e rfl rfl (by simpa using ra)⟩
 | .scr _,_,_,hp,_,_=>by simp [plD] at hp
 | .dic _ _,_,_,hp,_,_=>by simp [plD] at hp
 | .set _,_,_,hp,_,_=>by simp [plD] at hp
 | .exc _ _,_,_,hp,_,_=>by simp [plD] at hp
theorem zdV (ok:HOk P w H h) (sub:Same F H):∀ {l:List D}{vs:List V} {us:List Value},plDs l=true→DatL K F l vs→Vals vs us→∃ as,ReadsAll h us (pyDs l) as
 | [],vs,us,_,hd,r=>by
  rw [hd.nil_inv] at r;cases r;rw [pyDs];exact ⟨_,.nil⟩
 | d::l,vs,us,hp,hd,r=>by
  obtain ⟨v,vs',rfl,h1,h2⟩:=hd.cons_inv
  cases r with
  | cons r1 r2=>
   rw [plDs,Bool.and_eq_true] at hp
   obtain ⟨as,a1⟩:=zgT ok sub hp.1 h1 r1
   obtain ⟨bs,a2⟩:=zdV ok sub hp.2 h2 r2
   rw [pyDs]
   exact ⟨_,.cons a1 a2⟩
end
end
noncomputable def shD (d:D):Bool:=plD d && (pyD d).showable && decide ((pyD d).depth≤100) && match d with
 | .str x=>decide (x.length≤4000000)
 | .tup _=>decide ((pyD d).shown.length≤4000000)
 | .lst _=>decide ((pyD d).shown.length≤4000000)
 | _=>false
theorem zfv:8000000≤sizeLine:=by rw [sizeLine_eq];decide
section
variable {X:Cx}{k:Nat} {F H:Hp}{pins:List (Addr×Obj)} {σ:St}{s:Shared}
theorem fmt {d:D}{v:V} {u:Value}{Q:Value→Shared→Prop} (hr:Room k X.A) (I:Inv X pins σ H s) (sub:Same F H) (hd:Dat X.K F d v) (r:RelV v u) (hs:shD d=true)
  (h:∀ y t s',Inv X pins σ H s'→y.length≤4000000→Q (.str y t) s'):wpAny (model X.prog X.w) X.A (formatField u Str.empty) Q X.xe s:=by
 unfold shD at hs
 simp only [Bool.and_eq_true,decide_eq_true_eq] at hs
 obtain ⟨⟨⟨h1,h2⟩,h3⟩,h4⟩:=hs
 obtain ⟨as,ra⟩:=zgT I.hok sub h1 hd r
 have hu:=hr.un
 have hz:(pyD d).depth + 2≤102:=by omega
 have big:=zfv
 cases d with
 | str x=>
  rw [hd.str_inv] at r;obtain ⟨t,rfl⟩:=r
  have h4:=of_decide_eq_true h4
  exact formatField_str (fun t' tk=>h x t' _ (I.tok tk) h4) (by omega)
 | tup l=>
  obtain ⟨a,vs,rfl,f1,f2⟩:=hd.tup_inv
  cases r
  have h4:=of_decide_eq_true h4
  refine formatField_of_reads (h₀:=s.heap) ra h2 (by rw [ziw];intro z;cases z) hr.gd (by omega) (fun _ _ e=>e) (fun h' t tk kk=>h _ t _ (I.kept kk) h4) (by omega)
 | lst l=>
  obtain ⟨a,vs,rfl,f1,f2⟩:=hd.lst_inv
  cases r
  have h4:=of_decide_eq_true h4
  refine formatField_of_reads (h₀:=s.heap) ra h2 (by rw [ziw];intro z;cases z) hr.gd (by omega) (fun _ _ e=>e) (fun h' t tk kk=>h _ t _ (I.kept kk) h4) (by omega)
 | _=>cases h4
theorem zbq (a b:Str):(a++b).length=a.length + b.length:=by simp [Str.length,PySem.Str.cps_append]
noncomputable def rdF (K:PySem.W.Frag) (ρ:En):TE:=fun σ H Q=>∃ F,Rel K F H ρ σ∧∀ (y:Str) F' H',Grow F H F' H'→y.length≤4002000→Q (.str y) H'
variable {e:Expr}{f:En→Option D} {ρ:En}{d:D} {x z:Str}{j j':Int} {p1 p2 p3 pos:Pos}
theorem zjC (hr:Room k X.A) (he:FP X.K .fz X e f) (hf:f ρ=some d) (hs:shD d=true) (hx:x.length≤1000) {c1:Expr}(h1:PE X c1 (tC (.str x))) :
  PE X (.JoinedStr [c1,.FormattedValue e (-1) none p2] pos) (rdF X.K ρ):=by
 intro pins s σ H Q I ⟨F,rel,q⟩
 have big:=zfv
 refine JoinedStr_many (joinParts_cons (thn (h1 pins s σ H _ I (show tC (.str x) σ H (fun v H1=>v=.str x∧H1=H) from ⟨rfl,rfl⟩)) ?_))
 rintro u s1 ⟨v,H1,I1,r1,rfl,rfl⟩
 obtain ⟨t1,rfl⟩:=r1
 have e0:(Str.empty++x).length=x.length:=by rw [zbq];simp [Str.empty,Str.length]
 refine ⟨by rw [e0];omega,joinParts_cons (FormattedValue_plain (thn (he.h ρ d hf pins s1 σ H1 _ I1 (show rdE X.K .fz ρ d σ H1 (fun v H2=>∃ F2,Grow F H1 F2 H2∧Dat X.K F2 d v) from ⟨F,rel,fun v F2 H2 g hd=>⟨F2,g,hd⟩⟩)) ?_))⟩
 rintro u s2 ⟨v,H2,I2,r2,F2,g,hd⟩
 refine fmt hr I2 g.fh hd r2 hs fun y t s3 I3 hy=>?_
 refine ⟨by rw [zbq,e0];omega,joinParts_nil ⟨.str _,H2,I3.tok _,⟨_,rfl⟩,q _ F2 H2 g (by rw [zbq,e0];omega)⟩ (by rw [zbq,e0];omega)⟩
theorem pe_j3 (hr:Room k X.A) (he:FP X.K .fz X e f) (hf:f ρ=some d) (hs:shD d=true) (hx:x.length≤1000) (hz:z.length≤1000) {c1 c3:Expr}(h1:PE X c1 (tC (.str x))) (h3:PE X c3 (tC (.str z))) :
  PE X (.JoinedStr [c1,.FormattedValue e (-1) none p2,c3] pos) (rdF X.K ρ):=by
 intro pins s σ H Q I ⟨F,rel,q⟩
 have big:=zfv
 refine JoinedStr_many (joinParts_cons (thn (h1 pins s σ H _ I (show tC (.str x) σ H (fun v H1=>v=.str x∧H1=H) from ⟨rfl,rfl⟩)) ?_))
 rintro u s1 ⟨v,H1,I1,r1,rfl,rfl⟩
 obtain ⟨t1,rfl⟩:=r1
 have e0:(Str.empty++x).length=x.length:=by rw [zbq];simp [Str.empty,Str.length]
 refine ⟨by rw [e0];omega,joinParts_cons (FormattedValue_plain (thn (he.h ρ d hf pins s1 σ H1 _ I1 (show rdE X.K .fz ρ d σ H1 (fun v H2=>∃ F2,Grow F H1 F2 H2∧Dat X.K F2 d v) from ⟨F,rel,fun v F2 H2 g hd=>⟨F2,g,hd⟩⟩)) ?_))⟩
 rintro u s2 ⟨v,H2,I2,r2,F2,g,hd⟩
 refine fmt hr I2 g.fh hd r2 hs fun y t s3 I3 hy=>?_
 refine ⟨by rw [zbq,e0];omega,?_⟩
 show wpAny _ _ (joinParts _ (eval c3 X.env::[])) _ _ _
 refine joinParts_cons (thn (h3 pins s3 σ H2 _ I3 (show tC (.str z) σ H2 (fun v H1=>v=.str z∧H1=H2) from ⟨rfl,rfl⟩)) ?_)
 rintro u s4 ⟨v,H4,I4,r4,rfl,rfl⟩
 obtain ⟨t4,rfl⟩:=r4
 refine ⟨by rw [zbq,zbq,e0];omega,joinParts_nil ⟨.str _,H4,I4.tok _,⟨_,rfl⟩,q _ F2 H4 g (by rw [zbq,zbq,e0];omega)⟩ (by rw [zbq,zbq,e0];omega)⟩
end
end FL
set_option Elab.async false
set_option linter.all false
set_option maxRecDepth 100000
namespace FX
open PySem
section
variable {prog:Program}{w:World} {A:Around}{E:Value→Shared→Prop} {h:Heap}{g:Array GenState} {d:Drawn}{t:Nat} {os:OsState}
variable {nm q:Str}{C N:Addr} {bs bm:List Value}{hdct:Bool} {sn:List Str}{sub:List Value} {ab:Bool}{col:Option Bool} {dd:Option Addr}{k0 k1 k2 k3 k5:Option Value}
structure Tl (bm:List Value):Prop where
 hasB:bm.contains (.type "ValueError")=true
 noAttr:bm.contains (.type "AttributeError")=false
 noName:bm.contains (.type "NameError")=false
 hasBase:bm.contains (.type "BaseException")=true
theorem zjc (F:Tl bm) {M:Model}{rest:List Value} {Q:Unit→Shared→Prop}(hC:h.get? C=some (excClassObj nm q C N bs bm hdct sn sub ab col dd k0 k1 k2 k3 k5 "ValueError.__new__"))
  (hq:Q () ⟨h,g,d,t,os⟩):wpAny M A (checkBuiltinCall "ValueError.__new__" ⟨.ref C::rest,[]⟩) Q E ⟨h,g,d,t,os⟩:=by
 have hcont:(Value.ref C::bm).contains (.type "ValueError")=true:=by rw [List.contains_cons,F.hasB,Bool.or_true]
 have hstar:=PySem.F.excBase_ValueError.noStar
 simp only [checkBuiltinCall,PySem.F.excBase_ValueError.newKind,PySem.F.excBase_ValueError.newSplit,PySem.F.excBase_ValueError.newRow]
 repeat (first | refine wpAny_loadPart_at hC ?_ | (refine wpAny_isSubtype_exc hC ?_;rw [hcont]) | refine wpAny_staticBase_exc hC ?_ | refine wpAny_madeBy_exc hC ?_ | simp only [bne_self_eq_false,Bool.false_eq_true,if_false] | wp_step)
 exact hq
theorem zlG (F:Tl bm) {R:Result→Shared→Prop}{rest:List Value} (hC:h.get? C=some (excClassObj nm q C N bs bm hdct sn sub ab col dd k0 k1 k2 k3 k5 "ValueError.__new__"))
  (hq:R (.ok (.ret (.ref (h.objs.size + 1)))) ⟨(h.push { cls:=.type "tuple",data:=.seq rest.toArray }).push
   { cls:=.ref C,data:=.fields #[.ref h.objs.size,.none,.none,.none,.bool false,.none] },g,d,t,os⟩) (hrest:rest.length≤sizeLine:=by size_fits) :
  codeAny (model prog w) A (.builtin "ValueError.__new__" ⟨.ref C::rest,[]⟩) R ⟨h,g,d,t,os⟩:=by
 have hends:=PySem.F.excBase_ValueError.ends
 have hcB:(Value.ref C::bm).contains (.type "ValueError")=true:=by rw [List.contains_cons,F.hasB,Bool.or_true]
 have hcA:(Value.ref C::bm).contains (.type "AttributeError")=false:=by rw [List.contains_cons,F.noAttr];rfl
 have hcN:(Value.ref C::bm).contains (.type "NameError")=false:=by rw [List.contains_cons,F.noName];rfl
 refine codeAny_builtinAt PySem.F.excBase_ValueError.entry ?_
 unfold Builtin.«BaseException.__new__»
 refine wpAt_bind ?_
 show wpAt _ _ _ (stack >>= _) _ _ _
 refine wpAt_bind (wpAt_stack fun p below=>wpAt_of_wpAny ?_)
 wp_walk
 refine wpAt_of_wpAny ?_
 rw [PySem.F.excBase_ValueError.owner]
 repeat (first | with_reducible refine wpAny_madeHere_exc PySem.F.excBase_ValueError.canon hC ?_ | with_reducible refine wpAny_loadPart_at hC ?_ | (with_reducible refine wpAny_isSubtype_exc hC ?_;first | rw [hcB] | rw [hcA] | rw [hcN]) | wp_step)
 show R _ _
 rw [Heap.size_push]
 exact hq
theorem zjJ {M:Model}{name:Str} {mN:Str→Option Value}{v:Value} {Q:Option Value→Shared→Prop}
  (hC:h.get? C=some (excClassObj nm q C N bs bm hdct sn sub ab col dd k0 k1 k2 k3 k5 "ValueError.__new__")) (hn:h.Ns N mN) (hv:mN name=some v)
  (hq:Q (some v) ⟨h,g,d,t,os⟩):wpAny M A (typeLookup (.ref C) name) Q E ⟨h,g,d,t,os⟩:=by
 rw [typeLookup_eq]
 refine wpAny_bind (wpAny_mroOf_exc hC ?_)
 rw [lookupAlong_cons]
 refine wpAny_bind (wpAny_classOwn_exc hC hn ?_)
 rw [hv]
 exact wpAny_pure hq
theorem zhR (F:Tl bm) {mN:Str→Option Value}{rest:List Value} {fI:Addr}{oI:Obj} {Q:Fin→Shared→Prop}
  (hC:h.get? C=some (excClassObj nm q C N bs bm hdct sn sub ab col dd k0 k1 k2 k3 k5 "ValueError.__new__")) (hn:h.Ns N mN) (hi:mN "__init__" = some (.ref fI))
  (hfI:h.get? fI=some oI) (hfc:oI.cls=.type "function")
  (hq:∀ h' e,Heap.MadeExcOf h h' e (.ref C) rest→h.objs.size≤e→
   wpAny (model prog w) A (call (.ref fI) (.ref e::rest)) (fun r s'=>r=.none∧Q (.done (.ret (.ref e))) s') E ⟨h',g,d,t,os⟩) (hrest:rest.length≤sizeLine:=by size_fits) :
  wpAny (model prog w) A (Builtin.«type.__call__» ⟨.ref C::rest,[]⟩) Q E ⟨h,g,d,t,os⟩:=by
 repeat (first | with_reducible refine wpAny_loadPart_at hC ?_ | with_reducible refine wpAny_madeBy_exc hC ?_ | wp_step)
 refine codeAny_call_builtin_code (Code.quiet_builtin _ PySem.F.excBase_ValueError.quiet) (zjc F hC ?_)
 refine zlG F hC ?_ hrest
 show wpAny _ _ _ _ _ _
 have hC₁:=Heap.get?_push_of_some { cls:=.ref C,data:=.fields #[.ref h.objs.size,.none,.none,.none,.bool false,.none] }
  (Heap.get?_push_of_some { cls:=.type "tuple",data:=.seq rest.toArray } hC)
 have hfI₁:=Heap.get?_push_of_some { cls:=.ref C,data:=.fields #[.ref h.objs.size,.none,.none,.none,.bool false,.none] }
  (Heap.get?_push_of_some { cls:=.type "tuple",data:=.seq rest.toArray } hfI)
 have hn₁:((h.push { cls:=.type "tuple",data:=.seq rest.toArray }).push { cls:=.ref C,data:=.fields #[.ref h.objs.size,.none,.none,.none,.bool false,.none] }).Ns N mN:=
  let ⟨o,es,ep,e,r⟩:=hn;⟨o,es,ep,Heap.get?_push_of_some _ (Heap.get?_push_of_some _ e),r⟩
 have hget:((h.push { cls:=.type "tuple",data:=.seq rest.toArray }).push
   { cls:=.ref C,data:=.fields #[.ref h.objs.size,.none,.none,.none,.bool false,.none] }).get? (h.objs.size + 1)=some
   { cls:=.ref C,data:=.fields #[.ref h.objs.size,.none,.none,.none,.bool false,.none] }:=by heap_get
 have hcC:(Value.ref C::bm).contains (.ref C)=true:=by simp
 unfold isInstance
 repeat (first | with_reducible refine wpAny_loadPart_at hget ?_ | (with_reducible refine wpAny_isSubtype_exc hC₁ ?_;rw [hcC]) | wp_step)
 show wpAny _ _ (typeLookup (.ref C) _) _ _ _
 refine zjJ hC₁ hn₁ hi ?_
 refine wpAny_holding (wpAny_bind ?_)
 unfold bindSpecial
 refine wpAny_bind (wpAny_typeOf (T := "function") ⟨_,hfI₁,hfc⟩ ?_)
 rw [if_pos (by decide)]
 refine wpAny_pure (wpAny_bind (wpAny_mono (hq _ (h.objs.size + 1) ⟨fun b o hb=>Heap.get?_push_of_some _ (Heap.get?_push_of_some _ hb),Heap.get?_none_of_le (Nat.le_succ _),h.objs.size,hget,Heap.get?_none_of_le (Nat.le_refl _),?_⟩ (Nat.le_succ _)) (fun r s' hr=>?_) fun _ _ x=>x))
 ·exact Heap.get?_push_of_some _ (Heap.get?_push_at rfl rfl)
 ·obtain ⟨rfl,hQ⟩:=hr
  wp_walk
  exact hQ
theorem call_cls (F:Tl bm) {mN:Str→Option Value}{rest:List Value} {fI:Addr}{oI:Obj} {Q:Value→Shared→Prop}
  (hC:h.get? C=some (excClassObj nm q C N bs bm hdct sn sub ab col dd k0 k1 k2 k3 k5 "ValueError.__new__")) (hn:h.Ns N mN) (hi:mN "__init__" = some (.ref fI))
  (hfI:h.get? fI=some oI) (hfc:oI.cls=.type "function")
  (hq:∀ h' e,Heap.MadeExcOf h h' e (.ref C) rest→h.objs.size≤e→
   wpAny (model prog w) (A.under (.builtin "type.__call__" ⟨.ref C::rest,[]⟩)) (call (.ref fI) (.ref e::rest)) (fun r s'=>r=.none∧Q (.ref e) s') E ⟨h',g,d,t,os⟩) (hrest:rest.length≤sizeLine:=by size_fits) :
  wpAny (model prog w) A (call (.ref C) rest) Q E ⟨h,g,d,t,os⟩:=by
 have f1:=tc_lookup
 have f2:=tc_bind (.ref C)
 have hT:(⟨h,g,d,t,os⟩:Shared).TypeIs (.ref C) "type" := ⟨_,hC,rfl⟩
 refine wpAny_call (codeAny_of_tree ?_)
 show wpAny _ _ (callAny (.ref C) _) _ _ _
 repeat (any_goals (first | assumption | with_reducible refine wpAny_loadPart_at hC ?_ | wp_step))
 refine ⟨rfl,?_⟩
 refine codeAny_call_builtin_at (Code.quiet_builtin _ (by decide +kernel)) entry_typeCall (wpAny_check_type_call_sub hC (zhR (hrest:=hrest) F hC hn hi hfI hfc fun h' e hm hl=>?_))
 exact hq h' e hm hl
theorem zhI (F:Tl bm) {M:Model}{e:Addr} {oe:Obj}{rest:List Value} {Q:Unit→Shared→Prop}
  (hC:h.get? C=some (excClassObj nm q C N bs bm hdct sn sub ab col dd k0 k1 k2 k3 k5 "ValueError.__new__")) (he:h.get? e=some oe) (hcls:oe.cls=.ref C) (hq:Q () ⟨h,g,d,t,os⟩) :
  wpAny M A (checkBuiltinCall "ValueError.__init__" ⟨.ref e::rest,[]⟩) Q E ⟨h,g,d,t,os⟩:=by
 have hcB:(Value.ref C::bm).contains (.type "ValueError")=true:=by rw [List.contains_cons,F.hasB,Bool.or_true]
 have hshort:=PySem.F.excBase_ValueError.noStar
 simp only [checkBuiltinCall,PySem.F.excBase_ValueError.initKind,PySem.F.excBase_ValueError.initSplit,PySem.F.excBase_ValueError.initRow]
 repeat (first | (with_reducible refine wpAny_loadPart_at he ?_;rw [hcls]) | with_reducible refine wpAny_loadPart_at hC ?_ | (with_reducible refine wpAny_isSubtype_exc hC ?_;rw [hcB]) | wp_step)
 refine wpAny_onRaise ?_
 rw [show ∀ (a b:String) (n:Nat),Bind.check ⟨.positional, "*", "ValueError",.self,[⟨"args",.varPos,false⟩]⟩ a b n (List.map (fun x=>x.fst) ({ pos:=Value.ref e::rest }:Args).kw)=pure () from
  fun a b n=>check_star_args _ _ _ _ _ _]
 exact wpAny_pure hq
theorem call_init (F:Tl bm) {e tt:Addr}{u:Value} {Q:Value→Shared→Prop}
  (hC:h.get? C=some (excClassObj nm q C N bs bm hdct sn sub ab col dd k0 k1 k2 k3 k5 "ValueError.__new__")) (he:h.get? e=some { cls:=.ref C,data:=.fields #[.ref tt,.none,.none,.none,.bool false,.none] })
  (hq:∀ h',(∀ b o,b≠e→h.get? b=some o→h'.get? b=some o)→(∃ t',h'.get? e=some { cls:=.ref C,data:=.fields #[.ref t',.none,.none,.none,.bool false,.none] })→Q .none ⟨h',g,d,t,os⟩) :
  wpAny (model prog w) A (call (.builtin "ValueError.__init__") [.ref e,u]) Q E ⟨h,g,d,t,os⟩:=by
 refine wpAny_call (codeAny_call_builtin PySem.F.excBase_ValueError.init.plain PySem.F.excBase_ValueError.initEntry (zhI F hC he rfl ?_))
 wp_walk
 refine hq _ (fun b o hb e=>?_) ⟨h.objs.size,?_⟩
 ·rw [Heap.get?_update_other _ _ (Ne.symm hb)]
  exact Heap.get?_push_of_some _ e
 ·rw [Heap.get?_update_self _ (Heap.get?_push_of_some _ he) rfl]
  rfl
end
end FX
set_option Elab.async false
set_option linter.all false
set_option maxRecDepth 100000
namespace FX
open PySem Builtin Builtin.ObjectAttr
noncomputable abbrev bm0:List Value:=[.type "ValueError",.type "Exception",.type "BaseException",.type "object"]
inductive Tail (h:Heap) (ns:List Str):List Value→Prop
 | base:Tail h ns bm0
 | own {A:Addr}{c0:Value} {dd:Option Addr}{cd:ClassData} {sl:Array (Option Value)}{mA:Str→Option Value} {tl:List Value} :
   h.get? A=some { cls:=c0,dict:=dd,data:=.cls cd,slots:=sl }→h.Ns cd.ns mA→(∀ n∈ns,mA n=none)→Tail h ns tl→Tail h ns (.ref A::tl)
theorem Tail.tl {h:Heap}{ns:List Str} {tl:List Value}(T:Tail h ns tl):Tl tl:=by
 induction T with
 | base=>exact ⟨by decide +kernel,by decide +kernel,by decide +kernel,by decide +kernel⟩
 | own a b c _ ih=>exact ⟨by rw [List.contains_cons,ih.hasB,Bool.or_true],by rw [List.contains_cons,ih.noAttr];rfl,by rw [List.contains_cons,ih.noName];rfl,by rw [List.contains_cons,ih.hasBase,Bool.or_true]⟩
theorem Tail.has {h:Heap}{ns:List Str} {tl:List Value}(T:Tail h ns tl) {T':String}(hb:bm0.contains (.type T')=true):tl.contains (.type T')=true:=by
 induction T with
 | base=>exact hb
 | own a b c _ ih=>rw [List.contains_cons,ih,Bool.or_true]
section
variable {prog:Program}{w:World} {A:Around}{E:Value→Shared→Prop} {h:Heap}{g:Array GenState} {d:Drawn}{t:Nat} {os:OsState}
variable {nm q:Str}{C N x:Addr} {bs bm:List Value}{hdct:Bool} {sn:List Str}{sub:List Value} {ab:Bool}{col:Option Bool} {dd:Option Addr}{k0 k1 k2 k3 k5:Option Value} {newId:String}
 {mN mA:Str→Option Value} {name:Str}{v:Value} {ns:List Str}
theorem Tail.look {M:Model}{y:Option Value} {Q:Option Value→Shared→Prop}(T:Tail h ns bm) (hm:name∈ns) (hB:typeLookup (.type "ValueError") name=pure y) (hq:Q y ⟨h,g,d,t,os⟩) :
  wpAny M A (lookupAlong bm name) Q E ⟨h,g,d,t,os⟩:=by
 induction T with
 | base=>
  have hr:lookupAlong bm0 name=pure y:=by rw [typeLookup_eq,PySem.F.excBase_ValueError.mroIs] at hB;exact hB
  rw [hr];exact wpAny_pure hq
 | own a b c _ ih=>
  rw [lookupAlong_cons]
  refine wpAny_bind ?_
  unfold classOwn
  refine wpAny_bind ?_
  unfold classData
  refine wpAny_bind (wpAny_load a (wpAny_pure (wpAny_nsGet b ?_)))
  rw [c _ hm]
  exact ih
theorem look (hC:h.get? C=some (excClassObj nm q C N bs bm hdct sn sub ab col dd k0 k1 k2 k3 k5 newId)) {M:Model}{y:Option Value} {Q:Option Value→Shared→Prop}(hn:h.Ns N mN) (hna:mN name=none) (T:Tail h ns bm) (hm:name∈ns)
  (hB:typeLookup (.type "ValueError") name=pure y) (hq:Q y ⟨h,g,d,t,os⟩):wpAny M A (typeLookup (.ref C) name) Q E ⟨h,g,d,t,os⟩:=by
 rw [typeLookup_eq]
 refine wpAny_bind (wpAny_mroOf_exc hC ?_)
 rw [lookupAlong_cons]
 refine wpAny_bind (wpAny_classOwn_exc hC hn ?_)
 rw [hna]
 exact T.look hm hB hq
theorem Tail.passes (T:Tail h ns bm) (self:Value) (hp:refuseLoop self "__setattr__" bm0=pure ()):refuseLoop self "__setattr__" bm=pure ():=by
 induction T with
 | base=>exact hp
 | own a b c _ ih=>rw [refuseLoop_ref];exact ih
theorem zkl {M:Model}{o:Obj} {nameV:Value}{Q:Unit→Shared→Prop} (T:Tail h ns bm)
  (hC:h.get? C=some (excClassObj nm q C N bs bm true sn sub ab col dd k0 k1 k2 k3 k5 newId)) (hx:h.get? x=some o) (hc:o.cls=.ref C) (hq:Q () ⟨h,g,d,t,os⟩) :
  wpAny M A (checkBuiltinCall "object.__setattr__" ⟨[.ref x,nameV,v],[]⟩) Q E ⟨h,g,d,t,os⟩:=by
 have hcB:(Value.ref C::bm).contains (.type "object")=true:=by rw [List.contains_cons,T.has (by decide +kernel),Bool.or_true]
 have ha:=PySem.F.store_ValueError.args (.ref x) nameV v
 simp only [checkBuiltinCall,PySem.F.store_ValueError.kind,PySem.F.store_ValueError.split]
 refine wpAny_bind ?_
 ·unfold isInstance
  repeat (first | (with_reducible refine wpAny_loadPart_at hx ?_;rw [hc]) | (with_reducible refine wpAny_isSubtype_exc hC ?_;rw [hcB]) | wp_step)
  exact hq
theorem zgj {tk:Tok}{o:Obj} {vs:Array Value}{Q:Fin→Shared→Prop} (T:Tail h ns bm) (hm:name∈ns)
  (hC:h.get? C=some (excClassObj nm q C N bs bm true sn sub ab col dd k0 k1 k2 k3 k5 newId)) (hn:h.Ns N mN) (hna:mN name=none)
  (hB:typeLookup (.type "ValueError") name=pure none) (hx:h.get? x=some o) (hc:o.cls=.ref C) (hdn:o.dict=none) (hdt:o.data=.fields vs)
  (hq:∀ h' tk' da,h'.get? x=some { o with dict:=some da }→h'.Ns1 da (fun y=>if y=name then some v else none)→h.objs.size≤da→da≠x→
   (∀ b u,b≠x→h.get? b=some u→h'.get? b=some u)→Q (.done (.ret .none)) ⟨h',g,d,tk',os⟩) :
  wpAny (model prog w) A (Builtin.«object.__setattr__» ⟨[.ref x,.str name tk,v],[]⟩) Q E ⟨h,g,d,t,os⟩:=by
 have hpass:=T.passes (.ref x) (PySem.F.store_ValueError.passes (.ref x))
 unfold Builtin.«object.__setattr__»
 repeat (first | rw [refuse_eq] | (rw [refuseLoop_ref,hpass]) | (with_reducible refine wpAny_loadPart_at hx ?_;rw [hc]) | with_reducible refine wpAny_mroOf_exc hC ?_ | (with_reducible refine look hC hn hna T hm hB ?_) | wp_step)
 rw [hdn,if_neg (by simp [typeHasDict])]
 split
 ·rename_i hcd
  cases hcd
 split
 ·rename_i c hcd
  rw [hdt] at hcd;cases hcd
 ·have hx₁:(h.push { cls:=.type "dict",data:=.dict #[] }).get? x=some o:=Heap.get?_push_of_some _ hx
  have hxs:x≠h.objs.size:=Nat.ne_of_lt (Heap.lt_size hx)
  refine wpAny_bind (wpAny_alloc' ?_)
  refine wpAny_bind (wpAny_update' hx₁ ?_)
  refine wpAny_pure ?_
  have hgd:((h.push { cls:=.type "dict",data:=.dict #[] }).update x fun o=>{ cls:=o.cls,dict:=some h.objs.size,data:=o.data,slots:=o.slots }).get? h.objs.size
    = some { cls:=.type "dict",data:=.dict #[] }:=
   (Heap.get?_update_ne _ _ _ _ hxs.symm).trans (Heap.get?_push_at rfl rfl)
  have hnd:((h.push { cls:=.type "dict",data:=.dict #[] }).update x fun o=>{ cls:=o.cls,dict:=some h.objs.size,data:=o.data,slots:=o.slots }).Ns h.objs.size (fun _=>none):=
   ⟨_,#[],_,hgd,rfl,fun e he=>absurd he (by simp),fun _=>rfl⟩
  show wpAny _ _ (storeInDict h.objs.size (.str name tk) name v) _ _ _
  unfold storeInDict newKeyGuard
  refine wpAny_bind (wpAny_pure (wpAny_bind (wpAny_nsSet1 (Heap.Ns1.of_empty hnd) fun h' hn' hs=>?_)))
  obtain ⟨oD,esD,epD,hoD,hdD,hcD⟩:=hn'.count (Within.cons name v Within.nil)
  refine wpAny_bind (wpAny_lookBehind hoD (by rw [hdD];exact pastItsLine_dict (Nat.le_trans hcD (by rw [List.length_cons,List.length_nil,sizeLine_eq];omega))) ?_)
  wp_walk
  refine hq h' _ h.objs.size ?_ hn' (Nat.le_refl _) hxs.symm (fun b u hbx hb=>?_)
  ·refine (hs.2 x hxs).trans (Heap.get?_update_self _ hx₁ ?_)
   have hfr:=(Heap.get?_some_iff.mp hx).2
   obtain ⟨oc,od,odt,osl⟩:=o
   cases odt<;>first | rfl | exact hfr
  ·exact (hs.2 b (Nat.ne_of_lt (Heap.lt_size hb))).trans ((Heap.get?_update_ne _ _ _ _ hbx).trans (Heap.get?_push_of_some _ hb))
theorem set_attr {o:Obj}{vs:Array Value} {Q:Unit→Shared→Prop}(T:Tail h ns bm) (hm:name∈ns) (hms:Str.ofString "__setattr__" ∈ ns)
  (hC:h.get? C=some (excClassObj nm q C N bs bm true sn sub ab col dd k0 k1 k2 k3 k5 newId)) (hn:h.Ns N mN) (hns:mN "__setattr__" = none) (hna:mN name=none)
  (hB:typeLookup (.type "ValueError") name=pure none) (hx:h.get? x=some o) (hc:o.cls=.ref C) (hdn:o.dict=none) (hdt:o.data=.fields vs)
  (hq:∀ h' tk' da,h'.get? x=some { o with dict:=some da }→h'.Ns1 da (fun y=>if y=name then some v else none)→h.objs.size≤da→da≠x→
   (∀ b u,b≠x→h.get? b=some u→h'.get? b=some u)→Q () ⟨h',g,d,tk',os⟩) (hsz:name.length≤sizeLine:=by size_fits) :
  wpAny (model prog w) A (setAttr (.ref x) name v) Q E ⟨h,g,d,t,os⟩:=by
 have f3:=PySem.F.store_ValueError.slot.bind (.ref x)
 unfold setAttr callSpecial? specialOf
 repeat (any_goals (first | assumption | (with_reducible refine wpAny_loadPart_at hx ?_;rw [hc]) | (with_reducible refine look hC hn hns T hms PySem.F.store_ValueError.slot.lookup ?_) | wp_step))
 refine codeAny_call_builtin PySem.F.store_ValueError.slot.plain PySem.F.store_ValueError.entry (zkl T hC hx hc (zgj T hm hC hn hna hB hx hc hdn hdt fun h' tk' da a1 a2 a3 a4 a5=>?_))
 repeat (any_goals (first | assumption | wp_step))
 exact hq h' tk' da a1 a2 a3 a4 a5
end
end FX
set_option Elab.async false
set_option linter.all false
set_option maxRecDepth 100000
namespace FL
open PySem PySem.Spec PyProof.Rows L2
noncomputable def zdQ:List Str:=["__setattr__", "place", "rule", "sign", "term", "rules", "__getattribute__", "__getattr__"]
noncomputable def ExcN (e C:Addr):HO:=.ext fun h=>∃ t,h.get? e=some { cls:=.ref C,data:=.fields #[.ref t,.none,.none,.none,.bool false,.none] }
noncomputable def ExcM (e C da:Addr):HO:=.ext fun h=>∃ t,h.get? e=some { cls:=.ref C,dict:=some da,data:=.fields #[.ref t,.none,.none,.none,.bool false,.none] }
structure XC (K:PySem.W.Frag) (C fI:Addr):Prop where
 cls:∀ h:Heap,K.In h→∃ nm q N bs bm sn sub ab col dd k0 k1 k2 k3 k5 mN,h.get? C=some (excClassObj nm q C N bs bm true sn sub ab col dd k0 k1 k2 k3 k5 "ValueError.__new__")∧h.Ns N mN∧mN "__init__" = some (.ref fI)∧
  (∀ n∈zdQ,mN n=none)∧FX.Tail h zdQ bm
 fn:∀ h:Heap,K.In h→∃ o,h.get? fI=some o∧o.cls=.type "function"
 kp:PySem.W.keepIn K (.ref C)=true
noncomputable def SpI (K:PySem.W.Frag) (C:Addr) (fld:Str):Sp:=fun vs H Q _=>∃ e v F d,vs=[.ref e,v]∧H e=some (ExcN e C)∧Same F H∧F e=none∧Dat K F d v∧shD d=true∧
 ∀ F' H' da,Grow F H F' H'→H' da=none→da≠e→Q .non (upd (upd H' da (.xd [(fld,v)])) e (ExcM e C da))
noncomputable def SpE (K:PySem.W.Frag):Sp:=fun vs H Q _=>∃ e C y fI,vs=[.ref e,.str y]∧H e=some (ExcN e C)∧XC K C fI∧Q .non H
section
variable {X:Cx}{pins:List (Addr×Obj)} {σ:St}{H:Hp} {s:Shared}{Q:VK} {C fI:Addr}{k:Nat} {fd:FuncData}{ps:List Str} {fld:Str}
theorem zgE {P:Program}{w:World} {H':Hp}{h:Heap} {e C t:Addr}(he:h.get? e=some { cls:=.ref C,data:=.fields #[.ref t,.none,.none,.none,.bool false,.none] }):zbK P w H' h e (ExcN e C):=
 ⟨⟨t,he⟩,⟨_,he⟩,fun h1 h2 ⟨t',q⟩ k=>⟨t',k _ q⟩⟩
theorem zkU {u:Value}{v:V} {F:Hp}{d:D} {Q:Value→Shared→Prop}(M:XC X.K C fI) (Fn:FnOk X.prog X.w X.K X.mg X.base CX0 k fI fd ps (SpI X.K C fld)) (hr:Room (k + 1) X.A) (hb:zbA X.K fd ps [])
  (I:Inv X pins σ H s) (r:RelV v u) (sub:Same F H) (hd:Dat X.K F d v) (hs:shD d=true)
  (h:∀ e da F' H' s',s.heap.objs.size≤e→H e=none→Grow F (upd H e (ExcN e C)) F' H'→H' da=none→da≠e→Inv X pins σ (upd (upd H' da (.xd [(fld,v)])) e (ExcM e C da)) s'→Q (.ref e) s') :
  wpAny (model X.prog X.w) X.A (call (.ref C) [u]) Q X.xe s:=by
 obtain ⟨nm,q,N,bs,bm,sn,sb,ab,col,dd,k0,k1,k2,k3,k5,mN,hC,hN,hi,hno,T⟩:=M.cls s.heap I.kIn
 obtain ⟨oI,hfI,hfc⟩:=M.fn s.heap I.kIn
 obtain ⟨hp,g,dr,tk,os⟩:=s
 refine FX.call_cls T.tl hC hN hi hfI hfc (fun h' e hm hle=>?_) (by simp [sizeLine_eq])
 obtain ⟨t,he,_,_⟩:=hm.there
 have hf:H e=none:=I.hok.fresh hle
 have I2:Inv X pins σ (upd H e (ExcN e C)) ⟨h',g,dr,tk,os⟩:=I.laid (t':=tk) hm.keeps hle (zgE he)
 have hF:F e=none:=sub.free hf
 have sub2:Same F (upd H e (ExcN e C)):=fun b o hb=>by rw [zaj (zaa hb hF)];exact sub _ _ hb
 have hsp:SpI X.K C fld [.ref e,v] (upd H e (ExcN e C)) (fun v2 H2=>v2=.non∧∃ F' H' da,Grow F (upd H e (ExcN e C)) F' H'∧H' da=none∧da≠e∧H2=upd (upd H' da (.xd [(fld,v)])) e (ExcM e C da)) E0:=
  ⟨e,v,F,d,rfl,zag,sub2,hF,hd,hs,fun F' H' da g1 h1 h2=>⟨rfl,F',H',da,g1,h1,h2,rfl⟩⟩
 have r2:Vals [V.ref e,v] [Value.ref e,u]:=.cons rfl (.cons r .nil)
 have hl:([Value.ref e,u]++[]).length=ps.length:=by
  rw [List.append_nil,← r2.length];exact Fn.len _ _ _ _ hsp
 have hbn:=hb ⟨h',g,dr,tk,os⟩ [.ref e,u] I2.kIn hl
 rw [List.append_nil] at hbn
 refine wpAny_call (codeAny_mono (Fn.run _ X.stack ⟨h',g,dr,tk,os⟩ _ ⟨[.ref e,u],[]⟩ [.ref e,u] [.ref e,v] _ E0 (hr.make C [u] []) (I2.env0.make C [u] []) hbn r2 hsp) fun r s' hq'=>?_)
 cases r with
 | error ex=>exact False.elim (by exact hq')
 | ok fl=>
  cases fl with
  | ret z=>
   obtain ⟨v',H2,I3,rv,ev,F',H',da,g1,h1,h2,eh⟩:=I2.after hq'
   subst ev eh
   exact ⟨rv,h e da F' H' s' hle hf g1 h1 h2 I3⟩
  | next=>exact False.elim hq'
  | brk=>exact False.elim hq'
  | cont=>exact False.elim hq'
variable {e1 e2:Expr}{t:TA} {p pos apos cpos:Pos}{x:Str}
theorem zgF {e C:Addr}(I:Inv X pins σ H s) (he:H e=some (ExcN e C)):∃ t,s.heap.get? e=some { cls:=.ref C,data:=.fields #[.ref t,.none,.none,.none,.bool false,.none] }:=(I.hok e _ he).1
theorem zjo {H:Hp}{a:Addr} {o:HO}(h:H a=some o):upd H a o=H:=by
 funext b;unfold upd;split
 ·rename_i q;rw [q];exact h.symm
 ·rfl
theorem zid {e C:Addr}{u:Value} {fI:Addr}(I:Inv X pins σ H s) (he:H e=some (ExcN e C)) (M:XC X.K C fI) (h:Q .non H):wpAny (model X.prog X.w) X.A (call (.builtin "ValueError.__init__") [.ref e,u]) (EP X pins σ Q) X.xe s:=by
 obtain ⟨nm,q,N,bs,bm,sn,sb,ab,col,dd,k0,k1,k2,k3,k5,mN,hC,hN,hi,hno,T⟩:=M.cls s.heap I.kIn
 obtain ⟨t,hx⟩:=zgF I he
 obtain ⟨hp,g,dr,tk,os⟩:=s
 refine FX.call_init T.tl hC hx fun h' hk h_=>?_
 obtain ⟨t',hx'⟩:=h_
 have I2:Inv X pins σ (upd H e (ExcN e C)) ⟨h',g,dr,tk,os⟩:=I.write (t':=tk) (by rw [he];trivial) (.inl rfl) hk ⟨_,hx'⟩ (zgE hx')
 rw [zjo he] at I2
 exact ⟨.non,H,I2,rfl,h⟩
theorem zkL {K:PySem.W.Frag}{prog:Program} {w:World}{A:Around} {E:Value→Shared→Prop}{s:Shared} {pl:Sem Bool}{Q:Value×List Value→Shared→Prop} (KX:K.In s.heap) (h:∀ tk,Q (.builtin "ValueError.__init__",[]) { s with toks:=tk }) :
  wpAny (model prog w) A (getMethod (.type "ValueError") "__init__" pl) Q E s:=by
 have ht:typeOf (.type "ValueError")=pure (.type "type"):=PySem.W.kitMeta_of (by decide +kernel)
 have hsp:specialOf (.type "ValueError") "__getattribute__" = pure (some (.builtin "type.__getattribute__")):=by
  show (typeOf (.type "ValueError") >>= fun t=>typeLookup t "__getattribute__")=_
  rw [ht,pure_bind,typeLookup_type,builtinLookup_eq_fast]
  kernel_rfl
 unfold getMethod
 rw [hsp]
 refine wpAny_bind (wpAny_pure ?_)
 dsimp only
 rw [if_pos PySem.W.canon_tga]
 refine wpAny_bind ?_
 have hstub:opaqueClassAbove (.type "ValueError")=pure none:=by
  unfold opaqueClassAbove;dsimp only
  rw [show Manifest.isStub "ValueError" = false from by decide +kernel];rfl
 have L0:PySem.W.Looks (model prog w) s.heap (typeOf (.type "ValueError")) (.type "type"):=PySem.W.Looks.of_pure ht
 have LO:PySem.W.Looks (model prog w) s.heap (opaqueClassAbove (.type "ValueError")) none:=PySem.W.Looks.of_pure hstub
 have hg:PySem.W.findIn K (.type "type") "__getattribute__" = some (some (.builtin "type.__getattribute__")):=PySem.W.type_tga
 refine PySem.W.cls_open (r:=.val (.builtin "ValueError.__init__")) KX LO L0 hg (PySem.W.looks_hook KX (r:=none) (by rfl)) (by show PySem.W.subIn K _ _=_;rfl) (by rfl) ?_
 exact wpAny_pure (PySem.W.handed_on rfl (wpAny_pure (h _)))
theorem zjA (hg:Gl X "ValueError") (hm:X.mg "ValueError" = none) (ha:PA X [e1,e2] t)
  (hst:starEach [e1,e2] X.env=(false,eval e1 X.env)::starEach [e2] X.env:=by rfl) (hpl:(backTo pos (starEach [e2] X.env)).any (·.1)=false:=by rfl) {pl:Sem Bool}
  (ht:eval (.Call (.Attribute (.Name "ValueError" p) "__init__" apos) [e1,e2] [] pos) X.env=(do
   let ov ← eval (.Name "ValueError" p) X.env
   standAt apos.atName
   let (f,first) ← holding [ov] (getMethod ov "__init__" pl)
   callWith pos f first (backTo pos (starEach [e1,e2] X.env)) (backToKw pos (keywordEach [] X.env))):=by rfl) :
  PE X (.Call (.Attribute (.Name "ValueError" p) "__init__" apos) [e1,e2] [] pos) (fun σ H Q=>t σ H fun vs H1=>∃ e C y fI,vs=[.ref e,.str y]∧H1 e=some (ExcN e C)∧XC X.K C fI∧Q .non H1):=by
 intro pins s σ H Q I h
 refine PySem.W.methodCall_KW (pl:=pl) (zdn I hg hm (by decide +kernel:bootBuiltins "ValueError" = some (.type "ValueError")) ?_) ht
 refine zkL I.kIn fun tk=>?_
 have I1:=I.tok tk
 have hA:=ha pos pins { s with toks:=tk } σ H _ I1 h
 rw [hst] at hA ⊢
 refine Calls.callWith_builtin (by show (false || (backTo pos (starEach [e2] X.env)).any (·.1))=false;rw [hpl];rfl) (Calls.evalArgs_plain ?_)
 refine thn hA fun us s2 h_=>?_
 obtain ⟨vs,H2,I2,r2,e,C,y,fI,ev,he,M,q2⟩:=h_
 subst ev
 cases r2 with
 | cons ra rb=>
  cases rb with
  | cons rc rd=>
   cases rd
   cases ra
   exact zid I2 he M q2
structure XE (K:PySem.W.Frag) (CE fE:Addr):Prop where
 sp:PySem.W.specialIn K (.ref CE) "__getattribute__" = some (some (.builtin "type.__getattribute__"))
 rd:PySem.W.readsIn K CE (.type "type")=true
 fc:PySem.W.findCls K (.ref CE) (.type "type") "__init__" = some (.val (.ref fE))
 kp:PySem.W.keepIn K (.ref fE)=true
theorem zdl {CE fE:Addr}(B:XE X.K CE fE) (Fn:FnOk X.prog X.w X.K X.mg X.base CX0 k fE fd ps (SpE X.K)) (hr:Room k X.A) (hb:zbA X.K fd ps []) (hg:Gl X "EndError") (hm:X.mg "EndError" = some (.ref CE)) (ha:PA X [e1,e2] t)
  (hst:starEach [e1,e2] X.env=(false,eval e1 X.env)::starEach [e2] X.env:=by rfl) (hpl:(backTo pos (starEach [e2] X.env)).any (·.1)=false:=by rfl) {pl:Sem Bool}
  (ht:eval (.Call (.Attribute (.Name "EndError" p) "__init__" apos) [e1,e2] [] pos) X.env=(do
   let ov ← eval (.Name "EndError" p) X.env
   standAt apos.atName
   let (f,first) ← holding [ov] (getMethod ov "__init__" pl)
   callWith pos f first (backTo pos (starEach [e1,e2] X.env)) (backToKw pos (keywordEach [] X.env))):=by rfl) :
  PE X (.Call (.Attribute (.Name "EndError" p) "__init__" apos) [e1,e2] [] pos) (fun σ H Q=>t σ H fun vs H1=>SpE X.K vs H1 Q E0):=by
 intro pins s σ H Q I h
 refine PySem.W.methodCall_KW (pl:=pl) (zdd I hg hm ?_) ht
 refine PySem.W.method_cls I.kIn B.sp (PySem.W.cls_value I.kIn B.rd B.fc rfl ?_)
 have I1:=I.tok (s.toks + 1)
 refine PySem.W.callWith_K (first:=[]) (h₀:=X.base) I.ok.mod.kin B.kp (thn (ha pos pins _ σ H _ I1 h) fun us s2 ⟨vs,H2,I2,r,q2⟩=>⟨I2.kIn,?_⟩) hst hpl
 exact zku (us:=us) (vs:=vs) (dvs:=[]) (ds:=[]) Fn hr hb .nil zll I2 r (by rw [List.append_nil];exact q2)
theorem set_x {e C fI:Addr}{u:Value} {v:V}{Q:Unit→Shared→Prop} (I:Inv X pins σ H s) (he:H e=some (ExcN e C)) (M:XC X.K C fI) (r:RelV v u) (hf:fld∈zdQ) (hB:typeLookup (.type "ValueError") fld=pure none) (hz:fld.length≤sizeLine)
  (h:∀ da s',H da=none→da≠e→Inv X pins σ (upd (upd H da (.xd [(fld,v)])) e (ExcM e C da)) s'→Q () s'):wpAny (model X.prog X.w) X.A (setAttr (.ref e) fld u) Q X.xe s:=by
 obtain ⟨nm,q,N,bs,bm,sn,sb,ab,col,dd,k0,k1,k2,k3,k5,mN,hC,hN,hi,hno,T⟩:=M.cls s.heap I.kIn
 obtain ⟨t,hx⟩:=zgF I he
 obtain ⟨hp,g,dr,tk,os⟩:=s
 refine FX.set_attr T hf (by decide) hC hN (hno _ (by decide)) (hno _ hf) hB hx rfl rfl rfl (fun h' tk' da a1 a2 a3 a4 a5=>?_) hz
 have hda:H da=none:=I.hok.fresh a3
 have old:∀ b o,hp.get? b=some o→b≠da:=fun b o q=>Nat.ne_of_lt (Nat.lt_of_lt_of_le (Heap.lt_size q) a3)
 have at':∀ b,b≠e→b≠da→upd (upd H da (.xd [(fld,v)])) e (ExcM e C da) b=H b:=fun b n1 n2=>by rw [zaj n1,zaj n2]
 have un:Un X.fs [] H (upd (upd H da (.xd [(fld,v)])) e (ExcM e C da)) hp h':=by
  refine ⟨fun b o q n _ _=>a5 b o (zaa he n ∘ Eq.symm) q,fun b o q n _ _=>⟨o.slots,a5 b o (zaa he n ∘ Eq.symm) q⟩,fun b o q n _=>?_,fun b o q _=>?_,fun b xs q=>?_,fun b o xs q=>?_,fun b ps q=>?_⟩
  ·rw [at' b (zaa he n ∘ Eq.symm) (old b o q)];exact n
  ·by_cases hb:b=e
   ·subst hb;exact ⟨_,a1⟩
   ·exact ⟨o,a5 b o hb q⟩
  ·rw [at' b (fun z=>by subst z;rw [he] at q;cases q) (fun z=>by subst z;rw [hda] at q;cases q)];exact q
  ·rw [at' b (fun z=>by subst z;rw [he] at q;cases q) (fun z=>by subst z;rw [hda] at q;cases q)];exact q
  ·exact ⟨#[],by rw [at' b (fun z=>by subst z;rw [he] at q;cases q) (fun z=>by subst z;rw [hda] at q;cases q),Array.append_empty];exact q⟩
 have ok:HOk X.prog X.w (upd (upd H da (.xd [(fld,v)])) e (ExcM e C da)) h':=fun b o q=>by
  by_cases hb:b=e
  ·subst hb
   rw [zag] at q;cases q
   exact ⟨⟨_,a1⟩,⟨_,a1⟩,fun h1 h2 ⟨t,q1⟩ k=>⟨t,k _ q1⟩⟩
  ·by_cases hb2:b=da
   ·subst hb2
    rw [zaj hb,zag] at q;cases q
    refine ⟨_,a2,fun f=>?_⟩
    by_cases hq:f=fld
    ·subst hq;simp [List.lookup,RelO];exact r
    ·have:(f == fld)=false:=by simpa using hq
     simp [List.lookup,this,hq,RelO]
   ·rw [at' b hb hb2] at q
    refine (I.hok b o q).stay (fun c u hc hu=>?_) (fun c hc=>?_) fun c xs hc=>?_
    ·refine a5 c u (fun z=>?_) hu
     subst z
     rcases hc with z | z
     ·exact hb z.symm
     ·rw [he] at z;cases z
    ·rw [at' c (fun z=>by subst z;rw [he] at hc;cases hc) (fun z=>by subst z;rw [hda] at hc;cases hc)];exact hc
    ·rw [at' c (fun z=>by subst z;rw [he] at hc;cases hc) (fun z=>by subst z;rw [hda] at hc;cases hc)];exact hc
 exact h da _ hda a4 (I.un (t':=tk') un ok)
end
end FL
set_option Elab.async false
set_option linter.all false
set_option maxRecDepth 100000
namespace FL
open PySem PySem.Spec PyProof.Rows L2
theorem zhz {K:PySem.W.Frag}{h:Heap} {N:Addr}{mg:Str→Option Value} {n:Str}{v:Value} (X:K.In h) (G:h.Ns N mg) (e:PySem.W.nsIn K N n=some (some v)):mg n=some v:=by
 obtain ⟨o,es,ep,ho,hd,_,hf⟩:=G
 unfold PySem.W.nsIn at e
 split at e
 ·rename_i c d es' n' sl q
  have:=X _ _ q
  rw [ho] at this
  cases this
  cases hd
  split at e
  ·rename_i he
   cases e
   rw [← hf]
   unfold nsFind findBy
   rw [← Array.find?_toList,he]
   rfl
  ·split at e<;>cases e
 ·cases e
noncomputable def zjq (K:PySem.W.Frag):List Value→Bool
 | []=>false
 | v::r=>(v::r) == FX.bm0 || match v with
  | .ref A=>(match K.lookup A with
   | some ⟨_,_,.cls cd,_⟩=>PySem.W.nsOkIn K cd.ns && zdQ.all (fun n=>PySem.W.nsIn K cd.ns n == some none) && zjq K r
   | _=>false)
  | _=>false
theorem zhT {K:PySem.W.Frag}{h:Heap} (X:K.In h):∀ {l:List Value},zjq K l=true→FX.Tail h zdQ l
 | [],e=>by cases e
 | v::r,e=>by
  unfold zjq at e
  rcases Bool.or_eq_true_iff.mp e with q | q
  ·rw [beq_iff_eq.mp q];exact .base
  ·split at q
   ·split at q
    ·rename_i ho
     simp only [Bool.and_eq_true] at q
     exact .own (X _ _ ho) (.of_isNs (PySem.W.isNs_of_in X q.1.1)) (fun n hn=>PySem.W.nsMap_none_of_in X q.1.1 (beq_iff_eq.mp (List.all_eq_true.mp q.1.2 n hn))) (zhT X q.2)
    ·cases q
   ·cases q
noncomputable def xcB (K:PySem.W.Frag) (C fI:Addr):Bool:=(match K.lookup C with
 | some ⟨.type "type",_,.cls cd,sl⟩=>(match cd.mro,sl.toList with
  | .ref C'::bm,[_,_,_,_,some (.builtin n),_]=>C' == C && n == "ValueError.__new__" && !cd.hasDel && cd.hasDict && zjq K bm && PySem.W.nsOkIn K cd.ns && PySem.W.nsIn K cd.ns "__init__" == some (some (.ref fI)) && zdQ.all (fun n=>PySem.W.nsIn K cd.ns n == some none)
  | _,_=>false)
 | _=>false) && (match K.lookup fI with | some o=>o.cls == .type "function" | none=>false) && PySem.W.keepIn K (.ref C)
theorem zns {K:PySem.W.Frag}{C fI:Addr} (e:xcB K C fI=true):XC K C fI:=by
 unfold xcB at e
 simp only [Bool.and_eq_true] at e
 obtain ⟨⟨q,e2⟩,e3⟩:=e
 refine ⟨fun h X=>?_,fun h X=>?_,e3⟩
 ·split at q
  ·rename_i dd cd sl ho
   split at q
   ·rename_i C' bm k0 k1 k2 k3 n k5 hm hs
    simp only [Bool.and_eq_true,beq_iff_eq,Bool.not_eq_true'] at q
    obtain ⟨⟨⟨⟨⟨⟨⟨rfl,rfl⟩,hdel⟩,hdic⟩,ht⟩,hok⟩,hin⟩,hno⟩:=q
    obtain ⟨nm,bs,mro,ns,qn,hd,sn,sub,ab,col,del⟩:=cd
    dsimp only at hm hdel hdic hok hin hno
    subst hm hdel hdic
    have hsl:sl=#[k0,k1,k2,k3,some (.builtin "ValueError.__new__"),k5]:=by
     obtain ⟨l⟩:=sl
     simp only at hs
     rw [hs]
    subst hsl
    have N:=PySem.W.isNs_of_in X hok
    exact ⟨nm,qn,ns,bs,bm,sn,sub,ab,col,dd,k0,k1,k2,k3,k5,_,X _ _ ho,.of_isNs N,zhz X (.of_isNs N) hin,fun n hn=>PySem.W.nsMap_none_of_in X hok (beq_iff_eq.mp (List.all_eq_true.mp hno n hn)),zhT X ht⟩
   ·cases q
  ·cases q
 ·split at e2
  ·rename_i o ho
   exact ⟨o,X _ _ ho,beq_iff_eq.mp e2⟩
  ·cases e2
noncomputable def xeB (K:PySem.W.Frag) (CE fE:Addr):Bool:=PySem.W.specialIn K (.ref CE) "__getattribute__" == some (some (.builtin "type.__getattribute__")) && PySem.W.readsIn K CE (.type "type") &&
 (match PySem.W.findCls K (.ref CE) (.type "type") "__init__" with | some (.val (.ref f))=>f == fE | _=>false) && PySem.W.keepIn K (.ref fE)
theorem znr {K:PySem.W.Frag}{CE fE:Addr} (e:xeB K CE fE=true):XE K CE fE:=by
 unfold xeB at e
 simp only [Bool.and_eq_true,beq_iff_eq] at e
 obtain ⟨⟨⟨a,b⟩,c⟩,d⟩:=e
 split at c
 ·rename_i f hf
  rw [beq_iff_eq.mp c] at hf
  exact ⟨a,b,hf,d⟩
 ·cases c
noncomputable def inSt:Stmt→Stmt
 | .ClassDef _ _ _ body ..=>body.headD (.Pass ⟨0,0,0,0⟩)
 | s=>s
noncomputable def quN (st:Stmt):Str:=stN st ++ ".__init__"
noncomputable def clV (K:PySem.W.Frag) (st:Stmt):Option (FnT×Bool):=match PySem.W.nsIn K mainGlobals (stN st) with
 | some (some (.ref C))=>(match K.lookup C with
  | some ⟨_,_,.cls cd,_⟩=>(match PySem.W.nsIn K cd.ns "__init__" with
   | some (some (.ref f))=>(match K.lookup f with
    | some ⟨_,_,.func fd,_⟩=>some (fnT fd,PySem.W.codeIn K fd.code (quN st) && PySem.W.keepIn K (.ref f) && xcB K C f && xeB K C f)
    | _=>none)
   | _=>none)
  | _=>none)
 | _=>none
noncomputable def clX (st:Stmt):Option (FnT×Bool):=some (fnT (PySem.W.fnOf "__init__" (quN st) (zfp (inSt st)) (zcc (inSt st)) (zah (inSt st)) .none .none .none .none none .none .none),true)
theorem cl_of {K:PySem.W.Frag}{st:Stmt} (e:clV K st=clX st) :
  ∃ C fI fd,PySem.W.nsIn K mainGlobals (stN st)=some (some (.ref C))∧XC K C fI∧XE K C fI∧Fun K "__init__" (quN st) (inSt st) fI fd:=by
 unfold clV clX at e
 split at e
 ·rename_i C e1
  split at e
  ·rename_i cd e2
   split at e
   ·rename_i f e3
    split at e
    ·rename_i oc od fd osl e4
     have z:=Option.some.inj e
     have z1:=congrArg Prod.fst z
     have z2:=congrArg Prod.snd z
     dsimp only at z1 z2
     simp only [Bool.and_eq_true] at z2
     obtain ⟨⟨⟨c,k⟩,x⟩,y⟩:=z2
     refine ⟨C,f,fd,e1,zns x,znr y,⟨oc,od,fd.kwdefaults,fd.doc,fd.pyModule,fd.annotations,fd.code,fd.closureTuple,osl,?_,e4,c⟩,k⟩
     obtain ⟨a1,a2,a3,a4,a5,a6,a7,a8,a9,a10,a11,a12,a13,a14,a15⟩:=fd
     unfold fnT at z1
     simp only [Prod.mk.injEq] at z1
     obtain ⟨rfl,rfl,rfl,rfl,rfl,rfl,rfl,rfl,rfl⟩:=z1
     rfl
    ·cases e
   ·cases e
  ·cases e
 ·cases e
noncomputable abbrev FaY:=FaT×List (Option (FnT×Bool))×Option (Option Value)
noncomputable def fbV (p:Program) (I J:List Nat) (K:PySem.W.Frag):FaY:=(faV p I K,J.map fun i=>clV K (topS p i),PySem.W.nsIn K mainGlobals "ValueError")
noncomputable def fbX (p:Program) (I J:List Nat):FaY:=(faX p I,J.map fun i=>clX (topS p i),some none)
theorem zhG {p:Program}{I J:List Nat} {K:PySem.W.Frag}(A:fbV p I J K=fbX p I J) (i:Nat) (hi:i∈J) :
  ∃ C fI fd,PySem.W.nsIn K mainGlobals (stN (topS p i))=some (some (.ref C))∧XC K C fI∧XE K C fI∧Fun K "__init__" (quN (topS p i)) (inSt (topS p i)) fI fd:=
 cl_of (zha (congrArg (fun z=>z.2.1) A) i hi)
end FL
set_option Elab.async false
set_option linter.all false
set_option maxRecDepth 100000
namespace FL
open PySem PySem.Spec PyProof.Rows L2
section
variable {X:Cx}{pins:List (Addr×Obj)} {σ:St}{H:Hp} {s:Shared}{k:Nat} {fld:Str}{o value:Expr} {p pos:Pos}
noncomputable def sX (K:PySem.W.Frag) (fld:Str):TS:=fun D σ H=>∃ e C fI v,σ[0]?=some (some (.ref e))∧σ[1]?=some (some v)∧H e=some (ExcN e C)∧XC K C fI∧∀ da,H da=none→da≠e→D.nx σ (upd (upd H da (.xd [(fld,v)])) e (ExcM e C da))
theorem zdX (ha:PE X o (tVar 0)) (hv:PE X value (tVar 1)) (hf:fld∈zdQ) (hB:typeLookup (.type "ValueError") fld=pure none) (hz:fld.length≤sizeLine) (hs:swapsWith value (some (.Attribute o fld p)) pos.line X.env=pure false:=by rfl) :
  PS X (.Assign [.Attribute o fld p] value pos) (sX X.K fld):=by
 intro pins s σ H D I ⟨e,C,fI,v,h0,h1,he,M,q⟩
 refine plainObj_wpAny_Assign_Attribute (thn (hv pins s σ H _ I (show tVar 1 σ H (fun v' H1=>v'=v∧H1=H) from ⟨v,h1,rfl,rfl⟩)) ?_) hs
 rintro u s1 ⟨v',H1,I1,r1,rfl,rfl⟩
 refine thn (ha pins s1 σ H1 _ I1 (show tVar 0 σ H1 (fun v2 H2=>v2=.ref e∧H2=H1) from ⟨_,h0,rfl,rfl⟩)) ?_
 rintro ov s2 ⟨v2,H2,I2,r2,rfl,rfl⟩
 cases r2
 exact set_x I2 he M r1 hf hB hz fun da s3 hd hn I3=>⟨σ,_,I3,q da hd hn⟩
end
section
variable {P:Program}{w:World} {K:PySem.W.Frag}{mg:Str→Option Value} {base:Heap}{k:Nat} {C fI:Addr}{fd:FuncData} {qual pn fld:Str}{st:Stmt}
theorem zni (Fn:Fun K "__init__" qual st fI fd) (S:zar ["self",pn] ["self",pn] (zah st))
  (hb:∀ (cdv:Value) (A:Around) (outer:List Env) (s:Shared) (H:Hp) (E:XK),PSs (cxOf CX0 P w K mg base ["self",pn] qual (zah st) fI cdv A outer s H E).nox (zcc st)
   (zkP fun σ H Q=>zex (tVar 0) (zex (tVar 1) tNil) σ H fun vs H1=>∃ e C y fI,vs=[.ref e,.str y]∧H1 e=some (ExcN e C)∧XC K C fI∧Q .non H1)):FnOk P w K mg base CX0 (k + 1) fI fd ["self",pn] (SpE K):=by
 refine Fn.ok S (fun vs H Q E ⟨e,C,y,f,ev,_⟩=>by rw [ev];rfl) (fun cdv A outer s H vs Q E hr ⟨e,C,y,f,ev,he,M,q⟩=>⟨_,hb cdv A outer s H E,?_⟩)
 subst ev
 exact ⟨_,rfl,_,rfl,e,C,y,f,rfl,he,M,q⟩
theorem zep (M:XC K C fI) (Fn:Fun K "__init__" qual st fI fd) (S:zar ["self",pn] ["self",pn] (zah st))
  (hb:∀ (d:D) (cdv:Value) (A:Around) (outer:List Env) (s:Shared) (H:Hp) (E:XK),shD d=true→Room k (A.deeper (envOfC qual (zah st) s.heap.objs.size fI cdv))→PSs (cxOf CX0 P w K mg base ["self",pn] qual (zah st) fI cdv A outer s H E).nox (zcc st)
   (tSeq (zkP fun σ H Q=>zex (tVar 0) (zex (rdF K [none,some (.dat d)]) tNil) σ H fun vs H1=>SpE K vs H1 Q E0) (sX K fld))):FnOk P w K mg base CX0 (k + 1) fI fd ["self",pn] (SpI K C fld):=by
 refine Fn.ok S (fun vs H Q E ⟨e,v,F,d,ev,_⟩=>by rw [ev];rfl) (fun cdv A outer s H vs Q E hr ⟨e,v,F,d,ev,he,sub,fe,hd,hs,q⟩=>⟨_,hb d cdv A outer s H E hs hr,?_⟩)
 subst ev
 have rel:Rel K F H [none,some (.dat d)] (start ["self",pn] [.ref e,v]):=by
  refine ⟨sub,fun i x h=>?_,fun i x h=>?_,fun i b x h=>?_,fun i j b x y a _ h=>?_,rfl⟩
  ·match i,h with
   | 0,h=>cases h
   | 1,h=>cases h;exact ⟨v,rfl,hd⟩
   | n + 2,h=>cases h
  ·match i,h with
   | 0,h=>cases h
   | 1,h=>cases h
   | n + 2,h=>cases h
  ·match i,h with
   | 0,h=>cases h
   | 1,h=>cases h
   | n + 2,h=>cases h
  ·match i,h with
   | 0,h=>cases h
   | 1,h=>cases h
   | n + 2,h=>cases h
 refine ⟨_,rfl,F,rel,fun y F' H' g hy=>⟨e,C,y,fI,rfl,g.hh _ _ he,M,e,C,fI,v,rfl,rfl,g.hh _ _ he,M,fun da h1 h2=>q F' H' da g h1 h2⟩⟩
end
end FL
set_option Elab.async false
set_option linter.all false
set_option maxRecDepth 100000
namespace FX
open PySem
section
variable {M:Model}{A:Around} {E:Value→Shared→Prop}{env:Env}
variable {nm q:Str}{C N:Addr} {bs bm:List Value}{hdct:Bool} {sn:List Str}{sub:List Value} {ab:Bool}{col:Option Bool} {dd:Option Addr}{k0 k1 k2 k3 k5:Option Value} {newId:String}
theorem raise_made {s:Shared}{x:Sem Value} {Q:Flow→Shared→Prop}(hbase:bm.contains (.type "BaseException")=true) (hh:A.handled=none)
  (h:wpAny M A x (fun v s₁=>∃ e t da,v=.ref e∧s₁.heap.get? C=some (excClassObj nm q C N bs bm hdct sn sub ab col dd k0 k1 k2 k3 k5 newId)∧
   s₁.heap.get? e=some { cls:=.ref C,dict:=some da,data:=.fields #[.ref t,.none,.none,.none,.bool false,.none] }∧E (.ref e) s₁) E s) :
  wpAny M A (raiseStmt env (some x) none) Q E s:=by
 have hcB:(Value.ref C::bm).contains (.type "BaseException")=true:=by rw [List.contains_cons,hbase,Bool.or_true]
 unfold raiseStmt
 refine wpAny_bind (wpAny_mono h (fun v s₁ h₁=>?_) fun _ _ x=>x)
 obtain ⟨e,t,da,rfl,hC,he,hE⟩:=h₁
 obtain ⟨hp,g,d,tk,os⟩:=s₁
 repeat (first | with_reducible refine wpAny_loadPart_at he ?_ | with_reducible refine wpAny_loadPart_at hC ?_ | (with_reducible refine wpAny_isSubtype_exc hC ?_;rw [hcB]) | wp_step)
 exact wpAny_raiseNew_none hh hE
end
end FX
namespace FL
open PySem PySem.Spec PyProof.Rows L2
structure Xk (P:Program) (w:World) (K:PySem.W.Frag) (mg:Str→Option Value) (base:Heap) (c:Str) (k:Nat):Prop where
 ex:∃ C fI fd pn,XC K C fI∧PySem.W.nsIn K mainGlobals c=some (some (.ref C))∧mg c=some (.ref C)∧zbA K fd ["self",pn] []∧FnOk P w K mg base CX0 k fI fd ["self",pn] (SpI K C (zaR c))
noncomputable def mkE (c:Str) (d:D):Option D:=if shD d=true then some (.exc c d) else none
section
variable {X:Cx}{pins:List (Addr×Obj)} {σ:St}{F H:Hp} {s:Shared}{k j:Nat} {c:Str}{e:Expr} {f:En→Option D}{p pos rp:Pos} {K:PySem.W.Frag}{md:Md}
theorem zgR {ρ:En}{d:D} {Q:Value→Shared→Prop}(G:Xk X.prog X.w X.K X.mg X.base c k) (hr:Room (k + 1) X.A) (hg:Gl X c) (ha:FP X.K .fz X e f) (hf:f ρ=some d) (hs:shD d=true)
  (I:Inv X pins σ H s) (rel:Rel X.K F H ρ σ)
  (h:∀ a C da fI v F' H' s',XC X.K C fI→PySem.W.nsIn X.K mainGlobals c=some (some (.ref C))→FpOk X pins (fun b=>if b=a then none else H' b) a→H a=none→
   (∃ F1 H1,Grow F H F1 H1∧Dat X.K F1 d v∧H1 a=none∧Grow F1 (upd H1 a (ExcN a C)) F' H')→H' da=none→da≠a→Inv X pins σ (upd (upd H' da (.xd [(zaR c,v)])) a (ExcM a C da)) s'→Q (.ref a) s')
  (hdb:(c == ("__debug__" : Str))=false:=by decide) (hst:starEach [e] X.env=(false,eval e X.env)::starEach [] X.env:=by rfl) (hpl:(backTo pos (starEach [] X.env)).any (·.1)=false:=by rfl) :
  wpAny (model X.prog X.w) X.A (eval (.Call (.Name c p) [e] [] pos) X.env) Q X.xe s:=by
 obtain ⟨C,fI,fd,pn,M,hn,hm,hb,Fn⟩:=G.ex
 refine wpAny_Call_Name_kw (zdd I hg hm ?_ hdb)
 have hA:=(zaq (ha.h ρ d hf) zaV hst) pos pins s σ H (fun vs H1=>∃ v F1,vs=[v]∧Grow F H F1 H1∧Dat X.K F1 d v) I (show zex (rdE X.K .fz ρ d) tNil σ H _ from ⟨F,rel,fun v F1 H1 g hd=>⟨v,F1,rfl,g,hd⟩⟩)
 refine PySem.W.callWith_K (h₀:=X.base) I.ok.mod.kin M.kp (thn hA fun us s1 ⟨vs,H1,I1,r,v,F1,ev,g,hd⟩=>⟨I1.kIn,?_⟩) hst hpl
 subst ev
 cases r with
 | cons ra rb=>
  cases rb
  refine zkU M Fn hr hb I1 ra g.fh hd hs fun a da F' H' s' hle ha1 g2 h1 h2 I2=>?_
  refine h a C da fI v F' H' s' M hn ?_ (g.hh.free ha1) ⟨F1,H1,g,hd,ha1,g2⟩ h1 h2 I2
  exact I1.fpOk hle (by simp)
theorem fexc (G:Xk X.prog X.w X.K X.mg X.base c k) (hr:Room j X.A) (ha:FP K .fz X e f) (hle:k + 1≤j:=by first | decide | omega) (hg:Gl X c:=by rfl) (hK:X.K=K:=by rfl)
  (hdb:(c == ("__debug__" : Str))=false:=by decide) (hst:starEach [e] X.env=(false,eval e X.env)::starEach [] X.env:=by rfl) (hpl:(backTo pos (starEach [] X.env)).any (·.1)=false:=by rfl) :
  FP K .fz X (.Call (.Name c p) [e] [] pos) (c1 (mkE c) f):=FP.mk fun ρ d hf=>by
 subst hK
 obtain ⟨x,e1,e2⟩:=Option.bind_eq_some_iff.mp hf
 unfold mkE at e2
 obtain ⟨hs,rfl⟩:=zau e2
 intro pins s σ H Q I ⟨F,rel,q⟩
 refine zgR G (hr.mono hle) hg ha e1 hs I rel (fun a C da fI v F' H' s' M hn _ hHa ⟨F1,H1,g1,hd,ha1,g2⟩ h1 h2 I2=>?_) hdb hst hpl
 have I3:Inv X pins σ (upd (upd H' da (.xd [(zaR c,v)])) a (ExcO a C da)) s':=by
  obtain ⟨t,hx⟩:=(I2.hok a _ zag).1
  have:=I2.write (h':=s'.heap) (t':=s'.toks) (x:=a) (e:=a) (o:=ExcO a C da) (by rw [zag];trivial) (.inl rfl) (fun b u _ q=>q) ⟨_,hx⟩ ⟨⟨_,_,hx,rfl,rfl,rfl⟩,⟨_,hx⟩,fun h1 h2 ⟨oe,vs,q1,q2⟩ k=>⟨oe,vs,k _ q1,q2⟩⟩
  rw [zkM] at this
  exact this
 have Fa:F1 a=none:=g1.fh.free ha1
 have Fa':F' a=none:=g2.nw a _ zag Fa
 have Fd':F' da=none:=g2.fh.free h1
 have S2:Same F' (upd (upd F' da (.xd [(zaR c,v)])) a (ExcO a C da)):=fun b o hb=>by rw [zaj (zaa hb Fa'),zaj (zaa hb Fd')];exact hb
 have hh:Same H (upd (upd H' da (.xd [(zaR c,v)])) a (ExcO a C da)):=fun b o hb=>by
  have n1:b≠a:=zaa hb hHa
  have q1:H' b=some o:=g2.hh _ _ (by rw [zaj n1];exact g1.hh _ _ hb)
  rw [zaj n1,zaj (zaa q1 h1)];exact q1
 refine ⟨.ref a,_,I3,rfl,q (.ref a) (upd (upd F' da (.xd [(zaR c,v)])) a (ExcO a C da)) _ ⟨(g1.ff.trans g2.ff).trans S2,hh,fun b o hb=>?_,fun b o hb hn'=>?_⟩ ?_⟩
 ·by_cases z1:b=a
  ·subst z1;rw [zag] at hb ⊢;exact hb
  ·rw [zaj z1] at hb ⊢
   by_cases z2:b=da
   ·subst z2;rw [zag] at hb ⊢;exact hb
   ·rw [zaj z2] at hb ⊢;exact g2.fh _ _ hb
 ·have n1:b≠a:=zaa hb hHa
  have q0:=g1.hh _ _ hb
  have q1:H' b=some o:=g2.hh _ _ (by rw [zaj n1];exact q0)
  rw [zaj n1,zaj (zaa q1 h1)]
  exact g2.nw b o (by rw [zaj n1];exact q0) (g1.nw b o hb hn')
 ·show Dat X.K _ (.exc c x) (.ref a)
  simp only [Dat]
  exact ⟨a,C,da,v,rfl,zag,hn,by rw [zaj h2,zag],(hd.mono g2.ff).mono S2⟩
theorem Inv.forget {Hx:Hp}{a:Addr} {φ:Heap→Prop}(I:Inv X pins σ Hx s) (ha:Hx a=some (.ext φ)):Inv X pins σ (fun b=>if b=a then none else Hx b) s:=by
 have nn:∀ b,Hx b=none→(if b=a then none else Hx b)=none:=fun b h=>by split;rfl;exact h
 have ne:∀ b o,Hx b=some o→(∀ ψ,o≠.ext ψ)→(if b=a then none else Hx b)=some o:=fun b o h k=>by
  have:b≠a:=fun z=>by subst z;rw [ha] at h;cases h;exact k _ rfl
  rw [if_neg this];exact h
 refine ⟨I.ok,I.os,I.bare,⟨I.base.keep,I.base.slot,fun b o e n hx=>nn b (I.base.free b o e n hx),I.base.there,fun b xs e=>ne b _ (I.base.tups b xs e) (fun _ z=>by cases z),fun b o u e=>ne b _ (I.base.frzs b o u e) (fun _ z=>by cases z),fun b ps e=>?_⟩,
  I.loc,I.cell,nn _ I.free,fun x c e=>nn c (I.freeC x c e),fun p hp=>let ⟨h1,h2,h3⟩:=I.pin p hp;⟨h1,nn _ h2,h3⟩,fun b o e=>?_,I.len⟩
 ·obtain ⟨more,e1⟩:=I.base.tbls b ps e
  exact ⟨more,ne b _ e1 (fun _ z=>by cases z)⟩
 ·have hb:b≠a:=fun z=>by subst z;rw [if_pos rfl] at e;cases e
  rw [if_neg hb] at e
  exact (I.hok b o e).stay (fun _ _ _ q=>q) (fun c hc=>ne c _ hc (fun _ z=>by cases z)) fun c xs hc=>ne c _ hc (fun _ z=>by cases z)
noncomputable def rsM (c:Str) (f:En→Option D):En→Option Fl:=fun ρ=>(f ρ).bind fun d=>if shD d=true then some (.rs c d ρ) else none
theorem zmc (G:Xk X.prog X.w X.K X.mg X.base c k) (hr:Room j X.A) (ha:FP K .fz X e f) (hle:k + 1≤j:=by first | decide | omega) (hg:Gl X c:=by rfl) (hK:X.K=K:=by rfl)
  (hdb:(c == ("__debug__" : Str))=false:=by decide) (hst:starEach [e] X.env=(false,eval e X.env)::starEach [] X.env:=by rfl) (hpl:(backTo pos (starEach [] X.env)).any (·.1)=false:=by rfl) :
  FS K md X (.Raise (some (.Call (.Name c p) [e] [] pos)) none rp) (rsM c f):=FS.mk fun ρ fl hf=>by
 subst hK
 obtain ⟨x,e1,e2⟩:=Option.bind_eq_some_iff.mp hf
 obtain ⟨hs,rfl⟩:=zau e2
 intro pins s σ H D I ⟨F,rel,q⟩
 rw [arm_exec_Raise]
 obtain ⟨C0,fI0,_,_,M0,hn0,_⟩:=G.ex
 obtain ⟨nm,qq,N,bs,bm,sn,sb,ab,col,dd,k0,k1,k2,k3,k5,mN,hC,_,_,_,T⟩:=M0.cls s.heap I.kIn
 refine wpAny_bind (wpAny_standAt ?_)
 refine FX.raise_made (C:=C0) (nm:=nm) (q:=qq) (N:=N) (bs:=bs) (bm:=bm) (hdct:=true) (sn:=sn) (sub:=sb) (ab:=ab) (col:=col) (dd:=dd) (k0:=k0) (k1:=k1) (k2:=k2) (k3:=k3) (k5:=k5) (newId := "ValueError.__new__") T.tl.hasBase hr.hd ?_
 refine wpAny_bind (zgR G (hr.mono hle) hg ha e1 hs I rel (fun a C da fI v F' H' s' M hn pa hHa ⟨F1,H1,g1,hd,ha1,g2⟩ h1 h2 I2=>?_) hdb hst hpl)
 refine wpAny_bind (wpAny_standAt (wpAny_pure ?_))
 have eC:C=C0:=by rw [hn0] at hn;cases hn;rfl
 subst eC
 obtain ⟨t,hx⟩:=(I2.hok a _ zag).1
 have hkC:s'.heap.get? C=some (excClassObj nm qq C N bs bm true sn sb ab col dd k0 k1 k2 k3 k5 "ValueError.__new__"):=by
  obtain ⟨nm',qq',N',bs',bm',sn',sb',ab',col',dd',l0,l1,l2,l3,l5,mN',hC',_⟩:=M.cls X.base I.ok.mod.kin
  have z1:=I.bk _ _ hC'
  rw [hC] at z1
  have z2:=I2.bk _ _ hC'
  rw [← z1] at z2;exact z2
 refine ⟨a,t,da,rfl,hkC,hx,?_⟩
 have Fa:F1 a=none:=g1.fh.free ha1
 have Fa':F' a=none:=g2.nw a _ zag Fa
 have Fd':F' da=none:=g2.fh.free h1
 have I3:=Inv.forget I2 (zag:upd (upd H' da (.xd [(zaR c,v)])) a (ExcM a C da) a=some (ExcM a C da))
 generalize hH2:(fun b=>if b=a then none else upd (upd H' da (.xd [(zaR c,v)])) a (ExcM a C da) b)=H2 at I3
 have at2:∀ b,b≠a→b≠da→H2 b=H' b:=fun b n1 n2=>by rw [← hH2];show (if b=a then none else _)=_;rw [if_neg n1,zaj n1,zaj n2]
 have atd:H2 da=some (.xd [(zaR c,v)]):=by rw [← hH2];show (if da=a then none else _)=_;rw [if_neg h2,zaj h2,zag]
 have ata:H2 a=none:=by rw [← hH2];show (if a=a then none else _)=_;rw [if_pos rfl]
 have S2:Same F' (upd F' da (.xd [(zaR c,v)])):=fun b o hb=>by rw [zaj (zaa hb Fd')];exact hb
 have G2:Grow F H (upd F' da (.xd [(zaR c,v)])) H2:=by
  refine ⟨(g1.ff.trans g2.ff).trans S2,fun b o hb=>?_,fun b o hb=>?_,fun b o hb hn'=>?_⟩
  ·have n1:b≠a:=zaa hb hHa
   have q1:H' b=some o:=g2.hh _ _ (by rw [zaj n1];exact g1.hh _ _ hb)
   rw [at2 b n1 (zaa q1 h1)];exact q1
  ·by_cases z2:b=da
   ·subst z2;rw [zag] at hb;rw [atd];exact hb
   ·rw [zaj z2] at hb
    rw [at2 b (zaa hb Fa') z2];exact g2.fh _ _ hb
  ·have n1:b≠a:=zaa hb hHa
   have q0:=g1.hh _ _ hb
   have q1:H' b=some o:=g2.hh _ _ (by rw [zaj n1];exact q0)
   rw [zaj (zaa q1 h1)]
   exact g2.nw b o (by rw [zaj n1];exact q0) (g1.nw b o hb hn')
 refine q σ _ H2 C da (rel.grow G2) G2.step ⟨v,hn,zag,(hd.mono g2.ff).mono S2⟩ pins a none s' I3 ⟨_,_,hx,rfl,rfl,rfl,by simp,by simp⟩ ⟨ata,pa.2⟩ (fun T' z=>by cases z)
end
end FL
set_option Elab.async false
set_option linter.all false
set_option maxRecDepth 100000
namespace FL
open PySem PySem.Spec PyProof.Rows L2
inductive Rs where
 | ok (d:D) | ex (c:Str) (d:D)
noncomputable def okm (m:List D→Option Rs) (ds:List D):Option D:=match m ds with
 | some (.ok d)=>some d
 | _=>none
noncomputable def exm (m:List D→Option Rs) (ds:List D):Option (Str×D):=match m ds with
 | some (.ex c d)=>some (c,d)
 | _=>none
noncomputable def SpR (K:PySem.W.Frag) (md:Md) (m:List D→Option Rs):Sp:=fun vs H Q E=>∃ F ds r,Same F H∧DatL K F ds vs∧m ds=some r∧match r with
 | .ok d=>∀ v F' H',Grow F H F' H'→Res K md H F' H' d v→Q v H'
 | .ex c d=>∀ F' H' C da,Grow F H F' H'→ExcD K F' c d C da→E (.ref C) (some da) H'
structure FkE (P:Program) (w:World) (K:PySem.W.Frag) (mg:Str→Option Value) (base:Heap) (x:Str) (ps:List Str) (md:Md) (k:Nat) (m:List D→Option Rs):Prop where
 ex:∃ f fd,FnOk P w K mg base (CX1 P w) k f fd ps (SpR K md m)∧zbA K fd ps []∧PySem.W.keepIn K (.ref f)=true∧mg x=some (.ref f)
section
variable {P:Program}{w:World} {K:PySem.W.Frag}{mg:Str→Option Value} {base:Heap}{md:Md} {X:Cx}{k j:Nat} {ps:List Str}{m:List D→Option Rs} {x:Str}{e:Expr} {es:List Expr}{fs:En→Option (List D)} {p pos:Pos}{f:Addr} {fd:FuncData}
theorem zgY {ds:List D}{d:D} (h:okm m ds=some d):m ds=some (.ok d):=by
 unfold okm at h
 split at h
 ·rename_i e;cases h;exact e
 ·cases h
theorem zka {ds:List D}{c:Str} {d:D}(h:exm m ds=some (c,d)):m ds=some (.ex c d):=by
 unfold exm at h
 split at h
 ·rename_i e;cases h;exact e
 ·cases h
theorem FkE.fk (G:FkE P w K mg base x ps md k m):Fk P w K mg base x ps md k (okm m):=by
 obtain ⟨f,fd,F,r⟩:=G.ex
 refine ⟨f,fd,⟨fun vs H Q E ⟨Fr,ds,d,a,b,c,q⟩=>F.len vs H Q E ⟨Fr,ds,.ok d,a,b,zgY c,q⟩,fun A outer s H args us vs Q E hr he hb hv ⟨Fr,ds,d,a,b,c,q⟩=>?_⟩,r⟩
 refine codeAny_mono (F.run A outer s H args us vs Q (fun _ _ _=>False) hr he hb hv ⟨Fr,ds,.ok d,a,b,zgY c,q⟩) fun rr s' hq=>?_
 cases rr with
 | error ex=>
  obtain ⟨_,_,_,_,_,_,_,_,_,_,_,_,_,_,_,z⟩:=hq
  exact z.elim
 | ok fl=>
  cases fl with
  | ret u=>exact hq
  | next=>exact hq
  | brk=>exact hq
  | cont=>exact hq
theorem FkE.mono (G:FkE P w K mg base x ps md k m) (h:k≤j):FkE P w K mg base x ps md j m:=by
 obtain ⟨f,fd,F,r⟩:=G.ex
 exact ⟨f,fd,F.mono h,r⟩
noncomputable def rdW (X:Cx) (K:PySem.W.Frag) (ρ:En) (c:Str) (d:D):TE:=fun σ H _=>∃ F,Rel K F H ρ σ∧∀ F' H' C da,Grow F H F' H'→ExcD K F' c d C da→Wish X σ C da H'
structure RX (K:PySem.W.Frag) (X:Cx) (e:Expr) (h:En→Option (Str×D)):Prop where
 h:∀ ρ c d,h ρ=some (c,d)→PE X e (rdW X K ρ c d)
noncomputable def rL (m:List D→Option Rs) (fs:En→Option (List D)):En→Option (Str×D):=fun ρ=>(fs ρ).bind (exm m)
theorem zjt (G:FkE X.prog X.w X.K X.mg X.base x ps md k m) (hr:Room j X.A) (ha:FPs K true X (e::es) fs) (hle:k≤j:=by first | decide | omega) (hg:Gl X x:=by rfl) (hK:X.K=K:=by rfl) (hdb:(x == ("__debug__" : Str))=false:=by decide)
  (he:starEach (e::es) X.env=(false,eval e X.env)::starEach es X.env:=by rfl) (hpl:(backTo pos (starEach es X.env)).any (·.1)=false:=by rfl):RX K X (.Call (.Name x p) (e::es) [] pos) (rL m fs):=RX.mk fun ρ c d hf=>by
 subst hK
 obtain ⟨l,e1,e2⟩:=Option.bind_eq_some_iff.mp hf
 obtain ⟨f,fd,F,hb,hk,hm⟩:=G.ex
 intro pins s σ H Q I ⟨Fr,r,q⟩
 refine wpAny_Call_Name_kw (zdd I hg hm ?_ hdb)
 have hA:=ha.h ρ l e1 pos pins s σ H (fun vs H1=>∃ F1,Grow Fr H F1 H1∧DatL X.K F1 l vs) I (show rdA X.K true ρ l σ H _ from ⟨Fr,r,fun vs F1 H1 g1 r1=>⟨F1,g1,r1⟩⟩)
 refine PySem.W.callWith_K (h₀:=X.base) I.ok.mod.kin hk (thn hA fun us s1 ⟨vs,H1,I1,rv,F1,g1,r1⟩=>⟨I1.kIn,?_⟩) he hpl
 exact zkW F (hr.mono hle) hb I1 rv ⟨F1,l,.ex c d,g1.fh,r1,zka e2,fun F2 H2 C da g2 x=>⟨C,da,rfl,rfl,q F2 H2 C da (g1.trans g2) x⟩⟩
theorem rsub {a b:Expr}{h:En→Option (Str×D)} (ha:RX K X a h):RX K X (.Subscript a b pos) h:=RX.mk fun ρ c d hf=>by
 intro pins s σ H Q I z
 exact Subscript_ (wpAny_mono (ha.h ρ c d hf pins s σ H (fun _ _=>False) I z) (fun v s1 ⟨_,_,_,_,z⟩=>z.elim) fun _ _ z=>z)
noncomputable def orR (f:En→Option D) (h:En→Option (Str×D)) (g:D→En→Option Fl):En→Option Fl:=fun ρ=>match f ρ with
 | some d=>g d ρ
 | none=>(h ρ).map fun q=>.rs q.1 q.2 ρ
theorem zkX {st:Stmt}{h:En→Option (Str×D)} {ρ:En}{c:Str} {d:D}(hp:PS X st fun D σ H=>rdW X K ρ c d σ H fun _ _=>False):PS X st (rdS X K md ρ (.rs c d ρ)):=
 PS.imp hp fun D σ H ⟨F,r,q⟩=>⟨F,r,fun F' H' C da g x=>q σ F' H' C da (r.grow g) g.step x⟩
theorem sretR {f:En→Option D}{h:En→Option (Str×D)} (he:FP K .fz X e f) (hh:RX K X e h):FS K .fz X (.Return (some e) pos) (orR f h fun d ρ=>some (.rt d ρ)):=FS.mk fun ρ fl hf=>by
 unfold orR at hf
 split at hf
 ·rename_i d e1
  cases hf
  exact (sret (pos:=pos) he).h ρ _ (by unfold retM;rw [e1];rfl)
 ·obtain ⟨⟨c,d⟩,e1,rfl⟩:=Option.map_eq_some_iff.mp hf
  exact zkX (h:=h) (PS.imp (zgV (hh.h ρ c d e1)) fun D σ H z=>z)
theorem zkt {f:En→Option D}{h:En→Option (Str×D)} (he:FP K .fz X e f) (hh:RX K X e h) (hs:swapsWith e none pos.line X.env=pure false:=by rfl):FS K md X (.Expr e pos) (orR f h fun _ ρ=>some (.nx ρ)):=FS.mk fun ρ fl hf=>by
 unfold orR at hf
 split at hf
 ·rename_i d e1
  cases hf
  exact (sexpr (pos:=pos) he hs).h ρ _ (by unfold zeG;rw [e1];rfl)
 ·obtain ⟨⟨c,d⟩,e1,rfl⟩:=Option.map_eq_some_iff.mp hf
  exact zkX (h:=h) (PS.imp (zbT (hh.h ρ c d e1) hs) fun D σ H z=>z)
theorem ssetR (i:Nat) {y:Str}{pos':Pos} {f:En→Option D}{h:En→Option (Str×D)} (hN:X.N.Nodup) (he:FP K .fz X e f) (hh:RX K X e h) (hi:X.N[i]?=some y:=by rfl) (hx:Loc X.env.scope y:=by first | exact Or.inl rfl | exact Or.inr rfl) (hs:swapsWith e (some (.Name y pos')) pos.line X.env=pure false:=by rfl)
  (hf:X.fn y=true∨X.env.scope.names.lookup y=some .local:=by first | exact Or.inl rfl | exact Or.inr rfl) :
  FS K md X (.Assign [.Name y pos'] e pos) (orR f h fun d ρ=>some (.nx (ρ.set i (some (.dat d))))):=FS.mk fun ρ fl hm=>by
 unfold orR at hm
 split at hm
 ·rename_i d e1
  cases hm
  exact (sset (md:=md) (pos:=pos) i hN he hi hx hs hf).h ρ _ (by unfold setM;rw [e1];rfl)
 ·obtain ⟨⟨c,d⟩,e1,rfl⟩:=Option.map_eq_some_iff.mp hm
  exact zkX (h:=h) (PS.imp (zgU hN hi hx (hh.h ρ c d e1) hs hf) fun D σ H z=>z)
theorem ziQ {qual:Str}{st:Stmt} {N:List Str}(Fn:Fun K x qual st f fd) (S:zar N ps (zah st)) {mb:Nat→En→Option Fl}
  (hb:∀ (n:Nat) (cdv:Value) (A:Around) (outer:List Env) (s:Shared) (H:Hp) (E:XK),Room k (A.deeper (envOfC qual (zah st) s.heap.objs.size f cdv))→FSs K md (cxOf (CX1 P w) P w K mg base N qual (zah st) f cdv A outer s H E) (zcc st) (mb n))
  (hm:∀ ds r,m ds=some r→ds.length=ps.length∧∃ n,match r with
   | .ok d=>(∃ ρ',mb n (zaz N.length ds)=some (.rt d ρ'))∨(d=.non∧md=.fz∧∃ ρ',mb n (zaz N.length ds)=some (.nx ρ'))
   | .ex c d=>∃ ρ',mb n (zaz N.length ds)=some (.rs c d ρ')):FnOk P w K mg base (CX1 P w) (k + 1) f fd ps (SpR K md m):=by
 obtain ⟨oc,od,kV,doc,pm,an,cdv,ct,osl,rfl,lk,hcd⟩:=Fn.ex
 refine znc lk hcd S (fun vs H Q E h=>?_) (fun A outer s H vs Q E hr h=>?_)
 ·obtain ⟨F,ds,d,_,q,e,_⟩:=h
  rw [q.length];exact (hm ds d e).1
 obtain ⟨F,ds,r,sub,qd,e,k⟩:=h
 obtain ⟨_,n,h⟩:=hm ds r e
 cases r with
 | ok d=>
  rcases h with ⟨ρ',h⟩ | ⟨rfl,rfl,ρ',h⟩
  ·refine ⟨_,(hb n cdv A outer s H E hr).h _ _ h,F,Rel.start sub qd,fun v σ' F' H' r' s' res=>?_⟩
   refine k v F' H' (s'.grow sub) ?_
   cases md with
   | fz=>exact res
   | br=>exact res.elim
   | ow=>
    obtain ⟨a,ea,h1,h2,h3⟩:=res
    refine ⟨a,ea,?_,h2,h3⟩
    rcases h1 with h1 | h1
    ·exact h1
    ·exact (zbP h1).elim
  ·refine ⟨_,(hb n cdv A outer s H E hr).h _ _ h,F,Rel.start sub qd,fun σ' F' H' r' s'=>?_⟩
   exact k _ F' H' (s'.grow sub) (Dat.non (K:=K) (F:=F'))
 | ex c d=>
  obtain ⟨ρ',h⟩:=h
  exact ⟨_,(hb n cdv A outer s H E hr).h _ _ h,F,Rel.start sub qd,fun σ' F' H' C da r' s' x=>zhj (k F' H' C da (s'.grow sub) x)⟩
end
end FL
set_option Elab.async false
set_option linter.all false
set_option maxRecDepth 100000
namespace FL
open PySem PySem.Spec PyProof.Rows L2
noncomputable def xcs:List Str:=["NoPlace", "NoRule", "TwoCounts", "TooLong", "NoRank"]
structure UX (K:PySem.W.Frag) (CE fE:Addr):Prop where
 cls:XC K CE fE
 sub:∀ c∈xcs,∀ C,PySem.W.nsIn K mainGlobals c=some (some (.ref C))→PySem.W.subIn K (.ref C) (.ref CE)=some true
noncomputable abbrev Cx.tx (X:Cx) (pn:List (Addr×Obj)) (E:Value→Shared→Prop):Cx:={ X with pn:=pn,xe:=E }
noncomputable abbrev Cx.mk' (X:Cx) (a:Addr):Cx:={ X with A:=X.A.mark (some (.ref a)),calm:=false }
section
variable {X:Cx}{pins pins':List (Addr×Obj)} {σ:St}{H:Hp} {s:Shared}{E:Value→Shared→Prop} {a C CE fE da:Addr}{K:PySem.W.Frag} {md:Md}
theorem ok_tx {pn:List (Addr×Obj)}(ok:X.Ok):(Cx.tx X pn E).Ok:=
 ⟨ok.mod,ok.kind,ok.glob,ok.blt,ok.above,ok.inj,ok.has,ok.cab,ok.hd,ok.frames,ok.stk,ok.exf,ok.bs,ok.bsz,ok.noex,ok.exfs,ok.funs,ok.frf⟩
theorem zls {pn:List (Addr×Obj)}(ok:(Cx.tx X pn E).Ok):X.Ok:=
 ⟨ok.mod,ok.kind,ok.glob,ok.blt,ok.above,ok.inj,ok.has,ok.cab,ok.hd,ok.frames,ok.stk,ok.exf,ok.bs,ok.bsz,ok.noex,ok.exfs,ok.funs,ok.frf⟩
theorem ziI (I:Inv X pins σ H s):Inv (Cx.tx X (X.pn++pins) E) [] σ H s:=
 ⟨ok_tx I.ok,I.os,I.bare,I.base,I.loc,I.cell,I.free,I.freeC,fun p hp=>I.pin p (by rw [List.append_nil] at hp;exact hp),I.hok,I.len⟩
theorem zcH (I:Inv (Cx.tx X (X.pn++pins) E) pins' σ H s):Inv X pins σ H s:=
 ⟨zls I.ok,I.os,I.bare,I.base,I.loc,I.cell,I.free,I.freeC,fun p hp=>I.pin p (List.mem_append_left _ hp),I.hok,I.len⟩
theorem zkD (I:Inv X pins σ H s):Inv (Cx.mk' X a) pins σ H s:=
 ⟨⟨I.ok.mod,I.ok.kind,I.ok.glob,I.ok.blt,I.ok.above,I.ok.inj,I.ok.has,I.ok.cab,(fun z=>by cases z),I.ok.frames,I.ok.stk,I.ok.exf,I.ok.bs,I.ok.bsz,I.ok.noex,I.ok.exfs,I.ok.funs,I.ok.frf⟩,I.os,I.bare,I.base,I.loc,I.cell,I.free,I.freeC,I.pin,I.hok,I.len⟩
theorem zjQ (I:Inv (Cx.mk' X a) pins σ H s) (ok:X.Ok):Inv X pins σ H s:=⟨ok,I.os,I.bare,I.base,I.loc,I.cell,I.free,I.freeC,I.pin,I.hok,I.len⟩
theorem ziJ {T:Addr}{fw:Value} (I:Inv X pins σ H s) (pa:FpOk X pins H a) (fl:FX.Fly s.heap a (.ref C) (some da) (some T) fw):Inv X pins σ (upd H a (ExcO a C da)) s:=by
 obtain ⟨p1,p2,p3,p4,p5,p6⟩:=pa
 obtain ⟨oe,vs,h1,h2,h3,h4,_⟩:=fl
 have at':∀ b,b≠a→upd H a (ExcO a C da) b=H b:=fun b n=>zaj n
 refine ⟨I.ok,I.os,I.bare,⟨I.base.keep,I.base.slot,fun b o e n hx=>?_,I.base.there,fun b xs e=>?_,fun b o u e=>?_,fun b ps e=>?_⟩,I.loc,I.cell,by rw [at' _ (Ne.symm p2)];exact I.free,fun x c e=>by rw [at' _ (p5 x c e)];exact I.freeC x c e,fun p hp=>?_,fun b o e=>?_,I.len⟩
 ·have:b≠a:=fun z=>by
   subst z
   rcases p4 with z | z
   ·exact hx z
   ·exact absurd (Nat.lt_of_lt_of_le (Heap.lt_size e) z) (Nat.lt_irrefl _)
  rw [at' _ this];exact I.base.free b o e n hx
 ·have q:=I.base.tups b xs e
  rw [at' _ (zaa q p1)];exact q
 ·have q:=I.base.frzs b o u e
  rw [at' _ (zaa q p1)];exact q
 ·obtain ⟨more,q⟩:=I.base.tbls b ps e
  exact ⟨more,by rw [at' _ (zaa q p1)];exact q⟩
 ·obtain ⟨q1,q2,q3⟩:=I.pin p hp
  exact ⟨q1,by rw [at' _ (p6 p hp)];exact q2,q3⟩
 ·by_cases hb:b=a
  ·subst hb
   rw [zag] at e;cases e
   exact ⟨⟨oe,vs,h1,h2,h3,h4⟩,⟨_,h1⟩,fun g1 g2 ⟨oe,vs,q1,q2⟩ k=>⟨oe,vs,k _ q1,q2⟩⟩
  ·rw [at' _ hb] at e
   exact (I.hok b o e).stay (fun _ _ _ q=>q) (fun c hc=>by rw [at' _ (zaa hc p1)];exact hc) fun c xs hc=>by rw [at' _ (zaa hc p1)];exact hc
theorem ziz {M:Model}{A:Around} {j:Nat}{n:Str} {pos:Pos}{Q:Unit→Shared→Prop} (I:Inv X pins σ H s) (hN:X.N.Nodup) (hj:X.N[j]?=some n) (hl:X.env.kindOf n=some .local)
  (h:∀ s',Inv X pins (σ.set j none) H s'→Q () s'):wpAny M A (do bindName X.env n .none;unbindBehindTheSuite X.env n pos) Q E s:=by
 obtain ⟨m,hn,hloc⟩:=I.loc
 refine wpAny_nameGoes_keeps hl hn (by simp [I.ok.kind]) fun h' v hn' hs=>h _ ?_
 have other:∀ b,b≠X.env.locals→h'.get? b=s.heap.get? b:=fun b hb=>hs.2 b hb
 have neL:∀ b o,X.s₀.heap.get? b=some o→b≠X.env.locals:=fun b o e=>Nat.ne_of_lt (Nat.lt_of_lt_of_le (Heap.lt_size e) I.ok.above)
 refine ⟨I.ok,I.os,I.bare,⟨fun b o e q1 q2 q3=>?_,fun b o e q1 q2 q3=>?_,I.base.free,fun b o e q3=>?_,I.base.tups,I.base.frzs,I.base.tbls⟩,⟨_,hn',fun i x u e1 e2 e3=>?_⟩,fun x c e=>?_,I.free,I.freeC,fun p hp=>?_,fun b o e=>?_,by rw [List.length_set];exact I.len⟩
 ·rw [other b (neL b o e)];exact I.base.keep b o e q1 q2 q3
 ·obtain ⟨sl,z⟩:=I.base.slot b o e q1 q2 q3
  exact ⟨sl,by rw [other b (neL b o e)];exact z⟩
 ·obtain ⟨o',z⟩:=I.base.there b o e q3
  exact ⟨o',by rw [other b (neL b o e)];exact z⟩
 ·have hij:i≠j:=fun z=>by
   subst z
   have hlt:i < σ.length:=by
    rcases Nat.lt_or_ge i σ.length with w | w
    ·exact w
    ·rw [List.getElem?_eq_none (by rw [List.length_set];exact w)] at e2;cases e2
   rw [List.getElem?_set_self hlt] at e2;cases e2
  rw [List.getElem?_set_ne (Ne.symm hij)] at e2
  obtain ⟨w,r,l⟩:=hloc i x u e1 e2 e3
  have hxn:x≠n:=fun z=>by subst z;exact hij (zfg hN e1 hj)
  refine ⟨w,r,?_⟩
  rcases l with ⟨l1,l2⟩ | ⟨l1,c,l2,l3⟩
  ·exact .inl ⟨l1,by show (if x=n then v else m x)=_;rw [if_neg hxn];exact l2⟩
  ·obtain ⟨oc,q1,q2⟩:=l3
   exact .inr ⟨l1,c,l2,oc,by rw [other c (I.cne x c l2)];exact q1,q2⟩
 ·obtain ⟨w,oc,q1,q2⟩:=I.cell x c e
  exact ⟨w,oc,by rw [other c (I.cne x c e)];exact q1,q2⟩
 ·obtain ⟨q1,q2,q3,q4⟩:=I.pin p hp
  exact ⟨by rw [other _ q3];exact q1,q2,q3,q4⟩
 ·refine (I.hok b o e).stay (fun c u hc q=>?_) (fun _ q=>q) fun _ _ q=>q
  rw [other c (fun z=>?_)];exact q
  subst z
  rcases hc with z | z
  ·rw [← z,I.free] at e;cases e
  ·rw [I.free] at z;cases z
theorem ziR {M:Model}{A:Around} {Q:Bool→Shared→Prop}{oe:Obj} (KX:K.In s.heap) (U:UX K CE fE) (hu:PySem.W.subIn K (.ref C) (.ref CE)=some true) (he:s.heap.get? a=some oe) (hc:oe.cls=.ref C) (h:Q true s) :
  wpAny M A (excMatches (.ref a) (.ref CE)) Q E s:=by
 obtain ⟨nm,q,N,bs,bm,sn,sb,ab,col,dd,k0,k1,k2,k3,k5,mN,hC,_,_,_,T⟩:=U.cls.cls s.heap KX
 have hcB:(Value.ref CE::bm).contains (.type "BaseException")=true:=by rw [List.contains_cons,T.tl.hasBase,Bool.or_true]
 have f:=tc_notTuple
 have L1:PySem.W.Looks M s.heap (isSubtype (.ref C) (.ref CE)) true:=PySem.W.looks_subIn KX hu
 obtain ⟨hp,g,d,t,os⟩:=s
 unfold excMatches
 repeat (first | (with_reducible refine wpAny_loadPart_at he ?_;rw [hc]) | with_reducible refine wpAny_loadPart_at hC ?_ | (with_reducible refine wpAny_isSubtype_exc hC ?_;rw [hcB]) | (with_reducible refine L1.here ?_) | wp_step)
 exact h
noncomputable def tryM (i j:Nat) (b:En→Option Fl):En→Option Fl:=fun ρ=>match b ρ with
 | some (.nx ρ1)=>some (.nx ρ1)
 | some (.rs c d ρ1)=>if c∈xcs then some (.nx (((ρ1.set j none).set i (some (.dat (.exc c d)))).set j none)) else none
 | _=>none
theorem Kp.setN' {ρ:En}{σ:St} {j:Nat}{v:Option V}:Kp ρ σ (ρ.set j none) (σ.set j v):=⟨fun b z=>by
 rcases zed z with ⟨_,_,z,_⟩ | z
 ·cases z
 ·exact z,zgr fun d h=>by cases h⟩
theorem znb {E':Value→Shared→Prop}(h:FpOk (Cx.tx X (X.pn++pins) E') pins' H a):FpOk X pins H a:=⟨h.1,h.2.1,h.2.2.1,h.2.2.2.1,h.2.2.2.2.1,fun p hp=>h.2.2.2.2.2 p (List.mem_append_left _ hp)⟩
theorem stry (i j:Nat) {body:List Stmt}{n y:Str} {bM:En→Option Fl}{p1 p2 p3 p4 p5 pos:Pos} (U:UX X.K CE fE) (hE:X.mg "EndError" = some (.ref CE)) (hN:X.N.Nodup) (hb:∀ pn E',FSs K md (Cx.tx X pn E') body bM)
  (hg:Gl X "EndError" := by rfl) (hi:X.N[i]?=some y:=by rfl) (hj:X.N[j]?=some n:=by rfl) (hnl:X.env.kindOf n=some .local:=by rfl) (hy:Loc X.env.scope y:=by first | exact Or.inl rfl | exact Or.inr rfl) (hnL:Loc X.env.scope n:=by first | exact Or.inl rfl | exact Or.inr rfl)
  (hnV:Vis X.env.scope n:=by first | exact Or.inl rfl | exact Or.inr (Or.inl rfl) | exact Or.inr (Or.inr rfl)) (hnd:(n == ("__debug__" : Str))=false:=by decide) (hnc:(n == ("__classdict__" : Str))=false:=by decide)
  (hs:swapsWith (.Name n p3) (some (.Name y p2)) p4.line X.env=pure false:=by rfl) (hfy:X.fn y=true∨X.env.scope.names.lookup y=some .local:=by first | exact Or.inl rfl | exact Or.inr rfl) (hfn:X.fn n=true∨X.env.scope.names.lookup n=some .local:=by first | exact Or.inl rfl | exact Or.inr rfl)
  (hst:X.stack=X.env::X.outer:=by rfl) (hfm:X.env.frame=some X.env.locals:=by rfl) (hK:X.K=K:=by rfl) :
  FS K md X (.Try body [.ExceptHandler (some (.Name "EndError" p1)) (some n) [.Assign [.Name y p2] (.Name n p3) p4] p5] [] [] pos) (tryM i j bM):=FS.mk fun ρ fl hf=>by
 subst hK
 unfold tryM at hf
 intro pins s σ H D I
 split at hf
 ·rename_i ρ1 e1
  cases hf
  rintro ⟨F,rel,q⟩
  refine wpAny_Try_except ?_
  refine wpAny_mono ((hb (X.pn++pins) _).h ρ _ e1 [] s σ H D (ziI I) ⟨F,rel,q⟩) (fun f s1 h1=>?_) fun _ _ z=>z
  cases f with
  | next=>obtain ⟨σ',H',J,z⟩:=h1;exact wpAny_execs_nil ⟨σ',H',zcH J,z⟩
  | ret u=>obtain ⟨v,σ',H',J,r,z⟩:=h1;exact ⟨v,σ',H',zcH J,r,z⟩
  | brk=>obtain ⟨σ',H',J,z⟩:=h1;exact ⟨σ',H',zcH J,z⟩
  | cont=>obtain ⟨σ',H',J,z⟩:=h1;exact ⟨σ',H',zcH J,z⟩
 ·rename_i c d ρ1 e1
  obtain ⟨hc,hf⟩:=zau hf
  cases hf
  rintro ⟨F,rel,q⟩
  refine wpAny_Try_except ?_
  refine wpAny_mono ((hb (X.pn++pins) _).h ρ _ e1 [] s σ H { nx:=fun _ _=>False,rt:=fun _ _=>False } (ziI I) ⟨F,rel,?_⟩) (fun f s1 h1=>?_) fun _ _ z=>z
  ·intro σ' F' H' C da r1 st1 x pins' a tb s1 J fl pa pt
   have I1:=zcH J
   have pa1:=znb pa
   have pt1:∀ T,tb=some T→FpOk X pins H' T:=fun T e=>znb (pt T e)
   obtain ⟨u,hn,hda,hdu⟩:=x
   have hu:=U.sub c hc C hn
   refine FX.note_frame (base:=X.base) (outer:=X.outer) (L:=X.env.locals) (by rw [I1.ok.frames,hst]) (by rw [← hst];exact I1.stack) hfm fl fun h2 T c2 fl2 z2=>?_
   have I2:=zgA I1 (by rw [hst];rfl) c2 (FL.ex_ok pa1 pt1)
   have pT:FpOk X pins H' T:=I1.fpOk z2 (I1.hok.fresh z2)
   refine FX.set_flight (fs:=frs X.stack) fl2 fun h3 c3 fl3=>?_
   have I3:=zgA I2 rfl c3 (fun b hb=>by rw [List.mem_singleton.mp hb];exact pT)
   refine wpAny_handleBy_cons (codeAny_handlers_test (zdd (X:=Cx.mk' X a) (zkD I3) hg hE ?_)) (by intro z;cases z)
   obtain ⟨oe,hoe,hoc,hod⟩:=fl3.there
   refine ziR I3.kIn U hu hoe hoc ?_
   refine codeAny_handlers_suite_as (FX.set_flight (fs:=frs X.stack) fl3 fun h4 c4 fl4=>?_)
   have I4:=zgA I3 rfl c4 (fun b hb=>by rw [List.mem_singleton.mp hb];exact pT)
   have I5:=ziJ I4 pa1 fl4
   refine zeW I5 hN hj hnL (v:=.ref a) rfl (fun s6 I6=>?_) hfn
   refine wpAny_mono ((zck (zgU (X:=Cx.tx (Cx.mk' X a) ((Cx.mk' X a).pn++pins) _) hN hi hy (zaS (X:=Cx.tx (Cx.mk' X a) ((Cx.mk' X a).pn++pins) _) hj hnV hnd hnc) hs hfy)) [] s6 _ _ { nx:=fun σ9 H9=>σ9=(σ'.set j (some (.ref a))).set i (some (.ref a))∧H9=upd H' a (ExcO a C da),rt:=fun _ _=>False } (ziI (zkD I6)) ?_) (fun f s7 h7=>?_) fun _ _ z=>z
   ·have hl:j < σ'.length:=by rw [I1.len];exact (List.getElem?_eq_some_iff.mp hj).1
    exact ⟨.ref a,by rw [List.getElem?_set_self hl],rfl,rfl⟩
   ·cases f with
    | next=>
     obtain ⟨σ9,H9,J9,rfl,rfl⟩:=h7
     have I9:=zjQ (zcH J9) I.ok
     refine ziz I9 hN hj hnl fun s8 I8=>⟨_,_,I8,q _ (upd F' a (ExcO a C da)) _ ?_ ?_⟩
     ·have g:=Grow.frozen (o:=ExcO a C da) r1.sub pa1.1
      exact (((r1.grow g).setN).setD (by simp only [Dat];exact ⟨a,C,da,u,rfl,zag,hn,g.ff _ _ hda,hdu.mono g.ff⟩)).setN
     ·have g:=Grow.frozen (o:=ExcO a C da) r1.sub pa1.1
      exact (((st1.trans g.step rel.sub).kp Kp.setN').kp Kp.setD).kp Kp.setN'
    | ret u=>obtain ⟨v,σ9,H9,J,r,z⟩:=h7;exact z.elim
    | brk=>obtain ⟨σ9,H9,J,z⟩:=h7;exact z.elim
    | cont=>obtain ⟨σ9,H9,J,z⟩:=h7;exact z.elim
  ·cases f with
   | next=>obtain ⟨σ',H',J,z⟩:=h1;exact z.elim
   | ret u=>obtain ⟨v,σ',H',J,r,z⟩:=h1;exact z.elim
   | brk=>obtain ⟨σ',H',J,z⟩:=h1;exact z.elim
   | cont=>obtain ⟨σ',H',J,z⟩:=h1;exact z.elim
 ·cases hf
end
end FL
set_option Elab.async false
set_option linter.all false
set_option maxRecDepth 100000
namespace FX
open PySem PySem.Spec PyProof.Rows PySem.W
section
variable {prog:Program}{w:World} {A:Around}{E:Value→Shared→Prop} {s:Shared}{K:Frag} {x C:Addr}{ox:Obj} {od:Option Obj}{name:Str}
theorem zlE (self:Value):bindSpecial (.builtin "BaseException.__getattribute__") self=pure (.builtin "BaseException.__getattribute__",[self]):=F.attr_ValueError.ga.bind self
theorem zjY {nameV:Value}{Q:Unit→Shared→Prop} (X:K.In s.heap) (I:InstAt s.heap x ox C od) (hm:mroIn K C (.type "BaseException")=some true) (hq:Q () s):wpAny (model prog w) A (checkBuiltinCall "BaseException.__getattribute__" ⟨[.ref x,nameV],[]⟩) Q E s:=by
 have hk:builtinKind "BaseException.__getattribute__" = some .slot:=by decide +kernel
 have hsplit:splitId "BaseException.__getattribute__" = some ("BaseException", "__getattribute__"):=by decide +kernel
 have ha:=F.args_bexc_ga (.ref x) nameV
 obtain ⟨hh,g,d,t,os⟩:=s
 have L0:=I.type (M:=model prog w)
 have L1:=looks_mroIn (M:=model prog w) X hm
 simp only [checkBuiltinCall,hk,hsplit]
 refine wpAny_bind ?_
 unfold isInstance
 refine wpAny_bind (L0.at (L1.at ?_))
 repeat (any_goals (first | assumption | wp_step))
theorem zna {tk:Tok}{fill expr:Bool} {Q:Value→Shared→Prop}(X:K.In s.heap) (I:InstAt s.heap x ox C od) (hm:mroIn K C (.type "BaseException")=some true)
  (hga:findIn K (.ref C) "__getattribute__" = some (some (.builtin "BaseException.__getattribute__"))) (hk:findIn K (.ref C) "__getattr__" = some none)
  (h:∀ A' E',wpAny (model prog w) A' (Builtin.«object.__getattribute__» ⟨[.ref x,.str name tk],[]⟩) (fun fin s'=>∃ v,fin=.done (.ret v)∧handedIn v=true∧Q v s') E' s):wpAny (model prog w) A (getAttrBy (.ref x) (.str name tk) fill expr) Q E s:=by
 obtain ⟨hh,g,d,t,os⟩:=s
 have L0:=I.type (M:=model prog w)
 have L1:=looks_findIn (M:=model prog w) X hga
 have L2:=looks_findIn (M:=model prog w) X hk
 have hx2:(Value.builtin "BaseException.__getattribute__" == Value.builtin "object.__getattribute__")=false:=by decide +kernel
 have hx1:(onTheHeap (Value.ref C) && Value.builtin "BaseException.__getattribute__" == Value.builtin "object.__getattribute__")=false:=by rw [hx2];rfl
 have hx0:(expr && onTheHeap (Value.builtin "BaseException.__getattribute__"))=false:=by cases expr<;>rfl
 unfold getAttrBy
 refine wpAny_holding (wpAny_bind (L0.at (wpAny_bind (L1.at ?_))))
 simp only [hx1,Bool.false_eq_true,if_false]
 unfold getAttrByItsOwn hookBefore
 refine wpAny_bind (L2.at ?_)
 refine wpAny_bind (wpAny_attempt (wpAny_holding ?_))
 unfold callGetattribute boundAndCalled
 simp only [hx0,Bool.false_eq_true,if_false]
 rw [zlE]
 refine wpAny_bind (wpAny_pure ?_)
 refine wpAny_call (codeAny_call_builtin F.attr_ValueError.ga.plain F.entry_bexc_ga (zjY X I hm ?_))
 refine wpAny_mono (h _ _) (fun fin s' ⟨v,e,hv,q⟩=>?_) fun _ _ z=>z
 subst e
 show wpAny _ _ (handedOut v) _ _ _
 rw [handedOut_of hv];exact wpAny_pure q
theorem zjW {tk:Tok}{v:Value} {E':Value→Shared→Prop}{Q:Fin→Shared→Prop} (X:K.In s.heap) (I:InstAt s.heap x ox C od) (hf:findObj K C od name=some (.value v)) (h:Q (.done (.ret v)) s):wpAny (model prog w) A (Builtin.«object.__getattribute__» ⟨[.ref x,.str name tk],[]⟩) Q E' s:=by
 obtain ⟨hh',g,d,t,os⟩:=s
 have L0:=I.type (M:=model prog w)
 have L1:=looks_find (M:=model prog w) X I hf
 unfold Builtin.«object.__getattribute__»
 refine wpAny_bind (wpAny_pure (wpAny_bind (wpAny_pure (wpAny_bind (L0.at (wpAny_bind (L1.at ?_)))))))
 exact wpAny_pure h
theorem zjX {tk:Tok}{od:Obj} {Q:Fin→Shared→Prop}(X:K.In s.heap) (I:InstAt s.heap x ox C (some od)) (hdct:hasDictIn K C=true) (ha:findIn K (.ref C) "__class__" = some (some (.builtin "object.__class__")))
  (hn:specialIn K (.builtin "object.__class__") "__get__" = some (some (.builtin "getset_descriptor.__get__"))) (htk:takesIn K (.builtin "object.__class__")=some true) (hm:mroIn K C (.type "object")=some true)
  (h:Q (.done (.ret (.ref C))) s):wpAny (model prog w) A (Builtin.«object.__getattribute__» ⟨[.ref x,.str "__class__" tk],[]⟩) Q E s:=by
 have hf:findObj K C (some od) "__class__" = some (.bind (.builtin "getset_descriptor.__get__") (.builtin "object.__class__")):=findObj_data (by obtain ⟨cd,hc,_⟩:=any_some hdct;rw [hc];rfl) ha hn htk
 obtain ⟨hh',g,d,t,os⟩:=s
 have L0:=I.type (M:=model prog w)
 have L1:=looks_find (M:=model prog w) X I hf
 unfold Builtin.«object.__getattribute__»
 refine wpAny_bind (wpAny_pure (wpAny_bind (wpAny_pure (wpAny_bind (L0.at (wpAny_bind (L1.at ?_)))))))
 show wpAny _ _ (holding [.builtin "object.__class__"] (call (.builtin "getset_descriptor.__get__") [.builtin "object.__class__",.ref x,.ref C]) >>= ret) _ _ _
 exact wpAny_bind (wpAny_holding (wpAny_call (class_get (s:=⟨hh',g,d,t,os⟩) (ox:=ox) X I hm (wpAny_pure h))))
theorem get_field {v:Value}{expr:Bool} {Q:Value→Shared→Prop}(X:K.In s.heap) (I:InstAt s.heap x ox C od) (hm:mroIn K C (.type "BaseException")=some true)
  (hga:findIn K (.ref C) "__getattribute__" = some (some (.builtin "BaseException.__getattribute__"))) (hk:findIn K (.ref C) "__getattr__" = some none)
  (hf:findObj K C od name=some (.value v)) (hh:handedIn v=true) (h:Q v { s with toks:=s.toks + 1 }):wpAny (model prog w) A (getAttr (.ref x) name expr) Q E s:=by
 obtain ⟨hh',g,d,t,os⟩:=s
 unfold getAttr
 exact wpAny_bind (wpAny_mkText (zna (s:=⟨hh',g,d,t + 1,os⟩) X I hm hga hk fun A' E'=>zjW (s:=⟨hh',g,d,t + 1,os⟩) X I hf ⟨v,rfl,hh,h⟩))
theorem kitx_exc {x D:Addr}{ox od:Obj} (hmb:mroIn K D (.type "BaseException")=some true) (hga:findIn K (.ref D) "__getattribute__" = some (some (.builtin "BaseException.__getattribute__"))) (hk:findIn K (.ref D) "__getattr__" = some none)
  (hdct:hasDictIn K D=true) (ha:findIn K (.ref D) "__class__" = some (some (.builtin "object.__class__")))
  (hn:specialIn K (.builtin "object.__class__") "__get__" = some (some (.builtin "getset_descriptor.__get__"))) (htk:takesIn K (.builtin "object.__class__")=some true) (hm:mroIn K D (.type "object")=some true) :
  KitX K (.ref x) (.ref D) (fun h=>InstAt h x ox D (some od)) where
 ty:=fun _ _ _ I=>I.type
 it:=fun _ _ X _=>by
  obtain ⟨cdD,hcD,_⟩:=any_some hdct
  unfold clsIn at hcD
  split at hcD
  ·rename_i c' d' cd' sl' ho
   intro A' Q' E' s' k q
   unfold isType loadHead
   exact wpAny_bind (wpAny_loadPart (k _ _ (X _ _ ho)) (wpAny_pure q))
  ·cases hcD
 ne:=fun h tp dd its n sl X htp=>by
  obtain ⟨cdD,hcD,_⟩:=any_some hdct
  refine Bool.eq_false_iff.mpr fun q=>?_
  have e:D=tp:=Value.ref.inj (beq_iff_eq.mp q)
  subst e
  unfold clsIn at hcD
  split at hcD
  ·rename_i c' d' cd' sl' ho
   have z:=(X _ _ ho).symm.trans htp
   cases z
  ·cases hcD
 ca:=fun {prog w A E Q s} X I k=>by
  obtain ⟨hh',g,d,t,os⟩:=s
  unfold getAttr? getAttrBy?
  refine wpAny_bind (wpAny_mkText (wpAny_bind (wpAny_attempt ?_)))
  refine zna (s:=⟨hh',g,d,t + 1,os⟩) X I hmb hga hk fun A' E'=>zjX (s:=⟨hh',g,d,t + 1,os⟩) X I hdct ha hn htk hm ⟨.ref D,rfl,rfl,?_⟩
  exact wpAny_pure k
end
end FX
set_option Elab.async false
set_option linter.all false
set_option maxRecDepth 100000
namespace FL
open PySem PySem.Spec PyProof.Rows L2
structure XQ (K:PySem.W.Frag) (c:Str) (C:Addr):Prop where
 mb:PySem.W.mroIn K C (.type "BaseException")=some true
 ga:PySem.W.findIn K (.ref C) "__getattribute__" = some (some (.builtin "BaseException.__getattribute__"))
 gh:PySem.W.findIn K (.ref C) "__getattr__" = some none
 hd:PySem.W.hasDictIn K C=true
 ca:PySem.W.findIn K (.ref C) "__class__" = some (some (.builtin "object.__class__"))
 mo:PySem.W.mroIn K C (.type "object")=some true
 ve:PySem.W.kitOne K (.ref C) (.type "ValueError")=some true
 nf:PySem.W.findIn K (.ref C) (zaR c)=some none
 un:∀ c2∈xcs,∀ C2,PySem.W.nsIn K mainGlobals c2=some (some (.ref C2))→PySem.W.kitOne K (.ref C) (.ref C2)=some (c == c2)
structure XI (K:PySem.W.Frag):Prop where
 sp:PySem.W.specialIn K (.builtin "object.__class__") "__get__" = some (some (.builtin "getset_descriptor.__get__"))
 tk:PySem.W.takesIn K (.builtin "object.__class__")=some true
 q:∀ c∈xcs,∀ C,PySem.W.nsIn K mainGlobals c=some (some (.ref C))→XQ K c C
noncomputable def xqB (K:PySem.W.Frag) (c:Str) (C:Addr):Bool:=PySem.W.mroIn K C (.type "BaseException") == some true && PySem.W.findIn K (.ref C) "__getattribute__" == some (some (.builtin "BaseException.__getattribute__")) && PySem.W.findIn K (.ref C) "__getattr__" == some none && PySem.W.hasDictIn K C && PySem.W.findIn K (.ref C) "__class__" == some (some (.builtin "object.__class__")) && PySem.W.mroIn K C (.type "object") == some true &&
 PySem.W.kitOne K (.ref C) (.type "ValueError") == some true && PySem.W.findIn K (.ref C) (zaR c) == some none && xcs.all fun c2=>match PySem.W.nsIn K mainGlobals c2 with
  | some (some (.ref C2))=>PySem.W.kitOne K (.ref C) (.ref C2) == some (c == c2)
  | _=>true
noncomputable def xiB (K:PySem.W.Frag):Bool:=PySem.W.specialIn K (.builtin "object.__class__") "__get__" == some (some (.builtin "getset_descriptor.__get__")) && PySem.W.takesIn K (.builtin "object.__class__") == some true && xcs.all fun c=>match PySem.W.nsIn K mainGlobals c with
 | some (some (.ref C))=>xqB K c C
 | _=>true
theorem znq {K:PySem.W.Frag}(e:xiB K=true):XI K:=by
 unfold xiB at e
 simp only [Bool.and_eq_true,beq_iff_eq] at e
 obtain ⟨⟨a,b⟩,h⟩:=e
 refine ⟨a,b,fun c hc C hn=>?_⟩
 have h1:=List.all_eq_true.mp h c hc
 rw [hn] at h1
 unfold xqB at h1
 simp only [Bool.and_eq_true,beq_iff_eq] at h1
 obtain ⟨⟨⟨⟨⟨⟨⟨⟨a1,b1⟩,b2⟩,a2⟩,a3⟩,a4⟩,a5⟩,a6⟩,a7⟩:=h1
 refine ⟨a1,b1,b2,a2,a3,a4,a5,a6,fun c2 h2 C2 hn2=>?_⟩
 have:=List.all_eq_true.mp a7 c2 h2
 rw [hn2] at this
 exact beq_iff_eq.mp this
noncomputable def uxB (K:PySem.W.Frag) (CE:Addr):Bool:=xcs.all fun c=>match PySem.W.nsIn K mainGlobals c with
 | some (some (.ref C))=>PySem.W.subIn K (.ref C) (.ref CE) == some true
 | _=>true
theorem znv {K:PySem.W.Frag}{CE fE:Addr} (M:XC K CE fE) (e:uxB K CE=true):UX K CE fE:=by
 refine ⟨M,fun c hc C hn=>?_⟩
 have h1:=List.all_eq_true.mp e c hc
 rw [hn] at h1
 exact beq_iff_eq.mp h1
section
variable {X:Cx}{pins:List (Addr×Obj)} {σ:St}{F H:Hp} {s:Shared}{K:PySem.W.Frag} {c:Str}{C a da:Addr} {e:Expr}{f:En→Option D} {p pos:Pos}
theorem zfo {fs:List (Str×V)}(I:Inv X pins σ H s) (h1:H a=some (ExcO a C da)) (h2:H da=some (.xd fs)):∃ (ox od:Obj) (mA:Str→Option Value),PySem.W.InstAt s.heap a ox C (some od)∧(∀ name,PySem.W.lookIn name od=some (mA name))∧∀ g,RelO (fs.lookup g) (mA g):=by
 obtain ⟨⟨oe,vs,q1,q2,q3,q4⟩,_⟩:=I.hok a _ h1
 obtain ⟨mA,n,r⟩:=I.hok da _ h2
 obtain ⟨od,ho,hl⟩:=zfR n
 exact ⟨oe,od,mA,⟨q1,q2,by unfold PySem.W.notCls;rw [q4],by rw [q3];exact ho⟩,hl,r⟩
noncomputable def rIsX (K:PySem.W.Frag):List V→Hp→VK→Prop:=fun xs H Q=>∃ (a C da:Addr) (fs:List (Str×V)) (c:Str) (cv:V) (cu:Value) (b:Bool),xs=[.ref a,cv]∧H a=some (ExcO a C da)∧H da=some (.xd fs)∧XQ K c C∧(∀ u,RelV cv u→u=cu)∧PySem.W.kitOne K (.ref C) cu=some b∧Q (.bl b) H
theorem zhi (J:XI X.K):zcN X (.builtin "isinstance") (rIsX X.K):=by
 intro pins s σ H xs us Q I r h
 obtain ⟨a,C,da,fs,c,cv,cu,b,rfl,h1,h2,q,hc,hb,k⟩:=h
 obtain ⟨u,z,rfl,r1,r2⟩:=zhQ r
 cases r1
 cases hc z r2
 obtain ⟨ox,od,mA,IA,_,_⟩:=zfo I h1 h2
 exact PySem.W.kia_one (FX.kitx_exc q.mb q.ga q.gh q.hd q.ca J.sp J.tk q.mo) I.kIn IA hb (fun z=>nomatch z) fun tk=>⟨.bl b,H,I.tok _,rfl,k⟩
noncomputable def rIsY (K:PySem.W.Frag):List V→Hp→VK→Prop:=fun xs H Q=>∃ (a C da:Addr) (fs:List (Str×V)) (c:Str) (t:Addr) (Cs:List Addr) (b:Bool),xs=[.ref a,.ref t]∧H a=some (ExcO a C da)∧H da=some (.xd fs)∧XQ K c C∧H t=some (.tup (Cs.map V.ref))∧PySem.W.kitAny K (.ref C) (Cs.map Value.ref)=some b∧Q (.bl b) H
theorem zfw:∀ {Cs:List Addr}{us:List Value},Vals (Cs.map V.ref) us→us=Cs.map Value.ref
 | [],_,.nil=>rfl
 | _::_,_,.cons r t=>by cases r;rw [zfw t];rfl
theorem zkm (J:XI X.K):zcN X (.builtin "isinstance") (rIsY X.K):=by
 intro pins s σ H xs us Q I r h
 obtain ⟨a,C,da,fs,c,t,Cs,b,rfl,h1,h2,q,ht,hb,k⟩:=h
 obtain ⟨u,z,rfl,r1,r2⟩:=zhQ r
 cases r1
 cases r2
 obtain ⟨ox,od,mA,IA,_,_⟩:=zfo I h1 h2
 obtain ⟨_,its,rv,o,q1,q2,n,q3⟩:=I.hok t _ ht
 rw [zfw rv] at q3
 obtain ⟨cl,dd,dt,sl⟩:=o
 cases q2;cases q3
 exact PySem.W.kia_tup (FX.kitx_exc q.mb q.ga q.gh q.hd q.ca J.sp J.tk q.mo) I.kIn IA q1 hb (fun z=>nomatch z) fun tk=>⟨.bl b,H,I.tok _,rfl,k⟩
noncomputable def isiC (c2:Str) (x:D):Option D:=match x with
 | .exc c _=>if c∈xcs then some (.bl (c == c2)) else none
 | _=>none
noncomputable def isiV (x:D):Option D:=match x with
 | .exc c _=>if c∈xcs then some (.bl true) else none
 | _=>none
noncomputable def isiT (cs:List Str) (x:D):Option D:=match x with
 | .exc c _=>if c∈xcs then some (.bl (cs.any (c == ·))) else none
 | _=>none
theorem zkb {c:Str}{d:D} {v:V}(s:Same F H) (h:DatB K F H (.exc c d) v):∃ a C da u,v=.ref a∧H a=some (ExcO a C da)∧PySem.W.nsIn K mainGlobals c=some (some (.ref C))∧H da=some (.xd [(zaR c,u)])∧Dat K F d u:=by
 obtain ⟨a,C,da,u,h1,h2,h3,h4,h5⟩:=Dat.exc_inv (K:=K) (F:=F) h
 exact ⟨a,C,da,u,h1,s _ _ h2,h3,s _ _ h4,h5⟩
theorem fisiC {y:Str}{C2:Addr} {p2:Pos}(J:XI X.K) (hm2:X.mg y=some (.ref C2)) (hn2:PySem.W.nsIn X.K mainGlobals y=some (some (.ref C2))) (hy:y∈xcs) (ha:FP K .br X e f) (hg:Gl X "isinstance") (hm:X.mg "isinstance" = none) (hgy:Gl X y:=by rfl)
  (hd:(y == ("__debug__" : Str))=false:=by decide) (he:starEach [e,.Name y p2] X.env=(false,eval e X.env)::starEach [.Name y p2] X.env:=by rfl) (he2:starEach [.Name y p2] X.env=[(false,eval (.Name y p2) X.env)]:=by rfl)
  (hpl:(backTo pos (starEach [.Name y p2] X.env)).any (·.1)=false:=by rfl) (hK:X.K=K:=by rfl) :
  FP K .fz X (.Call (.Name "isinstance" p) [e,.Name y p2] [] pos) (c1 (isiC y) f):=FP.mk fun ρ d hf=>by
 subst hK
 obtain ⟨x,e1,e2⟩:=zdz hf
 unfold isiC at e2
 split at e2
 ·rename_i c d'
  obtain ⟨hc,rfl⟩:=zau e2
  refine PE.imp (zcE (zhi J) hg hm boot_isinstance (zaq (ha.h ρ _ e1) (zaq (zij (v:=.ref C2) hgy hm2 rfl hd) zaV he2) he) (by decide) (by decide) he hpl) fun σ H Q h_=>?_
  obtain ⟨F,rl,q⟩:=h_
  refine ⟨F,rl,fun v F1 H1 g1 r1=>?_⟩
  obtain ⟨a,C,da,u,rfl,h1,h2,h3,h4⟩:=zkb g1.fh r1
  exact ⟨a,C,da,_,c,.ref C2,.ref C2,_,rfl,h1,h3,J.q c hc C h2,fun u z=>z,(J.q c hc C h2).un y hy C2 hn2,q _ F1 H1 g1 (Res.bl _)⟩
 ·cases e2
theorem fisiV {p2:Pos}(J:XI X.K) (ha:FP K .br X e f) (hg:Gl X "isinstance") (hm:X.mg "isinstance" = none) (hgy:Gl X "ValueError") (hmy:X.mg "ValueError" = none)
  (he:starEach [e,.Name "ValueError" p2] X.env=(false,eval e X.env)::starEach [.Name "ValueError" p2] X.env:=by rfl) (he2:starEach [.Name "ValueError" p2] X.env=[(false,eval (.Name "ValueError" p2) X.env)]:=by rfl)
  (hpl:(backTo pos (starEach [.Name "ValueError" p2] X.env)).any (·.1)=false:=by rfl) (hK:X.K=K:=by rfl) :
  FP K .fz X (.Call (.Name "isinstance" p) [e,.Name "ValueError" p2] [] pos) (c1 isiV f):=FP.mk fun ρ d hf=>by
 subst hK
 obtain ⟨x,e1,e2⟩:=zdz hf
 unfold isiV at e2
 split at e2
 ·rename_i c d'
  obtain ⟨hc,rfl⟩:=zau e2
  refine PE.imp (zcE (zhi J) hg hm boot_isinstance (zaq (ha.h ρ _ e1) (zaq (zgs (v:=.ty "ValueError") hgy hmy (by decide +kernel) rfl) zaV he2) he) (by decide) (by decide) he hpl) fun σ H Q h_=>?_
  obtain ⟨F,rl,q⟩:=h_
  refine ⟨F,rl,fun v F1 H1 g1 r1=>?_⟩
  obtain ⟨a,C,da,u,rfl,h1,h2,h3,h4⟩:=zkb g1.fh r1
  exact ⟨a,C,da,_,c,.ty "ValueError",.type "ValueError",_,rfl,h1,h3,J.q c hc C h2,fun u z=>z,(J.q c hc C h2).ve,q _ F1 H1 g1 (Res.bl _)⟩
 ·cases e2
noncomputable def fldX (fld:Str) (x:D):Option D:=match x with
 | .exc c d=>if c∈xcs∧zaR c=fld then some d else none
 | _=>none
theorem ffld {fld:Str}(J:XI X.K) (ha:FP K .br X e f) (hb:attributeBase e fld X.env (eval e X.env)=eval e X.env:=by rfl) (hK:X.K=K:=by rfl):FP K .fz X (.Attribute e fld pos) (c1 (fldX fld) f):=FP.mk fun ρ d hf=>by
 subst hK
 obtain ⟨x,e1,e2⟩:=zdz hf
 unfold fldX at e2
 split at e2
 ·rename_i c d'
  obtain ⟨⟨hc,hfl⟩,rfl⟩:=zau e2
  intro pins s σ H Q I ⟨F,rl,q⟩
  refine zlR hb (thn (ha.h ρ _ e1 pins s σ H _ I (show rdE X.K .br ρ _ σ H (fun v H1=>∃ F1,Grow F H F1 H1∧DatB X.K F1 H1 (.exc c d') v) from ⟨F,rl,fun v F1 H1 g h=>⟨F1,g,h⟩⟩)) ?_)
  rintro ov s1 ⟨v,H1,I1,r1,F1,g1,hd⟩
  obtain ⟨a,C,da,u,rfl,h1,h2,h3,h4⟩:=zkb g1.fh hd
  cases r1
  have q':=J.q c hc C h2
  obtain ⟨ox,od,mA,IA,hl,hr⟩:=zfo I1 h1 h3
  have hu:=hr (zaR c)
  rw [show List.lookup (zaR c) [(zaR c,u)]=some u by simp [List.lookup]] at hu
  cases hm:mA (zaR c) with
  | none=>rw [hm] at hu;exact hu.elim
  | some w=>
   rw [hm] at hu
   subst hfl
   exact FX.get_field I1.kIn IA q'.mb q'.ga q'.gh (PySem.W.findObj_own q'.hd q'.nf rfl (by rw [hl,hm])) (ziN hu) ⟨u,H1,I1.tok _,hu,q _ F1 H1 g1 h4⟩
 ·cases e2
end
end FL
set_option Elab.async false
set_option linter.all false
set_option maxRecDepth 100000
namespace FL
open PySem PySem.Spec PyProof.Rows L2
inductive NL (X:Cx):List Expr→List Str→List Addr→Prop
 | nil:NL X [] [] []
 | cons {y:Str}{p:Pos} {es:List Expr}{ys:List Str} {Cs:List Addr}{C:Addr} (hm:X.mg y=some (.ref C)) (hn:PySem.W.nsIn X.K mainGlobals y=some (some (.ref C))) (hy:y∈xcs) (r:NL X es ys Cs) (hg:Gl X y:=by rfl) (hd:(y == ("__debug__" : Str))=false:=by decide)
   (hs:starEach (.Name y p::es) X.env=(false,eval (.Name y p) X.env)::starEach es X.env:=by rfl):NL X (.Name y p::es) (y::ys) (C::Cs)
section
variable {X:Cx}{pins:List (Addr×Obj)} {σ:St}{F H:Hp} {s:Shared}{K:PySem.W.Frag} {c:Str}{C CE fE a da:Addr} {e:Expr}{f:En→Option D} {p pos:Pos}{k:Nat} {fd:FuncData}{pn:Str}
theorem NL.pa {es:List Expr}{ys:List Str} {Cs:List Addr}(h:NL X es ys Cs):PA X es (fun σ H Q=>Q (Cs.map V.ref) H):=by
 induction h with
 | nil=>exact zaV
 | cons hm hn hy r hg hd hs ih=>exact zaq (zij (v:=.ref _) hg hm rfl hd) ih hs
theorem NL.kit {es:List Expr}{ys:List Str} {Cs:List Addr}(h:NL X es ys Cs) (q:XQ X.K c C):PySem.W.kitAny X.K (.ref C) (Cs.map Value.ref)=some (ys.any (c == ·)):=by
 induction h with
 | nil=>rfl
 | cons hm hn hy r hg hd hs ih=>
  rename_i y p es ys Cs C2
  have h1:=q.un y hy _ hn
  rw [List.map_cons,PySem.W.kitAny,h1]
  cases hb:(c == y) with
  | true=>simp [hb]
  | false=>simp only [List.any_cons,hb,Bool.false_or];exact ih
theorem NL.len {es:List Expr}{ys:List Str} {Cs:List Addr}(h:NL X es ys Cs):Cs.length=es.length:=by
 induction h with
 | nil=>rfl
 | cons hm hn hy r hg hd hs ih=>simp [ih]
theorem fisiT {es:List Expr}{ys:List Str} {Cs:List Addr}{x1:Nat} {p2:Pos}(J:XI X.K) (N:NL X es ys Cs) (ha:FP K .br X e f) (hg:Gl X "isinstance") (hm:X.mg "isinstance" = none) (hz:es.length≤100:=by decide)
  (he:starEach [e,.Tuple es x1 p2] X.env=(false,eval e X.env)::starEach [.Tuple es x1 p2] X.env:=by rfl) (he2:starEach [.Tuple es x1 p2] X.env=[(false,eval (.Tuple es x1 p2) X.env)]:=by rfl)
  (hpl:(backTo pos (starEach [.Tuple es x1 p2] X.env)).any (·.1)=false:=by rfl) (hK:X.K=K:=by rfl) :
  FP K .fz X (.Call (.Name "isinstance" p) [e,.Tuple es x1 p2] [] pos) (c1 (isiT ys) f):=FP.mk fun ρ d hf=>by
 subst hK
 obtain ⟨x,e1,e2⟩:=zdz hf
 unfold isiT at e2
 split at e2
 ·rename_i c d'
  obtain ⟨hc,rfl⟩:=zau e2
  refine PE.imp (zcE (zkm J) hg hm boot_isinstance (zaq (ha.h ρ _ e1) (zaq (zkx N.pa) zaV he2) he) (by decide) (by decide) he hpl) fun σ H Q h_=>?_
  obtain ⟨F,rl,q⟩:=h_
  refine ⟨F,rl,fun v F1 H1 g1 r1=>⟨?_,fun t ht=>?_⟩⟩
  ·rw [List.length_map,N.len,sizeLine_eq];omega
  obtain ⟨a,C,da,u,rfl,h1,h2,h3,h4⟩:=zkb g1.fh r1
  have g2:=Grow.fresh (o:=.tup (Cs.map V.ref)) g1.fh ht
  exact ⟨a,C,da,_,c,t,Cs,_,rfl,g2.hh _ _ h1,g2.hh _ _ h3,J.q c hc C h2,zag,N.kit (J.q c hc C h2),q _ F1 _ (g1.trans g2) (Res.bl _)⟩
 ·cases e2
theorem zkV {u:Value}{y:Str} {Q:Value→Shared→Prop}(M:XC X.K CE fE) (Fn:FnOk X.prog X.w X.K X.mg X.base CX0 k fE fd ["self",pn] (SpE X.K)) (hr:Room (k + 1) X.A) (hb:zbA X.K fd ["self",pn] [])
  (I:Inv X pins σ H s) (r:RelV (.str y) u) (h:∀ e s',H e=none→Inv X pins σ (upd H e (ExcN e CE)) s'→Q (.ref e) s'):wpAny (model X.prog X.w) X.A (call (.ref CE) [u]) Q X.xe s:=by
 obtain ⟨nm,q,N,bs,bm,sn,sb,ab,col,dd,k0,k1,k2,k3,k5,mN,hC,hN,hi,hno,T⟩:=M.cls s.heap I.kIn
 obtain ⟨oI,hfI,hfc⟩:=M.fn s.heap I.kIn
 obtain ⟨hp,g,dr,tk,os⟩:=s
 refine FX.call_cls T.tl hC hN hi hfI hfc (fun h' e hm hle=>?_) (by simp [sizeLine_eq])
 obtain ⟨t,he,_,_⟩:=hm.there
 have hf:H e=none:=I.hok.fresh hle
 have I2:Inv X pins σ (upd H e (ExcN e CE)) ⟨h',g,dr,tk,os⟩:=I.laid (t':=tk) hm.keeps hle (zgE he)
 have hsp:SpE X.K [.ref e,.str y] (upd H e (ExcN e CE)) (fun v2 H2=>v2=.non∧H2=upd H e (ExcN e CE)) E0:=⟨e,CE,y,fE,rfl,zag,M,rfl,rfl⟩
 have r2:Vals [V.ref e,.str y] [Value.ref e,u]:=.cons rfl (.cons r .nil)
 have hbn:=hb ⟨h',g,dr,tk,os⟩ [.ref e,u] I2.kIn rfl
 rw [List.append_nil] at hbn
 refine wpAny_call (codeAny_mono (Fn.run _ X.stack ⟨h',g,dr,tk,os⟩ _ ⟨[.ref e,u],[]⟩ [.ref e,u] [.ref e,.str y] _ E0 (hr.make CE [u] []) (I2.env0.make CE [u] []) hbn r2 hsp) fun r s' hq'=>?_)
 cases r with
 | error ex=>exact False.elim (by exact hq')
 | ok fl=>
  cases fl with
  | ret z=>
   obtain ⟨v',H2,I3,rv,ev,eh⟩:=I2.after hq'
   subst ev eh
   exact ⟨rv,h e s' hf I3⟩
  | next=>exact False.elim hq'
  | brk=>exact False.elim hq'
  | cont=>exact False.elim hq'
theorem zjL {x:Addr}{ox:Obj} {c:Value}{od:Option Obj} (e:PySem.W.kitOne K (.ref C) c=some true) (q:(Value.ref C == c)=false) (dep:Int) (tk:Tok):Meets (Builtin.«isinstance.nested» ⟨[.ref x,c,.int dep tk],[]⟩)
  (fun _ R s=>(K.In s.heap∧PySem.W.InstAt s.heap x ox C od)∧∀ tk,R (.ok (.ret (.bool true))) { s with toks:=tk }):=by
 intro prog w A R s hs
 obtain ⟨h0,g,d,tt,os⟩:=s
 obtain ⟨⟨X,p⟩,hq⟩:=hs
 have LT:PySem.W.Looks (model prog w) h0 (typeOf (.ref x)) (.ref C):=p.type
 unfold PySem.W.kitOne at e
 rw [if_neg (by rw [q];decide)] at e
 unfold Builtin.«isinstance.nested»
 refine wpAny_bind (LT.at ?_)
 rw [if_neg (by rw [q];decide)]
 obtain ⟨hty,his,hsub⟩:=PySem.W.kit_cls (M:=model prog w) X e
 have LI:PySem.W.Looks (model prog w) h0 (isInstance (.ref x) c) true:=LT.andThen hsub
 refine wpAny_bind (hty.at ?_)
 rw [if_pos (by decide)]
 k_delta "plainIsInstance"
 refine wpAny_bind (wpAny_bind (his.at ?_))
 simp only [Bool.not_true,Bool.false_eq_true,if_false]
 refine wpAny_bind (LI.at ?_)
 first
  | exact wpAny_pure (wpAny_pure (hq tt))
  | (simp only [if_true];first | exact wpAny_pure (wpAny_pure (hq tt)) | exact wpAny_pure (hq tt) | exact wpAny_bind (wpAny_pure (wpAny_pure (hq tt))))
structure Ek (P:Program) (w:World) (K:PySem.W.Frag) (mg:Str→Option Value) (base:Heap) (k:Nat):Prop where
 ex:∃ CE fE fd pn,XC K CE fE∧mg "EndError" = some (.ref CE)∧zbA K fd ["self",pn] []∧FnOk P w K mg base CX0 k fE fd ["self",pn] (SpE K)∧PySem.W.kitOne K (.ref CE) (.type "ValueError")=some true
theorem fisiE {j:Nat}{y:Str} {q1:Int}{p1 p2 p3 p4:Pos} {ce:Expr}(hce:PE X ce (tC (.str y))) (G:Ek X.prog X.w X.K X.mg X.base k) (hr:Room j X.A) (hg:Gl X "isinstance") (hm:X.mg "isinstance" = none) (hgy:Gl X "ValueError") (hmy:X.mg "ValueError" = none) (hle:k + 1≤j:=by first | decide | omega) (hge:Gl X "EndError" := by rfl)
  (hs1:starEach [ce] X.env=(false,eval ce X.env)::starEach [] X.env:=by rfl) (hp1:(backTo p4 (starEach [] X.env)).any (·.1)=false:=by rfl)
  (he:starEach [.Call (.Name "EndError" p3) [ce] [] p4,.Name "ValueError" p2] X.env=(false,eval (.Call (.Name "EndError" p3) [ce] [] p4) X.env)::starEach [.Name "ValueError" p2] X.env:=by rfl) (he2:starEach [.Name "ValueError" p2] X.env=[(false,eval (.Name "ValueError" p2) X.env)]:=by rfl)
  (hpl:(backTo pos (starEach [.Name "ValueError" p2] X.env)).any (·.1)=false:=by rfl) (hK:X.K=K:=by rfl) :
  FP K .fz X (.Call (.Name "isinstance" p) [.Call (.Name "EndError" p3) [ce] [] p4,.Name "ValueError" p2] [] pos) (cst (.bl true)):=FP.mk fun ρ d hf=>by
 subst hK
 cases hf
 obtain ⟨CE,fE,fd,pn,M,hmE,hb,Fn,kv⟩:=G.ex
 have hmk:PE X (.Call (.Name "EndError" p3) [ce] [] p4) (fun σ H Q=>∀ a,H a=none→Q (.ref a) (upd H a (ExcN a CE))):=by
  intro pins s σ H Q I h
  refine wpAny_Call_Name_kw (zdd I hge hmE ?_)
  refine PySem.W.callWith_K (h₀:=X.base) I.ok.mod.kin M.kp (thn ((zaq hce zaV hs1) p4 pins s σ H (fun vs H1=>vs=[.str y]∧H1=H) I (show zex (tC (.str y)) tNil σ H _ from ⟨rfl,rfl⟩)) fun us s1 ⟨vs,H1,I1,r,e1,e2⟩=>⟨I1.kIn,?_⟩) hs1 hp1
  subst e1 e2
  cases r with
  | cons ra rb=>
   cases rb
   exact zkV M Fn (hr.mono hle) hb I1 ra fun a s' ha I2=>⟨.ref a,_,I2,rfl,h a ha⟩
 have hcall:zcN X (.builtin "isinstance") (fun xs H Q=>∃ a,xs=[.ref a,.ty "ValueError"]∧H a=some (ExcN a CE)∧Q (.bl true) H):=by
  intro pins s σ H xs us Q I r h
  obtain ⟨a,rfl,ha,k⟩:=h
  obtain ⟨u,z,rfl,r1,r2⟩:=zhQ r
  cases r1
  cases (show z=Value.type "ValueError" from r2)
  obtain ⟨t,hx⟩:=zgF I ha
  refine call_isinstance (S:=fun _ R s=>(X.K.In s.heap∧PySem.W.InstAt s.heap a { cls:=.ref CE,data:=.fields #[.ref t,.none,.none,.none,.bool false,.none] } CE none)∧∀ tk,R (.ok (.ret (.bool true))) { s with toks:=tk })
   (fun prog w A R s hs=>isinstance_outer (zjL kv rfl 0 _ prog w A R s hs) (fun z=>nomatch z)) ⟨⟨I.kIn,hx,rfl,rfl,trivial⟩,fun tk=>⟨.bl true,H,I.tok _,rfl,k⟩⟩
 refine PE.imp (zcE hcall hg hm boot_isinstance (zaq hmk (zaq (zgs (v:=.ty "ValueError") hgy hmy (by decide +kernel) rfl) zaV he2) he) (by decide) (by decide) he hpl) fun σ H Q h_=>?_
 obtain ⟨F,rl,q⟩:=h_
 intro a ha
 exact ⟨a,rfl,zag,q _ F _ (Grow.fresh rl.sub ha) (Res.bl _)⟩
end
end FL
set_option Elab.async false
set_option linter.all false
set_option maxRecDepth 100000
namespace FL
open PySem PySem.Spec PyProof.Rows L2
structure Exs (P:Program) (w:World) (K:PySem.W.Frag) (mg:Str→Option Value) (base:Heap) (L:List Str):Prop where
 ve:mg "ValueError" = none
 J:XI K
 ux:∃ CE fE,UX K CE fE∧mg "EndError" = some (.ref CE)
 cl:∀ c∈L,c∈xcs∧∃ C,mg c=some (.ref C)∧PySem.W.nsIn K mainGlobals c=some (some (.ref C))
 xk:∀ c∈L,Xk P w K mg base c 2
 ek:Ek P w K mg base 1
noncomputable def runR (mb:En→Option Fl) (np nn:Nat) (ds:List D):Option Rs:=if ds.length=np then (match mb (zaz nn ds) with
 | some (.rt d _)=>some (.ok d)
 | some (.rs c d _)=>some (.ex c d)
 | _=>none) else none
theorem zgo {mb:Nat→En→Option Fl}{np nn:Nat} {md:Md}:∀ ds r,runR (mb FUEL) np nn ds=some r→ds.length=np∧∃ n,match r with
   | .ok d=>(∃ ρ',mb n (zaz nn ds)=some (.rt d ρ'))∨(d=.non∧md=.fz∧∃ ρ',mb n (zaz nn ds)=some (.nx ρ'))
   | .ex c d=>∃ ρ',mb n (zaz nn ds)=some (.rs c d ρ'):=fun ds r h=>by
 unfold runR at h
 split at h
 ·rename_i hl
  refine ⟨hl,FUEL,?_⟩
  split at h
  ·rename_i d ρ' e;cases h;exact .inl ⟨ρ',e⟩
  ·rename_i c d ρ' e;cases h;exact ⟨ρ',e⟩
  ·cases h
 ·cases h
inductive NN (X:Cx) (L:List Str):List Expr→List Str→Prop
 | nil:NN X L [] []
 | cons {y:Str}{p:Pos} {es:List Expr}{ys:List Str} (r:NN X L es ys) (hy:y∈L:=by decide) (hg:Gl X y:=by rfl) (hd:(y == ("__debug__" : Str))=false:=by decide)
   (hs:starEach (.Name y p::es) X.env=(false,eval (.Name y p) X.env)::starEach es X.env:=by rfl):NN X L (.Name y p::es) (y::ys)
section
variable {X:Cx}{K:PySem.W.Frag} {md:Md}{j:Nat} {c:Str}{L:List Str} {e:Expr}{f:En→Option D} {p pos rp p2:Pos}
theorem NN.nl {es:List Expr}{ys:List Str} (E:Exs X.prog X.w X.K X.mg X.base L) (h:NN X L es ys):∃ Cs,NL X es ys Cs:=by
 induction h with
 | nil=>exact ⟨[],.nil⟩
 | cons r hy hg hd hs ih=>
  obtain ⟨Cs,ih⟩:=ih
  obtain ⟨h1,C,h2,h3⟩:=E.cl _ hy
  exact ⟨C::Cs,.cons h2 h3 h1 ih hg hd hs⟩
theorem xmk (E:Exs X.prog X.w X.K X.mg X.base L) (hr:Room j X.A) (ha:FP K .fz X e f) (hc:c∈L:=by decide) (hle:3≤j:=by first | decide | omega) (hg:Gl X c:=by rfl) (hK:X.K=K:=by rfl)
  (hdb:(c == ("__debug__" : Str))=false:=by decide) (hst:starEach [e] X.env=(false,eval e X.env)::starEach [] X.env:=by rfl) (hpl:(backTo pos (starEach [] X.env)).any (·.1)=false:=by rfl) :
  FP K .fz X (.Call (.Name c p) [e] [] pos) (c1 (mkE c) f):=fexc (E.xk c hc) hr ha hle hg hK hdb hst hpl
theorem zlU (E:Exs X.prog X.w X.K X.mg X.base L) (hr:Room j X.A) (ha:FP K .fz X e f) (hc:c∈L:=by decide) (hle:3≤j:=by first | decide | omega) (hg:Gl X c:=by rfl) (hK:X.K=K:=by rfl)
  (hdb:(c == ("__debug__" : Str))=false:=by decide) (hst:starEach [e] X.env=(false,eval e X.env)::starEach [] X.env:=by rfl) (hpl:(backTo pos (starEach [] X.env)).any (·.1)=false:=by rfl) :
  FS K md X (.Raise (some (.Call (.Name c p) [e] [] pos)) none rp) (rsM c f):=zmc (E.xk c hc) hr ha hle hg hK hdb hst hpl
theorem xisC {y:Str}(E:Exs X.prog X.w X.K X.mg X.base L) (B:Glb X.mg) (ha:FP K .br X e f) (hy:y∈L:=by decide) (hg:Gl X "isinstance" := by rfl) (hgy:Gl X y:=by rfl)
  (hd:(y == ("__debug__" : Str))=false:=by decide) (he:starEach [e,.Name y p2] X.env=(false,eval e X.env)::starEach [.Name y p2] X.env:=by rfl) (he2:starEach [.Name y p2] X.env=[(false,eval (.Name y p2) X.env)]:=by rfl)
  (hpl:(backTo pos (starEach [.Name y p2] X.env)).any (·.1)=false:=by rfl) (hK:X.K=K:=by rfl) :
  FP K .fz X (.Call (.Name "isinstance" p) [e,.Name y p2] [] pos) (c1 (isiC y) f):=by
 obtain ⟨h1,C,h2,h3⟩:=E.cl y hy
 exact fisiC E.J h2 h3 h1 ha hg B.isi hgy hd he he2 hpl hK
theorem xisV (E:Exs X.prog X.w X.K X.mg X.base L) (B:Glb X.mg) (ha:FP K .br X e f) (hg:Gl X "isinstance" := by rfl) (hgy:Gl X "ValueError" := by rfl)
  (he:starEach [e,.Name "ValueError" p2] X.env=(false,eval e X.env)::starEach [.Name "ValueError" p2] X.env:=by rfl) (he2:starEach [.Name "ValueError" p2] X.env=[(false,eval (.Name "ValueError" p2) X.env)]:=by rfl)
  (hpl:(backTo pos (starEach [.Name "ValueError" p2] X.env)).any (·.1)=false:=by rfl) (hK:X.K=K:=by rfl) :
  FP K .fz X (.Call (.Name "isinstance" p) [e,.Name "ValueError" p2] [] pos) (c1 isiV f):=fisiV E.J ha hg B.isi hgy E.ve he he2 hpl hK
theorem xisT {es:List Expr}{ys:List Str} {x1:Nat}(E:Exs X.prog X.w X.K X.mg X.base L) (B:Glb X.mg) (N:NN X L es ys) (ha:FP K .br X e f) (hg:Gl X "isinstance" := by rfl) (hz:es.length≤100:=by decide)
  (he:starEach [e,.Tuple es x1 p2] X.env=(false,eval e X.env)::starEach [.Tuple es x1 p2] X.env:=by rfl) (he2:starEach [.Tuple es x1 p2] X.env=[(false,eval (.Tuple es x1 p2) X.env)]:=by rfl)
  (hpl:(backTo pos (starEach [.Tuple es x1 p2] X.env)).any (·.1)=false:=by rfl) (hK:X.K=K:=by rfl) :
  FP K .fz X (.Call (.Name "isinstance" p) [e,.Tuple es x1 p2] [] pos) (c1 (isiT ys) f):=by
 obtain ⟨Cs,N⟩:=N.nl E
 exact fisiT E.J N ha hg B.isi hz he he2 hpl hK
theorem xisE {y:Str}{p3 p4:Pos} {ce:Expr}(E:Exs X.prog X.w X.K X.mg X.base L) (B:Glb X.mg) (hr:Room j X.A) (hce:PE X ce (tC (.str y))) (hle:2≤j:=by first | decide | omega) (hg:Gl X "isinstance" := by rfl) (hgy:Gl X "ValueError" := by rfl) (hge:Gl X "EndError" := by rfl)
  (hs1:starEach [ce] X.env=(false,eval ce X.env)::starEach [] X.env:=by rfl) (hp1:(backTo p4 (starEach [] X.env)).any (·.1)=false:=by rfl)
  (he:starEach [.Call (.Name "EndError" p3) [ce] [] p4,.Name "ValueError" p2] X.env=(false,eval (.Call (.Name "EndError" p3) [ce] [] p4) X.env)::starEach [.Name "ValueError" p2] X.env:=by rfl) (he2:starEach [.Name "ValueError" p2] X.env=[(false,eval (.Name "ValueError" p2) X.env)]:=by rfl)
  (hpl:(backTo pos (starEach [.Name "ValueError" p2] X.env)).any (·.1)=false:=by rfl) (hK:X.K=K:=by rfl) :
  FP K .fz X (.Call (.Name "isinstance" p) [.Call (.Name "EndError" p3) [ce] [] p4,.Name "ValueError" p2] [] pos) (cst (.bl true)):=fisiE (p1:=p2) (q1:=0) hce E.ek hr hg B.isi hgy E.ve hle hge hs1 hp1 he he2 hpl hK
theorem xfld {fld:Str}(E:Exs X.prog X.w X.K X.mg X.base L) (ha:FP K .br X e f) (hb:attributeBase e fld X.env (eval e X.env)=eval e X.env:=by rfl) (hK:X.K=K:=by rfl):FP K .fz X (.Attribute e fld pos) (c1 (fldX fld) f):=ffld E.J ha hb hK
theorem xtry (i j:Nat) {body:List Stmt}{n y:Str} {bM:En→Option Fl}{p1 p2 p3 p4 p5 pos:Pos} (E:Exs X.prog X.w X.K X.mg X.base L) (hN:X.N.Nodup) (hb:∀ pn E',FSs K md (Cx.tx X pn E') body bM)
  (hg:Gl X "EndError" := by rfl) (hi:X.N[i]?=some y:=by rfl) (hj:X.N[j]?=some n:=by rfl) (hnl:X.env.kindOf n=some .local:=by rfl) (hy:Loc X.env.scope y:=by first | exact Or.inl rfl | exact Or.inr rfl) (hnL:Loc X.env.scope n:=by first | exact Or.inl rfl | exact Or.inr rfl)
  (hnV:Vis X.env.scope n:=by first | exact Or.inl rfl | exact Or.inr (Or.inl rfl) | exact Or.inr (Or.inr rfl)) (hnd:(n == ("__debug__" : Str))=false:=by decide) (hnc:(n == ("__classdict__" : Str))=false:=by decide)
  (hs:swapsWith (.Name n p3) (some (.Name y p2)) p4.line X.env=pure false:=by rfl) (hfy:X.fn y=true∨X.env.scope.names.lookup y=some .local:=by first | exact Or.inl rfl | exact Or.inr rfl) (hfn:X.fn n=true∨X.env.scope.names.lookup n=some .local:=by first | exact Or.inl rfl | exact Or.inr rfl)
  (hst:X.stack=X.env::X.outer:=by rfl) (hfm:X.env.frame=some X.env.locals:=by rfl) (hK:X.K=K:=by rfl) :
  FS K md X (.Try body [.ExceptHandler (some (.Name "EndError" p1)) (some n) [.Assign [.Name y p2] (.Name n p3) p4] p5] [] [] pos) (tryM i j bM):=by
 obtain ⟨CE,fE,U,hE⟩:=E.ux
 exact stry i j U hE hN hb hg hi hj hnl hy hnL hnV hnd hnc hs hfy hfn hst hfm hK
end
noncomputable def xtB (K:PySem.W.Frag):Bool:=xiB K && match PySem.W.nsIn K mainGlobals "EndError" with
 | some (some (.ref CE))=>uxB K CE && PySem.W.kitOne K (.ref CE) (.type "ValueError") == some true
 | _=>false
noncomputable abbrev FaZ:=FaY×Bool
noncomputable def fcV (p:Program) (I J:List Nat) (K:PySem.W.Frag):FaZ:=(fbV p I J K,xtB K)
noncomputable def fcX (p:Program) (I J:List Nat):FaZ:=(fbX p I J,true)
noncomputable def YP3 (p:Program) (I J:List Nat) (_:World) (h:Heap):Prop:=∃ K:PySem.W.Frag,K.In h∧fcV p I J K=fcX p I J
theorem YP3.keeps {p:Program}{I J:List Nat} (w:World) (h h':Heap) (y:YP3 p I J w h) (k:∀ b o,h.get? b=some o→h'.get? b=some o):YP3 p I J w h':=
 let ⟨K,X,A⟩:=y;⟨K,fun a o e=>k _ _ (X a o e),A⟩
theorem walkE3 {l:PySem.W.OpenLaw}{k:Nat} {q:Program}{loose:List Str} {XP:(Str→Option Value)→Heap→Prop}{d:DefRec} {x:Str}{m:List D→Option D} {p:Program}{I J:List Nat} (hn:l.most=some 63) (hdf:d.params.defaults=[]) (hr:Room k callerA)
  (F:∀ (K:PySem.W.Frag) (w:World) (mg:Str→Option Value) (fa:Addr) (h:Heap),fcV p I J K=fcX p I J→K.In h→h.Ns mainGlobals mg→mg d.name=some (.ref fa)→
   ∃ fd:FuncData,(∀ (s:Shared) (u:Value),BindsTo s fd ⟨[u],[]⟩ [(x,u)])∧∀ base:Heap,K.In base→base.Ns mainGlobals mg→FnOk l.prog w K mg base CX0 k fa fd [x] (SpD K .fz m))
  (H:∀ ns:List Int,ns.length≤63→m [.scr ns]=some (.bl true)):PySem.W.WalkO q loose XP (YP3 p I J) l.row.toRowW d [] (fun f vs=>PySem.call f vs):=by
 intro w s0 s1 mg mb G Y
 obtain ⟨K,hK,A⟩:=Y
 exact znt (K:=fun _=>K) (YP:=fun _ h'=>K.In h') hn hdf hr (fun _ _ z=>z) (fun w mg fa h=>F K w mg fa h A) H w s0 s1 mg mb ⟨G.T,G.B,G.D,G.TE,G.TD,G.W,G.X,G.cls,G.has,G.apart,G.once,G.K⟩ hK
theorem znf {p:Program}{I J:List Nat} {P:Program}{w:World} {K:PySem.W.Frag}{h base:Heap} {mg:Str→Option Value}{L:List Str} {CE fE:Addr}{fdE:FuncData} {pn:Str}(A:fcV p I J K=fcX p I J) (X:K.In h) (G:h.Ns mainGlobals mg)
  (hE:PySem.W.nsIn K mainGlobals "EndError" = some (some (.ref CE))) (M:XC K CE fE) (hb:zbA K fdE ["self",pn] []) (FE:FnOk P w K mg base CX0 1 fE fdE ["self",pn] (SpE K))
  (cl:∀ c∈L,c∈xcs∧∃ C,PySem.W.nsIn K mainGlobals c=some (some (.ref C))) (xk:∀ c∈L,Xk P w K mg base c 2):Exs P w K mg base L:=by
 have z:xtB K=true:=congrArg Prod.snd A
 have ve:PySem.W.nsIn K mainGlobals "ValueError" = some none:=congrArg (fun q=>q.1.2.2) A
 unfold xtB at z
 rw [hE] at z
 simp only [Bool.and_eq_true,beq_iff_eq] at z
 obtain ⟨z1,z2,z3⟩:=z
 exact ⟨PySem.W.mg_none_of X G ve,znq z1,⟨CE,fE,znv M z2,PySem.W.mg_of X G hE⟩,fun c hc=>let ⟨a,C,b⟩:=cl c hc;⟨a,C,PySem.W.mg_of X G b,b⟩,xk,⟨CE,fE,fdE,pn,M,PySem.W.mg_of X G hE,hb,FE,z3⟩⟩
end FL
set_option Elab.async false
set_option linter.all false
set_option maxRecDepth 100000
namespace FL
open PySem PySem.Spec PyProof.Rows L2
noncomputable abbrev zcr (n:Nat):En→Option Fl:=
 (seqM (setM 3 (c2 addD (gb 3) (c2 idxD (gb 1) (c2 modD (c2 divD (gb 2) (cst (.int 7))) (cst (.int 26)))))) (setM 2 (c2 divD (gb 2) (cst (.int 11)))))
noncomputable abbrev zcx (n:Nat):En→Option D:=
 (c2 idxD (gb 1) (c2 modD (c2 divD (gb 2) (c2 addD (cst (.int 3)) (c2 mulD (gb 0) (gb 0)))) (cst (.int 26))))
noncomputable abbrev zcw (n:Nat):En→Option D:=
 (cS zaA (gb 1) zbk (zaY (c2 addD (gb 0) (cst (.int 1)))))
noncomputable abbrev zcv (n:Nat):En→Option D:=
 (c2 addD (c2 addD (cS zaA (gb 1) zbk (zaY (gv 3))) (c2 idxD (gb 2) (c2 modD (c2 addD (c2 divD (gb 4) (cst (.int 5))) (c2 mulD (cst (.int 5)) (gb 0))) (cst (.int 26))))) (cS zaA (gb 1) (zaY (gv 3)) zbk))
noncomputable abbrev zbX (n:Nat):En→Option Fl:=
 (seqM (setM 1 (cst (.str "abcdefghijklmnopqrstuvwxyz"))) (seqM (setM 2 (c2 modD (c2 mulD (gb 0) (cst (.int 1000000007))) (c2 powD (cst (.int 10)) (cst (.int 18))))) (seqM (setM 3 (cst (.str ""))) (seqM (forS (cR1 (c2 modD (gb 2) (cst (.int 7)))) (gN 4) (zcr n)) (seqM (setM 5 (c2 modD (c2 divD (gb 2) (cst (.int 7))) (c2 addD (cL lenD (zab (gb 3) nilF)) (cst (.int 1))))) (seqM (ifM (upT (cT (c2 eqB (c2 modD (gb 2) (cst (.int 3))) (cst (.int 0))))) (seqM (setM 3 (c2 zjO (cst (.str "")) (zbz [none,some 1,some 2] (cR1 (cst (.int 6))) (gN 0) yesP (zcx n)))) (retM (zbz [none,some 3] (cR1 (cst (.int 5))) (gN 0) yesP (zcw n)))) nxM) (retM (zbz [none,some 3,some 1,some 5,some 2] (cR1 (cst (.int 5))) (gN 0) yesP (zcv n)))))))))
noncomputable def zat:List D→Option D:=runF (zbX  FUEL) 1 6
noncomputable abbrev zcy (zat:List D→Option D) (n:Nat):En→Option D:=
 (cL zbW (zab (c2 idxD (gb 1) (gb 0)) (zab (c2 idxD (gb 2) (gb 0)) nilF)))
noncomputable abbrev zbY (zat:List D→Option D) (n:Nat):En→Option Fl:=
 (seqM (setM 1 (cL zat (zab (gv 0) nilF))) (seqM (setM 2 (c2 idxD (cL zbc (zab (cL zbc (zab (cst (.int 0)) (zab (cst (.int 2)) (zab (cst (.int 1)) (zab (cst (.int 0)) (zab (cst (.int 3)) nilF)))))) (zab (cL zbc (zab (cst (.int 0)) (zab (cst (.int 1)) (zab (cst (.int 2)) (zab (cst (.int 2)) (zab (cst (.int 0)) nilF)))))) (zab (cL zbc (zab (cst (.int 0)) (zab (cst (.int 3)) (zab (cst (.int 1)) (zab (cst (.int 1)) (zab (cst (.int 0)) nilF)))))) (zab (cL zbc (zab (cst (.int 0)) (zab (cst (.int 2)) (zab (cst (.int 0)) (zab (cst (.int 1)) (zab (cst (.int 1)) nilF)))))) nilF))))) (c2 modD (c2 divD (gb 0) (cst (.int 3))) (cst (.int 4))))) (seqM (setM 3 (c2 addD (cst (.int 2)) (c2 modD (c2 divD (gb 0) (cst (.int 12))) (cst (.int 4))))) (retM (zbz [none,some 1,some 2] (cR1 (gv 3)) (gN 0) yesP (zcy zat n))))))
noncomputable def zam:List D→Option D:=runF (zbY zat FUEL) 1 4
noncomputable abbrev zcg (n:Nat):En→Option D:=
 (c2 idxD (gb 1) (c2 modD (c2 addD (c2 modD (gb 2) (cst (.int 26))) (c2 mulD (cst (.int 7)) (gb 0))) (cst (.int 26))))
noncomputable abbrev zbI (n:Nat):En→Option Fl:=
 (seqM (setM 1 (cst (.str "ABCDEFGHIJKLMNOPQRSTUVWXYZ"))) (retM (zbz [none,some 1,some 0] (cR1 (c2 addD (cst (.int 1)) (c2 modD (c2 divD (gb 0) (cst (.int 26))) (cst (.int 4))))) (gN 0) yesP (zcg n))))
noncomputable def zak:List D→Option D:=runF (zbI  FUEL) 1 2
noncomputable abbrev zcp (n:Nat):En→Option Fl:=
 (seqM (ifM (upT (cT (c2 ltD (gb 1) (cL lenD (zab (gb 0) nilF))))) (retM (c2 idxD (gb 0) (gb 1))) nxM) (retM (cst (.int 0))))
noncomputable def zao:List D→Option D:=runF (zcp  FUEL) 2 2
noncomputable abbrev zcA (n:Nat):En→Option D:=
 (c2 idxD (gb 0) (cst (.int 1)))
noncomputable abbrev zcz (n:Nat):En→Option D:=
 (c2 idxD (gb 0) (cst (.int 0)))
noncomputable abbrev zbZ (n:Nat):En→Option Fl:=
 (seqM (asgM (c2 idxD (gb 2) (c2 modD (gb 1) (cL lenD (zab (gb 2) nilF)))) (gTup (zbJ (gN 5) (zbJ (gN 6) gNil)))) (seqM (setM 1 (c2 divD (gb 1) (cst (.int 20)))) (seqM (setM 7 (cS zaA (gb 0) (zaY (c2 subD (cL lenD (zab (gb 0) nilF)) (gb 6))) zbk)) (seqM (setM 8 (c2 zeD (zbz [none] (cI (gv 7)) (gN 0) yesP (zcA n)) (cst (.int 0)))) (seqM (ifM (upT (andP (cT (c2 gtD (gb 6) (cst (.int 0)))) (andP (cT (c2 leD (gb 6) (cL lenD (zab (gb 0) nilF)))) (andP (cT (c2 ltD (gb 8) (gb 4))) (cT (c2 gtD (c2 modD (gb 1) (cst (.int 4))) (cst (.int 0)))))))) (retM (c2 catD (cS zaA (gb 0) zbk (zaY (c2 subD (cL lenD (zab (gb 0) nilF)) (gb 6)))) (cL zbc (zab (cL zbc (zab (c2 addD (cL zbW (zab (gv 5) nilF)) (cL zcO (zab (zbz [none] (cI (gv 7)) (gN 0) yesP (zcz n)) nilF))) (zab (c2 addD (gb 8) (cst (.int 1))) nilF))) nilF)))) nxM) (seqM (ifM (upT (orP (cT (c2 eqB (gb 3) (cL zbc nilF))) (cT (c2 eqB (c2 modD (c2 divD (gb 1) (cst (.int 4))) (cst (.int 3))) (cst (.int 0)))))) (retM (c2 catD (gb 0) (cL zbc (zab (cL zbc (zab (cL zbW (zab (c2 idxD (c2 idxD (gb 2) (cst (.int 0))) (cst (.int 0))) nilF)) (zab (cst (.int 1)) nilF))) nilF)))) nxM) (retM (c2 catD (gb 0) (cL zbc (zab (cL zbc (zab (c2 idxD (gb 3) (c2 modD (c2 divD (gb 1) (cst (.int 12))) (cL lenD (zab (gb 3) nilF)))) (zab (cst (.int 1)) nilF))) nilF))))))))))
noncomputable def zad:List D→Option D:=runF (zbZ  FUEL) 5 9
noncomputable abbrev zdG (m__law_count:List D→Option D) (n:Nat):En→Option D:=
 (cL m__law_count (zab (gv 0) nilF))
noncomputable abbrev zdv (m__law_count:List D→Option D) (n:Nat):En→Option Fl:=
 (seqM (ifM (upT (cT (c1 (isiD "str") (gb 0)))) (retM (cst (.int 1))) nxM) (retM (c2 addD (cst (.int 1)) (cL sumD (zab (zbz [none] (cI (cS zaA (gb 0) (zaY (cst (.int 1))) zbk)) (gN 0) yesP (zdG m__law_count n)) nilF)))))
noncomputable def zaZ:Nat→List D→Option D
 | 0=>fun _=>none
 | n + 1=>runF (zdv (zaZ n) FUEL) 1 1
noncomputable def zcq:List D→Option D:=zaZ 100
noncomputable abbrev zdb (n:Nat):En→Option Fl:=
 (retM (c1 (isiD "str") (gb 0)))
noncomputable def zaJ:List D→Option D:=runF (zdb  FUEL) 1 1
noncomputable abbrev zbG (zaJ:List D→Option D) (n:Nat):En→Option Fl:=
 (seqM (ifM (upT (cT (cL zaJ (zab (gv 0) nilF)))) (retM (cL zbW nilF)) nxM) (retM (cS zaA (gb 0) (zaY (cst (.int 1))) zbk)))
noncomputable def zae:List D→Option D:=runF (zbG zaJ FUEL) 1 1
end FL
set_option Elab.async false
set_option linter.all false
set_option maxRecDepth 100000
namespace FL
open PySem PySem.Spec PyProof.Rows L2
theorem zhc {g:D→En→Option En}{b:En→Option Fl} (I:Nat→En→Prop):∀ (xs:List D) (k:Nat) (ρ:En),I k ρ→
  (∀ (i:Nat) x ρ,xs[i]?=some x→I (k + i) ρ→∃ ρ1 ρ2,g x ρ=some ρ1∧(b ρ1=some (.nx ρ2)∨b ρ1=some (.ct ρ2))∧I (k + i + 1) ρ2)→∃ ρ',forM g b xs ρ=some (.nx ρ')∧I (k + xs.length) ρ'
 | [],k,ρ,h,_=>⟨ρ,rfl,h⟩
 | x::xs,k,ρ,h,hs=>by
  obtain ⟨ρ1,ρ2,e1,e2,h2⟩:=hs 0 x ρ rfl h
  obtain ⟨ρ',e3,h3⟩:=zhc I xs (k + 1) ρ2 h2 fun i y σ hy hi=>by
   have:=hs (i + 1) y σ (by simpa using hy) (by rw [show k + (i + 1)=k + 1 + i by omega];exact hi)
   rw [show k + (i + 1) + 1=k + 1 + i + 1 by omega] at this
   exact this
  refine ⟨ρ',?_,by rw [List.length_cons,show k + (xs.length + 1)=k + 1 + xs.length by omega];exact h3⟩
  simp only [forM,e1]
  rcases e2 with e2 | e2<;>(rw [e2];exact e3)
theorem zlF {g:D→En→Option En}{b:En→Option Fl} {xs:List D}{ρ:En} (I:Nat→En→Prop) (h0:I 0 ρ)
  (hs:∀ (i:Nat) x ρ,xs[i]?=some x→I i ρ→∃ ρ1 ρ2,g x ρ=some ρ1∧(b ρ1=some (.nx ρ2)∨b ρ1=some (.ct ρ2))∧I (i + 1) ρ2):∃ ρ',forM g b xs ρ=some (.nx ρ')∧I xs.length ρ':=by
 have:=zhc (g:=g) (b:=b) I xs 0 ρ h0 fun i x σ hx hi=>by
  rw [Nat.zero_add] at hi ⊢
  exact hs i x σ hx hi
 rw [Nat.zero_add] at this
 exact this
theorem zdo {g:D→En→Option En}{b:En→Option Fl} {xs:List D}{ρ:En} (I:Nat→En→Prop) (h0:I 0 ρ)
  (hs:∀ (i:Nat) x ρ,xs[i]?=some x→I i ρ→∃ ρ2,((g x ρ).bind b=some (.nx ρ2)∨(g x ρ).bind b=some (.ct ρ2))∧I (i + 1) ρ2):∃ ρ',forM g b xs ρ=some (.nx ρ')∧I xs.length ρ':=
 zlF I h0 fun i x ρ hx hi=>by
  obtain ⟨ρ2,e,h⟩:=hs i x ρ hx hi
  cases e1:g x ρ with
  | none=>rw [e1] at e;rcases e with e | e<;>cases e
  | some ρ1=>rw [e1] at e;exact ⟨ρ1,ρ2,rfl,e,h⟩
theorem zcK {g:D→En→Option En}{t:En→Option Bool} {f:En→Option D}{ρ:En}:∀ {xs ys:List D},xs.length=ys.length→(∀ (i:Nat) x y,xs[i]?=some x→ys[i]?=some y→∃ ρ1,g x ρ=some ρ1∧t ρ1=some true∧f ρ1=some y)→zch g t f ρ xs=some ys
 | [],[],_,_=>rfl
 | [],_::_,h,_=>by simp at h
 | _::_,[],h,_=>by simp at h
 | x::xs,y::ys,h,k=>by
  obtain ⟨ρ1,e1,e2,e3⟩:=k 0 x y rfl rfl
  have:=zcK (g:=g) (t:=t) (f:=f) (ρ:=ρ) (xs:=xs) (ys:=ys) (by simpa using h) fun i a b ha hb=>k (i + 1) a b (by simpa using ha) (by simpa using hb)
  simp [zch,e1,e2,e3,this]
theorem zbg {lo:Int}{n i:Nat} {d:D}(h:(zbi lo n)[i]?=some d):i < n∧d=.int (lo + (i:Int)):=by
 unfold zbi at h
 rw [List.getElem?_map] at h
 cases e:(List.range n)[i]? with
 | none=>rw [e] at h;cases h
 | some k=>
  rw [e] at h
  have h1:=List.getElem?_eq_some_iff.mp e
  have h2:=h1.2
  simp at h2
  subst h2
  exact ⟨by simpa using h1.1,(Option.some.inj h).symm⟩
theorem zaI (lo:Int) (n:Nat):(zbi lo n).length=n:=by simp [zbi]
theorem at0 {α:Type}(a:α) (l:List α):atI (a::l) 0=some a:=zbp (j:=0) rfl
theorem at1 {α:Type}(a b:α) (l:List α):atI (a::b::l) 1=some b:=zbp (j:=1) rfl
theorem at2 {α:Type}(a b c:α) (l:List α):atI (a::b::c::l) 2=some c:=zbp (j:=2) rfl
theorem at3 {α:Type}(a b c d:α) (l:List α):atI (a::b::c::d::l) 3=some d:=zbp (j:=3) rfl
local macro_rules | `(tactic| simp! [$xs,*] $[$loc]?)=>`(tactic| simp [$xs,*,runF,zaz,seqM,setM,setO,zei,asgM,asgX,zeG,zes,retM,retO,retN,ifM,upT,cT,cTr,truD,andP,orP,notP,andV,orV,notV,c1,c2,cL,cS,zab,nilF,cst,gv,gb,gN,gNil,zbJ,gTup,zbk,zaY,zbz,yesP,cI,cR1,cR2,cEnT,forS,itS,rng1,rng2,appM,extM,popM,zdY,zbW,zbc,nxM,isiD,tyN,isiB,lim,bors,st0E,negD,revX,revD,zcO,zgy,lenD,idxD,zaA,zdT,addD,catD,subD,mulD,divD,modD,powD,cmpI,geD,isB,zcT,isNon,absD,intD,runX,zdC,zgM,retX,putM,zgp,keyD,frzM,c3,zgD,zgK,zgJ,cSg,zgB,itS,Sl.inn,Sl.own,zeD,eqB,neB,inB,zeh,zcX,zcY,zbV,zbU,zbt,zbB,at0,at1,at2,at3] $[$loc]?)
local macro_rules | `(tactic| dsimp! [$xs,*] $[$loc]?)=>`(tactic| simp [$xs,*,runF,zaz,seqM,setM,setO,asgM,asgX,zeG,zes,retM,retO,retN,ifM,upT,cT,cTr,truD,andP,orP,notP,andV,orV,notV,c1,c2,cL,cS,zab,nilF,cst,gv,gb,gN,gNil,zbJ,gTup,zbk,zaY,zbz,yesP,cI,cR1,cR2,cEnT,forS,itS,rng1,rng2,appM,extM,popM,zdY,zbW,zbc,nxM,isiD,tyN,isiB,lim,bors,st0E,negD,revX,revD,zcO,zgy,lenD,idxD,zaA,zdT,addD,catD,subD,mulD,divD,modD,powD,cmpI,geD,isB,zcT,isNon,absD,intD,runX,zdC,zgM,retX,putM,zgp,keyD,frzM,c3,zgD,zgK,zgJ,cSg,zgB,itS,Sl.inn,Sl.own,zeD,inB,zeh,zcX,zcY,zbV,zbU,zbt,zbB,at0,at1,at2,at3] $[$loc]?)
inductive T where
 | bl (x:Str) | nd (s:Str) (ts:List T)
mutual
noncomputable def T.d:T→D
 | .bl x=>.str x
 | .nd s ts=>.tup (.str s::T.ds ts)
noncomputable def T.ds:List T→List D
 | []=>[]
 | t::r=>t.d::T.ds r
end
theorem znm:∀ ts:List T,T.ds ts=ts.map T.d
 | []=>by simp [T.ds]
 | t::r=>by rw [T.ds,znm r,List.map_cons]
theorem d_nd (s:Str) (ts:List T):(T.nd s ts).d=.tup (.str s::ts.map T.d):=by rw [T.d,znm]
theorem d_bl (x:Str):(T.bl x).d=.str x:=by rw [T.d]
mutual
noncomputable def T.size:T→Nat
 | .bl _=>1
 | .nd _ ts=>1 + T.sizes ts
noncomputable def T.sizes:List T→Nat
 | []=>0
 | t::r=>t.size + T.sizes r
end
mutual
noncomputable def T.depth:T→Nat
 | .bl _=>1
 | .nd _ ts=>1 + T.depths ts
noncomputable def T.depths:List T→Nat
 | []=>0
 | t::r=>max t.depth (T.depths r)
end
noncomputable def T.isBl:T→Bool
 | .bl _=>true
 | .nd _ _=>false
noncomputable def T.kids:T→List T
 | .bl _=>[]
 | .nd _ ts=>ts
theorem zfB (t:T):t.size=1 + T.sizes t.kids:=by cases t<;>simp [T.size,T.kids,T.sizes]
theorem zgP (t:T):0 < t.size:=by rw [zfB];omega
theorem zba:∀ a b:List T,T.sizes (a++b)=T.sizes a + T.sizes b
 | [],b=>by simp [T.sizes]
 | t::a,b=>by simp only [List.cons_append,T.sizes,zba a b];omega
theorem zbu:∀ a:List T,a.length≤T.sizes a
 | []=>by simp
 | t::a=>by have:=zgP t;have:=zbu a;simp only [List.length_cons,T.sizes];omega
theorem zcu:∀ {ts:List T}{t:T},t∈ts→t.depth≤T.depths ts
 | _::_,_,h=>by
  rcases List.mem_cons.mp h with rfl | h
  ·rw [T.depths];exact Nat.le_max_left _ _
  ·rw [T.depths];exact Nat.le_trans (zcu h) (Nat.le_max_right _ _)
theorem zbQ:∀ {ts:List T}{t:T},t∈ts→t.size≤T.sizes ts
 | _::_,_,h=>by
  rcases List.mem_cons.mp h with rfl | h
  ·rw [T.sizes];omega
  ·rw [T.sizes];have:=zbQ h;omega
theorem zfX (t:T):0 < t.depth:=by cases t<;>simp [T.depth]<;>omega
mutual
theorem zlL:∀ t:T,dep t.d≤t.depth + 1
 | .bl x=>by simp [T.d,dep]
 | .nd s ts=>by
  have:=ziY ts
  simp only [T.d,dep,depL,T.depth]
  omega
theorem ziY:∀ ts:List T,depL (T.ds ts)≤T.depths ts + 1
 | []=>by simp [T.ds,depL]
 | t::r=>by
  have h1:=zlL t
  have h2:=ziY r
  simp only [T.ds,depL,T.depths]
  omega
end
noncomputable def zan:T→List Int→Option T
 | t,[]=>some t
 | .bl _,_::_=>none
 | .nd _ ts,k::r=>if 0≤k then (match ts[k.toNat]? with | some t=>zan t r | none=>none) else none
theorem zbs:∀ (p q:List Int) (t u:T),zan t p=some u→zan t (p++q)=zan u q
 | [],q,t,u,h=>by simp [zan] at h;subst h;rfl
 | k::p,q,.bl _,u,h=>by simp [zan] at h
 | k::p,q,.nd s ts,u,h=>by
  simp only [List.cons_append,zan] at h ⊢
  split at h
  ·rename_i h0
   rw [if_pos h0]
   cases e:ts[k.toNat]? with
   | none=>rw [e] at h;cases h
   | some t'=>rw [e] at h;simp only at h ⊢;exact zbs p q t' u h
  ·cases h
theorem zeO (t:T):zaJ [t.d]=some (.bl t.isBl):=by
 cases t<;>simp! [zaJ,T.d,T.isBl]
theorem cut1 {α:Type}(a:α) (l:List α):cutG (a::l) (some 1) none=l:=by
 simp [cutG,HT.sIx]
theorem zdp (t:T):zae [t.d]=some (.tup (t.kids.map T.d)):=by
 cases t with
 | bl x=>simp! [zae,zeO,T.isBl,T.kids]
 | nd s ts=>
  simp! [zae,zeO,T.isBl,T.kids]
  simp [d_nd,cut1]
noncomputable def cellOf (ns:List Int) (k:Int):Int:=ns.getD k.toNat 0
theorem zgf {α:Type}{l:List α} {k:Int}(h0:0≤k) (h1:k < (l.length:Int)):atI l k=l[k.toNat]?:=by
 unfold atI ixN
 rw [if_pos h0,if_pos h1];rfl
theorem zkF (ns:List Int) (k:Int) (h0:0≤k):zao [.scr ns,.int k]=some (.int (cellOf ns k)):=by
 by_cases h:k < (ns.length:Int)
 ·have e:ns[k.toNat]?=some (cellOf ns k):=by
   unfold cellOf
   rw [List.getD_eq_getElem?_getD,List.getElem?_eq_getElem (by omega)];rfl
  simp! [zao,h,zgf h0 h,e]
 ·have e:cellOf ns k=0:=by
   unfold cellOf
   rw [List.getD_eq_getElem?_getD,List.getElem?_eq_none (by omega)];rfl
  simp! [zao,h,e]
theorem zhb {z:Str}(h:z.cps.toList.length=26) (n:Int):∃ c,atI z.cps.toList (n % 26)=some c:=by
 have h0:0≤n % 26:=Int.emod_nonneg _ (by decide)
 have h1:n % 26 < 26:=Int.emod_lt_of_pos _ (by decide)
 refine ⟨z.cps.toList[(n % 26).toNat]'(by omega),?_⟩
 rw [zgf h0 (by rw [h];exact_mod_cast h1),List.getElem?_eq_getElem (by omega)]
theorem len1 (c:Nat):(⟨#[c]⟩:Str).length=1:=rfl
theorem zeM (a b:Str):(a++b).length=a.length + b.length:=by simp [Str.length,PySem.Str.cps_append]
theorem alen:(Str.ofString "abcdefghijklmnopqrstuvwxyz").cps.toList.length=26:=by decide +kernel
theorem zlS:(Str.ofString "abcdefghijklmnopqrstuvwxyz").length=26:=by decide +kernel
theorem ALEN:(Str.ofString "ABCDEFGHIJKLMNOPQRSTUVWXYZ").cps.toList.length=26:=by decide +kernel
theorem ALEN':(Str.ofString "ABCDEFGHIJKLMNOPQRSTUVWXYZ").length=26:=by decide +kernel
theorem elen:(Str.ofString "").length=0:=by decide +kernel
noncomputable def nle (m:Nat) (ys:List Str):Prop:=∀ y∈ys,y.length≤m
theorem zdS (z:Str) (lo hi:Option Int):(Txt.slice z lo hi).length≤z.length:=Txt.slice_le z lo hi
theorem zjN (ys:List Str):(Txt.join (Str.ofString "") ys).length=(ys.map (·.length)).sum:=by
 show (PySem.Builtin.Str.glued _ ys).length=_
 rw [PySem.size_glued,elen];omega
noncomputable def sd (p:Str×Int):D:=.tup [.str p.1,.int p.2]
theorem zbf {α β:Type}(f:α→β) (l:List α) (i:Int):atI (l.map f) i=(atI l i).map f:=by
 unfold atI
 rw [List.length_map]
 cases ixN l.length i<;>simp
theorem zcL {α:Type}(h:α→D) (P:Nat→α→Prop) {g:D→En→Option En}{f:En→Option D} {ρ:En}:∀ {xs:List D}(k:Nat),(∀ (i:Nat) x,xs[i]?=some x→∃ ρ1 y,g x ρ=some ρ1∧f ρ1=some (h y)∧P (k + i) y)→∃ ys:List α,zch g yesP f ρ xs=some (ys.map h)∧ys.length=xs.length∧∀ (i:Nat) y,ys[i]?=some y→P (k + i) y
 | [],_,_=>⟨[],rfl,rfl,fun _ _ h=>by simp at h⟩
 | x::xs,k,q=>by
  obtain ⟨ρ1,y,e1,e2,e3⟩:=q 0 x rfl
  obtain ⟨ys,h1,h2,h3⟩:=zcL h P (g:=g) (f:=f) (ρ:=ρ) (xs:=xs) (k + 1) fun i z hz=>by
   have:=q (i + 1) z (by simpa using hz)
   rw [show k + 1 + i=k + (i + 1) by omega];exact this
  refine ⟨y::ys,by simp [zch,e1,e2,h1,yesP],by simp [h2],fun i z hz=>?_⟩
  cases i with
  | zero=>simp at hz;subst hz;exact e3
  | succ i=>
   have:=h3 i z (by simpa using hz)
   rw [show k + (i + 1)=k + 1 + i by omega];exact this
structure zev (ps:List (Str×Int)):Prop where
 lo:2≤ps.length
 hi:ps.length≤5
 cnt:∀ p∈ps,0≤p.2∧p.2≤3
 fst:∀ p,ps[0]?=some p→p.2=0
 wd:∀ p∈ps,p.1.length≤16
noncomputable def ent (t:T):D:=.lst [t.d,.int t.depth]
inductive zgh (ps:List (Str×Int)) (bs:List Str) (most:Int) (ts:List T):List T→Prop
 | sign (w:Str) (m:Int) (h:ps[0]?=some (w,m)):zgh ps bs most ts (ts++[.nd w []])
 | blank (b:Str) (h:b∈bs):zgh ps bs most ts (ts++[.bl b])
 | take (k:Nat) (s:Str) (m:Int) (h:(s,m)∈ps) (hk:k < ts.length) (hm:m=((ts.length - k:Nat):Int)) (hd:((T.nd s (ts.drop k)).depth:Int)≤most):zgh ps bs most ts (ts.take k++[.nd s (ts.drop k)])
theorem zfq {α:Type}(us:List α) (i:Int):cutG us (some i) none=us.drop (HT.sIx us.length 0 (some i)):=by
 unfold cutG
 show List.take (us.length - _) _=_
 exact List.take_of_length_le (by rw [List.length_drop];exact Nat.le_refl _)
theorem zkG {α:Type}(us:List α) (k:Nat) (hk:k≤us.length):cutG us none (some (k:Int))=us.take k:=by
 unfold cutG
 rw [HT.sIx_nat,HT.sIx_none,List.drop_zero,Nat.sub_zero,Nat.min_eq_left hk]
theorem zeP:∀ (ts:List T) (a:Int),0≤a→(ts.map fun t=>(t.depth:Int)).foldl max a=max a (T.depths ts)
 | [],a,h=>by simp [T.depths];omega
 | t::ts,a,h=>by
  rw [List.map_cons,List.foldl_cons,zeP ts _ (by omega),T.depths]
  omega
noncomputable def ziy (ts:List T):List Int:=ts.map fun t=>(t.depth:Int)
theorem zav (ts:List T):maxD (ziy ts) 0=(T.depths ts:Int):=by
 unfold ziy
 cases ts with
 | nil=>rfl
 | cons t ts=>
  show (ts.map fun t=>(t.depth:Int)).foldl max (t.depth:Int)=_
  rw [zeP ts _ (by omega),T.depths];omega
theorem ziT (ts:List T) (n:Nat):zch (gN 0) yesP (zcA n) [none] (ts.map ent)=some ((ziy ts).map D.int):=by
 unfold ziy
 refine zcK (by simp) fun i x y hx hy=>?_
 rw [List.getElem?_map] at hx
 rw [List.map_map,List.getElem?_map] at hy
 cases e:ts[i]? with
 | none=>rw [e] at hx;cases hx
 | some t=>
  rw [e] at hx hy
  cases hx;cases hy
  exact ⟨_,rfl,rfl,by simp! [ent,atI,ixN]⟩
theorem ziS (ts:List T) (n:Nat):zch (gN 0) yesP (zcz n) [none] (ts.map ent)=some (ts.map T.d):=by
 refine zcK (by simp) fun i x y hx hy=>?_
 rw [List.getElem?_map] at hx hy
 cases e:ts[i]? with
 | none=>rw [e] at hx;cases hx
 | some t=>
  rw [e] at hx hy
  cases hx;cases hy
  exact ⟨_,rfl,rfl,by simp! [ent,atI,ixN]⟩
set_option maxHeartbeats 1000000 in
theorem zki (ts:List T) (n most:Int) (ps:List (Str×Int)) (bs:List Str) (S:zev ps) (hb2:bs.length≤1000) (ht:ts.length≤1000) :
  ∃ ts',zad [.lst (ts.map ent),.int n,.lst (ps.map sd),.lst (bs.map D.str),.int most]=some (.lst (ts'.map ent))∧zgh ps bs most ts ts':=by
 have lo:=S.lo
 have hi:=S.hi
 have h0:0≤n % (ps.length:Int):=Int.emod_nonneg _ (by omega)
 have h1:n % (ps.length:Int) < (ps.length:Int):=Int.emod_lt_of_pos _ (by omega)
 have hpl:(0:Int) < (ps.length:Int):=by omega
 obtain ⟨⟨wd,mn⟩,ej,mj⟩:∃ q,atI ps (n % (ps.length:Int))=some q∧q∈ps:=
  ⟨ps[(n % (ps.length:Int)).toNat]'(by omega),by rw [zgf h0 h1,List.getElem?_eq_getElem (by omega)],List.getElem_mem _⟩
 have hmod:zff (ps.length:Int):=hpl
 obtain ⟨hm0,hm3⟩:=S.cnt _ mj
 have hm0:0≤mn:=hm0
 generalize hk0:HT.sIx ts.length 0 (some ((ts.length:Int) - mn))=k0
 have cutL:cutG (ts.map ent) (some ((ts.length:Int) - mn)) none=(ts.drop k0).map ent:=by
  rw [zfq,List.length_map,hk0,List.map_drop]
 have ll:(ts.drop k0).length=ts.length - k0:=List.length_drop
 generalize hls:ts.drop k0=ls at cutL ll
 have en:=ziT ls FUEL
 have et:=ziS ls FUEL
 have dl:ls.length≤1000000:=by omega
 have io:=zdx (ziy ls)
 by_cases cc:0 < mn∧mn≤(ts.length:Int)∧(T.depths ls:Int) < most∧0 < n / 20 % 4
 ·obtain ⟨a1,a2,a3,a4⟩:=cc
  have ek:k0=ts.length - mn.toNat:=by
   rw [← hk0]
   have e4:(ts.length:Int) - mn=((ts.length - mn.toNat:Nat):Int):=by omega
   rw [e4,HT.sIx_nat];omega
  have e5:(ts.length:Int) - mn=(k0:Int):=by omega
  have cutR:cutG (ts.map ent) none (some ((ts.length:Int) - mn))=(ts.take k0).map ent:=by
   rw [e5,zkG _ _ (by rw [List.length_map];omega),List.map_take]
  have rl:(ts.take k0).length≤ts.length:=by rw [List.length_take];omega
  refine ⟨ts.take k0++[.nd wd (ts.drop k0)],?_,.take k0 wd mn mj (by omega) (by omega) (by rw [T.depth,hls];omega)⟩
  rw [hls]
  generalize ts.take k0=rs at cutR rl ⊢
  have z1:rs.length + 1≤1000000:=by omega
  have z2:1 + ls.length≤1000000:=by omega
  have z3:ls.length + 1≤1000000:=by omega
  have de:((T.depth (T.nd wd ls):Nat):Int)=(T.depths ls:Int) + 1:=by rw [T.depth];omega
  simp! [zad,zbf,ej,sd,hmod,cutL,cutR,en,et,io,zav,a1,a2,a3,a4,dl,z1,z2,z3]
  simp [ent,d_nd,de]
 ·have w0:∃ w m,ps[0]?=some (w,m)∧atI ps 0=some (w,m):=by
   refine ⟨(ps[0]'(by omega)).1,(ps[0]'(by omega)).2,List.getElem?_eq_getElem (by omega),?_⟩
   exact zbp (j:=0) (List.getElem?_eq_getElem (by omega))
  obtain ⟨w0,m0,g0,g1⟩:=w0
  have z1:ts.length + 1≤1000000:=by omega
  have hnc:¬ 0 < mn∨(0 < mn∧¬ mn≤(ts.length:Int))∨(0 < mn∧mn≤(ts.length:Int)∧¬ (T.depths ls:Int) < most)∨(0 < mn∧mn≤(ts.length:Int)∧(T.depths ls:Int) < most∧¬ 0 < n / 20 % 4):=by omega
  by_cases hbn:bs=[]
  ·subst hbn
   refine ⟨ts++[.nd w0 []],?_,.sign w0 m0 g0⟩
   have fin:ent (.nd w0 [])=.lst [.tup [.str w0],.int 1]:=by simp [ent,d_nd,T.depth,T.depths]
   rcases hnc with x1 | ⟨x1,x2⟩ | ⟨x1,x2,x3⟩ | ⟨x1,x2,x3,x4⟩
   ·simp! [zad,zbf,ej,sd,hmod,cutL,en,io,zav,dl,z1,depL,eqL,g1,fin,eqD,dep,x1]
   ·simp! [zad,zbf,ej,sd,hmod,cutL,en,io,zav,dl,z1,depL,eqL,g1,fin,eqD,dep,x1,x2]
   ·simp! [zad,zbf,ej,sd,hmod,cutL,en,io,zav,dl,z1,depL,eqL,g1,fin,eqD,dep,x1,x2,x3]
   ·simp! [zad,zbf,ej,sd,hmod,cutL,en,io,zav,dl,z1,depL,eqL,g1,fin,eqD,dep,x1,x2,x3,x4]
  have hb:1≤bs.length:=by cases bs with | nil=>exact absurd rfl hbn | cons x l=>simp
  have hbm:zff (bs.length:Int):=by show (0:Int) < (bs.length:Int);omega
  obtain ⟨b,eb,mb⟩:∃ b,atI bs (n / 20 / 12 % (bs.length:Int))=some b∧b∈bs:=by
   have q0:0≤n / 20 / 12 % (bs.length:Int):=Int.emod_nonneg _ (by omega)
   have q1:n / 20 / 12 % (bs.length:Int) < (bs.length:Int):=Int.emod_lt_of_pos _ (by omega)
   exact ⟨bs[(n / 20 / 12 % (bs.length:Int)).toNat]'(by omega),by rw [zgf q0 q1,List.getElem?_eq_getElem (by omega)],List.getElem_mem _⟩
  have dq:depL (bs.map D.str)≤99:=by
   have:∀ l:List Str,depL (l.map D.str)≤1:=by
    intro l
    induction l with
    | nil=>simp [depL]
    | cons x l ih=>simp only [List.map_cons,depL,dep];omega
   have:=this bs
   omega
  have eq0:eqL (bs.map D.str) []=some false:=by
   cases bs with
   | nil=>simp at hb
   | cons x l=>simp [eqL]
  by_cases h3:n / 20 / 4 % 3=0
  ·refine ⟨ts++[.nd w0 []],?_,.sign w0 m0 g0⟩
   have fin:ent (.nd w0 [])=.lst [.tup [.str w0],.int 1]:=by simp [ent,d_nd,T.depth,T.depths]
   rcases hnc with x1 | ⟨x1,x2⟩ | ⟨x1,x2,x3⟩ | ⟨x1,x2,x3,x4⟩
   ·simp! [zad,zbf,ej,sd,hmod,cutL,en,io,zav,dl,z1,dq,eq0,h3,g1,fin,eqD,dep,x1]
   ·simp! [zad,zbf,ej,sd,hmod,cutL,en,io,zav,dl,z1,dq,eq0,h3,g1,fin,eqD,dep,x1,x2]
   ·simp! [zad,zbf,ej,sd,hmod,cutL,en,io,zav,dl,z1,dq,eq0,h3,g1,fin,eqD,dep,x1,x2,x3]
   ·simp! [zad,zbf,ej,sd,hmod,cutL,en,io,zav,dl,z1,dq,eq0,h3,g1,fin,eqD,dep,x1,x2,x3,x4]
  ·refine ⟨ts++[.bl b],?_,.blank b mb⟩
   have fin:ent (.bl b)=.lst [.str b,.int 1]:=by simp [ent,d_bl,T.depth]
   rcases hnc with x1 | ⟨x1,x2⟩ | ⟨x1,x2,x3⟩ | ⟨x1,x2,x3,x4⟩
   ·simp! [zad,zbf,ej,sd,hmod,cutL,en,io,zav,dl,z1,dq,eq0,h3,hbm,eb,fin,eqD,dep,x1]
   ·simp! [zad,zbf,ej,sd,hmod,cutL,en,io,zav,dl,z1,dq,eq0,h3,hbm,eb,fin,eqD,dep,x1,x2]
   ·simp! [zad,zbf,ej,sd,hmod,cutL,en,io,zav,dl,z1,dq,eq0,h3,hbm,eb,fin,eqD,dep,x1,x2,x3]
   ·simp! [zad,zbf,ej,sd,hmod,cutL,en,io,zav,dl,z1,dq,eq0,h3,hbm,eb,fin,eqD,dep,x1,x2,x3,x4]
noncomputable def szs (ts:List T):List Int:=ts.map fun t=>(t.size:Int)
theorem zgi:∀ ts:List T,(szs ts).sum=(T.sizes ts:Int)
 | []=>rfl
 | t::r=>by
  have:=zgi r
  unfold szs at this ⊢
  rw [List.map_cons,List.sum_cons,this,T.sizes];omega
theorem zmb (ts:List T) (h:T.sizes ts≤1000000):zmM (szs ts):=by
 refine ⟨fun n hn=>?_,?_⟩
 ·unfold szs at hn
  obtain ⟨t,_,rfl⟩:=List.mem_map.mp hn
  omega
 ·rw [zgi]
  show (T.sizes ts:Int) < 4611686018427387904
  omega
theorem ziW:∀ (n:Nat) (t:T),t.depth≤n→t.size≤1000000→zaZ n [t.d]=some (.int t.size)
 | 0,t,h,_=>by have:=zfX t;omega
 | n + 1,.bl x,h,_=>by simp! [zaZ,d_bl,T.size]
 | n + 1,.nd s ts,h,hz=>by
  rw [T.depth] at h
  rw [T.size] at hz
  have kl:=zbu ts
  have hl:ts.length≤1000000:=by omega
  have w1:zch (gN 0) yesP (zdG (zaZ n) FUEL) [none] (ts.map T.d)=some ((szs ts).map D.int):=by
   refine zcK (by simp [szs]) fun i x y hx hy=>?_
   unfold szs at hy
   rw [List.getElem?_map] at hx
   rw [List.map_map,List.getElem?_map] at hy
   cases e:ts[i]? with
   | none=>rw [e] at hx;cases hx
   | some t=>
    rw [e] at hx hy
    cases hx;cases hy
    have hm:=List.mem_of_getElem? e
    have d1:=zcu hm
    have d2:=zbQ hm
    exact ⟨_,rfl,rfl,by simp! [ziW n t (by omega) (by omega)]⟩
  have io:=zdx (szs ts)
  have ok:=zmb ts (by omega)
  simp! [zaZ,d_nd,cut1,w1,hl,io,ok,sumD,zgi,T.size]
theorem zgC {ps:List (Str×Int)}{bs:List Str} {most:Int}{ts ts':List T} (h:zgh ps bs most ts ts'):T.sizes ts'≤T.sizes ts + 1:=by
 cases h with
 | sign w m h=>rw [zba];simp [T.sizes,T.size]
 | blank b h=>rw [zba];simp [T.sizes,T.size]
 | take k s m h hk hm hd=>
  have e:T.sizes ts=T.sizes (ts.take k) + T.sizes (ts.drop k):=by rw [← zba,List.take_append_drop]
  rw [zba]
  simp only [T.sizes,T.size]
  omega
theorem zhF {ps:List (Str×Int)}{bs:List Str} {most:Int}{ts ts':List T} (h:zgh ps bs most ts ts') (hm:1≤most):∃ r t,ts'=r++[t]∧(t.depth:Int)≤most:=by
 cases h with
 | sign w m h=>exact ⟨_,_,rfl,by simp [T.depth,T.depths];omega⟩
 | blank b h=>exact ⟨_,_,rfl,by simp [T.depth];omega⟩
 | take k s m h hk hm hd=>exact ⟨_,_,rfl,hd⟩
noncomputable abbrev zcR (zad m__law_count:List D→Option D) (n:Nat):En→Option Fl:=
 (setM 4 (cL zad (zab (gv 4) (zab (gv 5) (zab (gv 1) (zab (gv 2) (zab (gv 3) nilF)))))))
noncomputable abbrev zcQ (zad m__law_count:List D→Option D) (n:Nat):En→Option Fl:=
 (ifM (upT (cT (c2 geD (cL m__law_count (zab (c2 idxD (gb 7) (cst (.int 0))) nilF)) (cL m__law_count (zab (gv 6) nilF))))) (setM 6 (c2 idxD (gb 7) (cst (.int 0)))) nxM)
noncomputable abbrev zcn (zad m__law_count:List D→Option D) (n:Nat):En→Option Fl:=
 (seqM (setM 4 (cL zbc nilF)) (seqM (forS (cI (gv 0)) (gN 5) (zcR zad m__law_count n)) (seqM (setM 6 (c2 idxD (c2 idxD (gb 4) (cst (.int 0))) (cst (.int 0)))) (seqM (forS (cI (cS zaA (gb 4) (zaY (cst (.int 1))) zbk)) (gN 7) (zcQ zad m__law_count n)) (retM (gv 6))))))
noncomputable def zap:List D→Option D:=runF (zcn zad zcq FUEL) 4 8
noncomputable abbrev zcf (zac:List D→Option D) (n:Nat):En→Option D:=
 (c2 addD (cL zbW (zab (gv 1) nilF)) (gb 0))
noncomputable abbrev zce (zac:List D→Option D) (n:Nat):En→Option Fl:=
 (setM 1 (c2 addD (gb 1) (zbz [none,some 2] (cI (cL zac (zab (c2 idxD (gb 0) (c2 addD (cst (.int 1)) (gb 2))) nilF))) (gN 0) yesP (zcf zac n))))
noncomputable abbrev zbH (zac:List D→Option D) (n:Nat):En→Option Fl:=
 (seqM (setM 1 (cL zbc (zab (cL zbW nilF) nilF))) (seqM (ifM (upT (cT (c1 (isiD "tuple") (gb 0)))) (forS (cR1 (c2 subD (cL lenD (zab (gb 0) nilF)) (cst (.int 1)))) (gN 2) (zce zac n)) nxM) (retM (gv 1))))
noncomputable def zaw:Nat→List D→Option D
 | 0=>fun _=>none
 | n + 1=>runF (zbH (zaw n) FUEL) 1 3
noncomputable def zac:List D→Option D:=zaw 100
noncomputable abbrev zem (zae:List D→Option D) (n:Nat):En→Option Fl:=
 (seqM (setM 4 (cL zae (zab (c2 idxD (gb 2) (c1 negD (cst (.int 1)))) nilF))) (seqM (ifM (upT (orP (cT (c2 ltD (gb 3) (cst (.int 0)))) (cT (c2 geD (gb 3) (cL lenD (zab (gb 4) nilF)))))) (fun _=>none) nxM) (zes (appM 2 (c2 idxD (gb 4) (gb 3))))))
noncomputable abbrev ziC (zae:List D→Option D) (n:Nat):En→Option Fl:=
 (seqM (setO 2 (cL zbc (zab (gv 0) nilF))) (seqM (forS (cI (gv 1)) (gN 3) (zem zae n)) (retO 2)))
noncomputable def zas:List D→Option D:=runF (ziC zae FUEL) 2 5
noncomputable abbrev zen (zas:List D→Option D) (n:Nat):En→Option Fl:=
 (setM 4 (c2 addD (c2 addD (cS zaA (gb 5) zbk (zaY (c2 addD (gb 6) (cst (.int 1))))) (cL zbW (zab (gv 4) nilF))) (cS zaA (gb 5) (zaY (c2 addD (gb 6) (cst (.int 2)))) zbk)))
noncomputable abbrev zek (zas:List D→Option D) (n:Nat):En→Option Fl:=
 (seqM (setM 3 (cS zaA (cL zas (zab (gv 0) (zab (gv 1) nilF))) zbk (zaY (c1 negD (cst (.int 1)))))) (seqM (setM 4 (gv 2)) (seqM (forS (cRv (c2 zipD (gv 3) (gv 1))) (gTup (zbJ (gN 5) (zbJ (gN 6) gNil))) (zen zas n)) (retM (gv 4)))))
noncomputable def zaX:List D→Option D:=runF (zek zas FUEL) 3 7
noncomputable abbrev zcS (n:Nat):En→Option Fl:=
 (setM 0 (c2 idxD (gb 0) (c2 addD (cst (.int 1)) (gb 2))))
noncomputable abbrev zco (n:Nat):En→Option Fl:=
 (seqM (forS (cI (gv 1)) (gN 2) (zcS n)) (retM (gv 0)))
noncomputable def zai:List D→Option D:=runF (zco  FUEL) 2 3
theorem zfV {ps:List (Str×Int)}{bs:List Str} {most:Int}{ts ts':List T} (h:zgh ps bs most ts ts') (hm:1≤most) (hd:∀ t∈ts,(t.depth:Int)≤most):∀ t∈ts',(t.depth:Int)≤most:=by
 cases h with
 | sign w m h=>
  intro t ht
  rcases List.mem_append.mp ht with ht | ht
  ·exact hd t ht
  ·rw [List.mem_singleton.mp ht];simp [T.depth,T.depths];omega
 | blank b h=>
  intro t ht
  rcases List.mem_append.mp ht with ht | ht
  ·exact hd t ht
  ·rw [List.mem_singleton.mp ht];simp [T.depth];omega
 | take k s m h hk hm hd'=>
  intro t ht
  rcases List.mem_append.mp ht with ht | ht
  ·exact hd t (List.mem_of_mem_take ht)
  ·rw [List.mem_singleton.mp ht];exact hd'
inductive WT (ps:List (Str×Int)) (bs:List Str):T→Prop
 | bl {x:Str}(h:x∈bs):WT ps bs (.bl x)
 | nd {s:Str}{ts:List T} (h:(s,(ts.length:Int))∈ps) (hs:∀ t∈ts,WT ps bs t):WT ps bs (.nd s ts)
theorem zjT {ps:List (Str×Int)}{bs:List Str} {most:Int}{ts ts':List T} (S:zev ps) (h:zgh ps bs most ts ts') (hd:∀ t∈ts,WT ps bs t):∀ t∈ts',WT ps bs t:=by
 cases h with
 | sign w m h=>
  intro t ht
  rcases List.mem_append.mp ht with ht | ht
  ·exact hd t ht
  ·rw [List.mem_singleton.mp ht]
   have:=S.fst _ h
   simp only at this
   subst this
   exact .nd (by simpa using List.mem_of_getElem? h) (by simp)
 | blank b h=>
  intro t ht
  rcases List.mem_append.mp ht with ht | ht
  ·exact hd t ht
  ·rw [List.mem_singleton.mp ht];exact .bl h
 | take k s m h hk hm hd'=>
  intro t ht
  rcases List.mem_append.mp ht with ht | ht
  ·exact hd t (List.mem_of_mem_take ht)
  ·rw [List.mem_singleton.mp ht]
   refine .nd (by rw [List.length_drop,← hm];exact h) fun t ht=>hd t (List.mem_of_mem_drop ht)
theorem zlI (ns:List Int) (ps:List (Str×Int)) (bs:List Str) (most:Int) (S:zev ps) (hb2:bs.length≤1000) (hm:1≤most) (hm2:most≤90) (h0:1≤ns.length) (h1:ns.length≤900) :
  ∃ t:T,zap [.lst (ns.map D.int),.lst (ps.map sd),.lst (bs.map D.str),.int most]=some t.d∧(t.depth:Int)≤most∧t.size≤ns.length∧WT ps bs t:=by
 obtain ⟨ρ',f1,ts,k,rfl,hs,hd,hW,hne⟩:=zdo (g:=gN 5) (b:=zcR zad zcq FUEL) (xs:=ns.map D.int) (ρ:=[some (.dat (.lst (ns.map D.int))),some (.dat (.lst (ps.map sd))),some (.dat (.lst (bs.map D.str))),some (.dat (.int most)),some (.dat (.lst [])),none,none,none])
  (fun i ρ=>∃ (ts:List T) (k:Option Sl),ρ=[some (.dat (.lst (ns.map D.int))),some (.dat (.lst (ps.map sd))),some (.dat (.lst (bs.map D.str))),some (.dat (.int most)),some (.dat (.lst (ts.map ent))),k,none,none]∧T.sizes ts≤i∧(∀ t∈ts,(t.depth:Int)≤most)∧(∀ t∈ts,WT ps bs t)∧(0 < i→ts≠[])) ⟨[],none,rfl,by simp [T.sizes],by simp,by simp,by simp⟩ (by
   rintro i x ρ hx ⟨ts,k,rfl,hs,hd,hW,_⟩
   have hi:i < ns.length:=by have:=(List.getElem?_eq_some_iff.mp hx).1;simpa using this
   obtain ⟨c,_,rfl⟩:=List.mem_map.mp (List.mem_of_getElem? hx)
   have tl:=zbu ts
   obtain ⟨ts',g1,g2⟩:=zki ts c most ps bs S hb2 (by omega)
   have g3:=zgC g2
   refine ⟨[some (.dat (.lst (ns.map D.int))),some (.dat (.lst (ps.map sd))),some (.dat (.lst (bs.map D.str))),some (.dat (.int most)),some (.dat (.lst (ts'.map ent))),some (.dat (.int c)),none,none],.inl ?_,ts',_,rfl,by omega,zfV g2 hm hd,zjT S g2 hW,fun _ z=>?_⟩
   ·simp! [g1]
   ·obtain ⟨r,t,e,_⟩:=zhF g2 hm
    rw [e] at z;simp at z)
 rw [List.length_map] at hs hne
 cases ts with
 | nil=>exact absurd rfl (hne (by omega))
 | cons t0 tr=>
  have cnt:∀ t:T,t∈t0::tr→zcq [t.d]=some (.int t.size):=fun t ht=>ziW 100 t (by have:=hd t ht;omega) (by have:=zbQ ht;omega)
  have sz:∀ t:T,t∈t0::tr→t.size≤ns.length:=fun t ht=>by have:=zbQ ht;omega
  obtain ⟨ρ',f2,t,k2,rfl,ht⟩:=zdo (g:=gN 7) (b:=zcQ zad zcq FUEL) (xs:=tr.map ent) (ρ:=[some (.dat (.lst (ns.map D.int))),some (.dat (.lst (ps.map sd))),some (.dat (.lst (bs.map D.str))),some (.dat (.int most)),some (.dat (.lst ((t0::tr).map ent))),k,some (.dat t0.d),none])
   (fun i ρ=>∃ (t:T) (k2:Option Sl),ρ=[some (.dat (.lst (ns.map D.int))),some (.dat (.lst (ps.map sd))),some (.dat (.lst (bs.map D.str))),some (.dat (.int most)),some (.dat (.lst ((t0::tr).map ent))),k,some (.dat t.d),k2]∧t∈t0::tr) ⟨t0,none,rfl,by simp⟩ (by
    rintro i x ρ hx ⟨t,k2,rfl,ht⟩
    obtain ⟨u,hu,rfl⟩:=List.mem_map.mp (List.mem_of_getElem? hx)
    have hu':u∈t0::tr:=List.mem_cons_of_mem _ hu
    have c1':=cnt t ht
    have c2':=cnt u hu'
    by_cases hc:(t.size:Int)≤u.size
    ·refine ⟨[some (.dat (.lst (ns.map D.int))),some (.dat (.lst (ps.map sd))),some (.dat (.lst (bs.map D.str))),some (.dat (.int most)),some (.dat (.lst ((t0::tr).map ent))),k,some (.dat u.d),some (.dat (ent u))],.inl ?_,u,_,rfl,hu'⟩
     have hc':t.size≤u.size:=by omega
     simp! [ent,c1',c2',hc']
    ·refine ⟨[some (.dat (.lst (ns.map D.int))),some (.dat (.lst (ps.map sd))),some (.dat (.lst (bs.map D.str))),some (.dat (.int most)),some (.dat (.lst ((t0::tr).map ent))),k,some (.dat t.d),some (.dat (ent u))],.inl ?_,t,_,rfl,ht⟩
     have hc':¬ t.size≤u.size:=by omega
     simp! [ent,c1',c2',hc'])
  refine ⟨t,?_,hd t ht,sz t ht,hW t ht⟩
  have en:ent t0=.lst [t0.d,.int t0.depth]:=rfl
  simp only [List.map_cons] at f1 f2 ⊢
  simp! [zap,f1,cut1,en,f2]
  rw [en] at f2
  simp [f2]
theorem zlH (ns:List Int) (ps:List (Str×Int)) (bs:List Str) (most:Int) (S:zev ps) (hb:1≤bs.length) (hb2:bs.length≤1000) (hm:1≤most) (hm2:most≤90) (h0:1≤ns.length) (h1:ns.length≤900) :
  ∃ t:T,zap [.lst (ns.map D.int),.lst (ps.map sd),.lst (bs.map D.str),.int most]=some t.d∧(t.depth:Int)≤most∧t.size≤ns.length∧WT ps bs t:=zlI ns ps bs most S hb2 hm hm2 h0 h1
mutual
noncomputable def plc:T→List (List Int)
 | .bl _=>[[]]
 | .nd _ ts=>[]::plcL 0 ts
noncomputable def plcL (k:Nat):List T→List (List Int)
 | []=>[]
 | t::r=>(plc t).map ((k:Int)::·)++plcL (k + 1) r
end
theorem zdZ:∀ (k:Nat) (a b:List T),plcL k (a++b)=plcL k a++plcL (k + a.length) b
 | k,[],b=>by simp [plcL]
 | k,t::a,b=>by
  rw [List.cons_append,plcL,plcL,zdZ (k + 1) a b,List.append_assoc,List.length_cons,show k + 1 + a.length=k + (a.length + 1) by omega]
mutual
theorem zeZ:∀ t:T,(plc t).length=t.size
 | .bl x=>by simp [plc,T.size]
 | .nd s ts=>by simp [plc,T.size,zfa 0 ts];omega
theorem zfa:∀ (k:Nat) (ts:List T),(plcL k ts).length=T.sizes ts
 | _,[]=>by simp [plcL,T.sizes]
 | k,t::r=>by simp [plcL,T.sizes,zeZ t,zfa (k + 1) r]
end
mutual
theorem zkw:∀ (t:T) (p:List Int),p∈plc t→∃ u,zan t p=some u
 | .bl x,p,h=>by
  simp only [plc,List.mem_singleton] at h
  subst h;exact ⟨_,rfl⟩
 | .nd s ts,p,h=>by
  simp only [plc,List.mem_cons] at h
  rcases h with rfl | h
  ·exact ⟨_,rfl⟩
  ·obtain ⟨i,q,t,u,rfl,e,hu⟩:=zig 0 ts p h
   refine ⟨u,?_⟩
   have:(0:Int)≤((0 + i:Nat):Int):=by omega
   simp only [zan,if_pos this]
   rw [Int.toNat_natCast,Nat.zero_add,e]
   exact hu
theorem zig:∀ (k:Nat) (ts:List T) (p:List Int),p∈plcL k ts→∃ (i:Nat) (q:List Int) (t u:T),p=((k + i:Nat):Int)::q∧ts[i]?=some t∧zan t q=some u
 | _,[],p,h=>by simp [plcL] at h
 | k,t::r,p,h=>by
  simp only [plcL,List.mem_append] at h
  rcases h with h | h
  ·obtain ⟨q,hq,rfl⟩:=List.mem_map.mp h
   obtain ⟨u,hu⟩:=zkw t q hq
   exact ⟨0,q,t,u,by simp,rfl,hu⟩
  ·obtain ⟨i,q,t',u,rfl,e,hu⟩:=zig (k + 1) r p h
   exact ⟨i + 1,q,t',u,by rw [show k + 1 + i=k + (i + 1) by omega],by simpa using e,hu⟩
end
noncomputable def pD (p:List Int):D:=.tup (p.map D.int)
mutual
theorem zgW:∀ (t:T) (p:List Int),p∈plc t→p.length≤t.depth
 | .bl x,p,h=>by
  simp only [plc,List.mem_singleton] at h
  subst h;simp
 | .nd s ts,p,h=>by
  simp only [plc,List.mem_cons] at h
  rcases h with rfl | h
  ·simp
  ·rw [T.depth];exact zfH 0 ts p h
theorem zfH:∀ (k:Nat) (ts:List T) (p:List Int),p∈plcL k ts→p.length≤1 + T.depths ts
 | _,[],p,h=>by simp [plcL] at h
 | k,t::r,p,h=>by
  simp only [plcL,List.mem_append] at h
  rw [T.depths]
  rcases h with h | h
  ·obtain ⟨q,hq,rfl⟩:=List.mem_map.mp h
   have:=zgW t q hq
   rw [List.length_cons];omega
  ·have:=zfH (k + 1) r p h
   omega
end
theorem zhf:∀ (n:Nat) (t:T),t.depth≤n→t.depth≤100→t.size≤1000→zaw n [t.d]=some (.lst ((plc t).map pD))
 | 0,t,h,_,_=>by have:=zfX t;omega
 | n + 1,.bl x,h,_,_=>by simp! [zaw,d_bl,plc,pD]
 | n + 1,.nd s ts,h,hd,hz=>by
  rw [T.depth] at h hd
  rw [T.size] at hz
  have kl:=zbu ts
  obtain ⟨ρ',f1,k,rfl⟩:=zdo (g:=gN 2) (b:=zce (zaw n) FUEL) (xs:=zbi 0 ts.length) (ρ:=[some (.dat (.tup (.str s::ts.map T.d))),some (.dat (.lst [.tup []])),none])
   (fun i ρ=>∃ (k:Option Sl),ρ=[some (.dat (.tup (.str s::ts.map T.d))),some (.dat (.lst (([]::plcL 0 (ts.take i)).map pD))),k]) ⟨none,by simp [plcL,pD]⟩ (by
    rintro i x ρ hx ⟨k,rfl⟩
    obtain ⟨hi,rfl⟩:=zbg hx
    have hm:ts[i]∈ts:=List.getElem_mem hi
    have d1:=zcu hm
    have d2:=zbQ hm
    have e1:=zhf n ts[i] (by omega) (by omega) (by omega)
    have e2:atI (D.str s::ts.map T.d) (1 + (i:Int))=some ts[i].d:=by
     rw [show (1:Int) + (i:Int)=((i + 1:Nat):Int) by omega]
     exact zbp (by simp [hi])
    have pl1:((plc ts[i]).map pD).length≤1000000:=by rw [List.length_map,zeZ];omega
    have w1:zch (gN 0) yesP (zcf (zaw n) FUEL) [none,some (.dat (.int (i:Int)))] ((plc ts[i]).map pD)=some (((plc ts[i]).map ((i:Int)::·)).map pD):=by
     refine zcK (by simp) fun j x y hx hy=>?_
     rw [List.getElem?_map] at hx
     rw [List.map_map,List.getElem?_map] at hy
     cases e:(plc ts[i])[j]? with
     | none=>rw [e] at hx;cases hx
     | some q=>
      rw [e] at hx hy
      cases hx;cases hy
      have ql:=zgW ts[i] q (List.mem_of_getElem? e)
      have z1:1 + q.length≤1000000:=by omega
      exact ⟨_,rfl,rfl,by simp! [pD,z1]⟩
    generalize hL:(plc ts[i]).map pD=L at e1 w1 pl1
    have tk:ts.take (i + 1)=ts.take i++[ts[i]]:=by rw [List.take_succ_eq_append_getElem hi]
    have e5:plcL 0 (ts.take (i + 1))=plcL 0 (ts.take i)++(plc ts[i]).map ((i:Int)::·):=by
     rw [tk,zdZ]
     simp only [plcL,List.append_nil,List.length_take]
     rw [show 0 + min i ts.length=i by omega]
    have e6:T.sizes (ts.take i)≤T.sizes ts:=by
     have:T.sizes ts=T.sizes (ts.take i) + T.sizes (ts.drop i):=by rw [← zba,List.take_append_drop]
     omega
    have e7:=zfa 0 (ts.take i)
    have e8:=zeZ ts[i]
    have z2:(plcL 0 (ts.take i)).length + 1 + (plc ts[i]).length≤1000000:=by omega
    refine ⟨[some (.dat (.tup (.str s::ts.map T.d))),some (.dat (.lst (([]::plcL 0 (ts.take (i + 1))).map pD))),some (.dat (.int (0 + (i:Int))))],.inl ?_,_,rfl⟩
    rw [e5]
    generalize plcL 0 (ts.take i)=A at z2
    have z3:A.length + 1 + (plc ts[i]).length≤1000000:=z2
    have z4:(A.length:Nat) + 1 + ((plc ts[i]).map ((i:Int)::·)).length≤1000000:=by simpa using z2
    generalize hB:(plc ts[i]).map ((i:Int)::·)=B at w1 z4 ⊢
    simp! [e2,e1,w1,pl1,z4])
  rw [zaI,List.take_length] at f1
  have hr2:ziu (ts.length:Int):=zbB (by omega) (by omega)
  simp! [zaw,d_nd,f1,plc,hr2]
theorem zaB {t u:T}{k:Int} {p:List Int}(h:zan t (k::p)=some u):∃ s ts c,t=.nd s ts∧0≤k∧ts[k.toNat]?=some c∧zan c p=some u:=by
 cases t with
 | bl x=>simp [zan] at h
 | nd s ts=>
  simp only [zan] at h
  split at h
  ·rename_i h0
   cases e:ts[k.toNat]? with
   | none=>rw [e] at h;cases h
   | some c=>rw [e] at h;exact ⟨s,ts,c,rfl,h0,e,h⟩
  ·cases h
theorem zec {s:Str}{ts:List T} {c:T}{k:Int} {p:List Int}(h0:0≤k) (e:ts[k.toNat]?=some c):zan (.nd s ts) (k::p)=zan c p:=by
 simp only [zan,if_pos h0,e]
noncomputable def wayT:T→List Int→List T
 | t,[]=>[t]
 | .bl x,_::_=>[.bl x]
 | .nd s ts,k::p=>.nd s ts::(match ts[k.toNat]? with | some c=>wayT c p | none=>[])
theorem zeU {s:Str}{ts:List T} {c:T}{k:Int} {p:List Int}(e:ts[k.toNat]?=some c):wayT (.nd s ts) (k::p)=.nd s ts::wayT c p:=by
 simp only [wayT,e]
theorem zcC:∀ (p:List Int) (t u:T),zan t p=some u→(wayT t p).length=p.length + 1
 | [],t,u,h=>by cases t<;>simp [wayT]
 | k::p,t,u,h=>by
  obtain ⟨s,ts,c,rfl,h0,e,h2⟩:=zaB h
  rw [zeU e,List.length_cons,zcC p c u h2,List.length_cons]
theorem zcD:∀ (p:List Int) (t u:T),zan t p=some u→∀ i,i≤p.length→(wayT t p)[i]?=zan t (p.take i)
 | [],t,u,h,i,hi=>by
  have:i=0:=by simpa using hi
  subst this
  cases t<;>simp [wayT,zan]
 | k::p,t,u,h,0,hi=>by
  obtain ⟨s,ts,c,rfl,h0,e,h2⟩:=zaB h
  rw [zeU e];simp [zan]
 | k::p,t,u,h,i + 1,hi=>by
  obtain ⟨s,ts,c,rfl,h0,e,h2⟩:=zaB h
  rw [zeU e,List.take_succ_cons,zec h0 e]
  simpa using zcD p c u h2 i (by simpa using hi)
theorem ziV (t u:T) (p:List Int) (h:zan t p=some u):zai [t.d,pD p]=some u.d:=by
 obtain ⟨ρ',e1,c,k,rfl,hc⟩:=zdo (g:=gN 2) (b:=zcS FUEL) (xs:=p.map D.int) (ρ:=[some (.dat t.d),some (.dat (.tup (p.map D.int))),none])
  (fun i ρ=>∃ (c:T) (k:Option Sl),ρ=[some (.dat c.d),some (.dat (.tup (p.map D.int))),k]∧zan c (p.drop i)=some u) ⟨t,none,rfl,h⟩ (by
   rintro i x ρ hx ⟨c,k,rfl,hc⟩
   rw [List.getElem?_map] at hx
   cases e:p[i]? with
   | none=>rw [e] at hx;cases hx
   | some a=>
    rw [e] at hx
    cases hx
    have hi:i < p.length:=(List.getElem?_eq_some_iff.mp e).1
    have ea:p[i]=a:=by rw [List.getElem?_eq_getElem hi] at e;exact Option.some.inj e
    rw [List.drop_eq_getElem_cons hi,ea] at hc
    obtain ⟨s,ts,c',rfl,h0,e2,hc2⟩:=zaB hc
    have g3:atI (D.str s::ts.map T.d) (1 + a)=some c'.d:=by
     have e3:(1:Int) + a=((a.toNat + 1:Nat):Int):=by omega
     rw [e3]
     exact zbp (by simp [e2])
    refine ⟨[some (.dat c'.d),some (.dat (.tup (p.map D.int))),some (.dat (.int a))],.inl ?_,c',_,rfl,hc2⟩
    simp! [d_nd,g3])
 rw [List.length_map,List.drop_length] at hc
 have hc:some c=some u:=by cases c<;>simpa [zan] using hc
 cases hc
 simp! [zai,pD,e1]
theorem znj (t u:T) (p:List Int) (h:zan t p=some u) (hp:p.length≤1000):zas [t.d,pD p]=some (.lst ((wayT t p).map T.d)):=by
 obtain ⟨ρ',e1,k,j,rfl,_,_⟩:=zdo (g:=gN 3) (b:=zem zae FUEL) (xs:=p.map D.int) (ρ:=[some (.dat t.d),some (.dat (.tup (p.map D.int))),some (.own (.lst [t.d])),none,none])
  (fun i ρ=>∃ (k j:Option Sl),ρ=[some (.dat t.d),some (.dat (.tup (p.map D.int))),some (.own (.lst (((wayT t p).take (i + 1)).map T.d))),k,j]∧(k=none∨∃ d,k=some (.dat d))∧(j=none∨∃ d,j=some (.dat d))) ⟨none,none,by cases p<;>cases t<;>simp [wayT],.inl rfl,.inl rfl⟩ (by
   rintro i x ρ hx ⟨k,j,rfl,hk,hj⟩
   rw [List.getElem?_map] at hx
   cases e:p[i]? with
   | none=>rw [e] at hx;cases hx
   | some a=>
    rw [e] at hx
    cases hx
    have hi:i < p.length:=(List.getElem?_eq_some_iff.mp e).1
    have ea:p[i]=a:=by rw [List.getElem?_eq_getElem hi] at e;exact Option.some.inj e
    have hl:=zcC p t u h
    have w1:=zcD p t u h i (by omega)
    have w2:=zcD p t u h (i + 1) (by omega)
    have i1:i < (wayT t p).length:=by omega
    have i2:i + 1 < (wayT t p).length:=by omega
    rw [List.getElem?_eq_getElem i1] at w1
    rw [List.getElem?_eq_getElem i2] at w2
    have sp:p=p.take i++(a::p.drop (i + 1)):=by rw [← ea,← List.drop_eq_getElem_cons hi,List.take_append_drop]
    have h2:=h
    rw [sp,zbs _ _ _ _ w1.symm] at h2
    obtain ⟨s,ts,c',ew,h0,e2,hc2⟩:=zaB h2
    have tk:p.take (i + 1)=p.take i++[a]:=by rw [List.take_succ_eq_append_getElem hi,ea]
    have w3:(wayT t p)[i + 1]=c':=by
     rw [tk,zbs _ _ _ _ w1.symm,ew,zec h0 e2] at w2
     have:zan c' []=some c':=by cases c'<;>rfl
     rw [this] at w2
     exact Option.some.inj w2
    have t1:(wayT t p).take (i + 1)=(wayT t p).take i++[T.nd s ts]:=by rw [List.take_succ_eq_append_getElem i1,ew]
    have t2:(wayT t p).take (i + 1 + 1)=((wayT t p).take i++[T.nd s ts])++[c']:=by rw [List.take_succ_eq_append_getElem i2,w3,t1]
    refine ⟨[some (.dat t.d),some (.dat (.tup (p.map D.int))),some (.own (.lst (((wayT t p).take (i + 1 + 1)).map T.d))),some (.dat (.int a)),some (.dat (.tup (ts.map T.d)))],.inl ?_,_,_,rfl,.inr ⟨_,rfl⟩,.inr ⟨_,rfl⟩⟩
    rw [t1,t2]
    have tl:((wayT t p).take i).length≤1000:=by rw [List.length_take];omega
    generalize (wayT t p).take i=A at tl ⊢
    have al:atI (A.map T.d++[(T.nd s ts).d]) (-1)=some (T.nd s ts).d:=zdN _ _
    have ei:=zdp (T.nd s ts)
    have hal:a.toNat < ts.length:=(List.getElem?_eq_some_iff.mp e2).1
    have g1:¬ a < 0:=by omega
    have g2:¬ (ts.length:Int)≤a:=by omega
    have g3:atI (ts.map T.d) a=some c'.d:=by
     have e3:a=((a.toNat:Nat):Int):=by omega
     rw [e3]
     exact zbp (by simp [e2])
    have z1:A.length + 1 < 1000000:=by omega
    have hkids:(T.nd s ts).kids=ts:=rfl
    rw [hkids] at ei
    rcases hk with rfl | ⟨dk,rfl⟩<;>rcases hj with rfl | ⟨dj,rfl⟩<;>simp! [al,ei,g1,g2,g3,z1])
 rw [List.length_map,List.take_of_length_le (by rw [zcC p t u h];exact Nat.le_refl _)] at e1
 simp! [zas,pD,e1]
noncomputable def putT:T→List Int→T→T
 | _,[],n=>n
 | .bl x,_::_,_=>.bl x
 | .nd s ts,k::p,n=>match ts[k.toNat]? with
  | some c=>.nd s (ts.set k.toNat (putT c p n))
  | none=>.nd s ts
theorem zjw (t n:T):putT t [] n=n:=by cases t<;>rfl
theorem zla {s:Str}{ts:List T} {c n:T}{k:Int} {p:List Int}(e:ts[k.toNat]?=some c):putT (.nd s ts) (k::p) n=.nd s (ts.set k.toNat (putT c p n)):=by
 simp only [putT,e]
mutual
theorem zcV:∀ (p:List Int) (t u:T),zan t p=some u→u.size≤t.size
 | [],t,u,h=>by
  have:some t=some u:=by cases t<;>simpa [zan] using h
  rw [Option.some.inj this];exact Nat.le_refl _
 | k::p,t,u,h=>by
  obtain ⟨s,ts,c,rfl,h0,e,h2⟩:=zaB h
  have:=zcV p c u h2
  have:=zbQ (List.mem_of_getElem? e)
  rw [T.size];omega
end
theorem zeb:∀ (p:List Int) (t u:T),zan t p=some u→p.length≤t.depth
 | [],t,u,h=>by simp
 | k::p,t,u,h=>by
  obtain ⟨s,ts,c,rfl,h0,e,h2⟩:=zaB h
  have h1:=zeb p c u h2
  have h3:=zcu (List.mem_of_getElem? e)
  rw [T.depth,List.length_cons];omega
theorem zhZ {α:Type}(l:List α) (i:Nat) (x:α) (h:i < l.length):l.take i++x::l.drop (i + 1)=l.set i x:=by
 rw [List.set_eq_take_append_cons_drop,if_pos h]
theorem zno {α:Type}(l:List α) (i:Int) (h0:0≤i) (h:i.toNat≤l.length):cutG l none (some i)=l.take i.toNat:=by
 have:i=((i.toNat:Nat):Int):=by omega
 rw [this,zkG l _ (by omega),Int.toNat_natCast]
theorem zkH {α:Type}(l:List α) (i:Int) (h0:0≤i) (h:i.toNat≤l.length):cutG l (some i) none=l.drop i.toNat:=by
 have e:i=((i.toNat:Nat):Int):=by omega
 rw [zfq,e,HT.sIx_nat,Int.toNat_natCast,Nat.min_eq_left h]
theorem mid_d {s:Str}{ts:List T} {k:Nat}(hk:k < ts.length) (x:T):(D.str s::ts.map T.d).take (k + 1)++x.d::(D.str s::ts.map T.d).drop (k + 2)=D.str s::(ts.set k x).map T.d:=by
 rw [List.take_succ_cons,List.cons_append,List.drop_succ_cons,zhZ _ k _ (by simpa using hk),List.map_set]
theorem zea {t u:T}{p:List Int} (h:zan t p=some u) (i:Nat):∃ c,zan t (p.take i)=some c:=by
 by_cases hi:i≤p.length
 ·have w:=zcD p t u h i hi
  rw [← w,List.getElem?_eq_getElem (by rw [zcC p t u h];omega)]
  exact ⟨_,rfl⟩
 ·rw [List.take_of_length_le (by omega)];exact ⟨u,h⟩
theorem zkg (t u n:T) (p:List Int) (h:zan t p=some u) (hp:p.length≤1000) (hz:t.size≤1000):zaX [t.d,pD p,n.d]=some (putT t p n).d:=by
 have e1:=znj t u p h hp
 have hl:=zcC p t u h
 have cutW:cutG ((wayT t p).map T.d) none (some (-1))=((wayT t p).take p.length).map T.d:=by
  have:HT.sIx ((wayT t p).map T.d).length ((wayT t p).map T.d).length (some (-1))=p.length:=by
   rw [List.length_map,hl]
   simp [HT.sIx]
   omega
  unfold cutG
  rw [this,HT.sIx_none,List.drop_zero,Nat.sub_zero,List.map_take]
 have zl:(zcl (((wayT t p).take p.length).map T.d) (p.map D.int)).length=p.length:=by simp [zcl];omega
 have zg:∀ i,(hi:i < p.length)→∀ w,zan t (p.take i)=some w→(zcl (((wayT t p).take p.length).map T.d) (p.map D.int))[i]?=some (.tup [w.d,.int p[i]]):=fun i hi w hw=>by
  have w1:=zcD p t u h i (by omega)
  rw [hw] at w1
  have i1:i < (wayT t p).length:=by omega
  rw [List.getElem?_eq_getElem i1] at w1
  rw [List.getElem?_eq_getElem (by rw [zl];exact hi)]
  simp [zcl,Option.some.inj w1]
 obtain ⟨ρ',f1,c,a,b,rfl,h1,h2⟩:=zdo (g:=gTup (zbJ (gN 5) (zbJ (gN 6) gNil))) (b:=zen zas FUEL) (xs:=(zcl (((wayT t p).take p.length).map T.d) (p.map D.int)).reverse) (ρ:=[some (.dat t.d),some (.dat (pD p)),some (.dat n.d),some (.dat (.lst (((wayT t p).take p.length).map T.d))),some (.dat n.d),none,none])
  (fun i ρ=>∃ (c:T) (a b:Option Sl),ρ=[some (.dat t.d),some (.dat (pD p)),some (.dat n.d),some (.dat (.lst (((wayT t p).take p.length).map T.d))),some (.dat (putT c (p.drop (p.length - i)) n).d),a,b]∧zan t (p.take (p.length - i))=some c∧i≤p.length) ⟨u,none,none,by simp [zjw],by simpa using h,Nat.zero_le _⟩ (by
   rintro i x ρ hx ⟨c,a,b,rfl,hc,hi⟩
   have hi2:i < p.length:=by
    have:=(List.getElem?_eq_some_iff.mp hx).1
    rwa [List.length_reverse,zl] at this
   obtain ⟨w,hw⟩:=zea h (p.length - 1 - i)
   rw [List.getElem?_reverse (by rw [zl];exact hi2),zl] at hx
   have hj:p.length - 1 - i < p.length:=by omega
   rw [zg _ hj w hw] at hx
   cases hx
   have ej:p.length - i=p.length - 1 - i + 1:=by omega
   rw [ej,List.take_succ_eq_append_getElem hj,zbs _ _ _ _ hw] at hc
   generalize hk:p[p.length - 1 - i]=k at hc
   obtain ⟨s,ts,c',rfl,h0,e,h3⟩:=zaB hc
   have h3:some c'=some c:=by cases c'<;>simpa [zan] using h3
   cases h3
   have hlt:k.toNat < ts.length:=(List.getElem?_eq_some_iff.mp e).1
   have sz:=zcV _ _ _ hw
   rw [T.size] at sz
   have tl:=zbu ts
   have dr:p.drop (p.length - (i + 1))=k::p.drop (p.length - i):=by
    rw [show p.length - (i + 1)=p.length - 1 - i by omega,List.drop_eq_getElem_cons hj,hk,← ej]
   refine ⟨[some (.dat t.d),some (.dat (pD p)),some (.dat n.d),some (.dat (.lst (((wayT t p).take p.length).map T.d))),some (.dat (putT (.nd s ts) (p.drop (p.length - (i + 1))) n).d),some (.dat (T.nd s ts).d),some (.dat (.int k))],.inl ?_,T.nd s ts,_,_,rfl,?_,by omega⟩
   ·rw [dr,zla e]
    rw [ej]
    generalize putT c (p.drop (p.length - 1 - i + 1)) n=y
    rw [d_nd,d_nd]
    have k1:(k + 1).toNat=k.toNat + 1:=by omega
    have k2:(k + 2).toNat=k.toNat + 2:=by omega
    have c1':cutG (D.str s::ts.map T.d) none (some (k + 1))=(D.str s::ts.map T.d).take (k.toNat + 1):=by rw [zno _ _ (by omega) (by simp;omega),k1]
    have c2':cutG (D.str s::ts.map T.d) (some (k + 2)) none=(D.str s::ts.map T.d).drop (k.toNat + 2):=by rw [zkH _ _ (by omega) (by simp;omega),k2]
    have md:=mid_d (s:=s) hlt y
    rw [← md]
    have l1:((D.str s::ts.map T.d).take (k.toNat + 1)).length≤1001:=by rw [List.length_take];simp;omega
    have l2:((D.str s::ts.map T.d).drop (k.toNat + 2)).length≤1001:=by rw [List.length_drop];simp;omega
    generalize (D.str s::ts.map T.d)=L at c1' c2' l1 l2 ⊢
    generalize L.take (k.toNat + 1)=AA at c1' l1 ⊢
    generalize L.drop (k.toNat + 2)=BB at c2' l2 ⊢
    have z1:AA.length + 1≤1000000:=by omega
    have z2:AA.length + 1 + BB.length≤1000000:=by omega
    simp! [c1',c2',z1,z2]
   ·rw [show p.length - (i + 1)=p.length - 1 - i by omega];exact hw)
 rw [List.length_reverse,zl,Nat.sub_self,List.drop_zero] at f1
 rw [List.length_reverse,zl,Nat.sub_self,List.take_zero] at h1
 have h1:some t=some c:=by cases t<;>simpa [zan] using h1
 cases h1
 generalize hW:((wayT t p).take p.length).map T.d=W at cutW f1
 unfold pD at e1 f1 ⊢
 simp! [zaX,e1,cutW,cRv,zipD,f1]
mutual
theorem zkc:∀ t:T,eqD t.d t.d=some true
 | .bl x=>by simp [d_bl,eqD]
 | .nd s ts=>by simp [d_nd,eqD,eqL,zkE ts]
theorem zkE:∀ ts:List T,eqL (ts.map T.d) (ts.map T.d)=some true
 | []=>by simp [eqL]
 | t::ts=>by simp [eqL,zkc t,zkE ts]
end
theorem zgG:∀ p q:List Int,eqL (p.map D.int) (q.map D.int)=some (decide (p=q))
 | [],[]=>by simp [eqL]
 | [],_::_=>by simp [eqL]
 | _::_,[]=>by simp [eqL]
 | a::p,b::q=>by
  simp only [List.map_cons,eqL,eqD,zgG p q]
  by_cases h:a=b
  ·subst h;simp
  ·simp [h]
theorem ne_dT {t:T}(h:t.depth≤90):neB t.d t.d=some (.bl false):=by
 have e:=zkc t
 have d:=zlL t
 have d':dep t.d≤100:=by omega
 simp [neB,e,d']
theorem zhg (p:List Int):depL (p.map D.int)≤1:=by
 induction p with
 | nil=>simp [depL]
 | cons x l ih=>simp only [List.map_cons,depL,dep];omega
theorem ne_pD (p q:List Int):neB (pD p) (pD q)=some (.bl (!decide (p=q))):=by
 have e:=zgG p q
 have d:=zhg p
 have d':depL (p.map D.int) + 1≤100:=by omega
 simp [neB,pD,eqD,e,dep,d']
theorem zlM (p:List Int) (k:Nat):cutG p none (some (k:Int))=p.take k:=by
 unfold cutG
 rw [HT.sIx_nat,HT.sIx_none,List.drop_zero,Nat.sub_zero]
 by_cases h:k≤p.length
 ·rw [Nat.min_eq_left h]
 ·rw [Nat.min_eq_right (by omega),List.take_of_length_le (by omega),List.take_of_length_le (by omega)]
theorem zjr (q:List Int) (k:Nat):zaA (pD q) none (some (k:Int))=some (pD (q.take k)):=by
 unfold pD zaA
 simp only
 rw [zgL,zlM]
theorem zdF:∀ (p:List Int) (t u:T),zan t p=some u→u.depth≤t.depth
 | [],t,u,h=>by
  have:some t=some u:=by cases t<;>simpa [zan] using h
  rw [Option.some.inj this];exact Nat.le_refl _
 | k::p,t,u,h=>by
  obtain ⟨s,ts,c,rfl,h0,e,h2⟩:=zaB h
  have h1:=zdF p c u h2
  have h3:=zcu (List.mem_of_getElem? e)
  rw [T.depth];omega
noncomputable def nb (s:Option Sl):Bool:=match s with
 | some (.bor _)=>false
 | _=>true
theorem zlT (s:Option Sl) (ρ:En):zei (s::ρ)=(nb s && zei ρ):=rfl
theorem zmP:zei []=true:=rfl
theorem nb_dat (d:D):nb (some (.dat d))=true:=rfl
theorem nb_own (q:Bool) (d:D):nb (some (.ow q d))=true:=rfl
theorem nb_none:nb none=true:=rfl
section
variable {a b:T}{φ:Fil} {W:List (T×T)}{w:T×T}
end
noncomputable def lows:List Nat:=(Str.ofString "abcdefghijklmnopqrstuvwxyz").cps.toList
noncomputable def ups:List Nat:=(Str.ofString "ABCDEFGHIJKLMNOPQRSTUVWXYZ").cps.toList
noncomputable def zdB (x:Str):Prop:=∀ c∈x.cps.toList,c∈lows
noncomputable def Lo (x:Str):Prop:=1≤x.length∧zdB x
noncomputable def Up (x:Str):Prop:=∃ c,x=⟨#[c]⟩∧c∈ups
theorem ziF {a b:Str}(h:zdB a) (k:zdB b):zdB (a++b):=fun c hc=>by
 have e:(a++b).cps.toList=a.cps.toList++b.cps.toList:=by
  show (a.cps++b.cps).toList=_
  simp
 rw [e] at hc
 rcases List.mem_append.mp hc with z | z
 ·exact h c z
 ·exact k c z
theorem zfj {z:Str}(h:zdB z) (a b:Option Int):zdB (Txt.slice z a b):=fun c hc=>by
 unfold Txt.slice at hc
 split at hc
 ·exact h c hc
 ·have hc':c∈((Builtin.Str.strSliceIndices a b 1 z.length).filterMap (z.cps[·]?)):=by simpa using hc
  obtain ⟨i,_,e⟩:=List.mem_filterMap.mp hc'
  exact h c (by rw [Array.mem_toList_iff];exact Array.mem_of_getElem? e)
theorem ziD {n:Int}{c:Nat} (h:atI (Str.ofString "abcdefghijklmnopqrstuvwxyz").cps.toList n=some c):zdB ⟨#[c]⟩:=fun b hb=>by
 have:b=c:=by simpa using hb
 subst this
 unfold atI at h
 cases e:ixN (Str.ofString "abcdefghijklmnopqrstuvwxyz").cps.toList.length n with
 | none=>rw [e] at h;cases h
 | some j=>rw [e] at h;exact List.mem_of_getElem? h
theorem ziE:∀ (l:List Str) (acc:Array Nat),(∀ c∈acc,c∈lows)→(∀ y∈l,zdB y)→∀ c∈l.foldl (fun acc p=>acc++(Str.ofString "").cps++p.cps) acc,c∈lows
 | [],acc,h,_,c,hc=>h c hc
 | y::l,acc,h,k,c,hc=>by
  rw [List.foldl_cons] at hc
  refine ziE l _ (fun d hd=>?_) (fun z hz=>k z (List.mem_cons_of_mem _ hz)) c hc
  have e0:(Str.ofString "").cps=#[]:=by decide +kernel
  rw [e0] at hd
  rcases Array.mem_append.mp hd with z | z
  ·exact h d (by simpa using z)
  ·exact k y (by simp) d (by rw [Array.mem_toList_iff];exact z)
theorem zlw {ys:List Str}(h:∀ y∈ys,zdB y):zdB (Txt.join (Str.ofString "") ys):=fun c hc=>by
 have hc':c∈(ys.drop 1).foldl (fun acc p=>acc++(Str.ofString "").cps++p.cps) (ys.headD Str.empty).cps:=by rw [← Array.mem_toList_iff];exact hc
 refine ziE _ _ (fun d hd=>?_) (fun y hy=>h y (List.mem_of_mem_drop hy)) c hc'
 cases ys with
 | nil=>simp [Str.empty] at hd
 | cons y r=>exact h y (by simp) d (by rw [Array.mem_toList_iff];exact hd)
theorem zhW (z:Str) (k:Nat) (hk:k + 1≤z.length):1≤(Txt.slice z none (some ((k:Int) + 1))).length:=by
 have hz:Builtin.Str.strSliceIndices none (some ((k:Int) + 1)) 1 z.length=List.range (k + 1):=by
  unfold Builtin.Str.strSliceIndices sliceRange
  simp only [show (1:Int) > 0 by decide,if_true]
  have e1:¬ ((k:Int) + 1 < 0):=by omega
  simp only [e1,if_false]
  have e2:max 0 (min ((k:Int) + 1) (z.length:Int))=(k:Int) + 1:=by omega
  rw [e2,if_pos (by omega)]
  have e3:(((k:Int) + 1 - 0 + 1 - 1) / 1).toNat=k + 1:=by omega
  rw [e3]
  conv=>rhs;rw [← List.map_id (List.range (k + 1))]
  apply List.map_congr_left
  intro a _
  simp
 unfold Txt.slice
 rw [hz]
 split
 ·omega
 ·show 1≤(List.filterMap _ (List.range (k + 1))).toArray.size
  rw [List.size_toArray,List.range_succ_eq_map,List.filterMap_cons]
  have hlt:0 < z.cps.size:=by have:z.length=z.cps.size:=rfl;omega
  rw [Array.getElem?_eq_getElem hlt]
  simp
noncomputable def LoS (m:Nat) (y:Str):Prop:=y.length≤m∧Lo y
theorem zke (c:Int):∃ ws:List Str,zat [.int c]=some (.lst (ws.map D.str))∧ws.length=5∧nle 16 ws∧∀ x∈ws,Lo x:=by
 obtain ⟨n0,e0⟩:∃ n0:Int,c * 1000000007 % 1000000000000000000=n0:=⟨_,rfl⟩
 have h7:0≤n0 % 7:=Int.emod_nonneg _ (by decide)
 have h7':n0 % 7 < 7:=Int.emod_lt_of_pos _ (by decide)
 obtain ⟨ρ',e1,nb,bs,k,rfl,hb,hbl⟩:=zdo (g:=gN 4) (b:=zcr FUEL) (xs:=zbi 0 (n0 % 7).toNat) (ρ:=[some (.dat (.int c)),some (.dat (.str "abcdefghijklmnopqrstuvwxyz")),some (.dat (.int n0)),some (.dat (.str "")),none,none])
  (fun i ρ=>∃ (nb:Int) (bs:Str) (k:Option Sl),ρ=[some (.dat (.int c)),some (.dat (.str "abcdefghijklmnopqrstuvwxyz")),some (.dat (.int nb)),some (.dat (.str bs)),k,none]∧bs.length≤min i 7∧zdB bs)
  ⟨n0, "",none,rfl,by rw [elen];omega,by intro c hc;exact absurd hc (by decide +revert +kernel)⟩ (by
   rintro i x ρ hx ⟨nb,bs,k,rfl,hb,hbl⟩
   obtain ⟨hi,rfl⟩:=zbg hx
   obtain ⟨cc,hcc⟩:=zhb alen (nb / 7)
   have hl:bs.length + 1≤1000000:=by omega
   refine ⟨[some (.dat (.int c)),some (.dat (.str "abcdefghijklmnopqrstuvwxyz")),some (.dat (.int (nb / 11))),some (.dat (.str (bs++⟨#[cc]⟩))),some (.dat (.int (0 + (i:Int)))),none],.inl ?_,_,_,_,rfl,?_,ziF hbl (ziD hcc)⟩
   ·simp! [zlS,hcc,len1,hl]
   ·rw [zeM,len1];omega)
 have hb6:bs.length≤7:=by omega
 have hz:bs.length≤1000000:=by omega
 have hp:(0:Int) < (bs.length:Int) + 1:=by omega
 have hr7:-4611686018427387904≤n0 % 7∧n0 % 7 < 4611686018427387904:=by omega
 by_cases h3:nb % 3=0
 ·obtain ⟨ys,w1,w2,w3⟩:=zcL D.str (fun _ y=>y.length=1∧zdB y) (g:=gN 0) (f:=zcx FUEL) (ρ:=[none,some (.dat (.str "abcdefghijklmnopqrstuvwxyz")),some (.dat (.int nb))]) (xs:=zbi 0 6) 0 (by
   intro i x hx
   obtain ⟨hi,rfl⟩:=zbg hx
   rw [Int.zero_add]
   have hd:0 < (3:Int) + (i:Int) * (i:Int):=by
    have:0≤(i:Int) * (i:Int):=Int.mul_nonneg (by omega) (by omega)
    omega
   have hd2:(3:Int) + (i:Int) * (i:Int) < 1073741824:=by
    have:(i:Int) * (i:Int)≤6 * 6:=Int.mul_le_mul (by omega) (by omega) (by omega) (by decide)
    omega
   have hm:(-18446744073709551616 < (i:Int)∧(i:Int) < 18446744073709551616):=by omega
   obtain ⟨cc,hcc⟩:=zhb alen (nb / (3 + (i:Int) * (i:Int)))
   refine ⟨_,⟨#[cc]⟩,rfl,?_,len1 cc,ziD hcc⟩
   simp! [zlS,hcc,hd,hd2,hm])
  rw [zaI] at w2
  have w3':∀ y∈ys,y.length=1∧zdB y:=fun y hy=>by obtain ⟨i,hi⟩:=List.mem_iff_getElem?.mp hy;exact w3 i y hi
  have js6:(ys.map (·.length)).sum=6:=by
   have:∀ l:List Str,(∀ y∈l,y.length=1)→(l.map (·.length)).sum=l.length:=by
    intro l
    induction l with
    | nil=>intro _;rfl
    | cons y l ih=>intro h;rw [List.map_cons,List.sum_cons,h y (by simp),ih fun z hz=>h z (List.mem_cons_of_mem _ hz),List.length_cons];omega
   rw [this ys fun y hy=>(w3' y hy).1];exact w2
  have js:(ys.map (·.length)).sum≤6:=by omega
  have jl6:(Txt.join (Str.ofString "") ys).length=6:=by rw [zjN];exact js6
  have jall:=zlw fun y hy=>(w3' y hy).2
  have jo:zbd (ys.map D.str)=some ys:=zeI ys
  have jz:(ys.map (·.length)).sum + ys.length * (Str.ofString "").length≤16777216:=by rw [elen];omega
  obtain ⟨zs,d1,d2,d4⟩:=zcL D.str (fun _ y=>LoS 16 y) (g:=gN 0) (f:=zcw FUEL) (ρ:=[none,some (.dat (.str (Txt.join (Str.ofString "") ys)))]) (xs:=zbi 0 5) 0 (by
   intro i x hx
   obtain ⟨hi,rfl⟩:=zbg hx
   have sp:=zhW (Txt.join (Str.ofString "") ys) i (by omega)
   have sl:=zdS (Txt.join (Str.ofString "") ys) none (some ((i:Int) + 1))
   have hz2:(Txt.join (Str.ofString "") ys).length≤1000000:=by omega
   rw [Int.zero_add]
   refine ⟨_,Txt.slice (Txt.join (Str.ofString "") ys) none (some ((i:Int) + 1)),rfl,?_,by omega,sp,zfj jall _ _⟩
   simp! [hz2])
  rw [zaI] at d2
  have d5:∀ y∈zs,LoS 16 y:=fun y hy=>by obtain ⟨i,hi⟩:=List.mem_iff_getElem?.mp hy;exact d4 i y hi
  refine ⟨zs,?_,d2,fun y hy=>(d5 y hy).1,fun y hy=>(d5 y hy).2⟩
  simp! [zat,e0,e1,h3,w1,d1,hz,hp,hr7,zaI,zjO,jo,jz,dep,eqD]
 ·obtain ⟨zs,d1,d2,d4⟩:=zcL D.str (fun _ y=>LoS 16 y) (g:=gN 0) (f:=zcv FUEL) (ρ:=[none,some (.dat (.str bs)),some (.dat (.str "abcdefghijklmnopqrstuvwxyz")),some (.dat (.int (nb / 7 % ((bs.length:Int) + 1)))),some (.dat (.int nb))]) (xs:=zbi 0 5) 0 (by
   intro i x hx
   obtain ⟨hi,rfl⟩:=zbg hx
   rw [Int.zero_add]
   obtain ⟨cc,hcc⟩:=zhb alen (nb / 5 + 5 * (i:Int))
   have s1:=zdS bs none (some (nb / 7 % ((bs.length:Int) + 1)))
   have s2:=zdS bs (some (nb / 7 % ((bs.length:Int) + 1))) none
   have l1:(Txt.slice bs none (some (nb / 7 % ((bs.length:Int) + 1)))).length + 1≤1000000:=by omega
   have l2:(Txt.slice bs none (some (nb / 7 % ((bs.length:Int) + 1)))).length + 1 + (Txt.slice bs (some (nb / 7 % ((bs.length:Int) + 1))) none).length≤1000000:=by omega
   refine ⟨_,Txt.slice bs none (some (nb / 7 % ((bs.length:Int) + 1)))++⟨#[cc]⟩++Txt.slice bs (some (nb / 7 % ((bs.length:Int) + 1))) none,rfl,?_,by rw [zeM,zeM,len1];omega,by rw [zeM,zeM,len1];omega,ziF (ziF (zfj hbl _ _) (ziD hcc)) (zfj hbl _ _)⟩
   simp! [hz,zlS,hcc,len1,zeM,l1,l2])
  rw [zaI] at d2
  have d5:∀ y∈zs,LoS 16 y:=fun y hy=>by obtain ⟨i,hi⟩:=List.mem_iff_getElem?.mp hy;exact d4 i y hi
  refine ⟨zs,?_,d2,fun y hy=>(d5 y hy).1,fun y hy=>(d5 y hy).2⟩
  simp! [zat,e0,e1,h3,d1,hz,hp,hr7,zaI,dep,eqD]
theorem zkf (c:Int):∃ ps:List (Str×Int),zam [.int c]=some (.lst (ps.map sd))∧zev ps∧∀ p∈ps,Lo p.1:=by
 obtain ⟨ws,ew,wl,wn,wlo⟩:=zke c
 have h0:0≤c / 3 % 4:=Int.emod_nonneg _ (by decide)
 have h4':c / 3 % 4 < 4:=Int.emod_lt_of_pos _ (by decide)
 have h12:0≤c / 12 % 4:=Int.emod_nonneg _ (by decide)
 have h12':c / 12 % 4 < 4:=Int.emod_lt_of_pos _ (by decide)
 have hr:-4611686018427387904≤2 + c / 12 % 4∧2 + c / 12 % 4 < 4611686018427387904:=by omega
 obtain ⟨cs,ecs,cl,cb,cf⟩:∃ cs:List Int,atI [D.lst [.int 0,.int 2,.int 1,.int 0,.int 3],.lst [.int 0,.int 1,.int 2,.int 2,.int 0],.lst [.int 0,.int 3,.int 1,.int 1,.int 0],.lst [.int 0,.int 2,.int 0,.int 1,.int 1]] (c / 3 % 4)=some (.lst (cs.map D.int))∧cs.length=5∧(∀ n∈cs,0≤n∧n≤3)∧cs[0]?=some 0:=by
  rcases (by omega:c / 3 % 4=0∨c / 3 % 4=1∨c / 3 % 4=2∨c / 3 % 4=3) with e | e | e | e
  ·exact ⟨[0,2,1,0,3],by rw [e];rfl,rfl,by decide,rfl⟩
  ·exact ⟨[0,1,2,2,0],by rw [e];rfl,rfl,by decide,rfl⟩
  ·exact ⟨[0,3,1,1,0],by rw [e];rfl,rfl,by decide,rfl⟩
  ·exact ⟨[0,2,0,1,1],by rw [e];rfl,rfl,by decide,rfl⟩
 obtain ⟨ps,p1,p2,p3⟩:=zcL sd (fun i p=>p.1∈ws∧cs[i]?=some p.2) (g:=gN 0) (f:=zcy zat FUEL) (ρ:=[none,some (.dat (.lst (ws.map D.str))),some (.dat (.lst (cs.map D.int)))]) (xs:=zbi 0 (2 + c / 12 % 4).toNat) 0 (by
  intro i x hx
  obtain ⟨hi,rfl⟩:=zbg hx
  have i1:i < ws.length:=by omega
  have i2:i < cs.length:=by omega
  have a1:atI ws (i:Int)=some ws[i]:=zbp (List.getElem?_eq_getElem i1)
  have a2:atI cs (i:Int)=some cs[i]:=zbp (List.getElem?_eq_getElem i2)
  refine ⟨_,(ws[i],cs[i]),rfl,?_,List.getElem_mem _,?_⟩
  ·simp! [zbf,a1,a2,sd]
  ·rw [Nat.zero_add];exact List.getElem?_eq_getElem i2)
 rw [zaI] at p2
 have pm:∀ p∈ps,p.1∈ws∧p.2∈cs:=fun p hp=>by
  obtain ⟨i,hi⟩:=List.mem_iff_getElem?.mp hp
  have:=p3 i p hi
  exact ⟨this.1,List.mem_of_getElem? this.2⟩
 refine ⟨ps,?_,⟨by omega,by omega,fun p hp=>cb _ (pm p hp).2,fun p hp=>?_,fun p hp=>wn _ (pm p hp).1⟩,fun p hp=>wlo _ (pm p hp).1⟩
 ·have hz:(2 + c / 12 % 4).toNat≤1000000:=by omega
  simp! [zam,ew,ecs,hr,p1,hz,zaI]
 ·have:=(p3 0 p hp).2
  rw [Nat.add_zero,cf] at this
  exact (Option.some.inj this).symm
theorem ziX (c:Int):∃ bs:List Str,zak [.int c]=some (.lst (bs.map D.str))∧1≤bs.length∧bs.length≤4∧∀ x∈bs,Up x:=by
 have h0:0≤c / 26 % 4:=Int.emod_nonneg _ (by decide)
 have h4:c / 26 % 4 < 4:=Int.emod_lt_of_pos _ (by decide)
 have hr:-4611686018427387904≤1 + c / 26 % 4∧1 + c / 26 % 4 < 4611686018427387904:=by omega
 obtain ⟨bs,p1,p2,p3⟩:=zcL D.str (fun _ y=>Up y) (g:=gN 0) (f:=zcg FUEL) (ρ:=[none,some (.dat (.str "ABCDEFGHIJKLMNOPQRSTUVWXYZ")),some (.dat (.int c))]) (xs:=zbi 0 (1 + c / 26 % 4).toNat) 0 (by
  intro i x hx
  obtain ⟨hi,rfl⟩:=zbg hx
  obtain ⟨cc,hcc⟩:=zhb ALEN (c + 7 * (i:Int))
  have hu:cc∈ups:=by
   have h:=hcc
   unfold atI at h
   cases e:ixN (Str.ofString "ABCDEFGHIJKLMNOPQRSTUVWXYZ").cps.toList.length ((c + 7 * (i:Int)) % 26) with
   | none=>rw [e] at h;cases h
   | some j=>rw [e] at h;exact List.mem_of_getElem? h
  refine ⟨_,⟨#[cc]⟩,rfl,?_,cc,rfl,hu⟩
  simp! [ALEN',hcc])
 rw [zaI] at p2
 refine ⟨bs,?_,by omega,by omega,fun y hy=>by obtain ⟨i,hi⟩:=List.mem_iff_getElem?.mp hy;exact p3 i y hi⟩
 have hz:(1 + c / 26 % 4).toNat≤1000000:=by omega
 simp! [zak,hr,p1,hz,zaI]
noncomputable abbrev zel (n:Nat):En→Option Fl:=
 (seqM (ifM (upT (orP (cT (c2 neB (c1 (fldX "place") (c1 (mkE "NoPlace") (gv 0))) (gb 0))) (orP (cT (c2 neB (c1 (fldX "rule") (c1 (mkE "NoRule") (cL zbW (zab (gv 1) (zab (gv 1) nilF))))) (cL zbW (zab (gv 1) (zab (gv 1) nilF))))) (cT (c2 neB (c1 (fldX "sign") (c1 (mkE "TwoCounts") (cst (.str "q")))) (cst (.str "q"))))))) (retM (cst (.bl false))) nxM) (retM (andV (c2 eqB (c1 (fldX "term") (c1 (mkE "TooLong") (gv 1))) (gb 1)) (andV (c2 eqB (c1 (fldX "rules") (c1 (mkE "NoRank") (cL zbc nilF))) (cL zbc nilF)) (cst (.bl true))))))
noncomputable def zbD:List D→Option D:=runF (zel  FUEL) 2 2
noncomputable abbrev zbC (zai:List D→Option D) (n:Nat):En→Option Fl:=
 (seqM (setM 3 (c2 modD (gb 2) (c2 addD (cL lenD (zab (gb 1) nilF)) (cst (.int 1))))) (seqM (setM 4 (cL zai (zab (gv 0) (zab (cS zaA (gb 1) zbk (zaY (gv 3))) nilF)))) (seqM (setM 5 (cst (.int 0))) (seqM (ifM (upT (cT (c1 (isiD "tuple") (gb 4)))) (setM 5 (c2 subD (cL lenD (zab (gb 4) nilF)) (cst (.int 1)))) nxM) (seqM (setM 6 (c2 idxD (cL zbc (zab (gv 5) (zab (c2 addD (gb 5) (cst (.int 1))) (zab (c1 negD (cst (.int 1))) (zab (c2 subD (c1 negD (cst (.int 1))) (gb 5)) (zab (c2 addD (c2 powD (cst (.int 10)) (cst (.int 59))) (c2 modD (gb 2) (c2 powD (cst (.int 10)) (cst (.int 9))))) (zab (c2 subD (c1 negD (cst (.int 1))) (c2 modD (gb 2) (c2 powD (cst (.int 10)) (cst (.int 59))))) nilF))))))) (c2 modD (c2 divD (gb 2) (cst (.int 16))) (cst (.int 6))))) (seqM (ifM (upT (cT (c2 eqB (c2 modD (c2 divD (gb 2) (cst (.int 8))) (cst (.int 2))) (cst (.int 0))))) (retM (c2 addD (cS zaA (gb 1) zbk (zaY (gv 3))) (cL zbW (zab (gv 6) nilF)))) nxM) (retM (c2 addD (c2 addD (cS zaA (gb 1) zbk (zaY (gv 3))) (cL zbW (zab (gv 6) nilF))) (cS zaA (gb 1) (zaY (c2 addD (gb 3) (cst (.int 1)))) zbk)))))))))
noncomputable def zaO:List D→Option D:=runF (zbC zai FUEL) 3 7
noncomputable abbrev zbl (zae:List D→Option D) (n:Nat):En→Option Fl:=
 (seqM (setM 4 (cL zae (zab (c2 idxD (gb 2) (c1 negD (cst (.int 1)))) nilF))) (seqM (ifM (upT (orP (cT (c2 ltD (gb 3) (cst (.int 0)))) (cT (c2 geD (gb 3) (cL lenD (zab (gb 4) nilF)))))) (rsM "NoPlace" (gv 1)) nxM) (zes (appM 2 (c2 idxD (gb 4) (gb 3))))))
noncomputable abbrev zdu (zae:List D→Option D) (n:Nat):En→Option Fl:=
 (seqM (setO 2 (cL zbc (zab (gv 0) nilF))) (seqM (forS (cI (gv 1)) (gN 3) (zbl zae n)) (retO 2)))
noncomputable def zbw:List D→Option Rs:=runR (zdu zae FUEL) 2 5
noncomputable abbrev zda (zas:List D→Option Rs) (n:Nat):En→Option Fl:=
 (orR (c2 idxD (cL (okm zas) (zab (gv 0) (zab (gv 1) nilF))) (c1 negD (cst (.int 1)))) (rL zas (zab (gv 0) (zab (gv 1) nilF))) fun d ρ=>some (.rt d ρ))
noncomputable def zaD:List D→Option Rs:=runR (zda zbw FUEL) 2 2
noncomputable abbrev zfT (zas:List D→Option Rs) (n:Nat):En→Option Fl:=
 (setM 4 (c2 addD (c2 addD (cS zaA (gb 5) zbk (zaY (c2 addD (gb 6) (cst (.int 1))))) (cL zbW (zab (gv 4) nilF))) (cS zaA (gb 5) (zaY (c2 addD (gb 6) (cst (.int 2)))) zbk)))
noncomputable abbrev zcG (zas:List D→Option Rs) (n:Nat):En→Option Fl:=
 (seqM (orR (cS zaA (cL (okm zas) (zab (gv 0) (zab (gv 1) nilF))) zbk (zaY (c1 negD (cst (.int 1))))) (rL zas (zab (gv 0) (zab (gv 1) nilF))) fun d ρ=>some (.nx (ρ.set 3 (some (.dat d))))) (seqM (setM 4 (gv 2)) (seqM (forS (cRv (c2 zipD (gv 3) (gv 1))) (gTup (zbJ (gN 5) (zbJ (gN 6) gNil))) (zfT zas n)) (retM (gv 4)))))
noncomputable def zbM:List D→Option Rs:=runR (zcG zbw FUEL) 3 7
noncomputable abbrev zfl (m_part_at:List D→Option Rs) (zaX:List D→Option Rs) (n:Nat):En→Option Fl:=
 (seqM (ifM (upT (cT (c2 eqB (gb 0) (cst (.int 0))))) (orR (cL (okm m_part_at) (zab (gv 1) (zab (gv 2) nilF))) (rL m_part_at (zab (gv 1) (zab (gv 2) nilF))) fun _ ρ=>some (.nx ρ)) nxM) (ifM (upT (cT (c2 eqB (gb 0) (cst (.int 1))))) (orR (cL (okm zaX) (zab (gv 1) (zab (gv 2) (zab (cst (.str "X")) nilF)))) (rL zaX (zab (gv 1) (zab (gv 2) (zab (cst (.str "X")) nilF)))) fun _ ρ=>some (.nx ρ)) nxM))
noncomputable abbrev zdc (m_part_at:List D→Option Rs) (zaX:List D→Option Rs) (n:Nat):En→Option Fl:=
 (seqM (setM 3 (cst .non)) (seqM (tryM 3 4 (zfl m_part_at zaX n)) (retM (gv 3))))
noncomputable def zaE:List D→Option D:=runF (zdc zaD zbM FUEL) 3 5
noncomputable abbrev zbN (n:Nat):En→Option Fl:=
 (seqM (ifM (upT (orP (cT (c1 (isiD "str") (gb 0))) (orP (cT (c2 ltD (gb 2) (cst (.int 0)))) (cT (c2 geD (c2 addD (gb 2) (cst (.int 1))) (cL lenD (zab (gb 0) nilF))))))) (retM (cst (.bl false))) nxM) (setM 0 (c2 idxD (gb 0) (c2 addD (cst (.int 1)) (gb 2)))))
noncomputable abbrev zfi (n:Nat):En→Option Fl:=
 (seqM (forS (cI (gv 1)) (gN 2) (zbN n)) (retM (cst (.bl true))))
noncomputable def zca:List D→Option D:=runF (zfi  FUEL) 2 3
noncomputable abbrev zcm (n:Nat):En→Option Fl:=
 (seqM (ifM (upT (orP (notP (cT (c1 (isiC "NoPlace") (gb 0)))) (notP (cT (c1 isiV (gb 0)))))) (retM (cst (.bl false))) nxM) (retM (andV (notV (c1 (isiT ["NoRank", "NoRule", "TooLong", "TwoCounts"]) (gb 0))) (c2 eqB (c1 (fldX "place") (gb 0)) (gb 1)))))
noncomputable def zaP:List D→Option D:=runF (zcm  FUEL) 2 2
noncomputable abbrev zeT (zam zak:List D→Option D) (zap zac:List D→Option D) (m__law_made zao:List D→Option D) (m__law_spoiled m__law_caught:List D→Option D) (m__law_has m__law_refused:List D→Option D) (m_part_at:List D→Option Rs) (zai:List D→Option D) (n:Nat):En→Option D:=
 (c2 modD (c2 mulD (gb 0) (cst (.int 1000000007))) (cst (.int 2147483647)))
noncomputable abbrev zdw (zam zak:List D→Option D) (zap zac:List D→Option D) (m__law_made zao:List D→Option D) (m__law_spoiled m__law_caught:List D→Option D) (m__law_has m__law_refused:List D→Option D) (m_part_at:List D→Option Rs) (zai:List D→Option D) (n:Nat):En→Option Fl:=
 (seqM (setM 9 (cL m__law_caught (zab (gv 8) (zab (gv 4) (zab (gv 7) nilF))))) (ifM (upT (cT (cL m__law_has (zab (gv 4) (zab (gv 7) nilF))))) (ifM (upT (orP (cT (c2 zcT (gb 9) (cst .non))) (cT (c2 neB (cL (okm m_part_at) (zab (gv 4) (zab (gv 7) nilF))) (cL zai (zab (gv 4) (zab (gv 7) nilF))))))) (retM (cst (.bl false))) nxM) (ifM (upT (notP (cT (cL m__law_refused (zab (gv 9) (zab (gv 7) nilF)))))) (retM (cst (.bl false))) nxM)))
noncomputable abbrev zeN (zam zak:List D→Option D) (zap zac:List D→Option D) (m__law_made zao:List D→Option D) (m__law_spoiled m__law_caught:List D→Option D) (m__law_has m__law_refused:List D→Option D) (m_part_at:List D→Option Rs) (zai:List D→Option D) (n:Nat):En→Option Fl:=
 (seqM (setM 7 (c2 idxD (gb 5) (c2 modD (c2 divD (gb 6) (cst (.int 3))) (cL lenD (zab (gb 5) nilF))))) (seqM (ifM (upT (cT (c2 gtD (c2 modD (gb 6) (cst (.int 3))) (cst (.int 0))))) (setM 7 (cL m__law_spoiled (zab (gv 4) (zab (gv 7) (zab (c2 divD (gb 6) (cst (.int 3))) nilF))))) nxM) (forS (cI (cL zbc (zab (c2 modD (gb 6) (cst (.int 2))) (zab (c2 subD (cst (.int 1)) (c2 modD (gb 6) (cst (.int 2)))) nilF)))) (gN 8) (zdw zam zak zap zac m__law_made zao m__law_spoiled m__law_caught m__law_has m__law_refused m_part_at zai n))))
noncomputable abbrev zfh (zam zak:List D→Option D) (zap zac:List D→Option D) (m__law_made zao:List D→Option D) (m__law_spoiled m__law_caught:List D→Option D) (m__law_has m__law_refused:List D→Option D) (m_part_at:List D→Option Rs) (zai:List D→Option D) (n:Nat):En→Option Fl:=
 (seqM (setM 1 (cL zam (zab (cL zao (zab (gv 0) (zab (cst (.int 0)) nilF))) nilF))) (seqM (setM 2 (cL zak (zab (cL zao (zab (gv 0) (zab (cst (.int 1)) nilF))) nilF))) (seqM (setM 3 (zbz [none] (cI (c2 addD (cL zbc (zab (cst (.int 3)) nilF)) (cS zaA (gb 0) (zaY (cst (.int 2))) (zaY (cst (.int 31)))))) (gN 0) yesP (zeT zam zak zap zac m__law_made zao m__law_spoiled m__law_caught m__law_has m__law_refused m_part_at zai n))) (seqM (setM 4 (cL zap (zab (gv 3) (zab (gv 1) (zab (gv 2) (zab (cst (.int 12)) nilF)))))) (seqM (setM 5 (cL zac (zab (gv 4) nilF))) (seqM (forS (cI (c2 addD (cL zbc (zab (cst (.int 3)) (zab (cst (.int 40)) nilF))) (cS zaA (gb 0) (zaY (cst (.int 1))) (zaY (cst (.int 20)))))) (gN 6) (zeN zam zak zap zac m__law_made zao m__law_spoiled m__law_caught m__law_has m__law_refused m_part_at zai n)) (retM (cL m__law_made (zab (c2 idxD (gb 5) (c1 negD (cst (.int 1)))) (zab (gv 4) nilF))))))))))
noncomputable def m_law04:List D→Option D:=runF (zfh zam zak zap zac zbD zao zaO zaE zca zaP zaD zai FUEL) 1 10
noncomputable def okI (i:Int):Prop:=i.natAbs < 10 ^ 61
theorem zmQ {n k:Nat}(h:n < 2 ^ k) (hk:0 < k):n.log2 < k:=by
 by_cases h0:n=0
 ·subst h0;simpa using hk
 ·exact (Nat.log2_lt h0).mpr h
theorem p61:(10:Nat) ^ 61≤2 ^ 203:=by decide
theorem zfC:∀ p:List Int,(∀ i∈p,okI i)→plDs (p.map D.int)=true∧PyData.showableAll (pyDs (p.map D.int))=true∧PyData.depthAll (pyDs (p.map D.int))=0∧PyData.leavesShortAll 62 (pyDs (p.map D.int))=true∧PyData.weightAll (pyDs (p.map D.int))≤210 * p.length
 | [],_=>by simp [plDs,pyDs,PyData.showableAll,PyData.depthAll,PyData.leavesShortAll,PyData.weightAll]
 | i::p,h=>by
  obtain ⟨h1,h2,h3,h4,h5⟩:=zfC p fun j hj=>h j (by simp [hj])
  have hi:okI i:=h i (by simp)
  have hl:i.natAbs.log2 < 203:=zmQ (Nat.lt_of_lt_of_le hi p61) (by decide)
  have hs:(PyData.shown (.int i)).length≤62:=by
   have e:=int_text_length_le10 (k:=61) (by decide) hi
   show (Str.ofString (toString i)).length≤62
   rw [PySem.ofString_length];exact e
  have hw:(PyData.int i).weight≤204:=by
   simp only [PyData.weight]
   split<;>omega
  have hl':i.natAbs.log2 < 1920:=by omega
  simp only [List.map_cons,plDs,pyDs,plD,pyD,PyData.showableAll,PyData.showable,PyData.depthAll,PyData.depth,PyData.leavesShortAll,PyData.leavesShort,PyData.weightAll,h1,h2,h3,h4,hs,hl',decide_true,Bool.and_true,List.length_cons,true_and]
  refine ⟨rfl,by omega⟩
theorem zmg (p:List Int) (hp:∀ i∈p,okI i) (hl:p.length≤100):shD (pD p)=true:=by
 obtain ⟨h1,h2,h3,h4,h5⟩:=zfC p hp
 have h6:=PyData.shown_le 62 (by decide) (pyD (pD p)) (by simp only [pD,pyD,PyData.leavesShort];exact h4)
 have h7:(pyD (pD p)).weight≤210 * p.length:=by simpa only [pD,pyD,PyData.weight] using h5
 have h8:(pyD (pD p)).shown.length≤4000000:=by omega
 have h9:(pyD (pD p)).depth≤100:=by simp only [pD,pyD,PyData.depth,h3];decide
 have ha:(pyD (pD p)).showable=true:=by simp only [pD,pyD,PyData.showable,h2]
 have hb:plD (pD p)=true:=by simp only [pD,plD,h1]
 unfold shD
 rw [hb,ha,decide_eq_true h9]
 simp only [pD] at h8 ⊢
 simp [h8]
noncomputable def OkW (x:Str):Prop:=x.length≤16∧∀ c∈x.cps.toList,c < 16 ^ 8
theorem zmK {x:Str}(h:Lo x) (hl:x.length≤16):OkW x:=⟨hl,fun c hc=>by
 have k:∀ c∈lows,c < 16 ^ 8:=by decide +kernel
 exact k c (h.2 c hc)⟩
theorem zmJ {x:Str}(h:Up x):OkW x:=by
 obtain ⟨c,rfl,hc⟩:=h
 have k:∀ c∈ups,c < 16 ^ 8:=by decide +kernel
 exact ⟨by show 1≤16;decide,fun b hb=>by
  have:b=c:=by simpa using hb
  rw [this];exact k c hc⟩
theorem zdL {x:Str}(h:OkW x):PyData.leavesShort 8 (.str x)=true:=by
 simp only [PyData.leavesShort,List.all_eq_true,decide_eq_true_eq]
 exact h.2
mutual
theorem zks {ps:List (Str×Int)}{bs:List Str} (hp:∀ p∈ps,OkW p.1) (hb:∀ x∈bs,OkW x):∀ t:T,WT ps bs t→plD t.d=true∧(pyD t.d).showable=true∧(pyD t.d).depth≤t.depth∧(pyD t.d).leavesShort 8=true∧(pyD t.d).weight + 1≤18 * t.size
 | .bl x,h=>by
  cases h with
  | bl h=>
   have k:=hb x h
   have k2:x.cps.size≤16:=k.1
   simp only [d_bl,plD,pyD,PyData.showable,PyData.depth,PyData.weight,zdL k,T.size,T.depth,true_and]
   omega
 | .nd s ts,h=>by
  cases h with
  | nd h hs=>
   have k:=hp _ h
   have k2:s.cps.size≤16:=k.1
   obtain ⟨h1,h2,h3,h4,h5⟩:=zhY hp hb ts hs
   simp only [d_nd,plD,plDs,pyD,pyDs,PyData.showable,PyData.showableAll,PyData.depth,PyData.depthAll,PyData.weight,PyData.weightAll,PyData.leavesShortAll,zdL k,h1,h2,h4,T.size,T.depth,Bool.and_true,true_and]
   refine ⟨by omega,?_,by omega⟩
   rw [PyData.leavesShort,PyData.leavesShortAll,zdL k,h4];rfl
theorem zhY {ps:List (Str×Int)}{bs:List Str} (hp:∀ p∈ps,OkW p.1) (hb:∀ x∈bs,OkW x):∀ ts:List T,(∀ t∈ts,WT ps bs t)→plDs (ts.map T.d)=true∧PyData.showableAll (pyDs (ts.map T.d))=true∧PyData.depthAll (pyDs (ts.map T.d))≤T.depths ts∧PyData.leavesShortAll 8 (pyDs (ts.map T.d))=true∧PyData.weightAll (pyDs (ts.map T.d))≤18 * T.sizes ts
 | [],_=>by simp [plDs,pyDs,PyData.showableAll,PyData.depthAll,PyData.leavesShortAll,PyData.weightAll,T.depths,T.sizes]
 | t::r,h=>by
  obtain ⟨a1,a2,a3,a4,a5⟩:=zks hp hb t (h t (by simp))
  obtain ⟨h1,h2,h3,h4,h5⟩:=zhY hp hb r fun u hu=>h u (by simp [hu])
  simp only [List.map_cons,plDs,pyDs,PyData.showableAll,PyData.depthAll,PyData.leavesShortAll,PyData.weightAll,a1,a2,a4,h1,h2,h4,T.depths,T.sizes,Bool.and_true,true_and]
  exact ⟨by omega,by omega⟩
end
theorem zjs {d:D}{B:Nat} (h1:plD d=true) (h2:(pyD d).showable=true) (h3:(pyD d).depth≤100) (h4:(pyD d).leavesShort 8=true) (h5:(pyD d).weight≤B) (hB:B≤300000) (k:(∃ x,d=.str x)∨(∃ l,d=.tup l)∨∃ l,d=.lst l):shD d=true:=by
 have h6:=PyData.shown_le 8 (by decide) (pyD d) h4
 have h8:(pyD d).shown.length≤4000000:=by omega
 unfold shD
 rw [h1,h2,decide_eq_true h3]
 rcases k with ⟨x,rfl⟩ | ⟨l,rfl⟩ | ⟨l,rfl⟩
 ·simp only [pyD,PyData.weight] at h5
  have:x.length≤4000000:=by show x.cps.size≤4000000;omega
  simp [this]
 ·simp [h8]
 ·simp [h8]
theorem sh_T {ps:List (Str×Int)}{bs:List Str} (hp:∀ p∈ps,OkW p.1) (hb:∀ x∈bs,OkW x) (t:T) (h:WT ps bs t) (hd:t.depth≤90) (hz:t.size≤1000):shD t.d=true∧shD (.tup [t.d,t.d])=true:=by
 obtain ⟨h1,h2,h3,h4,h5⟩:=zks hp hb t h
 refine ⟨zjs (B:=18000) h1 h2 (by omega) h4 (by omega) (by decide) ?_,zjs (B:=100000) ?_ ?_ ?_ ?_ ?_ (by decide) (.inr (.inl ⟨_,rfl⟩))⟩
 ·cases t with
  | bl x=>exact .inl ⟨_,d_bl x⟩
  | nd s ts=>exact .inr (.inl ⟨_,d_nd s ts⟩)
 ·simp [plD,plDs,h1]
 ·simp [pyD,pyDs,PyData.showable,PyData.showableAll,h2]
 ·simp only [pyD,pyDs,PyData.depth,PyData.depthAll];omega
 ·simp only [pyD,pyDs,PyData.leavesShort,PyData.leavesShortAll,h4];rfl
 ·simp only [pyD,pyDs,PyData.weight,PyData.weightAll];omega
theorem sh_q:shD (.str "q")=true:=zjs (B:=100) (by rfl) (by rfl) (by simp [pyD,PyData.depth]) (zdL ⟨by decide +kernel,by decide +kernel⟩) (by simp only [pyD,PyData.weight];decide +kernel) (by decide) (.inl ⟨_,rfl⟩)
theorem zmh:shD (.lst [])=true:=zjs (B:=100) (by rfl) (by simp [pyD,pyDs,PyData.showable,PyData.showableAll]) (by simp [pyD,pyDs,PyData.depth,PyData.depthAll]) (by simp [pyD,pyDs,PyData.leavesShort,PyData.leavesShortAll]) (by simp [pyD,pyDs,PyData.weight,PyData.weightAll]) (by decide) (.inr (.inr ⟨_,rfl⟩))
theorem zeL (t:T):zan t []=some t:=by cases t<;>rfl
theorem zfJ {t:T}{a:Int} {p:List Int}(h:a < 0∨(t.kids.length:Int)≤a):zan t (a::p)=none:=by
 cases t with
 | bl x=>rfl
 | nd s ts=>
  simp only [T.kids] at h
  simp only [zan]
  split
  ·rw [List.getElem?_eq_none (by omega)]
  ·rfl
theorem zeK {t:T}{a:Int} {p:List Int}(h0:0≤a) (h:a < (t.kids.length:Int)):∃ s ts c,t=.nd s ts∧ts[a.toNat]?=some c∧zan t (a::p)=zan c p∧wayT t (a::p)=t::wayT c p:=by
 cases t with
 | bl x=>simp [T.kids] at h;omega
 | nd s ts=>
  simp only [T.kids] at h
  have e:ts[a.toNat]?=some (ts[a.toNat]'(by omega)):=List.getElem?_eq_getElem (by omega)
  exact ⟨s,ts,_,rfl,e,zec h0 e,zeU e⟩
noncomputable def dn (k:Option Sl):Prop:=k=none∨∃ d,k=some (.dat d)
theorem wayE (t0 P:D) (hP:shD P=true):∀ (p:List Int) (t:T) (A:List T) (k j:Option Sl),dn k→dn j→A.length + p.length≤1000→
  ((∃ u,zan t p=some u)∧∃ k' j',dn k'∧dn j'∧forM (gN 3) (zbl zae FUEL) (p.map D.int) [some (.dat t0),some (.dat P),some (.own (.lst ((A++[t]).map T.d))),k,j]=some (.nx [some (.dat t0),some (.dat P),some (.own (.lst ((A++wayT t p).map T.d))),k',j']))∨
  (zan t p=none∧∃ ρ',forM (gN 3) (zbl zae FUEL) (p.map D.int) [some (.dat t0),some (.dat P),some (.own (.lst ((A++[t]).map T.d))),k,j]=some (.rs "NoPlace" P ρ'))
 | [],t,A,k,j,hk,hj,_=>.inl ⟨⟨t,zeL t⟩,k,j,hk,hj,by cases t<;>simp [forM,wayT]⟩
 | a::p,t,A,k,j,hk,hj,hl=>by
  rw [List.length_cons] at hl
  have ei:=zdp t
  have al:atI (A.map T.d++[t.d]) (-1)=some t.d:=zdN _ _
  by_cases hx:a < 0∨(t.kids.length:Int)≤a
  ·refine .inr ⟨zfJ hx,[some (.dat t0),some (.dat P),some (.own (.lst ((A++[t]).map T.d))),some (.dat (.int a)),some (.dat (.tup (t.kids.map T.d)))],?_⟩
   by_cases h0:a < 0
   ·rcases hk with rfl | ⟨d,rfl⟩<;>rcases hj with rfl | ⟨d',rfl⟩<;>simp! [forM,al,ei,h0,rsM,hP]
   ·have h1:(t.kids.length:Int)≤a:=by omega
    rcases hk with rfl | ⟨d,rfl⟩<;>rcases hj with rfl | ⟨d',rfl⟩<;>simp! [forM,al,ei,h0,h1,rsM,hP]
  ·have h0:¬ a < 0:=by omega
   have h1:¬ (t.kids.length:Int)≤a:=by omega
   obtain ⟨s,ts,c,rfl,e2,e3,e4⟩:=zeK (t:=t) (a:=a) (p:=p) (by omega) (by omega)
   have g3:atI (ts.map T.d) a=some c.d:=by
    have e3:a=((a.toNat:Nat):Int):=by omega
    rw [e3]
    exact zbp (by simp [e2])
   have z1:A.length + 1 < 1000000:=by omega
   have ih:=wayE t0 P hP p c (A++[T.nd s ts]) (some (.dat (.int a))) (some (.dat (.tup (ts.map T.d)))) (.inr ⟨_,rfl⟩) (.inr ⟨_,rfl⟩) (by simp;omega)
   have st:forM (gN 3) (zbl zae FUEL) ((a::p).map D.int) [some (.dat t0),some (.dat P),some (.own (.lst ((A++[T.nd s ts]).map T.d))),k,j]=forM (gN 3) (zbl zae FUEL) (p.map D.int) [some (.dat t0),some (.dat P),some (.own (.lst ((A++[T.nd s ts]++[c]).map T.d))),some (.dat (.int a)),some (.dat (.tup (ts.map T.d)))]:=by
    simp only [T.kids] at h1 ei
    rcases hk with rfl | ⟨d,rfl⟩<;>rcases hj with rfl | ⟨d',rfl⟩<;>simp! [forM,al,ei,h0,h1,g3,z1]
   rw [st,e3,e4]
   rw [show A++(T.nd s ts::wayT c p)=A++[T.nd s ts]++wayT c p by simp]
   exact ih
theorem zhe (t:T) (p:List Int) (hp:p.length≤90) (hi:∀ i∈p,okI i):zbw [t.d,pD p]=some (if (zan t p).isSome=true then .ok (.lst ((wayT t p).map T.d)) else .ex "NoPlace" (pD p)):=by
 rcases wayE t.d (pD p) (zmg p hi (by omega)) p t [] none none (.inl rfl) (.inl rfl) (by simp;omega) with ⟨⟨u,e⟩,k,j,hk,hj,f⟩ | ⟨e,ρ',f⟩
 ·simp only [List.nil_append] at f
  unfold pD at f ⊢
  simp only [List.map_cons,List.map_nil] at f
  simp! [zbw,runR,f,e]
 ·simp only [List.nil_append] at f
  unfold pD at f ⊢
  simp only [List.map_cons,List.map_nil] at f
  simp! [zbw,runR,f,e]
theorem zjn {t u:T}{p:List Int} (h:zan t p=some u):atI ((wayT t p).map T.d) (-1)=some u.d:=by
 have hl:=zcC p t u h
 have w:=zcD p t u h p.length (Nat.le_refl _)
 rw [List.take_length,h] at w
 have el:wayT t p=(wayT t p).take p.length++[u]:=by
  have i1:p.length < (wayT t p).length:=by omega
  have:=List.take_succ_eq_append_getElem i1
  rw [List.take_of_length_le (by omega)] at this
  rw [List.getElem?_eq_getElem i1] at w
  rw [Option.some.inj w] at this
  exact this
 rw [el,List.map_append,List.map_cons,List.map_nil]
 exact zdN _ _
theorem ziU {t u:T}{p:List Int} (h:zan t p=some u) (hp:p.length≤90) (hi:∀ i∈p,okI i):zaD [t.d,pD p]=some (.ok u.d):=by
 have e:=zhe t p hp hi
 rw [h] at e
 have al:=zjn h
 simp only [Option.isSome_some,if_true] at e
 simp! [zaD,runR,orR,okm,e,al]
theorem zlJ {t:T}{p:List Int} (h:zan t p=none) (hp:p.length≤90) (hi:∀ i∈p,okI i):zaD [t.d,pD p]=some (.ex "NoPlace" (pD p)):=by
 have e:=zhe t p hp hi
 rw [h] at e
 simp only [Option.isSome_none,Bool.false_eq_true,if_false] at e
 simp! [zaD,runR,orR,okm,exm,rL,e]
theorem znk {t:T}{n:D} {p:List Int}(h:zan t p=none) (hp:p.length≤90) (hi:∀ i∈p,okI i):zbM [t.d,pD p,n]=some (.ex "NoPlace" (pD p)):=by
 have e:=zhe t p hp hi
 rw [h] at e
 simp only [Option.isSome_none,Bool.false_eq_true,if_false] at e
 simp! [zbM,runR,orR,okm,exm,rL,e]
theorem znl {t u n:T}{p:List Int} (h:zan t p=some u) (hp:p.length≤90) (hi:∀ i∈p,okI i) (hz:t.size≤1000):zbM [t.d,pD p,n.d]=some (.ok (putT t p n).d):=by
 have e:=zhe t p hp hi
 have e2:=znj t u p h (by omega)
 rw [h] at e
 simp only [Option.isSome_some,if_true] at e
 have k:=zkg t u n p h (by omega) hz
 have eb:zcG zbw FUEL (zaz 7 [t.d,pD p,n.d])=zek zas FUEL (zaz 7 [t.d,pD p,n.d]):=by
  simp! [orR,okm,e,e2]
 unfold zaX runF at k
 unfold zbM runR
 rw [eb]
 simp only [List.length_cons,List.length_nil] at k ⊢
 cases f:zek zas FUEL (zaz 7 [t.d,pD p,n.d]) with
 | none=>rw [f] at k;simp at k
 | some fl=>
  rw [f] at k
  cases fl<;>simp at k ⊢
  exact k
theorem hasE (P:D):∀ (p:List Int) (t:T) (k:Option Sl),
  if (zan t p).isSome=true then ∃ c k',forM (gN 2) (zbN FUEL) (p.map D.int) [some (.dat t.d),some (.dat P),k]=some (.nx [some (.dat c),some (.dat P),k'])
  else ∃ ρ',forM (gN 2) (zbN FUEL) (p.map D.int) [some (.dat t.d),some (.dat P),k]=some (.rt (.bl false) ρ')
 | [],t,k=>by rw [zeL];exact ⟨t.d,k,rfl⟩
 | a::p,t,k=>by
  by_cases hx:a < 0∨(t.kids.length:Int)≤a
  ·rw [zfJ hx,if_neg (by decide)]
   refine ⟨[some (.dat t.d),some (.dat P),some (.dat (.int a))],?_⟩
   cases t with
   | bl x=>simp! [forM,d_bl]
   | nd s ts=>
    simp only [T.kids] at hx
    by_cases h0:a < 0
    ·simp! [forM,d_nd,h0]
    ·have h1:((ts.length:Int) + 1)≤a + 1:=by omega
     have h2:(ts.length:Int)≤a:=by omega
     simp! [forM,d_nd,h0,h1,h2]
  ·have h0:¬ a < 0:=by omega
   obtain ⟨s,ts,c,rfl,e2,e3,_⟩:=zeK (t:=t) (a:=a) (p:=p) (by omega) (by omega)
   simp only [T.kids] at hx
   have h1:¬ ((ts.length:Int) + 1)≤a + 1:=by omega
   have h2:¬ (ts.length:Int)≤a:=by omega
   have g3:atI (D.str s::ts.map T.d) (1 + a)=some c.d:=by
    have e3:(1:Int) + a=((a.toNat + 1:Nat):Int):=by omega
    rw [e3]
    exact zbp (by simp [e2])
   have ih:=hasE P p c (some (.dat (.int a)))
   have st:forM (gN 2) (zbN FUEL) ((a::p).map D.int) [some (.dat (T.nd s ts).d),some (.dat P),k]=forM (gN 2) (zbN FUEL) (p.map D.int) [some (.dat c.d),some (.dat P),some (.dat (.int a))]:=by
    simp! [forM,d_nd,h0,h1,h2,g3]
   rw [st,e3]
   exact ih
theorem zlK (t:T) (p:List Int):zca [t.d,pD p]=some (.bl (zan t p).isSome):=by
 have h:=hasE (pD p) p t none
 cases e:zan t p with
 | none=>
  rw [e,if_neg (by decide)] at h
  obtain ⟨ρ',f⟩:=h
  unfold pD at f ⊢
  simp! [zca,f]
 | some u=>
  rw [e,if_pos (show (some u).isSome=true from rfl)] at h
  obtain ⟨c,k',f⟩:=h
  unfold pD at f ⊢
  simp! [zca,f]
theorem zhH {t:T}{p:List Int} {w:Int}(hw:w=0∨w=1) (hp:p.length≤90) (hi:∀ i∈p,okI i) (hz:t.size≤1000):zaE [.int w,t.d,pD p]=some (if (zan t p).isSome=true then .non else .exc "NoPlace" (pD p)):=by
 cases e:zan t p with
 | none=>
  have a1:=zlJ e hp hi
  have a2:=znk (n:=(T.bl "X").d) e hp hi
  rw [d_bl] at a2
  rcases hw with rfl | rfl
  ·simp! [zaE,tryM,orR,okm,exm,rL,a1,xcs,eqD,dep]
  ·simp! [zaE,tryM,orR,okm,exm,rL,a2,xcs,eqD,dep]
 | some u=>
  have a1:=ziU e hp hi
  have a2:=znl (n:=T.bl "X") e hp hi hz
  rw [d_bl] at a2
  rcases hw with rfl | rfl
  ·simp! [zaE,tryM,orR,okm,exm,rL,a1,xcs,eqD,dep]
  ·simp! [zaE,tryM,orR,okm,exm,rL,a2,xcs,eqD,dep]
theorem eq_pD (p:List Int):eqB (pD p) (pD p)=some (.bl true):=by
 have e:=zgG p p
 have d:=zhg p
 have d':depL (p.map D.int) + 1≤100:=by omega
 simp [eqB,pD,eqD,e,dep,d']
theorem zgI (p:List Int):zaP [.exc "NoPlace" (pD p),pD p]=some (.bl true):=by
 have e:=eq_pD p
 have n1:((Str.ofString "NoPlace") == (Str.ofString "NoRank"))=false:=by decide +kernel
 have n2:((Str.ofString "NoPlace") == (Str.ofString "NoRule"))=false:=by decide +kernel
 have n3:((Str.ofString "NoPlace") == (Str.ofString "TooLong"))=false:=by decide +kernel
 have n4:((Str.ofString "NoPlace") == (Str.ofString "TwoCounts"))=false:=by decide +kernel
 dsimp! [n1,n2,n3,n4,zaP,isiC,isiV,isiT,fldX,xcs,zaR,e]
theorem zkh {t:T}{q:List Int} (hq:q.length≤90) (hi:∀ i∈q,okI i) (hd:t.depth≤80) (h1:shD t.d=true) (h2:shD (.tup [t.d,t.d])=true):zbD [pD q,t.d]=some (.bl true):=by
 have s1:=zmg q hi (by omega)
 have s2:=sh_q
 have s3:=zmh
 have a1:=ne_pD q q
 simp only [decide_true,Bool.not_true] at a1
 have d:=zlL t
 have a2:neB (.tup [t.d,t.d]) (.tup [t.d,t.d])=some (.bl false):=by
  have e:=zkc t
  have d':max (dep t.d) (max (dep t.d) 0) + 1≤100:=by omega
  simp [neB,eqD,eqL,e,dep,depL]
  omega
 have a3:neB (.str "q") (.str "q")=some (.bl false):=by simp [neB,eqD,dep]
 have a4:eqB t.d t.d=some (.bl true):=by
  have e:=zkc t
  have d':dep t.d≤100:=by omega
  simp [eqB,e,d']
 have a5:eqB (.lst []) (.lst [])=some (.bl true):=by simp [eqB,eqD,eqL,dep,depL]
 have f1:zaR "NoPlace" = "place" := by decide +kernel
 have f2:zaR "NoRule" = "rule" := by decide +kernel
 have f3:zaR "TwoCounts" = "sign" := by decide +kernel
 have f4:zaR "TooLong" = "term" := by decide +kernel
 have f5:zaR "NoRank" = "rules" := by decide +kernel
 dsimp! [zbD,mkE,fldX,xcs,f1,f2,f3,f4,f5,s1,s2,s3,h1,h2,a1,a2,a3,a4,a5]
theorem zjM (t:T):t.kids.length≤t.size:=by
 have:=zbu t.kids
 rw [zfB];omega
theorem zlY:(10:Int) ^ 59=100000000000000000000000000000000000000000000000000000000000:=by decide +kernel
theorem ten9:(10:Int) ^ 9=1000000000:=by decide +kernel
theorem zeg {i:Int}(h1:-1000000000000000000000000000000000000000000000000000000000000≤i) (h2:i≤1000000000000000000000000000000000000000000000000000000000000):okI i:=by
 have e:(10:Nat) ^ 61=10000000000000000000000000000000000000000000000000000000000000:=by decide +kernel
 unfold okI
 rw [e];omega
theorem bads (m n:Int) (h0:0≤m) (h1:m≤2000):∃ b,atI [D.int m,.int (m + 1),.int (-1),.int (-1 - m),.int (100000000000000000000000000000000000000000000000000000000000 + n % 1000000000),.int (-1 - n % 100000000000000000000000000000000000000000000000000000000000)] (n / 16 % 6)=some (.int b)∧okI b:=by
 have a0:0≤n / 16 % 6:=Int.emod_nonneg _ (by decide)
 have a1:n / 16 % 6 < 6:=Int.emod_lt_of_pos _ (by decide)
 have b0:0≤n % 1000000000:=Int.emod_nonneg _ (by decide)
 have b1:n % 1000000000 < 1000000000:=Int.emod_lt_of_pos _ (by decide)
 have c0:0≤n % 100000000000000000000000000000000000000000000000000000000000:=Int.emod_nonneg _ (by decide)
 have c1:n % 100000000000000000000000000000000000000000000000000000000000 < 100000000000000000000000000000000000000000000000000000000000:=Int.emod_lt_of_pos _ (by decide)
 rcases (by omega:n / 16 % 6=0∨n / 16 % 6=1∨n / 16 % 6=2∨n / 16 % 6=3∨n / 16 % 6=4∨n / 16 % 6=5) with e | e | e | e | e | e
 ·rw [e];exact ⟨_,rfl,zeg (by omega) (by omega)⟩
 ·rw [e];exact ⟨_,rfl,zeg (by omega) (by omega)⟩
 ·rw [e];exact ⟨_,rfl,zeg (by omega) (by omega)⟩
 ·rw [e];exact ⟨_,rfl,zeg (by omega) (by omega)⟩
 ·rw [e];exact ⟨_,rfl,zeg (by omega) (by omega)⟩
 ·rw [e];exact ⟨_,rfl,zeg (by omega) (by omega)⟩
theorem zhX (q:List Int) (k:Nat):zaA (pD q) (some (k:Int)) none=some (pD (q.drop k)):=by
 unfold pD zaA
 simp only
 rw [zgL]
 by_cases h:k≤q.length
 ·rw [zkH q _ (by omega) (by omega),Int.toNat_natCast]
 ·rw [zfq,HT.sIx_nat,List.drop_of_length_le (by omega),List.drop_of_length_le (by omega)]
theorem zkI (p q:List Int) (h:p.length + q.length≤1000):addD (pD p) (pD q)=some (pD (p++q)):=by
 have h':p.length + q.length≤1000000:=by omega
 simp! [addD,catD,pD,h']
theorem zgH {t u:T}{p:List Int} (n:Int) (h:zan t p=some u) (hp:p.length≤80) (hi:∀ i∈p,okI i) (hz:t.size≤1000):∃ q,zaO [t.d,pD p,.int n]=some (pD q)∧q.length≤90∧∀ i∈q,okI i:=by
 have i0:0≤n % ((p.length:Int) + 1):=Int.emod_nonneg _ (by omega)
 have i1:n % ((p.length:Int) + 1) < (p.length:Int) + 1:=Int.emod_lt_of_pos _ (by omega)
 have om:zff ((p.length:Int) + 1):=by show (0:Int) < _;omega
 obtain ⟨i,ei⟩:∃ i:Nat,n % ((p.length:Int) + 1)=(i:Int):=⟨(n % ((p.length:Int) + 1)).toNat,by omega⟩
 obtain ⟨c,hc⟩:=zea h i
 have k1:=ziV t c (p.take i) hc
 have k2:=zjr p i
 have k3:=zhX p (i + 1)
 have cs:=zcV _ _ _ hc
 have ck:=zjM c
 have lp:lenD [pD p]=some (.int p.length):=by simp [lenD,pD]
 obtain ⟨b,e1,hb⟩:=bads (c.kids.length:Int) n (by omega) (by omega)
 have z1:=zkI (p.take i) [b] (by simp;omega)
 have z2:=zkI (p.take i++[b]) (p.drop (i + 1)) (by simp;omega)
 have mk:zbW [D.int b]=some (pD [b]):=rfl
 have ok1:zff (10 ^ 59:Int):=by rw [zlY];show (0:Int) < _;decide
 have m6:∀ j∈p.take i++[b],okI j:=fun j hj=>by
  rcases List.mem_append.mp hj with z | z
  ·exact hi j (List.mem_of_mem_take z)
  ·rw [List.mem_singleton.mp z];exact hb
 have push:((i + 1:Nat):Int)=(i:Int) + 1:=by omega
 rw [push] at k3
 have ke:(ifM (upT (cT (c1 (isiD "tuple") (gb 4)))) (setM 5 (c2 subD (cL lenD (zab (gb 4) nilF)) (cst (.int 1)))) nxM) [some (.dat t.d),some (.dat (pD p)),some (.dat (.int n)),some (.dat (.int i)),some (.dat c.d),some (.dat (.int 0)),none]=some (.nx [some (.dat t.d),some (.dat (pD p)),some (.dat (.int n)),some (.dat (.int i)),some (.dat c.d),some (.dat (.int c.kids.length)),none]):=by
  cases c with
  | bl x=>simp! [d_bl,T.kids]
  | nd s ts=>simp! [d_nd,T.kids]
 have p1:powD (.int 10) (.int 59)=some (.int 100000000000000000000000000000000000000000000000000000000000):=by simp [powD,zbt,zlY]
 have p2:powD (.int 10) (.int 9)=some (.int 1000000000):=by simp [powD,zbt,ten9]
 unfold zaO zbC
 generalize hM:ifM (upT (cT (c1 (isiD "tuple") (gb 4)))) (setM 5 (c2 subD (cL lenD (zab (gb 4) nilF)) (cst (.int 1)))) nxM=M at ke ⊢
 have ok1:zff (100000000000000000000000000000000000000000000000000000000000:Int):=by show (0:Int) < _;decide
 have ok9:zff (1000000000:Int):=by show (0:Int) < _;decide
 have addI:∀ a b:Int,addD (.int a) (.int b)=some (.int (a + b)):=fun _ _=>rfl
 by_cases h8:n / 8 % 2=0
 ·refine ⟨p.take i++[b],?_,by simp;omega,m6⟩
  simp [lp,addI,om,ei,k1,k2,k3,ke,p1,p2,e1,ok1,ok9,h8,z1,mk,eqD,dep,runF,zaz,seqM,setM,setO,zei,asgM,asgX,zeG,zes,retM,retO,retN,ifM,upT,cT,cTr,truD,andP,orP,notP,andV,orV,notV,c1,c2,cL,cS,zab,nilF,cst,gv,gb,gN,gNil,zbJ,gTup,zbk,zaY,zbz,yesP,cI,cR1,cR2,cEnT,forS,itS,rng1,rng2,appM,extM,popM,zdY,zbc,nxM,isiD,tyN,isiB,lim,bors,st0E,negD,revX,revD,zcO,zgy,idxD,zdT,subD,mulD,divD,modD,cmpI,geD,isB,zcT,isNon,absD,intD,runX,zdC,zgM,retX,putM,zgp,keyD,frzM,c3,zgD,zgK,zgJ,cSg,zgB,itS,Sl.inn,Sl.own,zeD,eqB,neB,inB,zeh,zcX,zcY,zbV,zbU,zbt,zbB,at0,at1,at2,at3]
 ·refine ⟨p.take i++[b]++p.drop (i + 1),?_,by simp;omega,fun j hj=>?_⟩
  ·simp [lp,addI,om,ei,k1,k2,k3,ke,p1,p2,e1,ok1,ok9,h8,z1,z2,mk,eqD,dep,runF,zaz,seqM,setM,setO,zei,asgM,asgX,zeG,zes,retM,retO,retN,ifM,upT,cT,cTr,truD,andP,orP,notP,andV,orV,notV,c1,c2,cL,cS,zab,nilF,cst,gv,gb,gN,gNil,zbJ,gTup,zbk,zaY,zbz,yesP,cI,cR1,cR2,cEnT,forS,itS,rng1,rng2,appM,extM,popM,zdY,zbc,nxM,isiD,tyN,isiB,lim,bors,st0E,negD,revX,revD,zcO,zgy,idxD,zdT,subD,mulD,divD,modD,cmpI,geD,isB,zcT,isNon,absD,intD,runX,zdC,zgM,retX,putM,zgp,keyD,frzM,c3,zgD,zgK,zgJ,cSg,zgB,itS,Sl.inn,Sl.own,zeD,eqB,neB,inB,zeh,zcX,zcY,zbV,zbU,zbt,zbB,at0,at1,at2,at3]
  ·rcases List.mem_append.mp hj with z | z
   ·exact m6 j z
   ·exact hi j (List.mem_of_mem_drop z)
theorem zgX:∀ (p:List Int) (t u:T),zan t p=some u→t.size≤1000→∀ i∈p,okI i
 | [],t,u,_,_=>by simp
 | k::p,t,u,h,hz=>by
  obtain ⟨s,ts,c,rfl,h0,e,h2⟩:=zaB h
  have h3:=zbQ (List.mem_of_getElem? e)
  have h4:=zbu ts
  have h5:k.toNat < ts.length:=(List.getElem?_eq_some_iff.mp e).1
  rw [T.size] at hz
  intro i hi
  rcases List.mem_cons.mp hi with rfl | hi
  ·exact zeg (by omega) (by omega)
  ·exact zgX p c u h2 (by omega) i hi
theorem FACT04:∀ ns:List Int,ns.length≤63→m_law04 [.scr ns]=some (.bl true):=by
 intro ns hn
 have c0:=zkF ns 0 (by omega)
 have c1':=zkF ns 1 (by omega)
 obtain ⟨ps,s1,S,sL⟩:=zkf (cellOf ns 0)
 obtain ⟨bs,b1,b2,b3,bU⟩:=ziX (cellOf ns 1)
 have cl:(cutG ns (some 2) (some 31)).length≤63:=by
  unfold cutG
  rw [List.length_take,List.length_drop];omega
 have cl2:(cutG ns (some 1) (some 20)).length≤63:=by
  unfold cutG
  rw [List.length_take,List.length_drop];omega
 generalize hcs:cutG ns (some 2) (some 31)=cs at cl
 generalize hds:cutG ns (some 1) (some 20)=ds at cl2
 have hz:1 + cs.length≤1000000:=by omega
 have hz':cs.length + 1≤1000000:=by omega
 have hy:2 + ds.length≤1000000:=by omega
 have hy':ds.length + 2≤1000000:=by omega
 have w1:zch (gN 0) yesP (zeT zam zak zap zac zbD zao zaO zaE zca zaP zaD zai FUEL) [none] (.int 3::cs.map D.int)=some (((3::cs).map fun c=>c * 1000000007 % 2147483647).map D.int):=by
  refine zcK (by simp) fun i x y hx hy=>?_
  have hx:((3::cs).map D.int)[i]?=some x:=hx
  rw [List.getElem?_map] at hx
  rw [List.map_map,List.getElem?_map] at hy
  cases e:(3::cs)[i]? with
  | none=>rw [e] at hx;cases hx
  | some c=>
   rw [e] at hx hy
   cases hx;cases hy
   exact ⟨_,rfl,rfl,by simp [runF,zaz,seqM,setM,setO,zei,asgM,asgX,zeG,zes,retM,retO,retN,ifM,upT,cT,cTr,truD,andP,orP,notP,andV,orV,notV,c1,c2,cL,cS,zab,nilF,cst,gv,gb,gN,gNil,zbJ,gTup,zbk,zaY,zbz,yesP,cI,cR1,cR2,cEnT,forS,itS,rng1,rng2,appM,extM,popM,zdY,zbW,zbc,nxM,isiD,tyN,isiB,lim,bors,st0E,negD,revX,revD,zcO,zgy,lenD,idxD,zaA,zdT,addD,catD,subD,mulD,divD,modD,powD,cmpI,geD,isB,zcT,isNon,absD,intD,runX,zdC,zgM,retX,putM,zgp,keyD,frzM,c3,zgD,zgK,zgJ,cSg,zgB,itS,Sl.inn,Sl.own,zeD,eqB,neB,inB,zeh,zcX,zcY,zbV,zbU,zbt,zbB,at0,at1,at2,at3]⟩
 have nl:((3::cs).map fun c=>c * 1000000007 % 2147483647).length=cs.length + 1:=by simp
 generalize ((3::cs).map fun c=>c * 1000000007 % 2147483647)=nums at w1 nl
 obtain ⟨t,t1,t2,t3,tW⟩:=zlH nums ps bs 12 S b2 (by omega) (by decide) (by decide) (by omega) (by omega)
 obtain ⟨sh1,sh2⟩:=sh_T (fun p hp=>zmK (sL p hp) (S.wd p hp)) (fun x hx=>zmJ (bU x hx)) t tW (by omega) (by omega)
 have p1:zac [t.d]=some (.lst ((plc t).map pD)):=zhf 100 t (by omega) (by omega) (by omega)
 have pl:=zeZ t
 have tp:=zgP t
 have td:t.depth≤12:=by omega
 have tz:t.size≤1000:=by omega
 have plok:∀ q∈plc t,(∃ u,zan t q=some u)∧q.length≤12∧∀ i∈q,okI i:=fun q hq=>by
  obtain ⟨u,hu⟩:=zkw t q hq
  have:=zeb q t u hu
  exact ⟨⟨u,hu⟩,by omega,zgX q t u hu tz⟩
 have at_:∀ k:Int,∃ q∈plc t,atI ((plc t).map pD) (k % ((plc t).length:Int))=some (pD q):=fun k=>by
  have q0:0≤k % ((plc t).length:Int):=Int.emod_nonneg _ (by omega)
  have q1:k % ((plc t).length:Int) < ((plc t).length:Int):=Int.emod_lt_of_pos _ (by omega)
  refine ⟨(plc t)[(k % ((plc t).length:Int)).toNat]'(by omega),List.getElem_mem _,?_⟩
  rw [zgf q0 (by simpa using q1),List.getElem?_map,List.getElem?_eq_getElem (by omega)]
  rfl
 obtain ⟨lq,hlq,elq⟩:∃ q∈plc t,atI ((plc t).map pD) (-1)=some (pD q):=by
  have hne:plc t≠[]:=fun z=>by rw [z] at pl;simp at pl;omega
  refine ⟨(plc t).getLast hne,List.getLast_mem hne,?_⟩
  have e:(plc t).map pD=(plc t).dropLast.map pD++[pD ((plc t).getLast hne)]:=by
   have:=congrArg (List.map pD) (List.dropLast_concat_getLast hne)
   rw [List.map_append,List.map_cons,List.map_nil] at this
   exact this.symm
  rw [e];exact zdN _ _
 have hmod:zff ((plc t).length:Int):=by show (0:Int) < _;omega
 generalize hP:(plc t).map pD=P at p1 at_ elq
 have hPl:P.length=(plc t).length:=by rw [← hP,List.length_map]
 rw [← hPl] at hmod at_
 have l0:lenD [.lst P]=some (.int P.length):=rfl
 obtain ⟨ρ',f1,a,b,c,d,rfl⟩:=zdo (g:=gN 6) (b:=zeN zam zak zap zac zbD zao zaO zaE zca zaP zaD zai FUEL) (xs:=(3::40::ds).map D.int) (ρ:=[some (.dat (.scr ns)),some (.dat (.lst (ps.map sd))),some (.dat (.lst (bs.map D.str))),some (.dat (.lst (nums.map D.int))),some (.dat t.d),some (.dat (.lst P)),none,none,none,none])
  (fun i ρ=>∃ (a b c d:Option Sl),ρ=[some (.dat (.scr ns)),some (.dat (.lst (ps.map sd))),some (.dat (.lst (bs.map D.str))),some (.dat (.lst (nums.map D.int))),some (.dat t.d),some (.dat (.lst P)),a,b,c,d]) ⟨none,none,none,none,rfl⟩ (by
   rintro i x ρ hx ⟨a,b,c,d,rfl⟩
   obtain ⟨x,_,rfl⟩:=List.mem_map.mp (List.mem_of_getElem? hx)
   obtain ⟨bq,hbq,ebq⟩:=at_ (x / 3)
   obtain ⟨⟨bu,hbu⟩,bl1,bl2⟩:=plok bq hbq
   obtain ⟨sq,esq,sl1,sl2⟩:=zgH (x / 3) hbu (by omega) bl2 tz
   have turns:∀ (q:List Int) (c d:Option Sl),q.length≤90→(∀ i∈q,okI i)→∃ c' d',forM (gN 8) (zdw zam zak zap zac zbD zao zaO zaE zca zaP zaD zai FUEL) [.int (x % 2),.int (1 - x % 2)] [some (.dat (.scr ns)),some (.dat (.lst (ps.map sd))),some (.dat (.lst (bs.map D.str))),some (.dat (.lst (nums.map D.int))),some (.dat t.d),some (.dat (.lst P)),some (.dat (.int x)),some (.dat (pD q)),c,d]=some (.nx [some (.dat (.scr ns)),some (.dat (.lst (ps.map sd))),some (.dat (.lst (bs.map D.str))),some (.dat (.lst (nums.map D.int))),some (.dat t.d),some (.dat (.lst P)),some (.dat (.int x)),some (.dat (pD q)),c',d']):=fun q c d hq1 hq2=>by
    have x0:0≤x % 2:=Int.emod_nonneg _ (by decide)
    have x1:x % 2 < 2:=Int.emod_lt_of_pos _ (by decide)
    obtain ⟨ρ',g1,c',d',rfl⟩:=zdo (g:=gN 8) (b:=zdw zam zak zap zac zbD zao zaO zaE zca zaP zaD zai FUEL) (xs:=[.int (x % 2),.int (1 - x % 2)]) (ρ:=[some (.dat (.scr ns)),some (.dat (.lst (ps.map sd))),some (.dat (.lst (bs.map D.str))),some (.dat (.lst (nums.map D.int))),some (.dat t.d),some (.dat (.lst P)),some (.dat (.int x)),some (.dat (pD q)),c,d])
     (fun i ρ=>∃ c d,ρ=[some (.dat (.scr ns)),some (.dat (.lst (ps.map sd))),some (.dat (.lst (bs.map D.str))),some (.dat (.lst (nums.map D.int))),some (.dat t.d),some (.dat (.lst P)),some (.dat (.int x)),some (.dat (pD q)),c,d]) ⟨c,d,rfl⟩ (by
      rintro j y ρ hy ⟨c,d,rfl⟩
      obtain ⟨w,rfl,hw⟩:∃ w,y=.int w∧(w=0∨w=1):=by
       have:=List.mem_of_getElem? hy
       simp only [List.mem_cons,List.not_mem_nil,or_false] at this
       rcases this with rfl | rfl
       ·exact ⟨_,rfl,by omega⟩
       ·exact ⟨_,rfl,by omega⟩
      have k1:=zhH (t:=t) (p:=q) hw hq1 hq2 tz
      have k2:=zlK t q
      cases e:zan t q with
      | none=>
       have k3:=zgI q
       rw [e] at k1 k2
       simp only [Option.isSome_none,Bool.false_eq_true,if_false] at k1 k2
       refine ⟨[some (.dat (.scr ns)),some (.dat (.lst (ps.map sd))),some (.dat (.lst (bs.map D.str))),some (.dat (.lst (nums.map D.int))),some (.dat t.d),some (.dat (.lst P)),some (.dat (.int x)),some (.dat (pD q)),some (.dat (.int w)),some (.dat (.exc "NoPlace" (pD q)))],.inl ?_,_,_,rfl⟩
       simp! [k1,k2,k3]
      | some u=>
       rw [e] at k1 k2
       simp only [Option.isSome_some,if_true] at k1 k2
       have k3:=ziU e hq1 hq2
       have k4:=ziV t u q e
       have k5:=ne_dT (t:=u) (by have:=zdF q t u e;omega)
       refine ⟨[some (.dat (.scr ns)),some (.dat (.lst (ps.map sd))),some (.dat (.lst (bs.map D.str))),some (.dat (.lst (nums.map D.int))),some (.dat t.d),some (.dat (.lst P)),some (.dat (.int x)),some (.dat (pD q)),some (.dat (.int w)),some (.dat .non)],.inl ?_,_,_,rfl⟩
       dsimp! [k1,k2,k3,k4,k5,okm])
    exact ⟨c',d',g1⟩
   by_cases hx3:x % 3 > 0
   ·obtain ⟨c',d',g1⟩:=turns sq c d sl1 sl2
    refine ⟨[some (.dat (.scr ns)),some (.dat (.lst (ps.map sd))),some (.dat (.lst (bs.map D.str))),some (.dat (.lst (nums.map D.int))),some (.dat t.d),some (.dat (.lst P)),some (.dat (.int x)),some (.dat (pD sq)),c',d'],.inl ?_,_,_,_,_,rfl⟩
    simp [l0,hmod,ebq,hx3,esq,g1,runF,zaz,seqM,setM,setO,zei,asgM,asgX,zeG,zes,retM,retO,retN,ifM,upT,cT,cTr,truD,andP,orP,notP,andV,orV,notV,c1,c2,cL,cS,zab,nilF,cst,gv,gb,gN,gNil,zbJ,gTup,zbk,zaY,zbz,yesP,cI,cR1,cR2,cEnT,forS,itS,rng1,rng2,appM,extM,popM,zdY,zbW,zbc,nxM,isiD,tyN,isiB,lim,bors,st0E,negD,revX,revD,zcO,zgy,idxD,zdT,addD,catD,subD,mulD,divD,modD,powD,cmpI,geD,isB,zcT,isNon,absD,intD,runX,zdC,zgM,retX,putM,zgp,keyD,frzM,c3,zgD,zgK,zgJ,cSg,zgB,itS,Sl.inn,Sl.own,zeD,inB,zeh,zcX,zcY,zbV,zbU,zbt,zbB,at0,at1,at2,at3]
   ·obtain ⟨c',d',g1⟩:=turns bq c d (by omega) bl2
    refine ⟨[some (.dat (.scr ns)),some (.dat (.lst (ps.map sd))),some (.dat (.lst (bs.map D.str))),some (.dat (.lst (nums.map D.int))),some (.dat t.d),some (.dat (.lst P)),some (.dat (.int x)),some (.dat (pD bq)),c',d'],.inl ?_,_,_,_,_,rfl⟩
    simp [l0,hmod,ebq,hx3,g1,runF,zaz,seqM,setM,setO,zei,asgM,asgX,zeG,zes,retM,retO,retN,ifM,upT,cT,cTr,truD,andP,orP,notP,andV,orV,notV,c1,c2,cL,cS,zab,nilF,cst,gv,gb,gN,gNil,zbJ,gTup,zbk,zaY,zbz,yesP,cI,cR1,cR2,cEnT,forS,itS,rng1,rng2,appM,extM,popM,zdY,zbW,zbc,nxM,isiD,tyN,isiB,lim,bors,st0E,negD,revX,revD,zcO,zgy,idxD,zdT,addD,catD,subD,mulD,divD,modD,powD,cmpI,geD,isB,zcT,isNon,absD,intD,runX,zdC,zgM,retX,putM,zgp,keyD,frzM,c3,zgD,zgK,zgJ,cSg,zgB,itS,Sl.inn,Sl.own,zeD,inB,zeh,zcX,zcY,zbV,zbU,zbt,zbB,at0,at1,at2,at3])
 obtain ⟨_,lq1,lq2⟩:=plok lq hlq
 have mf:=zkh (t:=t) (q:=lq) (by omega) lq2 (by omega) sh1 sh2
 simp only [List.map_cons] at f1
 simp! [m_law04,c0,c1',s1,b1,hcs,hds,hz,hz',hy,hy',w1,t1,p1,f1,elq,mf]
noncomputable abbrev pwk:Program:=PySem.Challenge.pw_endmeet_k04_no_place
noncomputable abbrev rwk:PySem.W.OpenLaw:=PySem.Challenge.rw_endmeet_k04_no_place
noncomputable def fnI:List Nat:=[8,9,10,11,12,14,15,16,17,18,22,23,24,25,26,27,28,29,30,31]
noncomputable def qwk:Program:={ pwk with main:={ pwk.main with body:=[topS pwk 31] } }
noncomputable def lzk:List Str:=pwk.main.body.dropLast.filterMap fun st=>match st with
 | .FunctionDef n ..=>some n
 | .ClassDef n ..=>some n
 | .Assign [.Name n _] _ _=>if n == "__name__" then none else some n
 | _=>none
noncomputable def clI:List Nat:=[1,2,3,4,5,6]
noncomputable def xcl:List Str:=["NoPlace", "NoRule", "TwoCounts", "TooLong", "NoRank"]
section
variable {P:Program}{w:World} {K:PySem.W.Frag}{mg:Str→Option Value} {base:Heap}
theorem zbb:(["_law_k", "_law_letters", "_law_number"]:List Str).Nodup:=by decide +kernel
theorem zcZ:(["_law_k", "_law_base"]:List Str).Nodup:=by decide +kernel
theorem zay:(["_law_k", "_law_base", "_law_letters", "_law_at", "_law_number"]:List Str).Nodup:=by decide +kernel
theorem zax:zar ["_law_cell_here", "_law_letters", "_law_number", "_law_base", "_law_k", "_law_at"] ["_law_cell_here"] (zah (topS pwk 15)):=⟨rfl,rfl,rfl,by decide +kernel,rfl,by decide +kernel,by decide +kernel⟩
set_option maxHeartbeats 4000000 in
theorem zfb {k:Nat}{f:Addr} {fd:FuncData}(B:Glb mg) (Fn:Fun K "_law_words" "_law_words" (topS pwk 15) f fd):FnOk P w K mg base CX0 (k + 1) f fd ["_law_cell_here"] (SpD K .ow (runF (zbX  FUEL) 1 6)):=
 zct Fn zax (mb:=zbX ) (fun n cdv A outer s H E hr=>(sseq (sset 1 zax.nd fstr) (sseq (sset 2 zax.nd (fop zbj (FP.br (fop zin (fb 0) (FP.br fint))) (FP.br (fop zjE (FP.br fint) (FP.br fint))))) (sseq (sset 3 zax.nd fstr) (sseq (sfor PassesOwn.never rfl (zde (fop zbj (fb 2) (FP.br fint)) rfl B.range) (zby 4 zax.nd) (sseq (sset 3 zax.nd (fop zaW (fb 3) (FP.br (fix p_ix (fb 1) (FP.br (fop zbj (FP.br (fop zcW (fb 2) (FP.br fint))) (FP.br fint))) (fun _ _=>rfl))))) (sone (sset 2 zax.nd (fop zcW (fb 2) (FP.br fint)))))) (sseq (sset 5 zax.nd (fop zbj (FP.br (fop zcW (fb 2) (FP.br fint))) (FP.br (fop zaW (FP.br (zbE (zdy) rfl B.len PySem.boot_len (zdf (fb 3) fnil))) (FP.br fint))))) (sseq (sif (FTp.up (tcmp (p_eq (u100 hr)) (FP.br (fop zbj (fb 2) (FP.br fint))) (FP.br fint) (zaH _))) (sseq (sset 3 zax.nd (fjoin fstr (FP.ob (zfn ["_law_k", "_law_letters", "_law_number"] [none,some 1,some 2] (.own (.cap (.cap .nil))) rfl (zde fint rfl B.range) (fun _ _ _ _=>(zby 0 zbb)) (fun _ _ _ _=>pif0) (fun _ _ _ _=>(fix p_ix (fb 1) (FP.br (fop zbj (FP.br (fop zcW (fb 2) (FP.br (fop zaW (FP.br fint) (FP.br (fop zin (fb 0) (fb 0))))))) (FP.br fint))) (fun _ _=>rfl))))))) (sone (zgl (zfn ["_law_k", "_law_base"] [none,some 3] (.own (.cap .nil)) rfl (zde fint rfl B.range) (fun _ _ _ _=>(zby 0 zcZ)) (fun _ _ _ _=>pif0) (fun _ _ _ _=>(zbm zaN (fb 1) zbv (zbe (fop zaW (fb 0) (FP.br fint))))))))) snil) (sone (zgl (zfn ["_law_k", "_law_base", "_law_letters", "_law_at", "_law_number"] [none,some 3,some 1,some 5,some 2] (.own (.cap (.cap (.cap (.cap .nil))))) rfl (zde fint rfl B.range) (fun _ _ _ _=>(zby 0 zay)) (fun _ _ _ _=>pif0) (fun _ _ _ _=>(fop zaW (FP.br (fop zaW (FP.br (zbm zaN (fb 1) zbv (zbe (fv 3)))) (FP.br (fix p_ix (fb 2) (FP.br (fop zbj (FP.br (fop zaW (FP.br (fop zcW (fb 4) (FP.br fint))) (FP.br (fop zin (FP.br fint) (fb 0))))) (FP.br fint))) (fun _ _=>rfl))))) (FP.br (zbm zaN (fb 1) (zbe (fv 3)) zbv)))))))))))))) zaM
theorem zaT:(["_law_k", "_law_words_here", "_law_counts"]:List Str).Nodup:=by decide +kernel
theorem zbr:zar ["_law_cell_here", "_law_words_here", "_law_counts", "_law_many"] ["_law_cell_here"] (zah (topS pwk 16)):=⟨rfl,rfl,rfl,by decide +kernel,rfl,by decide +kernel,by decide +kernel⟩
set_option maxHeartbeats 4000000 in
theorem zfc {zat:List D→Option D}{k:Nat} {f:Addr}{fd:FuncData} (B:Glb mg) (Fn:Fun K "_law_sorts" "_law_sorts" (topS pwk 16) f fd) (G__law_words:Fk P w K mg base "_law_words" ["_law_cell_here"] .ow k zat):FnOk P w K mg base CX0 (k + 1) f fd ["_law_cell_here"] (SpD K .ow (runF (zbY zat FUEL) 1 4)):=
 zct Fn zbr (mb:=zbY zat) (fun n cdv A outer s H E hr=>(sseq (sset 1 zbr.nd (FP.fz (fk G__law_words hr (zaf (fv 0) fnil)))) (sseq (sset 2 zbr.nd (fix p_ix (FP.ob (flst (zaf (FP.fz (flst (zaf fint (zaf fint (zaf fint (zaf fint (zaf fint fnil))))))) (zaf (FP.fz (flst (zaf fint (zaf fint (zaf fint (zaf fint (zaf fint fnil))))))) (zaf (FP.fz (flst (zaf fint (zaf fint (zaf fint (zaf fint (zaf fint fnil))))))) (zaf (FP.fz (flst (zaf fint (zaf fint (zaf fint (zaf fint (zaf fint fnil))))))) fnil)))))) (FP.br (fop zbj (FP.br (fop zcW (fb 0) (FP.br fint))) (FP.br fint))) (fun _ _=>rfl))) (sseq (sset 3 zbr.nd (fop zaW (FP.br fint) (FP.br (fop zbj (FP.br (fop zcW (fb 0) (FP.br fint))) (FP.br fint))))) (sone (zgl (zfn ["_law_k", "_law_words_here", "_law_counts"] [none,some 1,some 2] (.own (.cap (.cap .nil))) rfl (zde (fv 3) rfl B.range) (fun _ _ _ _=>(zby 0 zaT)) (fun _ _ _ _=>pif0) (fun _ _ _ _=>(ftup (zaf (fix p_ix (fb 1) (fb 0) (fun _ _=>rfl)) (zaf (fix p_ix (fb 2) (fb 0) (fun _ _=>rfl)) fnil))))))))))) zaM
theorem zaU:(["_law_k", "_law_letters", "_law_cell_here"]:List Str).Nodup:=by decide +kernel
theorem zcP:zar ["_law_cell_here", "_law_letters"] ["_law_cell_here"] (zah (topS pwk 17)):=⟨rfl,rfl,rfl,by decide +kernel,rfl,by decide +kernel,by decide +kernel⟩
set_option maxHeartbeats 4000000 in
theorem zeC {k:Nat}{f:Addr} {fd:FuncData}(B:Glb mg) (Fn:Fun K "_law_blanks" "_law_blanks" (topS pwk 17) f fd):FnOk P w K mg base CX0 (k + 1) f fd ["_law_cell_here"] (SpD K .ow (runF (zbI  FUEL) 1 2)):=
 zct Fn zcP (mb:=zbI ) (fun n cdv A outer s H E hr=>(sseq (sset 1 zcP.nd fstr) (sone (zgl (zfn ["_law_k", "_law_letters", "_law_cell_here"] [none,some 1,some 0] (.own (.cap (.cap .nil))) rfl (zde (fop zaW (FP.br fint) (FP.br (fop zbj (FP.br (fop zcW (fb 0) (FP.br fint))) (FP.br fint)))) rfl B.range) (fun _ _ _ _=>(zby 0 zaU)) (fun _ _ _ _=>pif0) (fun _ _ _ _=>(fix p_ix (fb 1) (FP.br (fop zbj (FP.br (fop zaW (FP.br (fop zbj (fb 2) (FP.br fint))) (FP.br (fop zin (FP.br fint) (fb 0))))) (FP.br fint))) (fun _ _=>rfl)))))))) zaM
theorem zej:(["_law_one"]:List Str).Nodup:=by decide +kernel
theorem zaQ:zar ["_law_row", "_law_number", "_law_sorts_here", "_law_blanks_here", "_law_most", "_law_word", "_law_many", "_law_last", "_law_nest"] ["_law_row", "_law_number", "_law_sorts_here", "_law_blanks_here", "_law_most"] (zah (topS pwk 18)):=⟨rfl,rfl,rfl,by decide +kernel,rfl,by decide +kernel,by decide +kernel⟩
set_option maxHeartbeats 4000000 in
theorem zfd {k:Nat}{f:Addr} {fd:FuncData}(B:Glb mg) (Fn:Fun K "_law_grown" "_law_grown" (topS pwk 18) f fd):FnOk P w K mg base CX0 (k + 1) f fd ["_law_row", "_law_number", "_law_sorts_here", "_law_blanks_here", "_law_most"] (SpD K .ow (runF (zbZ  FUEL) 5 9)):=
 zct Fn zaQ (mb:=zbZ ) (fun n cdv A outer s H E hr=>(sseq (sasg (fix p_ix (fb 2) (FP.br (fop zbj (fb 1) (FP.br (zbE (zdy) rfl B.len PySem.boot_len (zdf (fb 2) fnil))))) (fun _ _=>rfl)) (gtup rfl (zjV (zby 5 zaQ.nd) (zjV (zby 6 zaQ.nd) gnil)) (zdM (zdM ziG)))) (sseq (sset 1 zaQ.nd (fop zcW (fb 1) (FP.br fint))) (sseq (sset 7 zaQ.nd (zbm zaN (fb 0) (zbe (fop zgt (FP.br (zbE (zdy) rfl B.len PySem.boot_len (zdf (fb 0) fnil))) (fb 6))) zbv)) (sseq (sset 8 zaQ.nd (fmaxD rfl rfl B.max (FP.ob (zfn ["_law_one"] [none] (.own .nil) rfl (iseq (fv 7)) (fun _ _ _ _=>(zby 0 zej)) (fun _ _ _ _=>pif0) (fun _ _ _ _=>(fix p_ix (fb 0) (FP.br fint) (fun _ _=>rfl))))) fint)) (sseq (sif (FTp.up (FWp.pt (tand (tcmp (p_gt) (fb 6) (FP.br fint) (zaH _)) (tand (tcmp (p_le) (fb 6) (FP.br (zbE (zdy) rfl B.len PySem.boot_len (zdf (fb 0) fnil))) (zaH _)) (tand (tcmp (p_lt) (fb 8) (fb 4) (zaH _)) (znw (tcmp (p_gt) (FP.br (fop zbj (fb 1) (FP.br fint))) (FP.br fint) (zaH _)))))))) (sone (zgl (fop zln (FP.br (zbm zaN (fb 0) zbv (zbe (fop zgt (FP.br (zbE (zdy) rfl B.len PySem.boot_len (zdf (fb 0) fnil))) (fb 6))))) (FP.ob (flst (zaf (FP.fz (flst (zaf (fop zaW (FP.br (ftup (zaf (fv 5) fnil))) (FP.br (zne zlO rfl B.tuple PyProof.Rows.boot_tuple (zdf (FP.ob (zfn ["_law_one"] [none] (.own .nil) rfl (iseq (fv 7)) (fun _ _ _ _=>(zby 0 zej)) (fun _ _ _ _=>pif0) (fun _ _ _ _=>(fix p_ix (fb 0) (FP.br fint) (fun _ _=>rfl))))) fnil)))) (zaf (fop zaW (fb 8) (FP.br fint)) fnil)))) fnil)))))) snil) (sseq (sif (FTp.up (FWp.pt (tor (tcmp (p_eq (u100 hr)) (fb 3) (FP.ob (flst fnil)) (zaH _)) (tor1 (tcmp (p_eq (u100 hr)) (FP.br (fop zbj (FP.br (fop zcW (fb 1) (FP.br fint))) (FP.br fint))) (FP.br fint) (zaH _)))))) (sone (zgl (fop zln (fb 0) (FP.ob (flst (zaf (FP.fz (flst (zaf (ftup (zaf (fix p_ix (FP.br (fix p_ix (fb 2) (FP.br fint) (fun _ _=>rfl))) (FP.br fint) (fun _ _=>rfl)) fnil)) (zaf fint fnil)))) fnil)))))) snil) (sone (zgl (fop zln (fb 0) (FP.ob (flst (zaf (FP.fz (flst (zaf (fix p_ix (fb 3) (FP.br (fop zbj (FP.br (fop zcW (fb 1) (FP.br fint))) (FP.br (zbE (zdy) rfl B.len PySem.boot_len (zdf (fb 3) fnil))))) (fun _ _=>rfl)) (zaf fint fnil)))) fnil))))))))))))) zaM
theorem zds:(["_law_part_here"]:List Str).Nodup:=by decide +kernel
theorem zeY:zar ["_law_term_here"] ["_law_term_here"] (zah (topS pwk 22)):=⟨rfl,rfl,rfl,by decide +kernel,rfl,by decide +kernel,by decide +kernel⟩
set_option maxHeartbeats 4000000 in
theorem zfe {m__law_count:List D→Option D}{k:Nat} {f:Addr}{fd:FuncData} (B:Glb mg) (Fn:Fun K "_law_count" "_law_count" (topS pwk 22) f fd) (G__law_count:Fk P w K mg base "_law_count" ["_law_term_here"] .fz k m__law_count):FnOk P w K mg base CX0 (k + 1) f fd ["_law_term_here"] (SpD K .fz (runF (zdv m__law_count FUEL) 1 1)):=
 zct Fn zeY (mb:=zdv m__law_count) (fun n cdv A outer s H E hr=>(sseq (sif (FTp.up (tval (fisi (fb 0) rfl B.isi rfl B.str PyProof.Rows.boot_str))) (sone (sret fint)) snil) (sone (sret (fop zaW (FP.br fint) (FP.br (zbE (c_sum rfl) rfl B.sum PyProof.Rows.boot_sum (zdf (FP.ob (zfn ["_law_part_here"] [none] (.own .nil) rfl (iseq (zbm zaN (fb 0) (zbe fint) zbv)) (fun _ _ _ _=>(zby 0 zds)) (fun _ _ _ _=>pif0) (fun _ _ _ _=>(fk G__law_count hr (zaf (fv 0) fnil))))) fnil)))))))) zaM
theorem zaL:zar ["_law_numbers", "_law_sorts_here", "_law_blanks_here", "_law_most", "_law_row", "_law_number", "_law_found", "_law_one"] ["_law_numbers", "_law_sorts_here", "_law_blanks_here", "_law_most"] (zah (topS pwk 23)):=⟨rfl,rfl,rfl,by decide +kernel,rfl,by decide +kernel,by decide +kernel⟩
set_option maxHeartbeats 4000000 in
theorem zfL {zad:List D→Option D}{m__law_count:List D→Option D} {k:Nat}{f:Addr} {fd:FuncData}(B:Glb mg) (Fn:Fun K "_law_term" "_law_term" (topS pwk 23) f fd) (G__law_grown:Fk P w K mg base "_law_grown" ["_law_row", "_law_number", "_law_sorts_here", "_law_blanks_here", "_law_most"] .ow k zad) (G__law_count:Fk P w K mg base "_law_count" ["_law_term_here"] .fz k m__law_count):FnOk P w K mg base CX0 (k + 1) f fd ["_law_numbers", "_law_sorts_here", "_law_blanks_here", "_law_most"] (SpD K .fz (runF (zcn zad m__law_count FUEL) 4 8)):=
 zct Fn zaL (mb:=zcn zad m__law_count) (fun n cdv A outer s H E hr=>(sseq (sset 4 zaL.nd (FP.fz (flst fnil))) (sseq (sfor PassesOwn.never rfl (iseq (fv 0)) (zby 5 zaL.nd) (sone (sset 4 zaL.nd (FP.fz (fk G__law_grown hr (zaf (fv 4) (zaf (fv 5) (zaf (fv 1) (zaf (fv 2) (zaf (fv 3) fnil)))))))))) (sseq (sset 6 zaL.nd (fix p_ix (FP.br (fix p_ix (fb 4) (FP.br fint) (fun _ _=>rfl))) (FP.br fint) (fun _ _=>rfl))) (sseq (sfor PassesOwn.never rfl (iseq (zbm zaN (fb 4) (zbe fint) zbv)) (zby 7 zaL.nd) (sone (sif (FTp.up (tcmp (p_ge (u100 hr)) (FP.br (fk G__law_count hr (zaf (fix p_ix (fb 7) (FP.br fint) (fun _ _=>rfl)) fnil))) (FP.br (fk G__law_count hr (zaf (fv 6) fnil))) (zaH _))) (sone (sset 6 zaL.nd (fix p_ix (fb 7) (FP.br fint) (fun _ _=>rfl)))) snil))) (sone (sret (fv 6)))))))) zaM
theorem zcM:(["_law_place", "_law_k"]:List Str).Nodup:=by decide +kernel
theorem zbh:zar ["_law_term_here", "_law_found", "_law_k"] ["_law_term_here"] (zah (topS pwk 25)):=⟨rfl,rfl,rfl,by decide +kernel,rfl,by decide +kernel,by decide +kernel⟩
set_option maxHeartbeats 4000000 in
theorem zeA {zac:List D→Option D}{k:Nat} {f:Addr}{fd:FuncData} (B:Glb mg) (Fn:Fun K "_law_places" "_law_places" (topS pwk 25) f fd) (G__law_places:Fk P w K mg base "_law_places" ["_law_term_here"] .fz k zac):FnOk P w K mg base CX0 (k + 1) f fd ["_law_term_here"] (SpD K .fz (runF (zbH zac FUEL) 1 3)):=
 zct Fn zbh (mb:=zbH zac) (fun n cdv A outer s H E hr=>(sseq (sset 1 zbh.nd (FP.fz (flst (zaf (ftup fnil) fnil)))) (sseq (sif (FTp.up (tval (fisi (fb 0) rfl B.isi rfl B.tuple PyProof.Rows.boot_tuple))) (sone (sfor PassesOwn.never rfl (zde (fop zgt (FP.br (zbE (zdy) rfl B.len PySem.boot_len (zdf (fb 0) fnil))) (FP.br fint)) rfl B.range) (zby 2 zbh.nd) (sone (sset 1 zbh.nd (fop zaW (fb 1) (FP.ob (zfn ["_law_place", "_law_k"] [none,some 2] (.own (.cap .nil)) rfl (iseq (fk G__law_places hr (zaf (fix p_ix (fb 0) (FP.br (fop zaW (FP.br fint) (fb 2))) (fun _ _=>rfl)) fnil))) (fun _ _ _ _=>(zby 0 zcM)) (fun _ _ _ _=>pif0) (fun _ _ _ _=>(fop zaW (FP.br (ftup (zaf (fv 1) fnil))) (fb 0)))))))))) snil) (sone (sret (fv 1)))))) zaM
theorem zfD:zar ["_law_place", "_law_term_here"] ["_law_place", "_law_term_here"] (zah (topS pwk 30)):=⟨rfl,rfl,rfl,by decide +kernel,rfl,by decide +kernel,by decide +kernel⟩
set_option maxHeartbeats 4000000 in
theorem zfN {k:Nat}{f:Addr} {fd:FuncData}(B:Glb mg) (XS:Exs P w K mg base xcl) (Fn:Fun K "_law_made" "_law_made" (topS pwk 30) f fd):FnOk P w K mg base CX0 ((k + 3) + 1) f fd ["_law_place", "_law_term_here"] (SpD K .fz (runF (zel  FUEL) 2 2)):=
 zct Fn zfD (mb:=zel ) (fun n cdv A outer s H E hr=>(sseq (sif (FTp.up (FWp.pt (tor (tcmp (p_ne (u100 hr)) (FP.br (xfld XS (FP.br (xmk XS hr (fv 0))))) (fb 0) (zaH _)) (tor (tcmp (p_ne (u100 hr)) (FP.br (xfld XS (FP.br (xmk XS hr (ftup (zaf (fv 1) (zaf (fv 1) fnil))))))) (FP.br (ftup (zaf (fv 1) (zaf (fv 1) fnil)))) (zaH _)) (tor1 (tcmp (p_ne (u100 hr)) (FP.br (xfld XS (FP.br (xmk XS hr fstr)))) (FP.br fstr) (zaH _))))))) (sone (sret fbl)) snil) (sone (sret (vand (fcmp (p_eq (u100 hr)) (FP.br (xfld XS (FP.br (xmk XS hr (fv 1))))) (fb 1) (zaH _)) (vand (fcmp (p_eq (u100 hr)) (FP.br (xfld XS (FP.br (xmk XS hr (FP.fz (flst fnil)))))) (FP.ob (flst fnil)) (zaH _)) (vone (xisE XS B hr zdE)))))))) zaM
theorem zfE:zar ["_law_script", "_law_k"] ["_law_script", "_law_k"] (zah (topS pwk 14)):=⟨rfl,rfl,rfl,by decide +kernel,rfl,by decide +kernel,by decide +kernel⟩
set_option maxHeartbeats 4000000 in
theorem zfO {k:Nat}{f:Addr} {fd:FuncData}(B:Glb mg) (Fn:Fun K "_law_cell" "_law_cell" (topS pwk 14) f fd):FnOk P w K mg base CX0 (k + 1) f fd ["_law_script", "_law_k"] (SpD K .fz (runF (zcp  FUEL) 2 2)):=
 zct Fn zfE (mb:=zcp ) (fun n cdv A outer s H E hr=>(sseq (sif (FTp.up (tcmp (p_lt) (fb 1) (FP.br (zbE (zdy) rfl B.len PySem.boot_len (zdf (fb 0) fnil))) (zaH _))) (sone (sret (fix p_ix (fb 0) (fb 1) (fun _ _=>rfl)))) snil) (sone (sret fint)))) zaM
theorem zcj:zar ["_law_term_here", "_law_place", "_law_k"] ["_law_term_here", "_law_place"] (zah (topS pwk 24)):=⟨rfl,rfl,rfl,by decide +kernel,rfl,by decide +kernel,by decide +kernel⟩
set_option maxHeartbeats 4000000 in
theorem zfM {k:Nat}{f:Addr} {fd:FuncData}(B:Glb mg) (Fn:Fun K "_law_part" "_law_part" (topS pwk 24) f fd):FnOk P w K mg base CX0 (k + 1) f fd ["_law_term_here", "_law_place"] (SpD K .fz (runF (zco  FUEL) 2 3)):=
 zct Fn zcj (mb:=zco ) (fun n cdv A outer s H E hr=>(sseq (sfor PassesOwn.never rfl (iseq (fv 1)) (zby 2 zcj.nd) (sone (sset 0 zcj.nd (fix p_ix (fb 0) (FP.br (fop zaW (FP.br fint) (fb 2))) (fun _ _=>rfl))))) (sone (sret (fv 0))))) zaM
theorem zaC:zar ["_law_term_here", "_law_place", "_law_cell_here", "_law_at", "_law_part_here", "_law_many", "_law_odd"] ["_law_term_here", "_law_place", "_law_cell_here"] (zah (topS pwk 27)):=⟨rfl,rfl,rfl,by decide +kernel,rfl,by decide +kernel,by decide +kernel⟩
set_option maxHeartbeats 4000000 in
theorem zee {zai:List D→Option D}{k:Nat} {f:Addr}{fd:FuncData} (B:Glb mg) (Fn:Fun K "_law_spoiled" "_law_spoiled" (topS pwk 27) f fd) (G__law_part:Fk P w K mg base "_law_part" ["_law_term_here", "_law_place"] .fz k zai):FnOk P w K mg base CX0 (k + 1) f fd ["_law_term_here", "_law_place", "_law_cell_here"] (SpD K .fz (runF (zbC zai FUEL) 3 7)):=
 zct Fn zaC (mb:=zbC zai) (fun n cdv A outer s H E hr=>(sseq (sset 3 zaC.nd (fop zbj (fb 2) (FP.br (fop zaW (FP.br (zbE (zdy) rfl B.len PySem.boot_len (zdf (fb 1) fnil))) (FP.br fint))))) (sseq (sset 4 zaC.nd (fk G__law_part hr (zaf (fv 0) (zaf (zbm zaN (fb 1) zbv (zbe (fv 3))) fnil)))) (sseq (sset 5 zaC.nd fint) (sseq (sif (FTp.up (tval (fisi (fb 4) rfl B.isi rfl B.tuple PyProof.Rows.boot_tuple))) (sone (sset 5 zaC.nd (fop zgt (FP.br (zbE (zdy) rfl B.len PySem.boot_len (zdf (fb 4) fnil))) (FP.br fint)))) snil) (sseq (sset 6 zaC.nd (fix p_ix (FP.ob (flst (zaf (fv 5) (zaf (fop zaW (fb 5) (FP.br fint)) (zaf (fneg fint) (zaf (fop zgt (FP.br (fneg fint)) (fb 5)) (zaf (fop zaW (FP.br (fop zjE (FP.br fint) (FP.br fint))) (FP.br (fop zbj (fb 2) (FP.br (fop zjE (FP.br fint) (FP.br fint)))))) (zaf (fop zgt (FP.br (fneg fint)) (FP.br (fop zbj (fb 2) (FP.br (fop zjE (FP.br fint) (FP.br fint)))))) fnil)))))))) (FP.br (fop zbj (FP.br (fop zcW (fb 2) (FP.br fint))) (FP.br fint))) (fun _ _=>rfl))) (sseq (sif (FTp.up (tcmp (p_eq (u100 hr)) (FP.br (fop zbj (FP.br (fop zcW (fb 2) (FP.br fint))) (FP.br fint))) (FP.br fint) (zaH _))) (sone (sret (fop zaW (FP.br (zbm zaN (fb 1) zbv (zbe (fv 3)))) (FP.br (ftup (zaf (fv 6) fnil)))))) snil) (sone (sret (fop zaW (FP.br (fop zaW (FP.br (zbm zaN (fb 1) zbv (zbe (fv 3)))) (FP.br (ftup (zaf (fv 6) fnil))))) (FP.br (zbm zaN (fb 1) (zbe (fop zaW (fb 3) (FP.br fint))) zbv)))))))))))) zaM
theorem zgm:zar ["term"] ["term"] (zah (topS pwk 8)):=⟨rfl,rfl,rfl,by decide +kernel,rfl,by decide +kernel,by decide +kernel⟩
set_option maxHeartbeats 4000000 in
theorem zgu {k:Nat}{f:Addr} {fd:FuncData}(B:Glb mg) (Fn:Fun K "is_blank" "is_blank" (topS pwk 8) f fd):FnOk P w K mg base CX0 (k + 1) f fd ["term"] (SpD K .fz (runF (zdb  FUEL) 1 1)):=
 zct Fn zgm (mb:=zdb ) (fun n cdv A outer s H E hr=>(sone (sret (fisi (fb 0) rfl B.isi rfl B.str PyProof.Rows.boot_str)))) zaM
theorem zey:zar ["term"] ["term"] (zah (topS pwk 9)):=⟨rfl,rfl,rfl,by decide +kernel,rfl,by decide +kernel,by decide +kernel⟩
set_option maxHeartbeats 4000000 in
theorem zez {zaJ:List D→Option D}{k:Nat} {f:Addr}{fd:FuncData} (B:Glb mg) (Fn:Fun K "inner_parts" "inner_parts" (topS pwk 9) f fd) (G_is_blank:Fk P w K mg base "is_blank" ["term"] .fz k zaJ):FnOk P w K mg base CX0 (k + 1) f fd ["term"] (SpD K .fz (runF (zbG zaJ FUEL) 1 1)):=
 zct Fn zey (mb:=zbG zaJ) (fun n cdv A outer s H E hr=>(sseq (sif (FTp.up (tval (fk G_is_blank hr (zaf (fv 0) fnil)))) (sone (sret (ftup fnil))) snil) (sone (sret (zbm zaN (fb 0) (zbe fint) zbv))))) zaM
theorem zdk:zar ["term", "place", "way", "number", "inner"] ["term", "place"] (zah (topS pwk 10)):=⟨rfl,rfl,rfl,by decide +kernel,rfl,by decide +kernel,by decide +kernel⟩
set_option maxHeartbeats 4000000 in
theorem ziq {zae:List D→Option D}{k:Nat} {f:Addr}{fd:FuncData} (B:Glb mg) (XS:Exs P w K mg base xcl) (Fn:Fun K "way_to" "way_to" (topS pwk 10) f fd) (G_inner_parts:Fk P w K mg base "inner_parts" ["term"] .fz (k + 3) zae):FnOk P w K mg base (CX1 P w) ((k + 3) + 1) f fd ["term", "place"] (SpR K .fz (runR (zdu zae FUEL) 2 5)):=
 ziQ Fn zdk (mb:=zdu zae) (fun n cdv A outer s H E hr=>(sseq (ssetO 2 zdk.nd (flst (zaf (fv 0) fnil))) (sseq (sfor PassesOwn.leaving rfl (iseq (fv 1)) (zby 3 zdk.nd) (sseq (sset 4 zdk.nd (fk G_inner_parts hr (zaf (fix p_ix (fb 2) (FP.br (fneg fint)) (fun _ _=>rfl)) fnil))) (sseq (sif (FTp.up (FWp.pt (tor (tcmp (p_lt) (fb 3) (FP.br fint) (zaH _)) (tor1 (tcmp (p_ge (u100 hr)) (fb 3) (FP.br (zbE (zdy) rfl B.len PySem.boot_len (zdf (fb 4) fnil))) (zaH _)))))) (sone (zlU XS hr (fv 1))) snil) (sone (zmi (zkK 2 (fix p_ix (fb 4) (fb 3) (fun _ _=>rfl)))))))) (sone (sretF 2))))) zgo
theorem zho:zar ["term", "place"] ["term", "place"] (zah (topS pwk 11)):=⟨rfl,rfl,rfl,by decide +kernel,rfl,by decide +kernel,by decide +kernel⟩
set_option maxHeartbeats 4000000 in
theorem zhw {zas:List D→Option Rs}{k:Nat} {f:Addr}{fd:FuncData} (B:Glb mg) (Fn:Fun K "part_at" "part_at" (topS pwk 11) f fd) (G_way_to:FkE P w K mg base "way_to" ["term", "place"] .fz k zas):FnOk P w K mg base (CX1 P w) (k + 1) f fd ["term", "place"] (SpR K .fz (runR (zda zas FUEL) 2 2)):=
 ziQ Fn zho (mb:=zda zas) (fun n cdv A outer s H E hr=>(sone (sretR (fix p_ix (FP.br (fk G_way_to.fk hr (zaf (fv 0) (zaf (fv 1) fnil)))) (FP.br (fneg fint)) (fun _ _=>rfl)) (rsub (zjt G_way_to hr (zaf (fv 0) (zaf (fv 1) fnil))))))) zgo
theorem zbL:zar ["term", "place", "new", "wholes", "made", "whole", "number"] ["term", "place", "new"] (zah (topS pwk 12)):=⟨rfl,rfl,rfl,by decide +kernel,rfl,by decide +kernel,by decide +kernel⟩
set_option maxHeartbeats 4000000 in
theorem zir {zas:List D→Option Rs}{k:Nat} {f:Addr}{fd:FuncData} (B:Glb mg) (Fn:Fun K "put_at" "put_at" (topS pwk 12) f fd) (G_way_to:FkE P w K mg base "way_to" ["term", "place"] .fz k zas):FnOk P w K mg base (CX1 P w) (k + 1) f fd ["term", "place", "new"] (SpR K .fz (runR (zcG zas FUEL) 3 7)):=
 ziQ Fn zbL (mb:=zcG zas) (fun n cdv A outer s H E hr=>(sseq (ssetR 3 zbL.nd (zbm zaN (FP.br (fk G_way_to.fk hr (zaf (fv 0) (zaf (fv 1) fnil)))) zbv (zbe (fneg fint))) (rsub (zjt G_way_to hr (zaf (fv 0) (zaf (fv 1) fnil))))) (sseq (sset 4 zbL.nd (fv 2)) (sseq (sfor PassesOwn.leaving rfl (irev (FP.fz (fzipL rfl rfl B.list rfl B.zip (fv 3) (fv 1))) rfl B.reversed) (gtup rfl (zjV (zby 5 zbL.nd) (zjV (zby 6 zbL.nd) gnil)) (zdM (zdM ziG))) (sone (sset 4 zbL.nd (fop zaW (FP.br (fop zaW (FP.br (zbm zaN (fb 5) zbv (zbe (fop zaW (fb 6) (FP.br fint))))) (FP.br (ftup (zaf (fv 4) fnil))))) (FP.br (zbm zaN (fb 5) (zbe (fop zaW (fb 6) (FP.br fint))) zbv)))))) (sone (sret (fv 4))))))) zgo
theorem zbF:zar ["_law_way", "_law_term_here", "_law_place", "_law_caught_here", "_law_e"] ["_law_way", "_law_term_here", "_law_place"] (zah (topS pwk 28)):=⟨rfl,rfl,rfl,by decide +kernel,rfl,by decide +kernel,by decide +kernel⟩
set_option maxHeartbeats 4000000 in
theorem zeB {m_part_at:List D→Option Rs}{zaX:List D→Option Rs} {k:Nat}{f:Addr} {fd:FuncData}(B:Glb mg) (XS:Exs P w K mg base xcl) (Fn:Fun K "_law_caught" "_law_caught" (topS pwk 28) f fd) (G_part_at:FkE P w K mg base "part_at" ["term", "place"] .fz (k + 3) m_part_at) (G_put_at:FkE P w K mg base "put_at" ["term", "place", "new"] .fz (k + 3) zaX):FnOk P w K mg base CX0 ((k + 3) + 1) f fd ["_law_way", "_law_term_here", "_law_place"] (SpD K .fz (runF (zdc m_part_at zaX FUEL) 3 5)):=
 zct Fn zbF (mb:=zdc m_part_at zaX) (fun n cdv A outer s H E hr=>(sseq (sset 3 zbF.nd fnon) (sseq (xtry 3 4 XS zbF.nd (fun _ _=>(sseq (sif (FTp.up (tcmp (p_eq (u100 hr)) (fb 0) (FP.br fint) (zaH _))) (sone (zkt (fk G_part_at.fk hr (zaf (fv 1) (zaf (fv 2) fnil))) (zjt G_part_at hr (zaf (fv 1) (zaf (fv 2) fnil))))) snil) (sone (sif (FTp.up (tcmp (p_eq (u100 hr)) (fb 0) (FP.br fint) (zaH _))) (sone (zkt (fk G_put_at.fk hr (zaf (fv 1) (zaf (fv 2) (zaf fstr fnil)))) (zjt G_put_at hr (zaf (fv 1) (zaf (fv 2) (zaf fstr fnil)))))) snil))))) (sone (sret (fv 3)))))) zaM
theorem zcU:zar ["_law_term_here", "_law_place", "_law_k"] ["_law_term_here", "_law_place"] (zah (topS pwk 26)):=⟨rfl,rfl,rfl,by decide +kernel,rfl,by decide +kernel,by decide +kernel⟩
set_option maxHeartbeats 4000000 in
theorem zgv {k:Nat}{f:Addr} {fd:FuncData}(B:Glb mg) (Fn:Fun K "_law_has" "_law_has" (topS pwk 26) f fd):FnOk P w K mg base CX0 (k + 1) f fd ["_law_term_here", "_law_place"] (SpD K .fz (runF (zfi  FUEL) 2 3)):=
 zct Fn zcU (mb:=zfi ) (fun n cdv A outer s H E hr=>(sseq (sfor PassesOwn.never rfl (iseq (fv 1)) (zby 2 zcU.nd) (sseq (sif (FTp.up (FWp.pt (tor (tval (fisi (fb 0) rfl B.isi rfl B.str PyProof.Rows.boot_str)) (tor (tcmp (p_lt) (fb 2) (FP.br fint) (zaH _)) (tor1 (tcmp (p_ge (u100 hr)) (FP.br (fop zaW (fb 2) (FP.br fint))) (FP.br (zbE (zdy) rfl B.len PySem.boot_len (zdf (fb 0) fnil))) (zaH _))))))) (sone (sret fbl)) snil) (sone (sset 0 zcU.nd (fix p_ix (fb 0) (FP.br (fop zaW (FP.br fint) (fb 2))) (fun _ _=>rfl)))))) (sone (sret fbl)))) zaM
theorem zdU:zar ["_law_e", "_law_place"] ["_law_e", "_law_place"] (zah (topS pwk 29)):=⟨rfl,rfl,rfl,by decide +kernel,rfl,by decide +kernel,by decide +kernel⟩
set_option maxHeartbeats 4000000 in
theorem zef {k:Nat}{f:Addr} {fd:FuncData}(B:Glb mg) (XS:Exs P w K mg base xcl) (Fn:Fun K "_law_refused" "_law_refused" (topS pwk 29) f fd):FnOk P w K mg base CX0 ((k + 3) + 1) f fd ["_law_e", "_law_place"] (SpD K .fz (runF (zcm  FUEL) 2 2)):=
 zct Fn zdU (mb:=zcm ) (fun n cdv A outer s H E hr=>(sseq (sif (FTp.up (FWp.pt (tor (tnot (tval (xisC XS B (fb 0)))) (tor1 (tnot (tval (xisV XS B (fb 0)))))))) (sone (sret fbl)) snil) (sone (sret (vand (vnot (xisT XS B (.cons (.cons (.cons (.cons .nil)))) (fb 0))) (vone (fcmp (p_eq (u100 hr)) (FP.br (xfld XS (fb 0))) (fb 1) (zaH _)))))))) zaM
theorem zdt:(["_law_cell_here"]:List Str).Nodup:=by decide +kernel
theorem zci:zar ["_law_script", "_law_sorts_here", "_law_blanks_here", "_law_numbers", "_law_term_here", "_law_places_here", "_law_cell_here", "_law_place", "_law_way", "_law_e"] ["_law_script"] (zah (topS pwk 31)):=⟨rfl,rfl,rfl,by decide +kernel,rfl,by decide +kernel,by decide +kernel⟩
set_option maxHeartbeats 4000000 in
theorem zmL {zam:List D→Option D}{zak:List D→Option D} {zap:List D→Option D}{zac:List D→Option D} {m__law_made:List D→Option D}{zao:List D→Option D} {m__law_spoiled:List D→Option D}{m__law_caught:List D→Option D} {m__law_has:List D→Option D}{m__law_refused:List D→Option D} {m_part_at:List D→Option Rs}{zai:List D→Option D} {k:Nat}{f:Addr} {fd:FuncData}(B:Glb mg) (Fn:Fun K "law" "law" (topS pwk 31) f fd) (G__law_sorts:Fk P w K mg base "_law_sorts" ["_law_cell_here"] .ow k zam) (G__law_blanks:Fk P w K mg base "_law_blanks" ["_law_cell_here"] .ow k zak) (G__law_term:Fk P w K mg base "_law_term" ["_law_numbers", "_law_sorts_here", "_law_blanks_here", "_law_most"] .fz k zap) (G__law_places:Fk P w K mg base "_law_places" ["_law_term_here"] .fz k zac) (G__law_made:Fk P w K mg base "_law_made" ["_law_place", "_law_term_here"] .fz k m__law_made) (G__law_cell:Fk P w K mg base "_law_cell" ["_law_script", "_law_k"] .fz k zao) (G__law_spoiled:Fk P w K mg base "_law_spoiled" ["_law_term_here", "_law_place", "_law_cell_here"] .fz k m__law_spoiled) (G__law_caught:Fk P w K mg base "_law_caught" ["_law_way", "_law_term_here", "_law_place"] .fz k m__law_caught) (G__law_has:Fk P w K mg base "_law_has" ["_law_term_here", "_law_place"] .fz k m__law_has) (G__law_refused:Fk P w K mg base "_law_refused" ["_law_e", "_law_place"] .fz k m__law_refused) (G_part_at:FkE P w K mg base "part_at" ["term", "place"] .fz k m_part_at) (G__law_part:Fk P w K mg base "_law_part" ["_law_term_here", "_law_place"] .fz k zai):FnOk P w K mg base CX0 (k + 1) f fd ["_law_script"] (SpD K .fz (runF (zfh zam zak zap zac m__law_made zao m__law_spoiled m__law_caught m__law_has m__law_refused m_part_at zai FUEL) 1 10)):=
 zct Fn zci (mb:=zfh zam zak zap zac m__law_made zao m__law_spoiled m__law_caught m__law_has m__law_refused m_part_at zai) (fun n cdv A outer s H E hr=>(sseq (sset 1 zci.nd (FP.fz (fk G__law_sorts hr (zaf (fk G__law_cell hr (zaf (fv 0) (zaf fint fnil))) fnil)))) (sseq (sset 2 zci.nd (FP.fz (fk G__law_blanks hr (zaf (fk G__law_cell hr (zaf (fv 0) (zaf fint fnil))) fnil)))) (sseq (ssetC 3 ["_law_cell_here"] [none] (.own .nil) rfl zci.nd (iseq (fop zaW (FP.ob (flst (zaf fint fnil))) (FP.br (zbm zaN (fb 0) (zbe fint) (zbe fint))))) (fun _ _ _ _=>(zby 0 zdt)) (fun _ _ _ _=>pif0) (fun _ _ _ _=>(fop zbj (FP.br (fop zin (fb 0) (FP.br fint))) (FP.br fint)))) (sseq (sset 4 zci.nd (fk G__law_term hr (zaf (fv 3) (zaf (fv 1) (zaf (fv 2) (zaf fint fnil)))))) (sseq (sset 5 zci.nd (fk G__law_places hr (zaf (fv 4) fnil))) (sseq (sfor PassesOwn.never rfl (iseq (fop zaW (FP.ob (flst (zaf fint (zaf fint fnil)))) (FP.br (zbm zaN (fb 0) (zbe fint) (zbe fint))))) (zby 6 zci.nd) (sseq (sset 7 zci.nd (fix p_ix (fb 5) (FP.br (fop zbj (FP.br (fop zcW (fb 6) (FP.br fint))) (FP.br (zbE (zdy) rfl B.len PySem.boot_len (zdf (fb 5) fnil))))) (fun _ _=>rfl))) (sseq (sif (FTp.up (tcmp (p_gt) (FP.br (fop zbj (fb 6) (FP.br fint))) (FP.br fint) (zaH _))) (sone (sset 7 zci.nd (fk G__law_spoiled hr (zaf (fv 4) (zaf (fv 7) (zaf (fop zcW (fb 6) (FP.br fint)) fnil)))))) snil) (sone (sfor PassesOwn.never rfl (iseq (FP.fz (flst (zaf (fop zbj (fb 6) (FP.br fint)) (zaf (fop zgt (FP.br fint) (FP.br (fop zbj (fb 6) (FP.br fint)))) fnil))))) (zby 8 zci.nd) (sseq (sset 9 zci.nd (fk G__law_caught hr (zaf (fv 8) (zaf (fv 4) (zaf (fv 7) fnil))))) (sone (sif (FTp.up (tval (fk G__law_has hr (zaf (fv 4) (zaf (fv 7) fnil))))) (sone (sif (FTp.up (FWp.pt (tor (tcmp (zlm) (fb 9) (FP.br fnon) (zaH _)) (tor1 (tcmp (p_ne (u100 hr)) (FP.br (fk G_part_at.fk hr (zaf (fv 4) (zaf (fv 7) fnil)))) (FP.br (fk G__law_part hr (zaf (fv 4) (zaf (fv 7) fnil)))) (zaH _)))))) (sone (sret fbl)) snil)) (sone (sif (FTp.up (tnot (tval (fk G__law_refused hr (zaf (fv 9) (zaf (fv 7) fnil)))))) (sone (sret fbl)) snil)))))))))) (sone (sret (fk G__law_made hr (zaf (fix p_ix (fb 5) (FP.br (fneg fint)) (fun _ _=>rfl)) (zaf (fv 4) fnil)))))))))))) zaM
theorem zgn:zar ["self", "text"] ["self", "text"] (zah (inSt (topS pwk 1))):=⟨rfl,rfl,rfl,by decide +kernel,rfl,by decide +kernel,by decide +kernel⟩
theorem zgw {k:Nat}{f:Addr} {fd:FuncData}(hv:mg "ValueError" = none) (Fn:Fun K "__init__" (quN (topS pwk 1)) (inSt (topS pwk 1)) f fd):FnOk P w K mg base CX0 (k + 1) f fd ["self", "text"] (SpE K):=
 zni Fn zgn (fun cdv A outer s H E=>zck (zbT (zjA rfl hv (zaq (zaS rfl (.inl rfl)) (zaq (zaS rfl (.inl rfl)) zaV)))))
theorem zhq:zar ["self", "place"] ["self", "place"] (zah (inSt (topS pwk 2))):=⟨rfl,rfl,rfl,by decide +kernel,rfl,by decide +kernel,by decide +kernel⟩
theorem zhy {k:Nat}{C CE f fE:Addr} {fd fdE:FuncData}(M:XC K C f) (B:XE K CE fE) (hE:mg "EndError" = some (.ref CE)) (FE:FnOk P w K mg base CX0 k fE fdE ["self", "text"] (SpE K)) (hbE:zbA K fdE ["self", "text"] []) (Fn:Fun K "__init__" (quN (topS pwk 2)) (inSt (topS pwk 2)) f fd):FnOk P w K mg base CX0 (k + 1) f fd ["self", "place"] (SpI K C "place"):=
 zep M Fn zhq (fun d cdv A outer s H E hs hr=>zbS (zbT (zdl B FE hr hbE rfl hE (zaq (zaS rfl (.inl rfl)) (zaq (zjC hr (fv 1) rfl hs (by decide +kernel) zdE) zaV))))
  (zck (zdX (zaS rfl (.inl rfl)) (zaS rfl (.inl rfl)) (by decide) (by rw [typeLookup_type,builtinLookup_eq_fast];kernel_rfl) (by decide +kernel))))
theorem zib:zar ["self", "rule"] ["self", "rule"] (zah (inSt (topS pwk 3))):=⟨rfl,rfl,rfl,by decide +kernel,rfl,by decide +kernel,by decide +kernel⟩
theorem zis {k:Nat}{C CE f fE:Addr} {fd fdE:FuncData}(M:XC K C f) (B:XE K CE fE) (hE:mg "EndError" = some (.ref CE)) (FE:FnOk P w K mg base CX0 k fE fdE ["self", "text"] (SpE K)) (hbE:zbA K fdE ["self", "text"] []) (Fn:Fun K "__init__" (quN (topS pwk 3)) (inSt (topS pwk 3)) f fd):FnOk P w K mg base CX0 (k + 1) f fd ["self", "rule"] (SpI K C "rule"):=
 zep M Fn zib (fun d cdv A outer s H E hs hr=>zbS (zbT (zdl B FE hr hbE rfl hE (zaq (zaS rfl (.inl rfl)) (zaq (zjC hr (fv 1) rfl hs (by decide +kernel) zdE) zaV))))
  (zck (zdX (zaS rfl (.inl rfl)) (zaS rfl (.inl rfl)) (by decide) (by rw [typeLookup_type,builtinLookup_eq_fast];kernel_rfl) (by decide +kernel))))
theorem zfF:zar ["self", "sign"] ["self", "sign"] (zah (inSt (topS pwk 4))):=⟨rfl,rfl,rfl,by decide +kernel,rfl,by decide +kernel,by decide +kernel⟩
theorem zfP {k:Nat}{C CE f fE:Addr} {fd fdE:FuncData}(M:XC K C f) (B:XE K CE fE) (hE:mg "EndError" = some (.ref CE)) (FE:FnOk P w K mg base CX0 k fE fdE ["self", "text"] (SpE K)) (hbE:zbA K fdE ["self", "text"] []) (Fn:Fun K "__init__" (quN (topS pwk 4)) (inSt (topS pwk 4)) f fd):FnOk P w K mg base CX0 (k + 1) f fd ["self", "sign"] (SpI K C "sign"):=
 zep M Fn zfF (fun d cdv A outer s H E hs hr=>zbS (zbT (zdl B FE hr hbE rfl hE (zaq (zaS rfl (.inl rfl)) (zaq (pe_j3 hr (fv 1) rfl hs (by decide +kernel) (by decide +kernel) zdE zdE) zaV))))
  (zck (zdX (zaS rfl (.inl rfl)) (zaS rfl (.inl rfl)) (by decide) (by rw [typeLookup_type,builtinLookup_eq_fast];kernel_rfl) (by decide +kernel))))
theorem zhp:zar ["self", "term"] ["self", "term"] (zah (inSt (topS pwk 5))):=⟨rfl,rfl,rfl,by decide +kernel,rfl,by decide +kernel,by decide +kernel⟩
theorem zhx {k:Nat}{C CE f fE:Addr} {fd fdE:FuncData}(M:XC K C f) (B:XE K CE fE) (hE:mg "EndError" = some (.ref CE)) (FE:FnOk P w K mg base CX0 k fE fdE ["self", "text"] (SpE K)) (hbE:zbA K fdE ["self", "text"] []) (Fn:Fun K "__init__" (quN (topS pwk 5)) (inSt (topS pwk 5)) f fd):FnOk P w K mg base CX0 (k + 1) f fd ["self", "term"] (SpI K C "term"):=
 zep M Fn zhp (fun d cdv A outer s H E hs hr=>zbS (zbT (zdl B FE hr hbE rfl hE (zaq (zaS rfl (.inl rfl)) (zaq (zjC hr (fv 1) rfl hs (by decide +kernel) zdE) zaV))))
  (zck (zdX (zaS rfl (.inl rfl)) (zaS rfl (.inl rfl)) (by decide) (by rw [typeLookup_type,builtinLookup_eq_fast];kernel_rfl) (by decide +kernel))))
theorem zic:zar ["self", "rules"] ["self", "rules"] (zah (inSt (topS pwk 6))):=⟨rfl,rfl,rfl,by decide +kernel,rfl,by decide +kernel,by decide +kernel⟩
theorem zit {k:Nat}{C CE f fE:Addr} {fd fdE:FuncData}(M:XC K C f) (B:XE K CE fE) (hE:mg "EndError" = some (.ref CE)) (FE:FnOk P w K mg base CX0 k fE fdE ["self", "text"] (SpE K)) (hbE:zbA K fdE ["self", "text"] []) (Fn:Fun K "__init__" (quN (topS pwk 6)) (inSt (topS pwk 6)) f fd):FnOk P w K mg base CX0 (k + 1) f fd ["self", "rules"] (SpI K C "rules"):=
 zep M Fn zic (fun d cdv A outer s H E hs hr=>zbS (zbT (zdl B FE hr hbE rfl hE (zaq (zaS rfl (.inl rfl)) (zaq (zjC hr (fv 1) rfl hs (by decide +kernel) zdE) zaV))))
  (zck (zdX (zaS rfl (.inl rfl)) (zaS rfl (.inl rfl)) (by decide) (by rw [typeLookup_type,builtinLookup_eq_fast];kernel_rfl) (by decide +kernel))))
end
theorem us1 {us:List Value}(h:us.length=1):∃ a,us=[a]:=List.length_eq_one_iff.mp h
theorem us2 {us:List Value}(h:us.length=2):∃ a0 a1,us=[a0,a1]:=by
 cases us with
 | nil=>cases h
 | cons a0 l=>obtain ⟨a1,rfl⟩:=us1 (Nat.succ.inj h);exact ⟨a0,a1,rfl⟩
theorem us3 {us:List Value}(h:us.length=3):∃ a0 a1 a2,us=[a0,a1,a2]:=by
 cases us with
 | nil=>cases h
 | cons a0 l=>obtain ⟨a1,a2,rfl⟩:=us2 (Nat.succ.inj h);exact ⟨a0,a1,a2,rfl⟩
theorem us4 {us:List Value}(h:us.length=4):∃ a0 a1 a2 a3,us=[a0,a1,a2,a3]:=by
 cases us with
 | nil=>cases h
 | cons a0 l=>obtain ⟨a1,a2,a3,rfl⟩:=us3 (Nat.succ.inj h);exact ⟨a0,a1,a2,a3,rfl⟩
theorem us5 {us:List Value}(h:us.length=5):∃ a0 a1 a2 a3 a4,us=[a0,a1,a2,a3,a4]:=by
 cases us with
 | nil=>cases h
 | cons a0 l=>obtain ⟨a1,a2,a3,a4,rfl⟩:=us4 (Nat.succ.inj h);exact ⟨a0,a1,a2,a3,a4,rfl⟩
set_option maxHeartbeats 0 in
theorem all_mk {l:PySem.W.OpenLaw}{w:World} {K:PySem.W.Frag}{h:Heap} {mg:Str→Option Value}{fa:Addr} (X:K.In h) (G:h.Ns mainGlobals mg) (hfa:mg "law" = some (.ref fa)) (A0:fcV pwk fnI clI K=fcX pwk fnI clI)
  : ∃ fd:FuncData,(∀ (s:Shared) (v:Value),BindsTo s fd ⟨[v],[]⟩ [("_law_script",v)])∧∀ base:Heap,K.In base→base.Ns mainGlobals mg→FnOk l.prog w K mg base CX0 102 fa fd ["_law_script"] (SpD K .fz m_law04):=by
 have A:faV pwk fnI K=faX pwk fnI:=congrArg (fun q=>q.1.1) A0
 have B:Glb mg:=zng A X G
 obtain ⟨f20,fd20,a20,F20⟩:=zbO A 31 (by decide) (n := "law") rfl
 have e:=hfa.symm.trans (PySem.W.mg_of X G a20)
 cases e
 refine ⟨fd20,?_,fun base _ _=>?_⟩
 ·obtain ⟨oc,od,kV,doc,pm,an,cdv,ct,osl,rfl,lk,cd⟩:=F20.ex;exact fun s v=>.of_eq rfl
 have ve:mg "ValueError" = none:=PySem.W.mg_none_of X G (congrArg (fun q=>q.1.2.2) A0)
 obtain ⟨C_EndError,g_EndError,gd_EndError,n_EndError,M_EndError,E_EndError,Q_EndError⟩:=zhG (congrArg Prod.fst A0) 1 (by decide)
 have n_EndError:PySem.W.nsIn K mainGlobals "EndError" = some (some (.ref C_EndError)):=n_EndError
 have bb_EndError:=Q_EndError.binds (ps:=["self", "text"]) fun _ _ _ _ _ _ us hl=>by obtain ⟨_,_,rfl⟩:=us2 hl;rfl
 obtain ⟨C_NoPlace,g_NoPlace,gd_NoPlace,n_NoPlace,M_NoPlace,E_NoPlace,Q_NoPlace⟩:=zhG (congrArg Prod.fst A0) 2 (by decide)
 have n_NoPlace:PySem.W.nsIn K mainGlobals "NoPlace" = some (some (.ref C_NoPlace)):=n_NoPlace
 have bb_NoPlace:=Q_NoPlace.binds (ps:=["self", "place"]) fun _ _ _ _ _ _ us hl=>by obtain ⟨_,_,rfl⟩:=us2 hl;rfl
 obtain ⟨C_NoRule,g_NoRule,gd_NoRule,n_NoRule,M_NoRule,E_NoRule,Q_NoRule⟩:=zhG (congrArg Prod.fst A0) 3 (by decide)
 have n_NoRule:PySem.W.nsIn K mainGlobals "NoRule" = some (some (.ref C_NoRule)):=n_NoRule
 have bb_NoRule:=Q_NoRule.binds (ps:=["self", "rule"]) fun _ _ _ _ _ _ us hl=>by obtain ⟨_,_,rfl⟩:=us2 hl;rfl
 obtain ⟨C_TwoCounts,g_TwoCounts,gd_TwoCounts,n_TwoCounts,M_TwoCounts,E_TwoCounts,Q_TwoCounts⟩:=zhG (congrArg Prod.fst A0) 4 (by decide)
 have n_TwoCounts:PySem.W.nsIn K mainGlobals "TwoCounts" = some (some (.ref C_TwoCounts)):=n_TwoCounts
 have bb_TwoCounts:=Q_TwoCounts.binds (ps:=["self", "sign"]) fun _ _ _ _ _ _ us hl=>by obtain ⟨_,_,rfl⟩:=us2 hl;rfl
 obtain ⟨C_TooLong,g_TooLong,gd_TooLong,n_TooLong,M_TooLong,E_TooLong,Q_TooLong⟩:=zhG (congrArg Prod.fst A0) 5 (by decide)
 have n_TooLong:PySem.W.nsIn K mainGlobals "TooLong" = some (some (.ref C_TooLong)):=n_TooLong
 have bb_TooLong:=Q_TooLong.binds (ps:=["self", "term"]) fun _ _ _ _ _ _ us hl=>by obtain ⟨_,_,rfl⟩:=us2 hl;rfl
 obtain ⟨C_NoRank,g_NoRank,gd_NoRank,n_NoRank,M_NoRank,E_NoRank,Q_NoRank⟩:=zhG (congrArg Prod.fst A0) 6 (by decide)
 have n_NoRank:PySem.W.nsIn K mainGlobals "NoRank" = some (some (.ref C_NoRank)):=n_NoRank
 have bb_NoRank:=Q_NoRank.binds (ps:=["self", "rules"]) fun _ _ _ _ _ _ us hl=>by obtain ⟨_,_,rfl⟩:=us2 hl;rfl
 have FE:FnOk l.prog w K mg base CX0 1 g_EndError gd_EndError ["self", "text"] (SpE K):=zgw (k:=0) ve Q_EndError
 have XS:Exs l.prog w K mg base xcl:=by
  refine znf A0 X G n_EndError M_EndError bb_EndError FE (fun c hc=>?_) (fun c hc=>?_)
  ·simp only [xcl,List.mem_cons,List.not_mem_nil,or_false] at hc
   rcases hc with rfl | rfl | rfl | rfl | rfl
   ·exact ⟨by decide,_,n_NoPlace⟩
   ·exact ⟨by decide,_,n_NoRule⟩
   ·exact ⟨by decide,_,n_TwoCounts⟩
   ·exact ⟨by decide,_,n_TooLong⟩
   ·exact ⟨by decide,_,n_NoRank⟩
  ·simp only [xcl,List.mem_cons,List.not_mem_nil,or_false] at hc
   rcases hc with rfl | rfl | rfl | rfl | rfl
   ·exact ⟨_,_,_,_,M_NoPlace,n_NoPlace,PySem.W.mg_of X G n_NoPlace,bb_NoPlace,by rw [show zaR "NoPlace" = "place" by decide +kernel];exact zhy (k:=1) M_NoPlace E_EndError (PySem.W.mg_of X G n_EndError) FE bb_EndError Q_NoPlace⟩
   ·exact ⟨_,_,_,_,M_NoRule,n_NoRule,PySem.W.mg_of X G n_NoRule,bb_NoRule,by rw [show zaR "NoRule" = "rule" by decide +kernel];exact zis (k:=1) M_NoRule E_EndError (PySem.W.mg_of X G n_EndError) FE bb_EndError Q_NoRule⟩
   ·exact ⟨_,_,_,_,M_TwoCounts,n_TwoCounts,PySem.W.mg_of X G n_TwoCounts,bb_TwoCounts,by rw [show zaR "TwoCounts" = "sign" by decide +kernel];exact zfP (k:=1) M_TwoCounts E_EndError (PySem.W.mg_of X G n_EndError) FE bb_EndError Q_TwoCounts⟩
   ·exact ⟨_,_,_,_,M_TooLong,n_TooLong,PySem.W.mg_of X G n_TooLong,bb_TooLong,by rw [show zaR "TooLong" = "term" by decide +kernel];exact zhx (k:=1) M_TooLong E_EndError (PySem.W.mg_of X G n_EndError) FE bb_EndError Q_TooLong⟩
   ·exact ⟨_,_,_,_,M_NoRank,n_NoRank,PySem.W.mg_of X G n_NoRank,bb_NoRank,by rw [show zaR "NoRank" = "rules" by decide +kernel];exact zit (k:=1) M_NoRank E_EndError (PySem.W.mg_of X G n_EndError) FE bb_EndError Q_NoRank⟩
 obtain ⟨f1,fd1,a1,F1⟩:=zbO A 15 (by decide) (n := "_law_words") rfl
 have k1:=F1.kp
 have b1:=F1.binds (ps:=["_law_cell_here"]) fun _ _ _ _ _ _ us hl=>by obtain ⟨_,rfl⟩:=us1 hl;rfl
 have G__law_words:Fk l.prog w K mg base "_law_words" ["_law_cell_here"] .ow 1 zat:=⟨_,_,zfb (k:=0) B F1,b1,k1,PySem.W.mg_of X G a1⟩
 obtain ⟨f2,fd2,a2,F2⟩:=zbO A 16 (by decide) (n := "_law_sorts") rfl
 have k2:=F2.kp
 have b2:=F2.binds (ps:=["_law_cell_here"]) fun _ _ _ _ _ _ us hl=>by obtain ⟨_,rfl⟩:=us1 hl;rfl
 have G__law_sorts:Fk l.prog w K mg base "_law_sorts" ["_law_cell_here"] .ow 2 zam:=⟨_,_,zfc (k:=1) B F2 (G__law_words.mono (j:=1) (by first | decide | omega)),b2,k2,PySem.W.mg_of X G a2⟩
 obtain ⟨f3,fd3,a3,F3⟩:=zbO A 17 (by decide) (n := "_law_blanks") rfl
 have k3:=F3.kp
 have b3:=F3.binds (ps:=["_law_cell_here"]) fun _ _ _ _ _ _ us hl=>by obtain ⟨_,rfl⟩:=us1 hl;rfl
 have G__law_blanks:Fk l.prog w K mg base "_law_blanks" ["_law_cell_here"] .ow 1 zak:=⟨_,_,zeC (k:=0) B F3,b3,k3,PySem.W.mg_of X G a3⟩
 obtain ⟨f4,fd4,a4,F4⟩:=zbO A 18 (by decide) (n := "_law_grown") rfl
 have k4:=F4.kp
 have b4:=F4.binds (ps:=["_law_row", "_law_number", "_law_sorts_here", "_law_blanks_here", "_law_most"]) fun _ _ _ _ _ _ us hl=>by obtain ⟨_,_,_,_,_,rfl⟩:=us5 hl;rfl
 have G__law_grown:Fk l.prog w K mg base "_law_grown" ["_law_row", "_law_number", "_law_sorts_here", "_law_blanks_here", "_law_most"] .ow 1 zad:=⟨_,_,zfd (k:=0) B F4,b4,k4,PySem.W.mg_of X G a4⟩
 obtain ⟨f5,fd5,a5,F5⟩:=zbO A 22 (by decide) (n := "_law_count") rfl
 have k5:=F5.kp
 have b5:=F5.binds (ps:=["_law_term_here"]) fun _ _ _ _ _ _ us hl=>by obtain ⟨_,rfl⟩:=us1 hl;rfl
 have H__law_count:∀ n:Nat,Fk l.prog w K mg base "_law_count" ["_law_term_here"] .fz (0 + n) (zaZ n):=by
  intro n
  induction n with
  | zero=>exact (Fk.never ⟨b5,k5,PySem.W.mg_of X G a5⟩ fun _=>rfl).mono (by omega)
  | succ n ih=>exact ⟨_,_,zfe (k:=0 + n) B F5 (ih.mono (j:=0 + n) (by omega)),b5,k5,PySem.W.mg_of X G a5⟩
 have G__law_count:Fk l.prog w K mg base "_law_count" ["_law_term_here"] .fz 100 zcq:=H__law_count 100
 obtain ⟨f6,fd6,a6,F6⟩:=zbO A 23 (by decide) (n := "_law_term") rfl
 have k6:=F6.kp
 have b6:=F6.binds (ps:=["_law_numbers", "_law_sorts_here", "_law_blanks_here", "_law_most"]) fun _ _ _ _ _ _ us hl=>by obtain ⟨_,_,_,_,rfl⟩:=us4 hl;rfl
 have G__law_term:Fk l.prog w K mg base "_law_term" ["_law_numbers", "_law_sorts_here", "_law_blanks_here", "_law_most"] .fz 101 zap:=⟨_,_,zfL (k:=100) B F6 (G__law_grown.mono (j:=100) (by first | decide | omega)) (G__law_count.mono (j:=100) (by first | decide | omega)),b6,k6,PySem.W.mg_of X G a6⟩
 obtain ⟨f7,fd7,a7,F7⟩:=zbO A 25 (by decide) (n := "_law_places") rfl
 have k7:=F7.kp
 have b7:=F7.binds (ps:=["_law_term_here"]) fun _ _ _ _ _ _ us hl=>by obtain ⟨_,rfl⟩:=us1 hl;rfl
 have H__law_places:∀ n:Nat,Fk l.prog w K mg base "_law_places" ["_law_term_here"] .fz (0 + n) (zaw n):=by
  intro n
  induction n with
  | zero=>exact (Fk.never ⟨b7,k7,PySem.W.mg_of X G a7⟩ fun _=>rfl).mono (by omega)
  | succ n ih=>exact ⟨_,_,zeA (k:=0 + n) B F7 (ih.mono (j:=0 + n) (by omega)),b7,k7,PySem.W.mg_of X G a7⟩
 have G__law_places:Fk l.prog w K mg base "_law_places" ["_law_term_here"] .fz 100 zac:=H__law_places 100
 obtain ⟨f8,fd8,a8,F8⟩:=zbO A 30 (by decide) (n := "_law_made") rfl
 have k8:=F8.kp
 have b8:=F8.binds (ps:=["_law_place", "_law_term_here"]) fun _ _ _ _ _ _ us hl=>by obtain ⟨_,_,rfl⟩:=us2 hl;rfl
 have G__law_made:Fk l.prog w K mg base "_law_made" ["_law_place", "_law_term_here"] .fz 4 zbD:=⟨_,_,zfN (k:=0) B XS F8,b8,k8,PySem.W.mg_of X G a8⟩
 obtain ⟨f9,fd9,a9,F9⟩:=zbO A 14 (by decide) (n := "_law_cell") rfl
 have k9:=F9.kp
 have b9:=F9.binds (ps:=["_law_script", "_law_k"]) fun _ _ _ _ _ _ us hl=>by obtain ⟨_,_,rfl⟩:=us2 hl;rfl
 have G__law_cell:Fk l.prog w K mg base "_law_cell" ["_law_script", "_law_k"] .fz 1 zao:=⟨_,_,zfO (k:=0) B F9,b9,k9,PySem.W.mg_of X G a9⟩
 obtain ⟨f10,fd10,a10,F10⟩:=zbO A 24 (by decide) (n := "_law_part") rfl
 have k10:=F10.kp
 have b10:=F10.binds (ps:=["_law_term_here", "_law_place"]) fun _ _ _ _ _ _ us hl=>by obtain ⟨_,_,rfl⟩:=us2 hl;rfl
 have G__law_part:Fk l.prog w K mg base "_law_part" ["_law_term_here", "_law_place"] .fz 1 zai:=⟨_,_,zfM (k:=0) B F10,b10,k10,PySem.W.mg_of X G a10⟩
 obtain ⟨f11,fd11,a11,F11⟩:=zbO A 27 (by decide) (n := "_law_spoiled") rfl
 have k11:=F11.kp
 have b11:=F11.binds (ps:=["_law_term_here", "_law_place", "_law_cell_here"]) fun _ _ _ _ _ _ us hl=>by obtain ⟨_,_,_,rfl⟩:=us3 hl;rfl
 have G__law_spoiled:Fk l.prog w K mg base "_law_spoiled" ["_law_term_here", "_law_place", "_law_cell_here"] .fz 2 zaO:=⟨_,_,zee (k:=1) B F11 (G__law_part.mono (j:=1) (by first | decide | omega)),b11,k11,PySem.W.mg_of X G a11⟩
 obtain ⟨f12,fd12,a12,F12⟩:=zbO A 8 (by decide) (n := "is_blank") rfl
 have k12:=F12.kp
 have b12:=F12.binds (ps:=["term"]) fun _ _ _ _ _ _ us hl=>by obtain ⟨_,rfl⟩:=us1 hl;rfl
 have G_is_blank:Fk l.prog w K mg base "is_blank" ["term"] .fz 1 zaJ:=⟨_,_,zgu (k:=0) B F12,b12,k12,PySem.W.mg_of X G a12⟩
 obtain ⟨f13,fd13,a13,F13⟩:=zbO A 9 (by decide) (n := "inner_parts") rfl
 have k13:=F13.kp
 have b13:=F13.binds (ps:=["term"]) fun _ _ _ _ _ _ us hl=>by obtain ⟨_,rfl⟩:=us1 hl;rfl
 have G_inner_parts:Fk l.prog w K mg base "inner_parts" ["term"] .fz 2 zae:=⟨_,_,zez (k:=1) B F13 (G_is_blank.mono (j:=1) (by first | decide | omega)),b13,k13,PySem.W.mg_of X G a13⟩
 obtain ⟨f14,fd14,a14,F14⟩:=zbO A 10 (by decide) (n := "way_to") rfl
 have k14:=F14.kp
 have b14:=F14.binds (ps:=["term", "place"]) fun _ _ _ _ _ _ us hl=>by obtain ⟨_,_,rfl⟩:=us2 hl;rfl
 have G_way_to:FkE l.prog w K mg base "way_to" ["term", "place"] .fz 4 zbw:=⟨_,_,ziq (k:=0) B XS F14 (G_inner_parts.mono (j:=3) (by first | decide | omega)),b14,k14,PySem.W.mg_of X G a14⟩
 obtain ⟨f15,fd15,a15,F15⟩:=zbO A 11 (by decide) (n := "part_at") rfl
 have k15:=F15.kp
 have b15:=F15.binds (ps:=["term", "place"]) fun _ _ _ _ _ _ us hl=>by obtain ⟨_,_,rfl⟩:=us2 hl;rfl
 have G_part_at:FkE l.prog w K mg base "part_at" ["term", "place"] .fz 5 zaD:=⟨_,_,zhw (k:=4) B F15 (G_way_to.mono (j:=4) (by first | decide | omega)),b15,k15,PySem.W.mg_of X G a15⟩
 obtain ⟨f16,fd16,a16,F16⟩:=zbO A 12 (by decide) (n := "put_at") rfl
 have k16:=F16.kp
 have b16:=F16.binds (ps:=["term", "place", "new"]) fun _ _ _ _ _ _ us hl=>by obtain ⟨_,_,_,rfl⟩:=us3 hl;rfl
 have G_put_at:FkE l.prog w K mg base "put_at" ["term", "place", "new"] .fz 5 zbM:=⟨_,_,zir (k:=4) B F16 (G_way_to.mono (j:=4) (by first | decide | omega)),b16,k16,PySem.W.mg_of X G a16⟩
 obtain ⟨f17,fd17,a17,F17⟩:=zbO A 28 (by decide) (n := "_law_caught") rfl
 have k17:=F17.kp
 have b17:=F17.binds (ps:=["_law_way", "_law_term_here", "_law_place"]) fun _ _ _ _ _ _ us hl=>by obtain ⟨_,_,_,rfl⟩:=us3 hl;rfl
 have G__law_caught:Fk l.prog w K mg base "_law_caught" ["_law_way", "_law_term_here", "_law_place"] .fz 6 zaE:=⟨_,_,zeB (k:=2) B XS F17 (G_part_at.mono (j:=5) (by first | decide | omega)) (G_put_at.mono (j:=5) (by first | decide | omega)),b17,k17,PySem.W.mg_of X G a17⟩
 obtain ⟨f18,fd18,a18,F18⟩:=zbO A 26 (by decide) (n := "_law_has") rfl
 have k18:=F18.kp
 have b18:=F18.binds (ps:=["_law_term_here", "_law_place"]) fun _ _ _ _ _ _ us hl=>by obtain ⟨_,_,rfl⟩:=us2 hl;rfl
 have G__law_has:Fk l.prog w K mg base "_law_has" ["_law_term_here", "_law_place"] .fz 1 zca:=⟨_,_,zgv (k:=0) B F18,b18,k18,PySem.W.mg_of X G a18⟩
 obtain ⟨f19,fd19,a19,F19⟩:=zbO A 29 (by decide) (n := "_law_refused") rfl
 have k19:=F19.kp
 have b19:=F19.binds (ps:=["_law_e", "_law_place"]) fun _ _ _ _ _ _ us hl=>by obtain ⟨_,_,rfl⟩:=us2 hl;rfl
 have G__law_refused:Fk l.prog w K mg base "_law_refused" ["_law_e", "_law_place"] .fz 4 zaP:=⟨_,_,zef (k:=0) B XS F19,b19,k19,PySem.W.mg_of X G a19⟩
 exact zmL (k:=101) B F20 (G__law_sorts.mono (j:=101) (by first | decide | omega)) (G__law_blanks.mono (j:=101) (by first | decide | omega)) (G__law_term.mono (j:=101) (by first | decide | omega)) (G__law_places.mono (j:=101) (by first | decide | omega)) (G__law_made.mono (j:=101) (by first | decide | omega)) (G__law_cell.mono (j:=101) (by first | decide | omega)) (G__law_spoiled.mono (j:=101) (by first | decide | omega)) (G__law_caught.mono (j:=101) (by first | decide | omega)) (G__law_has.mono (j:=101) (by first | decide | omega)) (G__law_refused.mono (j:=101) (by first | decide | omega)) (G_part_at.mono (j:=101) (by first | decide | omega)) (G__law_part.mono (j:=101) (by first | decide | omega))
open PySem.W
theorem bigk:∀ w:World,(fun os:OsState=>(HD.bal (Fast.tw10156331382660048174 (Fast.tw11892475500146522536 Fast.tw14364793385576792824) pwk w) (Fast.tw6613529449190102663 11 (some (.ref 6))) 12 (HD.bootS w os) (topStub pwk)).map (HD.looks pwk qwk lzk (fun s=>recOk rwk.row.toRowW.records s) (fun s=>fcV pwk fnI clI (zkp s.heap)) Fast.tw4187177175401517315 Fast.tw5923862056798008813 w))=fun _=>some (true,true,openGood qwk lzk,fcX pwk fnI clI):=by
 intro w
 kernel_rfl
theorem saidk:rwk.wellSaid=true:=by kernel_rfl
theorem leftk:LeftO pwk qwk lzk (fun s=>recOk rwk.row.toRowW.records s) (fun s=>fcV pwk fnI clI (zkp s.heap)) (fun _=>fcX pwk fnI clI) 4796:=by
 refine HD.left_of (d:=12) (by kernel_rfl) (by decide) (by decide) (fun s=>by kernel_rfl) ?_
 rw [Fast.te10156331382660048174,Fast.te11892475500146522536,Fast.te14364793385576792824,Fast.te6613529449190102663,Fast.te4187177175401517315,Fast.te5923862056798008813]
 exact bigk
end FL
end
open PySem PySem.W PyProof.Rows
set_option maxRecDepth 100000 in
set_option maxHeartbeats 0 in
theorem PySem.Challenge.cw_endmeet_k04_no_place_holds : PySem.Challenge.rw_endmeet_k04_no_place.Holds := by
  refine holds_law FL.saidk fun said => ?_
  refine holds_open (q := FL.qwk) (loose := FL.lzk) (XP := fun _ _ => True) (YP := FL.YP3 FL.pwk FL.fnI FL.clI) FL.leftk (fun w s e => ⟨_, FL.allIn_in s.heap, e⟩) FL.YP3.keeps (fun _ _ => trivial) (fun _ _ _ _ _ => trivial) (by rfl) (by rfl) (by rfl) (fun s e => recFacts_of e) (by rfl) said (by decide +kernel) ⟨rfl, rfl, rfl, rfl, rfl, by decide +kernel⟩ ?hw ?hc
  case hw => w_witness2
  case hc =>
    refine FL.walkE3 (l := PySem.Challenge.rw_endmeet_k04_no_place) (k := 102) (x := "_law_script") (m := FL.m_law04) rfl rfl ⟨rfl, by decide, by decide, rfl⟩ ?F FL.FACT04
    intro K w mg fa h A KX G hmg
    exact FL.all_mk KX G hmg A
