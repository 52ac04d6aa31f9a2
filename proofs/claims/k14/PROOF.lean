import PyProof.Rows.All
import Wide.All
import OpenK.AllK
import Wide.FinOn
import Lean
import PyProof.EqAt
import PyProof.EqKinds
import PyProof.TupleCall
import PyProof.NeKinds
import PyProof.ZipIter
import PyProof.Draws
import KE.KRevIter
import PyProof.ListNew
import KE.KEqDict
import PyProof.EnumMake
import PyProof.StrWalks
import KE.KDictLaws
import PyProof.DictItemsLoops
import PyProof.DictWalks
import PyProof.DictCompW
import PyProof.ListMulAny
import PyProof.FactsAll.tuple_2
import PySem.Challenge.RW_endmeet_k14_whole_widest
section
local macro_rules | `(tactic| omega) => `(tactic| lia)
set_option Elab.async false
set_option linter.all false
set_option maxRecDepth 100000
namespace L2
open PySem PySem.Spec PyProof.Rows
noncomputable abbrev Key:=Sum Int Str
noncomputable def keyIs:Key→Value→Bool
  | .inl k,v=>Value.isInt k v
  | .inr x,v=>Value.isStrOf x v
noncomputable def keyH (w:World):Key→Int
  | .inl k=>hashInt k
  | .inr x=>hashStr w x
theorem keyIs_shape:∀ {k:Key}{v:Value},keyIs k v=true→(∃ i t,k=Sum.inl i∧v=Value.int i t)∨(∃ x t,k=Sum.inr x∧v=Value.str x t)
  | .inl i,v,h=>by
    obtain ⟨t,e⟩:=Value.isInt_shape (k:=i) (v:=v) h
    exact .inl ⟨i,t,rfl,e⟩
  | .inr x,v,h=>by
    obtain ⟨t,e⟩:=Value.isStrOf_shape (x:=x) (v:=v) h
    exact .inr ⟨x,t,rfl,e⟩
theorem keyIs_int (i:Int) (t:Tok):keyIs (.inl i) (.int i t)=true:=by simp [keyIs,Value.isInt]
theorem keyIs_str (x:Str) (t:Tok):keyIs (.inr x) (.str x t)=true:=by simp [keyIs,Value.isStrOf]
theorem key_ll (a b:Int):decide ((Sum.inl a:Key)=Sum.inl b)=(a == b):=by
  by_cases e:a=b
  · subst e;simp
  · have h:¬ (Sum.inl a:Key)=Sum.inl b:=fun q=>e (Sum.inl.inj q)
    rw [decide_eq_false h]
    exact (beq_eq_false_iff_ne.mpr e).symm
theorem key_rr (a b:Str):decide ((Sum.inr a:Key)=Sum.inr b)=decide (a=b):=by
  by_cases e:a=b
  · subst e;simp
  · have h:¬ (Sum.inr a:Key)=Sum.inr b:=fun q=>e (Sum.inr.inj q)
    rw [decide_eq_false h,decide_eq_false e]
theorem key_lr (a:Int) (b:Str):decide ((Sum.inl a:Key)=Sum.inr b)=false:=decide_eq_false (fun q=>nomatch q)
theorem key_rl (a:Str) (b:Int):decide ((Sum.inr a:Key)=Sum.inl b)=false:=decide_eq_false (fun q=>nomatch q)
noncomputable def mixKind (prog:Program) (w:World):PySem.KeyKind prog w Key where
  is:=keyIs
  hash:=keyH w
  inj:=fun v a b ha hb=>by
    rcases keyIs_shape ha with ⟨i,t,rfl,rfl⟩ | ⟨x,t,rfl,rfl⟩
    · rcases keyIs_shape hb with ⟨j,u,rfl,e⟩ | ⟨y,u,rfl,e⟩
      · injection e with e1 _;rw [e1]
      · exact nomatch e
    · rcases keyIs_shape hb with ⟨j,u,rfl,e⟩ | ⟨y,u,rfl,e⟩
      · exact nomatch e
      · injection e with e1 _;rw [e1]
  byValue:=fun k v h=>by
    rcases keyIs_shape h with ⟨i,t,rfl,rfl⟩ | ⟨x,t,rfl,rfl⟩<;>rfl
  pyHash:=fun hv h=>by
    rcases keyIs_shape hv with ⟨i,t,rfl,rfl⟩ | ⟨x,t,rfl,rfl⟩
    · exact wpAny_pyHash_int h
    · exact wpAny_pyHash_str h
  eqBool:=fun hu hv h=>by
    rcases keyIs_shape hu with ⟨i,t,rfl,rfl⟩ | ⟨x,t,rfl,rfl⟩
    · rcases keyIs_shape hv with ⟨j,u,rfl,rfl⟩ | ⟨y,u,rfl,rfl⟩
      · rw [key_ll] at h;exact wpAny_eqBool_int h
      · rw [key_lr] at h;exact SeqAt.EqAt.int_str i t y u _ _ _ _ h
    · rcases keyIs_shape hv with ⟨j,u,rfl,rfl⟩ | ⟨y,u,rfl,rfl⟩
      · rw [key_rl] at h;exact SeqAt.EqAt.str_int x t j u _ _ _ _ h
      · rw [key_rr] at h;exact wpAny_eqBool_str h
  «strs»:=fun k x t v h=>by
    rcases keyIs_shape h with ⟨i,u,rfl,e⟩ | ⟨y,u,rfl,e⟩
    · exact nomatch e
    · injection e with e1 _
      subst e1
      cases v<;>rfl
theorem mixKind_is (prog:Program) (w:World) (k:Key) (v:Value):(mixKind prog w).is k v=keyIs k v:=rfl
theorem mixKind_int (prog:Program) (w:World) (i:Int) (t:Tok):(mixKind prog w).is (.inl i) (.int i t)=true:=keyIs_int i t
theorem mixKind_str (prog:Program) (w:World) (x:Str) (t:Tok):(mixKind prog w).is (.inr x) (.str x t)=true:=keyIs_str x t
end L2
namespace L2
open PySem PySem.Spec PyProof.Rows
inductive V where
  | non | bl (b:Bool) | int (i:Int) | str (x:Str) | byt (b:Array UInt8) | flt (b:UInt64) | ref (a:Addr) | ty (n:String)
  deriving DecidableEq
noncomputable def RelV:V→Value→Prop
  | .non,u=>u=Value.none
  | .bl b,u=>u=Value.bool b
  | .int i,u=>∃ t,u=Value.int i t
  | .str x,u=>∃ t,u=Value.str x t
  | .byt b,u=>∃ t,u=Value.bytes b t
  | .flt b,u=>∃ t,u=Value.float b t
  | .ref a,u=>u=Value.ref a
  | .ty n,u=>u=Value.type n
noncomputable abbrev Vals:List V→List Value→Prop:=Paired RelV
theorem Vals.length {xs:List V}{us:List Value} (r:Vals xs us):xs.length=us.length:=Paired.length r
theorem Vals.get:∀ {xs:List V}{us:List Value} {i:Nat}{x:V},Vals xs us→xs[i]?=some x→∃ u,us[i]?=some u∧RelV x u
  | _,_,_,_,.nil,e=>by simp at e
  | _,_,0,_,.cons r _,e=>by simp at e;subst e;exact ⟨_,rfl,r⟩
  | _,_,i + 1,x,.cons _ t,e=>by
    obtain ⟨u,h1,h2⟩:=Vals.get (i:=i) (x:=x) t (by simpa using e)
    exact ⟨u,by simpa using h1,h2⟩
theorem Vals.set {x:V}{u:Value} (r:RelV x u):∀ {xs:List V}{us:List Value} (i:Nat),Vals xs us→Vals (xs.set i x) (us.set i u)
  | _,_,_,.nil=>.nil
  | _,_,0,.cons _ t=>.cons r t
  | _,_,i + 1,.cons q t=>.cons q (Vals.set r i t)
theorem Vals.append:∀ {xs ys:List V}{us ws:List Value},Vals xs us→Vals ys ws→Vals (xs++ys) (us++ws)
  | _,_,_,_,.nil,s=>s
  | _,_,_,_,.cons r t,s=>.cons r (Vals.append t s)
theorem Vals.take:∀ {xs:List V}{us:List Value} (n:Nat),Vals xs us→Vals (xs.take n) (us.take n)
  | _,_,0,_=>.nil
  | _,_,_ + 1,.nil=>.nil
  | _,_,n + 1,.cons r t=>.cons r (Vals.take n t)
theorem Vals.drop:∀ {xs:List V}{us:List Value} (n:Nat),Vals xs us→Vals (xs.drop n) (us.drop n)
  | _,_,0,r=>r
  | _,_,_ + 1,.nil=>.nil
  | _,_,n + 1,.cons _ t=>Vals.drop n t
noncomputable def RelO:Option V→Option Value→Prop
  | some v,some u=>RelV v u
  | none,none=>True
  | _,_=>False
noncomputable def KV {κ:Type}:List (κ×V)→List (κ×Value)→Prop:=Paired fun (p:κ×V) (q:κ×Value)=>p.1=q.1∧RelV p.2 q.2
noncomputable def kV:Key→V
  | .inl i=>.int i
  | .inr x=>.str x
inductive HO where
  | lst (xs:List V)
  | tup (xs:List V)
  | dK (kvs:List (Key×V)) | dT (kvs:List (List Key×V))
  | set (S:Int→Bool) (n:Nat)
  | ins (C dx:Addr) (fs:List (Str×V))
  | own (x:Addr)
  | xd (fs:List (Str×V))
  | met (f x:Addr)
  | rng (lo hi:Int)
  | frz (o:Obj) (u:HO)
  | tbl (ps:Array Value)
  | ext (φ:Heap→Prop)
noncomputable abbrev Hp:=Addr→Option HO
noncomputable def upd (H:Hp) (a:Addr) (o:HO):Hp:=fun b=>if b=a then some o else H b
theorem upd_same {H:Hp}{a:Addr} {o:HO}:upd H a o a=some o:=by unfold upd;rw [if_pos rfl]
theorem upd_ne {H:Hp}{a b:Addr} {o:HO}(h:b≠a):upd H a o b=H b:=by unfold upd;rw [if_neg h]
theorem ne_of {H:Hp}{a b:Addr} {o u:HO}(h:H a=some o) (h':H b=some u) (d:o≠u):a≠b:=by
  intro e;subst e;rw [h] at h';exact d (Option.some.inj h')
theorem ne_of_none {H:Hp}{a b:Addr} {o:HO}(h:H a=some o) (h':H b=none):a≠b:=by
  intro e;subst e;rw [h] at h';cases h'
section
variable (P:Program) (w:World)
noncomputable def ObjOk (H:Hp) (h:Heap) (a:Addr):HO→Prop
  | .lst xs=>xs.length≤sizeLine∧∃ (its:List Value) (n:Nat),Vals xs its∧h.get? a=some { cls:=.type "list",data:=.seq its.toArray n }
  | .tup xs=>xs.length≤sizeLine∧∃ its:List Value,Vals xs its∧IsTup h a its.toArray
  | .dK kvs=>kvs.length≤sizeLine∧(a == sysModules)=false∧∃ vs,KV kvs vs∧h.DictOf (mixKind P w) a vs
  | .dT kvs=>kvs.length≤sizeLine∧(a == sysModules)=false∧∃ xs:List (List Key×Addr×Value),
      Paired (fun (p:List Key×V) (q:List Key×Addr×Value)=>p.1=q.1∧H q.2.1=some (.tup (p.1.map kV))∧RelV p.2 q.2.2) kvs xs∧
      ∃ o es ep,h.get? a=some o∧o.ExactDict∧o.data=.dict es ep∧es.toList=xs.map (entryOfKey (tupleKind (mixKind P w)))∧(xs.map (·.1)).Nodup
  | .set S n=>h.SetOf (intKind P w) a S n
  | .ins C dx fs=>H dx=some (.own a)∧fs.length≤1000∧dx≠a∧h.get? a=some (PySem.W.instObj C dx)∧
      ∃ mA,h.Ns1 dx mA∧(∀ f,RelO (fs.lookup f) (mA f))∧PySem.Within mA (fs.map (·.1))
  | .own _=>∃ o,h.get? a=some o
  | .xd fs=>∃ mA,h.Ns1 a mA∧∀ f,RelO (fs.lookup f) (mA f)
  | .rng lo hi=>∃ t u v,h.get? a=some { cls:=.type "range",data:=.fields #[.int lo t,.int hi u,.int 1 v] }
  | .frz o u=>h.get? a=some o∧ObjOk H h a u
  | .tbl ps=>h.get? a=some { cls:=.none,data:=.fields ps }
  | .met f x=>h.get? a=some (PySem.W.methodObj (.ref f) (.ref x))
  | .ext φ=>φ h∧(∃ o,h.get? a=some o)∧∀ h1 h2:Heap,φ h1→(∀ o,h1.get? a=some o→h2.get? a=some o)→φ h2
noncomputable def HOk (H:Hp) (h:Heap):Prop:=∀ a o,H a=some o→ObjOk P w H h a o
end
section
variable {P:Program}{w:World} {H H':Hp}{h h':Heap} {a:Addr}{o:HO}
theorem ObjOk.lt (x:ObjOk P w H h a o):a < h.objs.size:=by
  cases o with
  | lst xs=>obtain ⟨_,_,_,_,e⟩:=x;exact Heap.lt_size e
  | tup xs=>obtain ⟨_,_,_,p⟩:=x;exact p.lt
  | dK kvs=>obtain ⟨_,_,_,_,o,_,_,e,_⟩:=x;exact Heap.lt_size e
  | dT kvs=>obtain ⟨_,_,_,_,o,_,_,e,_⟩:=x;exact Heap.lt_size e
  | set S n=>obtain ⟨o,_,_,_,e,_⟩:=x;exact Heap.lt_size e
  | ins C dx fs=>obtain ⟨_,_,_,e,_⟩:=x;exact Heap.lt_size e
  | own y=>obtain ⟨_,e⟩:=x;exact Heap.lt_size e
  | xd fs=>obtain ⟨_,⟨_,_,_,e,_⟩,_⟩:=x;exact Heap.lt_size e
  | rng lo hi=>obtain ⟨_,_,_,e⟩:=x;exact Heap.lt_size e
  | frz ob u=>obtain ⟨e,_⟩:=x;exact Heap.lt_size e
  | tbl ps=>exact Heap.lt_size (show h.get? a=some _ from x)
  | met f y=>exact Heap.lt_size (show h.get? a=some _ from x)
  | ext φ=>obtain ⟨_,⟨_,e⟩,_⟩:=x;exact Heap.lt_size e
theorem Paired.mapP {α β:Type}{F G:α→β→Prop}:∀ {l₁:List α}{l₂:List β},Paired F l₁ l₂→(∀ a b,F a b→G a b)→Paired G l₁ l₂
  | _,_,.nil,_=>.nil
  | _,_,.cons r t,f=>.cons (f _ _ r) (Paired.mapP t f)
theorem ObjOk.stay (x:ObjOk P w H h a o) (k:∀ b u,(b=a∨H b=some (.own a))→h.get? b=some u→h'.get? b=some u)
    (ho:∀ b,H b=some (.own a)→H' b=some (.own a)) (ht:∀ b xs,H b=some (.tup xs)→H' b=some (.tup xs)):ObjOk P w H' h' a o:=by
  induction o with
  | lst xs=>obtain ⟨z,its,n,r,e⟩:=x;exact ⟨z,its,n,r,k _ _ (.inl rfl) e⟩
  | tup xs=>obtain ⟨z,its,r,ob,e,c⟩:=x;exact ⟨z,its,r,ob,k _ _ (.inl rfl) e,c⟩
  | dK kvs=>obtain ⟨z,y,vs,r,ob,es,ep,e,c⟩:=x;exact ⟨z,y,vs,r,ob,es,ep,k _ _ (.inl rfl) e,c⟩
  | dT kvs=>
    obtain ⟨z,y,xs,r,ob,es,ep,e,c⟩:=x
    exact ⟨z,y,xs,Paired.mapP r fun p q z=>⟨z.1,ht _ _ z.2.1,z.2.2⟩,ob,es,ep,k _ _ (.inl rfl) e,c⟩
  | set S n=>obtain ⟨ob,es,ep,t,e,c⟩:=x;exact ⟨ob,es,ep,t,k _ _ (.inl rfl) e,c⟩
  | ins C dx fs=>
    obtain ⟨d,z,ne,e,mA,⟨od,es,ep,e2,c⟩,r⟩:=x
    exact ⟨ho _ d,z,ne,k _ _ (.inl rfl) e,mA,⟨od,es,ep,k _ _ (.inr d) e2,c⟩,r⟩
  | own y=>obtain ⟨ob,e⟩:=x;exact ⟨ob,k _ _ (.inl rfl) e⟩
  | xd fs=>obtain ⟨mA,⟨od,es,ep,e,c⟩,r⟩:=x;exact ⟨mA,⟨od,es,ep,k _ _ (.inl rfl) e,c⟩,r⟩
  | rng lo hi=>obtain ⟨t,u,v,e⟩:=x;exact ⟨t,u,v,k _ _ (.inl rfl) e⟩
  | frz ob u ih=>obtain ⟨e,q⟩:=x;exact ⟨k _ _ (.inl rfl) e,ih q⟩
  | tbl ps=>
    have e:h.get? a=some { cls:=.none,data:=.fields ps }:=x
    show h'.get? a=some { cls:=.none,data:=.fields ps }
    exact k a _ (.inl rfl) e
  | met f y=>
    have e:h.get? a=some (PySem.W.methodObj (.ref f) (.ref y)):=x
    show h'.get? a=some (PySem.W.methodObj (.ref f) (.ref y))
    exact k a _ (.inl rfl) e
  | ext φ=>obtain ⟨p,⟨o,e⟩,st⟩:=x;exact ⟨st _ _ p fun o q=>k _ _ (.inl rfl) q,⟨o,k _ _ (.inl rfl) e⟩,st⟩
theorem HOk.lt (x:HOk P w H h) (e:H a=some o):a < h.objs.size:=(x a o e).lt
theorem HOk.fresh (x:HOk P w H h) (e:h.objs.size≤a):H a=none:=by
  cases q:H a with
  | none=>rfl
  | some u=>exact absurd (Nat.lt_of_lt_of_le (x.lt q) e) (Nat.lt_irrefl _)
theorem HOk.kept (x:HOk P w H h) (k:∀ b u,h.get? b=some u→h'.get? b=some u):HOk P w H h':=fun a o e=>
  (x a o e).stay (fun b u _ q=>k b u q) (fun _ q=>q) fun _ _ q=>q
theorem HOk.laid (x:HOk P w H h) (k:∀ b u,h.get? b=some u→h'.get? b=some u) (hp:h.objs.size≤a) (new:ObjOk P w (upd H a o) h' a o):HOk P w (upd H a o) h':=fun b u e=>by
  have hn:=x.fresh hp
  by_cases hb:b=a
  · subst hb;rw [upd_same] at e;cases e;exact new
  · rw [upd_ne hb] at e
    exact (x b u e).stay (fun c v _ q=>k c v q) (fun c q=>by rw [upd_ne (ne_of_none q hn)];exact q) fun c xs q=>by rw [upd_ne (ne_of_none q hn)];exact q
end
noncomputable def Rd (H:Hp) (a:Addr) (u:HO):Prop:=H a=some u∨∃ o,H a=some (.frz o u)
theorem Rd.ok {P:Program}{w:World} {H:Hp}{h:Heap} {a:Addr}{u:HO} (r:Rd H a u) (x:HOk P w H h):ObjOk P w H h a u:=by
  rcases r with r | ⟨o,r⟩
  · exact x a u r
  · obtain ⟨_,q⟩:=x a _ r
    exact q
noncomputable def Mut:Option HO→Prop
  | some (.lst _)=>True
  | some (.dK _)=>True
  | some (.dT _)=>True
  | some (.set _ _)=>True
  | some (.ins _ _ _)=>True
  | some (.ext _)=>True
  | _=>False
section
variable {P:Program}{w:World} {H:Hp}{h h':Heap} {x e:Addr}{o':HO}
theorem HOk.write (ok:HOk P w H h) (mu:Mut (H x)) (he:e=x∨H e=some (.own x)) (k:∀ b u,b≠e→h.get? b=some u→h'.get? b=some u) (heo:∃ u,h'.get? e=some u)
    (new:ObjOk P w (upd H x o') h' x o'):HOk P w (upd H x o') h':=fun b u q=>by
  have nown:∀ c y,H c=some (.own y)→c≠x:=fun c y r z=>by subst z;rw [r] at mu;exact mu
  have ntup:∀ c xs,H c=some (.tup xs)→c≠x:=fun c xs r z=>by subst z;rw [r] at mu;exact mu
  by_cases hb:b=x
  · subst hb;rw [upd_same] at q;cases q;exact new
  · rw [upd_ne hb] at q
    by_cases hbe:b=e
    · have q':H b=some (.own x):=by
        rcases he with z | z
        · exact absurd (hbe.trans z) hb
        · rw [hbe];exact z
      rw [q] at q';cases q'
      obtain ⟨v,hv⟩:=heo
      exact ⟨v,by rw [hbe];exact hv⟩
    · refine (ok b u q).stay (fun c v hc r=>k c v ?_ r) (fun c r=>by rw [upd_ne (nown c b r)];exact r) fun c xs r=>by rw [upd_ne (ntup c xs r)];exact r
      rcases hc with rfl | hc
      · exact hbe
      · rintro rfl
        rcases he with z | z
        · exact nown c b hc z
        · rw [hc] at z;cases z;exact hb rfl
end
structure Un (fs ex:List Addr) (H H':Hp) (h h':Heap):Prop where
  keep:∀ b o,h.get? b=some o→H b=none→b∉fs→b∉ex→h'.get? b=some o
  slot:∀ b o,h.get? b=some o→H b=none→b∈fs→b∉ex→∃ sl,h'.get? b=some { o with slots:=sl }
  free:∀ b o,h.get? b=some o→H b=none→b∉ex→H' b=none
  there:∀ b o,h.get? b=some o→b∉ex→∃ o',h'.get? b=some o'
  tups:∀ b xs,H b=some (.tup xs)→H' b=some (.tup xs)
  frzs:∀ b o u,H b=some (.frz o u)→H' b=some (.frz o u)
  tbls:∀ b ps,H b=some (.tbl ps)→∃ more,H' b=some (.tbl (ps++more))
section
variable {fs fs' ex ex':List Addr}{H H1 H2:Hp} {h h1 h2 h':Heap}{a x e:Addr} {o:HO}
theorem Un.any (u:Un fs ex H H1 h h1) {b:Addr}{ob:Obj} (q:h.get? b=some ob) (n:H b=none) (hx:b∉ex):∃ sl,h1.get? b=some { ob with slots:=sl }:=by
  by_cases hb:b∈fs
  · exact u.slot b ob q n hb hx
  · exact ⟨ob.slots,u.keep b ob q n hb hx⟩
theorem Un.kept (k:∀ b u,h.get? b=some u→h'.get? b=some u):Un fs ex H H h h':=
  ⟨fun b ob q _ _ _=>k b ob q,fun b ob q _ _ _=>⟨ob.slots,k b ob q⟩,fun _ _ _ n _=>n,fun b ob q _=>⟨ob,k b ob q⟩,fun _ _ q=>q,fun _ _ _ q=>q,fun _ ps q=>⟨#[],by rw [q];simp⟩⟩
theorem Un.refl:Un fs ex H H h h:=Un.kept fun _ _ q=>q
theorem Un.laid (k:∀ b u,h.get? b=some u→h'.get? b=some u) (hp:h.objs.size≤a) (hn:H a=none):Un fs ex H (upd H a o) h h' where
  keep:=fun b u q _ _ _=>k b u q
  slot:=fun b u q _ _ _=>⟨u.slots,k b u q⟩
  free:=fun b u q n _=>by rw [upd_ne (Nat.ne_of_lt (Nat.lt_of_lt_of_le (Heap.lt_size q) hp))];exact n
  there:=fun b u q _=>⟨u,k b u q⟩
  tups:=fun b xs q=>by rw [upd_ne (ne_of_none q hn)];exact q
  frzs:=fun b u xs q=>by rw [upd_ne (ne_of_none q hn)];exact q
  tbls:=fun b ps q=>⟨#[],by rw [upd_ne (ne_of_none q hn),q];simp⟩
theorem Un.write (mu:Mut (H x)) (he:e=x∨H e=some (.own x)) (k:∀ b u,b≠e→h.get? b=some u→h'.get? b=some u) (heo:∃ u,h'.get? e=some u):Un fs ex H (upd H x o) h h':=by
  have hx:∀ b,H b=none→b≠x:=fun b n z=>by subst z;rw [n] at mu;exact mu
  have hb:∀ b,H b=none→b≠e:=fun b n z=>by
    subst z
    rcases he with r | r
    · exact hx b n r
    · rw [n] at r;cases r
  have hm:∀ b u,H b=some u→¬ Mut (some u)→b≠x:=fun b u q nm z=>by subst z;rw [q] at mu;exact nm mu
  refine ⟨fun b u q n _ _=>k b u (hb b n) q,fun b u q n _ _=>⟨u.slots,k b u (hb b n) q⟩,fun b u q n _=>by rw [upd_ne (hx b n)];exact n,fun b u q _=>?_,
    fun b xs q=>by rw [upd_ne (hm b _ q fun z=>z)];exact q,fun b u xs q=>by rw [upd_ne (hm b _ q fun z=>z)];exact q,fun b ps q=>⟨#[],by rw [upd_ne (hm b _ q fun z=>z),q];simp⟩⟩
  by_cases hbe:b=e
  · subst hbe;exact heo
  · exact ⟨u,k b u hbe q⟩
end
noncomputable def trk (h:Heap) (H:Hp):List Addr:=(List.range h.objs.size).filter fun a=>(H a).isSome
noncomputable def hidT (h:Heap) (H:Hp):Heap:=PySem.W.hideAll h (trk h H)
theorem hidT_size (h:Heap) (H:Hp):(hidT h H).objs.size=h.objs.size:=PySem.W.hideAll_size _ _
theorem hidT_get {h:Heap}{H:Hp} {b:Addr}{o:Obj} (e:h.get? b=some o) (n:H b=none):(hidT h H).get? b=some o:=
  PySem.W.hideAll_get _ e fun hm=>by
    have q:(H b).isSome=true:=(List.mem_filter.mp hm).2
    rw [n] at q;simp at q
theorem of_hidT {h:Heap}{H:Hp} {b:Addr}{o:Obj} (e:(hidT h H).get? b=some o):h.get? b=some o∧H b=none:=by
  have e':h.get? b=some o:=PySem.W.of_hideAll (trk h H) e
  refine ⟨e',?_⟩
  cases q:H b with
  | none=>rfl
  | some x=>
    have hm:b∈trk h H:=List.mem_filter.mpr ⟨List.mem_range.mpr (Heap.lt_size e'),by simp [q]⟩
    have z:(hidT h H).get? b=none:=PySem.W.hideAll_none (trk h H) hm
    rw [z] at e;cases e
end L2
namespace L2
open PySem PySem.Spec PyProof.Rows
structure Mod (K:PySem.W.Frag) (mg:Str→Option Value) (base:Heap):Prop where
  kin:K.In base
  glob:base.Ns mainGlobals mg
  blt:∃ mb,base.Ns builtinsNs mb∧∀ x:Str,x ≠ "__name__" → mb x=bootBuiltins x
  nolimit:base.NoLimit
structure Cx where
  prog:Program
  w:World
  K:PySem.W.Frag
  mg:Str→Option Value
  base:Heap
  A:Around
  N:List Str
  s₀:Shared
  H₀:Hp
  env:Env
  outer:List Env
  stack:List Env
  ex:List Addr
  fn:Str→Bool
  calm:Bool
  pn:List (Addr×Obj)
  xe:Value→Shared→Prop
noncomputable def frs (l:List Env):List Addr:=l.filterMap (·.frame)
noncomputable abbrev Cx.fs (X:Cx):List Addr:=frs X.outer
noncomputable def Vis (sc:Scope) (x:Str):Prop:=sc.names.lookup x=some .local∨sc.names.lookup x=some .cell∨sc.names.lookup x=some .free
noncomputable def Loc (sc:Scope) (x:Str):Prop:=sc.names.lookup x=some .local∨sc.names.lookup x=some .cell
noncomputable def Look (env:Env) (h:Heap) (m:Str→Option Value) (x:Str) (u:Value):Prop:=
  (env.kindOf x=some .local∧m x=some u)∨((env.kindOf x=some .cell∨env.kindOf x=some .free)∧∃ c,env.cells.lookup x=some c∧h.IsCell c (some u))
structure Cx.Ok (X:Cx):Prop where
  mod:Mod X.K X.mg X.base
  kind:X.env.scope.kind=.function
  glob:X.env.globals=mainGlobals
  blt:X.env.builtins=builtinsNs
  above:X.s₀.heap.objs.size≤X.env.locals
  inj:∀ x y c,X.env.cells.lookup x=some c→X.env.cells.lookup y=some c→x=y
  has:∀ x,(X.env.kindOf x=some .cell∨X.env.kindOf x=some .free)→∃ c,X.env.cells.lookup x=some c
  cab:∀ x c,X.fn x=true→X.env.cells.lookup x=some c→X.s₀.heap.objs.size≤c
  hd:X.calm=true→X.A.handled=none
  frames:X.A.frames=some X.stack
  stk:X.stack=X.outer∨(X.stack=X.env::X.outer∧X.env.frame=some X.env.locals)
  exf:∀ b∈X.ex,b≠X.env.locals∧∀ x c,X.env.cells.lookup x=some c→c≠b
  bs:∀ b o,X.base.get? b=some o→X.s₀.heap.get? b=some o∧X.H₀ b=none
  bsz:X.base.objs.size≤X.s₀.heap.objs.size
  noex:∀ b o,X.base.get? b=some o→b∉X.ex
  exfs:∀ b∈X.ex,b∉X.fs
  funs:X.s₀.heap.FunFrames X.base X.outer
  frf:∀ b∈X.fs,X.H₀ b=none
structure Inv (X:Cx) (pins:List (Addr×Obj)) (σ:List (Option V)) (H:Hp) (s:Shared):Prop where
  ok:X.Ok
  os:s.os=X.s₀.os
  bare:AllBare s.gens
  base:Un X.fs X.ex X.H₀ H X.s₀.heap s.heap
  loc:∃ m,s.heap.Ns X.env.locals m∧∀ (i:Nat) (x:Str) (v:V),X.N[i]?=some x→σ[i]?=some (some v)→Vis X.env.scope x→∃ u,RelV v u∧Look X.env s.heap m x u
  cell:∀ x c,X.env.cells.lookup x=some c→∃ v,s.heap.IsCell c v
  free:H X.env.locals=none
  freeC:∀ x c,X.env.cells.lookup x=some c→H c=none
  pin:∀ p∈X.pn++pins,s.heap.get? p.1=some p.2∧H p.1=none∧p.1≠X.env.locals∧p.1∉X.fs∧∀ v,p.2.data≠.cell v
  hok:HOk X.prog X.w H s.heap
  len:σ.length=X.N.length
section
variable {X:Cx}{pins:List (Addr×Obj)} {σ:List (Option V)}{H H':Hp} {s:Shared}{h':Heap}
theorem Cx.Ok.nofr (ok:X.Ok) {b:Addr}{o:Obj} (e:X.base.get? b=some o):b∉X.fs:=fun hb=>by
  have:=(ok.funs.mem hb).1
  rw [e] at this;cases this
theorem Inv.bs (I:Inv X pins σ H s):∀ b o,X.base.get? b=some o→s.heap.get? b=some o∧H b=none:=fun b o e=>
  ⟨I.base.keep b o (I.ok.bs b o e).1 (I.ok.bs b o e).2 (I.ok.nofr e) (I.ok.noex b o e),I.base.free b o (I.ok.bs b o e).1 (I.ok.bs b o e).2 (I.ok.noex b o e)⟩
theorem Inv.bk (I:Inv X pins σ H s):∀ b o,X.base.get? b=some o→s.heap.get? b=some o:=fun b o e=>(I.bs b o e).1
theorem Inv.mod (I:Inv X pins σ H s):Mod X.K X.mg X.base:=I.ok.mod
theorem Inv.kIn (I:Inv X pins σ H s):X.K.In s.heap:=I.ok.mod.kin.keeps I.bk
theorem Inv.lt (I:Inv X pins σ H s):X.env.locals < s.heap.objs.size:=let ⟨_,hn,_⟩:=I.loc;hn.lt
theorem Inv.sz (I:Inv X pins σ H s):X.s₀.heap.objs.size≤s.heap.objs.size:=Nat.le_trans I.ok.above (Nat.le_of_lt I.lt)
theorem Inv.nofs (I:Inv X pins σ H s) {a:Addr}(h:s.heap.objs.size≤a):a∉X.fs:=fun hb=>by
  obtain ⟨_,o,ho,_⟩:=I.ok.funs.mem hb
  exact absurd (Nat.lt_of_lt_of_le (Heap.lt_size ho) (Nat.le_trans I.sz h)) (Nat.lt_irrefl _)
theorem Inv.cne (I:Inv X pins σ H s):∀ x c,X.env.cells.lookup x=some c→c≠X.env.locals:=fun x c e z=>by
  obtain ⟨v,o,ho,hd⟩:=I.cell x c e
  obtain ⟨m,⟨o',es,ep,ho',hd',_⟩,_⟩:=I.loc
  rw [z,ho'] at ho;cases ho;rw [hd'] at hd;cases hd
theorem Inv.funs (I:Inv X pins σ H s):s.heap.FunFrames X.base X.outer:=by
  have all:∀ (l:List Env),(∀ b∈frs l,b∈X.fs)→X.s₀.heap.FunFrames X.base l→s.heap.FunFrames X.base l:=by
    intro l
    induction l with
    | nil=>intro _ _;trivial
    | cons env r ih=>
      intro hs hl
      obtain ⟨hk,⟨L,o,hf,hn,ho,hd⟩,hr⟩:=hl
      have hL:L∈X.fs:=hs L (by unfold frs;rw [List.filterMap_cons,hf];exact List.mem_cons_self)
      obtain ⟨sl,e⟩:=I.base.slot L o ho (I.ok.frf L hL) hL fun z=>I.ok.exfs L z hL
      exact ⟨hk,⟨L,_,hf,hn,e,hd⟩,ih (fun b hb=>hs b (by unfold frs;rw [List.filterMap_cons,hf];exact List.mem_cons_of_mem _ hb)) hr⟩
  exact all X.outer (fun _ hb=>hb) I.ok.funs
theorem Inv.stack (I:Inv X pins σ H s):s.heap.FunFrames X.base X.stack:=by
  rcases I.ok.stk with e | ⟨e,hf⟩
  · rw [e];exact I.funs
  · rw [e]
    obtain ⟨m,hn,_⟩:=I.loc
    refine .cons (by rw [I.ok.kind];decide) hf hn ?_ I.funs
    exact Heap.get?_none_of_le (Nat.le_trans I.ok.bsz I.ok.above)
theorem Inv.stkSub (I:Inv X pins σ H s):∀ b∈frs X.stack,b∈X.env.locals::X.fs:=fun b hb=>by
  rcases I.ok.stk with e | ⟨e,hf⟩
  · rw [e] at hb;exact List.mem_cons_of_mem _ hb
  · rw [e] at hb
    unfold frs at hb
    rw [List.filterMap_cons,hf] at hb
    exact hb
theorem Inv.stkFree (I:Inv X pins σ H s):∀ b∈frs X.stack,H b=none:=fun b hb=>by
  rcases List.mem_cons.mp (I.stkSub b hb) with e | hb
  · rw [e];exact I.free
  · obtain ⟨_,o,ho,_⟩:=I.ok.funs.mem hb
    exact I.base.free b o ho (I.ok.frf b hb) fun z=>I.ok.exfs b z hb
theorem Inv.step {g':Array GenState}{t':Nat} {d':Drawn}{ch:List Addr} (I:Inv X pins σ H s)
    (hch:∀ b∈ch,(b∈X.ex∨X.s₀.heap.objs.size≤b)∧b≠X.env.locals∧(∀ x c,X.env.cells.lookup x=some c→c≠b)∧∀ p∈X.pn++pins,p.1≠b)
    (keep:∀ b o,b≠X.env.locals→b∉X.fs→b∉ch→s.heap.get? b=some o→H b=none→h'.get? b=some o)
    (slot:∀ b o,b≠X.env.locals→b∈X.fs→b∉ch→s.heap.get? b=some o→H b=none→∃ sl,h'.get? b=some { o with slots:=sl }) (free:∀ b o,b∉ch→s.heap.get? b=some o→H b=none→H' b=none)
    (there:∀ b o,b∉ch→s.heap.get? b=some o→∃ o',h'.get? b=some o')
    (tups:∀ b xs,H b=some (.tup xs)→H' b=some (.tup xs)) (frzs:∀ b o u,H b=some (.frz o u)→H' b=some (.frz o u)) (tbls:∀ b ps,H b=some (.tbl ps)→∃ more,H' b=some (.tbl (ps++more)))
    (ns:∀ m,s.heap.Ns X.env.locals m→h'.Ns X.env.locals m) (hok:HOk X.prog X.w H' h') (hg:AllBare g') :
    Inv X pins σ H' { s with heap:=h',gens:=g',drawn:=d',toks:=t' }:=by
  have neL:∀ b o,X.s₀.heap.get? b=some o→b≠X.env.locals:=fun b o e=>Nat.ne_of_lt (Nat.lt_of_lt_of_le (Heap.lt_size e) I.ok.above)
  have neC:∀ b o,X.s₀.heap.get? b=some o→b∉X.ex→b∉ch:=fun b o e hx hb=>by
    rcases (hch b hb).1 with z | z
    · exact hx z
    · exact absurd (Nat.lt_of_lt_of_le (Heap.lt_size e) z) (Nat.lt_irrefl _)
  have cellK:∀ x c,X.env.cells.lookup x=some c→∀ v,s.heap.IsCell c v→h'.IsCell c v:=fun x c e v ⟨o,ho,hd⟩=>by
    have nch:c∉ch:=fun z=>(hch c z).2.2.1 x c e rfl
    by_cases hc:c∈X.fs
    · obtain ⟨sl,q⟩:=slot c o (I.cne x c e) hc nch ho (I.freeC x c e)
      exact ⟨_,q,hd⟩
    · exact ⟨o,keep c o (I.cne x c e) hc nch ho (I.freeC x c e),hd⟩
  refine ⟨I.ok,I.os,hg,⟨fun b o e n hb hx=>?_,fun b o e n hb hx=>?_,fun b o e n hx=>?_,fun b o e hx=>?_,fun b xs e=>tups b xs (I.base.tups b xs e),fun b o xs e=>frzs b o xs (I.base.frzs b o xs e),fun b ps e=>?_⟩,?_,fun x c e=>?_,?_,fun x c e=>?_,fun p hp=>?_,hok,I.len⟩
  · exact keep b o (neL b o e) hb (neC b o e hx) (I.base.keep b o e n hb hx) (I.base.free b o e n hx)
  · obtain ⟨sl,e1⟩:=I.base.slot b o e n hb hx
    obtain ⟨sl',e2⟩:=slot b _ (neL b o e) hb (neC b o e hx) e1 (I.base.free b o e n hx)
    exact ⟨sl',e2⟩
  · obtain ⟨o',e1⟩:=I.base.there b o e hx
    exact free b o' (neC b o e hx) e1 (I.base.free b o e n hx)
  · obtain ⟨o',e1⟩:=I.base.there b o e hx
    exact there b o' (neC b o e hx) e1
  · obtain ⟨m1,e1⟩:=I.base.tbls b ps e
    obtain ⟨m2,e2⟩:=tbls b _ e1
    exact ⟨m1++m2,by rw [e2,Array.append_assoc]⟩
  · obtain ⟨m,hn,hl⟩:=I.loc
    refine ⟨m,ns m hn,fun i x v e1 e2 e3=>?_⟩
    obtain ⟨u,r,l⟩:=hl i x v e1 e2 e3
    refine ⟨u,r,?_⟩
    rcases l with l | ⟨k,c,e,z⟩
    · exact .inl l
    · exact .inr ⟨k,c,e,cellK x c e _ z⟩
  · obtain ⟨v,z⟩:=I.cell x c e
    exact ⟨v,cellK x c e v z⟩
  · obtain ⟨m,⟨o,_,_,ho,_⟩,_⟩:=I.loc
    exact free _ o (fun z=>(hch _ z).2.1 rfl) ho I.free
  · obtain ⟨v,o,ho,hd⟩:=I.cell x c e
    exact free c o (fun z=>(hch c z).2.2.1 x c e rfl) ho (I.freeC x c e)
  · obtain ⟨e,n,ne,nf,d⟩:=I.pin p hp
    have nch:p.1∉ch:=fun z=>(hch p.1 z).2.2.2 p hp rfl
    exact ⟨keep p.1 p.2 ne nf nch e n,free p.1 p.2 nch e n,ne,nf,d⟩
theorem Inv.un {t':Nat}(I:Inv X pins σ H s) (u:Un X.fs [] H H' s.heap h') (hok:HOk X.prog X.w H' h'):Inv X pins σ H' { s with heap:=h',toks:=t' }:=by
  obtain ⟨m,⟨o,es,ep,ho,r⟩,_⟩:=id I.loc
  obtain ⟨sl,hL⟩:=u.any ho I.free (by simp)
  exact I.step (g':=s.gens) (d':=s.drawn) (ch:=[]) (fun _ z=>nomatch z) (fun b o _ hb _ e n=>u.keep b o e n hb (by simp)) (fun b o _ hb _ e n=>u.slot b o e n hb (by simp)) (fun b o _ e n=>u.free b o e n (by simp)) (fun b o _ e=>u.there b o e (by simp)) u.tups u.frzs u.tbls (fun m' hm=>by
    obtain ⟨o',es',ep',ho',r'⟩:=hm
    rw [ho] at ho';cases ho'
    exact ⟨_,es',ep',hL,r'⟩) hok I.bare
theorem Inv.call {g':Array GenState}{t':Nat} {d':Drawn}{ch:List Addr} (I:Inv X pins σ H s) (u:Un (frs X.stack) ch H H' s.heap h') (hok:HOk X.prog X.w H' h') (hg:AllBare g')
    (hch:∀ b∈ch,(b∈X.ex∨X.s₀.heap.objs.size≤b)∧b≠X.env.locals∧(∀ x c,X.env.cells.lookup x=some c→c≠b)∧∀ p∈X.pn++pins,p.1≠b) :
    Inv X pins σ H' { s with heap:=h',gens:=g',drawn:=d',toks:=t' }:=by
  obtain ⟨m,⟨o,es,ep,ho,r⟩,_⟩:=id I.loc
  obtain ⟨sl,hL⟩:=u.any ho I.free fun z=>(hch _ z).2.1 rfl
  exact I.step (ch:=ch) hch (fun b o hL hb hc e n=>u.keep b o e n (fun z=>(List.mem_cons.mp (I.stkSub b z)).elim hL hb) hc) (fun b o _ _ hc e n=>u.any e n hc) (fun b o hc e n=>u.free b o e n hc) (fun b o hc e=>u.there b o e hc) u.tups u.frzs u.tbls (fun m' hm=>by
    obtain ⟨o',es',ep',ho',r'⟩:=hm
    rw [ho] at ho';cases ho'
    exact ⟨_,es',ep',hL,r'⟩) hok hg
theorem Inv.turned {t':Nat}{it:Addr} (I:Inv X pins σ H s) (k:∀ b o,b≠it→s.heap.get? b=some o→h'.get? b=some o) (hn:H it=none) (hL:it≠X.env.locals)
    (h1:it∈X.ex∨X.s₀.heap.objs.size≤it) (h2:∀ x c,X.env.cells.lookup x=some c→c≠it) (h3:∀ p∈X.pn++pins,p.1≠it):Inv X pins σ H { s with heap:=h',toks:=t' }:=by
  have nit:∀ b u,H b=some u→b≠it:=fun b u e z=>by rw [z,hn] at e;cases e
  refine I.step (g':=s.gens) (d':=s.drawn) (ch:=[it]) (fun b hb=>?_) (fun b o _ _ hc e _=>k b o (fun z=>hc (by simp [z])) e) (fun b o _ _ hc e _=>⟨o.slots,k b o (fun z=>hc (by simp [z])) e⟩) (fun _ _ _ _ n=>n)
    (fun b o hc e=>⟨o,k b o (fun z=>hc (by simp [z])) e⟩) (fun _ _ e=>e) (fun _ _ _ e=>e) (fun b ps e=>⟨#[],by rw [e];simp⟩) (fun m hm=>?_) (fun b u e=>?_) I.bare
  · have e:b=it:=by simpa using hb
    subst e
    exact ⟨h1,hL,h2,h3⟩
  · obtain ⟨o,es,ep,ho,r⟩:=hm
    exact ⟨o,es,ep,k _ o (Ne.symm hL) ho,r⟩
  · refine (I.hok b u e).stay (fun c v hc q=>k c v ?_ q) (fun _ q=>q) fun _ _ q=>q
    rcases hc with z | z
    · rw [z];exact nit b u e
    · exact nit c _ z
theorem Inv.tok (I:Inv X pins σ H s) (t:Nat):Inv X pins σ H { s with toks:=t }:=I.un (h':=s.heap) (t':=t) Un.refl I.hok
theorem Inv.kept {t':Nat}(I:Inv X pins σ H s) (k:∀ b u,s.heap.get? b=some u→h'.get? b=some u):Inv X pins σ H { s with heap:=h',toks:=t' }:=I.un (Un.kept k) (I.hok.kept k)
theorem Inv.laid {a:Addr}{o:HO} {t':Nat}(I:Inv X pins σ H s) (k:∀ b u,s.heap.get? b=some u→h'.get? b=some u) (hp:s.heap.objs.size≤a) (new:ObjOk X.prog X.w (upd H a o) h' a o) :
    Inv X pins σ (upd H a o) { s with heap:=h',toks:=t' }:=I.un (Un.laid k hp (I.hok.fresh hp)) (I.hok.laid k hp new)
theorem Inv.write {x e:Addr}{o:HO} {t':Nat}(I:Inv X pins σ H s) (mu:Mut (H x)) (he:e=x∨H e=some (.own x)) (k:∀ b u,b≠e→s.heap.get? b=some u→h'.get? b=some u) (heo:∃ u,h'.get? e=some u)
    (new:ObjOk X.prog X.w (upd H x o) h' x o):Inv X pins σ (upd H x o) { s with heap:=h',toks:=t' }:=I.un (Un.write mu he k heo) (I.hok.write mu he k heo new)
theorem Inv.pins_of {pins':List (Addr×Obj)}(I:Inv X pins σ H s) (h:∀ p∈pins',s.heap.get? p.1=some p.2∧H p.1=none∧p.1≠X.env.locals∧p.1∉X.fs∧∀ v,p.2.data≠.cell v):Inv X pins' σ H s:=
  ⟨I.ok,I.os,I.bare,I.base,I.loc,I.cell,I.free,I.freeC,fun p hp=>(List.mem_append.mp hp).elim (fun z=>I.pin p (List.mem_append_left _ z)) (h p),I.hok,I.len⟩
theorem nodup_ix {N:List Str}(hN:N.Nodup) {i j:Nat}{x:Str} (a:N[i]?=some x) (b:N[j]?=some x):i=j:=by
  obtain ⟨h1,e1⟩:=List.getElem?_eq_some_iff.mp a
  obtain ⟨h2,e2⟩:=List.getElem?_eq_some_iff.mp b
  exact (List.getElem_inj hN).mp (e1.trans e2.symm)
theorem store_ok2 {M:Model}{A:Around} {E:Value→Shared→Prop}{i:Nat} {x:Str}{v:V} {u:Value}{Q:Unit→Shared→Prop} (I:Inv X pins σ H s) (hN:X.N.Nodup) (hi:X.N[i]?=some x) (hx:Loc X.env.scope x) (r:RelV v u)
    (h:∀ s',Inv X pins (σ.set i (some v)) H s'→(∃ a,Heap.SameBut a s.heap s'.heap∧(a=X.env.locals∨X.env.cells.lookup x=some a))→Q () s') (hf:X.fn x=true∨X.env.scope.names.lookup x=some .local:=by first | exact .inl rfl | exact .inr rfl | assumption):wpAny M A (storeName X.env x u) Q E s:=by
  obtain ⟨m,hn,hl⟩:=id I.loc
  have hcls:(X.env.scope.kind == .class || (X.env.scope.kind == .module && X.env.locals != X.env.globals))=false:=by rw [I.ok.kind];rfl
  have hiσ:i < σ.length:=by rw [I.len];exact (List.getElem?_eq_some_iff.mp hi).1
  have cne:=I.cne
  have tracked:∀ {a:Addr}{h':Heap},(∃ o,s.heap.get? a=some o∧H a=none)→Heap.SameBut a s.heap h'→HOk X.prog X.w H h':=fun {a h'} ha hs b ob e=>by
    obtain ⟨_,_,hfree⟩:=ha
    refine (I.hok b ob e).stay (fun c w' hc q=>(hs.2 c ?_).trans q) (fun _ q=>q) fun _ _ q=>q
    rintro rfl
    rcases hc with rfl | hc
    · rw [hfree] at e;cases e
    · rw [hfree] at hc;cases hc
  rcases hx with hk | hk
  · refine wpAny_storeName_local hk hn (fun h' hn' hs=>?_) hcls
    obtain ⟨oL,_,_,hoL,_⟩:=id hn
    refine h _ ⟨I.ok,I.os,I.bare,⟨fun b o e n hb hx=>?_,fun b o e n hb hx=>?_,I.base.free,fun b o e hx=>?_,I.base.tups,I.base.frzs,I.base.tbls⟩,⟨_,hn',fun j y v' e1 e2 e3=>?_⟩,fun y c e=>?_,I.free,I.freeC,fun p hp=>?_,tracked ⟨oL,hoL,I.free⟩ hs,by simpa using I.len⟩ ⟨_,hs,.inl rfl⟩
    · exact (hs.2 b (Nat.ne_of_lt (Nat.lt_of_lt_of_le (Heap.lt_size e) I.ok.above))).trans (I.base.keep b o e n hb hx)
    · obtain ⟨sl,e1⟩:=I.base.slot b o e n hb hx
      exact ⟨sl,(hs.2 b (Nat.ne_of_lt (Nat.lt_of_lt_of_le (Heap.lt_size e) I.ok.above))).trans e1⟩
    · obtain ⟨o',e1⟩:=I.base.there b o e hx
      exact ⟨o',(hs.2 b (Nat.ne_of_lt (Nat.lt_of_lt_of_le (Heap.lt_size e) I.ok.above))).trans e1⟩
    · by_cases hj:j=i
      · subst hj
        rw [hi] at e1;cases e1
        rw [List.getElem?_set_self hiσ] at e2
        cases e2
        exact ⟨u,r,.inl ⟨hk,by simp⟩⟩
      · rw [List.getElem?_set_ne (Ne.symm hj)] at e2
        obtain ⟨u',r',q⟩:=hl j y v' e1 e2 e3
        refine ⟨u',r',?_⟩
        rcases q with ⟨k,e⟩ | ⟨k,c,e,z⟩
        · refine .inl ⟨k,?_⟩
          have:y≠x:=fun e=>hj (nodup_ix hN e1 (e ▸ hi))
          simp [this,e]
        · exact .inr ⟨k,c,e,z.sameBut hs (cne y c e)⟩
    · obtain ⟨w',z⟩:=I.cell y c e
      exact ⟨w',z.sameBut hs (cne y c e)⟩
    · obtain ⟨e,n,ne,nf,d⟩:=I.pin p hp
      exact ⟨(hs.2 p.1 ne).trans e,n,ne,nf,d⟩
  · have hfn:X.fn x=true:=by
      rcases hf with z | z
      · exact z
      · rw [z] at hk;cases hk
    obtain ⟨c,hc⟩:=I.ok.has x (.inl hk)
    obtain ⟨w',z⟩:=I.cell x c hc
    refine wpAny_storeName_cell I.ok.kind hk hc z (fun h' hc' hs=>?_)
    obtain ⟨oc,hoc,hocd⟩:=id z
    refine h { s with heap:=h' } ⟨I.ok,I.os,I.bare,⟨fun b o e n hb hx=>?_,fun b o e n hb hx=>?_,I.base.free,fun b o e hx=>?_,I.base.tups,I.base.frzs,I.base.tbls⟩,⟨m,hn.sameBut hs (Ne.symm (cne x c hc)),fun j y v' e1 e2 e3=>?_⟩,fun y c' e=>?_,I.free,I.freeC,fun p hp=>?_,tracked ⟨oc,hoc,I.freeC x c hc⟩ hs,by simpa using I.len⟩ ⟨c,hs,.inr hc⟩
    · exact (hs.2 b (Nat.ne_of_lt (Nat.lt_of_lt_of_le (Heap.lt_size e) (I.ok.cab x c hfn hc)))).trans (I.base.keep b o e n hb hx)
    · obtain ⟨sl,e1⟩:=I.base.slot b o e n hb hx
      exact ⟨sl,(hs.2 b (Nat.ne_of_lt (Nat.lt_of_lt_of_le (Heap.lt_size e) (I.ok.cab x c hfn hc)))).trans e1⟩
    · obtain ⟨o',e1⟩:=I.base.there b o e hx
      exact ⟨o',(hs.2 b (Nat.ne_of_lt (Nat.lt_of_lt_of_le (Heap.lt_size e) (I.ok.cab x c hfn hc)))).trans e1⟩
    · by_cases hj:j=i
      · subst hj
        rw [hi] at e1;cases e1
        rw [List.getElem?_set_self hiσ] at e2
        cases e2
        exact ⟨u,r,.inr ⟨.inl hk,c,hc,hc'⟩⟩
      · rw [List.getElem?_set_ne (Ne.symm hj)] at e2
        obtain ⟨u',r',q⟩:=hl j y v' e1 e2 e3
        refine ⟨u',r',?_⟩
        rcases q with q | ⟨k,c',e,z'⟩
        · exact .inl q
        · refine .inr ⟨k,c',e,z'.sameBut hs ?_⟩
          rintro rfl
          exact hj (nodup_ix hN e1 (I.ok.inj _ _ _ e hc ▸ hi))
    · by_cases hcc:c'=c
      · subst hcc;exact ⟨_,hc'⟩
      · obtain ⟨w2,z2⟩:=I.cell y c' e
        exact ⟨w2,z2.sameBut hs hcc⟩
    · obtain ⟨e,n,ne,nf,d⟩:=I.pin p hp
      refine ⟨(hs.2 p.1 ?_).trans e,n,ne,nf,d⟩
      intro q
      rw [q,hoc] at e
      have q':oc=p.2:=Option.some.inj e
      exact d w' (by rw [← q'];exact hocd)
theorem store_ok {M:Model}{A:Around} {E:Value→Shared→Prop}{i:Nat} {x:Str}{v:V} {u:Value}{Q:Unit→Shared→Prop} (I:Inv X pins σ H s) (hN:X.N.Nodup) (hi:X.N[i]?=some x) (hx:Loc X.env.scope x) (r:RelV v u)
    (h:∀ s',Inv X pins (σ.set i (some v)) H s'→Q () s') (hf:X.fn x=true∨X.env.scope.names.lookup x=some .local:=by first | exact .inl rfl | exact .inr rfl | assumption):wpAny M A (storeName X.env x u) Q E s:=
  store_ok2 I hN hi hx r (fun s' I' _=>h s' I') hf
theorem Inv.call' {s':Shared}{ch:List Addr} (I:Inv X pins σ H s) (ho:s'.os=s.os) (u:Un (frs X.stack) ch H H' s.heap s'.heap) (hok:HOk X.prog X.w H' s'.heap) (hg:AllBare s'.gens)
    (hch:∀ b∈ch,(b∈X.ex∨X.s₀.heap.objs.size≤b)∧b≠X.env.locals∧(∀ x c,X.env.cells.lookup x=some c→c≠b)∧∀ p∈X.pn++pins,p.1≠b):Inv X pins σ H' s':=by
  obtain ⟨h',g',d',t',o'⟩:=s'
  have e:o'=s.os:=ho
  subst e
  exact I.call (g':=g') (t':=t') (d':=d') u hok hg hch
end
noncomputable abbrev XK:=Value→Option Addr→Hp→Prop
noncomputable abbrev St:=List (Option V)
noncomputable abbrev VK:=V→Hp→Prop
noncomputable abbrev TE:=St→Hp→VK→Prop
noncomputable abbrev TT:=St→Hp→(Bool→Hp→Prop)→Prop
noncomputable abbrev TA:=St→Hp→(List V→Hp→Prop)→Prop
structure Ends where
  nx:St→Hp→Prop
  rt:VK
  bk:St→Hp→Prop:=fun _ _=>False
  ct:St→Hp→Prop:=fun _ _=>False
noncomputable abbrev TS:=Ends→St→Hp→Prop
noncomputable def EP (X:Cx) (pins:List (Addr×Obj)) (σ:St) (Q:VK) (u:Value) (s':Shared):Prop:=∃ v H',Inv X pins σ H' s'∧RelV v u∧Q v H'
noncomputable def TP (X:Cx) (pins:List (Addr×Obj)) (σ:St) (Q:Bool→Hp→Prop) (b:Bool) (s':Shared):Prop:=∃ H',Inv X pins σ H' s'∧Q b H'
noncomputable def AP (X:Cx) (pins:List (Addr×Obj)) (σ:St) (Q:List V→Hp→Prop) (us:List Value) (s':Shared):Prop:=∃ vs H',Inv X pins σ H' s'∧Vals vs us∧Q vs H'
noncomputable def SP (X:Cx) (pins:List (Addr×Obj)) (D:Ends) (f:Flow) (s':Shared):Prop:=
  match f with
  | .next=>∃ σ' H',Inv X pins σ' H' s'∧D.nx σ' H'
  | .brk=>∃ σ' H',Inv X pins σ' H' s'∧D.bk σ' H'
  | .cont=>∃ σ' H',Inv X pins σ' H' s'∧D.ct σ' H'
  | .ret u=>∃ v σ' H',Inv X pins σ' H' s'∧RelV v u∧D.rt v H'
noncomputable def PE (X:Cx) (e:Expr) (t:TE):Prop:=
  ∀ (pins:List (Addr×Obj)) (s:Shared) (σ:St) (H:Hp) (Q:VK),Inv X pins σ H s→t σ H Q→wpAny (model X.prog X.w) X.A (eval e X.env) (EP X pins σ Q) X.xe s
noncomputable def PT (X:Cx) (e:Expr) (t:TT):Prop:=
  ∀ (pins:List (Addr×Obj)) (s:Shared) (σ:St) (H:Hp) (Q:Bool→Hp→Prop),Inv X pins σ H s→t σ H Q→wpAny (model X.prog X.w) X.A (isTrue e X.env (eval e X.env)) (TP X pins σ Q) X.xe s
noncomputable def PW (X:Cx) (e:Expr) (t:TT):Prop:=
  ∀ (whole:Sem Value) (pins:List (Addr×Obj)) (s:Shared) (σ:St) (H:Hp) (Q:Bool→Hp→Prop),Inv X pins σ H s→t σ H Q→wpAny (model X.prog X.w) X.A (isTrue e X.env whole) (TP X pins σ Q) X.xe s
theorem PW.pt {X:Cx}{e:Expr} {t:TT}(h:PW X e t):PT X e t:=h _
noncomputable def PA (X:Cx) (es:List Expr) (t:TA):Prop:=
  ∀ (pos:Pos) (pins:List (Addr×Obj)) (s:Shared) (σ:St) (H:Hp) (Q:List V→Hp→Prop),Inv X pins σ H s→t σ H Q→wpAny (model X.prog X.w) X.A (spliced (backTo pos (starEach es X.env))) (AP X pins σ Q) X.xe s
noncomputable def PS (X:Cx) (st:Stmt) (t:TS):Prop:=
  ∀ (pins:List (Addr×Obj)) (s:Shared) (σ:St) (H:Hp) (D:Ends),Inv X pins σ H s→t D σ H→wpAny (model X.prog X.w) X.A (exec st X.env) (SP X pins D) X.xe s
noncomputable def PSs (X:Cx) (st:List Stmt) (t:TS):Prop:=
  ∀ (pins:List (Addr×Obj)) (s:Shared) (σ:St) (H:Hp) (D:Ends),Inv X pins σ H s→t D σ H→wpAny (model X.prog X.w) X.A (execs st X.env) (SP X pins D) X.xe s
theorem thn {α:Type}{t:Sem α} {Q Q':α→Shared→Prop}{M:Model} {A:Around}{E:Value→Shared→Prop} {s:Shared}(h:wpAny M A t Q E s) (hQ:∀ a s,Q a s→Q' a s):wpAny M A t Q' E s:=wpAny_mono h hQ fun _ _ x=>x
end L2
namespace L2
open PySem PySem.Spec PyProof.Rows
section
variable {X:Cx}
noncomputable def tVar (i:Nat):TE:=fun σ H Q=>∃ v,σ[i]?=some (some v)∧Q v H
noncomputable def tC (v:V):TE:=fun _ H Q=>Q v H
theorem pe_var {i:Nat}{x:Str} {pos:Pos}(hN:X.N[i]?=some x) (hv:Vis X.env.scope x) (hd:(x == ("__debug__" : Str))=false:=by decide) (hcd:(x == ("__classdict__" : Str))=false:=by decide):PE X (.Name x pos) (tVar i):=by
  intro pins s σ H Q I h
  obtain ⟨v,e,h⟩:=h
  obtain ⟨m,hn,hl⟩:=I.loc
  obtain ⟨u,r,l⟩:=hl i x v hN e hv
  have fin:EP X pins σ Q u s:=⟨v,H,I,r,h⟩
  rcases l with ⟨hk,hm⟩ | ⟨hk,c,hc,hcell⟩
  · exact wpAny_Name (wpAny_loadName_local I.ok.kind hk hn hm fin) hd
  · rcases hk with hk | hk
    · exact wpAny_Name (wpAny_loadName_cell I.ok.kind hk hc hcell fin) hd
    · exact wpAny_Name (wpAny_loadName_free I.ok.kind hk hc hcell fin hcd) hd
theorem pe_int {i j pos}:PE X (.Constant (.int i) j pos) (tC (.int i)):=fun _ _ _ H _ I h=>wpAny_Constant_int ⟨.int i,H,I.tok _,⟨_,rfl⟩,h⟩
theorem pe_bl {b j pos}:PE X (.Constant (.bool b) j pos) (tC (.bl b)):=fun _ _ _ H _ I h=>Constant_bool ⟨.bl b,H,I,rfl,h⟩
theorem pe_non {j pos}:PE X (.Constant .none j pos) (tC .non):=fun _ _ _ H _ I h=>Constant_none ⟨.non,H,I,rfl,h⟩
theorem pe_str {x j pos}:PE X (.Constant (.str x) j pos) (tC (.str x)):=fun _ _ _ H _ I h=>Calls.Constant_str ⟨.str x,H,I.tok _,⟨_,rfl⟩,h⟩
noncomputable def Gl (X:Cx) (x:Str):Prop:=X.env.kindOf x=some .globalImplicit
theorem ld_glob {E:Value→Shared→Prop}{pins:List (Addr×Obj)} {s:Shared}{σ:St} {H:Hp}{x:Str} {u:Value}{pos:Pos} {Q:Value→Shared→Prop}(I:Inv X pins σ H s) (hg:Gl X x) (hm:X.mg x=some u) (h:Q u s)
    (hd:(x == ("__debug__" : Str))=false:=by decide):wpAny (model X.prog X.w) X.A (eval (.Name x pos) X.env) Q E s:=
  Calls.Name_function_global I.ok.kind hg (Calls.loadGlobal_global (by rw [I.ok.glob];exact I.mod.glob.keeps I.bk) hm h) hd
theorem ld_blt {E:Value→Shared→Prop}{pins:List (Addr×Obj)} {s:Shared}{σ:St} {H:Hp}{x:Str} {u:Value}{pos:Pos} {Q:Value→Shared→Prop}(I:Inv X pins σ H s) (hg:Gl X x) (hm:X.mg x=none) (hv:bootBuiltins x=some u) (h:Q u s)
    (hn:x ≠ "__name__" := by decide) (hd:(x == ("__debug__" : Str))=false:=by decide):wpAny (model X.prog X.w) X.A (eval (.Name x pos) X.env) Q E s:=by
  obtain ⟨mb,h1,h2⟩:=I.mod.blt
  exact Calls.Name_function_global I.ok.kind hg (Calls.loadGlobal_builtin (by rw [I.ok.glob];exact I.mod.glob.keeps I.bk) hm (by rw [I.ok.blt];exact h1.keeps I.bk) ((h2 x hn).trans hv) h) hd
theorem pe_bltn {x:Str}{v:V} {u:Value}{pos:Pos} (hg:Gl X x) (hm:X.mg x=none) (hv:bootBuiltins x=some u) (r:RelV v u) (hn:x ≠ "__name__" := by decide) (hd:(x == ("__debug__" : Str))=false:=by decide):PE X (.Name x pos) (tC v):=
  fun _ _ _ H _ I h=>ld_blt I hg hm hv ⟨v,H,I,r,h⟩ hn hd
variable {a b:Expr}{ta tb:TE} {pos:Pos}
noncomputable def tB (t:TE):TT:=fun σ H Q=>t σ H fun x H1=>∃ c,x=.bl c∧Q c H1
theorem pt_val {e:Expr}{t:TE} (h:PE X e t) (he:∀ whole,isTrue e X.env whole=(do let v ← whole;standAt e.pos;holding [v] (truthy v)):=by intro _;rfl):PT X e (tB t):=by
  intro pins s σ H Q I hw
  refine isTrue_plain (thn (h pins s σ H _ I hw) fun v s1 ⟨x,H1,I1,r1,q1⟩=>?_) (he _)
  obtain ⟨d,rfl,q⟩:=q1
  cases r1
  exact wpAny_truthy_bool ⟨H1,I1,q⟩
variable {tA tB':TT}{rest:List Expr}
noncomputable def tAnd (t u:TT):TT:=fun σ H Q=>t σ H fun c H1=>if c=true then u σ H1 Q else Q false H1
noncomputable def tOr (t u:TT):TT:=fun σ H Q=>t σ H fun c H1=>if c=true then Q true H1 else u σ H1 Q
noncomputable def tNot (t:TT):TT:=fun σ H Q=>t σ H fun c H1=>Q (!c) H1
theorem pw_and1 (ha:PT X a tA):PW X (.BoolOp .And [a] pos) tA:=by
  intro wh pins s σ H Q I h
  refine isTrue_and (thn (ha pins s σ H Q I h) fun c s1 e=>?_)
  cases c with
  | true=>exact isTrue_and_nil e
  | false=>exact e
theorem pw_or1 (ha:PT X a tA):PW X (.BoolOp .Or [a] pos) tA:=by
  intro wh pins s σ H Q I h
  refine isTrue_or (thn (ha pins s σ H Q I h) fun c s1 e=>?_)
  cases c with
  | false=>exact isTrue_or_nil e
  | true=>exact e
theorem pw_and (ha:PT X a tA) (hb:PW X (.BoolOp .And (b::rest) pos) tB'):PW X (.BoolOp .And (a::b::rest) pos) (tAnd tA tB'):=by
  intro wh pins s σ H Q I h
  refine isTrue_and (thn (ha pins s σ H _ I h) fun c s1 ⟨H1,I1,q1⟩=>?_)
  cases c with
  | true=>exact hb wh pins s1 σ H1 Q I1 q1
  | false=>exact ⟨H1,I1,q1⟩
theorem pw_or (ha:PT X a tA) (hb:PW X (.BoolOp .Or (b::rest) pos) tB'):PW X (.BoolOp .Or (a::b::rest) pos) (tOr tA tB'):=by
  intro wh pins s σ H Q I h
  refine isTrue_or (thn (ha pins s σ H _ I h) fun c s1 ⟨H1,I1,q1⟩=>?_)
  cases c with
  | true=>exact ⟨H1,I1,q1⟩
  | false=>exact hb wh pins s1 σ H1 Q I1 q1
theorem pt_not (ha:PT X a tA):PT X (.UnaryOp .Not a pos) (tNot tA):=by
  intro pins s σ H Q I h
  exact isTrue_not (ha pins s σ H (fun c H1=>Q (!c) H1) I h)
noncomputable def tAndV (ta tb:TE):TE:=fun σ H Q=>ta σ H fun x H1=>∃ c,x=.bl c∧if c=true then tb σ H1 Q else Q (.bl false) H1
theorem pe_one {op} {t:TE}(h:PE X a t):PE X (.BoolOp op [a] pos) t:=fun pins s σ H Q I hw=>BoolOp_one (h pins s σ H Q I hw)
theorem pe_and (ha:PE X a ta) (hb:PE X (.BoolOp .And (b::rest) pos) tb):PE X (.BoolOp .And (a::b::rest) pos) (tAndV ta tb):=by
  intro pins s σ H Q I h
  refine BoolOp_and (thn (ha pins s σ H _ I h) fun v s1 ⟨x,H1,I1,r1,q1⟩=>?_)
  obtain ⟨c,rfl,q1⟩:=q1
  cases r1
  refine wpAny_truthy_bool ?_
  cases c with
  | true=>exact hb pins s1 σ H1 Q I1 q1
  | false=>exact ⟨.bl false,H1,I1,rfl,q1⟩
end
end L2
namespace L2
open PySem PySem.Spec PyProof.Rows
noncomputable def SqL (K:PySem.W.Frag) (H:Hp) (a:Addr) (xs:List V):Prop:=
  Rd H a (.lst xs)∨
    ∃ (o:Obj) (its:Array Value) (n:Nat),K.lookup a=some o∧o.cls=.type "list" ∧ o.dict=none∧o.data=.seq its n∧its.size≤sizeLine∧Vals xs its.toList
noncomputable def SqT (K:PySem.W.Frag) (H:Hp) (a:Addr) (xs:List V):Prop:=
  Rd H a (.tup xs)∨
    ∃ (o:Obj) (its:Array Value) (n:Nat),K.lookup a=some o∧o.cls=.type "tuple" ∧ o.data=.seq its n∧its.size≤sizeLine∧Vals xs its.toList
noncomputable def absV:Value→Option V
  | .none=>some .non
  | .bool b=>some (.bl b)
  | .int i _=>some (.int i)
  | .str x _=>some (.str x)
  | .bytes b _=>some (.byt b)
  | .float b _=>some (.flt b)
  | .ref a=>some (.ref a)
  | .type n=>some (.ty n)
  | _=>none
theorem RelV.abs {x:V}{u:Value} (r:RelV x u):absV u=some x:=by
  cases x with
  | non=>cases r;rfl
  | bl _=>cases r;rfl
  | int _=>obtain ⟨t,rfl⟩:=r;rfl
  | str _=>obtain ⟨t,rfl⟩:=r;rfl
  | byt _=>obtain ⟨t,rfl⟩:=r;rfl
  | flt _=>obtain ⟨t,rfl⟩:=r;rfl
  | ref _=>cases r;rfl
  | ty _=>cases r;rfl
theorem RelV.inj {x y:V}{u:Value} (r:RelV x u) (q:RelV y u):x=y:=Option.some.inj (r.abs.symm.trans q.abs)
theorem Vals.inj:∀ {xs ys:List V}{us:List Value},Vals xs us→Vals ys us→xs=ys
  | _,_,_,.nil,.nil=>rfl
  | _,_,_,.cons r t,.cons r' t'=>by rw [r.inj r',Vals.inj t t']
section
variable {X:Cx}{pins:List (Addr×Obj)} {σ:St}{H:Hp} {s:Shared}{a:Addr} {xs ys:List V}
theorem SqL.of {K:PySem.W.Frag}(h:H a=some (.lst xs)):SqL K H a xs:=.inl (.inl h)
theorem SqT.of {K:PySem.W.Frag}(h:H a=some (.tup xs)):SqT K H a xs:=.inl (.inl h)
theorem Inv.list (I:Inv X pins σ H s) (h:SqL X.K H a xs):∃ its:List Value,Vals xs its∧PlainL s.heap a its.toArray∧xs.length≤sizeLine:=by
  rcases h with h | ⟨o,its,n,hk,hc,hd,hs,hz,r⟩
  · obtain ⟨z,its,n,r,e⟩:=h.ok I.hok
    exact ⟨its,r,⟨_,n,e,rfl,rfl,rfl⟩,z⟩
  · refine ⟨its.toList,r,⟨o,n,I.kIn a o hk,hc,hd,by simpa using hs⟩,?_⟩
    have e:=r.length
    simp only [Array.length_toList] at e
    omega
theorem Inv.tuple (I:Inv X pins σ H s) (h:SqT X.K H a xs):∃ its:List Value,Vals xs its∧IsTup s.heap a its.toArray∧xs.length≤sizeLine:=by
  rcases h with h | ⟨o,its,n,hk,hc,hs,hz,r⟩
  · obtain ⟨z,its,r,p⟩:=h.ok I.hok
    exact ⟨its,r,p,z⟩
  · refine ⟨its.toList,r,⟨o,I.kIn a o hk,hc,n,by simpa using hs⟩,?_⟩
    have e:=r.length
    simp only [Array.length_toList] at e
    omega
theorem Inv.list_inj (I:Inv X pins σ H s) (h:SqL X.K H a xs) (h':SqL X.K H a ys):xs=ys:=by
  obtain ⟨its,r,⟨o,n,e,_,_,d⟩,_⟩:=I.list h
  obtain ⟨its',r',⟨o',n',e',_,_,d'⟩,_⟩:=I.list h'
  rw [e] at e';cases e'
  rw [d] at d'
  injection d' with d1 _
  have:its=its':=by simpa using congrArg Array.toList d1
  subst this
  exact r.inj r'
theorem Inv.tuple_inj (I:Inv X pins σ H s) (h:SqT X.K H a xs) (h':SqT X.K H a ys):xs=ys:=by
  obtain ⟨its,r,⟨o,e,_,n,d⟩,_⟩:=I.tuple h
  obtain ⟨its',r',⟨o',e',_,n',d'⟩,_⟩:=I.tuple h'
  rw [e] at e';cases e'
  rw [d] at d'
  injection d' with d1 _
  have:its=its':=by simpa using congrArg Array.toList d1
  subst this
  exact r.inj r'
end
noncomputable abbrev Cx.wish (X:Cx) (E:Value→Shared→Prop):Cx:={ X with xe:=E }
noncomputable abbrev Cx.nox (X:Cx):Cx:=X.wish fun _ _=>False
theorem Cx.Ok.wish {X:Cx}(ok:X.Ok) (E:Value→Shared→Prop):(X.wish E).Ok:=
  ⟨ok.mod,ok.kind,ok.glob,ok.blt,ok.above,ok.inj,ok.has,ok.cab,ok.hd,ok.frames,ok.stk,ok.exf,ok.bs,ok.bsz,ok.noex,ok.exfs,ok.funs,ok.frf⟩
theorem Cx.Ok.unwish {X:Cx}{E:Value→Shared→Prop} (ok:(X.wish E).Ok):X.Ok:=
  ⟨ok.mod,ok.kind,ok.glob,ok.blt,ok.above,ok.inj,ok.has,ok.cab,ok.hd,ok.frames,ok.stk,ok.exf,ok.bs,ok.bsz,ok.noex,ok.exfs,ok.funs,ok.frf⟩
section
variable {X:Cx}{pins:List (Addr×Obj)} {σ:St}{H:Hp} {s:Shared}{E:Value→Shared→Prop}
theorem Inv.wish (I:Inv X pins σ H s) (E:Value→Shared→Prop):Inv (X.wish E) pins σ H s:=⟨I.ok.wish E,I.os,I.bare,I.base,I.loc,I.cell,I.free,I.freeC,I.pin,I.hok,I.len⟩
theorem Inv.unwish (I:Inv (X.wish E) pins σ H s):Inv X pins σ H s:=⟨I.ok.unwish,I.os,I.bare,I.base,I.loc,I.cell,I.free,I.freeC,I.pin,I.hok,I.len⟩
theorem SP.unwish {D:Ends}{f:Flow} {s':Shared}(h:SP (X.wish E) pins D f s'):SP X pins D f s':=by
  cases f with
  | next=>obtain ⟨σ',H',I,q⟩:=h;exact ⟨σ',H',I.unwish,q⟩
  | brk=>obtain ⟨σ',H',I,q⟩:=h;exact ⟨σ',H',I.unwish,q⟩
  | cont=>obtain ⟨σ',H',I,q⟩:=h;exact ⟨σ',H',I.unwish,q⟩
  | ret u=>obtain ⟨v,σ',H',I,r,q⟩:=h;exact ⟨v,σ',H',I.unwish,r,q⟩
theorem PSs.nox {st:List Stmt}{t:TS} (h:PSs X.nox st t):PSs X st t:=fun pins s σ H D I hw=>
  wpAny_mono (h pins s σ H D (I.wish _) hw) (fun _ _ q=>q.unwish) fun _ _ z=>False.elim z
end
section
variable {X:Cx}{st:Stmt} {rest:List Stmt}{t u:TS} {e:Expr}{te:TE} {pos:Pos}
noncomputable def tNext:TS:=fun D σ H=>D.nx σ H
noncomputable def tSeq (t u:TS):TS:=fun D σ H=>t { D with nx:=u D } σ H
theorem pss_nil:PSs X [] tNext:=fun _ _ σ H _ I h=>wpAny_execs_nil ⟨σ,H,I,h⟩
theorem pss_cons (h1:PS X st t) (h2:PSs X rest u):PSs X (st::rest) (tSeq t u):=by
  intro pins s σ H D I h
  refine wpAny_execs_cons (thn (h1 pins s σ H { D with nx:=u D } I h) fun f s1 q=>?_)
  cases f with
  | next=>
    obtain ⟨σ',H',I',q⟩:=q
    exact h2 pins s1 σ' H' D I' q
  | ret v=>exact q
  | brk=>exact q
  | cont=>exact q
theorem pss_one (h1:PS X st t):PSs X [st] t:=by
  intro pins s σ H D I h
  refine wpAny_execs_cons (thn (h1 pins s σ H D I h) fun f s1 q=>?_)
  cases f with
  | next=>exact wpAny_execs_nil q
  | ret v=>exact q
  | brk=>exact q
  | cont=>exact q
noncomputable def tCont:TS:=fun D σ H=>D.ct σ H
theorem ps_continue:PS X (.Continue pos) tCont:=fun _ _ σ H _ I h=>wpAny_Continue ⟨σ,H,I,h⟩
theorem Inv.quiet {pins:List (Addr×Obj)}{σ:St} {H:Hp}{s:Shared} (I:Inv X pins σ H s):interactive X.env=false:=by simp [interactive,I.ok.kind]
noncomputable def tDrop (te:TE):TS:=fun D σ H=>te σ H fun _ H1=>D.nx σ H1
theorem ps_expr (he:PE X e te) (hs:swapsWith e none pos.line X.env=pure false:=by rfl):PS X (.Expr e pos) (tDrop te):=by
  intro pins s σ H D I h
  exact wpAny_Expr_any (thn (he pins s σ H _ I h) fun v s1 ⟨x,H1,I1,r1,q1⟩=>⟨σ,H1,I1,q1⟩) I.quiet hs
noncomputable def tRet (te:TE):TS:=fun D σ H=>te σ H D.rt
theorem ps_ret (he:PE X e te):PS X (.Return (some e) pos) (tRet te):=by
  intro pins s σ H D I h
  exact wpAny_Return_some (thn (he pins s σ H _ I h) fun v s1 ⟨x,H1,I1,r1,q1⟩=>⟨x,σ,H1,I1,r1,q1⟩)
noncomputable def tIfS (c:TT) (t u:TS):TS:=fun D σ H=>c σ H fun b H1=>if b=true then t D σ H1 else u D σ H1
theorem ps_if {c:Expr}{a b:List Stmt} {tc:TT}(hc:PT X c tc) (ha:PSs X a t) (hb:PSs X b u):PS X (.If c a b pos) (tIfS tc t u):=by
  intro pins s σ H D I h
  refine wpAny_If (thn (hc pins s σ H _ I h) fun d s1 ⟨H1,I1,q1⟩=>?_)
  cases d with
  | true=>exact ha pins s1 σ H1 D I1 q1
  | false=>exact hb pins s1 σ H1 D I1 q1
noncomputable def tNever:TS:=fun _ _ _=>False
theorem pss_never {sts:List Stmt}:PSs X sts tNever:=fun _ _ _ _ _ _ h=>h.elim
end
noncomputable abbrev TG:=V→St→Hp→(St→Hp→Prop)→Prop
noncomputable abbrev TGs:=List V→St→Hp→(St→Hp→Prop)→Prop
noncomputable def PG (X:Cx) (target:Expr) (t:TG):Prop:=
  ∀ (pins:List (Addr×Obj)) (s:Shared) (σ:St) (H:Hp) (v:V) (u:Value) (Q:St→Hp→Prop),Inv X pins σ H s→RelV v u→t v σ H Q→
    wpAny (model X.prog X.w) X.A (assign target X.env u) (fun _ s'=>∃ σ' H',Inv X pins σ' H' s'∧Q σ' H') X.xe s
noncomputable def PGs (X:Cx) (ts:List Expr) (t:TGs):Prop:=
  ∀ (pins:List (Addr×Obj)) (s:Shared) (σ:St) (H:Hp) (vs:List V) (us:List Value) (Q:St→Hp→Prop),Inv X pins σ H s→Vals vs us→t vs σ H Q→
    wpAny (model X.prog X.w) X.A (assignInOrder ((assignEach ts X.env).map (·.2)) us) (fun _ s'=>∃ σ' H',Inv X pins σ' H' s'∧Q σ' H') X.xe s
noncomputable abbrev TSet:=V→V→V→Hp→(Hp→Prop)→Prop
noncomputable def PSet (X:Cx) (t:TSet):Prop:=
  ∀ (pins:List (Addr×Obj)) (s:Shared) (σ:St) (H:Hp) (o i v:V) (ov iv u:Value) (Q:Hp→Prop),Inv X pins σ H s→RelV o ov→RelV i iv→RelV v u→t o i v H Q→
    wpAny (model X.prog X.w) X.A (setItem ov iv u) (fun _ s'=>∃ H',Inv X pins σ H' s'∧Q H') X.xe s
section
variable {X:Cx}{pos:Pos}
noncomputable def gName (i:Nat):TG:=fun v σ H Q=>Q (σ.set i (some v)) H
theorem pg_name {i:Nat}{x:Str} (hN:X.N.Nodup) (hi:X.N[i]?=some x) (hx:Loc X.env.scope x) (hf:X.fn x=true∨X.env.scope.names.lookup x=some .local:=by first | exact .inl rfl | exact .inr rfl | assumption):PG X (.Name x pos) (gName i):=by
  intro pins s σ H v u Q I r h
  exact wpAny_assign_Name (store_ok I hN hi hx r (fun s' I'=>⟨_,H,I',h⟩) hf)
noncomputable def gNil:TGs:=fun vs σ H Q=>vs=[]∧Q σ H
noncomputable def gCons (t:TG) (u:TGs):TGs:=fun vs σ H Q=>∃ v r,vs=v::r∧t v σ H fun σ' H'=>u r σ' H' Q
theorem pgs_nil:PGs X [] gNil:=by
  intro pins s σ H vs us Q I r h
  obtain ⟨e,h⟩:=h
  subst e
  cases r
  exact assignInOrder_nil ⟨σ,H,I,h⟩
theorem pgs_cons {e:Expr}{es:List Expr} {t:TG}{u:TGs} (h1:PG X e t) (h2:PGs X es u)
    (hs:(assignEach (e::es) X.env).map (·.2)=assign e X.env::(assignEach es X.env).map (·.2):=by rfl):PGs X (e::es) (gCons t u):=by
  intro pins s σ H vs us Q I r h
  obtain ⟨v,vr,e1,h⟩:=h
  subst e1
  cases r with
  | cons r rr=>
    rw [hs]
    refine assignInOrder_cons (thn (h1 pins s σ H _ _ _ I r h) fun _ s1 ⟨σ1,H1,I1,q1⟩=>?_)
    exact h2 pins s1 σ1 H1 _ _ Q I1 rr q1
noncomputable def gTup (K:PySem.W.Frag) (n:Nat) (t:TGs):TG:=fun v σ H Q=>∃ a xs,v=.ref a∧SqT K H a xs∧xs.length=n∧t xs σ H Q
theorem pg_tup {es:List Expr}{k:Nat} {t:TGs}{n:Nat} (hc:X.calm=true) (h:PGs X es t)
    (hn:(assignEach es X.env).length=n:=by rfl) (hst:(assignEach es X.env).findIdx? (·.1)=none:=by rfl):PG X (.Tuple es k pos) (gTup X.K n t):=by
  intro pins s σ H v u Q I r hw
  obtain ⟨a,xs,e1,hq,hl,hw⟩:=hw
  subst e1
  cases r
  obtain ⟨its,rv,ht,hz⟩:=I.tuple hq
  refine assign_Tuple_tuple (I.ok.hd hc) ht (by simp [hn,← hl,rv.length]) hst fun h' hx=>?_
  have I1:Inv X pins σ H { s with heap:=h' }:=I.kept (t':=s.toks) fun b o e=>hx b o (Nat.ne_of_lt (Heap.lt_size e)) e
  exact h pins _ σ H xs _ Q I1 (by simpa using rv) hw
noncomputable def gSub (to ti:TE) (t:TSet):TG:=fun v σ H Q=>to σ H fun o H1=>ti σ H1 fun i H2=>t o i v H2 fun H3=>Q σ H3
theorem pg_sub {o i:Expr}{to ti:TE} {t:TSet}(ho:PE X o to) (hi:PE X i ti) (hs:PSet X t)
    (ha:∀ v,assign (.Subscript o i pos) X.env v=(do
      let ov ← holding [v] (eval o X.env)
      let iv ← holding [v,ov] (eval i X.env)
      standAt pos
      holding [v,ov,iv] (setItem ov iv v)
      release [v,ov,iv] []):=by intro _;rfl):PG X (.Subscript o i pos) (gSub to ti t):=by
  intro pins s σ H v u Q I r h
  rw [ha]
  refine wpAny_bind (wpAny_holding (thn (ho pins s σ H _ I h) fun ov s1 ⟨x,H1,I1,r1,q1⟩=>?_))
  refine wpAny_bind (wpAny_holding (thn (hi pins s1 σ H1 _ I1 q1) fun iv s2 ⟨y,H2,I2,r2,q2⟩=>?_))
  refine wpAny_bind (wpAny_standAt (wpAny_bind (wpAny_holding (thn (hs pins s2 σ H2 x y v ov iv u _ I2 r1 r2 r q2) fun _ s3 ⟨H3,I3,q3⟩=>?_))))
  exact wpAny_release ⟨σ,H3,I3,q3⟩
noncomputable def tAsg (te:TE) (g:TG):TS:=fun D σ H=>te σ H fun x H1=>g x σ H1 D.nx
theorem ps_asg {tg e:Expr}{te:TE} {g:TG}(he:PE X e te) (hg:PG X tg g) (hs:swapsWithSole [tg] e pos.line X.env=pure false:=by rfl) (hw:swappedStores [tg] e X.env=pure none:=by rfl)
    (h1:(assignEach [tg] X.env).map (·.2)=[assign tg X.env]:=by rfl):PS X (.Assign [tg] e pos) (tAsg te g):=by
  intro pins s σ H D I h
  refine wpAny_Assign_stores (thn (he pins s σ H _ I h) fun v s1 ⟨x,H1,I1,r1,q1⟩=>?_) hs hw
  rw [h1]
  exact thn (hg pins s1 σ H1 x v _ I1 r1 q1) fun _ s2 q=>q
theorem ps_set {i:Nat}{x:Str} {e:Expr}{te:TE} {pos':Pos}(hN:X.N.Nodup) (hi:X.N[i]?=some x) (hx:Loc X.env.scope x) (he:PE X e te) (hs:swapsWith e (some (.Name x pos')) pos.line X.env=pure false:=by rfl) (hf:X.fn x=true∨X.env.scope.names.lookup x=some .local:=by first | exact .inl rfl | exact .inr rfl | assumption) :
    PS X (.Assign [.Name x pos'] e pos) (tAsg te (gName i)):=by
  intro pins s σ H D I h
  refine wpAny_Assign_Name (thn (he pins s σ H _ I h) fun v s1 ⟨y,H1,I1,r1,q1⟩=>?_) hs
  exact store_ok I1 hN hi hx r1 (fun s2 I2=>⟨_,H1,I2,q1⟩) hf
noncomputable def tPar (i j:Nat) (ta:TA):TS:=fun D σ H=>ta σ H fun vs H1=>∃ v w,vs=[v,w]∧D.nx ((σ.set i (some v)).set j (some w)) H1
theorem ps_par {i j:Nat}{x y:Str} {a b:Expr}{ta:TA} {px py pt:Pos}{kt k2 pt2} (hc:X.calm=true) (hN:X.N.Nodup) (hi:X.N[i]?=some x) (hj:X.N[j]?=some y) (hij:i≠j)
    (hx:X.env.scope.names.lookup x=some .local) (hy:X.env.scope.names.lookup y=some .local) (ha:PA X [a,b] ta)
    (hw:swappedStores [.Tuple [.Name x px,.Name y py] kt pt] (.Tuple [a,b] k2 pt2) X.env=pure (some [x,y]))
    (hs:swapsWithSole [.Tuple [.Name x px,.Name y py] kt pt] (.Tuple [a,b] k2 pt2) pos.line X.env=pure false:=by rfl) :
    PS X (.Assign [.Tuple [.Name x px,.Name y py] kt pt] (.Tuple [a,b] k2 pt2) pos) (tPar i j ta):=by
  intro pins s σ H D I h
  rw [exec_Assign_arm]
  refine wpAny_bind (wpAny_standAt ?_)
  rw [hs]
  refine wpAny_bind (wpAny_pure ?_)
  rw [if_neg (by decide)]
  refine wpAny_bind (Tuple_ (thn (ha _ pins s σ H _ I h) fun us s1 ⟨vs,H1,I1,r1,q1⟩=>?_))
  obtain ⟨v,w,e1,q1⟩:=q1
  subst e1
  obtain ⟨u1,u2,rfl,rv,rw'⟩:∃ u1 u2,us=[u1,u2]∧RelV v u1∧RelV w u2:=by
    cases r1 with
    | cons p q=>
      cases q with
      | cons p' q'=>
        cases q'
        exact ⟨_,_,rfl,p,p'⟩
  refine wpAny_newObj_type ?_ (by show 2≤sizeLine;decide)
  have I2:Inv X pins σ H1 { s1 with heap:=s1.heap.push { cls:=.type "tuple",data:=.seq [u1,u2].toArray } }:=I1.kept (t':=s1.toks) fun b o e=>Heap.get?_push_of_some _ e
  rw [hw]
  refine wpAny_bind (wpAny_pure ?_)
  show wpAny (model X.prog X.w) X.A (do rule "assign.swapped-stores";let items ← unpackItems (.ref s1.heap.objs.size) 2 none;assignInOrder [fun v=>bindName X.env y v,fun v=>bindName X.env x v] items.reverse;pure Flow.next) _ _ _
  refine wpAny_bind (wpAny_rule (wpAny_bind (unpackItems_tuple (items:=#[u1,u2]) (I.ok.hd hc) (IsTup.new s1.heap _) fun h' hx'=>?_)))
  have I3:=I2.kept (h':=h') (t':=s1.toks) fun b o e=>hx' b o (Nat.ne_of_lt (Heap.lt_size e)) e
  show wpAny _ _ (assignInOrder [fun v=>bindName X.env y v,fun v=>bindName X.env x v] [u2,u1] >>= fun _=>pure Flow.next) _ _ _
  refine wpAny_bind (assignInOrder_cons (wpAny_bindName (store_ok I3 hN hj (.inl hy) rw' (fun s2 I4=>?_) (.inr hy))))
  refine assignInOrder_cons (wpAny_bindName (store_ok I4 hN hi (.inl hx) rv (fun s3 I5=>assignInOrder_nil (wpAny_pure ?_)) (.inr hx)))
  rw [List.set_comm _ _ (Ne.symm hij)] at I5
  exact ⟨_,H1,I5,q1⟩
end
section
variable {X:Cx}{pos:Pos}
noncomputable def tWhile (c:TT) (tb:TS):TS:=fun D σ H=>∃ W:Nat→St→Hp→Prop,(∃ m,W m σ H)∧∀ m σ H,W m σ H→
  c σ H fun b H1=>if b=true then ∃ N:St→Hp→Prop,(∀ σ' H',N σ' H'→∃ m',m' < m∧W m' σ' H')∧tb { D with nx:=N,ct:=N,bk:=D.nx } σ H1 else D.nx σ H1
theorem ps_while {c:Expr}{body:List Stmt} {tc:TT}{tb:TS} (hp:PassesOwn (model X.prog X.w) X.A X.env X.xe) (hc:PT X c tc) (hb:PSs X body tb):PS X (.While c body [] pos) (tWhile tc tb):=by
  intro pins s σ H D I h
  obtain ⟨W,⟨m0,w0⟩,turn⟩:=h
  refine wpAny_While (codeAny_whileLoop (fun n s'=>∃ σ' H',Inv X pins σ' H' s'∧W n σ' H') ?_ m0 ⟨σ,H,I,w0⟩)
  rintro n s1 ⟨σ1,H1,I1,w1⟩
  refine wpAny_passesOwn hp (thn (hc pins s1 σ1 H1 _ I1 (turn n σ1 H1 w1)) fun b s2 ⟨H2,I2,q2⟩=>?_)
  cases b with
  | true=>
    obtain ⟨N,hN,q2⟩:=q2
    rw [if_pos rfl]
    refine wpAny_passesOwn hp (thn (hb pins s2 σ1 H2 _ I2 q2) fun f s3 q3=>?_)
    cases f with
    | next=>
      obtain ⟨σ3,H3,I3,n3⟩:=q3
      obtain ⟨m',hm,w3⟩:=hN σ3 H3 n3
      exact ⟨m',hm,σ3,H3,I3,w3⟩
    | cont=>
      obtain ⟨σ3,H3,I3,n3⟩:=q3
      obtain ⟨m',hm,w3⟩:=hN σ3 H3 n3
      exact ⟨m',hm,σ3,H3,I3,w3⟩
    | brk=>exact q3
    | ret v=>exact q3
  | false=>
    rw [if_neg Bool.false_ne_true]
    exact wpAny_execs_nil ⟨σ1,H2,I2,q2⟩
end
structure It where
  go:Nat→Hp→Prop
  yld:Nat→Hp→V→Hp→Prop
  stop:Nat→Hp→Prop
noncomputable def FpOk (X:Cx) (pins:List (Addr×Obj)) (H:Hp) (b:Addr):Prop:=
  H b=none∧b≠X.env.locals∧b∉X.fs∧(b∈X.ex∨X.s₀.heap.objs.size≤b)∧(∀ x c,X.env.cells.lookup x=some c→c≠b)∧∀ p∈X.pn++pins,p.1≠b
theorem Inv.fpOk {X:Cx}{pins:List (Addr×Obj)} {σ:St}{H H':Hp} {s:Shared}{b:Addr} (I:Inv X pins σ H s) (hb:s.heap.objs.size≤b) (hn:H' b=none):FpOk X pins H' b:=by
  refine ⟨hn,Nat.ne_of_gt (Nat.lt_of_lt_of_le I.lt hb),I.nofs hb,.inr (Nat.le_trans I.sz hb),fun x c e z=>?_,fun p hp z=>?_⟩
  · obtain ⟨v,q⟩:=I.cell x c e
    exact absurd (Nat.lt_of_lt_of_le q.lt (by rw [z];exact hb)) (Nat.lt_irrefl _)
  · exact absurd (Nat.lt_of_lt_of_le (Heap.lt_size (I.pin p hp).1) (by rw [z];exact hb)) (Nat.lt_irrefl _)
structure Turn (P:Program) (w:World) (K:PySem.W.Frag) (tg:Expr) (J:It) (fp:List Addr) (it:Addr) (tn:Nat→Heap→Prop):Prop where
  mem:it∈fp
  obj:∀ i h,tn i h→∀ b∈fp,∃ o,h.get? b=some o∧∀ v,o.data≠.cell v
  keep:∀ i h h',tn i h→(∀ b∈fp,∀ o,h.get? b=some o→h'.get? b=some o)→tn i h'
  item:∀ (X:Cx),X.prog=P→X.w=w→X.K=K→X.calm=true→∀ (i:Nat) (pins:List (Addr×Obj)) (s:Shared) (σ:St) (H:Hp) (E:Value→Shared→Prop),Inv X pins σ H s→(∀ b∈fp,FpOk X pins H b)→tn i s.heap→J.go i H→
    wpAny (model P w) X.A (pyNext (.ref it)) (fun r s1=>∃ u,r=some u∧
      wpAny (model P w) X.A (letOwnedTupleGo tg (.ref it) u) (fun _ s2=>∃ x H',Inv X pins σ H' s2∧RelV x u∧J.yld i H x H'∧tn (i + 1) s2.heap∧∀ b∈fp,H' b=none) E s1) E s
  done:∀ (X:Cx),X.prog=P→X.w=w→X.K=K→X.calm=true→∀ (i:Nat) (pins:List (Addr×Obj)) (s:Shared) (σ:St) (H:Hp) (E:Value→Shared→Prop),Inv X pins σ H s→(∀ b∈fp,FpOk X pins H b)→tn i s.heap→J.stop i H→
    wpAny (model P w) X.A (pyNext (.ref it)) (fun r s1=>r=none∧Inv X pins σ H s1) E s
  self:∀ (A:Around) (i:Nat) (s:Shared) (Q:Value→Shared→Prop) (E:Value→Shared→Prop),tn i s.heap→Q (.ref it) s→wpAny (model P w) A (pyIter (.ref it)) Q E s
noncomputable abbrev TI:=St→Hp→(It→Hp→Prop)→Prop
noncomputable def PIE (X:Cx) (pins:List (Addr×Obj)) (σ:St) (tg:Expr) (R:It→Hp→Prop) (itv:Value) (s2:Shared):Prop:=
  ∃ (it:Addr) (fp:List Addr) (tn:Nat→Heap→Prop) (J:It) (H':Hp),itv=.ref it∧Inv X pins σ H' s2∧Turn X.prog X.w X.K tg J fp it tn∧tn 0 s2.heap∧(∀ b∈fp,FpOk X pins H' b)∧R J H'
noncomputable def PI (X:Cx) (tg iter:Expr) (wi:TI):Prop:=
  ∀ (pins:List (Addr×Obj)) (s:Shared) (σ:St) (H:Hp) (R:It→Hp→Prop),Inv X pins σ H s→wi σ H R→
    wpAny (model X.prog X.w) X.A (eval iter X.env) (fun v s1=>wpAny (model X.prog X.w) X.A (pyIter v) (PIE X pins σ tg R) X.xe s1) X.xe s
theorem go_of {M:Model}{A:Around} {E:Value→Shared→Prop}{s:Shared} {tg:Expr}{it:Addr} {u:Value}{o:Obj} {n:String}{vs:Array Value} {Q:Unit→Shared→Prop}(ho:s.heap.get? it=some o) (hc:o.cls=.type n) (hd:o.data=.fields vs)
    (hn:["enumerate", "zip", "dict_itemiterator", "dict_reverseitemiterator", "odict_iterator", "itertools.zip_longest", "itertools.pairwise"].contains n=false) (hQ:Q () s):wpAny M A (letOwnedTupleGo tg (.ref it) u) Q E s:=by
  unfold letOwnedTupleGo
  cases tg<;>first
    | exact wpAny_pure hQ
    | (cases u<;>first
        | exact wpAny_pure hQ
        | (refine wpAny_bind (wpAny_load ho ?_)
           rw [hc,hd]
           show wpAny M A (if (["enumerate", "zip", "dict_itemiterator", "dict_reverseitemiterator", "odict_iterator", "itertools.zip_longest", "itertools.pairwise"].contains n && vs[0]? == some (rawInt _))=true then _ else _) Q E s
           rw [if_neg (by intro h;rw [hn,Bool.false_and] at h;cases h)]
           exact wpAny_pure hQ))
noncomputable def Itl (K:PySem.W.Frag) (a:Addr):It:=
  ⟨fun i H=>∃ xs x,SqL K H a xs∧xs[i]?=some x,fun i H x H'=>H'=H∧∀ xs,SqL K H a xs→xs[i]?=some x,fun i H=>∃ xs,SqL K H a xs∧xs.length≤i⟩
noncomputable def Itt (K:PySem.W.Frag) (a:Addr):It:=
  ⟨fun i H=>∃ xs x,SqT K H a xs∧xs[i]?=some x,fun i H x H'=>H'=H∧∀ xs,SqT K H a xs→xs[i]?=some x,fun i H=>∃ xs,SqT K H a xs∧xs.length≤i⟩
noncomputable def Itr (lo:Int) (n:Nat):It:=⟨fun i _=>i < n,fun i H x H'=>H'=H∧x=.int (lo + i),fun i _=>n≤i⟩
theorem turn_list {P:Program}{w:World} {K:PySem.W.Frag}{tg:Expr} (a it:Addr):Turn P w K tg (Itl K a) [it] it (fun i h=>h.IsListIter it a i) where
  mem:=by simp
  obj:=fun i h st b hb=>by
    have e:b=it:=by simpa using hb
    subst e
    obtain ⟨o,e,c,d⟩:=st
    exact ⟨o,e,fun v z=>by rw [d] at z;cases z⟩
  keep:=fun i h h' st k=>st.at fun o e=>k it (by simp) o e
  item:=by
    intro X hP hw hK hc i pins s σ H E I hf st hg
    subst hP hw hK
    obtain ⟨xs,x,hq,hx⟩:=hg
    obtain ⟨its,rv,p,hz⟩:=I.list hq
    obtain ⟨u,hu,ru⟩:=rv.get hx
    obtain ⟨f0,f1,f2,f3,f4,f5⟩:=hf it (by simp)
    refine wpAny_pyNext_list_item st p.isList (x:=u) (by simpa using hu) fun h' st' sb=>?_
    have I1:Inv X pins σ H { s with heap:=h' }:=I.turned (t':=s.toks) (fun b o hb e=>(sb.2 b hb).trans e) f0 f1 f3 f4 f5
    obtain ⟨o,e,c,d⟩:=id st'
    exact ⟨u,rfl,go_of (s:={ s with heap:=h' }) e c d (by decide) ⟨x,H,I1,ru,⟨rfl,fun ys hy=>by rw [I.list_inj hy hq];exact hx⟩,st',fun b hb=>(hf b hb).1⟩⟩
  done:=by
    intro X hP hw hK hc i pins s σ H E I hf st hg
    subst hP hw hK
    obtain ⟨xs,hq,hx⟩:=hg
    obtain ⟨its,rv,p,hz⟩:=I.list hq
    obtain ⟨f0,f1,f2,f3,f4,f5⟩:=hf it (by simp)
    have hl:=rv.length
    exact wpAny_pyNext_list_end (I.ok.hd hc) st p.isList (by simp;omega) fun h' eb=>⟨rfl,I.turned (t':=s.toks) (fun b o hb e=>eb b o hb e) f0 f1 f3 f4 f5⟩
  self:=fun _ _ _ _ _ st h=>wpAny_pyIter_listiter st h
theorem turn_tuple {P:Program}{w:World} {K:PySem.W.Frag}{tg:Expr} (a it:Addr):Turn P w K tg (Itt K a) [it] it (fun i h=>h.IsTupleIter it a i) where
  mem:=by simp
  obj:=fun i h st b hb=>by
    have e:b=it:=by simpa using hb
    subst e
    obtain ⟨o,e,c,d⟩:=st
    exact ⟨o,e,fun v z=>by rw [d] at z;cases z⟩
  keep:=fun i h h' st k=>st.at fun o e=>k it (by simp) o e
  item:=by
    intro X hP hw hK hc i pins s σ H E I hf st hg
    subst hP hw hK
    obtain ⟨xs,x,hq,hx⟩:=hg
    obtain ⟨its,rv,p,hz⟩:=I.tuple hq
    obtain ⟨u,hu,ru⟩:=rv.get hx
    obtain ⟨f0,f1,f2,f3,f4,f5⟩:=hf it (by simp)
    refine wpAny_pyNext_tuple_item st (show s.heap.IsTuple a its.toArray from p) (x:=u) (by simpa using hu) fun h' st' sb=>?_
    have I1:Inv X pins σ H { s with heap:=h' }:=I.turned (t':=s.toks) (fun b o hb e=>(sb.2 b hb).trans e) f0 f1 f3 f4 f5
    obtain ⟨o,e,c,d⟩:=id st'
    exact ⟨u,rfl,go_of (s:={ s with heap:=h' }) e c d (by decide) ⟨x,H,I1,ru,⟨rfl,fun ys hy=>by rw [I.tuple_inj hy hq];exact hx⟩,st',fun b hb=>(hf b hb).1⟩⟩
  done:=by
    intro X hP hw hK hc i pins s σ H E I hf st hg
    subst hP hw hK
    obtain ⟨xs,hq,hx⟩:=hg
    obtain ⟨its,rv,p,hz⟩:=I.tuple hq
    obtain ⟨f0,f1,f2,f3,f4,f5⟩:=hf it (by simp)
    have hl:=rv.length
    exact wpAny_pyNext_tuple_end (I.ok.hd hc) st (show s.heap.IsTuple a its.toArray from p) (by simp;omega) fun h' eb=>⟨rfl,I.turned (t':=s.toks) (fun b o hb e=>eb b o hb e) f0 f1 f3 f4 f5⟩
  self:=fun _ _ _ _ _ st h=>wpAny_pyIter_tupleiter st h
theorem turn_range {P:Program}{w:World} {K:PySem.W.Frag}{tg:Expr} (it:Addr) (lo:Int) (n:Nat):Turn P w K tg (Itr lo n) [it] it (fun i h=>IsRangeIter h it (lo + (i:Nat) * 1) ((n:Int) - (i:Nat)) 1) where
  mem:=by simp
  obj:=fun i h st b hb=>by
    have e:b=it:=by simpa using hb
    subst e
    exact ⟨_,st,fun v z=>by
      have z':Data.fields _=Data.cell v:=z
      cases z'⟩
  keep:=fun i h h' st k=>k it (by simp) _ st
  item:=by
    intro X hP hw hK hc i pins s σ H E I hf st hg
    subst hP hw hK
    obtain ⟨f0,f1,f2,f3,f4,f5⟩:=hf it (by simp)
    have W:=Walks.range (prog:=X.prog) (w:=X.w) (I.ok.hd hc) it lo 1 n
    refine W.item i s _ _ hg st fun v h' tk hv st' kk=>?_
    obtain ⟨t,rfl⟩:=hv
    have I1:Inv X pins σ H { s with heap:=h',toks:=tk }:=I.turned (fun b o hb e=>kk b o (by simpa using hb) e) f0 f1 f3 f4 f5
    refine ⟨_,rfl,go_of (s:={ s with heap:=h',toks:=tk }) (n := "range_iterator") st' rfl rfl (by decide) ⟨.int (lo + i),H,I1,⟨t,?_⟩,⟨rfl,rfl⟩,st',fun b hb=>(hf b hb).1⟩⟩
    rw [Int.mul_one]
  done:=by
    intro X hP hw hK hc i pins s σ H E I hf st hg
    subst hP hw hK
    obtain ⟨f0,f1,f2,f3,f4,f5⟩:=hf it (by simp)
    exact wpAny_pyNext_range_end (I.ok.hd hc) st (by have:n≤i:=hg;omega) fun h' eb=>⟨rfl,I.turned (t':=s.toks) (fun b o hb e=>eb b o hb e) f0 f1 f3 f4 f5⟩
  self:=fun _ _ _ _ _ st h=>wpAny_pyIter_rangeiter st h
end L2
namespace L2
open PySem PySem.Spec PyProof.Rows
section
variable {X:Cx}{tg:Expr}
noncomputable def iList (K:PySem.W.Frag) (tl:TE):TI:=fun σ H R=>tl σ H fun x H1=>∃ a,x=.ref a∧(∃ xs,SqL K H1 a xs)∧R (Itl K a) H1
noncomputable def iTup (K:PySem.W.Frag) (tl:TE):TI:=fun σ H R=>tl σ H fun x H1=>∃ a,x=.ref a∧(∃ xs,SqT K H1 a xs)∧R (Itt K a) H1
theorem pi_list {l:Expr}{tl:TE} (hl:PE X l tl):PI X tg l (iList X.K tl):=by
  intro pins s σ H R I h
  refine thn (hl pins s σ H _ I h) fun v s1 h_=>?_
  obtain ⟨x,H1,I1,r1,q1⟩:=h_
  obtain ⟨a,e,⟨xs,hq⟩,q⟩:=q1
  subst e
  cases r1
  obtain ⟨its,rv,p,hz⟩:=I1.list hq
  refine wpAny_pyIter_list p.isList ?_
  refine ⟨s1.heap.objs.size,[s1.heap.objs.size],_,_,H1,rfl,I1.kept (t':=s1.toks) fun b o e=>Heap.get?_push_of_some _ e,turn_list a _,⟨_,Heap.get?_push_size _ rfl,rfl,rfl⟩,fun b hb=>?_,q⟩
  have e:b=s1.heap.objs.size:=by simpa using hb
  subst e
  exact I1.fpOk (Nat.le_refl _) (I1.hok.fresh (Nat.le_refl _))
theorem pi_tup {l:Expr}{tl:TE} (hl:PE X l tl):PI X tg l (iTup X.K tl):=by
  intro pins s σ H R I h
  refine thn (hl pins s σ H _ I h) fun v s1 h_=>?_
  obtain ⟨x,H1,I1,r1,q1⟩:=h_
  obtain ⟨a,e,⟨xs,hq⟩,q⟩:=q1
  subst e
  cases r1
  obtain ⟨its,rv,p,hz⟩:=I1.tuple hq
  refine wpAny_pyIter_tuple (show s1.heap.IsTuple a its.toArray from p) ?_
  refine ⟨s1.heap.objs.size,[s1.heap.objs.size],_,_,H1,rfl,I1.kept (t':=s1.toks) fun b o e=>Heap.get?_push_of_some _ e,turn_tuple a _,⟨_,Heap.get?_push_size _ rfl,rfl,rfl⟩,fun b hb=>?_,q⟩
  have e:b=s1.heap.objs.size:=by simpa using hb
  subst e
  exact I1.fpOk (Nat.le_refl _) (I1.hok.fresh (Nat.le_refl _))
theorem range_it {pins:List (Addr×Obj)}{σ:St} {H:Hp}{s:Shared} {R:It→Hp→Prop}{E:Value→Shared→Prop} {lo hi:Int}{t u v:Tok} {tk:Nat}(I:Inv X pins σ H s) (h1:-(2 ^ 62)≤lo) (h2:lo < 2 ^ 62) (h3:-(2 ^ 62)≤hi) (h4:hi < 2 ^ 62)
    (q:R (Itr lo (hi - lo).toNat) H):wpAny (model X.prog X.w) X.A (pyIter (.ref s.heap.objs.size)) (PIE X pins σ tg R) E { s with heap:=s.heap.push { cls:=.type "range",data:=.fields #[.int lo t,.int hi u,.int 1 v] },toks:=tk }:=by
  refine wpAny_pyIter_range (IsRange.new ..) (small_one h1 h2 h3 h4) ?_
  have I1:Inv X pins σ H { s with heap:=s.heap.push { cls:=.type "range",data:=.fields #[.int lo t,.int hi u,.int 1 v] },toks:=tk }:=I.kept fun b o e=>Heap.get?_push_of_some _ e
  refine ⟨(s.heap.push { cls:=.type "range",data:=.fields #[.int lo t,.int hi u,.int 1 v] }).objs.size,[(s.heap.push { cls:=.type "range",data:=.fields #[.int lo t,.int hi u,.int 1 v] }).objs.size],_,_,H,rfl,
    I1.kept (t':=tk) fun b o e=>Heap.get?_push_of_some _ e,turn_range _ lo (hi - lo).toNat,?_,fun b hb=>?_,q⟩
  · have e1:lo + ((0:Nat):Int) * 1=lo:=by simp
    have e2:(((hi - lo).toNat:Nat):Int) - ((0:Nat):Int)=Builtin.Range.rangeSize lo hi 1:=by rw [rangeSize_one];split<;>omega
    show IsRangeIter _ _ (lo + ((0:Nat):Int) * 1) ((((hi - lo).toNat:Nat):Int) - ((0:Nat):Int)) 1
    rw [e1,e2]
    exact Heap.get?_push_size _ rfl
  · have e:b=(s.heap.push { cls:=.type "range",data:=.fields #[.int lo t,.int hi u,.int 1 v] }).objs.size:=by simpa using hb
    subst e
    exact I1.fpOk (Nat.le_refl _) (I1.hok.fresh (Nat.le_refl _))
noncomputable def iRng1 (ta:TA):TI:=fun σ H R=>ta σ H fun vs H1=>∃ j:Int,vs=[.int j]∧-(2 ^ 62)≤j∧j < 2 ^ 62∧R (Itr 0 j.toNat) H1
noncomputable def iRng2 (ta:TA):TI:=fun σ H R=>ta σ H fun vs H1=>∃ i j:Int,vs=[.int i,.int j]∧(-(2 ^ 62)≤i∧i < 2 ^ 62∧-(2 ^ 62)≤j∧j < 2 ^ 62)∧R (Itr i (j - i).toNat) H1
theorem pi_range1 {a:Expr}{ta:TA} {p pos:Pos}(hg:Gl X "range") (hm:X.mg "range" = none) (ha:PA X [a] ta) (hs:starEach [a] X.env=[(false,eval a X.env)]:=by rfl):PI X tg (.Call (.Name "range" p) [a] [] pos) (iRng1 ta):=by
  intro pins s σ H R I h
  refine Call_ (ld_blt I hg hm boot_range (PyProof.Rows.callWith_type1 (thn (ha pos pins s σ H _ I h) fun us s1 ⟨vs,H1,I1,r1,q1⟩=>?_) hs rfl))
  obtain ⟨j,e,q1,q2,q⟩:=q1
  subst e
  cases r1 with
  | cons r rr=>
    cases rr
    obtain ⟨t,rfl⟩:=r
    exact call_range_1 (range_it I1 (by omega) (by omega) q1 q2 (by simpa using q))
theorem pi_range2 {a b:Expr}{ta:TA} {p pos:Pos}(hg:Gl X "range") (hm:X.mg "range" = none) (ha:PA X [a,b] ta) (hs:starEach [a,b] X.env=[(false,eval a X.env),(false,eval b X.env)]:=by rfl) (hs2:starEach [b] X.env=[(false,eval b X.env)]:=by rfl) :
    PI X tg (.Call (.Name "range" p) [a,b] [] pos) (iRng2 ta):=by
  intro pins s σ H R I h
  refine Call_ (ld_blt I hg hm boot_range (PyProof.Rows.callWith_type1 (thn (ha pos pins s σ H _ I h) fun us s1 ⟨vs,H1,I1,r1,q1⟩=>?_) (by rw [hs,hs2]) (by rw [hs2];rfl)))
  obtain ⟨i,j,e,⟨q1,q2,q3,q4⟩,q⟩:=q1
  subst e
  cases r1 with
  | cons r rr=>
    cases rr with
    | cons r' rr=>
      cases rr
      obtain ⟨t,rfl⟩:=r
      obtain ⟨t',rfl⟩:=r'
      exact call_range_2 (range_it I1 q1 q2 q3 q4 q)
noncomputable def tFor (wi:TI) (g:TG) (tb:TS):TS:=fun D σ H=>wi σ H fun J H1=>∃ W:Nat→Nat→St→Hp→Prop,(∃ m,W 0 m σ H1)∧∀ i m σ H,W i m σ H→
  (J.stop i H∧D.nx σ H)∨(J.go i H∧∃ N:St→Hp→Prop,(∀ σ' H',N σ' H'→∃ m',m' < m∧W (i + 1) m' σ' H')∧∀ x H',J.yld i H x H'→g x σ H' fun σ2 H2=>tb { D with nx:=N,ct:=N,bk:=D.nx } σ2 H2)
noncomputable def pinsAt (fp:List Addr) (h:Heap):List (Addr×Obj):=fp.filterMap fun b=>(h.get? b).map fun o=>(b,o)
theorem mem_pinsAt {fp:List Addr}{h:Heap} {b:Addr}{o:Obj} (hb:b∈fp) (e:h.get? b=some o):(b,o)∈pinsAt fp h:=List.mem_filterMap.mpr ⟨b,hb,by rw [e];rfl⟩
theorem of_pinsAt {fp:List Addr}{h:Heap} {p:Addr×Obj}(hp:p∈pinsAt fp h):p.1∈fp∧h.get? p.1=some p.2:=by
  obtain ⟨b,hb,e⟩:=List.mem_filterMap.mp hp
  cases q:h.get? b with
  | none=>rw [q] at e;cases e
  | some o=>
    rw [q] at e
    have e':(b,o)=p:=Option.some.inj e
    subst e'
    exact ⟨hb,q⟩
theorem Inv.pinned {pins:List (Addr×Obj)}{σ:St} {H:Hp}{s:Shared} {fp:List Addr}(I:Inv X pins σ H s) (hf:∀ b∈fp,FpOk X pins H b) (ho:∀ b∈fp,∃ o,s.heap.get? b=some o∧∀ v,o.data≠.cell v):Inv X (pins++pinsAt fp s.heap) σ H s:=
  I.pins_of fun p hp=>(List.mem_append.mp hp).elim (fun z=>I.pin p (List.mem_append_right _ z)) fun z=>by
    obtain ⟨hb,e⟩:=of_pinsAt z
    obtain ⟨f0,f1,f2,_⟩:=hf p.1 hb
    obtain ⟨o,e',d⟩:=ho p.1 hb
    rw [e] at e';cases e'
    exact ⟨e,f0,f1,f2,d⟩
theorem Inv.unpinned {pins pl:List (Addr×Obj)}{σ:St} {H:Hp}{s:Shared} (I:Inv X (pins++pl) σ H s):Inv X pins σ H s:=I.pins_of fun p hp=>I.pin p (List.mem_append_right _ (List.mem_append_left _ hp))
theorem ps_for {iter:Expr}{body:List Stmt} {wi:TI}{g:TG} {tb:TS}{pos:Pos} (hp:PassesOwn (model X.prog X.w) X.A X.env X.xe) (hc:X.calm=true) (hi:PI X tg iter wi) (hg:PG X tg g) (hb:PSs X body tb)
    (hs:∀ x,foldedSetIterable iter X.env x=pure x:=by intro _;rfl):PS X (.For tg iter body [] pos) (tFor wi g tb):=by
  intro pins s σ H D I h
  refine wpAny_For (thn (hi pins s σ H _ I h) fun v s1 h1=>thn h1 fun itv s2 h2=>?_) hs
  obtain ⟨it,fp,tn,J,H2,e,I2,T,st2,f2,W,⟨m0,w0⟩,turn⟩:=h2
  subst e
  have stat:∀ {H':Hp},(∀ b∈fp,H' b=none)→∀ b∈fp,FpOk X pins H' b:=fun hn b hb=>⟨hn b hb,(f2 b hb).2⟩
  refine codeAny_forLoop_any (fun n s'=>∃ i σ' H',Inv X pins σ' H' s'∧tn i s'.heap∧(∀ b∈fp,H' b=none)∧W i n σ' H') ?_ m0 ⟨0,σ,H2,I2,st2,fun b hb=>(f2 b hb).1,w0⟩
  rintro n s3 ⟨i,σ3,H3,I3,st3,fr3,w3⟩
  rcases turn i n σ3 H3 w3 with ⟨stop,qn⟩ | ⟨go,N,hN,step⟩
  · refine wpAny_passesOwn hp (thn (T.done X rfl rfl rfl hc i pins s3 σ3 H3 X.xe I3 (stat fr3) st3 stop) fun r s4 ⟨hr,I4⟩=>?_)
    subst hr
    exact wpAny_execs_nil ⟨σ3,H3,I4,qn⟩
  · refine wpAny_passesOwn hp (thn (T.item X rfl rfl rfl hc i pins s3 σ3 H3 X.xe I3 (stat fr3) st3 go) fun r s4 ⟨u,hr,h4⟩=>?_)
    subst hr
    refine wpAny_passesOwn hp (thn h4 fun _ s5 ⟨x,H5,I5,r5,y5,st5,fr5⟩=>?_)
    have I5':=I5.pinned (stat fr5) (T.obj _ _ st5)
    refine wpAny_passesOwn hp (thn (hg _ s5 σ3 H5 x u _ I5' r5 (step x H5 y5)) fun _ s6 ⟨σ6,H6,I6,q6⟩=>?_)
    refine wpAny_passesOwn hp (thn (hb _ s6 σ6 H6 _ I6 q6) fun f s7 q7=>?_)
    have again:∀ {σ7:St}{H7:Hp},Inv X (pins++pinsAt fp s5.heap) σ7 H7 s7→N σ7 H7→∃ m,m < n∧∃ i σ' H',Inv X pins σ' H' s7∧tn i s7.heap∧(∀ b∈fp,H' b=none)∧W i m σ' H':=fun {σ7 H7} I7 n7=>by
      obtain ⟨m',hm,w7⟩:=hN σ7 H7 n7
      refine ⟨m',hm,i + 1,σ7,H7,I7.unpinned,T.keep _ _ _ st5 fun b hb o e=>(I7.pin (b,o) (List.mem_append_right _ (List.mem_append_right _ (mem_pinsAt hb e)))).1,fun b hb=>?_,w7⟩
      obtain ⟨o,e,d⟩:=T.obj _ _ st5 b hb
      exact (I7.pin (b,o) (List.mem_append_right _ (List.mem_append_right _ (mem_pinsAt hb e)))).2.1
    cases f with
    | next=>obtain ⟨σ7,H7,I7,n7⟩:=q7;exact again I7 n7
    | cont=>obtain ⟨σ7,H7,I7,n7⟩:=q7;exact again I7 n7
    | brk=>obtain ⟨σ7,H7,I7,q7⟩:=q7;exact ⟨σ7,H7,I7.unpinned,q7⟩
    | ret v=>obtain ⟨x7,σ7,H7,I7,r7,q7⟩:=q7;exact ⟨x7,σ7,H7,I7.unpinned,r7,q7⟩
end
end L2
namespace L2
open PySem PySem.Spec PyProof.Rows
noncomputable abbrev R2:=V→V→Hp→VK→Prop
noncomputable def OpR (X:Cx) (f:Value→Value→Sem Value) (r:R2):Prop:=
  ∀ (pins:List (Addr×Obj)) (s:Shared) (σ:St) (H:Hp) (x y:V) (v u:Value) (Q:VK),Inv X pins σ H s→RelV x v→RelV y u→r x y H Q→
    wpAny (model X.prog X.w) X.A (f v u) (EP X pins σ Q) X.xe s
noncomputable def UnR (X:Cx) (f:Value→Sem Value) (r:V→Hp→VK→Prop):Prop:=
  ∀ (pins:List (Addr×Obj)) (s:Shared) (σ:St) (H:Hp) (x:V) (v:Value) (Q:VK),Inv X pins σ H s→RelV x v→r x H Q→
    wpAny (model X.prog X.w) X.A (f v) (EP X pins σ Q) X.xe s
noncomputable def CallR (X:Cx) (f:Value) (r:List V→Hp→VK→Prop):Prop:=
  ∀ (pins:List (Addr×Obj)) (s:Shared) (σ:St) (H:Hp) (xs:List V) (us:List Value) (Q:VK),Inv X pins σ H s→Vals xs us→r xs H Q→
    wpAny (model X.prog X.w) X.A (call f us) (EP X pins σ Q) X.xe s
noncomputable def TruR (X:Cx) (r:V→Hp→(Bool→Hp→Prop)→Prop):Prop:=
  ∀ (pins:List (Addr×Obj)) (s:Shared) (σ:St) (H:Hp) (x:V) (v:Value) (Q:Bool→Hp→Prop),Inv X pins σ H s→RelV x v→r x H Q→
    wpAny (model X.prog X.w) X.A (truthy v) (TP X pins σ Q) X.xe s
noncomputable def tOp (r:R2) (ta tb:TE):TE:=fun σ H Q=>ta σ H fun x H1=>tb σ H1 fun y H2=>r x y H2 Q
noncomputable def tUn (r:V→Hp→VK→Prop) (ta:TE):TE:=fun σ H Q=>ta σ H fun x H1=>r x H1 Q
noncomputable def rI (C:Int→Int→Prop) (g:Int→Int→V):R2:=fun x y H Q=>∃ i j,x=.int i∧y=.int j∧C i j∧Q (g i j) H
noncomputable def rI0 (g:Int→Int→V):R2:=fun x y H Q=>∃ i j,x=.int i∧y=.int j∧Q (g i j) H
noncomputable def rU (g:Int→V):V→Hp→VK→Prop:=fun x H Q=>∃ i,x=.int i∧Q (g i) H
section
variable {X:Cx}{a b c:Expr} {ta tb tc:TE}{pos:Pos}
theorem binT (ha:PE X a ta) (hb:PE X b tb) {pins:List (Addr×Obj)}{s:Shared} {σ:St}{H:Hp} {R:V→V→Hp→Prop}(I:Inv X pins σ H s)
    (h:ta σ H fun x H1=>tb σ H1 fun y H2=>R x y H2) {Q:Value→Shared→Prop}{f:Value→Value→Sem Value}
    (hf:∀ v u s2 x y H2,Inv X pins σ H2 s2→RelV x v→RelV y u→R x y H2→wpAny (model X.prog X.w) X.A (f v u) Q X.xe s2) :
    wpAny (model X.prog X.w) X.A (eval a X.env) (fun v s₁=>wpAny (model X.prog X.w) X.A (eval b X.env) (fun u s₂=>wpAny (model X.prog X.w) X.A (f v u) Q X.xe s₂) X.xe s₁) X.xe s:=by
  refine thn (ha pins s σ H _ I h) fun v s1 h_=>?_
  obtain ⟨x,H1,I1,r1,q1⟩:=h_
  refine thn (hb pins s1 σ H1 _ I1 q1) fun u s2 h_=>?_
  obtain ⟨y,H2,I2,r2,q2⟩:=h_
  exact hf v u s2 x y H2 I2 r1 r2 q2
theorem pe_op {op:Operator}{r:R2} (ho:OpR X (binaryOp op) r) (ha:PE X a ta) (hb:PE X b tb):PE X (.BinOp a op b pos) (tOp r ta tb):=by
  intro pins s σ H Q I h
  exact wpAny_BinOp (binT ha hb I h fun v u s2 x y H2 I2 rx ry q=>ho pins s2 σ H2 x y v u Q I2 rx ry q)
theorem pe_un {op:UnaryOp}{r:V→Hp→VK→Prop} (ho:UnR X (unaryOp op) r) (ha:PE X a ta):PE X (.UnaryOp op a pos) (tUn r ta):=by
  intro pins s σ H Q I h
  exact UnaryOp_ (thn (ha pins s σ H _ I h) fun v s1 ⟨x,H1,I1,r1,q1⟩=>ho pins s1 σ H1 x v Q I1 r1 q1)
theorem opI {f:Value→Value→Sem Value}{C:Int→Int→Prop} {g:Int→Int→Int}
    (rule:∀ (i j:Int) (t u:Tok) (s:Shared) (Q:Value→Shared→Prop) (E:Value→Shared→Prop),C i j→Q (.int (g i j) s.toks) { s with toks:=s.toks + 1 }→wpAny (model X.prog X.w) X.A (f (.int i t) (.int j u)) Q E s) :
    OpR X f (rI C fun i j=>.int (g i j)):=by
  intro pins s σ H x y v u Q I rx ry h
  obtain ⟨i,j,rfl,rfl,hc,q⟩:=h
  obtain ⟨t,rfl⟩:=rx
  obtain ⟨t',rfl⟩:=ry
  exact rule i j t t' s _ _ hc ⟨.int (g i j),H,I.tok _,⟨_,rfl⟩,q⟩
theorem opI0 {f:Value→Value→Sem Value}{g:Int→Int→Int}
    (rule:∀ (i j:Int) (t u:Tok) (s:Shared) (Q:Value→Shared→Prop) (E:Value→Shared→Prop),Q (.int (g i j) s.toks) { s with toks:=s.toks + 1 }→wpAny (model X.prog X.w) X.A (f (.int i t) (.int j u)) Q E s) :
    OpR X f (rI0 fun i j=>.int (g i j)):=by
  intro pins s σ H x y v u Q I rx ry h
  obtain ⟨i,j,rfl,rfl,q⟩:=h
  obtain ⟨t,rfl⟩:=rx
  obtain ⟨t',rfl⟩:=ry
  exact rule i j t t' s _ _ ⟨.int (g i j),H,I.tok _,⟨_,rfl⟩,q⟩
theorem opB0 {f:Value→Value→Sem Value}{g:Int→Int→Bool}
    (rule:∀ (i j:Int) (t u:Tok) (s:Shared) (Q:Value→Shared→Prop) (E:Value→Shared→Prop),Q (.bool (g i j)) s→wpAny (model X.prog X.w) X.A (f (.int i t) (.int j u)) Q E s) :
    OpR X f (rI0 fun i j=>.bl (g i j)):=by
  intro pins s σ H x y v u Q I rx ry h
  obtain ⟨i,j,rfl,rfl,q⟩:=h
  obtain ⟨t,rfl⟩:=rx
  obtain ⟨t',rfl⟩:=ry
  exact rule i j t t' s _ _ ⟨.bl (g i j),H,I,rfl,q⟩
noncomputable def CDiv (i j:Int):Prop:=0 < j∧j < 1073741824
noncomputable def CPow (i j:Int):Prop:=0≤j∧j≤1000000∧i.natAbs < 2 ^ 64
noncomputable def CMul (i j:Int):Prop:=(-(2 ^ 64) < i∧i < 2 ^ 64)∨(-(2 ^ 64) < j∧j < 2 ^ 64)
theorem CMul.ok {i j:Int}(h:CMul i j):IntMulOk i j:=by
  rcases h with ⟨h1,h2⟩ | ⟨h1,h2⟩
  · exact .of_left (intBits_le_64 h1 h2)
  · exact .of_right (intBits_le_64 h1 h2)
theorem op_add:OpR X (binaryOp .Add) (rI0 fun i j=>.int (i + j)):=opI0 fun _ _ _ _ _ _ _ q=>add_int q
theorem op_sub:OpR X (binaryOp .Sub) (rI0 fun i j=>.int (i - j)):=opI0 fun _ _ _ _ _ _ _ q=>sub_int q
theorem op_mul:OpR X (binaryOp .Mult) (rI CMul fun i j=>.int (i * j)):=opI fun _ _ _ _ _ _ _ hc q=>mul_int q hc.ok
theorem op_fdiv:OpR X (binaryOp .FloorDiv) (rI CDiv fun i j=>.int (i / j)):=opI fun i j _ _ _ _ _ hc q=>by
  have h1:(0:Int) < j:=hc.1
  have h2:j < 1073741824:=hc.2
  exact floordiv_int (by omega) (by rw [Int.fdiv_eq_ediv_of_nonneg i (by omega)];exact q) (.inl (PyProof.noPylong_small (by omega)))
theorem op_mod:OpR X (binaryOp .Mod) (rI (fun _ j=>0 < j) fun i j=>.int (i % j)):=opI fun i j _ _ _ _ _ hc q=>by
  have h1:(0:Int) < j:=hc
  exact mod_int' (by omega) (by rw [Int.fmod_eq_emod_of_nonneg i (by omega)];exact q)
theorem op_pow:OpR X (binaryOp .Pow) (rI CPow fun i j=>.int (i ^ j.toNat)):=opI fun _ _ _ _ _ _ _ hc q=>pow_int_small hc.1 hc.2.1 hc.2.2 q
theorem unI {f:Value→Sem Value}{g:Int→Int}
    (rule:∀ (i:Int) (t:Tok) (s:Shared) (Q:Value→Shared→Prop) (E:Value→Shared→Prop),Q (.int (g i) s.toks) { s with toks:=s.toks + 1 }→wpAny (model X.prog X.w) X.A (f (.int i t)) Q E s) :
    UnR X f (rU fun i=>.int (g i)):=by
  intro pins s σ H x v Q I rx h
  obtain ⟨i,rfl,q⟩:=h
  obtain ⟨t,rfl⟩:=rx
  exact rule i t s _ _ ⟨.int (g i),H,I.tok _,⟨_,rfl⟩,q⟩
theorem un_neg:UnR X (unaryOp .USub) (rU fun i=>.int (-i)):=unI fun _ _ _ _ _ q=>neg_int q
end
section
variable {X:Cx}{a b c:Expr} {ta tb tc:TE}{pos:Pos}
theorem fin_bl {pins:List (Addr×Obj)}{σ:St} {H:Hp}{s:Shared} {Q:VK}{k k':Bool} (I:Inv X pins σ H s) (q:Q (.bl k) H) (e:k=k'):EP X pins σ Q (.bool k') s:=by
  subst e
  exact ⟨.bl k,H,I,rfl,q⟩
theorem op_lt:OpR X (compareOp .Lt) (rI0 fun i j=>.bl (decide (i < j))):=opB0 fun _ _ _ _ _ _ _ q=>lt_int q
theorem op_le:OpR X (compareOp .LtE) (rI0 fun i j=>.bl (decide (i≤j))):=opB0 fun _ _ _ _ _ _ _ q=>le_int q
theorem op_gt:OpR X (compareOp .Gt) (rI0 fun i j=>.bl (decide (j < i))):=opB0 fun _ _ _ _ _ _ _ q=>gt_int q
theorem op_ge:OpR X (compareOp .GtE) (rI0 fun i j=>.bl (decide (j≤i))):=opB0 fun _ _ _ _ _ _ _ q=>ge_int q
theorem op_isN:OpR X (compareOp .Is) (fun x y H Q=>y=.non∧Q (.bl (decide (x=.non))) H):=by
  intro pins s σ H x y v u Q I rx ry h
  obtain ⟨rfl,q⟩:=h
  cases ry
  refine is_none_gen (fin_bl I q ?_)
  cases x<;>first
    | (cases rx;rfl)
    | (obtain ⟨t,rfl⟩:=rx;rfl)
theorem op_notN:OpR X (compareOp .IsNot) (fun x y H Q=>y=.non∧Q (.bl (!decide (x=.non))) H):=by
  intro pins s σ H x y v u Q I rx ry h
  obtain ⟨rfl,q⟩:=h
  cases ry
  refine isnot_none_gen (fin_bl I q ?_)
  cases x<;>first
    | (cases rx;rfl)
    | (obtain ⟨t,rfl⟩:=rx;rfl)
theorem OpR.or {f:Value→Value→Sem Value}{r r':R2} (h:OpR X f r) (h':OpR X f r'):OpR X f (fun x y H Q=>r x y H Q∨r' x y H Q):=by
  intro pins s σ H x y v u Q I rx ry q
  rcases q with q | q
  · exact h pins s σ H x y v u Q I rx ry q
  · exact h' pins s σ H x y v u Q I rx ry q
theorem nomark (b:Expr) {op:CmpOp}(h:op≠.In:=by decide) (h2:op≠.NotIn:=by decide):behindInMarks op b=false:=by
  have e1:(op == CmpOp.In)=false:=by cases op<;>first | rfl | exact absurd rfl h
  have e2:(op == CmpOp.NotIn)=false:=by cases op<;>first | rfl | exact absurd rfl h2
  cases b<;>simp [behindInMarks,e1,e2]
theorem pe_cmpR {op:CmpOp}{r:R2} (ho:OpR X (compareOp op) r) (ha:PE X a ta) (hb:PE X b tb) (hm:behindInMarks op b=false):PE X (.Compare a [op] [b] pos) (tOp r ta tb):=by
  intro pins s σ H Q I h
  exact wpAny_Compare1 (binT ha hb I h fun v u s2 x y H2 I2 rx ry q=>ho pins s2 σ H2 x y v u Q I2 rx ry q) hm
noncomputable def tTest (t:TE):TT:=fun σ H Q=>t σ H fun x H'=>∃ k,x=.bl k∧Q k H'
theorem pt_cmpR {op:CmpOp}{r:R2} (ho:OpR X (compareOp op) r) (ha:PE X a ta) (hb:PE X b tb) (hm:behindInMarks op b=false):PT X (.Compare a [op] [b] pos) (tTest (tOp r ta tb)):=by
  intro pins s σ H Q I h
  refine wpAny_isTrue_Compare1 (thn (ha pins s σ H _ I h) fun v s1 ⟨x,H1,I1,r1,q1⟩=>thn (hb pins s1 σ H1 _ I1 q1) fun u s2 ⟨y,H2,I2,r2,q2⟩=>
    thn (ho pins s2 σ H2 x y v u _ I2 r1 r2 q2) fun c s3 ⟨z,H3,I3,r3,k,e,q3⟩=>?_) hm
  subst e
  cases r3
  exact wpAny_truthy_bool ⟨H3,I3,q3⟩
noncomputable def TruV (K:PySem.W.Frag) (x:V) (H:Hp) (k:Bool):Prop:=
  match x with
  | .non=>k=false
  | .bl b=>k=b
  | .int i=>k=(i != 0)
  | .str y=>y.length≤sizeLine∧k=((y.length:Int) != 0)
  | .byt y=>y.size≤sizeLine∧k=((y.size:Int) != 0)
  | .ref p=>(∃ xs,SqL K H p xs∧k=!xs.isEmpty)∨(∃ xs,SqT K H p xs∧k=!xs.isEmpty)∨∃ kvs,H p=some (.dK kvs)∧k=!kvs.isEmpty
  | _=>False
theorem isEmpty_kv {κ:Type}{kvs:List (κ×V)} {vs:List (κ×Value)}(r:KV kvs vs):(!vs.isEmpty)=!kvs.isEmpty:=by
  cases r<;>rfl
theorem isEmpty_of {xs:List V}{its:List Value} (r:Vals xs its):(!its.toArray.isEmpty)=!xs.isEmpty:=by
  cases r<;>simp
theorem line63:(sizeLine:Nat) < 2 ^ 63:=by rw [sizeLine_eq];decide
theorem tru_ok:TruR X (fun x H Q=>∃ k,TruV X.K x H k∧Q k H):=by
  intro pins s σ H x v Q I rx h
  obtain ⟨k,e,q⟩:=h
  have hl:=line63
  have hs:sizeLine=16777216:=sizeLine_eq
  cases x with
  | non=>
    cases rx
    have e':k=false:=e
    subst e'
    exact truthy_none ⟨H,I,q⟩
  | bl b=>
    cases rx
    have e':k=b:=e
    subst e'
    exact wpAny_truthy_bool ⟨H,I,q⟩
  | int i=>
    obtain ⟨t,rfl⟩:=rx
    have e':k=(i != 0):=e
    subst e'
    exact PySem.P.truthy_int ⟨H,I,q⟩
  | str y=>
    obtain ⟨t,rfl⟩:=rx
    obtain ⟨hy,e'⟩:y.length≤sizeLine∧k=((y.length:Int) != 0):=e
    subst e'
    exact PySem.P.truthy_str (by omega) ⟨H,I.tok _,q⟩
  | byt y=>
    obtain ⟨t,rfl⟩:=rx
    obtain ⟨hy,e'⟩:y.size≤sizeLine∧k=((y.size:Int) != 0):=e
    subst e'
    exact PySem.W.truthy_bytes (by omega) ⟨H,I.tok _,q⟩
  | ref p=>
    cases rx
    have e':(∃ xs,SqL X.K H p xs∧k=!xs.isEmpty)∨(∃ xs,SqT X.K H p xs∧k=!xs.isEmpty)∨∃ kvs,H p=some (.dK kvs)∧k=!kvs.isEmpty:=e
    rcases e' with ⟨xs,hx,e'⟩ | ⟨xs,hx,e'⟩ | ⟨kvs,hx,e'⟩
    · subst e'
      obtain ⟨its,r,pl,hz⟩:=I.list hx
      have hlen:=r.length
      exact wpAny_truthy_list pl.isList (by simp only [List.size_toArray];omega) ⟨H,I.tok _,by rw [isEmpty_of r];exact q⟩
    · subst e'
      obtain ⟨its,r,pl,hz⟩:=I.tuple hx
      have hlen:=r.length
      exact truthy_tuple pl (by simp only [List.size_toArray];omega) ⟨H,I.tok _,by rw [isEmpty_of r];exact q⟩
    · subst e'
      obtain ⟨hz,hS,vs,r,m⟩:kvs.length≤sizeLine∧(p == sysModules)=false∧∃ vs,KV kvs vs∧s.heap.DictOf (mixKind X.prog X.w) p vs:=I.hok p _ hx
      have hlen:kvs.length=vs.length:=Paired.length r
      exact wpAny_truthy_dict hS m (by omega) ⟨H,I.tok _,by rw [isEmpty_kv r];exact q⟩
  | _=>exact (show False from e).elim
theorem pt_truth (ha:PE X a ta) (he:∀ whole,isTrue a X.env whole=(do let v ← whole;standAt a.pos;holding [v] (truthy v))) :
    PT X a (fun σ H Q=>ta σ H fun x H'=>∃ k,TruV X.K x H' k∧Q k H'):=by
  intro pins s σ H Q I h
  exact isTrue_plain (thn (ha pins s σ H _ I h) fun v s1 ⟨x,H1,I1,r1,q1⟩=>tru_ok pins s1 σ H1 x v Q I1 r1 q1) (he _)
theorem op_add_str:OpR X (binaryOp .Add) (fun x y H Q=>∃ i j,x=.str i∧y=.str j∧i.length + j.length≤sizeLine∧Q (.str (i++j)) H):=by
  intro pins s σ H x y v u Q I rx ry h
  obtain ⟨i,j,rfl,rfl,hz,q⟩:=h
  obtain ⟨t,rfl⟩:=rx
  obtain ⟨t',rfl⟩:=ry
  exact add_str (fun t' tk=>⟨.str (i++j),H,I.tok _,⟨_,rfl⟩,q⟩) hz
theorem vals1 {x:V}{us:List Value} (r:Vals [x] us):∃ u,us=[u]∧RelV x u:=by
  cases r with
  | cons r1 r2=>cases r2;exact ⟨_,rfl,r1⟩
theorem vals2 {x y:V}{us:List Value} (r:Vals [x,y] us):∃ u w',us=[u,w']∧RelV x u∧RelV y w':=by
  cases r with
  | cons r1 r2=>
    cases r2 with
    | cons r3 r4=>cases r4;exact ⟨_,_,rfl,r1,r3⟩
theorem call_abs:CallR X (.builtin "abs") (fun xs H Q=>∃ i,xs=[.int i]∧Q (.int (if i < 0 then -i else i)) H):=by
  intro pins s σ H xs us Q I r h
  obtain ⟨i,rfl,q⟩:=h
  obtain ⟨u,rfl,t,rfl⟩:=vals1 r
  exact call_abs_int fun u tk=>⟨.int (if i < 0 then -i else i),H,I.tok _,⟨_,rfl⟩,q⟩
theorem call_int1:CallR X (.type "int") (fun xs H Q=>(∃ i,xs=[.int i]∧Q (.int i) H)∨∃ k,xs=[.bl k]∧Q (.int (if k then 1 else 0)) H):=by
  intro pins s σ H xs us Q I r h
  rcases h with ⟨i,rfl,q⟩ | ⟨k,rfl,q⟩
  · obtain ⟨u,rfl,t,rfl⟩:=vals1 r
    exact call_int_int ⟨.int i,H,I,⟨_,rfl⟩,q⟩
  · obtain ⟨u,rfl,r1⟩:=vals1 r
    cases r1
    exact call_int_bool ⟨.int (if k then 1 else 0),H,I.tok _,⟨_,rfl⟩,q⟩
end
end L2
namespace L2
open PySem PySem.Spec PyProof.Rows
structure ObjM (h:Heap) (x dx C:Addr) (mA:Str→Option Value):Prop where
  obj:h.get? x=some (PySem.W.instObj C dx)
  ns:h.Ns1 dx mA
  ne:dx≠x
theorem lookIn_ns {h:Heap}{dx:Addr} {mA:Str→Option Value}(n:h.Ns1 dx mA):∃ od,h.get? dx=some od∧∀ name,PySem.W.lookIn name od=some (mA name):=by
  obtain ⟨o,es,ep,ho,hd,hk,_,hm⟩:=n
  refine ⟨o,ho,fun name=>?_⟩
  have e:=hm name
  unfold nsFind findBy at e
  rw [← Array.find?_toList] at e
  unfold PySem.W.lookIn
  rw [hd]
  dsimp only
  split
  · rename_i y q
    rw [q] at e
    exact congrArg some e
  · rename_i q
    rw [q] at e
    have a:es.toList.any (·.refKey)=false:=by
      rw [List.any_eq_false]
      intro y hy
      obtain ⟨z,t,hkey⟩:=hk y (Array.mem_toList_iff.mp hy)
      simp [DictEntry.refKey,hkey]
    have a':¬ es.toList.any (·.refKey)=true:=by rw [a];exact Bool.false_ne_true
    rw [if_neg a']
    exact congrArg some e
theorem ObjM.look {h:Heap}{x dx C:Addr} {mA:Str→Option Value}(I:ObjM h x dx C mA):∃ od,PySem.W.InstAt h x (PySem.W.instObj C dx) C (some od)∧∀ name,PySem.W.lookIn name od=some (mA name):=
  let ⟨od,ho,hl⟩:=lookIn_ns I.ns
  ⟨od,⟨I.obj,rfl,rfl,ho⟩,hl⟩
section
variable {prog:Program}{w:World} {A:Around}{E:Value→Shared→Prop} {s:Shared}{K:PySem.W.Frag} {x dx C f:Addr}{mA:Str→Option Value} {name:Str}{v:Value}
end
theorem RelO.some_of {v:V}{o:Option Value} (r:RelO (some v) o):∃ u,o=some u∧RelV v u:=by
  cases o with
  | none=>exact (show False from r).elim
  | some u=>exact ⟨u,rfl,r⟩
section
variable {P:Program}{w:World} {H H':Hp}{h h':Heap} {a C dx:Addr}{fs fs':List (Str×V)}
theorem ins_get (hok:HOk P w H h) (e:H a=some (.ins C dx fs)):∃ mA,ObjM h a dx C mA∧(∀ f,RelO (fs.lookup f) (mA f))∧PySem.Within mA (fs.map (·.1))∧fs.length≤1000∧H dx=some (.own a):=by
  obtain ⟨d,z,ne,ob,mA,n,r,q⟩:=(show ObjOk P w H h a (.ins C dx fs) from hok a _ e)
  exact ⟨mA,⟨ob,n,ne⟩,r,q,z,d⟩
end
structure Cls (K:PySem.W.Frag) (C:Addr):Prop where
  pg:PySem.W.plainGet K C Str.empty=true
  hd:PySem.W.hasDictIn K C=true
  po:PySem.W.plainOver K C=true
  sa:PySem.W.findIn K (.ref C) "__setattr__" = some (some (.builtin "object.__setattr__"))
theorem Cls.get {K:PySem.W.Frag}{C:Addr} (c:Cls K C) (f:Str):PySem.W.plainGet K C f=true:=c.pg
section
variable {X:Cx}{pins:List (Addr×Obj)} {σ:St}{H:Hp} {s:Shared}{a C dx:Addr} {fs:List (Str×V)}{f:Str} {v:V}{A:Around} {E:Value→Shared→Prop}
end
section
variable {X:Cx}{o e value:Expr} {f:Str}{pos pos' tpos:Pos} {ta tv:TE}
end
section
variable {X:Cx}{pins:List (Addr×Obj)} {σ:St}{H:Hp} {s:Shared}{A:Around} {E:Value→Shared→Prop}{Q:Value→Shared→Prop} {c:Value}{b:Bool}
inductive TyOf (K:PySem.W.Frag) (H:Hp):V→Value→Prop where
  | non:TyOf K H .non (.type "NoneType")
  | bl (x:Bool):TyOf K H (.bl x) (.type "bool")
  | int (i:Int):TyOf K H (.int i) (.type "int")
  | str (x:Str):TyOf K H (.str x) (.type "str")
  | flt (x:UInt64):TyOf K H (.flt x) (.type "float")
  | lst {a:Addr}{xs:List V} (e:H a=some (.lst xs)):TyOf K H (.ref a) (.type "list")
  | frz {a:Addr}{o:Obj} {xs:List V}(e:H a=some (.frz o (.lst xs))):TyOf K H (.ref a) (.type "list")
  | tup {a:Addr}{xs:List V} (e:H a=some (.tup xs)):TyOf K H (.ref a) (.type "tuple")
  | dK {a:Addr}{kvs:List (Key×V)} (e:Rd H a (.dK kvs)):TyOf K H (.ref a) (.type "dict")
  | dT {a:Addr}{kvs:List (List Key×V)} (e:Rd H a (.dT kvs)):TyOf K H (.ref a) (.type "dict")
  | ins {a C dx:Addr}{fs:List (Str×V)} (e:H a=some (.ins C dx fs)) (cl:Cls K C) (ha:PySem.W.findIn K (.ref C) "__class__" = some (some (.builtin "object.__class__")))
      (hn:PySem.W.specialIn K (.builtin "object.__class__") "__get__" = some (some (.builtin "getset_descriptor.__get__"))) (htk:PySem.W.takesIn K (.builtin "object.__class__")=some true)
      (hm:PySem.W.mroIn K C (.type "object")=some true):TyOf K H (.ref a) (.ref C)
theorem isinst_ok {x:V}{u t:Value} (I:Inv X pins σ H s) (rx:RelV x u) (ty:TyOf X.K H x t) (e:PySem.W.kitOne X.K t c=some b) (h:∀ tk,Q (.bool b) { s with toks:=tk }) :
    wpAny (model X.prog X.w) A (call (.builtin "isinstance") [u,c]) Q E s:=by
  cases ty with
  | non=>cases (show u=Value.none from rx);exact PySem.W.kia_one PySem.W.kitx_none I.kIn True.intro e (fun z=>nomatch z) h
  | bl y=>cases (show u=Value.bool y from rx);exact PySem.W.kia_one PySem.W.kitx_bool I.kIn True.intro e (fun z=>nomatch z) h
  | int i=>obtain ⟨t,q⟩:=(show ∃ t,u=Value.int i t from rx);cases q;exact PySem.W.kia_one PySem.W.kitx_int I.kIn True.intro e (fun z=>nomatch z) h
  | str y=>obtain ⟨t,q⟩:=(show ∃ t,u=Value.str y t from rx);cases q;exact PySem.W.kia_one PySem.W.kitx_str I.kIn True.intro e (fun z=>nomatch z) h
  | flt y=>obtain ⟨t,q⟩:=(show ∃ t,u=Value.float y t from rx);cases q;exact PySem.W.kia_one PySem.W.kitx_float I.kIn True.intro e (fun z=>nomatch z) h
  | @lst a xs ea=>
    cases (show u=Value.ref a from rx)
    obtain ⟨_,_,n,_,h1⟩:=(show ObjOk X.prog X.w H s.heap a (.lst xs) from I.hok a _ ea)
    exact PySem.W.kia_one PySem.W.kitx_list I.kIn ⟨_,h1,rfl⟩ e (fun z=>nomatch z) h
  | @frz a ob xs ea=>
    cases (show u=Value.ref a from rx)
    obtain ⟨_,_,_,n,_,h1⟩:=(show ObjOk X.prog X.w H s.heap a (.frz ob (.lst xs)) from I.hok a _ ea)
    exact PySem.W.kia_one PySem.W.kitx_list I.kIn ⟨_,h1,rfl⟩ e (fun z=>nomatch z) h
  | @tup a xs ea=>
    cases (show u=Value.ref a from rx)
    obtain ⟨_,_,_,p⟩:=(show ObjOk X.prog X.w H s.heap a (.tup xs) from I.hok a _ ea)
    obtain ⟨o,h1,h2,_⟩:=p
    exact PySem.W.kia_one PySem.W.kitx_tuple I.kIn ⟨o,h1,h2⟩ e (fun z=>nomatch z) h
  | @dK a kvs ea=>
    cases (show u=Value.ref a from rx)
    obtain ⟨_,_,vs,_,p⟩:=(show ObjOk X.prog X.w H s.heap a (.dK kvs) from ea.ok I.hok)
    obtain ⟨o,es,ep,h1,h2,_⟩:=p
    exact PySem.W.kia_one PySem.W.kitx_dict I.kIn ⟨o,h1,h2.1⟩ e (fun z=>nomatch z) h
  | @dT a kvs ea=>
    cases (show u=Value.ref a from rx)
    obtain ⟨_,_,xs,_,o,es,ep,h1,h2,_⟩:=(show ObjOk X.prog X.w H s.heap a (.dT kvs) from ea.ok I.hok)
    exact PySem.W.kia_one PySem.W.kitx_dict I.kIn ⟨o,h1,h2.1⟩ e (fun z=>nomatch z) h
  | @ins a C dx fs ea cl ha hn htk hm=>
    cases (show u=Value.ref a from rx)
    obtain ⟨mA,O,_⟩:=ins_get I.hok ea
    obtain ⟨od,J,_⟩:=O.look
    exact PySem.W.kia_one (PySem.W.kitx_own (cl.get _) cl.hd ha hn htk hm) I.kIn J e (fun z=>nomatch z) h
end
end L2
namespace L2
open PySem PySem.Spec PyProof.Rows
structure Room (k:Nat) (A:Around):Prop where
  hd:A.handled=none
  dp:A.depth + 3 * k + 5 < recursionLimit
  un:A.units + 16 * k + 200 < cLine
theorem Room.mono {j k:Nat}{A:Around} (r:Room k A) (h:j≤k):Room j A:=⟨r.hd,by have:=r.dp;omega,by have:=r.un;omega⟩
theorem Room.deeper {k:Nat}{A:Around} (r:Room (k + 1) A) (env:Env):Room k (A.deeper env):=
  ⟨r.hd,by have:=r.dp;show A.depth + 1 + 3 * k + 5 < _;omega,by have:=r.un;show A.units + 3 + 16 * k + 200 < _;omega⟩
theorem Room.in1 {k:Nat}{A:Around} (r:Room (k + 1) A):Room k A.in1:=
  ⟨r.hd,by have:=r.dp;show A.depth + 3 * k + 5 < _;omega,by have:=r.un;show A.units + 1 + 16 * k + 200 < _;omega⟩
theorem Room.depth {k:Nat}{A:Around} (r:Room k A):A.depth < recursionLimit:=by have:=r.dp;omega
noncomputable def tNil:TA:=fun _ H Q=>Q [] H
noncomputable def tCons (ta:TE) (tr:TA):TA:=fun σ H Q=>ta σ H fun x H1=>tr σ H1 fun xs H2=>Q (x::xs) H2
section
variable {X:Cx}{e:Expr} {es:List Expr}{te:TE} {t:TA}{pos:Pos}
theorem pa_nil:PA X [] tNil:=fun _ _ _ _ H Q I h=>Calls.spliced_nil ⟨[],H,I,.nil,h⟩
theorem pa_cons (ha:PE X e te) (hr:PA X es t) (hs:starEach (e::es) X.env=(false,eval e X.env)::starEach es X.env:=by rfl):PA X (e::es) (tCons te t):=by
  intro pos pins s σ H Q I h
  rw [hs]
  show wpAny _ _ (spliced ((false,eval e X.env)::backTo pos (starEach es X.env))) _ _ s
  refine Calls.spliced_cons (thn (ha pins s σ H _ I h) fun u s1 ⟨x,H1,I1,r1,q1⟩=>?_)
  exact thn (hr pos pins s1 σ H1 _ I1 q1) fun us s2 ⟨xs,H2,I2,r2,q2⟩=>⟨x::xs,H2,I2,.cons r1 r2,q2⟩
noncomputable def tTup (t:TA):TE:=fun σ H Q=>t σ H fun xs H1=>xs.length≤sizeLine∧∀ p,H1 p=none→Q (.ref p) (upd H1 p (.tup xs))
noncomputable def tLst (t:TA):TE:=fun σ H Q=>t σ H fun xs H1=>xs.length≤sizeLine∧∀ p,H1 p=none→Q (.ref p) (upd H1 p (.lst xs))
theorem pe_tup {x1} (h:PA X es t):PE X (.Tuple es x1 pos) (tTup t):=by
  intro pins s σ H Q I hq
  refine wpAny_Tuple_spliced (thn (h pos pins s σ H _ I hq) fun us s1 ⟨xs,H1,I1,r,z,q⟩=>⟨by rw [← r.length];exact z,?_⟩)
  have hf:H1 s1.heap.objs.size=none:=I1.hok.fresh (Nat.le_refl _)
  refine ⟨.ref s1.heap.objs.size,upd H1 s1.heap.objs.size (.tup xs),I1.laid (t':=s1.toks) (fun b u e=>Heap.get?_push_of_some _ e) (Nat.le_refl _) ?_,rfl,q _ hf⟩
  exact ⟨z,us,r,⟨_,Heap.get?_push_size _ rfl,rfl,_,rfl⟩⟩
theorem pe_lst (h:PA X es t):PE X (.List es pos) (tLst t):=by
  intro pins s σ H Q I hq
  refine wpAny_List_spliced (thn (h pos pins s σ H _ I hq) fun us s1 ⟨xs,H1,I1,r,z,q⟩=>⟨by rw [← r.length];exact z,?_⟩)
  have hf:H1 s1.heap.objs.size=none:=I1.hok.fresh (Nat.le_refl _)
  refine ⟨.ref s1.heap.objs.size,upd H1 s1.heap.objs.size (.lst xs),I1.laid (t':=s1.toks) (fun b u e=>Heap.get?_push_of_some _ e) (Nat.le_refl _) ?_,rfl,q _ hf⟩
  exact ⟨z,us,0,r,Heap.get?_push_size _ rfl⟩
end
noncomputable abbrev Sp:=List V→Hp→VK→XK→Prop
noncomputable abbrev CXT:=List Env→Hp→Shared→XK→Value→Shared→Prop
structure Env0 (P:Program) (w:World) (K:PySem.W.Frag) (mg:Str→Option Value) (base:Heap) (A:Around) (outer:List Env) (s:Shared) (H:Hp):Prop where
  frames:A.frames=some outer
  mod:Mod K mg base
  bs:∀ b o,base.get? b=some o→s.heap.get? b=some o∧H b=none
  bsz:base.objs.size≤s.heap.objs.size
  funs:s.heap.FunFrames base outer
  frf:∀ b∈frs outer,H b=none
  hok:HOk P w H s.heap
  bare:AllBare s.gens
noncomputable def CE (outer:List Env) (P:Program) (w:World) (H:Hp) (s:Shared) (Q:VK) (u:Value) (s':Shared):Prop:=
  ∃ v H',s'.os=s.os∧AllBare s'.gens∧Un (frs outer) [] H H' s.heap s'.heap∧HOk P w H' s'.heap∧RelV v u∧Q v H'
noncomputable def CR (CX:CXT) (outer:List Env) (P:Program) (w:World) (H:Hp) (s:Shared) (Q:VK) (E:XK) (r:Result) (s':Shared):Prop:=
  match r with
  | .ok (.ret u)=>CE outer P w H s Q u s'
  | .ok _=>False
  | .error e=>CX outer H s E e s'
structure FnOk (P:Program) (w:World) (K:PySem.W.Frag) (mg:Str→Option Value) (base:Heap) (CX:CXT) (k:Nat) (f:Addr) (fd:FuncData) (ps:List Str) (sp:Sp):Prop where
  len:∀ vs H Q E,sp vs H Q E→vs.length=ps.length
  run:∀ (A:Around) (outer:List Env) (s:Shared) (H:Hp) (args:Args) (us:List Value) (vs:List V) (Q:VK) (E:XK),Room k A→Env0 P w K mg base A outer s H→BindsTo s fd args (ps.zip us)→Vals vs us→sp vs H Q E→
    codeAny (model P w) A (.call (.ref f) args) (CR CX outer P w H s Q E) s
theorem FnOk.mono {P:Program}{w:World} {K:PySem.W.Frag}{mg:Str→Option Value} {base:Heap}{CX:CXT} {j k:Nat}{f:Addr} {fd:FuncData}{ps:List Str} {sp:Sp}(F:FnOk P w K mg base CX j f fd ps sp) (h:j≤k) :
    FnOk P w K mg base CX k f fd ps sp:=⟨F.len,fun A outer s H args us vs Q E hr=>F.run A outer s H args us vs Q E (hr.mono h)⟩
section
variable {X:Cx}{pins:List (Addr×Obj)} {σ:St}{H:Hp} {s s':Shared}
theorem Inv.env0 (I:Inv X pins σ H s):Env0 X.prog X.w X.K X.mg X.base X.A X.stack s H:=
  ⟨I.ok.frames,I.ok.mod,I.bs,Nat.le_trans I.ok.bsz I.sz,I.stack,I.stkFree,I.hok,I.bare⟩
theorem Inv.after {Q:VK}{u:Value} (I:Inv X pins σ H s) (h:CE X.stack X.prog X.w H s Q u s'):EP X pins σ Q u s':=by
  obtain ⟨v,H',os,bare,un,hok,r,q⟩:=h
  obtain ⟨hh,g,d,t,os'⟩:=s'
  obtain rfl:os'=s.os:=os
  exact ⟨v,H',I.call (h':=hh) (g':=g) (d':=d) (t':=t) (ch:=[]) un hok bare (fun b z=>absurd z (by simp)),r,q⟩
end
noncomputable def tCall (sp:Sp) (dvs:List V) (E:XK) (t:TA):TE:=fun σ H Q=>t σ H fun vs H1=>sp (vs++dvs) H1 Q E
noncomputable def Binds (K:PySem.W.Frag) (fd:FuncData) (ps:List Str) (ds:List Value):Prop:=
  ∀ (s:Shared) (us:List Value),K.In s.heap→(us++ds).length=ps.length→BindsTo s fd ⟨us,[]⟩ (ps.zip (us++ds))
theorem Binds.all {K:PySem.W.Frag}{fd:FuncData} {ps:List Str}(h:∀ us:List Value,us.length=ps.length→bindArgs fd ⟨us,[]⟩=pure (ps.zip us)):Binds K fd ps []:=fun s us _ hl=>by
  rw [List.append_nil] at hl ⊢
  exact .of_eq (h us hl)
noncomputable def Passes (CX:CXT) (X:Cx) (E:XK):Prop:=∀ (pins:List (Addr×Obj)) (σ:St) (H:Hp) (s:Shared) (e:Value) (s':Shared),Inv X pins σ H s→CX X.stack H s E e s'→X.xe e s'
section
variable {X:Cx}{CX:CXT} {k:Nat}{f C:Addr} {fd:FuncData}{ps:List Str} {sp:Sp}{dvs:List V} {ds:List Value}{E:XK} {x m:Str}{p pos apos:Pos} {e o:Expr}{es:List Expr} {ta:TE}{t:TA}
theorem run_fn {pins:List (Addr×Obj)}{σ:St} {H:Hp}{s:Shared} {Q:VK}{us:List Value} {vs:List V}(F:FnOk X.prog X.w X.K X.mg X.base CX k f fd ps sp) (hr:Room k X.A) (hb:Binds X.K fd ps ds) (hd:Vals dvs ds) (hx:Passes CX X E)
    (I:Inv X pins σ H s) (r:Vals vs us) (h:sp (vs++dvs) H Q E):wpAny (model X.prog X.w) X.A (call (.ref f) us) (EP X pins σ Q) X.xe s:=by
  have r2:Vals (vs++dvs) (us++ds):=r.append hd
  have hl:(us++ds).length=ps.length:=by rw [← r2.length];exact F.len _ _ _ _ h
  refine wpAny_call (codeAny_mono (F.run X.A X.stack s H ⟨us,[]⟩ (us++ds) (vs++dvs) Q E hr I.env0 (hb s us I.kIn hl) r2 h) fun r s' hq=>?_)
  cases r with
  | error e=>exact hx pins σ H s e s' I hq
  | ok fl=>
    cases fl with
    | ret u=>exact I.after hq
    | next=>exact False.elim hq
    | brk=>exact False.elim hq
    | cont=>exact False.elim hq
theorem pe_call (F:FnOk X.prog X.w X.K X.mg X.base CX k f fd ps sp) (hr:Room k X.A) (hg:Gl X x) (hm:X.mg x=some (.ref f)) (hk:PySem.W.keepIn X.K (.ref f)=true) (hb:Binds X.K fd ps ds) (hd:Vals dvs ds) (hx:Passes CX X E)
    (ha:PA X (e::es) t) (hdb:(x == ("__debug__" : Str))=false:=by decide) (he:starEach (e::es) X.env=(false,eval e X.env)::starEach es X.env:=by rfl) (hpl:(backTo pos (starEach es X.env)).any (·.1)=false:=by rfl) :
    PE X (.Call (.Name x p) (e::es) [] pos) (tCall sp dvs E t):=by
  intro pins s σ H Q I h
  refine wpAny_Call_Name_kw (ld_glob I hg hm ?_ hdb)
  refine PySem.W.callWith_K (h₀:=X.base) I.ok.mod.kin hk (thn (ha pos pins s σ H _ I h) fun us s1 ⟨vs,H1,I1,r,q⟩=>⟨I1.kIn,?_⟩) he hpl
  exact run_fn F hr hb hd hx I1 r q
end
noncomputable def PK (X:Cx) (kws:List Keyword) (t:TA):Prop:=
  ∀ (pos:Pos) (pins:List (Addr×Obj)) (s:Shared) (σ:St) (H:Hp) (Q:List V→Hp→Prop),Inv X pins σ H s→t σ H Q→wpAny (model X.prog X.w) X.A (evalAll ((backToKw pos (keywordEach kws X.env)).map (·.2))) (AP X pins σ Q) X.xe s
section
variable {X:Cx}{CX:CXT} {k:Nat}{f C:Addr} {fd:FuncData}{ps ks:List Str} {sp:Sp}{E:XK} {x m:Str}{p pos apos kpos:Pos} {e o:Expr}{es:List Expr} {kws:List Keyword}{te ta:TE} {t tk:TA}{nm:Option Str}
theorem pk_nil:PK X [] tNil:=fun _ _ _ _ H Q I h=>wpAny_evalAll_nil ⟨[],H,I,.nil,h⟩
theorem pk_cons (ha:PE X e te) (hr:PK X kws t):PK X (⟨nm,e,kpos⟩::kws) (tCons te t):=by
  intro pos pins s σ H Q I h
  show wpAny _ _ (evalAll ((do let v ← eval e X.env;standAt pos;pure v)::(backToKw pos (keywordEach kws X.env)).map (·.2))) _ _ s
  refine wpAny_evalAll_cons (wpAny_bind (thn (ha pins s σ H _ I h) fun u s1 ⟨x,H1,I1,r1,q1⟩=>wpAny_bind (wpAny_standAt (wpAny_pure ?_))))
  exact thn (hr pos pins s1 σ H1 _ I1 q1) fun us s2 ⟨xs,H2,I2,r2,q2⟩=>⟨x::xs,H2,I2,.cons r1 r2,q2⟩
variable {g:List Value→List Value→List Value}{gV:List V→List V→List V}
end
structure FnScope (N P:List Str) (sc:Scope):Prop where
  kind:sc.kind=.function
  co:sc.isCoroutine=false
  gen:sc.isGenerator=false
  nd:N.Nodup
  pre:N.take P.length=P
  par:∀ x∈P,sc.names.lookup x=some .local∨sc.names.lookup x=some .cell
  nofree:∀ y∈sc.names,y.2≠.free
theorem bindL_out {kindOf:Str→Option NameKind}{x:Str}:∀ {binds:List (Str×Value)}{m:Str→Option Value},(∀ v,(x,v)∉binds)→bindL kindOf binds m x=m x
  | [],_,_=>rfl
  | (n,v)::r,m,h=>by
    unfold bindL
    rw [bindL_out fun w hw=>h w (List.mem_cons_of_mem _ hw)]
    split
    · have:x≠n:=by rintro rfl;exact h v List.mem_cons_self
      simp [this]
    · rfl
theorem bindC_out {kindOf:Str→Option NameKind}{x:Str}:∀ {binds:List (Str×Value)}{m:Str→Option Value},(∀ v,(x,v)∉binds)→bindC kindOf binds m x=m x
  | [],_,_=>rfl
  | (n,v)::r,m,h=>by
    unfold bindC
    rw [bindC_out fun w hw=>h w (List.mem_cons_of_mem _ hw)]
    split
    · rfl
    · have:x≠n:=by rintro rfl;exact h v List.mem_cons_self
      simp [this]
theorem bindL_get {kindOf:Str→Option NameKind}{x:Str} {v:Value}:∀ {P:List Str}{vs:List Value} {i:Nat}{m:Str→Option Value},P.Nodup→P[i]?=some x→vs[i]?=some v→kindOf x=some .local→
    bindL kindOf (P.zip vs) m x=some v
  | [],_,_,_,_,h,_,_=>by simp at h
  | _::_,[],_,_,_,_,h,_=>by simp at h
  | p::P,w::vs,0,m,nd,h1,h2,hk=>by
    simp at h1 h2;subst h1;subst h2
    show bindL kindOf ((p,w)::P.zip vs) m p=_
    unfold bindL
    rw [bindL_out fun v hv=>(List.nodup_cons.mp nd).1 (List.of_mem_zip hv).1,if_pos hk]
    simp
  | p::P,w::vs,i + 1,m,nd,h1,h2,hk=>by
    show bindL kindOf ((p,w)::P.zip vs) m x=_
    unfold bindL
    exact bindL_get (i:=i) (List.nodup_cons.mp nd).2 (by simpa using h1) (by simpa using h2) hk
theorem bindC_get {kindOf:Str→Option NameKind}{x:Str} {v:Value}:∀ {P:List Str}{vs:List Value} {i:Nat}{m:Str→Option Value},P.Nodup→P[i]?=some x→vs[i]?=some v→kindOf x≠some .local→
    bindC kindOf (P.zip vs) m x=some v
  | [],_,_,_,_,h,_,_=>by simp at h
  | _::_,[],_,_,_,_,h,_=>by simp at h
  | p::P,w::vs,0,m,nd,h1,h2,hk=>by
    simp at h1 h2;subst h1;subst h2
    show bindC kindOf ((p,w)::P.zip vs) m p=_
    unfold bindC
    rw [bindC_out fun v hv=>(List.nodup_cons.mp nd).1 (List.of_mem_zip hv).1,if_neg hk]
    simp
  | p::P,w::vs,i + 1,m,nd,h1,h2,hk=>by
    show bindC kindOf ((p,w)::P.zip vs) m x=_
    unfold bindC
    exact bindC_get (i:=i) (List.nodup_cons.mp nd).2 (by simpa using h1) (by simpa using h2) hk
noncomputable def start (N:List Str) (vs:List V):St:=vs.map some++List.replicate (N.length - vs.length) none
noncomputable def cxOf (CX:CXT) (P:Program) (w:World) (K:PySem.W.Frag) (mg:Str→Option Value) (base:Heap) (N:List Str) (qual:Str) (scope:Scope) (f:Addr) (cd:Value) (A:Around) (outer:List Env) (s:Shared) (H:Hp) (E:XK):Cx where
  prog:=P
  w:=w
  K:=K
  mg:=mg
  base:=base
  A:=A.deeper (envOfC qual scope s.heap.objs.size f cd)
  N:=N
  s₀:=s
  H₀:=H
  env:=envOfC qual scope s.heap.objs.size f cd
  outer:=outer
  stack:=envOfC qual scope s.heap.objs.size f cd::outer
  ex:=[]
  calm:=true
  fn:=fun _=>true
  pn:=[]
  xe:=fun e s'=>wpAny (model P w) (A.deeper (envOfC qual scope s.heap.objs.size f cd)) (leaving (envOfC qual scope s.heap.objs.size f cd) e) (fun _ s''=>CX outer H s E e s'') (fun e' s''=>CX outer H s E e' s'') s'
theorem cell_has {sc:Scope}{n:Nat} {x:Str}(h:sc.names.lookup x=some .cell):∃ c,(cellsFrom n sc.names []).lookup x=some c:=by
  have q:=PySem.W.cellsFrom_some sc.names n [] (.inl h)
  exact Option.isSome_iff_exists.mp q
theorem inv_start {CX:CXT}{P:Program} {w:World}{K:PySem.W.Frag} {mg:Str→Option Value}{base:Heap} {N ps:List Str}{qual:Str} {scope:Scope}{f:Addr} {cd:Value}{A:Around} {outer:List Env}{s s1:Shared} {H:Hp}{E:XK} {us:List Value}{vs:List V}
    (S:FnScope N ps scope) (hd:A.handled=none) (e0:Env0 P w K mg base A outer s H) (hl:vs.length=ps.length) (r:Vals vs us)
    (x:InCallC s s.heap.objs.size (bindL (envOfC qual scope s.heap.objs.size f cd).kindOf (ps.zip us) fun _=>none) (cellsFrom (s.heap.objs.size + 1) scope.names []) (bindC (envOfC qual scope s.heap.objs.size f cd).kindOf (ps.zip us) fun _=>none) s1) :
    Inv (cxOf CX P w K mg base N qual scope f cd A outer s H E) [] (start N vs) H s1:=by
  have hpl:ps.length≤N.length:=by have:=congrArg List.length S.pre;rw [List.length_take] at this;omega
  obtain ⟨h1,tk,rfl,hk⟩:=x.done
  have noA:∀ b:Addr,b∉(cxOf CX P w K mg base N qual scope f cd A outer s H E).ex:=fun b z=>absurd (show b∈([]:List Addr) from z) (by simp)
  refine ⟨⟨e0.mod,S.kind,rfl,rfl,Nat.le_refl _,fun y z c h1 h2=>?_,fun y hy=>?_,fun y c _ h=>?_,fun _=>hd,Around.frames_deeper e0.frames,.inr ⟨rfl,rfl⟩,fun b z=>absurd z (noA b),e0.bs,e0.bsz,fun b _ _=>noA b,fun b z=>absurd z (noA b),e0.funs,e0.frf⟩,
    rfl,e0.bare,Un.kept hk,⟨_,x.toInCall.ns,fun i y v h1 h2 h3=>?_⟩,fun y c h=>⟨_,x.cell y c h⟩,e0.hok.fresh (Nat.le_refl _),fun y c h=>?_,fun p hp=>absurd (show p∈([]:List (Addr×Obj)) from hp) (by simp),e0.hok.kept hk,?_⟩
  · exact name_of_addr x.apart (PySem.mem_of_lookup h1) (PySem.mem_of_lookup h2)
  · have hy:scope.names.lookup y=some .cell∨scope.names.lookup y=some .free:=hy
    rcases hy with hy | hy
    · exact cell_has hy
    · exact absurd rfl (S.nofree _ (PySem.mem_of_lookup hy))
  · exact Nat.le_of_lt (x.above y c (PySem.mem_of_lookup h))
  · have hi:i < vs.length:=by
      unfold start at h2
      by_cases hi:i < vs.length
      · exact hi
      · rw [List.getElem?_append_right (by simpa using hi)] at h2
        rw [List.getElem?_replicate] at h2
        split at h2<;>cases h2
    have ha:vs[i]?=some v:=by
      unfold start at h2
      rw [List.getElem?_append_left (by simpa using hi),List.getElem?_map] at h2
      cases e:vs[i]? with
      | none=>rw [e] at h2;cases h2
      | some a=>rw [e] at h2;cases h2;rfl
    obtain ⟨u,hu,rv⟩:=r.get ha
    have hp:ps[i]?=some y:=by
      rw [← S.pre,List.getElem?_take_of_lt (by omega)];exact h1
    have ndP:ps.Nodup:=by rw [← S.pre];exact S.nd.sublist (List.take_sublist _ _)
    refine ⟨u,rv,?_⟩
    rcases S.par y (List.mem_of_getElem? hp) with k | k
    · exact .inl ⟨k,bindL_get ndP hp hu k⟩
    · obtain ⟨c,e⟩:=cell_has (n:=s.heap.objs.size + 1) k
      refine .inr ⟨.inl k,c,e,?_⟩
      have q:=x.cell y c e
      rw [bindC_get ndP hp hu (by show scope.names.lookup y≠_;rw [k];decide)] at q
      exact q
  · exact e0.hok.fresh (Nat.le_of_lt (x.above y c (PySem.mem_of_lookup h)))
  · unfold start
    show _=N.length
    rw [List.length_append,List.length_map,List.length_replicate]
    omega
theorem fn_of {CX:CXT}{P:Program} {w:World}{K:PySem.W.Frag} {mg:Str→Option Value}{base:Heap} {k:Nat}{f:Addr} {name qual:Str}{params:Arguments} {body:List Stmt}{scope:Scope} {dV kV doc pm cdv ct oc:Value}{an od:Option Addr}
    {osl:Array (Option Value)} {N ps:List Str}{sp:Sp} (lk:K.lookup f=some ⟨oc,od,.func (PySem.W.fnOf name qual params body scope dV kV doc pm an cdv ct),osl⟩) (hcd:PySem.W.codeIn K cdv qual=true) (S:FnScope N ps scope)
    (len:∀ vs H Q E,sp vs H Q E→vs.length=ps.length)
    (hbody:∀ (A:Around) (outer:List Env) (s:Shared) (H:Hp) (vs:List V) (Q:VK) (E:XK),Room k (A.deeper (envOfC qual scope s.heap.objs.size f cdv))→sp vs H Q E→
      ∃ t,PSs (cxOf CX P w K mg base N qual scope f cdv A outer s H E) body t∧t { nx:=fun _ H'=>Q .non H',rt:=Q } (start N vs) H) :
    FnOk P w K mg base CX (k + 1) f (PySem.W.fnOf name qual params body scope dV kV doc pm an cdv ct) ps sp:=by
  refine ⟨len,fun A outer s H args us vs Q E hr e0 hb r hsp=>?_⟩
  have hl:=len _ _ _ _ hsp
  have KX:K.In s.heap:=e0.mod.kin.keeps fun b o e=>(e0.bs b o e).1
  have lim:s.heap.NoLimit:=e0.mod.nolimit.keeps fun b o e=>(e0.bs b o e).1
  have hkind:∀ y∈ps.zip us,scope.names.lookup y.1=some .local∨(scope.names.lookup y.1=some .cell∧((cellsFrom (s.heap.objs.size + 1) scope.names []).lookup y.1).isSome=true):=fun ⟨n,v⟩ hy=>by
    rcases S.par n (List.of_mem_zip hy).1 with q | q
    · exact .inl q
    · exact .inr ⟨q,PySem.W.cellsFrom_some _ _ _ (.inl q)⟩
  refine codeAny_call_function hr.depth (KX _ _ lk) rfl S.co S.gen rfl (PySem.W.codeRec_of KX hcd) (hb _ _ _ _ ?_)
  refine wpAny_newFunctionEnv_cells S.kind hkind fun env he s1 x=>?_
  subst he
  refine ⟨lim.keeps x.toInCall.keep,codeAny_func ?_⟩
  obtain ⟨t,ht,hq⟩:=hbody A outer s H vs Q E (hr.deeper _) hsp
  have I:Inv (cxOf CX P w K mg base N qual scope f cdv A outer s H E) [] (start N vs) H s1:=inv_start S hr.hd e0 hl r x
  refine wpAny_mono (ht [] s1 (start N vs) H _ I hq) (fun fl s' hs=>?_) fun e s' hs=>hs
  have fin:∀ {σ':St}{H':Hp} {v:V}{u:Value},Inv (cxOf CX P w K mg base N qual scope f cdv A outer s H E) [] σ' H' s'→RelV v u→Q v H'→CE outer P w H s Q u s':=
    fun {σ' H' v u} J rv q=>⟨v,H',J.os,J.bare,J.base,J.hok,rv,q⟩
  cases fl with
  | ret u=>
    obtain ⟨v,σ',H',J,rv,q⟩:=hs
    exact fin J rv q
  | next=>
    obtain ⟨σ',H',J,q⟩:=hs
    exact fin (v:=V.non) (u:=Value.none) J rfl q
  | brk=>
    obtain ⟨_,_,_,q⟩:=hs
    exact False.elim q
  | cont=>
    obtain ⟨_,_,_,q⟩:=hs
    exact False.elim q
end L2
namespace L2
open PySem PySem.Spec PyProof.Rows
section
variable {X:Cx}{x:Str} {p pos:Pos}{e:Expr} {es:List Expr}{t:TA} {id T:String}{r:List V→Hp→VK→Prop}
noncomputable def tCB (r:List V→Hp→VK→Prop) (t:TA):TE:=fun σ H Q=>t σ H fun vs H1=>r vs H1 Q
theorem pe_callB (hc:CallR X (.builtin id) r) (hg:Gl X x) (hm:X.mg x=none) (hv:bootBuiltins x=some (.builtin id)) (ha:PA X (e::es) t) (hn:x ≠ "__name__" := by decide) (hdb:(x == ("__debug__" : Str))=false:=by decide)
    (he:starEach (e::es) X.env=(false,eval e X.env)::starEach es X.env:=by rfl) (hpl:(backTo pos (starEach es X.env)).any (·.1)=false:=by rfl):PE X (.Call (.Name x p) (e::es) [] pos) (tCB r t):=by
  intro pins s σ H Q I h
  refine wpAny_Call_Name_kw (ld_blt I hg hm hv ?_ hn hdb)
  exact PyProof.Rows.callWith_builtin1 (thn (ha pos pins s σ H _ I h) fun us s1 ⟨vs,H1,I1,r1,q1⟩=>hc pins s1 σ H1 vs us Q I1 r1 q1) he hpl
theorem pe_callTy (hc:CallR X (.type T) r) (hg:Gl X x) (hm:X.mg x=none) (hv:bootBuiltins x=some (.type T)) (ha:PA X (e::es) t) (hn:x ≠ "__name__" := by decide) (hdb:(x == ("__debug__" : Str))=false:=by decide)
    (he:starEach (e::es) X.env=(false,eval e X.env)::starEach es X.env:=by rfl) (hpl:(backTo pos (starEach es X.env)).any (·.1)=false:=by rfl):PE X (.Call (.Name x p) (e::es) [] pos) (tCB r t):=by
  intro pins s σ H Q I h
  refine wpAny_Call_Name_kw (ld_blt I hg hm hv ?_ hn hdb)
  exact PyProof.Rows.callWith_type1 (thn (ha pos pins s σ H _ I h) fun us s1 ⟨vs,H1,I1,r1,q1⟩=>hc pins s1 σ H1 vs us Q I1 r1 q1) he hpl
end
end L2
namespace HT
open PySem PyProof.Rows
noncomputable def lexLt:List Int→List Int→Bool
  | [],[]=>false
  | [],_::_=>true
  | _::_,[]=>false
  | x::xs,y::ys=>if x=y then lexLt xs ys else decide (x < y)
theorem lexLt_cons (x y:Int) (xs ys:List Int):lexLt (x::xs) (y::ys)=if x=y then lexLt xs ys else decide (x < y):=rfl
theorem lexLt_nil_nil:lexLt [] []=false:=rfl
theorem lexLt_nil_cons (y:Int) (ys:List Int):lexLt [] (y::ys)=true:=rfl
theorem lexLt_cons_nil (x:Int) (xs:List Int):lexLt (x::xs) []=false:=rfl
theorem eqAt_int (A:Around) (s:Shared) (a:Int) (t:Tok) (c:Int) (u:Tok):∃ e,SeqAt.EqAt A s (.int a t) (.int c u) e∧(e=true↔a=c):=
  ⟨(a == c),SeqAt.EqAt.int_int a t c u,by simp⟩
section
open PySem.SeqAt
open PySem.AutoSeq1 (wpAny_loadPart')
open PySem.MeetsSeq PySem.MeetsSeq2 PySem.MeetsSeq3
end
section
variable {prog:Program}{w:World} {A:Around}{E:Value→Shared→Prop} {s:Shared}
theorem cat_tup {t b:Addr}{vs ws:List Value} {Q:Value→Shared→Prop}(ht:IsTup s.heap t vs.toArray) (hb:IsTup s.heap b ws.toArray) (hv:vs≠[])
    (h1:ws=[]→Q (.ref t) s) (h2:ws≠[]→Q (.ref s.heap.objs.size) { s with heap:=s.heap.push { cls:=.type "tuple",data:=.seq (vs++ws).toArray } })
    (hsz:vs.length + ws.length≤sizeLine):wpAny (model prog w) A (binaryOp .Add (.ref t) (.ref b)) Q E s:=by
  obtain ⟨⟨cls,dd,data,sl⟩,ho,hc,n,hd⟩:=id ht
  obtain ⟨⟨cls2,dd2,data2,sl2⟩,ho2,hc2,n2,hd2⟩:=id hb
  simp only at hc hd hc2 hd2
  subst hc hd hc2 hd2
  have e:vs.toArray++ws.toArray=(vs++ws).toArray:=by simp
  by_cases hw:ws=[]
  · exact concat_meets ⟨_,ho,rfl⟩ ⟨_,ho2,rfl⟩ noFill_tuple_add seq_tuple_add PySem.F.slot_tuple_add PySem.F.entry_tuple_add (PySem.F.args_tuple_add_2 _ _)
      (tuple_addW1 t b vs.toArray ws.toArray n n2 dd dd2 sl sl2 (by simpa using hv) (by simp [hw])) ⟨ho,ho2,h1 hw⟩
  · refine concat_meets ⟨_,ho,rfl⟩ ⟨_,ho2,rfl⟩ noFill_tuple_add seq_tuple_add PySem.F.slot_tuple_add PySem.F.entry_tuple_add (PySem.F.args_tuple_add_2 _ _)
      (tuple_addW2 t b vs.toArray ws.toArray n n2 dd dd2 sl sl2 (by simpa using hv) (by simpa using hw) (by rw [List.size_toArray,List.size_toArray];exact hsz)) ⟨ho,ho2,?_⟩
    rw [e]
    exact h2 hw
noncomputable def sIx (n d:Nat):Option Int→Nat
  | none=>d
  | some v=>if v < 0 then (v + (n:Int)).toNat else min v.toNat n
theorem sIx_none (n d:Nat):sIx n d none=d:=rfl
theorem sIx_nat (n d k:Nat):sIx n d (some (k:Int))=min k n:=by
  show (if (k:Int) < 0 then ((k:Int) + (n:Int)).toNat else min (k:Int).toNat n)=min k n
  rw [if_neg (by omega),Int.toNat_natCast]
theorem sIx_le (n d:Nat) (hd:d≤n) (o:Option Int):sIx n d o≤n:=by
  cases o with
  | none=>exact hd
  | some v=>
    show (if v < 0 then (v + (n:Int)).toNat else min v.toNat n)≤n
    by_cases hv:v < 0
    · rw [if_pos hv];omega
    · rw [if_neg hv];exact Nat.min_le_right _ _
theorem clip_eq (v:Int) (n d:Nat):(if v < 0 then max (v + (n:Int)) 0 else min v (n:Int))=((sIx n d (some v):Nat):Int):=by
  show (if v < 0 then max (v + (n:Int)) 0 else min v (n:Int))=(((if v < 0 then (v + (n:Int)).toNat else min v.toNat n):Nat):Int)
  by_cases hv:v < 0
  · simp only [if_pos hv];omega
  · simp only [if_neg hv];omega
theorem adjust_gen (lo hi:Option Int) (n:Nat):Builtin.Slice.sliceAdjust lo hi 1 (n:Int)=(((sIx n 0 lo:Nat):Int),((sIx n n hi:Nat):Int)):=by
  have h1:¬ ((1:Int) < 0):=by omega
  unfold Builtin.Slice.sliceAdjust
  simp only [h1,if_false]
  refine Prod.ext ?_ ?_
  · cases lo with
    | none=>rfl
    | some v=>exact clip_eq v n 0
  · cases hi with
    | none=>rfl
    | some v=>exact clip_eq v n n
theorem places_gen (i j:Nat):Builtin.Slice.slicePlaces (i:Int) (j:Int) 1=j - i:=by
  unfold Builtin.Slice.slicePlaces
  have h1:(1:Int) > 0:=by omega
  simp only [h1,if_true,Int.ediv_one]
  split<;>omega
theorem slicePart_ {v:Value}{o:Option Int} {Q:Option Int→Shared→Prop}(p:IsPart v o) (h:Q o s):wpAny (model prog w) A (Builtin.Slice.slicePartIndex v) Q E s:=by
  cases p with
  | none=>exact slicePart_none h
  | int i t=>exact slicePart_int h
theorem sliceApplied_gen {sl:Addr}{vl vu:Value} {lo hi:Option Int}{n:Nat} {Q:Int×Int×Nat→Shared→Prop}(hs:s.heap.IsSliceOf sl vl vu .none) (pl:IsPart vl lo) (pu:IsPart vu hi)
    (h:Q (((sIx n 0 lo:Nat):Int),1,sIx n n hi - sIx n 0 lo) s):wpAny (model prog w) A (Builtin.Slice.sliceApplied (.ref sl) (pure (n:Int))) Q E s:=by
  obtain ⟨os,hos,hcs,hds⟩:=id hs
  unfold Builtin.Slice.sliceApplied Builtin.Slice.sliceFields
  refine wpAny_bind (wpAny_bind (wpAny_field hos hds (x:=vl) rfl (wpAny_bind (wpAny_field hos hds (x:=vu) rfl (wpAny_bind (wpAny_field hos hds (x:=.none) rfl (wpAny_pure ?_)))))))
  refine wpAny_bind (slicePart_none ?_)
  show wpAny _ _ (if ((1:Int) == 0)=true then _ else _) _ _ s
  rw [if_neg (by decide)]
  refine wpAny_bind (slicePart_ pl (wpAny_bind (slicePart_ pu (wpAny_bind (wpAny_pure ?_)))))
  show wpAny _ _ (match Builtin.Slice.sliceAdjust lo hi 1 (n:Int) with | (lo,hi)=>pure (lo,(1:Int),Builtin.Slice.slicePlaces lo hi 1)) _ _ s
  rw [adjust_gen lo hi n]
  show wpAny _ _ (pure (((sIx n 0 lo:Nat):Int),(1:Int),Builtin.Slice.slicePlaces ((sIx n 0 lo:Nat):Int) ((sIx n n hi:Nat):Int) 1)) _ _ s
  rw [places_gen]
  exact wpAny_pure h
theorem pick_gen (xs:Array Value) (i k:Nat):((List.range k).filterMap fun (m:Nat)=>xs[((i:Int) + (m:Int) * 1).toNat]?).toArray=((xs.toList.drop i).take k).toArray:=by
  have e:(fun (m:Nat)=>xs[((i:Int) + (m:Int) * 1).toNat]?)=fun m=>xs[i + m]?:=by
    funext m
    have:((i:Int) + (m:Int) * 1).toNat=i + m:=by omega
    rw [this]
  rw [e]
  have:=pick_run xs i k
  rw [List.filterMap_map] at this
  have e2:((fun x=>xs[x]?) ∘ fun x=>i + x)=fun m=>xs[i + m]?:=rfl
  rw [e2] at this
  rw [this]
theorem getItem_tuple_cut {t sl:Addr}{items:Array Value} {vl vu:Value}{lo hi:Option Int} {Q:Value→Shared→Prop}(ht:IsTup s.heap t items) (hs:s.heap.IsSliceOf sl vl vu .none) (pl:IsPart vl lo) (pu:IsPart vu hi)
    (hw:¬ (sIx items.size 0 lo=0∧sIx items.size items.size hi=items.size))
    (h:Q (.ref s.heap.objs.size) { s with heap:=s.heap.push { cls:=.type "tuple",data:=.seq ((items.toList.drop (sIx items.size 0 lo)).take (sIx items.size items.size hi - sIx items.size 0 lo)).toArray } })
    (hsz:items.size≤sizeLine):wpAny (model prog w) A (getItem (.ref t) (.ref sl)) Q E s:=by
  have htake:sizeOk (.seq ((items.toList.drop (sIx items.size 0 lo)).take (sIx items.size items.size hi - sIx items.size 0 lo)).toArray):=by
    show ((items.toList.drop (sIx items.size 0 lo)).take (sIx items.size items.size hi - sIx items.size 0 lo)).toArray.size≤sizeLine
    rw [List.size_toArray,List.length_take,List.length_drop,Array.length_toList]
    omega
  have hj:sIx items.size items.size hi≤items.size:=sIx_le _ _ (Nat.le_refl _) hi
  obtain ⟨os,hos,hcs,hds⟩:=id hs
  have hTs:s.TypeIs (.ref sl) "slice" := ⟨os,hos,hcs⟩
  unfold getItem
  try with_reducible refine wpAny_holding ?_
  first | refine wpAny_bind (wpAny_pure ?_) | skip
  refine wpAny_bind (wpAny_sequenceKey ht.typeIs (by decide) ?_)
  refine wpAny_bind (wpAny_callSpecial?_slot (name:=Str.ofString "__getitem__") ht.typeIs PyProof.Rows.slot_tuple_getitem
    (wpAny_call_entry PyProof.Rows.slot_tuple_getitem ht.typeIs entry_tuple_getitem ?_ (args_tuple_getitem _ _)))
  show wpAny _ _ (Builtin.Tuple.tupleItemsOf (.ref t) >>= _) _ _ s
  refine wpAny_bind (tupleItemsOf_ ht ?_)
  refine wpAny_bind (wpAny_typeOf hTs ?_)
  rw [if_pos (by decide)]
  refine wpAny_bind (sliceApplied_gen hs pl pu ?_)
  have hno:¬ ((((sIx items.size 0 lo:Nat):Int) == 0 && (1:Int) == 1 && (sIx items.size items.size hi - sIx items.size 0 lo) == items.size)=true):=by
    intro q
    rw [Bool.and_eq_true,Bool.and_eq_true] at q
    have q1:((sIx items.size 0 lo:Nat):Int)=0:=eq_of_beq q.1.1
    have q2:sIx items.size items.size hi - sIx items.size 0 lo=items.size:=eq_of_beq q.2
    exact hw ⟨by omega,by omega⟩
  show wpAny _ _ (if (((sIx items.size 0 lo:Nat):Int) == 0 && (1:Int) == 1 && (sIx items.size items.size hi - sIx items.size 0 lo) == items.size)=true then _ else _) _ _ s
  rw [if_neg hno,pick_gen]
  first
    | exact wpAny_bind (m:=Builtin.Tuple.tupleExact _) (wpAny_newObj_type (wpAny_pure ⟨_,rfl,wpAny_pure h⟩) htake)
    | exact wpAny_bind (m:=Builtin.Tuple.tupleExact _) (wpAny_newObj_type (wpAny_bind (wpAny_pure (wpAny_pure ⟨_,rfl,wpAny_pure h⟩))) htake)
    | exact wpAny_bind (wpAny_bind (m:=Builtin.Tuple.tupleExact _) (wpAny_newObj_type (wpAny_pure (wpAny_pure ⟨_,rfl,wpAny_pure h⟩)) htake))
    | exact wpAny_bind (wpAny_bind (m:=Builtin.Tuple.tupleExact _) (wpAny_newObj_type (wpAny_pure ⟨_,rfl,wpAny_pure h⟩) htake))
end
end HT
namespace L2
open PySem PySem.Spec PyProof.Rows
noncomputable abbrev TO:=St→Hp→(Option Int→Hp→Prop)→Prop
noncomputable def PO (X:Cx) (e:Option Expr) (t:TO):Prop:=
  ∀ (pins:List (Addr×Obj)) (s:Shared) (σ:St) (H:Hp) (Q:Option Int→Hp→Prop),Inv X pins σ H s→t σ H Q→
    wpAny (model X.prog X.w) X.A (evalPart e X.env) (fun u s'=>∃ o H',Inv X pins σ H' s'∧IsPart u o∧Q o H') X.xe s
noncomputable def tNoPart:TO:=fun _ H Q=>Q none H
noncomputable def tPart (t:TE):TO:=fun σ H Q=>t σ H fun x H1=>∃ i,x=.int i∧Q (some i) H1
theorem intsAre_of {ns:List Int}:∀ {us:List Value},Vals (ns.map V.int) us→IntsAre us ns:=by
  induction ns with
  | nil=>intro us r;rw [List.map_nil] at r;cases r;exact .nil
  | cons n ns ih=>
    intro us r
    rw [List.map_cons] at r
    cases r with
    | cons r1 r2=>
      obtain ⟨t,e⟩:=r1
      subst e
      exact .cons n t (ih r2)
section
variable {X:Cx}{e:Expr} {te:TE}{lo hi:Option Expr} {tl th:TO}{pos p2:Pos}
theorem po_none:PO X none tNoPart:=by
  intro pins s σ H Q I h
  rw [evalPart_none]
  exact wpAny_pure ⟨none,H,I,.none,h⟩
theorem po_some (h:PE X e te):PO X (some e) (tPart te):=by
  intro pins s σ H Q I hw
  rw [evalPart_some]
  refine thn (h pins s σ H _ I hw) fun u s1 h_=>?_
  obtain ⟨x,H1,I1,r1,q1⟩:=h_
  obtain ⟨i,rfl,q⟩:=q1
  obtain ⟨t,rfl⟩:=r1
  exact ⟨some i,H1,I1,.int i t,q⟩
noncomputable def SlR (X:Cx) (r:V→Option Int→Option Int→Hp→VK→Prop):Prop:=
  ∀ (pins:List (Addr×Obj)) (s:Shared) (σ:St) (H:Hp) (x:V) (v vl vu:Value) (lo hi:Option Int) (sl:Addr) (Q:VK),Inv X pins σ H s→RelV x v→s.heap.IsSliceOf sl vl vu .none→IsPart vl lo→IsPart vu hi→r x lo hi H Q→
    ∃ T id,typeLookup (.type T) "__getitem__" = pure (some (.builtin id))∧s.TypeIs v T∧wpAny (model X.prog X.w) X.A (getItem v (.ref sl)) (EP X pins σ Q) X.xe s
theorem SlR.or {r r':V→Option Int→Option Int→Hp→VK→Prop}(h:SlR X r) (h':SlR X r'):SlR X (fun x lo hi H Q=>r x lo hi H Q∨r' x lo hi H Q):=by
  intro pins s σ H x v vl vu lo hi sl Q I rx hs pl pu q
  rcases q with q | q
  · exact h pins s σ H x v vl vu lo hi sl Q I rx hs pl pu q
  · exact h' pins s σ H x v vl vu lo hi sl Q I rx hs pl pu q
noncomputable def tSl (r:V→Option Int→Option Int→Hp→VK→Prop) (te:TE) (tl th:TO):TE:=fun σ H Q=>te σ H fun x H1=>tl σ H1 fun l H2=>th σ H2 fun u H3=>r x l u H3 Q
theorem pe_slice {r:V→Option Int→Option Int→Hp→VK→Prop}(hr:SlR X r) (he:PE X e te) (hl:PO X lo tl) (hu:PO X hi th):PE X (.Subscript e (.Slice lo hi none p2) pos) (tSl r te tl th):=by
  intro pins s σ H Q I h
  refine Subscript_ (thn (he pins s σ H _ I h) fun v s1 ⟨x,H1,I1,r1,q1⟩=>?_)
  refine wpAny_Slice (thn (hl pins s1 σ H1 _ I1 q1) fun vl s2 ⟨l,H2,I2,pl,q2⟩=>thn (hu pins s2 σ H2 _ I2 q2) fun vu s3 ⟨u,H3,I3,pu,q3⟩=>?_)
  rw [evalPart_none]
  refine wpAny_pure ?_
  have I4:Inv X pins σ H3 { s3 with heap:=s3.heap.push { cls:=.type "slice",data:=.fields #[vl,vu,.none] } }:=I3.kept (t':=s3.toks) fun b ob q=>Heap.get?_push_of_some _ q
  obtain ⟨T,id,hT,ht,hg⟩:=hr pins { s3 with heap:=s3.heap.push { cls:=.type "slice",data:=.fields #[vl,vu,.none] } } σ H3 x v vl vu l u s3.heap.objs.size Q I4 r1 (Heap.IsSliceOf.new ..) pl pu q3
  show wpAny (model X.prog X.w) X.A (subscriptTail e (.Slice lo hi none p2) v (.ref s3.heap.objs.size)) (EP X pins σ Q) X.xe { s3 with heap:=s3.heap.push { cls:=.type "slice",data:=.fields #[vl,vu,.none] } }
  exact tail_any (ops:=[.ref s3.heap.objs.size,v]) ht hT hg (by with_unfolding_all rfl)
noncomputable def cutV (xs:List V) (lo hi:Option Int):List V:=(xs.drop (HT.sIx xs.length 0 lo)).take (HT.sIx xs.length xs.length hi - HT.sIx xs.length 0 lo)
theorem cutV_length (xs:List V) (lo hi:Option Int):(cutV xs lo hi).length≤xs.length:=by
  unfold cutV
  rw [List.length_take,List.length_drop]
  omega
noncomputable def rSlT (K:PySem.W.Frag):V→Option Int→Option Int→Hp→VK→Prop:=fun x lo hi H Q=>∃ a xs,x=.ref a∧SqT K H a xs∧
  ¬ (HT.sIx xs.length 0 lo=0∧HT.sIx xs.length xs.length hi=xs.length)∧∀ p,H p=none→Q (.ref p) (upd H p (.tup (cutV xs lo hi)))
theorem sl_tup:SlR X (rSlT X.K):=by
  intro pins s σ H x v vl vu lo hi sl Q I rx hs pl pu h
  obtain ⟨a,xs,rfl,hx,hw,q⟩:=h
  cases rx
  obtain ⟨its,r,ht,hz⟩:=I.tuple hx
  have hlen:its.toArray.size=xs.length:=by rw [List.size_toArray];exact r.length.symm
  refine ⟨"tuple",_,PyProof.Rows.slot_tuple_getitem.lookup,ht.typeIs,?_⟩
  refine HT.getItem_tuple_cut ht hs pl pu (by rw [hlen];exact hw) ?_ (by rw [hlen];exact hz)
  rw [hlen]
  refine ⟨.ref s.heap.objs.size,_,I.laid (t':=s.toks) (o:=.tup (cutV xs lo hi)) (fun b ob q=>Heap.get?_push_of_some _ q) (Nat.le_refl _) ?_,rfl,q _ (I.hok.fresh (Nat.le_refl _))⟩
  exact ⟨Nat.le_trans (cutV_length xs lo hi) hz,_,(r.drop (HT.sIx xs.length 0 lo)).take (HT.sIx xs.length xs.length hi - HT.sIx xs.length 0 lo),IsTup.new _ _⟩
noncomputable def rCatT (K:PySem.W.Frag):R2:=fun x y H Q=>∃ a b xs ys,x=.ref a∧y=.ref b∧SqT K H a xs∧SqT K H b ys∧xs≠[]∧xs.length + ys.length≤sizeLine∧
  (ys=[]→Q (.ref a) H)∧(ys≠[]→∀ p,H p=none→Q (.ref p) (upd H p (.tup (xs++ys))))
theorem Vals.nil_iff {xs:List V}{us:List Value} (r:Vals xs us):us=[]↔xs=[]:=by
  cases r with
  | nil=>simp
  | cons _ _=>simp
theorem op_catT:OpR X (binaryOp .Add) (rCatT X.K):=by
  intro pins s σ H x y v u Q I rx ry h
  obtain ⟨a,b,xs,ys,rfl,rfl,ha,hb,hx,hz,q1,q2⟩:=h
  cases rx
  cases ry
  obtain ⟨its,r1,p1,_⟩:=I.tuple ha
  obtain ⟨its2,r2,p2,_⟩:=I.tuple hb
  refine HT.cat_tup p1 p2 (fun z=>hx (r1.nil_iff.mp z)) (fun z=>⟨.ref a,H,I,rfl,q1 (r2.nil_iff.mp z)⟩) (fun z=>?_) (by rw [← r1.length,← r2.length];exact hz)
  refine ⟨.ref s.heap.objs.size,_,I.laid (t':=s.toks) (o:=.tup (xs++ys)) (fun b ob q=>Heap.get?_push_of_some _ q) (Nat.le_refl _) ?_,rfl,q2 (fun w=>z (r2.nil_iff.mpr w)) _ (I.hok.fresh (Nat.le_refl _))⟩
  exact ⟨by rw [List.length_append];exact hz,_,r1.append r2,IsTup.new _ _⟩
end
end L2
namespace L2
open PySem PySem.Spec PyProof.Rows
noncomputable def ixN (n:Nat) (i:Int):Option Nat:=if 0≤i then (if i < n then some i.toNat else none) else if -(n:Int)≤i then some (i + n).toNat else none
noncomputable def atI {α:Type}(xs:List α) (i:Int):Option α:=(ixN xs.length i).bind fun j=>xs[j]?
theorem ixN_seq {n:Nat}{i:Int} {j:Nat}(h:ixN n i=some j):seqIndex? i n=some j∧j < n∧-(n:Int)≤i∧i < n:=by
  unfold ixN at h
  by_cases h0:0≤i
  · rw [if_pos h0] at h
    by_cases h1:i < n
    · rw [if_pos h1] at h
      have e:i.toNat=j:=Option.some.inj h
      exact ⟨by rw [seqIndex_of h0 h1,e],by omega,by omega,h1⟩
    · rw [if_neg h1] at h;cases h
  · rw [if_neg h0] at h
    by_cases h1:-(n:Int)≤i
    · rw [if_pos h1] at h
      have e:(i + n).toNat=j:=Option.some.inj h
      exact ⟨by rw [seqIndex_neg (by omega) h1,e],by omega,h1,by omega⟩
    · rw [if_neg h1] at h;cases h
theorem atI_get {α:Type}{xs:List α} {i:Int}{v:α} (h:atI xs i=some v):∃ j,seqIndex? i xs.length=some j∧xs[j]?=some v∧j < xs.length∧-(xs.length:Int)≤i∧i < xs.length:=by
  unfold atI at h
  cases e:ixN xs.length i with
  | none=>rw [e] at h;cases h
  | some j=>
    rw [e] at h
    obtain ⟨h1,h2,h3,h4⟩:=ixN_seq e
    exact ⟨j,h1,h,h2,h3,h4⟩
theorem atI_nat {α:Type}{xs:List α} {j:Nat}{v:α} (h:xs[j]?=some v):atI xs (j:Int)=some v:=by
  have hj:j < xs.length:=(List.getElem?_eq_some_iff.mp h).1
  have e:ixN xs.length (j:Int)=some j:=by
    unfold ixN
    rw [if_pos (by omega),if_pos (by omega)];simp
  unfold atI;rw [e];exact h
noncomputable def PlainIx (b:Expr):Prop:=∀ o i,subscripted b false o i=operate [o,i] (getItem o i)
noncomputable def IxR (X:Cx) (r:R2):Prop:=
  ∀ (value slice:Expr) (pins:List (Addr×Obj)) (s:Shared) (σ:St) (H:Hp) (x y:V) (v u:Value) (Q:VK),Inv X pins σ H s→RelV x v→RelV y u→r x y H Q→
    subscripted slice false v u=operate [v,u] (getItem v u)→wpAny (model X.prog X.w) X.A (subscriptTail value slice v u) (EP X pins σ Q) X.xe s
noncomputable def MtR (X:Cx) (id:String) (r:V→List V→Hp→VK→Prop):Prop:=
  ∀ (pins:List (Addr×Obj)) (s:Shared) (σ:St) (H:Hp) (x:V) (xs:List V) (v:Value) (us:List Value) (Q:VK),Inv X pins σ H s→RelV x v→Vals xs us→r x xs H Q→
    wpAny (model X.prog X.w) X.A (call (.builtin id) (v::us)) (EP X pins σ Q) X.xe s
section
variable {X:Cx}{a b:Expr} {ta tb:TE}{pos:Pos}
theorem IxR.or {r r':R2}(h:IxR X r) (h':IxR X r'):IxR X (fun x y H Q=>r x y H Q∨r' x y H Q):=by
  intro value slice pins s σ H x y v u Q I rx ry q hs
  rcases q with q | q
  · exact h value slice pins s σ H x y v u Q I rx ry q hs
  · exact h' value slice pins s σ H x y v u Q I rx ry q hs
theorem pe_ix {r:R2}(hr:IxR X r) (ha:PE X a ta) (hb:PE X b tb) (hs:PlainIx b):PE X (.Subscript a b pos) (tOp r ta tb):=by
  intro pins s σ H Q I h
  exact Subscript_ (binT ha hb I h fun v u s2 x y H2 I2 rx ry q=>hr a b pins s2 σ H2 x y v u Q I2 rx ry q (hs _ _))
noncomputable def rIxL (K:PySem.W.Frag):R2:=fun x y H Q=>∃ p xs i v,x=.ref p∧y=.int i∧SqL K H p xs∧atI xs i=some v∧Q v H
noncomputable def rIxT (K:PySem.W.Frag):R2:=fun x y H Q=>∃ p xs i v,x=.ref p∧y=.int i∧SqT K H p xs∧atI xs i=some v∧Q v H
noncomputable def rIxS:R2:=fun x y H Q=>∃ z i c,x=.str z∧y=.int i∧z.length≤sizeLine∧atI z.cps.toList i=some c∧Q (.str ⟨#[c]⟩) H
theorem ix_list:IxR X (rIxL X.K):=by
  intro value slice pins s σ H x y v u Q I rx ry h hs
  obtain ⟨p,xs,i,z,rfl,rfl,hq,he,q⟩:=h
  cases rx
  obtain ⟨t,rfl⟩:=ry
  obtain ⟨its,r,pl,hz⟩:=I.list hq
  obtain ⟨j,h1,h2,h3,h4,h5⟩:=atI_get he
  obtain ⟨w,ew,rw'⟩:=r.get h2
  have hl:=r.length
  have hn:=line63
  have fin:EP X pins σ Q w s:=⟨z,H,I,rw',q⟩
  by_cases h0:0≤i
  · have hj:i.toNat=j:=by
      rw [seqIndex_of h0 h5] at h1
      exact Option.some.inj h1
    exact item_listR pl.isList h0 (by omega) (by rw [hj];simpa using ew) fin hs
  · have hj:(i + (its.toArray.size:Int)).toNat=j:=by
      rw [seqIndex_neg (by omega) h4] at h1
      rw [List.size_toArray,← hl]
      exact Option.some.inj h1
    exact subscriptTail_builtinR (x:=w) pl.isList.typeIs slot_list_getitem.lookup
      (wpAny_getItem_list_neg (Q:=fun r s'=>r=w∧EP X pins σ Q r s') pl.isList (by omega) (by rw [List.size_toArray]<;>omega) (by omega) (by rw [hj];simpa using ew) ⟨rfl,fin⟩) hs
theorem ix_tup:IxR X (rIxT X.K):=by
  intro value slice pins s σ H x y v u Q I rx ry h hs
  obtain ⟨p,xs,i,z,rfl,rfl,hq,he,q⟩:=h
  cases rx
  obtain ⟨t,rfl⟩:=ry
  obtain ⟨its,r,pl,hz⟩:=I.tuple hq
  obtain ⟨j,h1,h2,h3,h4,h5⟩:=atI_get he
  obtain ⟨w,ew,rw'⟩:=r.get h2
  have hl:=r.length
  have hn:=line63
  have fin:EP X pins σ Q w s:=⟨z,H,I,rw',q⟩
  exact subscriptTail_builtinR (x:=w) pl.typeIs slot_tuple_getitem.lookup
    (getItem_tuple (j:=j) (Q:=fun r s'=>r=w∧EP X pins σ Q r s') pl (by omega) (by omega) (by rw [List.size_toArray,← hl];exact h1) (by simpa using ew) ⟨rfl,fin⟩) hs
theorem ix_str:IxR X rIxS:=by
  intro value slice pins s σ H x y v u Q I rx ry h hs
  obtain ⟨z,i,c,rfl,rfl,hz,he,q⟩:=h
  obtain ⟨t,rfl⟩:=rx
  obtain ⟨t',rfl⟩:=ry
  obtain ⟨j,h1,h2,h3,h4,h5⟩:=atI_get he
  have hl:z.cps.toList.length=z.length:=by simp [Str.length]
  rw [hl] at h1 h4 h5
  have hn:=line63
  exact tail_any (typeIs_str s z t) slot_str_getitem.lookup (getItem_str (c:=c) (by
    have e1:decide (i < -(2 ^ 63:Int))=false:=decide_eq_false (by omega)
    have e2:decide (i ≥ 2 ^ 63)=false:=decide_eq_false (by omega)
    rw [e1,e2,Bool.or_false]) (by rw [h1];simpa using h2) ⟨.str ⟨#[c]⟩,H,I.tok _,⟨_,rfl⟩,q⟩) hs
theorem mapSeq_set (its:List Value) (n j:Nat) (u:Value):Obj.mapSeq (·.setIfInBounds j u) { cls:=.type "list",data:=.seq its.toArray n }={ cls:=.type "list",data:=.seq (its.set j u).toArray n }:=by
  simp [Obj.mapSeq]
theorem Inv.lst {pins:List (Addr×Obj)}{σ:St} {H:Hp}{s:Shared} {p:Addr}{xs:List V} (I:Inv X pins σ H s) (h:H p=some (.lst xs)) :
    ∃ (its:List Value) (n:Nat),Vals xs its∧s.heap.get? p=some { cls:=.type "list",data:=.seq its.toArray n }∧xs.length≤sizeLine:=by
  obtain ⟨z,its,n,r,e⟩:=I.hok p _ h
  exact ⟨its,n,r,e,z⟩
theorem Inv.lstUpd {pins:List (Addr×Obj)}{σ:St} {H:Hp}{s:Shared} {p:Addr}{xs ys:List V} {its its':List Value}{n n':Nat} {f:Obj→Obj}(I:Inv X pins σ H s) (h:H p=some (.lst xs))
    (ho:s.heap.get? p=some { cls:=.type "list",data:=.seq its.toArray n }) (hf:f { cls:=.type "list",data:=.seq its.toArray n }={ cls:=.type "list",data:=.seq its'.toArray n' }) (r:Vals ys its') (hz:ys.length≤sizeLine) (t:Nat) :
    Inv X pins σ (upd H p (.lst ys)) { s with heap:=s.heap.update p f,toks:=t }:=by
  have e:(s.heap.update p f).get? p=some { cls:=.type "list",data:=.seq its'.toArray n' }:=by
    rw [Heap.get?_update_self f ho (by rw [hf]<;>rfl),hf]
  refine I.write (x:=p) (e:=p) (by rw [h];trivial) (.inl rfl) (fun b u hb q=>(Heap.get?_update_other _ _ (Ne.symm hb)).trans q) ⟨_,e⟩ ?_
  exact ⟨hz,its',n',r,e⟩
noncomputable def rSetL:V→V→V→Hp→(Hp→Prop)→Prop:=fun o i v H Q=>∃ p xs k j,o=.ref p∧i=.int k∧H p=some (.lst xs)∧ixN xs.length k=some j∧Q (upd H p (.lst (xs.set j v)))
theorem set_list:PSet X rSetL:=by
  intro pins s σ H o i v ov iv u Q I ro ri rv h
  obtain ⟨p,xs,k,j,rfl,rfl,hp,hj,q⟩:=h
  cases ro
  obtain ⟨t,rfl⟩:=ri
  obtain ⟨its,n,r,ho,hz⟩:=I.lst hp
  obtain ⟨h1,h2,h3,h4⟩:=ixN_seq hj
  have hl:=r.length
  have hn:=line63
  have I':Inv X pins σ (upd H p (.lst (xs.set j v))) { s with heap:=s.heap.update p (Obj.mapSeq (·.setIfInBounds j u)) }:=
    I.lstUpd hp ho (mapSeq_set its n j u) (r.set rv j) (by rw [List.length_set];exact hz) s.toks
  by_cases h0:0≤k
  · have hk:k.toNat=j:=by
      rw [seqIndex_of h0 h4] at h1
      exact Option.some.inj h1
    exact PySem.W.ki_setAt ho h0 (by omega) (by rw [List.size_toArray,← hl];exact h4) (by rw [hk];exact ⟨_,I',q⟩)
  · have hk:(k + (its.toArray.size:Int)).toNat=j:=by
      rw [seqIndex_neg (by omega) h3] at h1
      rw [List.size_toArray,← hl]
      exact Option.some.inj h1
    exact PySem.W.ki_setBack ho (by omega) (by rw [List.size_toArray,← hl];exact h3) (by omega) (by rw [hk];exact ⟨_,I',q⟩)
theorem slice_bounds (lo hi:Option Int) (n:Nat):(sliceBounds lo hi none n).1=((HT.sIx n 0 lo:Nat):Int)∧(sliceBounds lo hi none n).2.1=((HT.sIx n n hi:Nat):Int)∧(sliceBounds lo hi none n).2.2=1:=by
  refine ⟨?_,?_,rfl⟩
  · cases lo with
    | none=>simp [sliceBounds,HT.sIx]
    | some i=>
      simp only [sliceBounds,HT.sIx,Option.getD_none,show (1:Int) > 0 by decide,if_true]
      by_cases h:i < 0
      · simp only [h,if_true]<;>omega
      · simp only [h,if_false]<;>omega
  · cases hi with
    | none=>simp [sliceBounds,HT.sIx]
    | some i=>
      simp only [sliceBounds,HT.sIx,Option.getD_none,show (1:Int) > 0 by decide,if_true]
      by_cases h:i < 0
      · simp only [h,if_true]<;>omega
      · simp only [h,if_false]<;>omega
theorem slicePick_cut (its:List Value) (lo hi:Option Int):slicePick its.toArray lo hi none=((its.drop (HT.sIx its.length 0 lo)).take (HT.sIx its.length its.length hi - HT.sIx its.length 0 lo)).toArray:=by
  obtain ⟨h1,h2,h3⟩:=slice_bounds lo hi its.toArray.size
  unfold slicePick
  rw [h1,h2,h3]
  simp only [sliceRange_one,pick_run,List.size_toArray]<;>rfl
noncomputable def rSlL (K:PySem.W.Frag):V→Option Int→Option Int→Hp→VK→Prop:=fun x lo hi H Q=>∃ a xs,x=.ref a∧SqL K H a xs∧∀ p,H p=none→Q (.ref p) (upd H p (.lst (cutV xs lo hi)))
theorem sl_list:SlR X (rSlL X.K):=by
  intro pins s σ H x v vl vu lo hi sl Q I rx hs pl pu h
  obtain ⟨a,xs,rfl,hx,q⟩:=h
  cases rx
  obtain ⟨its,r,ht,hz⟩:=I.list hx
  have hlen:=r.length
  refine ⟨"list",_,slot_list_getitem.lookup,ht.isList.typeIs,?_⟩
  refine wpAny_getItem_list_slice ht.isList hs pl pu .none (by simp) ?_ (by rw [List.size_toArray]<;>omega)
  rw [slicePick_cut,← hlen]
  refine ⟨.ref s.heap.objs.size,_,I.laid (t':=s.toks) (o:=.lst (cutV xs lo hi)) (fun b ob q=>Heap.get?_push_of_some _ q) (Nat.le_refl _) ?_,rfl,q _ (I.hok.fresh (Nat.le_refl _))⟩
  exact ⟨Nat.le_trans (cutV_length xs lo hi) hz,_,0,(r.drop (HT.sIx xs.length 0 lo)).take (HT.sIx xs.length xs.length hi - HT.sIx xs.length 0 lo),Heap.get?_push_size _ rfl⟩
theorem call_len_seq:CallR X (.builtin "len") (fun xs H Q=>∃ p ys,xs=[.ref p]∧(SqL X.K H p ys∨SqT X.K H p ys)∧Q (.int ys.length) H):=by
  intro pins s σ H xs us Q I r h
  obtain ⟨p,ys,rfl,hq,q⟩:=h
  obtain ⟨u,rfl,rx⟩:=vals1 r
  cases rx
  have hn:=line63
  rcases hq with hq | hq
  · obtain ⟨its,r',pl,hz⟩:=I.list hq
    have hlen:=r'.length
    exact Calls.call_len_list pl.isList (by simp only [List.size_toArray]<;>omega) ⟨.int ys.length,H,I.tok _,⟨s.toks + 1,by rw [List.size_toArray,hlen]⟩,q⟩
  · obtain ⟨its,r',pl,hz⟩:=I.tuple hq
    have hlen:=r'.length
    exact len_tuple pl (by simp only [List.size_toArray]<;>omega) ⟨.int ys.length,H,I.tok _,⟨s.toks + 1,by rw [List.size_toArray,hlen]⟩,q⟩
theorem call_len_str:CallR X (.builtin "len") (fun xs H Q=>∃ z,xs=[.str z]∧z.length≤sizeLine∧Q (.int z.length) H):=by
  intro pins s σ H xs us Q I r h
  obtain ⟨z,rfl,hz,q⟩:=h
  obtain ⟨u,rfl,t,rfl⟩:=vals1 r
  have hn:=line63
  exact len_str (by omega) ⟨.int z.length,H,I.tok _,⟨_,rfl⟩,q⟩
theorem CallR.or {f:Value}{r r':List V→Hp→VK→Prop} (h:CallR X f r) (h':CallR X f r'):CallR X f (fun xs H Q=>r xs H Q∨r' xs H Q):=by
  intro pins s σ H xs us Q I rs q
  rcases q with q | q
  · exact h pins s σ H xs us Q I rs q
  · exact h' pins s σ H xs us Q I rs q
theorem call_tuple_of:CallR X (.type "tuple") (fun xs H Q=>∃ p ys,xs=[.ref p]∧((SqL X.K H p ys∧∀ l,H l=none→Q (.ref l) (upd H l (.tup ys)))∨(SqT X.K H p ys∧Q (.ref p) H))):=by
  intro pins s σ H xs us Q I r h
  obtain ⟨p,ys,rfl,h⟩:=h
  obtain ⟨u,rfl,rx⟩:=vals1 r
  cases rx
  rcases h with ⟨hq,q⟩ | ⟨hq,q⟩
  · obtain ⟨its,r',pl,hz⟩:=I.list hq
    have hlen:=r'.length
    refine call_tuple_list pl.isList (fun h' kp=>?_) (by simp only [List.size_toArray]<;>omega)
    have I1:Inv X pins σ H { s with heap:=h' }:=I.kept (t':=s.toks) kp
    have I2:Inv X pins σ (upd H h'.objs.size (.tup ys)) { s with heap:=h'.push { cls:=.type "tuple",data:=.seq its.toArray } }:=
      I1.laid (t':=s.toks) (fun b o e=>Heap.get?_push_of_some _ e) (Nat.le_refl _) (show ObjOk X.prog X.w _ _ _ (.tup ys) from ⟨hz,its,r',IsTup.new _ _⟩)
    exact ⟨.ref h'.objs.size,_,I2,rfl,q _ (I1.hok.fresh (Nat.le_refl _))⟩
  · obtain ⟨its,r',pl,hz⟩:=I.tuple hq
    exact call_tuple_same pl ⟨.ref p,H,I,rfl,q⟩
noncomputable def tyV (K:PySem.W.Frag) (T:String) (x:V) (H:Hp):Prop:=match x with
  | .str _=>T = "str"
  | .int _=>T = "int"
  | .ref p=>(T = "list" ∧ ∃ xs,SqL K H p xs)∨(T = "tuple" ∧ ∃ o,K.lookup p=some o∧o.cls=.type "tuple" ∧ o.dict=none)∨
      (T = "dict" ∧ ((∃ kvs,H p=some (.dK kvs))∨∃ kvs,H p=some (.dT kvs)))∨(T = "set" ∧ ∃ S n,H p=some (.set S n))
  | _=>False
theorem tyV_is {pins:List (Addr×Obj)}{σ:St} {H:Hp}{s:Shared} {T:String}{x:V} {v:Value}(I:Inv X pins σ H s) (r:RelV x v) (ty:tyV X.K T x H) :
    s.TypeIs v T∧∀ a,v=.ref a→∃ ob,s.heap.get? a=some ob∧ob.dict=none:=by
  cases x with
  | str z=>
    obtain ⟨t,rfl⟩:=r
    cases (show T = "str" from ty)
    exact ⟨typeIs_str s z t,fun _ e=>nomatch e⟩
  | int i=>
    obtain ⟨t,rfl⟩:=r
    cases (show T = "int" from ty)
    exact ⟨typeIs_int s i t,fun _ e=>nomatch e⟩
  | ref p=>
    cases r
    rcases ty with ⟨rfl,xs,hq⟩ | ⟨rfl,o,hk,hc,hd⟩ | ⟨rfl,hk⟩ | ⟨rfl,S,n,hk⟩
    · obtain ⟨its,_,pl,_⟩:=I.list hq
      refine ⟨pl.isList.typeIs,fun a e=>?_⟩
      cases e
      obtain ⟨o,n,e,c,hd,_⟩:=pl
      exact ⟨o,e,hd⟩
    · refine ⟨⟨o,I.kIn p o hk,hc⟩,fun a e=>?_⟩
      cases e
      exact ⟨o,I.kIn _ o hk,hd⟩
    · have z:∃ o,s.heap.get? p=some o∧o.ExactDict:=by
        rcases hk with ⟨kvs,hk⟩ | ⟨kvs,hk⟩
        · obtain ⟨_,_,_,_,o,_,_,e,ex,_⟩:=I.hok p _ hk
          exact ⟨o,e,ex⟩
        · obtain ⟨_,_,_,_,o,_,_,e,ex,_⟩:=I.hok p _ hk
          exact ⟨o,e,ex⟩
      obtain ⟨o,e,ex⟩:=z
      refine ⟨⟨o,e,ex.1⟩,fun a e2=>?_⟩
      cases e2
      exact ⟨o,e,ex.2.1⟩
    · obtain ⟨o,_,_,_,e,ex,_⟩:=I.hok p _ hk
      refine ⟨⟨o,e,ex.1⟩,fun a e2=>?_⟩
      cases e2
      exact ⟨o,e,ex.2.1⟩
  | _=>exact False.elim ty
noncomputable def tBM0 (K:PySem.W.Frag) (T:String) (r:V→List V→Hp→VK→Prop) (to:TE):TE:=fun σ H Q=>to σ H fun x H1=>tyV K T x H1∧r x [] H1 Q
noncomputable def tBM (K:PySem.W.Frag) (T:String) (r:V→List V→Hp→VK→Prop) (to:TE) (t:TA):TE:=fun σ H Q=>to σ H fun x H1=>tyV K T x H1∧t σ H1 fun xs H2=>r x xs H2 Q
variable {o e:Expr}{es:List Expr} {to:TE}{t:TA} {name:Str}{apos cpos:Pos} {T id:String}{r:V→List V→Hp→VK→Prop}
theorem pe_bm0 (pa:PlainAttrs T) (slot:Slot T name id) (hty:typeOf (.builtin id)=pure (.type "method_descriptor")) (hm:MtR X id r) (ho:PE X o to)
    (hbase:attributeBase o name X.env (eval o X.env)=eval o X.env:=by rfl) (hline:(apos.endLine == cpos.line)=true:=by rfl):PE X (.Call (.Attribute o name apos) [] [] cpos) (tBM0 X.K T r to):=by
  intro pins s σ H Q I h
  refine wpAny_Call_method0_late hbase hline (thn (ho pins s σ H _ I h) fun v s1 ⟨x,H1,I1,r1,ty,q1⟩=>?_)
  obtain ⟨h1,h2⟩:=tyV_is I1 r1 ty
  exact ⟨T,id,pa,slot,hty,h1,h2,Calls.callWith_builtin rfl (PySem.evalArgs_none (hm pins s1 σ H1 x [] v [] Q I1 r1 .nil q1))⟩
theorem pe_bm (pa:PlainAttrs T) (slot:Slot T name id) (hty:typeOf (.builtin id)=pure (.type "method_descriptor")) (hm:MtR X id r) (ho:PE X o to) (ha:PA X (e::es) t)
    (hbase:attributeBase o name X.env (eval o X.env)=eval o X.env:=by rfl)
    (hfew:((backTo cpos (starEach (e::es) X.env)).all (fun x=>!x.1) && (backToKw cpos (keywordEach [] X.env)).all (fun x=>x.1.isSome)
      && decide ((e::es).length + ([]:List Keyword).length + (if ([]:List Keyword).isEmpty then 0 else 1) < 30))=true:=by rfl)
    (hline:(apos.endLine == cpos.line)=true:=by rfl) (hs:starEach (e::es) X.env=(false,eval e X.env)::starEach es X.env:=by rfl) (hplain:(backTo cpos (starEach es X.env)).any (·.1)=false:=by rfl) :
    PE X (.Call (.Attribute o name apos) (e::es) [] cpos) (tBM X.K T r to t):=by
  intro pins s σ H Q I h
  refine wpAny_Call_method_late hbase hfew hline rfl (thn (ho pins s σ H _ I h) fun v s1 ⟨x,H1,I1,r1,ty,q1⟩=>?_)
  obtain ⟨h1,h2⟩:=tyV_is I1 r1 ty
  refine ⟨T,id,pa,slot,hty,h1,h2,?_⟩
  have hA:=ha cpos pins s1 σ H1 _ I1 q1
  rw [hs] at hA ⊢
  refine Calls.callWith_builtin (by show (false || (backTo cpos (starEach es X.env)).any (·.1))=false;rw [hplain]<;>rfl) (Calls.evalArgs_plain ?_)
  exact thn hA fun us s2 ⟨vs,H2,I2,r2,q2⟩=>hm pins s2 σ H2 x vs v us Q I2 r1 r2 q2
/- xs.append(e),list.index on a module's tuple .. are MtR facts of 06m -/
end
end L2
namespace L2
open PySem PySem.Spec PyProof.Rows
noncomputable def MtM (X:Cx) (id:String) (r:V→List V→Hp→VK→Prop):Prop:=
  ∀ (pins:List (Addr×Obj)) (s:Shared) (σ:St) (H:Hp) (x:V) (xs:List V) (v:Value) (us:List Value) (Q:VK),Inv X pins σ H s→RelV x v→Vals xs us→r x xs H Q→
    wpAny (model X.prog X.w) X.A (call (.builtin id) (v::us)) (EP X pins σ Q) X.xe s
theorem Vals.one:∀ {x:V}{us:List Value},Vals [x] us→∃ u,us=[u]∧RelV x u
  | _,_,.cons r .nil=>⟨_,rfl,r⟩
theorem Vals.zero:∀ {us:List Value},Vals [] us→us=[]
  | _,.nil=>rfl
theorem Vals.dropLast {xs:List V}{us:List Value} (h:Vals xs us):Vals xs.dropLast us.dropLast:=by
  induction h with
  | nil=>exact .nil
  | cons r t ih=>
    cases t with
    | nil=>exact .nil
    | cons q t'=>exact .cons r ih
theorem Vals.eraseIdx:∀ {xs:List V}{us:List Value} (i:Nat),Vals xs us→Vals (xs.eraseIdx i) (us.eraseIdx i)
  | _,_,_,.nil=>.nil
  | _,_,0,.cons _ t=>t
  | _,_,i + 1,.cons r t=>.cons r (Vals.eraseIdx i t)
theorem Vals.reverse {xs:List V}{us:List Value} (h:Vals xs us):Vals xs.reverse us.reverse:=by
  induction h with
  | nil=>exact .nil
  | cons r t ih=>rw [List.reverse_cons,List.reverse_cons];exact Vals.append ih (.cons r .nil)
theorem erase_last {α:Type}(l:List α):l.eraseIdx (l.length - 1)=l.dropLast:=by
  induction l with
  | nil=>rfl
  | cons a r ih=>
    cases r with
    | nil=>rfl
    | cons b r=>
      have e:(a::b::r).length - 1=((b::r).length - 1) + 1:=by
        have h1:(a::b::r).length=r.length + 2:=rfl
        have h2:(b::r).length=r.length + 1:=rfl
        omega
      rw [e,List.eraseIdx_cons_succ,ih]
      all_goals rfl
theorem len_erase {α:Type}:∀ (l:List α) (i:Nat),(l.eraseIdx i).length≤l.length
  | [],_=>Nat.le_refl _
  | _::_,0=>Nat.le_succ _
  | _::r,i + 1=>Nat.succ_le_succ (len_erase r i)
section
variable {X:Cx}{pins:List (Addr×Obj)} {σ:St}{H:Hp} {s:Shared}{l b:Addr} {xs ys zs:List V}
theorem Inv.lset {its its':List Value}{n:Nat} {f:Array Value→Array Value}{t':Nat} (I:Inv X pins σ H s) (hH:H l=some (.lst xs))
    (e:s.heap.get? l=some { cls:=.type "list",data:=.seq its.toArray n }) (hf:f its.toArray=its'.toArray) (hv:Vals ys its') (hz:ys.length≤sizeLine) :
    Inv X pins σ (upd H l (.lst ys)) { s with heap:=s.heap.update l (Obj.mapSeq f),toks:=t' }:=by
  have q:=PySem.IsL.update e f
  rw [hf] at q
  refine I.write (x:=l) (e:=l) (by rw [hH];exact trivial) (.inl rfl) (fun b' u hb hu=>(Heap.get?_update_other s.heap (Obj.mapSeq f) (Ne.symm hb)).trans hu) ⟨_,q⟩ ?_
  exact ⟨hz,its',_,hv,q⟩
theorem Inv.lnew {its:List Value}{t':Nat} (I:Inv X pins σ H s) (hv:Vals ys its) (hz:ys.length≤sizeLine) :
    Inv X pins σ (upd H s.heap.objs.size (.lst ys)) { s with heap:=s.heap.push { cls:=.type "list",data:=.seq its.toArray },toks:=t' }:=
  I.laid (fun _ _ q=>Heap.get?_push_of_some _ q) (Nat.le_refl _) ⟨hz,its,0,hv,Heap.get?_push_size _ rfl⟩
theorem Inv.fresh (I:Inv X pins σ H s):H s.heap.objs.size=none:=I.hok.fresh (Nat.le_refl _)
theorem Inv.lstM (I:Inv X pins σ H s) (hH:H l=some (.lst xs)):xs.length≤sizeLine∧∃ (its:List Value) (n:Nat),Vals xs its∧xs.length=its.length∧s.heap.get? l=some { cls:=.type "list",data:=.seq its.toArray n }:=by
  obtain ⟨z,its,n,r,e⟩:=I.hok l _ hH
  exact ⟨z,its,n,r,r.length,e⟩
theorem notLongL {n:Nat}(h:n≤sizeLine):Builtin.List.listTooLong n=false:=by
  unfold Builtin.List.listTooLong
  exact decide_eq_false (by omega)
end
section
variable {X:Cx}
noncomputable def rAppend:V→List V→Hp→VK→Prop:=fun x vs H Q=>∃ l xs y,x=.ref l∧vs=[y]∧H l=some (.lst xs)∧xs.length < sizeLine∧Q .non (upd H l (.lst (xs++[y])))
theorem mt_append:MtM X "list.append" rAppend:=by
  intro pins s σ H x vs v us Q I rx rv h
  obtain ⟨l,xs,y,rfl,rfl,hH,hz,q⟩:=h
  cases rx
  obtain ⟨u,rfl,ru⟩:=rv.one
  obtain ⟨z,its,n,r,hl,e⟩:=I.lstM hH
  refine call_meets F.slot_list_append ⟨_,e,rfl⟩ F.entry_list_append (F.args_list_append_2 _ _) (PySem.list_append l its.toArray n u (by rw [List.size_toArray];omega)) ⟨e,?_⟩
  refine ⟨.non,_,I.lset (its':=its++[u]) hH e (by simp) (r.append (.cons ru .nil)) ?_,rfl,q⟩
  rw [List.length_append,List.length_singleton]
  omega
noncomputable def rExtend:V→List V→Hp→VK→Prop:=fun x vs H Q=>∃ l b xs zs,x=.ref l∧vs=[.ref b]∧H l=some (.lst xs)∧H b=some (.lst zs)∧xs.length + zs.length≤sizeLine∧Q .non (upd H l (.lst (xs++zs)))
theorem mt_extend:MtM X "list.extend" rExtend:=by
  intro pins s σ H x vs v us Q I rx rv h
  obtain ⟨l,b,xs,zs,rfl,rfl,hH,hB,hz,q⟩:=h
  cases rx
  obtain ⟨u,rfl,ru⟩:=rv.one
  cases ru
  obtain ⟨z,its,n,r,hl,e⟩:=I.lstM hH
  obtain ⟨z2,its2,n2,r2,hl2,e2⟩:=I.lstM hB
  have hsz:its.toArray.size + its2.toArray.size≤sizeLine:=by rw [List.size_toArray,List.size_toArray];omega
  have hlong:¬ (!its.toArray.isEmpty && Builtin.List.listTooLong (its.toArray.size + its2.toArray.size))=true:=by
    rw [notLongL hsz,Bool.and_false]
    exact Bool.false_ne_true
  refine call_meets F.slot_list_extend ⟨_,e,rfl⟩ F.entry_list_extend (F.args_list_extend_2 _ _)
    (AutoSeq1.list_extend_list_list_0 l its.toArray n b its2.toArray n2 hlong (by rw [List.size_toArray];omega) (by omega)) ⟨e,e2,?_⟩
  refine ⟨.non,_,I.lset (its':=its++its2) hH e (by simp) (r.append r2) ?_,rfl,q⟩
  rw [List.length_append]
  omega
noncomputable def rPop:V→List V→Hp→VK→Prop:=fun x vs H Q=>∃ l xs y,x=.ref l∧vs=[]∧H l=some (.lst xs)∧xs[xs.length - 1]?=some y∧Q y (upd H l (.lst xs.dropLast))
theorem mt_pop:MtM X "list.pop" rPop:=by
  intro pins s σ H x vs v us Q I rx rv h
  obtain ⟨l,xs,y,rfl,rfl,hH,hy,q⟩:=h
  cases rx
  have hus:=rv.zero
  subst hus
  obtain ⟨z,its,n,r,hl,e⟩:=I.lstM hH
  obtain ⟨u,hu,ru⟩:=r.get hy
  have hy':its.toArray[its.toArray.size - 1]?=some u:=by
    show its.toArray[its.length - 1]?=some u
    rw [← Array.getElem?_toList,← hl]
    exact hu
  refine call_meets F.slot_list_pop ⟨_,e,rfl⟩ F.entry_list_pop (F.args_list_pop_1 _) (MeetsSeq.list_pop_last l its.toArray n u hy' (by rw [List.size_toArray];omega)) ⟨e,?_⟩
  refine ⟨y,_,I.lset (its':=its.dropLast) hH e ?_ r.dropLast ?_,ru,q⟩
  · show its.toArray.eraseIdxIfInBounds (its.toArray.size - 1)=its.dropLast.toArray
    rw [List.size_toArray,List.eraseIdxIfInBounds_toArray,erase_last]
  · rw [List.length_dropLast]
    omega
noncomputable def rPopAt:V→List V→Hp→VK→Prop:=fun x vs H Q=>∃ l xs i k y,x=.ref l∧vs=[.int i]∧H l=some (.lst xs)∧-(2 ^ 63)≤i∧i < 2 ^ 63∧seqIndex? i xs.length=some k∧xs[k]?=some y∧Q y (upd H l (.lst (xs.eraseIdx k)))
theorem mt_popAt:MtM X "list.pop" rPopAt:=by
  intro pins s σ H x vs v us Q I rx rv h
  obtain ⟨l,xs,i,k,y,rfl,rfl,hH,h1,h2,hk,hy,q⟩:=h
  cases rx
  obtain ⟨u,rfl,ru⟩:=rv.one
  obtain ⟨t,rfl⟩:=ru
  obtain ⟨z,its,n,r,hl,e⟩:=I.lstM hH
  obtain ⟨w,hw,rw'⟩:=r.get hy
  refine call_meets F.slot_list_pop ⟨_,e,rfl⟩ F.entry_list_pop (F.args_list_pop_2 _ _)
    (MeetsSeq.list_pop_at l its.toArray n i t k w (fitsIndex_both h1 h2) (by rw [List.size_toArray,← hl];exact hk) (by rw [← Array.getElem?_toList];exact hw) (by rw [List.size_toArray];omega)) ⟨e,?_⟩
  refine ⟨y,_,I.lset (its':=its.eraseIdx k) hH e ?_ (r.eraseIdx k) ?_,rw',q⟩
  · show its.toArray.eraseIdxIfInBounds k=(its.eraseIdx k).toArray
    rw [List.eraseIdxIfInBounds_toArray]
  · have:=len_erase xs k
    omega
noncomputable def rCat:R2:=fun x y H Q=>∃ l b xs zs,x=.ref l∧y=.ref b∧H l=some (.lst xs)∧H b=some (.lst zs)∧xs.length + zs.length≤sizeLine∧∀ p,H p=none→Q (.ref p) (upd H p (.lst (xs++zs)))
theorem op_cat:OpR X (binaryOp .Add) rCat:=by
  intro pins s σ H x y v u Q I rx ry h
  obtain ⟨l,b,xs,zs,rfl,rfl,hH,hB,hz,q⟩:=h
  cases rx
  cases ry
  obtain ⟨z,its,n,r,hl,e⟩:=I.lstM hH
  obtain ⟨z2,its2,n2,r2,hl2,e2⟩:=I.lstM hB
  refine PySem.P.add_list e e2 ?_ (by rw [List.size_toArray,List.size_toArray];omega)
  have ea:its.toArray++its2.toArray=(its++its2).toArray:=by simp
  rw [ea]
  exact ⟨.ref _,_,I.lnew (t':=s.toks) (r.append r2) (by rw [List.length_append];omega),rfl,q _ I.fresh⟩
end
section
variable {prog:Program}{w:World} {A:Around}{E:Value→Shared→Prop} {s:Shared}
end
section
variable {X:Cx}
end
end L2
namespace Att
open PySem PySem.W PySem.Calls PyProof.Rows
theorem ints_of_wellAll {P:Params}{h:Heap}:∀ (ns:List Int) (vs:List Value),WellAll P h vs (ns.map WData.int)→IntsAre vs ns:=by
  intro ns
  induction ns with
  | nil=>
    intro vs w
    rw [List.map_nil] at w
    cases w
    exact .nil
  | cons n ns ih=>
    intro vs w
    rw [List.map_cons] at w
    cases w with
    | cons a b=>
      cases a
      exact .cons _ _ (ih _ b)
theorem script_of {l:OpenLaw}{n:Nat} (hn:l.most=some n) {P:Params}{h:Heap} {args:List WData}{vals:List Value}
    (hpre:l.row.toRowW.claim.pre args=true) (hwl:WellAll P h vals args) :
    ∃ a vs ns,vals=[Value.ref a]∧args=[WData.list (ns.map WData.int)]∧h.get? a=some { cls:=.type "list",data:=.seq vs.toArray }∧IntsAre vs ns∧ns.length≤n:=by
  have hsh:WShape.hasAll [] args [.list .int]=true:=(pre_splitW hpre).1
  have hc:l.pre.holds [] { args:=args }=true:=(pre_splitW hpre).2
  obtain ⟨d,r,rfl,h1,h2⟩:=hasAllW_cons hsh
  obtain rfl:=hasAllW_nil h2
  obtain ⟨xs,rfl,h3⟩:=hasW_list h1
  obtain ⟨ns,rfl⟩:=items_int h3
  have hlen:ns.length≤n:=by
    unfold OpenLaw.pre at hc
    have h4:(WTm.not (.lt (.lit (.int (n:Int))) (.len (.arg 0)))).holds [] { args:=[.list (ns.map .int)] }=true:=by
      have h4:=(holds_andW hc).1
      rw [hn] at h4
      exact h4
    have h5:=condW_of h4 (w_not (w_lt w_lit (w_len_list (w_arg rfl))))
    rw [List.length_map] at h5
    refine Nat.le_of_not_lt fun q=>?_
    have q':(n:Int) < ((ns.length:Nat):Int):=by omega
    first
      | (rw [decide_eq_true q'] at h5;exact absurd h5 (by decide))
      | (simp at h5;omega)
  cases hwl with
  | cons w1 w2=>
    cases w2
    cases w1 with
    | list ho hall=>exact ⟨_,_,ns,rfl,rfl,ho,ints_of_wellAll ns _ hall,hlen⟩
theorem post_true (l:OpenLaw) (args:List WData):l.row.toRowW.claim.post args (.bool true) args=true:=
  postW_of (r:=l.row.toRowW) (X:=(true == true))
    (show WShape.has [] (.bool true) .bool=true by first | rfl | decide | simp [WShape.has,WShape.arms,WShape.armsAll])
    (show (WTm.eq .res (.lit (.bool true))).value [] { args:=args,res:=some (.bool true),after:=args }=some (.bool (true == true)) from w_eq_bool (w_res rfl) w_lit) rfl
theorem attach_call {l:OpenLaw}{n:Nat} {q:Program}{loose:List Str} {XP:(Str→Option Value)→Heap→Prop}{YP:World→Heap→Prop} {d:DefRec}
    (hn:l.most=some n) (hdf:d.params.defaults=[])
    (call:∀ (w:World) (s₀ s₁:Shared) (mg mb:Str→Option Value) (fa:Addr) (o:Obj) (pm cd doc:Value) (a:Addr) (vs:List Value) (ns:List Int),
      Ground q loose [] XP w s₀ mg mb s₁.heap→YP w s₁.heap→
      s₁.heap.get? fa=some o→o.data=.func (docDef d.name d.params d.body d.scope pm cd doc)→s₁.heap.CodeRec cd d.name→mg d.name=some (.ref fa)→
      s₁.heap.get? a=some { cls:=.type "list",data:=.seq vs.toArray }→IntsAre vs ns→ns.length≤n→s₁.gens=#[]→
      codeAny (model l.prog w) callerA (.call (.ref fa) ⟨[.ref a],[]⟩) (fun r s'=>r=.ok (.ret (.bool true))∧OldK s₁.heap s'.heap∧s'.os=s₁.os∧AllBare s'.gens) s₁) :
    WalkO q loose XP YP l.row.toRowW d [] (fun f vs=>PySem.call f vs):=by
  intro w s₀ s₁ mg mb G Y fa o pm cd doc dV kV ho hd hcd hD hmg hg args vals as hpre hlay hrd hwl hlo
  obtain rfl:dV=.none:=Dflts.none hD hdf
  obtain rfl:kV=.none:=Dflts.noKw hD
  obtain ⟨a,vs,ns,rfl,rfl,hobj,hints,hlen⟩:=script_of hn hpre hwl
  refine enter_call (codeAny_mono (call w s₀ s₁ mg mb fa o pm cd doc a vs ns G Y ho (fd_plain hd) hcd hmg hobj hints hlen hg) fun r s' hq=>?_)
  obtain ⟨rfl,h2,h3,h4⟩:=hq
  exact ⟨.inl ⟨.bool true,.bool true,[],rfl,fun _=>rfl,.bool true,post_true l _,fun _=>⟨List.Pairwise.nil,fun _ hm=>(nomatch hm)⟩⟩,h2,h3,h4⟩
section
variable {prog:Program}{w:World} {A:Around}{E:Value→Shared→Prop} {s:Shared}{K:Frag}
end
end Att
namespace L2
open PySem PySem.Spec PyProof.Rows
theorem vals_ints:∀ {vs:List Value}{ns:List Int},IntsAre vs ns→Vals (ns.map V.int) vs
  | _,_,.nil=>.nil
  | _,_,.cons n t h=>.cons ⟨t,rfl⟩ (vals_ints h)
noncomputable def Only (H:Hp):Prop:=∀ b,H b=none∨∃ o xs,H b=some (.frz o (.lst xs))
theorem law_call {P:Program}{w:World} {K:PySem.W.Frag}{mg mb:Str→Option Value} {CX:CXT}{k:Nat} {fa a:Addr}{fd:FuncData} {x:Str}{sp:Sp} {s₁:Shared}{vs:List Value} {ns:List Int}
    (KX:K.In s₁.heap) (hns:s₁.heap.Ns mainGlobals mg) (hb:s₁.heap.Ns builtinsNs mb) (hbb:∀ x:Str,x ≠ "__name__" → mb x=bootBuiltins x) (hlim:s₁.heap.NoLimit) (hg:s₁.gens=#[])
    (ha:s₁.heap.get? a=some { cls:=.type "list",data:=.seq vs.toArray }) (hi:IntsAre vs ns) (hl:ns.length≤sizeLine) (hr:Room k callerA)
    (F:∀ base:Heap,K.In base→base.Ns mainGlobals mg→FnOk P w K mg base CX k fa fd [x] sp) (hbind:∀ (s:Shared) (u:Value),BindsTo s fd ⟨[u],[]⟩ [(x,u)])
    (hsp:∀ H:Hp,Only H→SqL K H a (ns.map V.int)→sp [.ref a] H (fun v _=>v=.bl true) fun _ _ _=>False)
    (hCX:∀ H e s',CX [] H s₁ (fun _ _ _=>False) e s'→False) :
    codeAny (model P w) callerA (.call (.ref fa) ⟨[.ref a],[]⟩) (fun r s'=>r=.ok (.ret (.bool true))∧OldK s₁.heap s'.heap∧s'.os=s₁.os∧AllBare s'.gens) s₁:=by
  have rv:=vals_ints hi
  have lenV:=hi.length
  have core:∀ H:Hp,Only H→SqL K H a (ns.map V.int)→HOk P w H s₁.heap→(∀ b,H b≠none→b=a)→(H a≠none→K.lookup a=none)→
      codeAny (model P w) callerA (.call (.ref fa) ⟨[.ref a],[]⟩) (fun r s'=>r=.ok (.ret (.bool true))∧OldK s₁.heap s'.heap∧s'.os=s₁.os∧AllBare s'.gens) s₁:=by
    intro H hO hS hok hA hK
    have base_of:∀ {b:Addr}{o:Obj},s₁.heap.get? b=some o→H b=none→(hidT s₁.heap H).get? b=some o:=fun e n=>hidT_get e n
    have noA:∀ {b:Addr}{o:Obj} {es:Array DictEntry}{ep:Nat},s₁.heap.get? b=some o→o.data=.dict es ep→H b=none:=fun {b o es ep} e d=>by
      cases q:H b with
      | none=>rfl
      | some u=>
        have e':b=a:=hA b (by rw [q];simp)
        subst e'
        rw [ha] at e;cases e
        have d':Data.seq vs.toArray _=Data.dict es ep:=d
        cases d'
    have nsK:∀ {b:Addr}{m:Str→Option Value},s₁.heap.Ns b m→(hidT s₁.heap H).Ns b m:=fun {b m} ⟨o,es,ep,e,d,r⟩=>⟨o,es,ep,base_of e (noA e d),d,r⟩
    have hKb:K.In (hidT s₁.heap H):=fun b o e=>base_of (KX b o e) (by
      cases q:H b with
      | none=>rfl
      | some u=>
        have e':b=a:=hA b (by rw [q];simp)
        subst e'
        rw [hK (by rw [q];simp)] at e;cases e)
    have hM:Mod K mg (hidT s₁.heap H):=⟨hKb,nsK hns,⟨mb,nsK hb,hbb⟩,let ⟨mc,h1,h2⟩:=hlim;⟨mc,nsK h1,h2⟩⟩
    have e0:Env0 P w K mg (hidT s₁.heap H) callerA [] s₁ H:=⟨rfl,hM,fun b o e=>of_hidT e,Nat.le_of_eq (hidT_size _ _),trivial,fun b hb=>absurd (show b∈([]:List Addr) from hb) (by simp),hok,.of_eq hg⟩
    refine codeAny_mono ((F _ hKb (nsK hns)).run callerA [] s₁ H ⟨[.ref a],[]⟩ [.ref a] [.ref a] _ _ hr e0 (hbind s₁ (.ref a)) (.cons rfl .nil) (hsp H hO hS)) fun r s' h=>?_
    cases r with
    | error e=>exact (hCX H e s' h).elim
    | ok fl=>
      cases fl with
      | next=>exact False.elim h
      | brk=>exact False.elim h
      | cont=>exact False.elim h
      | ret u=>
        obtain ⟨v,H',os,bare,un,hok',r',q⟩:=h
        have q':v=.bl true:=q
        subst q'
        obtain rfl:u=Value.bool true:=r'
        refine ⟨rfl,OldK.of_keep fun b o e=>?_,os,bare⟩
        cases q:H b with
        | none=>exact un.keep b o e q (by intro z;exact absurd (show b∈([]:List Addr) from z) (by simp)) (by simp)
        | some u=>
          rcases hO b with z | ⟨ob,xs,z⟩
          · rw [q] at z;cases z
          · have z2:=un.frzs b ob _ z
            obtain ⟨e1,_⟩:=hok b _ z
            obtain ⟨e2,_⟩:=hok' b _ z2
            rw [e] at e1;cases e1
            exact e2
  cases hk:K.lookup a with
  | some o=>
    have e:=KX a o hk
    rw [ha] at e
    cases e
    refine core (fun _=>none) (fun _=>.inl rfl) (.inr ⟨_,vs.toArray,_,hk,rfl,rfl,rfl,by rw [List.size_toArray,lenV];exact hl,by simpa using rv⟩) (fun b u z=>by have z':(none:Option HO)=some u:=z;cases z') (fun b z=>absurd rfl z) fun z=>absurd rfl z
  | none=>
    refine core (fun b=>if b=a then some (.frz { cls:=.type "list",data:=.seq vs.toArray } (.lst (ns.map V.int))) else none) (fun b=>?_) (.inl (.inr ⟨{ cls:=.type "list",data:=.seq vs.toArray },if_pos rfl⟩)) (fun b u z=>?_) (fun b z=>?_) fun _=>hk
    · by_cases hb:b=a
      · exact .inr ⟨_,_,if_pos hb⟩
      · exact .inl (if_neg hb)
    · by_cases hb:b=a
      · have z':=(if_pos hb).symm.trans z
        cases z'
        subst hb
        exact ⟨ha,by rw [List.length_map];exact hl,vs,_,rv,ha⟩
      · have z':=(if_neg hb).symm.trans z
        cases z'
    · by_cases hb:b=a
      · exact hb
      · exact absurd (if_neg hb) z
end L2
namespace L2
open PySem PySem.Spec PyProof.Rows
theorem walk_of {l:PySem.W.OpenLaw}{n k:Nat} {q:Program}{loose:List Str} {XP:(Str→Option Value)→Heap→Prop}{YP:World→Heap→Prop} {d:DefRec}{K:Params→PySem.W.Frag} {CX:World→CXT}{sp:World→Sp} {x:Str}
    (hn:l.most=some n) (hn2:n≤sizeLine) (hdf:d.params.defaults=[]) (hr:Room k callerA)
    (hY:∀ (w:World) (h:Heap),YP w h→(K w.params).In h)
    (F:∀ (w:World) (mg:Str→Option Value) (fa:Addr) (h:Heap),(K w.params).In h→h.Ns mainGlobals mg→mg d.name=some (.ref fa)→
      ∃ fd:FuncData,(∀ (s:Shared) (u:Value),BindsTo s fd ⟨[u],[]⟩ [(x,u)])∧
        ∀ base:Heap,(K w.params).In base→base.Ns mainGlobals mg→FnOk l.prog w (K w.params) mg base (CX w) k fa fd [x] (sp w))
    (hsp:∀ (w:World) (H:Hp) (a:Addr) (ns:List Int),ns.length≤n→Only H→SqL (K w.params) H a (ns.map V.int)→sp w [.ref a] H (fun v _=>v=.bl true) fun _ _ _=>False)
    (hCX:∀ (w:World) (H:Hp) (s:Shared) (e:Value) (s':Shared),CX w [] H s (fun _ _ _=>False) e s'→False) :
    PySem.W.WalkO q loose XP YP l.row.toRowW d [] (fun f vs=>PySem.call f vs):=by
  refine Att.attach_call hn hdf fun w s₀ s₁ mg mb fa o pm cd doc a vs ns G Y ho hd hcd hmg hobj hints hlen hg=>?_
  have KX:=hY w _ Y
  obtain ⟨fd,hb,hF⟩:=F w mg fa _ KX G.T.g hmg
  exact law_call KX G.T.g G.T.b G.T.builtins G.T.nolimit hg hobj hints (Nat.le_trans hlen hn2) hr hF hb (fun H hO hS=>hsp w H a ns hlen hO hS) fun H e s'=>hCX w H s₁ e s'
end L2
/- THE LAST THEOREM (shape;LID,My.* are yours):
   My.Adr: a structure of the addresses that your layer names (classes,functions);My.Txt K t: a structure (Prop) of the equations over K;
   My.txt_mk:{K} {implicit addresses ..} (e1:nsIn K mainGlobals "law" = some (some (.ref f))) (e2:K.lookup f=some ⟨oc,od,.func (fnOf "law" "law" params body scope dV kV doc pm an cdv ct),sl⟩) (e3:codeIn K cdv "law" = true) ..:∃ t,My.Txt K t
set_option maxRecDepth 100000 in
set_option maxHeartbeats 0 in
theorem PySem.Challenge.cw_LID_holds:PySem.Challenge.rw_LID.Holds:=by
  w_on;o_law;k_head;(case hw=>w_witness2)
  k_fill
  refine L2.walk_of (l:=PySem.Challenge.rw_LID) (n:=63) (k:=40) (x := "script") (CX:=fun w=>..) (sp:=fun _=>My.sp_law) rfl (by decide) rfl ⟨rfl,by decide,by decide⟩ (fun w h Y=>PySem.W.kIn_of Y) ?F ?S ?C
  case F=>
    intro w mg fa h KX G hmg
    have T:∃ t,My.Txt (L2.KOf KX) t:=by
      dsimp only [L2.KOf]                          -- K must stand as «<heap const> w.params» for k_is
      refine' My.txt_mk ?e1 ?e2 ?e3 ..
      (case e1=>PySem.W.k_is)                    -- in the order: a name -> its address -> its object -> its parts
      (case e2=>PySem.W.k_is)
      ..
    obtain ⟨t,T⟩:=T
    have e0:=hmg.symm.trans (PySem.W.mg_of KX G T.law)
    cases e0                                       -- fa is the law's own address
    exact ⟨_,fun s u=>.of_eq rfl,fun base kb nb=>My.law_fn T kb nb⟩     -- if «.of_eq rfl» comes too early: refine' ⟨_,?b,fun base kb nb=>My.law_fn T kb nb⟩;exact fun s u=>.of_eq rfl
  case S=>exact fun w H a ns hl hO hS=>..
  case C=>exact ..
(the tactic k_is has no namespace: write k_is) -/
namespace L2
open PySem PySem.Spec PyProof.Rows
noncomputable def defArgs (s:Stmt):Arguments:=match s with
  | .FunctionDef _ a _ _ _ _ _ _ _ _=>a
  | _=>{ posonlyargs:=[],args:=[],vararg:=none,kwonlyargs:=[],kw_defaults:=[],kwarg:=none,defaults:=[] }
noncomputable def defBody (s:Stmt):List Stmt:=match s with
  | .FunctionDef _ _ b _ _ _ _ _ _ _=>b
  | _=>[]
noncomputable def defScope (s:Stmt):Scope:=match s with
  | .FunctionDef _ _ _ _ _ _ sc _ _ _=>sc
  | _=>{ kind:=.function,names:=[],isGenerator:=false,isCoroutine:=false }
noncomputable abbrev CX0:CXT:=fun _ _ _ _ _ _=>False
noncomputable abbrev E0:XK:=fun _ _ _=>False
theorem pass0 {X:Cx}:Passes CX0 X E0:=fun _ _ _ _ _ _ _ h=>h.elim
structure Fun (K:PySem.W.Frag) (x qual:Str) (st:Stmt) (f:Addr) (fd:FuncData):Prop where
  ex:∃ (oc:Value) (od:Option Addr) (kV doc pm:Value) (an:Option Addr) (cdv ct:Value) (osl:Array (Option Value)),
    fd=PySem.W.fnOf x qual (defArgs st) (defBody st) (defScope st) .none kV doc pm an cdv ct∧K.lookup f=some ⟨oc,od,.func fd,osl⟩∧PySem.W.codeIn K cdv qual=true
  kp:PySem.W.keepIn K (.ref f)=true
section
variable {P:Program}{w:World} {K:PySem.W.Frag}{mg:Str→Option Value} {base:Heap}
theorem Fun.ok {x qual:Str}{st:Stmt} {f:Addr}{fd:FuncData} {N ps:List Str}{k:Nat} {sp:Sp}(F:Fun K x qual st f fd) (S:FnScope N ps (defScope st)) (len:∀ vs H Q E,sp vs H Q E→vs.length=ps.length)
    (hbody:∀ (cdv:Value) (A:Around) (outer:List Env) (s:Shared) (H:Hp) (vs:List V) (Q:VK) (E:XK),Room k (A.deeper (envOfC qual (defScope st) s.heap.objs.size f cdv))→sp vs H Q E→
      ∃ t,PSs (cxOf CX0 P w K mg base N qual (defScope st) f cdv A outer s H E).nox (defBody st) t∧t { nx:=fun _ H'=>Q .non H',rt:=Q } (start N vs) H):FnOk P w K mg base CX0 (k + 1) f fd ps sp:=by
  obtain ⟨oc,od,kV,doc,pm,an,cdv,ct,osl,rfl,lk,hcd⟩:=F.ex
  refine fn_of lk hcd S len fun A outer s H vs Q E hr hsp=>?_
  obtain ⟨t,h,q⟩:=hbody cdv A outer s H vs Q E hr hsp
  exact ⟨t,h.nox,q⟩
theorem Fun.binds {x qual:Str}{st:Stmt} {f:Addr}{fd:FuncData} {ps:List Str}(F:Fun K x qual st f fd)
    (h:∀ (kV doc pm:Value) (an:Option Addr) (cdv ct:Value) (us:List Value),us.length=ps.length→bindArgs (PySem.W.fnOf x qual (defArgs st) (defBody st) (defScope st) .none kV doc pm an cdv ct) ⟨us,[]⟩=pure (ps.zip us)):Binds K fd ps []:=by
  obtain ⟨oc,od,kV,doc,pm,an,cdv,ct,osl,rfl,lk,hcd⟩:=F.ex
  exact .all (h kV doc pm an cdv ct)
theorem fun_mk {x qual:Str}{st:Stmt} {f:Addr}{oc:Value} {od an:Option Addr}{osl:Array (Option Value)} {kV doc pm cdv ct:Value}(l:K.lookup f=some ⟨oc,od,.func (PySem.W.fnOf x qual (defArgs st) (defBody st) (defScope st) .none kV doc pm an cdv ct),osl⟩)
    (c:PySem.W.codeIn K cdv qual=true) (k:PySem.W.keepIn K (.ref f)=true):Fun K x qual st f (PySem.W.fnOf x qual (defArgs st) (defBody st) (defScope st) .none kV doc pm an cdv ct):=⟨⟨oc,od,kV,doc,pm,an,cdv,ct,osl,rfl,l,c⟩,k⟩
end
section
variable {X:Cx}
end
theorem iteF {A B:Prop}(h:B):if false=true then A else B:=by
  rw [if_neg Bool.false_ne_true]
  exact h
theorem iteT {A B:Prop}(h:A):if true=true then A else B:=by
  rw [if_pos rfl]
  exact h
noncomputable def Same (H H':Hp):Prop:=∀ b o,H b=some o→H' b=some o
theorem Same.refl (H:Hp):Same H H:=fun _ _ h=>h
theorem Same.trans {H H1 H2:Hp}(a:Same H H1) (b:Same H1 H2):Same H H2:=fun c o h=>b c o (a c o h)
theorem Same.free {H H':Hp}(e:Same H H') {l:Addr}(h:H' l=Option.none):H l=Option.none:=by
  cases q:H l with
  | none=>rfl
  | some o=>
    rw [e l o q] at h
    cases h
theorem Same.seq {K:PySem.W.Frag}{H H':Hp} {a:Addr}{xs:List V} (e:Same H H') (h:SqL K H a xs):SqL K H' a xs:=by
  rcases h with (h | ⟨o,h⟩) | h
  · exact .inl (.inl (e _ _ h))
  · exact .inl (.inr ⟨o,e _ _ h⟩)
  · exact .inr h
end L2
set_option Elab.async false
set_option linter.all false
set_option maxRecDepth 100000
namespace L2
open PySem PySem.Spec PyProof.Rows
noncomputable def clOf (env:Env):List (Str×NameKind)→List (Str×Addr)→List (Str×Addr)
  | [],acc=>acc
  | (n,k)::r,acc=>clOf env r (if k=.free then (n,(env.cells.lookup n).getD 0)::acc else acc)
theorem closure_eq {env:Env}{scope:Scope} (h:∀ y∈scope.names,y.2=.free→∃ c,env.cells.lookup y.1=some c):closureFor scope env=pure (clOf env scope.names []):=by
  unfold closureFor
  have go:∀ (l:List (Str×NameKind)) (acc:List (Str×Addr)),(∀ y∈l,y.2=.free→∃ c,env.cells.lookup y.1=some c)→
      (forIn l acc (fun (x:Str×NameKind) (r:List (Str×Addr))=>(match x with | (name,kind)=>if (kind == .free)=true then (do let c ← cellOf env name;pure (ForInStep.yield ((name,c)::r))) else (pure (ForInStep.yield r)):Sem (ForInStep (List (Str×Addr))))):Sem (List (Str×Addr)))=pure (clOf env l acc):=by
    intro l
    induction l with
    | nil=>intro acc _;rfl
    | cons a r ih=>
      intro acc hl
      obtain ⟨n,k⟩:=a
      have hr:∀ y∈r,y.2=.free→∃ c,env.cells.lookup y.1=some c:=fun y hy=>hl y (List.mem_cons_of_mem _ hy)
      rw [List.forIn_cons]
      by_cases hk:k=.free
      · subst hk
        obtain ⟨c,hc⟩:=hl (n,.free) List.mem_cons_self rfl
        simp only [clOf,if_true]
        have e:cellOf env n=pure c:=by unfold cellOf;rw [show env.cells.lookup n=some c from hc]
        simp only [e,beq_self_eq_true,if_true,pure_bind]
        rw [show env.cells.lookup n=some c from hc]
        exact ih _ hr
      · have hb:(k == NameKind.free)=false:=by simpa using hk
        simp only [clOf,if_neg hk,hb,Bool.false_eq_true,if_false,pure_bind]
        exact ih _ hr
  have:=go scope.names [] h
  simpa using this
theorem clOf_sub {env:Env}:∀ (l:List (Str×NameKind)) (acc:List (Str×Addr)),(∀ y∈l,y.2=.free→∃ c,env.cells.lookup y.1=some c)→(∀ x c,acc.lookup x=some c→env.cells.lookup x=some c)→
    ∀ x c,(clOf env l acc).lookup x=some c→env.cells.lookup x=some c
  | [],_,_,ha=>ha
  | (n,k)::r,acc,hl,ha=>by
    refine clOf_sub r _ (fun y hy=>hl y (List.mem_cons_of_mem _ hy)) ?_
    intro x c hx
    by_cases hk:k=.free
    · rw [if_pos hk,List.lookup_cons] at hx
      obtain ⟨c',hc⟩:=hl (n,k) List.mem_cons_self hk
      cases e:x == n with
      | true=>
        rw [e] at hx
        have ex:x=n:=eq_of_beq e
        subst ex
        have hc':env.cells.lookup x=some c':=hc
        rw [hc'] at hx ⊢
        exact hx
      | false=>rw [e] at hx;exact ha x c hx
    · rw [if_neg hk] at hx;exact ha x c hx
theorem clOf_has {env:Env}:∀ (l:List (Str×NameKind)) (acc:List (Str×Addr)) (x:Str),((x,NameKind.free)∈l∨∃ c,acc.lookup x=some c)→∃ c,(clOf env l acc).lookup x=some c
  | [],_,x,h=>by
    rcases h with h | h
    · cases h
    · exact h
  | (n,k)::r,acc,x,h=>by
    refine clOf_has r _ x ?_
    rcases h with h | ⟨c,h⟩
    · rcases List.mem_cons.mp h with h | h
      · cases h
        refine .inr ⟨(env.cells.lookup n).getD 0,?_⟩
        rw [if_pos rfl,List.lookup_cons]
        simp
      · exact .inl h
    · by_cases hk:k=.free
      · rw [if_pos hk]
        cases e:x == n with
        | true=>exact .inr ⟨(env.cells.lookup n).getD 0,by rw [List.lookup_cons,e]⟩
        | false=>exact .inr ⟨c,by rw [List.lookup_cons,e];exact h⟩
      · rw [if_neg hk];exact .inr ⟨c,h⟩
theorem relabel_free {env:Env}{names:List (Str×NameKind)} (hc:∀ y∈names,y.2≠.cell) {x:Str}{k:NameKind} (hk:k=.cell∨k=.free)
    (h:(names.map fun (p:Str×NameKind)=>if (p.2 == NameKind.free && env.scope.kind == .function && env.kindOf p.1 == some .cell) then (p.1,NameKind.cell) else (p.1,p.2)).lookup x=some k):(x,NameKind.free)∈names:=by
  obtain ⟨⟨n,k0⟩,hm,e⟩:=List.mem_map.mp (PySem.mem_of_lookup h)
  have n0:=hc _ hm
  simp only at e n0
  by_cases hq:(k0 == NameKind.free && env.scope.kind == .function && env.kindOf n == some .cell)=true
  · rw [if_pos hq] at e
    simp only [Bool.and_eq_true] at hq
    have:k0=.free:=eq_of_beq hq.1.1
    subst this
    cases e
    exact hm
  · rw [if_neg hq] at e
    cases e
    rcases hk with rfl | rfl
    · exact absurd rfl n0
    · exact hm
noncomputable def cxComp (X:Cx) (N:List Str) (scope:Scope) (cl:List (Str×Addr)) (C:Addr) (s0:Shared) (H0:Hp) (fp:List Addr):Cx:=
  { prog:=X.prog,w:=X.w,K:=X.K,mg:=X.mg,base:=X.base,A:=X.A,N:=N,s₀:=s0,H₀:=H0,env:=compEnvC scope cl C X.env,outer:=X.stack,stack:=X.stack,ex:=fp,fn:=fun _=>false,calm:=X.calm,pn:=[],xe:=fun _ _=>False }
inductive Cap (X:Cx) (scope:Scope):List Str→List (Option Nat)→Prop
  | nil:Cap X scope [] []
  | own {x N c}:Cap X scope N c→Cap X scope (x::N) (none::c)
  | cap {x j N c} (h:Cap X scope N c) (h1:X.N[j]?=some x:=by rfl) (h2:scope.names.lookup x=some .free:=by rfl) (h3:X.env.kindOf x=some .cell∨X.env.kindOf x=some .free:=by first | exact Or.inl rfl | exact Or.inr rfl) :
      Cap X scope (x::N) (some j::c)
theorem Cap.len {X:Cx}{scope:Scope} {N:List Str}{c:List (Option Nat)} (h:Cap X scope N c):c.length=N.length:=by
  induction h with
  | nil=>rfl
  | own _ ih=>simp [ih]
  | cap _ _ _ _ ih=>simp [ih]
theorem Cap.get {X:Cx}{scope:Scope} {N:List Str}{c:List (Option Nat)} (h:Cap X scope N c):∀ {i j:Nat}{x:Str},c[i]?=some (some j)→N[i]?=some x→
    X.N[j]?=some x∧scope.names.lookup x=some .free∧(X.env.kindOf x=some .cell∨X.env.kindOf x=some .free):=by
  induction h with
  | nil=>intro i j x h;simp at h
  | own _ ih=>
    intro i j x h1 h2
    cases i with
    | zero=>simp at h1
    | succ i=>exact ih (by simpa using h1) (by simpa using h2)
  | cap _ a b d ih=>
    intro i j x h1 h2
    cases i with
    | zero=>simp at h1 h2;subst h1 h2;exact ⟨a,b,d⟩
    | succ i=>exact ih (by simpa using h1) (by simpa using h2)
noncomputable def st0 (cap:List (Option Nat)) (σ:St):St:=cap.map fun o=>match o with
  | some j=>(σ[j]?).getD none
  | none=>none
structure CompSc (X:Cx) (scope:Scope):Prop where
  kind:scope.kind=.function
  cells:∀ y∈scope.names,y.2≠.cell
  names:∀ y∈scope.names,y.2=.local→scope.names.lookup y.1=some .local
  free:∀ y∈scope.names,y.2=.free→X.env.kindOf y.1=some .cell∨X.env.kindOf y.1=some .free
theorem CompSc.mk' {X:Cx}{scope:Scope} (h1:scope.kind=.function:=by rfl) (h2:(scope.names.all fun y=>decide (y.2≠.cell))=true:=by rfl)
    (h3:(scope.names.all fun y=>decide (y.2≠.local) || decide (scope.names.lookup y.1=some .local))=true:=by rfl)
    (h4:(scope.names.all fun y=>decide (y.2≠.free) || (decide (X.env.kindOf y.1=some .cell) || decide (X.env.kindOf y.1=some .free)))=true:=by rfl):CompSc X scope where
  kind:=h1
  cells:=fun y hy=>of_decide_eq_true (List.all_eq_true.mp h2 y hy)
  names:=fun y hy hl=>by
    have:=List.all_eq_true.mp h3 y hy
    rw [Bool.or_eq_true] at this
    rcases this with z | z
    · exact absurd hl (of_decide_eq_true z)
    · exact of_decide_eq_true z
  free:=fun y hy hl=>by
    have:=List.all_eq_true.mp h4 y hy
    rw [Bool.or_eq_true,Bool.or_eq_true] at this
    rcases this with z | z | z
    · exact absurd hl (of_decide_eq_true z)
    · exact .inl (of_decide_eq_true z)
    · exact .inr (of_decide_eq_true z)
section
variable {X:Cx}{pins:List (Addr×Obj)} {σ:St}{H H3:Hp} {s s3:Shared}{N:List Str} {cap:List (Option Nat)}{scope:Scope} {fp:List Addr}{C:Addr}
theorem CompSc.cellsOf (S:CompSc X scope) (ok:X.Ok):∀ y∈scope.names,y.2=.free→∃ c,X.env.cells.lookup y.1=some c:=fun y hy hf=>ok.has y.1 (S.free y hy hf)
theorem comp_ok (S:CompSc X scope) (I3:Inv X pins σ H3 s3) (f3:∀ b∈fp,FpOk X pins H3 b) (hfp:∀ b∈fp,b < s3.heap.objs.size) (hC:s3.heap.objs.size≤C) :
    (cxComp X N scope (clOf X.env scope.names []) C s3 H3 fp).Ok:=by
  have sub:=clOf_sub (env:=X.env) scope.names [] (S.cellsOf I3.ok) (fun x c h=>by simp at h)
  refine ⟨I3.ok.mod,S.kind,I3.ok.glob,I3.ok.blt,hC,fun x y c h1 h2=>I3.ok.inj x y c (sub x c h1) (sub y c h2),fun x hx=>?_,fun x c h=>absurd (show false=true from h) Bool.false_ne_true,I3.ok.hd,I3.ok.frames,.inl rfl,fun b hb=>⟨?_,fun x c h=>?_⟩,
    I3.bs,Nat.le_trans I3.ok.bsz I3.sz,fun b o e hb=>?_,fun b hb=>?_,I3.stack,I3.stkFree⟩
  · refine clOf_has scope.names [] x (.inl ?_)
    rcases hx with hx | hx
    · exact relabel_free S.cells (.inl rfl) hx
    · exact relabel_free S.cells (.inr rfl) hx
  · exact Nat.ne_of_lt (Nat.lt_of_lt_of_le (hfp b hb) hC)
  · exact (f3 b hb).2.2.2.2.1 x c (sub x c h)
  · obtain ⟨_,_,_,h,_⟩:=f3 b hb
    rcases h with h | h
    · exact I3.ok.noex b o e h
    · exact absurd (Nat.lt_of_lt_of_le (Heap.lt_size e) (Nat.le_trans I3.ok.bsz h)) (Nat.lt_irrefl _)
  · intro hz
    obtain ⟨_,h1,h2,_⟩:=f3 b hb
    rcases List.mem_cons.mp (I3.stkSub b hz) with z | z
    · exact h1 z
    · exact h2 z
theorem inv_comp (S:CompSc X scope) (cp:Cap X scope N cap) (I3:Inv X pins σ H3 s3) (f3:∀ b∈fp,FpOk X pins H3 b) (hfp:∀ b∈fp,b < s3.heap.objs.size) (hC:s3.heap.objs.size≤C) (os:s.os=s3.os) (bare:AllBare s.gens)
    (un:Un (frs X.stack) fp H3 H s3.heap s.heap) (ns:∃ m,s.heap.Ns C m) (fC:H C=none) (hok:HOk X.prog X.w H s.heap) :
    Inv (cxComp X N scope (clOf X.env scope.names []) C s3 H3 fp) [] (st0 cap σ) H s:=by
  have sub:=clOf_sub (env:=X.env) scope.names [] (S.cellsOf I3.ok) (fun x c h=>by simp at h)
  have cellK:∀ x c,X.env.cells.lookup x=some c→∀ v,s3.heap.IsCell c v→s.heap.IsCell c v:=fun x c e v ⟨o,ho,hd⟩=>by
    obtain ⟨sl,q⟩:=un.any ho (I3.freeC x c e) fun z=>(f3 c z).2.2.2.2.1 x c e rfl
    exact ⟨_,q,hd⟩
  obtain ⟨m,hm⟩:=ns
  refine ⟨comp_ok S I3 f3 hfp hC,os,bare,un,⟨m,hm,fun i x v h1 h2 h3=>?_⟩,fun x c h=>?_,fC,fun x c h=>?_,fun p hp=>absurd (show p∈([]:List (Addr×Obj)) from hp) (by simp),hok,?_⟩
  · unfold st0 at h2
    rw [List.getElem?_map] at h2
    cases e:cap[i]? with
    | none=>rw [e] at h2;cases h2
    | some o=>
      rw [e] at h2
      cases o with
      | none=>simp at h2
      | some j=>
        obtain ⟨a1,a2,a3⟩:=cp.get e h1
        simp only [Option.map_some] at h2
        have h2':(σ[j]?).getD none=some v:=Option.some.inj h2
        have h2'':σ[j]?=some (some v):=by
          cases q:σ[j]? with
          | none=>rw [q] at h2';cases h2'
          | some z=>rw [q] at h2';simp at h2';rw [h2']
        obtain ⟨m0,_,hl⟩:=I3.loc
        have vis:Vis X.env.scope x:=by
          rcases a3 with z | z
          · exact .inr (.inl z)
          · exact .inr (.inr z)
        obtain ⟨u,r,l⟩:=hl j x v a1 h2'' vis
        refine ⟨u,r,?_⟩
        rcases l with ⟨k,_⟩ | ⟨_,c,e1,z⟩
        · rcases a3 with q | q
          · rw [q] at k;cases k
          · rw [q] at k;cases k
        · obtain ⟨c',hc'⟩:=clOf_has (env:=X.env) scope.names [] x (.inl (PySem.mem_of_lookup a2))
          have:=sub x c' hc'
          rw [e1] at this
          cases this
          refine .inr ⟨?_,c,hc',cellK x c e1 _ z⟩
          have vis2:(cxComp X N scope (clOf X.env scope.names []) C s3 H3 fp).env.kindOf x=some .local∨(cxComp X N scope (clOf X.env scope.names []) C s3 H3 fp).env.kindOf x=some .cell∨(cxComp X N scope (clOf X.env scope.names []) C s3 H3 fp).env.kindOf x=some .free:=h3
          rcases vis2 with z1 | z1
          · -- a local name of the block is not free there
            exfalso
            have z2:(scope.names.map fun (p:Str×NameKind)=>if (p.2 == NameKind.free && X.env.scope.kind == .function && X.env.kindOf p.1 == some .cell) then (p.1,NameKind.cell) else (p.1,p.2)).lookup x=some .local:=z1
            have key:∀ l:List (Str×NameKind),l.lookup x=some .free→(l.map fun (p:Str×NameKind)=>if (p.2 == NameKind.free && X.env.scope.kind == .function && X.env.kindOf p.1 == some .cell) then (p.1,NameKind.cell) else (p.1,p.2)).lookup x≠some .local:=by
              intro l
              induction l with
              | nil=>intro h;simp at h
              | cons p l ih=>
                obtain ⟨n,k⟩:=p
                intro h
                rw [List.map_cons]
                cases ex:x == n with
                | true=>
                  rw [List.lookup_cons,ex] at h
                  cases h
                  intro q
                  by_cases hq:((NameKind.free == NameKind.free) && X.env.scope.kind == .function && X.env.kindOf n == some .cell)=true
                  · rw [if_pos hq,List.lookup_cons,ex] at q;cases q
                  · rw [if_neg hq,List.lookup_cons,ex] at q;cases q
                | false=>
                  rw [List.lookup_cons,ex] at h
                  intro q
                  by_cases hq:((k == NameKind.free) && X.env.scope.kind == .function && X.env.kindOf n == some .cell)=true
                  · rw [if_pos hq,List.lookup_cons,ex] at q;exact ih h q
                  · rw [if_neg hq,List.lookup_cons,ex] at q;exact ih h q
            exact key _ a2 z2
          · exact z1
  · obtain ⟨v,z⟩:=I3.cell x c (sub x c h)
    exact ⟨v,cellK x c (sub x c h) v z⟩
  · obtain ⟨v,o,ho,_⟩:=I3.cell x c (sub x c h)
    exact un.free c o ho (I3.freeC x c (sub x c h)) fun z=>(f3 c z).2.2.2.2.1 x c (sub x c h) rfl
  · show (st0 cap σ).length=N.length
    unfold st0
    rw [List.length_map];exact cp.len
end
noncomputable def PIf (Y:Cx) (ifs:List Expr) (t:TT):Prop:=
  ∀ (pins:List (Addr×Obj)) (s:Shared) (σ:St) (H:Hp) (Q:Bool→Hp→Prop),Inv Y pins σ H s→t σ H Q→
    wpAny (model Y.prog Y.w) Y.A (forIn ifs true fun c r=>if r=true then do let ok ← isTrue c Y.env (eval c Y.env);pure (ForInStep.yield ok) else pure (ForInStep.yield r)) (TP Y pins σ Q) Y.xe s
noncomputable def tYes:TT:=fun _ H Q=>Q true H
theorem pif_nil {Y:Cx}:PIf Y [] tYes:=fun _ _ _ H _ I h=>wpAny_tests_nil ⟨H,I,h⟩
theorem pif_one {Y:Cx}{c:Expr} {t:TT}(h:PT Y c t):PIf Y [c] t:=fun pins s σ H Q I hw=>wpAny_tests_one (h pins s σ H Q I hw)
section
variable {X:Cx}{pins:List (Addr×Obj)} {σ:St}{N:List Str} {cap:List (Option Nat)}{scope:Scope} {tg iter elt:Expr}{ifs:List Expr} {pos:Pos}{g:TG} {tt:TT}{te:TE}
noncomputable abbrev TAct:=St→Hp→(Hp→Prop)→Prop
noncomputable def PAct (Y:Cx) (act:Value→Env→Sem Unit) (D:Addr) (t:TAct):Prop:=
  ∀ (pins:List (Addr×Obj)) (s:Shared) (σ:St) (H:Hp) (Q:Hp→Prop),Inv Y pins σ H s→t σ H Q→wpAny (model Y.prog Y.w) Y.A (act (.ref D) Y.env) (fun _ s'=>∃ H',Inv Y pins σ H' s'∧Q H') Y.xe s
noncomputable def wCompG (J:It) (g:TG) (tt:TT) (ta:Addr→TAct) (ho:HO) (cap:List (Option Nat)) (σ:St) (H1:Hp) (Q:VK):Prop:=
  ∀ D,H1 D=none→∃ W:Nat→Nat→Hp→Prop,(∃ m,W 0 m (upd H1 D ho))∧∀ i m H,W i m H→
    ((J.stop i H∧Q (.ref D) H)∨(J.go i H∧∀ x H',J.yld i H x H'→g x (st0 cap σ) H' fun σ2 H2=>tt σ2 H2 fun b H3=>
      if b=true then ta D σ2 H3 fun H4=>∃ m',m' < m∧W (i + 1) m' H4 else ∃ m',m' < m∧W (i + 1) m' H3))
structure CompKind (X:Cx) (e tg iter:Expr) (ifs:List Expr) (newAcc:Sem Value) (act:Value→Env→Sem Unit) (ho:HO):Prop where
  new:∀ (pins:List (Addr×Obj)) (σ:St) (H:Hp) (s:Shared) (Q:Value→Shared→Prop) (E:Value→Shared→Prop),Inv X pins σ H s→
    (∀ ob:Obj,Inv X pins σ (upd H s.heap.objs.size ho) { s with heap:=s.heap.push ob }→Q (.ref s.heap.objs.size) { s with heap:=s.heap.push ob })→wpAny (model X.prog X.w) X.A newAcc Q E s
  turn:∀ (it:Value) (D:Addr) (env:Env),compTurn e 0 it (.ref D) env=(do
      standAt iter.pos
      match ← pyNext it with
      | none=>pure (.done .next)
      | some v=>
        letOwnedTupleGo tg it v
        assign tg env v
        let mut ok:=true
        for c in ifs do
          if ok then ok ← isTrue c env (eval c env)
        if ok then act (.ref D) env
        again (.compLoop e 0 it (.ref D) env))
  loop:∀ (A:Around) (it:Value) (D:Addr) (env:Env) (Q:Fin→Shared→Prop) (E:Value→Shared→Prop) (s:Shared),wpAny (model X.prog X.w) A ((compTurn e 0 it (.ref D) env).onRaise (fun x=>do noteFrame x env;theTreesLotGoes x)) Q E s→
    wpAny (model X.prog X.w) (A.under (.compLoop e 0 it (.ref D) env)) ((model X.prog X.w).den (.compLoop e 0 it (.ref D) env)) Q E s
  start:∀ {it acc:Value}{env:Env} {A:Around}{R:Result→Shared→Prop} {s:Shared},codeAny (model X.prog X.w) A (.compLoop e 0 it acc env) R s→
    wpAny (model X.prog X.w) A (pyIter it) (fun it' s'=>codeAny (model X.prog X.w) A (.compLoop e 0 it' acc env) R s') (notedBy (model X.prog X.w) A env fun x s'=>R (.error x) s') s→codeAny (model X.prog X.w) A (.compStart e 0 it acc env) R s
theorem comp_core {e:Expr}{newAcc:Sem Value} {act:Value→Env→Sem Unit}{ho:HO} {ta:Addr→TAct}{H2:Hp} {s2:Shared}{J:It} {fp:List Addr}{it:Addr} {tn:Nat→Heap→Prop}{Q:VK} {RR:Value→Addr→Result→Shared→Prop}{E:Value→Shared→Prop} (ck:CompKind X e tg iter ifs newAcc act ho) (hc:X.calm=true) (S:CompSc X scope) (cp:Cap X scope N cap)
    (hg:∀ C s0 H0 fp,PG (cxComp X N scope (clOf X.env scope.names []) C s0 H0 fp) tg g) (ht:∀ C s0 H0 fp,PIf (cxComp X N scope (clOf X.env scope.names []) C s0 H0 fp) ifs tt) (he:∀ C s0 H0 fp D,PAct (cxComp X N scope (clOf X.env scope.names []) C s0 H0 fp) act D (ta D))
    (I2:Inv X pins σ H2 s2) (T:Turn X.prog X.w X.K tg J fp it tn) (st2:tn 0 s2.heap) (f2:∀ b∈fp,FpOk X pins H2 b) (hw:wCompG J g tt ta ho cap σ H2 Q)
    (hRR:∀ D C H' s' m',Inv X pins σ H' s'→s'.heap.Ns C m'→H' C=none→C≠X.env.locals→X.s₀.heap.objs.size≤C→(∀ x c,X.env.cells.lookup x=some c→c≠C)→(∀ p∈X.pn++pins,p.1≠C)→Q (.ref D) H'→RR (.ref D) C (.ok .next) s') :
    wpAny (model X.prog X.w) X.A newAcc (fun acc s3=>wpAny (model X.prog X.w) X.A (newFunctionEnv scope X.env.globals (clOf X.env scope.names []) [] X.env.qual none .none (some X.env)) (fun cenv s4=>
      codeAny (model X.prog X.w) X.A (.compStart e 0 (.ref it) acc { cenv with scope:=relabel scope X.env }) (RR acc cenv.locals) s4) E s3) E s2:=by
  refine ck.new pins σ H2 s2 _ _ I2 fun ob I3=>wpAny_newFunctionEnv S.cells (by intro y hy;simp at hy) (fun h1 hns1 hsb1=>?_) S.kind
  dsimp only at hns1 hsb1 ⊢
  have D0:H2 s2.heap.objs.size=none:=I2.fresh
  obtain ⟨W,⟨m0,w0⟩,turn⟩:=hw s2.heap.objs.size D0
  generalize hs3:({ s2 with heap:=s2.heap.push ob }:Shared)=s3 at I3
  have e3:s3.heap=s2.heap.push ob:=by rw [← hs3]
  have z3:s3.heap.objs.size=s2.heap.objs.size + 1:=by rw [e3,Heap.size_push]
  rw [← e3] at hns1 hsb1 ⊢
  generalize hD:s2.heap.objs.size=D at *
  generalize hC:s3.heap.objs.size=C at *
  have fp2:∀ b∈fp,b < D:=fun b hb=>by
    obtain ⟨o,e,_⟩:=T.obj 0 _ st2 b hb
    rw [← hD];exact Heap.lt_size e
  have f3:∀ b∈fp,FpOk X pins (upd H2 D ho) b:=fun b hb=>by
    obtain ⟨a1,a2⟩:=f2 b hb
    exact ⟨by rw [upd_ne (Nat.ne_of_lt (fp2 b hb))];exact a1,a2⟩
  have hfp:∀ b∈fp,b < s3.heap.objs.size:=fun b hb=>by rw [hC,z3];exact Nat.lt_succ_of_lt (fp2 b hb)
  have old:∀ b o,s3.heap.get? b=some o→h1.get? b=some o:=fun b o e=>
    hsb1.extBut b o (Nat.ne_of_lt (by rw [← hC];exact Heap.lt_size e)) (Heap.get?_push_of_some _ e)
  have old2:∀ b o,s2.heap.get? b=some o→s3.heap.get? b=some o:=fun b o e=>by rw [e3];exact Heap.get?_push_of_some _ e
  have ds4:∀ s4:Shared,s4={ s2 with heap:=h1,toks:=s2.toks + ([]:List (Str×Value)).length }→
      codeAny (model X.prog X.w) X.A (.compLoop e 0 (.ref it) (.ref D) (compEnvC scope (clOf X.env scope.names []) C X.env)) (RR (.ref D) C) s4:=by
    intro s4 es4
    have os4:s4.os=s3.os:=by rw [es4,← hs3]
    have bare4:AllBare s4.gens:=by rw [es4];exact I2.bare
    have heap4:s4.heap=h1:=by rw [es4]
    have st4:tn 0 s4.heap:=by rw [heap4];exact T.keep _ _ _ st2 fun b _ o e=>old b o (old2 b o e)
    refine codeAny_loop rfl (fun n s=>∃ i H,s.os=s3.os∧AllBare s.gens∧Un (frs X.stack) fp (upd H2 D ho) H s3.heap s.heap∧(∃ m,s.heap.Ns C m)∧H C=none∧HOk X.prog X.w H s.heap∧tn i s.heap∧(∀ b∈fp,H b=none)∧W i n H)
      (fun n s hI=>?_) m0 ⟨0,_,os4,bare4,by rw [heap4];exact Un.kept old,by rw [heap4];exact ⟨_,hns1⟩,I3.hok.fresh (Nat.le_of_eq hC),by rw [heap4];exact I3.hok.kept old,st4,fun b hb=>(f3 b hb).1,w0⟩
    obtain ⟨i,H,os,bare,un,ns,fC,hok,st,fr,wi⟩:=hI
    refine ck.loop _ _ _ _ _ _ _ ?_
    refine wpAny_noted ?_
    rw [ck.turn]
    have hCge:s3.heap.objs.size≤C:=Nat.le_of_eq hC
    have IY:=inv_comp S cp I3 f3 hfp hCge os bare un ns fC hok
    generalize hYd:cxComp X N scope (clOf X.env scope.names []) C s3 (upd H2 D ho) fp=Y at IY
    have hYA:Y.A=X.A:=by rw [← hYd];rfl
    have hYenv:Y.env=compEnvC scope (clOf X.env scope.names []) C X.env:=by rw [← hYd];rfl
    have hYp:Y.prog=X.prog:=by rw [← hYd];rfl
    have hYw:Y.w=X.w:=by rw [← hYd];rfl
    have hYK:Y.K=X.K:=by rw [← hYd];rfl
    have hYc:Y.calm=true:=by rw [← hYd];exact hc
    have hYxe:∀ e s,¬ Y.xe e s:=fun e s z=>by rw [← hYd] at z;exact z
    have gY:PG Y tg g:=by rw [← hYd];exact hg _ _ _ _
    have tY:PIf Y ifs tt:=by rw [← hYd];exact ht _ _ _ _
    have eY:PAct Y act D (ta D):=by rw [← hYd];exact he _ _ _ _ _
    have stat:∀ {H':Hp},(∀ b∈fp,H' b=none)→∀ b∈fp,FpOk Y [] H' b:=fun {H'} hn b hb=>by
      have okY:=IY.ok
      refine ⟨hn b hb,(okY.exf b (by rw [← hYd];exact hb)).1,okY.exfs b (by rw [← hYd];exact hb),.inl (by rw [← hYd];exact hb),fun x c e=>(okY.exf b (by rw [← hYd];exact hb)).2 x c e,fun p hp=>?_⟩
      rw [← hYd] at hp
      exact absurd (show p∈([]:List (Addr×Obj)) from hp) (by simp)
    have alt:=turn i n H wi
    have base_of:∀ {σ':St}{pins':List (Addr×Obj)} {H':Hp}{s':Shared},Inv Y pins' σ' H' s'→s'.os=s3.os∧AllBare s'.gens∧Un (frs X.stack) fp (upd H2 D ho) H' s3.heap s'.heap∧(∃ m,s'.heap.Ns C m)∧H' C=none∧HOk X.prog X.w H' s'.heap:=fun {σ' pins' H' s'} I'=>by
      have b1:=I'.os
      have b2:=I'.base
      have b3:=I'.loc
      have b4:=I'.free
      have b5:=I'.hok
      rw [← hYd] at b1 b2 b3 b4 b5
      obtain ⟨m,hm,_⟩:=b3
      exact ⟨b1,I'.bare,b2,⟨m,hm⟩,b4,b5⟩
    refine wpAny_bind (wpAny_standAt (wpAny_bind ?_))
    rcases alt with ⟨stop,qn⟩ | ⟨go,step⟩
    · have h1:=T.done Y hYp hYw hYK hYc i [] s _ H (notedBy (model X.prog X.w) X.A (compEnvC scope (clOf X.env scope.names []) C X.env) fun e s'=>RR (.ref D) C (.error e) s') IY (stat fr) st stop
      rw [hYA] at h1
      refine wpAny_mono h1 (fun r s5 h5=>?_) fun _ _ z=>z
      obtain ⟨hr,I5⟩:=h5
      subst hr
      refine wpAny_pure ?_
      obtain ⟨os5,bare5,un5,⟨m5,ns5⟩,fC5,hok5⟩:=base_of I5
      have IX:Inv X pins σ H s5:=I3.call' (ch:=fp) (by rw [os5]) un5 hok5 bare5 fun b hb=>by
        obtain ⟨_,a2,a3,a4,a5,a6⟩:=f3 b hb
        exact ⟨a4,a2,a5,a6⟩
      refine hRR D C H s5 m5 IX ns5 fC5 ?_ ?_ ?_ ?_ qn
      · exact Nat.ne_of_gt (Nat.lt_of_lt_of_le I3.lt hCge)
      · exact Nat.le_trans I3.sz hCge
      · intro x c e z
        obtain ⟨v,q⟩:=I3.cell x c e
        exact absurd (Nat.lt_of_lt_of_le q.lt hCge) (by rw [z];exact Nat.lt_irrefl _)
      · intro p hp z
        exact absurd (Nat.lt_of_lt_of_le (Heap.lt_size (I3.pin p hp).1) hCge) (by rw [z];exact Nat.lt_irrefl _)
    · have h1:=T.item Y hYp hYw hYK hYc i [] s _ H Y.xe IY (stat fr) st go
      rw [hYA] at h1
      refine wpAny_mono h1 (fun r s5 h5=>?_) fun e s' z=>absurd z (hYxe e s')
      obtain ⟨u,hr,h5⟩:=h5
      subst hr
      refine wpAny_bind (wpAny_mono h5 (fun _ s6 h6=>?_) fun e s' z=>absurd z (hYxe e s'))
      obtain ⟨x,H6,I6,r6,y6,st6,fr6⟩:=h6
      have I6':=I6.pinned (stat fr6) (T.obj _ _ st6)
      have h7:=gY _ s6 _ H6 x u _ I6' r6 (step x H6 y6)
      rw [hYA,hYenv,hYp,hYw] at h7
      refine wpAny_bind (wpAny_mono h7 (fun _ s7 h7=>?_) fun e s' z=>absurd z (hYxe e s'))
      obtain ⟨σ7,H7,I7,q7⟩:=h7
      have h8:=tY _ s7 σ7 H7 _ I7 q7
      rw [hYA,hYenv,hYp,hYw] at h8
      refine wpAny_bind (wpAny_mono h8 (fun b s8 h8=>?_) fun e s' z=>absurd z (hYxe e s'))
      obtain ⟨H8,I8,q8⟩:=h8
      have again:∀ {σ9:St}{H9:Hp} {s9:Shared},Inv Y ([]++pinsAt fp s6.heap) σ9 H9 s9→(∃ m',m' < n∧W (i + 1) m' H9)→
          ∃ m,m < n∧∃ i H,s9.os=s3.os∧AllBare s9.gens∧Un (frs X.stack) fp (upd H2 D ho) H s3.heap s9.heap∧(∃ m,s9.heap.Ns C m)∧H C=none∧HOk X.prog X.w H s9.heap∧tn i s9.heap∧(∀ b∈fp,H b=none)∧W i m H:=fun {σ9 H9 s9} I9 ⟨m',hm,w9⟩=>by
        obtain ⟨b1,b2,b3,b4,b5,b6⟩:=base_of I9
        refine ⟨m',hm,i + 1,H9,b1,b2,b3,b4,b5,b6,T.keep _ _ _ st6 fun b hb o e=>(I9.pin (b,o) (List.mem_append_right _ (List.mem_append_right _ (mem_pinsAt hb e)))).1,fun b hb=>?_,w9⟩
        obtain ⟨o,e,d⟩:=T.obj _ _ st6 b hb
        exact (I9.pin (b,o) (List.mem_append_right _ (List.mem_append_right _ (mem_pinsAt hb e)))).2.1
      cases b with
      | false=>
        simp only [Bool.false_eq_true,if_false] at q8 ⊢
        exact wpAny_pure ⟨rfl,again I8 q8⟩
      | true=>
        simp only [if_true] at q8 ⊢
        have h9:=eY _ s8 σ7 H8 _ I8 q8
        rw [hYA,hYenv,hYp,hYw] at h9
        refine wpAny_bind (wpAny_mono h9 (fun _ s9 h9=>?_) fun e s' z=>absurd z (hYxe e s'))
        obtain ⟨H9,I9,q9⟩:=h9
        exact wpAny_pure ⟨rfl,again I9 q9⟩
  have st1:tn 0 h1:=T.keep _ _ _ st2 fun b _ o e=>old b o (old2 b o e)
  exact ck.start (ds4 _ rfl) (T.self X.A 0 _ _ _ st1 (ds4 _ rfl))
noncomputable def actL (elt:Expr):Value→Env→Sem Unit:=fun acc env=>do let _ ← call (.builtin "list.append") [acc,← eval elt env]
theorem ck_list:CompKind X (.ListComp elt [⟨tg,iter,ifs,0⟩] scope pos) tg iter ifs (newList []) (actL elt) (.lst []) where
  new:=fun pins σ H s Q E I h=>wpAny_newObj_type (h _ (I.lnew (t':=s.toks) .nil (Nat.zero_le _)))
  turn:=fun it D env=>by rw [compTurn_list];rfl
  loop:=fun A it D env Q E s h=>h
  start:=fun h0 h=>codeAny_compStart_list h0 h
noncomputable def taL (te:TE) (D:Addr):TAct:=fun σ H Q=>te σ H fun v H4=>∃ acc,H4 D=some (.lst acc)∧acc.length < sizeLine∧Q (upd H4 D (.lst (acc++[v])))
theorem pact_list {Y:Cx}(he:PE Y elt te) (D:Addr):PAct Y (actL elt) D (taL te D):=by
  intro pins s σ H Q I h
  unfold actL
  refine wpAny_bind (thn (he pins s σ H _ I h) fun v s9 ⟨v9,H9,I9,r9,acc,hD9,hlen,q9⟩=>?_)
  refine wpAny_bind (thn (mt_append (X:=Y) _ s9 σ H9 (.ref D) [v9] (.ref D) [v] (fun z Hz=>z=.non∧Hz=upd H9 D (.lst (acc++[v9]))) I9 rfl (.cons r9 .nil) ⟨D,acc,v9,rfl,rfl,hD9,hlen,rfl,rfl⟩) fun _ s10 h10=>?_)
  obtain ⟨_,H10,I10,_,_,e10⟩:=h10
  subst e10
  exact wpAny_pure ⟨_,I10,q9⟩
noncomputable def wComp (K:PySem.W.Frag) (J:It) (g:TG) (tt:TT) (te:TE) (cap:List (Option Nat)) (σ:St) (H1:Hp) (Q:VK):Prop:=wCompG J g tt (taL te) (.lst []) cap σ H1 Q
noncomputable def tCompG (wi:TI) (g:TG) (tt:TT) (ta:Addr→TAct) (ho:HO) (cap:List (Option Nat)):TE:=fun σ H Q=>wi σ H fun J H1=>wCompG J g tt ta ho cap σ H1 Q
noncomputable def tComp (K:PySem.W.Frag) (wi:TI) (g:TG) (tt:TT) (te:TE) (cap:List (Option Nat)):TE:=tCompG wi g tt (taL te) (.lst []) cap
theorem pe_compG {e:Expr}{newAcc:Sem Value} {act:Value→Env→Sem Unit}{ho:HO} {ta:Addr→TAct}{wi:TI} (ck:CompKind X e tg iter ifs newAcc act ho) (N:List Str) (cap:List (Option Nat)) (cp:Cap X scope N cap) (hc:X.calm=true) (hi:PI X tg iter wi)
    (hg:∀ C s0 H0 fp,PG (cxComp X N scope (clOf X.env scope.names []) C s0 H0 fp) tg g) (ht:∀ C s0 H0 fp,PIf (cxComp X N scope (clOf X.env scope.names []) C s0 H0 fp) ifs tt) (he:∀ C s0 H0 fp D,PAct (cxComp X N scope (clOf X.env scope.names []) C s0 H0 fp) act D (ta D))
    (S:CompSc X scope) (hs:∀ x,foldedSetIterable iter X.env x=pure x) (hcl:clausesOf e=[⟨tg,iter,ifs,0⟩]) {p:Pos}(hev:eval e X.env=comprehension e scope X.env p newAcc false (eval iter X.env)) :
    PE X e (tCompG wi g tt ta ho cap):=by
  intro pins s σ H Q I h
  rw [hev]
  refine wpAny_comprehension_free (use:=none) hcl hs (closure_eq (S.cellsOf I.ok)) S.kind S.names (thn (hi pins s σ H _ I h) fun v s1 h1=>thn h1 fun itv s2 h2=>?_)
  obtain ⟨it,fp,tn,J,H2,e,I2,T,st2,f2,hw⟩:=h2
  subst e
  refine comp_core (RR:=fun acc C=>compPost (model X.prog X.w) X.A X.xe none (EP X pins σ Q) acc C) ck hc S cp hg ht he I2 T st2 f2 hw ?_
  intro D C H' s' m' I' ns fC c1 c2 c3 c4 q
  exact ⟨m',ns,fun h' hs'=>⟨.ref D,H',I'.turned (t':=s'.toks) (fun b o hb e=>(hs'.2 b hb).trans e) fC c1 (.inr c2) c3 c4,rfl,q⟩⟩
theorem ps_setCompG {e:Expr}{newAcc:Sem Value} {act:Value→Env→Sem Unit}{ho:HO} {ta:Addr→TAct}{wi:TI} {k:Nat}{y:Str} {py spos:Pos}(ck:CompKind X e tg iter ifs newAcc act ho) (N:List Str) (cap:List (Option Nat)) (cp:Cap X scope N cap) (hc:X.calm=true) (hN:X.N.Nodup) (hk:X.N[k]?=some y) (hy:Loc X.env.scope y) (hi:PI X tg iter wi)
    (hg:∀ C s0 H0 fp,PG (cxComp X N scope (clOf X.env scope.names []) C s0 H0 fp) tg g) (ht:∀ C s0 H0 fp,PIf (cxComp X N scope (clOf X.env scope.names []) C s0 H0 fp) ifs tt) (he:∀ C s0 H0 fp D,PAct (cxComp X N scope (clOf X.env scope.names []) C s0 H0 fp) act D (ta D))
    (S:CompSc X scope) (hs:∀ x,foldedSetIterable iter X.env x=pure x) (hcl:clausesOf e=[⟨tg,iter,ifs,0⟩]) {p:Pos}(hev:∀ use,evalThenUse e X.env use=(do let _ ← comprehension e scope X.env p newAcc false (eval iter X.env) (some use)))
    (hsw:swapsWith e (some (.Name y py)) spos.line X.env=pure true) (hf:X.fn y=true∨X.env.scope.names.lookup y=some .local) :
    PS X (.Assign [.Name y py] e spos) (tAsg (tCompG wi g tt ta ho cap) (gName k)):=by
  intro pins s σ H D0 I h
  rw [exec_Assign_Name_used _ _ _ _ hsw]
  refine wpAny_bind (wpAny_standAt (wpAny_bind ?_))
  rw [hev]
  refine wpAny_bind (wpAny_mono (wpAny_comprehension_free (use:=some (assign (.Name y py) X.env)) (Q:=fun _ s'=>SP X pins D0 .next s') hcl hs (closure_eq (S.cellsOf I.ok)) S.kind S.names
    (thn (hi pins s σ H _ I h) fun v s1 h1=>thn h1 fun itv s2 h2=>?_)) (fun _ s' hq=>wpAny_pure (wpAny_pure hq)) fun _ _ e=>e)
  obtain ⟨it,fp,tn,J,H2,e,I2,T,st2,f2,hw⟩:=h2
  subst e
  refine comp_core (RR:=fun acc C=>compPost (model X.prog X.w) X.A X.xe (some (assign (.Name y py) X.env)) (fun _ s'=>SP X pins D0 .next s') acc C) ck hc S cp hg ht he I2 T st2 f2 hw ?_
  intro D C H' s' m' I' ns fC c1 c2 c3 c4 q
  show wpAny _ X.A (assign (.Name y py) X.env (.ref D)) _ _ _
  refine wpAny_assign_Name (store_ok2 I' hN hk hy (v:=.ref D) rfl (fun s'' I'' ⟨a,hsb,ha⟩=>?_) hf)
  have hCa:C≠a:=by
    rcases ha with z | z
    · rw [z];exact c1
    · exact fun w=>c3 y a z w.symm
  refine ⟨m',ns.sameBut hsb hCa,fun h' hs'=>⟨_,H',I''.turned (t':=s''.toks) (fun b o hb e=>(hs'.2 b hb).trans e) fC c1 (.inr c2) c3 c4,q⟩⟩
theorem pe_comp {wi:TI}(N:List Str) (cap:List (Option Nat)) (cp:Cap X scope N cap) (hc:X.calm=true) (hi:PI X tg iter wi)
    (hg:∀ C s0 H0 fp,PG (cxComp X N scope (clOf X.env scope.names []) C s0 H0 fp) tg g) (ht:∀ C s0 H0 fp,PIf (cxComp X N scope (clOf X.env scope.names []) C s0 H0 fp) ifs tt) (he:∀ C s0 H0 fp,PE (cxComp X N scope (clOf X.env scope.names []) C s0 H0 fp) elt te)
    (S:CompSc X scope:=by exact CompSc.mk') (hs:∀ x,foldedSetIterable iter X.env x=pure x:=by intro _;rfl) :
    PE X (.ListComp elt [⟨tg,iter,ifs,0⟩] scope pos) (tComp X.K wi g tt te cap):=
  pe_compG ck_list N cap cp hc hi hg ht (fun C s0 H0 fp D=>pact_list (he C s0 H0 fp) D) S hs rfl (eval_ListComp ..)
theorem ps_setComp {wi:TI}{k:Nat} {y:Str}{py spos:Pos} (N:List Str) (cap:List (Option Nat)) (cp:Cap X scope N cap) (hc:X.calm=true) (hN:X.N.Nodup) (hk:X.N[k]?=some y) (hy:Loc X.env.scope y) (hi:PI X tg iter wi)
    (hg:∀ C s0 H0 fp,PG (cxComp X N scope (clOf X.env scope.names []) C s0 H0 fp) tg g) (ht:∀ C s0 H0 fp,PIf (cxComp X N scope (clOf X.env scope.names []) C s0 H0 fp) ifs tt) (he:∀ C s0 H0 fp,PE (cxComp X N scope (clOf X.env scope.names []) C s0 H0 fp) elt te)
    (S:CompSc X scope:=by exact CompSc.mk') (hs:∀ x,foldedSetIterable iter X.env x=pure x:=by intro _;rfl)
    (hsw:swapsWith (.ListComp elt [⟨tg,iter,ifs,0⟩] scope pos) (some (.Name y py)) spos.line X.env=pure true:=by rfl)
    (hf:X.fn y=true∨X.env.scope.names.lookup y=some .local:=by first | exact .inl rfl | exact .inr rfl | assumption) :
    PS X (.Assign [.Name y py] (.ListComp elt [⟨tg,iter,ifs,0⟩] scope pos) spos) (tAsg (tComp X.K wi g tt te cap) (gName k)):=
  ps_setCompG ck_list N cap cp hc hN hk hy hi hg ht (fun C s0 H0 fp D=>pact_list (he C s0 H0 fp) D) S hs rfl (fun _=>rfl) hsw hf
end
end L2
set_option Elab.async false
set_option linter.all false
set_option maxRecDepth 100000
namespace L2
open PySem PySem.Spec PyProof.Rows
section
variable {X:Cx}{a b:Expr} {ta tb:TE}{pos:Pos}
noncomputable def rIsi (K:PySem.W.Frag):List V→Hp→VK→Prop:=fun xs H Q=>∃ x T t k,xs=[x,.ty T]∧TyOf K H x t∧PySem.W.kitOne K t (.type T)=some k∧Q (.bl k) H
theorem call_isi:CallR X (.builtin "isinstance") (rIsi X.K):=by
  intro pins s σ H xs us Q I r h
  obtain ⟨x,T,t,k,rfl,ty,e,q⟩:=h
  obtain ⟨u,c,rfl,r1,r2⟩:=vals2 r
  cases (show c=Value.type T from r2)
  exact isinst_ok I r1 ty e fun tk=>⟨.bl k,H,I.tok _,rfl,q⟩
noncomputable def rCatT0 (K:PySem.W.Frag):R2:=fun x y H Q=>∃ a b ys,x=.ref a∧y=.ref b∧SqT K H a []∧SqT K H b ys∧Q (.ref b) H
theorem op_catT0:OpR X (binaryOp .Add) (rCatT0 X.K):=by
  intro pins s σ H x y v u Q I rx ry h
  obtain ⟨a,b,ys,rfl,rfl,ha,hb,q⟩:=h
  cases rx
  cases ry
  obtain ⟨its,r1,p1,_⟩:=I.tuple ha
  obtain ⟨its2,r2,p2,_⟩:=I.tuple hb
  have e:its=[]:=by cases r1;rfl
  subst e
  obtain ⟨⟨cls,dd,data,sl⟩,ho,hc,n,hd⟩:=id p1
  obtain ⟨⟨cls2,dd2,data2,sl2⟩,ho2,hc2,n2,hd2⟩:=id p2
  simp only at hc hd hc2 hd2
  subst hc hd hc2 hd2
  exact concat_meets ⟨_,ho,rfl⟩ ⟨_,ho2,rfl⟩ noFill_tuple_add seq_tuple_add PySem.F.slot_tuple_add PySem.F.entry_tuple_add (PySem.F.args_tuple_add_2 _ _)
      (tuple_addW0 a b _ its2.toArray n n2 dd dd2 sl sl2 (by simp)) ⟨ho,ho2,⟨.ref b,H,I.tok _,rfl,q⟩⟩
noncomputable def rCatA (K:PySem.W.Frag):R2:=fun x y H Q=>∃ a b xs ys,x=.ref a∧y=.ref b∧SqT K H a xs∧SqT K H b ys∧xs.length + ys.length≤sizeLine∧
  (xs=[]→Q (.ref b) H)∧(xs≠[]→ys=[]→Q (.ref a) H)∧(xs≠[]→ys≠[]→∀ p,H p=none→Q (.ref p) (upd H p (.tup (xs++ys))))
theorem op_catA:OpR X (binaryOp .Add) (rCatA X.K):=by
  intro pins s σ H x y v u Q I rx ry h
  obtain ⟨a,b,xs,ys,rfl,rfl,ha,hb,hz,q0,q1,q2⟩:=h
  by_cases e:xs=[]
  · subst e
    exact op_catT0 pins s σ H _ _ v u Q I rx ry ⟨a,b,ys,rfl,rfl,ha,hb,q0 rfl⟩
  · exact op_catT pins s σ H _ _ v u Q I rx ry ⟨a,b,xs,ys,rfl,rfl,ha,hb,e,hz,q1 e,q2 e⟩
theorem sum_nn:∀ l:List Int,(∀ n∈l,0≤n)→0≤l.sum
  | [],_=>by simp
  | a::l,h=>by
    have h1:=sum_nn l fun n hn=>h n (List.mem_cons_of_mem _ hn)
    have h2:=h a List.mem_cons_self
    rw [List.sum_cons];omega
theorem take_sum:∀ (j:Nat) (l:List Int),(∀ n∈l,0≤n)→0≤(l.take j).sum∧(l.take j).sum≤l.sum
  | 0,l,h=>by have:=sum_nn l h;simp;exact this
  | j + 1,[],_=>by simp
  | j + 1,a::l,h=>by
    have h1:=take_sum j l fun n hn=>h n (List.mem_cons_of_mem _ hn)
    have h2:=h a List.mem_cons_self
    rw [List.take_succ_cons,List.sum_cons,List.sum_cons];omega
theorem getD_le:∀ (j:Nat) (l:List Int),(∀ n∈l,0≤n)→0≤l.getD j 0∧l.getD j 0≤l.sum
  | j,[],_=>by simp
  | 0,a::l,h=>by
    have h1:=sum_nn l fun n hn=>h n (List.mem_cons_of_mem _ hn)
    have h2:=h a List.mem_cons_self
    rw [List.sum_cons];simp;omega
  | j + 1,a::l,h=>by
    have h1:=getD_le j l fun n hn=>h n (List.mem_cons_of_mem _ hn)
    have h2:=h a List.mem_cons_self
    rw [List.sum_cons];simp only [List.getD_cons_succ];omega
theorem sumFits_of {l:List Int}(h:∀ n∈l,0≤n) (hz:l.sum < 2 ^ 62):PySem.SumFits l:=fun j _=>by
  have h1:=take_sum (j + 1) l h
  have h2:=getD_le j l h
  unfold InLong
  refine ⟨⟨?_,?_⟩,⟨?_,?_⟩⟩<;>omega
theorem call_sumI (hc:X.calm=true):CallR X (.builtin "sum") (fun xs H Q=>∃ (p:Addr) (ns:List Int),xs=[.ref p]∧SqL X.K H p (ns.map V.int)∧PySem.SumFits ns∧Q (.int ns.sum) H):=by
  intro pins s σ H xs us Q I r h
  obtain ⟨p,ns,rfl,hq,hz,q⟩:=h
  obtain ⟨u,rfl,rx⟩:=vals1 r
  cases rx
  obtain ⟨its,r',pl,_⟩:=I.list hq
  have hi:IntsAre its ns:=intsAre_of r'
  have hall:AllInts its.toArray:=hi.allInts
  have nn:numsOf its.toArray.toList=ns:=by rw [show its.toArray.toList=its from rfl,hi.numsOf]
  obtain ⟨xs,hx⟩:=hall.items
  rw [hx,nums_intItems] at nn
  have hl2:s.heap.IsList p (intItems xs):=by rw [← hx];exact pl.isList
  refine sum_intList (I.ok.hd hc) hl2 (fun j hj=>?_) fun h' tk t' hk=>?_
  · rw [numAt_eq,preSum_eq,nn]
    exact hz j (by rw [← nn];simpa using hj)
  · refine ⟨.int ns.sum,H,I.kept hk,⟨t',?_⟩,q⟩
    rw [preSum_eq,nn,List.take_of_length_le (by rw [← nn];simp)]
theorem args_max_default (a v:Value):argsOk "max" ⟨[a],[(Str.ofString "default",v)]⟩:=by unfold argsOk;kernel_rfl
end
section
variable {prog:Program}{w:World} {A:Around}
theorem max_loop_d {R:Result→Shared→Prop}{l I S:Addr} {its:List Value}{ns:List Int} {d:Value}(hh:A.handled=none) (hi:IntsAre its ns) (hlI:l≠I) (hSI:S≠I) (hSl:S≠l) :
    ∀ (k i:Nat) (s:Shared) (m:Int) (t:Tok) (c:Nat),ns.length - i=k→i≤ns.length→s.heap.IsListIter I l i→s.heap.IsList l its.toArray→
    s.heap.get? S=some { cls:=.type "list",dict:=none,data:=.seq #[.int m t,.int m t] c,slots:=#[] }→
    (∀ h' tk t',(∀ b o,b≠I→b≠S→s.heap.get? b=some o→h'.get? b=some o)→R (.ok (.ret (.int ((ns.drop i).foldl max m) t'))) { s with heap:=h',toks:=tk })→
    codeAny (model prog w) A (.builtin "max.loop" ⟨[.ref I,.none,.ref S],[(Str.ofString "default",d)]⟩) R s:=by
  have hname:(toString "max" ++ toString ".loop" : String) = "max.loop" := by decide
  have W:=Walks.list (prog:=prog) (w:=w) (A:=A.in1) hh I l hlI its.toArray
  have hlen:its.toArray.size=ns.length:=by rw [List.size_toArray];exact hi.length
  intro k
  induction k with
  | zero=>
    intro i s m t c hk hi' hit hl hS hR
    have hin:i=ns.length:=by omega
    subst hin
    refine codeAny_builtin PySem.F.entry_max_loop ?_
    rw [Around.under_plainId PySem.F.plain_max_loop _]
    show wpAny _ A.in1 (seqItems? (.ref S) >>= _) _ _ s
    refine wpAny_bind (wpAny_seqItems hS rfl ?_)
    show wpAny _ A.in1 (tryCatch (pyNext (.ref I)) _ >>= _) _ _ s
    refine wpAny_bind (wpAny_tryCatch (W.done s _ _ (by rw [hlen];exact ⟨hit,hl⟩) fun h' tk hk'=>?_))
    have hS':=hk' S _ (by simpa using hSI) hS
    show wpAny _ A.in1 (updateSeq S (fun _=>#[]) >>= _) _ _ _
    refine wpAny_bind ?_
    refine wpAny_updateSeq hS' rfl (wpAny_bind (wpAny_letGo (wpAny_pure ?_)))
    have:=hR (h'.update S (Obj.mapSeq fun _=>#[])) tk t fun b o hbI hbS e=>(Heap.get?_update_other _ _ (Ne.symm hbS)).trans (hk' b o (by simpa using hbI) e)
    rw [List.drop_length] at this
    exact this
  | succ k ih=>
    intro i s m t c hk hi' hit hl hS hR
    have hlt:i < ns.length:=by omega
    refine codeAny_builtin PySem.F.entry_max_loop ?_
    rw [Around.under_plainId PySem.F.plain_max_loop _]
    show wpAny _ A.in1 (seqItems? (.ref S) >>= _) _ _ s
    refine wpAny_bind (wpAny_seqItems hS rfl ?_)
    show wpAny _ A.in1 (tryCatch (pyNext (.ref I)) _ >>= _) _ _ s
    refine wpAny_bind (wpAny_tryCatch (W.item i s _ _ (by rw [hlen];exact hlt) ⟨hit,hl⟩ fun v h' tk hP hst' hk'=>?_))
    have hv:its[i]?=some v:=by simpa using hP
    obtain ⟨t1,rfl⟩:∃ t1,v=.int ns[i] t1:=by
      have rv:=vals_ints hi
      obtain ⟨u,e1,r1⟩:=rv.get (i:=i) (x:=.int ns[i]) (by simp [hlt])
      rw [hv] at e1;cases e1
      exact r1
    have hS':=hk' S _ (by simpa using hSI) hS
    have hdrop:ns.drop i=ns[i]::ns.drop (i + 1):=List.drop_eq_getElem_cons hlt
    rw [hdrop,List.foldl_cons] at hR
    show wpAny _ A.in1 (tryCatch (holding [.int ns[i] t1,.int ns[i] t1] (richCompare .Gt (.int ns[i] t1) (.int m t) >>= _)) _ >>= _) _ _ _
    refine wpAny_bind (wpAny_tryCatch (wpAny_holding (wpAny_bind ?_)))
    refine (PyProof.Rows.gt_int ?_:wpAny (model prog w) A.in1 (compareOp .Gt (.int ns[i] t1) (.int m t)) _ _ _)
    refine wpAny_bind (wpAny_holding (wpAny_truthy_bool ?_))
    refine wpAny_bind (wpAny_letGo (wpAny_pure ?_))
    by_cases hb:m < ns[i]
    · have e:max m ns[i]=ns[i]:=by omega
      rw [e] at hR
      simp only [show decide (ns[i] > m)=true from decide_eq_true hb,if_true]
      refine wpAny_bind ?_
      refine wpAny_updateSeq hS' rfl (wpAny_bind (wpAny_letGo ?_))
      rw [hname]
      have o1:∀ b o,b≠S→h'.get? b=some o→(h'.update S (Obj.mapSeq fun _=>#[.int ns[i] t1,.int ns[i] t1])).get? b=some o:=fun b o hbS e=>(Heap.get?_update_other _ _ (Ne.symm hbS)).trans e
      refine wpAny_pure ⟨plainId_quiet PySem.F.plain_max_loop _,ih (i + 1) _ ns[i] t1 _ (by omega) hlt (hst'.1.at fun o e=>o1 _ _ (Ne.symm hSI) e) (hst'.2.at fun o e=>o1 _ _ (Ne.symm hSl) e) (Heap.get?_update_self _ hS' rfl) fun h'' tk'' t'' hk''=>?_⟩
      exact hR h'' tk'' t'' fun b o hbI hbS e=>hk'' b o hbI hbS (o1 b o hbS (hk' b o (by simpa using hbI) e))
    · have e:max m ns[i]=m:=by omega
      rw [e] at hR
      simp only [show decide (ns[i] > m)=false from decide_eq_false hb,Bool.false_eq_true,if_false]
      refine wpAny_bind (wpAny_letGo ?_)
      rw [hname]
      refine wpAny_pure ⟨plainId_quiet PySem.F.plain_max_loop _,ih (i + 1) _ m t c (by omega) hlt hst'.1 hst'.2 hS' fun h'' tk'' t'' hk''=>?_⟩
      exact hR h'' tk'' t'' fun b o hbI hbS e=>hk'' b o hbI hbS (hk' b o (by simpa using hbI) e)
noncomputable def maxD (ns:List Int) (d:Int):Int:=match ns with
  | []=>d
  | n::r=>r.foldl max n
theorem call_max_d {E:Value→Shared→Prop}{s:Shared} {l:Addr}{its:List Value} {ns:List Int}{d:Int} {td:Tok}{Q:Value→Shared→Prop} (hh:A.handled=none) (hl:s.heap.IsList l its.toArray) (hi:IntsAre its ns)
    (h:∀ h' tk t',(∀ b o,s.heap.get? b=some o→h'.get? b=some o)→Q (.int (maxD ns d) t') { s with heap:=h',toks:=tk }) :
    wpAny (model prog w) A (call (.builtin "max") [.ref l] [(Str.ofString "default",.int d td)]) Q E s:=by
  have hname:(toString "max" ++ toString ".loop" : String) = "max.loop" := by decide
  have hlen:its.toArray.size=ns.length:=by rw [List.size_toArray];exact hi.length
  obtain ⟨ol,hol,_⟩:=id hl
  have hll:l < s.heap.objs.size:=Heap.lt_size hol
  refine PyProof.Rows.kmk_tree PySem.F.kind_max PySem.F.plain_max PySem.F.entry_max (args_max_default _ _) ?_
  show wpAny _ A.in1 (Builtin.Builtins.bindParams "max" ["key", "default"] 0 ⟨[],[(Str.ofString "default",.int d td)]⟩ >>= _) _ _ s
  refine wpAny_bind (wpAny_of_eq (show Builtin.Builtins.bindParams "max" ["key", "default"] 0 ⟨[],[(Str.ofString "default",.int d td)]⟩=pure [none,some (.int d td)] from rfl) ?_)
  refine wpAny_bind (wpAny_pure ?_)
  refine wpAny_bind (wpAny_pyIter_list hl ?_)
  refine wpAny_bind (wpAny_newObj_type ?_)
  rw [hname]
  refine wpAny_pure ⟨plainId_quiet PySem.F.plain_max_loop _,?_⟩
  have hz:(s.heap.push { cls:=.type "list_iterator",data:=.fields #[.ref l,.int 0 0] }).objs.size=s.heap.objs.size + 1:=Heap.size_push ..
  generalize hH:((s.heap.push { cls:=.type "list_iterator",data:=.fields #[.ref l,.int 0 0] }).push { cls:=.type "list",dict:=none,data:=.seq ([]:List Value).toArray })=H
  have gI:H.IsListIter s.heap.objs.size l 0:=⟨_,by rw [← hH];exact Heap.get?_push_of_some _ (Heap.get?_push_size _ rfl),rfl,rfl⟩
  have gS:H.get? (s.heap.push { cls:=.type "list_iterator",data:=.fields #[.ref l,.int 0 0] }).objs.size=some { cls:=.type "list",dict:=none,data:=.seq #[] 0,slots:=#[] }:=by rw [← hH];exact Heap.get?_push_size _ rfl
  rw [hz] at gS ⊢
  have old:∀ b o,s.heap.get? b=some o→H.get? b=some o:=fun b o e=>by rw [← hH];exact Heap.get?_push_of_some _ (Heap.get?_push_of_some _ e)
  have gl:H.IsList l its.toArray:=hl.at fun o e=>old _ _ e
  have hlI:l≠s.heap.objs.size:=Nat.ne_of_lt hll
  have hSI:s.heap.objs.size + 1≠s.heap.objs.size:=Nat.succ_ne_self _
  have hSl:s.heap.objs.size + 1≠l:=Nat.ne_of_gt (Nat.lt_succ_of_lt hll)
  have W:=Walks.list (prog:=prog) (w:=w) (A:=A.in1) hh s.heap.objs.size l hlI its.toArray
  have kp:∀ b o,s.heap.get? b=some o→b≠s.heap.objs.size∧b≠s.heap.objs.size + 1:=fun b o e=>⟨Nat.ne_of_lt (Heap.lt_size e),Nat.ne_of_lt (Nat.lt_succ_of_lt (Heap.lt_size e))⟩
  refine codeAny_builtin PySem.F.entry_max_loop ?_
  rw [Around.under_plainId PySem.F.plain_max_loop _]
  show wpAny _ A.in1 (seqItems? (.ref (s.heap.objs.size + 1)) >>= _) _ _ _
  refine wpAny_bind (wpAny_seqItems gS rfl ?_)
  show wpAny _ A.in1 (tryCatch (pyNext (.ref s.heap.objs.size)) _ >>= _) _ _ _
  cases ns with
  | nil=>
    have e0:its.toArray.size=0:=by simpa using hlen
    refine wpAny_bind (wpAny_tryCatch (W.done _ _ _ (by rw [e0];exact ⟨gI,gl⟩) fun h' tk hk'=>?_))
    refine wpAny_bind (wpAny_rule (wpAny_pure ?_))
    exact h h' tk td fun b o e=>hk' b o (by simpa using (kp b o e).1) (old b o e)
  | cons n r=>
    refine wpAny_bind (wpAny_tryCatch (W.item 0 _ _ _ (by rw [hlen];simp) ⟨gI,gl⟩ fun v h' tk hP hst' hk'=>?_))
    have hv:its[0]?=some v:=by simpa using hP
    obtain ⟨t1,rfl⟩:∃ t1,v=.int n t1:=by
      have rv:=vals_ints hi
      obtain ⟨u,e1,r1⟩:=rv.get (i:=0) (x:=.int n) (by simp)
      rw [hv] at e1;cases e1
      exact r1
    have hS':=hk' (s.heap.objs.size + 1) _ (by simpa using hSI) gS
    show wpAny _ A.in1 (updateSeq (s.heap.objs.size + 1) (fun _=>#[.int n t1,.int n t1]) >>= _) _ _ _
    refine wpAny_bind ?_
    refine wpAny_updateSeq hS' rfl ?_
    rw [hname]
    have o1:∀ b o,b≠s.heap.objs.size + 1→h'.get? b=some o→(h'.update (s.heap.objs.size + 1) (Obj.mapSeq fun _=>#[.int n t1,.int n t1])).get? b=some o:=fun b o hbS e=>(Heap.get?_update_other _ _ (Ne.symm hbS)).trans e
    refine wpAny_pure ⟨plainId_quiet PySem.F.plain_max_loop _,max_loop_d hh hi hlI hSI hSl _ 1 _ n t1 _ rfl (by simp) (hst'.1.at fun o e=>o1 _ _ (Ne.symm hSI) e) (hst'.2.at fun o e=>o1 _ _ (Ne.symm hSl) e) (Heap.get?_update_self _ hS' rfl) fun h'' tk'' t'' hk''=>?_⟩
    exact h h'' tk'' t'' fun b o e=>hk'' b o (kp b o e).1 (kp b o e).2 (o1 b o (kp b o e).2 (hk' b o (by simpa using (kp b o e).1) (old b o e)))
end
section
variable {X:Cx}{a b e:Expr} {es:List Expr}{ta tb:TE} {pos p kpos:Pos}{t tk:TA}
noncomputable def CallRK (X:Cx) (f:Value) (ks:List Str) (r:List V→List V→Hp→VK→Prop):Prop:=
  ∀ (pins:List (Addr×Obj)) (s:Shared) (σ:St) (H:Hp) (xs zs:List V) (us ws:List Value) (Q:VK),Inv X pins σ H s→Vals xs us→Vals zs ws→r xs zs H Q→
    wpAny (model X.prog X.w) X.A (call f us (ks.zip ws)) (EP X pins σ Q) X.xe s
noncomputable def tCBK (r:List V→List V→Hp→VK→Prop) (t tk:TA):TE:=fun σ H Q=>t σ H fun vs H1=>tk σ H1 fun zs H2=>r vs zs H2 Q
theorem pe_callBK {id:String}{ks:List Str} {r:List V→List V→Hp→VK→Prop}{x:Str} {kws:List Keyword}(hc:CallRK X (.builtin id) ks r) (hg:Gl X x) (hm:X.mg x=none) (hv:bootBuiltins x=some (.builtin id)) (ha:PA X (e::es) t) (hk:PK X kws tk)
    (hks:(backToKw pos (keywordEach kws X.env)).filterMap (·.1)=ks:=by rfl) (hn:x ≠ "__name__" := by decide) (hdb:(x == ("__debug__" : Str))=false:=by decide)
    (he:backTo pos (starEach (e::es) X.env)=(false,eval e X.env)::backTo pos (starEach es X.env):=by rfl)
    (hplain:(backTo pos (starEach (e::es) X.env)).any (·.1)=false:=by rfl)
    (hall:(backToKw pos (keywordEach kws X.env)).all (·.1.isSome)=true:=by rfl)
    (hkw:(backToKw pos (keywordEach kws X.env)).any (·.1.isNone)=false:=by rfl):PE X (.Call (.Name x p) (e::es) kws pos) (tCBK r t tk):=by
  intro pins s σ H Q I h
  refine wpAny_Call_Name_kw (ld_blt I hg hm hv ?_ hn hdb)
  refine callWith_kw (thn (ha pos pins s σ H _ I h) fun us s1 ⟨vs,H1,I1,r1,q1⟩=>thn (hk pos pins s1 σ H1 _ I1 q1) fun ws s2 ⟨zs,H2,I2,r2,q2⟩=>?_) he hplain hall hkw
  rw [hks]
  exact hc pins s2 σ H2 vs zs us ws Q I2 r1 r2 q2
theorem call_maxD (hc:X.calm=true):CallRK X (.builtin "max") [Str.ofString "default"] (fun xs zs H Q=>∃ (p:Addr) (ns:List Int) (d:Int),xs=[.ref p]∧zs=[.int d]∧SqL X.K H p (ns.map V.int)∧Q (.int (maxD ns d)) H):=by
  intro pins s σ H xs zs us ws Q I r rz h
  obtain ⟨p,ns,d,rfl,rfl,hq,q⟩:=h
  obtain ⟨u,rfl,rx⟩:=vals1 r
  obtain ⟨v,rfl,td,rfl⟩:=vals1 rz
  cases rx
  obtain ⟨its,r',pl,_⟩:=I.list hq
  exact call_max_d (I.ok.hd hc) pl.isList (intsAre_of r') fun h' tk t' hk=>⟨.int _,H,I.kept hk,⟨t',rfl⟩,q⟩
noncomputable def rSlS:V→Option Int→Option Int→Hp→VK→Prop:=fun x lo hi H Q=>∃ z,x=.str z∧z.length≤sizeLine∧∀ y:Str,y.length≤z.length→y=Txt.slice z lo hi→Q (.str y) H
theorem sl_str:SlR X rSlS:=by
  intro pins s σ H x v vl vu lo hi sl Q I rx hs pl pu h
  obtain ⟨z,rfl,hz,q⟩:=h
  obtain ⟨t,rfl⟩:=rx
  refine ⟨"str",_,PySem.F.slot_str_getitem.lookup,typeIs_str s z t,?_⟩
  obtain ⟨o,ho,hc,hd⟩:=hs
  have fin:∀ (lo hi:Option Int),(∀ y:Str,y.length≤z.length→y=Txt.slice z lo hi→Q (.str y) H)→(Txt.slice z lo hi).length≤sizeLine∧∀ t' k,EP X pins σ Q (.str (Txt.slice z lo hi) t') { s with toks:=k }:=fun lo hi q=>
    ⟨Nat.le_trans (Txt.slice_le z lo hi) hz,fun t' k=>⟨.str _,H,I.tok _,⟨_,rfl⟩,q _ (Txt.slice_le z lo hi) rfl⟩⟩
  cases pl with
  | none=>
    cases pu with
    | none=>exact wpAny_getItem_str_slice (l:=none) (u:=none) (st:=none) ⟨o,ho,hc,hd⟩ rfl (post_val_or_str (fin none none q))
    | int j uj=>exact wpAny_getItem_str_slice (l:=none) (u:=some (j,uj)) (st:=none) ⟨o,ho,hc,hd⟩ rfl (post_val_or_str (fin none (some j) q))
  | int i ui=>
    cases pu with
    | none=>exact wpAny_getItem_str_slice (l:=some (i,ui)) (u:=none) (st:=none) ⟨o,ho,hc,hd⟩ rfl (post_val_or_str (fin (some i) none q))
    | int j uj=>exact wpAny_getItem_str_slice (l:=some (i,ui)) (u:=some (j,uj)) (st:=none) ⟨o,ho,hc,hd⟩ rfl (post_val_or_str (fin (some i) (some j) q))
theorem strsAre_of {ys:List Str}:∀ {us:List Value},Vals (ys.map V.str) us→StrsAre us ys:=by
  induction ys with
  | nil=>intro us r;rw [List.map_nil] at r;cases r;exact .nil
  | cons n ns ih=>
    intro us r
    rw [List.map_cons] at r
    cases r with
    | cons r1 r2=>
      obtain ⟨t,e⟩:=r1
      subst e
      exact .cons n t (ih r2)
theorem mt_join:MtR X "str.join" (fun x xs H Q=>∃ (sep:Str) (p:Addr) (ys:List Str),x=.str sep∧xs=[.ref p]∧SqL X.K H p (ys.map V.str)∧(ys.map (·.length)).sum + ys.length * sep.length≤16777216∧
    ∀ y:Str,y=Txt.join sep ys→Q (.str y) H):=by
  intro pins s σ H x xs v us Q I rx rs h
  obtain ⟨sep,p,ys,rfl,rfl,hq,hz,q⟩:=h
  obtain ⟨t,rfl⟩:=rx
  obtain ⟨u,rfl,ru⟩:=vals1 rs
  cases ru
  obtain ⟨its,r',pl,_⟩:=I.list hq
  exact join_list pl.isList (strsAre_of r') hz fun t' k=>⟨.str _,H,I.tok _,⟨_,rfl⟩,q _ rfl⟩
end
end L2
set_option Elab.async false
set_option linter.all false
set_option maxRecDepth 100000
namespace L2
open PySem PySem.Spec PyProof.Rows
section
variable {X:Cx}{e st:Expr} {te ts:TE}{pos p2:Pos}
theorem fm_congr {α β:Type}{f g:α→Option β}:∀ {l:List α},(∀ k∈l,f k=g k)→l.filterMap f=l.filterMap g
  | [],_=>rfl
  | a::l,h=>by
    rw [List.filterMap_cons,List.filterMap_cons,h a List.mem_cons_self,fm_congr fun k hk=>h k (List.mem_cons_of_mem _ hk)]
theorem range_rev (l:List Value):((List.range l.length).map fun (k:Nat)=>(((l.length:Int) - 1) + (-1) * (k:Int)).toNat).filterMap (fun i=>l[i]?)=l.reverse:=by
  apply List.ext_getElem?
  intro i
  rw [List.filterMap_map]
  have e:((List.range l.length).filterMap ((fun i=>l[i]?) ∘ fun (k:Nat)=>(((l.length:Int) - 1) + (-1) * (k:Int)).toNat))=(List.range l.length).filterMap fun k=>l.reverse[k]?:=by
    refine fm_congr fun k hk=>?_
    have hk':k < l.length:=List.mem_range.mp hk
    show l[(((l.length:Int) - 1) + (-1) * (k:Int)).toNat]?=l.reverse[k]?
    rw [List.getElem?_reverse hk']
    congr 1
    omega
  rw [e]
  have e2:∀ r:List Value,(List.range r.length).filterMap (fun k=>r[k]?)=r:=by
    intro r
    induction r with
    | nil=>rfl
    | cons a r ih=>
      rw [List.length_cons,List.range_succ_eq_map,List.filterMap_cons]
      simp only [List.getElem?_cons_zero,List.filterMap_map]
      congr 1
  have e3:=e2 l.reverse
  rw [List.length_reverse] at e3
  rw [e3]
theorem pick_rev (its:List Value):slicePick its.toArray none none (some (-1))=its.reverse.toArray:=by
  unfold slicePick
  have h1:sliceBounds none none (some (-1)) its.toArray.size=((its.length:Int) - 1,-1,-1):=by
    simp [sliceBounds]
  rw [h1]
  unfold sliceRange
  simp only [show ¬ ((-1:Int) > 0) by decide,if_false]
  have hc:(if (its.length:Int) - 1 > -1 then ((its.length:Int) - 1 - -1 - -1 - 1) / (- -1) else 0).toNat=its.length:=by
    have e1:(- -1:Int)=1:=by decide
    rw [e1,Int.ediv_one]
    split<;>omega
  rw [hc]
  have:=range_rev its
  simp only [List.getElem?_toArray]
  rw [this]
noncomputable def rRev (K:PySem.W.Frag):V→Hp→VK→Prop:=fun x H Q=>∃ a xs,x=.ref a∧SqL K H a xs∧∀ p,H p=none→Q (.ref p) (upd H p (.lst xs.reverse))
noncomputable def tRev (K:PySem.W.Frag) (te ts:TE):TE:=fun σ H Q=>te σ H fun x H1=>ts σ H1 fun y H2=>y=.int (-1)∧rRev K x H2 Q
theorem pe_rev (he:PE X e te) (hs:PE X st ts):PE X (.Subscript e (.Slice none none (some st) p2) pos) (tRev X.K te ts):=by
  intro pins s σ H Q I h
  refine Subscript_ (thn (he pins s σ H _ I h) fun v s1 ⟨x,H1,I1,r1,q1⟩=>?_)
  refine wpAny_Slice ?_
  rw [evalPart_none,evalPart_some]
  refine wpAny_pure (wpAny_pure (thn (hs pins s1 σ H1 _ I1 q1) fun vs s3 ⟨y,H3,I3,r3,ey,q3⟩=>?_))
  subst ey
  obtain ⟨t,rfl⟩:=r3
  have I4:Inv X pins σ H3 { s3 with heap:=s3.heap.push { cls:=.type "slice",data:=.fields #[.none,.none,.int (-1) t] } }:=I3.kept (t':=s3.toks) fun b ob q=>Heap.get?_push_of_some _ q
  obtain ⟨a,xs,rfl,hx,q⟩:=q3
  cases r1
  obtain ⟨its,r,ht,hz⟩:=I4.list hx
  have hlen:=r.length
  show wpAny (model X.prog X.w) X.A (subscriptTail e (.Slice none none (some st) p2) (.ref a) (.ref s3.heap.objs.size)) (EP X pins σ Q) X.xe { s3 with heap:=s3.heap.push { cls:=.type "slice",data:=.fields #[.none,.none,.int (-1) t] } }
  refine tail_any (ops:=[.ref a,.ref s3.heap.objs.size]) ht.isList.typeIs slot_list_getitem.lookup ?_ (by with_unfolding_all rfl)
  refine wpAny_getItem_list_slice ht.isList (Heap.IsSliceOf.new ..) .none .none (.int (-1) t) (by simp) ?_ (by rw [List.size_toArray]<;>omega)
  rw [pick_rev]
  exact ⟨.ref _,_,I4.lnew (t':=s3.toks) r.reverse (by rw [List.length_reverse];exact hz),rfl,q _ I4.fresh⟩
end
end L2
namespace HT
open PySem PyProof.Rows
section
open PySem.SeqAt
open PySem.AutoSeq1 (wpAny_loadPart')
open PySem.MeetsSeq PySem.MeetsSeq2 PySem.MeetsSeq3
theorem rcGe_int (A:Around) (s:Shared) (a:Int) (t:Tok) (c:Int) (u:Tok) (prog:Program) (w:World) (E:Value→Shared→Prop) (Q:Value→Shared→Prop) (h:Q (.bool (decide (c≤a))) s) :
    wpAny (model prog w) A (richCompare .GtE (.int a t) (.int c u)) Q E s:=
  (PyProof.Rows.ge_int h:wpAny (model prog w) A (compareOp .GtE (.int a t) (.int c u)) Q E s)
theorem tuple_ge_ints (l b:Addr) (items items2:Array Value) (n n2:Nat) (dd dd2:Option Addr) (sl sl2:Array (Option Value)) (ns ms:List Int) (hi:IntsAre items.toList ns) (hj:IntsAre items2.toList ms) :
    Meets (Builtin.«tuple.__ge__» ⟨[.ref l,.ref b],[]⟩)
      (fun _ R s=>s.heap.get? l=some { cls:=.type "tuple",dict:=dd,data:=.seq items n,slots:=sl }∧s.heap.get? b=some { cls:=.type "tuple",dict:=dd2,data:=.seq items2 n2,slots:=sl2 }∧
        R (.ok (.ret (.bool (!lexLt ns ms)))) s):=
  .of_wp fun prog w A R s h=>by
    obtain ⟨hp,g,d,tk,os⟩:=s;obtain ⟨hl,hb,h⟩:=h
    have f2:=AutoSeq1.sub_tuple_tuple
    have z1:items.size=ns.length:=by rw [← hi.length];simp
    have z2:items2.size=ms.length:=by rw [← hj.length];simp
    wp_walk using wpAny_loadPart' hl,wpAny_loadPart' hb,wpAny_forIn_list _ (fun rest b s'=>b.1=none∧s'=⟨hp,g,d,tk,os⟩∧∃ (vs ws:List Value) (ns' ms':List Int),rest=vs.zip ws∧
      IntsAre vs ns'∧IntsAre ws ms'∧ns'.length + items2.size=ms'.length + items.size∧R (.ok (.ret (.bool (!lexLt ns' ms')))) ⟨hp,g,d,tk,os⟩) _
    case turn=>
      rintro ⟨y,x⟩ rest b s' ⟨hb',rfl,vs,ws,ns',ms',hz,hvi,hwi,hlen,hR⟩
      cases hvi with
      | nil=>rw [List.zip_nil_left] at hz;cases hz
      | cons a t hvi'=>
        cases hwi with
        | nil=>rw [List.zip_nil_right] at hz;cases hz
        | cons c u hwi'=>
          rw [List.zip_cons_cons] at hz
          injection hz with hyx hrest
          injection hyx with hy hx
          subst hy hx
          rw [lexLt_cons] at hR
          simp only [List.length_cons] at hlen
          obtain ⟨e,he,hiff⟩:=eqAt_int A.in1 ⟨hp,g,d,tk,os⟩ a t c u
          refine wpAny_bind (he prog w _ _ ?_)
          cases e with
          | true=>
            rw [if_pos (hiff.mp rfl)] at hR
            wp_walk
            exact ⟨rfl,rfl,_,_,_,_,hrest,hvi',hwi',by omega,hR⟩
          | false=>
            rw [if_neg (fun q=>absurd (hiff.mpr q) Bool.false_ne_true)] at hR
            have hri:=rcGe_int A.in1 ⟨hp,g,d,tk,os⟩ a t c u prog w
            have e2:(!decide (a < c))=decide (c≤a):=by
              by_cases q:a < c
              · rw [decide_eq_true q,decide_eq_false (by omega)];rfl
              · rw [decide_eq_false q,decide_eq_true (by omega)];rfl
            rw [e2] at hR
            wp_walk using hri
            exact ⟨_,rfl,by simpa using hR⟩
    case fin=>
      rintro ⟨b1,b2⟩ s' ⟨hb',rfl,vs,ws,ns',ms',hz,hvi,hwi,hlen,hR⟩
      simp only at hb'
      subst hb'
      have hv:lexLt ns' ms'=decide (items.size < items2.size):=by
        cases hvi with
        | nil=>
          cases hwi with
          | nil=>
            simp only [List.length_nil] at hlen
            rw [lexLt_nil_nil]
            exact (decide_eq_false (by omega)).symm
          | cons c u hw=>
            simp only [List.length_nil,List.length_cons] at hlen
            rw [lexLt_nil_cons]
            exact (decide_eq_true (by omega)).symm
        | cons a t hv=>
          cases hwi with
          | nil=>
            simp only [List.length_nil,List.length_cons] at hlen
            rw [lexLt_cons_nil]
            exact (decide_eq_false (by omega)).symm
          | cons c u hw=>
            rw [List.zip_cons_cons] at hz
            cases hz
      have e2:(!decide (items.size < items2.size))=decide (items.size ≥ items2.size):=by
        by_cases q:items.size < items2.size
        · rw [decide_eq_true q,decide_eq_false (by omega)];rfl
        · rw [decide_eq_false q,decide_eq_true (by omega)];rfl
      rw [hv,e2] at hR
      wp_walk
      exact ⟨_,rfl,by simpa [Builtin.Tuple.tupleCompareSizes] using hR⟩
    case h=>
      exact ⟨rfl,rfl,items.toList,items2.toList,ns,ms,rfl,hi,hj,by omega,h⟩
end
section
variable {prog:Program}{w:World} {A:Around}{E:Value→Shared→Prop} {s:Shared}
theorem ge_tupInts {l b:Addr}{items items2:Array Value} {ns ms:List Int}{Q:Value→Shared→Prop} (hl:IsTup s.heap l items) (hb:IsTup s.heap b items2) (hi:IntsAre items.toList ns) (hj:IntsAre items2.toList ms)
    (hu:A.units < cLine) (h:Q (.bool (!lexLt ns ms)) s):wpAny (model prog w) A (compareOp .GtE (.ref l) (.ref b)) Q E s:=by
  obtain ⟨⟨cls,dd,data,sl⟩,ho,hc,n,hd⟩:=id hl
  obtain ⟨⟨cls2,dd2,data2,sl2⟩,ho2,hc2,n2,hd2⟩:=id hb
  simp only at hc hd hc2 hd2
  subst hc hd hc2 hd2
  exact richCompare_meets_room (op:=.GtE) ⟨_,ho,rfl⟩ ⟨_,ho2,rfl⟩ PySem.F.slot_tuple_ge PySem.F.entry_tuple_ge (PySem.F.args_tuple_ge_2 _ _) (tuple_ge_ints l b items items2 n n2 dd dd2 sl sl2 ns ms hi hj)
    ⟨ho,ho2,show Value.bool (!lexLt ns ms)≠Value.notImplemented∧Q (.bool (!lexLt ns ms)) s from ⟨(fun x=>nomatch x),h⟩⟩ hu
theorem nextOf_tuple_item {it l:Addr}{i:Nat} {items} {x:Value}{Q:Value→Shared→Prop} (hit:s.heap.IsTupleIter it l i)
    (hl:s.heap.IsTuple l items) (hx:items[i]?=some x)
    (hQ:∀ h',h'.IsTupleIter it l (i + 1)→Heap.SameBut it s.heap h'→Q x { s with heap:=h' }) :
    wpAny (model prog w) A (Builtin.SmallTypes.nextOf (.ref it)) Q E s:=by
  obtain ⟨o,ho,hc,hd⟩:=id hit
  obtain ⟨ol,hol,_,nl,hdl⟩:=hl
  unfold Builtin.SmallTypes.nextOf
  refine wpAny_bind (wpAny_callSpecial?_slot (name:=Str.ofString "__next__") hit.typeIs PySem.F.slot_tuple_iterator_next
    (wpAny_call_entry PySem.F.slot_tuple_iterator_next hit.typeIs PySem.F.entry_tuple_iterator_next ?_ (PySem.F.args_tuple_iterator_next_1 _)))
  show wpAny _ _ (field (.ref it) 0 >>= _) _ _ s
  refine wpAny_bind (wpAny_field ho hd (x:=.ref l) rfl ?_)
  show wpAny _ _ (if (Value.ref l == Value.none)=true then _ else _) _ _ s
  rw [if_neg (show ¬ ((Value.ref l == Value.none)=true) from Bool.false_ne_true)]
  show wpAny _ _ (field (.ref it) 1 >>= _) _ _ s
  refine wpAny_bind (wpAny_field ho hd (x:=.int i 0) rfl ?_)
  show wpAny _ _ (seqItems? (.ref l) >>= _) _ _ s
  refine wpAny_bind (wpAny_seqItems hol hdl ?_)
  simp only [Int.toNat_natCast,hx]
  refine wpAny_bind (wpAny_setField ho hd (by simp) (wpAny_pure ⟨x,rfl,wpAny_pure (hQ _ ?_ (Heap.SameBut.update ..))⟩))
  exact ⟨_,Heap.get?_update_self _ ho (Obj.isFreed_of_fields (Obj.data_mapFields hd _)),(Obj.cls_mapFields ..).trans hc,by
    rw [Obj.data_mapFields hd];simp [rawInt]⟩
theorem nextOf_tuple_end {it l:Addr}{i:Nat} {items} {Q:Value→Shared→Prop}(hh:A.handled=none)
    (hit:s.heap.IsTupleIter it l i) (hl:s.heap.IsTuple l items) (hx:items[i]?=none)
    (hE:∀ h' e,Heap.ExtBut it s.heap h'→(∃ o,h'.get? e=some o∧o.cls=.type "StopIteration")→E (.ref e) { s with heap:=h' }) :
    wpAny (model prog w) A (Builtin.SmallTypes.nextOf (.ref it)) Q E s:=by
  obtain ⟨o,ho,hc,hd⟩:=id hit
  obtain ⟨ol,hol,_,nl,hdl⟩:=hl
  unfold Builtin.SmallTypes.nextOf
  refine wpAny_bind (wpAny_callSpecial?_slot (name:=Str.ofString "__next__") hit.typeIs PySem.F.slot_tuple_iterator_next
    (wpAny_call_entry PySem.F.slot_tuple_iterator_next hit.typeIs PySem.F.entry_tuple_iterator_next ?_ (PySem.F.args_tuple_iterator_next_1 _)))
  show wpAny _ _ (field (.ref it) 0 >>= _) _ _ s
  refine wpAny_bind (wpAny_field ho hd (x:=.ref l) rfl ?_)
  show wpAny _ _ (if (Value.ref l == Value.none)=true then _ else _) _ _ s
  rw [if_neg (show ¬ ((Value.ref l == Value.none)=true) from Bool.false_ne_true)]
  show wpAny _ _ (field (.ref it) 1 >>= _) _ _ s
  refine wpAny_bind (wpAny_field ho hd (x:=.int i 0) rfl ?_)
  show wpAny _ _ (seqItems? (.ref l) >>= _) _ _ s
  refine wpAny_bind (wpAny_seqItems hol hdl ?_)
  simp only [Int.toNat_natCast,hx]
  refine wpAny_bind (wpAny_rule (wpAny_bind (wpAny_setField ho hd (by simp) ?_)))
  show wpAny _ _ (newExc (.type "StopIteration") [] >>= _) _ _ _
  refine wpAny_bind ?_
  simp only [newExc,newTuple]
  refine wpAny_bind (wpAny_newObj_type ?_ (by size_fits))
  refine wpAny_bind (m:=firstArgMember _ _) (wpAny_of_eq (a:=Value.none) (by first | rfl | (simp only [firstArgMember];rfl)) ?_)
  refine wpAny_newObj_type ?_ (by size_fits)
  simp only [raiseNew]
  refine wpAny_bind (wpAny_handled ?_)
  first | rw [show A.in1.handled=none from hh] | rw [hh]
  refine wpAny_bind (wpAny_pure (wpAny_throw ?_))
  exact hE _ _ (((Heap.SameBut.update ..).extBut.push _).push _) ⟨_,Heap.get?_push_size _ rfl,rfl⟩
end
theorem drawsT {prog:Program}{w:World} {A:Around}(hh:A.handled=none) (it l:Addr) (hne:l≠it) (items:Array Value) :
    Draws prog w A it [it,l] items.size (fun i v=>items[i]?=some v) (fun i h=>h.IsTupleIter it l i∧h.IsTuple l items) where
  live:=fun _ _ st=>let ⟨o,ho,_⟩:=st.1;⟨o,ho⟩
  frame:=fun _ _ _ st hk=>⟨st.1.at fun o e=>hk it (by simp) o e,let ⟨o,ho,r⟩:=st.2;⟨o,hk l (by simp) o ho,r⟩⟩
  item:=fun i s Q E hi st hQ=>by
    refine nextOf_tuple_item st.1 st.2 (x:=items[i]) (by simp [hi]) fun h' hit' hs'=>?_
    exact hQ _ h' s.toks (by simp [hi]) ⟨hit',let ⟨o,ho,r⟩:=st.2;⟨o,hs'.extBut _ _ hne ho,r⟩⟩ hs'
  done:=fun s Q E st hE=>nextOf_tuple_end hh st.1 st.2 (by simp) hE
theorem enumerate_newT (l:Addr) (items:Array Value) (n:Nat) (dct:Option Addr) (sl:Array (Option Value)) :
    Meets (Builtin.«enumerate.__new__» ⟨[.type "enumerate",.ref l],[]⟩) (fun _ R s=>s.heap.get? l=some { cls:=.type "tuple",dict:=dct,data:=.seq items n,slots:=sl }∧
      R (.ok (.ret (.ref (s.heap.push { cls:=.type "tuple_iterator",data:=.fields #[.ref l,.int 0 0] }).objs.size)))
        { s with heap:=(s.heap.push { cls:=.type "tuple_iterator",data:=.fields #[.ref l,.int 0 0] }).push { cls:=.type "enumerate",data:=.fields #[.none,.bool false,.ref s.heap.objs.size,rawInt 0,.none,.none] } }):=
  .of_wp fun prog w A R s h=>by
    obtain ⟨hp,g,d,tk,os⟩:=s;obtain ⟨hl,h⟩:=h
    have hsub:=sub_enumerate
    have hL:Heap.IsTuple (Shared.heap ⟨hp,g,d,tk,os⟩) l items:=⟨_,hl,rfl,n,rfl⟩
    wp_walk using AutoSeq1.wpAny_loadPart' hl
    refine wpAny_stack_any fun st=>wpAny_pure ?_
    split
    · rename_i c _ _ _ _ _
      cases (c == Value.type "enumerate")
      · wp_walk using AutoSeq1.wpAny_loadPart' hl,wpAny_pyIter_tuple hL
        exact ⟨_,rfl,h⟩
      · wp_walk using AutoSeq1.wpAny_loadPart' hl,wpAny_pyIter_tuple hL
        exact ⟨_,rfl,h⟩
    · wp_walk using AutoSeq1.wpAny_loadPart' hl,wpAny_pyIter_tuple hL
      exact ⟨_,rfl,h⟩
section
variable {prog:Program}{w:World} {A:Around}{E:Value→Shared→Prop} {s:Shared}
theorem call_enumerate_tuple {l:Addr}{items:Array Value} {Q:Value→Shared→Prop}(hL:s.heap.IsTuple l items)
    (h:∀ h',IsEnum h' (s.heap.objs.size + 1) s.heap.objs.size 0 .none→h'.IsTupleIter s.heap.objs.size l 0→h'.objs.size=s.heap.objs.size + 2→
      (∀ b o,s.heap.get? b=some o→h'.get? b=some o)→Q (.ref (s.heap.objs.size + 1)) { s with heap:=h' }) :
    wpAny (model prog w) A (call (.type "enumerate") [.ref l]) Q E s:=by
  obtain ⟨⟨c,dct,dt,sl⟩,hl,hc,n,hd⟩:=hL
  replace hc:c=.type "tuple" := hc
  replace hd:dt=.seq items n:=hd
  subst hc hd
  refine callType_new PySem.F.called_enumerate (by decide) (PySem.F.typeCall_enumerate_1 _) (PySem.F.newCall_enumerate_1 _) (fun obj=>PySem.F.args_object_init_2 obj _) PySem.F.entry_enumerate_new
    (enumerate_newT l items n dct sl) ⟨hl,?_⟩
  have hz:(s.heap.push { cls:=.type "tuple_iterator",data:=.fields #[.ref l,.int 0 0] }).objs.size=s.heap.objs.size + 1:=Heap.size_push ..
  show _∧_
  rw [hz]
  have he:IsEnum ((s.heap.push { cls:=.type "tuple_iterator",data:=.fields #[.ref l,.int 0 0] }).push
      { cls:=.type "enumerate",data:=.fields #[.none,.bool false,.ref s.heap.objs.size,rawInt 0,.none,.none] }) (s.heap.objs.size + 1) s.heap.objs.size 0 .none:=by
    have:=Heap.get?_push_size (s.heap.push { cls:=.type "tuple_iterator",data:=.fields #[.ref l,.int 0 0] })
      (o:={ cls:=.type "enumerate",data:=.fields #[.none,.bool false,.ref s.heap.objs.size,rawInt 0,.none,.none] }) rfl
    rw [hz] at this;exact this
  refine ⟨⟨_,he,rfl⟩,h _ he ⟨_,Heap.get?_push_of_some _ (Heap.get?_push_size _ rfl),rfl,rfl⟩ (by rw [Heap.size_push,hz]) fun b o x=>Heap.get?_push_of_some _ (Heap.get?_push_of_some _ x)⟩
end
end HT
namespace L2
open PySem PySem.Spec PyProof.Rows
section
variable {X:Cx}
noncomputable def rGeT (K:PySem.W.Frag):R2:=fun x y H Q=>∃ a b ns ms,x=.ref a∧y=.ref b∧SqT K H a (ns.map V.int)∧SqT K H b (ms.map V.int)∧Q (.bl (!HT.lexLt ns ms)) H
theorem op_geT (hu:X.A.units < cLine):OpR X (compareOp .GtE) (rGeT X.K):=by
  intro pins s σ H x y v u Q I rx ry h
  obtain ⟨a,b,ns,ms,rfl,rfl,ha,hb,q⟩:=h
  cases rx
  cases ry
  obtain ⟨its,r1,p1,_⟩:=I.tuple ha
  obtain ⟨its2,r2,p2,_⟩:=I.tuple hb
  have i1:IntsAre its.toArray.toList ns:=intsAre_of r1
  have i2:IntsAre its2.toArray.toList ms:=intsAre_of r2
  exact HT.ge_tupInts p1 p2 i1 i2 hu ⟨.bl (!HT.lexLt ns ms),H,I,rfl,q⟩
noncomputable def Ite (K:PySem.W.Frag) (a:Addr):It:=
  ⟨fun i H=>∃ xs x,SqT K H a xs∧xs[i]?=some x,fun i H x H'=>∃ p v,H p=none∧x=.ref p∧H'=upd H p (.tup [.int i,v])∧∀ xs,SqT K H a xs→xs[i]?=some v,fun i H=>∃ xs,SqT K H a xs∧xs.length=i⟩
theorem turn_enumT {P:Program}{w:World} {K:PySem.W.Frag}{elts:List Expr} {k:Nat}{tpos:Pos} (a e it:Addr) (hei:e≠it):Turn P w K (.Tuple elts k tpos) (Ite K a) [e,it] e (fun i h=>(∃ old,IsEnum h e it i old)∧h.IsTupleIter it a i) where
  mem:=by simp
  obj:=fun i h st b hb=>by
    obtain ⟨⟨old,he⟩,o,e2,c,d⟩:=st
    rcases List.mem_cons.mp hb with rfl | hb
    · exact ⟨_,he,fun v z=>by cases (show Data.fields _=Data.cell v from z)⟩
    · rw [List.mem_singleton.mp hb]
      exact ⟨o,e2,fun v z=>by rw [d] at z;cases z⟩
  keep:=fun i h h' st k=>⟨let ⟨old,he⟩:=st.1;⟨old,k e (by simp) _ he⟩,st.2.at fun o e=>k it (by simp) o e⟩
  item:=by
    intro X hP hw hK hc i pins s σ H E I hf st hg
    subst hP hw hK
    obtain ⟨xs,x,hq,hx⟩:=hg
    obtain ⟨its,rv,p,hz⟩:=I.tuple hq
    obtain ⟨u,hu,ru⟩:=rv.get hx
    obtain ⟨⟨old,he⟩,hit⟩:=st
    have fe:=hf e (by simp)
    have fi:=hf it (by simp)
    have hai:a≠it:=by
      rintro rfl
      obtain ⟨o,e1,c1,_⟩:=id hit
      obtain ⟨o',e2,c2,_⟩:=id p
      rw [e1] at e2;cases e2;rw [c1] at c2
      exact absurd c2 (by decide)
    have hae:a≠e:=by
      rintro rfl
      obtain ⟨o',e2,c2,_⟩:=id p
      rw [he] at e2;cases e2
      exact absurd (show Value.type "enumerate" = Value.type "tuple" from c2) (by decide)
    have hilt:i < its.toArray.size:=by
      have:=(List.getElem?_eq_some_iff.mp hu).1
      simpa using this
    refine wpAny_pyNext_enum_itemD (HT.drawsT (A:=X.A.in1) (I.ok.hd hc) it a hai its.toArray) he ⟨hit,p⟩ hilt hei (by simp [hei,Ne.symm hae]) fun x' h' tk hP ho hs' hT hsz hk=>?_
    have ex:x'=u:=by
      have:its[i]?=some x':=by simpa using hP
      rw [hu] at this;exact (Option.some.inj this).symm
    subst ex
    refine ⟨_,rfl,?_⟩
    refine wpAny_letOwnedTupleGo_enum ho fun h2 he2 hs2=>?_
    have hTe:s.heap.objs.size≠e:=Nat.ne_of_gt (Heap.lt_size he)
    have hTn:h2.get? s.heap.objs.size=some { cls:=.type "tuple",data:=.seq #[.int i tk,x'] }:=(hs2.2 _ hTe).trans hT
    have kk:∀ b o,b≠e→b≠it→s.heap.get? b=some o→h2.get? b=some o:=fun b o h1 h3 e=>(hs2.2 b h1).trans (hk b o h1 h3 e)
    have hit2:h2.IsTupleIter it a (i + 1):=hs'.1.at fun o e=>(hs2.2 it (Ne.symm hei)).trans e
    have fr:H s.heap.objs.size=none:=I.fresh
    have nE:∀ b u,H b=some u→b≠e:=fun b u q z=>by rw [z,fe.1] at q;cases q
    have nI:∀ b u,H b=some u→b≠it:=fun b u q z=>by rw [z,fi.1] at q;cases q
    have hok0:HOk X.prog X.w H h2:=fun b u q=>by
      refine (I.hok b u q).stay (fun c v hc q'=>kk c v ?_ ?_ q') (fun _ z=>z) fun _ _ z=>z
      · rcases hc with z | z
        · rw [z];exact nE b u q
        · exact nE c _ z
      · rcases hc with z | z
        · rw [z];exact nI b u q
        · exact nI c _ z
    have new:ObjOk X.prog X.w (upd H s.heap.objs.size (.tup [.int i,x])) h2 s.heap.objs.size (.tup [.int i,x]):=
      ⟨by show 2≤sizeLine;rw [sizeLine_eq];decide,[.int i tk,x'],.cons ⟨_,rfl⟩ (.cons ru .nil),⟨_,hTn,rfl,_,rfl⟩⟩
    have hok1:HOk X.prog X.w (upd H s.heap.objs.size (.tup [.int i,x])) h2:=fun b u q=>by
      by_cases hb:b=s.heap.objs.size
      · subst hb;rw [upd_same] at q;cases q;exact new
      · rw [upd_ne hb] at q
        exact (hok0 b u q).stay (fun _ _ _ z=>z) (fun c z=>by rw [upd_ne (ne_of_none z fr)];exact z) fun c xs z=>by rw [upd_ne (ne_of_none z fr)];exact z
    have I1:Inv X pins σ (upd H s.heap.objs.size (.tup [.int i,x])) { s with heap:=h2,toks:=tk + 1 }:=by
      refine I.step (g':=s.gens) (d':=s.drawn) (ch:=[e,it]) (fun b hb=>?_) (fun b o _ _ hcc q _=>kk b o (fun z=>hcc (by simp [z])) (fun z=>hcc (by simp [z])) q) (fun b o _ _ hcc q _=>⟨o.slots,kk b o (fun z=>hcc (by simp [z])) (fun z=>hcc (by simp [z])) q⟩)
        (fun b o _ q n=>by rw [upd_ne (Nat.ne_of_lt (Heap.lt_size q))];exact n) (fun b o hcc q=>⟨o,kk b o (fun z=>hcc (by simp [z])) (fun z=>hcc (by simp [z])) q⟩) (fun b xs q=>by rw [upd_ne (ne_of_none q fr)];exact q) (fun b o xs q=>by rw [upd_ne (ne_of_none q fr)];exact q)
        (fun b ps q=>⟨#[],by rw [upd_ne (ne_of_none q fr),q];simp⟩) (fun m hm=>?_) hok1 I.bare
      · rcases List.mem_cons.mp hb with rfl | hb
        · exact ⟨fe.2.2.2.1,fe.2.1,fe.2.2.2.2.1,fe.2.2.2.2.2⟩
        · rw [List.mem_singleton.mp hb]
          exact ⟨fi.2.2.2.1,fi.2.1,fi.2.2.2.2.1,fi.2.2.2.2.2⟩
      · obtain ⟨o,es,ep,ho',r⟩:=hm
        exact ⟨o,es,ep,kk _ o (Ne.symm fe.2.1) (Ne.symm fi.2.1) ho',r⟩
    refine ⟨.ref s.heap.objs.size,_,I1,rfl,⟨s.heap.objs.size,x,fr,rfl,rfl,fun ys hy=>by rw [I.tuple_inj hy hq];exact hx⟩,⟨⟨x',by simpa using he2⟩,hit2⟩,fun b hb=>?_⟩
    have hbl:b≠s.heap.objs.size:=by
      rcases List.mem_cons.mp hb with rfl | hb
      · exact Ne.symm hTe
      · rw [List.mem_singleton.mp hb]
        obtain ⟨o,e1,_⟩:=hit
        exact Nat.ne_of_lt (Heap.lt_size e1)
    rw [upd_ne hbl]
    exact (hf b hb).1
  done:=by
    intro X hP hw hK hc i pins s σ H E I hf st hg
    subst hP hw hK
    obtain ⟨xs,hq,hx⟩:=hg
    obtain ⟨its,rv,p,hz⟩:=I.tuple hq
    obtain ⟨⟨old,he⟩,hit⟩:=st
    have fi:=hf it (by simp)
    have hai:a≠it:=by
      rintro rfl
      obtain ⟨o,e1,c1,_⟩:=id hit
      obtain ⟨o',e2,c2,_⟩:=id p
      rw [e1] at e2;cases e2;rw [c1] at c2
      exact absurd c2 (by decide)
    have hn:its.toArray.size=i:=by rw [List.size_toArray,← rv.length];exact hx
    refine wpAny_pyNext_enum_endD (HT.drawsT (A:=X.A.in1) (I.ok.hd hc) it a hai its.toArray) he (by rw [hn];exact ⟨hit,p⟩) fun h' hx'=>⟨rfl,?_⟩
    obtain ⟨f0,f1,f2,f3,f4,f5⟩:=fi
    exact I.turned (t':=s.toks) (fun b o hb e=>hx' b o hb e) f0 f1 f3 f4 f5
  self:=fun A i s Q E st h=>by
    obtain ⟨⟨old,he⟩,_⟩:=st
    exact wpAny_pyIter_enum he h
noncomputable def iEnumT (K:PySem.W.Frag) (ta:TA):TI:=fun σ H R=>ta σ H fun vs H1=>∃ a xs,vs=[.ref a]∧SqT K H1 a xs∧R (Ite K a) H1
theorem pi_enumT {elts:List Expr}{k:Nat} {tpos p pos:Pos}{a:Expr} {ta:TA}(hg:Gl X "enumerate") (hm:X.mg "enumerate" = none) (ha:PA X [a] ta) (hs:starEach [a] X.env=[(false,eval a X.env)]:=by rfl):PI X (.Tuple elts k tpos) (.Call (.Name "enumerate" p) [a] [] pos) (iEnumT X.K ta):=by
  intro pins s σ H R I h
  refine Call_ (ld_blt I hg hm boot_enumerate (PyProof.Rows.callWith_type1 (thn (ha pos pins s σ H _ I h) fun us s1 ⟨vs,H1,I1,r1,q1⟩=>?_) hs rfl))
  obtain ⟨a,xs,e,hq,q⟩:=q1
  subst e
  obtain ⟨u,rfl,ru⟩:=vals1 r1
  cases ru
  obtain ⟨its,rv,p,hz⟩:=I1.tuple hq
  refine HT.call_enumerate_tuple p fun h' he hit hsz hk=>?_
  have I2:Inv X pins σ H1 { s1 with heap:=h' }:=I1.kept (t':=s1.toks) hk
  refine wpAny_pyIter_enum he ?_
  refine ⟨s1.heap.objs.size + 1,[s1.heap.objs.size + 1,s1.heap.objs.size],_,_,H1,rfl,I2,turn_enumT a (s1.heap.objs.size + 1) s1.heap.objs.size (Nat.succ_ne_self _),⟨⟨_,he⟩,hit⟩,fun b hb=>?_,q⟩
  rcases List.mem_cons.mp hb with rfl | hb
  · exact I1.fpOk (Nat.le_succ _) (I1.hok.fresh (Nat.le_succ _))
  · rw [List.mem_singleton.mp hb]
    exact I1.fpOk (Nat.le_refl _) (I1.hok.fresh (Nat.le_refl _))
end
end L2
set_option Elab.async false
set_option linter.all false
set_option maxRecDepth 100000
namespace L2
open PySem PySem.Spec PyProof.Rows
section
variable {X:Cx}(K:PySem.W.Frag)
end
end L2
set_option Elab.async false
set_option linter.all false
set_option maxRecDepth 100000
namespace FL
open PySem PySem.Spec PyProof.Rows L2
inductive KD where
  | int (i:Int) | str (x:Str) | tup (l:List Key)
  deriving DecidableEq
inductive D where
  | non | bl (b:Bool) | int (i:Int) | str (x:Str) | tup (l:List D) | lst (l:List D) | scr (ns:List Int) | dic (ks:List KD) (ds:List D) | set (l:List KD) | exc (c:Str) (d:D)
noncomputable def kdK:Key→KD
  | .inl i=>.int i
  | .inr x=>.str x
noncomputable def DicAt (F:Hp) (a:Addr) (ks:List KD) (vs:List V):Prop:=
  (∃ kvs:List (Key×V),F a=some (.dK kvs)∧ks=kvs.map (fun p=>kdK p.1)∧vs=kvs.map (·.2))∨
  (∃ kvs:List (List Key×V),F a=some (.dT kvs)∧(ks=kvs.map (fun p=>KD.tup p.1)∧kvs≠[])∧vs=kvs.map (·.2))
noncomputable def DicF (F:Hp) (a:Addr) (ks:List KD) (vs:List V):Prop:=∃ o,
  (∃ kvs:List (Key×V),F a=some (.frz o (.dK kvs))∧ks=kvs.map (fun p=>kdK p.1)∧vs=kvs.map (·.2))∨
  (∃ kvs:List (List Key×V),F a=some (.frz o (.dT kvs))∧(ks=kvs.map (fun p=>KD.tup p.1)∧kvs≠[])∧vs=kvs.map (·.2))
noncomputable def DicB (H:Hp) (a:Addr) (ks:List KD) (vs:List V):Prop:=DicAt H a ks vs∨DicF H a ks vs
noncomputable def SetAt (F:Hp) (a:Addr) (l:List KD):Prop:=∃ o,F a=some o∧False
mutual
noncomputable def Dat (K:PySem.W.Frag) (F:Hp):D→V→Prop
  | .non,v=>v=.non
  | .bl b,v=>v=.bl b
  | .int i,v=>v=.int i
  | .str x,v=>v=.str x
  | .tup l,v=>∃ a vs,v=.ref a∧F a=some (.tup vs)∧DatL K F l vs
  | .lst l,v=>∃ a vs,v=.ref a∧F a=some (.lst vs)∧DatL K F l vs
  | .scr ns,v=>∃ a,v=.ref a∧SqL K F a (ns.map V.int)
  | .dic ks ds,v=>∃ a vs,v=.ref a∧DicF F a ks vs∧DatL K F ds vs
  | .set l,v=>∃ a,v=.ref a∧SetAt F a l
  | .exc _ _,_=>False
noncomputable def DatL (K:PySem.W.Frag) (F:Hp):List D→List V→Prop
  | [],vs=>vs=[]
  | d::l,vs=>∃ v r,vs=v::r∧Dat K F d v∧DatL K F l r
end
section
variable {K:PySem.W.Frag}{F F' H H':Hp}
theorem DicAt.mono (s:Same F F') {a:Addr}{ks:List KD} {vs:List V}(h:DicAt F a ks vs):DicAt F' a ks vs:=by
  rcases h with ⟨kvs,h,r⟩ | ⟨kvs,h,r⟩
  · exact .inl ⟨kvs,s _ _ h,r⟩
  · exact .inr ⟨kvs,s _ _ h,r⟩
theorem DicF.mono (s:Same F F') {a:Addr}{ks:List KD} {vs:List V}(h:DicF F a ks vs):DicF F' a ks vs:=by
  obtain ⟨o,⟨kvs,h,r⟩ | ⟨kvs,h,r⟩⟩:=h
  · exact ⟨o,.inl ⟨kvs,s _ _ h,r⟩⟩
  · exact ⟨o,.inr ⟨kvs,s _ _ h,r⟩⟩
theorem DicB.mono (s:Same F F') {a:Addr}{ks:List KD} {vs:List V}(h:DicB F a ks vs):DicB F' a ks vs:=h.imp (DicAt.mono s) (DicF.mono s)
theorem SetAt.mono (s:Same F F') {a:Addr}{l:List KD} (h:SetAt F a l):SetAt F' a l:=by
  obtain ⟨o,h,z⟩:=h;exact ⟨o,s _ _ h,z⟩
theorem DicAt.some {a:Addr}{ks:List KD} {vs:List V}(h:DicAt F a ks vs):∃ o,F a=some o:=by
  rcases h with ⟨kvs,h,r⟩ | ⟨kvs,h,r⟩
  · exact ⟨_,h⟩
  · exact ⟨_,h⟩
theorem DicF.some {a:Addr}{ks:List KD} {vs:List V}(h:DicF F a ks vs):∃ o,F a=some o:=by
  obtain ⟨o,⟨kvs,h,r⟩ | ⟨kvs,h,r⟩⟩:=h
  · exact ⟨_,h⟩
  · exact ⟨_,h⟩
theorem DicB.some {a:Addr}{ks:List KD} {vs:List V}(h:DicB F a ks vs):∃ o,F a=some o:=h.elim DicAt.some DicF.some
theorem SetAt.some {a:Addr}{l:List KD} (h:SetAt F a l):∃ o,F a=some o:=let ⟨o,h,_⟩:=h;⟨o,h⟩
theorem DicAt.at {a:Addr}(e:F' a=F a) {ks:List KD}{vs:List V} (h:DicAt F a ks vs):DicAt F' a ks vs:=by
  unfold DicAt at h ⊢;rw [e];exact h
theorem DicF.at {a:Addr}(e:F' a=F a) {ks:List KD}{vs:List V} (h:DicF F a ks vs):DicF F' a ks vs:=by
  unfold DicF at h ⊢;rw [e];exact h
theorem DicB.at {a:Addr}(e:F' a=F a) {ks:List KD}{vs:List V} (h:DicB F a ks vs):DicB F' a ks vs:=h.imp (DicAt.at e) (DicF.at e)
theorem SetAt.at {a:Addr}(e:F' a=F a) {l:List KD}(h:SetAt F a l):SetAt F' a l:=by
  unfold SetAt at h ⊢;rw [e];exact h
mutual
theorem Dat.mono (t:Same F F'):∀ {d:D}{v:V},Dat K F d v→Dat K F' d v
  | .non,_,h=>by simp only [Dat] at h ⊢;exact h
  | .bl _,_,h=>by simp only [Dat] at h ⊢;exact h
  | .int _,_,h=>by simp only [Dat] at h ⊢;exact h
  | .str _,_,h=>by simp only [Dat] at h ⊢;exact h
  | .tup l,_,h=>by
    simp only [Dat] at h ⊢
    obtain ⟨a,vs,e,h1,h2⟩:=h
    exact ⟨a,vs,e,t _ _ h1,DatL.mono t h2⟩
  | .lst l,_,h=>by
    simp only [Dat] at h ⊢
    obtain ⟨a,vs,e,h1,h2⟩:=h
    exact ⟨a,vs,e,t _ _ h1,DatL.mono t h2⟩
  | .scr l,_,h=>by
    simp only [Dat] at h ⊢
    obtain ⟨a,e,h1⟩:=h
    exact ⟨a,e,Same.seq t h1⟩
  | .dic _ l,_,h=>by
    simp only [Dat] at h ⊢
    obtain ⟨a,vs,e,h1,h2⟩:=h
    exact ⟨a,vs,e,h1.mono t,DatL.mono t h2⟩
  | .set l,_,h=>by
    simp only [Dat] at h ⊢
    obtain ⟨a,e,h1⟩:=h
    exact ⟨a,e,h1.mono t⟩
  | .exc _ _,_,h=>by simp only [Dat] at h
theorem DatL.mono (t:Same F F'):∀ {l:List D}{vs:List V},DatL K F l vs→DatL K F' l vs
  | [],_,h=>by simp only [DatL] at h ⊢;exact h
  | d::l,_,h=>by
    simp only [DatL] at h ⊢
    obtain ⟨v,r,e,h1,h2⟩:=h
    exact ⟨v,r,e,Dat.mono t h1,DatL.mono t h2⟩
end
theorem DatL.nil:DatL K F [] []:=by simp only [DatL]
theorem DatL.cons {d:D}{l:List D} {v:V}{vs:List V} (h:Dat K F d v) (r:DatL K F l vs):DatL K F (d::l) (v::vs):=by simp only [DatL];exact ⟨v,vs,rfl,h,r⟩
theorem DatL.nil_inv {vs:List V}(h:DatL K F [] vs):vs=[]:=by simp only [DatL] at h;exact h
theorem DatL.cons_inv {d:D}{l:List D} {vs:List V}(h:DatL K F (d::l) vs):∃ v r,vs=v::r∧Dat K F d v∧DatL K F l r:=by simp only [DatL] at h;exact h
theorem Dat.non_inv {v:V}(h:Dat K F .non v):v=.non:=by simp only [Dat] at h;exact h
theorem Dat.bl_inv {b:Bool}{v:V} (h:Dat K F (.bl b) v):v=.bl b:=by simp only [Dat] at h;exact h
theorem Dat.int_inv {i:Int}{v:V} (h:Dat K F (.int i) v):v=.int i:=by simp only [Dat] at h;exact h
theorem Dat.str_inv {x:Str}{v:V} (h:Dat K F (.str x) v):v=.str x:=by simp only [Dat] at h;exact h
theorem Dat.tup_inv {l:List D}{v:V} (h:Dat K F (.tup l) v):∃ a vs,v=.ref a∧F a=some (.tup vs)∧DatL K F l vs:=by simp only [Dat] at h;exact h
theorem Dat.lst_inv {l:List D}{v:V} (h:Dat K F (.lst l) v):∃ a vs,v=.ref a∧F a=some (.lst vs)∧DatL K F l vs:=by simp only [Dat] at h;exact h
theorem Dat.scr_inv {l:List Int}{v:V} (h:Dat K F (.scr l) v):∃ a,v=.ref a∧SqL K F a (l.map V.int):=by simp only [Dat] at h;exact h
theorem Dat.dic_inv {ks:List KD}{l:List D} {v:V}(h:Dat K F (.dic ks l) v):∃ a vs,v=.ref a∧DicF F a ks vs∧DatL K F l vs:=by simp only [Dat] at h;exact h
theorem Dat.set_inv {l:List KD}{v:V} (h:Dat K F (.set l) v):∃ a,v=.ref a∧SetAt F a l:=by simp only [Dat] at h;exact h
theorem Dat.exc_inv {c:Str}{d:D} {v:V}(h:Dat K F (.exc c d) v):False:=by simp only [Dat] at h
theorem Dat.non:Dat K F .non .non:=by simp only [Dat]
theorem Dat.bl (b:Bool):Dat K F (.bl b) (.bl b):=by simp only [Dat]
theorem Dat.int (i:Int):Dat K F (.int i) (.int i):=by simp only [Dat]
theorem Dat.str (x:Str):Dat K F (.str x) (.str x):=by simp only [Dat]
theorem Dat.tup {l:List D}{a:Addr} {vs:List V}(h:F a=some (.tup vs)) (r:DatL K F l vs):Dat K F (.tup l) (.ref a):=by simp only [Dat];exact ⟨a,vs,rfl,h,r⟩
theorem Dat.lst {l:List D}{a:Addr} {vs:List V}(h:F a=some (.lst vs)) (r:DatL K F l vs):Dat K F (.lst l) (.ref a):=by simp only [Dat];exact ⟨a,vs,rfl,h,r⟩
theorem Dat.scr {l:List Int}{a:Addr} (h:SqL K F a (l.map V.int)):Dat K F (.scr l) (.ref a):=by simp only [Dat];exact ⟨a,rfl,h⟩
theorem Dat.dic {ks:List KD}{l:List D} {a:Addr}{vs:List V} (h:DicF F a ks vs) (r:DatL K F l vs):Dat K F (.dic ks l) (.ref a):=by simp only [Dat];exact ⟨a,vs,rfl,h,r⟩
theorem DatL.length:∀ {l:List D}{vs:List V},DatL K F l vs→vs.length=l.length
  | [],_,h=>by rw [h.nil_inv];rfl
  | _::l,_,h=>by
    obtain ⟨v,r,rfl,_,h2⟩:=h.cons_inv
    simp [DatL.length h2]
theorem DatL.get:∀ {l:List D}{vs:List V} {i:Nat}{d:D},DatL K F l vs→l[i]?=some d→∃ v,vs[i]?=some v∧Dat K F d v
  | [],_,_,_,_,e=>by simp at e
  | _::l,_,i,d,h,e=>by
    obtain ⟨v,r,rfl,h1,h2⟩:=h.cons_inv
    cases i with
    | zero=>simp at e;subst e;exact ⟨v,rfl,h1⟩
    | succ i=>
      obtain ⟨u,e1,h3⟩:=DatL.get (i:=i) h2 (by simpa using e)
      exact ⟨u,by simpa using e1,h3⟩
theorem DatL.get' {l:List D}{vs:List V} {i:Nat}{v:V} (h:DatL K F l vs) (e:vs[i]?=some v):∃ d,l[i]?=some d∧Dat K F d v:=by
  have hl:=h.length
  have hi:i < l.length:=by rw [← hl];exact (List.getElem?_eq_some_iff.mp e).1
  obtain ⟨u,e1,h1⟩:=h.get (List.getElem?_eq_getElem hi)
  rw [e] at e1;cases e1
  exact ⟨_,List.getElem?_eq_getElem hi,h1⟩
theorem DatL.append:∀ {l m:List D}{vs us:List V},DatL K F l vs→DatL K F m us→DatL K F (l++m) (vs++us)
  | [],_,_,_,h,k=>by rw [h.nil_inv];exact k
  | _::l,_,_,_,h,k=>by
    obtain ⟨v,r,rfl,h1,h2⟩:=h.cons_inv
    exact DatL.cons h1 (DatL.append h2 k)
theorem DatL.snoc {l:List D}{vs:List V} {d:D}{v:V} (h:DatL K F l vs) (k:Dat K F d v):DatL K F (l++[d]) (vs++[v]):=h.append (DatL.cons k DatL.nil)
theorem DatL.reverse:∀ {l:List D}{vs:List V},DatL K F l vs→DatL K F l.reverse vs.reverse
  | [],_,h=>by rw [h.nil_inv];exact DatL.nil
  | _::l,_,h=>by
    obtain ⟨v,r,rfl,h1,h2⟩:=h.cons_inv
    rw [List.reverse_cons,List.reverse_cons]
    exact (DatL.reverse h2).snoc h1
theorem DatL.take:∀ {l:List D}{vs:List V} (n:Nat),DatL K F l vs→DatL K F (l.take n) (vs.take n)
  | _,_,0,_=>by simp;exact DatL.nil
  | [],_,n + 1,h=>by rw [h.nil_inv];simp;exact DatL.nil
  | _::l,_,n + 1,h=>by
    obtain ⟨v,r,rfl,h1,h2⟩:=h.cons_inv
    rw [List.take_succ_cons,List.take_succ_cons]
    exact DatL.cons h1 (DatL.take n h2)
theorem DatL.drop:∀ {l:List D}{vs:List V} (n:Nat),DatL K F l vs→DatL K F (l.drop n) (vs.drop n)
  | _,_,0,h=>by simpa using h
  | [],_,n + 1,h=>by rw [h.nil_inv];simp;exact DatL.nil
  | _::l,_,n + 1,h=>by
    obtain ⟨v,r,rfl,h1,h2⟩:=h.cons_inv
    rw [List.drop_succ_cons,List.drop_succ_cons]
    exact DatL.drop n h2
theorem DatL.set:∀ {l:List D}{vs:List V} (n:Nat) {d:D}{v:V},DatL K F l vs→Dat K F d v→DatL K F (l.set n d) (vs.set n v)
  | [],_,_,_,_,h,_=>by rw [h.nil_inv];simp;exact DatL.nil
  | _::l,_,n,_,_,h,k=>by
    obtain ⟨v,r,rfl,h1,h2⟩:=h.cons_inv
    cases n with
    | zero=>exact DatL.cons k h2
    | succ n=>exact DatL.cons h1 (DatL.set n h2 k)
theorem DatL.eraseIdx:∀ {l:List D}{vs:List V} (n:Nat),DatL K F l vs→DatL K F (l.eraseIdx n) (vs.eraseIdx n)
  | [],_,_,h=>by rw [h.nil_inv];simp;exact DatL.nil
  | _::l,_,n,h=>by
    obtain ⟨v,r,rfl,h1,h2⟩:=h.cons_inv
    cases n with
    | zero=>exact h2
    | succ n=>exact DatL.cons h1 (DatL.eraseIdx n h2)
theorem DatL.dropLast {l:List D}{vs:List V} (h:DatL K F l vs):DatL K F l.dropLast vs.dropLast:=by
  rw [List.dropLast_eq_take,List.dropLast_eq_take,h.length];exact h.take _
theorem DatL.ints:∀ {ns:List Int}{vs:List V},DatL K F (ns.map D.int) vs→vs=ns.map V.int
  | [],_,h=>h.nil_inv
  | n::ns,_,h=>by
    obtain ⟨v,r,rfl,h1,h2⟩:=h.cons_inv
    rw [h1.int_inv,DatL.ints h2];rfl
theorem DatL.ofInts:∀ (ns:List Int),DatL K F (ns.map D.int) (ns.map V.int)
  | []=>DatL.nil
  | n::ns=>DatL.cons (Dat.int n) (DatL.ofInts ns)
theorem DatL.strs:∀ {ns:List Str}{vs:List V},DatL K F (ns.map D.str) vs→vs=ns.map V.str
  | [],_,h=>h.nil_inv
  | n::ns,_,h=>by
    obtain ⟨v,r,rfl,h1,h2⟩:=h.cons_inv
    rw [h1.str_inv,DatL.strs h2];rfl
theorem DatL.two {a b:D}{vs:List V} (h:DatL K F [a,b] vs):∃ v u,vs=[v,u]∧Dat K F a v∧Dat K F b u:=by
  obtain ⟨v,r,rfl,h1,h2⟩:=h.cons_inv
  obtain ⟨u,r,rfl,h3,h4⟩:=h2.cons_inv
  rw [h4.nil_inv]
  exact ⟨v,u,rfl,h1,h3⟩
noncomputable def DatB (K:PySem.W.Frag) (F H:Hp):D→V→Prop
  | .lst l,v=>∃ a vs,v=.ref a∧H a=some (.lst vs)∧DatL K F l vs
  | .dic ks ds,v=>∃ a vs,v=.ref a∧DicB H a ks vs∧DatL K F ds vs
  | .set l,v=>∃ a,v=.ref a∧SetAt H a l
  | d,v=>Dat K F d v
theorem Dat.b (s:Same F H) {d:D}{v:V} (h:Dat K F d v):DatB K F H d v:=by
  cases d with
  | lst l=>obtain ⟨a,vs,e,h1,h2⟩:=h.lst_inv;exact ⟨a,vs,e,s _ _ h1,h2⟩
  | dic ks l=>obtain ⟨a,vs,e,h1,h2⟩:=h.dic_inv;exact ⟨a,vs,e,.inr (h1.mono s),h2⟩
  | set l=>obtain ⟨a,e,h1⟩:=h.set_inv;exact ⟨a,e,h1.mono s⟩
  | _=>exact h
theorem DatB.mono (f:Same F F') (g:Same H H') {d:D}{v:V} (h:DatB K F H d v):DatB K F' H' d v:=by
  cases d with
  | lst l=>obtain ⟨a,vs,e,h1,h2⟩:=h;exact ⟨a,vs,e,g _ _ h1,h2.mono f⟩
  | dic ks l=>obtain ⟨a,vs,e,h1,h2⟩:=h;exact ⟨a,vs,e,h1.mono g,h2.mono f⟩
  | set l=>obtain ⟨a,e,h1⟩:=h;exact ⟨a,e,h1.mono g⟩
  | _=>exact Dat.mono f h
noncomputable def Own (K:PySem.W.Frag) (F H:Hp):D→Addr→Prop
  | .lst l,a=>∃ vs,H a=some (.lst vs)∧DatL K F l vs
  | .dic ks ds,a=>∃ vs,DicAt H a ks vs∧DatL K F ds vs
  | .set l,a=>SetAt H a l
  | _,_=>False
theorem Own.mono (f:Same F F') {d:D}{a:Addr} (g:∀ o,H a=some o→H' a=some o) (h:Own K F H d a):Own K F' H' d a:=by
  cases d with
  | lst l=>obtain ⟨vs,h1,h2⟩:=h;exact ⟨vs,g _ h1,h2.mono f⟩
  | dic ks l=>
    obtain ⟨vs,h1,h2⟩:=h
    obtain ⟨o,e⟩:=h1.some
    exact ⟨vs,h1.at (by rw [e];exact g _ e),h2.mono f⟩
  | set l=>
    have h:SetAt H a l:=h
    obtain ⟨o,e⟩:=h.some
    exact h.at (by rw [e];exact g _ e)
  | _=>exact h.elim
theorem Own.some {d:D}{a:Addr} (h:Own K F H d a):∃ o,H a=some o:=by
  cases d with
  | lst l=>obtain ⟨vs,h1,h2⟩:=h;exact ⟨_,h1⟩
  | dic ks l=>obtain ⟨vs,h1,h2⟩:=h;exact h1.some
  | set l=>exact SetAt.some (l:=l) h
  | _=>exact h.elim
theorem Own.b {d:D}{a:Addr} (h:Own K F H d a):DatB K F H d (.ref a):=by
  cases d with
  | lst l=>obtain ⟨vs,h1,h2⟩:=h;exact ⟨a,vs,rfl,h1,h2⟩
  | dic ks l=>obtain ⟨vs,h1,h2⟩:=h;exact ⟨a,vs,rfl,.inl h1,h2⟩
  | set l=>exact ⟨a,rfl,h⟩
  | _=>exact h.elim
noncomputable def frz1 (F H:Hp) (a:Addr):Hp:=fun b=>if b=a then H a else F b
theorem frz1_same {a:Addr}:frz1 F H a a=H a:=by unfold frz1;rw [if_pos rfl]
theorem frz1_ne {a b:Addr}(h:b≠a):frz1 F H a b=F b:=by unfold frz1;rw [if_neg h]
theorem frz1_ext {a:Addr}(h:F a=none):Same F (frz1 F H a):=fun b o e=>by
  rw [frz1_ne (ne_of_none e h)];exact e
theorem frz1_sub {a:Addr}(s:Same F H):Same (frz1 F H a) H:=fun b o e=>by
  by_cases hb:b=a
  · subst hb;rw [frz1_same] at e;exact e
  · rw [frz1_ne hb] at e;exact s _ _ e
noncomputable def isDic:Option HO→Bool
  | some (.dK _)=>true
  | some (.dT _)=>true
  | _=>false
noncomputable def FrzTo (H:Hp) (a:Addr) (H2:Hp):Prop:=(H2=H∧isDic (H a)=false)∨∃ o u,H a=some u∧isDic (some u)=true∧H2=upd H a (.frz o u)
theorem FrzTo.ne {H2:Hp}{a b:Addr} (f:FrzTo H a H2) (h:b≠a):H2 b=H b:=by
  rcases f with ⟨rfl,_⟩ | ⟨o,u,_,_,rfl⟩
  · rfl
  · exact upd_ne h
theorem FrzTo.same {H2:Hp}{a:Addr} (f:FrzTo H a H2) (s:Same F H) (h:F a=none):Same F H2:=fun b o e=>by
  rw [f.ne (ne_of_none e h)];exact s _ _ e
theorem Own.freeze {H2:Hp}{d:D} {a:Addr}(h:Own K F H d a) (hn:F a=none) (f:FrzTo H a H2):Dat K (frz1 F H2 a) d (.ref a):=by
  have x:Same F (frz1 F H2 a):=frz1_ext hn
  cases d with
  | lst l=>
    obtain ⟨vs,h1,h2⟩:=h
    rcases f with ⟨rfl,_⟩ | ⟨o,u,e,z,_⟩
    · exact Dat.lst (by rw [frz1_same];exact h1) (h2.mono x)
    · rw [h1] at e;cases e;cases z
  | dic ks l=>
    obtain ⟨vs,h1,h2⟩:=h
    refine Dat.dic ?_ (h2.mono x)
    rcases h1 with ⟨kvs,h1,r⟩ | ⟨kvs,h1,r⟩
    · rcases f with ⟨_,z⟩ | ⟨o,u,e,z,rfl⟩
      · rw [h1] at z;cases z
      · rw [h1] at e;cases e
        exact ⟨o,.inl ⟨kvs,by rw [frz1_same];exact upd_same,r⟩⟩
    · rcases f with ⟨_,z⟩ | ⟨o,u,e,z,rfl⟩
      · rw [h1] at z;cases z
      · rw [h1] at e;cases e
        exact ⟨o,.inr ⟨kvs,by rw [frz1_same];exact upd_same,r⟩⟩
  | set l=>
    have h:SetAt H a l:=h
    obtain ⟨o,_,z⟩:=h
    exact z.elim
  | _=>exact h.elim
theorem DatB.frz {H2:Hp}{a:Addr} {d:D}{v:V} (h:DatB K F H d v) (x:Same F F') (f:FrzTo H a H2) (hv:v≠.ref a):DatB K F' H2 d v:=by
  cases d with
  | lst l=>obtain ⟨b,vs,e,h1,h2⟩:=h;exact ⟨b,vs,e,by rw [f.ne (fun z=>hv (by rw [e,z]))];exact h1,h2.mono x⟩
  | dic ks l=>obtain ⟨b,vs,e,h1,h2⟩:=h;exact ⟨b,vs,e,h1.at (f.ne (fun z=>hv (by rw [e,z]))),h2.mono x⟩
  | set l=>obtain ⟨b,e,h1⟩:=h;exact ⟨b,e,h1.at (f.ne (fun z=>hv (by rw [e,z])))⟩
  | _=>exact Dat.mono x h
theorem Own.fl {l:List D}{a:Addr} (h:Own K F H (.lst l) a):FrzTo H a H:=by
  obtain ⟨vs,h1,_⟩:=h
  exact .inl ⟨rfl,by rw [h1];rfl⟩
end
inductive Sl where
  | dat (d:D) | ow (p:Bool) (d:D) | bor (d:D)
noncomputable abbrev Sl.own (d:D):Sl:=.ow false d
noncomputable abbrev Sl.inn (d:D):Sl:=.ow true d
noncomputable def Sl.isDat:Sl→Bool
  | .dat _=>true
  | _=>false
noncomputable abbrev St:=L2.St
noncomputable abbrev En:=List (Option Sl)
noncomputable def Owned (ρ:En) (σ:St) (b:Addr):Prop:=∃ (i:Nat) (p:Bool) (d:D),ρ[i]?=some (some (.ow p d))∧σ[i]?=some (some (.ref b))
structure Rel (K:PySem.W.Frag) (F H:Hp) (ρ:En) (σ:St):Prop where
  sub:Same F H
  dat:∀ (i:Nat) (d:D),ρ[i]?=some (some (.dat d))→∃ v,σ[i]?=some (some v)∧Dat K F d v
  bor:∀ (i:Nat) (d:D),ρ[i]?=some (some (.bor d))→∃ v,σ[i]?=some (some v)∧DatB K F H d v
  own:∀ (i:Nat) (p:Bool) (d:D),ρ[i]?=some (some (.ow p d))→∃ a,σ[i]?=some (some (.ref a))∧F a=none∧Own K F H d a
  inj:∀ (i j:Nat) (p:Bool) (d:D) (s:Sl) (a:Addr),i≠j→ρ[i]?=some (some (.ow p d))→σ[i]?=some (some (.ref a))→ρ[j]?=some (some s)→s.isDat=false→σ[j]?≠some (some (.ref a))
  len:ρ.length=σ.length
structure Grow (F H F' H':Hp):Prop where
  ff:Same F F'
  hh:Same H H'
  fh:Same F' H'
  nw:∀ b o,H b=some o→F b=none→F' b=none
section
variable {K:PySem.W.Frag}{F F' F2 H H' H2:Hp} {ρ ρ' ρ2:En}{σ σ' σ2:St}
theorem Grow.refl (s:Same F H):Grow F H F H:=⟨Same.refl _,Same.refl _,s,fun _ _ _ n=>n⟩
theorem Grow.trans (a:Grow F H F' H') (b:Grow F' H' F2 H2):Grow F H F2 H2:=
  ⟨a.ff.trans b.ff,a.hh.trans b.hh,b.fh,fun c o e n=>b.nw c o (a.hh _ _ e) (a.nw c o e n)⟩
theorem same_new {p:Addr}(h:H p=none) (o:HO):Same H (upd H p o):=fun b u q=>by rw [upd_ne (ne_of_none q h)];exact q
theorem Grow.frozen {p:Addr}{o:HO} (s:Same F H) (h:H p=none):Grow F H (upd F p o) (upd H p o):=by
  refine ⟨same_new (s.free h) o,same_new h o,fun b u e=>?_,fun b u e n=>?_⟩
  · by_cases hb:b=p
    · subst hb;rw [upd_same] at e ⊢;exact e
    · rw [upd_ne hb] at e ⊢;exact s _ _ e
  · have hb:b≠p:=ne_of_none e h
    rw [upd_ne hb];exact n
theorem Grow.fresh {p:Addr}{o:HO} (s:Same F H) (h:H p=none):Grow F H F (upd H p o):=
  ⟨Same.refl _,same_new h o,s.trans (same_new h o),fun b u e n=>n⟩
theorem Grow.freeze {a:Addr}{H3:Hp} (g:Grow F H F' H') (h:H a=none) (hn:F' a=none) (f:FrzTo H' a H3):Grow F H (frz1 F' H3 a) H3:=by
  refine ⟨g.ff.trans (frz1_ext hn),fun b o e=>?_,frz1_sub (f.same g.fh hn),fun b o e n=>?_⟩
  · rw [f.ne (ne_of_none e h)];exact g.hh _ _ e
  · have hb:b≠a:=ne_of_none e h
    rw [frz1_ne hb];exact g.nw b o e n
theorem Rel.grow (r:Rel K F H ρ σ) (g:Grow F H F' H'):Rel K F' H' ρ σ where
  sub:=g.fh
  dat:=fun i d e=>let ⟨v,h1,h2⟩:=r.dat i d e;⟨v,h1,h2.mono g.ff⟩
  bor:=fun i d e=>let ⟨v,h1,h2⟩:=r.bor i d e;⟨v,h1,h2.mono g.ff g.hh⟩
  own:=fun i p d e=>by
    obtain ⟨a,h1,h2,h3⟩:=r.own i p d e
    obtain ⟨o,ho⟩:=h3.some
    exact ⟨a,h1,g.nw a o ho h2,h3.mono g.ff fun o e=>g.hh _ _ e⟩
  inj:=r.inj
  len:=r.len
structure Step (ρ:En) (σ:St) (F H:Hp) (ρ':En) (σ':St) (F' H':Hp):Prop where
  ff:Same F F'
  rest:∀ b o,H b=some o→F b=none→¬ Owned ρ σ b→H' b=some o∧F' b=none
  own:∀ b,Owned ρ' σ' b→H b=none∨Owned ρ σ b
  pin:∀ (i:Nat) (d':D),ρ'[i]?=some (some (.ow true d'))→∃ d,ρ[i]?=some (some (.ow true d))∧σ'[i]?=σ[i]?
  fh:Same F' H'
theorem Grow.step (g:Grow F H F' H'):Step ρ σ F H ρ σ F' H':=⟨g.ff,fun b o e n _=>⟨g.hh _ _ e,g.nw b o e n⟩,fun _ h=>.inr h,fun _ d e=>⟨d,e,rfl⟩,g.fh⟩
theorem Step.back (a:Step ρ σ F H ρ' σ' F' H') (s:Same F H) {b:Addr}(h:H' b=none∨Owned ρ' σ' b):H b=none∨Owned ρ σ b:=by
  rcases h with h | h
  · cases e:H b with
    | none=>exact .inl rfl
    | some o=>
      cases f:F b with
      | some u=>have:=a.fh _ _ (a.ff _ _ f);rw [h] at this;cases this
      | none=>
        by_cases q:Owned ρ σ b
        · exact .inr q
        · have:=(a.rest b o e f q).1;rw [h] at this;cases this
  · exact a.own b h
theorem Step.trans (a:Step ρ σ F H ρ' σ' F' H') (b:Step ρ' σ' F' H' ρ2 σ2 F2 H2) (s:Same F H):Step ρ σ F H ρ2 σ2 F2 H2:=by
  refine ⟨a.ff.trans b.ff,fun c o e n q=>?_,fun c h=>a.back s (b.own c h),fun i d e=>?_,b.fh⟩
  rotate_left
  · obtain ⟨d1,e1,e2⟩:=b.pin i d e
    obtain ⟨d2,e3,e4⟩:=a.pin i d1 e1
    exact ⟨d2,e3,e2.trans e4⟩
  obtain ⟨h1,h2⟩:=a.rest c o e n q
  refine b.rest c o h1 h2 fun z=>?_
  rcases a.own c z with y | y
  · rw [e] at y;cases y
  · exact q y
end
inductive Md where
  | fz | ow | br
noncomputable def Res (K:PySem.W.Frag) (md:Md) (H F' H':Hp) (d:D) (v:V):Prop:=match md with
  | .fz=>Dat K F' d v
  | .ow=>∃ a,v=.ref a∧H a=none∧F' a=none∧Own K F' H' d a
  | .br=>DatB K F' H' d v
noncomputable def rdE (K:PySem.W.Frag) (md:Md) (ρ:En) (d:D):TE:=fun σ H Q=>∃ F,Rel K F H ρ σ∧∀ v F' H',Grow F H F' H'→Res K md H F' H' d v→Q v H'
structure FP (K:PySem.W.Frag) (md:Md) (X:Cx) (e:Expr) (f:En→Option D):Prop where
  h:∀ ρ d,f ρ=some d→PE X e (rdE K md ρ d)
theorem PE.imp {X:Cx}{e:Expr} {t t':TE}(h:PE X e t) (w:∀ σ H Q,t' σ H Q→t σ H Q):PE X e t':=fun pins s σ H Q I ht=>h pins s σ H Q I (w σ H Q ht)
theorem PT.imp {X:Cx}{e:Expr} {t t':TT}(h:PT X e t) (w:∀ σ H Q,t' σ H Q→t σ H Q):PT X e t':=fun pins s σ H Q I ht=>h pins s σ H Q I (w σ H Q ht)
theorem PW.imp {X:Cx}{e:Expr} {t t':TT}(h:PW X e t) (w:∀ σ H Q,t' σ H Q→t σ H Q):PW X e t':=fun wh pins s σ H Q I ht=>h wh pins s σ H Q I (w σ H Q ht)
theorem PA.imp {X:Cx}{e:List Expr} {t t':TA}(h:PA X e t) (w:∀ σ H Q,t' σ H Q→t σ H Q):PA X e t':=fun pos pins s σ H Q I ht=>h pos pins s σ H Q I (w σ H Q ht)
theorem PS.imp {X:Cx}{e:Stmt} {t t':TS}(h:PS X e t) (w:∀ D σ H,t' D σ H→t D σ H):PS X e t':=fun pins s σ H D I ht=>h pins s σ H D I (w D σ H ht)
theorem PSs.imp {X:Cx}{e:List Stmt} {t t':TS}(h:PSs X e t) (w:∀ D σ H,t' D σ H→t D σ H):PSs X e t':=fun pins s σ H D I ht=>h pins s σ H D I (w D σ H ht)
section
variable {K:PySem.W.Frag}{X:Cx} {e:Expr}{f:En→Option D}
theorem Res.fz_of_ow {H F' H' H3:Hp}{d:D} {v:V}{F:Hp} {a:Addr}(g:Grow F H F' H') (h:Res K .ow H F' H' d v) (e:v=.ref a) (f:FrzTo H' a H3):∃ F2,Grow F H F2 H3∧Dat K F2 d v:=by
  subst e
  obtain ⟨b,e,h1,h2,h3⟩:=h
  cases e
  exact ⟨_,g.freeze h1 h2 f,h3.freeze h2 f⟩
theorem Res.ow_ref {H F' H':Hp}{d:D} {v:V}(h:Res K .ow H F' H' d v):∃ a,v=.ref a:=let ⟨a,e,_⟩:=h;⟨a,e⟩
theorem Inv.frzTo {pins:List (Addr×Obj)}{σ:St} {H:Hp}{s:Shared} (I:Inv X pins σ H s) (a:Addr):∃ H2,FrzTo H a H2∧Inv X pins σ H2 s:=by
  cases h:isDic (H a) with
  | false=>exact ⟨H,.inl ⟨rfl,h⟩,I⟩
  | true=>
    cases e:H a with
    | none=>rw [e] at h;cases h
    | some u=>
      rw [e] at h
      have ok:=I.hok a u e
      have mu:Mut (H a):=by
        rw [e]
        cases u<;>first | exact True.intro | cases h
      obtain ⟨o,ho⟩:∃ o,s.heap.get? a=some o:=by
        cases u<;>first
          | cases h;done
          | (obtain ⟨_,_,_,_,o,_,_,q,_⟩:=ok;exact ⟨o,q⟩)
      refine ⟨_,.inr ⟨o,u,e,h,rfl⟩,?_⟩
      have:=I.write (o:=.frz o u) (t':=s.toks) (h':=s.heap) mu (.inl rfl) (fun b u _ q=>q) ⟨o,ho⟩ ⟨ho,ok.stay (fun b u _ q=>q) (fun b q=>?_) fun b xs q=>?_⟩
      · exact this
      · rw [upd_ne (fun z=>by subst z;rw [e] at q;cases q;cases h)];exact q
      · rw [upd_ne (fun z=>by subst z;rw [e] at q;cases q;cases h)];exact q
theorem pe_frz {t:TE}(h:PE X e t):PE X e (fun σ H Q=>t σ H fun v H'=>∃ a,v=.ref a∧∀ H2,FrzTo H' a H2→Q v H2):=fun pins s σ H Q I ht=>
  thn (h pins s σ H _ I ht) fun v s1 ⟨x,H1,I1,r1,a,ea,q⟩=>by
    obtain ⟨H2,f,I2⟩:=Inv.frzTo I1 a
    exact ⟨x,H2,I2,r1,q H2 f⟩
theorem FP.fz (h:FP K .ow X e f):FP K .fz X e f:=FP.mk fun ρ d hf=>PE.imp (pe_frz (h.h ρ d hf)) fun σ H Q ⟨F,r,q⟩=>⟨F,r,fun v F' H' g hr=>by
  obtain ⟨a,ea⟩:=hr.ow_ref
  refine ⟨a,ea,fun H2 fz=>?_⟩
  obtain ⟨F2,g2,h2⟩:=Res.fz_of_ow g hr ea fz
  exact q v F2 H2 g2 h2⟩
theorem FP.br (h:FP K .fz X e f):FP K .br X e f:=FP.mk fun ρ d hf=>PE.imp (h.h ρ d hf) fun σ H Q ⟨F,r,q⟩=>⟨F,r,fun v F' H' g hr=>q v F' H' g (Dat.b g.fh hr)⟩
theorem FP.ob (h:FP K .ow X e f):FP K .br X e f:=h.fz.br
end
noncomputable def gv (i:Nat) (ρ:En):Option D:=match ρ[i]? with
  | some (some (.dat d))=>some d
  | _=>none
noncomputable def gb (i:Nat) (ρ:En):Option D:=match ρ[i]? with
  | some (some (.dat d))=>some d
  | some (some (.ow _ d))=>some d
  | some (some (.bor d))=>some d
  | _=>none
theorem gv_some {i:Nat}{ρ:En} {d:D}(h:gv i ρ=some d):ρ[i]?=some (some (.dat d)):=by
  unfold gv at h
  split at h<;>first | (cases h;assumption) | cases h
theorem gb_some {K:PySem.W.Frag}{F H:Hp} {i:Nat}{ρ:En} {σ:St}{d:D} (r:Rel K F H ρ σ) (h:gb i ρ=some d):∃ v,σ[i]?=some (some v)∧DatB K F H d v:=by
  unfold gb at h
  split at h
  · rename_i e;cases h
    obtain ⟨v,h1,h2⟩:=r.dat i _ e
    exact ⟨v,h1,h2.b r.sub⟩
  · rename_i e;cases h
    obtain ⟨a,h1,h2,h3⟩:=r.own i _ _ e
    exact ⟨_,h1,h3.b⟩
  · rename_i e;cases h
    exact r.bor i _ e
  · cases h
noncomputable def cst (d:D):En→Option D:=fun _=>some d
section
variable {K:PySem.W.Frag}{X:Cx}
theorem fv (i:Nat) {x:Str}{pos:Pos} (hN:X.N[i]?=some x:=by rfl) (hv:Vis X.env.scope x:=by first | exact Or.inl rfl | exact Or.inr (Or.inl rfl) | exact Or.inr (Or.inr rfl)) (hd:(x == ("__debug__" : Str))=false:=by decide)
    (hcd:(x == ("__classdict__" : Str))=false:=by decide):FP K .fz X (.Name x pos) (gv i):=FP.mk fun ρ d hf=>
  PE.imp (pe_var hN hv hd hcd) fun σ H Q ⟨F,r,q⟩=>by
    obtain ⟨v,h1,h2⟩:=r.dat i d (gv_some hf)
    exact ⟨v,h1,q v F H (Grow.refl r.sub) h2⟩
theorem fb (i:Nat) {x:Str}{pos:Pos} (hN:X.N[i]?=some x:=by rfl) (hv:Vis X.env.scope x:=by first | exact Or.inl rfl | exact Or.inr (Or.inl rfl) | exact Or.inr (Or.inr rfl)) (hd:(x == ("__debug__" : Str))=false:=by decide)
    (hcd:(x == ("__classdict__" : Str))=false:=by decide):FP K .br X (.Name x pos) (gb i):=FP.mk fun ρ d hf=>
  PE.imp (pe_var hN hv hd hcd) fun σ H Q ⟨F,r,q⟩=>by
    obtain ⟨v,h1,h2⟩:=gb_some r hf
    exact ⟨v,h1,q v F H (Grow.refl r.sub) h2⟩
theorem fint {i j pos}:FP K .fz X (.Constant (.int i) j pos) (cst (.int i)):=FP.mk fun ρ d hf=>PE.imp pe_int fun σ H Q ⟨F,r,q⟩=>by
  cases hf;exact q (.int i) F H (Grow.refl r.sub) (Dat.int (K:=K) (F:=F) i)
theorem fbl {i j pos}:FP K .fz X (.Constant (.bool i) j pos) (cst (.bl i)):=FP.mk fun ρ d hf=>PE.imp pe_bl fun σ H Q ⟨F,r,q⟩=>by
  cases hf;exact q (.bl i) F H (Grow.refl r.sub) (Dat.bl (K:=K) (F:=F) i)
theorem fnon {j pos}:FP K .fz X (.Constant .none j pos) (cst .non):=FP.mk fun ρ d hf=>PE.imp pe_non fun σ H Q ⟨F,r,q⟩=>by
  cases hf;exact q .non F H (Grow.refl r.sub) (Dat.non (K:=K) (F:=F))
theorem fstr {i j pos}:FP K .fz X (.Constant (.str i) j pos) (cst (.str i)):=FP.mk fun ρ d hf=>PE.imp pe_str fun σ H Q ⟨F,r,q⟩=>by
  cases hf;exact q (.str i) F H (Grow.refl r.sub) (Dat.str (K:=K) (F:=F) i)
end
noncomputable def Op2 (K:PySem.W.Frag) (X:Cx) (f:Value→Value→Sem Value) (md:Md) (p:D→D→Option D):Prop:=
  ∃ r:R2,OpR X f r∧∀ x y d F H v u Q,p x y=some d→Same F H→DatB K F H x v→DatB K F H y u→(∀ w F' H',Grow F H F' H'→Res K md H F' H' d w→Q w H')→r v u H Q
noncomputable def Ix2 (K:PySem.W.Frag) (X:Cx) (md:Md) (p:D→D→Option D):Prop:=
  ∃ r:R2,IxR X r∧∀ x y d F H v u Q,p x y=some d→Same F H→DatB K F H x v→DatB K F H y u→(∀ w F' H',Grow F H F' H'→Res K md H F' H' d w→Q w H')→r v u H Q
noncomputable def c2 (p:D→D→Option D) (fa fb:En→Option D):En→Option D:=fun ρ=>(fa ρ).bind fun x=>(fb ρ).bind fun y=>p x y
noncomputable def c1 (p:D→Option D) (fa:En→Option D):En→Option D:=fun ρ=>(fa ρ).bind p
theorem c2_some {p:D→D→Option D}{fa fb:En→Option D} {ρ:En}{d:D} (h:c2 p fa fb ρ=some d):∃ x y,fa ρ=some x∧fb ρ=some y∧p x y=some d:=by
  unfold c2 at h
  cases e1:fa ρ with
  | none=>rw [e1] at h;cases h
  | some x=>
    cases e2:fb ρ with
    | none=>rw [e1,e2] at h;cases h
    | some y=>rw [e1,e2] at h;exact ⟨x,y,rfl,rfl,h⟩
theorem c1_some {p:D→Option D}{fa:En→Option D} {ρ:En}{d:D} (h:c1 p fa ρ=some d):∃ x,fa ρ=some x∧p x=some d:=by
  unfold c1 at h
  cases e1:fa ρ with
  | none=>rw [e1] at h;cases h
  | some x=>rw [e1] at h;exact ⟨x,rfl,h⟩
section
variable {K:PySem.W.Frag}{X:Cx} {a b:Expr}{fa fb:En→Option D} {pos:Pos}{md:Md} {p:D→D→Option D}
theorem two {ta tb:TE}{ρ:En} {x y d:D}{r:R2} (ha:PE X a (rdE K .br ρ x)) (hb:PE X b (rdE K .br ρ y))
    (hr:∀ F H v u Q,Same F H→DatB K F H x v→DatB K F H y u→(∀ w F' H',Grow F H F' H'→Res K md H F' H' d w→Q w H')→r v u H Q)
    (σ:St) (H:Hp) (Q:VK) (h:rdE K md ρ d σ H Q):tOp r (rdE K .br ρ x) (rdE K .br ρ y) σ H Q:=by
  obtain ⟨F,rl,q⟩:=h
  refine ⟨F,rl,fun v F1 H1 g1 r1=>⟨F1,rl.grow g1,fun u F2 H2 g2 r2=>?_⟩⟩
  refine hr F2 H2 v u Q g2.fh (DatB.mono g2.ff g2.hh r1) r2 fun w F3 H3 g3 r3=>?_
  have g:=g1.trans (g2.trans g3)
  refine q w F3 H3 g ?_
  cases md with
  | fz=>exact r3
  | br=>exact r3
  | ow=>
    obtain ⟨a,e,h1,h2,h3⟩:=r3
    exact ⟨a,e,(g1.hh.trans g2.hh).free h1,h2,h3⟩
theorem fop {op:Operator}(o:Op2 K X (binaryOp op) md p) (ha:FP K .br X a fa) (hb:FP K .br X b fb):FP K md X (.BinOp a op b pos) (c2 p fa fb):=FP.mk fun ρ d hf=>by
  obtain ⟨x,y,e1,e2,e3⟩:=c2_some hf
  obtain ⟨r,ho,hr⟩:=o
  exact PE.imp (pe_op ho (ha.h ρ x e1) (hb.h ρ y e2)) (two (ta:=fun _ _ _=>True) (tb:=fun _ _ _=>True) (ha.h ρ x e1) (hb.h ρ y e2) fun F H v u Q s h1 h2 k=>hr x y d F H v u Q e3 s h1 h2 k)
theorem fcmp {op:CmpOp}(o:Op2 K X (compareOp op) md p) (ha:FP K .br X a fa) (hb:FP K .br X b fb) (hm:behindInMarks op b=false):FP K md X (.Compare a [op] [b] pos) (c2 p fa fb):=FP.mk fun ρ d hf=>by
  obtain ⟨x,y,e1,e2,e3⟩:=c2_some hf
  obtain ⟨r,ho,hr⟩:=o
  exact PE.imp (pe_cmpR ho (ha.h ρ x e1) (hb.h ρ y e2) hm) (two (ta:=fun _ _ _=>True) (tb:=fun _ _ _=>True) (ha.h ρ x e1) (hb.h ρ y e2) fun F H v u Q s h1 h2 k=>hr x y d F H v u Q e3 s h1 h2 k)
theorem fix (o:Ix2 K X md p) (ha:FP K .br X a fa) (hb:FP K .br X b fb) (hs:PlainIx b):FP K md X (.Subscript a b pos) (c2 p fa fb):=FP.mk fun ρ d hf=>by
  obtain ⟨x,y,e1,e2,e3⟩:=c2_some hf
  obtain ⟨r,ho,hr⟩:=o
  exact PE.imp (pe_ix ho (ha.h ρ x e1) (hb.h ρ y e2) hs) (two (ta:=fun _ _ _=>True) (tb:=fun _ _ _=>True) (ha.h ρ x e1) (hb.h ρ y e2) fun F H v u Q s h1 h2 k=>hr x y d F H v u Q e3 s h1 h2 k)
end
end FL
set_option Elab.async false
set_option linter.all false
set_option maxRecDepth 100000
namespace FL
open PySem PySem.Spec PyProof.Rows L2
mutual
noncomputable def eqD : D → D → Option Bool
  | .non, y => match y with
    | .non => some true
    | .bl _ => some false
    | .int _ => some false
    | .str _ => some false
    | .tup _ => some false
    | .lst _ => some false
    | _ => none
  | .bl a, y => match y with
    | .bl b => some (a == b)
    | .non => some false
    | _ => none
  | .int a, y => match y with
    | .int b => some (a == b)
    | .non => some false
    | .str _ => some false
    | .tup _ => some false
    | _ => none
  | .str a, y => match y with
    | .str b => some (a == b)
    | .non => some false
    | .int _ => some false
    | .tup _ => some false
    | .lst _ => some false
    | _ => none
  | .tup l, y => match y with
    | .tup m => eqL l m
    | .non => some false
    | .int _ => some false
    | .str _ => some false
    | .lst _ => some false
    | _ => none
  | .lst l, y => match y with
    | .lst m => eqL l m
    | .non => some false
    | .str _ => some false
    | .tup _ => some false
    | _ => none
  | .scr _, _ => none
  | .dic _ _, _ => none
  | .set _, _ => none
  | .exc _ _, _ => none
noncomputable def eqL:List D→List D→Option Bool
  | [],[]=>some true
  | a::l,b::m=>(eqD a b).bind fun x=>(eqL l m).map fun y=>x && y
  | [],_::_=>some false
  | _::_,[]=>some false
end
mutual
noncomputable def dep:D→Nat
  | .tup l=>depL l + 1
  | .lst l=>depL l + 1
  | _=>1
noncomputable def depL:List D→Nat
  | []=>0
  | a::l=>max (dep a) (depL l)
end
theorem dep_mem:∀ {l:List D}{d:D},d∈l→dep d≤depL l
  | _::_,_,h=>by
    rcases List.mem_cons.mp h with rfl | h
    · rw [depL];exact Nat.le_max_left _ _
    · rw [depL];exact Nat.le_trans (dep_mem h) (Nat.le_max_right _ _)
noncomputable def eAt (l m:List D) (j:Nat):Bool:=match l[j]?,m[j]? with
  | some a,some b=>(eqD a b).getD false
  | _,_=>false
theorem eqL_some:∀ {l m:List D}{b:Bool},eqL l m=some b→
    (∀ (j:Nat) (x y:D),l[j]?=some x→m[j]?=some y→eqD x y=some (eAt l m j))∧b=((List.range (min l.length m.length)).all (eAt l m) && l.length == m.length)
  | [],[],b,h=>by simp [eqL] at h;subst h;simp
  | [],_::_,b,h=>by simp [eqL] at h;subst h;simp
  | _::_,[],b,h=>by simp [eqL] at h;subst h;simp
  | a::l,c::m,b,h=>by
    simp only [eqL] at h
    cases e1:eqD a c with
    | none=>rw [e1] at h;cases h
    | some x=>
      cases e2:eqL l m with
      | none=>rw [e1,e2] at h;cases h
      | some y=>
        rw [e1,e2] at h
        have hb:(x && y)=b:=by simpa using h
        obtain ⟨h1,h2⟩:=eqL_some e2
        have s0:eAt (a::l) (c::m) 0=x:=by simp [eAt,e1]
        have sS:∀ j,eAt (a::l) (c::m) (j + 1)=eAt l m j:=fun j=>by simp [eAt]
        refine ⟨fun j p q hp hq=>?_,?_⟩
        · cases j with
          | zero=>simp at hp hq;subst hp hq;rw [s0];exact e1
          | succ j=>rw [sS];exact h1 j p q (by simpa using hp) (by simpa using hq)
        · rw [← hb,h2]
          simp only [List.length_cons]
          rw [Nat.succ_min_succ,List.range_succ_eq_map,List.all_cons,List.all_map,s0]
          have e3:(List.range (min l.length m.length)).all (eAt (a::l) (c::m) ∘ Nat.succ)=(List.range (min l.length m.length)).all (eAt l m):=by
            congr 1
          rw [e3,Bool.and_assoc]
          congr 2
          simp
section
variable {K:PySem.W.Frag}{F:Hp}
noncomputable def comp:D→Bool
  | .tup _=>true
  | .lst _=>true
  | .scr _=>true
  | .dic _ _=>true
  | .set _=>true
  | _=>false
theorem Dat.ref {d:D}{v:V} (h:Dat K F d v) (hc:comp d=true):∃ a,v=.ref a:=by
  cases d with
  | tup l=>obtain ⟨a,_,e,_⟩:=h.tup_inv;exact ⟨a,e⟩
  | lst l=>obtain ⟨a,_,e,_⟩:=h.lst_inv;exact ⟨a,e⟩
  | scr l=>obtain ⟨a,e,_⟩:=h.scr_inv;exact ⟨a,e⟩
  | dic k l=>obtain ⟨a,_,e,_⟩:=h.dic_inv;exact ⟨a,e⟩
  | set l=>obtain ⟨a,e,_⟩:=h.set_inv;exact ⟨a,e⟩
  | _=>cases hc
theorem eq_fun:∀ (n:Nat) (d1 d2 dx:D) (b1 b2:Bool) (v:V),dep d1≤n→Dat K F d1 v→Dat K F d2 v→eqD d1 dx=some b1→eqD d2 dx=some b2→b1=b2:=by
  intro n
  induction n with
  | zero=>intro d1 d2 dx b1 b2 v h;cases d1<;>simp [dep] at h
  | succ n ih=>
    have L:∀ (l1 l2 lx:List D) (b1 b2:Bool) (vs:List V),depL l1≤n→DatL K F l1 vs→DatL K F l2 vs→eqL l1 lx=some b1→eqL l2 lx=some b2→b1=b2:=by
      intro l1
      induction l1 with
      | nil=>
        intro l2 lx b1 b2 vs _ h1 h2 e1 e2
        rw [h1.nil_inv] at h2
        cases l2 with
        | nil=>rw [e1] at e2;exact Option.some.inj e2
        | cons _ _=>obtain ⟨_,_,e,_⟩:=h2.cons_inv;cases e
      | cons a l1 ih2=>
        intro l2 lx b1 b2 vs hn h1 h2 e1 e2
        obtain ⟨v,r,rfl,q1,q2⟩:=h1.cons_inv
        cases l2 with
        | nil=>have:=h2.nil_inv;cases this
        | cons c l2=>
          obtain ⟨v',r',ee,p1,p2⟩:=h2.cons_inv
          cases ee
          cases lx with
          | nil=>simp [eqL] at e1 e2;rw [e1,e2]
          | cons x lx=>
            simp only [eqL] at e1 e2
            simp only [depL] at hn
            cases f1:eqD a x with
            | none=>rw [f1] at e1;cases e1
            | some y1=>
              cases f2:eqD c x with
              | none=>rw [f2] at e2;cases e2
              | some y2=>
                cases g1:eqL l1 lx with
                | none=>rw [f1,g1] at e1;cases e1
                | some z1=>
                  cases g2:eqL l2 lx with
                  | none=>rw [f2,g2] at e2;cases e2
                  | some z2=>
                    rw [f1,g1] at e1
                    rw [f2,g2] at e2
                    have k1:=ih a c x y1 y2 v (by omega) q1 p1 f1 f2
                    have k2:=ih2 l2 lx z1 z2 r (by omega) q2 p2 g1 g2
                    subst k1 k2
                    rw [e1] at e2;exact Option.some.inj e2
    intro d1 d2 dx b1 b2 v hn h1 h2 e1 e2
    cases d1 with
    | non=>rw [h1.non_inv] at h2;cases d2<;>first | exact (Dat.exc_inv h2).elim | (obtain ⟨_,z⟩:=Dat.ref h2 rfl;cases z;done) | (simp only [Dat] at h2;cases h2;done) | (simp only [Dat] at h2;(first | cases h2 | skip);rw [e1] at e2;exact Option.some.inj e2) | (rw [e1] at e2;exact Option.some.inj e2)
    | bl b=>rw [h1.bl_inv] at h2;cases d2<;>first | exact (Dat.exc_inv h2).elim | (obtain ⟨_,z⟩:=Dat.ref h2 rfl;cases z;done) | (simp only [Dat] at h2;cases h2;done) | (simp only [Dat] at h2;(first | cases h2 | skip);rw [e1] at e2;exact Option.some.inj e2) | (rw [e1] at e2;exact Option.some.inj e2)
    | int b=>rw [h1.int_inv] at h2;cases d2<;>first | exact (Dat.exc_inv h2).elim | (obtain ⟨_,z⟩:=Dat.ref h2 rfl;cases z;done) | (simp only [Dat] at h2;cases h2;done) | (simp only [Dat] at h2;(first | cases h2 | skip);rw [e1] at e2;exact Option.some.inj e2) | (rw [e1] at e2;exact Option.some.inj e2)
    | str b=>rw [h1.str_inv] at h2;cases d2<;>first | exact (Dat.exc_inv h2).elim | (obtain ⟨_,z⟩:=Dat.ref h2 rfl;cases z;done) | (simp only [Dat] at h2;cases h2;done) | (simp only [Dat] at h2;(first | cases h2 | skip);rw [e1] at e2;exact Option.some.inj e2) | (rw [e1] at e2;exact Option.some.inj e2)
    | tup l1=>
      obtain ⟨a,vs,rfl,f1,q1⟩:=h1.tup_inv
      cases d2 with
      | tup l2=>
        obtain ⟨a',vs',z,f2,q2⟩:=h2.tup_inv
        cases z
        rw [f1] at f2;cases f2
        simp only [dep] at hn
        cases dx<;>first | (simp only [eqD] at e1 e2;exact L l1 l2 _ b1 b2 vs (by omega) q1 q2 e1 e2) | (simp only [eqD] at e1 e2;cases e1;cases e2;rfl) | (simp only [eqD] at e1;cases e1)
      | lst l2=>obtain ⟨a',vs',z,f2,q2⟩:=h2.lst_inv;cases z;rw [f1] at f2;cases f2
      | scr l2=>simp [eqD] at e2
      | dic k l2=>simp [eqD] at e2
      | set l2=>simp [eqD] at e2
      | exc c d=>simp [eqD] at e2
      | _=>simp only [Dat] at h2;cases h2
    | lst l1=>
      obtain ⟨a,vs,rfl,f1,q1⟩:=h1.lst_inv
      cases d2 with
      | lst l2=>
        obtain ⟨a',vs',z,f2,q2⟩:=h2.lst_inv
        cases z
        rw [f1] at f2;cases f2
        simp only [dep] at hn
        cases dx<;>first | (simp only [eqD] at e1 e2;exact L l1 l2 _ b1 b2 vs (by omega) q1 q2 e1 e2) | (simp only [eqD] at e1 e2;cases e1;cases e2;rfl) | (simp only [eqD] at e1;cases e1)
      | tup l2=>obtain ⟨a',vs',z,f2,q2⟩:=h2.tup_inv;cases z;rw [f1] at f2;cases f2
      | scr l2=>simp [eqD] at e2
      | dic k l2=>simp [eqD] at e2
      | set l2=>simp [eqD] at e2
      | exc c d=>simp [eqD] at e2
      | _=>simp only [Dat] at h2;cases h2
    | scr l=>simp [eqD] at e1
    | dic k l=>simp [eqD] at e1
    | set l=>simp [eqD] at e1
    | exc c d=>exact h1.exc_inv.elim
end
section
variable {X:Cx}{pins:List (Addr×Obj)} {σ:St}{H F:Hp} {s:Shared}{K:PySem.W.Frag}
theorem same_true {d1 d2:D}{b:Bool} {v:V}(h1:Dat K F d1 v) (h2:Dat K F d2 v) (e:eqD d1 d2=some b):b=true:=by
  have key:∀ (n:Nat) (d1 d2:D) (b:Bool) (v:V),dep d1≤n→Dat K F d1 v→Dat K F d2 v→eqD d1 d2=some b→b=true:=by
    intro n
    induction n with
    | zero=>intro d1 d2 b v h;cases d1<;>simp [dep] at h
    | succ n ih=>
      have L:∀ (l1 l2:List D) (b:Bool) (vs:List V),depL l1≤n→DatL K F l1 vs→DatL K F l2 vs→eqL l1 l2=some b→b=true:=by
        intro l1
        induction l1 with
        | nil=>
          intro l2 b vs _ h1 h2 e
          rw [h1.nil_inv] at h2
          cases l2 with
          | nil=>simp [eqL] at e;exact e
          | cons _ _=>obtain ⟨_,_,z,_⟩:=h2.cons_inv;cases z
        | cons a l1 ih2=>
          intro l2 b vs hn h1 h2 e
          obtain ⟨v,r,rfl,q1,q2⟩:=h1.cons_inv
          cases l2 with
          | nil=>have:=h2.nil_inv;cases this
          | cons c l2=>
            obtain ⟨v',r',ee,p1,p2⟩:=h2.cons_inv
            cases ee
            simp only [eqL] at e
            simp only [depL] at hn
            cases f1:eqD a c with
            | none=>rw [f1] at e;cases e
            | some y1=>
              cases g1:eqL l1 l2 with
              | none=>rw [f1,g1] at e;cases e
              | some z1=>
                rw [f1,g1] at e
                have e':(y1 && z1)=b:=by simpa using e
                rw [← e',ih a c y1 v (by omega) q1 p1 f1,ih2 l2 z1 r (by omega) q2 p2 g1];rfl
      intro d1 d2 b v hn h1 h2 e
      cases d1 with
      | tup l1=>
        obtain ⟨a,vs,rfl,f1,q1⟩:=h1.tup_inv
        cases d2 with
        | tup l2=>
          obtain ⟨a',vs',z,f2,q2⟩:=h2.tup_inv
          cases z
          rw [f1] at f2;cases f2
          simp only [dep] at hn
          simp only [eqD] at e
          exact L l1 l2 b vs (by omega) q1 q2 e
        | lst l2=>obtain ⟨a',vs',z,f2,q2⟩:=h2.lst_inv;cases z;rw [f1] at f2;cases f2
        | non=>have:=h2.non_inv;cases this
        | int _=>have:=h2.int_inv;cases this
        | str _=>have:=h2.str_inv;cases this
        | _=>simp [eqD] at e
      | lst l1=>
        obtain ⟨a,vs,rfl,f1,q1⟩:=h1.lst_inv
        cases d2 with
        | lst l2=>
          obtain ⟨a',vs',z,f2,q2⟩:=h2.lst_inv
          cases z
          rw [f1] at f2;cases f2
          simp only [dep] at hn
          simp only [eqD] at e
          exact L l1 l2 b vs (by omega) q1 q2 e
        | tup l2=>obtain ⟨a',vs',z,f2,q2⟩:=h2.tup_inv;cases z;rw [f1] at f2;cases f2
        | non=>have:=h2.non_inv;cases this
        | int _=>have:=h2.int_inv;cases this
        | str _=>have:=h2.str_inv;cases this
        | _=>simp [eqD] at e
      | non=>
        have z:=h1.non_inv
        subst z
        cases d2<;>first | exact (Dat.exc_inv h2).elim | (simp [eqD] at e;exact e) | (obtain ⟨_,z⟩:=Dat.ref h2 rfl;cases z;done) | (simp only [Dat] at h2;cases h2;done)
      | bl x=>
        have z:=h1.bl_inv
        subst z
        cases d2 with
        | bl y=>have z:=h2.bl_inv;cases z;simp [eqD] at e;exact e
        | non=>have z:=h2.non_inv;cases z
        | _=>simp [eqD] at e
      | int x=>
        have z:=h1.int_inv
        subst z
        cases d2 with
        | int y=>have z:=h2.int_inv;cases z;simp [eqD] at e;exact e
        | non=>have z:=h2.non_inv;cases z
        | str _=>have z:=h2.str_inv;cases z
        | tup _=>obtain ⟨_,z⟩:=Dat.ref h2 rfl;cases z
        | _=>simp [eqD] at e
      | str x=>
        have z:=h1.str_inv
        subst z
        cases d2 with
        | str y=>have z:=h2.str_inv;cases z;simp [eqD] at e;exact e
        | non=>have z:=h2.non_inv;cases z
        | int _=>have z:=h2.int_inv;cases z
        | tup _=>obtain ⟨_,z⟩:=Dat.ref h2 rfl;cases z
        | lst _=>obtain ⟨_,z⟩:=Dat.ref h2 rfl;cases z
        | _=>simp [eqD] at e
      | _=>simp [eqD] at e
  exact key _ d1 d2 b v (Nat.le_refl _) h1 h2 e
theorem Inv.tupAt (I:Inv X pins σ H s) {a:Addr}{vs:List V} (h:H a=some (.tup vs)):∃ its:List Value,Vals vs its∧s.heap.IsTuple a its.toArray:=by
  obtain ⟨its,r,p,_⟩:=I.tuple (SqT.of h)
  exact ⟨its,r,p⟩
theorem Inv.lstAt (I:Inv X pins σ H s) {a:Addr}{vs:List V} (h:H a=some (.lst vs)):∃ its:List Value,Vals vs its∧s.heap.IsList a its.toArray:=by
  obtain ⟨its,r,p,_⟩:=I.list (SqL.of h)
  exact ⟨its,r,p.isList⟩
theorem item_at {l:List D}{vs:List V} {its:List Value}(h:DatL K F l vs) (r:Vals vs its) {j:Nat}(hj:j < its.toArray.size):∃ d v,l[j]?=some d∧vs[j]?=some v∧Dat K F d v∧RelV v its.toArray[j]:=by
  have hl:=r.length
  have hj':j < vs.length:=by rw [hl];simpa using hj
  obtain ⟨u,hu,ru⟩:=r.get (List.getElem?_eq_getElem hj')
  obtain ⟨d,hd,hD⟩:=h.get' (List.getElem?_eq_getElem hj')
  refine ⟨d,vs[j],hd,List.getElem?_eq_getElem hj',hD,?_⟩
  have e:its.toArray[j]=u:=by
    have:its[j]?=some u:=hu
    rw [List.getElem?_eq_getElem (by simpa using hj)] at this
    simpa using Option.some.inj this
  rw [e];exact ru
theorem in1_units (A:Around):A.in1.units≤A.units + 1:=by
  have:=(Room.in1 (k:=0) (A:=A));exact Nat.le_refl _
theorem eqAt_D (I:Inv X pins σ H s) (sub:Same F H):∀ (n:Nat) (d1 d2:D) (b:Bool) (v1 v2:V) (u1 u2:Value) (A:Around),dep d1≤n→eqD d1 d2=some b→Dat K F d1 v1→Dat K F d2 v2→RelV v1 u1→RelV v2 u2→A.units + n < cLine→SeqAt.EqAt A s u1 u2 b:=by
  intro n
  induction n with
  | zero=>intro d1 d2 b v1 v2 u1 u2 A h;cases d1<;>simp [dep] at h
  | succ n ih=>
    intro d1 d2 b v1 v2 u1 u2 A hn e h1 h2 r1 r2 hu
    have hu0:A.units < cLine:=by omega
    have hin:A.in1.units + n < cLine:=by have:=in1_units A;omega
    cases d1 with
    | non=>
      rw [h1.non_inv] at r1;cases r1
      cases d2 with
      | non=>simp [eqD] at e;subst e;rw [h2.non_inv] at r2;cases r2;exact SeqAt.EqAt.same _
      | bl x=>simp [eqD] at e;subst e;rw [h2.bl_inv] at r2;cases r2;exact SeqAt.EqAt.none_bool x
      | int x=>simp [eqD] at e;subst e;rw [h2.int_inv] at r2;obtain ⟨t,rfl⟩:=r2;exact SeqAt.EqAt.none_int x t
      | str x=>simp [eqD] at e;subst e;rw [h2.str_inv] at r2;obtain ⟨t,rfl⟩:=r2;exact SeqAt.EqAt.none_str x t
      | tup l=>simp [eqD] at e;subst e;obtain ⟨a,vs,rfl,f,_⟩:=h2.tup_inv;cases r2;obtain ⟨its,_,p⟩:=Inv.tupAt I (sub _ _ f);exact SeqAt.EqAt.none_tuple p hu0
      | lst l=>simp [eqD] at e;subst e;obtain ⟨a,vs,rfl,f,_⟩:=h2.lst_inv;cases r2;obtain ⟨its,_,p⟩:=Inv.lstAt I (sub _ _ f);exact SeqAt.EqAt.none_list p hu0
      | _=>simp [eqD] at e
    | bl y=>
      rw [h1.bl_inv] at r1;cases r1
      cases d2 with
      | non=>simp [eqD] at e;subst e;rw [h2.non_inv] at r2;cases r2;exact SeqAt.EqAt.bool_none y
      | bl x=>simp only [eqD,Option.some.injEq] at e;subst e;rw [h2.bl_inv] at r2;cases r2;exact SeqAt.EqAt.bool_bool y x
      | _=>simp [eqD] at e
    | int y=>
      rw [h1.int_inv] at r1;obtain ⟨t',rfl⟩:=r1
      cases d2 with
      | non=>simp [eqD] at e;subst e;rw [h2.non_inv] at r2;cases r2;exact SeqAt.EqAt.int_none y t'
      | int x=>simp only [eqD,Option.some.injEq] at e;subst e;rw [h2.int_inv] at r2;obtain ⟨t,rfl⟩:=r2;exact SeqAt.EqAt.int_int y t' x t
      | str x=>simp [eqD] at e;subst e;rw [h2.str_inv] at r2;obtain ⟨t,rfl⟩:=r2;exact SeqAt.EqAt.int_str y t' x t
      | tup l=>simp [eqD] at e;subst e;obtain ⟨a,vs,rfl,f,_⟩:=h2.tup_inv;cases r2;obtain ⟨its,_,p⟩:=Inv.tupAt I (sub _ _ f);exact SeqAt.EqAt.int_tuple y t' p hu0
      | _=>simp [eqD] at e
    | str y=>
      rw [h1.str_inv] at r1;obtain ⟨t',rfl⟩:=r1
      cases d2 with
      | non=>simp [eqD] at e;subst e;rw [h2.non_inv] at r2;cases r2;exact SeqAt.EqAt.str_none y t'
      | int x=>simp [eqD] at e;subst e;rw [h2.int_inv] at r2;obtain ⟨t,rfl⟩:=r2;exact SeqAt.EqAt.str_int y t' x t
      | str x=>simp only [eqD,Option.some.injEq] at e;subst e;rw [h2.str_inv] at r2;obtain ⟨t,rfl⟩:=r2;exact SeqAt.EqAt.str_str y t' x t
      | tup l=>simp [eqD] at e;subst e;obtain ⟨a,vs,rfl,f,_⟩:=h2.tup_inv;cases r2;obtain ⟨its,_,p⟩:=Inv.tupAt I (sub _ _ f);exact SeqAt.EqAt.str_tuple y t' p hu0
      | lst l=>simp [eqD] at e;subst e;obtain ⟨a,vs,rfl,f,_⟩:=h2.lst_inv;cases r2;obtain ⟨its,_,p⟩:=Inv.lstAt I (sub _ _ f);exact SeqAt.EqAt.str_list y t' p hu0
      | _=>simp [eqD] at e
    | tup l1=>
      obtain ⟨a,vs,rfl,f1,q1⟩:=id h1.tup_inv
      cases r1
      obtain ⟨its,rv,p⟩:=Inv.tupAt I (sub _ _ f1)
      cases d2 with
      | non=>simp [eqD] at e;subst e;rw [h2.non_inv] at r2;cases r2;exact SeqAt.EqAt.tuple_none p hu0
      | int x=>simp [eqD] at e;subst e;rw [h2.int_inv] at r2;obtain ⟨t,rfl⟩:=r2;exact SeqAt.EqAt.tuple_int x t p hu0
      | str x=>simp [eqD] at e;subst e;rw [h2.str_inv] at r2;obtain ⟨t,rfl⟩:=r2;exact SeqAt.EqAt.tuple_str x t p hu0
      | tup l2=>
        obtain ⟨a2,vs2,rfl,f2,q2⟩:=id h2.tup_inv
        cases r2
        by_cases ha:a=a2
        · subst ha
          rw [same_true h1 h2 e];exact SeqAt.EqAt.same _
        obtain ⟨its2,rv2,p2⟩:=Inv.tupAt I (sub _ _ f2)
        simp only [eqD] at e
        obtain ⟨hp,hb⟩:=eqL_some e
        simp only [dep] at hn
        have he:∀ (j:Nat) (h1:j < its.toArray.size) (h2:j < its2.toArray.size),SeqAt.EqAt A.in1 s its.toArray[j] its2.toArray[j] (eAt l1 l2 j):=fun j k1 k2=>by
          obtain ⟨x,v,hx,_,dx,rx⟩:=item_at q1 rv k1
          obtain ⟨y,w,hy,_,dy,ry⟩:=item_at q2 rv2 k2
          have:=dep_mem (List.mem_of_getElem? hx)
          exact ih x y _ v w _ _ A.in1 (by omega) (hp j x y hx hy) dx dy rx ry hin
        have z:=SeqAt.RcAt.tuples p p2 hu0 he
        have e1:its.toArray.size=l1.length:=by rw [List.size_toArray,← rv.length,q1.length]
        have e2:its2.toArray.size=l2.length:=by rw [List.size_toArray,← rv2.length,q2.length]
        rw [e1,e2] at z
        rw [hb]
        exact SeqAt.EqAt.of_refs ha z
      | lst l2=>simp [eqD] at e;subst e;obtain ⟨a2,vs2,rfl,f2,_⟩:=h2.lst_inv;cases r2;obtain ⟨its2,_,p2⟩:=Inv.lstAt I (sub _ _ f2);exact SeqAt.EqAt.tuple_list p p2 hu0
      | _=>simp [eqD] at e
    | lst l1=>
      obtain ⟨a,vs,rfl,f1,q1⟩:=id h1.lst_inv
      cases r1
      obtain ⟨its,rv,p⟩:=Inv.lstAt I (sub _ _ f1)
      cases d2 with
      | non=>simp [eqD] at e;subst e;rw [h2.non_inv] at r2;cases r2;exact SeqAt.EqAt.list_none p hu0
      | str x=>simp [eqD] at e;subst e;rw [h2.str_inv] at r2;obtain ⟨t,rfl⟩:=r2;exact SeqAt.EqAt.list_str x t p hu0
      | tup l2=>simp [eqD] at e;subst e;obtain ⟨a2,vs2,rfl,f2,_⟩:=h2.tup_inv;cases r2;obtain ⟨its2,_,p2⟩:=Inv.tupAt I (sub _ _ f2);exact SeqAt.EqAt.list_tuple p p2 hu0
      | lst l2=>
        obtain ⟨a2,vs2,rfl,f2,q2⟩:=id h2.lst_inv
        cases r2
        by_cases ha:a=a2
        · subst ha
          rw [same_true h1 h2 e];exact SeqAt.EqAt.same _
        obtain ⟨its2,rv2,p2⟩:=Inv.lstAt I (sub _ _ f2)
        simp only [eqD] at e
        obtain ⟨hp,hb⟩:=eqL_some e
        simp only [dep] at hn
        have he:∀ (j:Nat) (h1:j < its.toArray.size) (h2:j < its2.toArray.size),SeqAt.EqAt A.in1 s its.toArray[j] its2.toArray[j] (eAt l1 l2 j):=fun j k1 k2=>by
          obtain ⟨x,v,hx,_,dx,rx⟩:=item_at q1 rv k1
          obtain ⟨y,w,hy,_,dy,ry⟩:=item_at q2 rv2 k2
          have:=dep_mem (List.mem_of_getElem? hx)
          exact ih x y _ v w _ _ A.in1 (by omega) (hp j x y hx hy) dx dy rx ry hin
        have e1:its.toArray.size=l1.length:=by rw [List.size_toArray,← rv.length,q1.length]
        have e2:its2.toArray.size=l2.length:=by rw [List.size_toArray,← rv2.length,q2.length]
        by_cases hsz:l1.length=l2.length
        · have z:=SeqAt.RcAt.lists p p2 (by rw [e1,e2,hsz]) hu0 he
          rw [e1] at z
          rw [hb,hsz,Nat.min_self,beq_self_eq_true,Bool.and_true,← hsz]
          exact SeqAt.EqAt.of_refs ha z
        · have z:=SeqAt.RcAt.lists_lengths p p2 (by rw [e1,e2];simpa using hsz) hu0
          have hb0:b=false:=by
            rw [hb]
            have:(l1.length == l2.length)=false:=by simpa using hsz
            rw [this,Bool.and_false]
          rw [hb0]
          exact SeqAt.EqAt.of_refs ha z
      | _=>simp [eqD] at e
    | _=>simp [eqD] at e
end
end FL
set_option Elab.async false
set_option linter.all false
set_option maxRecDepth 100000
namespace FL
open PySem PySem.Spec PyProof.Rows L2
noncomputable abbrev lim:Nat:=1000000
theorem lim_le {n:Nat}(h:n≤lim):n≤sizeLine:=by rw [sizeLine_eq];unfold lim at h;omega
theorem lim_lt {n:Nat}(h:n≤lim):n < sizeLine:=by rw [sizeLine_eq];unfold lim at h;omega
section
variable {K:PySem.W.Frag}{F H F' H':Hp} {v:V}
theorem DatB.non_inv (h:DatB K F H .non v):v=.non:=Dat.non_inv (K:=K) (F:=F) h
theorem DatB.bl_inv {i:Bool}(h:DatB K F H (.bl i) v):v=.bl i:=Dat.bl_inv (K:=K) (F:=F) h
theorem DatB.int_inv {i:Int}(h:DatB K F H (.int i) v):v=.int i:=Dat.int_inv (K:=K) (F:=F) h
theorem DatB.str_inv {i:Str}(h:DatB K F H (.str i) v):v=.str i:=Dat.str_inv (K:=K) (F:=F) h
theorem DatB.tup_inv {l:List D}(h:DatB K F H (.tup l) v):∃ a vs,v=.ref a∧F a=some (.tup vs)∧DatL K F l vs:=Dat.tup_inv (K:=K) (F:=F) h
theorem DatB.scr_inv {l:List Int}(h:DatB K F H (.scr l) v):∃ a,v=.ref a∧SqL K F a (l.map V.int):=Dat.scr_inv (K:=K) (F:=F) h
theorem DatB.lst_inv {l:List D}(h:DatB K F H (.lst l) v):∃ a vs,v=.ref a∧H a=some (.lst vs)∧DatL K F l vs:=h
theorem DatB.dic_inv {ks:List KD}{l:List D} (h:DatB K F H (.dic ks l) v):∃ a vs,v=.ref a∧DicB H a ks vs∧DatL K F l vs:=h
theorem DatB.exc_inv {c:Str}{d:D} (h:DatB K F H (.exc c d) v):False:=Dat.exc_inv (K:=K) (F:=F) (c:=c) (d:=d) (v:=v) h
theorem Res.bl (b:Bool):Res K .fz H F' H' (.bl b) (.bl b):=Dat.bl (K:=K) (F:=F') b
theorem Res.int (b:Int):Res K .fz H F' H' (.int b) (.int b):=Dat.int (K:=K) (F:=F') b
theorem Res.str (b:Str):Res K .fz H F' H' (.str b) (.str b):=Dat.str (K:=K) (F:=F') b
end
noncomputable def addD:D→D→Option D
  | .int a,.int b=>some (.int (a + b))
  | .str a,.str b=>if a.length + b.length≤lim then some (.str (a++b)) else none
  | .tup a,.tup b=>if a.length + b.length≤lim then some (.tup (a++b)) else none
  | .lst a,.lst b=>if a.length + b.length≤lim then some (.lst (a++b)) else none
  | _,_=>none
noncomputable def catD:D→D→Option D
  | .lst a,.lst b=>if a.length + b.length≤lim then some (.lst (a++b)) else none
  | _,_=>none
noncomputable def subD:D→D→Option D
  | .int a,.int b=>some (.int (a - b))
  | _,_=>none
noncomputable def okMul (a b:Int):Prop:=(-(2 ^ 64) < a∧a < 2 ^ 64)∨(-(2 ^ 64) < b∧b < 2 ^ 64)
noncomputable def okDiv (b:Int):Prop:=0 < b∧b < 1073741824
noncomputable def okMod (b:Int):Prop:=0 < b
noncomputable def okPow (a b:Int):Prop:=0≤b∧b≤1000000∧a.natAbs < 2 ^ 64
theorem okMul_r {a b:Int}(h1:-18446744073709551616 < b) (h2:b < 18446744073709551616):okMul a b:=.inr ⟨h1,h2⟩
theorem okMul_l {a b:Int}(h1:-18446744073709551616 < a) (h2:a < 18446744073709551616):okMul a b:=.inl ⟨h1,h2⟩
theorem okDiv_of {b:Int}(h1:0 < b) (h2:b < 1073741824):okDiv b:=⟨h1,h2⟩
theorem okMod_of {b:Int}(h1:0 < b):okMod b:=h1
theorem okPow_of {a b:Int}(h1:0≤b) (h2:b≤1000000) (h3:a.natAbs < 18446744073709551616):okPow a b:=⟨h1,h2,h3⟩
open Classical in
noncomputable def mulD:D→D→Option D
  | .int a,.int b=>if okMul a b then some (.int (a * b)) else none
  | _,_=>none
open Classical in
noncomputable def divD:D→D→Option D
  | .int a,.int b=>if okDiv b then some (.int (a / b)) else none
  | _,_=>none
open Classical in
noncomputable def modD:D→D→Option D
  | .int a,.int b=>if okMod b then some (.int (a % b)) else none
  | _,_=>none
open Classical in
noncomputable def powD:D→D→Option D
  | .int a,.int b=>if okPow a b then some (.int (a ^ b.toNat)) else none
  | _,_=>none
section
variable {K:PySem.W.Frag}{X:Cx}
theorem ite_some {α:Type}{c:Prop} {_:Decidable c}{x y:α} (h:(if c then some x else none)=some y):c∧x=y:=by
  by_cases hc:c
  · rw [if_pos hc] at h;exact ⟨hc,Option.some.inj h⟩
  · rw [if_neg hc] at h;cases h
theorem p_add (hK:X.K=K:=by rfl):Op2 K X (binaryOp .Add) .fz addD:=by
  subst hK
  refine ⟨_,op_add.or (op_add_str.or (op_catA.or op_cat)),fun x y d F H v u Q e s h1 h2 k=>?_⟩
  cases x<;>cases y<;>simp only [addD] at e<;>try (cases e;done)
  · cases e
    refine .inl ⟨_,_,h1.int_inv,h2.int_inv,k _ F H (Grow.refl s) (Res.int _)⟩
  · obtain ⟨hz,rfl⟩:=ite_some e
    exact .inr (.inl ⟨_,_,h1.str_inv,h2.str_inv,lim_le hz,k _ F H (Grow.refl s) (Res.str _)⟩)
  · obtain ⟨hz,rfl⟩:=ite_some e
    obtain ⟨a,xs,rfl,f1,q1⟩:=h1.tup_inv
    obtain ⟨b,ys,rfl,f2,q2⟩:=h2.tup_inv
    refine .inr (.inr (.inl ⟨a,b,xs,ys,rfl,rfl,SqT.of (s _ _ f1),SqT.of (s _ _ f2),by rw [q1.length,q2.length];exact lim_le hz,fun z=>?_,fun _ z=>?_,fun _ _ p hp=>?_⟩))
    · subst z
      refine k _ F H (Grow.refl s) ?_
      have:_=([]:List D):=List.eq_nil_of_length_eq_zero (by rw [← q1.length];rfl)
      rw [this];exact h2
    · subst z
      refine k _ F H (Grow.refl s) ?_
      have:_=([]:List D):=List.eq_nil_of_length_eq_zero (by rw [← q2.length];rfl)
      rw [this,List.append_nil];exact h1
    · have g:=Grow.frozen (o:=.tup (xs++ys)) s hp
      exact k _ _ _ g (Dat.tup (K:=X.K) upd_same ((q1.mono g.ff).append (q2.mono g.ff)))
  · obtain ⟨hz,rfl⟩:=ite_some e
    obtain ⟨a,xs,rfl,f1,q1⟩:=h1
    obtain ⟨b,ys,rfl,f2,q2⟩:=h2
    refine .inr (.inr (.inr ⟨a,b,xs,ys,rfl,rfl,f1,f2,by rw [q1.length,q2.length];exact lim_le hz,fun p hp=>?_⟩))
    have g:=Grow.frozen (o:=.lst (xs++ys)) s hp
    exact k _ _ _ g (Dat.lst (K:=X.K) upd_same ((q1.mono g.ff).append (q2.mono g.ff)))
theorem p_cat (hK:X.K=K:=by rfl):Op2 K X (binaryOp .Add) .ow catD:=by
  subst hK
  refine ⟨_,op_cat,fun x y d F H v u Q e s h1 h2 k=>?_⟩
  cases x<;>cases y<;>simp only [catD] at e<;>try (cases e;done)
  obtain ⟨hz,rfl⟩:=ite_some e
  obtain ⟨a,xs,rfl,f1,q1⟩:=h1
  obtain ⟨b,ys,rfl,f2,q2⟩:=h2
  refine ⟨a,b,xs,ys,rfl,rfl,f1,f2,by rw [q1.length,q2.length];exact lim_le hz,fun p hp=>?_⟩
  exact k _ _ _ (Grow.fresh s hp) ⟨p,rfl,hp,s.free hp,xs++ys,upd_same,q1.append q2⟩
theorem p_int {f:Value→Value→Sem Value}{C:Int→Int→Prop} {g:Int→Int→Int}{p:D→D→Option D} (o:OpR X f (rI C fun i j=>.int (g i j)))
    (h:∀ x y d,p x y=some d→∃ i j,x=.int i∧y=.int j∧C i j∧d=.int (g i j)):Op2 K X f .fz p:=by
  refine ⟨_,o,fun x y d F H v u Q e s h1 h2 k=>?_⟩
  obtain ⟨i,j,rfl,rfl,c,rfl⟩:=h x y d e
  exact ⟨i,j,h1.int_inv,h2.int_inv,c,k _ F H (Grow.refl s) (Res.int _)⟩
theorem p_sub:Op2 K X (binaryOp .Sub) .fz subD:=by
  refine ⟨_,op_sub,fun x y d F H v u Q e s h1 h2 k=>?_⟩
  cases x<;>cases y<;>simp only [subD] at e<;>try (cases e;done)
  cases e
  exact ⟨_,_,h1.int_inv,h2.int_inv,k _ F H (Grow.refl s) (Res.int _)⟩
theorem p_mul:Op2 K X (binaryOp .Mult) .fz mulD:=p_int op_mul fun x y d e=>by
  cases x<;>cases y<;>simp only [mulD] at e<;>try (cases e;done)
  obtain ⟨hz,rfl⟩:=ite_some e
  exact ⟨_,_,rfl,rfl,hz,rfl⟩
theorem p_div:Op2 K X (binaryOp .FloorDiv) .fz divD:=p_int op_fdiv fun x y d e=>by
  cases x<;>cases y<;>simp only [divD] at e<;>try (cases e;done)
  obtain ⟨hz,rfl⟩:=ite_some e
  exact ⟨_,_,rfl,rfl,hz,rfl⟩
theorem p_mod:Op2 K X (binaryOp .Mod) .fz modD:=p_int op_mod fun x y d e=>by
  cases x<;>cases y<;>simp only [modD] at e<;>try (cases e;done)
  obtain ⟨hz,rfl⟩:=ite_some e
  exact ⟨_,_,rfl,rfl,hz,rfl⟩
theorem p_pow:Op2 K X (binaryOp .Pow) .fz powD:=p_int op_pow fun x y d e=>by
  cases x<;>cases y<;>simp only [powD] at e<;>try (cases e;done)
  obtain ⟨hz,rfl⟩:=ite_some e
  exact ⟨_,_,rfl,rfl,hz,rfl⟩
end
section
variable {X:Cx}{pins:List (Addr×Obj)} {σ:St}{H F:Hp} {s:Shared}{K:PySem.W.Frag}
theorem RcAt_D (I:Inv X pins σ H s) (sub:Same F H) (d1 d2:D) (b:Bool) (v1 v2:V) (u1 u2:Value) (n:Nat) (hn:dep d1≤n) (e:eqD d1 d2=some b) (h1:DatB K F H d1 v1) (h2:DatB K F H d2 v2) (r1:RelV v1 u1) (r2:RelV v2 u2) (hu:X.A.units + n < cLine):SeqAt.RcAt X.A s u1 u2 b:=by
  have d0:0 < dep d1:=by cases d1<;>simp [dep]
  have hu0:X.A.units < cLine:=by omega
  have hin:X.A.in1.units + (n - 1) < cLine:=by have:=in1_units X.A;omega
  cases d1 with
  | non=>
    rw [h1.non_inv] at r1;cases r1
    cases d2 with
    | non=>simp [eqD] at e;subst e;rw [h2.non_inv] at r2;cases r2;exact SeqAt.RcAt.none_none
    | bl x=>simp [eqD] at e;subst e;rw [h2.bl_inv] at r2;cases r2;exact SeqAt.RcAt.none_bool x
    | int x=>simp [eqD] at e;subst e;rw [h2.int_inv] at r2;obtain ⟨t,rfl⟩:=r2;exact SeqAt.RcAt.none_int x t
    | str x=>simp [eqD] at e;subst e;rw [h2.str_inv] at r2;obtain ⟨t,rfl⟩:=r2;exact SeqAt.RcAt.none_str x t
    | tup l=>simp [eqD] at e;subst e;obtain ⟨a,vs,rfl,f,_⟩:=h2.tup_inv;cases r2;obtain ⟨its,_,p⟩:=Inv.tupAt I (sub _ _ f);exact SeqAt.RcAt.none_tuple p hu0
    | lst l=>simp [eqD] at e;subst e;obtain ⟨a,vs,rfl,f,_⟩:=h2.lst_inv;cases r2;obtain ⟨its,_,p⟩:=Inv.lstAt I f;exact SeqAt.RcAt.none_list p hu0
    | _=>simp [eqD] at e
  | bl y=>
    rw [h1.bl_inv] at r1;cases r1
    cases d2 with
    | non=>simp [eqD] at e;subst e;rw [h2.non_inv] at r2;cases r2;exact SeqAt.RcAt.bool_none y
    | bl x=>simp only [eqD,Option.some.injEq] at e;subst e;rw [h2.bl_inv] at r2;cases r2;exact SeqAt.RcAt.bool_bool y x
    | _=>simp [eqD] at e
  | int y=>
    rw [h1.int_inv] at r1;obtain ⟨t',rfl⟩:=r1
    cases d2 with
    | non=>simp [eqD] at e;subst e;rw [h2.non_inv] at r2;cases r2;exact SeqAt.RcAt.int_none y t'
    | int x=>simp only [eqD,Option.some.injEq] at e;subst e;rw [h2.int_inv] at r2;obtain ⟨t,rfl⟩:=r2;exact SeqAt.RcAt.int_int y t' x t
    | str x=>simp [eqD] at e;subst e;rw [h2.str_inv] at r2;obtain ⟨t,rfl⟩:=r2;exact SeqAt.RcAt.int_str y t' x t
    | tup l=>simp [eqD] at e;subst e;obtain ⟨a,vs,rfl,f,_⟩:=h2.tup_inv;cases r2;obtain ⟨its,_,p⟩:=Inv.tupAt I (sub _ _ f);exact SeqAt.RcAt.int_tuple y t' p hu0
    | _=>simp [eqD] at e
  | str y=>
    rw [h1.str_inv] at r1;obtain ⟨t',rfl⟩:=r1
    cases d2 with
    | non=>simp [eqD] at e;subst e;rw [h2.non_inv] at r2;cases r2;exact SeqAt.RcAt.str_none y t'
    | int x=>simp [eqD] at e;subst e;rw [h2.int_inv] at r2;obtain ⟨t,rfl⟩:=r2;exact SeqAt.RcAt.str_int y t' x t
    | str x=>simp only [eqD,Option.some.injEq] at e;subst e;rw [h2.str_inv] at r2;obtain ⟨t,rfl⟩:=r2;exact SeqAt.RcAt.str_str y t' x t
    | tup l=>simp [eqD] at e;subst e;obtain ⟨a,vs,rfl,f,_⟩:=h2.tup_inv;cases r2;obtain ⟨its,_,p⟩:=Inv.tupAt I (sub _ _ f);exact SeqAt.RcAt.str_tuple y t' p hu0
    | lst l=>simp [eqD] at e;subst e;obtain ⟨a,vs,rfl,f,_⟩:=h2.lst_inv;cases r2;obtain ⟨its,_,p⟩:=Inv.lstAt I f;exact SeqAt.RcAt.str_list y t' p hu0
    | _=>simp [eqD] at e
  | tup l1=>
    obtain ⟨a,vs,rfl,f1,q1⟩:=h1.tup_inv
    cases r1
    obtain ⟨its,rv,p⟩:=Inv.tupAt I (sub _ _ f1)
    cases d2 with
    | non=>simp [eqD] at e;subst e;rw [h2.non_inv] at r2;cases r2;exact SeqAt.RcAt.tuple_none p hu0
    | int x=>simp [eqD] at e;subst e;rw [h2.int_inv] at r2;obtain ⟨t,rfl⟩:=r2;exact SeqAt.RcAt.tuple_int x t p hu0
    | str x=>simp [eqD] at e;subst e;rw [h2.str_inv] at r2;obtain ⟨t,rfl⟩:=r2;exact SeqAt.RcAt.tuple_str x t p hu0
    | tup l2=>
      obtain ⟨a2,vs2,rfl,f2,q2⟩:=h2.tup_inv
      cases r2
      obtain ⟨its2,rv2,p2⟩:=Inv.tupAt I (sub _ _ f2)
      simp only [eqD] at e
      obtain ⟨hp,hb⟩:=eqL_some e
      simp only [dep] at hn
      have he:∀ (j:Nat) (h1:j < its.toArray.size) (h2:j < its2.toArray.size),SeqAt.EqAt X.A.in1 s its.toArray[j] its2.toArray[j] (eAt l1 l2 j):=fun j k1 k2=>by
        obtain ⟨x,v,hx,_,dx,rx⟩:=item_at q1 rv k1
        obtain ⟨y,w,hy,_,dy,ry⟩:=item_at q2 rv2 k2
        have:=dep_mem (List.mem_of_getElem? hx)
        exact eqAt_D I sub (n - 1) x y _ v w _ _ X.A.in1 (by omega) (hp j x y hx hy) dx dy rx ry hin
      have z:=SeqAt.RcAt.tuples p p2 hu0 he
      have e1:its.toArray.size=l1.length:=by rw [List.size_toArray,← rv.length,q1.length]
      have e2:its2.toArray.size=l2.length:=by rw [List.size_toArray,← rv2.length,q2.length]
      rw [e1,e2] at z
      rw [hb]
      exact z
    | lst l2=>simp [eqD] at e;subst e;obtain ⟨a2,vs2,rfl,f2,_⟩:=h2.lst_inv;cases r2;obtain ⟨its2,_,p2⟩:=Inv.lstAt I f2;exact SeqAt.RcAt.tuple_list p p2 hu0
    | _=>simp [eqD] at e
  | lst l1=>
    obtain ⟨a,vs,rfl,f1,q1⟩:=h1.lst_inv
    cases r1
    obtain ⟨its,rv,p⟩:=Inv.lstAt I f1
    cases d2 with
    | non=>simp [eqD] at e;subst e;rw [h2.non_inv] at r2;cases r2;exact SeqAt.RcAt.list_none p hu0
    | str x=>simp [eqD] at e;subst e;rw [h2.str_inv] at r2;obtain ⟨t,rfl⟩:=r2;exact SeqAt.RcAt.list_str x t p hu0
    | tup l2=>simp [eqD] at e;subst e;obtain ⟨a2,vs2,rfl,f2,_⟩:=h2.tup_inv;cases r2;obtain ⟨its2,_,p2⟩:=Inv.tupAt I (sub _ _ f2);exact SeqAt.RcAt.list_tuple p p2 hu0
    | lst l2=>
      obtain ⟨a2,vs2,rfl,f2,q2⟩:=h2.lst_inv
      cases r2
      obtain ⟨its2,rv2,p2⟩:=Inv.lstAt I f2
      simp only [eqD] at e
      obtain ⟨hp,hb⟩:=eqL_some e
      simp only [dep] at hn
      have he:∀ (j:Nat) (h1:j < its.toArray.size) (h2:j < its2.toArray.size),SeqAt.EqAt X.A.in1 s its.toArray[j] its2.toArray[j] (eAt l1 l2 j):=fun j k1 k2=>by
        obtain ⟨x,v,hx,_,dx,rx⟩:=item_at q1 rv k1
        obtain ⟨y,w,hy,_,dy,ry⟩:=item_at q2 rv2 k2
        have:=dep_mem (List.mem_of_getElem? hx)
        exact eqAt_D I sub (n - 1) x y _ v w _ _ X.A.in1 (by omega) (hp j x y hx hy) dx dy rx ry hin
      have e1:its.toArray.size=l1.length:=by rw [List.size_toArray,← rv.length,q1.length]
      have e2:its2.toArray.size=l2.length:=by rw [List.size_toArray,← rv2.length,q2.length]
      by_cases hsz:l1.length=l2.length
      · have z:=SeqAt.RcAt.lists p p2 (by rw [e1,e2,hsz]) hu0 he
        rw [e1] at z
        rw [hb,hsz,Nat.min_self,beq_self_eq_true,Bool.and_true,← hsz]
        exact z
      · have z:=SeqAt.RcAt.lists_lengths p p2 (by rw [e1,e2];simpa using hsz) hu0
        have hb0:b=false:=by
          rw [hb]
          have:(l1.length == l2.length)=false:=by simpa using hsz
          rw [this,Bool.and_false]
        rw [hb0]
        exact z
    | _=>simp [eqD] at e
  | _=>simp [eqD] at e
theorem RcNeAt_D (I:Inv X pins σ H s) (sub:Same F H) (d1 d2:D) (b:Bool) (v1 v2:V) (u1 u2:Value) (n:Nat) (hn:dep d1≤n) (e:eqD d1 d2=some b) (h1:DatB K F H d1 v1) (h2:DatB K F H d2 v2) (r1:RelV v1 u1) (r2:RelV v2 u2) (hu:X.A.units + n < cLine):SeqAt.RcNeAt X.A s u1 u2 (!b):=by
  have d0:0 < dep d1:=by cases d1<;>simp [dep]
  have hu0:X.A.units < cLine:=by omega
  have hin:X.A.in1.units + (n - 1) < cLine:=by have:=in1_units X.A;omega
  cases d1 with
  | non=>
    rw [h1.non_inv] at r1;cases r1
    cases d2 with
    | non=>simp [eqD] at e;subst e;rw [h2.non_inv] at r2;cases r2;exact SeqAt.RcNeAt.none_none
    | bl x=>simp [eqD] at e;subst e;rw [h2.bl_inv] at r2;cases r2;exact SeqAt.RcNeAt.none_bool x
    | int x=>simp [eqD] at e;subst e;rw [h2.int_inv] at r2;obtain ⟨t,rfl⟩:=r2;exact SeqAt.RcNeAt.none_int x t
    | str x=>simp [eqD] at e;subst e;rw [h2.str_inv] at r2;obtain ⟨t,rfl⟩:=r2;exact SeqAt.RcNeAt.none_str x t
    | tup l=>simp [eqD] at e;subst e;obtain ⟨a,vs,rfl,f,_⟩:=h2.tup_inv;cases r2;obtain ⟨its,_,p⟩:=Inv.tupAt I (sub _ _ f);exact SeqAt.RcNeAt.none_tuple p hu0
    | lst l=>simp [eqD] at e;subst e;obtain ⟨a,vs,rfl,f,_⟩:=h2.lst_inv;cases r2;obtain ⟨its,_,p⟩:=Inv.lstAt I f;exact SeqAt.RcNeAt.none_list p hu0
    | _=>simp [eqD] at e
  | bl y=>
    rw [h1.bl_inv] at r1;cases r1
    cases d2 with
    | non=>simp [eqD] at e;subst e;rw [h2.non_inv] at r2;cases r2;exact SeqAt.RcNeAt.bool_none y
    | bl x=>simp only [eqD,Option.some.injEq] at e;subst e;rw [h2.bl_inv] at r2;cases r2;exact SeqAt.RcNeAt.bool_bool y x
    | _=>simp [eqD] at e
  | int y=>
    rw [h1.int_inv] at r1;obtain ⟨t',rfl⟩:=r1
    cases d2 with
    | non=>simp [eqD] at e;subst e;rw [h2.non_inv] at r2;cases r2;exact SeqAt.RcNeAt.int_none y t'
    | int x=>simp only [eqD,Option.some.injEq] at e;subst e;rw [h2.int_inv] at r2;obtain ⟨t,rfl⟩:=r2;exact SeqAt.RcNeAt.int_int y t' x t
    | str x=>simp [eqD] at e;subst e;rw [h2.str_inv] at r2;obtain ⟨t,rfl⟩:=r2;exact SeqAt.RcNeAt.int_str y t' x t
    | tup l=>simp [eqD] at e;subst e;obtain ⟨a,vs,rfl,f,_⟩:=h2.tup_inv;cases r2;obtain ⟨its,_,p⟩:=Inv.tupAt I (sub _ _ f);exact SeqAt.RcNeAt.int_tuple y t' p hu0
    | _=>simp [eqD] at e
  | str y=>
    rw [h1.str_inv] at r1;obtain ⟨t',rfl⟩:=r1
    cases d2 with
    | non=>simp [eqD] at e;subst e;rw [h2.non_inv] at r2;cases r2;exact SeqAt.RcNeAt.str_none y t'
    | int x=>simp [eqD] at e;subst e;rw [h2.int_inv] at r2;obtain ⟨t,rfl⟩:=r2;exact SeqAt.RcNeAt.str_int y t' x t
    | str x=>simp only [eqD,Option.some.injEq] at e;subst e;rw [h2.str_inv] at r2;obtain ⟨t,rfl⟩:=r2;exact SeqAt.RcNeAt.str_str y t' x t
    | tup l=>simp [eqD] at e;subst e;obtain ⟨a,vs,rfl,f,_⟩:=h2.tup_inv;cases r2;obtain ⟨its,_,p⟩:=Inv.tupAt I (sub _ _ f);exact SeqAt.RcNeAt.str_tuple y t' p hu0
    | lst l=>simp [eqD] at e;subst e;obtain ⟨a,vs,rfl,f,_⟩:=h2.lst_inv;cases r2;obtain ⟨its,_,p⟩:=Inv.lstAt I f;exact SeqAt.RcNeAt.str_list y t' p hu0
    | _=>simp [eqD] at e
  | tup l1=>
    obtain ⟨a,vs,rfl,f1,q1⟩:=h1.tup_inv
    cases r1
    obtain ⟨its,rv,p⟩:=Inv.tupAt I (sub _ _ f1)
    cases d2 with
    | non=>simp [eqD] at e;subst e;rw [h2.non_inv] at r2;cases r2;exact SeqAt.RcNeAt.tuple_none p hu0
    | int x=>simp [eqD] at e;subst e;rw [h2.int_inv] at r2;obtain ⟨t,rfl⟩:=r2;exact SeqAt.RcNeAt.tuple_int x t p hu0
    | str x=>simp [eqD] at e;subst e;rw [h2.str_inv] at r2;obtain ⟨t,rfl⟩:=r2;exact SeqAt.RcNeAt.tuple_str x t p hu0
    | tup l2=>
      obtain ⟨a2,vs2,rfl,f2,q2⟩:=h2.tup_inv
      cases r2
      obtain ⟨its2,rv2,p2⟩:=Inv.tupAt I (sub _ _ f2)
      simp only [eqD] at e
      obtain ⟨hp,hb⟩:=eqL_some e
      simp only [dep] at hn
      have he:∀ (j:Nat) (h1:j < its.toArray.size) (h2:j < its2.toArray.size),SeqAt.EqAt X.A.in1 s its.toArray[j] its2.toArray[j] (eAt l1 l2 j):=fun j k1 k2=>by
        obtain ⟨x,v,hx,_,dx,rx⟩:=item_at q1 rv k1
        obtain ⟨y,w,hy,_,dy,ry⟩:=item_at q2 rv2 k2
        have:=dep_mem (List.mem_of_getElem? hx)
        exact eqAt_D I sub (n - 1) x y _ v w _ _ X.A.in1 (by omega) (hp j x y hx hy) dx dy rx ry hin
      have z:=SeqAt.RcNeAt.tuples p p2 hu0 he
      have e1:its.toArray.size=l1.length:=by rw [List.size_toArray,← rv.length,q1.length]
      have e2:its2.toArray.size=l2.length:=by rw [List.size_toArray,← rv2.length,q2.length]
      rw [e1,e2] at z
      rw [hb]
      exact z
    | lst l2=>simp [eqD] at e;subst e;obtain ⟨a2,vs2,rfl,f2,_⟩:=h2.lst_inv;cases r2;obtain ⟨its2,_,p2⟩:=Inv.lstAt I f2;exact SeqAt.RcNeAt.tuple_list p p2 hu0
    | _=>simp [eqD] at e
  | lst l1=>
    obtain ⟨a,vs,rfl,f1,q1⟩:=h1.lst_inv
    cases r1
    obtain ⟨its,rv,p⟩:=Inv.lstAt I f1
    cases d2 with
    | non=>simp [eqD] at e;subst e;rw [h2.non_inv] at r2;cases r2;exact SeqAt.RcNeAt.list_none p hu0
    | str x=>simp [eqD] at e;subst e;rw [h2.str_inv] at r2;obtain ⟨t,rfl⟩:=r2;exact SeqAt.RcNeAt.list_str x t p hu0
    | tup l2=>simp [eqD] at e;subst e;obtain ⟨a2,vs2,rfl,f2,_⟩:=h2.tup_inv;cases r2;obtain ⟨its2,_,p2⟩:=Inv.tupAt I (sub _ _ f2);exact SeqAt.RcNeAt.list_tuple p p2 hu0
    | lst l2=>
      obtain ⟨a2,vs2,rfl,f2,q2⟩:=h2.lst_inv
      cases r2
      obtain ⟨its2,rv2,p2⟩:=Inv.lstAt I f2
      simp only [eqD] at e
      obtain ⟨hp,hb⟩:=eqL_some e
      simp only [dep] at hn
      have he:∀ (j:Nat) (h1:j < its.toArray.size) (h2:j < its2.toArray.size),SeqAt.EqAt X.A.in1 s its.toArray[j] its2.toArray[j] (eAt l1 l2 j):=fun j k1 k2=>by
        obtain ⟨x,v,hx,_,dx,rx⟩:=item_at q1 rv k1
        obtain ⟨y,w,hy,_,dy,ry⟩:=item_at q2 rv2 k2
        have:=dep_mem (List.mem_of_getElem? hx)
        exact eqAt_D I sub (n - 1) x y _ v w _ _ X.A.in1 (by omega) (hp j x y hx hy) dx dy rx ry hin
      have e1:its.toArray.size=l1.length:=by rw [List.size_toArray,← rv.length,q1.length]
      have e2:its2.toArray.size=l2.length:=by rw [List.size_toArray,← rv2.length,q2.length]
      by_cases hsz:l1.length=l2.length
      · have z:=SeqAt.RcNeAt.lists p p2 (by rw [e1,e2,hsz]) hu0 he
        rw [e1] at z
        rw [hb,hsz,Nat.min_self,beq_self_eq_true,Bool.and_true,← hsz]
        exact z
      · have z:=SeqAt.RcNeAt.lists_lengths p p2 (by rw [e1,e2];simpa using hsz) hu0
        have hb0:b=false:=by
          rw [hb]
          have:(l1.length == l2.length)=false:=by simpa using hsz
          rw [this,Bool.and_false]
        rw [hb0]
        exact z
    | _=>simp [eqD] at e
  | _=>simp [eqD] at e
end
noncomputable def eqB (x y:D):Option D:=if dep x≤100 then (eqD x y).map D.bl else none
noncomputable def neB (x y:D):Option D:=if dep x≤100 then (eqD x y).map fun b=>D.bl (!b) else none
noncomputable def rEqD (K:PySem.W.Frag) (f:Bool→Bool):R2:=fun x y H Q=>∃ F d1 d2 b,Same F H∧DatB K F H d1 x∧DatB K F H d2 y∧dep d1≤100∧eqD d1 d2=some b∧Q (.bl (f b)) H
section
variable {K:PySem.W.Frag}{X:Cx}
theorem op_eqD (hu:X.A.units + 100 < cLine):OpR X (compareOp .Eq) (rEqD K id):=by
  intro pins s σ H x y v u Q I rx ry h
  obtain ⟨F,d1,d2,b,sub,h1,h2,hn,e,q⟩:=h
  exact RcAt_D I sub d1 d2 b x y v u 100 hn e h1 h2 rx ry hu _ _ _ _ ⟨.bl b,H,I,rfl,q⟩
theorem op_neD (hu:X.A.units + 100 < cLine):OpR X (compareOp .NotEq) (rEqD K not):=by
  intro pins s σ H x y v u Q I rx ry h
  obtain ⟨F,d1,d2,b,sub,h1,h2,hn,e,q⟩:=h
  exact RcNeAt_D I sub d1 d2 b x y v u 100 hn e h1 h2 rx ry hu _ _ _ _ ⟨.bl (!b),H,I,rfl,q⟩
theorem p_eq (hu:X.A.units + 100 < cLine):Op2 K X (compareOp .Eq) .fz eqB:=by
  refine ⟨_,op_eqD (K:=K) hu,fun x y d F H v u Q e s h1 h2 k=>?_⟩
  unfold eqB at e
  by_cases hc:dep x≤100
  · rw [if_pos hc] at e
    cases e1:eqD x y with
    | none=>rw [e1] at e;cases e
    | some b=>
      rw [e1] at e;cases e
      exact ⟨F,x,y,b,s,h1,h2,hc,e1,k _ F H (Grow.refl s) (Res.bl b)⟩
  · rw [if_neg hc] at e;cases e
theorem p_ne (hu:X.A.units + 100 < cLine):Op2 K X (compareOp .NotEq) .fz neB:=by
  refine ⟨_,op_neD (K:=K) hu,fun x y d F H v u Q e s h1 h2 k=>?_⟩
  unfold neB at e
  by_cases hc:dep x≤100
  · rw [if_pos hc] at e
    cases e1:eqD x y with
    | none=>rw [e1] at e;cases e
    | some b=>
      rw [e1] at e;cases e
      exact ⟨F,x,y,b,s,h1,h2,hc,e1,k _ F H (Grow.refl s) (Res.bl _)⟩
  · rw [if_neg hc] at e;cases e
end
end FL
set_option Elab.async false
set_option linter.all false
set_option maxRecDepth 100000
namespace FL
open PySem PySem.Spec PyProof.Rows L2
noncomputable def inL (x:D):List D→Option Bool
  | []=>some false
  | d::l=>(eqD d x).bind fun b=>(inL x l).map fun c=>b || c
theorem inL_some {x:D}:∀ {l:List D}{b:Bool},inL x l=some b→(∀ d∈l,∃ c,eqD d x=some c)∧b=l.any fun d=>(eqD d x).getD false
  | [],b,h=>by simp [inL] at h;subst h;simp
  | d::l,b,h=>by
    simp only [inL] at h
    cases e1:eqD d x with
    | none=>rw [e1] at h;cases h
    | some c=>
      cases e2:inL x l with
      | none=>rw [e1,e2] at h;cases h
      | some c2=>
        rw [e1,e2] at h
        have hb:(c || c2)=b:=by simpa using h
        obtain ⟨h1,h2⟩:=inL_some e2
        refine ⟨fun y hy=>?_,?_⟩
        · rcases List.mem_cons.mp hy with rfl | hy
          · exact ⟨c,e1⟩
          · exact h1 y hy
        · rw [← hb,h2,List.any_cons,e1];rfl
theorem any_get {α β:Type}{e:α→Bool} {g:β→Bool}:∀ {xs:List α}{ys:List β},xs.length=ys.length→(∀ (k:Nat) x y,xs[k]?=some x→ys[k]?=some y→e x=g y)→xs.any e=ys.any g
  | [],[],_,_=>rfl
  | [],_::_,h,_=>by simp at h
  | _::_,[],h,_=>by simp at h
  | x::xs,y::ys,h,k=>by
    rw [List.any_cons,List.any_cons,k 0 x y rfl rfl,any_get (xs:=xs) (ys:=ys) (by simpa using h) fun j a b ha hb=>k (j + 1) a b (by simpa using ha) (by simpa using hb)]
section
variable {X:Cx}{pins:List (Addr×Obj)} {σ:St}{H F:Hp} {s:Shared}{K:PySem.W.Frag}
theorem mem_D (I:Inv X pins σ H s) (sub:Same F H) {l:List D}{vs:List V} {its:List Value}{x:D} {v:V}{u:Value} {b:Bool}(q:DatL K F l vs) (r:Vals vs its) (hx:Dat K F x v) (ru:RelV v u) (hd:depL l≤100) (e:inL x l=some b) (hu:X.A.in1.units + 100 < cLine) :
    ∃ f:Value→Bool,(∀ y,y∈its.toArray→SeqAt.EqAt X.A.in1 s y u (f y))∧its.toArray.any f=b:=by
  obtain ⟨h1,h2⟩:=inL_some e
  have hl:its.length=l.length:=by rw [← r.length,q.length]
  have at_:∀ (k:Nat) (y:Value),its[k]?=some y→∃ d w,l[k]?=some d∧Dat K F d w∧RelV w y:=fun k y hk=>by
    have hk':k < its.toArray.size:=by simpa using (List.getElem?_eq_some_iff.mp hk).1
    obtain ⟨d,w,e1,_,e3,e4⟩:=item_at q r hk'
    refine ⟨d,w,e1,e3,?_⟩
    have:its.toArray[k]=y:=by
      rw [List.getElem?_eq_getElem (by simpa using hk')] at hk
      simpa using Option.some.inj hk
    rw [← this];exact e4
  refine ⟨fun y=>match (its.zip l).find? (fun p=>p.1 == y) with
    | some p=>(eqD p.2 x).getD false
    | none=>false,fun y hy=>?_,?_⟩
  · have hy':y∈its:=by simpa using hy
    obtain ⟨k,hk⟩:=List.mem_iff_getElem?.mp hy'
    cases f:(its.zip l).find? (fun p=>p.1 == y) with
    | none=>
      exfalso
      have hk2:k < its.length:=(List.getElem?_eq_some_iff.mp hk).1
      have:=List.find?_eq_none.mp f (its[k],l[k]'(by omega)) (by
        have:(its.zip l)[k]?=some (its[k],l[k]'(by omega)):=by simp [List.getElem?_zip_eq_some,hk2]
        exact List.mem_of_getElem? this)
      rw [List.getElem?_eq_getElem hk2] at hk
      have e0:=Option.some.inj hk
      simp [e0] at this
    | some p=>
      have hp:=List.find?_some f
      have hm:=List.mem_of_find?_eq_some f
      obtain ⟨j,hj⟩:=List.mem_iff_getElem?.mp hm
      obtain ⟨j1,j2⟩:=List.getElem?_zip_eq_some.mp hj
      have e1:p.1=y:=by simpa using hp
      obtain ⟨d,w,e2,e3,e4⟩:=at_ j p.1 j1
      rw [j2] at e2;cases e2
      obtain ⟨c,hc⟩:=h1 p.2 (List.mem_of_getElem? j2)
      have:=dep_mem (List.mem_of_getElem? j2)
      simp only [f,hc,Option.getD_some]
      exact eqAt_D I sub 100 p.2 x c w v y u X.A.in1 (by omega) hc e3 hx (e1 ▸ e4) ru hu
  · rw [h2,List.any_toArray]
    refine any_get hl fun k y d hk hd'=>?_
    cases f:(its.zip l).find? (fun p=>p.1 == y) with
    | none=>
      exfalso
      have:=List.find?_eq_none.mp f (y,d) (List.mem_of_getElem? (i:=k) (List.getElem?_zip_eq_some.mpr ⟨hk,hd'⟩))
      simp at this
    | some p=>
      have hp:=List.find?_some f
      have hm:=List.mem_of_find?_eq_some f
      obtain ⟨j,hj⟩:=List.mem_iff_getElem?.mp hm
      obtain ⟨j1,j2⟩:=List.getElem?_zip_eq_some.mp hj
      have e1:p.1=y:=by simpa using hp
      obtain ⟨d1,w1,e2,e3,e4⟩:=at_ j p.1 j1
      rw [j2] at e2;cases e2
      obtain ⟨d2,w2,f2,f3,f4⟩:=at_ k y hk
      rw [hd'] at f2;cases f2
      obtain ⟨c1,hc1⟩:=h1 p.2 (List.mem_of_getElem? j2)
      obtain ⟨c2,hc2⟩:=h1 d (List.mem_of_getElem? hd')
      rw [e1] at e4
      have ew:=e4.inj f4
      subst ew
      simp only [f,hc1,hc2,Option.getD_some]
      exact eq_fun _ p.2 d x c1 c2 w1 (Nat.le_refl _) e3 f3 hc1 hc2
end
noncomputable def inB (x y:D):Option D:=match y with
  | .lst l=>if depL l≤100 then (inL x l).map D.bl else none
  | .tup l=>if depL l≤100 then (inL x l).map D.bl else none
  | _=>none
noncomputable def notInB (x y:D):Option D:=match y with
  | .lst l=>if depL l≤100 then (inL x l).map fun b=>D.bl (!b) else none
  | .tup l=>if depL l≤100 then (inL x l).map fun b=>D.bl (!b) else none
  | _=>none
noncomputable def rInD (K:PySem.W.Frag) (f:Bool→Bool):R2:=fun x y H Q=>∃ F d l b a vs,Same F H∧Dat K F d x∧y=.ref a∧(H a=some (.lst vs)∨H a=some (.tup vs))∧DatL K F l vs∧depL l≤100∧inL d l=some b∧Q (.bl (f b)) H
section
variable {K:PySem.W.Frag}{X:Cx}
theorem op_inD (hu:X.A.units + 101 < cLine):OpR X (compareOp .In) (rInD K id):=by
  intro pins s σ H x y v u Q I rx ry h
  obtain ⟨F,d,l,b,a,vs,sub,h1,rfl,ho,q,hd,e,k⟩:=h
  cases ry
  have hu':X.A.in1.units + 100 < cLine:=by have:=in1_units X.A;omega
  rcases ho with ho | ho
  · obtain ⟨its,r,p⟩:=Inv.lstAt I ho
    obtain ⟨f,h3,h4⟩:=mem_D I sub q r h1 rx hd e hu'
    exact SeqAt.in_listAt f p h3 (by rw [h4];exact ⟨.bl b,H,I,rfl,k⟩)
  · obtain ⟨its,r,p⟩:=Inv.tupAt I ho
    obtain ⟨f,h3,h4⟩:=mem_D I sub q r h1 rx hd e hu'
    exact SeqAt.in_tupleAt f p h3 (by rw [h4];exact ⟨.bl b,H,I,rfl,k⟩)
theorem op_notInD (hu:X.A.units + 101 < cLine):OpR X (compareOp .NotIn) (rInD K not):=by
  intro pins s σ H x y v u Q I rx ry h
  obtain ⟨F,d,l,b,a,vs,sub,h1,rfl,ho,q,hd,e,k⟩:=h
  cases ry
  have hu':X.A.in1.units + 100 < cLine:=by have:=in1_units X.A;omega
  rcases ho with ho | ho
  · obtain ⟨its,r,p⟩:=Inv.lstAt I ho
    obtain ⟨f,h3,h4⟩:=mem_D I sub q r h1 rx hd e hu'
    exact SeqAt.notIn_listAt f p h3 (by rw [h4];exact ⟨.bl (!b),H,I,rfl,k⟩)
  · obtain ⟨its,r,p⟩:=Inv.tupAt I ho
    obtain ⟨f,h3,h4⟩:=mem_D I sub q r h1 rx hd e hu'
    exact SeqAt.notIn_tupleAt f p h3 (by rw [h4];exact ⟨.bl (!b),H,I,rfl,k⟩)
end
noncomputable def Op2f (K:PySem.W.Frag) (X:Cx) (f:Value→Value→Sem Value) (p:D→D→Option D):Prop:=
  ∃ r:R2,OpR X f r∧∀ x y d F H v u Q,p x y=some d→Same F H→Dat K F x v→DatB K F H y u→(∀ w F' H',Grow F H F' H'→Res K .fz H F' H' d w→Q w H')→r v u H Q
section
variable {K:PySem.W.Frag}{X:Cx} {a b:Expr}{fa fb:En→Option D} {pos:Pos}{p:D→D→Option D}
theorem p_inG {f:Value→Value→Sem Value}{n:Bool→Bool} {p:D→D→Option D}(o:OpR X f (rInD K n)) (h:∀ x y d,p x y=some d→∃ l b,(y=.lst l∨y=.tup l)∧depL l≤100∧inL x l=some b∧d=.bl (n b)):Op2f K X f p:=by
  refine ⟨_,o,fun x y d F H v u Q e s h1 h2 k=>?_⟩
  obtain ⟨l,b,hy,hd,e1,rfl⟩:=h x y d e
  rcases hy with rfl | rfl
  · obtain ⟨a,vs,rfl,f,q⟩:=h2.lst_inv
    exact ⟨F,x,l,b,a,vs,s,h1,rfl,.inl f,q,hd,e1,k _ F H (Grow.refl s) (Res.bl _)⟩
  · obtain ⟨a,vs,rfl,f,q⟩:=h2.tup_inv
    exact ⟨F,x,l,b,a,vs,s,h1,rfl,.inr (s _ _ f),q,hd,e1,k _ F H (Grow.refl s) (Res.bl _)⟩
theorem p_in (hu:X.A.units + 101 < cLine):Op2f K X (compareOp .In) inB:=p_inG (op_inD hu) fun x y d e=>by
  unfold inB at e
  split at e
  · split at e
    · rename_i l hd
      cases e1:inL x l with
      | none=>rw [e1] at e;cases e
      | some b=>rw [e1] at e;cases e;exact ⟨l,b,.inl rfl,hd,e1,rfl⟩
    · cases e
  · split at e
    · rename_i l hd
      cases e1:inL x l with
      | none=>rw [e1] at e;cases e
      | some b=>rw [e1] at e;cases e;exact ⟨l,b,.inr rfl,hd,e1,rfl⟩
    · cases e
  · cases e
theorem p_notIn (hu:X.A.units + 101 < cLine):Op2f K X (compareOp .NotIn) notInB:=p_inG (op_notInD hu) fun x y d e=>by
  unfold notInB at e
  split at e
  · split at e
    · rename_i l hd
      cases e1:inL x l with
      | none=>rw [e1] at e;cases e
      | some b=>rw [e1] at e;cases e;exact ⟨l,b,.inl rfl,hd,e1,rfl⟩
    · cases e
  · split at e
    · rename_i l hd
      cases e1:inL x l with
      | none=>rw [e1] at e;cases e
      | some b=>rw [e1] at e;cases e;exact ⟨l,b,.inr rfl,hd,e1,rfl⟩
    · cases e
  · cases e
theorem two_f {ρ:En}{x y d:D} {r:R2}(ha:PE X a (rdE K .fz ρ x)) (hb:PE X b (rdE K .br ρ y))
    (hr:∀ F H v u Q,Same F H→Dat K F x v→DatB K F H y u→(∀ w F' H',Grow F H F' H'→Res K .fz H F' H' d w→Q w H')→r v u H Q)
    (σ:St) (H:Hp) (Q:VK) (h:rdE K .fz ρ d σ H Q):tOp r (rdE K .fz ρ x) (rdE K .br ρ y) σ H Q:=by
  obtain ⟨F,rl,q⟩:=h
  refine ⟨F,rl,fun v F1 H1 g1 r1=>⟨F1,rl.grow g1,fun u F2 H2 g2 r2=>?_⟩⟩
  refine hr F2 H2 v u Q g2.fh (Dat.mono g2.ff r1) r2 fun w F3 H3 g3 r3=>?_
  exact q w F3 H3 (g1.trans (g2.trans g3)) r3
end
end FL
set_option Elab.async false
set_option linter.all false
set_option maxRecDepth 100000
namespace HT
open PySem PySem.Spec PyProof.Rows
section
variable {prog:Program}{w:World} {A:Around}{E:Value→Shared→Prop} {s:Shared}
theorem getItem_tuple_whole {t sl:Addr}{items:Array Value} {vl vu:Value}{lo hi:Option Int} {Q:Value→Shared→Prop}(ht:IsTup s.heap t items) (hs:s.heap.IsSliceOf sl vl vu .none) (pl:IsPart vl lo) (pu:IsPart vu hi)
    (hw:sIx items.size 0 lo=0∧sIx items.size items.size hi=items.size)
    (h:Q (.ref t) s):wpAny (model prog w) A (getItem (.ref t) (.ref sl)) Q E s:=by
  obtain ⟨os,hos,hcs,hds⟩:=id hs
  have hTs:s.TypeIs (.ref sl) "slice" := ⟨os,hos,hcs⟩
  unfold getItem
  try with_reducible refine wpAny_holding ?_
  first | refine wpAny_bind (wpAny_pure ?_) | skip
  refine wpAny_bind (wpAny_sequenceKey ht.typeIs (by decide) ?_)
  refine wpAny_bind (wpAny_callSpecial?_slot (name:=Str.ofString "__getitem__") ht.typeIs PyProof.Rows.slot_tuple_getitem
    (wpAny_call_entry PyProof.Rows.slot_tuple_getitem ht.typeIs entry_tuple_getitem ?_ (args_tuple_getitem _ _)))
  show wpAny _ _ (Builtin.Tuple.tupleItemsOf (.ref t) >>= _) _ _ s
  refine wpAny_bind (tupleItemsOf_ ht ?_)
  refine wpAny_bind (wpAny_typeOf hTs ?_)
  rw [if_pos (by decide)]
  refine wpAny_bind (sliceApplied_gen hs pl pu ?_)
  have hyes:(((sIx items.size 0 lo:Nat):Int) == 0 && (1:Int) == 1 && (sIx items.size items.size hi - sIx items.size 0 lo) == items.size)=true:=by
    rw [hw.1,hw.2];simp
  show wpAny _ _ (if (((sIx items.size 0 lo:Nat):Int) == 0 && (1:Int) == 1 && (sIx items.size items.size hi - sIx items.size 0 lo) == items.size)=true then _ else _) _ _ s
  rw [if_pos hyes]
  unfold Builtin.Tuple.tupleIsExact
  refine wpAny_bind (wpAny_bind (wpAny_typeOf ht.typeIs (wpAny_pure ?_)))
  rw [if_pos (by decide)]
  refine wpAny_bind (wpAny_rule ?_)
  exact wpAny_pure ⟨_,rfl,wpAny_pure h⟩
end
end HT
namespace L2
open PySem PySem.Spec PyProof.Rows
section
variable {X:Cx}{K:PySem.W.Frag}
noncomputable def rSlTA (K:PySem.W.Frag):V→Option Int→Option Int→Hp→VK→Prop:=fun x lo hi H Q=>∃ a xs,x=.ref a∧SqT K H a xs∧
  ((HT.sIx xs.length 0 lo=0∧HT.sIx xs.length xs.length hi=xs.length)→Q (.ref a) H)∧∀ p,H p=none→Q (.ref p) (upd H p (.tup (cutV xs lo hi)))
theorem sl_tupW:SlR X (fun x lo hi H Q=>∃ a xs,x=.ref a∧SqT X.K H a xs∧(HT.sIx xs.length 0 lo=0∧HT.sIx xs.length xs.length hi=xs.length)∧Q (.ref a) H):=by
  intro pins s σ H x v vl vu lo hi sl Q I rx hs pl pu h
  obtain ⟨a,xs,rfl,hx,hw,q⟩:=h
  cases rx
  obtain ⟨its,r,ht,hz⟩:=I.tuple hx
  have hlen:its.toArray.size=xs.length:=by rw [List.size_toArray];exact r.length.symm
  refine ⟨"tuple",_,PyProof.Rows.slot_tuple_getitem.lookup,ht.typeIs,?_⟩
  exact HT.getItem_tuple_whole ht hs pl pu (by rw [hlen];exact hw) ⟨.ref a,H,I,rfl,q⟩
theorem sl_tupA (hK:X.K=K:=by rfl):SlR X (rSlTA K):=by
  subst hK
  intro pins s σ H x v vl vu lo hi sl Q I rx hs pl pu h
  obtain ⟨a,xs,rfl,hx,h1,h2⟩:=h
  by_cases hw:HT.sIx xs.length 0 lo=0∧HT.sIx xs.length xs.length hi=xs.length
  · exact sl_tupW pins s σ H _ v vl vu lo hi sl Q I rx hs pl pu ⟨a,xs,rfl,hx,hw,h1 hw⟩
  · exact sl_tup pins s σ H _ v vl vu lo hi sl Q I rx hs pl pu ⟨a,xs,rfl,hx,hw,h2⟩
end
end L2
set_option Elab.async false
set_option linter.all false
set_option maxRecDepth 100000
namespace FL
open PySem PySem.Spec PyProof.Rows L2
noncomputable def cmpI (f:Int→Int→Bool):D→D→Option D
  | .int a,.int b=>some (.bl (f a b))
  | _,_=>none
noncomputable abbrev ltD:=cmpI fun i j=>decide (i < j)
noncomputable abbrev leD:=cmpI fun i j=>decide (i≤j)
noncomputable abbrev gtD:=cmpI fun i j=>decide (j < i)
noncomputable def intsOf:List D→Option (List Int)
  | []=>some []
  | .int i::l=>(intsOf l).map (i::·)
  | _::_=>none
theorem intsOf_some:∀ {l:List D}{ns:List Int},intsOf l=some ns→l=ns.map D.int
  | [],ns,h=>by simp [intsOf] at h;subst h;rfl
  | .int i::l,ns,h=>by
    simp only [intsOf] at h
    cases e:intsOf l with
    | none=>rw [e] at h;cases h
    | some ms=>rw [e] at h;cases h;rw [intsOf_some e];rfl
  | .non::_,_,h=>by simp [intsOf] at h
  | .bl _::_,_,h=>by simp [intsOf] at h
  | .str _::_,_,h=>by simp [intsOf] at h
  | .tup _::_,_,h=>by simp [intsOf] at h
  | .lst _::_,_,h=>by simp [intsOf] at h
  | .scr _::_,_,h=>by simp [intsOf] at h
  | .dic _ _::_,_,h=>by simp [intsOf] at h
  | .set _::_,_,h=>by simp [intsOf] at h
  | .exc _ _::_,_,h=>by simp [intsOf] at h
theorem intsOf_map:∀ (ns:List Int),intsOf (ns.map D.int)=some ns
  | []=>rfl
  | n::ns=>by rw [List.map_cons,intsOf,intsOf_map ns];rfl
noncomputable def geD:D→D→Option D
  | .int a,.int b=>some (.bl (decide (b≤a)))
  | .tup a,.tup b=>(intsOf a).bind fun ns=>(intsOf b).map fun ms=>.bl (!HT.lexLt ns ms)
  | _,_=>none
noncomputable def isNon:D→Bool
  | .non=>true
  | _=>false
noncomputable def isB (x y:D):Option D:=match y with
  | .non=>some (.bl (isNon x))
  | _=>none
noncomputable def isNotB (x y:D):Option D:=match y with
  | .non=>some (.bl (!isNon x))
  | _=>none
section
variable {K:PySem.W.Frag}{X:Cx}
theorem p_cmpI {f:Value→Value→Sem Value}{g:Int→Int→Bool} (o:OpR X f (rI0 fun i j=>.bl (g i j))):Op2 K X f .fz (cmpI g):=by
  refine ⟨_,o,fun x y d F H v u Q e s h1 h2 k=>?_⟩
  cases x<;>cases y<;>simp only [cmpI] at e<;>try (cases e;done)
  cases e
  exact ⟨_,_,h1.int_inv,h2.int_inv,k _ F H (Grow.refl s) (Res.bl _)⟩
theorem p_lt:Op2 K X (compareOp .Lt) .fz ltD:=p_cmpI op_lt
theorem p_le:Op2 K X (compareOp .LtE) .fz leD:=p_cmpI op_le
theorem p_gt:Op2 K X (compareOp .Gt) .fz gtD:=p_cmpI op_gt
theorem p_ge (hu:X.A.units + 100 < cLine) (hK:X.K=K:=by rfl):Op2 K X (compareOp .GtE) .fz geD:=by
  subst hK
  refine ⟨_,op_ge.or (op_geT (by omega)),fun x y d F H v u Q e s h1 h2 k=>?_⟩
  cases x<;>cases y<;>simp only [geD] at e<;>try (cases e;done)
  · cases e
    exact .inl ⟨_,_,h1.int_inv,h2.int_inv,k _ F H (Grow.refl s) (Res.bl _)⟩
  · rename_i l m
    cases e1:intsOf l with
    | none=>rw [e1] at e;cases e
    | some ns=>
      cases e2:intsOf m with
      | none=>rw [e1,e2] at e;cases e
      | some ms=>
        rw [e1,e2] at e;cases e
        rw [intsOf_some e1] at h1
        rw [intsOf_some e2] at h2
        obtain ⟨a,vs,rfl,f1,q1⟩:=h1.tup_inv
        obtain ⟨b,us,rfl,f2,q2⟩:=h2.tup_inv
        rw [q1.ints] at f1
        rw [q2.ints] at f2
        exact .inr ⟨a,b,ns,ms,rfl,rfl,SqT.of (s _ _ f1),SqT.of (s _ _ f2),k _ F H (Grow.refl s) (Res.bl _)⟩
theorem DatB.isNon {F H:Hp}{d:D} {v:V}(h:DatB K F H d v):decide (v=.non)=FL.isNon d:=by
  cases d with
  | non=>rw [h.non_inv];rfl
  | bl b=>rw [h.bl_inv];rfl
  | int b=>rw [h.int_inv];rfl
  | str b=>rw [h.str_inv];rfl
  | tup l=>obtain ⟨a,vs,rfl,_⟩:=h.tup_inv;rfl
  | lst l=>obtain ⟨a,vs,rfl,_⟩:=h.lst_inv;rfl
  | scr l=>obtain ⟨a,rfl,_⟩:=h.scr_inv;rfl
  | dic k l=>obtain ⟨a,vs,rfl,_⟩:=h.dic_inv;rfl
  | set l=>obtain ⟨a,rfl,_⟩:=h;rfl
  | exc c d=>exact h.exc_inv.elim
theorem p_is:Op2 K X (compareOp .Is) .fz isB:=by
  refine ⟨_,op_isN,fun x y d F H v u Q e s h1 h2 k=>?_⟩
  cases y<;>simp only [isB] at e<;>try (cases e;done)
  cases e
  refine ⟨h2.non_inv,?_⟩
  rw [h1.isNon]
  exact k _ F H (Grow.refl s) (Res.bl _)
theorem p_isNot:Op2 K X (compareOp .IsNot) .fz isNotB:=by
  refine ⟨_,op_notN,fun x y d F H v u Q e s h1 h2 k=>?_⟩
  cases y<;>simp only [isNotB] at e<;>try (cases e;done)
  cases e
  refine ⟨h2.non_inv,?_⟩
  rw [h1.isNon]
  exact k _ F H (Grow.refl s) (Res.bl _)
theorem DatL.atI {F:Hp}{l:List D} {vs:List V}(q:DatL K F l vs) {i:Int}{d:D} (h:L2.atI l i=some d):∃ v,L2.atI vs i=some v∧Dat K F d v:=by
  unfold L2.atI at h ⊢
  rw [q.length]
  cases e:ixN l.length i with
  | none=>rw [e] at h;cases h
  | some j=>
    rw [e] at h
    exact q.get h
noncomputable def idxD:D→D→Option D
  | .lst l,.int i=>L2.atI l i
  | .tup l,.int i=>L2.atI l i
  | .scr l,.int i=>(L2.atI l i).map D.int
  | .str z,.int i=>if z.length≤lim then (L2.atI z.cps.toList i).map fun c=>.str ⟨#[c]⟩ else none
  | _,_=>none
theorem p_ix (hK:X.K=K:=by rfl):Ix2 K X .fz idxD:=by
  subst hK
  refine ⟨_,ix_list.or (ix_tup.or ix_str),fun x y d F H v u Q e s h1 h2 k=>?_⟩
  cases x<;>cases y<;>simp only [idxD] at e<;>try (cases e;done)
  · obtain ⟨hz,e⟩:_∧_:=by
      split at e
      · rename_i hz;exact ⟨hz,e⟩
      · cases e
    rename_i z i _
    cases e1:L2.atI z.cps.toList i with
    | none=>rw [e1] at e;cases e
    | some c=>
      rw [e1] at e;cases e
      exact .inr (.inr ⟨z,i,c,h1.str_inv,h2.int_inv,lim_le hz,e1,k _ F H (Grow.refl s) (Res.str _)⟩)
  · obtain ⟨a,vs,rfl,f,q⟩:=h1.tup_inv
    obtain ⟨w,hw,dw⟩:=q.atI e
    exact .inr (.inl ⟨a,vs,_,w,rfl,h2.int_inv,SqT.of (s _ _ f),hw,k _ F H (Grow.refl s) dw⟩)
  · obtain ⟨a,vs,rfl,f,q⟩:=h1.lst_inv
    obtain ⟨w,hw,dw⟩:=q.atI e
    exact .inl ⟨a,vs,_,w,rfl,h2.int_inv,SqL.of f,hw,k _ F H (Grow.refl s) dw⟩
  · rename_i ns i
    obtain ⟨a,rfl,f⟩:=h1.scr_inv
    cases e1:L2.atI ns i with
    | none=>rw [e1] at e;cases e
    | some c=>
      rw [e1] at e;cases e
      refine .inl ⟨a,_,i,.int c,rfl,h2.int_inv,Same.seq s f,?_,k _ F H (Grow.refl s) (Res.int _)⟩
      unfold L2.atI at e1 ⊢
      rw [List.length_map]
      cases e2:ixN ns.length i with
      | none=>rw [e2] at e1;cases e1
      | some j=>
        rw [e2] at e1
        have e1':ns[j]?=some c:=e1
        show (ns.map V.int)[j]?=_
        rw [List.getElem?_map,e1'];rfl
end
noncomputable def cutG {α:Type}(xs:List α) (lo hi:Option Int):List α:=(xs.drop (HT.sIx xs.length 0 lo)).take (HT.sIx xs.length xs.length hi - HT.sIx xs.length 0 lo)
theorem DatL.cut {K:PySem.W.Frag}{F:Hp} {l:List D}{vs:List V} (q:DatL K F l vs) (lo hi:Option Int):DatL K F (cutG l lo hi) (cutV vs lo hi):=by
  unfold cutG cutV
  rw [q.length]
  exact (q.drop _).take _
noncomputable def sliceD (x:D) (lo hi:Option Int):Option D:=match x with
  | .tup l=>some (.tup (cutG l lo hi))
  | .lst l=>some (.lst (cutG l lo hi))
  | .scr l=>some (.lst ((cutG l lo hi).map D.int))
  | .str z=>if z.length≤lim then some (.str (Txt.slice z lo hi)) else none
  | _=>none
noncomputable def sliceL (x:D) (lo hi:Option Int):Option D:=match x with
  | .lst l=>some (.lst (cutG l lo hi))
  | .scr l=>some (.lst ((cutG l lo hi).map D.int))
  | _=>none
theorem cut_map {α β:Type}(f:α→β) (l:List α) (lo hi:Option Int):cutG (l.map f) lo hi=(cutG l lo hi).map f:=by
  unfold cutG
  rw [List.length_map,List.map_take,List.map_drop]
theorem cutV_map (l:List Int) (lo hi:Option Int):cutV (l.map V.int) lo hi=(cutG l lo hi).map V.int:=cut_map _ _ _ _
noncomputable def rdO (K:PySem.W.Frag) (ρ:En) (o:Option Int):TO:=fun σ H Q=>∃ F,Rel K F H ρ σ∧∀ F' H',Grow F H F' H'→Q o H'
structure FPO (K:PySem.W.Frag) (X:Cx) (e:Option Expr) (f:En→Option (Option Int)):Prop where
  h:∀ ρ o,f ρ=some o→PO X e (rdO K ρ o)
theorem PO.imp {X:Cx}{e:Option Expr} {t t':TO}(h:PO X e t) (w:∀ σ H Q,t' σ H Q→t σ H Q):PO X e t':=fun pins s σ H Q I ht=>h pins s σ H Q I (w σ H Q ht)
noncomputable def oNone:En→Option (Option Int):=fun _=>some none
noncomputable def oSome (f:En→Option D):En→Option (Option Int):=fun ρ=>match f ρ with
  | some (.int i)=>some (some i)
  | _=>none
noncomputable def cS (p:D→Option Int→Option Int→Option D) (fa:En→Option D) (fl fh:En→Option (Option Int)):En→Option D:=fun ρ=>(fa ρ).bind fun x=>(fl ρ).bind fun lo=>(fh ρ).bind fun hi=>p x lo hi
section
variable {K:PySem.W.Frag}{X:Cx} {a:Expr}{fa:En→Option D} {pos p2:Pos}{lo hi:Option Expr} {fl fh:En→Option (Option Int)}
theorem o_none:FPO K X none oNone:=FPO.mk fun ρ o hf=>PO.imp po_none fun σ H Q ⟨F,r,q⟩=>by
  cases hf;exact q F H (Grow.refl r.sub)
theorem o_some {e:Expr}{f:En→Option D} (h:FP K .fz X e f):FPO K X (some e) (oSome f):=FPO.mk fun ρ o hf=>by
  unfold oSome at hf
  split at hf
  · rename_i i e1
    cases hf
    exact PO.imp (po_some (h.h ρ _ e1)) fun σ H Q ⟨F,r,q⟩=>⟨F,r,fun v F' H' g hr=>⟨i,Dat.int_inv (K:=K) (F:=F') hr,q F' H' g⟩⟩
  · cases hf
noncomputable def Sl3 (K:PySem.W.Frag) (X:Cx) (md:Md) (p:D→Option Int→Option Int→Option D):Prop:=
  ∃ r,SlR X r∧∀ x lo hi d F H v Q,p x lo hi=some d→Same F H→DatB K F H x v→(∀ w F' H',Grow F H F' H'→Res K md H F' H' d w→Q w H')→r v lo hi H Q
theorem fslice {md:Md}{p:D→Option Int→Option Int→Option D} (o:Sl3 K X md p) (ha:FP K .br X a fa) (hl:FPO K X lo fl) (hh:FPO K X hi fh):FP K md X (.Subscript a (.Slice lo hi none p2) pos) (cS p fa fl fh):=FP.mk fun ρ d hf=>by
  unfold cS at hf
  cases e1:fa ρ with
  | none=>rw [e1] at hf;cases hf
  | some x=>
    cases e2:fl ρ with
    | none=>rw [e1,e2] at hf;cases hf
    | some l=>
      cases e3:fh ρ with
      | none=>rw [e1,e2,e3] at hf;cases hf
      | some h=>
        rw [e1,e2,e3] at hf
        obtain ⟨r,ho,hr⟩:=o
        refine PE.imp (pe_slice ho (ha.h ρ x e1) (hl.h ρ l e2) (hh.h ρ h e3)) fun σ H Q h_=>?_
        obtain ⟨F,rl,q⟩:=h_
        refine ⟨F,rl,fun v F1 H1 g1 r1=>⟨F1,rl.grow g1,fun F2 H2 g2=>⟨F2,(rl.grow g1).grow g2,fun F3 H3 g3=>?_⟩⟩⟩
        refine hr x l h d F3 H3 v Q hf g3.fh (DatB.mono (g2.trans g3).ff (g2.trans g3).hh r1) fun w F4 H4 g4 r4=>?_
        have g:=g1.trans (g2.trans (g3.trans g4))
        refine q w F4 H4 g ?_
        cases md with
        | fz=>exact r4
        | br=>exact r4
        | ow=>
          obtain ⟨a,e,h1,h2,h3⟩:=r4
          exact ⟨a,e,(g1.hh.trans (g2.hh.trans g3.hh)).free h1,h2,h3⟩
theorem p_slice (hK:X.K=K:=by rfl):Sl3 K X .fz sliceD:=by
  subst hK
  refine ⟨_,SlR.or (sl_tupA rfl) (SlR.or sl_list sl_str),fun x lo hi d F H v Q e s h1 k=>?_⟩
  cases x<;>simp only [sliceD] at e<;>try (cases e;done)
  · obtain ⟨hz,rfl⟩:=ite_some e
    exact .inr (.inr ⟨_,h1.str_inv,lim_le hz,fun y _ ey=>by subst ey;exact k _ F H (Grow.refl s) (Res.str _)⟩)
  · rename_i l
    cases e
    obtain ⟨a,vs,rfl,f,q⟩:=h1.tup_inv
    refine .inl ⟨a,vs,rfl,SqT.of (s _ _ f),fun hw=>?_,fun p hp=>?_⟩
    · refine k _ F H (Grow.refl s) ?_
      have e:cutG l lo hi=l:=by
        unfold cutG
        rw [q.length] at hw
        rw [hw.1,hw.2,List.drop_zero,Nat.sub_zero,List.take_length]
      rw [e];exact h1
    · have g:=Grow.frozen (o:=.tup (cutV vs lo hi)) s hp
      exact k _ _ _ g (Dat.tup (K:=X.K) upd_same ((q.mono g.ff).cut lo hi))
  · cases e
    obtain ⟨a,vs,rfl,f,q⟩:=h1.lst_inv
    refine .inr (.inl ⟨a,vs,rfl,SqL.of f,fun p hp=>?_⟩)
    have g:=Grow.frozen (o:=.lst (cutV vs lo hi)) s hp
    exact k _ _ _ g (Dat.lst (K:=X.K) upd_same ((q.mono g.ff).cut lo hi))
  · rename_i ns
    cases e
    obtain ⟨a,rfl,f⟩:=h1.scr_inv
    refine .inr (.inl ⟨a,_,rfl,Same.seq s f,fun p hp=>?_⟩)
    rw [cutV_map]
    have g:=Grow.frozen (o:=.lst ((cutG ns lo hi).map V.int)) s hp
    exact k _ _ _ g (Dat.lst (K:=X.K) upd_same (DatL.ofInts _))
noncomputable def revD:D→Option D
  | .lst l=>some (.lst l.reverse)
  | _=>none
noncomputable def revX (x y:D):Option D:=match y with
  | .int (-1)=>revD x
  | _=>none
theorem frev {st:Expr}{fs:En→Option D} (ha:FP K .br X a fa) (hs:FP K .fz X st fs) (hK:X.K=K:=by rfl):FP K .ow X (.Subscript a (.Slice none none (some st) p2) pos) (c2 revX fa fs):=FP.mk fun ρ d hf=>by
  subst hK
  obtain ⟨x,y,e1,e2,e3⟩:=c2_some hf
  unfold revX at e3
  split at e3
  · cases x<;>simp only [revD] at e3<;>try (cases e3;done)
    cases e3
    refine PE.imp (pe_rev (ha.h ρ _ e1) (hs.h ρ _ e2)) fun σ H Q h_=>?_
    obtain ⟨F,rl,q⟩:=h_
    refine ⟨F,rl,fun v F1 H1 g1 r1=>⟨F1,rl.grow g1,fun u F2 H2 g2 r2=>⟨Dat.int_inv (K:=X.K) (F:=F2) r2,?_⟩⟩⟩
    obtain ⟨a,vs,rfl,f,qq⟩:=DatB.lst_inv (DatB.mono g2.ff g2.hh r1)
    refine ⟨a,vs,rfl,SqL.of f,fun p hp=>?_⟩
    have g:=g1.trans (g2.trans (Grow.fresh (o:=.lst vs.reverse) g2.fh hp))
    exact q _ _ _ g ⟨p,rfl,(g1.hh.trans g2.hh).free hp,g2.fh.free hp,vs.reverse,upd_same,qq.reverse⟩
  · cases e3
end
noncomputable def DatBL (K:PySem.W.Frag) (F H:Hp):List D→List V→Prop
  | [],vs=>vs=[]
  | d::l,vs=>∃ v r,vs=v::r∧DatB K F H d v∧DatBL K F H l r
noncomputable def ResL (K:PySem.W.Frag) (fz:Bool) (F' H':Hp) (ds:List D) (vs:List V):Prop:=if fz=true then DatL K F' ds vs else DatBL K F' H' ds vs
noncomputable def rdA (K:PySem.W.Frag) (fz:Bool) (ρ:En) (ds:List D):TA:=fun σ H Q=>∃ F,Rel K F H ρ σ∧∀ vs F' H',Grow F H F' H'→ResL K fz F' H' ds vs→Q vs H'
structure FPs (K:PySem.W.Frag) (fz:Bool) (X:Cx) (es:List Expr) (f:En→Option (List D)):Prop where
  h:∀ ρ ds,f ρ=some ds→PA X es (rdA K fz ρ ds)
noncomputable def nilF:En→Option (List D):=fun _=>some []
noncomputable def consF (f:En→Option D) (fs:En→Option (List D)):En→Option (List D):=fun ρ=>(f ρ).bind fun d=>(fs ρ).map fun l=>d::l
noncomputable def cL (p:List D→Option D) (fs:En→Option (List D)):En→Option D:=fun ρ=>(fs ρ).bind p
noncomputable def mkTup (l:List D):Option D:=if l.length≤lim then some (.tup l) else none
noncomputable def mkLst (l:List D):Option D:=if l.length≤lim then some (.lst l) else none
section
variable {K:PySem.W.Frag}{X:Cx} {e:Expr}{es:List Expr} {f:En→Option D}{fs:En→Option (List D)} {pos:Pos}{fz:Bool}
theorem fnil:FPs K fz X [] nilF:=FPs.mk fun ρ ds hf=>PA.imp pa_nil fun σ H Q ⟨F,r,q⟩=>by
  cases hf
  refine q [] F H (Grow.refl r.sub) ?_
  unfold ResL
  split
  · exact DatL.nil
  · rfl
theorem consF_some {ρ:En}{ds:List D} (h:consF f fs ρ=some ds):∃ d l,f ρ=some d∧fs ρ=some l∧ds=d::l:=by
  unfold consF at h
  cases e1:f ρ with
  | none=>rw [e1] at h;cases h
  | some d=>
    cases e2:fs ρ with
    | none=>rw [e1,e2] at h;cases h
    | some l=>rw [e1,e2] at h;cases h;exact ⟨d,l,rfl,rfl,rfl⟩
theorem fcons (h1:FP K .fz X e f) (h2:FPs K true X es fs) (hs:starEach (e::es) X.env=(false,eval e X.env)::starEach es X.env:=by rfl):FPs K true X (e::es) (consF f fs):=FPs.mk fun ρ ds hf=>by
  obtain ⟨d,l,e1,e2,rfl⟩:=consF_some hf
  refine PA.imp (pa_cons (h1.h ρ d e1) (h2.h ρ l e2) hs) fun σ H Q h_=>?_
  obtain ⟨F,r,q⟩:=h_
  refine ⟨F,r,fun v F1 H1 g1 r1=>⟨F1,r.grow g1,fun vs F2 H2 g2 r2=>?_⟩⟩
  exact q (v::vs) F2 H2 (g1.trans g2) (DatL.cons (Dat.mono g2.ff r1) r2)
theorem fconb (h1:FP K .br X e f) (h2:FPs K false X es fs) (hs:starEach (e::es) X.env=(false,eval e X.env)::starEach es X.env:=by rfl):FPs K false X (e::es) (consF f fs):=FPs.mk fun ρ ds hf=>by
  obtain ⟨d,l,e1,e2,rfl⟩:=consF_some hf
  refine PA.imp (pa_cons (h1.h ρ d e1) (h2.h ρ l e2) hs) fun σ H Q h_=>?_
  obtain ⟨F,r,q⟩:=h_
  refine ⟨F,r,fun v F1 H1 g1 r1=>⟨F1,r.grow g1,fun vs F2 H2 g2 r2=>?_⟩⟩
  exact q (v::vs) F2 H2 (g1.trans g2) ⟨v,vs,rfl,DatB.mono g2.ff g2.hh r1,r2⟩
theorem cL_some {p:List D→Option D}{ρ:En} {d:D}(h:cL p fs ρ=some d):∃ l,fs ρ=some l∧p l=some d:=by
  unfold cL at h
  cases e1:fs ρ with
  | none=>rw [e1] at h;cases h
  | some l=>rw [e1] at h;exact ⟨l,rfl,h⟩
theorem ftup {x1} (h:FPs K true X es fs):FP K .fz X (.Tuple es x1 pos) (cL mkTup fs):=FP.mk fun ρ d hf=>by
  obtain ⟨l,e1,e2⟩:=cL_some hf
  obtain ⟨hz,rfl⟩:=ite_some e2
  refine PE.imp (pe_tup (h.h ρ l e1)) fun σ H Q ⟨F,r,q⟩=>⟨F,r,fun vs F1 H1 g1 r1=>⟨?_,fun p hp=>?_⟩⟩
  · rw [DatL.length (K:=K) (F:=F1) r1];exact lim_le hz
  · have g:=Grow.frozen (o:=.tup vs) g1.fh hp
    exact q _ _ _ (g1.trans g) (Dat.tup (K:=K) upd_same (DatL.mono g.ff r1))
theorem flst (h:FPs K true X es fs):FP K .ow X (.List es pos) (cL mkLst fs):=FP.mk fun ρ d hf=>by
  obtain ⟨l,e1,e2⟩:=cL_some hf
  obtain ⟨hz,rfl⟩:=ite_some e2
  refine PE.imp (pe_lst (h.h ρ l e1)) fun σ H Q ⟨F,r,q⟩=>⟨F,r,fun vs F1 H1 g1 r1=>⟨?_,fun p hp=>?_⟩⟩
  · rw [DatL.length (K:=K) (F:=F1) r1];exact lim_le hz
  · exact q _ _ _ (g1.trans (Grow.fresh g1.fh hp)) ⟨p,rfl,g1.hh.free hp,g1.fh.free hp,vs,upd_same,r1⟩
end
end FL
set_option Elab.async false
set_option linter.all false
set_option maxRecDepth 100000
namespace FL
open PySem PySem.Spec PyProof.Rows L2
noncomputable def Call1 (K:PySem.W.Frag) (X:Cx) (f:Value) (md:Md) (p:List D→Option D):Prop:=
  ∃ r,CallR X f r∧∀ ds d F H vs Q,p ds=some d→Same F H→DatBL K F H ds vs→(∀ w F' H',Grow F H F' H'→Res K md H F' H' d w→Q w H')→r vs H Q
section
variable {K:PySem.W.Frag}{X:Cx} {e:Expr}{es:List Expr} {f:En→Option D}{fs:En→Option (List D)} {pos p:Pos}{md:Md} {pf:List D→Option D}{x:Str} {id T:String}
theorem row_call {r:List V→Hp→VK→Prop}{ρ:En} {l:List D}{d:D} (hr:∀ F H vs Q,Same F H→DatBL K F H l vs→(∀ w F' H',Grow F H F' H'→Res K md H F' H' d w→Q w H')→r vs H Q)
    (σ:St) (H:Hp) (Q:VK) (h:rdE K md ρ d σ H Q):tCB r (rdA K false ρ l) σ H Q:=by
  obtain ⟨F,rl,q⟩:=h
  refine ⟨F,rl,fun vs F1 H1 g1 r1=>hr F1 H1 vs Q g1.fh r1 fun w F2 H2 g2 r2=>?_⟩
  refine q w F2 H2 (g1.trans g2) ?_
  cases md with
  | fz=>exact r2
  | br=>exact r2
  | ow=>
    obtain ⟨a,e,h1,h2,h3⟩:=r2
    exact ⟨a,e,g1.hh.free h1,h2,h3⟩
theorem fcallB (o:Call1 K X (.builtin id) md pf) (hg:Gl X x) (hm:X.mg x=none) (hv:bootBuiltins x=some (.builtin id)) (ha:FPs K false X (e::es) fs) (hn:x ≠ "__name__" := by decide) (hdb:(x == ("__debug__" : Str))=false:=by decide)
    (he:starEach (e::es) X.env=(false,eval e X.env)::starEach es X.env:=by rfl) (hpl:(backTo pos (starEach es X.env)).any (·.1)=false:=by rfl):FP K md X (.Call (.Name x p) (e::es) [] pos) (cL pf fs):=FP.mk fun ρ d hf=>by
  obtain ⟨l,e1,e2⟩:=cL_some hf
  obtain ⟨r,ho,hr⟩:=o
  exact PE.imp (pe_callB ho hg hm hv (ha.h ρ l e1) hn hdb he hpl) (row_call fun F H vs Q s h k=>hr l d F H vs Q e2 s h k)
theorem fcallT (o:Call1 K X (.type T) md pf) (hg:Gl X x) (hm:X.mg x=none) (hv:bootBuiltins x=some (.type T)) (ha:FPs K false X (e::es) fs) (hn:x ≠ "__name__" := by decide) (hdb:(x == ("__debug__" : Str))=false:=by decide)
    (he:starEach (e::es) X.env=(false,eval e X.env)::starEach es X.env:=by rfl) (hpl:(backTo pos (starEach es X.env)).any (·.1)=false:=by rfl):FP K md X (.Call (.Name x p) (e::es) [] pos) (cL pf fs):=FP.mk fun ρ d hf=>by
  obtain ⟨l,e1,e2⟩:=cL_some hf
  obtain ⟨r,ho,hr⟩:=o
  exact PE.imp (pe_callTy ho hg hm hv (ha.h ρ l e1) hn hdb he hpl) (row_call fun F H vs Q s h k=>hr l d F H vs Q e2 s h k)
theorem DatBL.one {F H:Hp}{d:D} {vs:List V}(h:DatBL K F H [d] vs):∃ v,vs=[v]∧DatB K F H d v:=by
  obtain ⟨v,r,rfl,h1,rfl⟩:=h;exact ⟨v,rfl,h1⟩
noncomputable def lenD:List D→Option D
  | [.lst l]=>some (.int l.length)
  | [.tup l]=>some (.int l.length)
  | [.scr l]=>some (.int l.length)
  | [.str z]=>if z.length≤lim then some (.int z.length) else none
  | _=>none
theorem c_len (hK:X.K=K:=by rfl):Call1 K X (.builtin "len") .fz lenD:=by
  subst hK
  refine ⟨_,CallR.or call_len_seq call_len_str,fun ds d F H vs Q e s h k=>?_⟩
  unfold lenD at e
  split at e
  · obtain ⟨v,rfl,h1⟩:=h.one
    cases e
    obtain ⟨a,vs,rfl,f,q⟩:=h1.lst_inv
    refine .inl ⟨a,vs,rfl,.inl (SqL.of f),?_⟩
    rw [q.length];exact k _ F H (Grow.refl s) (Res.int _)
  · obtain ⟨v,rfl,h1⟩:=h.one
    cases e
    obtain ⟨a,vs,rfl,f,q⟩:=h1.tup_inv
    refine .inl ⟨a,vs,rfl,.inr (SqT.of (s _ _ f)),?_⟩
    rw [q.length];exact k _ F H (Grow.refl s) (Res.int _)
  · obtain ⟨v,rfl,h1⟩:=h.one
    cases e
    obtain ⟨a,rfl,f⟩:=h1.scr_inv
    refine .inl ⟨a,_,rfl,.inl (Same.seq s f),?_⟩
    rw [List.length_map];exact k _ F H (Grow.refl s) (Res.int _)
  · obtain ⟨v,rfl,h1⟩:=h.one
    obtain ⟨hz,rfl⟩:=ite_some e
    rw [h1.str_inv]
    exact .inr ⟨_,rfl,lim_le hz,k _ F H (Grow.refl s) (Res.int _)⟩
  · cases e
noncomputable def tupleD:List D→Option D
  | [.lst l]=>some (.tup l)
  | [.tup l]=>some (.tup l)
  | _=>none
theorem c_tuple (hK:X.K=K:=by rfl):Call1 K X (.type "tuple") .fz tupleD:=by
  subst hK
  refine ⟨_,call_tuple_of,fun ds d F H vs Q e s h k=>?_⟩
  unfold tupleD at e
  split at e
  · obtain ⟨v,rfl,h1⟩:=h.one
    cases e
    obtain ⟨a,vs,rfl,f,q⟩:=h1.lst_inv
    refine ⟨a,vs,rfl,.inl ⟨SqL.of f,fun p hp=>?_⟩⟩
    have g:=Grow.frozen (o:=.tup vs) s hp
    exact k _ _ _ g (Dat.tup (K:=X.K) upd_same (q.mono g.ff))
  · obtain ⟨v,rfl,h1⟩:=h.one
    cases e
    obtain ⟨a,vs,rfl,f,q⟩:=id h1.tup_inv
    exact ⟨a,vs,rfl,.inr ⟨SqT.of (s _ _ f),k _ F H (Grow.refl s) h1⟩⟩
  · cases e
noncomputable def listD:List D→Option D
  | [.lst l]=>some (.lst l)
  | [.tup l]=>some (.lst l)
  | _=>none
noncomputable def okSum (ns:List Int):Prop:=(∀ n∈ns,0≤n)∧ns.sum < 2 ^ 62
open Classical in
noncomputable def sumD:List D→Option D
  | [.lst l]=>(intsOf l).bind fun ns=>if okSum ns then some (.int ns.sum) else none
  | _=>none
theorem c_sum (hc:X.calm=true) (hK:X.K=K:=by rfl):Call1 K X (.builtin "sum") .fz sumD:=by
  subst hK
  refine ⟨_,call_sumI hc,fun ds d F H vs Q e s h k=>?_⟩
  unfold sumD at e
  split at e
  · rename_i l
    cases e1:intsOf l with
    | none=>rw [e1] at e;cases e
    | some ns=>
      rw [e1] at e
      obtain ⟨hz,rfl⟩:=ite_some e
      obtain ⟨v,rfl,h1⟩:=h.one
      rw [intsOf_some e1] at h1
      obtain ⟨a,vs,rfl,f,q⟩:=h1.lst_inv
      rw [q.ints] at f
      exact ⟨a,ns,rfl,SqL.of f,sumFits_of hz.1 hz.2,k _ F H (Grow.refl s) (Res.int _)⟩
  · cases e
noncomputable def absD:List D→Option D
  | [.int i]=>some (.int (if i < 0 then -i else i))
  | _=>none
theorem c_abs:Call1 K X (.builtin "abs") .fz absD:=by
  refine ⟨_,call_abs,fun ds d F H vs Q e s h k=>?_⟩
  unfold absD at e
  split at e
  · obtain ⟨v,rfl,h1⟩:=h.one
    cases e
    rw [h1.int_inv]
    exact ⟨_,rfl,k _ F H (Grow.refl s) (Res.int _)⟩
  · cases e
noncomputable def intD:List D→Option D
  | [.int i]=>some (.int i)
  | [.bl k]=>some (.int (if k then 1 else 0))
  | _=>none
theorem c_int:Call1 K X (.type "int") .fz intD:=by
  refine ⟨_,call_int1,fun ds d F H vs Q e s h k=>?_⟩
  unfold intD at e
  split at e
  · obtain ⟨v,rfl,h1⟩:=h.one
    cases e
    rw [h1.int_inv]
    exact .inl ⟨_,rfl,k _ F H (Grow.refl s) (Res.int _)⟩
  · obtain ⟨v,rfl,h1⟩:=h.one
    cases e
    rw [h1.bl_inv]
    exact .inr ⟨_,rfl,k _ F H (Grow.refl s) (Res.int _)⟩
  · cases e
noncomputable def maxDD (x y:D):Option D:=match x,y with
  | .lst l,.int d=>(intsOf l).map fun ns=>.int (maxD ns d)
  | _,_=>none
theorem fmaxD {a b:Expr}{fa fb:En→Option D} {kp:Pos}(hc:X.calm=true) (hg:Gl X "max") (hm:X.mg "max" = none) (ha:FP K .br X a fa) (hb:FP K .fz X b fb)
    (hs:starEach [a] X.env=[(false,eval a X.env)]:=by rfl) (hK:X.K=K:=by rfl)
    (H1:∀ {ta tb:TE},X.calm=true→Gl X "max" → X.mg "max" = none→PE X a ta→PE X b tb→PE X (.Call (.Name "max" p) [a] [⟨some "default",b,kp⟩] pos) (tCBK (fun xs zs H Q=>∃ (p:Addr) (ns:List Int) (d:Int),xs=[.ref p]∧zs=[.int d]∧SqL X.K H p (ns.map V.int)∧Q (.int (maxD ns d)) H) (tCons ta tNil) (tCons tb tNil)):=by
      exact fun hc hg hm ha hb=>pe_callBK (call_maxD hc) hg hm PyProof.Rows.boot_max (pa_cons ha pa_nil) (pk_cons hb pk_nil)) :
    FP K .fz X (.Call (.Name "max" p) [a] [⟨some "default",b,kp⟩] pos) (c2 maxDD fa fb):=FP.mk fun ρ d hf=>by
  subst hK
  obtain ⟨x,y,e1,e2,e3⟩:=c2_some hf
  refine PE.imp (H1 hc hg hm (ha.h ρ x e1) (hb.h ρ y e2)) fun σ H Q h_=>?_
  obtain ⟨F,rl,q⟩:=h_
  unfold maxDD at e3
  split at e3
  · rename_i l dd
    cases e4:intsOf l with
    | none=>rw [e4] at e3;cases e3
    | some ns=>
      rw [e4] at e3;cases e3
      rw [intsOf_some e4]
      refine ⟨F,rl,fun v F1 H1 g1 r1=>⟨F1,rl.grow g1,fun u F2 H2 g2 r2=>?_⟩⟩
      obtain ⟨a,vs,rfl,f,qq⟩:=DatB.lst_inv (DatB.mono g2.ff g2.hh r1)
      rw [qq.ints] at f
      have ru:=Dat.int_inv (K:=X.K) (F:=F2) r2
      subst ru
      exact ⟨a,ns,dd,rfl,rfl,SqL.of f,q _ F2 H2 (g1.trans g2) (Res.int _)⟩
  · cases e3
noncomputable def tyN:D→Option String
  | .non=>some "NoneType"
  | .bl _=>some "bool"
  | .int _=>some "int"
  | .str _=>some "str"
  | .tup _=>some "tuple"
  | .lst _=>some "list"
  | .dic _ _=>some "dict"
  | _=>none
noncomputable def isiB (k T:String):Bool:=k == T || (k == "bool" && T == "int")
theorem kit_all (K:PySem.W.Frag):(["NoneType", "bool", "int", "str", "tuple", "list", "dict"].all fun k=>["bool", "int", "str", "tuple", "list", "dict"].all fun T=>PySem.W.kitOne K (.type k) (.type T) == some (isiB k T))=true:=by kernel_rfl
theorem kit_of (K:PySem.W.Frag) {k T:String}(hk:k∈["NoneType", "bool", "int", "str", "tuple", "list", "dict"]) (hT:T∈["bool", "int", "str", "tuple", "list", "dict"]):PySem.W.kitOne K (.type k) (.type T)=some (isiB k T):=by
  have h:=List.all_eq_true.mp (kit_all K) k hk
  exact eq_of_beq (List.all_eq_true.mp h T hT)
noncomputable def isiD (T:String) (x:D):Option D:=(tyN x).map fun k=>.bl (isiB k T)
theorem tyN_mem {d:D}{k:String} (h:tyN d=some k):k∈["NoneType", "bool", "int", "str", "tuple", "list", "dict"]:=by
  cases d<;>simp only [tyN] at h<;>cases h<;>decide
theorem tyN_of {F H:Hp}{d:D} {v:V}{k:String} (s:Same F H) (h:DatB K F H d v) (e:tyN d=some k):TyOf K H v (.type k):=by
  cases d<;>simp only [tyN] at e<;>cases e
  · rw [h.non_inv];exact .non
  · rw [h.bl_inv];exact .bl _
  · rw [h.int_inv];exact .int _
  · rw [h.str_inv];exact .str _
  · obtain ⟨a,vs,rfl,f,_⟩:=h.tup_inv;exact .tup (s _ _ f)
  · obtain ⟨a,vs,rfl,f,_⟩:=h.lst_inv;exact .lst f
  · obtain ⟨a,vs,rfl,f,_⟩:=h.dic_inv
    rcases f with (⟨kvs,f,_⟩ | ⟨kvs,f,_⟩) | ⟨o,⟨kvs,f,_⟩ | ⟨kvs,f,_⟩⟩
    · exact .dK (.inl f)
    · exact .dT (.inl f)
    · exact .dK (.inr ⟨o,f⟩)
    · exact .dT (.inr ⟨o,f⟩)
theorem fisi {a:Expr}{fa:En→Option D} {T:String}{y:Str} {p2:Pos}(ha:FP K .br X a fa) (hg:Gl X "isinstance") (hm:X.mg "isinstance" = none) (hgT:Gl X y) (hmT:X.mg y=none) (hv:bootBuiltins y=some (.type T)) (hT:T∈["bool", "int", "str", "tuple", "list", "dict"]:=by decide)
    (hn:y ≠ "__name__" := by decide) (hd:(y == ("__debug__" : Str))=false:=by decide) (he:starEach [a,.Name y p2] X.env=(false,eval a X.env)::starEach [.Name y p2] X.env:=by rfl) (he2:starEach [.Name y p2] X.env=[(false,eval (.Name y p2) X.env)]:=by rfl)
    (hpl:(backTo pos (starEach [.Name y p2] X.env)).any (·.1)=false:=by rfl) (hK:X.K=K:=by rfl) :
    FP K .fz X (.Call (.Name "isinstance" p) [a,.Name y p2] [] pos) (c1 (isiD T) fa):=FP.mk fun ρ d hf=>by
  subst hK
  obtain ⟨x,e1,e2⟩:=c1_some hf
  unfold isiD at e2
  cases e3:tyN x with
  | none=>rw [e3] at e2;cases e2
  | some k=>
    rw [e3] at e2;cases e2
    refine PE.imp (pe_callB call_isi hg hm boot_isinstance (pa_cons (ha.h ρ x e1) (pa_cons (pe_bltn (v:=.ty T) hgT hmT hv rfl hn hd) pa_nil he2) he) (by decide) (by decide) he hpl) fun σ H Q h_=>?_
    obtain ⟨F,rl,q⟩:=h_
    refine ⟨F,rl,fun v F1 H1 g1 r1=>⟨v,T,_,_,rfl,tyN_of g1.fh r1 e3,kit_of X.K (tyN_mem e3) hT,q _ F1 H1 g1 (Res.bl _)⟩⟩
end
end FL
set_option Elab.async false
set_option linter.all false
set_option maxRecDepth 100000
namespace FL
open PySem PySem.Spec PyProof.Rows L2
noncomputable def rdTp (K:PySem.W.Frag) (ρ:En) (b:Bool):TT:=fun σ H Q=>∃ F,Rel K F H ρ σ∧∀ F' H',Grow F H F' H'→Q b H'
structure FTp (K:PySem.W.Frag) (X:Cx) (e:Expr) (f:En→Option Bool):Prop where
  h:∀ ρ b,f ρ=some b→PT X e (rdTp K ρ b)
structure FWp (K:PySem.W.Frag) (X:Cx) (e:Expr) (f:En→Option Bool):Prop where
  h:∀ ρ b,f ρ=some b→PW X e (rdTp K ρ b)
noncomputable def rdT (K:PySem.W.Frag) (ρ:En) (b:Bool) (ρ':En):TT:=fun σ H Q=>∃ F,Rel K F H ρ σ∧∀ F' H',Rel K F' H' ρ' σ→Step ρ σ F H ρ' σ F' H'→Q b H'
structure FT (K:PySem.W.Frag) (X:Cx) (e:Expr) (m:En→Option (Bool×En)):Prop where
  h:∀ ρ b ρ',m ρ=some (b,ρ')→PT X e (rdT K ρ b ρ')
noncomputable def cT (f:En→Option D):En→Option Bool:=fun ρ=>match f ρ with
  | some (.bl b)=>some b
  | _=>none
noncomputable def andP (f g:En→Option Bool):En→Option Bool:=fun ρ=>(f ρ).bind fun b=>if b=true then g ρ else some false
noncomputable def orP (f g:En→Option Bool):En→Option Bool:=fun ρ=>(f ρ).bind fun b=>if b=true then some true else g ρ
noncomputable def notP (f:En→Option Bool):En→Option Bool:=fun ρ=>(f ρ).map fun b=>!b
noncomputable def upT (f:En→Option Bool):En→Option (Bool×En):=fun ρ=>(f ρ).map fun b=>(b,ρ)
noncomputable def notM (f:En→Option (Bool×En)):En→Option (Bool×En):=fun ρ=>(f ρ).map fun p=>(!p.1,p.2)
theorem cT_some {f:En→Option D}{ρ:En} {b:Bool}(h:cT f ρ=some b):f ρ=some (.bl b):=by
  unfold cT at h
  split at h
  · rename_i e;cases h;exact e
  · cases h
theorem andP_some {f g:En→Option Bool}{ρ:En} {b:Bool}(h:andP f g ρ=some b):(f ρ=some true∧g ρ=some b)∨(f ρ=some false∧b=false):=by
  unfold andP at h
  cases e:f ρ with
  | none=>rw [e] at h;cases h
  | some c=>
    rw [e] at h
    cases c with
    | true=>exact .inl ⟨rfl,h⟩
    | false=>exact .inr ⟨rfl,(Option.some.inj h).symm⟩
theorem orP_some {f g:En→Option Bool}{ρ:En} {b:Bool}(h:orP f g ρ=some b):(f ρ=some false∧g ρ=some b)∨(f ρ=some true∧b=true):=by
  unfold orP at h
  cases e:f ρ with
  | none=>rw [e] at h;cases h
  | some c=>
    rw [e] at h
    cases c with
    | false=>exact .inl ⟨rfl,h⟩
    | true=>exact .inr ⟨rfl,(Option.some.inj h).symm⟩
theorem never_pw {X:Cx}{e:Expr}:PW X e (fun _ _ _=>False):=fun _ _ _ _ _ _ _ h=>h.elim
theorem never_pe {X:Cx}{e:Expr}:PE X e (fun _ _ _=>False):=fun _ _ _ _ _ _ h=>h.elim
section
variable {K:PySem.W.Frag}{X:Cx} {a b e:Expr}{rest:List Expr} {fa fb f:En→Option D}{pos:Pos} {p:D→D→Option D}{t u:En→Option Bool} {m n:En→Option (Bool×En)}
theorem tcmp {op:CmpOp}(o:Op2 K X (compareOp op) .fz p) (ha:FP K .br X a fa) (hb:FP K .br X b fb) (hm:behindInMarks op b=false):FTp K X (.Compare a [op] [b] pos) (cT (c2 p fa fb)):=FTp.mk fun ρ c hf=>by
  obtain ⟨x,y,e1,e2,e3⟩:=c2_some (cT_some hf)
  obtain ⟨r,ho,hr⟩:=o
  refine PT.imp (pt_cmpR ho (ha.h ρ x e1) (hb.h ρ y e2) hm) fun σ H Q h_=>?_
  obtain ⟨F,rl,q⟩:=h_
  refine two (md:=.fz) (d:=.bl c) (ta:=fun _ _ _=>True) (tb:=fun _ _ _=>True) (ha.h ρ x e1) (hb.h ρ y e2) (fun F H v u Q s h1 h2 k=>hr x y _ F H v u Q e3 s h1 h2 k) σ H _ ⟨F,rl,fun v F' H' g h=>⟨c,Dat.bl_inv (K:=K) (F:=F') h,q F' H' g⟩⟩
theorem tcmpf {op:CmpOp}(o:Op2f K X (compareOp op) p) (ha:FP K .fz X a fa) (hb:FP K .br X b fb) (hm:behindInMarks op b=false):FTp K X (.Compare a [op] [b] pos) (cT (c2 p fa fb)):=FTp.mk fun ρ c hf=>by
  obtain ⟨x,y,e1,e2,e3⟩:=c2_some (cT_some hf)
  obtain ⟨r,ho,hr⟩:=o
  refine PT.imp (pt_cmpR ho (ha.h ρ x e1) (hb.h ρ y e2) hm) fun σ H Q h_=>?_
  obtain ⟨F,rl,q⟩:=h_
  exact two_f (d:=.bl c) (ha.h ρ x e1) (hb.h ρ y e2) (fun F H v u Q s h1 h2 k=>hr x y _ F H v u Q e3 s h1 h2 k) σ H _ ⟨F,rl,fun v F' H' g h=>⟨c,Dat.bl_inv (K:=K) (F:=F') h,q F' H' g⟩⟩
theorem tval (h:FP K .fz X e f) (he:∀ whole,isTrue e X.env whole=(do let v ← whole;standAt e.pos;holding [v] (truthy v)):=by intro _;rfl):FTp K X e (cT f):=FTp.mk fun ρ c hf=>
  PT.imp (pt_val (h.h ρ _ (cT_some hf)) he) fun σ H Q ⟨F,rl,q⟩=>⟨F,rl,fun v F' H' g h=>⟨c,Dat.bl_inv (K:=K) (F:=F') h,q F' H' g⟩⟩
noncomputable def truD:D→Option Bool
  | .non=>some false
  | .bl b=>some b
  | .int i=>some (i != 0)
  | .str z=>if z.length≤lim then some ((z.length:Int) != 0) else none
  | .lst l=>some (!l.isEmpty)
  | .tup l=>some (!l.isEmpty)
  | _=>none
noncomputable def cTr (f:En→Option D):En→Option Bool:=fun ρ=>(f ρ).bind truD
theorem DatL.empty {F:Hp}{l:List D} {vs:List V}(q:DatL K F l vs):vs.isEmpty=l.isEmpty:=by
  have:=q.length
  cases l<;>cases vs<;>simp at this ⊢
theorem ttru (h:FP K .br X e f) (he:∀ whole,isTrue e X.env whole=(do let v ← whole;standAt e.pos;holding [v] (truthy v)):=by intro _;rfl) (hK:X.K=K:=by rfl):FTp K X e (cTr f):=FTp.mk fun ρ c hf=>by
  subst hK
  unfold cTr at hf
  cases e1:f ρ with
  | none=>rw [e1] at hf;cases hf
  | some d=>
    rw [e1] at hf
    have hf:truD d=some c:=hf
    refine PT.imp (pt_truth (h.h ρ d e1) he) fun σ H Q ⟨F,rl,q⟩=>⟨F,rl,fun v F' H' g h=>⟨c,?_,q F' H' g⟩⟩
    have h:DatB X.K F' H' d v:=h
    cases d<;>simp only [truD] at hf<;>try (cases hf;done)
    · cases hf;rw [h.non_inv];rfl
    · cases hf;rw [h.bl_inv];rfl
    · cases hf;rw [h.int_inv];rfl
    · obtain ⟨hz,rfl⟩:=ite_some hf
      rw [h.str_inv];exact ⟨lim_le hz,rfl⟩
    · cases hf
      obtain ⟨a,vs,rfl,f,q⟩:=h.tup_inv
      exact .inr (.inl ⟨vs,SqT.of (g.fh _ _ f),by rw [q.empty]⟩)
    · cases hf
      obtain ⟨a,vs,rfl,f,q⟩:=h.lst_inv
      exact .inl ⟨vs,SqL.of f,by rw [q.empty]⟩
theorem tand1 (h:FTp K X a t):FWp K X (.BoolOp .And [a] pos) t:=FWp.mk fun ρ c hf=>pw_and1 (h.h ρ c hf)
theorem tor1 (h:FTp K X a t):FWp K X (.BoolOp .Or [a] pos) t:=FWp.mk fun ρ c hf=>pw_or1 (h.h ρ c hf)
theorem tand (h1:FTp K X a t) (h2:FWp K X (.BoolOp .And (b::rest) pos) u):FWp K X (.BoolOp .And (a::b::rest) pos) (andP t u):=FWp.mk fun ρ c hf=>by
  rcases andP_some hf with ⟨e1,e2⟩ | ⟨e1,rfl⟩
  · exact PW.imp (pw_and (h1.h ρ _ e1) (h2.h ρ c e2)) fun σ H Q ⟨F,rl,q⟩=>⟨F,rl,fun F1 H1 g1=>iteT ⟨F1,rl.grow g1,fun F2 H2 g2=>q F2 H2 (g1.trans g2)⟩⟩
  · exact PW.imp (pw_and (h1.h ρ _ e1) never_pw) fun σ H Q ⟨F,rl,q⟩=>⟨F,rl,fun F1 H1 g1=>iteF (q F1 H1 g1)⟩
theorem tor (h1:FTp K X a t) (h2:FWp K X (.BoolOp .Or (b::rest) pos) u):FWp K X (.BoolOp .Or (a::b::rest) pos) (orP t u):=FWp.mk fun ρ c hf=>by
  rcases orP_some hf with ⟨e1,e2⟩ | ⟨e1,rfl⟩
  · exact PW.imp (pw_or (h1.h ρ _ e1) (h2.h ρ c e2)) fun σ H Q ⟨F,rl,q⟩=>⟨F,rl,fun F1 H1 g1=>iteF ⟨F1,rl.grow g1,fun F2 H2 g2=>q F2 H2 (g1.trans g2)⟩⟩
  · exact PW.imp (pw_or (h1.h ρ _ e1) never_pw) fun σ H Q ⟨F,rl,q⟩=>⟨F,rl,fun F1 H1 g1=>iteT (q F1 H1 g1)⟩
theorem FWp.pt (h:FWp K X e t):FTp K X e t:=FTp.mk fun ρ c hf=>(h.h ρ c hf).pt
theorem tnot (h:FTp K X a t):FTp K X (.UnaryOp .Not a pos) (notP t):=FTp.mk fun ρ c hf=>by
  unfold notP at hf
  cases e1:t ρ with
  | none=>rw [e1] at hf;cases hf
  | some d=>
    rw [e1] at hf
    cases hf
    exact PT.imp (pt_not (h.h ρ d e1)) fun σ H Q ⟨F,rl,q⟩=>⟨F,rl,fun F1 H1 g1=>q F1 H1 g1⟩
theorem FTp.up (h:FTp K X e t):FT K X e (upT t):=FT.mk fun ρ c ρ' hf=>by
  unfold upT at hf
  cases e1:t ρ with
  | none=>rw [e1] at hf;cases hf
  | some d=>
    rw [e1] at hf
    cases hf
    exact PT.imp (h.h ρ c e1) fun σ H Q ⟨F,rl,q⟩=>⟨F,rl,fun F1 H1 g1=>q F1 H1 (rl.grow g1) g1.step⟩
theorem mnot (h:FT K X a m):FT K X (.UnaryOp .Not a pos) (notM m):=FT.mk fun ρ c ρ' hf=>by
  unfold notM at hf
  cases e1:m ρ with
  | none=>rw [e1] at hf;cases hf
  | some q1=>
    rw [e1] at hf
    cases hf
    exact PT.imp (pt_not (h.h ρ _ _ e1)) fun σ H Q ⟨F,rl,q⟩=>⟨F,rl,fun F1 H1 r1 s1=>q F1 H1 r1 s1⟩
noncomputable def andV (f g:En→Option D):En→Option D:=fun ρ=>match f ρ with
  | some (.bl true)=>g ρ
  | some (.bl false)=>some (.bl false)
  | _=>none
noncomputable def orV (f g:En→Option D):En→Option D:=fun ρ=>match f ρ with
  | some (.bl true)=>some (.bl true)
  | some (.bl false)=>g ρ
  | _=>none
noncomputable def notV (f:En→Option D):En→Option D:=fun ρ=>match f ρ with
  | some (.bl b)=>some (.bl (!b))
  | _=>none
theorem vone {op} (h:FP K .fz X a f):FP K .fz X (.BoolOp op [a] pos) f:=FP.mk fun ρ d hf=>pe_one (h.h ρ d hf)
theorem vand (h1:FP K .fz X a fa) (h2:FP K .fz X (.BoolOp .And (b::rest) pos) fb):FP K .fz X (.BoolOp .And (a::b::rest) pos) (andV fa fb):=FP.mk fun ρ d hf=>by
  unfold andV at hf
  split at hf
  · rename_i e1
    exact PE.imp (pe_and (h1.h ρ _ e1) (h2.h ρ d hf)) fun σ H Q ⟨F,rl,q⟩=>⟨F,rl,fun v F1 H1 g1 r1=>⟨true,Dat.bl_inv (K:=K) (F:=F1) r1,iteT ⟨F1,rl.grow g1,fun u F2 H2 g2 r2=>q u F2 H2 (g1.trans g2) r2⟩⟩⟩
  · rename_i e1
    cases hf
    exact PE.imp (pe_and (h1.h ρ _ e1) never_pe) fun σ H Q ⟨F,rl,q⟩=>⟨F,rl,fun v F1 H1 g1 r1=>⟨false,Dat.bl_inv (K:=K) (F:=F1) r1,iteF (q _ F1 H1 g1 (Res.bl false))⟩⟩
  · cases hf
noncomputable def negD:D→Option D
  | .int i=>some (.int (-i))
  | _=>none
theorem fneg (h:FP K .fz X a fa):FP K .fz X (.UnaryOp .USub a pos) (c1 negD fa):=FP.mk fun ρ d hf=>by
  obtain ⟨x,e1,e2⟩:=c1_some hf
  cases x<;>simp only [negD] at e2<;>try (cases e2;done)
  cases e2
  exact PE.imp (pe_un un_neg (h.h ρ _ e1)) fun σ H Q ⟨F,rl,q⟩=>⟨F,rl,fun v F1 H1 g1 r1=>⟨_,Dat.int_inv (K:=K) (F:=F1) r1,q _ F1 H1 g1 (Res.int _)⟩⟩
end
end FL
set_option Elab.async false
set_option linter.all false
set_option maxRecDepth 100000
namespace FL
open PySem PySem.Spec PyProof.Rows L2
section
variable {K:PySem.W.Frag}{F H F' H':Hp} {ρ ρ':En}{σ σ':St} {i:Nat}
theorem set_cases {α:Type}{l:List α} {i j:Nat}{x y:α} (h:(l.set i x)[j]?=some y):(j=i∧y=x)∨(j≠i∧l[j]?=some y):=by
  by_cases e:j=i
  · subst e
    rw [List.getElem?_set] at h
    simp at h
    exact .inl ⟨rfl,h.2.symm⟩
  · rw [List.getElem?_set_ne (Ne.symm e)] at h
    exact .inr ⟨e,h⟩
theorem set_same {α:Type}{l:List α} {i:Nat}{x:α} (h:i < l.length):(l.set i x)[i]?=some x:=by simp [h]
theorem set_lt {α:Type}{l:List α} {i:Nat}{x y:α} (h:(l.set i x)[i]?=some y):i < l.length:=by
  have:=(List.getElem?_eq_some_iff.mp h).1;simpa using this
theorem Rel.setD (r:Rel K F H ρ σ) {d:D}{v:V} (h:Dat K F d v):Rel K F H (ρ.set i (some (.dat d))) (σ.set i (some v)):=by
  refine ⟨r.sub,fun j x e=>?_,fun j x e=>?_,fun j q x e=>?_,fun j k q x s a ne e1 e2 e3 e4=>?_,by simp [r.len]⟩
  · rcases set_cases e with ⟨rfl,e'⟩ | ⟨ne,e'⟩
    · cases e'
      exact ⟨v,set_same (by rw [← r.len];exact set_lt e),h⟩
    · rw [List.getElem?_set_ne (Ne.symm ne)];exact r.dat j x e'
  · rcases set_cases e with ⟨rfl,e'⟩ | ⟨ne,e'⟩
    · cases e'
    · rw [List.getElem?_set_ne (Ne.symm ne)];exact r.bor j x e'
  · rcases set_cases e with ⟨rfl,e'⟩ | ⟨ne,e'⟩
    · cases e'
    · rw [List.getElem?_set_ne (Ne.symm ne)];exact r.own j q x e'
  · rcases set_cases e1 with ⟨rfl,e'⟩ | ⟨ne1,e1'⟩
    · cases e'
    · rcases set_cases e3 with ⟨rfl,e'⟩ | ⟨ne3,e3'⟩
      · cases e';cases e4
      · rw [List.getElem?_set_ne (Ne.symm ne1)] at e2
        rw [List.getElem?_set_ne (Ne.symm ne3)]
        exact r.inj j k q x s a ne e1' e2 e3' e4
theorem Rel.setN (r:Rel K F H ρ σ) {v:Option V}:Rel K F H (ρ.set i none) (σ.set i v):=by
  refine ⟨r.sub,fun j x e=>?_,fun j x e=>?_,fun j q x e=>?_,fun j k q x s a ne e1 e2 e3 e4=>?_,by simp [r.len]⟩
  · rcases set_cases e with ⟨rfl,e'⟩ | ⟨ne,e'⟩
    · cases e'
    · rw [List.getElem?_set_ne (Ne.symm ne)];exact r.dat j x e'
  · rcases set_cases e with ⟨rfl,e'⟩ | ⟨ne,e'⟩
    · cases e'
    · rw [List.getElem?_set_ne (Ne.symm ne)];exact r.bor j x e'
  · rcases set_cases e with ⟨rfl,e'⟩ | ⟨ne,e'⟩
    · cases e'
    · rw [List.getElem?_set_ne (Ne.symm ne)];exact r.own j q x e'
  · rcases set_cases e1 with ⟨rfl,e'⟩ | ⟨ne1,e1'⟩
    · cases e'
    · rcases set_cases e3 with ⟨rfl,e'⟩ | ⟨ne3,e3'⟩
      · cases e'
      · rw [List.getElem?_set_ne (Ne.symm ne1)] at e2
        rw [List.getElem?_set_ne (Ne.symm ne3)]
        exact r.inj j k q x s a ne e1' e2 e3' e4
theorem Rel.drop (r:Rel K F H ρ σ):Rel K F H (ρ.set i none) σ:=by
  by_cases hi:i < σ.length
  · have h:=r.setN (i:=i) (v:=σ[i])
    rw [List.set_getElem_self] at h
    exact h
  · have e:ρ.set i none=ρ:=List.set_eq_of_length_le (by rw [r.len];omega)
    rw [e];exact r
theorem Rel.setO (r0:Rel K F H ρ σ) (g:Grow F H F' H') {d:D}{a:Addr} (hn:H a=none) (hf:F' a=none) (ho:Own K F' H' d a) (nb:∀ (j:Nat) (s:Sl),ρ[j]?=some (some s)→s.isDat=false→∃ q x,s=.ow q x) :
    Rel K F' H' (ρ.set i (some (.own d))) (σ.set i (some (.ref a))):=by
  have r:=r0.grow g
  have nf:∀ (j:Nat) s,ρ[j]?=some (some s)→s.isDat=false→σ[j]?≠some (some (.ref a)):=fun j s e hs z=>by
    obtain ⟨q,x,rfl⟩:=nb j s e hs
    obtain ⟨b,e1,_,e3⟩:=r0.own j q x e
    rw [z] at e1;cases e1
    obtain ⟨o,e4⟩:=e3.some
    rw [hn] at e4;cases e4
  refine ⟨r.sub,fun j x e=>?_,fun j x e=>?_,fun j q x e=>?_,fun j k q x s c ne e1 e2 e3 e4=>?_,by simp [r.len]⟩
  · rcases set_cases e with ⟨rfl,e'⟩ | ⟨ne,e'⟩
    · cases e'
    · rw [List.getElem?_set_ne (Ne.symm ne)];exact r.dat j x e'
  · rcases set_cases e with ⟨rfl,e'⟩ | ⟨ne,e'⟩
    · cases e'
    · rw [List.getElem?_set_ne (Ne.symm ne)];exact r.bor j x e'
  · rcases set_cases e with ⟨rfl,e'⟩ | ⟨ne,e'⟩
    · cases e'
      exact ⟨a,set_same (by rw [← r.len];exact set_lt e),hf,ho⟩
    · rw [List.getElem?_set_ne (Ne.symm ne)];exact r.own j q x e'
  · rcases set_cases e1 with ⟨rfl,e1'⟩ | ⟨ne1,e1'⟩
    · cases e1'
      rw [set_same (by rw [← r.len];exact set_lt e1)] at e2
      cases e2
      rcases set_cases e3 with ⟨rfl,e3'⟩ | ⟨ne3,e3'⟩
      · exact absurd rfl ne
      · rw [List.getElem?_set_ne (Ne.symm ne3)];exact nf k s e3' e4
    · rw [List.getElem?_set_ne (Ne.symm ne1)] at e2
      rcases set_cases e3 with ⟨rfl,e3'⟩ | ⟨ne3,e3'⟩
      · rw [set_same (by rw [← r.len];exact set_lt e3)]
        intro z;cases z
        exact nf j _ e1' rfl e2
      · rw [List.getElem?_set_ne (Ne.symm ne3)]
        exact r.inj j k q x s c ne e1' e2 e3' e4
theorem owned_set {sl:Option Sl}{v:Option V} {b:Addr}(h:Owned (ρ.set i sl) (σ.set i v) b):(∃ q d,sl=some (.ow q d)∧v=some (.ref b))∨Owned ρ σ b:=by
  obtain ⟨j,q,d,e1,e2⟩:=h
  rcases set_cases e1 with ⟨rfl,e1'⟩ | ⟨ne,e1'⟩
  · rcases set_cases e2 with ⟨_,e2'⟩ | ⟨ne,_⟩
    · exact .inl ⟨q,d,e1'.symm,e2'.symm⟩
    · exact absurd rfl ne
  · rw [List.getElem?_set_ne (Ne.symm ne)] at e2
    exact .inr ⟨j,q,d,e1',e2⟩
theorem owned_drop {b:Addr}(h:Owned (ρ.set i none) σ b):Owned ρ σ b:=by
  obtain ⟨j,q,d,e1,e2⟩:=h
  rcases set_cases e1 with ⟨rfl,e1'⟩ | ⟨ne,e1'⟩
  · cases e1'
  · exact ⟨j,q,d,e1',e2⟩
structure Kp (ρ:En) (σ:St) (ρ':En) (σ':St):Prop where
  own:∀ b,Owned ρ' σ' b→Owned ρ σ b
  pin:∀ (i:Nat) (d':D),ρ'[i]?=some (some (.ow true d'))→∃ d,ρ[i]?=some (some (.ow true d))∧σ'[i]?=σ[i]?
theorem Kp.refl:Kp ρ σ ρ σ:=⟨fun _ h=>h,fun _ d e=>⟨d,e,rfl⟩⟩
theorem Kp.trans {ρ2:En}{σ2:St} (a:Kp ρ σ ρ' σ') (b:Kp ρ' σ' ρ2 σ2):Kp ρ σ ρ2 σ2:=⟨fun c h=>a.own c (b.own c h),fun i d e=>by
  obtain ⟨d1,e1,e2⟩:=b.pin i d e
  obtain ⟨d2,e3,e4⟩:=a.pin i d1 e1
  exact ⟨d2,e3,e2.trans e4⟩⟩
theorem pin_set {sl:Option Sl}{v:Option V} (hs:∀ d,sl≠some (.ow true d)):∀ (j:Nat) (d':D),(ρ.set i sl)[j]?=some (some (.ow true d'))→∃ d,ρ[j]?=some (some (.ow true d))∧(σ.set i v)[j]?=σ[j]?:=fun j d' e=>by
  rcases set_cases e with ⟨rfl,e'⟩ | ⟨ne,e'⟩
  · exact absurd e'.symm (hs d')
  · exact ⟨d',e',List.getElem?_set_ne (Ne.symm ne)⟩
theorem pin_drop:∀ (j:Nat) (d':D),(ρ.set i none)[j]?=some (some (.ow true d'))→∃ d,ρ[j]?=some (some (.ow true d))∧σ[j]?=σ[j]?:=fun j d' e=>by
  rcases set_cases e with ⟨rfl,e'⟩ | ⟨ne,e'⟩
  · cases e'
  · exact ⟨d',e',rfl⟩
theorem Kp.setD {d:D}{v:Option V}:Kp ρ σ (ρ.set i (some (.dat d))) (σ.set i v):=⟨fun b z=>by
  rcases owned_set z with ⟨_,_,z,_⟩ | z
  · cases z
  · exact z,pin_set fun d h=>by cases h⟩
theorem Step.kp {ρ2:En}{σ2:St} (a:Step ρ σ F H ρ' σ' F' H') (k:Kp ρ' σ' ρ2 σ2):Step ρ σ F H ρ2 σ2 F' H':=⟨a.ff,a.rest,fun b z=>a.own b (k.own b z),fun i d e=>by
  obtain ⟨d1,e1,e2⟩:=k.pin i d e
  obtain ⟨d2,e3,e4⟩:=a.pin i d1 e1
  exact ⟨d2,e3,e2.trans e4⟩,a.fh⟩
end
inductive Fl where
  | nx (ρ:En) | rt (d:D) (ρ:En) | bk (ρ:En) | ct (ρ:En)
noncomputable def ResR (K:PySem.W.Frag) (md:Md) (ρ:En) (σ:St) (H F' H':Hp) (d:D) (v:V):Prop:=match md with
  | .fz=>Dat K F' d v
  | .ow=>∃ a,v=.ref a∧(H a=none∨Owned ρ σ a)∧F' a=none∧Own K F' H' d a
  | .br=>False
noncomputable def rdS (K:PySem.W.Frag) (md:Md) (ρ:En) (fl:Fl):TS:=fun D σ H=>∃ F,Rel K F H ρ σ∧match fl with
  | .nx ρ'=>∀ σ' F' H',Rel K F' H' ρ' σ'→Step ρ σ F H ρ' σ' F' H'→D.nx σ' H'
  | .bk ρ'=>∀ σ' F' H',Rel K F' H' ρ' σ'→Step ρ σ F H ρ' σ' F' H'→D.bk σ' H'
  | .ct ρ'=>∀ σ' F' H',Rel K F' H' ρ' σ'→Step ρ σ F H ρ' σ' F' H'→D.ct σ' H'
  | .rt d ρ'=>∀ v σ' F' H',Rel K F' H' ρ' σ'→Step ρ σ F H ρ' σ' F' H'→ResR K md ρ σ H F' H' d v→D.rt v H'
structure FS (K:PySem.W.Frag) (md:Md) (X:Cx) (st:Stmt) (m:En→Option Fl):Prop where
  h:∀ ρ fl,m ρ=some fl→PS X st (rdS K md ρ fl)
structure FSs (K:PySem.W.Frag) (md:Md) (X:Cx) (sts:List Stmt) (m:En→Option Fl):Prop where
  h:∀ ρ fl,m ρ=some fl→PSs X sts (rdS K md ρ fl)
noncomputable def nxM:En→Option Fl:=fun ρ=>some (.nx ρ)
noncomputable def seqM (m n:En→Option Fl):En→Option Fl:=fun ρ=>match m ρ with
  | some (.nx ρ1)=>n ρ1
  | r=>r
theorem ResR.back {K:PySem.W.Frag}{md:Md} {ρ ρ':En}{σ σ':St} {F H F' H' F2 H2:Hp}{d:D} {v:V}(a:Step ρ σ F H ρ' σ' F' H') (s:Same F H) (h:ResR K md ρ' σ' H' F2 H2 d v):ResR K md ρ σ H F2 H2 d v:=by
  cases md with
  | fz=>exact h
  | br=>exact h
  | ow=>
    obtain ⟨b,e,h1,h2,h3⟩:=h
    exact ⟨b,e,a.back s h1,h2,h3⟩
theorem rdS.after {K:PySem.W.Frag}{md:Md} {ρ ρ':En}{σ σ':St} {F H F' H':Hp}{fl:Fl} {D:Ends}(s:Same F H) (r:Rel K F' H' ρ' σ') (a:Step ρ σ F H ρ' σ' F' H')
    (h:match fl with
      | .nx ρ'=>∀ σ' F' H',Rel K F' H' ρ' σ'→Step ρ σ F H ρ' σ' F' H'→D.nx σ' H'
      | .bk ρ'=>∀ σ' F' H',Rel K F' H' ρ' σ'→Step ρ σ F H ρ' σ' F' H'→D.bk σ' H'
      | .ct ρ'=>∀ σ' F' H',Rel K F' H' ρ' σ'→Step ρ σ F H ρ' σ' F' H'→D.ct σ' H'
      | .rt d ρ'=>∀ v σ' F' H',Rel K F' H' ρ' σ'→Step ρ σ F H ρ' σ' F' H'→ResR K md ρ σ H F' H' d v→D.rt v H'):rdS K md ρ' fl D σ' H':=by
  refine ⟨F',r,?_⟩
  cases fl with
  | nx ρ2=>exact fun σ2 F2 H2 r2 s2=>h σ2 F2 H2 r2 (a.trans s2 s)
  | bk ρ2=>exact fun σ2 F2 H2 r2 s2=>h σ2 F2 H2 r2 (a.trans s2 s)
  | ct ρ2=>exact fun σ2 F2 H2 r2 s2=>h σ2 F2 H2 r2 (a.trans s2 s)
  | rt d ρ2=>exact fun v σ2 F2 H2 r2 s2 q=>h v σ2 F2 H2 r2 (a.trans s2 s) (ResR.back a s q)
section
variable {K:PySem.W.Frag}{md:Md} {X:Cx}{st:Stmt} {rest:List Stmt}{m n:En→Option Fl} {e:Expr}{f:En→Option D} {pos:Pos}
theorem snil:FSs K md X [] nxM:=FSs.mk fun ρ fl hf=>by
  cases hf
  exact PSs.imp pss_nil fun D σ H ⟨F,r,q⟩=>q σ F H r (Grow.refl r.sub).step
theorem sone (h:FS K md X st m):FSs K md X [st] m:=FSs.mk fun ρ fl hf=>pss_one (h.h ρ fl hf)
theorem sseq (h1:FS K md X st m) (h2:FSs K md X rest n):FSs K md X (st::rest) (seqM m n):=FSs.mk fun ρ fl hf=>by
  unfold seqM at hf
  split at hf
  · rename_i ρ1 e1
    refine PSs.imp (pss_cons (h1.h ρ _ e1) (h2.h ρ1 fl hf)) fun D σ H ⟨F,r,q⟩=>⟨F,r,fun σ1 F1 H1 r1 s1=>?_⟩
    exact rdS.after r.sub r1 s1 q
  · rename_i hno
    refine PSs.imp (pss_cons (h1.h ρ fl hf) pss_never) fun D σ H ⟨F,r,q⟩=>⟨F,r,?_⟩
    cases fl with
    | nx ρ1=>exact absurd hf (hno ρ1)
    | bk ρ1=>exact q
    | ct ρ1=>exact q
    | rt d ρ1=>exact q
theorem scont:FS K md X (.Continue pos) (fun ρ=>some (.ct ρ)):=FS.mk fun ρ fl hf=>by
  cases hf
  exact PS.imp ps_continue fun D σ H ⟨F,r,q⟩=>q σ F H r (Grow.refl r.sub).step
noncomputable def dropM (f:En→Option D):En→Option Fl:=fun ρ=>(f ρ).map fun _=>.nx ρ
noncomputable def retM (f:En→Option D):En→Option Fl:=fun ρ=>(f ρ).map fun d=>.rt d ρ
theorem sret (he:FP K .fz X e f):FS K .fz X (.Return (some e) pos) (retM f):=FS.mk fun ρ fl hf=>by
  unfold retM at hf
  cases e1:f ρ with
  | none=>rw [e1] at hf;cases hf
  | some d=>
    rw [e1] at hf;cases hf
    exact PS.imp (ps_ret (he.h ρ d e1)) fun D σ H ⟨F,r,q⟩=>⟨F,r,fun v F1 H1 g1 h=>q v σ F1 H1 (r.grow g1) g1.step h⟩
theorem sretw (he:FP K .ow X e f):FS K .ow X (.Return (some e) pos) (retM f):=FS.mk fun ρ fl hf=>by
  unfold retM at hf
  cases e1:f ρ with
  | none=>rw [e1] at hf;cases hf
  | some d=>
    rw [e1] at hf;cases hf
    refine PS.imp (ps_ret (he.h ρ d e1)) fun D σ H ⟨F,r,q⟩=>⟨F,r,fun v F1 H1 g1 ⟨a,e,h1,h2,h3⟩=>q v σ F1 H1 (r.grow g1) g1.step ⟨a,e,.inl h1,h2,h3⟩⟩
noncomputable def retO (i:Nat):En→Option Fl:=fun ρ=>match ρ[i]? with
  | some (some (.ow _ d))=>some (.rt d (ρ.set i none))
  | _=>none
theorem sretF (i:Nat) {x:Str}{p:Pos} (hN:X.N[i]?=some x:=by rfl) (hv:Vis X.env.scope x:=by first | exact Or.inl rfl | exact Or.inr (Or.inl rfl) | exact Or.inr (Or.inr rfl)) (hd:(x == ("__debug__" : Str))=false:=by decide)
    (hcd:(x == ("__classdict__" : Str))=false:=by decide):FS K .fz X (.Return (some (.Name x p)) pos) (retO i):=FS.mk fun ρ fl hf=>by
  unfold retO at hf
  split at hf
  · rename_i pp d e1
    cases hf
    refine PS.imp (ps_ret (pe_frz (pe_var hN hv hd hcd))) fun D σ H h_=>?_
    obtain ⟨F,r,q⟩:=h_
    obtain ⟨a,e2,h1,h2⟩:=r.own i pp d e1
    have rd:=r.drop (i:=i)
    have ne:∀ b,Owned (ρ.set i none) σ b→b≠a:=fun b ⟨j,q,x,j1,j2⟩ z=>by
      subst z
      rcases set_cases j1 with ⟨rfl,j1'⟩ | ⟨hne,j1'⟩
      · cases j1'
      · exact r.inj j i q x (.ow pp d) b hne j1' j2 e1 rfl e2
    refine ⟨_,e2,a,rfl,fun H2 fz=>?_⟩
    have g:Step ρ σ F H (ρ.set i none) σ (frz1 F H2 a) H2:=by
      refine ⟨frz1_ext h1,fun b o e n ho=>?_,fun b h=>.inr (owned_drop h),pin_drop,frz1_sub (fz.same r.sub h1)⟩
      have hb:b≠a:=fun z=>ho (by subst z;exact ⟨i,pp,d,e1,e2⟩)
      exact ⟨by rw [fz.ne hb];exact e,by rw [frz1_ne hb];exact n⟩
    have rf:Rel K (frz1 F H2 a) H2 (ρ.set i none) σ:=by
      refine ⟨frz1_sub (fz.same r.sub h1),fun j x e=>?_,fun j x e=>?_,fun j q x e=>?_,rd.inj,rd.len⟩
      · obtain ⟨v,h3,h4⟩:=rd.dat j x e;exact ⟨v,h3,h4.mono (frz1_ext h1)⟩
      · obtain ⟨v,h3,h4⟩:=rd.bor j x e;exact ⟨v,h3,DatB.frz h4 (frz1_ext h1) fz (fun z=>r.inj i j pp d (.bor x) a (fun q=>by subst q;rcases set_cases e with ⟨_,e'⟩ | ⟨hne,_⟩;cases e';exact hne rfl) e1 e2 (by rcases set_cases e with ⟨_,e'⟩ | ⟨_,e'⟩;cases e';exact e') rfl (by rw [h3,z]))⟩
      · obtain ⟨c,h3,h4,h5⟩:=rd.own j q x e
        exact ⟨c,h3,by rw [frz1_ne (ne c ⟨j,q,x,e,h3⟩)];exact h4,h5.mono (frz1_ext h1) fun o e=>by rw [fz.ne (ne c ⟨j,q,x,by assumption,h3⟩)];exact e⟩
    exact q _ σ _ H2 rf g (h2.freeze h1 fz)
  · cases hf
noncomputable def retN:En→Option Fl:=fun ρ=>some (.rt .non ρ)
noncomputable def ifM (t:En→Option (Bool×En)) (m n:En→Option Fl):En→Option Fl:=fun ρ=>(t ρ).bind fun p=>if p.1=true then m p.2 else n p.2
theorem sif {c:Expr}{a b:List Stmt} {t:En→Option (Bool×En)}(hc:FT K X c t) (ha:FSs K md X a m) (hb:FSs K md X b n):FS K md X (.If c a b pos) (ifM t m n):=FS.mk fun ρ fl hf=>by
  unfold ifM at hf
  cases e1:t ρ with
  | none=>rw [e1] at hf;cases hf
  | some p=>
    obtain ⟨k,ρ1⟩:=p
    rw [e1] at hf
    cases k with
    | true=>
      refine PS.imp (ps_if (hc.h ρ _ _ e1) (ha.h ρ1 fl hf) pss_never) fun D σ H ⟨F,r,q⟩=>⟨F,r,fun F1 H1 r1 s1=>iteT (rdS.after r.sub r1 s1 q)⟩
    | false=>
      refine PS.imp (ps_if (hc.h ρ _ _ e1) pss_never (hb.h ρ1 fl hf)) fun D σ H ⟨F,r,q⟩=>⟨F,r,fun F1 H1 r1 s1=>iteF (rdS.after r.sub r1 s1 q)⟩
noncomputable def rdG (K:PySem.W.Frag) (ρ:En) (d:D) (ρ':En):TG:=fun v σ H Q=>∃ F,Rel K F H ρ σ∧Dat K F d v∧∀ σ',Rel K F H ρ' σ'→Kp ρ σ ρ' σ'→Q σ' H
structure FG (K:PySem.W.Frag) (X:Cx) (tg:Expr) (g:D→En→Option En):Prop where
  h:∀ ρ d ρ',g d ρ=some ρ'→PG X tg (rdG K ρ d ρ')
noncomputable def rdGs (K:PySem.W.Frag) (ρ:En) (ds:List D) (ρ':En):TGs:=fun vs σ H Q=>∃ F,Rel K F H ρ σ∧DatL K F ds vs∧∀ σ',Rel K F H ρ' σ'→Kp ρ σ ρ' σ'→Q σ' H
structure FGs (K:PySem.W.Frag) (X:Cx) (ts:List Expr) (g:List D→En→Option En):Prop where
  h:∀ ρ ds ρ',g ds ρ=some ρ'→PGs X ts (rdGs K ρ ds ρ')
theorem PG.imp {tg:Expr}{t t':TG} (h:PG X tg t) (w:∀ v σ H Q,t' v σ H Q→t v σ H Q):PG X tg t':=fun pins s σ H v u Q I r ht=>h pins s σ H v u Q I r (w v σ H Q ht)
theorem PGs.imp {tg:List Expr}{t t':TGs} (h:PGs X tg t) (w:∀ v σ H Q,t' v σ H Q→t v σ H Q):PGs X tg t':=fun pins s σ H v u Q I r ht=>h pins s σ H v u Q I r (w v σ H Q ht)
noncomputable def gN (i:Nat):D→En→Option En:=fun d ρ=>some (ρ.set i (some (.dat d)))
theorem gname (i:Nat) {x:Str}(hN:X.N.Nodup) (hi:X.N[i]?=some x:=by rfl) (hx:Loc X.env.scope x:=by first | exact Or.inl rfl | exact Or.inr rfl) (hf:X.fn x=true∨X.env.scope.names.lookup x=some .local:=by first | exact .inl rfl | exact .inr rfl | assumption):FG K X (.Name x pos) (gN i):=FG.mk fun ρ d ρ' hg=>by
  cases hg
  refine PG.imp (pg_name hN hi hx hf) fun v σ H Q ⟨F,r,h,q⟩=>q _ (r.setD h) Kp.setD
noncomputable def gNil:List D→En→Option En:=fun ds ρ=>match ds with
  | []=>some ρ
  | _=>none
noncomputable def gCons (g:D→En→Option En) (gs:List D→En→Option En):List D→En→Option En:=fun ds ρ=>match ds with
  | d::l=>(g d ρ).bind (gs l)
  | []=>none
noncomputable def gTup (gs:List D→En→Option En):D→En→Option En:=fun d ρ=>match d with
  | .tup l=>gs l ρ
  | _=>none
theorem gnil:FGs K X [] gNil:=FGs.mk fun ρ ds ρ' hg=>by
  unfold gNil at hg
  split at hg
  · cases hg
    exact PGs.imp pgs_nil fun vs σ H Q ⟨F,r,h,q⟩=>⟨h.nil_inv,q σ r Kp.refl⟩
  · cases hg
theorem gcons {es:List Expr}{g:D→En→Option En} {gs:List D→En→Option En}(h1:FG K X e g) (h2:FGs K X es gs)
    (hs:(assignEach (e::es) X.env).map (·.2)=assign e X.env::(assignEach es X.env).map (·.2):=by rfl):FGs K X (e::es) (gCons g gs):=FGs.mk fun ρ ds ρ' hg=>by
  unfold gCons at hg
  split at hg
  · rename_i d l
    cases e1:g d ρ with
    | none=>rw [e1] at hg;cases hg
    | some ρ1=>
      rw [e1] at hg
      refine PGs.imp (pgs_cons (h1.h ρ d ρ1 e1) (h2.h ρ1 l ρ' hg) hs) fun vs σ H Q h_=>?_
      obtain ⟨F,r,h,q⟩:=h_
      obtain ⟨v,vr,e,d1,d2⟩:=h.cons_inv
      exact ⟨v,vr,e,F,r,d1,fun σ1 r1 o1=>⟨F,r1,d2,fun σ2 r2 o2=>q σ2 r2 (o1.trans o2)⟩⟩
  · cases hg
theorem gtup {es:List Expr}{k:Nat} {gs:List D→En→Option En}{n:Nat} (hc:X.calm=true) (h:FGs K X es gs) (hl:∀ ds ρ ρ',gs ds ρ=some ρ'→ds.length=n)
    (hn:(assignEach es X.env).length=n:=by rfl) (hst:(assignEach es X.env).findIdx? (·.1)=none:=by rfl) (hK:X.K=K:=by rfl):FG K X (.Tuple es k pos) (gTup gs):=FG.mk fun ρ d ρ' hg=>by
  subst hK
  unfold gTup at hg
  split at hg
  · rename_i l
    refine PG.imp (pg_tup hc (h.h ρ l ρ' hg) hn hst) fun v σ H Q h_=>?_
    obtain ⟨F,r,hd,q⟩:=h_
    obtain ⟨a,vs,rfl,f,qq⟩:=hd.tup_inv
    exact ⟨a,vs,rfl,SqT.of (r.sub _ _ f),by rw [qq.length];exact hl l ρ ρ' hg,F,r,qq,q⟩
  · cases hg
theorem len_nil:∀ ds ρ ρ',gNil ds ρ=some ρ'→ds.length=0:=fun ds ρ ρ' h=>by
  unfold gNil at h
  split at h
  · rfl
  · cases h
theorem len_cons {g:D→En→Option En}{gs:List D→En→Option En} {n:Nat}(h:∀ ds ρ ρ',gs ds ρ=some ρ'→ds.length=n):∀ ds ρ ρ',gCons g gs ds ρ=some ρ'→ds.length=n + 1:=fun ds ρ ρ' hg=>by
  unfold gCons at hg
  split at hg
  · rename_i d l
    cases e1:g d ρ with
    | none=>rw [e1] at hg;cases hg
    | some ρ1=>rw [e1] at hg;rw [List.length_cons,h l ρ1 ρ' hg]
  · cases hg
noncomputable def asgM (f:En→Option D) (g:D→En→Option En):En→Option Fl:=fun ρ=>(f ρ).bind fun d=>(g d ρ).map Fl.nx
theorem sasg {tg:Expr}{g:D→En→Option En} (he:FP K .fz X e f) (hg:FG K X tg g) (hs:swapsWithSole [tg] e pos.line X.env=pure false:=by rfl) (hw:swappedStores [tg] e X.env=pure none:=by rfl)
    (h1:(assignEach [tg] X.env).map (·.2)=[assign tg X.env]:=by rfl):FS K md X (.Assign [tg] e pos) (asgM f g):=FS.mk fun ρ fl hf=>by
  unfold asgM at hf
  cases e1:f ρ with
  | none=>rw [e1] at hf;cases hf
  | some d=>
    cases e2:g d ρ with
    | none=>rw [e1] at hf;simp [e2] at hf
    | some ρ1=>
      rw [e1] at hf;simp [e2] at hf;cases hf
      refine PS.imp (ps_asg (he.h ρ d e1) (hg.h ρ d ρ1 e2) hs hw h1) fun D σ H ⟨F,r,q⟩=>⟨F,r,fun v F1 H1 g1 h=>⟨F1,r.grow g1,h,fun σ1 r1 o1=>?_⟩⟩
      have s1:=g1.step (ρ:=ρ) (σ:=σ)
      exact q σ1 F1 H1 r1 (s1.kp o1)
noncomputable def setM (i:Nat) (f:En→Option D):En→Option Fl:=fun ρ=>(f ρ).map fun d=>.nx (ρ.set i (some (.dat d)))
theorem sset (i:Nat) {x:Str}{pos':Pos} (hN:X.N.Nodup) (he:FP K .fz X e f) (hi:X.N[i]?=some x:=by rfl) (hx:Loc X.env.scope x:=by first | exact Or.inl rfl | exact Or.inr rfl) (hs:swapsWith e (some (.Name x pos')) pos.line X.env=pure false:=by rfl) (hf:X.fn x=true∨X.env.scope.names.lookup x=some .local:=by first | exact .inl rfl | exact .inr rfl | assumption) :
    FS K md X (.Assign [.Name x pos'] e pos) (setM i f):=FS.mk fun ρ fl hm=>by
  unfold setM at hm
  cases e1:f ρ with
  | none=>rw [e1] at hm;cases hm
  | some d=>
    rw [e1] at hm;cases hm
    refine PS.imp (ps_set hN hi hx (he.h ρ d e1) hs hf) fun D σ H ⟨F,r,q⟩=>⟨F,r,fun v F1 H1 g1 h=>?_⟩
    have s1:=g1.step (ρ:=ρ) (σ:=σ)
    exact q _ F1 H1 ((r.grow g1).setD h) (s1.kp Kp.setD)
noncomputable def noBor (ρ:En):Bool:=ρ.all fun s=>match s with
  | some (.bor _)=>false
  | _=>true
theorem noBor_own {ρ:En}(h:noBor ρ=true):∀ (j:Nat) s,ρ[j]?=some (some s)→s.isDat=false→∃ q x,s=.ow q x:=fun j s e hs=>by
  have:=List.all_eq_true.mp h (some s) (List.mem_of_getElem? e)
  cases s with
  | dat d=>cases hs
  | ow q d=>exact ⟨q,d,rfl⟩
  | bor d=>cases this
noncomputable def setO (i:Nat) (f:En→Option D):En→Option Fl:=fun ρ=>if noBor ρ=true then (f ρ).map fun d=>.nx (ρ.set i (some (.own d))) else none
theorem ssetO (i:Nat) {x:Str}{pos':Pos} (hN:X.N.Nodup) (he:FP K .ow X e f) (hi:X.N[i]?=some x:=by rfl) (hx:Loc X.env.scope x:=by first | exact Or.inl rfl | exact Or.inr rfl) (hs:swapsWith e (some (.Name x pos')) pos.line X.env=pure false:=by rfl) (hf:X.fn x=true∨X.env.scope.names.lookup x=some .local:=by first | exact .inl rfl | exact .inr rfl | assumption) :
    FS K md X (.Assign [.Name x pos'] e pos) (setO i f):=FS.mk fun ρ fl hm=>by
  unfold setO at hm
  split at hm
  · rename_i nb
    cases e1:f ρ with
    | none=>rw [e1] at hm;cases hm
    | some d=>
      rw [e1] at hm;cases hm
      refine PS.imp (ps_set hN hi hx (he.h ρ d e1) hs hf) fun D σ H ⟨F,r,q⟩=>⟨F,r,fun v F1 H1 g1 ⟨a,ev,h1,h2,h3⟩=>?_⟩
      subst ev
      have s1:=g1.step (ρ:=ρ) (σ:=σ)
      refine q _ F1 H1 (r.setO g1 h1 h2 h3 (noBor_own nb)) ⟨s1.ff,s1.rest,fun b z=>?_,pin_set (fun d h=>by cases h),s1.fh⟩
      rcases owned_set z with ⟨_,_,_,z⟩ | z
      · cases z;exact .inl h1
      · exact .inr z
  · cases hm
end
end FL
set_option Elab.async false
set_option linter.all false
set_option maxRecDepth 100000
namespace FL
open PySem PySem.Spec PyProof.Rows L2
section
variable {K:PySem.W.Frag}{F H F' H':Hp} {ρ ρ':En}{σ σ':St} {i:Nat}
theorem DatB.upd {d:D}{v:V} {a:Addr}{o:HO} (h:DatB K F H d v) (hv:v≠.ref a):DatB K F (upd H a o) d v:=by
  cases d with
  | lst l=>obtain ⟨b,vs,rfl,f,q⟩:=h.lst_inv;exact ⟨b,vs,rfl,by rw [upd_ne (fun z=>hv (by rw [z]))];exact f,q⟩
  | dic k l=>obtain ⟨b,vs,rfl,f,q⟩:=h.dic_inv;exact ⟨b,vs,rfl,f.at (upd_ne (fun z=>hv (by rw [z]))),q⟩
  | set l=>obtain ⟨b,rfl,f⟩:=h;exact ⟨b,rfl,SetAt.at (F:=H) (upd_ne (fun z=>hv (by rw [z]))) f⟩
  | _=>exact h
theorem Rel.mut (r:Rel K F H ρ σ) {pp:Bool}{d d':D} {a:Addr}{o:HO} (e:ρ[i]?=some (some (.ow pp d))) (hσ:σ[i]?=some (some (.ref a))) (ho:Own K F (upd H a o) d' a) :
    Rel K F (upd H a o) (ρ.set i (some (.ow pp d'))) σ∧Step ρ σ F H (ρ.set i (some (.ow pp d'))) σ F (upd H a o):=by
  obtain ⟨a',e1,fa,_⟩:=r.own i pp d e
  rw [hσ] at e1;cases e1
  have sub:Same F (L2.upd H a o):=fun b u h=>by rw [upd_ne (ne_of_none h fa)];exact r.sub _ _ h
  have hi:i < ρ.length:=(List.getElem?_eq_some_iff.mp e).1
  refine ⟨⟨sub,fun j x q=>?_,fun j x q=>?_,fun j qq x q=>?_,fun j k qq x s c ne e1 e2 e3 e4=>?_,by simp [r.len]⟩,⟨Same.refl _,fun b u h n no=>⟨?_,n⟩,fun b h=>.inr ?_,fun j x e'=>?_,sub⟩⟩
  · rcases set_cases q with ⟨rfl,q'⟩ | ⟨ne,q'⟩
    · cases q'
    · exact r.dat j x q'
  · rcases set_cases q with ⟨rfl,q'⟩ | ⟨ne,q'⟩
    · cases q'
    · obtain ⟨v,h1,h2⟩:=r.bor j x q'
      refine ⟨v,h1,h2.upd fun z=>?_⟩
      subst z
      exact r.inj i j pp d _ a (Ne.symm ne) e hσ q' rfl h1
  · rcases set_cases q with ⟨rfl,q'⟩ | ⟨ne,q'⟩
    · cases q'
      exact ⟨a,hσ,fa,ho⟩
    · obtain ⟨c,h1,h2,h3⟩:=r.own j qq x q'
      have hc:c≠a:=fun z=>by
        subst z
        exact r.inj i j pp d _ c (Ne.symm ne) e hσ q' rfl h1
      exact ⟨c,h1,h2,h3.mono (Same.refl _) fun u hu=>by rw [upd_ne hc];exact hu⟩
  · rcases set_cases e1 with ⟨rfl,e1'⟩ | ⟨ne1,e1'⟩
    · rcases set_cases e3 with ⟨rfl,e3'⟩ | ⟨ne3,e3'⟩
      · exact absurd rfl ne
      · exact r.inj j k pp d s c ne e e2 e3' e4
    · rcases set_cases e3 with ⟨rfl,e3'⟩ | ⟨ne3,e3'⟩
      · exact r.inj j k qq x (.ow pp d) c ne e1' e2 e rfl
      · exact r.inj j k qq x s c ne e1' e2 e3' e4
  · rw [upd_ne (fun z=>no (by subst z;exact ⟨i,pp,d,e,hσ⟩))];exact h
  · obtain ⟨j,qq,x,j1,j2⟩:=h
    rcases set_cases j1 with ⟨rfl,j1'⟩ | ⟨ne,j1'⟩
    · exact ⟨j,pp,d,e,j2⟩
    · exact ⟨j,qq,x,j1',j2⟩
  · rcases set_cases e' with ⟨rfl,e''⟩ | ⟨ne,e''⟩
    · cases e''
      exact ⟨d,e,rfl⟩
    · exact ⟨x,e'',rfl⟩
end
noncomputable def rdX (K:PySem.W.Frag) (ρ:En) (d:D) (ρ':En):TE:=fun σ H Q=>∃ F,Rel K F H ρ σ∧∀ v F' H',Rel K F' H' ρ' σ→Step ρ σ F H ρ' σ F' H'→Dat K F' d v→Q v H'
structure FX (K:PySem.W.Frag) (X:Cx) (e:Expr) (m:En→Option (D×En)):Prop where
  h:∀ ρ d ρ',m ρ=some (d,ρ')→PE X e (rdX K ρ d ρ')
noncomputable def appM (i:Nat) (f:En→Option D):En→Option (D×En):=fun ρ=>match ρ[i]?,f ρ with
  | some (some (.ow pp (.lst l))),some d=>if l.length < lim then some (.non,ρ.set i (some (.ow pp (.lst (l++[d]))))) else none
  | _,_=>none
noncomputable def extM (i:Nat) (f:En→Option D):En→Option (D×En):=fun ρ=>match ρ[i]?,f ρ with
  | some (some (.ow pp (.lst l))),some (.lst m)=>if l.length + m.length≤lim then some (.non,ρ.set i (some (.ow pp (.lst (l++m))))) else none
  | _,_=>none
noncomputable def popM (i:Nat):En→Option (D×En):=fun ρ=>match ρ[i]? with
  | some (some (.ow pp (.lst l)))=>(l[l.length - 1]?).map fun d=>(d,ρ.set i (some (.ow pp (.lst l.dropLast))))
  | _=>none
noncomputable def popAtM (i:Nat) (f:En→Option D):En→Option (D×En):=fun ρ=>match ρ[i]?,f ρ with
  | some (some (.ow pp (.lst l))),some (.int k)=>if -(2 ^ 63)≤k∧k < 2 ^ 63 then (seqIndex? k l.length).bind fun j=>(l[j]?).map fun d=>(d,ρ.set i (some (.ow pp (.lst (l.eraseIdx j))))) else none
  | _,_=>none
section
variable {K:PySem.W.Frag}{md:Md} {X:Cx}{e:Expr} {f:En→Option D}{pos:Pos} {x:Str}{p apos cpos:Pos}
theorem xappend (i:Nat) (he:FP K .fz X e f) (hN:X.N[i]?=some x:=by rfl) (hv:Vis X.env.scope x:=by first | exact Or.inl rfl | exact Or.inr (Or.inl rfl) | exact Or.inr (Or.inr rfl)) (hd:(x == ("__debug__" : Str))=false:=by decide)
    (hcd:(x == ("__classdict__" : Str))=false:=by decide) (hbase:attributeBase (.Name x p) "append" X.env (eval (.Name x p) X.env)=eval (.Name x p) X.env:=by rfl)
    (hfew:((backTo cpos (starEach [e] X.env)).all (fun x=>!x.1) && (backToKw cpos (keywordEach [] X.env)).all (fun x=>x.1.isSome) && decide (([e]:List Expr).length + ([]:List Keyword).length + (if ([]:List Keyword).isEmpty then 0 else 1) < 30))=true:=by rfl)
    (hline:(apos.endLine == cpos.line)=true:=by rfl) (hs:starEach [e] X.env=(false,eval e X.env)::starEach [] X.env:=by rfl) (hplain:(backTo cpos (starEach [] X.env)).any (·.1)=false:=by rfl) (hK:X.K=K:=by rfl) :
    FX K X (.Call (.Attribute (.Name x p) "append" apos) [e] [] cpos) (appM i f):=FX.mk fun ρ d ρ' hf=>by
  subst hK
  unfold appM at hf
  split at hf
  · rename_i pp l dd e1 e2
    obtain ⟨hz,hf⟩:=ite_some hf
    cases hf
    refine PE.imp (pe_bm PySem.F.plainAttrs_list PySem.F.slot_list_append PySem.F.type_list_append mt_append (pe_var hN hv hd hcd) (pa_cons (he.h ρ dd e2) pa_nil hs) hbase hfew hline hs hplain) fun σ H Q h_=>?_
    obtain ⟨F,r,q⟩:=h_
    obtain ⟨a,h1,h2,vs,h3,h4⟩:=r.own i _ _ e1
    refine ⟨_,h1,.inl ⟨rfl,vs,SqL.of h3⟩,F,r,fun v F1 H1 g1 r1=>?_⟩
    have rg:=r.grow g1
    obtain ⟨a',h1',h2',vs',h3',h4'⟩:=rg.own i _ _ e1
    rw [h1] at h1';cases h1'
    have h3'':=g1.hh _ _ h3
    rw [h3'] at h3'';cases h3''
    refine ⟨a,vs,v,rfl,rfl,h3',by rw [h4'.length];exact lim_lt (Nat.le_of_lt hz),?_⟩
    obtain ⟨m1,m2⟩:=rg.mut (i:=i) (o:=.lst (vs++[v])) (d':=.lst (l++[dd])) e1 h1 ⟨_,upd_same,h4'.snoc r1⟩
    exact q _ _ _ m1 (g1.step.trans m2 r.sub) (Dat.non (K:=X.K))
  · cases hf
theorem xextend (i:Nat) (he:FP K .fz X e f) (hN:X.N[i]?=some x:=by rfl) (hv:Vis X.env.scope x:=by first | exact Or.inl rfl | exact Or.inr (Or.inl rfl) | exact Or.inr (Or.inr rfl)) (hd:(x == ("__debug__" : Str))=false:=by decide)
    (hcd:(x == ("__classdict__" : Str))=false:=by decide) (hbase:attributeBase (.Name x p) "extend" X.env (eval (.Name x p) X.env)=eval (.Name x p) X.env:=by rfl)
    (hfew:((backTo cpos (starEach [e] X.env)).all (fun x=>!x.1) && (backToKw cpos (keywordEach [] X.env)).all (fun x=>x.1.isSome) && decide (([e]:List Expr).length + ([]:List Keyword).length + (if ([]:List Keyword).isEmpty then 0 else 1) < 30))=true:=by rfl)
    (hline:(apos.endLine == cpos.line)=true:=by rfl) (hs:starEach [e] X.env=(false,eval e X.env)::starEach [] X.env:=by rfl) (hplain:(backTo cpos (starEach [] X.env)).any (·.1)=false:=by rfl) (hK:X.K=K:=by rfl) :
    FX K X (.Call (.Attribute (.Name x p) "extend" apos) [e] [] cpos) (extM i f):=FX.mk fun ρ d ρ' hf=>by
  subst hK
  unfold extM at hf
  split at hf
  · rename_i pp l m e1 e2
    obtain ⟨hz,hf⟩:=ite_some hf
    cases hf
    refine PE.imp (pe_bm PySem.F.plainAttrs_list PySem.F.slot_list_extend PySem.F.type_list_extend mt_extend (pe_var hN hv hd hcd) (pa_cons (he.h ρ _ e2) pa_nil hs) hbase hfew hline hs hplain) fun σ H Q h_=>?_
    obtain ⟨F,r,q⟩:=h_
    obtain ⟨a,h1,h2,vs,h3,h4⟩:=r.own i _ _ e1
    refine ⟨_,h1,.inl ⟨rfl,vs,SqL.of h3⟩,F,r,fun v F1 H1 g1 r1=>?_⟩
    have rg:=r.grow g1
    obtain ⟨a',h1',h2',vs',h3',h4'⟩:=rg.own i _ _ e1
    rw [h1] at h1';cases h1'
    have h3'':=g1.hh _ _ h3
    rw [h3'] at h3'';cases h3''
    obtain ⟨b,us,rfl,f1,q1⟩:=Dat.lst_inv (K:=X.K) (F:=F1) r1
    refine ⟨a,b,vs,us,rfl,rfl,h3',g1.fh _ _ f1,by rw [h4'.length,q1.length];exact lim_le hz,?_⟩
    obtain ⟨m1,m2⟩:=rg.mut (i:=i) (o:=.lst (vs++us)) (d':=.lst (l++m)) e1 h1 ⟨_,upd_same,h4'.append q1⟩
    exact q _ _ _ m1 (g1.step.trans m2 r.sub) (Dat.non (K:=X.K))
  · cases hf
theorem xpop (i:Nat) (hN:X.N[i]?=some x:=by rfl) (hv:Vis X.env.scope x:=by first | exact Or.inl rfl | exact Or.inr (Or.inl rfl) | exact Or.inr (Or.inr rfl)) (hd:(x == ("__debug__" : Str))=false:=by decide)
    (hcd:(x == ("__classdict__" : Str))=false:=by decide) (hbase:attributeBase (.Name x p) "pop" X.env (eval (.Name x p) X.env)=eval (.Name x p) X.env:=by rfl)
    (hline:(apos.endLine == cpos.line)=true:=by rfl) (hK:X.K=K:=by rfl) :
    FX K X (.Call (.Attribute (.Name x p) "pop" apos) [] [] cpos) (popM i):=FX.mk fun ρ d ρ' hf=>by
  subst hK
  unfold popM at hf
  split at hf
  · rename_i pp l e1
    cases e2:l[l.length - 1]? with
    | none=>rw [e2] at hf;cases hf
    | some dd=>
      rw [e2] at hf;cases hf
      refine PE.imp (pe_bm0 PySem.F.plainAttrs_list PySem.F.slot_list_pop PySem.F.type_list_pop mt_pop (pe_var hN hv hd hcd) hbase hline) fun σ H Q h_=>?_
      obtain ⟨F,r,q⟩:=h_
      obtain ⟨a,h1,h2,vs,h3,h4⟩:=r.own i _ _ e1
      obtain ⟨v,h5,h6⟩:=h4.get e2
      refine ⟨_,h1,.inl ⟨rfl,vs,SqL.of h3⟩,a,vs,v,rfl,rfl,h3,by rw [h4.length];exact h5,?_⟩
      obtain ⟨m1,m2⟩:=r.mut (i:=i) (o:=.lst vs.dropLast) (d':=.lst l.dropLast) e1 h1 ⟨_,upd_same,h4.dropLast⟩
      exact q _ _ _ m1 m2 h6
  · cases hf
theorem xpopAt (i:Nat) (he:FP K .fz X e f) (hN:X.N[i]?=some x:=by rfl) (hv:Vis X.env.scope x:=by first | exact Or.inl rfl | exact Or.inr (Or.inl rfl) | exact Or.inr (Or.inr rfl)) (hd:(x == ("__debug__" : Str))=false:=by decide)
    (hcd:(x == ("__classdict__" : Str))=false:=by decide) (hbase:attributeBase (.Name x p) "pop" X.env (eval (.Name x p) X.env)=eval (.Name x p) X.env:=by rfl)
    (hfew:((backTo cpos (starEach [e] X.env)).all (fun x=>!x.1) && (backToKw cpos (keywordEach [] X.env)).all (fun x=>x.1.isSome) && decide (([e]:List Expr).length + ([]:List Keyword).length + (if ([]:List Keyword).isEmpty then 0 else 1) < 30))=true:=by rfl)
    (hline:(apos.endLine == cpos.line)=true:=by rfl) (hs:starEach [e] X.env=(false,eval e X.env)::starEach [] X.env:=by rfl) (hplain:(backTo cpos (starEach [] X.env)).any (·.1)=false:=by rfl) (hK:X.K=K:=by rfl) :
    FX K X (.Call (.Attribute (.Name x p) "pop" apos) [e] [] cpos) (popAtM i f):=FX.mk fun ρ d ρ' hf=>by
  subst hK
  unfold popAtM at hf
  split at hf
  · rename_i pp l k e1 e2
    split at hf
    · rename_i hk
      cases e3:seqIndex? k l.length with
      | none=>rw [e3] at hf;cases hf
      | some j=>
        cases e4:l[j]? with
        | none=>rw [e3] at hf;simp [e4] at hf
        | some dd=>
          rw [e3] at hf;simp [e4] at hf
          obtain ⟨hf1,hf2⟩:=hf
          subst hf1 hf2
          refine PE.imp (pe_bm PySem.F.plainAttrs_list PySem.F.slot_list_pop PySem.F.type_list_pop mt_popAt (pe_var hN hv hd hcd) (pa_cons (he.h ρ _ e2) pa_nil hs) hbase hfew hline hs hplain) fun σ H Q h_=>?_
          obtain ⟨F,r,q⟩:=h_
          obtain ⟨a,h1,h2,vs,h3,h4⟩:=r.own i _ _ e1
          refine ⟨_,h1,.inl ⟨rfl,vs,SqL.of h3⟩,F,r,fun v F1 H1 g1 r1=>?_⟩
          have rg:=r.grow g1
          obtain ⟨a',h1',h2',vs',h3',h4'⟩:=rg.own i _ _ e1
          rw [h1] at h1';cases h1'
          have ev:=Dat.int_inv (K:=X.K) (F:=F1) r1
          subst ev
          obtain ⟨w,h5,h6⟩:=h4'.get e4
          refine ⟨a,vs',k,j,w,rfl,rfl,h3',hk.1,hk.2,by rw [h4'.length];exact e3,h5,?_⟩
          obtain ⟨m1,m2⟩:=rg.mut (i:=i) (o:=.lst (vs'.eraseIdx j)) (d':=.lst (l.eraseIdx j)) e1 h1 ⟨_,upd_same,h4'.eraseIdx j⟩
          exact q _ _ _ m1 (g1.step.trans m2 r.sub) h6
    · cases hf
  · cases hf
noncomputable def dropX (m:En→Option (D×En)):En→Option Fl:=fun ρ=>(m ρ).map fun p=>.nx p.2
theorem sexprX {m:En→Option (D×En)}(he:FX K X e m) (hs:swapsWith e none pos.line X.env=pure false:=by rfl):FS K md X (.Expr e pos) (dropX m):=FS.mk fun ρ fl hf=>by
  unfold dropX at hf
  cases e1:m ρ with
  | none=>rw [e1] at hf;cases hf
  | some q1=>
    obtain ⟨d,ρ1⟩:=q1
    rw [e1] at hf;cases hf
    exact PS.imp (ps_expr (he.h ρ d ρ1 e1) hs) fun D σ H ⟨F,r,q⟩=>⟨F,r,fun v F1 H1 r1 s1 _=>q σ F1 H1 r1 s1⟩
noncomputable def asgX (m:En→Option (D×En)) (g:D→En→Option En):En→Option Fl:=fun ρ=>(m ρ).bind fun p=>(g p.1 p.2).map Fl.nx
theorem sasgX {m:En→Option (D×En)}{tg:Expr} {g:D→En→Option En}(he:FX K X e m) (hg:FG K X tg g) (hs:swapsWithSole [tg] e pos.line X.env=pure false:=by rfl) (hw:swappedStores [tg] e X.env=pure none:=by rfl)
    (h1:(assignEach [tg] X.env).map (·.2)=[assign tg X.env]:=by rfl):FS K md X (.Assign [tg] e pos) (asgX m g):=FS.mk fun ρ fl hf=>by
  unfold asgX at hf
  cases e1:m ρ with
  | none=>rw [e1] at hf;cases hf
  | some q1=>
    obtain ⟨d,ρ1⟩:=q1
    cases e2:g d ρ1 with
    | none=>rw [e1] at hf;simp [e2] at hf
    | some ρ2=>
      rw [e1] at hf;simp [e2] at hf;cases hf
      refine PS.imp (ps_asg (he.h ρ d ρ1 e1) (hg.h ρ1 d ρ2 e2) hs hw h1) fun D σ H ⟨F,r,q⟩=>⟨F,r,fun v F1 H1 r1 s1 h=>⟨F1,r1,h,fun σ2 r2 o2=>?_⟩⟩
      exact q σ2 F1 H1 r2 (s1.kp o2)
noncomputable def cmpX (pp:D→D→Option D) (m:En→Option (D×En)) (fb:En→Option D):En→Option (Bool×En):=fun ρ=>(m ρ).bind fun q=>(fb q.2).bind fun y=>match pp q.1 y with
  | some (.bl c)=>some (c,q.2)
  | _=>none
noncomputable def valX (m:En→Option (D×En)):En→Option (Bool×En):=fun ρ=>match m ρ with
  | some (.bl c,ρ1)=>some (c,ρ1)
  | _=>none
theorem mvalX {m:En→Option (D×En)}(h:FX K X e m) (he:∀ whole,isTrue e X.env whole=(do let v ← whole;standAt e.pos;holding [v] (truthy v)):=by intro _;rfl) :
    FT K X e (valX m):=FT.mk fun ρ c ρ' hf=>by
  unfold valX at hf
  split at hf
  · rename_i c' ρ1 e1
    cases hf
    exact PT.imp (pt_val (h.h ρ _ _ e1) he) fun σ H Q ⟨F,rl,q⟩=>⟨F,rl,fun v F' H' r' s' h=>⟨c,Dat.bl_inv (K:=K) (F:=F') h,q F' H' r' s'⟩⟩
  · cases hf
end
end FL
set_option Elab.async false
set_option linter.all false
set_option maxRecDepth 100000
namespace FL
open PySem PySem.Spec PyProof.Rows L2
noncomputable def whileM (t:En→Option (Bool×En)) (b:En→Option Fl):Nat→En→Option Fl
  | 0,_=>none
  | n + 1,ρ=>match t ρ with
    | some (true,ρ1)=>match b ρ1 with
      | some (.nx ρ2)=>whileM t b n ρ2
      | some (.ct ρ2)=>whileM t b n ρ2
      | some (.bk ρ2)=>some (.nx ρ2)
      | some (.rt d ρ2)=>some (.rt d ρ2)
      | none=>none
    | some (false,ρ1)=>some (.nx ρ1)
    | none=>none
section
variable {K:PySem.W.Frag}{md:Md} {X:Cx}{pos:Pos}
theorem PT.any {c:Expr}{ι:Type} {t:ι→TT}(h:∀ i,PT X c (t i)):PT X c (fun σ H Q=>∃ i,t i σ H Q):=fun pins s σ H Q I ⟨i,hi⟩=>h i pins s σ H Q I hi
theorem PSs.any {c:List Stmt}{ι:Type} {t:ι→TS}(h:∀ i,PSs X c (t i)):PSs X c (fun D σ H=>∃ i,t i D σ H):=fun pins s σ H D I ⟨i,hi⟩=>h i pins s σ H D I hi
theorem PE.any {c:Expr}{ι:Type} {t:ι→TE}(h:∀ i,PE X c (t i)):PE X c (fun σ H Q=>∃ i,t i σ H Q):=fun pins s σ H Q I ⟨i,hi⟩=>h i pins s σ H Q I hi
theorem PG.any {c:Expr}{ι:Type} {t:ι→TG}(h:∀ i,PG X c (t i)):PG X c (fun v σ H Q=>∃ i,t i v σ H Q):=fun pins s σ H v u Q I r ⟨i,hi⟩=>h i pins s σ H v u Q I r hi
theorem PIf.any {c:List Expr}{ι:Type} {t:ι→TT}(h:∀ i,PIf X c (t i)):PIf X c (fun σ H Q=>∃ i,t i σ H Q):=fun pins s σ H Q I ⟨i,hi⟩=>h i pins s σ H Q I hi
theorem swhile {c:Expr}{body:List Stmt} {t:En→Option (Bool×En)}{b:En→Option Fl} (n:Nat) (hp:PassesOwn (model X.prog X.w) X.A X.env X.xe) (hc:FT K X c t) (hb:FSs K md X body b):FS K md X (.While c body [] pos) (whileM t b n):=FS.mk fun ρ fl hf=>by
  have hc':=PT.any (X:=X) (c:=c) (t:=fun i:{ q:En×Bool×En // t q.1=some q.2 }=>rdT K i.1.1 i.1.2.1 i.1.2.2) fun i=>hc.h _ _ _ i.2
  have hb':=PSs.any (X:=X) (c:=body) (t:=fun i:{ q:En×Fl // b q.1=some q.2 }=>rdS K md i.1.1 i.1.2) fun i=>hb.h _ _ i.2
  refine PS.imp (ps_while hp hc' hb') fun D σ H h_=>?_
  obtain ⟨F,r,q⟩:=h_
  refine ⟨fun k σ1 H1=>∃ ρ1 F1,Rel K F1 H1 ρ1 σ1∧Step ρ σ F H ρ1 σ1 F1 H1∧whileM t b k ρ1=some fl,⟨n,ρ,F,r,(Grow.refl r.sub).step,hf⟩,?_⟩
  rintro k σ1 H1 ⟨ρ1,F1,r1,s1,e1⟩
  cases k with
  | zero=>simp [whileM] at e1
  | succ k=>
    simp only [whileM] at e1
    cases e2:t ρ1 with
    | none=>rw [e2] at e1;cases e1
    | some p=>
      obtain ⟨c1,ρ2⟩:=p
      rw [e2] at e1
      refine ⟨⟨(ρ1,c1,ρ2),e2⟩,F1,r1,fun F2 H2 r2 s2=>?_⟩
      have s12:=s1.trans s2 r.sub
      cases c1 with
      | false=>
        have e1:some (Fl.nx ρ2)=some fl:=e1
        cases e1
        exact iteF (q σ1 F2 H2 r2 s12)
      | true=>
        refine iteT ?_
        refine ⟨fun σ' H'=>∃ ρ3 F3,Rel K F3 H' ρ3 σ'∧Step ρ σ F H ρ3 σ' F3 H'∧whileM t b k ρ3=some fl,fun σ' H' z=>⟨k,Nat.lt_succ_self k,z⟩,?_⟩
        cases e3:b ρ2 with
        | none=>simp only [e3] at e1;cases e1
        | some fl2=>
          simp only [e3] at e1
          refine ⟨⟨(ρ2,fl2),e3⟩,F2,r2,?_⟩
          cases fl2 with
          | nx ρ3=>exact fun σ3 F3 H3 r3 s3=>⟨ρ3,F3,r3,s12.trans s3 r.sub,e1⟩
          | ct ρ3=>exact fun σ3 F3 H3 r3 s3=>⟨ρ3,F3,r3,s12.trans s3 r.sub,e1⟩
          | bk ρ3=>cases e1;exact fun σ3 F3 H3 r3 s3=>q σ3 F3 H3 r3 (s12.trans s3 r.sub)
          | rt d ρ3=>cases e1;exact fun v σ3 F3 H3 r3 s3 h=>q v σ3 F3 H3 r3 (s12.trans s3 r.sub) (ResR.back s12 r.sub h)
end
noncomputable def IterOk (K:PySem.W.Frag) (J:It) (F:Hp) (ds:List D):Prop:=∀ F2 H2,Same F F2→Same F2 H2→
  (∀ i,i < ds.length→J.go i H2)∧(∀ i x H3 d,ds[i]?=some d→J.yld i H2 x H3→∃ F3,Grow F2 H2 F3 H3∧Dat K F3 d x)∧J.stop ds.length H2
noncomputable def rdI (K:PySem.W.Frag) (ρ:En) (ds:List D):TI:=fun σ H R=>∃ F,Rel K F H ρ σ∧∀ J F' H',Grow F H F' H'→IterOk K J F' ds→R J H'
structure FI (K:PySem.W.Frag) (X:Cx) (tg iter:Expr) (f:En→Option (List D)):Prop where
  h:∀ ρ ds,f ρ=some ds→PI X tg iter (rdI K ρ ds)
theorem PI.imp {X:Cx}{tg iter:Expr} {t t':TI}(h:PI X tg iter t) (w:∀ σ H R,t' σ H R→t σ H R):PI X tg iter t':=fun pins s σ H R I ht=>h pins s σ H R I (w σ H R ht)
noncomputable def itS:D→Option (List D)
  | .lst l=>some l
  | .tup l=>some l
  | .scr l=>some (l.map D.int)
  | _=>none
noncomputable def cI (f:En→Option D):En→Option (List D):=fun ρ=>(f ρ).bind itS
theorem iter_list {K:PySem.W.Frag}{a:Addr} {F:Hp}{vs:List V} {ds:List D}(h:∀ F2 H2,Same F F2→Same F2 H2→SqL K H2 a vs) (q:DatL K F ds vs):IterOk K (Itl K a) F ds:=fun F2 H2 f2 h2=>by
  have hs:=h F2 H2 f2 h2
  have hl:=q.length
  refine ⟨fun i hi=>⟨vs,vs[i]'(by omega),hs,by simp⟩,fun i x H3 d hd y=>?_,⟨vs,hs,by omega⟩⟩
  obtain ⟨rfl,y⟩:=y
  obtain ⟨v,hv,dv⟩:=q.get hd
  rw [y vs hs] at hv;cases hv
  exact ⟨F2,Grow.refl h2,dv.mono f2⟩
theorem iter_tup {K:PySem.W.Frag}{a:Addr} {F:Hp}{vs:List V} {ds:List D}(h:F a=some (.tup vs)) (q:DatL K F ds vs):IterOk K (Itt K a) F ds:=fun F2 H2 f2 h2=>by
  have hs:SqT K H2 a vs:=SqT.of (h2 _ _ (f2 _ _ h))
  have hl:=q.length
  refine ⟨fun i hi=>⟨vs,vs[i]'(by omega),hs,by simp⟩,fun i x H3 d hd y=>?_,⟨vs,hs,by omega⟩⟩
  obtain ⟨rfl,y⟩:=y
  obtain ⟨v,hv,dv⟩:=q.get hd
  rw [y vs hs] at hv;cases hv
  exact ⟨F2,Grow.refl h2,dv.mono f2⟩
section
variable {K:PySem.W.Frag}{md:Md} {X:Cx}{pos:Pos} {tg l:Expr}{f:En→Option D}
theorem iseq (h:FP K .fz X l f) (hK:X.K=K:=by rfl):FI K X tg l (cI f):=FI.mk fun ρ ds hf=>by
  subst hK
  unfold cI at hf
  cases e1:f ρ with
  | none=>rw [e1] at hf;cases hf
  | some d=>
    rw [e1] at hf
    have hf:itS d=some ds:=hf
    cases d<;>simp only [itS] at hf<;>try (cases hf;done)
    · cases hf
      refine PI.imp (pi_tup (h.h ρ _ e1)) fun σ H R ⟨F,r,q⟩=>⟨F,r,fun v F1 H1 g1 r1=>?_⟩
      obtain ⟨a,vs,rfl,f1,q1⟩:=Dat.tup_inv (K:=X.K) (F:=F1) r1
      exact ⟨a,rfl,⟨vs,SqT.of (g1.fh _ _ f1)⟩,q _ F1 H1 g1 (iter_tup f1 q1)⟩
    · cases hf
      refine PI.imp (pi_list (h.h ρ _ e1)) fun σ H R ⟨F,r,q⟩=>⟨F,r,fun v F1 H1 g1 r1=>?_⟩
      obtain ⟨a,vs,rfl,f1,q1⟩:=Dat.lst_inv (K:=X.K) (F:=F1) r1
      exact ⟨a,rfl,⟨vs,SqL.of (g1.fh _ _ f1)⟩,q _ F1 H1 g1 (iter_list (fun F2 H2 a b=>SqL.of (b _ _ (a _ _ f1))) q1)⟩
    · cases hf
      refine PI.imp (pi_list (h.h ρ _ e1)) fun σ H R ⟨F,r,q⟩=>⟨F,r,fun v F1 H1 g1 r1=>?_⟩
      obtain ⟨a,rfl,f1⟩:=Dat.scr_inv (K:=X.K) (F:=F1) r1
      exact ⟨a,rfl,⟨_,Same.seq g1.fh f1⟩,q _ F1 H1 g1 (iter_list (fun F2 H2 a b=>Same.seq b (Same.seq a f1)) (DatL.ofInts _))⟩
noncomputable def rangeL (lo:Int) (n:Nat):List D:=(List.range n).map fun (k:Nat)=>D.int (lo + (k:Int))
theorem iter_range {lo:Int}{n:Nat} {F:Hp}:IterOk K (Itr lo n) F (rangeL lo n):=fun F2 H2 f2 h2=>by
  refine ⟨fun i hi=>(show i < n by simpa [rangeL] using hi),fun i x H3 d hd y=>?_,by simp [rangeL,Itr]⟩
  obtain ⟨rfl,rfl⟩:=y
  have:d=D.int (lo + (i:Int)):=by
    unfold rangeL at hd
    rw [List.getElem?_map] at hd
    cases e:(List.range n)[i]? with
    | none=>rw [e] at hd;cases hd
    | some k=>
      rw [e] at hd
      have:=(List.getElem?_eq_some_iff.mp e).2
      simp at this
      subst this
      exact (Option.some.inj hd).symm
  subst this
  exact ⟨F2,Grow.refl h2,Dat.int (K:=K) (F:=F2) _⟩
noncomputable def okRng (j:Int):Prop:=-(2 ^ 62)≤j∧j < 2 ^ 62
theorem okRng_of {j:Int}(h1:-4611686018427387904≤j) (h2:j < 4611686018427387904):okRng j:=⟨h1,h2⟩
open Classical in
noncomputable def rng1:D→Option (List D)
  | .int j=>if okRng j then some (rangeL 0 j.toNat) else none
  | _=>none
open Classical in
noncomputable def rng2:D→D→Option (List D)
  | .int i,.int j=>if okRng i∧okRng j then some (rangeL i (j - i).toNat) else none
  | _,_=>none
noncomputable def cR1 (f:En→Option D):En→Option (List D):=fun ρ=>(f ρ).bind rng1
noncomputable def cR2 (f g:En→Option D):En→Option (List D):=fun ρ=>(f ρ).bind fun x=>(g ρ).bind fun y=>rng2 x y
theorem irange1 {a:Expr}{p:Pos} (h:FP K .fz X a f) (hg:Gl X "range") (hm:X.mg "range" = none) (hs:starEach [a] X.env=[(false,eval a X.env)]:=by rfl):FI K X tg (.Call (.Name "range" p) [a] [] pos) (cR1 f):=FI.mk fun ρ ds hf=>by
  unfold cR1 at hf
  cases e1:f ρ with
  | none=>rw [e1] at hf;cases hf
  | some d=>
    rw [e1] at hf
    have hf:rng1 d=some ds:=hf
    cases d<;>simp only [rng1] at hf<;>try (cases hf;done)
    obtain ⟨hz,rfl⟩:=ite_some hf
    refine PI.imp (pi_range1 hg hm (pa_cons (h.h ρ _ e1) pa_nil hs) hs) fun σ H R ⟨F,r,q⟩=>⟨F,r,fun v F1 H1 g1 r1=>?_⟩
    have ev:=Dat.int_inv (K:=K) (F:=F1) r1
    subst ev
    exact ⟨_,rfl,hz.1,hz.2,q _ F1 H1 g1 iter_range⟩
theorem irange2 {a b:Expr}{p:Pos} {g:En→Option D}(h:FP K .fz X a f) (h':FP K .fz X b g) (hg:Gl X "range") (hm:X.mg "range" = none) (hs:starEach [a,b] X.env=[(false,eval a X.env),(false,eval b X.env)]:=by rfl) (hs2:starEach [b] X.env=[(false,eval b X.env)]:=by rfl) :
    FI K X tg (.Call (.Name "range" p) [a,b] [] pos) (cR2 f g):=FI.mk fun ρ ds hf=>by
  unfold cR2 at hf
  cases e1:f ρ with
  | none=>rw [e1] at hf;cases hf
  | some d=>
    cases e2:g ρ with
    | none=>rw [e1] at hf;simp [e2] at hf
    | some d2=>
      rw [e1] at hf
      simp only [Option.bind_some,e2] at hf
      cases d<;>cases d2<;>simp only [rng2] at hf<;>try (cases hf;done)
      obtain ⟨hz,rfl⟩:=ite_some hf
      refine PI.imp (pi_range2 hg hm (pa_cons (h.h ρ _ e1) (pa_cons (h'.h ρ _ e2) pa_nil hs2) (by rw [hs,hs2])) hs hs2) fun σ H R ⟨F,r,q⟩=>⟨F,r,fun v F1 H1 g1 r1=>⟨F1,r.grow g1,fun u F2 H2 g2 r2=>?_⟩⟩
      have ev:=Dat.int_inv (K:=K) (F:=F1) r1
      have eu:=Dat.int_inv (K:=K) (F:=F2) r2
      subst ev eu
      exact ⟨_,_,rfl,⟨hz.1.1,hz.1.2,hz.2.1,hz.2.2⟩,q _ F2 H2 (g1.trans g2) iter_range⟩
noncomputable def enumL:Nat→List D→List D
  | _,[]=>[]
  | k,d::l=>.tup [.int k,d]::enumL (k + 1) l
theorem enumL_get:∀ (k:Nat) (l:List D) (i:Nat) (d:D),(enumL k l)[i]?=some d→∃ x,l[i]?=some x∧d=.tup [.int ((k + i:Nat):Int),x]
  | _,[],i,d,h=>by simp [enumL] at h
  | k,x::l,0,d,h=>by simp [enumL] at h;exact ⟨x,rfl,by rw [← h];simp⟩
  | k,x::l,i + 1,d,h=>by
    obtain ⟨y,h1,h2⟩:=enumL_get (k + 1) l i d (by simpa [enumL] using h)
    exact ⟨y,by simpa using h1,by rw [h2,show k + 1 + i=k + (i + 1) by omega]⟩
theorem enumL_len:∀ (k:Nat) (l:List D),(enumL k l).length=l.length
  | _,[]=>rfl
  | k,_::l=>by simp [enumL,enumL_len (k + 1) l]
noncomputable def cEnT (f:En→Option D):En→Option (List D):=fun ρ=>match f ρ with
  | some (.tup l)=>some (enumL 0 l)
  | _=>none
theorem ienumT {elts:List Expr}{k:Nat} {tpos p:Pos}{a:Expr} (h:FP K .fz X a f) (hg:Gl X "enumerate") (hm:X.mg "enumerate" = none) (hs:starEach [a] X.env=[(false,eval a X.env)]:=by rfl) (hK:X.K=K:=by rfl) :
    FI K X (.Tuple elts k tpos) (.Call (.Name "enumerate" p) [a] [] pos) (cEnT f):=FI.mk fun ρ ds hf=>by
  subst hK
  unfold cEnT at hf
  split at hf
  · rename_i l e1
    cases hf
    refine PI.imp (pi_enumT hg hm (pa_cons (h.h ρ _ e1) pa_nil hs) hs) fun σ H R ⟨F,r,q⟩=>⟨F,r,fun v F1 H1 g1 r1=>?_⟩
    obtain ⟨a,vs,rfl,f1,q1⟩:=Dat.tup_inv (K:=X.K) (F:=F1) r1
    refine ⟨a,vs,rfl,SqT.of (g1.fh _ _ f1),q _ F1 H1 g1 fun F2 H2 a2 b2=>?_⟩
    have hs:SqT X.K H2 a vs:=SqT.of (b2 _ _ (a2 _ _ f1))
    have hl:=q1.length
    refine ⟨fun i hi=>?_,fun i x H3 d hd y=>?_,?_⟩
    · rw [enumL_len] at hi
      exact ⟨vs,vs[i]'(by omega),hs,by simp⟩
    · obtain ⟨x0,hx0,rfl⟩:=enumL_get 0 l i d hd
      obtain ⟨pp,vv,hpp,rfl,rfl,hv⟩:=y
      obtain ⟨w,hw,dw⟩:=q1.get hx0
      rw [hv vs hs] at hw;cases hw
      have g:=Grow.frozen (o:=.tup [.int (i:Int),vv]) b2 hpp
      refine ⟨_,g,Dat.tup (K:=X.K) upd_same ?_⟩
      rw [Nat.zero_add]
      exact DatL.cons (Dat.int (K:=X.K) _) (DatL.cons ((dw.mono a2).mono g.ff) DatL.nil)
    · rw [enumL_len]
      exact ⟨vs,hs,by omega⟩
  · cases hf
noncomputable def forM (g:D→En→Option En) (b:En→Option Fl):List D→En→Option Fl
  | [],ρ=>some (.nx ρ)
  | x::xs,ρ=>match g x ρ with
    | some ρ1=>match b ρ1 with
      | some (.nx ρ2)=>forM g b xs ρ2
      | some (.ct ρ2)=>forM g b xs ρ2
      | some (.bk ρ2)=>some (.nx ρ2)
      | some (.rt d ρ2)=>some (.rt d ρ2)
      | none=>none
    | none=>none
noncomputable def forS (fi:En→Option (List D)) (g:D→En→Option En) (b:En→Option Fl):En→Option Fl:=fun ρ=>(fi ρ).bind fun ds=>forM g b ds ρ
theorem sfor {iter:Expr}{body:List Stmt} {fi:En→Option (List D)}{g:D→En→Option En} {b:En→Option Fl}(hp:PassesOwn (model X.prog X.w) X.A X.env X.xe) (hc:X.calm=true) (hi:FI K X tg iter fi) (hg:FG K X tg g) (hb:FSs K md X body b)
    (hs:∀ x,foldedSetIterable iter X.env x=pure x:=by intro _;rfl):FS K md X (.For tg iter body [] pos) (forS fi g b):=FS.mk fun ρ fl hf=>by
  unfold forS at hf
  cases e1:fi ρ with
  | none=>rw [e1] at hf;cases hf
  | some ds=>
    rw [e1] at hf
    have hf:forM g b ds ρ=some fl:=hf
    have hg':=PG.any (X:=X) (c:=tg) (t:=fun i:{ q:En×D×En // g q.2.1 q.1=some q.2.2 }=>rdG K i.1.1 i.1.2.1 i.1.2.2) fun i=>hg.h _ _ _ i.2
    have hb':=PSs.any (X:=X) (c:=body) (t:=fun i:{ q:En×Fl // b q.1=some q.2 }=>rdS K md i.1.1 i.1.2) fun i=>hb.h _ _ i.2
    refine PS.imp (ps_for hp hc (hi.h ρ ds e1) hg' hb' hs) fun D σ H ⟨F,r,q⟩=>⟨F,r,fun J F0 H0 g0 ok=>?_⟩
    refine ⟨fun i k σ1 H1=>i≤ds.length∧k=ds.length - i∧∃ ρ1 F1,Rel K F1 H1 ρ1 σ1∧Step ρ σ F H ρ1 σ1 F1 H1∧Same F0 F1∧forM g b (ds.drop i) ρ1=some fl,
      ⟨ds.length,Nat.zero_le _,rfl,ρ,F0,r.grow g0,g0.step,Same.refl _,hf⟩,?_⟩
    rintro i k σ1 H1 ⟨hi,rfl,ρ1,F1,r1,s1,ff1,e2⟩
    obtain ⟨o1,o2,o3⟩:=ok F1 H1 ff1 r1.sub
    by_cases hlt:i < ds.length
    · rw [List.drop_eq_getElem_cons hlt] at e2
      simp only [forM] at e2
      refine .inr ⟨o1 i hlt,fun σ' H'=>i + 1≤ds.length∧∃ ρ3 F3,Rel K F3 H' ρ3 σ'∧Step ρ σ F H ρ3 σ' F3 H'∧Same F0 F3∧forM g b (ds.drop (i + 1)) ρ3=some fl,fun σ' H' ⟨z1,z2⟩=>⟨ds.length - (i + 1),by omega,z1,rfl,z2⟩,fun x H2 y=>?_⟩
      obtain ⟨F2,g2,d2⟩:=o2 i x H2 _ (List.getElem?_eq_getElem hlt) y
      have r2:=r1.grow g2
      have s2:=s1.trans (g2.step (ρ:=ρ1) (σ:=σ1)) r.sub
      cases e3:g ds[i] ρ1 with
      | none=>rw [e3] at e2;cases e2
      | some ρ2=>
        rw [e3] at e2
        refine ⟨⟨(ρ1,ds[i],ρ2),e3⟩,F2,r2,d2,fun σ2 r2' ow=>?_⟩
        have s2':Step ρ σ F H ρ2 σ2 F2 H2:=s2.kp ow
        cases e4:b ρ2 with
        | none=>simp only [e4] at e2;cases e2
        | some fl2=>
          simp only [e4] at e2
          refine ⟨⟨(ρ2,fl2),e4⟩,F2,r2',?_⟩
          cases fl2 with
          | nx ρ3=>exact fun σ3 F3 H3 r3 s3=>⟨hlt,ρ3,F3,r3,s2'.trans s3 r.sub,ff1.trans (g2.ff.trans s3.ff),e2⟩
          | ct ρ3=>exact fun σ3 F3 H3 r3 s3=>⟨hlt,ρ3,F3,r3,s2'.trans s3 r.sub,ff1.trans (g2.ff.trans s3.ff),e2⟩
          | bk ρ3=>cases e2;exact fun σ3 F3 H3 r3 s3=>q σ3 F3 H3 r3 (s2'.trans s3 r.sub)
          | rt d ρ3=>cases e2;exact fun v σ3 F3 H3 r3 s3 h=>q v σ3 F3 H3 r3 (s2'.trans s3 r.sub) (ResR.back s2' r.sub h)
    · have e:i=ds.length:=by omega
      subst e
      rw [List.drop_length] at e2
      have e2:some (Fl.nx ρ1)=some fl:=e2
      cases e2
      exact .inl ⟨o3,q σ1 F1 H1 r1 s1⟩
end
end FL
set_option Elab.async false
set_option linter.all false
set_option maxRecDepth 100000
namespace FL
open PySem PySem.Spec PyProof.Rows L2
noncomputable def bors:Option Sl→Option Sl
  | some (.ow _ d)=>some (.bor d)
  | s=>s
noncomputable def st0E (cap:List (Option Nat)) (ρ:En):En:=cap.map fun o=>match o with
  | some j=>bors ((ρ[j]?).getD none)
  | none=>none
theorem st0E_get {cap:List (Option Nat)}{ρ:En} {i:Nat}{s:Sl} (h:(st0E cap ρ)[i]?=some (some s)):∃ j s0,cap[i]?=some (some j)∧ρ[j]?=some (some s0)∧bors (some s0)=some s:=by
  unfold st0E at h
  rw [List.getElem?_map] at h
  cases e:cap[i]? with
  | none=>rw [e] at h;cases h
  | some o=>
    rw [e] at h
    cases o with
    | none=>cases h
    | some j=>
      have h:bors ((ρ[j]?).getD none)=some s:=Option.some.inj h
      cases e2:ρ[j]? with
      | none=>rw [e2] at h;cases h
      | some o2=>
        rw [e2] at h
        cases o2 with
        | none=>cases h
        | some s0=>exact ⟨j,s0,rfl,e2,h⟩
theorem st0_get {cap:List (Option Nat)}{σ:St} {i j:Nat}{v:V} (h:cap[i]?=some (some j)) (e:σ[j]?=some (some v)):(st0 cap σ)[i]?=some (some v):=by
  unfold st0
  rw [List.getElem?_map,h]
  simp [e]
theorem Rel.inner {K:PySem.W.Frag}{F H:Hp} {ρ:En}{σ:St} {cap:List (Option Nat)}(r:Rel K F H ρ σ):Rel K F H (st0E cap ρ) (st0 cap σ):=by
  refine ⟨r.sub,fun i d h=>?_,fun i d h=>?_,fun i q d h=>?_,fun i j q d s a ne h1=>?_,by simp [st0E,st0]⟩
  · obtain ⟨j,s0,e1,e2,e3⟩:=st0E_get h
    cases s0<;>simp [bors] at e3
    subst e3
    obtain ⟨v,h1,h2⟩:=r.dat j _ e2
    exact ⟨v,st0_get e1 h1,h2⟩
  · obtain ⟨j,s0,e1,e2,e3⟩:=st0E_get h
    cases s0<;>simp [bors] at e3<;>subst e3
    · obtain ⟨a,h1,_,h2⟩:=r.own j _ _ e2
      exact ⟨_,st0_get e1 h1,h2.b⟩
    · obtain ⟨v,h1,h2⟩:=r.bor j _ e2
      exact ⟨v,st0_get e1 h1,h2⟩
  · obtain ⟨j,s0,e1,e2,e3⟩:=st0E_get h
    cases s0<;>simp [bors] at e3
  · obtain ⟨j,s0,e1,e2,e3⟩:=st0E_get h1
    cases s0<;>simp [bors] at e3
noncomputable def compM (g:D→En→Option En) (t:En→Option Bool) (f:En→Option D) (ρi:En):List D→Option (List D)
  | []=>some []
  | x::xs=>(g x ρi).bind fun ρ1=>(t ρ1).bind fun b=>if b=true then (f ρ1).bind fun d=>(compM g t f ρi xs).map fun l=>d::l else compM g t f ρi xs
noncomputable def compE (cap:List (Option Nat)) (fi:En→Option (List D)) (g:D→En→Option En) (t:En→Option Bool) (f:En→Option D):En→Option D:=fun ρ=>(fi ρ).bind fun ds=>if ds.length≤lim then (compM g t f (st0E cap ρ) ds).map D.lst else none
structure rdIf (K:PySem.W.Frag) (X:Cx) (ifs:List Expr) (t:En→Option Bool):Prop where
  h:∀ ρ b,t ρ=some b→PIf X ifs (rdTp K ρ b)
noncomputable def yesP:En→Option Bool:=fun _=>some true
theorem pif0 {K:PySem.W.Frag}{X:Cx}:rdIf K X [] yesP:=rdIf.mk fun ρ b h=>by
  cases h
  intro pins s σ H Q I ⟨F,r,q⟩
  exact pif_nil pins s σ H Q I (q F H (Grow.refl r.sub))
theorem pif1 {K:PySem.W.Frag}{X:Cx} {c:Expr}{t:En→Option Bool} (h:FTp K X c t):rdIf K X [c] t:=rdIf.mk fun ρ b hf=>pif_one (h.h ρ b hf)
section
variable {K:PySem.W.Frag}{md:Md} {X:Cx}{pos:Pos} {tg iter elt:Expr}{ifs:List Expr} {scope:Scope}
theorem comp_rd {cap:List (Option Nat)}{g:D→En→Option En} {t:En→Option Bool}{f:En→Option D} {ρ:En}{ds rs:List D} {σ:St}{H F:Hp} {Q:VK}(hm:compM g t f (st0E cap ρ) ds=some rs) (hn:ds.length≤lim)
    (r:Rel K F H ρ σ) (q:∀ v F' H',Grow F H F' H'→Res K .ow H F' H' (.lst rs) v→Q v H') {J:It}{F1 H1:Hp} (g1:Grow F H F1 H1) (ok:IterOk K J F1 ds) :
    wComp K J (fun v σ H Q=>∃ i:{ q:En×D×En // g q.2.1 q.1=some q.2.2 },rdG K i.1.1 i.1.2.1 i.1.2.2 v σ H Q) (fun σ H Q=>∃ i:{ q:En×Bool // t q.1=some q.2 },rdTp K i.1.1 i.1.2 σ H Q) (fun σ H Q=>∃ i:{ q:En×D // f q.1=some q.2 },rdE K .fz i.1.1 i.1.2 σ H Q) cap σ H1 Q:=by
  intro a ha
  refine ⟨fun i m H2=>∃ acc,i≤ds.length∧m=ds.length - i∧∃ F2 done left,Grow F H F2 H2∧Same F1 F2∧(∀ b o,H1 b=some o→H2 b=some o)∧F2 a=none∧H2 a=some (.lst acc)∧DatL K F2 done acc∧acc.length≤i∧compM g t f (st0E cap ρ) (ds.drop i)=some left∧rs=done++left,
    ⟨ds.length,[],Nat.zero_le _,rfl,F1,[],rs,⟨g1.ff,g1.hh.trans (same_new ha _),g1.fh.trans (same_new ha _),g1.nw⟩,Same.refl _,fun b o e=>same_new ha _ _ _ e,g1.fh.free ha,upd_same,DatL.nil,Nat.zero_le _,hm,rfl⟩,?_⟩
  rintro i m H2 ⟨acc,hi,rfl,F2,done,left,g2,ff,hh,fa,hd,da,al,e1,e2⟩
  obtain ⟨o1,o2,o3⟩:=ok F2 H2 ff g2.fh
  by_cases hlt:i < ds.length
  · refine .inr ⟨o1 i hlt,fun x H3 y=>?_⟩
    obtain ⟨F3,g3,d3⟩:=o2 i x H3 _ (List.getElem?_eq_getElem hlt) y
    rw [List.drop_eq_getElem_cons hlt] at e1
    simp only [compM] at e1
    have g23:=g2.trans g3
    have hd3:=g3.hh _ _ hd
    have fa3:=g3.nw a _ hd fa
    cases e3:g ds[i] (st0E cap ρ) with
    | none=>rw [e3] at e1;cases e1
    | some ρ1=>
      simp only [e3,Option.bind_some] at e1
      refine ⟨⟨(st0E cap ρ,ds[i],ρ1),e3⟩,F3,(r.grow g23).inner,d3,fun σ2 r2 _=>?_⟩
      cases e4:t ρ1 with
      | none=>rw [e4] at e1;cases e1
      | some b=>
        simp only [e4,Option.bind_some] at e1
        refine ⟨⟨(ρ1,b),e4⟩,F3,r2,fun F4 H4 g4=>?_⟩
        have g24:=g23.trans g4
        have hd4:=g4.hh _ _ hd3
        have fa4:=g4.nw a _ hd3 fa3
        have ff4:Same F1 F4:=ff.trans (g3.ff.trans g4.ff)
        have hh4:∀ c o,H1 c=some o→H4 c=some o:=fun c o e=>g4.hh _ _ (g3.hh _ _ (hh c o e))
        cases b with
        | false=>
          rw [if_neg Bool.false_ne_true] at e1
          exact iteF ⟨ds.length - (i + 1),by omega,acc,hlt,rfl,F4,done,left,g24,ff4,hh4,fa4,hd4,da.mono (g3.ff.trans g4.ff),by omega,e1,e2⟩
        | true=>
          rw [if_pos rfl] at e1
          refine iteT ?_
          cases e5:f ρ1 with
          | none=>rw [e5] at e1;cases e1
          | some d=>
            simp only [e5,Option.bind_some] at e1
            cases e6:compM g t f (st0E cap ρ) (ds.drop (i + 1)) with
            | none=>rw [e6] at e1;cases e1
            | some l=>
              rw [e6] at e1;cases e1
              refine ⟨⟨(ρ1,d),e5⟩,F4,r2.grow g4,fun v F5 H5 g5 d5=>?_⟩
              have g25:=g24.trans g5
              have hd5:=g5.hh _ _ hd4
              have fa5:=g5.nw a _ hd4 fa4
              have haH:H a=none:=g1.hh.free ha
              refine ⟨acc,hd5,lim_lt (by omega),ds.length - (i + 1),by omega,_,hlt,rfl,F5,done++[d],l,?_,ff4.trans g5.ff,fun c o e=>?_,fa5,upd_same,?_,by rw [List.length_append,List.length_singleton];omega,e6,by rw [e2];simp⟩
              · refine ⟨g25.ff,fun c o e=>?_,fun c o e=>?_,g25.nw⟩
                · rw [upd_ne (ne_of_none e haH)];exact g25.hh _ _ e
                · rw [upd_ne (ne_of_none e fa5)];exact g25.fh _ _ e
              · rw [upd_ne (ne_of_none e ha)];exact g5.hh _ _ (hh4 c o e)
              · exact (da.mono (g3.ff.trans (g4.ff.trans g5.ff))).snoc d5
  · have e:i=ds.length:=by omega
    subst e
    rw [List.drop_length] at e1
    have e1:some []=some left:=e1
    cases e1
    rw [List.append_nil] at e2
    subst e2
    exact .inl ⟨o3,q _ F2 H2 g2 ⟨a,rfl,g1.hh.free ha,fa,acc,hd,da⟩⟩
theorem compE_some {cap:List (Option Nat)}{fi:En→Option (List D)} {g:D→En→Option En}{t:En→Option Bool} {f:En→Option D}{ρ:En} {d:D}(h:compE cap fi g t f ρ=some d):∃ ds rs,fi ρ=some ds∧ds.length≤lim∧compM g t f (st0E cap ρ) ds=some rs∧d=.lst rs:=by
  unfold compE at h
  cases e1:fi ρ with
  | none=>rw [e1] at h;cases h
  | some ds=>
    rw [e1] at h
    simp only [Option.bind_some] at h
    split at h
    · rename_i hz
      cases e2:compM g t f (st0E cap ρ) ds with
      | none=>rw [e2] at h;cases h
      | some rs=>rw [e2] at h;cases h;exact ⟨ds,rs,rfl,hz,e2,rfl⟩
    · cases h
theorem fcomp {fi:En→Option (List D)}{g:D→En→Option En} {t:En→Option Bool}{f:En→Option D} (N:List Str) (cap:List (Option Nat)) (cp:Cap X scope N cap) (hc:X.calm=true) (hi:FI K X tg iter fi)
    (hg:∀ C s0 H0 fp,FG K (cxComp X N scope (clOf X.env scope.names []) C s0 H0 fp) tg g) (ht:∀ C s0 H0 fp,rdIf K (cxComp X N scope (clOf X.env scope.names []) C s0 H0 fp) ifs t) (he:∀ C s0 H0 fp,FP K .fz (cxComp X N scope (clOf X.env scope.names []) C s0 H0 fp) elt f)
    (S:CompSc X scope:=by exact CompSc.mk') (hs:∀ x,foldedSetIterable iter X.env x=pure x:=by intro _;rfl) (hK:X.K=K:=by rfl) :
    FP K .ow X (.ListComp elt [⟨tg,iter,ifs,0⟩] scope pos) (compE cap fi g t f):=FP.mk fun ρ d hf=>by
  subst hK
  obtain ⟨ds,rs,e1,hz,e2,rfl⟩:=compE_some hf
  refine PE.imp (pe_comp N cap cp hc (hi.h ρ ds e1) (fun C s0 H0 fp=>PG.any fun i:{ q:En×D×En // g q.2.1 q.1=some q.2.2 }=>(hg C s0 H0 fp).h _ _ _ i.2) (fun C s0 H0 fp=>PIf.any fun i:{ q:En×Bool // t q.1=some q.2 }=>(ht C s0 H0 fp).h _ _ i.2)
    (fun C s0 H0 fp=>PE.any fun i:{ q:En×D // f q.1=some q.2 }=>(he C s0 H0 fp).h _ _ i.2) S hs) fun σ H Q ⟨F,r,q⟩=>?_
  exact ⟨F,r,fun J F1 H1 g1 ok=>comp_rd e2 hz r q g1 ok⟩
theorem ssetC (k:Nat) {y:Str}{py spos:Pos} {fi:En→Option (List D)}{g:D→En→Option En} {t:En→Option Bool}{f:En→Option D} (N:List Str) (cap:List (Option Nat)) (cp:Cap X scope N cap) (hc:X.calm=true) (hN:X.N.Nodup) (hi:FI K X tg iter fi)
    (hg:∀ C s0 H0 fp,FG K (cxComp X N scope (clOf X.env scope.names []) C s0 H0 fp) tg g) (ht:∀ C s0 H0 fp,rdIf K (cxComp X N scope (clOf X.env scope.names []) C s0 H0 fp) ifs t) (he:∀ C s0 H0 fp,FP K .fz (cxComp X N scope (clOf X.env scope.names []) C s0 H0 fp) elt f)
    (hk:X.N[k]?=some y:=by rfl) (hy:Loc X.env.scope y:=by first | exact Or.inl rfl | exact Or.inr rfl) (S:CompSc X scope:=by exact CompSc.mk') (hs:∀ x,foldedSetIterable iter X.env x=pure x:=by intro _;rfl)
    (hsw:swapsWith (.ListComp elt [⟨tg,iter,ifs,0⟩] scope pos) (some (.Name y py)) spos.line X.env=pure true:=by rfl)
    (hf:X.fn y=true∨X.env.scope.names.lookup y=some .local:=by first | exact .inl rfl | exact .inr rfl | assumption) (hK:X.K=K:=by rfl) :
    FS K md X (.Assign [.Name y py] (.ListComp elt [⟨tg,iter,ifs,0⟩] scope pos) spos) (setM k (compE cap fi g t f)):=FS.mk fun ρ fl hm=>by
  subst hK
  unfold setM at hm
  cases e0:compE cap fi g t f ρ with
  | none=>rw [e0] at hm;cases hm
  | some d=>
    rw [e0] at hm;cases hm
    obtain ⟨ds,rs,e1,hz,e2,rfl⟩:=compE_some e0
    refine PS.imp (ps_setComp N cap cp hc hN hk hy (hi.h ρ ds e1) (fun C s0 H0 fp=>PG.any fun i:{ q:En×D×En // g q.2.1 q.1=some q.2.2 }=>(hg C s0 H0 fp).h _ _ _ i.2) (fun C s0 H0 fp=>PIf.any fun i:{ q:En×Bool // t q.1=some q.2 }=>(ht C s0 H0 fp).h _ _ i.2)
      (fun C s0 H0 fp=>PE.any fun i:{ q:En×D // f q.1=some q.2 }=>(he C s0 H0 fp).h _ _ i.2) S hs hsw hf) fun D σ H ⟨F,r,q⟩=>?_
    refine ⟨F,r,fun J F1 H1 g1 ok=>comp_rd e2 hz r (fun v F2 H2 g2 h=>?_) g1 ok⟩
    obtain ⟨a0,ea,z1,z2,z3⟩:=h
    obtain ⟨F3,g3,h3⟩:=Res.fz_of_ow g2 ⟨a0,ea,z1,z2,z3⟩ ea z3.fl
    have s3:=g3.step (ρ:=ρ) (σ:=σ)
    exact q _ F3 H2 ((r.grow g3).setD h3) (s3.kp Kp.setD)
end
noncomputable def SpD (K:PySem.W.Frag) (md:Md) (m:List D→Option D):Sp:=fun vs H Q _=>∃ F ds d,Same F H∧DatL K F ds vs∧m ds=some d∧∀ v F' H',Grow F H F' H'→Res K md H F' H' d v→Q v H'
section
variable {P:Program}{w:World} {K:PySem.W.Frag}{mg:Str→Option Value} {base:Heap}{md:Md} {X:Cx}{k:Nat} {f:Addr}{fd:FuncData} {ps:List Str}{m:List D→Option D} {x:Str}{e:Expr} {es:List Expr}{fs:En→Option (List D)} {p pos:Pos}
theorem fcall (F:FnOk X.prog X.w X.K X.mg X.base CX0 k f fd ps (SpD K md m)) (hr:Room k X.A) (hg:Gl X x) (hm:X.mg x=some (.ref f)) (hk:PySem.W.keepIn X.K (.ref f)=true) (hb:Binds X.K fd ps []) (ha:FPs K true X (e::es) fs)
    (H1:∀ {t:TA},PA X (e::es) t→PE X (.Call (.Name x p) (e::es) [] pos) (tCall (SpD K md m) [] E0 t):=by exact fun ha=>pe_call ‹_› ‹_› ‹_› ‹_› ‹_› ‹_› .nil pass0 ha) :
    FP K md X (.Call (.Name x p) (e::es) [] pos) (cL m fs):=FP.mk fun ρ d hf=>by
  obtain ⟨l,e1,e2⟩:=cL_some hf
  refine PE.imp (H1 (ha.h ρ l e1)) fun σ H Q ⟨F,r,q⟩=>⟨F,r,fun vs F1 H1 g1 r1=>?_⟩
  refine ⟨F1,l,d,g1.fh,by rw [List.append_nil];exact r1,e2,fun v F2 H2 g2 h2=>q v F2 H2 (g1.trans g2) ?_⟩
  cases md with
  | fz=>exact h2
  | br=>exact h2
  | ow=>
    obtain ⟨a,e,h3,h4,h5⟩:=h2
    exact ⟨a,e,g1.hh.free h3,h4,h5⟩
noncomputable def startD (n:Nat) (ds:List D):En:=ds.map (fun d=>some (.dat d))++List.replicate (n - ds.length) none
theorem Rel.start {N:List Str}{F H:Hp} {ds:List D}{vs:List V} (s:Same F H) (q:DatL K F ds vs):Rel K F H (startD N.length ds) (L2.start N vs):=by
  have hl:=q.length
  have key:∀ (i:Nat) s,(startD N.length ds)[i]?=some (some s)→∃ d,s=.dat d∧ds[i]?=some d:=fun i s h=>by
    unfold startD at h
    by_cases hi:i < ds.length
    · rw [List.getElem?_append_left (by simpa using hi),List.getElem?_map,List.getElem?_eq_getElem hi] at h
      cases h
      exact ⟨_,rfl,List.getElem?_eq_getElem hi⟩
    · rw [List.getElem?_append_right (by simpa using hi)] at h
      rw [List.getElem?_replicate] at h
      split at h<;>cases h
  refine ⟨s,fun i d h=>?_,fun i d h=>?_,fun i q d h=>?_,fun i j q d s a ne h1=>?_,?_⟩
  · obtain ⟨d',e,hd⟩:=key i _ h
    cases e
    obtain ⟨v,hv,dv⟩:=q.get hd
    refine ⟨v,?_,dv⟩
    unfold L2.start
    have hi:i < vs.length:=(List.getElem?_eq_some_iff.mp hv).1
    rw [List.getElem?_append_left (by simpa using hi),List.getElem?_map,hv];rfl
  · obtain ⟨d',e,_⟩:=key i _ h;cases e
  · obtain ⟨d',e,_⟩:=key i _ h;cases e
  · obtain ⟨d',e,_⟩:=key i _ h1;cases e
  · unfold startD L2.start;simp [hl]
theorem start_noown {n:Nat}{ds:List D} {σ:St}{b:Addr} (h:Owned (startD n ds) σ b):False:=by
  obtain ⟨i,q,d,h,_⟩:=h
  unfold startD at h
  by_cases hi:i < ds.length
  · rw [List.getElem?_append_left (by simpa using hi),List.getElem?_map,List.getElem?_eq_getElem hi] at h
    cases h
  · rw [List.getElem?_append_right (by simpa using hi)] at h
    rw [List.getElem?_replicate] at h
    split at h<;>cases h
theorem Step.grow {n:Nat}{ds:List D} {ρ':En}{σ σ':St} {F H F' H':Hp}(a:Step (startD n ds) σ F H ρ' σ' F' H') (s:Same F H):Grow F H F' H':=by
  refine ⟨a.ff,fun b o e=>?_,a.fh,fun b o e n=>(a.rest b o e n start_noown).2⟩
  cases q:F b with
  | some u=>
    have:=s _ _ q
    rw [e] at this;cases this
    exact a.fh _ _ (a.ff _ _ q)
  | none=>exact (a.rest b o e q start_noown).1
theorem fn_mk {qual:Str}{st:Stmt} {N:List Str}(Fn:Fun K x qual st f fd) (S:FnScope N ps (defScope st)) {mb:Nat→En→Option Fl}
    (hb:∀ (n:Nat) (cdv:Value) (A:Around) (outer:List Env) (s:Shared) (H:Hp) (E:XK),Room k (A.deeper (envOfC qual (defScope st) s.heap.objs.size f cdv))→FSs K md (cxOf CX0 P w K mg base N qual (defScope st) f cdv A outer s H E).nox (defBody st) (mb n))
    (hm:∀ ds d,m ds=some d→ds.length=ps.length∧∃ n,(∃ ρ',mb n (startD N.length ds)=some (.rt d ρ'))∨(d=.non∧md=.fz∧∃ ρ',mb n (startD N.length ds)=some (.nx ρ'))):FnOk P w K mg base CX0 (k + 1) f fd ps (SpD K md m):=by
  refine Fn.ok S (fun vs H Q E h=>?_) (fun cdv A outer s H vs Q E hr h=>?_)
  · obtain ⟨F,ds,d,_,q,e,_⟩:=h
    rw [q.length];exact (hm ds d e).1
  obtain ⟨F,ds,d,sub,qd,e,k⟩:=h
  obtain ⟨_,n,h⟩:=hm ds d e
  rcases h with ⟨ρ',h⟩ | ⟨rfl,rfl,ρ',h⟩
  · refine ⟨_,(hb n cdv A outer s H E hr).h _ _ h,F,Rel.start sub qd,fun v σ' F' H' r' s' res=>?_⟩
    refine k v F' H' (s'.grow sub) ?_
    cases md with
    | fz=>exact res
    | br=>exact res.elim
    | ow=>
      obtain ⟨a,ea,h1,h2,h3⟩:=res
      refine ⟨a,ea,?_,h2,h3⟩
      rcases h1 with h1 | h1
      · exact h1
      · exact (start_noown h1).elim
  · refine ⟨_,(hb n cdv A outer s H E hr).h _ _ h,F,Rel.start sub qd,fun σ' F' H' r' s'=>?_⟩
    exact k _ F' H' (s'.grow sub) (Dat.non (K:=K) (F:=F'))
end
end FL
set_option Elab.async false
set_option linter.all false
set_option maxRecDepth 100000
namespace FL
open PySem PySem.Spec PyProof.Rows L2
theorem u100 {k:Nat}{A:Around} (hr:Room k A):A.units + 100 < cLine:=by have:=hr.un;omega
theorem u101 {k:Nat}{A:Around} (hr:Room k A):A.units + 101 < cLine:=by have:=hr.un;omega
structure Glb (mg:Str→Option Value):Prop where
  isi:mg "isinstance" = none
  str:mg "str" = none
  tuple:mg "tuple" = none
  list:mg "list" = none
  int:mg "int" = none
  bool:mg "bool" = none
  dict:mg "dict" = none
  len:mg "len" = none
  range:mg "range" = none
  enum:mg "enumerate" = none
  sum:mg "sum" = none
  max:mg "max" = none
  min:mg "min" = none
  abs:mg "abs" = none
  zip:mg "zip" = none
  reversed:mg "reversed" = none
  sorted:mg "sorted" = none
  set:mg "set" = none
  any:mg "any" = none
  all:mg "all" = none
structure Fk (P:Program) (w:World) (K:PySem.W.Frag) (mg:Str→Option Value) (base:Heap) (x:Str) (ps:List Str) (md:Md) (k:Nat) (m:List D→Option D):Prop where
  ex:∃ f fd,FnOk P w K mg base CX0 k f fd ps (SpD K md m)∧Binds K fd ps []∧PySem.W.keepIn K (.ref f)=true∧mg x=some (.ref f)
section
variable {P:Program}{w:World} {K:PySem.W.Frag}{mg:Str→Option Value} {base:Heap}{md:Md} {X:Cx}{k j:Nat} {ps:List Str}{m m':List D→Option D} {x:Str}{e:Expr} {es:List Expr}{fs:En→Option (List D)} {p pos:Pos}
theorem fk (G:Fk X.prog X.w X.K X.mg X.base x ps md k m) (hr:Room j X.A) (ha:FPs K true X (e::es) fs) (hle:k≤j:=by first | decide | omega) (hg:Gl X x:=by rfl) (hK:X.K=K:=by rfl)
    (H1:∀ {f:Addr}{fd:FuncData} {t:TA},FnOk X.prog X.w X.K X.mg X.base CX0 k f fd ps (SpD K md m)→Room k X.A→Gl X x→X.mg x=some (.ref f)→PySem.W.keepIn X.K (.ref f)=true→Binds X.K fd ps []→PA X (e::es) t→PE X (.Call (.Name x p) (e::es) [] pos) (tCall (SpD K md m) [] E0 t):=by
      exact fun F hr hg hm hk hb ha=>pe_call F hr hg hm hk hb .nil pass0 ha) :
    FP K md X (.Call (.Name x p) (e::es) [] pos) (cL m fs):=by
  subst hK
  obtain ⟨f,fd,F,hb,hk,hm⟩:=G.ex
  exact fcall F (hr.mono hle) hg hm hk hb ha fun ha=>H1 F (hr.mono hle) hg hm hk hb ha
theorem Fk.mono (G:Fk P w K mg base x ps md k m) (h:k≤j):Fk P w K mg base x ps md j m:=by
  obtain ⟨f,fd,F,r⟩:=G.ex
  exact ⟨f,fd,F.mono h,r⟩
theorem Fk.never {f:Addr}{fd:FuncData} (h:Binds K fd ps []∧PySem.W.keepIn K (.ref f)=true∧mg x=some (.ref f)) (hm:∀ ds,m ds=none):Fk P w K mg base x ps md 0 m:=by
  refine ⟨f,fd,⟨fun vs H Q E h=>?_,fun A outer s H args us vs Q E _ _ _ _ h=>?_⟩,h⟩
  · obtain ⟨F,ds,d,_,_,e,_⟩:=h;rw [hm] at e;cases e
  · obtain ⟨F,ds,d,_,_,e,_⟩:=h;rw [hm] at e;cases e
noncomputable def strsOf:List D→Option (List Str)
  | []=>some []
  | .str i::l=>(strsOf l).map (i::·)
  | _::_=>none
theorem strsOf_some:∀ {l:List D}{ns:List Str},strsOf l=some ns→l=ns.map D.str
  | [],ns,h=>by simp [strsOf] at h;subst h;rfl
  | .str i::l,ns,h=>by
    simp only [strsOf] at h
    cases e:strsOf l with
    | none=>rw [e] at h;cases h
    | some ms=>rw [e] at h;cases h;rw [strsOf_some e];rfl
  | .non::_,_,h=>by simp [strsOf] at h
  | .bl _::_,_,h=>by simp [strsOf] at h
  | .int _::_,_,h=>by simp [strsOf] at h
  | .tup _::_,_,h=>by simp [strsOf] at h
  | .lst _::_,_,h=>by simp [strsOf] at h
  | .scr _::_,_,h=>by simp [strsOf] at h
  | .dic _ _::_,_,h=>by simp [strsOf] at h
  | .set _::_,_,h=>by simp [strsOf] at h
  | .exc _ _::_,_,h=>by simp [strsOf] at h
theorem strsOf_map:∀ (ns:List Str),strsOf (ns.map D.str)=some ns
  | []=>rfl
  | n::ns=>by rw [List.map_cons,strsOf,strsOf_map ns];rfl
noncomputable def joinD:D→D→Option D
  | .str sep,.lst l=>(strsOf l).bind fun ys=>if (ys.map (·.length)).sum + ys.length * sep.length≤16777216 then some (.str (Txt.join sep ys)) else none
  | _,_=>none
theorem fjoin {a o:Expr}{fo fa:En→Option D} {apos cpos:Pos}(ho:FP K .fz X o fo) (ha:FP K .br X a fa) (hbase:attributeBase o "join" X.env (eval o X.env)=eval o X.env:=by rfl)
    (hfew:((backTo cpos (starEach [a] X.env)).all (fun x=>!x.1) && (backToKw cpos (keywordEach [] X.env)).all (fun x=>x.1.isSome) && decide (([a]:List Expr).length + ([]:List Keyword).length + (if ([]:List Keyword).isEmpty then 0 else 1) < 30))=true:=by rfl)
    (hline:(apos.endLine == cpos.line)=true:=by rfl) (hs:starEach [a] X.env=(false,eval a X.env)::starEach [] X.env:=by rfl) (hplain:(backTo cpos (starEach [] X.env)).any (·.1)=false:=by rfl) (hK:X.K=K:=by rfl) :
    FP K .fz X (.Call (.Attribute o "join" apos) [a] [] cpos) (c2 joinD fo fa):=FP.mk fun ρ d hf=>by
  subst hK
  obtain ⟨x,y,e1,e2,e3⟩:=c2_some hf
  unfold joinD at e3
  split at e3
  · rename_i sep l
    cases e4:strsOf l with
    | none=>rw [e4] at e3;cases e3
    | some ys=>
      rw [e4] at e3
      obtain ⟨hz,rfl⟩:=ite_some e3
      rw [strsOf_some e4] at e2
      refine PE.imp (pe_bm PySem.F.plainAttrs_str PySem.F.slot_str_join PySem.F.type_str_join mt_join (ho.h ρ _ e1) (pa_cons (ha.h ρ _ e2) pa_nil hs) hbase hfew hline hs hplain) fun σ H Q ⟨F,r,q⟩=>⟨F,r,fun v F1 H1 g1 r1=>?_⟩
      have ev:=Dat.str_inv (K:=X.K) (F:=F1) r1
      subst ev
      refine ⟨rfl,F1,r.grow g1,fun u F2 H2 g2 r2=>?_⟩
      obtain ⟨a,vs,rfl,f,qq⟩:=DatB.lst_inv r2
      rw [qq.strs] at f
      exact ⟨sep,a,ys,rfl,rfl,SqL.of f,hz,fun z ez=>by subst ez;exact q _ F2 H2 (g1.trans g2) (Res.str _)⟩
  · cases e3
end
noncomputable def FUEL:Nat:=1000000000
noncomputable def runF (mb:En→Option Fl) (np nn:Nat) (ds:List D):Option D:=if ds.length=np then (match mb (startD nn ds) with
  | some (.rt d _)=>some d
  | _=>none) else none
theorem runF_hm {mb:Nat→En→Option Fl}{np nn:Nat} {md:Md}:∀ ds d,runF (mb FUEL) np nn ds=some d→ds.length=np∧∃ n,(∃ ρ',mb n (startD nn ds)=some (.rt d ρ'))∨(d=.non∧md=.fz∧∃ ρ',mb n (startD nn ds)=some (.nx ρ')):=fun ds d h=>by
  unfold runF at h
  split at h
  · rename_i hl
    refine ⟨hl,FUEL,.inl ?_⟩
    split at h
    · rename_i d' ρ' e;cases h;exact ⟨ρ',e⟩
    · cases h
  · cases h
theorem walkD {l:PySem.W.OpenLaw}{k:Nat} {q:Program}{loose:List Str} {XP:(Str→Option Value)→Heap→Prop}{YP:World→Heap→Prop} {d:DefRec}{K:Params→PySem.W.Frag} {x:Str}{m:List D→Option D} (hn:l.most=some 63) (hdf:d.params.defaults=[]) (hr:Room k callerA)
    (hY:∀ (w:World) (h:Heap),YP w h→(K w.params).In h)
    (F:∀ (w:World) (mg:Str→Option Value) (fa:Addr) (h:Heap),(K w.params).In h→h.Ns mainGlobals mg→mg d.name=some (.ref fa)→
      ∃ fd:FuncData,(∀ (s:Shared) (u:Value),BindsTo s fd ⟨[u],[]⟩ [(x,u)])∧∀ base:Heap,(K w.params).In base→base.Ns mainGlobals mg→FnOk l.prog w (K w.params) mg base CX0 k fa fd [x] (SpD (K w.params) .fz m))
    (H:∀ ns:List Int,ns.length≤63→m [.scr ns]=some (.bl true)):PySem.W.WalkO q loose XP YP l.row.toRowW d [] (fun f vs=>PySem.call f vs):=
  L2.walk_of (n:=63) (k:=k) (x:=x) (CX:=fun _=>CX0) (sp:=fun w=>SpD (K w.params) .fz m) hn (by decide) hdf hr hY F
    (fun w H' a ns hl _ hS=>⟨H',[.scr ns],.bl true,Same.refl _,DatL.cons (Dat.scr hS) DatL.nil,H ns hl,fun v F' H2 _ h=>Dat.bl_inv (K:=K w.params) (F:=F') h⟩) fun _ _ _ _ _ z=>z
end FL
set_option Elab.async false
set_option linter.all false
set_option maxRecDepth 100000
namespace FL
open PySem PySem.Spec PyProof.Rows L2
structure Chg (F H:Hp) (a:Addr) (F' H':Hp):Prop where
  ff:Same F F'
  fh:Same F' H'
  rest:∀ b o,H b=some o→F b=none→b≠a→H' b=some o∧F' b=none
  fa:F' a=none
section
variable {K:PySem.W.Frag}{F H F' H' F2 H2:Hp} {ρ ρ':En}{σ σ':St} {i:Nat}{a:Addr}
theorem Chg.trans (x:Chg F H a F' H') (y:Chg F' H' a F2 H2):Chg F H a F2 H2:=
  ⟨x.ff.trans y.ff,y.fh,fun b o e n ne=>let ⟨e1,n1⟩:=x.rest b o e n ne;y.rest b o e1 n1 ne,y.fa⟩
theorem Grow.chg (g:Grow F H F' H') {o:HO}(h:H a=some o) (n:F a=none):Chg F H a F' H':=⟨g.ff,g.fh,fun b o e n _=>⟨g.hh _ _ e,g.nw b o e n⟩,g.nw a o h n⟩
theorem DatB.chg {d:D}{v:V} (s:Same F H) (c:Chg F H a F' H') (h:DatB K F H d v) (hv:v≠.ref a):DatB K F' H' d v:=by
  have key:∀ b o,b≠a→H b=some o→H' b=some o:=fun b o ne e=>by
    cases f:F b with
    | some u=>
      have:=s _ _ f
      rw [e] at this;cases this
      exact c.fh _ _ (c.ff _ _ f)
    | none=>exact (c.rest b o e f ne).1
  cases d with
  | lst l=>obtain ⟨b,vs,rfl,f,q⟩:=h.lst_inv;exact ⟨b,vs,rfl,key b _ (fun z=>hv (by rw [z])) f,q.mono c.ff⟩
  | dic k l=>
    obtain ⟨b,vs,rfl,f,q⟩:=h.dic_inv
    obtain ⟨o,ho⟩:=f.some
    exact ⟨b,vs,rfl,f.at (by rw [ho];exact key b _ (fun z=>hv (by rw [z])) ho),q.mono c.ff⟩
  | set l=>
    obtain ⟨b,rfl,f⟩:=h
    have f:SetAt H b l:=f
    obtain ⟨o,ho⟩:=f.some
    exact ⟨b,rfl,f.at (by rw [ho];exact key b _ (fun z=>hv (by rw [z])) ho)⟩
  | _=>exact Dat.mono c.ff h
theorem Rel.chg (r:Rel K F H ρ σ) {pp:Bool}{d d':D} (e:ρ[i]?=some (some (.ow pp d))) (hσ:σ[i]?=some (some (.ref a))) (c:Chg F H a F' H') (ho:Own K F' H' d' a) :
    Rel K F' H' (ρ.set i (some (.ow pp d'))) σ∧Step ρ σ F H (ρ.set i (some (.ow pp d'))) σ F' H':=by
  refine ⟨⟨c.fh,fun j x q=>?_,fun j x q=>?_,fun j qq x q=>?_,fun j k qq x s c ne e1 e2 e3 e4=>?_,by simp [r.len]⟩,⟨c.ff,fun b u h n no=>c.rest b u h n (fun z=>no (by subst z;exact ⟨i,pp,d,e,hσ⟩)),fun b h=>.inr ?_,fun j x e'=>?_,c.fh⟩⟩
  · rcases set_cases q with ⟨rfl,q'⟩ | ⟨ne,q'⟩
    · cases q'
    · obtain ⟨v,h1,h2⟩:=r.dat j x q';exact ⟨v,h1,h2.mono c.ff⟩
  · rcases set_cases q with ⟨rfl,q'⟩ | ⟨ne,q'⟩
    · cases q'
    · obtain ⟨v,h1,h2⟩:=r.bor j x q'
      refine ⟨v,h1,h2.chg r.sub c fun z=>?_⟩
      subst z
      exact r.inj i j pp d _ a (Ne.symm ne) e hσ q' rfl h1
  · rcases set_cases q with ⟨rfl,q'⟩ | ⟨ne,q'⟩
    · cases q'
      exact ⟨a,hσ,c.fa,ho⟩
    · obtain ⟨b,h1,h2,h3⟩:=r.own j qq x q'
      have hc:b≠a:=fun z=>by
        subst z
        exact r.inj i j pp d _ b (Ne.symm ne) e hσ q' rfl h1
      obtain ⟨o,hob⟩:=h3.some
      obtain ⟨g1,g2⟩:=c.rest b o hob h2 hc
      exact ⟨b,h1,g2,h3.mono c.ff fun u hu=>by rw [hob] at hu;cases hu;exact g1⟩
  · rcases set_cases e1 with ⟨rfl,e1'⟩ | ⟨ne1,e1'⟩
    · rcases set_cases e3 with ⟨rfl,e3'⟩ | ⟨ne3,e3'⟩
      · exact absurd rfl ne
      · exact r.inj j k pp d s c ne e e2 e3' e4
    · rcases set_cases e3 with ⟨rfl,e3'⟩ | ⟨ne3,e3'⟩
      · exact r.inj j k qq x (.ow pp d) c ne e1' e2 e rfl
      · exact r.inj j k qq x s c ne e1' e2 e3' e4
  · obtain ⟨j,qq,x,j1,j2⟩:=h
    rcases set_cases j1 with ⟨rfl,j1'⟩ | ⟨ne,j1'⟩
    · exact ⟨j,pp,d,e,j2⟩
    · exact ⟨j,qq,x,j1',j2⟩
  · rcases set_cases e' with ⟨rfl,e''⟩ | ⟨ne,e''⟩
    · cases e''
      exact ⟨d,e,rfl⟩
    · exact ⟨x,e'',rfl⟩
theorem Rel.setI (r:Rel K F H ρ σ) {pp:Bool}{d:D} (nf:∀ (j:Nat) (s:Sl),ρ[j]?=some (some s)→s.isDat=true) (hf:F a=none) (ho:Own K F H d a):Rel K F H (ρ.set i (some (.ow pp d))) (σ.set i (some (.ref a))):=by
  have no:∀ (j:Nat) (s:Sl),ρ[j]?=some (some s)→s.isDat=false→False:=fun j s e hs=>by rw [nf j s e] at hs;cases hs
  refine ⟨r.sub,fun j x e=>?_,fun j x e=>?_,fun j q x e=>?_,fun j k q x s c ne e1 e2 e3 e4=>?_,by simp [r.len]⟩
  · rcases set_cases e with ⟨rfl,e'⟩ | ⟨ne,e'⟩
    · cases e'
    · rw [List.getElem?_set_ne (Ne.symm ne)];exact r.dat j x e'
  · rcases set_cases e with ⟨rfl,e'⟩ | ⟨ne,e'⟩
    · cases e'
    · exact (no j _ e' rfl).elim
  · rcases set_cases e with ⟨rfl,e'⟩ | ⟨ne,e'⟩
    · cases e'
      exact ⟨a,set_same (by rw [← r.len];exact set_lt e),hf,ho⟩
    · exact (no j _ e' rfl).elim
  · rcases set_cases e3 with ⟨rfl,e3'⟩ | ⟨ne3,e3'⟩
    · rcases set_cases e1 with ⟨rfl,e1'⟩ | ⟨ne1,e1'⟩
      · exact absurd rfl ne
      · exact (no j _ e1' rfl).elim
    · exact (no k _ e3' e4).elim
end
noncomputable def SpX (K:PySem.W.Frag) (j:Nat) (m:D→List D→Option (D×D)):Sp:=fun vs H Q _=>∃ F a us ds c d c',vs=us.take j++.ref a::us.drop j∧j≤us.length∧Same F H∧F a=none∧Own K F H c a∧DatL K F ds us∧m c ds=some (d,c')∧
  ∀ v F' H',Chg F H a F' H'→Own K F' H' c' a→Dat K F' d v→Q v H'
noncomputable def startX (nn j:Nat) (c:D) (ds:List D):En:=(startD nn (ds.take j++.non::ds.drop j)).set j (some (.inn c))
theorem start_set (N:List Str) (xs ys:List V) (u v:V):(L2.start N (xs++v::ys)).set xs.length (some u)=L2.start N (xs++u::ys):=by
  unfold L2.start
  simp [List.set_append]
noncomputable def runX (mb:En→Option Fl) (np nn j:Nat) (c:D) (ds:List D):Option (D×D):=if ds.length + 1=np∧j≤ds.length then (match mb (startX nn j c ds) with
  | some (.rt d ρ')=>(match ρ'[j]? with
    | some (some (.ow true c'))=>some (d,c')
    | _=>none)
  | _=>none) else none
structure FkX (P:Program) (w:World) (K:PySem.W.Frag) (mg:Str→Option Value) (base:Heap) (x:Str) (ps:List Str) (j k:Nat) (m:D→List D→Option (D×D)):Prop where
  ex:∃ f fd,FnOk P w K mg base CX0 k f fd ps (SpX K j m)∧Binds K fd ps []∧PySem.W.keepIn K (.ref f)=true∧mg x=some (.ref f)
section
variable {P:Program}{w:World} {K:PySem.W.Frag}{mg:Str→Option Value} {base:Heap}{X:Cx} {k j:Nat}{f:Addr} {fd:FuncData}{ps:List Str} {x:Str}
theorem fn_mkX {qual:Str}{st:Stmt} {N:List Str}(Fn:Fun K x qual st f fd) (S:FnScope N ps (defScope st)) {mb:Nat→En→Option Fl}(np nn j:Nat) (hnp:ps.length=np) (hnn:N.length=nn)
    (hb:∀ (n:Nat) (cdv:Value) (A:Around) (outer:List Env) (s:Shared) (H:Hp) (E:XK),Room k (A.deeper (envOfC qual (defScope st) s.heap.objs.size f cdv))→FSs K .fz (cxOf CX0 P w K mg base N qual (defScope st) f cdv A outer s H E).nox (defBody st) (mb n)) :
    FnOk P w K mg base CX0 (k + 1) f fd ps (SpX K j (runX (mb FUEL) np nn j)):=by
  subst hnp hnn
  have hlen:∀ (us:List V) (v:V),j≤us.length→(us.take j++v::us.drop j).length=us.length + 1:=fun us v h=>by
    rw [List.length_append,List.length_cons,List.length_take,List.length_drop];omega
  have inv:∀ {c:D}{ds:List D} {d c':D},runX (mb FUEL) ps.length N.length j c ds=some (d,c')→ds.length + 1=ps.length∧j≤ds.length∧∃ ρ',mb FUEL (startX N.length j c ds)=some (.rt d ρ')∧ρ'[j]?=some (some (.ow true c')):=fun {c ds d c'} h=>by
    unfold runX at h
    split at h
    · rename_i hl
      split at h
      · rename_i d' ρ' e
        split at h
        · rename_i c2 e2;cases h;exact ⟨hl.1,hl.2,ρ',e,e2⟩
        · cases h
      · cases h
    · cases h
  refine Fn.ok S (fun vs H Q E h=>?_) (fun cdv A outer s H vs Q E hr h=>?_)
  · obtain ⟨F,a,us,ds,c,d,c',rfl,hj,_,_,_,q,e,_⟩:=h
    rw [hlen us _ hj,q.length];exact (inv e).1
  obtain ⟨F,a,us,ds,c,d,c',rfl,hj,sub,fa,ho,qd,e,kq⟩:=h
  obtain ⟨h1,h2,ρ',h3,h4⟩:=inv e
  have q0:DatL K F (ds.take j++.non::ds.drop j) (us.take j++.non::us.drop j):=(qd.take j).append (DatL.cons Dat.non (qd.drop j))
  have r0:=Rel.start (N:=N) sub q0
  have tl:(us.take j).length=j:=by rw [List.length_take];omega
  have r1:Rel K F H (startX N.length j c ds) (L2.start N (us.take j++.ref a::us.drop j)):=by
    have:=Rel.setI (i:=j) (pp:=true) r0 (fun i s e=>by
      unfold startD at e
      by_cases hi:i < (ds.take j++D.non::ds.drop j).length
      · rw [List.getElem?_append_left (by simpa using hi),List.getElem?_map,List.getElem?_eq_getElem hi] at e
        cases e;rfl
      · rw [List.getElem?_append_right (by simpa using hi),List.getElem?_replicate] at e
        split at e<;>cases e) fa ho
    have e2:=start_set N (us.take j) (us.drop j) (.ref a) .non
    rw [tl] at e2
    rw [e2] at this
    exact this
  refine ⟨_,(hb FUEL cdv A outer s H E hr).h _ _ h3,F,r1,fun v σ' F' H' r' s' res=>?_⟩
  obtain ⟨d0,p1,p2⟩:=s'.pin j c' h4
  obtain ⟨b,g1,g2,g3⟩:=r'.own j true c' h4
  have sj:(L2.start N (us.take j++.ref a::us.drop j))[j]?=some (some (.ref a)):=by
    unfold L2.start
    rw [List.getElem?_append_left (by rw [List.length_map,hlen us _ hj];omega),List.getElem?_map,List.getElem?_append_right (by omega),tl]
    simp
  rw [p2,sj] at g1
  cases g1
  have only:∀ b,Owned (startX N.length j c ds) (L2.start N (us.take j++.ref a::us.drop j)) b→b=a:=fun b ⟨i,pp,x,i1,i2⟩=>by
    unfold startX at i1
    rcases set_cases i1 with ⟨rfl,_⟩ | ⟨ne,i1'⟩
    · rw [sj] at i2;cases i2;rfl
    · exact (start_noown (σ:=L2.start N (us.take j++.ref a::us.drop j)) ⟨i,pp,x,i1',i2⟩).elim
  exact kq v F' H' ⟨s'.ff,s'.fh,fun b o e n ne=>s'.rest b o e n fun z=>ne (only b z),g2⟩ g3 res
theorem FkX.mono {j':Nat}{m:D→List D→Option (D×D)} (G:FkX P w K mg base x ps j k m) (h:k≤j'):FkX P w K mg base x ps j j' m:=by
  obtain ⟨f,fd,F,r⟩:=G.ex
  exact ⟨f,fd,F.mono h,r⟩
theorem FkX.never {f:Addr}{fd:FuncData} {m:D→List D→Option (D×D)}(h:Binds K fd ps []∧PySem.W.keepIn K (.ref f)=true∧mg x=some (.ref f)) (hm:∀ c ds,m c ds=none):FkX P w K mg base x ps j 0 m:=by
  refine ⟨f,fd,⟨fun vs H Q E h=>?_,fun A outer s H args us vs Q E _ _ _ _ h=>?_⟩,h⟩
  · obtain ⟨F,a,us,ds,c,d,c',_,_,_,_,_,_,e,_⟩:=h;rw [hm] at e;cases e
  · obtain ⟨F,a,us,ds,c,d,c',_,_,_,_,_,_,e,_⟩:=h;rw [hm] at e;cases e
noncomputable def callX (m:D→List D→Option (D×D)) (i:Nat) (fs:En→Option (List D)):En→Option (D×En):=fun ρ=>match ρ[i]?,fs ρ with
  | some (some (.ow p c)),some ds=>(m c ds).map fun q=>(q.1,ρ.set i (some (.ow p q.2)))
  | _,_=>none
theorem callX_some {m:D→List D→Option (D×D)}{i:Nat} {fs:En→Option (List D)}{ρ:En} {d:D}{ρ':En} (h:callX m i fs ρ=some (d,ρ')):∃ p c ds c',ρ[i]?=some (some (.ow p c))∧fs ρ=some ds∧m c ds=some (d,c')∧ρ'=ρ.set i (some (.ow p c')):=by
  unfold callX at h
  split at h
  · rename_i p c ds e1 e2
    cases e3:m c ds with
    | none=>rw [e3] at h;cases h
    | some q=>
      rw [e3] at h
      cases h
      exact ⟨p,c,ds,q.2,e1,e2,e3,rfl⟩
  · cases h
theorem xcall0 (i:Nat) {y:Str}{p1 p pos:Pos} {e:Expr}{fe:En→Option D} {m:D→List D→Option (D×D)}{jj:Nat} (G:FkX X.prog X.w X.K X.mg X.base x ps 0 k m) (hr:Room jj X.A) (he:FP K .fz X e fe) (hle:k≤jj:=by first | decide | omega) (hg:Gl X x:=by rfl) (hK:X.K=K:=by rfl)
    (hN:X.N[i]?=some y:=by rfl) (hv:Vis X.env.scope y:=by first | exact Or.inl rfl | exact Or.inr (Or.inl rfl) | exact Or.inr (Or.inr rfl)) (hd:(y == ("__debug__" : Str))=false:=by decide) (hcd:(y == ("__classdict__" : Str))=false:=by decide)
    (hs:starEach [e] X.env=(false,eval e X.env)::starEach [] X.env:=by rfl)
    (H1:∀ {f:Addr}{fd:FuncData} {t:TA},FnOk X.prog X.w X.K X.mg X.base CX0 k f fd ps (SpX K 0 m)→Room k X.A→Gl X x→X.mg x=some (.ref f)→PySem.W.keepIn X.K (.ref f)=true→Binds X.K fd ps []→PA X [.Name y p1,e] t→PE X (.Call (.Name x p) [.Name y p1,e] [] pos) (tCall (SpX K 0 m) [] E0 t):=by
      exact fun F hr hg hm hk hb ha=>pe_call F hr hg hm hk hb .nil pass0 ha)
    (hs0:starEach [.Name y p1,e] X.env=(false,eval (.Name y p1) X.env)::starEach [e] X.env:=by rfl) :
    FX K X (.Call (.Name x p) [.Name y p1,e] [] pos) (callX m i (consF fe nilF)):=FX.mk fun ρ d ρ' hf=>by
  subst hK
  obtain ⟨pp,c,ds,c',e1,e2,e3,rfl⟩:=callX_some hf
  obtain ⟨d1,l,e4,e5,rfl⟩:=consF_some e2
  have e5:some []=some l:=e5
  cases e5
  obtain ⟨f,fd,F,hb,hk,hm⟩:=G.ex
  refine PE.imp (H1 F (hr.mono hle) hg hm hk hb (pa_cons (pe_var hN hv hd hcd) (pa_cons (he.h ρ d1 e4) pa_nil hs) hs0)) fun σ H Q h_=>?_
  obtain ⟨Fz,r,q⟩:=h_
  obtain ⟨a,h1,h2,h3⟩:=r.own i pp c e1
  refine ⟨_,h1,Fz,r,fun v F1 H1 g1 r1=>?_⟩
  have rg:=r.grow g1
  obtain ⟨a',h1',h2',h3'⟩:=rg.own i pp c e1
  rw [h1] at h1';cases h1'
  refine ⟨F1,a,[v],[d1],c,d,c',rfl,Nat.zero_le _,g1.fh,h2',h3',DatL.cons r1 DatL.nil,e3,fun v' F' H' ch ho hd'=>?_⟩
  obtain ⟨x1,x2⟩:=rg.chg e1 h1 ch ho
  exact q v' F' H' x1 (g1.step.trans x2 r.sub) hd'
theorem xcall2 (i:Nat) {y:Str}{p1 p pos:Pos} {e e':Expr}{fe fe':En→Option D} {m:D→List D→Option (D×D)}{jj:Nat} (G:FkX X.prog X.w X.K X.mg X.base x ps 2 k m) (hr:Room jj X.A) (he:FP K .fz X e fe) (he':FP K .fz X e' fe') (hle:k≤jj:=by first | decide | omega) (hg:Gl X x:=by rfl) (hK:X.K=K:=by rfl)
    (hN:X.N[i]?=some y:=by rfl) (hv:Vis X.env.scope y:=by first | exact Or.inl rfl | exact Or.inr (Or.inl rfl) | exact Or.inr (Or.inr rfl)) (hd:(y == ("__debug__" : Str))=false:=by decide) (hcd:(y == ("__classdict__" : Str))=false:=by decide)
    (hs:starEach [.Name y p1] X.env=(false,eval (.Name y p1) X.env)::starEach [] X.env:=by rfl)
    (hs1:starEach [e',.Name y p1] X.env=(false,eval e' X.env)::starEach [.Name y p1] X.env:=by rfl) (hs0:starEach [e,e',.Name y p1] X.env=(false,eval e X.env)::starEach [e',.Name y p1] X.env:=by rfl)
    (H1:∀ {f:Addr}{fd:FuncData} {t:TA},FnOk X.prog X.w X.K X.mg X.base CX0 k f fd ps (SpX K 2 m)→Room k X.A→Gl X x→X.mg x=some (.ref f)→PySem.W.keepIn X.K (.ref f)=true→Binds X.K fd ps []→PA X [e,e',.Name y p1] t→PE X (.Call (.Name x p) [e,e',.Name y p1] [] pos) (tCall (SpX K 2 m) [] E0 t):=by
      exact fun F hr hg hm hk hb ha=>pe_call F hr hg hm hk hb .nil pass0 ha) :
    FX K X (.Call (.Name x p) [e,e',.Name y p1] [] pos) (callX m i (consF fe (consF fe' nilF))):=FX.mk fun ρ d ρ' hf=>by
  subst hK
  obtain ⟨pp,c,ds,c',e1,e2,e3,rfl⟩:=callX_some hf
  obtain ⟨d1,l,e4,e5,rfl⟩:=consF_some e2
  obtain ⟨d2,l2,e6,e7,rfl⟩:=consF_some e5
  have e7:some []=some l2:=e7
  cases e7
  obtain ⟨f,fd,F,hb,hk,hm⟩:=G.ex
  refine PE.imp (H1 F (hr.mono hle) hg hm hk hb (pa_cons (he.h ρ d1 e4) (pa_cons (he'.h ρ d2 e6) (pa_cons (pe_var hN hv hd hcd) pa_nil hs) hs1) hs0)) fun σ H Q h_=>?_
  obtain ⟨Fz,r,q⟩:=h_
  refine ⟨Fz,r,fun v F1 H1 g1 r1=>⟨F1,r.grow g1,fun u F2 H2 g2 r2=>?_⟩⟩
  have rg:=(r.grow g1).grow g2
  obtain ⟨a,h1,h2,h3⟩:=rg.own i pp c e1
  refine ⟨_,h1,F2,a,[v,u],[d1,d2],c,d,c',rfl,Nat.le_refl _,g2.fh,h2,h3,DatL.cons (Dat.mono g2.ff r1) (DatL.cons r2 DatL.nil),e3,fun v' F' H' ch ho hd'=>?_⟩
  obtain ⟨x1,x2⟩:=rg.chg e1 h1 ch ho
  exact q v' F' H' x1 ((g1.trans g2).step.trans x2 r.sub) hd'
noncomputable def retX (m:En→Option (D×En)):En→Option Fl:=fun ρ=>(m ρ).map fun q=>.rt q.1 q.2
theorem sretX {e:Expr}{m:En→Option (D×En)} {pos:Pos}(he:FX K X e m):FS K .fz X (.Return (some e) pos) (retX m):=FS.mk fun ρ fl hf=>by
  unfold retX at hf
  cases e1:m ρ with
  | none=>rw [e1] at hf;cases hf
  | some q1=>
    obtain ⟨d,ρ1⟩:=q1
    rw [e1] at hf;cases hf
    exact PS.imp (ps_ret (he.h ρ d ρ1 e1)) fun D σ H ⟨F,r,q⟩=>⟨F,r,fun v F1 H1 r1 s1 h=>q v σ F1 H1 r1 s1 h⟩
end
noncomputable def innAt (jj:Nat) (ρ:En):Option D:=match ρ[jj]? with
  | some (some (.ow true c))=>some c
  | _=>none
theorem innAt_some {jj:Nat}{ρ:En} {c:D}(h:innAt jj ρ=some c):ρ[jj]?=some (some (.ow true c)):=by
  unfold innAt at h
  split at h
  · rename_i e;cases h;exact e
  · cases h
noncomputable def compX (g:D→En→Option En) (m:En→Option (D×En)) (ρi:En) (jj:Nat):D→List D→Option (List D×D)
  | c,[]=>some ([],c)
  | c,x::xs=>(g x (ρi.set jj (some (.inn c)))).bind fun ρ1=>(m ρ1).bind fun q=>(innAt jj q.2).bind fun c2=>(compX g m ρi jj c2 xs).map fun r=>(q.1::r.1,r.2)
noncomputable def compXE (i jj:Nat) (cap:List (Option Nat)) (fi:En→Option (List D)) (g:D→En→Option En) (m:En→Option (D×En)):En→Option (D×En):=fun ρ=>match ρ[i]?,fi ρ with
  | some (some (.ow p c)),some ds=>if ds.length≤lim then (compX g m (st0E cap ρ) jj c ds).map fun r=>(.lst r.1,ρ.set i (some (.ow p r.2))) else none
  | _,_=>none
section
variable {K:PySem.W.Frag}{X:Cx} {pos:Pos}{tg iter elt:Expr} {scope:Scope}
theorem Rel.innerX {F H:Hp}{ρ:En} {σ:St}{cap:List (Option Nat)} {i jj:Nat}{p:Bool} {c:D}(r:Rel K F H ρ σ) (e:ρ[i]?=some (some (.ow p c))) (hc:cap[jj]?=some (some i)) (ho:∀ k,cap[k]?=some (some i)→k=jj) :
    Rel K F H ((st0E cap ρ).set jj (some (.inn c))) (st0 cap σ):=by
  have b:=r.inner (cap:=cap)
  obtain ⟨a,h1,h2,h3⟩:=r.own i p c e
  have hs:=st0_get (σ:=σ) hc h1
  refine ⟨r.sub,fun j x q=>?_,fun j x q=>?_,fun j qq x q=>?_,fun j k qq x s d ne e1 e2 e3 e4=>?_,by simp [b.len]⟩
  · rcases set_cases q with ⟨rfl,q'⟩ | ⟨ne,q'⟩
    · cases q'
    · exact b.dat j x q'
  · rcases set_cases q with ⟨rfl,q'⟩ | ⟨ne,q'⟩
    · cases q'
    · exact b.bor j x q'
  · rcases set_cases q with ⟨rfl,q'⟩ | ⟨ne,q'⟩
    · cases q';exact ⟨a,hs,h2,h3⟩
    · exact b.own j qq x q'
  · rcases set_cases e1 with ⟨rfl,e1'⟩ | ⟨ne1,e1'⟩
    · rcases set_cases e3 with ⟨rfl,e3'⟩ | ⟨ne3,e3'⟩
      · exact absurd rfl ne
      · rw [hs] at e2;cases e2
        obtain ⟨l,s0,l1,l2,l3⟩:=st0E_get e3'
        have hl:l≠i:=fun z=>ne3 (ho k (by rw [l1,z]))
        intro z
        have zz:σ[l]?=some (some (.ref a)):=by
          unfold st0 at z
          rw [List.getElem?_map,l1] at z
          simp at z
          cases e5:σ[l]? with
          | none=>rw [e5] at z;cases z
          | some y=>rw [e5] at z;simp at z;rw [z]
        refine r.inj i l p c s0 a (Ne.symm hl) e h1 l2 ?_ zz
        cases s0<;>simp [bors] at l3
        · subst l3;cases e4
        · rfl
        · rfl
    · obtain ⟨l,s0,l1,l2,l3⟩:=st0E_get e1'
      cases s0<;>simp [bors] at l3
theorem st0E_set {cap:List (Option Nat)}{ρ:En} {i jj:Nat}{y z:Option Sl} (ho:∀ k,cap[k]?=some (some i)→k=jj):(st0E cap (ρ.set i y)).set jj z=(st0E cap ρ).set jj z:=by
  apply List.ext_getElem?
  intro k
  by_cases hk:k=jj
  · subst hk
    rw [List.getElem?_set,List.getElem?_set]
    simp [st0E]
  · rw [List.getElem?_set_ne (Ne.symm hk),List.getElem?_set_ne (Ne.symm hk)]
    unfold st0E
    rw [List.getElem?_map,List.getElem?_map]
    cases e:cap[k]? with
    | none=>rfl
    | some o=>
      cases o with
      | none=>rfl
      | some j=>
        have hj:j≠i:=fun z=>hk (ho k (by rw [e,z]))
        simp [List.getElem?_set_ne (Ne.symm hj)]
theorem compX_rd {i jj:Nat}{cap:List (Option Nat)} {g:D→En→Option En}{m:En→Option (D×En)} {ρ:En}{ds rs:List D} {c0 c9:D}{p:Bool} {σ:St}{H F:Hp} {Q:VK}(hcap:cap[jj]?=some (some i)) (ho:∀ k,cap[k]?=some (some i)→k=jj)
    (e1:ρ[i]?=some (some (.ow p c0))) (e3:compX g m (st0E cap ρ) jj c0 ds=some (rs,c9)) (hn:ds.length≤lim) (r:Rel K F H ρ σ)
    (q:∀ v F' H',Rel K F' H' (ρ.set i (some (.ow p c9))) σ→Step ρ σ F H (ρ.set i (some (.ow p c9))) σ F' H'→Dat K F' (.lst rs) v→Q v H') {J:It}{F1 H1:Hp} (g1:Grow F H F1 H1) (ok:IterOk K J F1 ds) :
    wComp K J (fun v σ H Q=>∃ i:{ q:En×D×En // g q.2.1 q.1=some q.2.2 },rdG K i.1.1 i.1.2.1 i.1.2.2 v σ H Q) tYes (fun σ H Q=>∃ i:{ q:En×D×En // m q.1=some q.2 },rdX K i.1.1 i.1.2.1 i.1.2.2 σ H Q) cap σ H1 Q:=by
  obtain ⟨a,hσ,fa0,own0⟩:=r.own i p c0 e1
  obtain ⟨oa,hoa⟩:=own0.some
  intro dd hdd
  have hdH:H dd=none:=g1.hh.free hdd
  have hda:dd≠a:=fun z=>by rw [z,hoa] at hdH;cases hdH
  have g1':Grow F H F1 (upd H1 dd (.lst [])):=g1.trans (Grow.fresh g1.fh hdd)
  refine ⟨fun n mm H2=>∃ acc,n≤ds.length∧mm=ds.length - n∧∃ F2 done left c,Chg F H a F2 H2∧Own K F2 H2 c a∧Same F1 F2∧F2 dd=none∧H2 dd=some (.lst acc)∧DatL K F2 done acc∧acc.length≤n∧compX g m (st0E cap ρ) jj c (ds.drop n)=some (left,c9)∧rs=done++left,
    ⟨ds.length,[],Nat.zero_le _,rfl,F1,[],rs,c0,g1'.chg hoa fa0,own0.mono g1'.ff (fun o e=>g1'.hh _ _ e),Same.refl _,g1.fh.free hdd,upd_same,DatL.nil,Nat.zero_le _,e3,rfl⟩,?_⟩
  rintro n mm H2 ⟨acc,hi,rfl,F2,done,left,c,ch,own2,ff,fd,hd,da,al,e4,e5⟩
  obtain ⟨o1,o2,o3⟩:=ok F2 H2 ff ch.fh
  by_cases hlt:n < ds.length
  · refine .inr ⟨o1 n hlt,fun x H3 y=>?_⟩
    obtain ⟨F3,g3,d3⟩:=o2 n x H3 _ (List.getElem?_eq_getElem hlt) y
    rw [List.drop_eq_getElem_cons hlt] at e4
    simp only [compX] at e4
    obtain ⟨o2a,ho2a⟩:=own2.some
    have ch3:Chg F H a F3 H3:=ch.trans (g3.chg ho2a ch.fa)
    have own3:=own2.mono g3.ff (fun o e=>g3.hh _ _ e)
    obtain ⟨r3,_⟩:=r.chg e1 hσ ch3 own3
    have hil:i < ρ.length:=(List.getElem?_eq_some_iff.mp e1).1
    have rin:=r3.innerX (cap:=cap) (jj:=jj) (set_same hil) hcap ho
    rw [st0E_set ho] at rin
    cases e6:g ds[n] ((st0E cap ρ).set jj (some (.inn c))) with
    | none=>rw [e6] at e4;cases e4
    | some ρ1=>
      simp only [e6,Option.bind_some] at e4
      refine ⟨⟨(_,ds[n],ρ1),e6⟩,F3,rin,d3,fun σ2 r2 kp=>?_⟩
      simp only [tYes,if_true]
      cases e7:m ρ1 with
      | none=>rw [e7] at e4;cases e4
      | some q1=>
        obtain ⟨d1,ρ2⟩:=q1
        simp only [e7,Option.bind_some] at e4
        cases e8:innAt jj ρ2 with
        | none=>rw [e8] at e4;cases e4
        | some c2=>
          simp only [e8,Option.bind_some] at e4
          cases e9:compX g m (st0E cap ρ) jj c2 (ds.drop (n + 1)) with
          | none=>rw [e9] at e4;cases e4
          | some l=>
            obtain ⟨l,c8⟩:=l
            rw [e9] at e4;cases e4
            refine ⟨⟨(ρ1,d1,ρ2),e7⟩,F3,r2,fun v F4 H4 r4 s4 d4=>?_⟩
            have hsi:(st0 cap σ)[jj]?=some (some (.ref a)):=st0_get hcap hσ
            obtain ⟨x1,p1,p2⟩:=s4.pin jj c2 (innAt_some e8)
            obtain ⟨x2,p3,p4⟩:=kp.pin jj x1 p1
            obtain ⟨b,b1,b2,b3⟩:=r4.own jj true c2 (innAt_some e8)
            rw [p4,hsi] at b1
            cases b1
            have only:∀ b,Owned ρ1 σ2 b→b=a:=fun b z=>by
              obtain ⟨k,pp,x,k1,k2⟩:=kp.own b z
              rcases set_cases k1 with ⟨rfl,_⟩ | ⟨ne,k1'⟩
              · rw [hsi] at k2;cases k2;rfl
              · obtain ⟨l,s0,l1,l2,l3⟩:=st0E_get k1'
                cases s0<;>simp [bors] at l3
            have ch4:Chg F3 H3 a F4 H4:=⟨s4.ff,s4.fh,fun b o e n ne=>s4.rest b o e n fun z=>ne (only b z),b2⟩
            have hd3:=g3.hh _ _ hd
            have fd3:=g3.nw _ _ hd fd
            obtain ⟨hd4,fd4⟩:=ch4.rest dd _ hd3 fd3 hda
            refine ⟨acc,hd4,lim_lt (by omega),ds.length - (n + 1),by omega,_,hlt,rfl,F4,done++[d1],l,c2,?_,b3.mono (Same.refl _) (fun o e=>by rw [upd_ne (Ne.symm hda)];exact e),ff.trans (g3.ff.trans ch4.ff),fd4,upd_same,(da.mono (g3.ff.trans ch4.ff)).snoc d4,by rw [List.length_append,List.length_singleton];omega,e9,by rw [e5];simp⟩
            have chh:=ch3.trans ch4
            exact ⟨chh.ff,fun b o e=>by rw [upd_ne (ne_of_none e fd4)];exact chh.fh _ _ e,fun b o e n ne=>by
              obtain ⟨z1,z2⟩:=chh.rest b o e n ne
              exact ⟨by rw [upd_ne (ne_of_none e hdH)];exact z1,z2⟩,chh.fa⟩
  · have e:n=ds.length:=by omega
    subst e
    rw [List.drop_length] at e4
    have e4:some ([],c)=some (left,c9):=e4
    cases e4
    rw [List.append_nil] at e5
    subst e5
    have x:Same F2 (frz1 F2 H2 dd):=frz1_ext fd
    have chf:Chg F H a (frz1 F2 H2 dd) H2:=⟨ch.ff.trans x,frz1_sub ch.fh,fun b o e n ne=>by
      obtain ⟨z1,z2⟩:=ch.rest b o e n ne
      exact ⟨z1,by rw [frz1_ne (ne_of_none e hdH)];exact z2⟩,by rw [frz1_ne (Ne.symm hda)];exact ch.fa⟩
    obtain ⟨rf,sf⟩:=r.chg e1 hσ chf (own2.mono x fun o e=>e)
    exact .inl ⟨o3,q _ _ _ rf sf (Own.freeze (d:=.lst rs) ⟨acc,hd,da⟩ fd (Own.fl (K:=K) (F:=F2) (l:=rs) ⟨acc,hd,da⟩))⟩
theorem xcomp (i jj:Nat) {fi:En→Option (List D)}{g:D→En→Option En} {m:En→Option (D×En)}(N:List Str) (cap:List (Option Nat)) (cp:Cap X scope N cap) (hc:X.calm=true) (hi:FI K X tg iter fi)
    (hg:∀ C s0 H0 fp,FG K (cxComp X N scope (clOf X.env scope.names []) C s0 H0 fp) tg g) (he:∀ C s0 H0 fp,FX K (cxComp X N scope (clOf X.env scope.names []) C s0 H0 fp) elt m)
    (hcap:cap[jj]?=some (some i):=by rfl) (hol:(List.range cap.length).all (fun k=>cap[k]? != some (some i) || k == jj)=true:=by rfl)
    (S:CompSc X scope:=by exact CompSc.mk') (hs:∀ x,foldedSetIterable iter X.env x=pure x:=by intro _;rfl) (hK:X.K=K:=by rfl) :
    FX K X (.ListComp elt [⟨tg,iter,[],0⟩] scope pos) (compXE i jj cap fi g m):=FX.mk fun ρ d ρ' hf=>by
  subst hK
  have ho:∀ k,cap[k]?=some (some i)→k=jj:=fun k hk=>by
    have h:=List.all_eq_true.mp hol k (List.mem_range.mpr (List.getElem?_eq_some_iff.mp hk).1)
    simpa [hk] using h
  unfold compXE at hf
  split at hf
  · rename_i p c0 ds e1 e2
    split at hf
    · rename_i hn
      cases e3:compX g m (st0E cap ρ) jj c0 ds with
      | none=>rw [e3] at hf;cases hf
      | some rr=>
        obtain ⟨rs,c9⟩:=rr
        rw [e3] at hf
        cases hf
        refine PE.imp (pe_comp N cap cp hc (hi.h ρ ds e2) (fun C s0 H0 fp=>PG.any fun i:{ q:En×D×En // g q.2.1 q.1=some q.2.2 }=>(hg C s0 H0 fp).h _ _ _ i.2) (fun C s0 H0 fp=>pif_nil)
          (fun C s0 H0 fp=>PE.any fun i:{ q:En×D×En // m q.1=some q.2 }=>(he C s0 H0 fp).h _ _ _ i.2) S hs) fun σ H Q ⟨F,r,q⟩=>?_
        exact ⟨F,r,fun J F1 H1 g1 ok=>compX_rd hcap ho e1 e3 hn r q g1 ok⟩
    · cases hf
  · cases hf
end
end FL
set_option Elab.async false
set_option linter.all false
set_option maxRecDepth 100000
namespace HT
open PySem PySem.Spec PyProof.Rows
noncomputable def ZS (h:Heap) (z TI TO:Addr):Prop:=∃ f0 f1,h.get? z=some { cls:=.type "zip",dict:=none,data:=.fields #[f0,f1,.bool false,.ref TI,.ref TO],slots:=#[] }∧(f0=.none∨∃ T:Nat,f0=rawInt T)
section
variable {prog:Program}{w:World} {A:Around}{E:Value→Shared→Prop} {s:Shared}
theorem wpAny_loadIfAlive {a:Addr}{Q:Option Obj→Shared→Prop} (h:Q (s.heap.get? a) s):wpAny (model prog w) A (loadIfAlive a) Q E s:=by
  exact fun _ _ _=>h
theorem isFree {z TI TO:Addr}{Q:Bool→Shared→Prop} (hz:ZS s.heap z TI TO) (h1:Q true s) (h2:∀ h',ZS h' z TI TO→Heap.SameBut z s.heap h'→Q false { s with heap:=h' }) :
    wpAny (model prog w) A (Builtin.SmallTypes.ownedTupleIsFree (.ref z)) Q E s:=by
  obtain ⟨f0,f1,hz,hf⟩:=hz
  unfold Builtin.SmallTypes.ownedTupleIsFree
  rcases hf with rfl | ⟨T,rfl⟩
  · exact wpAny_bind (wpAny_field hz rfl (x:=.none) rfl (wpAny_pure h1))
  · refine wpAny_bind (wpAny_field hz rfl (x:=rawInt T) rfl ?_)
    show wpAny _ _ (loadIfAlive _ >>= _) _ _ _
    refine wpAny_bind (wpAny_loadIfAlive ?_)
    split
    · exact wpAny_pure h1
    · refine wpAny_bind (wpAny_field hz rfl (x:=f1) rfl ?_)
      split
      · refine wpAny_bind (wpAny_setField_rec hz (by simp) fun h' hz' hs'=>wpAny_pure (h2 h' ⟨_,_,hz',.inr ⟨T,rfl⟩⟩ hs'))
      · exact wpAny_pure (h2 s.heap ⟨_,_,hz,.inr ⟨T,rfl⟩⟩ ⟨rfl,fun _ _=>rfl⟩)
theorem zip_itemD {z TI TO i1 i2 l1 l2:Addr}{n1 n2 i:Nat} {P1 P2:Nat→Value→Prop}{S1 S2:Nat→Heap→Prop} {Q:Value→Shared→Prop}(D:ZipApart z TI TO i1 i2 l1 l2)
    (D1:Draws prog w A i1 [i1,l1] n1 P1 S1) (D2:Draws prog w A i2 [i2,l2] n2 P2 S2) (hz:ZS s.heap z TI TO) (hTI:IsPair s.heap TI (.ref i1) (.ref i2)) (hTO:∃ a b,IsPair s.heap TO a b) (st1:S1 i s.heap) (st2:S2 i s.heap) (hi1:i < n1) (hi2:i < n2)
    (hQ:∀ x y h' tk,P1 i x→P2 i y→ZS h' z TI TO→(∃ a b,IsPair h' TO a b)→S1 (i + 1) h'→S2 (i + 1) h'→IsPair h' s.heap.objs.size x y→h'.objs.size=s.heap.objs.size + 1→
      (∀ c o,c≠z→c≠TO→c≠i1→c≠i2→s.heap.get? c=some o→h'.get? c=some o)→Q (.ref s.heap.objs.size) { s with heap:=h',toks:=tk }) :
    wpAny (model prog w) A (Builtin.«zip.__next__» ⟨[.ref z],[]⟩) (fun fin s'=>∃ v,fin=.done (.ret v)∧Q v s') E s:=by
  obtain ⟨f0,f1,hz0,hf⟩:=id hz
  obtain ⟨o1,live1⟩:=D1.live _ _ st1
  obtain ⟨o2,live2⟩:=D2.live _ _ st2
  have F1:∀ {k:Nat}{h h':Heap} {c:Addr},S1 k h→Heap.SameBut c h h'→i1≠c→l1≠c→S1 k h':=fun st hs e1 e2=>D1.frame _ _ _ st fun b hb o e=>by
    rcases List.mem_cons.mp hb with rfl | hb
    · exact hs.extBut _ _ e1 e
    · rw [List.mem_singleton.mp hb] at e ⊢;exact hs.extBut _ _ e2 e
  have F2:∀ {k:Nat}{h h':Heap} {c:Addr},S2 k h→Heap.SameBut c h h'→i2≠c→l2≠c→S2 k h':=fun st hs e1 e2=>D2.frame _ _ _ st fun b hb o e=>by
    rcases List.mem_cons.mp hb with rfl | hb
    · exact hs.extBut _ _ e1 e
    · rw [List.mem_singleton.mp hb] at e ⊢;exact hs.extBut _ _ e2 e
  show wpAny _ _ (field (.ref z) 2 >>= _) _ _ _
  refine wpAny_bind (wpAny_field hz0 rfl (x:=.bool false) rfl ?_)
  show wpAny _ _ (field (.ref z) 3 >>= _) _ _ _
  refine wpAny_bind (wpAny_field hz0 rfl (x:=.ref TI) rfl ?_)
  refine wpAny_bind (wpAny_seqItems hTI rfl ?_)
  show wpAny _ _ (Builtin.SmallTypes.ownedTupleIsFree (.ref z) >>= _) _ _ _
  refine wpAny_bind (isFree hz ?_ fun h₁ hz₁ hs₁=>?_)
  · simp only [if_true]
    obtain ⟨a,b,hTO⟩:=hTO
    refine wpAny_bind (wpAny_rule ?_)
    refine wpAny_bind (wpAny_field hz0 rfl (x:=.ref TO) rfl ?_)
    refine wpAny_bind (wpAny_setField_rec hz0 (by simp) fun h₁ hz₁ hs₁=>?_)
    refine wpAny_bind ?_
    simp only [List.zipIdx_cons,List.zipIdx_nil,List.forIn_cons,List.forIn_nil]
    refine wpAny_bind (wpAny_bind (wpAny_onRaise ?_))
    show wpAny _ _ (Builtin.SmallTypes.nextOf (.ref i1) >>= _) _ _ _
    refine wpAny_bind (D1.item i { s with heap:=h₁ } _ _ hi1 (F1 st1 hs₁ D.i1z D.l1z) fun x h₂ tk₂ px st1' hs₂=>wpAny_pure ?_)
    have hTO₂:IsPair h₂ TO a b:=hs₂.extBut _ _ D.TOi1 (hs₁.extBut _ _ D.TOz hTO)
    refine wpAny_bind (wpAny_seqItems hTO₂ rfl ?_)
    refine wpAny_bind (wpAny_updateSeq_pair hTO₂ fun h₃ hTO₃ hs₃=>?_)
    replace hTO₃:IsPair h₃ TO x b:=hTO₃
    refine wpAny_bind (wpAny_letGo (wpAny_pure ?_))
    refine wpAny_bind (wpAny_bind (wpAny_onRaise ?_))
    show wpAny _ _ (Builtin.SmallTypes.nextOf (.ref i2) >>= _) _ _ _
    refine wpAny_bind (D2.item i { s with heap:=h₃,toks:=tk₂ } _ _ hi2 (F2 (F2 (F2 st2 hs₁ D.i2z D.l2z) hs₂ D.i12.symm D.l2i1) hs₃ D.TOi2.symm D.l2TO) fun y h₄ tk₄ py st2' hs₄=>wpAny_pure ?_)
    have hTO₄:IsPair h₄ TO x b:=hs₄.extBut _ _ D.TOi2 hTO₃
    refine wpAny_bind (wpAny_seqItems hTO₄ rfl ?_)
    refine wpAny_bind (wpAny_updateSeq_pair hTO₄ fun h₅ hTO₅ hs₅=>?_)
    replace hTO₅:IsPair h₅ TO x y:=hTO₅
    refine wpAny_bind (wpAny_letGo (wpAny_pure (wpAny_pure ?_)))
    refine wpAny_bind (wpAny_seqItems hTO₅ rfl ?_)
    refine wpAny_bind (wpAny_newTuple ?_)
    have hsz:h₅.objs.size=s.heap.objs.size:=by rw [hs₅.1,hs₄.1,hs₃.1,hs₂.1,hs₁.1]
    have hz₅:=hs₅.extBut _ _ D.TOz.symm (hs₄.extBut _ _ D.i2z.symm (hs₃.extBut _ _ D.TOz.symm (hs₂.extBut _ _ D.i1z.symm hz₁)))
    have hk₅:∀ c o,c≠z→c≠TO→c≠i1→c≠i2→s.heap.get? c=some o→h₅.get? c=some o:=fun c o c1 c2 c3 c4 e=>
      hs₅.extBut _ _ c2 (hs₄.extBut _ _ c4 (hs₃.extBut _ _ c2 (hs₂.extBut _ _ c3 (hs₁.extBut _ _ c1 e))))
    have h1₅:S1 (i + 1) h₅:=F1 (F1 (F1 st1' hs₃ D.TOi1.symm D.l1TO) hs₄ D.i12 D.l1i2) hs₅ D.TOi1.symm D.l1TO
    have h2₅:S2 (i + 1) h₅:=F2 st2' hs₅ D.TOi2.symm D.l2TO
    have hzlt:z < h₅.objs.size:=Heap.lt_size hz₅
    show wpAny _ _ (Builtin.SmallTypes.ownedTupleHandOut (.ref z) (.ref h₅.objs.size) >>= _) _ _ _
    refine wpAny_bind ?_
    unfold Builtin.SmallTypes.ownedTupleHandOut
    have hz₆:=Heap.get?_push_of_some { cls:=.type "tuple",data:=.seq #[x,y] } hz₅
    refine wpAny_bind (wpAny_setField_rec hz₆ (by simp) fun h₇ hz₇ hs₇=>?_)
    refine wpAny_setField_rec hz₇ (by simp) fun h₈ hz₈ hs₈=>?_
    have up:∀ c o,c≠z→h₅.get? c=some o→h₈.get? c=some o:=fun c o c1 e=>hs₈.extBut _ _ c1 (hs₇.extBut _ _ c1 (Heap.get?_push_of_some _ e))
    have hT₈:IsPair h₈ h₅.objs.size x y:=hs₈.extBut _ _ (Nat.ne_of_gt hzlt) (hs₇.extBut _ _ (Nat.ne_of_gt hzlt) (Heap.get?_push_size _ rfl))
    have hz8:h₈.objs.size=h₅.objs.size + 1:=by rw [hs₈.1,hs₇.1,Heap.size_push]
    rw [hsz] at hT₈ hz8
    refine wpAny_pure ⟨_,rfl,?_⟩
    show Q (.ref h₅.objs.size) _
    rw [hsz]
    refine hQ x y h₈ tk₄ px py ⟨_,_,hz₈,.inr ⟨_,rfl⟩⟩ ⟨_,_,up _ _ D.TOz hTO₅⟩ (D1.frame _ _ _ h1₅ fun b hb o e=>up b o ?_ e) (D2.frame _ _ _ h2₅ fun b hb o e=>up b o ?_ e) hT₈ hz8 fun c o c1 c2 c3 c4 e=>up c o c1 (hk₅ c o c1 c2 c3 c4 e)
    · rcases List.mem_cons.mp hb with rfl | hb
      · exact D.i1z
      · rw [List.mem_singleton.mp hb];exact D.l1z
    · rcases List.mem_cons.mp hb with rfl | hb
      · exact D.i2z
      · rw [List.mem_singleton.mp hb];exact D.l2z
  · simp only [Bool.false_eq_true,if_false]
    obtain ⟨a,b,hTO⟩:=hTO
    rw [← Array.forIn_toList]
    refine wpAny_bind ?_
    simp only [List.forIn_cons,List.forIn_nil]
    refine wpAny_bind (wpAny_bind (wpAny_holding ?_))
    show wpAny _ _ (Builtin.SmallTypes.nextOf (.ref i1) >>= _) _ _ _
    refine wpAny_bind (D1.item i { s with heap:=h₁ } _ _ hi1 (F1 st1 hs₁ D.i1z D.l1z) fun x h₂ tk₂ px st1' hs₂=>wpAny_pure (wpAny_pure ?_))
    refine wpAny_bind (wpAny_bind (wpAny_holding ?_))
    show wpAny _ _ (Builtin.SmallTypes.nextOf (.ref i2) >>= _) _ _ _
    refine wpAny_bind (D2.item i { s with heap:=h₂,toks:=tk₂ } _ _ hi2 (F2 (F2 st2 hs₁ D.i2z D.l2z) hs₂ D.i12.symm D.l2i1) fun y h₄ tk₄ py st2' hs₄=>wpAny_pure (wpAny_pure (wpAny_pure ?_)))
    show wpAny _ _ (newTuple [x,y] >>= _) _ _ _
    refine wpAny_bind (wpAny_newTuple ?_)
    have hsz:h₄.objs.size=s.heap.objs.size:=by rw [hs₄.1,hs₂.1,hs₁.1]
    obtain ⟨g0,g1,hz₁',hg⟩:=hz₁
    have hz₄:=hs₄.extBut _ _ D.i2z.symm (hs₂.extBut _ _ D.i1z.symm hz₁')
    refine wpAny_pure ⟨_,rfl,?_⟩
    show Q (.ref h₄.objs.size) _
    have up:∀ c o,h₄.get? c=some o→(h₄.push { cls:=.type "tuple",data:=.seq #[x,y] }).get? c=some o:=fun c o e=>Heap.get?_push_of_some _ e
    have hT:IsPair (h₄.push { cls:=.type "tuple",data:=.seq #[x,y] }) h₄.objs.size x y:=Heap.get?_push_size _ rfl
    have hz8:(h₄.push { cls:=.type "tuple",data:=.seq #[x,y] }).objs.size=h₄.objs.size + 1:=Heap.size_push ..
    rw [hsz] at hT hz8 ⊢
    exact hQ x y _ tk₄ px py ⟨_,_,up _ _ hz₄,hg⟩ ⟨_,_,up _ _ (hs₄.extBut _ _ D.TOi2 (hs₂.extBut _ _ D.TOi1 (hs₁.extBut _ _ D.TOz hTO)))⟩ (D1.frame _ _ _ (F1 st1' hs₄ D.i12 D.l1i2) fun b hb o e=>up b o e) (D2.frame _ _ _ st2' fun b hb o e=>up b o e) hT hz8
      fun c o c1 c2 c3 c4 e=>up c o (hs₄.extBut _ _ c4 (hs₂.extBut _ _ c3 (hs₁.extBut _ _ c1 e)))
theorem zip_endD {z TI TO i1 i2 l1 l2:Addr}{n1 n2 i:Nat} {P1 P2:Nat→Value→Prop}{S1 S2:Nat→Heap→Prop} {Q:Fin→Shared→Prop}(D:ZipApart z TI TO i1 i2 l1 l2)
    (D1:Draws prog w A i1 [i1,l1] n1 P1 S1) (D2:Draws prog w A i2 [i2,l2] n2 P2 S2) (hz:ZS s.heap z TI TO) (hTI:IsPair s.heap TI (.ref i1) (.ref i2)) (hTO:∃ a b,IsPair s.heap TO a b) (st1:S1 i s.heap) (st2:S2 i s.heap) (he:i=n1∨(i < n1∧i=n2))
    (hE:∀ h' e tk,(∀ c o,c≠z→c≠TO→c≠i1→c≠i2→s.heap.get? c=some o→h'.get? c=some o)→(∃ o,h'.get? e=some o∧o.cls=.type "StopIteration")→E (.ref e) { s with heap:=h',toks:=tk }) :
    wpAny (model prog w) A (Builtin.«zip.__next__» ⟨[.ref z],[]⟩) Q E s:=by
  obtain ⟨f0,f1,hz0,hf⟩:=id hz
  have F1:∀ {k:Nat}{h h':Heap} {c:Addr},S1 k h→Heap.SameBut c h h'→i1≠c→l1≠c→S1 k h':=fun st hs e1 e2=>D1.frame _ _ _ st fun b hb o e=>by
    rcases List.mem_cons.mp hb with rfl | hb
    · exact hs.extBut _ _ e1 e
    · rw [List.mem_singleton.mp hb] at e ⊢;exact hs.extBut _ _ e2 e
  have F2:∀ {k:Nat}{h h':Heap} {c:Addr},S2 k h→Heap.SameBut c h h'→i2≠c→l2≠c→S2 k h':=fun st hs e1 e2=>D2.frame _ _ _ st fun b hb o e=>by
    rcases List.mem_cons.mp hb with rfl | hb
    · exact hs.extBut _ _ e1 e
    · rw [List.mem_singleton.mp hb] at e ⊢;exact hs.extBut _ _ e2 e
  show wpAny _ _ (field (.ref z) 2 >>= _) _ _ _
  refine wpAny_bind (wpAny_field hz0 rfl (x:=.bool false) rfl ?_)
  show wpAny _ _ (field (.ref z) 3 >>= _) _ _ _
  refine wpAny_bind (wpAny_field hz0 rfl (x:=.ref TI) rfl ?_)
  refine wpAny_bind (wpAny_seqItems hTI rfl ?_)
  show wpAny _ _ (Builtin.SmallTypes.ownedTupleIsFree (.ref z) >>= _) _ _ _
  refine wpAny_bind (isFree hz ?_ fun h₁ hz₁ hs₁=>?_)
  · simp only [if_true]
    obtain ⟨a,b,hTO⟩:=hTO
    refine wpAny_bind (wpAny_rule ?_)
    refine wpAny_bind (wpAny_field hz0 rfl (x:=.ref TO) rfl ?_)
    refine wpAny_bind (wpAny_setField_rec hz0 (by simp) fun h₁ hz₁ hs₁=>?_)
    refine wpAny_bind ?_
    simp only [List.zipIdx_cons,List.zipIdx_nil,List.forIn_cons,List.forIn_nil]
    refine wpAny_bind (wpAny_bind (wpAny_onRaise ?_))
    show wpAny _ _ (Builtin.SmallTypes.nextOf (.ref i1) >>= _) _ _ _
    rcases he with rfl | ⟨hlt,rfl⟩
    · refine wpAny_bind (D1.done { s with heap:=h₁ } _ _ (F1 st1 hs₁ D.i1z D.l1z) fun h₂ e hs₂ he=>?_)
      obtain ⟨oe,hoe,hce⟩:=he
      have hz₂:=hs₂ _ _ D.i1z.symm hz₁
      have hez:e≠z:=fun x=>by subst x;rw [hz₂] at hoe;cases hoe;simp at hce
      exact wpAny_setField_rec hz₂ (by simp) fun h₃ _ hs₃=>hE h₃ e s.toks (fun c o c1 _ c3 _ x=>hs₃.extBut _ _ c1 (hs₂ _ _ c3 (hs₁.extBut _ _ c1 x))) ⟨oe,hs₃.extBut _ _ hez hoe,hce⟩
    · refine wpAny_bind (D1.item i { s with heap:=h₁ } _ _ hlt (F1 st1 hs₁ D.i1z D.l1z) fun x h₂ tk₂ px st1' hs₂=>wpAny_pure ?_)
      have hTO₂:IsPair h₂ TO a b:=hs₂.extBut _ _ D.TOi1 (hs₁.extBut _ _ D.TOz hTO)
      refine wpAny_bind (wpAny_seqItems hTO₂ rfl ?_)
      refine wpAny_bind (wpAny_updateSeq_pair hTO₂ fun h₃ hTO₃ hs₃=>?_)
      refine wpAny_bind (wpAny_letGo (wpAny_pure ?_))
      refine wpAny_bind (wpAny_bind (wpAny_onRaise ?_))
      show wpAny _ _ (Builtin.SmallTypes.nextOf (.ref i2) >>= _) _ _ _
      refine wpAny_bind (D2.done { s with heap:=h₃,toks:=tk₂ } _ _ (F2 (F2 (F2 st2 hs₁ D.i2z D.l2z) hs₂ D.i12.symm D.l2i1) hs₃ D.TOi2.symm D.l2TO) fun h₄ e hs₄ he=>?_)
      obtain ⟨oe,hoe,hce⟩:=he
      have hz₄:=hs₄ _ _ D.i2z.symm (hs₃.extBut _ _ D.TOz.symm (hs₂.extBut _ _ D.i1z.symm hz₁))
      have hez:e≠z:=fun x=>by subst x;rw [hz₄] at hoe;cases hoe;simp at hce
      exact wpAny_setField_rec hz₄ (by simp) fun h₅ _ hs₅=>hE h₅ e tk₂ (fun c o c1 c2 c3 c4 x=>hs₅.extBut _ _ c1 (hs₄ _ _ c4 (hs₃.extBut _ _ c2 (hs₂.extBut _ _ c3 (hs₁.extBut _ _ c1 x))))) ⟨oe,hs₅.extBut _ _ hez hoe,hce⟩
  · simp only [Bool.false_eq_true,if_false]
    rw [← Array.forIn_toList]
    refine wpAny_bind ?_
    simp only [List.forIn_cons,List.forIn_nil]
    refine wpAny_bind (wpAny_bind (wpAny_holding ?_))
    show wpAny _ _ (Builtin.SmallTypes.nextOf (.ref i1) >>= _) _ _ _
    rcases he with rfl | ⟨hlt,rfl⟩
    · refine wpAny_bind (D1.done { s with heap:=h₁ } _ _ (F1 st1 hs₁ D.i1z D.l1z) fun h₂ e hs₂ he=>?_)
      exact hE h₂ e s.toks (fun c o c1 _ c3 _ x=>hs₂ _ _ c3 (hs₁.extBut _ _ c1 x)) he
    · refine wpAny_bind (D1.item i { s with heap:=h₁ } _ _ hlt (F1 st1 hs₁ D.i1z D.l1z) fun x h₂ tk₂ px st1' hs₂=>wpAny_pure (wpAny_pure ?_))
      refine wpAny_bind (wpAny_bind (wpAny_holding ?_))
      show wpAny _ _ (Builtin.SmallTypes.nextOf (.ref i2) >>= _) _ _ _
      refine wpAny_bind (D2.done { s with heap:=h₂,toks:=tk₂ } _ _ (F2 (F2 st2 hs₁ D.i2z D.l2z) hs₂ D.i12.symm D.l2i1) fun h₄ e hs₄ he=>?_)
      exact hE h₄ e tk₂ (fun c o c1 _ c3 c4 x=>hs₄ _ _ c4 (hs₂.extBut _ _ c3 (hs₁.extBut _ _ c1 x))) he
structure ZSt (z TI TO i1 i2:Addr) (S1 S2:Nat→Heap→Prop) (i:Nat) (h:Heap):Prop where
  zs:ZS h z TI TO
  ti:IsPair h TI (.ref i1) (.ref i2)
  to:∃ a b,IsPair h TO a b
  s1:S1 i h
  s2:S2 i h
theorem next_zip {z TI TO i1 i2 l1 l2:Addr}{n1 n2 i:Nat} {P1 P2:Nat→Value→Prop}{S1 S2:Nat→Heap→Prop} {Q:Option Value→Shared→Prop}(D:ZipApart z TI TO i1 i2 l1 l2)
    (D1:Draws prog w A.in1 i1 [i1,l1] n1 P1 S1) (D2:Draws prog w A.in1 i2 [i2,l2] n2 P2 S2) (st:ZSt z TI TO i1 i2 S1 S2 i s.heap) (hi1:i < n1) (hi2:i < n2)
    (hQ:∀ x y h' tk,P1 i x→P2 i y→ZSt z TI TO i1 i2 S1 S2 (i + 1) h'→IsPair h' s.heap.objs.size x y→h'.objs.size=s.heap.objs.size + 1→
      (∀ c o,c∉[z,TO,i1,i2]→s.heap.get? c=some o→h'.get? c=some o)→Q (some (.ref s.heap.objs.size)) { s with heap:=h',toks:=tk }) :
    wpAny (model prog w) A (pyNext (.ref z)) Q E s:=by
  obtain ⟨f0,f1,hz0,hf⟩:=id st.zs
  have hT:s.TypeIs (.ref z) "zip" := ⟨_,hz0,rfl⟩
  unfold pyNext
  exact wpAny_bind (wpAny_attempt (wpAny_callSpecial?_slot (name:=Str.ofString "__next__") hT PySem.F.slot_zip_next
    (wpAny_call_entry PySem.F.slot_zip_next hT PySem.F.entry_zip_next
      (zip_itemD D D1 D2 st.zs st.ti st.to st.s1 st.s2 hi1 hi2 fun x y h' tk a1 a2 a3 a4 a5 a6 a7 a8 a9=>wpAny_pure (hQ x y h' tk a1 a2 ⟨a3,a9 _ _ D.TIz D.TITO D.TIi1 D.TIi2 st.ti,a4,a5,a6⟩ a7 a8
        fun c o hc e=>a9 c o (fun z=>hc (by simp [z])) (fun z=>hc (by simp [z])) (fun z=>hc (by simp [z])) (fun z=>hc (by simp [z])) e)) (PySem.F.args_zip_next_1 _))))
theorem end_zip {z TI TO i1 i2 l1 l2:Addr}{n1 n2 i:Nat} {P1 P2:Nat→Value→Prop}{S1 S2:Nat→Heap→Prop} {Q:Option Value→Shared→Prop}(D:ZipApart z TI TO i1 i2 l1 l2)
    (D1:Draws prog w A.in1 i1 [i1,l1] n1 P1 S1) (D2:Draws prog w A.in1 i2 [i2,l2] n2 P2 S2) (st:ZSt z TI TO i1 i2 S1 S2 i s.heap) (he:i=n1∨(i < n1∧i=n2))
    (hQ:∀ h' tk,(∀ c o,c∉[z,TO,i1,i2]→s.heap.get? c=some o→h'.get? c=some o)→Q none { s with heap:=h',toks:=tk }):wpAny (model prog w) A (pyNext (.ref z)) Q E s:=by
  obtain ⟨f0,f1,hz0,hf⟩:=id st.zs
  have hT:s.TypeIs (.ref z) "zip" := ⟨_,hz0,rfl⟩
  unfold pyNext
  refine wpAny_bind (wpAny_attempt (wpAny_callSpecial?_slot (name:=Str.ofString "__next__") hT PySem.F.slot_zip_next
    (wpAny_call_entry PySem.F.slot_zip_next hT PySem.F.entry_zip_next (zip_endD D D1 D2 st.zs st.ti st.to st.s1 st.s2 he fun h' e tk hk he=>?_) (PySem.F.args_zip_next_1 _))))
  obtain ⟨o,ho,hc⟩:=he
  refine wpAny_bind (wpAny_isInstance (T := "StopIteration") (b:=true) ⟨o,ho,hc⟩ isSubtype_stop ?_)
  exact wpAny_pure (hQ _ _ fun c o hc e=>hk c o (fun z=>hc (by simp [z])) (fun z=>hc (by simp [z])) (fun z=>hc (by simp [z])) (fun z=>hc (by simp [z])) e)
noncomputable def SqI (b:Bool) (h:Heap) (l:Addr) (items:Array Value):Prop:=match b with
  | true=>h.IsList l items
  | false=>h.IsTuple l items
noncomputable def itI (b:Bool) (l:Addr) (k:Nat):Obj:={ cls:=.type (match b with | true => "list_iterator" | false => "tuple_iterator"),data:=.fields #[.ref l,.int k 0] }
noncomputable def StI (b:Bool) (it l:Addr) (items:Array Value):Nat→Heap→Prop:=fun i h=>match b with
  | true=>h.IsListIter it l i∧h.IsList l items
  | false=>h.IsTupleIter it l i∧h.IsTuple l items
theorem drawsI {prog:Program}{w:World} {A:Around}(hh:A.handled=none) (b:Bool) (it l:Addr) (hne:l≠it) (items:Array Value) :
    Draws prog w A it [it,l] items.size (fun i v=>items[i]?=some v) (StI b it l items):=by
  cases b
  · exact drawsT hh it l hne items
  · exact Draws.list hh it l hne items
theorem SqI.at {b:Bool}{h h':Heap} {l:Addr}{items:Array Value} (x:SqI b h l items) (k:∀ o,h.get? l=some o→h'.get? l=some o):SqI b h' l items:=by
  cases b
  · obtain ⟨o,ho,r⟩:=x;exact ⟨o,k o ho,r⟩
  · exact Heap.IsList.at x k
theorem pyIterI {b:Bool}{l:Addr} {items:Array Value}{Q:Value→Shared→Prop} (hl:SqI b s.heap l items) (hQ:Q (.ref s.heap.objs.size) { s with heap:=s.heap.push (itI b l 0) }):wpAny (model prog w) A (pyIter (.ref l)) Q E s:=by
  cases b
  · exact wpAny_pyIter_tuple hl hQ
  · exact wpAny_pyIter_list hl hQ
theorem stI0 {b:Bool}{h:Heap} {it l:Addr}{items:Array Value} (h1:h.get? it=some (itI b l 0)) (h2:SqI b h l items):StI b it l items 0 h:=by
  cases b
  · exact ⟨⟨_,h1,rfl,rfl⟩,h2⟩
  · exact ⟨⟨_,h1,rfl,rfl⟩,h2⟩
noncomputable def zH2 (b1 b2:Bool) (h:Heap) (l1 l2:Addr):Heap:=(h.push (itI b1 l1 0)).push (itI b2 l2 0)
noncomputable def zH4 (b1 b2:Bool) (h:Heap) (l1 l2:Addr):Heap:=((zH2 b1 b2 h l1 l2).push { cls:=.type "tuple",data:=.seq #[.ref h.objs.size,.ref (h.push (itI b1 l1 0)).objs.size] }).push { cls:=.type "tuple",data:=.seq #[.none,.none] }
noncomputable def zH5 (b1 b2:Bool) (h:Heap) (l1 l2:Addr):Heap:=(zH4 b1 b2 h l1 l2).push { cls:=.type "zip",data:=.fields #[.none,.bool false,.bool false,.ref (zH2 b1 b2 h l1 l2).objs.size,.ref ((zH2 b1 b2 h l1 l2).push { cls:=.type "tuple",data:=.seq #[.ref h.objs.size,.ref (h.push (itI b1 l1 0)).objs.size] }).objs.size] }
theorem meets_zip (b1 b2:Bool) (l1 l2:Addr) (xs ys:Array Value) :
    Meets (Builtin.«zip.__new__» ⟨[.type "zip",.ref l1,.ref l2],[]⟩) (fun _ R s=>SqI b1 s.heap l1 xs∧SqI b2 s.heap l2 ys∧
      R (.ok (.ret (.ref (zH4 b1 b2 s.heap l1 l2).objs.size))) { s with heap:=zH5 b1 b2 s.heap l1 l2 }):=
  .of_wp fun prog w A R s h=>by
    obtain ⟨hp,g,d,tk,os⟩:=s;obtain ⟨hl1,hl2,h⟩:=h
    have hsub:=sub_zip
    have hL1:SqI b1 (Shared.heap ⟨hp,g,d,tk,os⟩) l1 xs:=hl1
    have hL2:SqI b2 (Shared.heap ⟨hp.push (itI b1 l1 0),g,d,tk,os⟩) l2 ys:=hl2.at fun o e=>Heap.get?_push_of_some _ e
    wp_walk using pyIterI hL1,pyIterI hL2
    exact ⟨_,rfl,h⟩
theorem call_zip {b1 b2:Bool}{l1 l2:Addr} {xs ys:Array Value}{Q:Value→Shared→Prop} (hl1:SqI b1 s.heap l1 xs) (hl2:SqI b2 s.heap l2 ys)
    (h:∀ h',ZSt (s.heap.objs.size + 4) (s.heap.objs.size + 2) (s.heap.objs.size + 3) s.heap.objs.size (s.heap.objs.size + 1) (StI b1 s.heap.objs.size l1 xs) (StI b2 (s.heap.objs.size + 1) l2 ys) 0 h'→h'.objs.size=s.heap.objs.size + 5→
      (∀ c o,s.heap.get? c=some o→h'.get? c=some o)→Q (.ref (s.heap.objs.size + 4)) { s with heap:=h' }) :
    wpAny (model prog w) A (call (.type "zip") [.ref l1,.ref l2]) Q E s:=by
  refine callType_new PySem.F.called_zip (by decide) (PySem.F.typeCall_zip_2 _ _) (PySem.F.newCall_zip_2 _ _) (fun obj=>PySem.F.args_object_init_3 obj _ _) PySem.F.entry_zip_new
    (meets_zip b1 b2 l1 l2 xs ys) ⟨hl1,hl2,?_⟩
  have z1:(s.heap.push (itI b1 l1 0)).objs.size=s.heap.objs.size + 1:=Heap.size_push ..
  have z2:(zH2 b1 b2 s.heap l1 l2).objs.size=s.heap.objs.size + 2:=by unfold zH2;rw [Heap.size_push,z1]
  have z3:((zH2 b1 b2 s.heap l1 l2).push { cls:=.type "tuple",data:=.seq #[.ref s.heap.objs.size,.ref (s.heap.push (itI b1 l1 0)).objs.size] }).objs.size=s.heap.objs.size + 3:=by rw [Heap.size_push,z2]
  have z4:(zH4 b1 b2 s.heap l1 l2).objs.size=s.heap.objs.size + 4:=by unfold zH4;rw [Heap.size_push,z3]
  have z5:(zH5 b1 b2 s.heap l1 l2).objs.size=s.heap.objs.size + 5:=by unfold zH5;rw [Heap.size_push,z4]
  have fr:∀ (b:Bool) (l:Addr) (k:Nat),(itI b l k).isFreed=false:=fun b l k=>by cases b<;>rfl
  have g5:(zH5 b1 b2 s.heap l1 l2).get? (zH4 b1 b2 s.heap l1 l2).objs.size=some _:=Heap.get?_push_size _ rfl
  have g4:(zH5 b1 b2 s.heap l1 l2).get? _=some _:=Heap.get?_push_of_some _ (Heap.get?_push_size (((zH2 b1 b2 s.heap l1 l2).push { cls:=.type "tuple",data:=.seq #[.ref s.heap.objs.size,.ref (s.heap.push (itI b1 l1 0)).objs.size] })) rfl)
  have g3:(zH5 b1 b2 s.heap l1 l2).get? _=some _:=Heap.get?_push_of_some _ (Heap.get?_push_of_some _ (Heap.get?_push_size (zH2 b1 b2 s.heap l1 l2) rfl))
  have g2:(zH5 b1 b2 s.heap l1 l2).get? _=some _:=Heap.get?_push_of_some _ (Heap.get?_push_of_some _ (Heap.get?_push_of_some _ (Heap.get?_push_size (s.heap.push (itI b1 l1 0)) (fr b2 l2 0))))
  have g1:(zH5 b1 b2 s.heap l1 l2).get? _=some _:=Heap.get?_push_of_some _ (Heap.get?_push_of_some _ (Heap.get?_push_of_some _ (Heap.get?_push_of_some _ (Heap.get?_push_size s.heap (fr b1 l1 0)))))
  have kp:∀ c o,s.heap.get? c=some o→(zH5 b1 b2 s.heap l1 l2).get? c=some o:=fun c o x=>Heap.get?_push_of_some _ (Heap.get?_push_of_some _ (Heap.get?_push_of_some _ (Heap.get?_push_of_some _ (Heap.get?_push_of_some _ x))))
  show _∧_
  rw [z2,z3,z4] at g5
  rw [z1,z2] at g3
  rw [z3] at g4
  rw [z1] at g2
  rw [z4]
  exact ⟨⟨_,g5,rfl⟩,h _ ⟨⟨_,_,g5,.inl rfl⟩,g3,⟨_,_,g4⟩,stI0 g1 (hl1.at fun o e=>kp _ o e),stI0 g2 (hl2.at fun o e=>kp _ o e)⟩ z5 kp⟩
end
end HT
set_option Elab.async false
set_option linter.all false
set_option maxRecDepth 100000
namespace PySem.F
theorem zip_no_len:typeLookup (.type "zip") "__len__" = pure none:=by rw [typeLookup_type,builtinLookup_eq_fast];kernel_rfl
theorem zip_no_hint:typeLookup (.type "zip") "__length_hint__" = pure none:=by rw [typeLookup_type,builtinLookup_eq_fast];kernel_rfl
end PySem.F
namespace HT
open PySem PySem.Spec PyProof.Rows
theorem pyIter_zs {prog:Program}{w:World} {A:Around}{E:Value→Shared→Prop} {s:Shared}{z TI TO:Addr} {Q:Value→Shared→Prop}(hz:ZS s.heap z TI TO) (h:Q (.ref z) s):wpAny (model prog w) A (pyIter (.ref z)) Q E s:=by
  obtain ⟨f0,f1,hz,_⟩:=hz
  have hT:s.TypeIs (.ref z) "zip" := ⟨_,hz,rfl⟩
  refine wpAny_pyIter_slot hT PySem.F.slot_zip_iter (wpAny_call_entry PySem.F.slot_zip_iter hT PySem.F.entry_zip_iter ?_ (PySem.F.args_zip_iter_1 _))
  show wpAny _ _ (ret (.ref z)) _ _ s
  exact wpAny_pure ⟨_,rfl, "zip",_,hT,PySem.F.slot_zip_next.lookup,h⟩
end HT
namespace L2
open PySem PySem.Spec PyProof.Rows
section
variable {X:Cx}{pins:List (Addr×Obj)} {σ:St}{H:Hp} {s:Shared}{h':Heap} {ch:List Addr}
theorem Inv.turnedL {t':Nat}(I:Inv X pins σ H s) (hf:∀ b∈ch,FpOk X pins H b) (k:∀ b o,b∉ch→s.heap.get? b=some o→h'.get? b=some o):Inv X pins σ H { s with heap:=h',toks:=t' }:=by
  have nch:∀ b u,H b=some u→b∉ch:=fun b u e z=>by rw [(hf b z).1] at e;cases e
  refine I.step (g':=s.gens) (d':=s.drawn) (ch:=ch) (fun b hb=>?_) (fun b o _ _ hc e _=>k b o hc e) (fun b o _ _ hc e _=>⟨o.slots,k b o hc e⟩) (fun _ _ _ _ n=>n)
    (fun b o hc e=>⟨o,k b o hc e⟩) (fun _ _ e=>e) (fun _ _ _ e=>e) (fun b ps e=>⟨#[],by rw [e];simp⟩) (fun m hm=>?_) (fun b u e=>?_) I.bare
  · obtain ⟨f0,f1,f2,f3,f4,f5⟩:=hf b hb
    exact ⟨f3,f1,f4,f5⟩
  · obtain ⟨o,es,ep,ho,r⟩:=hm
    exact ⟨o,es,ep,k _ o (fun z=>(hf _ z).2.1 rfl) ho,r⟩
  · refine (I.hok b u e).stay (fun c v hc q=>k c v ?_ q) (fun _ q=>q) fun _ _ q=>q
    rcases hc with z | z
    · rw [z];exact nch b u e
    · exact nch c _ z
theorem Inv.pairL {t':Nat}{x y:Value} {vx vy:V}(I:Inv X pins σ H s) (hf:∀ b∈ch,FpOk X pins H b) (k:∀ b o,b∉ch→s.heap.get? b=some o→h'.get? b=some o) (hT:IsPair h' s.heap.objs.size x y) (rx:RelV vx x) (ry:RelV vy y) :
    Inv X pins σ (upd H s.heap.objs.size (.tup [vx,vy])) { s with heap:=h',toks:=t' }:=by
  have nch:∀ b u,H b=some u→b∉ch:=fun b u e z=>by rw [(hf b z).1] at e;cases e
  have fr:H s.heap.objs.size=none:=I.fresh
  have hok0:HOk X.prog X.w H h':=fun b u q=>by
    refine (I.hok b u q).stay (fun c v hc q'=>k c v ?_ q') (fun _ z=>z) fun _ _ z=>z
    rcases hc with z | z
    · rw [z];exact nch b u q
    · exact nch c _ z
  have new:ObjOk X.prog X.w (upd H s.heap.objs.size (.tup [vx,vy])) h' s.heap.objs.size (.tup [vx,vy]):=
    ⟨by show 2≤sizeLine;rw [sizeLine_eq];decide,[x,y],.cons rx (.cons ry .nil),⟨_,hT,rfl,_,rfl⟩⟩
  have hok1:HOk X.prog X.w (upd H s.heap.objs.size (.tup [vx,vy])) h':=fun b u q=>by
    by_cases hb:b=s.heap.objs.size
    · subst hb;rw [upd_same] at q;cases q;exact new
    · rw [upd_ne hb] at q
      exact (hok0 b u q).stay (fun _ _ _ z=>z) (fun c z=>by rw [upd_ne (ne_of_none z fr)];exact z) fun c xs z=>by rw [upd_ne (ne_of_none z fr)];exact z
  refine I.step (g':=s.gens) (d':=s.drawn) (ch:=ch) (fun b hb=>?_) (fun b o _ _ hc e _=>k b o hc e) (fun b o _ _ hc e _=>⟨o.slots,k b o hc e⟩)
    (fun b o _ q n=>by rw [upd_ne (Nat.ne_of_lt (Heap.lt_size q))];exact n) (fun b o hc e=>⟨o,k b o hc e⟩) (fun b xs q=>by rw [upd_ne (ne_of_none q fr)];exact q) (fun b o xs q=>by rw [upd_ne (ne_of_none q fr)];exact q)
    (fun b ps q=>⟨#[],by rw [upd_ne (ne_of_none q fr),q];simp⟩) (fun m hm=>?_) hok1 I.bare
  · obtain ⟨f0,f1,f2,f3,f4,f5⟩:=hf b hb
    exact ⟨f3,f1,f4,f5⟩
  · obtain ⟨o,es,ep,ho,r⟩:=hm
    exact ⟨o,es,ep,k _ o (fun z=>(hf _ z).2.1 rfl) ho,r⟩
end
noncomputable def SqB (b:Bool) (K:PySem.W.Frag) (H:Hp) (a:Addr) (xs:List V):Prop:=match b with
  | true=>SqL K H a xs
  | false=>SqT K H a xs
theorem Inv.sq {X:Cx}{pins:List (Addr×Obj)} {σ:St}{H:Hp} {s:Shared}{b:Bool} {a:Addr}{xs:List V} (I:Inv X pins σ H s) (h:SqB b X.K H a xs):∃ its,Vals xs its∧HT.SqI b s.heap a its.toArray∧xs.length≤sizeLine:=by
  cases b
  · obtain ⟨its,r,p,z⟩:=I.tuple h;exact ⟨its,r,p,z⟩
  · obtain ⟨its,r,p,z⟩:=I.list h;exact ⟨its,r,p.isList,z⟩
noncomputable def zipRun (S:Addr):List (V×V)→List V→Hp→(Hp→Prop)→Prop
  | [],_,H,R=>R H
  | (x,y)::l,acc,H,R=>∀ T,H T=none→zipRun S l (acc++[.ref T]) (upd (upd H T (.tup [x,y])) S (.lst (acc++[.ref T]))) R
theorem zipRun_imp {S:Addr}{R R':Hp→Prop} (w:∀ H,R H→R' H):∀ {l:List (V×V)}{acc:List V} {H:Hp},zipRun S l acc H R→zipRun S l acc H R'
  | [],_,_,h=>w _ h
  | (x,y)::l,acc,H,h=>fun T hT=>zipRun_imp w (h T hT)
section
variable {X:Cx}{pins:List (Addr×Obj)} {σ:St}
theorem loopZ {z TI TO i1 i2 l1 l2 S:Addr}{b1 b2:Bool} {its1 its2:List Value}{xs ys:List V} {A:Around}{R:Result→Shared→Prop} {res:Value}(D:ZipApart z TI TO i1 i2 l1 l2) (hA:A.in1.in1.handled=none)
    (rx:Vals xs its1) (ry:Vals ys its2) (hn:xs.length≤sizeLine) (nS:S∉[z,TI,TO,i1,i2,l1,l2]) :
    ∀ (l:List (V×V)) (i:Nat) (s:Shared) (H:Hp) (acc:List V),l=(xs.zip ys).drop i→i≤xs.length→i≤ys.length→acc.length=i→Inv X pins σ H s→(∀ b∈[z,TO,i1,i2],FpOk X pins H b)→H S=some (.lst acc)→
    HT.ZSt z TI TO i1 i2 (HT.StI b1 i1 l1 its1.toArray) (HT.StI b2 i2 l2 its2.toArray) i s.heap→zipRun S l acc H (fun H'=>∀ s',Inv X pins σ H' s'→R (.ok (.ret res)) s')→
    codeAny (model X.prog X.w) A (.builtin "list.extend.loop" ⟨[.ref S,.ref z,res],[]⟩) R s:=by
  have D1:=HT.drawsI (prog:=X.prog) (w:=X.w) (A:=A.in1.in1) hA b1 i1 l1 D.l1i1 its1.toArray
  have D2:=HT.drawsI (prog:=X.prog) (w:=X.w) (A:=A.in1.in1) hA b2 i2 l2 D.l2i2 its2.toArray
  have e1:=rx.length
  have e2:=ry.length
  intro l
  induction l with
  | nil=>
    intro i s H acc hl hi1 hi2 ha I hf hS st q
    have hz:(xs.zip ys).length≤i:=by
      have:=congrArg List.length hl
      rw [List.length_drop,List.length_nil] at this
      omega
    rw [List.length_zip] at hz
    refine codeAny_builtin PySem.F.entry_extend_loop ?_
    rw [Around.under_plainId PySem.F.plain_extend_loop _]
    show wpAny _ A.in1 (pyNext (.ref z) >>= _) _ _ s
    refine wpAny_bind (HT.end_zip D D1 D2 st (by simp only [List.size_toArray];omega) fun h' tk hk=>wpAny_pure ?_)
    exact q _ (I.turnedL hf hk)
  | cons p l ih=>
    obtain ⟨x,y⟩:=p
    intro i s H acc hl hi1 hi2 ha I hf hS st q
    have hlen:i < (xs.zip ys).length:=by
      have:=congrArg List.length hl
      rw [List.length_drop,List.length_cons] at this
      omega
    have hl2:=hl
    rw [List.drop_eq_getElem_cons hlen] at hl2
    injection hl2 with hp hl3
    have hlen':=hlen
    rw [List.length_zip] at hlen'
    have hx:xs[i]?=some x:=by
      rw [List.getElem_zip] at hp
      injection hp with hp1 hp2
      rw [hp1];simp
    have hy:ys[i]?=some y:=by
      rw [List.getElem_zip] at hp
      injection hp with hp1 hp2
      rw [hp2];simp
    obtain ⟨u,hu,ru⟩:=rx.get hx
    obtain ⟨v,hv,rv⟩:=ry.get hy
    refine codeAny_builtin PySem.F.entry_extend_loop ?_
    rw [Around.under_plainId PySem.F.plain_extend_loop _]
    show wpAny _ A.in1 (pyNext (.ref z) >>= _) _ _ s
    refine wpAny_bind (HT.next_zip D D1 D2 st (by simp only [List.size_toArray];omega) (by simp only [List.size_toArray];omega) fun x' y' h' tk px py st' hT hsz hk=>?_)
    have ex:x'=u:=by
      have:its1[i]?=some x':=by simpa using px
      rw [hu] at this;exact (Option.some.inj this).symm
    have ey:y'=v:=by
      have:its2[i]?=some y':=by simpa using py
      rw [hv] at this;exact (Option.some.inj this).symm
    subst ex ey
    have I1:Inv X pins σ (upd H s.heap.objs.size (.tup [x,y])) { s with heap:=h',toks:=tk }:=I.pairL hf hk hT ru rv
    have fr:H s.heap.objs.size=none:=I.fresh
    have hST:S≠s.heap.objs.size:=ne_of_none hS fr
    have hS1:upd H s.heap.objs.size (.tup [x,y]) S=some (.lst acc):=by rw [upd_ne hST];exact hS
    obtain ⟨its,n,r,ho,hz⟩:=I1.lst hS1
    show wpAny _ A.in1 (updateSeq S (·.push (.ref s.heap.objs.size)) >>= _) _ _ _
    refine wpAny_bind ?_
    have hal:its.length=i:=by rw [← r.length];exact ha
    refine wpAny_updateSeq ho rfl (wpAny_pure ⟨plainId_quiet PySem.F.plain_extend_loop _,?_⟩) (by simp only [List.size_toArray];omega) (by simp only [Array.size_push,List.size_toArray];omega)
    have I2:=I1.lstUpd hS1 ho (f:=Obj.mapSeq (·.push (.ref s.heap.objs.size))) (its':=its++[.ref s.heap.objs.size]) (ys:=acc++[.ref s.heap.objs.size]) (by simp [Obj.mapSeq];rfl) (r.append (.cons (show RelV (.ref s.heap.objs.size) (.ref s.heap.objs.size) from rfl) .nil)) (by rw [List.length_append,List.length_singleton];omega) tk
    refine ih (i + 1) _ _ (acc++[.ref s.heap.objs.size]) hl3 (by omega) (by omega) (by rw [List.length_append,List.length_singleton,ha]) I2 (fun b hb=>?_) upd_same ?_ (q _ fr)
    · obtain ⟨f0,f1⟩:=hf b hb
      refine ⟨?_,f1⟩
      have hbS:b≠S:=fun z=>nS (by subst z;simp at hb ⊢;rcases hb with h | h | h | h<;>simp [h])
      have hbT:b≠s.heap.objs.size:=by
        intro z
        subst z
        obtain ⟨q1,q2,q3,_⟩:=st.zs
        obtain ⟨a1,a2,q4⟩:=st.to
        obtain ⟨o1,q5⟩:=D1.live _ _ st.s1
        obtain ⟨o2,q6⟩:=D2.live _ _ st.s2
        simp at hb
        rcases hb with h | h | h | h
        · rw [← h] at q3;exact Nat.lt_irrefl _ (Heap.lt_size q3)
        · rw [← h] at q4;exact Nat.lt_irrefl _ (Heap.lt_size q4)
        · rw [← h] at q5;exact Nat.lt_irrefl _ (Heap.lt_size q5)
        · rw [← h] at q6;exact Nat.lt_irrefl _ (Heap.lt_size q6)
      rw [upd_ne hbS,upd_ne hbT];exact f0
    · have kk:∀ c o,c≠S→h'.get? c=some o→(h'.update S (Obj.mapSeq (·.push (.ref s.heap.objs.size)))).get? c=some o:=fun c o hc e=>(Heap.get?_update_other _ _ (Ne.symm hc)).trans e
      obtain ⟨q1,q2,q3,q3'⟩:=st'.zs
      obtain ⟨a1,a2,q4⟩:=st'.to
      refine ⟨⟨q1,q2,kk _ _ (fun z=>nS (by simp [← z])) q3,q3'⟩,kk _ _ (fun z=>nS (by simp [← z])) st'.ti,⟨a1,a2,kk _ _ (fun z=>nS (by simp [← z])) q4⟩,D1.frame _ _ _ st'.s1 fun b hb o e=>kk b o ?_ e,D2.frame _ _ _ st'.s2 fun b hb o e=>kk b o ?_ e⟩
      · intro z;subst z;simp at hb;exact nS (by rcases hb with h | h<;>simp [h])
      · intro z;subst z;simp at hb;exact nS (by rcases hb with h | h<;>simp [h])
theorem call_list_zip {z TI TO i1 i2 l1 l2:Addr}{b1 b2:Bool} {its1 its2:List Value}{xs ys:List V} {H:Hp}{s:Shared} {Q:VK}(D:ZipApart z TI TO i1 i2 l1 l2) (hc:X.calm=true)
    (rx:Vals xs its1) (ry:Vals ys its2) (hn:xs.length≤sizeLine) (I:Inv X pins σ H s) (hf:∀ b∈[z,TO,i1,i2],FpOk X pins H b)
    (st:HT.ZSt z TI TO i1 i2 (HT.StI b1 i1 l1 its1.toArray) (HT.StI b2 i2 l2 its2.toArray) 0 s.heap)
    (q:∀ S,H S=none→zipRun S (xs.zip ys) [] (upd H S (.lst [])) (fun H'=>Q (.ref S) H')) :
    wpAny (model X.prog X.w) X.A (call (.type "list") [.ref z]) (EP X pins σ Q) X.xe s:=by
  have hh:X.A.in1.in1.in1.in1.handled=none:=I.ok.hd hc
  have D1:=HT.drawsI (prog:=X.prog) (w:=X.w) (A:=X.A.in1.in1.in1.in1) hh b1 i1 l1 D.l1i1 its1.toArray
  have D2:=HT.drawsI (prog:=X.prog) (w:=X.w) (A:=X.A.in1.in1.in1.in1) hh b2 i2 l2 D.l2i2 its2.toArray
  have lt:∀ b∈[z,TI,TO,i1,i2,l1,l2],b < s.heap.objs.size:=fun b hb=>by
    obtain ⟨q1,q2,q3,_⟩:=st.zs
    obtain ⟨a1,a2,q4⟩:=st.to
    obtain ⟨o1,q5⟩:=D1.live _ _ st.s1
    obtain ⟨o2,q6⟩:=D2.live _ _ st.s2
    have q7:=st.ti
    have q8:∃ o,s.heap.get? l1=some o:=by
      have h:=st.s1
      cases b1
      · obtain ⟨o,ho,_⟩:=h.2;exact ⟨o,ho⟩
      · obtain ⟨o,ho,_⟩:=h.2;exact ⟨o,ho⟩
    have q9:∃ o,s.heap.get? l2=some o:=by
      have h:=st.s2
      cases b2
      · obtain ⟨o,ho,_⟩:=h.2;exact ⟨o,ho⟩
      · obtain ⟨o,ho,_⟩:=h.2;exact ⟨o,ho⟩
    obtain ⟨o8,q8⟩:=q8
    obtain ⟨o9,q9⟩:=q9
    simp at hb
    rcases hb with h | h | h | h | h | h | h<;>rw [h]
    · exact Heap.lt_size q3
    · exact Heap.lt_size q7
    · exact Heap.lt_size q4
    · exact Heap.lt_size q5
    · exact Heap.lt_size q6
    · exact Heap.lt_size q8
    · exact Heap.lt_size q9
  have nS:s.heap.objs.size∉[z,TI,TO,i1,i2,l1,l2]:=fun hm=>Nat.lt_irrefl _ (lt _ hm)
  have mv:∀ (h1 h2:Heap),(∀ b o,b≠s.heap.objs.size→h1.get? b=some o→h2.get? b=some o)→HT.ZSt z TI TO i1 i2 (HT.StI b1 i1 l1 its1.toArray) (HT.StI b2 i2 l2 its2.toArray) 0 h1→HT.ZSt z TI TO i1 i2 (HT.StI b1 i1 l1 its1.toArray) (HT.StI b2 i2 l2 its2.toArray) 0 h2:=fun h1 h2 k st=>by
    obtain ⟨q1,q2,q3,q3'⟩:=st.zs
    obtain ⟨a1,a2,q4⟩:=st.to
    refine ⟨⟨q1,q2,k _ _ (fun z=>nS (by simp [← z])) q3,q3'⟩,k _ _ (fun z=>nS (by simp [← z])) st.ti,⟨a1,a2,k _ _ (fun z=>nS (by simp [← z])) q4⟩,D1.frame _ _ _ st.s1 fun b hb o e=>k b o ?_ e,D2.frame _ _ _ st.s2 fun b hb o e=>k b o ?_ e⟩
    · intro z;subst z;simp at hb;exact nS (by rcases hb with h | h<;>simp [h])
    · intro z;subst z;simp at hb;exact nS (by rcases hb with h | h<;>simp [h])
  have fr:H s.heap.objs.size=none:=I.fresh
  refine callType_codes (Q₁:=fun obj s₁=>obj=.ref s.heap.objs.size∧s₁={ s with heap:=s.heap.push { cls:=.type "list",data:=.seq #[] } }) PySem.F.called_list (PySem.F.typeCall_list_1 _) PySem.F.entry_list_init
    (code_list_new _ ⟨rfl,rfl⟩) fun obj s₁ h₁=>?_
  obtain ⟨rfl,rfl⟩:=h₁
  have hS:(s.heap.push { cls:=.type "list",data:=.seq #[] }).get? s.heap.objs.size=some { cls:=.type "list",data:=.seq #[] }:=Heap.get?_push_size _ rfl
  have st1:HT.ZSt z TI TO i1 i2 (HT.StI b1 i1 l1 its1.toArray) (HT.StI b2 i2 l2 its2.toArray) 0 (s.heap.push { cls:=.type "list",data:=.seq #[] }):=mv _ _ (fun b o _ e=>Heap.get?_push_of_some _ e) st
  refine ⟨⟨_,hS,rfl⟩,PySem.F.args_list_init_2 _ _,?_⟩
  show wpAny _ X.A.in1.in1 (do let old ← Builtin.List.listItems (.ref s.heap.objs.size);Builtin.List.listUpdate (.ref s.heap.objs.size) (fun _=>#[]);letGo old.toList.reverse;Builtin.List.listExtendWith (.ref s.heap.objs.size) (.ref z) .none) _ _ _
  refine wpAny_bind ?_
  unfold Builtin.List.listItems
  refine wpAny_bind (wpAny_seqItems hS rfl (wpAny_pure ?_))
  show wpAny _ X.A.in1.in1 (updateSeq s.heap.objs.size (fun _=>#[]) >>= fun _=>letGo (#[]:Array Value).toList.reverse >>= fun _=>Builtin.List.listExtendWith (.ref s.heap.objs.size) (.ref z) .none) _ _ _
  refine wpAny_bind (wpAny_updateSeq hS rfl ?_)
  have hS₂:=Heap.get?_update_self (Obj.mapSeq (fun _=>(#[]:Array Value))) hS rfl
  refine wpAny_bind (wpAny_letGo ?_)
  have st2:=mv _ ((s.heap.push { cls:=.type "list",data:=.seq #[] }).update s.heap.objs.size (Obj.mapSeq (fun _=>(#[]:Array Value)))) (fun b o hb e=>(Heap.get?_update_other _ _ (Ne.symm hb)).trans e) st1
  obtain ⟨q1,q2,q3,q3'⟩:=id st2.zs
  unfold Builtin.List.listExtendWith
  refine wpAny_bind (wpAny_typeOf (T := "zip") ⟨_,q3,rfl⟩ ?_)
  have hSz:s.heap.objs.size≠z:=fun e=>nS (by simp [e])
  have h1:Builtin.List.listSameRef (.ref s.heap.objs.size) (.ref z)=false:=by simp [Builtin.List.listSameRef,hSz]
  have h2:(Value.type "zip" == Value.type "list")=false:=by decide
  have h3:(Value.type "zip" == Value.type "tuple")=false:=by decide
  simp only [h1,h2,h3,Bool.or_false,Bool.false_eq_true,if_false]
  refine wpAny_bind (HT.pyIter_zs st2.zs ?_)
  refine wpAny_bind (wpAny_holding ?_)
  unfold Builtin.List.listLengthHint
  refine wpAny_bind (wpAny_specialOf (T := "zip") ⟨_,q3,rfl⟩ PySem.F.zip_no_len ?_)
  show wpAny _ X.A.in1.in1 (specialOf (Value.ref z) (Str.ofString "__length_hint__") >>= _) _ _ _
  refine wpAny_bind (wpAny_specialOf (T := "zip") ⟨_,q3,rfl⟩ PySem.F.zip_no_hint ?_)
  refine wpAny_pure ?_
  show wpAny _ X.A.in1.in1 (rule "list.extend.makes-room" >>= fun _=>Builtin.List.listTouch (.ref s.heap.objs.size) >>= fun _=>
    again (.builtin "list.extend.loop" ⟨[.ref s.heap.objs.size,.ref z,.none],[]⟩)) _ _ _
  refine wpAny_bind (wpAny_rule ?_)
  refine wpAny_bind ?_
  show wpAny _ X.A.in1.in1 (updateSeq s.heap.objs.size (·.push .none) >>= fun _=>updateSeq s.heap.objs.size (·.pop)) _ _ _
  refine wpAny_bind (wpAny_updateSeq hS₂ rfl ?_)
  have hS₃:=Heap.get?_update_self (Obj.mapSeq (·.push Value.none)) hS₂ rfl
  refine wpAny_updateSeq (hz:=by seq_fits) hS₃ rfl ?_
  have hS₄:=Heap.get?_update_self (Obj.mapSeq (·.pop)) hS₃ rfl
  have st4:=mv _ ((((s.heap.push { cls:=.type "list",data:=.seq #[] }).update s.heap.objs.size (Obj.mapSeq (fun _=>(#[]:Array Value)))).update s.heap.objs.size (Obj.mapSeq (·.push Value.none))).update s.heap.objs.size (Obj.mapSeq (·.pop)))
    (fun b o hb e=>(Heap.get?_update_other _ _ (Ne.symm hb)).trans ((Heap.get?_update_other _ _ (Ne.symm hb)).trans e)) st2
  have I4:Inv X pins σ (upd H s.heap.objs.size (.lst [])) { s with heap:=(((s.heap.push { cls:=.type "list",data:=.seq #[] }).update s.heap.objs.size (Obj.mapSeq (fun _=>(#[]:Array Value)))).update s.heap.objs.size (Obj.mapSeq (·.push Value.none))).update s.heap.objs.size (Obj.mapSeq (·.pop)) }:=by
    refine I.laid (t':=s.toks) (fun b u e=>?_) (Nat.le_refl _) ?_
    · have hb:b≠s.heap.objs.size:=Nat.ne_of_lt (Heap.lt_size e)
      exact (Heap.get?_update_other _ _ (Ne.symm hb)).trans ((Heap.get?_update_other _ _ (Ne.symm hb)).trans ((Heap.get?_update_other _ _ (Ne.symm hb)).trans (Heap.get?_push_of_some _ e)))
    · exact ⟨Nat.zero_le _,[],_,.nil,hS₄⟩
  refine wpAny_pure ⟨plainId_quiet PySem.F.plain_extend_loop _,loopZ (A:=X.A.in1) D (I.ok.hd hc) rx ry hn nS _ 0 _ _ [] rfl (Nat.zero_le _) (Nat.zero_le _) rfl I4 (fun b hb=>?_) upd_same st4 ?_⟩
  · obtain ⟨f0,f1⟩:=hf b hb
    refine ⟨?_,f1⟩
    rw [upd_ne (fun z=>nS (by subst z;simp at hb ⊢;rcases hb with h | h | h | h<;>simp [h]))];exact f0
  · exact zipRun_imp (fun H' h s' I'=>⟨rfl,.ref s.heap.objs.size,H',I',rfl,h⟩) (q _ fr)
theorem zip_made {a1 a2:Addr}{b1 b2:Bool} {xs ys:List V}{H:Hp} {s:Shared}{Q:Value→Shared→Prop} {E:Value→Shared→Prop}(I:Inv X pins σ H s) (h1:SqB b1 X.K H a1 xs) (h2:SqB b2 X.K H a2 ys)
    (k:∀ z TI TO i1 i2 its1 its2 s',ZipApart z TI TO i1 i2 a1 a2→Vals xs its1→Vals ys its2→xs.length≤sizeLine→Inv X pins σ H s'→(∀ b∈[z,TO,i1,i2],FpOk X pins H b)→HT.ZSt z TI TO i1 i2 (HT.StI b1 i1 a1 its1.toArray) (HT.StI b2 i2 a2 its2.toArray) 0 s'.heap→Q (.ref z) s') :
    wpAny (model X.prog X.w) X.A (call (.type "zip") [.ref a1,.ref a2]) Q E s:=by
  obtain ⟨its1,r1,p1,z1⟩:=I.sq h1
  obtain ⟨its2,r2,p2,z2⟩:=I.sq h2
  have lt:∀ {b:Bool}{a:Addr} {its:Array Value},HT.SqI b s.heap a its→a < s.heap.objs.size:=fun {b a its} h=>by
    cases b
    · obtain ⟨o,e,_⟩:=h;exact Heap.lt_size e
    · obtain ⟨o,e,_⟩:=h;exact Heap.lt_size e
  refine HT.call_zip p1 p2 fun h' st hsz hk=>?_
  refine k _ _ _ _ _ its1 its2 _ (zipApart_new (lt p1) (lt p2)) r1 r2 z1 (I.kept (t':=s.toks) hk) (fun b hb=>?_) st
  have hb':s.heap.objs.size≤b:=by
    simp only [List.mem_cons,List.not_mem_nil,or_false] at hb
    rcases hb with h | h | h | h<;>rw [h]<;>first | exact Nat.le_add_right _ _ | exact Nat.le_refl _
  exact I.fpOk hb' (I.hok.fresh hb')
noncomputable def tZipL (K:PySem.W.Frag) (ta:TA):TE:=fun σ H Q=>ta σ H fun vs H1=>∃ b1 b2 a1 a2 xs ys,vs=[.ref a1,.ref a2]∧SqB b1 K H1 a1 xs∧SqB b2 K H1 a2 ys∧∀ S,H1 S=none→zipRun S (xs.zip ys) [] (upd H1 S (.lst [])) (fun H'=>Q (.ref S) H')
theorem pe_listzip {a b:Expr}{ta:TA} {p p2 p3 pos:Pos}(hc:X.calm=true) (hg:Gl X "list") (hm:X.mg "list" = none) (hg2:Gl X "zip") (hm2:X.mg "zip" = none) (ha:PA X [a,b] ta)
    (hs:starEach [a,b] X.env=[(false,eval a X.env),(false,eval b X.env)]:=by rfl) (hs2:starEach [b] X.env=[(false,eval b X.env)]:=by rfl)
    (hs3:starEach [.Call (.Name "zip" p2) [a,b] [] p3] X.env=[(false,eval (.Call (.Name "zip" p2) [a,b] [] p3) X.env)]:=by rfl) :
    PE X (.Call (.Name "list" p) [.Call (.Name "zip" p2) [a,b] [] p3] [] pos) (tZipL X.K ta):=by
  intro pins s σ H Q I h
  refine wpAny_Call_Name_kw (ld_blt I hg hm boot_list ?_)
  refine PyProof.Rows.callWith_type1 ?_ hs3 rfl
  rw [hs3]
  show wpAny _ _ (spliced ((false,eval (.Call (.Name "zip" p2) [a,b] [] p3) X.env)::backTo pos (starEach [] X.env))) _ _ s
  refine Calls.spliced_cons (wpAny_Call_Name_kw (ld_blt I hg2 hm2 boot_zip ?_))
  refine PyProof.Rows.callWith_type1 (thn (ha p3 pins s σ H _ I h) fun us s1 ⟨vs,H1,I1,r1,q1⟩=>?_) (by rw [hs,hs2]) (by rw [hs2];rfl)
  obtain ⟨b1,b2,a1,a2,xs,ys,rfl,e1,e2,q⟩:=q1
  obtain ⟨u1,u2,rfl,ru1,ru2⟩:=vals2 r1
  cases ru1
  cases ru2
  refine zip_made I1 e1 e2 fun z TI TO i1 i2 its1 its2 s' D rx ry hn I' hf st=>?_
  exact Calls.spliced_nil (call_list_zip D hc rx ry hn I' hf st q)
end
end L2
set_option Elab.async false
set_option linter.all false
set_option maxRecDepth 100000
namespace HT
open PySem PySem.Spec PyProof.Rows
end HT
namespace L2
open PySem PySem.Spec PyProof.Rows
section
variable {X:Cx}{pins:List (Addr×Obj)} {σ:St}
end
section
variable {X:Cx}
end
end L2
set_option Elab.async false
set_option linter.all false
set_option maxRecDepth 100000
namespace FL
open PySem PySem.Spec PyProof.Rows L2
noncomputable def pairsD (xs ys:List D):List D:=List.zipWith (fun x y=>.tup [x,y]) xs ys
noncomputable def zipD (x y:D):Option D:=(itS x).bind fun a=>(itS y).map fun b=>.lst (pairsD a b)
section
variable {K:PySem.W.Frag}{X:Cx} {pos:Pos}
theorem Dat.seqB {F:Hp}{d:D} {v:V}{l:List D} (h:Dat K F d v) (e:itS d=some l):∃ b a vs,v=.ref a∧(∀ H,Same F H→SqB b K H a vs)∧DatL K F l vs:=by
  cases d<;>simp only [itS] at e<;>try (cases e;done)
  · cases e
    obtain ⟨a,vs,rfl,f,q⟩:=h.tup_inv
    exact ⟨false,a,vs,rfl,fun H s=>SqT.of (s _ _ f),q⟩
  · cases e
    obtain ⟨a,vs,rfl,f,q⟩:=h.lst_inv
    exact ⟨true,a,vs,rfl,fun H s=>SqL.of (s _ _ f),q⟩
  · cases e
    obtain ⟨a,rfl,f⟩:=h.scr_inv
    exact ⟨true,a,_,rfl,fun H s=>Same.seq s f,DatL.ofInts _⟩
theorem zip_rd {F H:Hp}{S:Addr} {R:Hp→Prop}(hS0:H S=none):∀ (xs ys:List D) (vs us:List V) (acc:List V) (dn:List D) (F' H':Hp),Grow F H F' H'→F' S=none→H' S=some (.lst acc)→DatL K F' dn acc→DatL K F' xs vs→DatL K F' ys us→
    (∀ F2 H2 acc2,Grow F H F2 H2→F2 S=none→H2 S=some (.lst acc2)→DatL K F2 (dn++pairsD xs ys) acc2→R H2)→zipRun S (vs.zip us) acc H' R
  | [],ys,vs,us,acc,dn,F',H',g,fS,hS,da,dx,dy,q=>by
    rw [dx.nil_inv]
    exact q F' H' acc g fS hS (by simpa [pairsD] using da)
  | x::xs,[],vs,us,acc,dn,F',H',g,fS,hS,da,dx,dy,q=>by
    rw [dy.nil_inv,List.zip_nil_right]
    exact q F' H' acc g fS hS (by simpa [pairsD] using da)
  | x::xs,y::ys,vs,us,acc,dn,F',H',g,fS,hS,da,dx,dy,q=>by
    obtain ⟨v,vs,rfl,h1,h2⟩:=dx.cons_inv
    obtain ⟨u,us,rfl,h3,h4⟩:=dy.cons_inv
    intro T hT
    have hTS:S≠T:=ne_of_none hS hT
    have fT:F' T=none:=g.fh.free hT
    have g2:=Grow.frozen (o:=.tup [v,u]) g.fh hT
    have fS2:upd F' T (.tup [v,u]) S=none:=by rw [upd_ne hTS];exact fS
    have g3:Grow F H (upd F' T (.tup [v,u])) (upd (upd H' T (.tup [v,u])) S (.lst (acc++[.ref T]))):=by
      have gg:=g.trans g2
      exact ⟨gg.ff,fun b o e=>by rw [upd_ne (ne_of_none e hS0)];exact gg.hh _ _ e,fun b o e=>by rw [upd_ne (ne_of_none e fS2)];exact gg.fh _ _ e,gg.nw⟩
    refine zip_rd hS0 xs ys vs us (acc++[.ref T]) (dn++[.tup [x,y]]) _ _ g3 fS2 upd_same ((da.mono g2.ff).snoc (Dat.tup (K:=K) upd_same (DatL.cons (h1.mono g2.ff) (DatL.cons (h3.mono g2.ff) DatL.nil)))) (h2.mono g2.ff) (h4.mono g2.ff) fun F2 H2 acc2 a b c d=>q F2 H2 acc2 a b c ?_
    simpa [pairsD] using d
theorem zipD_some {x y d:D}(h:zipD x y=some d):∃ a b,itS x=some a∧itS y=some b∧d=.lst (pairsD a b):=by
  unfold zipD at h
  cases e1:itS x with
  | none=>rw [e1] at h;cases h
  | some a=>
    cases e2:itS y with
    | none=>rw [e1,e2] at h;cases h
    | some b=>rw [e1,e2] at h;cases h;exact ⟨a,b,rfl,rfl,rfl⟩
theorem fzipL {a b:Expr}{fa fb:En→Option D} {p p2 p3:Pos}(hc:X.calm=true) (hg:Gl X "list") (hm:X.mg "list" = none) (hg2:Gl X "zip") (hm2:X.mg "zip" = none) (ha:FP K .fz X a fa) (hb:FP K .fz X b fb)
    (hs:starEach [a,b] X.env=[(false,eval a X.env),(false,eval b X.env)]:=by rfl) (hs2:starEach [b] X.env=[(false,eval b X.env)]:=by rfl)
    (hs3:starEach [.Call (.Name "zip" p2) [a,b] [] p3] X.env=[(false,eval (.Call (.Name "zip" p2) [a,b] [] p3) X.env)]:=by rfl) (hK:X.K=K:=by rfl) :
    FP K .ow X (.Call (.Name "list" p) [.Call (.Name "zip" p2) [a,b] [] p3] [] pos) (c2 zipD fa fb):=FP.mk fun ρ d hf=>by
  subst hK
  obtain ⟨x,y,e1,e2,e3⟩:=c2_some hf
  obtain ⟨xs,ys,i1,i2,rfl⟩:=zipD_some e3
  refine PE.imp (pe_listzip hc hg hm hg2 hm2 (pa_cons (ha.h ρ x e1) (pa_cons (hb.h ρ y e2) pa_nil hs2) (by rw [hs,hs2])) hs hs2 hs3) fun σ H Q h_=>?_
  obtain ⟨F,rl,q⟩:=h_
  refine ⟨F,rl,fun v F1 H1 g1 r1=>⟨F1,rl.grow g1,fun u F2 H2 g2 r2=>?_⟩⟩
  obtain ⟨b1,a1,vs,rfl,s1,q1⟩:=Dat.seqB (K:=X.K) (F:=F1) r1 i1
  obtain ⟨b2,a2,us,rfl,s2,q2⟩:=Dat.seqB (K:=X.K) (F:=F2) r2 i2
  refine ⟨b1,b2,a1,a2,vs,us,rfl,s1 H2 (g2.ff.trans g2.fh),s2 H2 g2.fh,fun S hS=>?_⟩
  have g:=g1.trans g2
  have g':Grow F H F2 (upd H2 S (.lst [])):=g.trans (Grow.fresh g2.fh hS)
  refine zip_rd (g.hh.free hS) xs ys vs us [] [] F2 _ g' (g2.fh.free hS) upd_same DatL.nil (q1.mono g2.ff) q2 fun F3 H3 acc2 g3 f3 h3 d3=>?_
  exact q _ F3 H3 g3 ⟨S,rfl,g.hh.free hS,f3,acc2,h3,d3⟩
noncomputable def cRv (f:En→Option D):En→Option (List D):=fun ρ=>match f ρ with
  | some (.lst l)=>some l.reverse
  | _=>none
noncomputable def putM (i:Nat) (fk fe:En→Option D):En→Option Fl:=fun ρ=>match ρ[i]?,fe ρ,fk ρ with
  | some (some (.ow pp (.lst l))),some d,some (.int k)=>(ixN l.length k).map fun j=>.nx (ρ.set i (some (.ow pp (.lst (l.set j d)))))
  | _,_,_=>none
theorem sput {md:Md}(i:Nat) {x:Str}{p p2:Pos} {ke e:Expr}{fk fe:En→Option D} (he:FP K .fz X e fe) (hk:FP K .fz X ke fk)
    (hN:X.N[i]?=some x:=by rfl) (hv:Vis X.env.scope x:=by first | exact Or.inl rfl | exact Or.inr (Or.inl rfl) | exact Or.inr (Or.inr rfl)) (hd:(x == ("__debug__" : Str))=false:=by decide) (hcd:(x == ("__classdict__" : Str))=false:=by decide)
    (H1:∀ {to ti:TE}{t:TSet},PE X (.Name x p) to→PE X ke ti→PSet X t→PG X (.Subscript (.Name x p) ke p2) (gSub to ti t):=by exact fun a b c=>pg_sub a b c)
    (hs:swapsWithSole [.Subscript (.Name x p) ke p2] e pos.line X.env=pure false:=by rfl) (hw:swappedStores [.Subscript (.Name x p) ke p2] e X.env=pure none:=by rfl)
    (h1:(assignEach [.Subscript (.Name x p) ke p2] X.env).map (·.2)=[assign (.Subscript (.Name x p) ke p2) X.env]:=by rfl) (hK:X.K=K:=by rfl) :
    FS K md X (.Assign [.Subscript (.Name x p) ke p2] e pos) (putM i fk fe):=FS.mk fun ρ fl hf=>by
  subst hK
  unfold putM at hf
  split at hf
  · rename_i pp l d k e1 e2 e3
    cases e4:ixN l.length k with
    | none=>rw [e4] at hf;cases hf
    | some j=>
      rw [e4] at hf;cases hf
      refine PS.imp (ps_asg (he.h ρ d e2) (H1 (pe_var hN hv hd hcd) (hk.h ρ _ e3) set_list) hs hw h1) fun D σ H h_=>?_
      obtain ⟨F,r,q⟩:=h_
      obtain ⟨a,h1,h2,h3⟩:=r.own i pp _ e1
      refine ⟨F,r,fun v F1 H1 g1 r1=>⟨_,h1,F1,r.grow g1,fun u F2 H2 g2 r2=>?_⟩⟩
      have rg:=(r.grow g1).grow g2
      obtain ⟨a',h1',h2',vs,h3',h4'⟩:=rg.own i pp _ e1
      rw [h1] at h1';cases h1'
      have ev:=Dat.int_inv (K:=X.K) (F:=F2) r2
      subst ev
      refine ⟨a,vs,k,j,rfl,rfl,h3',by rw [h4'.length];exact e4,?_⟩
      obtain ⟨m1,m2⟩:=rg.mut (i:=i) (o:=.lst (vs.set j v)) (d':=.lst (l.set j d)) e1 h1 ⟨_,upd_same,h4'.set j (Dat.mono g2.ff r1)⟩
      exact q σ _ _ m1 ((g1.trans g2).step.trans m2 r.sub)
  · cases hf
end
end FL
set_option Elab.async false
set_option linter.all false
set_option maxRecDepth 100000
namespace L2
open PySem PySem.Spec PyProof.Rows
section
variable {κ:Type} [DecidableEq κ]
noncomputable def valV (kvs:List (κ×V)) (k:κ):Option V:=(kvs.find? fun kv=>decide (kv.1=k)).map (·.2)
noncomputable def putK (kvs:List (κ×V)) (k:κ) (v:V):List (κ×V):=
  if (kvs.any fun kv=>decide (kv.1=k))=true then kvs.map (fun kv=>if kv.1=k then (kv.1,v) else kv) else kvs++[(k,v)]
theorem valV_pos {p:κ×V}{r:List (κ×V)} {k:κ}(e:p.1=k):valV (p::r) k=some p.2:=by simp [valV,List.find?_cons,e]
theorem valV_neg {p:κ×V}{r:List (κ×V)} {k:κ}(e:¬ p.1=k):valV (p::r) k=valV r k:=by simp [valV,List.find?_cons,e]
theorem valV_any (k:κ):∀ kvs:List (κ×V),(kvs.any fun kv=>decide (kv.1=k))=(valV kvs k).isSome
  | []=>rfl
  | p::r=>by
    rw [List.any_cons]
    by_cases e:p.1=k
    · simp only [valV_pos e,decide_eq_true e,Bool.true_or,Option.isSome_some]
    · rw [valV_neg e,decide_eq_false e,Bool.false_or];exact valV_any k r
theorem length_putK (kvs:List (κ×V)) (k:κ) (v:V):(putK kvs k v).length≤kvs.length + 1:=by
  unfold putK
  split
  · rw [List.length_map];omega
  · rw [List.length_append,List.length_cons,List.length_nil];omega
theorem RelO.isSome_eq {o:Option V}{u:Option Value} (r:RelO o u):o.isSome=u.isSome:=by
  cases o with
  | none=>cases u with
    | none=>rfl
    | some _=>exact (show False from r).elim
  | some _=>cases u with
    | none=>exact (show False from r).elim
    | some _=>rfl
theorem RelO.getD {o:Option V}{u:Option Value} {d:V}{d':Value} (r:RelO o u) (rd:RelV d d'):RelV (o.getD d) (u.getD d'):=by
  cases o with
  | none=>cases u with
    | none=>exact rd
    | some _=>exact (show False from r).elim
  | some _=>cases u with
    | none=>exact (show False from r).elim
    | some _=>exact r
theorem KV.val {kvs:List (κ×V)}{vs:List (κ×Value)} (r:KV kvs vs) (k:κ):RelO (valV kvs k) (valueAt vs k):=by
  unfold KV at r
  induction r with
  | nil=>exact True.intro
  | @cons p q ps qs h t ih=>
    obtain ⟨h1,h2⟩:=h
    by_cases e:p.1=k
    · have e':q.1=k:=h1.symm.trans e
      have b:valueAt (q::qs) k=some q.2:=by simp [valueAt,List.find?_cons,e']
      rw [valV_pos e,b];exact h2
    · have e':¬ q.1=k:=fun z=>e (h1.trans z)
      have b:valueAt (q::qs) k=valueAt qs k:=by simp [valueAt,List.find?_cons,e']
      rw [valV_neg e,b];exact ih
theorem KV.any {kvs:List (κ×V)}{vs:List (κ×Value)} (r:KV kvs vs) (k:κ):(kvs.any fun kv=>decide (kv.1=k))=vs.any fun kv=>decide (kv.1=k):=by
  unfold KV at r
  induction r with
  | nil=>rfl
  | cons h t ih=>rw [List.any_cons,List.any_cons,ih,h.1]
theorem KV.repl {kvs:List (κ×V)}{vs:List (κ×Value)} (r:KV kvs vs) (k:κ) {y:V}{u:Value} (ry:RelV y u) :
    KV (kvs.map fun kv=>if kv.1=k then (kv.1,y) else kv) (vs.map fun kv=>if kv.1=k then (kv.1,u) else kv):=by
  unfold KV at r ⊢
  induction r with
  | nil=>exact .nil
  | @cons p q ps qs h t ih=>
    rw [List.map_cons,List.map_cons]
    refine .cons ?_ ih
    obtain ⟨h1,h2⟩:=h
    by_cases e:p.1=k
    · rw [if_pos e,if_pos (h1.symm.trans e)];exact ⟨h1,ry⟩
    · rw [if_neg e,if_neg (fun z=>e (h1.trans z))];exact ⟨h1,h2⟩
theorem KV.put {kvs:List (κ×V)}{vs:List (κ×Value)} (r:KV kvs vs) (k:κ) {y:V}{u:Value} (ry:RelV y u):KV (putK kvs k y) (stored vs k u):=by
  unfold putK stored
  rw [r.any k]
  by_cases e:(vs.any fun kv=>decide (kv.1=k))=true
  · rw [if_pos e,if_pos e];exact r.repl k ry
  · rw [if_neg e,if_neg e];exact Paired.snoc r ⟨rfl,ry⟩
theorem KV.length {kvs:List (κ×V)}{vs:List (κ×Value)} (r:KV kvs vs):kvs.length=vs.length:=Paired.length r
end
theorem kV_is {P:Program}{w:World} {k:Key}{u:Value} (r:RelV (kV k) u):(mixKind P w).is k u=true:=by
  cases k with
  | inl i=>obtain ⟨t,e⟩:=(show ∃ t,u=Value.int i t from r);subst e;exact mixKind_int P w i t
  | inr x=>obtain ⟨t,e⟩:=(show ∃ t,u=Value.str x t from r);subst e;exact mixKind_str P w x t
theorem items_are {P:Program}{w:World}:∀ {ks:List Key}{us:List Value},Vals (ks.map kV) us→ItemsAre (mixKind P w) ks us
  | [],_,r=>by rw [List.map_nil] at r;cases r;exact .nil
  | k::ks,_,r=>by
    rw [List.map_cons] at r
    cases r with
    | cons h t=>exact .cons (kV_is h) (items_are t)
noncomputable abbrev KT (H:Hp):List (List Key×V)→List (List Key×Addr×Value)→Prop:=Paired fun p q=>p.1=q.1∧H q.2.1=some (.tup (p.1.map kV))∧RelV p.2 q.2.2
theorem KT.val {H:Hp}{kvs:List (List Key×V)} {xs:List (List Key×Addr×Value)}(r:KT H kvs xs) (k:List Key):RelO (valV kvs k) ((atKey xs k).map (·.2)):=by
  induction r with
  | nil=>exact True.intro
  | @cons p q ps qs h t ih=>
    obtain ⟨h1,_,h2⟩:=h
    by_cases e:p.1=k
    · have e':q.1=k:=h1.symm.trans e
      have b:atKey (q::qs) k=some q.2:=by simp [atKey,List.find?_cons,e']
      rw [valV_pos e,b];exact h2
    · have e':¬ q.1=k:=fun z=>e (h1.trans z)
      have b:atKey (q::qs) k=atKey qs k:=by simp [atKey,List.find?_cons,e']
      rw [valV_neg e,b];exact ih
theorem KT.repl {H:Hp}{kvs:List (List Key×V)} {xs:List (List Key×Addr×Value)}(r:KT H kvs xs) (k:List Key) {y:V}{u:Value} (ry:RelV y u) :
    KT H (kvs.map fun kv=>if kv.1=k then (kv.1,y) else kv) (xs.map (putAt k u)):=by
  induction r with
  | nil=>exact .nil
  | @cons p q ps qs h t ih=>
    rw [List.map_cons,List.map_cons]
    refine .cons ?_ ih
    obtain ⟨h1,h2,h3⟩:=h
    unfold putAt
    by_cases e:p.1=k
    · rw [if_pos e,if_pos (h1.symm.trans e)];exact ⟨h1,h2,ry⟩
    · rw [if_neg e,if_neg (fun z=>e (h1.trans z))];exact ⟨h1,h2,h3⟩
theorem KT.put {H:Hp}{kvs:List (List Key×V)} {xs:List (List Key×Addr×Value)}(r:KT H kvs xs) (k:List Key) {b:Addr}{y:V} {u:Value}(hb:H b=some (.tup (k.map kV))) (ry:RelV y u) :
    KT H (putK kvs k y) (storedH xs k b u):=by
  have e:(kvs.any fun kv=>decide (kv.1=k))=(atKey xs k).isSome:=by
    rw [valV_any,(r.val k).isSome_eq,Option.isSome_map]
  unfold putK storedH
  rw [e]
  by_cases q:(atKey xs k).isSome=true
  · rw [if_pos q,if_pos q];exact r.repl k ry
  · rw [if_neg q,if_neg q];exact Paired.snoc r ⟨rfl,hb,ry⟩
theorem KT.keeps {H H':Hp}{kvs:List (List Key×V)} {xs:List (List Key×Addr×Value)}(r:KT H kvs xs) (ht:∀ b ys,H b=some (.tup ys)→H' b=some (.tup ys)):KT H' kvs xs:=
  Paired.mapP r fun _ _ z=>⟨z.1,ht _ _ z.2.1,z.2.2⟩
section
variable {P:Program}{w:World} {H:Hp}{h:Heap} {a:Addr}
theorem rd_of {u:HO}(ok:HOk P w H h) (e:Rd H a u):ObjOk P w H h a u:=e.ok ok
theorem dk_rd {kvs:List (Key×V)}(ok:HOk P w H h) (e:Rd H a (.dK kvs)):kvs.length≤sizeLine∧(a == sysModules)=false∧∃ vs,KV kvs vs∧h.DictOf (mixKind P w) a vs:=
  show ObjOk P w H h a (.dK kvs) from rd_of ok e
theorem dk_of {kvs:List (Key×V)}(ok:HOk P w H h) (e:H a=some (.dK kvs)):kvs.length≤sizeLine∧(a == sysModules)=false∧∃ vs,KV kvs vs∧h.DictOf (mixKind P w) a vs:=dk_rd ok (.inl e)
theorem key_of {ks:List Key}(ok:HOk P w H h) (e:H a=some (.tup (ks.map kV))):(tupleKind (mixKind P w)).is h ks a:=by
  obtain ⟨_,its,r,o,h1,h2,n,h3⟩:=(show ObjOk P w H h a (.tup (ks.map kV)) from ok a _ e)
  exact ⟨o,its.toArray,n,h1,h2,h3,by simpa using items_are r⟩
theorem dt_rd {kvs:List (List Key×V)}(ok:HOk P w H h) (e:Rd H a (.dT kvs)):kvs.length≤sizeLine∧(a == sysModules)=false∧
    ∃ xs,KT H kvs xs∧h.DictOfH (tupleKind (mixKind P w)) a xs:=by
  obtain ⟨z,y,xs,r,o,es,ep,h1,h2,h3,h4,h5⟩:=(show ObjOk P w H h a (.dT kvs) from rd_of ok e)
  refine ⟨z,y,xs,r,o,es,ep,h1,h2,h3,h4,fun x hx=>?_,h5⟩
  have all:∀ {l:List (List Key×V)}{m:List (List Key×Addr×Value)},KT H l m→∀ x∈m,(tupleKind (mixKind P w)).is h x.1 x.2.1:=by
    intro l m q
    induction q with
    | nil=>intro x hx;exact nomatch hx
    | @cons p q ps qs hq t ih=>
      intro x hx
      rcases List.mem_cons.mp hx with e | hx
      · subst e
        exact key_of ok (by rw [← hq.1];exact hq.2.1)
      · exact ih x hx
  exact all r x hx
theorem dt_of {kvs:List (List Key×V)}(ok:HOk P w H h) (e:H a=some (.dT kvs)):kvs.length≤sizeLine∧(a == sysModules)=false∧
    ∃ xs,KT H kvs xs∧h.DictOfH (tupleKind (mixKind P w)) a xs:=dt_rd ok (.inl e)
end
noncomputable def DGet (H:Hp) (a:Addr) (y:V) (r:Option V):Prop:=
  (∃ kvs k,Rd H a (.dK kvs)∧y=kV k∧r=valV kvs k)∨∃ kvs k b,Rd H a (.dT kvs)∧y=.ref b∧H b=some (.tup (k.map kV))∧r=valV kvs k
noncomputable def DPut (H:Hp) (a:Addr) (y v:V) (H':Hp):Prop:=
  (∃ kvs k,H a=some (.dK kvs)∧y=kV k∧kvs.length < sizeLine∧H'=upd H a (.dK (putK kvs k v)))∨
  ∃ kvs k b,H a=some (.dT kvs)∧y=.ref b∧H b=some (.tup (k.map kV))∧kvs.length < sizeLine∧H'=upd H a (.dT (putK kvs k v))
theorem DPut.k {H:Hp}{a:Addr} {kvs:List (Key×V)}{k:Key} {v:V}(e:H a=some (.dK kvs)) (hl:kvs.length < sizeLine):DPut H a (kV k) v (upd H a (.dK (putK kvs k v))):=.inl ⟨kvs,k,e,rfl,hl,rfl⟩
section
variable {X:Cx}{pins:List (Addr×Obj)} {σ:St}{H:Hp} {s:Shared}{a:Addr} {y v:V}{u r:Value} {o:Option V}{A:Around} {E:Value→Shared→Prop}
theorem Inv.big (I:Inv X pins σ H s):sysModules < s.heap.objs.size:=by
  have h:mainGlobals < s.heap.objs.size:=(I.mod.glob.keeps I.bk).lt
  exact Nat.lt_trans (by decide) h
theorem d_getItem {Q:Value→Shared→Prop}(hu:A.units + 1 < cLine) (I:Inv X pins σ H s) (g:DGet H a y (some v)) (ry:RelV y u) (h:∀ w' s',Inv X pins σ H s'→RelV v w'→Q w' s') :
    wpAny (model X.prog X.w) A (getItem (.ref a) u) Q E s:=by
  rcases g with ⟨kvs,k,e,ey,l⟩ | ⟨kvs,k,b,e,ey,eb,l⟩
  · subst ey
    obtain ⟨z,hd,vs,rel,dd⟩:=dk_rd I.hok e
    obtain ⟨w',hw,rw'⟩:=RelO.some_of (v:=v) (o:=valueAt vs k) (by rw [l];exact rel.val k)
    exact wpAny_getItem_of (kV_is ry) dd.mapOf hw (h w' _ (I.tok _) rw')
  · subst ey
    cases (show u=Value.ref b from ry)
    obtain ⟨z,hd,xs,rel,dd⟩:=dt_rd I.hok e
    obtain ⟨w',hw,rw'⟩:=RelO.some_of (v:=v) (o:=(atKey xs k).map (·.2)) (by rw [l];exact rel.val k)
    obtain ⟨p,hp,hp2⟩:=Option.map_eq_some_iff.mp hw
    refine wpAny_getItem_heap (tupleKind_room_in1 hu) (key_of I.hok eb) dd hp ?_
    rw [hp2]
    exact h w' _ (I.tok _) rw'
theorem d_in {Q:Value→Shared→Prop}(hu:A.units + 1 < cLine) (I:Inv X pins σ H s) (g:DGet H a y o) (ry:RelV y u) (h:∀ s',Inv X pins σ H s'→Q (.bool o.isSome) s') :
    wpAny (model X.prog X.w) A (compareOp .In u (.ref a)) Q E s:=by
  rcases g with ⟨kvs,k,e,ey,l⟩ | ⟨kvs,k,b,e,ey,eb,l⟩
  · subst ey
    obtain ⟨z,hd,vs,rel,dd⟩:=dk_rd I.hok e
    refine wpAny_in_of (kV_is ry) hd dd.mapOf ?_
    rw [← (rel.val k).isSome_eq,← l]
    exact h _ (I.tok _)
  · subst ey
    cases (show u=Value.ref b from ry)
    obtain ⟨z,hd,xs,rel,dd⟩:=dt_rd I.hok e
    refine wpAny_in_heap (tupleKind_room_in1 hu) (key_of I.hok eb) hd dd ?_
    have q:=(rel.val k).isSome_eq
    rw [Option.isSome_map] at q
    rw [← q,← l]
    exact h _ (I.tok _)
theorem d_notIn {Q:Value→Shared→Prop}(hu:A.units + 1 < cLine) (I:Inv X pins σ H s) (g:DGet H a y o) (ry:RelV y u) (h:∀ s',Inv X pins σ H s'→Q (.bool (!o.isSome)) s') :
    wpAny (model X.prog X.w) A (compareOp .NotIn u (.ref a)) Q E s:=by
  rcases g with ⟨kvs,k,e,ey,l⟩ | ⟨kvs,k,b,e,ey,eb,l⟩
  · subst ey
    obtain ⟨z,hd,vs,rel,dd⟩:=dk_rd I.hok e
    refine wpAny_notIn_of (kV_is ry) hd dd.mapOf ?_
    rw [← (rel.val k).isSome_eq,← l]
    exact h _ (I.tok _)
  · subst ey
    cases (show u=Value.ref b from ry)
    obtain ⟨z,hd,xs,rel,dd⟩:=dt_rd I.hok e
    refine wpAny_notIn_heap (tupleKind_room_in1 hu) (key_of I.hok eb) hd dd ?_
    have q:=(rel.val k).isSome_eq
    rw [Option.isSome_map] at q
    rw [← q,← l]
    exact h _ (I.tok _)
theorem d_write {h':Heap}{t':Nat} {ob:HO}(I:Inv X pins σ H s) (mu:Mut (H a)) (hs:Heap.SameBut a s.heap h') (he:∃ q,h'.get? a=some q) (new:ObjOk X.prog X.w (upd H a ob) h' a ob) :
    Inv X pins σ (upd H a ob) { s with heap:=h',toks:=t' }:=
  I.write (x:=a) (e:=a) mu (.inl rfl) (fun b q hb z=>(hs.2 b hb).trans z) he new
theorem dk_new {P:Program}{w:World} {H':Hp}{h':Heap} {kvs:List (Key×V)}{vs:List (Key×Value)} (z:kvs.length≤sizeLine) (hd:(a == sysModules)=false) (rel:KV kvs vs) (dd:h'.DictOf (mixKind P w) a vs) :
    ObjOk P w H' h' a (.dK kvs):=⟨z,hd,vs,rel,dd⟩
theorem d_setItem {H':Hp}{Q:Unit→Shared→Prop} (hu:A.units + 1 < cLine) (I:Inv X pins σ H s) (g:DPut H a y v H') (ry:RelV y u) (rv:RelV v r) (h:∀ s',Inv X pins σ H' s'→Q () s') :
    wpAny (model X.prog X.w) A (setItem (.ref a) u r) Q E s:=by
  rcases g with ⟨kvs,k,e,ey,l,eH⟩ | ⟨kvs,k,b,e,ey,eb,l,eH⟩
  · subst ey eH
    obtain ⟨z,hd,vs,rel,dd⟩:=dk_of I.hok e
    have hz:vs.length≤sizeLine:=by rw [← rel.length];exact z
    have hl:(putK kvs k v).length≤sizeLine:=by have:=length_putK kvs k v;omega
    refine wpAny_setItem_pairs (hsz:=hz) (kV_is ry) dd fun h' dd' hs=>h _ ?_
    have he:∃ q,h'.get? a=some q:=let ⟨q,_,_,hq,_⟩:=dd';⟨q,hq⟩
    exact d_write I (by rw [e];exact True.intro) hs he (dk_new hl hd (rel.put k rv) dd')
  · subst ey eH
    cases (show u=Value.ref b from ry)
    obtain ⟨z,hd,xs,rel,dd⟩:=dt_of I.hok e
    have hz:xs.length≤sizeLine:=by rw [← Paired.length rel];exact z
    have hl:(putK kvs k v).length≤sizeLine:=by have:=length_putK kvs k v;omega
    refine wpAny_setItem_heap (hsz:=hz) (tupleKind_room_in1 hu) (key_of I.hok eb) dd fun h' dd' hs=>h _ ?_
    obtain ⟨q,es,ep,hq,h2,h3,h4,_,h5⟩:=dd'
    refine d_write I (by rw [e];exact True.intro) hs ⟨q,hq⟩ ⟨hl,hd,_,(rel.put k eb rv).keeps fun c ys ec=>?_,q,es,ep,hq,h2,h3,h4,h5⟩
    rw [upd_ne (ne_of ec e (fun z=>nomatch z))]
    exact ec
end
section
variable {X:Cx}{pins:List (Addr×Obj)} {σ:St}{H:Hp} {s:Shared}{a:Addr} {kvs:List (Key×V)}{k:Key} {u:Value}{A:Around} {E:Value→Shared→Prop}
end
noncomputable def NoSl (i:Expr):Prop:=∀ ov iv,subscripted i false ov iv=operate [ov,iv] (getItem ov iv)
theorem subD_of {prog:Program}{w:World} {A:Around}{E:Value→Shared→Prop} {s:Shared}{env:Env} {value slice:Expr}{pos:Pos} {T id:String}{Q:Value→Shared→Prop}
    (hl:typeLookup (.type T) "__getitem__" = pure (some (.builtin id))) (hs:NoSl slice)
    (h:wpAny (model prog w) A (eval value env) (fun o s₁=>wpAny (model prog w) A (eval slice env) (fun i s₂=>s₂.TypeIs o T∧wpAny (model prog w) A (getItem o i) Q E s₂) E s₁) E s) :
    wpAny (model prog w) A (eval (.Subscript value slice pos) env) Q E s:=by
  refine Subscript_ (wpAny_mono h (fun o s₁ h₁=>wpAny_mono h₁ (fun i s₂ h₂=>?_) fun _ _ x=>x) fun _ _ x=>x)
  obtain ⟨hT,h₂⟩:=h₂
  unfold subscriptTail
  refine wpAny_bind ?_
  rw [getitemInPython_of_ne hT.not_modules]
  refine wpAny_bind (wpAny_specialOf hT hl ?_)
  have fin:wpAny (model prog w) A (subscripted slice false o i) (fun r s₃=>wpAny (model prog w) A (letTemporaryGo value o r >>= fun _=>pure r) Q E s₃) E s₂:=by
    rw [hs o i]
    exact wpAny_operating (wpAny_mono h₂ (fun r s₃ h₃=>wpAny_bind (wpAny_letTemporaryGo (wpAny_pure h₃))) fun _ _ x=>x)
  first
    | exact wpAny_pure (wpAny_bind fin)
    | exact wpAny_bind (wpAny_pure (wpAny_bind fin))
    | exact wpAny_bind fin
theorem dict_typeIs {X:Cx}{pins:List (Addr×Obj)} {σ:St}{H:Hp} {s:Shared}{a:Addr} {y:V}{o:Option V} (I:Inv X pins σ H s) (g:DGet H a y o):s.TypeIs (.ref a) "dict" := by
  rcases g with ⟨kvs,k,e,_,_⟩ | ⟨kvs,k,b,e,_,_,_⟩
  · obtain ⟨_,_,vs,_,dd⟩:=dk_rd I.hok e
    exact dd.typeIs
  · obtain ⟨_,_,xs,_,dd⟩:=dt_rd I.hok e
    exact dd.typeIs
noncomputable def tDGet (td ty:TE):TE:=fun σ H Q=>td σ H fun x H1=>ty σ H1 fun y H2=>∃ a v,x=.ref a∧DGet H2 a y (some v)∧Q v H2
section
variable {X:Cx}{o i e value:Expr} {pos pos' tpos:Pos}{td ty tv:TE}
theorem pe_dget (hu:X.A.units + 1 < cLine) (ho:PE X o td) (hi:PE X i ty) (hs:NoSl i):PE X (.Subscript o i pos) (tDGet td ty):=by
  intro pins s σ H Q I h
  refine subD_of PySem.F.slot_dict_getitem.lookup hs (thn (ho pins s σ H _ I h) fun u s1 ⟨x,H1,I1,rx,q1⟩=>thn (hi pins s1 σ H1 _ I1 q1) fun iv s2 ⟨y,H2,I2,ry,a,v,ex,g,q2⟩=>?_)
  subst ex
  obtain rfl:u=Value.ref a:=rx
  exact ⟨dict_typeIs I2 g,d_getItem hu I2 g ry fun w' s3 I3 rw'=>⟨v,H2,I3,rw',q2⟩⟩
end
theorem dk_empty {P:Program}{w:World} {H:Hp}(h:Heap) (hb:sysModules < h.objs.size):ObjOk P w H (h.push { cls:=.type "dict",data:=.dict #[] }) h.objs.size (.dK []):=
  ⟨Nat.zero_le _,beq_eq_false_iff_ne.mpr (Ne.symm (Nat.ne_of_lt hb)),[],.nil,Heap.DictOf.new h⟩
noncomputable def tDNewK:TE:=fun _ H Q=>∀ p,H p=none→Q (.ref p) (upd H p (.dK []))
section
variable {X:Cx}{pos:Pos}
theorem pe_dnewK:PE X (.Dict [] [] pos) tDNewK:=fun pins s σ H Q I h=>
  wpAny_Dict_empty ⟨.ref s.heap.objs.size,_,I.laid (a:=s.heap.objs.size) (o:=.dK []) (t':=s.toks) (fun _ _ q=>Heap.get?_push_of_some _ q) (Nat.le_refl _) (dk_empty s.heap I.big),rfl,h _ (I.hok.fresh (Nat.le_refl _))⟩
end
noncomputable def tPairs:List (TE×TE)→St→Hp→(List (V×V)→Hp→Prop)→Prop
  | [],_,H,Q=>Q [] H
  | (tk,tv)::r,σ,H,Q=>tk σ H fun x H1=>tv σ H1 fun y H2=>tPairs r σ H2 fun ps H3=>Q ((x,y)::ps) H3
noncomputable abbrev VV:List (V×V)→List (Value×Value)→Prop:=Paired fun p q=>RelV p.1 q.1∧RelV p.2 q.2
noncomputable def PPs (X:Cx) (pos:Pos) (keys:List (Option Expr)) (values:List Expr) (trs:List (TE×TE)):Prop:=
  ∀ (pins:List (Addr×Obj)) (s:Shared) (σ:St) (H:Hp) (Q:List (V×V)→Hp→Prop),Inv X pins σ H s→tPairs trs σ H Q→
    wpAny (model X.prog X.w) X.A (evalPairs (pairTrees keys values X.env pos)) (fun vs s'=>∃ ps H',Inv X pins σ H' s'∧VV ps vs∧Q ps H') X.xe s
theorem pps_nil {X:Cx}{pos:Pos}:PPs X pos [] [] []:=fun pins s σ H Q I h=>pairTrees_nil_walk ⟨[],H,I,.nil,h⟩
theorem pps_cons {X:Cx}{pos:Pos} {k v:Expr}{ks:List (Option Expr)} {vs:List Expr}{tk tv:TE} {trs:List (TE×TE)}(hk:PE X k tk) (hv:PE X v tv) (hr:PPs X pos ks vs trs) :
    PPs X pos (some k::ks) (v::vs) ((tk,tv)::trs):=fun pins s σ H Q I h=>
  pairTrees_cons_walk (thn (hk pins s σ H _ I h) fun u s1 ⟨x,H1,I1,rx,q1⟩=>thn (hv pins s1 σ H1 _ I1 q1) fun w2 s2 ⟨y,H2,I2,ry,q2⟩=>
    thn (hr pins s2 σ H2 _ I2 q2) fun ws s3 ⟨ps,H3,I3,rel,q3⟩=>⟨(x,y)::ps,H3,I3,.cons ⟨rx,ry⟩ rel,q3⟩)
noncomputable def mergeK (kvs more:List (Key×V)):List (Key×V):=more.foldl (fun acc kv=>putK acc kv.1 kv.2) kvs
theorem KV.merge:∀ {more:List (Key×V)}{rs:List (Key×Value)} {kvs:List (Key×V)}{vs:List (Key×Value)},KV more rs→KV kvs vs→KV (mergeK kvs more) (merged vs rs):=by
  intro more rs kvs vs r
  unfold KV at r
  induction r generalizing kvs vs with
  | nil=>intro q;exact q
  | @cons p q ps qs h t ih=>
    intro r0
    have e:KV (putK kvs p.1 p.2) (stored vs q.1 q.2):=by
      have:=r0.put p.1 h.2
      rw [← h.1];exact this
    exact ih e
theorem length_mergeK:∀ (more kvs:List (Key×V)),(mergeK kvs more).length≤kvs.length + more.length
  | [],kvs=>by show kvs.length≤kvs.length + 0;omega
  | p::r,kvs=>by
    have h1:=length_mergeK r (putK kvs p.1 p.2)
    have h2:=length_putK kvs p.1 p.2
    show (mergeK (putK kvs p.1 p.2) r).length≤_
    rw [List.length_cons];omega
theorem carries_of {P:Program}{w:World}:∀ {kvs:List (Key×V)}{ws:List (Value×Value)},VV (kvs.map fun kv=>(kV kv.1,kv.2)) ws→∃ rs,Carries (mixKind P w) ws rs∧KV kvs rs
  | [],_,r=>by rw [List.map_nil] at r;cases r;exact ⟨[],True.intro,.nil⟩
  | p::kvs,_,r=>by
    rw [List.map_cons] at r
    cases r with
    | @cons a b as bs h t=>
      obtain ⟨rs,c,q⟩:=carries_of (P:=P) (w:=w) t
      obtain ⟨b1,b2⟩:=b
      exact ⟨(p.1,b2)::rs,⟨kV_is h.1,rfl,c⟩,.cons ⟨rfl,h.2⟩ q⟩
noncomputable def tDisp (trs:List (TE×TE)):TE:=fun σ H Q=>∀ p,H p=none→tPairs trs σ (upd H p (.dK [])) fun ps H2=>H2 p=some (.dK [])∧∃ kvs:List (Key×V),ps=kvs.map (fun kv=>(kV kv.1,kv.2))∧kvs.length≤15∧Q (.ref p) (upd H2 p (.dK (mergeK [] kvs)))
theorem pe_disp {X:Cx}{pos:Pos} {keys:List (Option Expr)}{values:List Expr} {trs:List (TE×TE)}(h:PPs X pos keys values trs) (hall:keys.all (·.isSome)=true) (hl:keys.length=values.length) (h0:keys≠[])
    (h15:keys.length≤15):PE X (.Dict keys values pos) (tDisp trs):=by
  intro pins s σ H Q I q
  have hn:=I.hok.fresh (Nat.le_refl s.heap.objs.size)
  have I1:=I.laid (a:=s.heap.objs.size) (o:=.dK []) (h':=s.heap.push { cls:=.type "dict",data:=.dict #[] }) (t':=s.toks) (fun _ _ q=>Heap.get?_push_of_some _ q) (Nat.le_refl _) (dk_empty s.heap I.big)
  refine wpAny_Dict_walk (knd:=mixKind X.prog X.w) hall hl h0 h15 (thn (h pins _ σ _ _ I1 (q _ hn)) fun ws s2 ⟨ps,H2,I2,rel,e,kvs,ep,lk,q2⟩=>?_)
  subst ep
  obtain ⟨rs,c,rk⟩:=carries_of (P:=X.prog) (w:=X.w) rel
  obtain ⟨z,hd,vs0,r0,dd⟩:=dk_of I2.hok e
  cases r0
  refine ⟨rs,c,dd,fun h' dd' hs=>⟨.ref s.heap.objs.size,_,?_,rfl,q2⟩⟩
  have hz:(mergeK [] kvs).length≤sizeLine:=by
    have h1:=length_mergeK kvs []
    rw [List.length_nil] at h1
    rw [sizeLine_eq];omega
  have he:∃ q,h'.get? s.heap.objs.size=some q:=let ⟨q,_,_,hq,_⟩:=dd';⟨q,hq⟩
  exact d_write I2 (by rw [e];exact True.intro) hs he (dk_new hz hd (rk.merge .nil) dd')
structure M2 (X:Cx) (o:Expr) (m:Str) (apos:Pos) (e f:Expr) (cpos:Pos):Prop where
  base:attributeBase o m X.env (eval o X.env)=eval o X.env
  few:((backTo cpos (starEach [e,f] X.env)).all (fun x=>!x.1) && (backToKw cpos (keywordEach [] X.env)).all (fun x=>x.1.isSome)
    && decide (([e,f]:List Expr).length + ([]:List Keyword).length + (if ([]:List Keyword).isEmpty then 0 else 1) < 30))=true
  line:(apos.endLine == cpos.line)=true
  trees:backTo cpos (starEach [e,f] X.env)=[(false,eval e X.env),(false,eval f X.env)]
noncomputable def IsD (H:Hp) (a:Addr):Prop:=(∃ kvs,Rd H a (.dK kvs))∨∃ kvs,Rd H a (.dT kvs)
theorem isD_at {X:Cx}{pins:List (Addr×Obj)} {σ:St}{H:Hp} {s:Shared}{a:Addr} (I:Inv X pins σ H s) (d:IsD H a) :
    s.TypeIs (.ref a) "dict" ∧ (∀ b,Value.ref a=.ref b→∃ ob,s.heap.get? b=some ob∧ob.dict=none)∧(a == sysModules)=false:=by
  rcases d with ⟨kvs,e⟩ | ⟨kvs,e⟩
  · obtain ⟨_,hd,vs,_,dd⟩:=dk_rd I.hok e
    refine ⟨dd.typeIs,fun b q=>?_,hd⟩
    cases q
    obtain ⟨ob,_,_,h1,h2,_⟩:=dd
    exact ⟨ob,h1,h2.2.1⟩
  · obtain ⟨_,hd,xs,_,dd⟩:=dt_rd I.hok e
    refine ⟨dd.typeIs,fun b q=>?_,hd⟩
    cases q
    obtain ⟨ob,_,_,h1,h2,_⟩:=dd
    exact ⟨ob,h1,h2.2.1⟩
section
variable {X:Cx}{pins:List (Addr×Obj)} {σ:St}{H:Hp} {s:Shared}{a:Addr} {y d:V}{u r:Value} {o:Option V}{A:Around} {E:Value→Shared→Prop}
theorem d_get2 {Q:Value→Shared→Prop}(hu:A.units + 1 < cLine) (I:Inv X pins σ H s) (g:DGet H a y o) (ry:RelV y u) (rd:RelV d r) (h:∀ w' s',Inv X pins σ H s'→RelV (o.getD d) w'→Q w' s') :
    wpAny (model X.prog X.w) A (call (.builtin "dict.get") [.ref a,u,r]) Q E s:=by
  rcases g with ⟨kvs,k,e,ey,l⟩ | ⟨kvs,k,b,e,ey,eb,l⟩
  · subst ey
    obtain ⟨z,hd,vs,rel,dd⟩:=dk_rd I.hok e
    refine call_meetsIn PySem.F.slot_dict_get dd.typeIs PySem.F.entry_dict_get (PySem.F.args_dict_get_3 _ _ _) (meets_dict_get_default (mixKind X.prog X.w) a (kV_is ry) hd r) ⟨_,dd.mapOf,h _ _ (I.tok _) ?_⟩
    rw [l]
    exact (rel.val k).getD rd
  · subst ey
    cases (show u=Value.ref b from ry)
    obtain ⟨z,hd,xs,rel,dd⟩:=dt_rd I.hok e
    refine call_meetsIn PySem.F.slot_dict_get dd.typeIs PySem.F.entry_dict_get (PySem.F.args_dict_get_3 _ _ _) (meetsH_dict_get_default (tupleKind (mixKind X.prog X.w)) a b hd r) ⟨tupleKind_room_in1 hu,k,xs,key_of I.hok eb,dd,h _ _ (I.tok _) ?_⟩
    rw [l]
    exact (rel.val k).getD rd
end
noncomputable def tDGet2 (td ty tx:TE):TE:=fun σ H Q=>td σ H fun x H1=>∃ a,x=.ref a∧IsD H1 a∧ty σ H1 fun y H2=>tx σ H2 fun z H3=>∃ o,DGet H3 a y o∧Q (o.getD z) H3
section
variable {X:Cx}{o e f:Expr} {apos cpos:Pos}{td ty tx:TE}
theorem pe_dget2 (hu:X.A.units + 1 < cLine) (ho:PE X o td) (he:PE X e ty) (hf:PE X f tx) (m:M2 X o "get" apos e f cpos):PE X (.Call (.Attribute o "get" apos) [e,f] [] cpos) (tDGet2 td ty tx):=by
  intro pins s σ H Q I h
  refine wpAny_Call_method m.base m.few m.line PySem.F.plainAttrs_dict PySem.F.slot_dict_get PySem.F.type_dict_get (thn (ho pins s σ H _ I h) fun u s1 ⟨x,H1,I1,rx,a,ex,d,q1⟩=>?_)
  subst ex
  obtain rfl:u=Value.ref a:=rx
  obtain ⟨t1,t2,_⟩:=isD_at I1 d
  refine ⟨t1,t2,?_⟩
  rw [m.trees]
  refine Calls.callWith_builtin rfl (Calls.evalArgs_plain (Calls.spliced_cons (thn (he pins s1 σ H1 _ I1 q1) fun iv s2 ⟨y,H2,I2,ry,q2⟩=>
    Calls.spliced_cons (thn (hf pins s2 σ H2 _ I2 q2) fun fv s3 ⟨z,H3,I3,rz,ov,g,q3⟩=>Calls.spliced_nil ?_))))
  exact d_get2 hu I3 g ry rz fun w' s4 I4 rw'=>⟨_,H3,I4,rw',q3⟩
end
section
variable {X:Cx}{pins:List (Addr×Obj)} {σ:St}{H:Hp} {s:Shared}{a:Addr} {kvs:List (Key×V)}{A:Around} {E:Value→Shared→Prop}
end
section
variable {X:Cx}{pins:List (Addr×Obj)} {σ:St}{H:Hp} {s:Shared}{a:Addr} {y:V}{u:Value} {A:Around}{E:Value→Shared→Prop}
end
end L2
set_option Elab.async false
set_option linter.all false
set_option maxRecDepth 100000
namespace FL
open PySem PySem.Spec PyProof.Rows L2
noncomputable def keyD:D→Option Key
  | .int i=>some (.inl i)
  | .str x=>some (.inr x)
  | _=>none
theorem kdK_inj {a b:Key}(h:kdK a=kdK b):a=b:=by
  cases a<;>cases b<;>simp [kdK] at h<;>rw [h]
noncomputable def kds (kvs:List (Key×V)):List KD:=kvs.map fun p=>kdK p.1
noncomputable def valD (ks:List KD) (ds:List D) (k:KD):Option D:=((ks.zip ds).find? fun p=>decide (p.1=k)).map (·.2)
noncomputable def putD (ks:List KD) (ds:List D) (k:KD) (d:D):List KD×List D:=
  if (ks.any fun x=>decide (x=k))=true then (ks,(ks.zip ds).map fun p=>if p.1=k then d else p.2) else (ks++[k],ds++[d])
section
variable {K:PySem.W.Frag}{X:Cx} {pos:Pos}
theorem keyD_some {d:D}{k:Key} {F:Hp}{v:V} (h:keyD d=some k) (r:Dat K F d v):v=kV k:=by
  cases d<;>simp only [keyD] at h<;>cases h
  · rw [r.int_inv];rfl
  · rw [r.str_inv];rfl
theorem val_rel {F:Hp}(k:Key):∀ (kvs:List (Key×V)) (ds:List D),DatL K F ds (kvs.map (·.2))→(valD (kds kvs) ds (kdK k)=none∧valV kvs k=none)∨∃ d v,valD (kds kvs) ds (kdK k)=some d∧valV kvs k=some v∧Dat K F d v
  | [],ds,h=>.inl ⟨by simp [valD,kds],rfl⟩
  | (a,v)::kvs,[],h=>by have:=h.nil_inv;simp at this
  | (a,v)::kvs,d::ds,h=>by
    obtain ⟨v',r,e,h1,h2⟩:=h.cons_inv
    simp at e
    obtain ⟨rfl,rfl⟩:=e
    by_cases hk:a=k
    · subst hk
      exact .inr ⟨d,v,by simp [valD,kds],valV_pos rfl,h1⟩
    · have hk':¬ kdK a=kdK k:=fun z=>hk (kdK_inj z)
      have e1:valD (kds ((a,v)::kvs)) (d::ds) (kdK k)=valD (kds kvs) ds (kdK k):=by simp [valD,kds,List.find?_cons,hk']
      rw [e1,valV_neg (p:=(a,v)) hk]
      exact val_rel k kvs ds h2
theorem any_rel (k:Key):∀ kvs:List (Key×V),((kds kvs).any fun x=>decide (x=kdK k))=(kvs.any fun kv=>decide (kv.1=k))
  | []=>rfl
  | (a,v)::kvs=>by
    have ih:=any_rel k kvs
    by_cases hk:a=k
    · subst hk;simp [kds]
    · have hk':¬ kdK a=kdK k:=fun z=>hk (kdK_inj z)
      simp only [kds,List.map_cons,List.any_cons,hk',hk,decide_false,Bool.false_or]
      exact ih
theorem put_map {F:Hp}(k:Key) {d:D}{v:V} (hd:Dat K F d v):∀ (kvs:List (Key×V)) (ds:List D),DatL K F ds (kvs.map (·.2))→
    DatL K F (((kds kvs).zip ds).map fun p=>if p.1=kdK k then d else p.2) ((kvs.map fun kv=>if kv.1=k then (kv.1,v) else kv).map (·.2))
  | [],ds,h=>by simp [kds];exact DatL.nil
  | (a,u)::kvs,[],h=>by have:=h.nil_inv;simp at this
  | (a,u)::kvs,c::ds,h=>by
    obtain ⟨v',r,e,h1,h2⟩:=h.cons_inv
    simp at e
    obtain ⟨rfl,rfl⟩:=e
    have ih:=put_map k hd kvs ds h2
    simp only [kds,List.map_cons,List.zip_cons_cons]
    by_cases hk:a=k
    · subst hk
      rw [if_pos rfl,if_pos rfl]
      exact DatL.cons hd ih
    · have hk':¬ kdK a=kdK k:=fun z=>hk (kdK_inj z)
      rw [if_neg hk',if_neg hk]
      exact DatL.cons h1 ih
theorem put_rel {F:Hp}(k:Key) {d:D}{v:V} (hd:Dat K F d v) (kvs:List (Key×V)) (ds:List D) (h:DatL K F ds (kvs.map (·.2))) :
    (putD (kds kvs) ds (kdK k) d).1=kds (putK kvs k v)∧DatL K F (putD (kds kvs) ds (kdK k) d).2 ((putK kvs k v).map (·.2)):=by
  unfold putD putK
  rw [any_rel]
  split
  · refine ⟨?_,put_map k hd kvs ds h⟩
    unfold kds
    rw [List.map_map]
    apply List.map_congr_left
    intro p _
    simp only [Function.comp]
    split<;>rfl
  · exact ⟨by simp [kds],by rw [List.map_append];exact h.snoc hd⟩
theorem dicAt_k {H:Hp}{a:Addr} {ks:List KD}{vs:List V} (h:DicAt H a ks vs) (hk:∀ l,KD.tup l∉ks):∃ kvs,H a=some (.dK kvs)∧ks=kds kvs∧vs=kvs.map (·.2):=by
  rcases h with ⟨kvs,h,e1,e2⟩ | ⟨kvs,h,⟨e1,e3⟩,e2⟩
  · exact ⟨kvs,h,e1,e2⟩
  · cases kvs with
    | nil=>exact absurd rfl e3
    | cons p r=>exact absurd (by rw [e1];simp) (hk p.1)
theorem dicB_k {H:Hp}{a:Addr} {ks:List KD}{vs:List V} (h:DicB H a ks vs) (hk:∀ l,KD.tup l∉ks):∃ kvs,Rd H a (.dK kvs)∧ks=kds kvs∧vs=kvs.map (·.2):=by
  rcases h with h | ⟨o,⟨kvs,h,e1,e2⟩ | ⟨kvs,h,⟨e1,e3⟩,e2⟩⟩
  · obtain ⟨kvs,h,r⟩:=dicAt_k h hk
    exact ⟨kvs,.inl h,r⟩
  · exact ⟨kvs,.inr ⟨o,h⟩,e1,e2⟩
  · cases kvs with
    | nil=>exact absurd rfl e3
    | cons p r=>exact absurd (by rw [e1];simp) (hk p.1)
theorem Rd.mono {H H':Hp}{a:Addr} {u:HO}(s:Same H H') (h:Rd H a u):Rd H' a u:=h.imp (s _ _) fun ⟨o,h⟩=>⟨o,s _ _ h⟩
noncomputable def kOk (ks:List KD):Bool:=ks.all fun x=>match x with
  | .tup _=>false
  | _=>true
theorem kOk_no {ks:List KD}(h:kOk ks=true):∀ l,KD.tup l∉ks:=fun l hl=>by
  have:=List.all_eq_true.mp h _ hl
  cases this
theorem fdic0:FP K .ow X (.Dict [] [] pos) (cst (.dic [] [])):=FP.mk fun ρ d hf=>by
  cases hf
  refine PE.imp pe_dnewK fun σ H Q ⟨F,r,q⟩ p hp=>?_
  exact q _ _ _ (Grow.fresh r.sub hp) ⟨p,rfl,hp,r.sub.free hp,[],.inl ⟨[],upd_same,rfl,rfl⟩,DatL.nil⟩
noncomputable def c3 (p:D→D→D→Option D) (fa fb fc:En→Option D):En→Option D:=fun ρ=>(fa ρ).bind fun x=>(fb ρ).bind fun y=>(fc ρ).bind fun z=>p x y z
theorem c3_some {p:D→D→D→Option D}{fa fb fc:En→Option D} {ρ:En}{d:D} (h:c3 p fa fb fc ρ=some d):∃ x y z,fa ρ=some x∧fb ρ=some y∧fc ρ=some z∧p x y z=some d:=by
  unfold c3 at h
  cases e1:fa ρ with
  | none=>rw [e1] at h;cases h
  | some x=>
    cases e2:fb ρ with
    | none=>rw [e1] at h;simp [e2] at h
    | some y=>
      cases e3:fc ρ with
      | none=>rw [e1] at h;simp [e2,e3] at h
      | some z=>rw [e1] at h;simp [e2,e3] at h;exact ⟨x,y,z,rfl,rfl,rfl,h⟩
noncomputable def getD3 (x y z:D):Option D:=match x,keyD y with
  | .dic ks ds,some k=>if kOk ks=true then some ((valD ks ds (kdK k)).getD z) else none
  | _,_=>none
theorem fget {o e f:Expr}{fo fe ff:En→Option D} {apos cpos:Pos}(hu:X.A.units + 100 < cLine) (ho:FP K .br X o fo) (he:FP K .fz X e fe) (hf:FP K .fz X f ff)
    (m1:attributeBase o "get" X.env (eval o X.env)=eval o X.env:=by rfl)
    (m2:((backTo cpos (starEach [e,f] X.env)).all (fun x=>!x.1) && (backToKw cpos (keywordEach [] X.env)).all (fun x=>x.1.isSome) && decide (([e,f]:List Expr).length + ([]:List Keyword).length + (if ([]:List Keyword).isEmpty then 0 else 1) < 30))=true:=by rfl)
    (m3:(apos.endLine == cpos.line)=true:=by rfl) (m4:backTo cpos (starEach [e,f] X.env)=[(false,eval e X.env),(false,eval f X.env)]:=by rfl) :
    FP K .fz X (.Call (.Attribute o "get" apos) [e,f] [] cpos) (c3 getD3 fo fe ff):=FP.mk fun ρ d hf'=>by
  obtain ⟨x,y,z,e1,e2,e3,e4⟩:=c3_some hf'
  refine PE.imp (pe_dget2 (by omega) (ho.h ρ x e1) (he.h ρ y e2) (hf.h ρ z e3) ⟨m1,m2,m3,m4⟩) fun σ H Q h_=>?_
  obtain ⟨F,rl,q⟩:=h_
  unfold getD3 at e4
  split at e4
  · rename_i ks ds k ek
    obtain ⟨hk,rfl⟩:=ite_some e4
    refine ⟨F,rl,fun v F1 H1 g1 r1=>?_⟩
    obtain ⟨a,vs,rfl,f1,q1⟩:=DatB.dic_inv r1
    obtain ⟨kvs,h1,rfl,rfl⟩:=dicB_k f1 (kOk_no hk)
    refine ⟨a,rfl,.inl ⟨kvs,h1⟩,F1,rl.grow g1,fun u F2 H2 g2 r2=>⟨F2,(rl.grow g1).grow g2,fun w F3 H3 g3 r3=>?_⟩⟩
    have eu:=keyD_some (K:=K) ek r2
    subst eu
    refine ⟨valV kvs k,.inl ⟨kvs,k,Rd.mono (g2.hh.trans g3.hh) h1,rfl,rfl⟩,q _ F3 H3 (g1.trans (g2.trans g3)) ?_⟩
    rcases val_rel (K:=K) (F:=F3) k kvs ds (q1.mono (g2.ff.trans g3.ff)) with ⟨n1,n2⟩ | ⟨d,v,n1,n2,n3⟩
    · rw [n1,n2];exact r3
    · rw [n1,n2];exact n3
  · cases e4
noncomputable def dictD:List D→Option D
  | [.dic ks ds]=>if kOk ks=true then some (.dic ks ds) else none
  | _=>none
noncomputable def rSetD:V→V→V→Hp→(Hp→Prop)→Prop:=fun o i v H Q=>∃ a H',o=.ref a∧DPut H a i v H'∧Q H'
theorem set_dict (hu:X.A.units + 1 < cLine):PSet X rSetD:=by
  intro pins s σ H o i v ov iv u Q I ro ri rv h
  obtain ⟨a,H',rfl,g,q⟩:=h
  cases ro
  exact d_setItem hu I g ri rv fun s' I'=>⟨H',I',q⟩
noncomputable def putKM (i:Nat) (fk fe:En→Option D):En→Option Fl:=fun ρ=>match ρ[i]?,fe ρ,(fk ρ).bind keyD with
  | some (some (.ow pp (.dic ks ds))),some d,some k=>if kOk ks=true∧ks.length < lim then some (.nx (ρ.set i (some (.ow pp (.dic (putD ks ds (kdK k) d).1 (putD ks ds (kdK k) d).2))))) else none
  | _,_,_=>none
theorem sputK {md:Md}(i:Nat) {x:Str}{p p2:Pos} {ke e:Expr}{fk fe:En→Option D} (hu:X.A.units + 100 < cLine) (he:FP K .fz X e fe) (hk:FP K .fz X ke fk)
    (hN:X.N[i]?=some x:=by rfl) (hv:Vis X.env.scope x:=by first | exact Or.inl rfl | exact Or.inr (Or.inl rfl) | exact Or.inr (Or.inr rfl)) (hd:(x == ("__debug__" : Str))=false:=by decide) (hcd:(x == ("__classdict__" : Str))=false:=by decide)
    (H1:∀ {to ti:TE}{t:TSet},PE X (.Name x p) to→PE X ke ti→PSet X t→PG X (.Subscript (.Name x p) ke p2) (gSub to ti t):=by exact fun a b c=>pg_sub a b c)
    (hs:swapsWithSole [.Subscript (.Name x p) ke p2] e pos.line X.env=pure false:=by rfl) (hw:swappedStores [.Subscript (.Name x p) ke p2] e X.env=pure none:=by rfl)
    (h1:(assignEach [.Subscript (.Name x p) ke p2] X.env).map (·.2)=[assign (.Subscript (.Name x p) ke p2) X.env]:=by rfl) (hK:X.K=K:=by rfl) :
    FS K md X (.Assign [.Subscript (.Name x p) ke p2] e pos) (putKM i fk fe):=FS.mk fun ρ fl hf=>by
  subst hK
  unfold putKM at hf
  split at hf
  · rename_i pp ks ds d k e1 e2 e3
    obtain ⟨⟨hk1,hk2⟩,hf⟩:=ite_some hf
    cases hf
    cases e4:fk ρ with
    | none=>rw [e4] at e3;cases e3
    | some y=>
      rw [e4] at e3
      have e3:keyD y=some k:=e3
      refine PS.imp (ps_asg (he.h ρ d e2) (H1 (pe_var hN hv hd hcd) (hk.h ρ y e4) (set_dict (by omega))) hs hw h1) fun D σ H h_=>?_
      obtain ⟨F,r,q⟩:=h_
      obtain ⟨a,h1,h2,h3⟩:=r.own i pp _ e1
      refine ⟨F,r,fun v F1 H1 g1 r1=>⟨_,h1,F1,r.grow g1,fun u F2 H2 g2 r2=>?_⟩⟩
      have rg:=(r.grow g1).grow g2
      obtain ⟨a',h1',h2',vs,h3',h4'⟩:=rg.own i pp _ e1
      rw [h1] at h1';cases h1'
      obtain ⟨kvs,g3,rfl,rfl⟩:=dicAt_k h3' (kOk_no hk1)
      have ev:=keyD_some (K:=X.K) e3 r2
      subst ev
      have hl:kvs.length < sizeLine:=by
        have:(kds kvs).length=kvs.length:=by simp [kds]
        exact lim_lt (by omega)
      obtain ⟨m0,m00⟩:=put_rel (K:=X.K) (F:=F2) k (Dat.mono g2.ff r1) kvs ds h4'
      refine ⟨a,_,rfl,DPut.k g3 hl,?_⟩
      obtain ⟨m1,m2⟩:=rg.mut (i:=i) (o:=.dK (putK kvs k v)) (d':=.dic (putD (kds kvs) ds (kdK k) d).1 (putD (kds kvs) ds (kdK k) d).2) e1 h1 ⟨_,.inl ⟨putK kvs k v,upd_same,m0,rfl⟩,m00⟩
      exact q σ _ _ m1 ((g1.trans g2).step.trans m2 r.sub)
  · cases hf
noncomputable def frzM (i:Nat) (m:En→Option Fl):En→Option Fl:=fun ρ=>match ρ[i]? with
  | some (some (.ow false d))=>m (ρ.set i (some (.dat d)))
  | _=>none
theorem Rel.frz {F H:Hp}{ρ:En} {σ:St}{i:Nat} {d:D}(r:Rel K F H ρ σ) (e:ρ[i]?=some (some (.ow false d))) :
    ∃ a,∀ H2,FrzTo H a H2→∃ F',Rel K F' H2 (ρ.set i (some (.dat d))) σ∧Step ρ σ F H (ρ.set i (some (.dat d))) σ F' H2:=by
  obtain ⟨a,h1,h2,h3⟩:=r.own i false d e
  refine ⟨a,fun H2 fz=>?_⟩
  have x:Same F (frz1 F H2 a):=frz1_ext h2
  have hi:i < ρ.length:=(List.getElem?_eq_some_iff.mp e).1
  refine ⟨frz1 F H2 a,⟨frz1_sub (fz.same r.sub h2),fun j y q=>?_,fun j y q=>?_,fun j qq y q=>?_,fun j k qq y s c ne e1 e2 e3 e4=>?_,by simp [r.len]⟩,⟨x,fun b o hb n no=>?_,fun b hb=>.inr ?_,fun j y e'=>?_,frz1_sub (fz.same r.sub h2)⟩⟩
  · rcases set_cases q with ⟨rfl,q'⟩ | ⟨ne,q'⟩
    · cases q';exact ⟨_,h1,h3.freeze h2 fz⟩
    · obtain ⟨v,g1,g2⟩:=r.dat j y q';exact ⟨v,g1,g2.mono x⟩
  · rcases set_cases q with ⟨rfl,q'⟩ | ⟨ne,q'⟩
    · cases q'
    · obtain ⟨v,g1,g2⟩:=r.bor j y q';exact ⟨v,g1,g2.frz x fz fun z=>r.inj i j false d _ a (Ne.symm ne) e h1 q' rfl (by rw [g1,z])⟩
  · rcases set_cases q with ⟨rfl,q'⟩ | ⟨ne,q'⟩
    · cases q'
    · obtain ⟨b,g1,g2,g3⟩:=r.own j qq y q'
      have hb:b≠a:=fun z=>by
        subst z
        exact r.inj i j false d _ b (Ne.symm ne) e h1 q' rfl g1
      exact ⟨b,g1,by rw [frz1_ne hb];exact g2,g3.mono x fun o e=>by rw [fz.ne hb];exact e⟩
  · rcases set_cases e1 with ⟨rfl,e1'⟩ | ⟨ne1,e1'⟩
    · cases e1'
    · rcases set_cases e3 with ⟨rfl,e3'⟩ | ⟨ne3,e3'⟩
      · cases e3';cases e4
      · exact r.inj j k qq y s c ne e1' e2 e3' e4
  · have hb':b≠a:=fun z=>no (by subst z;exact ⟨i,false,d,e,h1⟩)
    exact ⟨by rw [fz.ne hb'];exact hb,by rw [frz1_ne hb'];exact n⟩
  · obtain ⟨j,qq,y,j1,j2⟩:=hb
    rcases set_cases j1 with ⟨rfl,j1'⟩ | ⟨ne,j1'⟩
    · cases j1'
    · exact ⟨j,qq,y,j1',j2⟩
  · rcases set_cases e' with ⟨rfl,e''⟩ | ⟨ne,e''⟩
    · cases e''
    · exact ⟨y,e'',rfl⟩
end
end FL
set_option Elab.async false
set_option linter.all false
set_option maxRecDepth 100000
namespace L2
open PySem PySem.Spec PyProof.Rows
end L2
namespace FL
open PySem PySem.Spec PyProof.Rows L2
section
variable {K:PySem.W.Frag}{X:Cx} {pos:Pos}
theorem ps_frz {st:Stmt}{t:TS} (h:PS X st t):PS X st (fun D σ H=>∃ a,∀ H2,FrzTo H a H2→t D σ H2):=fun pins s σ H D I ⟨a,ht⟩=>by
  obtain ⟨H2,f,I2⟩:=Inv.frzTo I a
  exact h pins s σ H2 D I2 (ht H2 f)
theorem sfrz {md:Md}(i:Nat) {st:Stmt}{m:En→Option Fl} (h:FS K md X st m):FS K md X st (frzM i m):=FS.mk fun ρ fl hf=>by
  unfold frzM at hf
  split at hf
  · rename_i d e1
    refine PS.imp (ps_frz (h.h _ fl hf)) fun D σ H h_=>?_
    obtain ⟨F,r,q⟩:=h_
    obtain ⟨a,hf2⟩:=r.frz e1
    refine ⟨a,fun H2 fz=>?_⟩
    obtain ⟨F',r',s'⟩:=hf2 H2 fz
    exact rdS.after r.sub r' s' q
  · cases hf
noncomputable def signsD (z:Str):List D:=z.cps.toList.map fun c=>D.str ⟨#[c]⟩
noncomputable def cSg (f:En→Option D):En→Option (List D):=fun ρ=>match f ρ with
  | some (.str z)=>some (signsD z)
  | _=>none
noncomputable def disp1 (y z:D):Option D:=(keyD y).map fun k=>.dic [kdK k] [z]
theorem fdisp1 {k e:Expr}{fk fe:En→Option D} (hk:FP K .fz X k fk) (he:FP K .fz X e fe):FP K .ow X (.Dict [some k] [e] pos) (c2 disp1 fk fe):=FP.mk fun ρ d hf=>by
  obtain ⟨y,z,e1,e2,e3⟩:=c2_some hf
  unfold disp1 at e3
  cases e4:keyD y with
  | none=>rw [e4] at e3;cases e3
  | some kk=>
    rw [e4] at e3;cases e3
    refine PE.imp (pe_disp (pps_cons (hk.h ρ y e1) (he.h ρ z e2) pps_nil) rfl rfl (by simp) (by simp)) fun σ H Q ⟨F,r,q⟩ p hp=>?_
    have g0:=Grow.fresh (o:=.dK []) r.sub hp
    have fp:F p=none:=r.sub.free hp
    refine ⟨F,r.grow g0,fun v F1 H1 g1 r1=>⟨F1,(r.grow g0).grow g1,fun u F2 H2 g2 r2=>?_⟩⟩
    have ev:=keyD_some (K:=K) e4 r1
    subst ev
    have hp1:=g1.hh _ _ (upd_same (H:=H) (a:=p) (o:=.dK []))
    have hp2:=g2.hh _ _ hp1
    have fp1:=g1.nw _ _ upd_same fp
    have fp2:=g2.nw _ _ hp1 fp1
    refine ⟨hp2,[(kk,u)],rfl,by simp,?_⟩
    have gg:=g0.trans (g1.trans g2)
    have g3:Grow F H F2 (upd H2 p (.dK (mergeK [] [(kk,u)]))):=⟨gg.ff,fun b o e=>by rw [upd_ne (ne_of_none e hp)];exact gg.hh _ _ e,fun b o e=>by rw [upd_ne (ne_of_none e fp2)];exact gg.fh _ _ e,gg.nw⟩
    have em:mergeK [] [(kk,u)]=[(kk,u)]:=rfl
    exact q _ F2 _ g3 ⟨p,rfl,hp,fp2,[u],.inl ⟨[(kk,u)],by rw [em];exact upd_same,rfl,rfl⟩,DatL.cons r2 DatL.nil⟩
end
end FL
set_option Elab.async false
set_option linter.all false
set_option maxRecDepth 100000
namespace FL
open PySem PySem.Spec PyProof.Rows L2
section
variable {K:PySem.W.Frag}{X:Cx} {pos:Pos}
noncomputable def rInK (f:Bool→Bool):R2:=fun y x H Q=>∃ a o,x=.ref a∧DGet H a y o∧Q (.bl (f o.isSome)) H
theorem op_inK (hu:X.A.units + 100 < cLine):OpR X (compareOp .In) (rInK id):=by
  intro pins s σ H x y v u Q I rx ry h
  obtain ⟨a,o,rfl,g,q⟩:=h
  cases ry
  exact d_in (by omega) I g rx fun s' I'=>⟨.bl o.isSome,H,I',rfl,q⟩
theorem op_notInK (hu:X.A.units + 100 < cLine):OpR X (compareOp .NotIn) (rInK not):=by
  intro pins s σ H x y v u Q I rx ry h
  obtain ⟨a,o,rfl,g,q⟩:=h
  cases ry
  exact d_notIn (by omega) I g rx fun s' I'=>⟨.bl (!o.isSome),H,I',rfl,q⟩
noncomputable def inK (f:Bool→Bool) (y x:D):Option D:=match x,keyD y with
  | .dic ks ds,some k=>if kOk ks=true then some (.bl (f (valD ks ds (kdK k)).isSome)) else none
  | _,_=>none
theorem p_inKG {op:CmpOp}{f:Bool→Bool} (o:OpR X (compareOp op) (rInK f)):Op2f K X (compareOp op) (inK f):=by
  refine ⟨_,o,fun y x d F H v u Q e s h1 h2 k=>?_⟩
  unfold inK at e
  split at e
  · rename_i ks ds kk ek
    obtain ⟨hk,rfl⟩:=ite_some e
    obtain ⟨a,vs,rfl,f1,q1⟩:=DatB.dic_inv h2
    obtain ⟨kvs,g1,rfl,rfl⟩:=dicB_k f1 (kOk_no hk)
    have ev:=keyD_some (K:=K) ek h1
    subst ev
    refine ⟨a,valV kvs kk,rfl,.inl ⟨kvs,kk,g1,rfl,rfl⟩,?_⟩
    have hs:(valV kvs kk).isSome=(valD (kds kvs) ds (kdK kk)).isSome:=by
      rcases val_rel (K:=K) (F:=F) kk kvs ds q1 with ⟨n1,n2⟩ | ⟨d,v,n1,n2,_⟩<;>rw [n1,n2]<;>rfl
    rw [hs]
    exact k _ F H (Grow.refl s) (Res.bl _)
  · cases e
theorem p_inKey (hu:X.A.units + 101 < cLine):Op2f K X (compareOp .In) (inK id):=p_inKG (op_inK (by omega))
theorem p_notInKey (hu:X.A.units + 101 < cLine):Op2f K X (compareOp .NotIn) (inK not):=p_inKG (op_notInK (by omega))
noncomputable def idxK (x y:D):Option D:=match x,keyD y with
  | .dic ks ds,some k=>if kOk ks=true then valD ks ds (kdK k) else none
  | _,_=>none
theorem fixK {a b:Expr}{fa fb:En→Option D} (hu:X.A.units + 100 < cLine) (ha:FP K .br X a fa) (hb:FP K .fz X b fb) (hs:NoSl b):FP K .fz X (.Subscript a b pos) (c2 idxK fa fb):=FP.mk fun ρ d hf=>by
  obtain ⟨x,y,e1,e2,e3⟩:=c2_some hf
  refine PE.imp (pe_dget (by omega) (ha.h ρ x e1) (hb.h ρ y e2) hs) fun σ H Q h_=>?_
  obtain ⟨F,rl,q⟩:=h_
  unfold idxK at e3
  split at e3
  · rename_i ks ds k ek
    obtain ⟨hk,e3⟩:kOk ks=true∧_:=by
      split at e3
      · rename_i hz;exact ⟨hz,e3⟩
      · cases e3
    refine ⟨F,rl,fun v F1 H1 g1 r1=>⟨F1,rl.grow g1,fun u F2 H2 g2 r2=>?_⟩⟩
    obtain ⟨a,vs,rfl,f1,q1⟩:=DatB.dic_inv (DatB.mono g2.ff g2.hh r1)
    obtain ⟨kvs,h1,rfl,rfl⟩:=dicB_k f1 (kOk_no hk)
    have ev:=keyD_some (K:=K) ek r2
    subst ev
    rcases val_rel (K:=K) (F:=F2) k kvs ds q1 with ⟨n1,n2⟩ | ⟨d',v,n1,n2,n3⟩
    · rw [n1] at e3;cases e3
    · rw [n1] at e3;cases e3
      exact ⟨a,v,rfl,by rw [← n2];exact .inl ⟨kvs,k,h1,rfl,rfl⟩,q _ F2 H2 (g1.trans g2) n3⟩
  · cases e3
end
end FL
set_option Elab.async false
set_option linter.all false
set_option maxRecDepth 100000
namespace L2
open PySem PySem.Spec PyProof.Rows
theorem kV_of {P:Program}{w:World} {k:Key}{u:Value} (h:(mixKind P w).is k u=true):RelV (kV k) u:=by
  rw [mixKind_is] at h
  rcases keyIs_shape h with ⟨i,t,rfl,rfl⟩ | ⟨x,t,rfl,rfl⟩
  · exact ⟨t,rfl⟩
  · exact ⟨t,rfl⟩
theorem KV.get {κ:Type}:∀ {kvs:List (κ×V)}{vs:List (κ×Value)} {i:Nat}{p:κ×V},KV kvs vs→kvs[i]?=some p→∃ u,vs[i]?=some (p.1,u)∧RelV p.2 u
  | _,_,_,_,.nil,e=>by simp at e
  | _,_,0,p,.cons (b:=q) r _,e=>by
    simp at e;subst e
    exact ⟨q.2,by rw [List.getElem?_cons_zero,r.1],r.2⟩
  | _,_,i + 1,p,.cons _ t,e=>by
    obtain ⟨u,h1,h2⟩:=KV.get (i:=i) (p:=p) (show KV _ _ from t) (by simpa using e)
    exact ⟨u,by simpa using h1,h2⟩
theorem frz_at {P:Program}{w:World} {H:Hp}{h:Heap} {d:Addr}{o:Obj} {es:Array DictEntry}{ep:Nat} {kvs:List (Key×V)}(ok:HOk P w H h) (e:H d=some (.frz o (.dK kvs))) (hd:o.data=.dict es ep) :
    (d == sysModules)=false∧∃ vs,KV kvs vs∧h.DictAt (mixKind P w) d vs ep:=by
  obtain ⟨ho,_,hs,vs,rel,o',es',ep',e1,e2,e3,e4⟩:=(show ObjOk P w H h d (.frz o (.dK kvs)) from ok d _ e)
  rw [ho] at e1;cases e1
  rw [hd] at e3;cases e3
  exact ⟨hs,vs,rel,o,es,ho,e2,hd,e4⟩
theorem frz_dict {P:Program}{w:World} {H:Hp}{h:Heap} {d:Addr}{o:Obj} {kvs:List (Key×V)}(ok:HOk P w H h) (e:H d=some (.frz o (.dK kvs))):∃ es ep,o.data=.dict es ep:=by
  obtain ⟨ho,_,hs,vs,rel,o',es',ep',e1,e2,e3,e4⟩:=(show ObjOk P w H h d (.frz o (.dK kvs)) from ok d _ e)
  rw [ho] at e1;cases e1
  exact ⟨es',ep',e3⟩
noncomputable def Itk (d:Addr) (o:Obj) (kvs:List (Key×V)):It:=
  ⟨fun i H=>H d=some (.frz o (.dK kvs))∧i < kvs.length,fun i H x H'=>H'=H∧∃ p,kvs[i]?=some p∧x=kV p.1,fun i H=>H d=some (.frz o (.dK kvs))∧i=kvs.length⟩
noncomputable def Iti (d:Addr) (o:Obj) (kvs:List (Key×V)):It:=
  ⟨fun i H=>H d=some (.frz o (.dK kvs))∧i < kvs.length,fun i H x H'=>∃ p q,H q=none∧x=.ref q∧kvs[i]?=some p∧H'=upd H q (.tup [kV p.1,p.2]),fun i H=>H d=some (.frz o (.dK kvs))∧i=kvs.length⟩
theorem turn_keys {P:Program}{w:World} {K:PySem.W.Frag}{tg:Expr} {d it:Addr}{o:Obj} {es:Array DictEntry}{ep:Nat} {kvs:List (Key×V)}(hd:o.data=.dict es ep) :
    Turn P w K tg (Itk d o kvs) [it] it (fun i h=>h.IsKeyIter it d i kvs.length ep) where
  mem:=by simp
  obj:=fun i h st b hb=>by
    rw [List.mem_singleton.mp hb]
    obtain ⟨o,e,c,d⟩:=st
    exact ⟨o,e,fun v z=>by rw [d] at z;cases z⟩
  keep:=fun i h h' st k=>st.at fun o e=>k it (by simp) o e
  item:=by
    intro X hP hw hK hc i pins s σ H E I hf st hg
    subst hP hw hK
    obtain ⟨e,hi⟩:=hg
    obtain ⟨_,vs,rel,dd⟩:=frz_at I.hok e hd
    obtain ⟨u,hu,ru⟩:=rel.get (List.getElem?_eq_getElem hi)
    obtain ⟨f0,f1,f2,f3,f4,f5⟩:=hf it (by simp)
    have hl:=rel.length
    rw [hl] at st
    refine wpAny_pyNext_dict_item st dd hu fun key h' hk st' sb=>?_
    have I1:Inv X pins σ H { s with heap:=h' }:=I.turned (t':=s.toks) (fun b o hb e=>(sb.2 b hb).trans e) f0 f1 f3 f4 f5
    rw [← hl] at st'
    obtain ⟨o',e',c',d'⟩:=id st'
    exact ⟨key,rfl,go_of (s:={ s with heap:=h' }) e' c' d' (by decide) ⟨_,H,I1,kV_of hk,⟨rfl,_,List.getElem?_eq_getElem hi,rfl⟩,st',fun b hb=>(hf b hb).1⟩⟩
  done:=by
    intro X hP hw hK hc i pins s σ H E I hf st hg
    subst hP hw hK
    obtain ⟨e,hi⟩:=hg
    obtain ⟨_,vs,rel,dd⟩:=frz_at I.hok e hd
    obtain ⟨f0,f1,f2,f3,f4,f5⟩:=hf it (by simp)
    have hl:=rel.length
    rw [hl] at st
    exact wpAny_pyNext_dict_end (I.ok.hd hc) st dd (by simp;omega) fun h' eb=>⟨rfl,I.turned (t':=s.toks) (fun b o hb e=>eb b o hb e) f0 f1 f3 f4 f5⟩
  self:=fun _ _ _ _ _ st h=>wpAny_pyIter_keyiter st h
theorem entry_itemiter:entryFor table "dict_itemiterator.__iter__" = some Builtin.«dict_keyiterator.__iter__»:=
  entryFor_alias (id' := "dict_keyiterator.__iter__") (by kernel_rfl) rfl (by decide +kernel) (by kernel_rfl)
theorem turn_items {P:Program}{w:World} {K:PySem.W.Frag}{elts:List Expr} {x1:Nat}{tp:Pos} {d it:Addr}{o:Obj} {es:Array DictEntry}{ep:Nat} {kvs:List (Key×V)}(hd:o.data=.dict es ep) :
    Turn P w K (.Tuple elts x1 tp) (Iti d o kvs) [it] it (fun i h=>∃ ok ov,IsItemIter h it d i kvs.length ep ok ov) where
  mem:=by simp
  obj:=fun i h st b hb=>by
    rw [List.mem_singleton.mp hb]
    obtain ⟨ok,ov,e⟩:=st
    exact ⟨_,e,fun v z=>by cases (show Data.fields _=Data.cell v from z)⟩
  keep:=fun i h h' st k=>let ⟨ok,ov,e⟩:=st;⟨ok,ov,k it (by simp) _ e⟩
  item:=by
    intro X hP hw hK hc i pins s σ H E I hf st hg
    subst hP hw hK
    obtain ⟨e,hi⟩:=hg
    obtain ⟨_,vs,rel,dd⟩:=frz_at I.hok e hd
    obtain ⟨u,hu,ru⟩:=rel.get (List.getElem?_eq_getElem hi)
    have hl:=rel.length
    obtain ⟨ok,ov,st⟩:=st
    rw [hl] at st
    refine wpAny_pyNext_items_item st dd hu fun key h' hk st' ht hz hk'=>⟨_,rfl,?_⟩
    have I1:Inv X pins σ (upd H s.heap.objs.size (.tup [kV kvs[i].1,kvs[i].2])) { s with heap:=h' }:=I.pairL (t':=s.toks) (ch:=[it]) hf (fun b o hb e=>hk' b o (fun z=>hb (by simp [z])) e) ht (kV_of hk) ru
    refine wpAny_letOwnedTupleGo_items st' fun h2 st2 sb=>?_
    have fr:H s.heap.objs.size=none:=I.fresh
    have hlt:it≠s.heap.objs.size:=Nat.ne_of_lt (Heap.lt_size st)
    have I2:Inv X pins σ (upd H s.heap.objs.size (.tup [kV kvs[i].1,kvs[i].2])) { s with heap:=h2 }:=I1.turnedL (ch:=[it]) (t':=s.toks) (fun b hb=>by
      rw [List.mem_singleton.mp hb]
      obtain ⟨f0,f1⟩:=hf it (by simp)
      exact ⟨by rw [upd_ne hlt];exact f0,f1⟩) fun b o hb e=>sb.extBut _ _ (fun q=>hb (by simp [q])) e
    rw [← hl] at st2
    exact ⟨.ref s.heap.objs.size,_,I2,rfl,⟨_,_,fr,rfl,List.getElem?_eq_getElem hi,rfl⟩,⟨_,_,st2⟩,fun b hb=>by rw [List.mem_singleton.mp hb,upd_ne hlt];exact (hf it (by simp)).1⟩
  done:=by
    intro X hP hw hK hc i pins s σ H E I hf st hg
    subst hP hw hK
    obtain ⟨e,hi⟩:=hg
    obtain ⟨_,vs,rel,dd⟩:=frz_at I.hok e hd
    obtain ⟨f0,f1,f2,f3,f4,f5⟩:=hf it (by simp)
    have hl:=rel.length
    obtain ⟨ok,ov,st⟩:=st
    rw [hl] at st
    exact wpAny_pyNext_items_end (I.ok.hd hc) st dd (by simp;omega) fun h' eb=>⟨rfl,I.turned (t':=s.toks) (fun b o hb e=>eb b o hb e) f0 f1 f3 f4 f5⟩
  self:=fun A i s Q E st h=>by
    obtain ⟨ok,ov,st⟩:=st
    have hT:s.TypeIs (.ref it) "dict_itemiterator" := ⟨_,st,rfl⟩
    refine wpAny_pyIter_slot hT PySem.F.slot_dict_itemiterator_iter (wpAny_call_entry PySem.F.slot_dict_itemiterator_iter hT entry_itemiter ?_ (PySem.F.args_dict_itemiterator_iter_1 _))
    show wpAny _ _ (ret (.ref it)) _ _ s
    exact wpAny_pure ⟨_,rfl, "dict_itemiterator",_,hT,PySem.F.slot_dict_itemiterator_next.lookup,h⟩
noncomputable def iKeys (tl:TE):TI:=fun σ H R=>tl σ H fun v H1=>∃ d o kvs,v=.ref d∧H1 d=some (.frz o (.dK kvs))∧R (Itk d o kvs) H1
theorem pi_keys {X:Cx}{tg l:Expr} {tl:TE}(hl:PE X l tl):PI X tg l (iKeys tl):=by
  intro pins s σ H R I h
  refine thn (hl pins s σ H _ I h) fun v s1 h_=>?_
  obtain ⟨x,H1,I1,r1,d,o,kvs,ex,e,q⟩:=h_
  subst ex
  cases r1
  obtain ⟨es,ep,hd⟩:=frz_dict I1.hok e
  obtain ⟨hs,vs,rel,dd⟩:=frz_at I1.hok e hd
  have hl:=rel.length
  refine wpAny_pyIter_dict hs dd ?_
  refine ⟨s1.heap.objs.size,[s1.heap.objs.size],_,_,H1,rfl,I1.kept (t':=s1.toks) fun b o e=>Heap.get?_push_of_some _ e,turn_keys hd,⟨_,Heap.get?_push_size _ rfl,rfl,by rw [hl];rfl⟩,fun b hb=>?_,q⟩
  rw [List.mem_singleton.mp hb]
  exact I1.fpOk (Nat.le_refl _) (I1.hok.fresh (Nat.le_refl _))
noncomputable def iItems (tl:TE):TI:=fun σ H R=>tl σ H fun v H1=>∃ d o kvs,v=.ref d∧H1 d=some (.frz o (.dK kvs))∧R (Iti d o kvs) H1
theorem pi_items {X:Cx}{elts:List Expr} {x1:Nat}{tp apos cpos:Pos} {l:Expr}{tl:TE} (hl:PE X l tl) (hbase:attributeBase l "items" X.env (eval l X.env)=eval l X.env:=by rfl) (hline:(apos.endLine == cpos.line)=true:=by rfl) :
    PI X (.Tuple elts x1 tp) (.Call (.Attribute l "items" apos) [] [] cpos) (iItems tl):=by
  intro pins s σ H R I h
  refine wpAny_Call_method (T := "dict") (id := "dict.items") hbase rfl hline PySem.F.plainAttrs_dict PySem.F.slot_dict_items PySem.F.type_dict_items (thn (hl pins s σ H _ I h) fun v s1 ⟨x,H1,I1,r1,d,o,kvs,ex,e,q⟩=>?_)
  subst ex
  cases r1
  obtain ⟨es,ep,hd⟩:=frz_dict I1.hok e
  obtain ⟨hs,vs,rel,dd⟩:=frz_at I1.hok e hd
  have hl:=rel.length
  refine ⟨dd.dictOf.typeIs,dd.dictOf.mapOf.noDict,?_⟩
  show wpAny _ _ (callWith cpos (.builtin "dict.items") [.ref d] [] []) _ _ s1
  refine method_meetsIn PySem.F.slot_dict_items PySem.F.entry_dict_items rfl (PySem.evalArgs_none ⟨rfl,dd.dictOf.typeIs,PySem.F.args_dict_items_1 _,_,meets_dict_items (mixKind X.prog X.w) d hs,⟨vs,dd.dictOf⟩,?_⟩)
  have I2:Inv X pins σ H1 { s1 with heap:=s1.heap.push { cls:=.type "dict_items",data:=.fields #[.ref d] } }:=I1.kept (t':=s1.toks) fun b o e=>Heap.get?_push_of_some _ e
  generalize hs2:({ s1 with heap:=s1.heap.push { cls:=.type "dict_items",data:=.fields #[.ref d] } }:Shared)=s2 at I2
  have e2:s2.heap=s1.heap.push { cls:=.type "dict_items",data:=.fields #[.ref d] }:=by rw [← hs2]
  refine wpAny_pyIter_items (knd:=mixKind X.prog X.w) (d:=d) (kvs:=vs) (ep:=ep) ⟨_,by rw [e2];exact Heap.get?_push_size _ rfl,rfl,rfl⟩ (by rw [e2];exact dd.push _) ?_
  refine ⟨s2.heap.objs.size,[s2.heap.objs.size],_,_,H1,rfl,I2.kept (t':=s2.toks) fun b o e=>Heap.get?_push_of_some _ e,turn_items hd,⟨_,_,by rw [hl];exact Heap.get?_push_size _ rfl⟩,fun b hb=>?_,q⟩
  rw [List.mem_singleton.mp hb]
  exact I2.fpOk (Nat.le_refl _) (I2.hok.fresh (Nat.le_refl _))
end L2
namespace FL
open PySem PySem.Spec PyProof.Rows L2
noncomputable def kdD:KD→D
  | .int i=>.int i
  | .str x=>.str x
  | .tup l=>.tup (l.map fun k=>match k with | .inl i=>.int i | .inr x=>.str x)
theorem kdD_K {K:PySem.W.Frag}{F:Hp} (k:Key):Dat K F (kdD (kdK k)) (kV k):=by
  cases k with
  | inl i=>exact Dat.int i
  | inr x=>exact Dat.str x
noncomputable def itKs:D→Option (List D)
  | .dic ks _=>if kOk ks=true then some (ks.map kdD) else none
  | _=>none
noncomputable def itIs:D→Option (List D)
  | .dic ks ds=>if kOk ks=true then some (List.zipWith (fun k d=>.tup [kdD k,d]) ks ds) else none
  | _=>none
noncomputable def cKs (f:En→Option D):En→Option (List D):=fun ρ=>(f ρ).bind itKs
noncomputable def cIs (f:En→Option D):En→Option (List D):=fun ρ=>(f ρ).bind itIs
section
variable {K:PySem.W.Frag}{X:Cx} {pos:Pos}{tg l:Expr} {f:En→Option D}
theorem dicF_k {F:Hp}{a:Addr} {ks:List KD}{vs:List V} (h:DicF F a ks vs) (hk:∀ l,KD.tup l∉ks):∃ o kvs,F a=some (.frz o (.dK kvs))∧ks=kds kvs∧vs=kvs.map (·.2):=by
  obtain ⟨o,⟨kvs,h,e1,e2⟩ | ⟨kvs,h,⟨e1,e3⟩,e2⟩⟩:=h
  · exact ⟨o,kvs,h,e1,e2⟩
  · cases kvs with
    | nil=>exact absurd rfl e3
    | cons p r=>exact absurd (by rw [e1];simp) (hk p.1)
theorem ikeys (h:FP K .fz X l f):FI K X tg l (cKs f):=FI.mk fun ρ ds hf=>by
  unfold cKs at hf
  cases e1:f ρ with
  | none=>rw [e1] at hf;cases hf
  | some d=>
    rw [e1] at hf
    have hf:itKs d=some ds:=hf
    cases d<;>simp only [itKs] at hf<;>try (cases hf;done)
    obtain ⟨hk,rfl⟩:=ite_some hf
    refine PI.imp (pi_keys (h.h ρ _ e1)) fun σ H R ⟨F,r,q⟩=>⟨F,r,fun v F1 H1 g1 r1=>?_⟩
    obtain ⟨a,vs,rfl,f1,q1⟩:=Dat.dic_inv (K:=K) (F:=F1) r1
    obtain ⟨o,kvs,f2,rfl,rfl⟩:=dicF_k f1 (kOk_no hk)
    refine ⟨a,o,kvs,rfl,g1.fh _ _ f2,q _ F1 H1 g1 fun F2 H2 s2 h2=>⟨fun i hi=>⟨h2 _ _ (s2 _ _ f2),by simpa [kds] using hi⟩,fun i x H3 d hd y=>?_,⟨h2 _ _ (s2 _ _ f2),by simp [kds]⟩⟩⟩
    obtain ⟨rfl,p,e2,rfl⟩:=y
    unfold kds at hd
    rw [List.map_map,List.getElem?_map,e2] at hd
    cases hd
    exact ⟨F2,Grow.refl h2,kdD_K p.1⟩
theorem iitems {elts:List Expr}{x1:Nat} {tp apos cpos:Pos}(h:FP K .fz X l f) (hbase:attributeBase l "items" X.env (eval l X.env)=eval l X.env:=by rfl) (hline:(apos.endLine == cpos.line)=true:=by rfl) :
    FI K X (.Tuple elts x1 tp) (.Call (.Attribute l "items" apos) [] [] cpos) (cIs f):=FI.mk fun ρ ds hf=>by
  unfold cIs at hf
  cases e1:f ρ with
  | none=>rw [e1] at hf;cases hf
  | some d=>
    rw [e1] at hf
    have hf:itIs d=some ds:=hf
    cases d<;>simp only [itIs] at hf<;>try (cases hf;done)
    rename_i ks es _
    obtain ⟨hk,rfl⟩:=ite_some hf
    refine PI.imp (pi_items (h.h ρ _ e1) hbase hline) fun σ H R ⟨F,r,q⟩=>⟨F,r,fun v F1 H1 g1 r1=>?_⟩
    obtain ⟨a,vs,rfl,f1,q1⟩:=Dat.dic_inv (K:=K) (F:=F1) r1
    obtain ⟨o,kvs,f2,rfl,rfl⟩:=dicF_k f1 (kOk_no hk)
    have hl:=q1.length
    rw [List.length_map] at hl
    have hz:(List.zipWith (fun k d=>D.tup [kdD k,d]) (kds kvs) es).length=kvs.length:=by simp [kds,hl]
    refine ⟨a,o,kvs,rfl,g1.fh _ _ f2,q _ F1 H1 g1 fun F2 H2 s2 h2=>⟨fun i hi=>⟨h2 _ _ (s2 _ _ f2),by rw [hz] at hi;exact hi⟩,fun i x H3 d hd y=>?_,⟨h2 _ _ (s2 _ _ f2),hz⟩⟩⟩
    obtain ⟨p,b,hb,rfl,e2,rfl⟩:=y
    obtain ⟨dv,e3,e4⟩:=q1.get' (i:=i) (v:=p.2) (by rw [List.getElem?_map,e2];rfl)
    have hd':d=.tup [kdD (kdK p.1),dv]:=by
      rw [List.getElem?_zipWith,e3] at hd
      unfold kds at hd
      rw [List.getElem?_map,e2] at hd
      exact (Option.some.inj hd).symm
    subst hd'
    have g:=Grow.frozen (o:=.tup [kV p.1,p.2]) h2 hb
    exact ⟨_,g,Dat.tup upd_same (DatL.cons (kdD_K p.1) (DatL.cons (e4.mono (s2.trans g.ff)) DatL.nil))⟩
end
end FL
set_option Elab.async false
set_option linter.all false
set_option maxRecDepth 100000
namespace L2
open PySem PySem.Spec PyProof.Rows
section
variable {X:Cx}{pins:List (Addr×Obj)} {σ:St}{N:List Str} {cap:List (Option Nat)}{scope:Scope} {tg iter kx vx:Expr}{ifs:List Expr} {pos:Pos}{g:TG} {tt:TT}{tk tv:TE}
noncomputable def actD (kx vx:Expr):Value→Env→Sem Unit:=fun acc env=>match acc with
  | .ref D=>do
    let kv ← eval kx env
    let vv ← holding [kv] (eval vx env)
    standAt { kx.pos with endLine:=vx.pos.endLine,endCol:=vx.pos.endCol }
    holding [kv,vv] (dictSet D kv vv)
  | _=>pure ()
theorem ck_dict:CompKind X (.DictComp kx vx [⟨tg,iter,ifs,0⟩] scope pos) tg iter ifs newDict (actD kx vx) (.dK []) where
  new:=fun pins σ H s Q E I h=>wpAny_newObj_type (h _ (I.laid (a:=s.heap.objs.size) (o:=.dK []) (t':=s.toks) (fun _ _ q=>Heap.get?_push_of_some _ q) (Nat.le_refl _) (dk_empty s.heap I.big)))
  turn:=fun it D env=>by rw [compTurn_dict];rfl
  loop:=fun A it D env Q E s h=>h
  start:=fun h0 h=>codeAny_compStart_dict h0 h
noncomputable def taD (tk tv:TE) (D:Addr):TAct:=fun σ H Q=>tk σ H fun x H1=>tv σ H1 fun v H2=>∃ k kvs,x=kV k∧H2 D=some (.dK kvs)∧kvs.length < sizeLine∧Q (upd H2 D (.dK (putK kvs k v)))
theorem pact_dict {Y:Cx}(hk:PE Y kx tk) (hv:PE Y vx tv) (D:Addr):PAct Y (actD kx vx) D (taD tk tv D):=by
  intro pins s σ H Q I h
  show wpAny _ _ (eval kx Y.env >>= _) _ _ _
  refine wpAny_bind (thn (hk pins s σ H _ I h) fun u s1 ⟨x,H1,I1,r1,q1⟩=>?_)
  refine wpAny_bind (wpAny_holding (thn (hv pins s1 σ H1 _ I1 q1) fun w s2 ⟨v,H2,I2,r2,k,kvs,ex,e,hl,q⟩=>?_))
  subst ex
  refine wpAny_bind (wpAny_standAt (wpAny_holding ?_))
  obtain ⟨z,hd,vs,rel,dd⟩:=dk_of I2.hok e
  have hz:vs.length≤sizeLine:=by rw [← rel.length];exact z
  have hl':(putK kvs k v).length≤sizeLine:=by have:=length_putK kvs k v;omega
  refine wpAny_dictSet_pairs (hsz:=hz) (kV_is r1) dd fun h' dd' hs=>⟨_,?_,q⟩
  have he:∃ q,h'.get? D=some q:=let ⟨q,_,_,hq,_⟩:=dd';⟨q,hq⟩
  exact d_write I2 (by rw [e];exact True.intro) hs he (dk_new hl' hd (rel.put k r2) dd')
end
end L2
namespace FL
open PySem PySem.Spec PyProof.Rows L2
noncomputable def compDM (g:D→En→Option En) (t:En→Option Bool) (fk fv:En→Option D) (ρi:En):List D→List KD×List D→Option (List KD×List D)
  | [],acc=>some acc
  | x::xs,acc=>(g x ρi).bind fun ρ1=>(t ρ1).bind fun b=>if b=true then (fk ρ1).bind fun y=>(keyD y).bind fun k=>(fv ρ1).bind fun d=>compDM g t fk fv ρi xs (putD acc.1 acc.2 (kdK k) d) else compDM g t fk fv ρi xs acc
noncomputable def compDE (cap:List (Option Nat)) (fi:En→Option (List D)) (g:D→En→Option En) (t:En→Option Bool) (fk fv:En→Option D):En→Option D:=fun ρ=>(fi ρ).bind fun ds=>if ds.length≤lim then (compDM g t fk fv (st0E cap ρ) ds ([],[])).map fun p=>.dic p.1 p.2 else none
section
variable {K:PySem.W.Frag}{md:Md} {X:Cx}{pos:Pos} {tg iter kx vx:Expr}{ifs:List Expr} {scope:Scope}
theorem comp_rdD {cap:List (Option Nat)}{g:D→En→Option En} {t:En→Option Bool}{fk fv:En→Option D} {ρ:En}{ds:List D} {rs:List KD×List D}{σ:St} {H F:Hp}{Q:VK} (hm:compDM g t fk fv (st0E cap ρ) ds ([],[])=some rs) (hn:ds.length≤lim)
    (r:Rel K F H ρ σ) (q:∀ v F' H',Grow F H F' H'→Res K .ow H F' H' (.dic rs.1 rs.2) v→Q v H') {J:It}{F1 H1:Hp} (g1:Grow F H F1 H1) (ok:IterOk K J F1 ds) :
    wCompG J (fun v σ H Q=>∃ i:{ q:En×D×En // g q.2.1 q.1=some q.2.2 },rdG K i.1.1 i.1.2.1 i.1.2.2 v σ H Q) (fun σ H Q=>∃ i:{ q:En×Bool // t q.1=some q.2 },rdTp K i.1.1 i.1.2 σ H Q)
      (taD (fun σ H Q=>∃ i:{ q:En×D // fk q.1=some q.2 },rdE K .fz i.1.1 i.1.2 σ H Q) (fun σ H Q=>∃ i:{ q:En×D // fv q.1=some q.2 },rdE K .fz i.1.1 i.1.2 σ H Q)) (.dK []) cap σ H1 Q:=by
  intro a ha
  refine ⟨fun i m H2=>∃ acc,i≤ds.length∧m=ds.length - i∧∃ F2 done,Grow F H F2 H2∧Same F1 F2∧(∀ b o,H1 b=some o→H2 b=some o)∧F2 a=none∧H2 a=some (.dK acc)∧DatL K F2 done (acc.map (·.2))∧acc.length≤i∧compDM g t fk fv (st0E cap ρ) (ds.drop i) (kds acc,done)=some rs,
    ⟨ds.length,[],Nat.zero_le _,rfl,F1,[],⟨g1.ff,g1.hh.trans (same_new ha _),g1.fh.trans (same_new ha _),g1.nw⟩,Same.refl _,fun b o e=>same_new ha _ _ _ e,g1.fh.free ha,upd_same,DatL.nil,Nat.zero_le _,hm⟩,?_⟩
  rintro i m H2 ⟨acc,hi,rfl,F2,done,g2,ff,hh,fa,hd,da,al,e1⟩
  obtain ⟨o1,o2,o3⟩:=ok F2 H2 ff g2.fh
  by_cases hlt:i < ds.length
  · refine .inr ⟨o1 i hlt,fun x H3 y=>?_⟩
    obtain ⟨F3,g3,d3⟩:=o2 i x H3 _ (List.getElem?_eq_getElem hlt) y
    rw [List.drop_eq_getElem_cons hlt] at e1
    simp only [compDM] at e1
    have g23:=g2.trans g3
    have hd3:=g3.hh _ _ hd
    have fa3:=g3.nw a _ hd fa
    cases e3:g ds[i] (st0E cap ρ) with
    | none=>rw [e3] at e1;cases e1
    | some ρ1=>
      simp only [e3,Option.bind_some] at e1
      refine ⟨⟨(st0E cap ρ,ds[i],ρ1),e3⟩,F3,(r.grow g23).inner,d3,fun σ2 r2 _=>?_⟩
      cases e4:t ρ1 with
      | none=>rw [e4] at e1;cases e1
      | some b=>
        simp only [e4,Option.bind_some] at e1
        refine ⟨⟨(ρ1,b),e4⟩,F3,r2,fun F4 H4 g4=>?_⟩
        have g24:=g23.trans g4
        have hd4:=g4.hh _ _ hd3
        have fa4:=g4.nw a _ hd3 fa3
        have ff4:Same F1 F4:=ff.trans (g3.ff.trans g4.ff)
        have hh4:∀ c o,H1 c=some o→H4 c=some o:=fun c o e=>g4.hh _ _ (g3.hh _ _ (hh c o e))
        cases b with
        | false=>
          rw [if_neg Bool.false_ne_true] at e1
          exact iteF ⟨ds.length - (i + 1),by omega,acc,hlt,rfl,F4,done,g24,ff4,hh4,fa4,hd4,da.mono (g3.ff.trans g4.ff),by omega,e1⟩
        | true=>
          rw [if_pos rfl] at e1
          refine iteT ?_
          cases e5:fk ρ1 with
          | none=>rw [e5] at e1;cases e1
          | some y=>
            simp only [e5,Option.bind_some] at e1
            cases e6:keyD y with
            | none=>rw [e6] at e1;cases e1
            | some k=>
              simp only [e6,Option.bind_some] at e1
              cases e7:fv ρ1 with
              | none=>rw [e7] at e1;cases e1
              | some d=>
                simp only [e7,Option.bind_some] at e1
                refine ⟨⟨(ρ1,y),e5⟩,F4,r2.grow g4,fun u F5 H5 g5 d5=>⟨⟨(ρ1,d),e7⟩,F5,(r2.grow g4).grow g5,fun v F6 H6 g6 d6=>?_⟩⟩
                have eu:=keyD_some (K:=K) e6 d5
                subst eu
                have g46:=g5.trans g6
                have g26:=g24.trans g46
                have hd6:=g46.hh _ _ hd4
                have fa6:=g46.nw a _ hd4 fa4
                have haH:H a=none:=g1.hh.free ha
                obtain ⟨p1,p2⟩:=put_rel k d6 acc done (da.mono (g3.ff.trans (g4.ff.trans g46.ff)))
                have pl:=length_putK acc k v
                refine ⟨k,acc,rfl,hd6,lim_lt (by omega),ds.length - (i + 1),by omega,_,hlt,rfl,F6,_,?_,ff4.trans g46.ff,fun c o e=>?_,fa6,upd_same,p2,by omega,?_⟩
                · refine ⟨g26.ff,fun c o e=>?_,fun c o e=>?_,g26.nw⟩
                  · rw [upd_ne (ne_of_none e haH)];exact g26.hh _ _ e
                  · rw [upd_ne (ne_of_none e fa6)];exact g26.fh _ _ e
                · rw [upd_ne (ne_of_none e ha)];exact g46.hh _ _ (hh4 c o e)
                · rw [← p1];exact e1
  · have e:i=ds.length:=by omega
    subst e
    rw [List.drop_length] at e1
    have e1:some (kds acc,done)=some rs:=e1
    cases e1
    exact .inl ⟨o3,q _ F2 H2 g2 ⟨a,rfl,g1.hh.free ha,fa,_,.inl ⟨acc,hd,rfl,rfl⟩,da⟩⟩
theorem compDE_some {cap:List (Option Nat)}{fi:En→Option (List D)} {g:D→En→Option En}{t:En→Option Bool} {fk fv:En→Option D}{ρ:En} {d:D}(h:compDE cap fi g t fk fv ρ=some d):∃ ds rs,fi ρ=some ds∧ds.length≤lim∧compDM g t fk fv (st0E cap ρ) ds ([],[])=some rs∧d=.dic rs.1 rs.2:=by
  unfold compDE at h
  cases e1:fi ρ with
  | none=>rw [e1] at h;cases h
  | some ds=>
    rw [e1] at h
    simp only [Option.bind_some] at h
    split at h
    · rename_i hz
      cases e2:compDM g t fk fv (st0E cap ρ) ds ([],[]) with
      | none=>rw [e2] at h;cases h
      | some rs=>rw [e2] at h;cases h;exact ⟨ds,rs,rfl,hz,e2,rfl⟩
    · cases h
theorem ssetCD (k:Nat) {y:Str}{py spos:Pos} {fi:En→Option (List D)}{g:D→En→Option En} {t:En→Option Bool}{fk fv:En→Option D} (N:List Str) (cap:List (Option Nat)) (cp:Cap X scope N cap) (hc:X.calm=true) (hN:X.N.Nodup) (hi:FI K X tg iter fi)
    (hg:∀ C s0 H0 fp,FG K (cxComp X N scope (clOf X.env scope.names []) C s0 H0 fp) tg g) (ht:∀ C s0 H0 fp,rdIf K (cxComp X N scope (clOf X.env scope.names []) C s0 H0 fp) ifs t) (hkx:∀ C s0 H0 fp,FP K .fz (cxComp X N scope (clOf X.env scope.names []) C s0 H0 fp) kx fk) (hv:∀ C s0 H0 fp,FP K .fz (cxComp X N scope (clOf X.env scope.names []) C s0 H0 fp) vx fv)
    (hk:X.N[k]?=some y:=by rfl) (hy:Loc X.env.scope y:=by first | exact Or.inl rfl | exact Or.inr rfl) (S:CompSc X scope:=by exact CompSc.mk') (hs:∀ x,foldedSetIterable iter X.env x=pure x:=by intro _;rfl)
    (hsw:swapsWith (.DictComp kx vx [⟨tg,iter,ifs,0⟩] scope pos) (some (.Name y py)) spos.line X.env=pure true:=by rfl)
    (hf:X.fn y=true∨X.env.scope.names.lookup y=some .local:=by first | exact .inl rfl | exact .inr rfl | assumption) :
    FS K md X (.Assign [.Name y py] (.DictComp kx vx [⟨tg,iter,ifs,0⟩] scope pos) spos) (setO k (compDE cap fi g t fk fv)):=FS.mk fun ρ fl hm=>by
  unfold setO at hm
  split at hm
  · rename_i nb
    cases e0:compDE cap fi g t fk fv ρ with
    | none=>rw [e0] at hm;cases hm
    | some d=>
      rw [e0] at hm;cases hm
      obtain ⟨ds,rs,e1,hz,e2,rfl⟩:=compDE_some e0
      refine PS.imp (ps_setCompG ck_dict N cap cp hc hN hk hy (hi.h ρ ds e1) (fun C s0 H0 fp=>PG.any fun i:{ q:En×D×En // g q.2.1 q.1=some q.2.2 }=>(hg C s0 H0 fp).h _ _ _ i.2) (fun C s0 H0 fp=>PIf.any fun i:{ q:En×Bool // t q.1=some q.2 }=>(ht C s0 H0 fp).h _ _ i.2)
        (fun C s0 H0 fp D0=>pact_dict (PE.any fun i:{ q:En×D // fk q.1=some q.2 }=>(hkx C s0 H0 fp).h _ _ i.2) (PE.any fun i:{ q:En×D // fv q.1=some q.2 }=>(hv C s0 H0 fp).h _ _ i.2) D0) S hs rfl (fun _=>rfl) hsw hf) fun D σ H ⟨F,r,q⟩=>?_
      refine ⟨F,r,fun J F1 H1 g1 ok=>comp_rdD e2 hz r (fun v F2 H2 g2 ⟨a,ev,h1,h2,h3⟩=>?_) g1 ok⟩
      subst ev
      have s1:=g2.step (ρ:=ρ) (σ:=σ)
      refine q _ F2 H2 (r.setO g2 h1 h2 h3 (noBor_own nb)) ⟨s1.ff,s1.rest,fun b z=>?_,pin_set (fun d h=>by cases h),s1.fh⟩
      rcases owned_set z with ⟨_,_,_,z⟩ | z
      · cases z;exact .inl h1
      · exact .inr z
  · cases hm
end
end FL
set_option Elab.async false
set_option linter.all false
set_option maxRecDepth 100000
namespace HT
open PySem PySem.Spec PyProof.Rows PySem.Calls
end HT
namespace L2
open PySem PySem.Spec PyProof.Rows
section
variable {X:Cx}
end
end L2
namespace FL
open PySem PySem.Spec PyProof.Rows L2
noncomputable def repD:D→D→Option D
  | .tup [d],.int k=>if 0≤k∧k≤3 then some (.tup (List.replicate k.toNat d)) else none
  | _,_=>none
section
variable {K:PySem.W.Frag}{X:Cx} {md:Md}{pos:Pos}
noncomputable def parM (i j:Nat) (fs:En→Option (List D)):En→Option Fl:=fun ρ=>match fs ρ with
  | some [x,y]=>some (.nx ((ρ.set i (some (.dat x))).set j (some (.dat y))))
  | _=>none
theorem spar (i j:Nat) {x y:Str}{a b:Expr} {fs:En→Option (List D)}{px py pt:Pos} {kt k2 pt2} (hc:X.calm=true) (hN:X.N.Nodup) (ha:FPs K true X [a,b] fs) (hij:i≠j:=by decide) (hi:X.N[i]?=some x:=by rfl) (hj:X.N[j]?=some y:=by rfl)
    (hx:X.env.scope.names.lookup x=some .local:=by rfl) (hy:X.env.scope.names.lookup y=some .local:=by rfl)
    (hw:swappedStores [.Tuple [.Name x px,.Name y py] kt pt] (.Tuple [a,b] k2 pt2) X.env=pure (some [x,y]):=by rfl)
    (hs:swapsWithSole [.Tuple [.Name x px,.Name y py] kt pt] (.Tuple [a,b] k2 pt2) pos.line X.env=pure false:=by rfl) :
    FS K md X (.Assign [.Tuple [.Name x px,.Name y py] kt pt] (.Tuple [a,b] k2 pt2) pos) (parM i j fs):=FS.mk fun ρ fl hm=>by
  unfold parM at hm
  split at hm
  · rename_i d1 d2 e1
    cases hm
    refine PS.imp (ps_par hc hN hi hj hij hx hy (ha.h ρ _ e1) hw hs) fun D σ H ⟨F,r,q⟩=>⟨F,r,fun vs F1 H1 g1 r1=>?_⟩
    obtain ⟨v,w,rfl,h1,h2⟩:=DatL.two (show DatL K F1 [d1,d2] vs from r1)
    have s1:=g1.step (ρ:=ρ) (σ:=σ)
    exact ⟨v,w,rfl,q _ F1 H1 (((r.grow g1).setD h1).setD h2) (s1.kp (Kp.setD.trans Kp.setD))⟩
  · cases hm
end
end FL
set_option Elab.async false
set_option linter.all false
set_option maxRecDepth 100000
namespace FL
open PySem PySem.Spec PyProof.Rows L2
section
variable {P:Program}{w:World} {K:PySem.W.Frag}{mg:Str→Option Value} {base:Heap}{X:Cx} {k j:Nat}{ps:List Str} {x:Str}
theorem xcall3 (i:Nat) {y:Str}{p1 p pos:Pos} {e e' e2':Expr}{fe fe' fe2:En→Option D} {m:D→List D→Option (D×D)}{jj:Nat} (G:FkX X.prog X.w X.K X.mg X.base x ps 3 k m) (hr:Room jj X.A) (he:FP K .fz X e fe) (he':FP K .fz X e' fe') (he2:FP K .fz X e2' fe2) (hle:k≤jj:=by first | decide | omega) (hg:Gl X x:=by rfl) (hK:X.K=K:=by rfl)
    (hN:X.N[i]?=some y:=by rfl) (hv:Vis X.env.scope y:=by first | exact Or.inl rfl | exact Or.inr (Or.inl rfl) | exact Or.inr (Or.inr rfl)) (hd:(y == ("__debug__" : Str))=false:=by decide) (hcd:(y == ("__classdict__" : Str))=false:=by decide)
    (hs:starEach [.Name y p1] X.env=(false,eval (.Name y p1) X.env)::starEach [] X.env:=by rfl)
    (hs2:starEach [e2',.Name y p1] X.env=(false,eval e2' X.env)::starEach [.Name y p1] X.env:=by rfl)
    (hs1:starEach [e',e2',.Name y p1] X.env=(false,eval e' X.env)::starEach [e2',.Name y p1] X.env:=by rfl) (hs0:starEach [e,e',e2',.Name y p1] X.env=(false,eval e X.env)::starEach [e',e2',.Name y p1] X.env:=by rfl)
    (H1:∀ {f:Addr}{fd:FuncData} {t:TA},FnOk X.prog X.w X.K X.mg X.base CX0 k f fd ps (SpX K 3 m)→Room k X.A→Gl X x→X.mg x=some (.ref f)→PySem.W.keepIn X.K (.ref f)=true→Binds X.K fd ps []→PA X [e,e',e2',.Name y p1] t→PE X (.Call (.Name x p) [e,e',e2',.Name y p1] [] pos) (tCall (SpX K 3 m) [] E0 t):=by
      exact fun F hr hg hm hk hb ha=>pe_call F hr hg hm hk hb .nil pass0 ha) :
    FX K X (.Call (.Name x p) [e,e',e2',.Name y p1] [] pos) (callX m i (consF fe (consF fe' (consF fe2 nilF)))):=FX.mk fun ρ d ρ' hf=>by
  subst hK
  obtain ⟨pp,c,ds,c',e1,e2,e3,rfl⟩:=callX_some hf
  obtain ⟨d1,l,e4,e5,rfl⟩:=consF_some e2
  obtain ⟨d2,l2,e6,e7,rfl⟩:=consF_some e5
  obtain ⟨d3,l3,e8,e9,rfl⟩:=consF_some e7
  have e9:some []=some l3:=e9
  cases e9
  obtain ⟨f,fd,F,hb,hk,hm⟩:=G.ex
  refine PE.imp (H1 F (hr.mono hle) hg hm hk hb (pa_cons (he.h ρ d1 e4) (pa_cons (he'.h ρ d2 e6) (pa_cons (he2.h ρ d3 e8) (pa_cons (pe_var hN hv hd hcd) pa_nil hs) hs2) hs1) hs0)) fun σ H Q h_=>?_
  obtain ⟨Fz,r,q⟩:=h_
  refine ⟨Fz,r,fun v F1 H1 g1 r1=>⟨F1,r.grow g1,fun u F2 H2 g2 r2=>⟨F2,(r.grow g1).grow g2,fun z F3 H3 g3 r3=>?_⟩⟩⟩
  have rg:=((r.grow g1).grow g2).grow g3
  obtain ⟨a,h1,h2,h3⟩:=rg.own i pp c e1
  refine ⟨_,h1,F3,a,[v,u,z],[d1,d2,d3],c,d,c',rfl,Nat.le_refl _,g3.fh,h2,h3,DatL.cons (Dat.mono (g2.ff.trans g3.ff) r1) (DatL.cons (Dat.mono g3.ff r2) (DatL.cons r3 DatL.nil)),e3,fun v' F' H' ch ho hd'=>?_⟩
  obtain ⟨x1,x2⟩:=rg.chg e1 h1 ch ho
  exact q v' F' H' x1 ((g1.trans (g2.trans g3)).step.trans x2 r.sub) hd'
end
end FL
set_option Elab.async false
set_option linter.all false
set_option maxRecDepth 100000
namespace FL
open PySem PySem.Spec PyProof.Rows L2
noncomputable abbrev lb__law_words_1 (n:Nat):En→Option Fl:=
  (seqM (setM 3 (c2 addD (gb 3) (c2 idxD (gb 1) (c2 modD (c2 divD (gb 2) (cst (.int 7))) (cst (.int 26)))))) (setM 2 (c2 divD (gb 2) (cst (.int 11)))))
noncomputable abbrev ce__law_words_2 (n:Nat):En→Option D:=
  (c2 idxD (gb 1) (c2 modD (c2 divD (gb 2) (c2 addD (cst (.int 3)) (c2 mulD (gb 0) (gb 0)))) (cst (.int 26))))
noncomputable abbrev ce__law_words_3 (n:Nat):En→Option D:=
  (cS sliceD (gb 1) oNone (oSome (c2 addD (gb 0) (cst (.int 1)))))
noncomputable abbrev ce__law_words_4 (n:Nat):En→Option D:=
  (c2 addD (c2 addD (cS sliceD (gb 1) oNone (oSome (gv 3))) (c2 idxD (gb 2) (c2 modD (c2 addD (c2 divD (gb 4) (cst (.int 5))) (c2 mulD (cst (.int 5)) (gb 0))) (cst (.int 26))))) (cS sliceD (gb 1) (oSome (gv 3)) oNone))
noncomputable abbrev mb__law_words (n:Nat):En→Option Fl:=
  (seqM (setM 1 (cst (.str "abcdefghijklmnopqrstuvwxyz"))) (seqM (setM 2 (c2 modD (c2 mulD (gb 0) (cst (.int 1000000007))) (c2 powD (cst (.int 10)) (cst (.int 18))))) (seqM (setM 3 (cst (.str ""))) (seqM (forS (cR1 (c2 modD (gb 2) (cst (.int 7)))) (gN 4) (lb__law_words_1 n)) (seqM (setM 5 (c2 modD (c2 divD (gb 2) (cst (.int 7))) (c2 addD (cL lenD (consF (gb 3) nilF)) (cst (.int 1))))) (seqM (ifM (upT (cT (c2 eqB (c2 modD (gb 2) (cst (.int 3))) (cst (.int 0))))) (seqM (setM 3 (c2 joinD (cst (.str "")) (compE [none,some 1,some 2] (cR1 (cst (.int 6))) (gN 0) yesP (ce__law_words_2 n)))) (retM (compE [none,some 3] (cR1 (cst (.int 5))) (gN 0) yesP (ce__law_words_3 n)))) nxM) (retM (compE [none,some 3,some 1,some 5,some 2] (cR1 (cst (.int 5))) (gN 0) yesP (ce__law_words_4 n)))))))))
noncomputable def m__law_words:List D→Option D:=runF (mb__law_words  FUEL) 1 6
noncomputable abbrev ce__law_sorts_1 (m__law_words:List D→Option D) (n:Nat):En→Option D:=
  (cL mkTup (consF (c2 idxD (gb 1) (gb 0)) (consF (c2 idxD (gb 2) (gb 0)) nilF)))
noncomputable abbrev mb__law_sorts (m__law_words:List D→Option D) (n:Nat):En→Option Fl:=
  (seqM (setM 1 (cL m__law_words (consF (gv 0) nilF))) (seqM (setM 2 (c2 idxD (cL mkLst (consF (cL mkLst (consF (cst (.int 0)) (consF (cst (.int 2)) (consF (cst (.int 1)) (consF (cst (.int 0)) (consF (cst (.int 3)) nilF)))))) (consF (cL mkLst (consF (cst (.int 0)) (consF (cst (.int 1)) (consF (cst (.int 2)) (consF (cst (.int 2)) (consF (cst (.int 0)) nilF)))))) (consF (cL mkLst (consF (cst (.int 0)) (consF (cst (.int 3)) (consF (cst (.int 1)) (consF (cst (.int 1)) (consF (cst (.int 0)) nilF)))))) (consF (cL mkLst (consF (cst (.int 0)) (consF (cst (.int 2)) (consF (cst (.int 0)) (consF (cst (.int 1)) (consF (cst (.int 1)) nilF)))))) nilF))))) (c2 modD (c2 divD (gb 0) (cst (.int 3))) (cst (.int 4))))) (seqM (setM 3 (c2 addD (cst (.int 2)) (c2 modD (c2 divD (gb 0) (cst (.int 12))) (cst (.int 4))))) (retM (compE [none,some 1,some 2] (cR1 (gv 3)) (gN 0) yesP (ce__law_sorts_1 m__law_words n))))))
noncomputable def m__law_sorts:List D→Option D:=runF (mb__law_sorts m__law_words FUEL) 1 4
noncomputable abbrev mb__law_cell (n:Nat):En→Option Fl:=
  (seqM (ifM (upT (cT (c2 ltD (gb 1) (cL lenD (consF (gb 0) nilF))))) (retM (c2 idxD (gb 0) (gb 1))) nxM) (retM (cst (.int 0))))
noncomputable def m__law_cell:List D→Option D:=runF (mb__law_cell  FUEL) 2 2
noncomputable abbrev ce__law_grown_1 (n:Nat):En→Option D:=
  (c2 idxD (gb 0) (cst (.int 1)))
noncomputable abbrev ce__law_grown_2 (n:Nat):En→Option D:=
  (c2 idxD (gb 0) (cst (.int 0)))
noncomputable abbrev mb__law_grown (n:Nat):En→Option Fl:=
  (seqM (asgM (c2 idxD (gb 2) (c2 modD (gb 1) (cL lenD (consF (gb 2) nilF)))) (gTup (gCons (gN 5) (gCons (gN 6) gNil)))) (seqM (setM 1 (c2 divD (gb 1) (cst (.int 20)))) (seqM (setM 7 (cS sliceD (gb 0) (oSome (c2 subD (cL lenD (consF (gb 0) nilF)) (gb 6))) oNone)) (seqM (setM 8 (c2 maxDD (compE [none] (cI (gv 7)) (gN 0) yesP (ce__law_grown_1 n)) (cst (.int 0)))) (seqM (ifM (upT (andP (cT (c2 gtD (gb 6) (cst (.int 0)))) (andP (cT (c2 leD (gb 6) (cL lenD (consF (gb 0) nilF)))) (andP (cT (c2 ltD (gb 8) (gb 4))) (cT (c2 gtD (c2 modD (gb 1) (cst (.int 4))) (cst (.int 0)))))))) (retM (c2 catD (cS sliceD (gb 0) oNone (oSome (c2 subD (cL lenD (consF (gb 0) nilF)) (gb 6)))) (cL mkLst (consF (cL mkLst (consF (c2 addD (cL mkTup (consF (gv 5) nilF)) (cL tupleD (consF (compE [none] (cI (gv 7)) (gN 0) yesP (ce__law_grown_2 n)) nilF))) (consF (c2 addD (gb 8) (cst (.int 1))) nilF))) nilF)))) nxM) (seqM (ifM (upT (orP (cT (c2 eqB (gb 3) (cL mkLst nilF))) (cT (c2 eqB (c2 modD (c2 divD (gb 1) (cst (.int 4))) (cst (.int 3))) (cst (.int 0)))))) (retM (c2 catD (gb 0) (cL mkLst (consF (cL mkLst (consF (cL mkTup (consF (c2 idxD (c2 idxD (gb 2) (cst (.int 0))) (cst (.int 0))) nilF)) (consF (cst (.int 1)) nilF))) nilF)))) nxM) (retM (c2 catD (gb 0) (cL mkLst (consF (cL mkLst (consF (c2 idxD (gb 3) (c2 modD (c2 divD (gb 1) (cst (.int 12))) (cL lenD (consF (gb 3) nilF)))) (consF (cst (.int 1)) nilF))) nilF))))))))))
noncomputable def m__law_grown:List D→Option D:=runF (mb__law_grown  FUEL) 5 9
noncomputable abbrev ce_count01_1 (m__law_count:List D→Option D) (n:Nat):En→Option D:=
  (cL m__law_count (consF (gv 0) nilF))
noncomputable abbrev mb_count01 (m__law_count:List D→Option D) (n:Nat):En→Option Fl:=
  (seqM (ifM (upT (cT (c1 (isiD "str") (gb 0)))) (retM (cst (.int 1))) nxM) (retM (c2 addD (cst (.int 1)) (cL sumD (consF (compE [none] (cI (cS sliceD (gb 0) (oSome (cst (.int 1))) oNone)) (gN 0) yesP (ce_count01_1 m__law_count n)) nilF)))))
noncomputable def m_count01_n:Nat→List D→Option D
  | 0=>fun _=>none
  | n + 1=>runF (mb_count01 (m_count01_n n) FUEL) 1 1
noncomputable def m_count01:List D→Option D:=m_count01_n 100
noncomputable abbrev mb_is_blank (n:Nat):En→Option Fl:=
  (retM (c1 (isiD "str") (gb 0)))
noncomputable def m_is_blank:List D→Option D:=runF (mb_is_blank  FUEL) 1 1
noncomputable abbrev mb_inner_parts (m_is_blank:List D→Option D) (n:Nat):En→Option Fl:=
  (seqM (ifM (upT (cT (cL m_is_blank (consF (gv 0) nilF)))) (retM (cL mkTup nilF)) nxM) (retM (cS sliceD (gb 0) (oSome (cst (.int 1))) oNone)))
noncomputable def m_inner_parts:List D→Option D:=runF (mb_inner_parts m_is_blank FUEL) 1 1
noncomputable abbrev ce_placed_parts_1 (m_inner_parts:List D→Option D) (n:Nat):En→Option D:=
  (cL mkTup (consF (c2 addD (gb 2) (cL mkTup (consF (gv 0) nilF))) (consF (gv 1) nilF)))
noncomputable abbrev lb_placed_parts_2 (m_inner_parts:List D→Option D) (n:Nat):En→Option Fl:=
  (seqM (asgX (popM 2) (gTup (gCons (gN 3) (gCons (gN 4) gNil)))) (seqM (dropX (appM 1 (cL mkTup (consF (gv 3) (consF (gv 4) nilF))))) (seqM (setM 5 (compE [none,none,some 3] (cEnT (cL m_inner_parts (consF (gv 4) nilF))) (gTup (gCons (gN 0) (gCons (gN 1) gNil))) yesP (ce_placed_parts_1 m_inner_parts n))) (dropX (extM 2 (c2 revX (gb 5) (c1 negD (cst (.int 1)))))))))
noncomputable abbrev mb_placed_parts (m_inner_parts:List D→Option D) (n:Nat):En→Option Fl:=
  (seqM (setO 1 (cL mkLst nilF)) (seqM (setO 2 (cL mkLst (consF (cL mkTup (consF (cL mkTup nilF) (consF (gv 0) nilF))) nilF))) (seqM (whileM (upT (cTr (gb 2))) (lb_placed_parts_2 m_inner_parts n) n) (retO 1))))
noncomputable def m_placed_parts:List D→Option D:=runF (mb_placed_parts m_inner_parts FUEL) 1 6
end FL
set_option Elab.async false
set_option linter.all false
set_option maxRecDepth 100000
namespace FL
open PySem PySem.Spec PyProof.Rows L2
theorem forM_inv {g:D→En→Option En}{b:En→Option Fl} (I:Nat→En→Prop):∀ (xs:List D) (k:Nat) (ρ:En),I k ρ→
    (∀ (i:Nat) x ρ,xs[i]?=some x→I (k + i) ρ→∃ ρ1 ρ2,g x ρ=some ρ1∧(b ρ1=some (.nx ρ2)∨b ρ1=some (.ct ρ2))∧I (k + i + 1) ρ2)→∃ ρ',forM g b xs ρ=some (.nx ρ')∧I (k + xs.length) ρ'
  | [],k,ρ,h,_=>⟨ρ,rfl,h⟩
  | x::xs,k,ρ,h,hs=>by
    obtain ⟨ρ1,ρ2,e1,e2,h2⟩:=hs 0 x ρ rfl h
    obtain ⟨ρ',e3,h3⟩:=forM_inv I xs (k + 1) ρ2 h2 fun i y σ hy hi=>by
      have:=hs (i + 1) y σ (by simpa using hy) (by rw [show k + (i + 1)=k + 1 + i by omega];exact hi)
      rw [show k + (i + 1) + 1=k + 1 + i + 1 by omega] at this
      exact this
    refine ⟨ρ',?_,by rw [List.length_cons,show k + (xs.length + 1)=k + 1 + xs.length by omega];exact h3⟩
    simp only [forM,e1]
    rcases e2 with e2 | e2<;>(rw [e2];exact e3)
theorem for_inv {g:D→En→Option En}{b:En→Option Fl} {xs:List D}{ρ:En} (I:Nat→En→Prop) (h0:I 0 ρ)
    (hs:∀ (i:Nat) x ρ,xs[i]?=some x→I i ρ→∃ ρ1 ρ2,g x ρ=some ρ1∧(b ρ1=some (.nx ρ2)∨b ρ1=some (.ct ρ2))∧I (i + 1) ρ2):∃ ρ',forM g b xs ρ=some (.nx ρ')∧I xs.length ρ':=by
  have:=forM_inv (g:=g) (b:=b) I xs 0 ρ h0 fun i x σ hx hi=>by
    rw [Nat.zero_add] at hi ⊢
    exact hs i x σ hx hi
  rw [Nat.zero_add] at this
  exact this
theorem for_by {g:D→En→Option En}{b:En→Option Fl} {xs:List D}{ρ:En} (I:Nat→En→Prop) (h0:I 0 ρ)
    (hs:∀ (i:Nat) x ρ,xs[i]?=some x→I i ρ→∃ ρ2,((g x ρ).bind b=some (.nx ρ2)∨(g x ρ).bind b=some (.ct ρ2))∧I (i + 1) ρ2):∃ ρ',forM g b xs ρ=some (.nx ρ')∧I xs.length ρ':=
  for_inv I h0 fun i x ρ hx hi=>by
    obtain ⟨ρ2,e,h⟩:=hs i x ρ hx hi
    cases e1:g x ρ with
    | none=>rw [e1] at e;rcases e with e | e<;>cases e
    | some ρ1=>rw [e1] at e;exact ⟨ρ1,ρ2,rfl,e,h⟩
theorem while_inv {t:En→Option (Bool×En)}{b:En→Option Fl} (I:Nat→En→Prop) (Post:En→Prop)
    (hs:∀ m ρ,I m ρ→(∃ ρ1,t ρ=some (false,ρ1)∧Post ρ1)∨(∃ ρ1 ρ2 m',t ρ=some (true,ρ1)∧(b ρ1=some (.nx ρ2)∨b ρ1=some (.ct ρ2))∧m' < m∧I m' ρ2)) :
    ∀ (n m:Nat) (ρ:En),I m ρ→m < n→∃ ρ',whileM t b n ρ=some (.nx ρ')∧Post ρ'
  | 0,_,_,_,h=>absurd h (Nat.not_lt_zero _)
  | n + 1,m,ρ,h,hn=>by
    rcases hs m ρ h with ⟨ρ1,e,p⟩ | ⟨ρ1,ρ2,m',e,e2,hm,h2⟩
    · exact ⟨ρ1,by simp only [whileM,e],p⟩
    · obtain ⟨ρ',e3,p⟩:=while_inv I Post hs n m' ρ2 h2 (by omega)
      refine ⟨ρ',?_,p⟩
      simp only [whileM,e]
      rcases e2 with e2 | e2<;>(rw [e2];exact e3)
theorem while_inv' {t:En→Option (Bool×En)}{b:En→Option Fl} (I:Nat→En→Prop) (Post:Fl→Prop)
    (hs:∀ m ρ,I m ρ→(∃ ρ1,t ρ=some (false,ρ1)∧Post (.nx ρ1))∨(∃ ρ1 ρ2 m',t ρ=some (true,ρ1)∧(b ρ1=some (.nx ρ2)∨b ρ1=some (.ct ρ2))∧m' < m∧I m' ρ2)∨(∃ ρ1 d ρ2,t ρ=some (true,ρ1)∧b ρ1=some (.rt d ρ2)∧Post (.rt d ρ2))) :
    ∀ (n m:Nat) (ρ:En),I m ρ→m < n→∃ fl,whileM t b n ρ=some fl∧Post fl
  | 0,_,_,_,h=>absurd h (Nat.not_lt_zero _)
  | n + 1,m,ρ,h,hn=>by
    rcases hs m ρ h with ⟨ρ1,e,p⟩ | ⟨ρ1,ρ2,m',e,e2,hm,h2⟩ | ⟨ρ1,d,ρ2,e,e2,p⟩
    · exact ⟨_,by simp only [whileM,e],p⟩
    · obtain ⟨ρ',e3,p⟩:=while_inv' I Post hs n m' ρ2 h2 (by omega)
      refine ⟨ρ',?_,p⟩
      simp only [whileM,e]
      rcases e2 with e2 | e2<;>(rw [e2];exact e3)
    · exact ⟨_,by simp only [whileM,e,e2],p⟩
theorem comp_map {g:D→En→Option En}{t:En→Option Bool} {f:En→Option D}{ρ:En}:∀ {xs ys:List D},xs.length=ys.length→(∀ (i:Nat) x y,xs[i]?=some x→ys[i]?=some y→∃ ρ1,g x ρ=some ρ1∧t ρ1=some true∧f ρ1=some y)→compM g t f ρ xs=some ys
  | [],[],_,_=>rfl
  | [],_::_,h,_=>by simp at h
  | _::_,[],h,_=>by simp at h
  | x::xs,y::ys,h,k=>by
    obtain ⟨ρ1,e1,e2,e3⟩:=k 0 x y rfl rfl
    have:=comp_map (g:=g) (t:=t) (f:=f) (ρ:=ρ) (xs:=xs) (ys:=ys) (by simpa using h) fun i a b ha hb=>k (i + 1) a b (by simpa using ha) (by simpa using hb)
    simp [compM,e1,e2,e3,this]
theorem comp_filter {g:D→En→Option En}{t:En→Option Bool} {f:En→Option D}{ρ:En} {φ:D→D}{p:D→Bool}:∀ {xs:List D},(∀ x∈xs,∃ ρ1,g x ρ=some ρ1∧t ρ1=some (p x)∧(p x=true→f ρ1=some (φ x)))→compM g t f ρ xs=some ((xs.filter p).map φ)
  | [],_=>rfl
  | x::xs,k=>by
    obtain ⟨ρ1,e1,e2,e3⟩:=k x List.mem_cons_self
    have:=comp_filter (g:=g) (t:=t) (f:=f) (ρ:=ρ) (xs:=xs) fun y hy=>k y (List.mem_cons_of_mem _ hy)
    cases hp:p x with
    | true=>simp [compM,e1,e2,hp,e3 hp,this,List.filter_cons]
    | false=>simp [compM,e1,e2,hp,this,List.filter_cons]
theorem rangeL_get {lo:Int}{n i:Nat} {d:D}(h:(rangeL lo n)[i]?=some d):i < n∧d=.int (lo + (i:Int)):=by
  unfold rangeL at h
  rw [List.getElem?_map] at h
  cases e:(List.range n)[i]? with
  | none=>rw [e] at h;cases h
  | some k=>
    rw [e] at h
    have h1:=List.getElem?_eq_some_iff.mp e
    have h2:=h1.2
    simp at h2
    subst h2
    exact ⟨by simpa using h1.1,(Option.some.inj h).symm⟩
theorem rangeL_len (lo:Int) (n:Nat):(rangeL lo n).length=n:=by simp [rangeL]
theorem at0 {α:Type}(a:α) (l:List α):atI (a::l) 0=some a:=atI_nat (j:=0) rfl
theorem at1 {α:Type}(a b:α) (l:List α):atI (a::b::l) 1=some b:=atI_nat (j:=1) rfl
theorem at2 {α:Type}(a b c:α) (l:List α):atI (a::b::c::l) 2=some c:=atI_nat (j:=2) rfl
theorem at3 {α:Type}(a b c d:α) (l:List α):atI (a::b::c::d::l) 3=some d:=atI_nat (j:=3) rfl
local macro_rules | `(tactic| simp! [$xs,*] $[$loc]?)=>`(tactic| simp [$xs,*,runF,startD,seqM,setM,setO,noBor,asgM,asgX,dropM,dropX,retM,retO,retN,ifM,upT,cT,cTr,truD,andP,orP,notP,andV,orV,notV,c1,c2,cL,cS,consF,nilF,cst,gv,gb,gN,gNil,gCons,gTup,oNone,oSome,compE,yesP,cI,cR1,cR2,cEnT,forS,itS,rng1,rng2,appM,extM,popM,popAtM,mkTup,mkLst,nxM,isiD,tyN,isiB,lim,bors,st0E,negD,revX,revD,tupleD,listD,lenD,idxD,sliceD,sliceL,addD,catD,subD,mulD,divD,modD,powD,cmpI,geD,isB,isNotB,isNon,absD,intD,runX,startX,callX,retX,putM,putKM,keyD,frzM,c3,getD3,dictD,disp1,cSg,innAt,itS,Sl.inn,Sl.own,maxDD,eqB,neB,inB,notInB,okMul_r,okMul_l,okDiv_of,okMod_of,okPow_of,okRng_of,at0,at1,at2,at3] $[$loc]?)
local macro_rules | `(tactic| dsimp! [$xs,*] $[$loc]?)=>`(tactic| simp [$xs,*,runF,startD,seqM,setM,setO,asgM,asgX,dropM,dropX,retM,retO,retN,ifM,upT,cT,cTr,truD,andP,orP,notP,andV,orV,notV,c1,c2,cL,cS,consF,nilF,cst,gv,gb,gN,gNil,gCons,gTup,oNone,oSome,compE,yesP,cI,cR1,cR2,cEnT,forS,itS,rng1,rng2,appM,extM,popM,popAtM,mkTup,mkLst,nxM,isiD,tyN,isiB,lim,bors,st0E,negD,revX,revD,tupleD,listD,lenD,idxD,sliceD,sliceL,addD,catD,subD,mulD,divD,modD,powD,cmpI,geD,isB,isNotB,isNon,absD,intD,runX,startX,callX,retX,putM,putKM,keyD,frzM,c3,getD3,dictD,disp1,cSg,innAt,itS,Sl.inn,Sl.own,maxDD,inB,notInB,okMul_r,okMul_l,okDiv_of,okMod_of,okPow_of,okRng_of,at0,at1,at2,at3] $[$loc]?)
inductive T where
  | bl (x:Str) | nd (s:Str) (ts:List T)
mutual
noncomputable def T.d:T→D
  | .bl x=>.str x
  | .nd s ts=>.tup (.str s::T.ds ts)
noncomputable def T.ds:List T→List D
  | []=>[]
  | t::r=>t.d::T.ds r
end
theorem ds_eq:∀ ts:List T,T.ds ts=ts.map T.d
  | []=>by simp [T.ds]
  | t::r=>by rw [T.ds,ds_eq r,List.map_cons]
theorem d_nd (s:Str) (ts:List T):(T.nd s ts).d=.tup (.str s::ts.map T.d):=by rw [T.d,ds_eq]
theorem d_bl (x:Str):(T.bl x).d=.str x:=by rw [T.d]
mutual
noncomputable def T.size:T→Nat
  | .bl _=>1
  | .nd _ ts=>1 + T.sizes ts
noncomputable def T.sizes:List T→Nat
  | []=>0
  | t::r=>t.size + T.sizes r
end
mutual
noncomputable def T.depth:T→Nat
  | .bl _=>1
  | .nd _ ts=>1 + T.depths ts
noncomputable def T.depths:List T→Nat
  | []=>0
  | t::r=>max t.depth (T.depths r)
end
noncomputable def T.isBl:T→Bool
  | .bl _=>true
  | .nd _ _=>false
noncomputable def T.kids:T→List T
  | .bl _=>[]
  | .nd _ ts=>ts
theorem size_kids (t:T):t.size=1 + T.sizes t.kids:=by cases t<;>simp [T.size,T.kids,T.sizes]
theorem size_pos (t:T):0 < t.size:=by rw [size_kids];omega
theorem sizes_append:∀ a b:List T,T.sizes (a++b)=T.sizes a + T.sizes b
  | [],b=>by simp [T.sizes]
  | t::a,b=>by simp only [List.cons_append,T.sizes,sizes_append a b];omega
theorem sizes_len:∀ a:List T,a.length≤T.sizes a
  | []=>by simp
  | t::a=>by have:=size_pos t;have:=sizes_len a;simp only [List.length_cons,T.sizes];omega
theorem depth_kid:∀ {ts:List T}{t:T},t∈ts→t.depth≤T.depths ts
  | _::_,_,h=>by
    rcases List.mem_cons.mp h with rfl | h
    · rw [T.depths];exact Nat.le_max_left _ _
    · rw [T.depths];exact Nat.le_trans (depth_kid h) (Nat.le_max_right _ _)
theorem size_kid:∀ {ts:List T}{t:T},t∈ts→t.size≤T.sizes ts
  | _::_,_,h=>by
    rcases List.mem_cons.mp h with rfl | h
    · rw [T.sizes];omega
    · rw [T.sizes];have:=size_kid h;omega
theorem depth_pos (t:T):0 < t.depth:=by cases t<;>simp [T.depth]<;>omega
mutual
theorem dep_d:∀ t:T,dep t.d≤t.depth + 1
  | .bl x=>by simp [T.d,dep]
  | .nd s ts=>by
    have:=depL_ds ts
    simp only [T.d,dep,depL,T.depth]
    omega
theorem depL_ds:∀ ts:List T,depL (T.ds ts)≤T.depths ts + 1
  | []=>by simp [T.ds,depL]
  | t::r=>by
    have h1:=dep_d t
    have h2:=depL_ds r
    simp only [T.ds,depL,T.depths]
    omega
end
noncomputable def idx (p:List Int):Nat→List T→List (List Int×T)
  | _,[]=>[]
  | k,t::r=>(p++[(k:Int)],t)::idx p (k + 1) r
mutual
noncomputable def placed (p:List Int):T→List (List Int×T)
  | .bl x=>[(p,.bl x)]
  | .nd s ts=>(p,.nd s ts)::placedL p 0 ts
noncomputable def placedL (p:List Int) (k:Nat):List T→List (List Int×T)
  | []=>[]
  | t::r=>placed (p++[(k:Int)]) t++placedL p (k + 1) r
end
theorem placed_kids (p:List Int) (t:T):placed p t=(p,t)::placedL p 0 t.kids:=by cases t<;>simp [placed,T.kids,placedL]
noncomputable def flat (ws:List (List Int×T)):List (List Int×T):=ws.flatMap fun q=>placed q.1 q.2
theorem flat_idx (p:List Int):∀ (k:Nat) (ts:List T),flat (idx p k ts)=placedL p k ts
  | _,[]=>by simp [idx,flat,placedL]
  | k,t::r=>by
    have:=flat_idx p (k + 1) r
    unfold flat at this
    simp only [idx,flat,placedL,List.flatMap_cons,this]
theorem flat_append (a b:List (List Int×T)):flat (a++b)=flat a++flat b:=by simp [flat]
theorem idx_len (p:List Int):∀ (k:Nat) (ts:List T),(idx p k ts).length=ts.length
  | _,[]=>rfl
  | k,t::r=>by simp [idx,idx_len p (k + 1) r]
noncomputable def wsize (ws:List (List Int×T)):Nat:=T.sizes (ws.map (·.2))
theorem idx_snd (p:List Int):∀ (k:Nat) (ts:List T),(idx p k ts).map (·.2)=ts
  | _,[]=>rfl
  | k,t::r=>by simp [idx,idx_snd p (k + 1) r]
theorem sizes_reverse:∀ a:List T,T.sizes a.reverse=T.sizes a
  | []=>rfl
  | t::a=>by rw [List.reverse_cons,sizes_append,sizes_reverse a];simp only [T.sizes];omega
mutual
theorem placed_len (p:List Int):∀ t:T,(placed p t).length=t.size
  | .bl x=>by simp [placed,T.size]
  | .nd s ts=>by simp [placed,T.size,placedL_len p 0 ts];omega
theorem placedL_len (p:List Int):∀ (k:Nat) (ts:List T),(placedL p k ts).length=T.sizes ts
  | _,[]=>by simp [placedL,T.sizes]
  | k,t::r=>by simp [placedL,T.sizes,placed_len (p++[(k:Int)]) t,placedL_len p (k + 1) r]
end
noncomputable def partAt:T→List Int→Option T
  | t,[]=>some t
  | .bl _,_::_=>none
  | .nd _ ts,k::r=>if 0≤k then (match ts[k.toNat]? with | some t=>partAt t r | none=>none) else none
mutual
theorem placed_plen (p:List Int):∀ t:T,∀ q∈placed p t,q.1.length < p.length + t.size
  | .bl x,q,hq=>by simp only [placed,List.mem_singleton] at hq;subst hq;simp [T.size]
  | .nd s ts,q,hq=>by
    simp only [placed,List.mem_cons] at hq
    rcases hq with rfl | hq
    · have:=size_pos (.nd s ts);simp only;omega
    · have:=placedL_plen p 0 ts q hq
      simp only [T.size];omega
theorem placedL_plen (p:List Int):∀ (k:Nat) (ts:List T),∀ q∈placedL p k ts,q.1.length < p.length + 1 + T.sizes ts
  | _,[],q,hq=>by simp [placedL] at hq
  | k,t::r,q,hq=>by
    simp only [placedL,List.mem_append] at hq
    rcases hq with hq | hq
    · have:=placed_plen (p++[(k:Int)]) t q hq
      rw [List.length_append,List.length_singleton] at this
      simp only [T.sizes];omega
    · have:=placedL_plen p (k + 1) r q hq
      simp only [T.sizes];omega
end
noncomputable def pd (q:List Int×T):D:=.tup [.tup (q.1.map D.int),q.2.d]
theorem e_is_blank (t:T):m_is_blank [t.d]=some (.bl t.isBl):=by
  cases t<;>simp! [m_is_blank,T.d,T.isBl]
theorem cut1 {α:Type}(a:α) (l:List α):cutG (a::l) (some 1) none=l:=by
  simp [cutG,HT.sIx]
theorem e_inner_parts (t:T):m_inner_parts [t.d]=some (.tup (t.kids.map T.d)):=by
  cases t with
  | bl x=>simp! [m_inner_parts,e_is_blank,T.isBl,T.kids]
  | nd s ts=>
    simp! [m_inner_parts,e_is_blank,T.isBl,T.kids]
    simp [d_nd,cut1]
theorem wsize_append (a b:List (List Int×T)):wsize (a++b)=wsize a + wsize b:=by simp [wsize,sizes_append]
theorem wsize_reverse (a:List (List Int×T)):wsize a.reverse=wsize a:=by unfold wsize;rw [List.map_reverse,sizes_reverse]
theorem wsize_idx (p:List Int) (k:Nat) (ts:List T):wsize (idx p k ts)=T.sizes ts:=by unfold wsize;rw [idx_snd]
theorem flat_len:∀ l:List (List Int×T),l.length≤(flat l).length
  | []=>by simp [flat]
  | a::l=>by
    have:=size_pos a.2
    have:=flat_len l
    have e5:flat (a::l)=placed a.1 a.2++flat l:=by simp [flat]
    rw [e5,List.length_append,placed_len,List.length_cons];omega
theorem flat_size:∀ l:List (List Int×T),(flat l).length=wsize l
  | []=>by simp [flat,wsize,T.sizes]
  | a::l=>by
    have e5:flat (a::l)=placed a.1 a.2++flat l:=by simp [flat]
    have:=flat_size l
    rw [e5,List.length_append,placed_len,this];simp [wsize,T.sizes]
theorem idx_get (p:List Int):∀ (k:Nat) (ts:List T) (i:Nat) (q:List Int×T),(idx p k ts)[i]?=some q→∃ t,ts[i]?=some t∧q=(p++[((k + i:Nat):Int)],t)
  | _,[],i,q,h=>by simp [idx] at h
  | k,t::r,0,q,h=>by simp [idx] at h;exact ⟨t,rfl,by rw [← h];simp⟩
  | k,t::r,i + 1,q,h=>by
    obtain ⟨u,h1,h2⟩:=idx_get p (k + 1) r i q (by simpa [idx] using h)
    exact ⟨u,by simpa using h1,by rw [h2,show k + 1 + i=k + (i + 1) by omega]⟩
theorem inner_comp (p:List Int) (t x:D) (y z u:Option Sl) (ks:List T) (hp:p.length≤999999) :
    compM (gTup (gCons (gN 0) (gCons (gN 1) gNil))) yesP (cL mkTup (consF (c2 addD (gb 2) (cL mkTup (consF (gv 0) nilF))) (consF (gv 1) nilF))) [none,none,some (.dat (.tup (p.map D.int)))] (enumL 0 (ks.map T.d))=some ((idx p 0 ks).map pd):=by
  refine comp_map (by simp [enumL_len,idx_len]) fun i a b ha hb=>?_
  obtain ⟨d0,h1,rfl⟩:=enumL_get 0 _ i a ha
  rw [List.getElem?_map] at h1 hb
  cases e1:(idx p 0 ks)[i]? with
  | none=>rw [e1] at hb;cases hb
  | some q=>
    rw [e1] at hb
    obtain ⟨t0,h2,rfl⟩:=idx_get p 0 ks i q e1
    rw [h2] at h1
    cases h1
    cases hb
    have:p.length + 1≤1000000:=by omega
    refine ⟨[some (.dat (.int ((0 + i:Nat):Int))),some (.dat t0.d),some (.dat (.tup (p.map D.int)))],?_,rfl,?_⟩
    · simp [runF,startD,seqM,setM,setO,noBor,asgM,asgX,dropM,dropX,retM,retO,retN,ifM,upT,cT,cTr,truD,andP,orP,notP,andV,orV,notV,c1,c2,cL,cS,consF,nilF,cst,gv,gb,gN,gNil,gCons,gTup,oNone,oSome,compE,yesP,cI,cR1,cR2,cEnT,forS,itS,rng1,rng2,appM,extM,popM,popAtM,mkTup,mkLst,nxM,isiD,tyN,isiB,lim,bors,st0E,negD,revX,revD,tupleD,listD,lenD,idxD,sliceD,sliceL,addD,catD,subD,mulD,divD,modD,powD,cmpI,geD,isB,isNotB,isNon,absD,intD,runX,startX,callX,retX,putM,putKM,keyD,frzM,c3,getD3,dictD,disp1,cSg,innAt,itS,Sl.inn,Sl.own,maxDD,eqB,neB,inB,notInB,okMul_r,okMul_l,okDiv_of,okMod_of,okPow_of,okRng_of,at0,at1,at2,at3]
    · simp! [pd,this]
theorem e_placed_parts (t:T) (hz:t.size≤900000):m_placed_parts [t.d]=some (.lst ((placed [] t).map pd)):=by
  have W:=while_inv (t:=upT (cTr (gb 2)))
    (b:=lb_placed_parts_2 m_inner_parts FUEL)
    (fun m ρ=>∃ (fs ws:List (List Int×T)) (x3 x4 x5:Option Sl),ρ=[some (.dat t.d),some (.own (.lst (fs.map pd))),some (.own (.lst (ws.map pd))),x3,x4,x5]∧m=wsize ws∧fs++flat ws.reverse=placed [] t)
    (fun ρ=>∃ x2 x3 x4 x5,ρ=[some (.dat t.d),some (.own (.lst ((placed [] t).map pd))),x2,x3,x4,x5]) ?_ FUEL t.size
    [some (.dat t.d),some (.own (.lst [])),some (.own (.lst [pd ([],t)])),none,none,none] ⟨[],[([],t)],none,none,none,rfl,by simp [wsize,T.sizes],by simp [flat]⟩ (by unfold FUEL;omega)
  · obtain ⟨ρ',e,x2,x3,x4,x5,rfl⟩:=W
    have e0:pd ([],t)=.tup [.tup [],t.d]:=rfl
    rw [e0] at e
    simp! [m_placed_parts] at e ⊢
    rw [e]
    simp
  · rintro m ρ ⟨fs,ws,x3,x4,x5,rfl,rfl,inv⟩
    rcases List.eq_nil_or_concat ws with rfl | ⟨ws',⟨p,t1⟩,rfl⟩
    · refine .inl ⟨_,by simp [runF,startD,seqM,setM,setO,noBor,asgM,asgX,dropM,dropX,retM,retO,retN,ifM,upT,cT,cTr,truD,andP,orP,notP,andV,orV,notV,c1,c2,cL,cS,consF,nilF,cst,gv,gb,gN,gNil,gCons,gTup,oNone,oSome,compE,yesP,cI,cR1,cR2,cEnT,forS,itS,rng1,rng2,appM,extM,popM,popAtM,mkTup,mkLst,nxM,isiD,tyN,isiB,lim,bors,st0E,negD,revX,revD,tupleD,listD,lenD,idxD,sliceD,sliceL,addD,catD,subD,mulD,divD,modD,powD,cmpI,geD,isB,isNotB,isNon,absD,intD,runX,startX,callX,retX,putM,putKM,keyD,frzM,c3,getD3,dictD,disp1,cSg,innAt,itS,Sl.inn,Sl.own,maxDD,eqB,neB,inB,notInB,okMul_r,okMul_l,okDiv_of,okMod_of,okPow_of,okRng_of,at0,at1,at2,at3];rfl,?_⟩
      have e:fs=placed [] t:=by simpa [flat] using inv
      rw [e]
      exact ⟨_,_,_,_,rfl⟩
    · rw [List.concat_eq_append] at inv ⊢
      have el:fs.length + wsize (ws'++[(p,t1)])=t.size:=by
        rw [← placed_len [] t,← inv,List.length_append,flat_size,wsize_reverse]
      have ew:wsize [(p,t1)]=t1.size:=by simp [wsize,T.sizes]
      have ek:=size_kids t1
      rw [wsize_append,ew] at el
      have hm:(p,t1)∈placed [] t:=by
        rw [← inv]
        refine List.mem_append_right _ ?_
        rw [List.reverse_append,flat_append]
        refine List.mem_append_left _ ?_
        show (p,t1)∈flat [(p,t1)]
        unfold flat
        rw [List.flatMap_cons,List.flatMap_nil,List.append_nil,placed_kids]
        exact List.mem_cons_self
      have pl:=placed_plen [] t _ hm
      simp only [List.length_nil] at pl
      have kl:=sizes_len t1.kids
      have wl:ws'.length≤wsize ws':=by rw [← flat_size];exact flat_len _
      refine .inr ⟨_,[some (.dat t.d),some (.own (.lst ((fs++[(p,t1)]).map pd))),some (.own (.lst ((ws'++(idx p 0 t1.kids).reverse).map pd))),some (.dat (.tup (p.map D.int))),some (.dat t1.d),some (.dat (.lst ((idx p 0 t1.kids).map pd)))],wsize (ws'++(idx p 0 t1.kids).reverse),by simp [runF,startD,seqM,setM,setO,noBor,asgM,asgX,dropM,dropX,retM,retO,retN,ifM,upT,cT,cTr,truD,andP,orP,notP,andV,orV,notV,c1,c2,cL,cS,consF,nilF,cst,gv,gb,gN,gNil,gCons,gTup,oNone,oSome,compE,yesP,cI,cR1,cR2,cEnT,forS,itS,rng1,rng2,appM,extM,popM,popAtM,mkTup,mkLst,nxM,isiD,tyN,isiB,lim,bors,st0E,negD,revX,revD,tupleD,listD,lenD,idxD,sliceD,sliceL,addD,catD,subD,mulD,divD,modD,powD,cmpI,geD,isB,isNotB,isNon,absD,intD,runX,startX,callX,retX,putM,putKM,keyD,frzM,c3,getD3,dictD,disp1,cSg,innAt,itS,Sl.inn,Sl.own,maxDD,eqB,neB,inB,notInB,okMul_r,okMul_l,okDiv_of,okMod_of,okPow_of,okRng_of,at0,at1,at2,at3];rfl,.inl ?_,?_,fs++[(p,t1)],ws'++(idx p 0 t1.kids).reverse,_,_,_,rfl,rfl,?_⟩
      · have c:=inner_comp p t.d t.d none none none t1.kids (by omega)
        have h1:fs.length < 1000000:=by omega
        have h2:t1.kids.length≤1000000:=by omega
        have h3:ws'.length + t1.kids.length≤1000000:=by omega
        simp! [pd,e_inner_parts,enumL_len,idx_len,h1,h2,h3] at c ⊢
        rw [c]
        simp! [pd,e_inner_parts,enumL_len,idx_len,h1,h2,h3]
      · rw [wsize_append,wsize_append,wsize_reverse,wsize_idx,ew];omega
      · rw [← inv]
        simp only [List.reverse_append,List.reverse_reverse,flat_append,List.append_assoc,List.reverse_cons,List.reverse_nil,List.nil_append]
        rw [flat_idx]
        have e5:flat [(p,t1)]=(p,t1)::placedL p 0 t1.kids:=by
          unfold flat;rw [List.flatMap_cons,List.flatMap_nil,List.append_nil,placed_kids]
        rw [e5];simp
noncomputable def cellOf (ns:List Int) (k:Int):Int:=ns.getD k.toNat 0
theorem atI_of {α:Type}{l:List α} {k:Int}(h0:0≤k) (h1:k < (l.length:Int)):atI l k=l[k.toNat]?:=by
  unfold atI ixN
  rw [if_pos h0,if_pos h1];rfl
theorem e_cell (ns:List Int) (k:Int) (h0:0≤k):m__law_cell [.scr ns,.int k]=some (.int (cellOf ns k)):=by
  by_cases h:k < (ns.length:Int)
  · have e:ns[k.toNat]?=some (cellOf ns k):=by
      unfold cellOf
      rw [List.getD_eq_getElem?_getD,List.getElem?_eq_getElem (by omega)];rfl
    simp! [m__law_cell,h,atI_of h0 h,e]
  · have e:cellOf ns k=0:=by
      unfold cellOf
      rw [List.getD_eq_getElem?_getD,List.getElem?_eq_none (by omega)];rfl
    simp! [m__law_cell,h,e]
theorem letter {z:Str}(h:z.cps.toList.length=26) (n:Int):∃ c,atI z.cps.toList (n % 26)=some c:=by
  have h0:0≤n % 26:=Int.emod_nonneg _ (by decide)
  have h1:n % 26 < 26:=Int.emod_lt_of_pos _ (by decide)
  refine ⟨z.cps.toList[(n % 26).toNat]'(by omega),?_⟩
  rw [atI_of h0 (by rw [h];exact_mod_cast h1),List.getElem?_eq_getElem (by omega)]
theorem len1 (c:Nat):(⟨#[c]⟩:Str).length=1:=rfl
theorem lenAdd (a b:Str):(a++b).length=a.length + b.length:=by simp [Str.length,PySem.Str.cps_append]
theorem alen:(Str.ofString "abcdefghijklmnopqrstuvwxyz").cps.toList.length=26:=by decide +kernel
theorem alen':(Str.ofString "abcdefghijklmnopqrstuvwxyz").length=26:=by decide +kernel
theorem ALEN:(Str.ofString "ABCDEFGHIJKLMNOPQRSTUVWXYZ").cps.toList.length=26:=by decide +kernel
theorem ALEN':(Str.ofString "ABCDEFGHIJKLMNOPQRSTUVWXYZ").length=26:=by decide +kernel
theorem elen:(Str.ofString "").length=0:=by decide +kernel
noncomputable def nle (m:Nat) (ys:List Str):Prop:=∀ y∈ys,y.length≤m
theorem sum_le_mul:∀ (ys:List Str) (m:Nat),nle m ys→(ys.map (·.length)).sum≤ys.length * m
  | [],m,_=>by simp
  | y::ys,m,h=>by
    have h1:=h y List.mem_cons_self
    have h2:=sum_le_mul ys m fun z hz=>h z (List.mem_cons_of_mem _ hz)
    simp only [List.map_cons,List.sum_cons,List.length_cons,Nat.add_mul,Nat.one_mul]
    omega
theorem comp_strs {g:D→En→Option En}{f:En→Option D} {ρ:En}{m:Nat}:∀ {xs:List D},(∀ x∈xs,∃ ρ1 y,g x ρ=some ρ1∧f ρ1=some (.str y)∧y.length≤m)→∃ ys:List Str,compM g yesP f ρ xs=some (ys.map D.str)∧ys.length=xs.length∧nle m ys
  | [],_=>⟨[],rfl,rfl,fun _ h=>by cases h⟩
  | x::xs,k=>by
    obtain ⟨ρ1,y,e1,e2,e3⟩:=k x List.mem_cons_self
    obtain ⟨ys,h1,h2,h3⟩:=comp_strs (g:=g) (f:=f) (ρ:=ρ) (m:=m) (xs:=xs) fun z hz=>k z (List.mem_cons_of_mem _ hz)
    refine ⟨y::ys,by simp [compM,e1,e2,h1,yesP],by simp [h2],fun z hz=>?_⟩
    rcases List.mem_cons.mp hz with rfl | hz
    · exact e3
    · exact h3 z hz
theorem mem_range {lo:Int}{n:Nat} {d:D}(h:d∈rangeL lo n):∃ i:Nat,i < n∧d=.int (lo + (i:Int)):=by
  obtain ⟨i,hi⟩:=List.mem_iff_getElem?.mp h
  exact ⟨i,rangeL_get hi⟩
theorem slice_len (z:Str) (lo hi:Option Int):(Txt.slice z lo hi).length≤z.length:=Txt.slice_le z lo hi
theorem join_len (ys:List Str):(Txt.join (Str.ofString "") ys).length=(ys.map (·.length)).sum:=by
  show (PySem.Builtin.Str.glued _ ys).length=_
  rw [PySem.size_glued,elen];omega
theorem e_words (c:Int):∃ ws:List Str,m__law_words [.int c]=some (.lst (ws.map D.str))∧ws.length=5∧nle 16 ws:=by
  obtain ⟨n0,e0⟩:∃ n0:Int,c * 1000000007 % 1000000000000000000=n0:=⟨_,rfl⟩
  have h7:0≤n0 % 7:=Int.emod_nonneg _ (by decide)
  have h7':n0 % 7 < 7:=Int.emod_lt_of_pos _ (by decide)
  obtain ⟨ρ',e1,nb,bs,k,rfl,hb⟩:=for_by (g:=gN 4) (b:=lb__law_words_1 FUEL) (xs:=rangeL 0 (n0 % 7).toNat) (ρ:=[some (.dat (.int c)),some (.dat (.str "abcdefghijklmnopqrstuvwxyz")),some (.dat (.int n0)),some (.dat (.str "")),none,none])
    (fun i ρ=>∃ (nb:Int) (bs:Str) (k:Option Sl),ρ=[some (.dat (.int c)),some (.dat (.str "abcdefghijklmnopqrstuvwxyz")),some (.dat (.int nb)),some (.dat (.str bs)),k,none]∧bs.length≤min i 7)
    ⟨n0, "",none,rfl,by rw [elen];omega⟩ (by
      rintro i x ρ hx ⟨nb,bs,k,rfl,hb⟩
      obtain ⟨hi,rfl⟩:=rangeL_get hx
      obtain ⟨cc,hcc⟩:=letter alen (nb / 7)
      have hl:bs.length + 1≤1000000:=by omega
      refine ⟨[some (.dat (.int c)),some (.dat (.str "abcdefghijklmnopqrstuvwxyz")),some (.dat (.int (nb / 11))),some (.dat (.str (bs++⟨#[cc]⟩))),some (.dat (.int (0 + (i:Int)))),none],.inl ?_,_,_,_,rfl,?_⟩
      · simp! [alen',hcc,len1,hl]
      · rw [lenAdd,len1];omega)
  have hb6:bs.length≤7:=by omega
  have hz:bs.length≤1000000:=by omega
  have hp:(0:Int) < (bs.length:Int) + 1:=by omega
  have hr7:-4611686018427387904≤n0 % 7∧n0 % 7 < 4611686018427387904:=by omega
  by_cases h3:nb % 3=0
  · obtain ⟨ys,w1,w2,w3⟩:=comp_strs (g:=gN 0) (f:=ce__law_words_2 FUEL) (ρ:=[none,some (.dat (.str "abcdefghijklmnopqrstuvwxyz")),some (.dat (.int nb))]) (m:=1) (xs:=rangeL 0 6) (by
      intro x hx
      obtain ⟨i,hi,rfl⟩:=mem_range hx
      have hd:0 < (3:Int) + (i:Int) * (i:Int):=by
        have:0≤(i:Int) * (i:Int):=Int.mul_nonneg (by omega) (by omega)
        omega
      have hd2:(3:Int) + (i:Int) * (i:Int) < 1073741824:=by
        have:(i:Int) * (i:Int)≤6 * 6:=Int.mul_le_mul (by omega) (by omega) (by omega) (by decide)
        omega
      have hm:(-18446744073709551616 < (i:Int)∧(i:Int) < 18446744073709551616):=by omega
      obtain ⟨cc,hcc⟩:=letter alen (nb / (3 + (i:Int) * (i:Int)))
      refine ⟨_,⟨#[cc]⟩,rfl,?_,by rw [len1];exact Nat.le_refl _⟩
      simp! [alen',hcc,hd,hd2,hm])
    rw [rangeL_len] at w2
    have js:(ys.map (·.length)).sum≤6:=by have:=sum_le_mul ys 1 w3;omega
    have jl:(Txt.join (Str.ofString "") ys).length≤6:=by rw [join_len];exact js
    have jo:strsOf (ys.map D.str)=some ys:=strsOf_map ys
    have jz:(ys.map (·.length)).sum + ys.length * (Str.ofString "").length≤16777216:=by rw [elen];omega
    obtain ⟨zs,d1,d2,d3⟩:=comp_strs (g:=gN 0) (f:=ce__law_words_3 FUEL) (ρ:=[none,some (.dat (.str (Txt.join (Str.ofString "") ys)))]) (m:=16) (xs:=rangeL 0 5) (by
      intro x hx
      obtain ⟨i,hi,rfl⟩:=mem_range hx
      have hz2:(Txt.join (Str.ofString "") ys).length≤1000000:=by omega
      refine ⟨_,Txt.slice (Txt.join (Str.ofString "") ys) none (some (0 + (i:Int) + 1)),rfl,?_,by have:=slice_len (Txt.join (Str.ofString "") ys) none (some (0 + (i:Int) + 1));omega⟩
      simp! [hz2])
    rw [rangeL_len] at d2
    refine ⟨zs,?_,d2,d3⟩
    simp! [m__law_words,e0,e1,h3,w1,d1,hz,hp,hr7,rangeL_len,joinD,jo,jz,dep,eqD]
  · obtain ⟨zs,d1,d2,d3⟩:=comp_strs (g:=gN 0) (f:=ce__law_words_4 FUEL) (ρ:=[none,some (.dat (.str bs)),some (.dat (.str "abcdefghijklmnopqrstuvwxyz")),some (.dat (.int (nb / 7 % ((bs.length:Int) + 1)))),some (.dat (.int nb))]) (m:=16) (xs:=rangeL 0 5) (by
      intro x hx
      obtain ⟨i,hi,rfl⟩:=mem_range hx
      obtain ⟨cc,hcc⟩:=letter alen (nb / 5 + 5 * (i:Int))
      have s1:=slice_len bs none (some (nb / 7 % ((bs.length:Int) + 1)))
      have s2:=slice_len bs (some (nb / 7 % ((bs.length:Int) + 1))) none
      have l1:(Txt.slice bs none (some (nb / 7 % ((bs.length:Int) + 1)))).length + 1≤1000000:=by omega
      have l2:(Txt.slice bs none (some (nb / 7 % ((bs.length:Int) + 1)))).length + 1 + (Txt.slice bs (some (nb / 7 % ((bs.length:Int) + 1))) none).length≤1000000:=by omega
      refine ⟨_,Txt.slice bs none (some (nb / 7 % ((bs.length:Int) + 1)))++⟨#[cc]⟩++Txt.slice bs (some (nb / 7 % ((bs.length:Int) + 1))) none,rfl,?_,by rw [lenAdd,lenAdd,len1];omega⟩
      simp! [hz,alen',hcc,len1,lenAdd,l1,l2])
    rw [rangeL_len] at d2
    refine ⟨zs,?_,d2,d3⟩
    simp! [m__law_words,e0,e1,h3,d1,hz,hp,hr7,rangeL_len,dep,eqD]
noncomputable def sd (p:Str×Int):D:=.tup [.str p.1,.int p.2]
theorem atI_map {α β:Type}(f:α→β) (l:List α) (i:Int):atI (l.map f) i=(atI l i).map f:=by
  unfold atI
  rw [List.length_map]
  cases ixN l.length i<;>simp
theorem comp_gen {α:Type}(h:α→D) (P:Nat→α→Prop) {g:D→En→Option En}{f:En→Option D} {ρ:En}:∀ {xs:List D}(k:Nat),(∀ (i:Nat) x,xs[i]?=some x→∃ ρ1 y,g x ρ=some ρ1∧f ρ1=some (h y)∧P (k + i) y)→∃ ys:List α,compM g yesP f ρ xs=some (ys.map h)∧ys.length=xs.length∧∀ (i:Nat) y,ys[i]?=some y→P (k + i) y
  | [],_,_=>⟨[],rfl,rfl,fun _ _ h=>by simp at h⟩
  | x::xs,k,q=>by
    obtain ⟨ρ1,y,e1,e2,e3⟩:=q 0 x rfl
    obtain ⟨ys,h1,h2,h3⟩:=comp_gen h P (g:=g) (f:=f) (ρ:=ρ) (xs:=xs) (k + 1) fun i z hz=>by
      have:=q (i + 1) z (by simpa using hz)
      rw [show k + 1 + i=k + (i + 1) by omega];exact this
    refine ⟨y::ys,by simp [compM,e1,e2,h1,yesP],by simp [h2],fun i z hz=>?_⟩
    cases i with
    | zero=>simp at hz;subst hz;exact e3
    | succ i=>
      have:=h3 i z (by simpa using hz)
      rw [show k + (i + 1)=k + 1 + i by omega];exact this
structure SortsOk (ps:List (Str×Int)):Prop where
  lo:2≤ps.length
  hi:ps.length≤5
  cnt:∀ p∈ps,0≤p.2∧p.2≤3
  fst:∀ p,ps[0]?=some p→p.2=0
  wd:∀ p∈ps,p.1.length≤16
theorem e_sorts (c:Int):∃ ps:List (Str×Int),m__law_sorts [.int c]=some (.lst (ps.map sd))∧SortsOk ps:=by
  obtain ⟨ws,ew,wl,wn⟩:=e_words c
  have h0:0≤c / 3 % 4:=Int.emod_nonneg _ (by decide)
  have h4':c / 3 % 4 < 4:=Int.emod_lt_of_pos _ (by decide)
  have h12:0≤c / 12 % 4:=Int.emod_nonneg _ (by decide)
  have h12':c / 12 % 4 < 4:=Int.emod_lt_of_pos _ (by decide)
  have hr:-4611686018427387904≤2 + c / 12 % 4∧2 + c / 12 % 4 < 4611686018427387904:=by omega
  obtain ⟨cs,ecs,cl,cb,cf⟩:∃ cs:List Int,atI [D.lst [.int 0,.int 2,.int 1,.int 0,.int 3],.lst [.int 0,.int 1,.int 2,.int 2,.int 0],.lst [.int 0,.int 3,.int 1,.int 1,.int 0],.lst [.int 0,.int 2,.int 0,.int 1,.int 1]] (c / 3 % 4)=some (.lst (cs.map D.int))∧cs.length=5∧(∀ n∈cs,0≤n∧n≤3)∧cs[0]?=some 0:=by
    rcases (by omega:c / 3 % 4=0∨c / 3 % 4=1∨c / 3 % 4=2∨c / 3 % 4=3) with e | e | e | e
    · exact ⟨[0,2,1,0,3],by rw [e];rfl,rfl,by decide,rfl⟩
    · exact ⟨[0,1,2,2,0],by rw [e];rfl,rfl,by decide,rfl⟩
    · exact ⟨[0,3,1,1,0],by rw [e];rfl,rfl,by decide,rfl⟩
    · exact ⟨[0,2,0,1,1],by rw [e];rfl,rfl,by decide,rfl⟩
  obtain ⟨ps,p1,p2,p3⟩:=comp_gen sd (fun i p=>p.1∈ws∧cs[i]?=some p.2) (g:=gN 0) (f:=ce__law_sorts_1 m__law_words FUEL) (ρ:=[none,some (.dat (.lst (ws.map D.str))),some (.dat (.lst (cs.map D.int)))]) (xs:=rangeL 0 (2 + c / 12 % 4).toNat) 0 (by
    intro i x hx
    obtain ⟨hi,rfl⟩:=rangeL_get hx
    have i1:i < ws.length:=by omega
    have i2:i < cs.length:=by omega
    have a1:atI ws (i:Int)=some ws[i]:=atI_nat (List.getElem?_eq_getElem i1)
    have a2:atI cs (i:Int)=some cs[i]:=atI_nat (List.getElem?_eq_getElem i2)
    refine ⟨_,(ws[i],cs[i]),rfl,?_,List.getElem_mem _,?_⟩
    · simp! [atI_map,a1,a2,sd]
    · rw [Nat.zero_add];exact List.getElem?_eq_getElem i2)
  rw [rangeL_len] at p2
  have pm:∀ p∈ps,p.1∈ws∧p.2∈cs:=fun p hp=>by
    obtain ⟨i,hi⟩:=List.mem_iff_getElem?.mp hp
    have:=p3 i p hi
    exact ⟨this.1,List.mem_of_getElem? this.2⟩
  refine ⟨ps,?_,by omega,by omega,fun p hp=>cb _ (pm p hp).2,fun p hp=>?_,fun p hp=>wn _ (pm p hp).1⟩
  · have hz:(2 + c / 12 % 4).toNat≤1000000:=by omega
    simp! [m__law_sorts,ew,ecs,hr,p1,hz,rangeL_len]
  · have:=(p3 0 p hp).2
    rw [Nat.add_zero,cf] at this
    exact (Option.some.inj this).symm
noncomputable def ent (t:T):D:=.lst [t.d,.int t.depth]
inductive Grown (ps:List (Str×Int)) (bs:List Str) (most:Int) (ts:List T):List T→Prop
  | sign (w:Str) (m:Int) (h:ps[0]?=some (w,m)):Grown ps bs most ts (ts++[.nd w []])
  | blank (b:Str) (h:b∈bs):Grown ps bs most ts (ts++[.bl b])
  | take (k:Nat) (s:Str) (m:Int) (h:(s,m)∈ps) (hk:k < ts.length) (hm:m=((ts.length - k:Nat):Int)) (hd:((T.nd s (ts.drop k)).depth:Int)≤most):Grown ps bs most ts (ts.take k++[.nd s (ts.drop k)])
theorem cut_from {α:Type}(us:List α) (i:Int):cutG us (some i) none=us.drop (HT.sIx us.length 0 (some i)):=by
  unfold cutG
  show List.take (us.length - _) _=_
  exact List.take_of_length_le (by rw [List.length_drop];exact Nat.le_refl _)
theorem cut_to {α:Type}(us:List α) (k:Nat) (hk:k≤us.length):cutG us none (some (k:Int))=us.take k:=by
  unfold cutG
  rw [HT.sIx_nat,HT.sIx_none,List.drop_zero,Nat.sub_zero,Nat.min_eq_left hk]
theorem depths_max:∀ (ts:List T) (a:Int),0≤a→(ts.map fun t=>(t.depth:Int)).foldl max a=max a (T.depths ts)
  | [],a,h=>by simp [T.depths];omega
  | t::ts,a,h=>by
    rw [List.map_cons,List.foldl_cons,depths_max ts _ (by omega),T.depths]
    omega
noncomputable def nests (ts:List T):List Int:=ts.map fun t=>(t.depth:Int)
theorem maxD_depths (ts:List T):maxD (nests ts) 0=(T.depths ts:Int):=by
  unfold nests
  cases ts with
  | nil=>rfl
  | cons t ts=>
    show (ts.map fun t=>(t.depth:Int)).foldl max (t.depth:Int)=_
    rw [depths_max ts _ (by omega),T.depths];omega
theorem ent_nests (ts:List T) (n:Nat):compM (gN 0) yesP (ce__law_grown_1 n) [none] (ts.map ent)=some ((nests ts).map D.int):=by
  unfold nests
  refine comp_map (by simp) fun i x y hx hy=>?_
  rw [List.getElem?_map] at hx
  rw [List.map_map,List.getElem?_map] at hy
  cases e:ts[i]? with
  | none=>rw [e] at hx;cases hx
  | some t=>
    rw [e] at hx hy
    cases hx;cases hy
    exact ⟨_,rfl,rfl,by simp! [ent,atI,ixN]⟩
theorem ent_terms (ts:List T) (n:Nat):compM (gN 0) yesP (ce__law_grown_2 n) [none] (ts.map ent)=some (ts.map T.d):=by
  refine comp_map (by simp) fun i x y hx hy=>?_
  rw [List.getElem?_map] at hx hy
  cases e:ts[i]? with
  | none=>rw [e] at hx;cases hx
  | some t=>
    rw [e] at hx hy
    cases hx;cases hy
    exact ⟨_,rfl,rfl,by simp! [ent,atI,ixN]⟩
set_option maxHeartbeats 1000000 in
theorem e_grownA (ts:List T) (n most:Int) (ps:List (Str×Int)) (bs:List Str) (S:SortsOk ps) (hb0:bs=[]) (ht:ts.length≤1000) :
    ∃ ts',m__law_grown [.lst (ts.map ent),.int n,.lst (ps.map sd),.lst (bs.map D.str),.int most]=some (.lst (ts'.map ent))∧Grown ps bs most ts ts':=by
  have lo:=S.lo
  have hi:=S.hi
  have h0:0≤n % (ps.length:Int):=Int.emod_nonneg _ (by omega)
  have h1:n % (ps.length:Int) < (ps.length:Int):=Int.emod_lt_of_pos _ (by omega)
  have hpl:(0:Int) < (ps.length:Int):=by omega
  obtain ⟨⟨wd,mn⟩,ej,mj⟩:∃ q,atI ps (n % (ps.length:Int))=some q∧q∈ps:=
    ⟨ps[(n % (ps.length:Int)).toNat]'(by omega),by rw [atI_of h0 h1,List.getElem?_eq_getElem (by omega)],List.getElem_mem _⟩
  have hmod:okMod (ps.length:Int):=hpl
  obtain ⟨hm0,hm3⟩:=S.cnt _ mj
  have hm0:0≤mn:=hm0
  generalize hk0:HT.sIx ts.length 0 (some ((ts.length:Int) - mn))=k0
  have cutL:cutG (ts.map ent) (some ((ts.length:Int) - mn)) none=(ts.drop k0).map ent:=by
    rw [cut_from,List.length_map,hk0,List.map_drop]
  have ll:(ts.drop k0).length=ts.length - k0:=List.length_drop
  generalize hls:ts.drop k0=ls at cutL ll
  have en:=ent_nests ls FUEL
  have et:=ent_terms ls FUEL
  have dl:ls.length≤1000000:=by omega
  have io:=intsOf_map (nests ls)
  by_cases cc:0 < mn∧mn≤(ts.length:Int)∧(T.depths ls:Int) < most∧0 < n / 20 % 4
  · obtain ⟨a1,a2,a3,a4⟩:=cc
    have ek:k0=ts.length - mn.toNat:=by
      rw [← hk0]
      have e4:(ts.length:Int) - mn=((ts.length - mn.toNat:Nat):Int):=by omega
      rw [e4,HT.sIx_nat];omega
    have e5:(ts.length:Int) - mn=(k0:Int):=by omega
    have cutR:cutG (ts.map ent) none (some ((ts.length:Int) - mn))=(ts.take k0).map ent:=by
      rw [e5,cut_to _ _ (by rw [List.length_map];omega),List.map_take]
    have rl:(ts.take k0).length≤ts.length:=by rw [List.length_take];omega
    refine ⟨ts.take k0++[.nd wd (ts.drop k0)],?_,.take k0 wd mn mj (by omega) (by omega) (by rw [T.depth,hls];omega)⟩
    rw [hls]
    generalize ts.take k0=rs at cutR rl ⊢
    have z1:rs.length + 1≤1000000:=by omega
    have z2:1 + ls.length≤1000000:=by omega
    have z3:ls.length + 1≤1000000:=by omega
    have de:((T.depth (T.nd wd ls):Nat):Int)=(T.depths ls:Int) + 1:=by rw [T.depth];omega
    simp! [m__law_grown,atI_map,ej,sd,hmod,cutL,cutR,en,et,io,maxD_depths,a1,a2,a3,a4,dl,z1,z2,z3]
    simp [ent,d_nd,de]
  · have w0:∃ w m,ps[0]?=some (w,m)∧atI ps 0=some (w,m):=by
      refine ⟨(ps[0]'(by omega)).1,(ps[0]'(by omega)).2,List.getElem?_eq_getElem (by omega),?_⟩
      exact atI_nat (j:=0) (List.getElem?_eq_getElem (by omega))
    obtain ⟨w0,m0,g0,g1⟩:=w0
    have z1:ts.length + 1≤1000000:=by omega
    have hnc:¬ 0 < mn∨(0 < mn∧¬ mn≤(ts.length:Int))∨(0 < mn∧mn≤(ts.length:Int)∧¬ (T.depths ls:Int) < most)∨(0 < mn∧mn≤(ts.length:Int)∧(T.depths ls:Int) < most∧¬ 0 < n / 20 % 4):=by omega
    by_cases hbn:bs=[]
    · subst hbn
      refine ⟨ts++[.nd w0 []],?_,.sign w0 m0 g0⟩
      have fin:ent (.nd w0 [])=.lst [.tup [.str w0],.int 1]:=by simp [ent,d_nd,T.depth,T.depths]
      rcases hnc with x1 | ⟨x1,x2⟩ | ⟨x1,x2,x3⟩ | ⟨x1,x2,x3,x4⟩
      · simp! [m__law_grown,atI_map,ej,sd,hmod,cutL,en,io,maxD_depths,dl,z1,depL,eqL,g1,fin,eqD,dep,x1]
      · simp! [m__law_grown,atI_map,ej,sd,hmod,cutL,en,io,maxD_depths,dl,z1,depL,eqL,g1,fin,eqD,dep,x1,x2]
      · simp! [m__law_grown,atI_map,ej,sd,hmod,cutL,en,io,maxD_depths,dl,z1,depL,eqL,g1,fin,eqD,dep,x1,x2,x3]
      · simp! [m__law_grown,atI_map,ej,sd,hmod,cutL,en,io,maxD_depths,dl,z1,depL,eqL,g1,fin,eqD,dep,x1,x2,x3,x4]
    exact absurd hb0 hbn
noncomputable def szs (ts:List T):List Int:=ts.map fun t=>(t.size:Int)
theorem szs_sum:∀ ts:List T,(szs ts).sum=(T.sizes ts:Int)
  | []=>rfl
  | t::r=>by
    have:=szs_sum r
    unfold szs at this ⊢
    rw [List.map_cons,List.sum_cons,this,T.sizes];omega
theorem szs_ok (ts:List T) (h:T.sizes ts≤1000000):okSum (szs ts):=by
  refine ⟨fun n hn=>?_,?_⟩
  · unfold szs at hn
    obtain ⟨t,_,rfl⟩:=List.mem_map.mp hn
    omega
  · rw [szs_sum]
    show (T.sizes ts:Int) < 4611686018427387904
    omega
theorem e_count:∀ (n:Nat) (t:T),t.depth≤n→t.size≤1000000→m_count01_n n [t.d]=some (.int t.size)
  | 0,t,h,_=>by have:=depth_pos t;omega
  | n + 1,.bl x,h,_=>by simp! [m_count01_n,d_bl,T.size]
  | n + 1,.nd s ts,h,hz=>by
    rw [T.depth] at h
    rw [T.size] at hz
    have kl:=sizes_len ts
    have hl:ts.length≤1000000:=by omega
    have w1:compM (gN 0) yesP (ce_count01_1 (m_count01_n n) FUEL) [none] (ts.map T.d)=some ((szs ts).map D.int):=by
      refine comp_map (by simp [szs]) fun i x y hx hy=>?_
      unfold szs at hy
      rw [List.getElem?_map] at hx
      rw [List.map_map,List.getElem?_map] at hy
      cases e:ts[i]? with
      | none=>rw [e] at hx;cases hx
      | some t=>
        rw [e] at hx hy
        cases hx;cases hy
        have hm:=List.mem_of_getElem? e
        have d1:=depth_kid hm
        have d2:=size_kid hm
        exact ⟨_,rfl,rfl,by simp! [e_count n t (by omega) (by omega)]⟩
    have io:=intsOf_map (szs ts)
    have ok:=szs_ok ts (by omega)
    simp! [m_count01_n,d_nd,cut1,w1,hl,io,ok,sumD,szs_sum,T.size]
theorem grown_sizes {ps:List (Str×Int)}{bs:List Str} {most:Int}{ts ts':List T} (h:Grown ps bs most ts ts'):T.sizes ts'≤T.sizes ts + 1:=by
  cases h with
  | sign w m h=>rw [sizes_append];simp [T.sizes,T.size]
  | blank b h=>rw [sizes_append];simp [T.sizes,T.size]
  | take k s m h hk hm hd=>
    have e:T.sizes ts=T.sizes (ts.take k) + T.sizes (ts.drop k):=by rw [← sizes_append,List.take_append_drop]
    rw [sizes_append]
    simp only [T.sizes,T.size]
    omega
theorem grown_last {ps:List (Str×Int)}{bs:List Str} {most:Int}{ts ts':List T} (h:Grown ps bs most ts ts') (hm:1≤most):∃ r t,ts'=r++[t]∧(t.depth:Int)≤most:=by
  cases h with
  | sign w m h=>exact ⟨_,_,rfl,by simp [T.depth,T.depths];omega⟩
  | blank b h=>exact ⟨_,_,rfl,by simp [T.depth];omega⟩
  | take k s m h hk hm hd=>exact ⟨_,_,rfl,hd⟩
noncomputable abbrev lb__law_term_1 (m__law_grown:List D→Option D) (m__law_count:List D→Option D) (n:Nat):En→Option Fl:=
  (setM 4 (cL m__law_grown (consF (gv 4) (consF (gv 5) (consF (gv 1) (consF (gv 2) (consF (gv 3) nilF)))))))
noncomputable abbrev lb__law_term_2 (m__law_grown:List D→Option D) (m__law_count:List D→Option D) (n:Nat):En→Option Fl:=
  (ifM (upT (cT (c2 geD (cL m__law_count (consF (c2 idxD (gb 7) (cst (.int 0))) nilF)) (cL m__law_count (consF (gv 6) nilF))))) (setM 6 (c2 idxD (gb 7) (cst (.int 0)))) nxM)
noncomputable abbrev mb__law_term (m__law_grown:List D→Option D) (m__law_count:List D→Option D) (n:Nat):En→Option Fl:=
  (seqM (setM 4 (cL mkLst nilF)) (seqM (forS (cI (gv 0)) (gN 5) (lb__law_term_1 m__law_grown m__law_count n)) (seqM (setM 6 (c2 idxD (c2 idxD (gb 4) (cst (.int 0))) (cst (.int 0)))) (seqM (forS (cI (cS sliceD (gb 4) (oSome (cst (.int 1))) oNone)) (gN 7) (lb__law_term_2 m__law_grown m__law_count n)) (retM (gv 6))))))
noncomputable def m__law_term:List D→Option D:=runF (mb__law_term m__law_grown m_count01 FUEL) 4 8
noncomputable abbrev ce__law_places_1 (m__law_places:List D→Option D) (n:Nat):En→Option D:=
  (c2 addD (cL mkTup (consF (gv 1) nilF)) (gb 0))
noncomputable abbrev lb__law_places_2 (m__law_places:List D→Option D) (n:Nat):En→Option Fl:=
  (setM 1 (c2 addD (gb 1) (compE [none,some 2] (cI (cL m__law_places (consF (c2 idxD (gb 0) (c2 addD (cst (.int 1)) (gb 2))) nilF))) (gN 0) yesP (ce__law_places_1 m__law_places n))))
noncomputable abbrev mb__law_places (m__law_places:List D→Option D) (n:Nat):En→Option Fl:=
  (seqM (setM 1 (cL mkLst (consF (cL mkTup nilF) nilF))) (seqM (ifM (upT (cT (c1 (isiD "tuple") (gb 0)))) (forS (cR1 (c2 subD (cL lenD (consF (gb 0) nilF)) (cst (.int 1)))) (gN 2) (lb__law_places_2 m__law_places n)) nxM) (retM (gv 1))))
noncomputable def m__law_places_n:Nat→List D→Option D
  | 0=>fun _=>none
  | n + 1=>runF (mb__law_places (m__law_places_n n) FUEL) 1 3
noncomputable def m__law_places:List D→Option D:=m__law_places_n 100
noncomputable abbrev lb__law_purse_1 (n:Nat):En→Option Fl:=
  (seqM (setM 1 (c2 modD (c2 addD (c2 addD (c2 addD (c2 mulD (gb 1) (gb 1)) (c2 mulD (c2 mulD (cst (.int 48271)) (gb 3)) (gb 3))) (gb 3)) (cst (.int 3))) (cst (.int 2147483629)))) (setM 2 (c2 addD (c2 mulD (gb 2) (cst (.int 2147483587))) (c2 modD (c2 mulD (gb 1) (gb 1)) (cst (.int 2147483587))))))
noncomputable abbrev mb__law_purse (n:Nat):En→Option Fl:=
  (seqM (setM 1 (c2 modD (gb 0) (cst (.int 2147483647)))) (seqM (setM 2 (cst (.int 1))) (seqM (forS (cR1 (cst (.int 16))) (gN 3) (lb__law_purse_1 n)) (seqM (ifM (upT (cT (c2 eqB (c2 modD (gb 0) (cst (.int 2))) (cst (.int 0))))) (retM (cL mkLst (consF (c2 divD (cL absD (consF (gb 0) nilF)) (cst (.int 2))) (consF (gv 2) nilF)))) nxM) (retM (cL mkLst (consF (cst (.int 0)) (consF (gv 2) nilF))))))))
noncomputable def m__law_purse:List D→Option D:=runF (mb__law_purse  FUEL) 1 4
noncomputable abbrev mb__law_take (n:Nat):En→Option Fl:=
  (seqM (setM 2 (cL intD (consF (c2 eqB (c2 idxD (gb 0) (cst (.int 0))) (cst (.int 0))) nilF))) (seqM (setM 3 (c2 modD (c2 idxD (gb 0) (gb 2)) (gb 1))) (seqM (putM 0 (gv 2) (c2 divD (c2 idxD (gb 0) (gb 2)) (gb 1))) (retM (gv 3)))))
noncomputable def m__law_take:D→List D→Option (D×D):=runX (mb__law_take  FUEL) 2 4 0
noncomputable abbrev ce__law_stream_1 (m__law_purse:List D→Option D) (m__law_take:D→List D→Option (D×D)) (n:Nat):En→Option (D×En):=
  (callX m__law_take 1 (consF (cst (.int 4800)) nilF))
noncomputable abbrev mb__law_stream (m__law_purse:List D→Option D) (m__law_take:D→List D→Option (D×D)) (n:Nat):En→Option Fl:=
  (seqM (setO 2 (cL m__law_purse (consF (gv 0) nilF))) (retX (compXE 2 1 [none,some 2] (cR1 (gv 1)) (gN 0) (ce__law_stream_1 m__law_purse m__law_take n))))
noncomputable def m__law_stream:List D→Option D:=runF (mb__law_stream m__law_purse m__law_take FUEL) 2 3
noncomputable abbrev mb__law_put (m__law_put:List D→Option D) (n:Nat):En→Option Fl:=
  (seqM (ifM (upT (cT (c2 eqB (gb 1) (cL mkTup nilF)))) (retM (gv 2)) nxM) (seqM (setM 3 (c2 addD (cst (.int 1)) (c2 idxD (gb 1) (cst (.int 0))))) (retM (c2 addD (c2 addD (cS sliceD (gb 0) oNone (oSome (gv 3))) (cL mkTup (consF (cL m__law_put (consF (c2 idxD (gb 0) (gb 3)) (consF (cS sliceD (gb 1) (oSome (cst (.int 1))) oNone) (consF (gv 2) nilF)))) nilF))) (cS sliceD (gb 0) (oSome (c2 addD (gb 3) (cst (.int 1)))) oNone)))))
noncomputable def m__law_put_n:Nat→List D→Option D
  | 0=>fun _=>none
  | n + 1=>runF (mb__law_put (m__law_put_n n) FUEL) 3 4
noncomputable def m__law_put:List D→Option D:=m__law_put_n 100
noncomputable def purse (a b:Int):D:=.lst [.int a,.int b]
theorem e_purse (c:Int):∃ a b,m__law_purse [.int c]=some (purse a b):=by
  obtain ⟨ρ',e1,x,y,k,rfl,_,_⟩:=for_by (g:=gN 3) (b:=lb__law_purse_1 FUEL) (xs:=rangeL 0 16) (ρ:=[some (.dat (.int c)),some (.dat (.int (c % 2147483647))),some (.dat (.int 1)),none])
    (fun i ρ=>∃ (x y:Int) (k:Option Sl),ρ=[some (.dat (.int c)),some (.dat (.int x)),some (.dat (.int y)),k]∧0≤x∧x < 2147483648) ⟨_,_,_,rfl,by omega,by omega⟩ (by
      rintro i v ρ hv ⟨x,y,k,rfl,h0,h1⟩
      obtain ⟨hi,rfl⟩:=rangeL_get hv
      have o1:okMul x x:=okMul_r (by omega) (by omega)
      generalize hz:(x * x + 48271 * (0 + (i:Int)) * (0 + (i:Int)) + (0 + (i:Int)) + 3) % 2147483629=z
      have z0:0≤z:=by rw [← hz];exact Int.emod_nonneg _ (by decide)
      have z1:z < 2147483629:=by rw [← hz];exact Int.emod_lt_of_pos _ (by decide)
      have o2:okMul (48271 * (0 + (i:Int))) (0 + (i:Int)):=okMul_r (by omega) (by omega)
      have o3:okMul z z:=okMul_r (by omega) (by omega)
      refine ⟨[some (.dat (.int c)),some (.dat (.int z)),some (.dat (.int (y * 2147483587 + z * z % 2147483587))),some (.dat (.int (0 + (i:Int))))],.inl ?_,_,_,_,rfl,z0,by omega⟩
      subst hz
      rw [Int.zero_add] at *
      simp! [o1,o2,o3])
  by_cases h:c % 2=0
  · exact ⟨(if c < 0 then -c else c) / 2,y,by simp! [m__law_purse,e1,h,purse,eqD,dep]⟩
  · exact ⟨0,y,by simp! [m__law_purse,e1,h,purse,eqD,dep]⟩
theorem e_take (a b m:Int) (h0:0 < m) (h1:m < 1073741824):∃ r a' b',m__law_take (purse a b) [.int m]=some (.int r,purse a' b')∧0≤r∧r < m:=by
  have o1:okMod m:=h0
  have o2:okDiv m:=⟨h0,h1⟩
  by_cases h:a=0
  · refine ⟨b % m,a,b / m,?_,Int.emod_nonneg _ (by omega),Int.emod_lt_of_pos _ h0⟩
    subst h
    simp! [m__law_take,purse,o1,o2,eqD,dep,ixN]
  · refine ⟨a % m,a / m,b,?_,Int.emod_nonneg _ (by omega),Int.emod_lt_of_pos _ h0⟩
    simp! [m__law_take,purse,o1,o2,h,eqD,dep,ixN]
theorem stream_go (n:Nat) (s:Option Sl):∀ (xs:List D) (a b:Int),∃ (rs:List Int) (a' b':Int),compX (gN 0) (ce__law_stream_1 m__law_purse m__law_take n) [none,s] 1 (purse a b) xs=some (rs.map D.int,purse a' b')∧rs.length=xs.length
  | [],a,b=>⟨[],a,b,rfl,rfl⟩
  | x::xs,a,b=>by
    obtain ⟨r,a',b',e,_⟩:=e_take a b 4800 (by decide) (by decide)
    obtain ⟨rs,a2,b2,e2,e3⟩:=stream_go n s xs a' b'
    refine ⟨r::rs,a2,b2,?_,by simp [e3]⟩
    simp! [compX,e,e2]
theorem e_stream (c:Int) (k:Nat) (hk:k≤1000):∃ rs:List Int,m__law_stream [.int c,.int k]=some (.lst (rs.map D.int))∧rs.length=k:=by
  obtain ⟨a,b,e1⟩:=e_purse c
  have o1:okRng (k:Int):=okRng_of (by omega) (by omega)
  obtain ⟨rs,a',b',e2,e3⟩:=stream_go FUEL (some (.bor (purse a b))) (rangeL 0 (k:Int).toNat) a b
  rw [rangeL_len] at e3
  have e3:rs.length=k:=by omega
  have hz:k≤1000000:=by omega
  refine ⟨rs,?_,e3⟩
  rw [Int.toNat_natCast] at e2
  simp! [m__law_stream,e1,compXE,o1,rangeL_len,hz,e2]
theorem grown_depths {ps:List (Str×Int)}{bs:List Str} {most:Int}{ts ts':List T} (h:Grown ps bs most ts ts') (hm:1≤most) (hd:∀ t∈ts,(t.depth:Int)≤most):∀ t∈ts',(t.depth:Int)≤most:=by
  cases h with
  | sign w m h=>
    intro t ht
    rcases List.mem_append.mp ht with ht | ht
    · exact hd t ht
    · rw [List.mem_singleton.mp ht];simp [T.depth,T.depths];omega
  | blank b h=>
    intro t ht
    rcases List.mem_append.mp ht with ht | ht
    · exact hd t ht
    · rw [List.mem_singleton.mp ht];simp [T.depth];omega
  | take k s m h hk hm hd'=>
    intro t ht
    rcases List.mem_append.mp ht with ht | ht
    · exact hd t (List.mem_of_mem_take ht)
    · rw [List.mem_singleton.mp ht];exact hd'
inductive WT (ps:List (Str×Int)) (bs:List Str):T→Prop
  | bl {x:Str}(h:x∈bs):WT ps bs (.bl x)
  | nd {s:Str}{ts:List T} (h:(s,(ts.length:Int))∈ps) (hs:∀ t∈ts,WT ps bs t):WT ps bs (.nd s ts)
theorem grown_WT {ps:List (Str×Int)}{bs:List Str} {most:Int}{ts ts':List T} (S:SortsOk ps) (h:Grown ps bs most ts ts') (hd:∀ t∈ts,WT ps bs t):∀ t∈ts',WT ps bs t:=by
  cases h with
  | sign w m h=>
    intro t ht
    rcases List.mem_append.mp ht with ht | ht
    · exact hd t ht
    · rw [List.mem_singleton.mp ht]
      have:=S.fst _ h
      simp only at this
      subst this
      exact .nd (by simpa using List.mem_of_getElem? h) (by simp)
  | blank b h=>
    intro t ht
    rcases List.mem_append.mp ht with ht | ht
    · exact hd t ht
    · rw [List.mem_singleton.mp ht];exact .bl h
  | take k s m h hk hm hd'=>
    intro t ht
    rcases List.mem_append.mp ht with ht | ht
    · exact hd t (List.mem_of_mem_take ht)
    · rw [List.mem_singleton.mp ht]
      refine .nd (by rw [List.length_drop,← hm];exact h) fun t ht=>hd t (List.mem_of_mem_drop ht)
theorem e_termA (ns:List Int) (ps:List (Str×Int)) (bs:List Str) (most:Int) (S:SortsOk ps) (hb0:bs=[]) (hm:1≤most) (hm2:most≤90) (h0:1≤ns.length) (h1:ns.length≤900) :
    ∃ t:T,m__law_term [.lst (ns.map D.int),.lst (ps.map sd),.lst (bs.map D.str),.int most]=some t.d∧(t.depth:Int)≤most∧t.size≤ns.length∧WT ps bs t:=by
  obtain ⟨ρ',f1,ts,k,rfl,hs,hd,hW,hne⟩:=for_by (g:=gN 5) (b:=lb__law_term_1 m__law_grown m_count01 FUEL) (xs:=ns.map D.int) (ρ:=[some (.dat (.lst (ns.map D.int))),some (.dat (.lst (ps.map sd))),some (.dat (.lst (bs.map D.str))),some (.dat (.int most)),some (.dat (.lst [])),none,none,none])
    (fun i ρ=>∃ (ts:List T) (k:Option Sl),ρ=[some (.dat (.lst (ns.map D.int))),some (.dat (.lst (ps.map sd))),some (.dat (.lst (bs.map D.str))),some (.dat (.int most)),some (.dat (.lst (ts.map ent))),k,none,none]∧T.sizes ts≤i∧(∀ t∈ts,(t.depth:Int)≤most)∧(∀ t∈ts,WT ps bs t)∧(0 < i→ts≠[])) ⟨[],none,rfl,by simp [T.sizes],by simp,by simp,by simp⟩ (by
      rintro i x ρ hx ⟨ts,k,rfl,hs,hd,hW,_⟩
      have hi:i < ns.length:=by have:=(List.getElem?_eq_some_iff.mp hx).1;simpa using this
      obtain ⟨c,_,rfl⟩:=List.mem_map.mp (List.mem_of_getElem? hx)
      have tl:=sizes_len ts
      obtain ⟨ts',g1,g2⟩:=e_grownA ts c most ps bs S hb0 (by omega)
      have g3:=grown_sizes g2
      refine ⟨[some (.dat (.lst (ns.map D.int))),some (.dat (.lst (ps.map sd))),some (.dat (.lst (bs.map D.str))),some (.dat (.int most)),some (.dat (.lst (ts'.map ent))),some (.dat (.int c)),none,none],.inl ?_,ts',_,rfl,by omega,grown_depths g2 hm hd,grown_WT S g2 hW,fun _ z=>?_⟩
      · simp! [g1]
      · obtain ⟨r,t,e,_⟩:=grown_last g2 hm
        rw [e] at z;simp at z)
  rw [List.length_map] at hs hne
  cases ts with
  | nil=>exact absurd rfl (hne (by omega))
  | cons t0 tr=>
    have cnt:∀ t:T,t∈t0::tr→m_count01 [t.d]=some (.int t.size):=fun t ht=>e_count 100 t (by have:=hd t ht;omega) (by have:=size_kid ht;omega)
    have sz:∀ t:T,t∈t0::tr→t.size≤ns.length:=fun t ht=>by have:=size_kid ht;omega
    obtain ⟨ρ',f2,t,k2,rfl,ht⟩:=for_by (g:=gN 7) (b:=lb__law_term_2 m__law_grown m_count01 FUEL) (xs:=tr.map ent) (ρ:=[some (.dat (.lst (ns.map D.int))),some (.dat (.lst (ps.map sd))),some (.dat (.lst (bs.map D.str))),some (.dat (.int most)),some (.dat (.lst ((t0::tr).map ent))),k,some (.dat t0.d),none])
      (fun i ρ=>∃ (t:T) (k2:Option Sl),ρ=[some (.dat (.lst (ns.map D.int))),some (.dat (.lst (ps.map sd))),some (.dat (.lst (bs.map D.str))),some (.dat (.int most)),some (.dat (.lst ((t0::tr).map ent))),k,some (.dat t.d),k2]∧t∈t0::tr) ⟨t0,none,rfl,by simp⟩ (by
        rintro i x ρ hx ⟨t,k2,rfl,ht⟩
        obtain ⟨u,hu,rfl⟩:=List.mem_map.mp (List.mem_of_getElem? hx)
        have hu':u∈t0::tr:=List.mem_cons_of_mem _ hu
        have c1':=cnt t ht
        have c2':=cnt u hu'
        by_cases hc:(t.size:Int)≤u.size
        · refine ⟨[some (.dat (.lst (ns.map D.int))),some (.dat (.lst (ps.map sd))),some (.dat (.lst (bs.map D.str))),some (.dat (.int most)),some (.dat (.lst ((t0::tr).map ent))),k,some (.dat u.d),some (.dat (ent u))],.inl ?_,u,_,rfl,hu'⟩
          have hc':t.size≤u.size:=by omega
          simp! [ent,c1',c2',hc']
        · refine ⟨[some (.dat (.lst (ns.map D.int))),some (.dat (.lst (ps.map sd))),some (.dat (.lst (bs.map D.str))),some (.dat (.int most)),some (.dat (.lst ((t0::tr).map ent))),k,some (.dat t.d),some (.dat (ent u))],.inl ?_,t,_,rfl,ht⟩
          have hc':¬ t.size≤u.size:=by omega
          simp! [ent,c1',c2',hc'])
    refine ⟨t,?_,hd t ht,sz t ht,hW t ht⟩
    have en:ent t0=.lst [t0.d,.int t0.depth]:=rfl
    simp only [List.map_cons] at f1 f2 ⊢
    simp! [m__law_term,f1,cut1,en,f2]
    rw [en] at f2
    simp [f2]
mutual
noncomputable def plc:T→List (List Int)
  | .bl _=>[[]]
  | .nd _ ts=>[]::plcL 0 ts
noncomputable def plcL (k:Nat):List T→List (List Int)
  | []=>[]
  | t::r=>(plc t).map ((k:Int)::·)++plcL (k + 1) r
end
theorem plcL_append:∀ (k:Nat) (a b:List T),plcL k (a++b)=plcL k a++plcL (k + a.length) b
  | k,[],b=>by simp [plcL]
  | k,t::a,b=>by
    rw [List.cons_append,plcL,plcL,plcL_append (k + 1) a b,List.append_assoc,List.length_cons,show k + 1 + a.length=k + (a.length + 1) by omega]
mutual
theorem plc_len:∀ t:T,(plc t).length=t.size
  | .bl x=>by simp [plc,T.size]
  | .nd s ts=>by simp [plc,T.size,plcL_len 0 ts];omega
theorem plcL_len:∀ (k:Nat) (ts:List T),(plcL k ts).length=T.sizes ts
  | _,[]=>by simp [plcL,T.sizes]
  | k,t::r=>by simp [plcL,T.sizes,plc_len t,plcL_len (k + 1) r]
end
noncomputable def pD (p:List Int):D:=.tup (p.map D.int)
mutual
theorem plc_plen:∀ (t:T) (p:List Int),p∈plc t→p.length≤t.depth
  | .bl x,p,h=>by
    simp only [plc,List.mem_singleton] at h
    subst h;simp
  | .nd s ts,p,h=>by
    simp only [plc,List.mem_cons] at h
    rcases h with rfl | h
    · simp
    · rw [T.depth];exact plcL_plen 0 ts p h
theorem plcL_plen:∀ (k:Nat) (ts:List T) (p:List Int),p∈plcL k ts→p.length≤1 + T.depths ts
  | _,[],p,h=>by simp [plcL] at h
  | k,t::r,p,h=>by
    simp only [plcL,List.mem_append] at h
    rw [T.depths]
    rcases h with h | h
    · obtain ⟨q,hq,rfl⟩:=List.mem_map.mp h
      have:=plc_plen t q hq
      rw [List.length_cons];omega
    · have:=plcL_plen (k + 1) r p h
      omega
end
theorem e_places:∀ (n:Nat) (t:T),t.depth≤n→t.depth≤100→t.size≤1000→m__law_places_n n [t.d]=some (.lst ((plc t).map pD))
  | 0,t,h,_,_=>by have:=depth_pos t;omega
  | n + 1,.bl x,h,_,_=>by simp! [m__law_places_n,d_bl,plc,pD]
  | n + 1,.nd s ts,h,hd,hz=>by
    rw [T.depth] at h hd
    rw [T.size] at hz
    have kl:=sizes_len ts
    obtain ⟨ρ',f1,k,rfl⟩:=for_by (g:=gN 2) (b:=lb__law_places_2 (m__law_places_n n) FUEL) (xs:=rangeL 0 ts.length) (ρ:=[some (.dat (.tup (.str s::ts.map T.d))),some (.dat (.lst [.tup []])),none])
      (fun i ρ=>∃ (k:Option Sl),ρ=[some (.dat (.tup (.str s::ts.map T.d))),some (.dat (.lst (([]::plcL 0 (ts.take i)).map pD))),k]) ⟨none,by simp [plcL,pD]⟩ (by
        rintro i x ρ hx ⟨k,rfl⟩
        obtain ⟨hi,rfl⟩:=rangeL_get hx
        have hm:ts[i]∈ts:=List.getElem_mem hi
        have d1:=depth_kid hm
        have d2:=size_kid hm
        have e1:=e_places n ts[i] (by omega) (by omega) (by omega)
        have e2:atI (D.str s::ts.map T.d) (1 + (i:Int))=some ts[i].d:=by
          rw [show (1:Int) + (i:Int)=((i + 1:Nat):Int) by omega]
          exact atI_nat (by simp [hi])
        have pl1:((plc ts[i]).map pD).length≤1000000:=by rw [List.length_map,plc_len];omega
        have w1:compM (gN 0) yesP (ce__law_places_1 (m__law_places_n n) FUEL) [none,some (.dat (.int (i:Int)))] ((plc ts[i]).map pD)=some (((plc ts[i]).map ((i:Int)::·)).map pD):=by
          refine comp_map (by simp) fun j x y hx hy=>?_
          rw [List.getElem?_map] at hx
          rw [List.map_map,List.getElem?_map] at hy
          cases e:(plc ts[i])[j]? with
          | none=>rw [e] at hx;cases hx
          | some q=>
            rw [e] at hx hy
            cases hx;cases hy
            have ql:=plc_plen ts[i] q (List.mem_of_getElem? e)
            have z1:1 + q.length≤1000000:=by omega
            exact ⟨_,rfl,rfl,by simp! [pD,z1]⟩
        generalize hL:(plc ts[i]).map pD=L at e1 w1 pl1
        have tk:ts.take (i + 1)=ts.take i++[ts[i]]:=by rw [List.take_succ_eq_append_getElem hi]
        have e5:plcL 0 (ts.take (i + 1))=plcL 0 (ts.take i)++(plc ts[i]).map ((i:Int)::·):=by
          rw [tk,plcL_append]
          simp only [plcL,List.append_nil,List.length_take]
          rw [show 0 + min i ts.length=i by omega]
        have e6:T.sizes (ts.take i)≤T.sizes ts:=by
          have:T.sizes ts=T.sizes (ts.take i) + T.sizes (ts.drop i):=by rw [← sizes_append,List.take_append_drop]
          omega
        have e7:=plcL_len 0 (ts.take i)
        have e8:=plc_len ts[i]
        have z2:(plcL 0 (ts.take i)).length + 1 + (plc ts[i]).length≤1000000:=by omega
        refine ⟨[some (.dat (.tup (.str s::ts.map T.d))),some (.dat (.lst (([]::plcL 0 (ts.take (i + 1))).map pD))),some (.dat (.int (0 + (i:Int))))],.inl ?_,_,rfl⟩
        rw [e5]
        generalize plcL 0 (ts.take i)=A at z2
        have z3:A.length + 1 + (plc ts[i]).length≤1000000:=z2
        have z4:(A.length:Nat) + 1 + ((plc ts[i]).map ((i:Int)::·)).length≤1000000:=by simpa using z2
        generalize hB:(plc ts[i]).map ((i:Int)::·)=B at w1 z4 ⊢
        simp! [e2,e1,w1,pl1,z4])
    rw [rangeL_len,List.take_length] at f1
    have hr2:okRng (ts.length:Int):=okRng_of (by omega) (by omega)
    simp! [m__law_places_n,d_nd,f1,plc,hr2]
theorem partAt_cons {t u:T}{k:Int} {p:List Int}(h:partAt t (k::p)=some u):∃ s ts c,t=.nd s ts∧0≤k∧ts[k.toNat]?=some c∧partAt c p=some u:=by
  cases t with
  | bl x=>simp [partAt] at h
  | nd s ts=>
    simp only [partAt] at h
    split at h
    · rename_i h0
      cases e:ts[k.toNat]? with
      | none=>rw [e] at h;cases h
      | some c=>rw [e] at h;exact ⟨s,ts,c,rfl,h0,e,h⟩
    · cases h
theorem partAt_of {s:Str}{ts:List T} {c:T}{k:Int} {p:List Int}(h0:0≤k) (e:ts[k.toNat]?=some c):partAt (.nd s ts) (k::p)=partAt c p:=by
  simp only [partAt,if_pos h0,e]
noncomputable def putT:T→List Int→T→T
  | _,[],n=>n
  | .bl x,_::_,_=>.bl x
  | .nd s ts,k::p,n=>match ts[k.toNat]? with
    | some c=>.nd s (ts.set k.toNat (putT c p n))
    | none=>.nd s ts
theorem putT_nil (t n:T):putT t [] n=n:=by cases t<;>rfl
theorem putT_of {s:Str}{ts:List T} {c n:T}{k:Int} {p:List Int}(e:ts[k.toNat]?=some c):putT (.nd s ts) (k::p) n=.nd s (ts.set k.toNat (putT c p n)):=by
  simp only [putT,e]
mutual
theorem partAt_size:∀ (p:List Int) (t u:T),partAt t p=some u→u.size≤t.size
  | [],t,u,h=>by
    have:some t=some u:=by cases t<;>simpa [partAt] using h
    rw [Option.some.inj this];exact Nat.le_refl _
  | k::p,t,u,h=>by
    obtain ⟨s,ts,c,rfl,h0,e,h2⟩:=partAt_cons h
    have:=partAt_size p c u h2
    have:=size_kid (List.mem_of_getElem? e)
    rw [T.size];omega
end
theorem partAt_plen:∀ (p:List Int) (t u:T),partAt t p=some u→p.length≤t.depth
  | [],t,u,h=>by simp
  | k::p,t,u,h=>by
    obtain ⟨s,ts,c,rfl,h0,e,h2⟩:=partAt_cons h
    have h1:=partAt_plen p c u h2
    have h3:=depth_kid (List.mem_of_getElem? e)
    rw [T.depth,List.length_cons];omega
theorem set_split {α:Type}(l:List α) (i:Nat) (x:α) (h:i < l.length):l.take i++x::l.drop (i + 1)=l.set i x:=by
  rw [List.set_eq_take_append_cons_drop,if_pos h]
theorem cut_lo {α:Type}(l:List α) (i:Int) (h0:0≤i) (h:i.toNat≤l.length):cutG l none (some i)=l.take i.toNat:=by
  have:i=((i.toNat:Nat):Int):=by omega
  rw [this,cut_to l _ (by omega),Int.toNat_natCast]
theorem cut_hi {α:Type}(l:List α) (i:Int) (h0:0≤i) (h:i.toNat≤l.length):cutG l (some i) none=l.drop i.toNat:=by
  have e:i=((i.toNat:Nat):Int):=by omega
  rw [cut_from,e,HT.sIx_nat,Int.toNat_natCast,Nat.min_eq_left h]
theorem mid_d {s:Str}{ts:List T} {k:Nat}(hk:k < ts.length) (x:T):(D.str s::ts.map T.d).take (k + 1)++x.d::(D.str s::ts.map T.d).drop (k + 2)=D.str s::(ts.set k x).map T.d:=by
  rw [List.take_succ_cons,List.cons_append,List.drop_succ_cons,set_split _ k _ (by simpa using hk),List.map_set]
theorem e_lput:∀ (m:Nat) (p:List Int) (t u n:T),p.length < m→p.length≤90→partAt t p=some u→t.size≤1000→m__law_put_n m [t.d,pD p,n.d]=some (putT t p n).d
  | 0,p,t,u,n,h,_,_,_=>by omega
  | m + 1,[],t,u,n,h,_,_,_=>by
    rw [putT_nil]
    simp! [m__law_put_n,pD,eqD,eqL,dep,depL]
  | m + 1,k::p,t,u,n,h,h9,hp,hz=>by
    obtain ⟨s,ts,c,rfl,h0,e,h2⟩:=partAt_cons hp
    have hl:k.toNat < ts.length:=(List.getElem?_eq_some_iff.mp e).1
    have h3:=size_kid (List.mem_of_getElem? e)
    rw [T.size] at hz
    have tl:=sizes_len ts
    rw [List.length_cons] at h h9
    have ih:=e_lput m p c u n (by omega) (by omega) h2 (by omega)
    have a1:atI (D.str s::ts.map T.d) (1 + k)=some c.d:=by
      have e3:(1:Int) + k=((k.toNat + 1:Nat):Int):=by omega
      rw [e3]
      exact atI_nat (by simp [e])
    have k1:(1 + k).toNat=k.toNat + 1:=by omega
    have k2:(1 + k + 1).toNat=k.toNat + 2:=by omega
    have c1':cutG (D.str s::ts.map T.d) none (some (1 + k))=(D.str s::ts.map T.d).take (k.toNat + 1):=by rw [cut_lo _ _ (by omega) (by simp;omega),k1]
    have c2':cutG (D.str s::ts.map T.d) (some (1 + k + 1)) none=(D.str s::ts.map T.d).drop (k.toNat + 2):=by rw [cut_hi _ _ (by omega) (by simp;omega),k2]
    have md:=mid_d (s:=s) hl (putT c p n)
    rw [putT_of e,d_nd,d_nd,← md]
    have l1:((D.str s::ts.map T.d).take (k.toNat + 1)).length≤1001:=by rw [List.length_take];simp;omega
    have l2:((D.str s::ts.map T.d).drop (k.toNat + 2)).length≤1001:=by rw [List.length_drop];simp;omega
    have dp:depL (p.map D.int)≤1:=by
      have:∀ l:List Int,depL (l.map D.int)≤1:=by
        intro l
        induction l with
        | nil=>simp [depL]
        | cons x l ih=>simp only [List.map_cons,depL,dep];omega
      exact this p
    generalize (D.str s::ts.map T.d)=L at a1 c1' c2' l1 l2 ⊢
    generalize L.take (k.toNat + 1)=A at c1' l1 ⊢
    generalize L.drop (k.toNat + 2)=B at c2' l2 ⊢
    have z1:A.length + 1≤1000000:=by omega
    have z2:A.length + 1 + B.length≤1000000:=by omega
    have z2':A.length + (B.length + 1)≤1000000:=by omega
    have dz:max 1 (depL (p.map D.int)) + 1≤100:=by omega
    unfold pD at ih
    simp! [m__law_put_n,pD,a1,c1',c2',ih,z1,z2,cut1,eqL,eqD,dep,depL,dz]
theorem eq_ints:∀ p q:List Int,eqL (p.map D.int) (q.map D.int)=some (decide (p=q))
  | [],[]=>by simp [eqL]
  | [],_::_=>by simp [eqL]
  | _::_,[]=>by simp [eqL]
  | a::p,b::q=>by
    simp only [List.map_cons,eqL,eqD,eq_ints p q]
    by_cases h:a=b
    · subst h;simp
    · simp [h]
theorem dep_ints (p:List Int):depL (p.map D.int)≤1:=by
  induction p with
  | nil=>simp [depL]
  | cons x l ih=>simp only [List.map_cons,depL,dep];omega
theorem ne_pD (p q:List Int):neB (pD p) (pD q)=some (.bl (!decide (p=q))):=by
  have e:=eq_ints p q
  have d:=dep_ints p
  have d':depL (p.map D.int) + 1≤100:=by omega
  simp [neB,pD,eqD,e,dep,d']
theorem partAt_depth:∀ (p:List Int) (t u:T),partAt t p=some u→u.depth≤t.depth
  | [],t,u,h=>by
    have:some t=some u:=by cases t<;>simpa [partAt] using h
    rw [Option.some.inj this];exact Nat.le_refl _
  | k::p,t,u,h=>by
    obtain ⟨s,ts,c,rfl,h0,e,h2⟩:=partAt_cons h
    have h1:=partAt_depth p c u h2
    have h3:=depth_kid (List.mem_of_getElem? e)
    rw [T.depth];omega
noncomputable abbrev ce_filled_1 (m_is_blank:List D→Option D) (m_filled:List D→Option D) (n:Nat):En→Option D:=
  (cL m_filled (consF (gv 0) (consF (gv 1) nilF)))
noncomputable abbrev mb_filled (m_is_blank:List D→Option D) (m_filled:List D→Option D) (n:Nat):En→Option Fl:=
  (seqM (ifM (upT (cT (cL m_is_blank (consF (gv 0) nilF)))) (retM (c3 getD3 (gb 1) (gv 0) (gv 0))) nxM) (retM (c2 addD (cL mkTup (consF (c2 idxD (gb 0) (cst (.int 0))) nilF)) (cL tupleD (consF (compE [none,some 1] (cI (cS sliceD (gb 0) (oSome (cst (.int 1))) oNone)) (gN 0) yesP (ce_filled_1 m_is_blank m_filled n)) nilF)))))
noncomputable def m_filled_n:Nat→List D→Option D
  | 0=>fun _=>none
  | n + 1=>runF (mb_filled m_is_blank (m_filled_n n) FUEL) 2 2
noncomputable def m_filled:List D→Option D:=m_filled_n 100
noncomputable abbrev ce__law_filled_1 (m__law_filled:List D→Option D) (n:Nat):En→Option D:=
  (cL m__law_filled (consF (gv 0) (consF (gv 1) nilF)))
noncomputable abbrev mb__law_filled (m__law_filled:List D→Option D) (n:Nat):En→Option Fl:=
  (seqM (ifM (upT (cT (c1 (isiD "str") (gb 0)))) (retM (c3 getD3 (gb 1) (gv 0) (gv 0))) nxM) (retM (c2 addD (cS sliceD (gb 0) oNone (oSome (cst (.int 1)))) (cL tupleD (consF (compE [none,some 1] (cI (cS sliceD (gb 0) (oSome (cst (.int 1))) oNone)) (gN 0) yesP (ce__law_filled_1 m__law_filled n)) nilF)))))
noncomputable def m__law_filled_n:Nat→List D→Option D
  | 0=>fun _=>none
  | n + 1=>runF (mb__law_filled (m__law_filled_n n) FUEL) 2 2
noncomputable def m__law_filled:List D→Option D:=m__law_filled_n 100
noncomputable abbrev Fil:=List (Str×T)
noncomputable def fks (φ:Fil):List KD:=φ.map fun p=>KD.str p.1
noncomputable def fds (φ:Fil):List D:=φ.map fun p=>p.2.d
noncomputable def fdic (φ:Fil):D:=.dic (fks φ) (fds φ)
noncomputable def fval (φ:Fil) (x:Str):Option T:=(φ.find? fun p=>decide (p.1=x)).map (·.2)
theorem fks_ok (φ:Fil):kOk (fks φ)=true:=by
  unfold kOk fks
  rw [List.all_map]
  exact List.all_eq_true.mpr fun p _=>rfl
theorem fval_d (x:Str):∀ φ:Fil,valD (fks φ) (fds φ) (.str x)=(fval φ x).map T.d
  | []=>by simp [valD,fks,fval]
  | (y,t)::φ=>by
    have ih:=fval_d x φ
    by_cases h:y=x
    · subst h;simp [valD,fks,fds,fval]
    · have h':¬ KD.str y=KD.str x:=fun z=>h (by cases z;rfl)
      simp only [valD,fks,fds,fval,List.map_cons,List.zip_cons_cons,List.find?_cons,h,h',decide_false] at ih ⊢
      exact ih
mutual
noncomputable def fillT (φ:Fil):T→T
  | .bl x=>(fval φ x).getD (.bl x)
  | .nd s ts=>.nd s (fillTs φ ts)
noncomputable def fillTs (φ:Fil):List T→List T
  | []=>[]
  | t::r=>fillT φ t::fillTs φ r
end
theorem fillTs_map (φ:Fil):∀ ts:List T,fillTs φ ts=ts.map (fillT φ)
  | []=>by simp [fillTs]
  | t::r=>by simp [fillTs,fillTs_map φ r]
theorem fval_mem {φ:Fil}{x:Str} {t:T}(h:fval φ x=some t):∃ p∈φ,p.1=x∧p.2=t:=by
  unfold fval at h
  cases e:φ.find? fun p=>decide (p.1=x) with
  | none=>rw [e] at h;cases h
  | some p=>
    rw [e] at h;cases h
    exact ⟨p,List.mem_of_find?_eq_some e,by simpa using List.find?_some e,rfl⟩
theorem fill_nil:∀ t:T,fillT [] t=t:=by
  intro t
  have:∀ n (t:T),t.depth≤n→fillT [] t=t:=by
    intro n
    induction n with
    | zero=>intro t h;have:=depth_pos t;omega
    | succ n ih=>
      intro t h
      cases t with
      | bl x=>simp [fillT,fval]
      | nd s ts=>
        rw [T.depth] at h
        rw [fillT,fillTs_map]
        congr 1
        have:∀ x∈ts,fillT [] x=x:=fun x hx=>ih x (by have:=depth_kid hx;omega)
        rw [List.map_congr_left this,List.map_id']
  exact this _ t (Nat.le_refl _)
noncomputable def putF (φ:Fil) (x:Str) (t:T):Fil:=if (φ.any fun p=>decide (p.1=x))=true then φ.map (fun p=>if p.1=x then (p.1,t) else p) else φ++[(x,t)]
theorem putF_d (φ:Fil) (x:Str) (t:T):putD (fks φ) (fds φ) (.str x) t.d=(fks (putF φ x t),fds (putF φ x t)):=by
  have ha:((fks φ).any fun y=>decide (y=KD.str x))=(φ.any fun p=>decide (p.1=x)):=by
    unfold fks
    rw [List.any_map]
    congr 1
    funext p
    simp
  unfold putD putF
  rw [ha]
  split
  · have h1:fks (φ.map fun p=>if p.1=x then (p.1,t) else p)=fks φ:=by
      unfold fks
      rw [List.map_map]
      apply List.map_congr_left
      intro p _
      simp only [Function.comp]
      split<;>rfl
    have h2:((fks φ).zip (fds φ)).map (fun p=>if p.1=KD.str x then t.d else p.2)=fds (φ.map fun p=>if p.1=x then (p.1,t) else p):=by
      unfold fks fds
      rw [List.zip_map',List.map_map,List.map_map]
      apply List.map_congr_left
      intro p _
      simp only [Function.comp,KD.str.injEq]
      split<;>rfl
    rw [h1,h2]
  · simp [fks,fds]
theorem putF_keys (φ:Fil) (x:Str) (t:T) (h:(φ.map (·.1)).Nodup):((putF φ x t).map (·.1)).Nodup:=by
  unfold putF
  split
  · have:(φ.map fun p=>if p.1=x then (p.1,t) else p).map (·.1)=φ.map (·.1):=by
      rw [List.map_map]
      apply List.map_congr_left
      intro p _
      simp only [Function.comp]
      split<;>rfl
    rw [this];exact h
  · rename_i hn
    rw [List.map_append,List.nodup_append]
    refine ⟨h,by simp,fun a ha b hb=>?_⟩
    simp at hb
    subst hb
    rintro rfl
    apply hn
    obtain ⟨p,hp,rfl⟩:=List.mem_map.mp ha
    exact List.any_eq_true.mpr ⟨p,hp,by simp⟩
theorem putF_mem {φ:Fil}{x:Str} {t:T}{p:Str×T} (h:p∈putF φ x t):p∈φ∨p.2=t:=by
  unfold putF at h
  split at h
  · obtain ⟨q,hq,rfl⟩:=List.mem_map.mp h
    split
    · exact .inr rfl
    · exact .inl hq
  · rcases List.mem_append.mp h with h | h
    · exact .inl h
    · rw [List.mem_singleton.mp h];exact .inr rfl
theorem fval_of {φ:Fil}(h:(φ.map (·.1)).Nodup):∀ p∈φ,fval φ p.1=some p.2:=by
  induction φ with
  | nil=>intro p hp;cases hp
  | cons q φ ih=>
    intro p hp
    rw [List.map_cons,List.nodup_cons] at h
    rcases List.mem_cons.mp hp with rfl | hp
    · simp [fval]
    · have hne:¬ q.1=p.1:=fun z=>h.1 (by rw [z];exact List.mem_map.mpr ⟨p,hp,rfl⟩)
      have:=ih h.2 p hp
      unfold fval at this ⊢
      rw [List.find?_cons]
      simp only [hne,decide_false]
      exact this
theorem len_sub:∀ (l b:List Str),l.Nodup→(∀ x∈l,x∈b)→l.length≤b.length
  | [],b,_,_=>Nat.zero_le _
  | x::l,b,h,hs=>by
    rw [List.nodup_cons] at h
    have hx:=hs x (by simp)
    have:=len_sub l (b.erase x) h.2 fun y hy=>(List.mem_erase_of_ne (fun z=>h.1 (by rw [← z];exact hy))).mpr (hs y (List.mem_cons_of_mem _ hy))
    rw [List.length_erase_of_mem hx] at this
    have:=List.length_pos_of_mem hx
    rw [List.length_cons];omega
theorem in_strs (x:Str):∀ bs:List Str,inL (.str x) (bs.map D.str)=some (decide (x∈bs))
  | []=>by simp [inL]
  | b::bs=>by
    simp only [List.map_cons,inL,eqD,in_strs x bs]
    by_cases h:b=x
    · subst h;simp
    · have h2:(b == x)=false:=by simpa using h
      have h3:¬ x=b:=fun z=>h z.symm
      simp [h2,h3]
theorem dep_strs (l:List Str):depL (l.map D.str)≤1:=by
  induction l with
  | nil=>simp [depL]
  | cons x l ih=>simp only [List.map_cons,depL,dep];omega
noncomputable def nb (s:Option Sl):Bool:=match s with
  | some (.bor _)=>false
  | _=>true
theorem noBor_cons (s:Option Sl) (ρ:En):noBor (s::ρ)=(nb s && noBor ρ):=rfl
theorem noBor_nil:noBor []=true:=rfl
theorem nb_dat (d:D):nb (some (.dat d))=true:=rfl
theorem nb_own (q:Bool) (d:D):nb (some (.ow q d))=true:=rfl
theorem nb_none:nb none=true:=rfl
noncomputable abbrev ct__law_blanks_of_1 (m__law_blanks_of:List D→Option D) (n:Nat):En→Option Bool:=
  (cT (c2 notInB (gv 0) (gb 1)))
noncomputable abbrev ce__law_blanks_of_2 (m__law_blanks_of:List D→Option D) (n:Nat):En→Option D:=
  (gv 0)
noncomputable abbrev lb__law_blanks_of_3 (m__law_blanks_of:List D→Option D) (n:Nat):En→Option Fl:=
  (setM 1 (c2 addD (gb 1) (compE [none,some 1] (cI (cL m__law_blanks_of (consF (gv 2) nilF))) (gN 0) (ct__law_blanks_of_1 m__law_blanks_of n) (ce__law_blanks_of_2 m__law_blanks_of n))))
noncomputable abbrev mb__law_blanks_of (m__law_blanks_of:List D→Option D) (n:Nat):En→Option Fl:=
  (seqM (ifM (upT (cT (c1 (isiD "str") (gb 0)))) (retM (cL mkLst (consF (gv 0) nilF))) nxM) (seqM (setM 1 (cL mkLst nilF)) (seqM (forS (cI (cS sliceD (gb 0) (oSome (cst (.int 1))) oNone)) (gN 2) (lb__law_blanks_of_3 m__law_blanks_of n)) (retM (gv 1)))))
noncomputable def m__law_blanks_of_n:Nat→List D→Option D
  | 0=>fun _=>none
  | n + 1=>runF (mb__law_blanks_of (m__law_blanks_of_n n) FUEL) 1 3
noncomputable def m__law_blanks_of:List D→Option D:=m__law_blanks_of_n 100
noncomputable abbrev mb_paired_parts (m_is_blank:List D→Option D) (n:Nat):En→Option Fl:=
  (seqM (ifM (upT (orP (cT (cL m_is_blank (consF (gv 0) nilF))) (cT (cL m_is_blank (consF (gv 1) nilF))))) (retM (cst .non)) nxM) (seqM (ifM (upT (orP (cT (c2 neB (c2 idxD (gb 0) (cst (.int 0))) (c2 idxD (gb 1) (cst (.int 0))))) (cT (c2 neB (cL lenD (consF (gb 0) nilF)) (cL lenD (consF (gb 1) nilF)))))) (retM (cst .non)) nxM) (retM (c2 zipD (cS sliceD (gb 0) (oSome (cst (.int 1))) oNone) (cS sliceD (gb 1) (oSome (cst (.int 1))) oNone)))))
noncomputable def m_paired_parts:List D→Option D:=runF (mb_paired_parts m_is_blank FUEL) 2 2
noncomputable abbrev lb__law_fits_1 (m__law_fits:D→List D→Option (D×D)) (n:Nat):En→Option Fl:=
  (ifM (notM (valX (callX m__law_fits 2 (consF (c2 idxD (gb 0) (gb 3)) (consF (c2 idxD (gb 1) (gb 3)) nilF))))) (retM (cst (.bl false))) nxM)
noncomputable abbrev mb__law_fits (m__law_fits:D→List D→Option (D×D)) (n:Nat):En→Option Fl:=
  (seqM (ifM (upT (cT (c1 (isiD "str") (gb 0)))) (seqM (ifM (upT (cT (c2 (inK not) (gv 0) (gb 2)))) (putKM 2 (gv 0) (gv 1)) nxM) (retM (c2 eqB (c2 idxK (gb 2) (gv 0)) (gb 1)))) nxM) (seqM (ifM (upT (orP (cT (c1 (isiD "str") (gb 1))) (orP (cT (c2 neB (c2 idxD (gb 0) (cst (.int 0))) (c2 idxD (gb 1) (cst (.int 0))))) (cT (c2 neB (cL lenD (consF (gb 0) nilF)) (cL lenD (consF (gb 1) nilF))))))) (retM (cst (.bl false))) nxM) (seqM (forS (cR2 (cst (.int 1)) (cL lenD (consF (gb 1) nilF))) (gN 3) (lb__law_fits_1 m__law_fits n)) (retM (cst (.bl true))))))
noncomputable def m__law_fits_n:Nat→D→List D→Option (D×D)
  | 0=>fun _ _=>none
  | n + 1=>runX (mb__law_fits (m__law_fits_n n) FUEL) 3 4 2
noncomputable def m__law_fits:D→List D→Option (D×D):=m__law_fits_n 100
open Classical in
mutual
theorem eqT:∀ t u:T,eqD t.d u.d=some (decide (t=u))
  | .bl x,.bl y=>by
    simp only [d_bl,eqD]
    by_cases h:x=y
    · subst h;simp
    · have h2:(x == y)=false:=by simpa using h
      simp [h,h2]
  | .bl x,.nd s ts=>by simp [d_bl,d_nd,eqD]
  | .nd s ts,.bl x=>by simp [d_bl,d_nd,eqD]
  | .nd s ts,.nd r us=>by
    simp only [d_nd,eqD,eqL,eqTs ts us]
    by_cases h:s=r
    · subst h;simp
    · have h2:(s == r)=false:=by simpa using h
      simp [h,h2]
theorem eqTs:∀ ts us:List T,eqL (ts.map T.d) (us.map T.d)=some (decide (ts=us))
  | [],[]=>by simp [eqL]
  | [],_::_=>by simp [eqL]
  | _::_,[]=>by simp [eqL]
  | t::ts,u::us=>by
    simp only [List.map_cons,eqL,eqT t u,eqTs ts us]
    simp [Bool.decide_and]
end
noncomputable def pairT:T→T→Option (List (T×T))
  | .nd s ts,.nd r us=>if s=r∧ts.length=us.length then some (ts.zip us) else none
  | _,_=>none
noncomputable def ptD (p:T×T):D:=.tup [p.1.d,p.2.d]
noncomputable def pairD (o:Option (List (T×T))):D:=match o with
  | some l=>.lst (l.map ptD)
  | none=>.non
theorem pairs_map (ts us:List T):pairsD (ts.map T.d) (us.map T.d)=(ts.zip us).map ptD:=by
  unfold pairsD
  induction ts generalizing us with
  | nil=>simp
  | cons t ts ih=>
    cases us with
    | nil=>simp
    | cons u us=>simp [ptD,ih us]
theorem ne_str (x y:Str):neB (.str x) (.str y)=some (.bl (!decide (x=y))):=by
  by_cases h:x=y
  · subst h;simp [neB,eqD,dep]
  · have h2:(x == y)=false:=by simpa using h
    simp [neB,eqD,dep,h,h2]
theorem ne_int (x y:Int):neB (.int x) (.int y)=some (.bl (!decide (x=y))):=by
  by_cases h:x=y
  · subst h;simp [neB,eqD,dep]
  · have h2:(x == y)=false:=by simpa using h
    simp [neB,eqD,dep,h,h2]
open Classical in
noncomputable def mtB (φ:Fil) (x:Str) (u:T):Option Fil:=match fval φ x with
  | some v=>if v=u then some φ else none
  | none=>some (φ++[(x,u)])
mutual
noncomputable def mt (φ:Fil):T→T→Option Fil
  | .bl x,u=>mtB φ x u
  | .nd s ts,.nd r us=>if s=r∧ts.length=us.length then mts φ ts us else none
  | .nd _ _,.bl _=>none
noncomputable def mts (φ:Fil):List T→List T→Option Fil
  | t::ts,u::us=>(mt φ t u).bind fun φ'=>mts φ' ts us
  | [],_=>some φ
  | _::_,[]=>some φ
end
open Classical in
theorem ne_T (t u:T) (h:t.depth≤90):neB t.d u.d=some (.bl (!decide (t=u))):=by
  have e:=eqT t u
  have d:=dep_d t
  have d':dep t.d≤100:=by omega
  simp [neB,e,d']
theorem putF_new {φ:Fil}{x:Str} (u:T) (h:fval φ x=none):putF φ x u=φ++[(x,u)]:=by
  unfold putF
  rw [if_neg]
  intro z
  obtain ⟨p,hp,hq⟩:=List.any_eq_true.mp z
  unfold fval at h
  cases e:φ.find? fun p=>decide (p.1=x) with
  | some q=>rw [e] at h;cases h
  | none=>exact absurd hq (List.find?_eq_none.mp e p hp)
noncomputable def fitR (o:Option Fil):D:=match o with
  | some φ=>fdic φ
  | none=>.non
theorem eq_T (t u:T) (h:t.depth≤90):eqB t.d u.d=some (.bl (@decide (t=u) (Classical.propDecidable _))):=by
  have e:=eqT t u
  have d:=dep_d t
  have d':dep t.d≤100:=by omega
  simp [eqB,e,d']
theorem e_lfits_bl (n:Nat) (x:Str) (u:T) (φ:Fil) (hφ:∀ v∈φ,v.2.depth≤90) (hl:φ.length < 900000) (hu:u.depth≤90) :
    ∃ φ',m__law_fits_n (n + 1) (fdic φ) [(T.bl x).d,u.d]=some (.bl (mt φ (.bl x) u).isSome,fdic φ')∧(∀ ψ,mt φ (.bl x) u=some ψ→φ'=ψ)∧(∀ v∈φ',v.2.depth≤90)∧φ'.length≤φ.length + 1:=by
  have kl:(fks φ).length < 1000000:=by simp [fks];omega
  have ok:=fks_ok φ
  have fv:=fval_d x φ
  rw [mt,mtB]
  cases e:fval φ x with
  | some v=>
    rw [e] at fv
    obtain ⟨q,hq,_,rfl⟩:=fval_mem e
    have ev:=eq_T q.2 u (hφ q hq)
    refine ⟨φ,?_,fun ψ hψ=>?_,hφ,by omega⟩
    · by_cases hv:q.2=u
      · simp only [hv,decide_true] at ev
        simp only [hv] at fv ⊢
        simp only [d_bl,fdic]
        dsimp! [m__law_fits_n,ok,kl,fv,kdK,inK,idxK,ev]
      · simp only [hv,decide_false] at ev
        simp only [hv] at fv ⊢
        simp only [d_bl,fdic]
        dsimp! [m__law_fits_n,ok,kl,fv,kdK,inK,idxK,ev]
    · simp only at hψ
      split at hψ
      · exact Option.some.inj hψ
      · cases hψ
  | none=>
    rw [e] at fv
    have pf:=putF_d φ x u
    rw [putF_new u e] at pf
    have fv2:=fval_d x (φ++[(x,u)])
    have fn:fval (φ++[(x,u)]) x=some u:=by
      unfold fval at e ⊢
      cases e2:φ.find? fun p=>decide (p.1=x) with
      | some q=>rw [e2] at e;cases e
      | none=>rw [List.find?_append,e2];simp
    rw [fn] at fv2
    have ev:=eq_T u u hu
    simp only [decide_true] at ev
    have ok2:=fks_ok (φ++[(x,u)])
    refine ⟨φ++[(x,u)],?_,fun ψ hψ=>by simpa using hψ,fun v hv=>?_,by simp⟩
    · simp only [d_bl,fdic]
      dsimp! [m__law_fits_n,ok,ok2,kl,fv,fv2,kdK,inK,idxK,ev,pf]
    · rcases List.mem_append.mp hv with hv | hv
      · exact hφ v hv
      · rw [List.mem_singleton.mp hv];exact hu
theorem rangeL_drop (lo:Int) (n i:Nat) (h:i < n):(rangeL lo n).drop i=.int (lo + (i:Int))::(rangeL lo n).drop (i + 1):=by
  have hl:i < (rangeL lo n).length:=by rw [rangeL_len];exact h
  rw [List.drop_eq_getElem_cons hl]
  congr 1
  have:=rangeL_get (List.getElem?_eq_getElem hl)
  exact this.2
noncomputable def Told (m:D→List D→Option (D×D)) (φ:Fil) (p t:T):Prop:=∃ φ',m (fdic φ) [p.d,t.d]=some (.bl (mt φ p t).isSome,fdic φ')∧(∀ ψ,mt φ p t=some ψ→φ'=ψ)∧(∀ v∈φ',v.2.depth≤90)∧φ'.length≤φ.length + p.size
theorem lfits_loop (m:D→List D→Option (D×D)) (s r:Str) (ts us:List T) (hl:ts.length=us.length) (hm:∀ i (h1:i < ts.length) (h2:i < us.length) φ,(∀ v∈φ,v.2.depth≤90)→φ.length + ts[i].size≤1000→Told m φ ts[i] us[i]) :
    ∀ (j i:Nat),j=ts.length - i→i≤ts.length→∀ (φ:Fil) (k:Option Sl),(∀ v∈φ,v.2.depth≤90)→φ.length + T.sizes (ts.drop i)≤1000→
      ∃ (φ':Fil) (k':Option Sl),forM (gN 3) (lb__law_fits_1 m FUEL) ((rangeL 1 ts.length).drop i) [some (.dat (.tup (.str s::ts.map T.d))),some (.dat (.tup (.str r::us.map T.d))),some (.inn (fdic φ)),k] =
        some (if (mts φ (ts.drop i) (us.drop i)).isSome=true then .nx [some (.dat (.tup (.str s::ts.map T.d))),some (.dat (.tup (.str r::us.map T.d))),some (.inn (fdic φ')),k'] else .rt (.bl false) [some (.dat (.tup (.str s::ts.map T.d))),some (.dat (.tup (.str r::us.map T.d))),some (.inn (fdic φ')),k'])∧
        (∀ ψ,mts φ (ts.drop i) (us.drop i)=some ψ→φ'=ψ)∧(∀ v∈φ',v.2.depth≤90)∧φ'.length≤φ.length + T.sizes (ts.drop i):=by
  intro j
  induction j with
  | zero=>
    intro i hj hi φ k hφ hb
    have e:i=ts.length:=by omega
    subst e
    have e2:(rangeL 1 ts.length).drop ts.length=[]:=List.drop_of_length_le (by rw [rangeL_len];exact Nat.le_refl _)
    refine ⟨φ,k,?_,?_,hφ,by omega⟩
    · rw [e2,List.drop_length];simp [forM,mts]
    · rw [List.drop_length];intro ψ h;simpa [mts] using h
  | succ j ih=>
    intro i hj hi φ k hφ hb
    have h1:i < ts.length:=by omega
    have h2:i < us.length:=by omega
    have dt:=List.drop_eq_getElem_cons h1
    have du:=List.drop_eq_getElem_cons h2
    rw [dt,T.sizes] at hb
    obtain ⟨φ1,t1,t2,t3,t4⟩:=hm i h1 h2 φ hφ (by omega)
    rw [rangeL_drop 1 ts.length i h1,dt,du,mts]
    have a1:atI (D.str s::ts.map T.d) (1 + (i:Int))=some ts[i].d:=by
      rw [show (1:Int) + (i:Int)=((i + 1:Nat):Int) by omega]
      exact atI_nat (by simp [h1])
    have a2:atI (D.str r::us.map T.d) (1 + (i:Int))=some us[i].d:=by
      rw [show (1:Int) + (i:Int)=((i + 1:Nat):Int) by omega]
      exact atI_nat (by simp [h2])
    cases e:mt φ ts[i] us[i] with
    | none=>
      rw [e] at t1
      refine ⟨φ1,some (.dat (.int (1 + (i:Int)))),?_,fun ψ h=>by simp at h,t3,by rw [T.sizes];omega⟩
      simp only [Option.isSome_none] at t1
      dsimp! [forM,notM,valX,a1,a2,t1]
    | some ψ=>
      rw [e] at t1
      have:=t2 ψ e
      subst this
      simp only [Option.isSome_some] at t1
      obtain ⟨φ',k',f1,f2,f3,f4⟩:=ih (i + 1) (by omega) (by omega) φ1 (some (.dat (.int (1 + (i:Int))))) t3 (by omega)
      refine ⟨φ',k',?_,fun ψ h=>f2 ψ (by simpa using h),f3,by rw [T.sizes];omega⟩
      simp only [Option.bind_some]
      rw [← f1]
      dsimp! [forM,notM,valX,a1,a2,t1]
theorem e_lfits:∀ (n:Nat) (p t:T) (φ:Fil),p.depth≤n→p.size≤400→t.size≤400→t.depth≤90→(∀ v∈φ,v.2.depth≤90)→φ.length + p.size≤1000→Told (m__law_fits_n n) φ p t
  | 0,p,t,φ,h,_,_,_,_,_=>by have:=depth_pos p;omega
  | n + 1,.bl x,t,φ,h,_,_,htd,hφ,hl=>by
    have:=size_pos (.bl x)
    exact e_lfits_bl n x t φ hφ (by omega) htd
  | n + 1,.nd s ts,.bl y,φ,h,hp,ht,htd,hφ,hl=>by
    refine ⟨φ,?_,fun ψ h=>by simp [mt] at h,hφ,by omega⟩
    dsimp! [m__law_fits_n,d_nd,d_bl,mt]
  | n + 1,.nd s ts,.nd r us,φ,h,hp,ht,htd,hφ,hl=>by
    have n1:=ne_str s r
    have n2:=ne_int ((ts.length:Int) + 1) ((us.length:Int) + 1)
    by_cases hc:s=r∧ts.length=us.length
    · obtain ⟨rfl,hlen⟩:=hc
      rw [T.depth] at h htd
      rw [T.size] at hp ht hl
      have kl:=sizes_len ts
      have n1':neB (D.str s) (D.str s)=some (.bl false):=by simpa using n1
      have h3:((ts.length:Int) + 1=(us.length:Int) + 1):=by omega
      simp only [h3,decide_true,Bool.not_true] at n2
      obtain ⟨φ',k',f1,f2,f3,f4⟩:=lfits_loop (m__law_fits_n n) s s ts us hlen (fun i h1 h2 ψ hψ hb=>by
        have m1:ts[i]∈ts:=List.getElem_mem h1
        have m2:us[i]∈us:=List.getElem_mem h2
        have d1:=depth_kid m1
        have d2:=depth_kid m2
        have z1:=size_kid m1
        have z2:=size_kid m2
        exact e_lfits n _ _ ψ (by omega) (by omega) (by omega) (by omega) hψ hb) ts.length 0 (by omega) (by omega) φ none hφ (by rw [List.drop_zero];omega)
      rw [List.drop_zero,List.drop_zero,List.drop_zero] at f1
      rw [List.drop_zero,List.drop_zero] at f2
      have em:mt φ (.nd s ts) (.nd s us)=mts φ ts us:=by simp [mt,hlen]
      have r1:okRng 1:=okRng_of (by decide) (by decide)
      have r2:okRng ((us.length:Int) + 1):=okRng_of (by omega) (by omega)
      have e1:((us.length:Int) + 1 - 1).toNat=ts.length:=by omega
      have e1':us.length=ts.length:=hlen.symm
      have n3:neB (.int ((ts.length:Int) + 1)) (.int ((ts.length:Int) + 1))=some (.bl false):=by simpa using ne_int ((ts.length:Int) + 1) ((ts.length:Int) + 1)
      have r3:okRng ((ts.length:Int) + 1):=okRng_of (by omega) (by omega)
      refine ⟨φ',?_,by rw [em];exact f2,f3,by rw [List.drop_zero] at f4;rw [T.size];omega⟩
      rw [em]
      cases hs:(mts φ ts us).isSome
      · rw [hs] at f1
        simp only [Bool.false_eq_true,if_false] at f1
        dsimp! [m__law_fits_n,d_nd,e1',n1',n3,r1,r3,f1]
      · rw [hs] at f1
        simp only [if_true] at f1
        dsimp! [m__law_fits_n,d_nd,e1',n1',n3,r1,r3,f1]
    · have em:mt φ (.nd s ts) (.nd r us)=none:=by simp only [mt,if_neg hc]
      refine ⟨φ,?_,(fun ψ h=>by rw [em] at h;cases h),hφ,by omega⟩
      rw [em]
      by_cases h1:s=r
      · subst h1
        have h3:¬ ((ts.length:Int) + 1=(us.length:Int) + 1):=fun z=>hc ⟨rfl,by omega⟩
        simp only [h3,decide_false,Bool.not_false] at n2
        have n1':neB (D.str s) (D.str s)=some (.bl false):=by simpa using n1
        dsimp! [m__law_fits_n,d_nd,n1',n2]
      · simp only [h1,decide_false,Bool.not_false] at n1
        dsimp! [m__law_fits_n,d_nd,n1]
mutual
noncomputable def bks:T→List Str
  | .bl x=>[x]
  | .nd _ ts=>bksL [] ts
noncomputable def bksL (acc:List Str):List T→List Str
  | []=>acc
  | t::ts=>bksL (acc++(bks t).filter fun x=>!decide (x∈acc)) ts
end
theorem bksL_ext (l:List Str):∀ (ts:List T) (m:List Str),bksL (l++m.filter fun x=>!decide (x∈l)) ts=l++(bksL m ts).filter fun x=>!decide (x∈l)
  | [],m=>by simp [bksL]
  | t::ts,m=>by
    rw [bksL,bksL,← bksL_ext l ts]
    congr 1
    rw [List.filter_append,List.append_assoc]
    congr 2
    rw [List.filter_filter]
    apply List.filter_congr
    intro x _
    by_cases h1:x∈l<;>by_cases h2:x∈m<;>simp [h1,h2]
theorem bksL_nil (l:List Str) (ts:List T):bksL l ts=l++(bksL [] ts).filter fun x=>!decide (x∈l):=by
  have:=bksL_ext l ts []
  simpa using this
theorem comp_keep {acc:List Str}(n:Nat) (hd:depL (acc.map D.str)≤100) (m:List D→Option D) (l:List Str) :
    compM (gN 0) (ct__law_blanks_of_1 m n) (ce__law_blanks_of_2 m n) [none,some (.dat (.lst (acc.map D.str)))] (l.map D.str)=some ((l.filter fun x=>!decide (x∈acc)).map D.str):=by
  have:=comp_filter (g:=gN 0) (t:=ct__law_blanks_of_1 m n) (f:=ce__law_blanks_of_2 m n) (ρ:=[none,some (.dat (.lst (acc.map D.str)))]) (xs:=l.map D.str) (φ:=id)
    (p:=fun x=>match x with | .str z=>!decide (z∈acc) | _=>false) (by
      intro x hx
      obtain ⟨z,_,rfl⟩:=List.mem_map.mp hx
      have i1:=in_strs z acc
      exact ⟨_,rfl,by simp! [i1,hd],fun _=>by simp [runF,startD,seqM,setM,setO,noBor,asgM,asgX,dropM,dropX,retM,retO,retN,ifM,upT,cT,cTr,truD,andP,orP,notP,andV,orV,notV,c1,c2,cL,cS,consF,nilF,cst,gv,gb,gN,gNil,gCons,gTup,oNone,oSome,compE,yesP,cI,cR1,cR2,cEnT,forS,itS,rng1,rng2,appM,extM,popM,popAtM,mkTup,mkLst,nxM,isiD,tyN,isiB,lim,bors,st0E,negD,revX,revD,tupleD,listD,lenD,idxD,sliceD,sliceL,addD,catD,subD,mulD,divD,modD,powD,cmpI,geD,isB,isNotB,isNon,absD,intD,runX,startX,callX,retX,putM,putKM,keyD,frzM,c3,getD3,dictD,disp1,cSg,innAt,itS,Sl.inn,Sl.own,maxDD,eqB,neB,inB,notInB,okMul_r,okMul_l,okDiv_of,okMod_of,okPow_of,okRng_of,at0,at1,at2,at3]⟩)
  rw [this]
  congr 1
  rw [List.filter_map,List.map_id]
  rfl
mutual
theorem bks_len:∀ t:T,(bks t).length≤t.size
  | .bl x=>by simp [bks,T.size]
  | .nd s ts=>by have:=bksL_len ts [];simp [bks,T.size] at this ⊢;omega
theorem bksL_len:∀ (ts:List T) (l:List Str),(bksL l ts).length≤l.length + T.sizes ts
  | [],l=>by simp [bksL]
  | t::ts,l=>by
    have h1:=bksL_len ts (l++(bks t).filter fun x=>!decide (x∈l))
    have h2:=bks_len t
    have h3:=List.length_filter_le (fun x=>!decide (x∈l)) (bks t)
    rw [List.length_append] at h1
    rw [bksL,T.sizes];omega
end
theorem e_lblanks:∀ (n:Nat) (t:T),t.depth≤n→t.size≤900000→m__law_blanks_of_n n [t.d]=some (.lst ((bks t).map D.str))
  | 0,t,h,_=>by have:=depth_pos t;omega
  | n + 1,.bl x,h,_=>by simp! [m__law_blanks_of_n,d_bl,bks]
  | n + 1,.nd s ts,h,hz=>by
    rw [T.depth] at h
    rw [T.size] at hz
    obtain ⟨ρ',f1,k,rfl⟩:=for_by (g:=gN 2) (b:=lb__law_blanks_of_3 (m__law_blanks_of_n n) FUEL) (xs:=ts.map T.d) (ρ:=[some (.dat (.tup (.str s::ts.map T.d))),some (.dat (.lst [])),none])
      (fun i ρ=>∃ (k:Option Sl),ρ=[some (.dat (.tup (.str s::ts.map T.d))),some (.dat (.lst ((bksL [] (ts.take i)).map D.str))),k]) ⟨none,by simp [bksL]⟩ (by
        rintro i x ρ hx ⟨k,rfl⟩
        rw [List.getElem?_map] at hx
        cases e:ts[i]? with
        | none=>rw [e] at hx;cases hx
        | some t=>
          rw [e] at hx
          cases hx
          have hi:i < ts.length:=(List.getElem?_eq_some_iff.mp e).1
          have et:ts[i]=t:=by rw [List.getElem?_eq_getElem hi] at e;exact Option.some.inj e
          have hm:=List.mem_of_getElem? e
          have d1:=depth_kid hm
          have d2:=size_kid hm
          have e1:=e_lblanks n t (by omega) (by omega)
          have tk:ts.take (i + 1)=ts.take i++[t]:=by rw [List.take_succ_eq_append_getElem hi,et]
          have e5:bksL [] (ts.take (i + 1))=bksL [] (ts.take i)++(bks t).filter fun x=>!decide (x∈bksL [] (ts.take i)):=by
            have app:∀ (a b:List T) (l:List Str),bksL l (a++b)=bksL (bksL l a) b:=by
              intro a
              induction a with
              | nil=>intro b l;simp [bksL]
              | cons c a ih=>intro b l;rw [List.cons_append,bksL,bksL,ih]
            rw [tk,app,bksL,bksL]
          have l1:=bksL_len (ts.take i) []
          have e6:T.sizes (ts.take i) + t.size≤T.sizes ts:=by
            have:T.sizes ts=T.sizes (ts.take (i + 1)) + T.sizes (ts.drop (i + 1)):=by rw [← sizes_append,List.take_append_drop]
            rw [tk,sizes_append] at this
            simp only [T.sizes] at this
            omega
          have l2:=bks_len t
          rw [e5]
          generalize bksL [] (ts.take i)=acc at l1 ⊢
          have dd:=dep_strs acc
          have cf:=comp_keep (acc:=acc) FUEL (by omega) (m__law_blanks_of_n n) (bks t)
          have l3:=List.length_filter_le (fun x=>!decide (x∈acc)) (bks t)
          simp only [List.length_nil,Nat.zero_add] at l1
          have z0:(bks t).length≤1000000:=by omega
          generalize hB:((bks t).filter fun x=>!decide (x∈acc))=B at cf l3 ⊢
          have z1:acc.length + B.length≤1000000:=by omega
          refine ⟨[some (.dat (.tup (.str s::ts.map T.d))),some (.dat (.lst ((acc++B).map D.str))),some (.dat t.d)],.inl ?_,_,rfl⟩
          simp! [e1,cf,z0,z1])
    rw [List.length_map,List.take_length] at f1
    simp! [m__law_blanks_of_n,d_nd,cut1,f1,bks]
noncomputable def cutF (φ:Fil) (l:List Str):Fil:=l.map fun b=>(b,(fval φ b).getD (.bl b))
theorem cutF_val (φ:Fil) (x:Str):∀ l:List Str,fval (cutF φ l) x=if x∈l then some ((fval φ x).getD (.bl x)) else none
  | []=>by simp [cutF,fval]
  | b::l=>by
    have ih:=cutF_val φ x l
    by_cases h:b=x
    · subst h;simp [cutF,fval]
    · have h':¬ x=b:=fun z=>h z.symm
      unfold cutF fval at ih ⊢
      simp only [List.map_cons,List.find?_cons,h,decide_false,List.mem_cons,h',false_or]
      exact ih
mutual
theorem mt_fill (φ:Fil):∀ (p:T) (l:List Str),mt (cutF φ l) p (fillT φ p)=some (cutF φ (l++(bks p).filter fun x=>!decide (x∈l)))
  | .bl x,l=>by
    rw [mt,mtB,cutF_val,fillT]
    by_cases h:x∈l
    · simp [h,bks]
    · simp [h,bks,cutF]
  | .nd s ts,l=>by
    rw [fillT]
    simp only [mt]
    rw [if_pos (by rw [fillTs_map];simp),mts_fill φ ts l,bks,bksL_nil l ts]
theorem mts_fill (φ:Fil):∀ (ts:List T) (l:List Str),mts (cutF φ l) ts (fillTs φ ts)=some (cutF φ (bksL l ts))
  | [],l=>by simp [mts,bksL]
  | t::ts,l=>by
    rw [fillTs,mts,mt_fill φ t l,Option.bind_some,mts_fill φ ts,bksL]
end
mutual
theorem WT_bks {ps:List (Str×Int)}{bs:List Str}:∀ t:T,WT ps bs t→∀ x∈bks t,x∈bs
  | .bl y,h,x,hx=>by
    simp [bks] at hx;subst hx
    cases h with | bl h=>exact h
  | .nd s ts,h,x,hx=>by
    cases h with
    | nd h hs=>
      rw [bks] at hx
      rcases WT_bksL ts hs [] x hx with h | h
      · cases h
      · exact h
theorem WT_bksL {ps:List (Str×Int)}{bs:List Str}:∀ ts:List T,(∀ t∈ts,WT ps bs t)→∀ (l:List Str) (x:Str),x∈bksL l ts→x∈l∨x∈bs
  | [],h,l,x,hx=>by rw [bksL] at hx;exact .inl hx
  | t::ts,h,l,x,hx=>by
    rw [bksL] at hx
    rcases WT_bksL ts (fun u hu=>h u (List.mem_cons_of_mem _ hu)) _ x hx with h1 | h1
    · rcases List.mem_append.mp h1 with h2 | h2
      · exact .inl h2
      · exact .inr (WT_bks t (h t (by simp)) x (List.mem_filter.mp h2).1)
    · exact .inr h1
end
theorem fval_put (φ:Fil) (x y:Str) (t:T):fval (putF φ x t) y=if y=x then some t else fval φ y:=by
  unfold putF
  split
  · rename_i ha
    induction φ with
    | nil=>simp at ha
    | cons p φ ih=>
      unfold fval at ih ⊢
      by_cases hp:p.1=x
      · by_cases hy:y=x
        · subst hy;simp [hp]
        · have hy':¬ x=y:=fun z=>hy z.symm
          simp only [List.map_cons,hp,if_true,List.find?_cons,hy',decide_false,hy,if_false]
          by_cases ha2:(φ.any fun p=>decide (p.1=x))=true
          · have:=ih ha2
            simp only [hy,if_false] at this
            exact this
          · have:φ.map (fun p=>if p.1=x then (p.1,t) else p)=φ:=by
              have:∀ q∈φ,(if q.1=x then (q.1,t) else q)=q:=fun q hq=>by
                rw [if_neg]
                intro z
                exact ha2 (List.any_eq_true.mpr ⟨q,hq,by simpa using z⟩)
              rw [List.map_congr_left this,List.map_id']
            rw [this]
      · have ha2:(φ.any fun p=>decide (p.1=x))=true:=by simpa [hp] using ha
        have:=ih ha2
        by_cases hpy:p.1=y
        · have:¬ y=x:=fun z=>hp (by rw [hpy,z])
          simp [hp,hpy,this]
        · simp only [List.map_cons,hp,if_false,List.find?_cons,hpy,decide_false]
          exact this
  · rename_i ha
    have hn:φ.find? (fun p=>decide (p.1=x))=none:=List.find?_eq_none.mpr fun p hp h=>ha (List.any_eq_true.mpr ⟨p,hp,h⟩)
    unfold fval
    by_cases hy:y=x
    · subst hy;rw [List.find?_append,hn];simp
    · have hy':¬ x=y:=fun z=>hy z.symm
      rw [List.find?_append]
      simp [hy,hy']
noncomputable abbrev ck_with_blank_1 (m_filled:List D→Option D) (n:Nat):En→Option D:=
  (gv 0)
noncomputable abbrev ce_with_blank_2 (m_filled:List D→Option D) (n:Nat):En→Option D:=
  (cL m_filled (consF (gv 1) (consF (c2 disp1 (gv 2) (gv 3)) nilF)))
noncomputable abbrev mb_with_blank (m_filled:List D→Option D) (n:Nat):En→Option Fl:=
  (seqM (setO 3 (compDE [none,none,some 1,some 2] (cIs (gv 0)) (gTup (gCons (gN 0) (gCons (gN 1) gNil))) yesP (ck_with_blank_1 m_filled n) (ce_with_blank_2 m_filled n))) (seqM (putKM 3 (gv 1) (gv 2)) (retO 3)))
noncomputable def m_with_blank:List D→Option D:=runF (mb_with_blank m_filled FUEL) 3 4
noncomputable abbrev lb_blanks_of_1 (m_placed_parts:List D→Option D) (m_is_blank:List D→Option D) (n:Nat):En→Option Fl:=
  (ifM (upT (andP (cT (cL m_is_blank (consF (gv 3) nilF))) (cT (c2 notInB (gv 3) (gb 1))))) (dropX (appM 1 (gv 3))) nxM)
noncomputable abbrev mb_blanks_of (m_placed_parts:List D→Option D) (m_is_blank:List D→Option D) (n:Nat):En→Option Fl:=
  (seqM (setO 1 (cL mkLst nilF)) (seqM (forS (cI (cL m_placed_parts (consF (gv 0) nilF))) (gTup (gCons (gN 2) (gCons (gN 3) gNil))) (lb_blanks_of_1 m_placed_parts m_is_blank n)) (retO 1)))
noncomputable def m_blanks_of:List D→Option D:=runF (mb_blanks_of m_placed_parts m_is_blank FUEL) 1 4
noncomputable abbrev lb_made_alike_1 (m_is_blank:List D→Option D) (m_paired_parts:List D→Option D) (m_filled:List D→Option D) (m_with_blank:List D→Option D) (m_blanks_of:List D→Option D) (n:Nat):En→Option Fl:=
  (seqM (asgX (popAtM 3 (cst (.int 0))) (gTup (gCons (gN 4) (gCons (gN 5) gNil)))) (seqM (parM 6 7 (consF (cL m_filled (consF (gv 4) (consF (gv 2) nilF))) (consF (cL m_filled (consF (gv 5) (consF (gv 2) nilF))) nilF))) (seqM (ifM (upT (cT (c2 eqB (gb 6) (gb 7)))) (fun ρ=>some (.ct ρ)) nxM) (seqM (ifM (upT (cT (cL m_is_blank (consF (gv 7) nilF)))) (parM 6 7 (consF (gv 7) (consF (gv 6) nilF))) nxM) (seqM (ifM (upT (cT (cL m_is_blank (consF (gv 6) nilF)))) (seqM (ifM (upT (cT (c2 inB (gv 6) (cL m_blanks_of (consF (gv 7) nilF))))) (retM (cst .non)) nxM) (seqM (setM 2 (cL m_with_blank (consF (gv 2) (consF (gv 6) (consF (gv 7) nilF))))) (fun ρ=>some (.ct ρ)))) nxM) (seqM (setM 8 (cL m_paired_parts (consF (gv 6) (consF (gv 7) nilF)))) (seqM (ifM (upT (cT (c2 isB (gb 8) (cst .non)))) (retM (cst .non)) nxM) (setO 3 (c2 catD (gb 8) (gb 3))))))))))
noncomputable abbrev mb_made_alike (m_is_blank:List D→Option D) (m_paired_parts:List D→Option D) (m_filled:List D→Option D) (m_with_blank:List D→Option D) (m_blanks_of:List D→Option D) (n:Nat):En→Option Fl:=
  (seqM (setM 2 (cst (.dic [] []))) (seqM (setO 3 (cL mkLst (consF (cL mkTup (consF (gv 0) (consF (gv 1) nilF))) nilF))) (seqM (whileM (upT (cTr (gb 3))) (lb_made_alike_1 m_is_blank m_paired_parts m_filled m_with_blank m_blanks_of n) n) (retM (gv 2)))))
noncomputable def m_made_alike:List D→Option D:=runF (mb_made_alike m_is_blank m_paired_parts m_filled m_with_blank m_blanks_of FUEL) 2 9
noncomputable abbrev lb__law_walks_1 (m__law_blanks_of:List D→Option D) (m__law_filled:List D→Option D) (n:Nat):En→Option Fl:=
  (ifM (upT (orP (cT (c2 notInB (gv 5) (gb 3))) (cT (c2 (inK id) (gv 5) (gb 2))))) (retM (cst (.bl false))) nxM)
noncomputable abbrev lb__law_walks_2 (m__law_blanks_of:List D→Option D) (m__law_filled:List D→Option D) (n:Nat):En→Option Fl:=
  (seqM (ifM (upT (cT (c2 notInB (gv 4) (gb 3)))) (retM (cst (.bl false))) nxM) (forS (cI (cL m__law_blanks_of (consF (c2 idxK (gb 2) (gv 4)) nilF))) (gN 5) (lb__law_walks_1 m__law_blanks_of m__law_filled n)))
noncomputable abbrev mb__law_walks (m__law_blanks_of:List D→Option D) (m__law_filled:List D→Option D) (n:Nat):En→Option Fl:=
  (seqM (setM 3 (c2 addD (cL m__law_blanks_of (consF (gv 0) nilF)) (cL m__law_blanks_of (consF (gv 1) nilF)))) (seqM (ifM (upT (orP (notP (cT (c1 (isiD "dict") (gb 2)))) (cT (c2 neB (cL m__law_filled (consF (gv 0) (consF (gv 2) nilF))) (cL m__law_filled (consF (gv 1) (consF (gv 2) nilF))))))) (retM (cst (.bl false))) nxM) (seqM (forS (cKs (gv 2)) (gN 4) (lb__law_walks_2 m__law_blanks_of m__law_filled n)) (retM (cst (.bl true))))))
noncomputable def m__law_walks:List D→Option D:=runF (mb__law_walks m__law_blanks_of m__law_filled FUEL) 3 6
mutual
noncomputable def vs:T→List Str
  | .bl x=>[x]
  | .nd _ ts=>vsL ts
noncomputable def vsL:List T→List Str
  | []=>[]
  | t::r=>vs t++vsL r
end
theorem vsL_mem {x:Str}:∀ {ts:List T},x∈vsL ts↔∃ t∈ts,x∈vs t
  | []=>by simp [vsL]
  | t::r=>by simp [vsL,List.mem_append,vsL_mem (ts:=r)]
mutual
theorem bks_mem {x:Str}:∀ t:T,x∈bks t↔x∈vs t
  | .bl y=>by simp [bks,vs]
  | .nd s ts=>by rw [bks,vs,bksL_mem ts];simp
theorem bksL_mem {x:Str}:∀ (ts:List T) (l:List Str),x∈bksL l ts↔x∈l∨x∈vsL ts
  | [],l=>by simp [bksL,vsL]
  | t::r,l=>by
    rw [bksL,bksL_mem r,List.mem_append,List.mem_filter,bks_mem t,vsL,List.mem_append]
    by_cases h:x∈l<;>simp [h]
end
mutual
noncomputable def wid:T→Nat
  | .bl _=>0
  | .nd _ ts=>max ts.length (wids ts)
noncomputable def wids:List T→Nat
  | []=>0
  | t::r=>max (wid t) (wids r)
end
theorem wid_kid:∀ {ts:List T}{t:T},t∈ts→wid t≤wids ts
  | _::_,_,h=>by
    rcases List.mem_cons.mp h with rfl | h
    · rw [wids];exact Nat.le_max_left _ _
    · rw [wids];exact Nat.le_trans (wid_kid h) (Nat.le_max_right _ _)
mutual
theorem wid_size:∀ t:T,wid t≤t.size
  | .bl _=>by simp [wid]
  | .nd s ts=>by
    have h1:=wids_size ts
    have h2:=sizes_len ts
    rw [wid,T.size];omega
theorem wids_size:∀ ts:List T,wids ts≤T.sizes ts
  | []=>by simp [wids]
  | t::r=>by
    have h1:=wid_size t
    have h2:=wids_size r
    rw [wids,T.sizes];omega
end
inductive Sub:T→T→Prop
  | refl (t:T):Sub t t
  | kid {s:Str}{ts:List T} {u t:T}(h:t∈ts) (r:Sub u t):Sub u (.nd s ts)
theorem Sub.trans {a b c:T}(h1:Sub a b) (h2:Sub b c):Sub a c:=by
  induction h2 with
  | refl=>exact h1
  | kid h _ ih=>exact .kid h (ih h1)
theorem Sub.size {u t:T}(h:Sub u t):u.size≤t.size:=by
  induction h with
  | refl=>exact Nat.le_refl _
  | kid h _ ih=>have:=size_kid h;rw [T.size];omega
theorem Sub.depth {u t:T}(h:Sub u t):u.depth≤t.depth:=by
  induction h with
  | refl=>exact Nat.le_refl _
  | kid h _ ih=>have:=depth_kid h;rw [T.depth];omega
theorem Sub.vs {u t:T}(h:Sub u t):∀ x∈vs u,x∈FL.vs t:=by
  induction h with
  | refl=>exact fun _ h=>h
  | kid h _ ih=>intro x hx;rw [FL.vs,vsL_mem];exact ⟨_,h,ih x hx⟩
mutual
theorem vs_sub {x:Str}:∀ t:T,x∈vs t→Sub (.bl x) t
  | .bl y,h=>by simp [vs] at h;subst h;exact .refl _
  | .nd s ts,h=>by
    rw [vs] at h
    obtain ⟨t,ht,hs⟩:=vsL_sub ts h
    exact .kid ht hs
theorem vsL_sub {x:Str}:∀ ts:List T,x∈vsL ts→∃ t∈ts,Sub (.bl x) t
  | [],h=>by simp [vsL] at h
  | t::r,h=>by
    rw [vsL,List.mem_append] at h
    rcases h with h | h
    · exact ⟨t,by simp,vs_sub t h⟩
    · obtain ⟨u,hu,hs⟩:=vsL_sub r h
      exact ⟨u,List.mem_cons_of_mem _ hu,hs⟩
end
theorem fill_sub {u t:T}(φ:Fil) (h:Sub u t):Sub (fillT φ u) (fillT φ t):=by
  induction h with
  | refl=>exact .refl _
  | kid h _ ih=>
    rw [fillT,fillTs_map]
    exact .kid (List.mem_map_of_mem h) ih
mutual
theorem fill_congr {φ ψ:Fil}:∀ t:T,(∀ x∈vs t,fillT φ (.bl x)=fillT ψ (.bl x))→fillT φ t=fillT ψ t
  | .bl x,h=>h x (by simp [vs])
  | .nd s ts,h=>by
    rw [fillT,fillT,fills_congr ts (by rw [vs] at h;exact h)]
theorem fills_congr {φ ψ:Fil}:∀ ts:List T,(∀ x∈vsL ts,fillT φ (.bl x)=fillT ψ (.bl x))→fillTs φ ts=fillTs ψ ts
  | [],_=>by simp [fillTs]
  | t::r,h=>by
    rw [vsL] at h
    rw [fillTs,fillTs,fill_congr t (fun x hx=>h x (List.mem_append_left _ hx)),fills_congr r (fun x hx=>h x (List.mem_append_right _ hx))]
end
noncomputable def Resp (σ φ:Fil):Prop:=∀ x,fillT σ (fillT φ (.bl x))=fillT σ (.bl x)
mutual
theorem resp_fill {σ φ:Fil}(h:Resp σ φ):∀ t:T,fillT σ (fillT φ t)=fillT σ t
  | .bl x=>h x
  | .nd s ts=>by
    have e:∀ us:List T,fillT σ (.nd s us)=.nd s (fillTs σ us):=fun us=>by rw [fillT]
    have e2:fillT φ (.nd s ts)=.nd s (fillTs φ ts):=by rw [fillT]
    rw [e2,e,e,resp_fills h ts]
theorem resp_fills {σ φ:Fil}(h:Resp σ φ):∀ ts:List T,fillTs σ (fillTs φ ts)=fillTs σ ts
  | []=>by simp [fillTs]
  | t::r=>by rw [fillTs,fillTs,fillTs,resp_fill h t,resp_fills h r]
end
mutual
theorem vs_fill {φ:Fil}{x:Str}:∀ t:T,x∈vs (fillT φ t)↔∃ y∈vs t,x∈vs (fillT φ (.bl y))
  | .bl y=>by simp [vs]
  | .nd s ts=>by rw [fillT,vs,vs,vsL_fill ts]
theorem vsL_fill {φ:Fil}{x:Str}:∀ ts:List T,x∈vsL (fillTs φ ts)↔∃ y∈vsL ts,x∈vs (fillT φ (.bl y))
  | []=>by simp [fillTs,vsL]
  | t::r=>by
    rw [fillTs,vsL,vsL,List.mem_append,vs_fill t,vsL_fill r]
    constructor
    · rintro (⟨y,h1,h2⟩ | ⟨y,h1,h2⟩)
      · exact ⟨y,List.mem_append_left _ h1,h2⟩
      · exact ⟨y,List.mem_append_right _ h1,h2⟩
    · rintro ⟨y,h1,h2⟩
      rcases List.mem_append.mp h1 with h1 | h1
      · exact .inl ⟨y,h1,h2⟩
      · exact .inr ⟨y,h1,h2⟩
end
theorem fill_bl {φ:Fil}{x:Str} (h:fval φ x=none):fillT φ (.bl x)=.bl x:=by rw [fillT,h];rfl
theorem fill_some {φ:Fil}{x:Str} {t:T}(h:fval φ x=some t):fillT φ (.bl x)=t:=by rw [fillT,h];rfl
theorem fval_none {φ:Fil}{x:Str}:fval φ x=none↔x∉φ.map (·.1):=by
  unfold fval
  rw [Option.map_eq_none_iff,List.find?_eq_none]
  constructor
  · intro h hm
    obtain ⟨p,hp,rfl⟩:=List.mem_map.mp hm
    exact h p hp (by simp)
  · intro h p hp e
    exact h (List.mem_map.mpr ⟨p,hp,by simpa using e⟩)
noncomputable def Idem (φ:Fil):Prop:=∀ p∈φ,∀ x∈vs p.2,fval φ x=none
theorem Idem.vs {φ:Fil}(h:Idem φ) {t:T}{x:Str} (hx:x∈FL.vs (fillT φ t)):fval φ x=none:=by
  obtain ⟨y,hy,h2⟩:=(vs_fill t).mp hx
  cases e:fval φ y with
  | none=>
    rw [fill_bl e] at h2
    simp [FL.vs] at h2
    rw [h2];exact e
  | some u=>
    rw [fill_some e] at h2
    obtain ⟨p,hp,_,rfl⟩:=fval_mem e
    exact h p hp x h2
theorem fill_id {φ:Fil}{t:T} (h:∀ x∈vs t,fval φ x=none):fillT φ t=t:=by
  have:=fill_congr (φ:=φ) (ψ:=[]) t fun x hx=>by rw [fill_bl (h x hx),fill_bl rfl]
  rw [this,fill_nil]
theorem Idem.resp {φ:Fil}(h:Idem φ):Resp φ φ:=fun x=>fill_id fun y hy=>h.vs hy
noncomputable def wbF (φ:Fil) (x:Str) (r:T):Fil:=φ.map fun p=>(p.1,fillT [(x,r)] p.2)
noncomputable def wb (φ:Fil) (x:Str) (r:T):Fil:=wbF φ x r++[(x,r)]
theorem fval_wbF (φ:Fil) (x:Str) (r:T) (y:Str):fval (wbF φ x r) y=(fval φ y).map (fillT [(x,r)]):=by
  induction φ with
  | nil=>rfl
  | cons p φ ih=>
    unfold fval wbF at ih ⊢
    by_cases h:p.1=y
    · simp [h]
    · simp only [List.map_cons,List.find?_cons,h,decide_false]
      exact ih
theorem fval_one (x:Str) (r:T) (y:Str):fval [(x,r)] y=if y=x then some r else none:=by
  by_cases h:y=x
  · subst h;simp [fval]
  · have h':¬ x=y:=fun z=>h z.symm
    simp [fval,h,h']
theorem fval_app (φ ψ:Fil) (y:Str):fval (φ++ψ) y=(fval φ y).or (fval ψ y):=by
  unfold fval
  rw [List.find?_append]
  cases φ.find? fun p=>decide (p.1=y)<;>simp
theorem fval_wb {φ:Fil}{x:Str} (hx:fval φ x=none) (r:T) (y:Str):fillT (wb φ x r) (.bl y)=fillT [(x,r)] (fillT φ (.bl y)):=by
  have e:fval (wb φ x r) y=((fval φ y).map (fillT [(x,r)])).or (fval [(x,r)] y):=by
    unfold wb;rw [fval_app,fval_wbF]
  cases e1:fval φ y with
  | some u=>
    rw [e1] at e
    rw [fill_some e1,fill_some (t:=fillT [(x,r)] u) (by rw [e];rfl)]
  | none=>
    rw [e1] at e
    rw [fill_bl e1]
    rw [fillT,fillT,e];rfl
theorem fill_wb {φ:Fil}{x:Str} (hx:fval φ x=none) (r:T):∀ t:T,fillT (wb φ x r) t=fillT [(x,r)] (fillT φ t):=by
  have key:∀ n (t:T),t.depth≤n→fillT (wb φ x r) t=fillT [(x,r)] (fillT φ t):=by
    intro n
    induction n with
    | zero=>intro t h;have:=depth_pos t;omega
    | succ n ih=>
      intro t h
      cases t with
      | bl y=>exact fval_wb hx r y
      | nd s ts=>
        rw [T.depth] at h
        simp only [fillT]
        congr 1
        rw [fillTs_map,fillTs_map,fillTs_map,List.map_map]
        exact List.map_congr_left fun t ht=>ih t (by have:=depth_kid ht;omega)
  exact fun t=>key _ t (Nat.le_refl _)
theorem wb_keys (φ:Fil) (x:Str) (r:T):(wb φ x r).map (·.1)=φ.map (·.1)++[x]:=by
  unfold wb wbF
  rw [List.map_append,List.map_map];rfl
theorem wb_idem {φ:Fil}{x:Str} {r:T}(h:Idem φ) (hx:fval φ x=none) (hr:∀ y∈vs r,fval φ y=none) (ho:x∉vs r):Idem (wb φ x r):=by
  have none_of:∀ y,fval φ y=none→y≠x→fval (wb φ x r) y=none:=fun y h1 h2=>by
    rw [fval_none,wb_keys,List.mem_append,List.mem_singleton]
    rintro (z | z)
    · exact fval_none.mp h1 z
    · exact h2 z
  intro p hp y hy
  unfold wb at hp
  rcases List.mem_append.mp hp with hp | hp
  · unfold wbF at hp
    obtain ⟨q,hq,rfl⟩:=List.mem_map.mp hp
    obtain ⟨z,hz,h2⟩:=(vs_fill q.2).mp hy
    by_cases e:z=x
    · subst e
      rw [fill_some (t:=r) (by rw [fval_one,if_pos rfl])] at h2
      exact none_of y (hr y h2) fun w=>ho (by rw [← w];exact h2)
    · rw [fill_bl (by rw [fval_one,if_neg e])] at h2
      simp [vs] at h2
      subst h2
      exact none_of y (h q hq y hz) e
  · rw [List.mem_singleton.mp hp] at hy
    exact none_of y (hr y hy) fun w=>ho (by rw [← w];exact hy)
theorem resp_wb {φ:Fil}{x:Str} {r:T}(hx:fval φ x=none) (σ:Fil):Resp σ (wb φ x r)↔Resp σ φ∧fillT σ (.bl x)=fillT σ r:=by
  have one:fillT σ (.bl x)=fillT σ r→Resp σ [(x,r)]:=fun h y=>by
    by_cases e:y=x
    · subst e;rw [fill_some (t:=r) (by rw [fval_one,if_pos rfl])];exact h.symm
    · rw [fill_bl (by rw [fval_one,if_neg e])]
  constructor
  · intro h
    have hxr:fillT σ (.bl x)=fillT σ r:=by
      have:=h x
      rw [fval_wb hx,fill_bl hx,fill_some (t:=r) (by rw [fval_one,if_pos rfl])] at this
      exact this.symm
    refine ⟨fun y=>?_,hxr⟩
    have:=h y
    rw [fval_wb hx,resp_fill (one hxr)] at this
    exact this
  · rintro ⟨h,hxr⟩ y
    rw [fval_wb hx,resp_fill (one hxr)]
    exact h y
noncomputable def Orig (a b u:T):Prop:=Sub u a∨Sub u b
theorem Orig.sub {a b u v:T}(h:Orig a b u) (s:Sub v u):Orig a b v:=h.imp s.trans s.trans
noncomputable def From (a b:T) (φ:Fil) (E:Str→T):Prop:=∀ p∈φ,Orig a b (E p.1)∧p.2=fillT φ (E p.1)∧∀ z,E p.1=.bl z→fval φ z=none
theorem From.norm {a b:T}{φ:Fil} {E:Str→T}(h:From a b φ E) {u:T}(hu:Orig a b u):∃ u',Orig a b u'∧fillT φ u'=fillT φ u∧∀ z,u'=.bl z→fval φ z=none:=by
  cases u with
  | nd s ts=>exact ⟨_,hu,rfl,fun z e=>by cases e⟩
  | bl x=>
    cases e:fval φ x with
    | none=>exact ⟨_,hu,rfl,fun z ez=>by cases ez;exact e⟩
    | some t=>
      obtain ⟨p,hp,rfl,rfl⟩:=fval_mem e
      obtain ⟨h1,h2,h3⟩:=h p hp
      exact ⟨E p.1,h1,by rw [fill_some e];exact h2.symm,h3⟩
noncomputable def wsum (χ:Fil) (f:T×T→T) (W:List (T×T)):Nat:=T.sizes (W.map fun w=>fillT χ (f w))
structure MA (a b:T) (φ:Fil) (W:List (T×T)):Prop where
  nd:(φ.map (·.1)).Nodup
  idem:Idem φ
  fr:∃ E,From a b φ E
  ws:∀ w∈W,∃ u1 u2 ψ,Orig a b u1∧Orig a b u2∧Resp φ ψ∧w.1=fillT ψ u1∧w.2=fillT ψ u2
  eqv:∀ σ,fillT σ a=fillT σ b↔Resp σ φ∧∀ w∈W,fillT σ w.1=fillT σ w.2
  s1:∀ χ,Resp χ φ→wsum χ (·.1) W≤(fillT χ a).size
  s2:∀ χ,Resp χ φ→wsum χ (·.2) W≤(fillT χ b).size
  vk:∀ p∈φ,p.1∈vs a∨p.1∈vs b
  vv:∀ p∈φ,∀ y∈vs p.2,y∈vs a∨y∈vs b
theorem Resp.nil (σ:Fil):Resp σ []:=fun x=>by rw [fill_nil]
theorem MA.start (a b:T):MA a b [] [(a,b)] where
  nd:=by simp
  idem:=fun p hp=>by cases hp
  fr:=⟨fun _=>a,fun p hp=>by cases hp⟩
  ws:=fun w hw=>by
    rw [List.mem_singleton.mp hw]
    exact ⟨a,b,[],.inl (.refl _),.inr (.refl _),Resp.nil _,(fill_nil _).symm,(fill_nil _).symm⟩
  eqv:=fun σ=>by simp [Resp.nil]
  s1:=fun χ _=>by simp [wsum,T.sizes]
  s2:=fun χ _=>by simp [wsum,T.sizes]
  vk:=fun p hp=>by cases hp
  vv:=fun p hp=>by cases hp
theorem wsum_cons (χ:Fil) (f:T×T→T) (w:T×T) (W:List (T×T)):wsum χ f (w::W)=(fillT χ (f w)).size + wsum χ f W:=by simp [wsum,T.sizes]
theorem wsum_app (χ:Fil) (f:T×T→T) (V W:List (T×T)):wsum χ f (V++W)=wsum χ f V + wsum χ f W:=by simp [wsum,sizes_append]
theorem wsum_len (χ:Fil) (f:T×T→T) (W:List (T×T)):W.length≤wsum χ f W:=by
  have:=sizes_len (W.map fun w=>fillT χ (f w))
  rw [List.length_map] at this
  exact this
section
variable {a b:T}{φ:Fil} {W:List (T×T)}{w:T×T}
theorem MA.drop (h:MA a b φ (w::W)) (e:fillT φ w.1=fillT φ w.2):MA a b φ W where
  nd:=h.nd
  idem:=h.idem
  fr:=h.fr
  ws:=fun v hv=>h.ws v (List.mem_cons_of_mem _ hv)
  eqv:=fun σ=>by
    rw [h.eqv σ]
    constructor
    · rintro ⟨h1,h2⟩
      exact ⟨h1,fun v hv=>h2 v (List.mem_cons_of_mem _ hv)⟩
    · rintro ⟨h1,h2⟩
      refine ⟨h1,fun v hv=>?_⟩
      rcases List.mem_cons.mp hv with rfl | hv
      · rw [← resp_fill h1 v.1,← resp_fill h1 v.2,e]
      · exact h2 v hv
  s1:=fun χ hχ=>by have:=h.s1 χ hχ;rw [wsum_cons] at this;omega
  s2:=fun χ hχ=>by have:=h.s2 χ hχ;rw [wsum_cons] at this;omega
  vk:=h.vk
  vv:=h.vv
theorem MA.orig (h:MA a b φ (w::W)):∃ u1 u2,Orig a b u1∧Orig a b u2∧fillT φ w.1=fillT φ u1∧fillT φ w.2=fillT φ u2∧(∀ z,u1=.bl z→fval φ z=none)∧(∀ z,u2=.bl z→fval φ z=none):=by
  obtain ⟨E,hE⟩:=h.fr
  obtain ⟨u1,u2,ψ,o1,o2,r,e1,e2⟩:=h.ws w (by simp)
  obtain ⟨v1,p1,q1,n1⟩:=hE.norm o1
  obtain ⟨v2,p2,q2,n2⟩:=hE.norm o2
  exact ⟨v1,v2,p1,p2,by rw [e1,resp_fill r,q1],by rw [e2,resp_fill r,q2],n1,n2⟩
theorem zip_get {α β:Type}:∀ {l:List α}{m:List β} {p:α×β},p∈l.zip m→∃ i:Nat,l[i]?=some p.1∧m[i]?=some p.2
  | [],_,p,h=>by simp at h
  | _::_,[],p,h=>by simp at h
  | x::l,y::m,p,h=>by
    rw [List.zip_cons_cons] at h
    rcases List.mem_cons.mp h with rfl | h
    · exact ⟨0,rfl,rfl⟩
    · obtain ⟨i,h1,h2⟩:=zip_get h
      exact ⟨i + 1,by simpa using h1,by simpa using h2⟩
theorem fills_eq_zip (σ:Fil):∀ (ts us:List T),ts.length=us.length→(fillTs σ ts=fillTs σ us↔∀ p∈ts.zip us,fillT σ p.1=fillT σ p.2)
  | [],[],_=>by simp
  | [],_::_,h=>by simp at h
  | _::_,[],h=>by simp at h
  | t::ts,u::us,h=>by
    have ih:=fills_eq_zip σ ts us (by simpa using h)
    rw [fillTs,fillTs,List.zip_cons_cons,List.cons.injEq,ih]
    simp
theorem MA.pair {s:Str}{ts us:List T} (h:MA a b φ (w::W)) (e1:fillT φ w.1=.nd s ts) (e2:fillT φ w.2=.nd s us) (hl:ts.length=us.length):MA a b φ (ts.zip us++W) where
  nd:=h.nd
  idem:=h.idem
  fr:=h.fr
  ws:=fun v hv=>by
    rcases List.mem_append.mp hv with hv | hv
    · obtain ⟨u1,u2,o1,o2,q1,q2,n1,n2⟩:=h.orig
      rw [e1] at q1
      rw [e2] at q2
      cases u1 with
      | bl z=>rw [fill_bl (n1 z rfl)] at q1;cases q1
      | nd s1 ts1=>
        cases u2 with
        | bl z=>rw [fill_bl (n2 z rfl)] at q2;cases q2
        | nd s2 us2=>
          rw [fillT] at q1 q2
          injection q1 with _ q1
          injection q2 with _ q2
          rw [fillTs_map] at q1 q2
          obtain ⟨i,g1,g2⟩:=zip_get hv
          rw [q1,List.getElem?_map] at g1
          rw [q2,List.getElem?_map] at g2
          cases k1:ts1[i]? with
          | none=>rw [k1] at g1;cases g1
          | some x=>
            cases k2:us2[i]? with
            | none=>rw [k2] at g2;cases g2
            | some y=>
              rw [k1] at g1
              rw [k2] at g2
              exact ⟨x,y,φ,o1.sub (.kid (List.mem_of_getElem? k1) (.refl _)),o2.sub (.kid (List.mem_of_getElem? k2) (.refl _)),h.idem.resp,(Option.some.inj g1).symm,(Option.some.inj g2).symm⟩
    · exact h.ws v (List.mem_cons_of_mem _ hv)
  eqv:=fun σ=>by
    rw [h.eqv σ]
    have key:Resp σ φ→(fillT σ w.1=fillT σ w.2↔∀ p∈ts.zip us,fillT σ p.1=fillT σ p.2):=fun hr=>by
      rw [← fills_eq_zip σ ts us hl,← resp_fill hr w.1,← resp_fill hr w.2,e1,e2,fillT,fillT]
      simp
    constructor
    · rintro ⟨h1,h2⟩
      refine ⟨h1,fun v hv=>?_⟩
      rcases List.mem_append.mp hv with hv | hv
      · exact (key h1).mp (h2 w (by simp)) v hv
      · exact h2 v (List.mem_cons_of_mem _ hv)
    · rintro ⟨h1,h2⟩
      refine ⟨h1,fun v hv=>?_⟩
      rcases List.mem_cons.mp hv with rfl | hv
      · exact (key h1).mpr fun p hp=>h2 p (List.mem_append_left _ hp)
      · exact h2 v (List.mem_append_right _ hv)
  s1:=fun χ hχ=>by
    have:=h.s1 χ hχ
    rw [wsum_cons,← resp_fill hχ w.1,e1,fillT,T.size] at this
    rw [wsum_app]
    have e:wsum χ (·.1) (ts.zip us)=T.sizes (fillTs χ ts):=by
      unfold wsum
      rw [fillTs_map]
      congr 1
      have:(ts.zip us).map (fun w=>fillT χ w.1)=((ts.zip us).map (·.1)).map (fillT χ):=by rw [List.map_map];rfl
      rw [this,List.map_fst_zip (by omega)]
    omega
  s2:=fun χ hχ=>by
    have:=h.s2 χ hχ
    rw [wsum_cons,← resp_fill hχ w.2,e2,fillT,T.size] at this
    rw [wsum_app]
    have e:wsum χ (·.2) (ts.zip us)=T.sizes (fillTs χ us):=by
      unfold wsum
      rw [fillTs_map]
      congr 1
      have:(ts.zip us).map (fun w=>fillT χ w.2)=((ts.zip us).map (·.2)).map (fillT χ):=by rw [List.map_map];rfl
      rw [this,List.map_snd_zip (by omega)]
    omega
  vk:=h.vk
  vv:=h.vv
theorem Orig.vs {u:T}(h:Orig a b u) {x:Str}(hx:x∈vs u):x∈FL.vs a∨x∈FL.vs b:=h.imp (fun s=>s.vs x hx) fun s=>s.vs x hx
theorem MA.vsT (h:MA a b φ W) {u:T}(hu:Orig a b u) {y:Str}(hy:y∈vs (fillT φ u)):y∈vs a∨y∈vs b:=by
  obtain ⟨z,hz,h2⟩:=(vs_fill u).mp hy
  cases e:fval φ z with
  | none=>
    rw [fill_bl e] at h2
    simp [vs] at h2
    subst h2
    exact hu.vs hz
  | some v=>
    rw [fill_some e] at h2
    obtain ⟨p,hp,_,rfl⟩:=fval_mem e
    exact h.vv p hp y h2
theorem MA.bind {x:Str}{r:T} (h:MA a b φ (w::W)) (e:(fillT φ w.1=.bl x∧fillT φ w.2=r)∨(fillT φ w.2=.bl x∧fillT φ w.1=r)) (ho:x∉vs r):MA a b (wb φ x r) W:=by
  have hx:fval φ x=none:=by
    rcases e with ⟨e,_⟩ | ⟨e,_⟩<;>exact h.idem.vs (t:=_) (by rw [e];simp [vs])
  have hr:∀ y∈vs r,fval φ y=none:=fun y hy=>by
    rcases e with ⟨_,e⟩ | ⟨_,e⟩<;>exact h.idem.vs (t:=_) (by rw [e];exact hy)
  obtain ⟨u1,u2,o1,o2,q1,q2,n1,n2⟩:=h.orig
  obtain ⟨ux,ur,ox,our,qx,qr,nx,nr⟩:∃ ux ur,Orig a b ux∧Orig a b ur∧fillT φ ux=.bl x∧fillT φ ur=r∧(∀ z,ux=.bl z→fval φ z=none)∧(∀ z,ur=.bl z→fval φ z=none):=by
    rcases e with ⟨e1,e2⟩ | ⟨e1,e2⟩
    · exact ⟨u1,u2,o1,o2,by rw [← q1,e1],by rw [← q2,e2],n1,n2⟩
    · exact ⟨u2,u1,o2,o1,by rw [← q2,e1],by rw [← q1,e2],n2,n1⟩
  have one_r:fillT [(x,r)] r=r:=fill_id fun y hy=>by rw [fval_one,if_neg (fun z=>ho (by rw [← z];exact hy))]
  have none_of:∀ y,fval φ y=none→y≠x→fval (wb φ x r) y=none:=fun y h1 h2=>by
    rw [fval_none,wb_keys,List.mem_append,List.mem_singleton]
    rintro (z | z)
    · exact fval_none.mp h1 z
    · exact h2 z
  have resp:∀ χ,Resp χ (wb φ x r)→Resp χ φ:=fun χ hχ=>((resp_wb hx χ).mp hχ).1
  have nur:∀ z,ur=.bl z→fval (wb φ x r) z=none:=fun z ez=>by
    refine none_of z (nr z ez) fun w=>?_
    rw [ez,fill_bl (nr z ez),w] at qr
    exact ho (by rw [← qr];simp [vs])
  refine ⟨?_,wb_idem h.idem hx hr ho,?_,fun v hv=>?_,fun σ=>?_,fun χ hχ=>?_,fun χ hχ=>?_,fun p hp=>?_,fun p hp y hy=>?_⟩
  · rw [wb_keys,List.nodup_append]
    refine ⟨h.nd,by simp,fun y hy z hz=>?_⟩
    rw [List.mem_singleton.mp hz]
    rintro rfl
    exact fval_none.mp hx hy
  · obtain ⟨E,hE⟩:=h.fr
    classical
    refine ⟨fun y=>if y=x∨E y=.bl x then ur else E y,fun p hp=>?_⟩
    have fur:fillT (wb φ x r) ur=r:=by rw [fill_wb hx,qr,one_r]
    unfold wb at hp
    rcases List.mem_append.mp hp with hp | hp
    · unfold wbF at hp
      obtain ⟨q,hq,rfl⟩:=List.mem_map.mp hp
      obtain ⟨g1,g2,g3⟩:=hE q hq
      have hqx:q.1≠x:=fun z=>fval_none.mp hx (List.mem_map.mpr ⟨q,hq,z⟩)
      simp only [hqx,false_or]
      by_cases hc:E q.1=.bl x
      · rw [if_pos hc]
        refine ⟨our,?_,nur⟩
        rw [fur,g2,hc,fill_bl hx,fill_some (t:=r) (by rw [fval_one,if_pos rfl])]
      · rw [if_neg hc]
        refine ⟨g1,?_,fun z ez=>none_of z (g3 z ez) fun w=>hc (by rw [ez,w])⟩
        rw [fill_wb hx,← g2]
    · rw [List.mem_singleton.mp hp]
      simp only [true_or,if_true]
      exact ⟨our,fur.symm,nur⟩
  · obtain ⟨v1,v2,ψ,g1,g2,g3,g4,g5⟩:=h.ws v (List.mem_cons_of_mem _ hv)
    exact ⟨v1,v2,ψ,g1,g2,fun y=>by rw [fill_wb hx,fill_wb hx,g3 y],g4,g5⟩
  · rw [h.eqv σ,resp_wb hx]
    have key:Resp σ φ→(fillT σ w.1=fillT σ w.2↔fillT σ (.bl x)=fillT σ r):=fun hr=>by
      rw [← resp_fill hr w.1,← resp_fill hr w.2]
      rcases e with ⟨e1,e2⟩ | ⟨e1,e2⟩
      · rw [e1,e2]
      · rw [e1,e2];exact eq_comm
    constructor
    · rintro ⟨h1,h2⟩
      exact ⟨⟨h1,(key h1).mp (h2 w (by simp))⟩,fun v hv=>h2 v (List.mem_cons_of_mem _ hv)⟩
    · rintro ⟨⟨h1,h3⟩,h2⟩
      refine ⟨h1,fun v hv=>?_⟩
      rcases List.mem_cons.mp hv with rfl | hv
      · exact (key h1).mpr h3
      · exact h2 v hv
  · have:=h.s1 χ (resp χ hχ);rw [wsum_cons] at this;omega
  · have:=h.s2 χ (resp χ hχ);rw [wsum_cons] at this;omega
  · unfold wb at hp
    rcases List.mem_append.mp hp with hp | hp
    · unfold wbF at hp
      obtain ⟨q,hq,rfl⟩:=List.mem_map.mp hp
      exact h.vk q hq
    · rw [List.mem_singleton.mp hp]
      cases ux with
      | bl z=>
        rw [fill_bl (nx z rfl)] at qx
        cases qx
        exact ox.vs (by simp [vs])
      | nd s ts=>rw [fillT] at qx;cases qx
  · have hrv:∀ y∈vs r,y∈vs a∨y∈vs b:=fun y hy=>h.vsT our (by rw [qr];exact hy)
    unfold wb at hp
    rcases List.mem_append.mp hp with hp | hp
    · unfold wbF at hp
      obtain ⟨q,hq,rfl⟩:=List.mem_map.mp hp
      obtain ⟨z,hz,h2⟩:=(vs_fill q.2).mp hy
      by_cases ez:z=x
      · subst ez
        rw [fill_some (t:=r) (by rw [fval_one,if_pos rfl])] at h2
        exact hrv y h2
      · rw [fill_bl (by rw [fval_one,if_neg ez])] at h2
        simp [vs] at h2
        subst h2
        exact h.vv q hq y hz
    · rw [List.mem_singleton.mp hp] at hy
      exact hrv y hy
theorem occurs {x:Str}{r:T} (hx:x∈vs r) (hne:r≠.bl x) (σ:Fil):fillT σ (.bl x)≠fillT σ r:=fun e=>by
  cases r with
  | bl y=>
    simp [vs] at hx
    subst hx;exact hne rfl
  | nd s ts=>
    rw [vs,vsL_mem] at hx
    obtain ⟨t,ht,hx⟩:=hx
    have s1:=(fill_sub σ (vs_sub t hx)).size
    have e2:(fillT σ (.bl x)).size=(fillT σ (.nd s ts)).size:=by rw [e]
    rw [e2,fillT,T.size,fillTs_map] at s1
    have:=size_kid (List.mem_map_of_mem (f:=fillT σ) ht)
    omega
theorem MA.noUni (h:MA a b φ (w::W)) (hn:∀ σ,fillT σ (fillT φ w.1)≠fillT σ (fillT φ w.2)):∀ σ,fillT σ a≠fillT σ b:=fun σ e=>by
  obtain ⟨h1,h2⟩:=(h.eqv σ).mp e
  exact hn σ (by rw [resp_fill h1,resp_fill h1];exact h2 w (by simp))
theorem MA.done (h:MA a b φ []):(∀ σ,fillT σ a=fillT σ b↔Resp σ φ)∧fillT φ a=fillT φ b:=by
  have:∀ σ,fillT σ a=fillT σ b↔Resp σ φ:=fun σ=>by rw [h.eqv σ];simp
  exact ⟨this,(this φ).mpr h.idem.resp⟩
end
theorem e_filledW (φ:Fil):∀ (n:Nat) (t:T),t.depth≤n→wid t≤1000→m_filled_n n [t.d,fdic φ]=some (fillT φ t).d
  | 0,t,h,_=>by have:=depth_pos t;omega
  | n + 1,.bl x,h,_=>by
    have ib:=e_is_blank (.bl x)
    have ok:=fks_ok φ
    have fv:=fval_d x φ
    have hd:((fval φ x).map T.d).getD (.str x)=(fillT φ (.bl x)).d:=by
      rw [fillT]
      cases fval φ x<;>simp [d_bl]
    rw [← hd]
    simp only [d_bl] at ib ⊢
    simp! [m_filled_n,fdic,ib,T.isBl,ok,fv,kdK]
  | n + 1,.nd s ts,h,hz=>by
    rw [T.depth] at h
    rw [wid] at hz
    have hl:ts.length≤1000000:=by omega
    have ib:=e_is_blank (.nd s ts)
    have w1:compM (gN 0) yesP (ce_filled_1 m_is_blank (m_filled_n n) FUEL) [none,some (.dat (fdic φ))] (ts.map T.d)=some ((fillTs φ ts).map T.d):=by
      rw [fillTs_map]
      refine comp_map (by simp) fun i x y hx hy=>?_
      rw [List.getElem?_map] at hx
      rw [List.map_map,List.getElem?_map] at hy
      cases e:ts[i]? with
      | none=>rw [e] at hx;cases hx
      | some t=>
        rw [e] at hx hy
        cases hx;cases hy
        have hm:=List.mem_of_getElem? e
        have d1:=depth_kid hm
        have d2:=wid_kid hm
        exact ⟨_,rfl,rfl,by simp! [e_filledW φ n t (by omega) (by omega)]⟩
    have fl:(fillTs φ ts).length=ts.length:=by rw [fillTs_map];simp
    have z1:1 + ts.length≤1000000:=by omega
    rw [fillT,d_nd,d_nd]
    rw [d_nd] at ib
    simp! [m_filled_n,ib,T.isBl,cut1,w1,hl,fl,z1]
theorem e_lfilledW (φ:Fil):∀ (n:Nat) (t:T),t.depth≤n→wid t≤1000→m__law_filled_n n [t.d,fdic φ]=some (fillT φ t).d
  | 0,t,h,_=>by have:=depth_pos t;omega
  | n + 1,.bl x,h,_=>by
    have ok:=fks_ok φ
    have fv:=fval_d x φ
    have hd:((fval φ x).map T.d).getD (.str x)=(fillT φ (.bl x)).d:=by
      rw [fillT]
      cases fval φ x<;>simp [d_bl]
    rw [← hd]
    simp! [m__law_filled_n,fdic,d_bl,ok,fv,kdK]
  | n + 1,.nd s ts,h,hz=>by
    rw [T.depth] at h
    rw [wid] at hz
    have hl:ts.length≤1000000:=by omega
    have w1:compM (gN 0) yesP (ce__law_filled_1 (m__law_filled_n n) FUEL) [none,some (.dat (fdic φ))] (ts.map T.d)=some ((fillTs φ ts).map T.d):=by
      rw [fillTs_map]
      refine comp_map (by simp) fun i x y hx hy=>?_
      rw [List.getElem?_map] at hx
      rw [List.map_map,List.getElem?_map] at hy
      cases e:ts[i]? with
      | none=>rw [e] at hx;cases hx
      | some t=>
        rw [e] at hx hy
        cases hx;cases hy
        have hm:=List.mem_of_getElem? e
        have d1:=depth_kid hm
        have d2:=wid_kid hm
        exact ⟨_,rfl,rfl,by simp! [e_lfilledW φ n t (by omega) (by omega)]⟩
    have fl:(fillTs φ ts).length=ts.length:=by rw [fillTs_map];simp
    have z1:1 + ts.length≤1000000:=by omega
    have c0:cutG (D.str s::ts.map T.d) none (some 1)=[D.str s]:=by
      have:=cut_to (D.str s::ts.map T.d) 1 (by simp)
      simpa using this
    rw [fillT,d_nd,d_nd]
    simp! [m__law_filled_n,cut1,c0,w1,hl,fl,z1]
noncomputable def ded (l:List Str):List Str:=l.foldl (fun acc x=>if x∈acc then acc else acc++[x]) []
noncomputable def dedA (acc l:List Str):List Str:=l.foldl (fun acc x=>if x∈acc then acc else acc++[x]) acc
theorem dedA_mem {x:Str}:∀ (l acc:List Str),x∈dedA acc l↔x∈acc∨x∈l
  | [],acc=>by simp [dedA]
  | y::l,acc=>by
    have ih:=dedA_mem (x:=x) l (if y∈acc then acc else acc++[y])
    unfold dedA at ih ⊢
    rw [List.foldl_cons,ih]
    by_cases h:y∈acc
    · rw [if_pos h]
      constructor
      · rintro (h1 | h1)
        · exact .inl h1
        · exact .inr (List.mem_cons_of_mem _ h1)
      · rintro (h1 | h1)
        · exact .inl h1
        · rcases List.mem_cons.mp h1 with rfl | h1
          · exact .inl h
          · exact .inr h1
    · rw [if_neg h]
      simp [or_assoc]
theorem dedA_len:∀ (l acc:List Str),(dedA acc l).length≤acc.length + l.length
  | [],acc=>by simp [dedA]
  | y::l,acc=>by
    have ih:=dedA_len l (if y∈acc then acc else acc++[y])
    unfold dedA at ih ⊢
    rw [List.foldl_cons,List.length_cons]
    by_cases h:y∈acc
    · rw [if_pos h] at ih ⊢;omega
    · rw [if_neg h] at ih ⊢;rw [List.length_append,List.length_singleton] at ih;omega
noncomputable def blp:List (List Int×T)→List Str
  | []=>[]
  | (_,.bl x)::r=>x::blp r
  | (_,.nd _ _)::r=>blp r
theorem blp_app:∀ a b:List (List Int×T),blp (a++b)=blp a++blp b
  | [],b=>by simp [blp]
  | (_,.bl x)::r,b=>by rw [List.cons_append,blp,blp,blp_app r b,List.cons_append]
  | (_,.nd _ _)::r,b=>by rw [List.cons_append,blp,blp,blp_app r b]
mutual
theorem blp_placed (p:List Int):∀ t:T,blp (placed p t)=vs t
  | .bl x=>by simp [placed,blp,vs]
  | .nd s ts=>by rw [placed,blp,blp_placedL p 0 ts,vs]
theorem blp_placedL (p:List Int):∀ (k:Nat) (ts:List T),blp (placedL p k ts)=vsL ts
  | _,[]=>by simp [placedL,blp,vsL]
  | k,t::r=>by rw [placedL,blp_app,blp_placed (p++[(k:Int)]) t,blp_placedL p (k + 1) r,vsL]
end
theorem blp_len:∀ l:List (List Int×T),(blp l).length≤l.length
  | []=>by simp [blp]
  | (_,.bl x)::r=>by have:=blp_len r;simp [blp];exact this
  | (_,.nd _ _)::r=>by have:=blp_len r;simp [blp];omega
theorem e_blanks_of (t:T) (hz:t.size≤900000):m_blanks_of [t.d]=some (.lst ((ded (vs t)).map D.str)):=by
  have pp:=e_placed_parts t hz
  have hl:=placed_len [] t
  obtain ⟨ρ',f1,k2,k3,rfl⟩:=for_by (g:=gTup (gCons (gN 2) (gCons (gN 3) gNil))) (b:=lb_blanks_of_1 m_placed_parts m_is_blank FUEL) (xs:=(placed [] t).map pd) (ρ:=[some (.dat t.d),some (.own (.lst [])),none,none])
    (fun i ρ=>∃ k2 k3:Option Sl,ρ=[some (.dat t.d),some (.own (.lst ((dedA [] (blp ((placed [] t).take i))).map D.str))),k2,k3]) ⟨none,none,by simp [dedA,blp]⟩ (by
      rintro i x ρ hx ⟨k2,k3,rfl⟩
      rw [List.getElem?_map] at hx
      cases e:(placed [] t)[i]? with
      | none=>rw [e] at hx;cases hx
      | some q=>
        rw [e] at hx
        cases hx
        have hi:i < (placed [] t).length:=(List.getElem?_eq_some_iff.mp e).1
        have eq:(placed [] t)[i]=q:=by rw [List.getElem?_eq_getElem hi] at e;exact Option.some.inj e
        have tk:(placed [] t).take (i + 1)=(placed [] t).take i++[q]:=by rw [List.take_succ_eq_append_getElem hi,eq]
        have l1:=dedA_len (blp ((placed [] t).take i)) []
        have l2:=blp_len ((placed [] t).take i)
        rw [List.length_take] at l2
        simp only [List.length_nil,Nat.zero_add] at l1
        obtain ⟨p,u⟩:=q
        have ib:=e_is_blank u
        rw [tk,blp_app]
        generalize hacc:dedA [] (blp ((placed [] t).take i))=acc at l1
        have da:dedA [] (blp ((placed [] t).take i)++blp [(p,u)])=dedA acc (blp [(p,u)]):=by
          rw [← hacc];unfold dedA;rw [List.foldl_append]
        rw [da]
        cases u with
        | nd s ts=>
          simp only [T.isBl] at ib
          refine ⟨[some (.dat t.d),some (.own (.lst ((dedA acc (blp [(p,T.nd s ts)])).map D.str))),some (.dat (.tup (p.map D.int))),some (.dat (T.nd s ts).d)],.inl ?_,_,_,rfl⟩
          simp! [pd,ib,blp,dedA]
        | bl y=>
          simp only [T.isBl] at ib
          have i1:=in_strs y acc
          have dd:=dep_strs acc
          have dz:depL (acc.map D.str)≤100:=by omega
          rw [d_bl] at ib
          refine ⟨[some (.dat t.d),some (.own (.lst ((dedA acc (blp [(p,T.bl y)])).map D.str))),some (.dat (.tup (p.map D.int))),some (.dat (.str y))],.inl ?_,_,_,rfl⟩
          by_cases hy:y∈acc
          · simp! [pd,d_bl,ib,blp,dedA,i1,dz,hy]
          · have z1:acc.length < 1000000:=by omega
            simp! [pd,d_bl,ib,blp,dedA,i1,dz,hy,z1])
  rw [List.length_map,List.take_length,blp_placed] at f1
  have e0:dedA [] (vs t)=ded (vs t):=rfl
  rw [e0] at f1
  simp! [m_blanks_of,pp,f1]
theorem ded_mem {x:Str}(l:List Str):x∈ded l↔x∈l:=by
  have e:ded l=dedA [] l:=rfl
  rw [e,dedA_mem];simp
theorem put_app (φ:Fil) (x:Str) (t:T) (h:fval φ x=none):putD (fks φ) (fds φ) (.str x) t.d=(fks (φ++[(x,t)]),fds (φ++[(x,t)])):=by
  have:=putF_d φ x t
  rw [putF_new t h] at this
  exact this
theorem e_with_blank (φ:Fil) (x:Str) (r:T) (hx:fval φ x=none) (nd:(φ.map (·.1)).Nodup) (hd:∀ p∈φ,p.2.depth≤90) (hw:∀ p∈φ,wid p.2≤1000) (hl:φ.length≤1000):m_with_blank [fdic φ,.str x,r.d]=some (fdic (wb φ x r)):=by
  have its:itIs (fdic φ)=some (φ.map fun p=>.tup [.str p.1,p.2.d]):=by
    have ok:=fks_ok φ
    simp only [itIs,fdic,ok,if_true]
    congr 1
    unfold fks fds
    rw [List.zipWith_map,List.zipWith_self]
    rfl
  have go:∀ (done rest:Fil),(((done++rest).map (·.1)).Nodup)→(∀ p∈rest,p.2.depth≤90∧wid p.2≤1000)→
      compDM (gTup (gCons (gN 0) (gCons (gN 1) gNil))) yesP (ck_with_blank_1 m_filled FUEL) (ce_with_blank_2 m_filled FUEL) [none,none,some (.dat (.str x)),some (.dat r.d)] (rest.map fun p=>.tup [.str p.1,p.2.d]) (fks (wbF done x r),fds (wbF done x r))=some (fks (wbF (done++rest) x r),fds (wbF (done++rest) x r)):=by
    intro done rest
    induction rest generalizing done with
    | nil=>intro _ _;simp [compDM]
    | cons p rest ih=>
      intro hn hp
      have hf:m_filled [p.2.d,fdic [(x,r)]]=some (fillT [(x,r)] p.2).d:=e_filledW _ 100 p.2 (by have:=(hp p (by simp)).1;omega) (hp p (by simp)).2
      have f0:fdic [(x,r)]=.dic [.str x] [r.d]:=rfl
      rw [f0] at hf
      have hnp:fval (wbF done x r) p.1=none:=by
        rw [fval_wbF]
        have:fval done p.1=none:=by
          rw [fval_none]
          intro z
          rw [List.map_append,List.map_cons,List.nodup_append] at hn
          exact hn.2.2 p.1 z p.1 (by simp) rfl
        rw [this];rfl
      have pa:=put_app (wbF done x r) p.1 (fillT [(x,r)] p.2) hnp
      have e2:wbF done x r++[(p.1,fillT [(x,r)] p.2)]=wbF (done++[p]) x r:=by simp [wbF]
      rw [e2] at pa
      have ih':=ih (done++[p]) (by simpa using hn) (fun q hq=>hp q (List.mem_cons_of_mem _ hq))
      rw [List.append_assoc,List.singleton_append] at ih'
      rw [← ih']
      simp only [List.map_cons,compDM]
      simp! [hf,kdK,pa]
  have g0:=go [] φ (by simpa using nd) (fun p hp=>⟨hd p hp,hw p hp⟩)
  rw [List.nil_append] at g0
  have b0:(fks (wbF [] x r),fds (wbF [] x r))=(([],[]):List KD×List D):=rfl
  rw [b0] at g0
  have hnx:fval (wbF φ x r) x=none:=by rw [fval_wbF,hx];rfl
  have pa:=put_app (wbF φ x r) x r hnx
  have ok:=fks_ok (wbF φ x r)
  have kl:(fks (wbF φ x r)).length < 1000000:=by simp [fks,wbF];omega
  have hl':List.length φ≤1000000:=by omega
  have ew:fdic (wb φ x r)=.dic (fks (wbF φ x r++[(x,r)])) (fds (wbF φ x r++[(x,r)])):=rfl
  rw [ew]
  simp! [m_with_blank,cIs,its,compDE,hl',g0,kdK,ok,kl,pa]
theorem e_pairedG (a b:T):m_paired_parts [a.d,b.d]=some (pairD (pairT a b)):=by
  have i1:=e_is_blank a
  have i2:=e_is_blank b
  cases a with
  | bl x => 
    simp only [T.isBl] at i1
    dsimp! [m_paired_parts,i1,pairT,pairD]
  | nd s ts=>
    simp only [T.isBl] at i1
    cases b with
    | bl y=>
      simp only [T.isBl] at i2
      dsimp! [m_paired_parts,i1,i2,pairT,pairD]
    | nd r us=>
      simp only [T.isBl] at i2
      rw [d_nd] at i1 i2
      have n1:=ne_str s r
      have n2:=ne_int ((ts.length:Int) + 1) ((us.length:Int) + 1)
      have pm:=pairs_map ts us
      rw [d_nd,d_nd]
      by_cases h1:s=r
      · subst h1
        by_cases h2:ts.length=us.length
        · have h3:((ts.length:Int) + 1=(us.length:Int) + 1):=by omega
          simp only [h3,decide_true,Bool.not_true] at n2
          have n1':neB (D.str s) (D.str s)=some (.bl false):=by simpa using n1
          have h4:(ts.length:Int)=(us.length:Int):=by omega
          dsimp! [m_paired_parts,i1,i2,n1',h4,n2,zipD,cut1,pm,pairT,pairD,h2]
        · have h3:¬ ((ts.length:Int) + 1=(us.length:Int) + 1):=by omega
          simp only [h3,decide_false,Bool.not_false] at n2
          have n1':neB (D.str s) (D.str s)=some (.bl false):=by simpa using n1
          dsimp! [m_paired_parts,i1,i2,n1',n2,pairT,pairD,h2]
      · simp only [h1,decide_false,Bool.not_false] at n1
        dsimp! [m_paired_parts,i1,i2,n1,pairT,pairD,h1]
theorem fill_ge:∀ (φ:Fil) (t:T),t.depth≤(fillT φ t).depth∧wid t≤wid (fillT φ t):=by
  intro φ
  have key:∀ n (t:T),t.depth≤n→t.depth≤(fillT φ t).depth∧wid t≤wid (fillT φ t):=by
    intro n
    induction n with
    | zero=>intro t h;have:=depth_pos t;omega
    | succ n ih=>
      intro t h
      cases t with
      | bl x=>have:=depth_pos (fillT φ (.bl x));simp [T.depth,wid];omega
      | nd s ts=>
        rw [T.depth] at h
        rw [fillT,fillTs_map]
        simp only [T.depth,wid,List.length_map]
        have:∀ l:List T,(∀ t∈l,t∈ts)→T.depths l≤T.depths (l.map (fillT φ))∧FL.wids l≤FL.wids (l.map (fillT φ)):=by
          intro l
          induction l with
          | nil=>intro _;simp [T.depths,FL.wids]
          | cons t l ihl=>
            intro hl
            have h1:=ih t (by have:=depth_kid (hl t (by simp));omega)
            have h2:=ihl fun u hu=>hl u (List.mem_cons_of_mem _ hu)
            simp only [List.map_cons,T.depths,FL.wids];omega
        have:=this ts fun t ht=>ht
        omega
  exact fun t=>key _ t (Nat.le_refl _)
noncomputable def Alike (a b:T) (o:Option Fil):Prop:=match o with
  | some φ=>MA a b φ []
  | none=>∀ σ,fillT σ a≠fillT σ b
theorem nodup_lt {φ:Fil}{x:Str} {V:List Str}{K:Nat} (hn:(φ.map (·.1)).Nodup) (hx:fval φ x=none) (hV:∀ y,y=x∨y∈φ.map (·.1)→y∈V) (hK:V.length≤K):φ.length < K:=by
  have:=len_sub (x::φ.map (·.1)) V (List.nodup_cons.mpr ⟨fval_none.mp hx,hn⟩) fun y hy=>by
    rcases List.mem_cons.mp hy with rfl | hy
    · exact hV _ (.inl rfl)
    · exact hV _ (.inr hy)
  rw [List.length_cons,List.length_map] at this
  omega
structure Bd (a b:T) (K B:Nat):Prop where
  len:∀ {φ:Fil}{W:List (T×T)},MA a b φ W→φ.length≤K
  lt:∀ {φ:Fil}{W:List (T×T)} {u v:T}{y:Str},MA a b φ W→Orig a b u→Orig a b v→fillT φ u=.bl y→φ.length < K∧(fillT φ v).size≤900000
  tm:∀ {φ:Fil}{W:List (T×T)} {u:T},MA a b φ W→Orig a b u→(fillT φ u).depth≤80∧wid (fillT φ u)≤1000
  wl:∀ {φ:Fil}{W:List (T×T)},MA a b φ W→W.length≤950000∧wsum φ (·.1) W≤B
  vl:∀ {φ:Fil}{W:List (T×T)},MA a b φ W→∀ p∈φ,p.2.depth≤80∧wid p.2≤1000∧p.2.size≤900000
  fuel:(K + 1) * (B + 1) < 1000000000
  kk:K≤1000
theorem e_made_alikeB (a b:T) {K Bn:Nat}(S:Bd a b K Bn):∃ o:Option Fil,m_made_alike [a.d,b.d]=some (fitR o)∧Alike a b o:=by
  obtain ⟨fl,e1,P⟩:=while_inv' (t:=upT (cTr (gb 3))) (b:=lb_made_alike_1 m_is_blank m_paired_parts m_filled m_with_blank m_blanks_of FUEL)
    (fun m ρ=>∃ (φ:Fil) (W:List (T×T)) (s4 s5 s6 s7 s8:Option Sl),ρ=[some (.dat a.d),some (.dat b.d),some (.dat (fdic φ)),some (.own (.lst (W.map ptD))),s4,s5,s6,s7,s8]∧MA a b φ W∧m=(K - φ.length) * (Bn + 1) + wsum φ (·.1) W∧nb s4=true∧nb s5=true∧nb s6=true∧nb s7=true∧nb s8=true)
    (fun fl=>(∃ φ a' b' c d' e f g h,fl=.nx [a',b',some (.dat (fdic φ)),c,d',e,f,g,h]∧MA a b φ [])∨(∃ ρ,fl=.rt .non ρ∧∀ σ,fillT σ a≠fillT σ b)) (by
      rintro m ρ ⟨φ,W,s4,s5,s6,s7,s8,rfl,hM,rfl,n4,n5,n6,n7,n8⟩
      cases W with
      | nil=>
        left
        exact ⟨[some (.dat a.d),some (.dat b.d),some (.dat (fdic φ)),some (.own (.lst [])),s4,s5,s6,s7,s8],by simp [runF,startD,seqM,setM,setO,asgM,asgX,dropM,dropX,retM,retO,retN,ifM,upT,cT,cTr,truD,andP,orP,notP,andV,orV,notV,c1,c2,cL,cS,consF,nilF,cst,gv,gb,gN,gNil,gCons,gTup,oNone,oSome,compE,yesP,cI,cR1,cR2,cEnT,forS,itS,rng1,rng2,appM,extM,popM,popAtM,mkTup,mkLst,nxM,isiD,tyN,isiB,lim,bors,st0E,negD,revX,revD,tupleD,listD,lenD,idxD,sliceD,sliceL,addD,catD,subD,mulD,divD,modD,powD,cmpI,geD,isB,isNotB,isNon,absD,intD,runX,startX,callX,retX,putM,putKM,keyD,frzM,c3,getD3,dictD,disp1,cSg,innAt,itS,Sl.inn,Sl.own,maxDD,inB,notInB,okMul_r,okMul_l,okDiv_of,okMod_of,okPow_of,okRng_of,at0,at1,at2,at3],.inl ⟨φ,_,_,_,_,_,_,_,_,rfl,hM⟩⟩
      | cons w W=>
        obtain ⟨w1,w2⟩:=w
        right
        have hlen:=S.len hM
        have wl:=S.wl hM
        rw [List.length_cons] at wl
        have six:seqIndex? 0 (W.length + 1)=some 0:=by simp [seqIndex?]
        have r0:upT (cTr (gb 3)) [some (.dat a.d),some (.dat b.d),some (.dat (fdic φ)),some (.own (.lst (((w1,w2)::W).map ptD))),s4,s5,s6,s7,s8]=some (true,[some (.dat a.d),some (.dat b.d),some (.dat (fdic φ)),some (.own (.lst (((w1,w2)::W).map ptD))),s4,s5,s6,s7,s8]):=by simp [runF,startD,seqM,setM,setO,asgM,asgX,dropM,dropX,retM,retO,retN,ifM,upT,cT,cTr,truD,andP,orP,notP,andV,orV,notV,c1,c2,cL,cS,consF,nilF,cst,gv,gb,gN,gNil,gCons,gTup,oNone,oSome,compE,yesP,cI,cR1,cR2,cEnT,forS,itS,rng1,rng2,appM,extM,popM,popAtM,mkTup,mkLst,nxM,isiD,tyN,isiB,lim,bors,st0E,negD,revX,revD,tupleD,listD,lenD,idxD,sliceD,sliceL,addD,catD,subD,mulD,divD,modD,powD,cmpI,geD,isB,isNotB,isNon,absD,intD,runX,startX,callX,retX,putM,putKM,keyD,frzM,c3,getD3,dictD,disp1,cSg,innAt,itS,Sl.inn,Sl.own,maxDD,inB,notInB,okMul_r,okMul_l,okDiv_of,okMod_of,okPow_of,okRng_of,at0,at1,at2,at3]
        have pp:ptD (w1,w2)=.tup [w1.d,w2.d]:=rfl
        obtain ⟨v1,v2,ψ,o1,o2,rp,ew1,ew2⟩:=hM.ws (w1,w2) (by simp)
        have eL:fillT φ w1=fillT φ v1:=by have e:w1=fillT ψ v1:=ew1;rw [e,resp_fill rp]
        have eR:fillT φ w2=fillT φ v2:=by have e:w2=fillT ψ v2:=ew2;rw [e,resp_fill rp]
        obtain ⟨dL,wL⟩:=S.tm hM o1
        obtain ⟨dR,wR⟩:=S.tm hM o2
        have g1:=fill_ge φ w1
        have g2:=fill_ge φ w2
        rw [← eL] at dL wL
        rw [← eR] at dR wR
        have fL:m_filled [w1.d,fdic φ]=some (fillT φ w1).d:=e_filledW φ 100 w1 (by omega) (by omega)
        have fR:m_filled [w2.d,fdic φ]=some (fillT φ w2).d:=e_filledW φ 100 w2 (by omega) (by omega)
        have hw0:wsum φ (·.1) ((w1,w2)::W)=(fillT φ w1).size + wsum φ (·.1) W:=wsum_cons ..
        have hsz:=size_pos (fillT φ w1)
        have nbs:∀ (x4 x5 x6 x7:D) (φ':Fil) (V:List (T×T)),noBor [some (.dat a.d),some (.dat b.d),some (.dat (fdic φ')),some (.own (.lst (V.map ptD))),some (.dat x4),some (.dat x5),some (.dat x6),some (.dat x7),s8]=true:=fun _ _ _ _ _ _=>by simp [noBor_cons,noBor_nil,nb_dat,nb_own,n8]
        generalize hLL:fillT φ w1=L at *
        generalize hRR:fillT φ w2=R at *
        have eq:=eq_T L R (by omega)
        by_cases hLR:L=R
        · -- alike already
          left
          simp only [hLR,decide_true] at eq
          refine ⟨_,[some (.dat a.d),some (.dat b.d),some (.dat (fdic φ)),some (.own (.lst (W.map ptD))),some (.dat w1.d),some (.dat w2.d),some (.dat L.d),some (.dat R.d),s8],(K - φ.length) * (Bn + 1) + wsum φ (·.1) W,r0,.inr ?_,by omega,φ,W,_,_,_,_,_,rfl,hM.drop (by simp only;rw [hLL,hRR,hLR]),rfl,rfl,rfl,rfl,rfl,n8⟩
          rw [hLR]
          rw [hLR] at fL
          simp only [List.map_cons]
          dsimp! [pp,six,fL,fR,parM,eq]
        · simp only [hLR,decide_false] at eq
          have bind:∀ (x:Str) (r:T),((L=.bl x∧R=r)∨(R=.bl x∧L=r))→x∉vs r→φ.length < K→MA a b (wb φ x r) W∧m_with_blank [fdic φ,.str x,r.d]=some (fdic (wb φ x r)):=by
            intro x r e ho hk0
            have hm:=hM.bind (x:=x) (r:=r) (by simp only;rw [hLL,hRR];exact e) ho
            have hx:fval φ x=none:=by
              rcases e with ⟨e,_⟩ | ⟨e,_⟩
              · exact hM.idem.vs (t:=w1) (by rw [hLL,e];simp [vs])
              · exact hM.idem.vs (t:=w2) (by rw [hRR,e];simp [vs])
            have hv:=S.vl hM
            have hk:=S.kk
            exact ⟨hm,e_with_blank φ x r hx hM.nd (fun p hp=>by have:=(hv p hp).1;omega) (fun p hp=>(hv p hp).2.1) (by omega)⟩
          have measure:∀ (x:Str) (r:T),MA a b (wb φ x r) W→φ.length < K→(K - (wb φ x r).length) * (Bn + 1) + wsum (wb φ x r) (·.1) W < (K - φ.length) * (Bn + 1) + wsum φ (·.1) ((w1,w2)::W):=by
            intro x r hm hk
            have hl3:(wb φ x r).length=φ.length + 1:=by simp [wb,wbF]
            have:=(S.wl hm).2
            rw [hl3]
            have e:(K - φ.length) * (Bn + 1)=(K - (φ.length + 1)) * (Bn + 1) + (Bn + 1):=by
              rw [← Nat.succ_mul];congr 1;omega
            omega
          have noneL:∀ (x:Str) (r:T),((L=.bl x∧R=r)∨(R=.bl x∧L=r))→x∈vs r→∀ σ,fillT σ a≠fillT σ b:=by
            intro x r e ho
            refine hM.noUni fun σ=>?_
            simp only
            rw [hLL,hRR]
            rcases e with ⟨e1,e2⟩ | ⟨e1,e2⟩
            · rw [e1,e2]
              exact occurs ho (fun z=>hLR (by rw [e1,e2,z])) σ
            · rw [e1,e2]
              exact fun z=>occurs ho (fun z=>hLR (by rw [e1,e2,z])) σ z.symm
          have ibR:=e_is_blank R
          have ibL:=e_is_blank L
          have fin:∀ (x:Str) (r:T),((L=.bl x∧R=r)∨(R=.bl x∧L=r))→∀ (B:En→Option Fl),
              (∀ (fl:Fl),(if x∈vs r then fl=.rt .non [some (.dat a.d),some (.dat b.d),some (.dat (fdic φ)),some (.own (.lst (W.map ptD))),some (.dat w1.d),some (.dat w2.d),some (.dat (.str x)),some (.dat r.d),s8]
                else fl=.ct [some (.dat a.d),some (.dat b.d),some (.dat (fdic (wb φ x r))),some (.own (.lst (W.map ptD))),some (.dat w1.d),some (.dat w2.d),some (.dat (.str x)),some (.dat r.d),s8])→
                (r.size≤900000)→(x∉vs r→m_with_blank [fdic φ,.str x,r.d]=some (fdic (wb φ x r)))→B [some (.dat a.d),some (.dat b.d),some (.dat (fdic φ)),some (.own (.lst (((w1,w2)::W).map ptD))),s4,s5,s6,s7,s8]=some fl)→
              (∃ ρ1 ρ2 m',upT (cTr (gb 3)) [some (.dat a.d),some (.dat b.d),some (.dat (fdic φ)),some (.own (.lst (((w1,w2)::W).map ptD))),s4,s5,s6,s7,s8]=some (true,ρ1)∧(B ρ1=some (.nx ρ2)∨B ρ1=some (.ct ρ2))∧m' < (K - φ.length) * (Bn + 1) + wsum φ (·.1) ((w1,w2)::W)∧
                ∃ (φ:Fil) (W:List (T×T)) (s4 s5 s6 s7 s8:Option Sl),ρ2=[some (.dat a.d),some (.dat b.d),some (.dat (fdic φ)),some (.own (.lst (W.map ptD))),s4,s5,s6,s7,s8]∧MA a b φ W∧m'=(K - φ.length) * (Bn + 1) + wsum φ (·.1) W∧nb s4=true∧nb s5=true∧nb s6=true∧nb s7=true∧nb s8=true)∨
              (∃ ρ1 d' ρ2,upT (cTr (gb 3)) [some (.dat a.d),some (.dat b.d),some (.dat (fdic φ)),some (.own (.lst (((w1,w2)::W).map ptD))),s4,s5,s6,s7,s8]=some (true,ρ1)∧B ρ1=some (.rt d' ρ2)∧
                ((∃ φ a' b' c d'' e f g h,Fl.rt d' ρ2=.nx [a',b',some (.dat (fdic φ)),c,d'',e,f,g,h]∧MA a b φ [])∨(∃ ρ,Fl.rt d' ρ2=.rt .non ρ∧∀ σ,fillT σ a≠fillT σ b))):=by
            intro x r e B hB
            have lt:φ.length < K∧r.size≤900000:=by
              rcases e with ⟨e1,e2⟩ | ⟨e1,e2⟩
              · have:=S.lt hM o1 o2 (y:=x) (by rw [← eL,e1])
                rw [← eR,e2] at this;exact this
              · have:=S.lt hM o2 o1 (y:=x) (by rw [← eR,e1])
                rw [← eL,e2] at this;exact this
            by_cases ho:x∈vs r
            · right
              exact ⟨_,.non,_,r0,hB _ (by rw [if_pos ho]) lt.2 (fun z=>absurd ho z),.inr ⟨_,rfl,noneL x r e ho⟩⟩
            · left
              obtain ⟨b1,b4⟩:=bind x r e ho lt.1
              exact ⟨_,_,_,r0,.inr (hB _ (by rw [if_neg ho]) lt.2 (fun _=>b4)),measure x r b1 lt.1,wb φ x r,W,_,_,_,_,_,rfl,b1,rfl,rfl,rfl,rfl,rfl,n8⟩
          cases R with
          | bl y=>
            simp only [T.isBl] at ibR
            rw [d_bl] at ibR fR eq
            refine fin y L (.inr ⟨rfl,rfl⟩) _ fun fl hfl hz hw=>?_
            have bo:=e_blanks_of L hz
            have iD:=in_strs y (ded (vs L))
            have dz:depL ((ded (vs L)).map D.str)≤100:=by have:=dep_strs (ded (vs L));omega
            by_cases ho:y∈vs L
            · rw [if_pos ho] at hfl
              rw [decide_eq_true ((ded_mem (vs L)).mpr ho)] at iD
              rw [hfl]
              simp only [List.map_cons]
              dsimp! [pp,six,fL,fR,parM,eq,ibR,bo,iD,dz,T.isBl,d_bl]
            · rw [if_neg ho] at hfl
              rw [decide_eq_false (fun z=>ho ((ded_mem (vs L)).mp z))] at iD
              have hw:=hw ho
              rw [hfl]
              simp only [List.map_cons]
              dsimp! [pp,six,fL,fR,parM,eq,ibR,bo,iD,dz,hw,d_bl]
          | nd r us=>
            simp only [T.isBl] at ibR
            cases L with
            | bl y=>
              simp only [T.isBl] at ibL
              rw [d_bl] at ibL fL eq
              refine fin y (.nd r us) (.inl ⟨rfl,rfl⟩) _ fun fl hfl hz hw=>?_
              have bo:=e_blanks_of (.nd r us) hz
              have iD:=in_strs y (ded (vs (.nd r us)))
              have dz:depL ((ded (vs (.nd r us))).map D.str)≤100:=by have:=dep_strs (ded (vs (.nd r us)));omega
              by_cases ho:y∈vs (.nd r us)
              · rw [if_pos ho] at hfl
                rw [decide_eq_true ((ded_mem _).mpr ho)] at iD
                rw [hfl]
                simp only [List.map_cons]
                dsimp! [pp,six,fL,fR,parM,eq,ibR,ibL,bo,iD,dz,d_bl]
              · rw [if_neg ho] at hfl
                rw [decide_eq_false (fun z=>ho ((ded_mem _).mp z))] at iD
                have hw:=hw ho
                rw [hfl]
                simp only [List.map_cons]
                dsimp! [pp,six,fL,fR,parM,eq,ibR,ibL,bo,iD,dz,hw,d_bl]
            | nd q ts=>
              simp only [T.isBl] at ibL
              have ep:=e_pairedG (.nd q ts) (.nd r us)
              by_cases hc:q=r∧ts.length=us.length
              · obtain ⟨rfl,hl⟩:=hc
                left
                have hp:pairT (.nd q ts) (.nd q us)=some (ts.zip us):=by simp [pairT,hl]
                rw [hp] at ep
                simp only [pairD] at ep
                have hm:=hM.pair hLL hRR hl
                have wl2:=(S.wl hm).1
                have ws:wsum φ (·.1) (ts.zip us++W) < wsum φ (·.1) ((w1,w2)::W):=by
                  rw [wsum_app,hw0,T.size]
                  have e:wsum φ (·.1) (ts.zip us)=T.sizes ts:=by
                    unfold wsum
                    have e1:(ts.zip us).map (fun w=>fillT φ w.1)=((ts.zip us).map (·.1)).map (fillT φ):=by rw [List.map_map];rfl
                    rw [e1,List.map_fst_zip (by omega)]
                    congr 1
                    have:∀ t∈ts,fillT φ t=t:=fun t ht=>fill_id fun y hy=>hM.idem.vs (t:=w1) (by rw [hLL,vs,vsL_mem];exact ⟨t,ht,hy⟩)
                    rw [List.map_congr_left this,List.map_id']
                  omega
                refine ⟨_,[some (.dat a.d),some (.dat b.d),some (.dat (fdic φ)),some (.own (.lst ((ts.zip us++W).map ptD))),some (.dat w1.d),some (.dat w2.d),some (.dat (T.nd q ts).d),some (.dat (T.nd q us).d),some (.dat (.lst ((ts.zip us).map ptD)))],(K - φ.length) * (Bn + 1) + wsum φ (·.1) (ts.zip us++W),r0,.inl ?_,by omega,φ,ts.zip us++W,_,_,_,_,_,rfl,hm,rfl,rfl,rfl,rfl,rfl,rfl⟩
                rw [List.length_append] at wl2
                simp only [List.map_cons,List.map_append]
                have z1:(ts.zip us).length + W.length≤1000000:=by omega
                simp only [List.length_zip] at z1
                dsimp! [pp,six,fL,fR,parM,eq,ibR,ibL,ep,z1,noBor_cons,noBor_nil,nb_dat,nb_own,n8]
              · right
                have hp:pairT (.nd q ts) (.nd r us)=none:=by simp only [pairT,if_neg hc]
                rw [hp] at ep
                simp only [pairD] at ep
                refine ⟨_,.non,[some (.dat a.d),some (.dat b.d),some (.dat (fdic φ)),some (.own (.lst (W.map ptD))),some (.dat w1.d),some (.dat w2.d),some (.dat (T.nd q ts).d),some (.dat (T.nd r us).d),some (.dat .non)],r0,?_,.inr ⟨_,rfl,hM.noUni fun σ=>?_⟩⟩
                · simp only [List.map_cons]
                  dsimp! [pp,six,fL,fR,parM,eq,ibR,ibL,ep]
                · simp only
                  rw [hLL,hRR,fillT,fillT]
                  intro z
                  injection z with z1 z2
                  refine hc ⟨z1,?_⟩
                  have:=congrArg List.length z2
                  rw [fillTs_map,fillTs_map] at this
                  simpa using this) FUEL (K * (Bn + 1) + wsum [] (·.1) [(a,b)]) [some (.dat a.d),some (.dat b.d),some (.dat (fdic [])),some (.own (.lst ([(a,b)].map ptD))),none,none,none,none,none] ⟨[],[(a,b)],none,none,none,none,none,rfl,MA.start a b,rfl,rfl,rfl,rfl,rfl,rfl⟩ (by
        have:=S.wl (MA.start a b)
        have h2:=S.fuel
        have e:(K + 1) * (Bn + 1)=K * (Bn + 1) + (Bn + 1):=by rw [Nat.add_mul,Nat.one_mul]
        unfold FUEL
        omega)
  have fe:fdic []=.dic [] []:=rfl
  rcases P with ⟨φ,a',b',c,d',e,f,g,h,rfl,hm⟩ | ⟨ρ,rfl,hm⟩
  · refine ⟨some φ,?_,hm⟩
    simp only [fe,List.map_cons,List.map_nil,ptD] at e1
    dsimp! [m_made_alike,noBor_cons,noBor_nil,nb_dat,nb_own,nb_none,e1,fitR]
  · refine ⟨none,?_,hm⟩
    simp only [fe,List.map_cons,List.map_nil,ptD] at e1
    dsimp! [m_made_alike,noBor_cons,noBor_nil,nb_dat,nb_own,nb_none,e1,fitR]
theorem e_walksB (a b:T) (φ:Fil) {K B:Nat}(S:Bd a b K B) (h:MA a b φ []) (ha:a.size≤1000∧a.depth≤80) (hb:b.size≤1000∧b.depth≤80):m__law_walks [a.d,b.d,fdic φ]=some (.bl true):=by
  have ba:m__law_blanks_of [a.d]=some (.lst ((bks a).map D.str)):=e_lblanks 100 a (by omega) (by omega)
  have bb:m__law_blanks_of [b.d]=some (.lst ((bks b).map D.str)):=e_lblanks 100 b (by omega) (by omega)
  have l1:=bks_len a
  have l2:=bks_len b
  have fa:m__law_filled [a.d,fdic φ]=some (fillT φ a).d:=e_lfilledW φ 100 a (by omega) (by have:=wid_size a;omega)
  have fb:m__law_filled [b.d,fdic φ]=some (fillT φ b).d:=e_lfilledW φ 100 b (by omega) (by have:=wid_size b;omega)
  have ne:=ne_T (fillT φ a) (fillT φ b) (by have:=(S.tm h (.inl (.refl _))).1;omega)
  rw [h.done.2] at ne
  simp only [decide_true,Bool.not_true] at ne
  rw [h.done.2] at fa
  have hv:=S.vl h
  have z0:(bks a).length + (bks b).length≤1000000:=by omega
  have mem:∀ x,x∈vs a∨x∈vs b→x∈bks a++bks b:=fun x hx=>by
    rw [List.mem_append,bks_mem,bks_mem];exact hx
  have eV:(bks a).map D.str++(bks b).map D.str=(bks a++bks b).map D.str:=by simp
  generalize hV:bks a++bks b=V at mem eV
  have ks:itKs (fdic φ)=some (φ.map fun p=>.str p.1):=by
    have ok:=fks_ok φ
    simp only [itKs,fdic,ok,if_true]
    congr 1
    unfold fks
    rw [List.map_map];rfl
  have inV:∀ x,x∈vs a∨x∈vs b→inL (.str x) (V.map D.str)=some true:=fun x hx=>by rw [in_strs,decide_eq_true (mem x hx)]
  have dz:depL (V.map D.str)≤100:=by have:=dep_strs V;omega
  have ok:=fks_ok φ
  obtain ⟨ρ',f1,k4,k5,rfl⟩:=for_by (g:=gN 4) (b:=lb__law_walks_2 m__law_blanks_of m__law_filled FUEL) (xs:=φ.map fun p=>.str p.1) (ρ:=[some (.dat a.d),some (.dat b.d),some (.dat (fdic φ)),some (.dat (.lst (V.map D.str))),none,none])
    (fun i ρ=>∃ k4 k5:Option Sl,ρ=[some (.dat a.d),some (.dat b.d),some (.dat (fdic φ)),some (.dat (.lst (V.map D.str))),k4,k5]) ⟨none,none,rfl⟩ (by
      rintro i x ρ hx ⟨k4,k5,rfl⟩
      rw [List.getElem?_map] at hx
      cases e:φ[i]? with
      | none=>rw [e] at hx;cases hx
      | some p=>
        rw [e] at hx
        cases hx
        have hp:=List.mem_of_getElem? e
        have i1:=inV p.1 (h.vk p hp)
        have fv:=fval_d p.1 φ
        rw [fval_of h.nd p hp] at fv
        have szp:p.2.size≤900000:=(hv p hp).2.2
        have bp:m__law_blanks_of [p.2.d]=some (.lst ((bks p.2).map D.str)):=e_lblanks 100 p.2 (by have:=(hv p hp).1;omega) szp
        obtain ⟨ρ2,f2,k6,rfl⟩:=for_by (g:=gN 5) (b:=lb__law_walks_1 m__law_blanks_of m__law_filled FUEL) (xs:=(bks p.2).map D.str) (ρ:=[some (.dat a.d),some (.dat b.d),some (.dat (fdic φ)),some (.dat (.lst (V.map D.str))),some (.dat (.str p.1)),k5])
          (fun i ρ=>∃ k6:Option Sl,ρ=[some (.dat a.d),some (.dat b.d),some (.dat (fdic φ)),some (.dat (.lst (V.map D.str))),some (.dat (.str p.1)),k6]) ⟨k5,rfl⟩ (by
            rintro j y ρ hy ⟨k6,rfl⟩
            obtain ⟨z,hz,rfl⟩:=List.mem_map.mp (List.mem_of_getElem? hy)
            have hz':=(bks_mem p.2).mp hz
            have i2:=inV z (h.vv p hp z hz')
            have fz:=fval_d z φ
            rw [h.idem p hp z hz'] at fz
            refine ⟨[some (.dat a.d),some (.dat b.d),some (.dat (fdic φ)),some (.dat (.lst (V.map D.str))),some (.dat (.str p.1)),some (.dat (.str z))],.inl ?_,_,rfl⟩
            simp only [fdic]
            simp! [i2,dz,inK,ok,kdK,fz])
        refine ⟨[some (.dat a.d),some (.dat b.d),some (.dat (fdic φ)),some (.dat (.lst (V.map D.str))),some (.dat (.str p.1)),k6],.inl ?_,_,_,rfl⟩
        simp only [fdic] at f2 ⊢
        simp! [i1,dz,idxK,ok,kdK,fv,bp,f2])
  have isd:isiD "dict" (fdic φ)=some (.bl true):=by simp [fdic,isiD,tyN,isiB]
  simp only [fdic] at f1 ks fa fb ne ⊢
  dsimp! [m__law_walks,ba,bb,z0,eV,fa,fb,ne,cKs,ks,f1]
theorem WT_vs {ps:List (Str×Int)}{bs:List Str} {t:T}(h:WT ps bs t):∀ x∈vs t,x∈bs:=fun x hx=>WT_bks t h x ((bks_mem t).mpr hx)
theorem vs_set {ts:List T}{i:Nat} {n:T}{x:Str} (h:x∈vsL (ts.set i n)):x∈vsL ts∨x∈vs n:=by
  rw [vsL_mem] at h
  obtain ⟨t,ht,hx⟩:=h
  rcases List.mem_or_eq_of_mem_set ht with h1 | h1
  · exact .inl (vsL_mem.mpr ⟨t,h1,hx⟩)
  · subst h1;exact .inr hx
theorem vs_put:∀ (p:List Int) (t n:T) (x:Str),x∈vs (putT t p n)→x∈vs t∨x∈vs n
  | [],t,n,x,h=>by rw [putT_nil] at h;exact .inr h
  | k::p,.bl y,n,x,h=>by simp only [putT] at h;exact .inl h
  | k::p,.nd s ts,n,x,h=>by
    simp only [putT] at h
    cases e:ts[k.toNat]? with
    | none=>rw [e] at h;exact .inl h
    | some c=>
      rw [e] at h
      simp only [vs] at h ⊢
      rcases vs_set h with h1 | h1
      · exact .inl h1
      · rcases vs_put p c n x h1 with h2 | h2
        · exact .inl (vsL_mem.mpr ⟨c,List.mem_of_getElem? e,h2⟩)
        · exact .inr h2
noncomputable abbrev lb__law_part_or_1 (n:Nat):En→Option Fl:=
  (seqM (ifM (upT (orP (cT (c1 (isiD "str") (gb 0))) (cT (c2 geD (c2 addD (gb 2) (cst (.int 1))) (cL lenD (consF (gb 0) nilF)))))) (retM (cst .non)) nxM) (setM 0 (c2 idxD (gb 0) (c2 addD (cst (.int 1)) (gb 2)))))
noncomputable abbrev mb__law_part_or (n:Nat):En→Option Fl:=
  (seqM (forS (cI (gv 1)) (gN 2) (lb__law_part_or_1 n)) (retM (gv 0)))
noncomputable def m__law_part_or:List D→Option D:=runF (mb__law_part_or  FUEL) 2 3
noncomputable abbrev lb__law_cut_1 (m__law_places:List D→Option D) (m__law_part_or:List D→Option D) (m__law_put:List D→Option D) (m__law_blanks_of:List D→Option D) (n:Nat):En→Option Fl:=
  (seqM (setM 7 (c2 idxD (gb 4) (c2 modD (gb 6) (cL lenD (consF (gb 4) nilF))))) (seqM (setM 8 (cL m__law_part_or (consF (gv 5) (consF (gv 7) nilF)))) (seqM (setM 9 (c2 idxD (gb 2) (c2 modD (c2 divD (gb 6) (cst (.int 1009))) (cL lenD (consF (gb 2) nilF))))) (ifM (upT (andP (cT (c2 neB (gb 7) (cL mkTup nilF))) (andP (cT (c2 isNotB (gb 8) (cst .non))) (andP (cT (c2 eqB (cL m__law_blanks_of (consF (gv 8) nilF)) (cL mkLst nilF))) (cT (c2 eqB (c3 getD3 (gb 3) (gv 9) (gv 8)) (gb 8))))))) (seqM (putKM 3 (gv 9) (gv 8)) (setM 5 (cL m__law_put (consF (gv 5) (consF (gv 7) (consF (gv 9) nilF)))))) nxM))))
noncomputable abbrev mb__law_cut (m__law_places:List D→Option D) (m__law_part_or:List D→Option D) (m__law_put:List D→Option D) (m__law_blanks_of:List D→Option D) (n:Nat):En→Option Fl:=
  (seqM (setM 4 (cL m__law_places (consF (gv 0) nilF))) (seqM (setM 5 (gv 0)) (seqM (forS (cI (gv 1)) (gN 6) (lb__law_cut_1 m__law_places m__law_part_or m__law_put m__law_blanks_of n)) (retM (gv 5)))))
noncomputable def m__law_cut:D→List D→Option (D×D):=runX (mb__law_cut m__law_places m__law_part_or m__law_put m__law_blanks_of FUEL) 4 10 3
noncomputable abbrev lb_walks14_1 (m__law_blanks_of:List D→Option D) (m__law_filled:List D→Option D) (n:Nat):En→Option Fl:=
  (ifM (upT (orP (cT (c2 notInB (gv 5) (gb 3))) (cT (c2 (inK id) (gv 5) (gb 2))))) (retM (cst (.bl false))) nxM)
noncomputable abbrev lb_walks14_2 (m__law_blanks_of:List D→Option D) (m__law_filled:List D→Option D) (n:Nat):En→Option Fl:=
  (seqM (ifM (upT (cT (c2 notInB (gv 4) (gb 3)))) (retM (cst (.bl false))) nxM) (forS (cI (cL m__law_blanks_of (consF (c2 idxK (gb 2) (gv 4)) nilF))) (gN 5) (lb_walks14_1 m__law_blanks_of m__law_filled n)))
noncomputable abbrev mb_walks14 (m__law_blanks_of:List D→Option D) (m__law_filled:List D→Option D) (n:Nat):En→Option Fl:=
  (seqM (setM 3 (c2 addD (cL m__law_blanks_of (consF (gv 0) nilF)) (cL m__law_blanks_of (consF (gv 1) nilF)))) (seqM (ifM (upT (orP (notP (cT (c1 (isiD "dict") (gb 2)))) (cT (c2 neB (cL m__law_filled (consF (gv 0) (consF (gv 2) nilF))) (cL m__law_filled (consF (gv 1) (consF (gv 2) nilF))))))) (retM (cst (.bl false))) nxM) (seqM (forS (cKs (gv 2)) (gN 4) (lb_walks14_2 m__law_blanks_of m__law_filled n)) (retM (cst (.bl true))))))
noncomputable def m_walks14:List D→Option D:=runF (mb_walks14 m__law_blanks_of m__law_filled FUEL) 3 6
noncomputable abbrev lb__law_goes_by_1 (m__law_blanks_of:List D→Option D) (m__law_fits:D→List D→Option (D×D)) (m__law_filled:List D→Option D) (n:Nat):En→Option Fl:=
  (ifM (notM (valX (callX m__law_fits 4 (consF (cL m__law_filled (consF (gv 5) (consF (gv 2) nilF))) (consF (c2 idxK (gb 3) (gv 5)) nilF))))) (retM (cst (.bl false))) nxM)
noncomputable abbrev mb__law_goes_by (m__law_blanks_of:List D→Option D) (m__law_fits:D→List D→Option (D×D)) (m__law_filled:List D→Option D) (n:Nat):En→Option Fl:=
  (seqM (setO 4 (cst (.dic [] []))) (seqM (forS (cI (c2 addD (cL m__law_blanks_of (consF (gv 0) nilF)) (cL m__law_blanks_of (consF (gv 1) nilF)))) (gN 5) (lb__law_goes_by_1 m__law_blanks_of m__law_fits m__law_filled n)) (retM (cst (.bl true)))))
noncomputable def m__law_goes_by:List D→Option D:=runF (mb__law_goes_by m__law_blanks_of m__law_fits m__law_filled FUEL) 4 6
noncomputable abbrev ce_law14_1 (m__law_sorts:List D→Option D) (m__law_term:List D→Option D) (m__law_cut:D→List D→Option (D×D)) (m_made_alike:List D→Option D) (m__law_cell:List D→Option D) (m__law_stream:List D→Option D) (m__law_walks:List D→Option D) (m__law_goes_by:List D→Option D) (n:Nat):En→Option D:=
  (c2 idxD (gb 1) (c2 modD (c2 addD (c2 modD (cL m__law_cell (consF (gv 2) (consF (cst (.int 1)) nilF))) (cst (.int 26))) (c2 mulD (cst (.int 9)) (gb 0))) (cst (.int 26))))
noncomputable abbrev ce_law14_2 (m__law_sorts:List D→Option D) (m__law_term:List D→Option D) (m__law_cut:D→List D→Option (D×D)) (m_made_alike:List D→Option D) (m__law_cell:List D→Option D) (m__law_stream:List D→Option D) (m__law_walks:List D→Option D) (m__law_goes_by:List D→Option D) (n:Nat):En→Option D:=
  (c2 modD (c2 mulD (gb 0) (cst (.int 1000000007))) (cst (.int 2147483647)))
noncomputable abbrev ct_law14_3 (m__law_sorts:List D→Option D) (m__law_term:List D→Option D) (m__law_cut:D→List D→Option (D×D)) (m_made_alike:List D→Option D) (m__law_cell:List D→Option D) (m__law_stream:List D→Option D) (m__law_walks:List D→Option D) (m__law_goes_by:List D→Option D) (n:Nat):En→Option Bool:=
  (cT (c2 eqB (c2 modD (gb 0) (cst (.int 2))) (cst (.int 0))))
noncomputable abbrev ce_law14_4 (m__law_sorts:List D→Option D) (m__law_term:List D→Option D) (m__law_cut:D→List D→Option (D×D)) (m_made_alike:List D→Option D) (m__law_cell:List D→Option D) (m__law_stream:List D→Option D) (m__law_walks:List D→Option D) (m__law_goes_by:List D→Option D) (n:Nat):En→Option D:=
  (c2 idxD (gb 1) (gb 0))
noncomputable abbrev ct_law14_7 (m__law_sorts:List D→Option D) (m__law_term:List D→Option D) (m__law_cut:D→List D→Option (D×D)) (m_made_alike:List D→Option D) (m__law_cell:List D→Option D) (m__law_stream:List D→Option D) (m__law_walks:List D→Option D) (m__law_goes_by:List D→Option D) (n:Nat):En→Option Bool:=
  (cT (c2 eqB (c2 modD (gb 0) (cst (.int 2))) (cst (.int 1))))
noncomputable abbrev ce_law14_8 (m__law_sorts:List D→Option D) (m__law_term:List D→Option D) (m__law_cut:D→List D→Option (D×D)) (m_made_alike:List D→Option D) (m__law_cell:List D→Option D) (m__law_stream:List D→Option D) (m__law_walks:List D→Option D) (m__law_goes_by:List D→Option D) (n:Nat):En→Option D:=
  (c2 idxD (gb 1) (gb 0))
noncomputable abbrev mb_law14 (m__law_sorts:List D→Option D) (m__law_term:List D→Option D) (m__law_cut:D→List D→Option (D×D)) (m_made_alike:List D→Option D) (m__law_cell:List D→Option D) (m__law_stream:List D→Option D) (m__law_walks:List D→Option D) (m__law_goes_by:List D→Option D) (n:Nat):En→Option Fl:=
  (seqM (setM 1 (cL m__law_sorts (consF (cL m__law_cell (consF (gv 0) (consF (cst (.int 0)) nilF))) nilF))) (seqM (setM 2 (cst (.str "ABCDEFGHIJKLMNOPQRSTUVWXYZ"))) (seqM (setM 3 (compE [none,some 2,some 0] (cR1 (cst (.int 6))) (gN 0) yesP (ce_law14_1 m__law_sorts m__law_term m__law_cut m_made_alike m__law_cell m__law_stream m__law_walks m__law_goes_by n))) (seqM (setM 4 (c2 eqB (c2 modD (c2 divD (cL m__law_cell (consF (gv 0) (consF (cst (.int 1)) nilF))) (cst (.int 26))) (cst (.int 2))) (cst (.int 1)))) (seqM (setM 5 (cL m__law_term (consF (cL m__law_stream (consF (cL m__law_cell (consF (gv 0) (consF (cst (.int 2)) nilF))) (consF (c2 idxD (cL mkLst (consF (cst (.int 16)) (consF (cst (.int 7)) nilF))) (cL intD (consF (gb 4) nilF))) nilF))) (consF (gv 1) (consF (cL mkLst nilF) (consF (cst (.int 10)) nilF)))))) (seqM (setM 6 (compE [none] (cI (c2 addD (cL mkLst (consF (cst (.int 1)) (consF (cst (.int 2)) (consF (cst (.int 3)) (consF (cst (.int 4)) nilF))))) (cS sliceD (gb 0) (oSome (cst (.int 3))) (oSome (cst (.int 40)))))) (gN 0) yesP (ce_law14_2 m__law_sorts m__law_term m__law_cut m_made_alike m__law_cell m__law_stream m__law_walks m__law_goes_by n))) (seqM (setO 7 (cst (.dic [] []))) (seqM (asgX (callX m__law_cut 7 (consF (gv 5) (consF (compE [none,some 6] (cR1 (cL lenD (consF (gb 6) nilF))) (gN 0) (ct_law14_3 m__law_sorts m__law_term m__law_cut m_made_alike m__law_cell m__law_stream m__law_walks m__law_goes_by n) (ce_law14_4 m__law_sorts m__law_term m__law_cut m_made_alike m__law_cell m__law_stream m__law_walks m__law_goes_by n)) (consF (cS sliceD (gb 3) oNone (oSome (cst (.int 4)))) nilF)))) (gN 8)) (seqM (asgX (callX m__law_cut 7 (consF (gv 5) (consF (compE [none,some 6] (cR1 (cL lenD (consF (gb 6) nilF))) (gN 0) (ct_law14_7 m__law_sorts m__law_term m__law_cut m_made_alike m__law_cell m__law_stream m__law_walks m__law_goes_by n) (ce_law14_8 m__law_sorts m__law_term m__law_cut m_made_alike m__law_cell m__law_stream m__law_walks m__law_goes_by n)) (consF (cS sliceD (gb 3) (oSome (cst (.int 2))) oNone) nilF)))) (gN 9)) (seqM (ifM (upT (cTr (gb 4))) (parM 8 9 (consF (cL mkTup (consF (cst (.str "both")) (consF (gv 8) (consF (gv 9) nilF)))) (consF (cL mkTup (consF (cst (.str "both")) (consF (gv 9) (consF (gv 8) nilF)))) nilF))) nxM) (seqM (setM 10 (cL m_made_alike (consF (gv 8) (consF (gv 9) nilF)))) (frzM 7 (retM (andV (cL m__law_walks (consF (gv 8) (consF (gv 9) (consF (gv 10) nilF)))) (cL m__law_goes_by (consF (gv 8) (consF (gv 9) (consF (gv 10) (consF (gv 7) nilF)))))))))))))))))))
noncomputable def m_law14:List D→Option D:=runF (mb_law14 m__law_sorts m__law_term m__law_cut m_made_alike m__law_cell m__law_stream m_walks14 m__law_goes_by FUEL) 1 11
theorem sizes_map {f:T→T}:∀ (l:List T),(∀ t∈l,t.size≤(f t).size)→T.sizes l≤T.sizes (l.map f)
  | [],_=>by simp [T.sizes]
  | t::l,h=>by
    have:=h t (by simp)
    have:=sizes_map (f:=f) l fun u hu=>h u (List.mem_cons_of_mem _ hu)
    simp only [List.map_cons,T.sizes];omega
theorem fill_ge_size (φ:Fil):∀ t:T,t.size≤(fillT φ t).size:=by
  have key:∀ n (t:T),t.depth≤n→t.size≤(fillT φ t).size:=by
    intro n
    induction n with
    | zero=>intro t h;have:=depth_pos t;omega
    | succ n ih=>
      intro t h
      cases t with
      | bl x=>have:=size_pos (fillT φ (.bl x));simp [T.size];omega
      | nd s ts=>
        rw [T.depth] at h
        rw [fillT,fillTs_map,T.size,T.size]
        have:=sizes_map (f:=fillT φ) ts fun t ht=>ih t (by have:=depth_kid ht;omega)
        omega
  exact fun t=>key _ t (Nat.le_refl _)
theorem MA.resp {a b:T}{φ θ:Fil} {W:List (T×T)}(h:MA a b φ W) (e:fillT θ a=fillT θ b):Resp θ φ:=((h.eqv θ).mp e).1
theorem bd_of {a b:T}{θ:Fil} {V:List Str}{K N:Nat} (e:fillT θ a=fillT θ b) (hV:∀ x,x∈vs a∨x∈vs b→x∈V) (hK:V.length≤K) (hK2:K≤1000) (hN:(fillT θ a).size≤N) (hN2:N≤900) (hd:(fillT θ a).depth≤80):Bd a b K N:=by
  have ow:∀ {φ:Fil}{W:List (T×T)} {u:T},MA a b φ W→Orig a b u→(fillT φ u).depth≤80∧(fillT φ u).size≤N:=by
    intro φ W u h hu
    have r:=h.resp e
    have g1:=(fill_ge θ (fillT φ u)).1
    have g2:=fill_ge_size θ (fillT φ u)
    rw [resp_fill r] at g1 g2
    have hs:Sub (fillT θ u) (fillT θ a):=by
      rcases hu with hu | hu
      · exact fill_sub θ hu
      · rw [e];exact fill_sub θ hu
    have:=hs.size
    have:=hs.depth
    omega
  have len:∀ {φ:Fil}{W:List (T×T)},MA a b φ W→φ.length≤K:=by
    intro φ W h
    have:=len_sub (φ.map (·.1)) V h.nd fun x hx=>by
      obtain ⟨p,hp,rfl⟩:=List.mem_map.mp hx
      exact hV _ (h.vk p hp)
    rw [List.length_map] at this
    omega
  refine ⟨len,?_,?_,?_,?_,?_,hK2⟩
  · intro φ W u v y h hu hv ee
    have hy:fval φ y=none:=h.idem.vs (t:=u) (by rw [ee];simp [vs])
    refine ⟨nodup_lt h.nd hy (fun z hz=>?_) hK,by have:=(ow h hv).2;omega⟩
    rcases hz with rfl | hz
    · exact hV _ (h.vsT hu (by rw [ee];simp [vs]))
    · obtain ⟨p,hp,rfl⟩:=List.mem_map.mp hz
      exact hV _ (h.vk p hp)
  · intro φ W u h hu
    have h1:=ow h hu
    have:=wid_size (fillT φ u)
    omega
  · intro φ W h
    have l1:=wsum_len φ (·.1) W
    have s1:=h.s1 φ h.idem.resp
    have:=(ow h (.inl (.refl a))).2
    omega
  · intro φ W h p hp
    obtain ⟨E,hE⟩:=h.fr
    obtain ⟨h1,h2,h3⟩:=hE p hp
    have h4:=ow h h1
    rw [← h2] at h4
    have:=wid_size p.2
    omega
  · have:(K + 1) * (N + 1)≤1001 * 901:=Nat.mul_le_mul (by omega) (by omega)
    omega
noncomputable def partD (o:Option T):D:=match o with
  | some u=>u.d
  | none=>.non
theorem part_or_loop (P:D):∀ (p:List Int) (t:T) (k:Option Sl),(∀ i∈p,0≤i)→t.size≤1000→
    match partAt t p with
    | some u=>∃ k',forM (gN 2) (lb__law_part_or_1 FUEL) (p.map D.int) [some (.dat t.d),some (.dat P),k]=some (.nx [some (.dat u.d),some (.dat P),k'])
    | none=>∃ ρ',forM (gN 2) (lb__law_part_or_1 FUEL) (p.map D.int) [some (.dat t.d),some (.dat P),k]=some (.rt .non ρ')
  | [],t,k,_,_=>by
    have:partAt t []=some t:=by cases t<;>rfl
    rw [this]
    exact ⟨k,by simp [forM]⟩
  | i::p,.bl x,k,h,hz=>by
    simp only [partAt]
    exact ⟨_,by simp! [forM,d_bl];rfl⟩
  | i::p,.nd s ts,k,h,hz=>by
    have h0:=h i (by simp)
    rw [T.size] at hz
    have hl:=sizes_len ts
    by_cases hi:i < (ts.length:Int)
    · have hj:i.toNat < ts.length:=by omega
      rw [partAt_of h0 (List.getElem?_eq_getElem hj)]
      have a1:atI (D.str s::ts.map T.d) (1 + i)=some ts[i.toNat].d:=by
        have e3:(1:Int) + i=((i.toNat + 1:Nat):Int):=by omega
        rw [e3]
        exact atI_nat (by simp [hj])
      have n1:¬ ((ts.length:Int) + 1≤i + 1):=by omega
      have ih:=part_or_loop P p ts[i.toNat] (some (.dat (.int i))) (fun j hj=>h j (List.mem_cons_of_mem _ hj)) (by have:=size_kid (List.getElem_mem hj);omega)
      have st:∀ fl,forM (gN 2) (lb__law_part_or_1 FUEL) (p.map D.int) [some (.dat ts[i.toNat].d),some (.dat P),some (.dat (.int i))]=some fl→forM (gN 2) (lb__law_part_or_1 FUEL) ((i::p).map D.int) [some (.dat (T.nd s ts).d),some (.dat P),k]=some fl:=by
        intro fl hfl
        rw [List.map_cons,← hfl]
        have z:ts.length + 1≤1000000:=by omega
        have n2:¬ ((ts.length:Int)≤i):=by omega
        simp! [forM,d_nd,a1,n1,n2,z]
      revert ih
      cases partAt ts[i.toNat] p with
      | some u=>rintro ⟨k',e⟩;exact ⟨k',st _ e⟩
      | none=>rintro ⟨ρ',e⟩;exact ⟨ρ',st _ e⟩
    · have:partAt (.nd s ts) (i::p)=none:=by
        simp only [partAt,if_pos h0,List.getElem?_eq_none (show ts.length≤i.toNat by omega)]
      rw [this]
      have n1:(ts.length:Int) + 1≤i + 1:=by omega
      have n2:(ts.length:Int)≤i:=by omega
      have z:ts.length + 1≤1000000:=by omega
      exact ⟨_,by simp! [forM,d_nd,n1,n2,z];rfl⟩
theorem e_part_or (t:T) (p:List Int) (h:∀ i∈p,0≤i) (hz:t.size≤1000):m__law_part_or [t.d,pD p]=some (partD (partAt t p)):=by
  have:=part_or_loop (pD p) p t none h hz
  revert this
  cases partAt t p with
  | some u=>
    rintro ⟨k',e⟩
    simp only [pD] at e ⊢
    simp! [m__law_part_or,partD,e]
  | none=>
    rintro ⟨ρ',e⟩
    simp only [pD] at e ⊢
    simp! [m__law_part_or,partD,e]
theorem fill_put {θ:Fil}:∀ (p:List Int) (t u n:T),partAt t p=some u→fillT θ n=fillT θ u→fillT θ (putT t p n)=fillT θ t
  | [],t,u,n,h,e=>by
    have:some t=some u:=by cases t<;>simpa [partAt] using h
    rw [putT_nil,e,Option.some.inj this]
  | k::p,t,u,n,h,e=>by
    obtain ⟨s,ts,c,rfl,h0,e1,h2⟩:=partAt_cons h
    have ih:=fill_put p c u n h2 e
    have hl:k.toNat < ts.length:=(List.getElem?_eq_some_iff.mp e1).1
    have hc:ts[k.toNat]=c:=(List.getElem?_eq_some_iff.mp e1).2
    rw [putT_of e1,fillT,fillT,fillTs_map,fillTs_map,List.map_set,ih]
    congr 1
    apply List.ext_getElem
    · simp
    · intro i h1 h2
      rw [List.getElem_set]
      split
      · rename_i hi;subst hi;simp [hc]
      · rfl
theorem bks_nil {t:T}(h:bks t=[]):vs t=[]:=by
  cases e:vs t with
  | nil=>rfl
  | cons x l=>
    have:x∈bks t:=(bks_mem t).mpr (by rw [e];simp)
    rw [h] at this;cases this
theorem plc_nonneg:∀ (n:Nat) (t:T),t.depth≤n→∀ p∈plc t,∀ i∈p,0≤i:=by
  intro n
  induction n with
  | zero=>intro t h;have:=depth_pos t;omega
  | succ n ih=>
    intro t h p hp i hi
    cases t with
    | bl x=>simp [plc] at hp;subst hp;cases hi
    | nd s ts=>
      rw [T.depth] at h
      rw [plc] at hp
      rcases List.mem_cons.mp hp with rfl | hp
      · cases hi
      · have:∀ (l:List T) (k:Nat),(∀ t∈l,t∈ts)→p∈plcL k l→0≤i:=by
          intro l
          induction l with
          | nil=>intro k _ h;cases h
          | cons t l ihl=>
            intro k hl h
            rw [plcL] at h
            rcases List.mem_append.mp h with h | h
            · obtain ⟨q,hq,rfl⟩:=List.mem_map.mp h
              rcases List.mem_cons.mp hi with rfl | hi
              · omega
              · exact ih t (by have:=depth_kid (hl t (by simp));omega) q hq i hi
            · exact ihl (k + 1) (fun u hu=>hl u (List.mem_cons_of_mem _ hu)) h
        exact this ts 0 (fun t ht=>ht) hp
structure Cs (whole:T) (B:List Str) (θ:Fil):Prop where
  nd:(θ.map (·.1)).Nodup
  gr:∀ p∈θ,vs p.2=[]∧p.2.size≤whole.size∧p.2.depth≤whole.depth
  ks:∀ p∈θ,p.1∈B
structure Ct (whole:T) (θ:Fil) (t:T):Prop where
  fl:fillT θ t=whole
  dm:∀ x∈vs t,∃ v,fval θ x=some v
noncomputable def Ex (θ θ':Fil):Prop:=∀ x v,fval θ x=some v→fval θ' x=some v
theorem Ct.ex {whole t:T}{θ θ':Fil} (h:Ct whole θ t) (e:Ex θ θ'):Ct whole θ' t where
  fl:=by
    rw [← h.fl]
    refine fill_congr t fun x hx=>?_
    obtain ⟨v,hv⟩:=h.dm x hx
    rw [fill_some hv,fill_some (e x v hv)]
  dm:=fun x hx=>by
    obtain ⟨v,hv⟩:=h.dm x hx
    exact ⟨v,e x v hv⟩
theorem putF_memK {φ:Fil}{x:Str} {t:T}{p:Str×T} (h:p∈putF φ x t):p.1=x∨p∈φ:=by
  unfold putF at h
  split at h
  · obtain ⟨q,hq,rfl⟩:=List.mem_map.mp h
    split
    · rename_i e;exact .inl e
    · exact .inr hq
  · rcases List.mem_append.mp h with h | h
    · exact .inr h
    · rw [List.mem_singleton.mp h];exact .inl rfl
theorem cut_step {whole t u:T}{B:List Str} {θ:Fil}{p:List Int} {b:Str}(hs:Cs whole B θ) (ht:Ct whole θ t) (hp:partAt t p=some u) (hu:bks u=[]) (hb:b∈B) (hg:(fval θ b).getD u=u) :
    Cs whole B (putF θ b u)∧Ct whole (putF θ b u) (putT t p (.bl b))∧Ex θ (putF θ b u):=by
  have vu:=bks_nil hu
  have ex:Ex θ (putF θ b u):=fun x v hv=>by
    rw [fval_put]
    by_cases hx:x=b
    · subst hx;rw [hv] at hg;rw [if_pos rfl];exact congrArg some (by simpa using hg.symm)
    · rw [if_neg hx];exact hv
  have t':=ht.ex ex
  have zu:u.size≤whole.size:=by
    have:=partAt_size p t u hp
    have:=fill_ge_size θ t
    rw [ht.fl] at this;omega
  have du:u.depth≤whole.depth:=by
    have:=partAt_depth p t u hp
    have:=(fill_ge θ t).1
    rw [ht.fl] at this;omega
  refine ⟨⟨putF_keys _ _ _ hs.nd,fun q hq=>?_,fun q hq=>?_⟩,⟨?_,fun x hx=>?_⟩,ex⟩
  · rcases putF_mem hq with h | h
    · exact hs.gr q h
    · rw [h];exact ⟨vu,zu,du⟩
  · rcases putF_memK hq with h | h
    · rw [h];exact hb
    · exact hs.ks q h
  · rw [← t'.fl]
    refine fill_put p t u (.bl b) hp ?_
    rw [fill_some (t:=u) (by rw [fval_put,if_pos rfl]),fill_id (by rw [vu];intro x hx;cases hx)]
  · rcases vs_put p t _ x hx with h | h
    · exact t'.dm x h
    · simp [vs] at h
      subst h
      exact ⟨u,by rw [fval_put,if_pos rfl]⟩
theorem eq_nilS (l:List Str):eqB (.lst (l.map D.str)) (.lst [])=some (.bl (decide (l=[]))):=by
  have:=dep_strs l
  cases l with
  | nil=>simp [eqB,eqD,eqL,dep,depL]
  | cons x l=>
    have d':dep (D.lst ((x::l).map D.str))≤100:=by rw [dep];omega
    simp only [eqB,eqD]
    rw [if_pos d']
    simp [eqL]
theorem e_cut (whole:T) (B:List Str) (hz:whole.size≤900) (hd:whole.depth≤80) (hg:bks whole=[]) (ns:List Int) (bs:List Str) (hb:1≤bs.length) (hb2:bs.length≤1000) (hB:∀ x∈bs,x∈B) (hB2:B.length≤1000) (θ:Fil) (hs:Cs whole B θ) :
    ∃ (t:T) (θ':Fil),m__law_cut (fdic θ) [whole.d,.lst (ns.map D.int),.lst (bs.map D.str)]=some (t.d,fdic θ')∧Cs whole B θ'∧Ct whole θ' t∧Ex θ θ'∧(∀ x∈vs t,x∈B):=by
  have e1:m__law_places [whole.d]=some (.lst ((plc whole).map pD)):=e_places 100 whole (by omega) (by omega) (by omega)
  have lp:=plc_len whole
  have sp:=size_pos whole
  obtain ⟨ρ',f1,t,θ',k6,k7,k8,k9,rfl,h1,h2,h3,h4,_⟩:=for_by (g:=gN 6) (b:=lb__law_cut_1 m__law_places m__law_part_or m__law_put m__law_blanks_of FUEL) (xs:=ns.map D.int) (ρ:=[some (.dat whole.d),some (.dat (.lst (ns.map D.int))),some (.dat (.lst (bs.map D.str))),some (.inn (fdic θ)),some (.dat (.lst ((plc whole).map pD))),some (.dat whole.d),none,none,none,none])
    (fun i ρ=>∃ (t:T) (θ':Fil) (k6 k7 k8 k9:Option Sl),ρ=[some (.dat whole.d),some (.dat (.lst (ns.map D.int))),some (.dat (.lst (bs.map D.str))),some (.inn (fdic θ')),some (.dat (.lst ((plc whole).map pD))),some (.dat t.d),k6,k7,k8,k9]∧Cs whole B θ'∧Ct whole θ' t∧Ex θ θ'∧(∀ x∈vs t,x∈B)∧noBor [k6,k7,k8,k9]=true)
    ⟨whole,θ,none,none,none,none,rfl,hs,⟨fill_id (by rw [bks_nil hg];intro x hx;cases hx),(by rw [bks_nil hg];intro x hx;cases hx)⟩,fun x v h=>h,(by rw [bks_nil hg];intro x hx;cases hx),rfl⟩ (by
      rintro i x ρ hx ⟨t,θ',k6,k7,k8,k9,rfl,h1,h2,h3,h4,h5⟩
      obtain ⟨c,_,rfl⟩:=List.mem_map.mp (List.mem_of_getElem? hx)
      have om:okMod (whole.size:Int):=by show (0:Int) < _;omega
      have bm:okMod (bs.length:Int):=by show (0:Int) < _;omega
      have q0:0≤c % (whole.size:Int):=Int.emod_nonneg _ (by omega)
      have q1:c % (whole.size:Int) < (whole.size:Int):=Int.emod_lt_of_pos _ (by omega)
      obtain ⟨p,hp⟩:∃ p,(plc whole)[(c % (whole.size:Int)).toNat]?=some p:=⟨_,List.getElem?_eq_getElem (by omega)⟩
      have ap:atI ((plc whole).map pD) (c % (whole.size:Int))=some (pD p):=by
        rw [atI_of q0 (by rw [List.length_map,lp];exact q1),List.getElem?_map,hp];rfl
      have b0:0≤c / 1009 % (bs.length:Int):=Int.emod_nonneg _ (by omega)
      have b1:c / 1009 % (bs.length:Int) < (bs.length:Int):=Int.emod_lt_of_pos _ (by omega)
      obtain ⟨b,hbb,hbm⟩:∃ b,atI (bs.map D.str) (c / 1009 % (bs.length:Int))=some (.str b)∧b∈bs:=
        ⟨bs[(c / 1009 % (bs.length:Int)).toNat]'(by omega),by rw [atI_map,atI_of b0 b1,List.getElem?_eq_getElem (by omega)];rfl,List.getElem_mem _⟩
      have pn:=plc_nonneg _ whole (Nat.le_refl _) p (List.mem_of_getElem? hp)
      have tz:t.size≤900:=by have:=fill_ge_size θ' t;rw [h2.fl] at this;omega
      have td:t.depth≤80:=by have:=(fill_ge θ' t).1;rw [h2.fl] at this;omega
      have po:=e_part_or t p pn (by omega)
      have np:=ne_pD p []
      have np':neB (pD p) (.tup [])=some (.bl (!decide (p=[]))):=np
      have zl:(plc whole).length≤1000000:=by omega
      have zb:bs.length≤1000000:=by omega
      have stay:∀ (B':En→Option Fl) (r9:D),B'=lb__law_cut_1 m__law_places m__law_part_or m__law_put m__law_blanks_of FUEL→True:=fun _ _ _=>trivial
      generalize hpl:(plc whole).map pD=PL at ap ⊢
      have lpl:PL.length=whole.size:=by rw [← hpl,List.length_map,lp]
      have zpl:PL.length≤1000000:=by omega
      generalize hbl:bs.map D.str=BL at hbb ⊢
      have lbl:BL.length=bs.length:=by rw [← hbl,List.length_map]
      have noth:∀ P:D,(∃ ρ2,((gN 6 (.int c) [some (.dat whole.d),some (.dat (.lst (ns.map D.int))),some (.dat (.lst BL)),some (.inn (fdic θ')),some (.dat (.lst PL)),some (.dat t.d),k6,k7,k8,k9]).bind (lb__law_cut_1 m__law_places m__law_part_or m__law_put m__law_blanks_of FUEL)=some (.nx [some (.dat whole.d),some (.dat (.lst (ns.map D.int))),some (.dat (.lst BL)),some (.inn (fdic θ')),some (.dat (.lst PL)),some (.dat t.d),some (.dat (.int c)),some (.dat (pD p)),some (.dat P),some (.dat (.str b))]))∧ρ2=())→
          ∃ ρ2,((gN 6 (.int c) [some (.dat whole.d),some (.dat (.lst (ns.map D.int))),some (.dat (.lst BL)),some (.inn (fdic θ')),some (.dat (.lst PL)),some (.dat t.d),k6,k7,k8,k9]).bind (lb__law_cut_1 m__law_places m__law_part_or m__law_put m__law_blanks_of FUEL)=some (.nx ρ2)∨(gN 6 (.int c) [some (.dat whole.d),some (.dat (.lst (ns.map D.int))),some (.dat (.lst BL)),some (.inn (fdic θ')),some (.dat (.lst PL)),some (.dat t.d),k6,k7,k8,k9]).bind (lb__law_cut_1 m__law_places m__law_part_or m__law_put m__law_blanks_of FUEL)=some (.ct ρ2))∧∃ (t:T) (θ':Fil) (k6 k7 k8 k9:Option Sl),ρ2=[some (.dat whole.d),some (.dat (.lst (ns.map D.int))),some (.dat (.lst BL)),some (.inn (fdic θ')),some (.dat (.lst PL)),some (.dat t.d),k6,k7,k8,k9]∧Cs whole B θ'∧Ct whole θ' t∧Ex θ θ'∧(∀ x∈vs t,x∈B)∧noBor [k6,k7,k8,k9]=true:=by
        rintro P ⟨_,e,_⟩
        exact ⟨_,.inl e,t,θ',_,_,_,_,rfl,h1,h2,h3,h4,rfl⟩
      by_cases hpe:p=[]
      · refine noth (partD (partAt t p)) ⟨(),?_,rfl⟩
        simp only [hpe,decide_true,Bool.not_true] at np'
        rw [hpe] at ap po ⊢
        dsimp! [lpl,lbl,om,bm,zpl,zb,ap,po,hbb,np']
      simp only [hpe,decide_false,Bool.not_false] at np'
      cases hu:partAt t p with
      | none=>
        rw [hu] at po
        simp only [partD] at po
        refine noth .non ⟨(),?_,rfl⟩
        dsimp! [lpl,lbl,om,bm,zpl,zb,ap,po,hbb,np']
      | some u=>
        rw [hu] at po
        simp only [partD] at po
        have uz:=partAt_size p t u hu
        have ud:=partAt_depth p t u hu
        have bu:m__law_blanks_of [u.d]=some (.lst ((bks u).map D.str)):=e_lblanks 100 u (by omega) (by omega)
        have en:=eq_nilS (bks u)
        have nn:isNon u.d=false:=by cases u<;>simp [T.d,isNon]
        by_cases hbu:bks u=[]
        · simp only [hbu,decide_true,List.map_nil] at en bu
          have fv:=fval_d b θ'
          have ok:=fks_ok θ'
          have gd:((fval θ' b).map T.d).getD u.d=((fval θ' b).getD u).d:=by
            cases fval θ' b<;>rfl
          rw [← fv] at gd
          have ed:((fval θ' b).getD u).depth≤90:=by
            cases e:fval θ' b with
            | none=>simp;omega
            | some v=>
              obtain ⟨q,hq,_,rfl⟩:=fval_mem e
              have:=(h1.gr q hq).2.2
              simp;omega
          have eq:=eq_T ((fval θ' b).getD u) u ed
          by_cases hge:(fval θ' b).getD u=u
          · simp only [hge,decide_true] at eq gd
            obtain ⟨s1,s2,s3⟩:=cut_step h1 h2 hu hbu (hB b hbm) hge
            have pf:=putF_d θ' b u
            have pl:m__law_put [t.d,pD p,.str b]=some (putT t p (.bl b)).d:=e_lput 100 p t u (.bl b) (by have:=partAt_plen p t u hu;omega) (by have:=partAt_plen p t u hu;omega) hu (by omega)
            have kl:(fks θ').length < 1000000:=by
              have:=len_sub _ B h1.nd fun x hx=>by
                obtain ⟨q,hq,rfl⟩:=List.mem_map.mp hx
                exact h1.ks q hq
              rw [List.length_map] at this
              simp [fks];omega
            refine ⟨[some (.dat whole.d),some (.dat (.lst (ns.map D.int))),some (.dat (.lst BL)),some (.inn (fdic (putF θ' b u))),some (.dat (.lst PL)),some (.dat (putT t p (.bl b)).d),some (.dat (.int c)),some (.dat (pD p)),some (.dat u.d),some (.dat (.str b))],.inl ?_,_,_,_,_,_,_,rfl,s1,s2,fun x v hv=>s3 x v (h3 x v hv),fun x hx=>?_,rfl⟩
            · simp only [fdic]
              simp [lpl,lbl,om,bm,zpl,zb,ap,po,hbb,np',nn,bu,en,gd,eq,ok,kl,kdK,pf,pl,runF,startD,seqM,setM,setO,asgM,asgX,dropM,dropX,retM,retO,retN,ifM,upT,cT,cTr,truD,andP,orP,notP,andV,orV,notV,c1,c2,cL,cS,consF,nilF,cst,gv,gb,gN,gNil,gCons,gTup,oNone,oSome,compE,yesP,cI,cR1,cR2,cEnT,forS,itS,rng1,rng2,appM,extM,popM,popAtM,mkTup,mkLst,nxM,isiD,tyN,isiB,lim,bors,st0E,negD,revX,revD,tupleD,listD,lenD,idxD,sliceD,sliceL,addD,catD,subD,mulD,divD,modD,powD,cmpI,geD,isB,isNotB,absD,intD,runX,startX,callX,retX,putM,putKM,keyD,frzM,c3,getD3,dictD,disp1,cSg,innAt,itS,Sl.inn,Sl.own,maxDD,inB,notInB,okMul_r,okMul_l,okDiv_of,okMod_of,okPow_of,okRng_of,at0,at1,at2,at3]
            · rcases vs_put p t _ x hx with h | h
              · exact h4 x h
              · simp [vs] at h;rw [h];exact hB b hbm
          · simp only [hge,decide_false] at eq
            refine noth u.d ⟨(),?_,rfl⟩
            simp only [fdic]
            dsimp! [lpl,lbl,om,bm,zpl,zb,ap,po,hbb,np',nn,bu,en,gd,eq,ok,kdK]
        · simp only [hbu,decide_false] at en
          refine noth u.d ⟨(),?_,rfl⟩
          generalize (bks u).map D.str=L at bu en
          dsimp! [lpl,lbl,om,bm,zpl,zb,ap,po,hbb,np',nn,bu,en])
  refine ⟨t,θ',?_,h1,h2,h3,h4⟩
  simp only [fdic] at f1 ⊢
  dsimp! [m__law_cut,e1,f1]
theorem walks14_eq:m_walks14=m__law_walks:=rfl
theorem e_goes_by (a b:T) (φ θ:Fil) (h:Resp θ φ) (hz:a.size≤20∧b.size≤20) (hd:a.depth≤80∧b.depth≤80) (hv:∀ p∈θ,p.2.size≤20∧p.2.depth≤80) (dm:∀ x,x∈vs a∨x∈vs b→∃ v,fval θ x=some v):m__law_goes_by [a.d,b.d,fdic φ,fdic θ]=some (.bl true):=by
  have ba:m__law_blanks_of [a.d]=some (.lst ((bks a).map D.str)):=e_lblanks 100 a (by omega) (by omega)
  have bb:m__law_blanks_of [b.d]=some (.lst ((bks b).map D.str)):=e_lblanks 100 b (by omega) (by omega)
  have l1:=bks_len a
  have l2:=bks_len b
  have z0:(bks a).length + (bks b).length≤1000000:=by omega
  have mem:∀ x∈bks a++bks b,x∈vs a∨x∈vs b:=fun x hx=>by
    rw [List.mem_append,bks_mem,bks_mem] at hx;exact hx
  have eV:(bks a).map D.str++(bks b).map D.str=(bks a++bks b).map D.str:=by simp
  have vl:(bks a++bks b).length≤40:=by rw [List.length_append];omega
  generalize hV:bks a++bks b=V at mem eV vl
  have ok:=fks_ok θ
  obtain ⟨ρ',f1,l,k5,rfl,_⟩:=for_by (g:=gN 5) (b:=lb__law_goes_by_1 m__law_blanks_of m__law_fits m__law_filled FUEL) (xs:=V.map D.str) (ρ:=[some (.dat a.d),some (.dat b.d),some (.dat (fdic φ)),some (.dat (fdic θ)),some (.own (fdic [])),none])
    (fun i ρ=>∃ (l:List Str) (k5:Option Sl),ρ=[some (.dat a.d),some (.dat b.d),some (.dat (fdic φ)),some (.dat (fdic θ)),some (.own (fdic (cutF θ l))),k5]∧l.length≤20 * i) ⟨[],none,rfl,by simp⟩ (by
      rintro i x ρ hx ⟨l,k5,rfl,hl⟩
      have hi:i < V.length:=by have:=(List.getElem?_eq_some_iff.mp hx).1;simpa using this
      obtain ⟨z,hz',rfl⟩:=List.mem_map.mp (List.mem_of_getElem? hx)
      obtain ⟨v,ev⟩:=dm z (mem z hz')
      have fz:=fval_d z θ
      rw [ev] at fz
      have ff:m__law_filled [.str z,fdic φ]=some (fillT φ (.bl z)).d:=e_lfilledW φ 100 (.bl z) (by simp [T.depth]) (by simp [wid])
      have e1:v=fillT θ (fillT φ (.bl z)):=by rw [resp_fill h,fill_some ev]
      obtain ⟨q,hq,_,rfl⟩:=fval_mem ev
      have qv:=hv q hq
      have g1:=fill_ge_size θ (fillT φ (.bl z))
      have g2:=(fill_ge θ (fillT φ (.bl z))).1
      rw [← e1] at g1 g2
      have hm:=mt_fill θ (fillT φ (.bl z)) l
      rw [← e1] at hm
      have cl:(cutF θ l).length=l.length:=by simp [cutF]
      obtain ⟨φ',t1,t2,t3,t4⟩:=e_lfits 100 (fillT φ (.bl z)) q.2 (cutF θ l) (by omega) (by omega) (by omega) (by omega) (fun w hw=>by
        obtain ⟨y,hy,rfl⟩:=List.mem_map.mp hw
        simp only
        cases e:fval θ y with
        | none=>simp [T.depth]
        | some w=>
          obtain ⟨r,hr,_,rfl⟩:=fval_mem e
          have:=(hv r hr).2
          simp;omega) (by rw [cl];omega)
      have t2:=t2 _ hm
      rw [hm] at t1
      subst t2
      have t1:m__law_fits (fdic (cutF θ l)) [(fillT φ (.bl z)).d,q.2.d]=some (.bl true,fdic (cutF θ (l++(bks (fillT φ (.bl z))).filter fun x=>!decide (x∈l)))):=t1
      generalize hL:l++(bks (fillT φ (.bl z))).filter (fun x=>!decide (x∈l))=L at t1 t4
      refine ⟨[some (.dat a.d),some (.dat b.d),some (.dat (fdic φ)),some (.dat (fdic θ)),some (.own (fdic (cutF θ L))),some (.dat (.str z))],.inl ?_,L,_,rfl,by rw [cl] at t4;simp only [cutF,List.length_map] at t4;omega⟩
      simp only [fdic] at ff t1 ⊢
      simp! [notM,valX,ff,idxK,ok,kdK,fz,t1])
  simp only [fdic] at f1 ⊢
  have f1':=f1
  have n1:fks []=[]:=rfl
  have n2:fds []=[]:=rfl
  simp only [n1,n2,Sl.own] at f1'
  simp! [m__law_goes_by,ba,bb,z0,eV,f1']
theorem alike_some {a b:T}{o:Option Fil} (h:Alike a b o) (σ:Fil) (e:fillT σ a=fillT σ b):∃ φ,o=some φ∧MA a b φ []:=by
  cases o with
  | none=>exact absurd e (h σ)
  | some φ=>exact ⟨φ,rfl,h⟩
theorem comp_intsF {g:D→En→Option En}{t:En→Option Bool} {f:En→Option D}{ρ:En}:∀ {xs:List D},(∀ x∈xs,∃ ρ1 b v,g x ρ=some ρ1∧t ρ1=some b∧f ρ1=some (.int v))→∃ L:List Int,compM g t f ρ xs=some (L.map D.int)∧L.length≤xs.length
  | [],_=>⟨[],rfl,Nat.le_refl _⟩
  | x::xs,h=>by
    obtain ⟨ρ1,b,v,e1,e2,e3⟩:=h x (by simp)
    obtain ⟨L,e4,e5⟩:=comp_intsF (g:=g) (t:=t) (f:=f) (ρ:=ρ) (xs:=xs) fun y hy=>h y (List.mem_cons_of_mem _ hy)
    cases b with
    | true=>exact ⟨v::L,by simp [compM,e1,e2,e3,e4],by simp;omega⟩
    | false=>exact ⟨L,by simp [compM,e1,e2,e4],by simp;omega⟩
theorem law14_end (a b:T) (θ:Fil) (V:List Str) (e:fillT θ a=fillT θ b) (hV:∀ x,x∈vs a∨x∈vs b→x∈V) (hK:V.length≤6) (hN:(fillT θ a).size≤20) (hd:(fillT θ a).depth≤80) (hv:∀ p∈θ,p.2.size≤20∧p.2.depth≤80) (dm:∀ x,x∈vs a∨x∈vs b→∃ v,fval θ x=some v) :
    ∃ φ,m_made_alike [a.d,b.d]=some (fdic φ)∧m_walks14 [a.d,b.d,fdic φ]=some (.bl true)∧m__law_goes_by [a.d,b.d,fdic φ,fdic θ]=some (.bl true):=by
  have S:Bd a b 6 20:=bd_of (V:=V) e hV hK (by decide) hN (by decide) hd
  obtain ⟨o,o1,o2⟩:=e_made_alikeB a b S
  obtain ⟨φ,rfl,hM⟩:=alike_some o2 θ e
  have a1:=fill_ge_size θ a
  have a2:=fill_ge_size θ b
  have a3:=(fill_ge θ a).1
  have a4:=(fill_ge θ b).1
  rw [← e] at a2 a4
  refine ⟨φ,o1,?_,e_goes_by a b φ θ (hM.resp e) (by omega) (by omega) hv dm⟩
  rw [walks14_eq]
  exact e_walksB a b φ S hM (by omega) (by omega)
theorem e_blanks14 (ns:List Int) (c1':m__law_cell [.scr ns,.int 1]=some (.int (cellOf ns 1))):∃ bs:List Str,compM (gN 0) yesP (ce_law14_1 m__law_sorts m__law_term m__law_cut m_made_alike m__law_cell m__law_stream m_walks14 m__law_goes_by FUEL) [none,some (.dat (.str "ABCDEFGHIJKLMNOPQRSTUVWXYZ")),some (.dat (.scr ns))] (rangeL 0 6)=some (bs.map D.str)∧bs.length=6:=by
  obtain ⟨bs,p1,p2,p3⟩:=comp_strs (g:=gN 0) (f:=ce_law14_1 m__law_sorts m__law_term m__law_cut m_made_alike m__law_cell m__law_stream m_walks14 m__law_goes_by FUEL) (ρ:=[none,some (.dat (.str "ABCDEFGHIJKLMNOPQRSTUVWXYZ")),some (.dat (.scr ns))]) (m:=1) (xs:=rangeL 0 6) (by
    intro x hx
    obtain ⟨i,hi,rfl⟩:=mem_range hx
    obtain ⟨cc,hcc⟩:=letter ALEN (cellOf ns 1 + 9 * (i:Int))
    refine ⟨_,⟨#[cc]⟩,rfl,?_,by rw [len1];exact Nat.le_refl _⟩
    simp! [c1',ALEN',hcc])
  rw [rangeL_len] at p2
  exact ⟨bs,p1,p2⟩
theorem FACT14:∀ ns:List Int,ns.length≤63→m_law14 [.scr ns]=some (.bl true):=by
  intro ns hn
  have c0:=e_cell ns 0 (by omega)
  have c1':=e_cell ns 1 (by omega)
  have c2':=e_cell ns 2 (by omega)
  obtain ⟨ps,s1,S⟩:=e_sorts (cellOf ns 0)
  obtain ⟨bs,b1,b2⟩:=e_blanks14 ns c1'
  obtain ⟨K,hK,hK2,hK3⟩:∃ k:Nat,atI [D.int 16,D.int 7] (if cellOf ns 1 / 26 % 2=1 then 1 else 0)=some (.int k)∧1≤k∧(if cellOf ns 1 / 26 % 2=1 then k=7 else k=16):=by
    by_cases h:cellOf ns 1 / 26 % 2=1
    · exact ⟨7,by rw [if_pos h];rfl,by decide,by rw [if_pos h]⟩
    · exact ⟨16,by rw [if_neg h];rfl,by decide,by rw [if_neg h]⟩
  have hK16:K≤16:=by split at hK3<;>omega
  obtain ⟨r0,q0,l0⟩:=e_stream (cellOf ns 2) K (by omega)
  obtain ⟨w,w1,w2,w3,wW⟩:=e_termA r0 ps [] 10 S rfl (by decide) (by decide) (by omega) (by omega)
  have w1:m__law_term [.lst (r0.map D.int),.lst (ps.map sd),.lst [],.int 10]=some w.d:=w1
  have hg:bks w=[]:=by
    cases e:bks w with
    | nil=>rfl
    | cons x l=>exact absurd (WT_vs wW x ((bks_mem w).mp (by rw [e];simp))) (by simp)
  have cl:(cutG ns (some 3) (some 40)).length≤63:=by
    unfold cutG
    rw [List.length_take,List.length_drop];omega
  generalize hcs:cutG ns (some 3) (some 40)=cs at cl
  obtain ⟨N,n1,n2⟩:∃ N:List Int,compM (gN 0) yesP (ce_law14_2 m__law_sorts m__law_term m__law_cut m_made_alike m__law_cell m__law_stream m_walks14 m__law_goes_by FUEL) [none] (.int 1::.int 2::.int 3::.int 4::cs.map D.int)=some (N.map D.int)∧N.length≤(D.int 1::.int 2::.int 3::.int 4::cs.map D.int).length:=
    comp_intsF fun x hx=>by
      have:∃ c:Int,x=.int c:=by
        simp only [List.mem_cons] at hx
        rcases hx with rfl | rfl | rfl | rfl | hx
        · exact ⟨_,rfl⟩
        · exact ⟨_,rfl⟩
        · exact ⟨_,rfl⟩
        · exact ⟨_,rfl⟩
        · obtain ⟨c,_,rfl⟩:=List.mem_map.mp hx;exact ⟨c,rfl⟩
      obtain ⟨c,rfl⟩:=this
      exact ⟨_,true,c * 1000000007 % 2147483647,rfl,rfl,by simp [runF,startD,seqM,setM,setO,noBor,asgM,asgX,dropM,dropX,retM,retO,retN,ifM,upT,cT,cTr,truD,andP,orP,notP,andV,orV,notV,c1,c2,cL,cS,consF,nilF,cst,gv,gb,gN,gNil,gCons,gTup,oNone,oSome,compE,yesP,cI,cR1,cR2,cEnT,forS,itS,rng1,rng2,appM,extM,popM,popAtM,mkTup,mkLst,nxM,isiD,tyN,isiB,lim,bors,st0E,negD,revX,revD,tupleD,listD,lenD,idxD,sliceD,sliceL,addD,catD,subD,mulD,divD,modD,powD,cmpI,geD,isB,isNotB,isNon,absD,intD,runX,startX,callX,retX,putM,putKM,keyD,frzM,c3,getD3,dictD,disp1,cSg,innAt,itS,Sl.inn,Sl.own,maxDD,eqB,neB,inB,notInB,okMul_r,okMul_l,okDiv_of,okMod_of,okPow_of,okRng_of,at0,at1,at2,at3]⟩
  simp only [List.length_cons,List.length_map] at n2
  have pick:∀ (r:Int) (t:En→Option Bool) (f:En→Option D),t=cT (c2 eqB (c2 modD (gb 0) (cst (.int 2))) (cst (.int r)))→f=c2 idxD (gb 1) (gb 0)→∃ L:List Int,compM (gN 0) t f [none,some (.dat (.lst (N.map D.int)))] (rangeL 0 N.length)=some (L.map D.int):=by
    rintro r t f rfl rfl
    obtain ⟨L,h,_⟩:=comp_intsF (g:=gN 0) (t:=cT (c2 eqB (c2 modD (gb 0) (cst (.int 2))) (cst (.int r)))) (f:=c2 idxD (gb 1) (gb 0)) (ρ:=[none,some (.dat (.lst (N.map D.int)))]) (xs:=rangeL 0 N.length) fun x hx=>by
      obtain ⟨i,hi,rfl⟩:=mem_range hx
      have a1:atI (N.map D.int) (i:Int)=some (.int N[i]):=atI_nat (by simp [hi])
      exact ⟨_,decide ((i:Int) % 2=r),N[i],rfl,by simp! [eqD,dep];rfl,by simp! [a1]⟩
    exact ⟨L,h⟩
  obtain ⟨L1,p1⟩:=pick 0 (ct_law14_3 m__law_sorts m__law_term m__law_cut m_made_alike m__law_cell m__law_stream m_walks14 m__law_goes_by FUEL) (ce_law14_4 m__law_sorts m__law_term m__law_cut m_made_alike m__law_cell m__law_stream m_walks14 m__law_goes_by FUEL) rfl rfl
  obtain ⟨L2,p2⟩:=pick 1 (ct_law14_7 m__law_sorts m__law_term m__law_cut m_made_alike m__law_cell m__law_stream m_walks14 m__law_goes_by FUEL) (ce_law14_8 m__law_sorts m__law_term m__law_cut m_made_alike m__law_cell m__law_stream m_walks14 m__law_goes_by FUEL) rfl rfl
  have k1:cutG (bs.map D.str) none (some 4)=(bs.take 4).map D.str:=by rw [List.map_take];exact cut_to _ 4 (by simp;omega)
  have k2:cutG (bs.map D.str) (some 2) none=(bs.drop 2).map D.str:=by rw [List.map_drop];exact cut_hi _ 2 (by decide) (by simp;omega)
  obtain ⟨t1,θ1,e1,u1,v1,_,m1⟩:=e_cut w bs (by omega) (by omega) hg L1 (bs.take 4) (by simp;omega) (by simp;omega) (fun x hx=>List.mem_of_mem_take hx) (by omega) [] ⟨by simp,(fun p hp=>by cases hp),(fun p hp=>by cases hp)⟩
  obtain ⟨t2,θ,e2,u2,v2,x2,m2⟩:=e_cut w bs (by omega) (by omega) hg L2 (bs.drop 2) (by simp;omega) (by simp;omega) (fun x hx=>List.mem_of_mem_drop hx) (by omega) θ1 u1
  have v1:=v1.ex x2
  have e1:m__law_cut (.dic [] []) [w.d,.lst (L1.map D.int),.lst ((bs.take 4).map D.str)]=some (t1.d,.dic (fks θ1) (fds θ1)):=e1
  have e2:m__law_cut (.dic (fks θ1) (fds θ1)) [w.d,.lst (L2.map D.int),.lst ((bs.drop 2).map D.str)]=some (t2.d,.dic (fks θ) (fds θ)):=e2
  have hv:∀ p∈θ,p.2.size≤20∧p.2.depth≤80:=fun p hp=>by have:=u2.gr p hp;omega
  have q0:m__law_stream [.int (cellOf ns 2),.int K]=some (.lst (r0.map D.int)):=q0
  have zN:N.length≤1000000:=by omega
  have oN:okRng (N.length:Int):=okRng_of (by omega) (by omega)
  have zc:cs.length + 4≤1000000:=by omega
  have zc':4 + cs.length≤1000000:=by omega
  have zc2:cs.length + 1 + 1 + 1 + 1≤1000000:=by omega
  generalize bs.take 4=B1 at k1 e1
  generalize bs.drop 2=B2 at k2 e2
  by_cases hw:cellOf ns 1 / 26 % 2=1
  · rw [if_pos hw] at hK hK3
    obtain ⟨φ,r1,r2,r3⟩:=law14_end (.nd "both" [t1,t2]) (.nd "both" [t2,t1]) θ bs (by simp only [fillT,fillTs];rw [v1.fl,v2.fl]) (fun x hx=>by
        simp [vs,vsL] at hx
        rcases hx with (h | h) | h | h
        · exact m1 x h
        · exact m2 x h
        · exact m2 x h
        · exact m1 x h) (by omega) (by simp only [fillT,fillTs];rw [v1.fl,v2.fl];simp [T.size,T.sizes];omega) (by simp only [fillT,fillTs];rw [v1.fl,v2.fl];simp [T.depth,T.depths];omega) hv (fun x hx=>by
        simp [vs,vsL] at hx
        rcases hx with (h | h) | h | h
        · exact v1.dm x h
        · exact v2.dm x h
        · exact v2.dm x h
        · exact v1.dm x h)
    simp only [d_nd,List.map_cons,List.map_nil,fdic] at r1 r2 r3
    simp! [m_law14,c0,c1',c2',s1,b1,rangeL_len,hw,hK,q0,w1,hcs,zc,zc',zc2,n1,zN,oN,p1,p2,k1,k2,e1,e2,parM,r1,r2,r3,eqD,dep]
  · rw [if_neg hw] at hK hK3
    have hw':(cellOf ns 1 / 26 % 2 == 1)=false:=by simpa using hw
    obtain ⟨φ,r1,r2,r3⟩:=law14_end t1 t2 θ bs (by rw [v1.fl,v2.fl]) (fun x hx=>hx.elim (m1 x) (m2 x)) (by omega) (by rw [v1.fl];omega) (by rw [v1.fl];omega) hv (fun x hx=>hx.elim (v1.dm x) (v2.dm x))
    simp only [fdic] at r1 r2 r3
    simp! [m_law14,c0,c1',c2',s1,b1,rangeL_len,hw',hK,q0,w1,hcs,zc,zc',zc2,n1,zN,oN,p1,p2,k1,k2,e1,e2,parM,r1,r2,r3,eqD,dep]
noncomputable def top (i:Nat):Stmt:=PySem.Challenge.pw_endmeet_k14_whole_widest.main.body.getD i (.Pass ⟨0,0,0,0⟩)
section
variable {P:Program}{w:World} {K:PySem.W.Frag}{mg:Str→Option Value} {base:Heap}
theorem nd__law_k__law_letters__law_number:(["_law_k", "_law_letters", "_law_number"]:List Str).Nodup:=by decide +kernel
theorem nd__law_k__law_base:(["_law_k", "_law_base"]:List Str).Nodup:=by decide +kernel
theorem nd__law_k__law_base__law_letters__law_at__law_number:(["_law_k", "_law_base", "_law_letters", "_law_at", "_law_number"]:List Str).Nodup:=by decide +kernel
theorem sc__law_words:FnScope ["_law_cell_here", "_law_letters", "_law_number", "_law_base", "_law_k", "_law_at"] ["_law_cell_here"] (defScope (top 12)):=⟨rfl,rfl,rfl,by decide +kernel,rfl,by decide +kernel,by decide +kernel⟩
set_option maxHeartbeats 4000000 in
theorem ok__law_words {k:Nat}{f:Addr} {fd:FuncData}(B:Glb mg) (Fn:Fun K "_law_words" "_law_words" (top 12) f fd):FnOk P w K mg base CX0 (k + 1) f fd ["_law_cell_here"] (SpD K .ow (runF (mb__law_words  FUEL) 1 6)):=
  fn_mk Fn sc__law_words (mb:=mb__law_words ) (fun n cdv A outer s H E hr=>(sseq (sset 1 sc__law_words.nd fstr) (sseq (sset 2 sc__law_words.nd (fop p_mod (FP.br (fop p_mul (fb 0) (FP.br fint))) (FP.br (fop p_pow (FP.br fint) (FP.br fint))))) (sseq (sset 3 sc__law_words.nd fstr) (sseq (sfor PassesOwn.never rfl (irange1 (fop p_mod (fb 2) (FP.br fint)) rfl B.range) (gname 4 sc__law_words.nd) (sseq (sset 3 sc__law_words.nd (fop p_add (fb 3) (FP.br (fix p_ix (fb 1) (FP.br (fop p_mod (FP.br (fop p_div (fb 2) (FP.br fint))) (FP.br fint))) (fun _ _=>rfl))))) (sone (sset 2 sc__law_words.nd (fop p_div (fb 2) (FP.br fint)))))) (sseq (sset 5 sc__law_words.nd (fop p_mod (FP.br (fop p_div (fb 2) (FP.br fint))) (FP.br (fop p_add (FP.br (fcallB (c_len) rfl B.len PySem.boot_len (fconb (fb 3) fnil))) (FP.br fint))))) (sseq (sif (FTp.up (tcmp (p_eq (u100 hr)) (FP.br (fop p_mod (fb 2) (FP.br fint))) (FP.br fint) (nomark _))) (sseq (sset 3 sc__law_words.nd (fjoin fstr (FP.ob (fcomp ["_law_k", "_law_letters", "_law_number"] [none,some 1,some 2] (.own (.cap (.cap .nil))) rfl (irange1 fint rfl B.range) (fun _ _ _ _=>(gname 0 nd__law_k__law_letters__law_number)) (fun _ _ _ _=>pif0) (fun _ _ _ _=>(fix p_ix (fb 1) (FP.br (fop p_mod (FP.br (fop p_div (fb 2) (FP.br (fop p_add (FP.br fint) (FP.br (fop p_mul (fb 0) (fb 0))))))) (FP.br fint))) (fun _ _=>rfl))))))) (sone (sretw (fcomp ["_law_k", "_law_base"] [none,some 3] (.own (.cap .nil)) rfl (irange1 fint rfl B.range) (fun _ _ _ _=>(gname 0 nd__law_k__law_base)) (fun _ _ _ _=>pif0) (fun _ _ _ _=>(fslice p_slice (fb 1) o_none (o_some (fop p_add (fb 0) (FP.br fint))))))))) snil) (sone (sretw (fcomp ["_law_k", "_law_base", "_law_letters", "_law_at", "_law_number"] [none,some 3,some 1,some 5,some 2] (.own (.cap (.cap (.cap (.cap .nil))))) rfl (irange1 fint rfl B.range) (fun _ _ _ _=>(gname 0 nd__law_k__law_base__law_letters__law_at__law_number)) (fun _ _ _ _=>pif0) (fun _ _ _ _=>(fop p_add (FP.br (fop p_add (FP.br (fslice p_slice (fb 1) o_none (o_some (fv 3)))) (FP.br (fix p_ix (fb 2) (FP.br (fop p_mod (FP.br (fop p_add (FP.br (fop p_div (fb 4) (FP.br fint))) (FP.br (fop p_mul (FP.br fint) (fb 0))))) (FP.br fint))) (fun _ _=>rfl))))) (FP.br (fslice p_slice (fb 1) (o_some (fv 3)) o_none)))))))))))))) runF_hm
theorem nd__law_k__law_words_here__law_counts:(["_law_k", "_law_words_here", "_law_counts"]:List Str).Nodup:=by decide +kernel
theorem sc__law_sorts:FnScope ["_law_cell_here", "_law_words_here", "_law_counts", "_law_many"] ["_law_cell_here"] (defScope (top 13)):=⟨rfl,rfl,rfl,by decide +kernel,rfl,by decide +kernel,by decide +kernel⟩
set_option maxHeartbeats 4000000 in
theorem ok__law_sorts {m__law_words:List D→Option D}{k:Nat} {f:Addr}{fd:FuncData} (B:Glb mg) (Fn:Fun K "_law_sorts" "_law_sorts" (top 13) f fd) (G__law_words:Fk P w K mg base "_law_words" ["_law_cell_here"] .ow k m__law_words):FnOk P w K mg base CX0 (k + 1) f fd ["_law_cell_here"] (SpD K .ow (runF (mb__law_sorts m__law_words FUEL) 1 4)):=
  fn_mk Fn sc__law_sorts (mb:=mb__law_sorts m__law_words) (fun n cdv A outer s H E hr=>(sseq (sset 1 sc__law_sorts.nd (FP.fz (fk G__law_words hr (fcons (fv 0) fnil)))) (sseq (sset 2 sc__law_sorts.nd (fix p_ix (FP.ob (flst (fcons (FP.fz (flst (fcons fint (fcons fint (fcons fint (fcons fint (fcons fint fnil))))))) (fcons (FP.fz (flst (fcons fint (fcons fint (fcons fint (fcons fint (fcons fint fnil))))))) (fcons (FP.fz (flst (fcons fint (fcons fint (fcons fint (fcons fint (fcons fint fnil))))))) (fcons (FP.fz (flst (fcons fint (fcons fint (fcons fint (fcons fint (fcons fint fnil))))))) fnil)))))) (FP.br (fop p_mod (FP.br (fop p_div (fb 0) (FP.br fint))) (FP.br fint))) (fun _ _=>rfl))) (sseq (sset 3 sc__law_sorts.nd (fop p_add (FP.br fint) (FP.br (fop p_mod (FP.br (fop p_div (fb 0) (FP.br fint))) (FP.br fint))))) (sone (sretw (fcomp ["_law_k", "_law_words_here", "_law_counts"] [none,some 1,some 2] (.own (.cap (.cap .nil))) rfl (irange1 (fv 3) rfl B.range) (fun _ _ _ _=>(gname 0 nd__law_k__law_words_here__law_counts)) (fun _ _ _ _=>pif0) (fun _ _ _ _=>(ftup (fcons (fix p_ix (fb 1) (fb 0) (fun _ _=>rfl)) (fcons (fix p_ix (fb 2) (fb 0) (fun _ _=>rfl)) fnil))))))))))) runF_hm
theorem nd__law_one:(["_law_one"]:List Str).Nodup:=by decide +kernel
theorem sc__law_grown:FnScope ["_law_row", "_law_number", "_law_sorts_here", "_law_blanks", "_law_most", "_law_word", "_law_many", "_law_last", "_law_nest"] ["_law_row", "_law_number", "_law_sorts_here", "_law_blanks", "_law_most"] (defScope (top 14)):=⟨rfl,rfl,rfl,by decide +kernel,rfl,by decide +kernel,by decide +kernel⟩
set_option maxHeartbeats 4000000 in
theorem ok__law_grown {k:Nat}{f:Addr} {fd:FuncData}(B:Glb mg) (Fn:Fun K "_law_grown" "_law_grown" (top 14) f fd):FnOk P w K mg base CX0 (k + 1) f fd ["_law_row", "_law_number", "_law_sorts_here", "_law_blanks", "_law_most"] (SpD K .ow (runF (mb__law_grown  FUEL) 5 9)):=
  fn_mk Fn sc__law_grown (mb:=mb__law_grown ) (fun n cdv A outer s H E hr=>(sseq (sasg (fix p_ix (fb 2) (FP.br (fop p_mod (fb 1) (FP.br (fcallB (c_len) rfl B.len PySem.boot_len (fconb (fb 2) fnil))))) (fun _ _=>rfl)) (gtup rfl (gcons (gname 5 sc__law_grown.nd) (gcons (gname 6 sc__law_grown.nd) gnil)) (len_cons (len_cons len_nil)))) (sseq (sset 1 sc__law_grown.nd (fop p_div (fb 1) (FP.br fint))) (sseq (sset 7 sc__law_grown.nd (fslice p_slice (fb 0) (o_some (fop p_sub (FP.br (fcallB (c_len) rfl B.len PySem.boot_len (fconb (fb 0) fnil))) (fb 6))) o_none)) (sseq (sset 8 sc__law_grown.nd (fmaxD rfl rfl B.max (FP.ob (fcomp ["_law_one"] [none] (.own .nil) rfl (iseq (fv 7)) (fun _ _ _ _=>(gname 0 nd__law_one)) (fun _ _ _ _=>pif0) (fun _ _ _ _=>(fix p_ix (fb 0) (FP.br fint) (fun _ _=>rfl))))) fint)) (sseq (sif (FTp.up (FWp.pt (tand (tcmp (p_gt) (fb 6) (FP.br fint) (nomark _)) (tand (tcmp (p_le) (fb 6) (FP.br (fcallB (c_len) rfl B.len PySem.boot_len (fconb (fb 0) fnil))) (nomark _)) (tand (tcmp (p_lt) (fb 8) (fb 4) (nomark _)) (tand1 (tcmp (p_gt) (FP.br (fop p_mod (fb 1) (FP.br fint))) (FP.br fint) (nomark _)))))))) (sone (sretw (fop p_cat (FP.br (fslice p_slice (fb 0) o_none (o_some (fop p_sub (FP.br (fcallB (c_len) rfl B.len PySem.boot_len (fconb (fb 0) fnil))) (fb 6))))) (FP.ob (flst (fcons (FP.fz (flst (fcons (fop p_add (FP.br (ftup (fcons (fv 5) fnil))) (FP.br (fcallT c_tuple rfl B.tuple PyProof.Rows.boot_tuple (fconb (FP.ob (fcomp ["_law_one"] [none] (.own .nil) rfl (iseq (fv 7)) (fun _ _ _ _=>(gname 0 nd__law_one)) (fun _ _ _ _=>pif0) (fun _ _ _ _=>(fix p_ix (fb 0) (FP.br fint) (fun _ _=>rfl))))) fnil)))) (fcons (fop p_add (fb 8) (FP.br fint)) fnil)))) fnil)))))) snil) (sseq (sif (FTp.up (FWp.pt (tor (tcmp (p_eq (u100 hr)) (fb 3) (FP.ob (flst fnil)) (nomark _)) (tor1 (tcmp (p_eq (u100 hr)) (FP.br (fop p_mod (FP.br (fop p_div (fb 1) (FP.br fint))) (FP.br fint))) (FP.br fint) (nomark _)))))) (sone (sretw (fop p_cat (fb 0) (FP.ob (flst (fcons (FP.fz (flst (fcons (ftup (fcons (fix p_ix (FP.br (fix p_ix (fb 2) (FP.br fint) (fun _ _=>rfl))) (FP.br fint) (fun _ _=>rfl)) fnil)) (fcons fint fnil)))) fnil)))))) snil) (sone (sretw (fop p_cat (fb 0) (FP.ob (flst (fcons (FP.fz (flst (fcons (fix p_ix (fb 3) (FP.br (fop p_mod (FP.br (fop p_div (fb 1) (FP.br fint))) (FP.br (fcallB (c_len) rfl B.len PySem.boot_len (fconb (fb 3) fnil))))) (fun _ _=>rfl)) (fcons fint fnil)))) fnil))))))))))))) runF_hm
theorem nd__law_part_here:(["_law_part_here"]:List Str).Nodup:=by decide +kernel
theorem sc__law_count:FnScope ["_law_term_here"] ["_law_term_here"] (defScope (top 18)):=⟨rfl,rfl,rfl,by decide +kernel,rfl,by decide +kernel,by decide +kernel⟩
set_option maxHeartbeats 4000000 in
theorem ok__law_count {m__law_count:List D→Option D}{k:Nat} {f:Addr}{fd:FuncData} (B:Glb mg) (Fn:Fun K "_law_count" "_law_count" (top 18) f fd) (G__law_count:Fk P w K mg base "_law_count" ["_law_term_here"] .fz k m__law_count):FnOk P w K mg base CX0 (k + 1) f fd ["_law_term_here"] (SpD K .fz (runF (mb_count01 m__law_count FUEL) 1 1)):=
  fn_mk Fn sc__law_count (mb:=mb_count01 m__law_count) (fun n cdv A outer s H E hr=>(sseq (sif (FTp.up (tval (fisi (fb 0) rfl B.isi rfl B.str PyProof.Rows.boot_str))) (sone (sret fint)) snil) (sone (sret (fop p_add (FP.br fint) (FP.br (fcallB (c_sum rfl) rfl B.sum PyProof.Rows.boot_sum (fconb (FP.ob (fcomp ["_law_part_here"] [none] (.own .nil) rfl (iseq (fslice p_slice (fb 0) (o_some fint) o_none)) (fun _ _ _ _=>(gname 0 nd__law_part_here)) (fun _ _ _ _=>pif0) (fun _ _ _ _=>(fk G__law_count hr (fcons (fv 0) fnil))))) fnil)))))))) runF_hm
theorem sc__law_term:FnScope ["_law_numbers", "_law_sorts_here", "_law_blanks", "_law_most", "_law_row", "_law_number", "_law_found", "_law_one"] ["_law_numbers", "_law_sorts_here", "_law_blanks", "_law_most"] (defScope (top 19)):=⟨rfl,rfl,rfl,by decide +kernel,rfl,by decide +kernel,by decide +kernel⟩
set_option maxHeartbeats 4000000 in
theorem ok__law_term {m__law_grown:List D→Option D}{m__law_count:List D→Option D} {k:Nat}{f:Addr} {fd:FuncData}(B:Glb mg) (Fn:Fun K "_law_term" "_law_term" (top 19) f fd) (G__law_grown:Fk P w K mg base "_law_grown" ["_law_row", "_law_number", "_law_sorts_here", "_law_blanks", "_law_most"] .ow k m__law_grown) (G__law_count:Fk P w K mg base "_law_count" ["_law_term_here"] .fz k m__law_count):FnOk P w K mg base CX0 (k + 1) f fd ["_law_numbers", "_law_sorts_here", "_law_blanks", "_law_most"] (SpD K .fz (runF (mb__law_term m__law_grown m__law_count FUEL) 4 8)):=
  fn_mk Fn sc__law_term (mb:=mb__law_term m__law_grown m__law_count) (fun n cdv A outer s H E hr=>(sseq (sset 4 sc__law_term.nd (FP.fz (flst fnil))) (sseq (sfor PassesOwn.never rfl (iseq (fv 0)) (gname 5 sc__law_term.nd) (sone (sset 4 sc__law_term.nd (FP.fz (fk G__law_grown hr (fcons (fv 4) (fcons (fv 5) (fcons (fv 1) (fcons (fv 2) (fcons (fv 3) fnil)))))))))) (sseq (sset 6 sc__law_term.nd (fix p_ix (FP.br (fix p_ix (fb 4) (FP.br fint) (fun _ _=>rfl))) (FP.br fint) (fun _ _=>rfl))) (sseq (sfor PassesOwn.never rfl (iseq (fslice p_slice (fb 4) (o_some fint) o_none)) (gname 7 sc__law_term.nd) (sone (sif (FTp.up (tcmp (p_ge (u100 hr)) (FP.br (fk G__law_count hr (fcons (fix p_ix (fb 7) (FP.br fint) (fun _ _=>rfl)) fnil))) (FP.br (fk G__law_count hr (fcons (fv 6) fnil))) (nomark _))) (sone (sset 6 sc__law_term.nd (fix p_ix (fb 7) (FP.br fint) (fun _ _=>rfl)))) snil))) (sone (sret (fv 6)))))))) runF_hm
theorem nd__law_place__law_k:(["_law_place", "_law_k"]:List Str).Nodup:=by decide +kernel
theorem sc__law_places:FnScope ["_law_term_here", "_law_found", "_law_k"] ["_law_term_here"] (defScope (top 21)):=⟨rfl,rfl,rfl,by decide +kernel,rfl,by decide +kernel,by decide +kernel⟩
set_option maxHeartbeats 4000000 in
theorem ok__law_places {m__law_places:List D→Option D}{k:Nat} {f:Addr}{fd:FuncData} (B:Glb mg) (Fn:Fun K "_law_places" "_law_places" (top 21) f fd) (G__law_places:Fk P w K mg base "_law_places" ["_law_term_here"] .fz k m__law_places):FnOk P w K mg base CX0 (k + 1) f fd ["_law_term_here"] (SpD K .fz (runF (mb__law_places m__law_places FUEL) 1 3)):=
  fn_mk Fn sc__law_places (mb:=mb__law_places m__law_places) (fun n cdv A outer s H E hr=>(sseq (sset 1 sc__law_places.nd (FP.fz (flst (fcons (ftup fnil) fnil)))) (sseq (sif (FTp.up (tval (fisi (fb 0) rfl B.isi rfl B.tuple PyProof.Rows.boot_tuple))) (sone (sfor PassesOwn.never rfl (irange1 (fop p_sub (FP.br (fcallB (c_len) rfl B.len PySem.boot_len (fconb (fb 0) fnil))) (FP.br fint)) rfl B.range) (gname 2 sc__law_places.nd) (sone (sset 1 sc__law_places.nd (fop p_add (fb 1) (FP.ob (fcomp ["_law_place", "_law_k"] [none,some 2] (.own (.cap .nil)) rfl (iseq (fk G__law_places hr (fcons (fix p_ix (fb 0) (FP.br (fop p_add (FP.br fint) (fb 2))) (fun _ _=>rfl)) fnil))) (fun _ _ _ _=>(gname 0 nd__law_place__law_k)) (fun _ _ _ _=>pif0) (fun _ _ _ _=>(fop p_add (FP.br (ftup (fcons (fv 1) fnil))) (fb 0)))))))))) snil) (sone (sret (fv 1)))))) runF_hm
theorem sc__law_part_or:FnScope ["_law_term_here", "_law_place", "_law_k"] ["_law_term_here", "_law_place"] (defScope (top 23)):=⟨rfl,rfl,rfl,by decide +kernel,rfl,by decide +kernel,by decide +kernel⟩
set_option maxHeartbeats 4000000 in
theorem ok__law_part_or {k:Nat}{f:Addr} {fd:FuncData}(B:Glb mg) (Fn:Fun K "_law_part_or" "_law_part_or" (top 23) f fd):FnOk P w K mg base CX0 (k + 1) f fd ["_law_term_here", "_law_place"] (SpD K .fz (runF (mb__law_part_or  FUEL) 2 3)):=
  fn_mk Fn sc__law_part_or (mb:=mb__law_part_or ) (fun n cdv A outer s H E hr=>(sseq (sfor PassesOwn.never rfl (iseq (fv 1)) (gname 2 sc__law_part_or.nd) (sseq (sif (FTp.up (FWp.pt (tor (tval (fisi (fb 0) rfl B.isi rfl B.str PyProof.Rows.boot_str)) (tor1 (tcmp (p_ge (u100 hr)) (FP.br (fop p_add (fb 2) (FP.br fint))) (FP.br (fcallB (c_len) rfl B.len PySem.boot_len (fconb (fb 0) fnil))) (nomark _)))))) (sone (sret fnon)) snil) (sone (sset 0 sc__law_part_or.nd (fix p_ix (fb 0) (FP.br (fop p_add (FP.br fint) (fb 2))) (fun _ _=>rfl)))))) (sone (sret (fv 0))))) runF_hm
theorem sc__law_put:FnScope ["_law_term_here", "_law_place", "_law_new", "_law_k"] ["_law_term_here", "_law_place", "_law_new"] (defScope (top 22)):=⟨rfl,rfl,rfl,by decide +kernel,rfl,by decide +kernel,by decide +kernel⟩
set_option maxHeartbeats 4000000 in
theorem ok__law_put {m__law_put:List D→Option D}{k:Nat} {f:Addr}{fd:FuncData} (B:Glb mg) (Fn:Fun K "_law_put" "_law_put" (top 22) f fd) (G__law_put:Fk P w K mg base "_law_put" ["_law_term_here", "_law_place", "_law_new"] .fz k m__law_put):FnOk P w K mg base CX0 (k + 1) f fd ["_law_term_here", "_law_place", "_law_new"] (SpD K .fz (runF (mb__law_put m__law_put FUEL) 3 4)):=
  fn_mk Fn sc__law_put (mb:=mb__law_put m__law_put) (fun n cdv A outer s H E hr=>(sseq (sif (FTp.up (tcmp (p_eq (u100 hr)) (fb 1) (FP.br (ftup fnil)) (nomark _))) (sone (sret (fv 2))) snil) (sseq (sset 3 sc__law_put.nd (fop p_add (FP.br fint) (FP.br (fix p_ix (fb 1) (FP.br fint) (fun _ _=>rfl))))) (sone (sret (fop p_add (FP.br (fop p_add (FP.br (fslice p_slice (fb 0) o_none (o_some (fv 3)))) (FP.br (ftup (fcons (fk G__law_put hr (fcons (fix p_ix (fb 0) (fb 3) (fun _ _=>rfl)) (fcons (fslice p_slice (fb 1) (o_some fint) o_none) (fcons (fv 2) fnil)))) fnil))))) (FP.br (fslice p_slice (fb 0) (o_some (fop p_add (fb 3) (FP.br fint))) o_none)))))))) runF_hm
theorem nd__law_blank__law_found:(["_law_blank", "_law_found"]:List Str).Nodup:=by decide +kernel
theorem sc__law_blanks_of:FnScope ["_law_term_here", "_law_found", "_law_part_here"] ["_law_term_here"] (defScope (top 26)):=⟨rfl,rfl,rfl,by decide +kernel,rfl,by decide +kernel,by decide +kernel⟩
set_option maxHeartbeats 4000000 in
theorem ok__law_blanks_of {m__law_blanks_of:List D→Option D}{k:Nat} {f:Addr}{fd:FuncData} (B:Glb mg) (Fn:Fun K "_law_blanks_of" "_law_blanks_of" (top 26) f fd) (G__law_blanks_of:Fk P w K mg base "_law_blanks_of" ["_law_term_here"] .fz k m__law_blanks_of):FnOk P w K mg base CX0 (k + 1) f fd ["_law_term_here"] (SpD K .fz (runF (mb__law_blanks_of m__law_blanks_of FUEL) 1 3)):=
  fn_mk Fn sc__law_blanks_of (mb:=mb__law_blanks_of m__law_blanks_of) (fun n cdv A outer s H E hr=>(sseq (sif (FTp.up (tval (fisi (fb 0) rfl B.isi rfl B.str PyProof.Rows.boot_str))) (sone (sret (FP.fz (flst (fcons (fv 0) fnil))))) snil) (sseq (sset 1 sc__law_blanks_of.nd (FP.fz (flst fnil))) (sseq (sfor PassesOwn.never rfl (iseq (fslice p_slice (fb 0) (o_some fint) o_none)) (gname 2 sc__law_blanks_of.nd) (sone (sset 1 sc__law_blanks_of.nd (fop p_add (fb 1) (FP.ob (fcomp ["_law_blank", "_law_found"] [none,some 1] (.own (.cap .nil)) rfl (iseq (fk G__law_blanks_of hr (fcons (fv 2) fnil))) (fun _ _ _ _=>(gname 0 nd__law_blank__law_found)) (fun _ _ _ _=>pif1 (tcmpf (p_notIn (u101 hr)) (fv 0) (fb 1) (by with_unfolding_all rfl))) (fun _ _ _ _=>(fv 0)))))))) (sone (sret (fv 1))))))) runF_hm
theorem sc__law_cut:FnScope ["_law_whole", "_law_numbers", "_law_blanks", "_law_filling", "_law_places_here", "_law_term_here", "_law_number", "_law_place", "_law_part_here", "_law_blank"] ["_law_whole", "_law_numbers", "_law_blanks", "_law_filling"] (defScope (top 28)):=⟨rfl,rfl,rfl,by decide +kernel,rfl,by decide +kernel,by decide +kernel⟩
set_option maxHeartbeats 4000000 in
theorem ok__law_cut {m__law_places:List D→Option D}{m__law_part_or:List D→Option D} {m__law_put:List D→Option D}{m__law_blanks_of:List D→Option D} {k:Nat}{f:Addr} {fd:FuncData}(B:Glb mg) (Fn:Fun K "_law_cut" "_law_cut" (top 28) f fd) (G__law_places:Fk P w K mg base "_law_places" ["_law_term_here"] .fz k m__law_places) (G__law_part_or:Fk P w K mg base "_law_part_or" ["_law_term_here", "_law_place"] .fz k m__law_part_or) (G__law_put:Fk P w K mg base "_law_put" ["_law_term_here", "_law_place", "_law_new"] .fz k m__law_put) (G__law_blanks_of:Fk P w K mg base "_law_blanks_of" ["_law_term_here"] .fz k m__law_blanks_of):FnOk P w K mg base CX0 (k + 1) f fd ["_law_whole", "_law_numbers", "_law_blanks", "_law_filling"] (SpX K 3 (runX (mb__law_cut m__law_places m__law_part_or m__law_put m__law_blanks_of FUEL) 4 10 3)):=
  fn_mkX Fn sc__law_cut (mb:=mb__law_cut m__law_places m__law_part_or m__law_put m__law_blanks_of) 4 10 3 rfl rfl (fun n cdv A outer s H E hr=>(sseq (sset 4 sc__law_cut.nd (fk G__law_places hr (fcons (fv 0) fnil))) (sseq (sset 5 sc__law_cut.nd (fv 0)) (sseq (sfor PassesOwn.never rfl (iseq (fv 1)) (gname 6 sc__law_cut.nd) (sseq (sset 7 sc__law_cut.nd (fix p_ix (fb 4) (FP.br (fop p_mod (fb 6) (FP.br (fcallB (c_len) rfl B.len PySem.boot_len (fconb (fb 4) fnil))))) (fun _ _=>rfl))) (sseq (sset 8 sc__law_cut.nd (fk G__law_part_or hr (fcons (fv 5) (fcons (fv 7) fnil)))) (sseq (sset 9 sc__law_cut.nd (fix p_ix (fb 2) (FP.br (fop p_mod (FP.br (fop p_div (fb 6) (FP.br fint))) (FP.br (fcallB (c_len) rfl B.len PySem.boot_len (fconb (fb 2) fnil))))) (fun _ _=>rfl))) (sone (sif (FTp.up (FWp.pt (tand (tcmp (p_ne (u100 hr)) (fb 7) (FP.br (ftup fnil)) (nomark _)) (tand (tcmp (p_isNot) (fb 8) (FP.br fnon) (nomark _)) (tand (tcmp (p_eq (u100 hr)) (FP.br (fk G__law_blanks_of hr (fcons (fv 8) fnil))) (FP.ob (flst fnil)) (nomark _)) (tand1 (tcmp (p_eq (u100 hr)) (FP.br (fget (u100 hr) (fb 3) (fv 9) (fv 8))) (fb 8) (nomark _)))))))) (sseq (sputK 3 (u100 hr) (fv 8) (fv 9)) (sone (sset 5 sc__law_cut.nd (fk G__law_put hr (fcons (fv 5) (fcons (fv 7) (fcons (fv 9) fnil))))))) snil)))))) (sone (sret (fv 5)))))))
theorem sc_is_blank:FnScope ["term"] ["term"] (defScope (top 1)):=⟨rfl,rfl,rfl,by decide +kernel,rfl,by decide +kernel,by decide +kernel⟩
set_option maxHeartbeats 4000000 in
theorem ok_is_blank {k:Nat}{f:Addr} {fd:FuncData}(B:Glb mg) (Fn:Fun K "is_blank" "is_blank" (top 1) f fd):FnOk P w K mg base CX0 (k + 1) f fd ["term"] (SpD K .fz (runF (mb_is_blank  FUEL) 1 1)):=
  fn_mk Fn sc_is_blank (mb:=mb_is_blank ) (fun n cdv A outer s H E hr=>(sone (sret (fisi (fb 0) rfl B.isi rfl B.str PyProof.Rows.boot_str)))) runF_hm
theorem sc_paired_parts:FnScope ["one", "other"] ["one", "other"] (defScope (top 7)):=⟨rfl,rfl,rfl,by decide +kernel,rfl,by decide +kernel,by decide +kernel⟩
set_option maxHeartbeats 4000000 in
theorem ok_paired_parts {m_is_blank:List D→Option D}{k:Nat} {f:Addr}{fd:FuncData} (B:Glb mg) (Fn:Fun K "paired_parts" "paired_parts" (top 7) f fd) (G_is_blank:Fk P w K mg base "is_blank" ["term"] .fz k m_is_blank):FnOk P w K mg base CX0 (k + 1) f fd ["one", "other"] (SpD K .fz (runF (mb_paired_parts m_is_blank FUEL) 2 2)):=
  fn_mk Fn sc_paired_parts (mb:=mb_paired_parts m_is_blank) (fun n cdv A outer s H E hr=>(sseq (sif (FTp.up (FWp.pt (tor (tval (fk G_is_blank hr (fcons (fv 0) fnil))) (tor1 (tval (fk G_is_blank hr (fcons (fv 1) fnil))))))) (sone (sret fnon)) snil) (sseq (sif (FTp.up (FWp.pt (tor (tcmp (p_ne (u100 hr)) (FP.br (fix p_ix (fb 0) (FP.br fint) (fun _ _=>rfl))) (FP.br (fix p_ix (fb 1) (FP.br fint) (fun _ _=>rfl))) (nomark _)) (tor1 (tcmp (p_ne (u100 hr)) (FP.br (fcallB (c_len) rfl B.len PySem.boot_len (fconb (fb 0) fnil))) (FP.br (fcallB (c_len) rfl B.len PySem.boot_len (fconb (fb 1) fnil))) (nomark _)))))) (sone (sret fnon)) snil) (sone (sret (FP.fz (fzipL rfl rfl B.list rfl B.zip (fslice p_slice (fb 0) (o_some fint) o_none) (fslice p_slice (fb 1) (o_some fint) o_none)))))))) runF_hm
theorem nd_part_filling:(["part", "filling"]:List Str).Nodup:=by decide +kernel
theorem sc_filled:FnScope ["term", "filling"] ["term", "filling"] (defScope (top 6)):=⟨rfl,rfl,rfl,by decide +kernel,rfl,by decide +kernel,by decide +kernel⟩
set_option maxHeartbeats 4000000 in
theorem ok_filled {m_is_blank:List D→Option D}{m_filled:List D→Option D} {k:Nat}{f:Addr} {fd:FuncData}(B:Glb mg) (Fn:Fun K "filled" "filled" (top 6) f fd) (G_is_blank:Fk P w K mg base "is_blank" ["term"] .fz k m_is_blank) (G_filled:Fk P w K mg base "filled" ["term", "filling"] .fz k m_filled):FnOk P w K mg base CX0 (k + 1) f fd ["term", "filling"] (SpD K .fz (runF (mb_filled m_is_blank m_filled FUEL) 2 2)):=
  fn_mk Fn sc_filled (mb:=mb_filled m_is_blank m_filled) (fun n cdv A outer s H E hr=>(sseq (sif (FTp.up (tval (fk G_is_blank hr (fcons (fv 0) fnil)))) (sone (sret (fget (u100 hr) (fb 1) (fv 0) (fv 0)))) snil) (sone (sret (fop p_add (FP.br (ftup (fcons (fix p_ix (fb 0) (FP.br fint) (fun _ _=>rfl)) fnil))) (FP.br (fcallT c_tuple rfl B.tuple PyProof.Rows.boot_tuple (fconb (FP.ob (fcomp ["part", "filling"] [none,some 1] (.own (.cap .nil)) rfl (iseq (fslice p_slice (fb 0) (o_some fint) o_none)) (fun _ _ _ _=>(gname 0 nd_part_filling)) (fun _ _ _ _=>pif0) (fun _ _ _ _=>(fk G_filled hr (fcons (fv 0) (fcons (fv 1) fnil)))))) fnil)))))))) runF_hm
theorem nd_known_held_blank_term:(["known", "held", "blank", "term"]:List Str).Nodup:=by decide +kernel
theorem sc_with_blank:FnScope ["filling", "blank", "term", "made"] ["filling", "blank", "term"] (defScope (top 8)):=⟨rfl,rfl,rfl,by decide +kernel,rfl,by decide +kernel,by decide +kernel⟩
set_option maxHeartbeats 4000000 in
theorem ok_with_blank {m_filled:List D→Option D}{k:Nat} {f:Addr}{fd:FuncData} (B:Glb mg) (Fn:Fun K "with_blank" "with_blank" (top 8) f fd) (G_filled:Fk P w K mg base "filled" ["term", "filling"] .fz k m_filled):FnOk P w K mg base CX0 (k + 1) f fd ["filling", "blank", "term"] (SpD K .fz (runF (mb_with_blank m_filled FUEL) 3 4)):=
  fn_mk Fn sc_with_blank (mb:=mb_with_blank m_filled) (fun n cdv A outer s H E hr=>(sseq (ssetCD 3 ["known", "held", "blank", "term"] [none,none,some 1,some 2] (.own (.own (.cap (.cap .nil)))) rfl sc_with_blank.nd (iitems (fv 0)) (fun _ _ _ _=>(gtup rfl (gcons (gname 0 nd_known_held_blank_term) (gcons (gname 1 nd_known_held_blank_term) gnil)) (len_cons (len_cons len_nil)))) (fun _ _ _ _=>pif0) (fun _ _ _ _=>(fv 0)) (fun _ _ _ _=>(fk G_filled hr (fcons (fv 1) (fcons (FP.fz (fdisp1 (fv 2) (fv 3))) fnil))))) (sseq (sputK 3 (u100 hr) (fv 2) (fv 1)) (sone (sretF 3))))) runF_hm
theorem sc_inner_parts:FnScope ["term"] ["term"] (defScope (top 2)):=⟨rfl,rfl,rfl,by decide +kernel,rfl,by decide +kernel,by decide +kernel⟩
set_option maxHeartbeats 4000000 in
theorem ok_inner_parts {m_is_blank:List D→Option D}{k:Nat} {f:Addr}{fd:FuncData} (B:Glb mg) (Fn:Fun K "inner_parts" "inner_parts" (top 2) f fd) (G_is_blank:Fk P w K mg base "is_blank" ["term"] .fz k m_is_blank):FnOk P w K mg base CX0 (k + 1) f fd ["term"] (SpD K .fz (runF (mb_inner_parts m_is_blank FUEL) 1 1)):=
  fn_mk Fn sc_inner_parts (mb:=mb_inner_parts m_is_blank) (fun n cdv A outer s H E hr=>(sseq (sif (FTp.up (tval (fk G_is_blank hr (fcons (fv 0) fnil)))) (sone (sret (ftup fnil))) snil) (sone (sret (fslice p_slice (fb 0) (o_some fint) o_none))))) runF_hm
theorem nd_at_held_place:(["at", "held", "place"]:List Str).Nodup:=by decide +kernel
theorem sc_placed_parts:FnScope ["term", "found", "waiting", "place", "part", "inner"] ["term"] (defScope (top 3)):=⟨rfl,rfl,rfl,by decide +kernel,rfl,by decide +kernel,by decide +kernel⟩
set_option maxHeartbeats 4000000 in
theorem ok_placed_parts {m_inner_parts:List D→Option D}{k:Nat} {f:Addr}{fd:FuncData} (B:Glb mg) (Fn:Fun K "placed_parts" "placed_parts" (top 3) f fd) (G_inner_parts:Fk P w K mg base "inner_parts" ["term"] .fz k m_inner_parts):FnOk P w K mg base CX0 (k + 1) f fd ["term"] (SpD K .fz (runF (mb_placed_parts m_inner_parts FUEL) 1 6)):=
  fn_mk Fn sc_placed_parts (mb:=mb_placed_parts m_inner_parts) (fun n cdv A outer s H E hr=>(sseq (ssetO 1 sc_placed_parts.nd (flst fnil)) (sseq (ssetO 2 sc_placed_parts.nd (flst (fcons (ftup (fcons (ftup fnil) (fcons (fv 0) fnil))) fnil))) (sseq (swhile n PassesOwn.never (FTp.up (ttru (fb 2))) (sseq (sasgX (xpop 2) (gtup rfl (gcons (gname 3 sc_placed_parts.nd) (gcons (gname 4 sc_placed_parts.nd) gnil)) (len_cons (len_cons len_nil)))) (sseq (sexprX (xappend 1 (ftup (fcons (fv 3) (fcons (fv 4) fnil))))) (sseq (ssetC 5 ["at", "held", "place"] [none,none,some 3] (.own (.own (.cap .nil))) rfl sc_placed_parts.nd (ienumT (fk G_inner_parts hr (fcons (fv 4) fnil)) rfl B.enum) (fun _ _ _ _=>(gtup rfl (gcons (gname 0 nd_at_held_place) (gcons (gname 1 nd_at_held_place) gnil)) (len_cons (len_cons len_nil)))) (fun _ _ _ _=>pif0) (fun _ _ _ _=>(ftup (fcons (fop p_add (fb 2) (FP.br (ftup (fcons (fv 0) fnil)))) (fcons (fv 1) fnil))))) (sone (sexprX (xextend 2 (FP.fz (frev (fb 5) (fneg fint)))))))))) (sone (sretF 1)))))) runF_hm
theorem sc_blanks_of:FnScope ["term", "found", "place", "part"] ["term"] (defScope (top 4)):=⟨rfl,rfl,rfl,by decide +kernel,rfl,by decide +kernel,by decide +kernel⟩
set_option maxHeartbeats 4000000 in
theorem ok_blanks_of {m_placed_parts:List D→Option D}{m_is_blank:List D→Option D} {k:Nat}{f:Addr} {fd:FuncData}(B:Glb mg) (Fn:Fun K "blanks_of" "blanks_of" (top 4) f fd) (G_placed_parts:Fk P w K mg base "placed_parts" ["term"] .fz k m_placed_parts) (G_is_blank:Fk P w K mg base "is_blank" ["term"] .fz k m_is_blank):FnOk P w K mg base CX0 (k + 1) f fd ["term"] (SpD K .fz (runF (mb_blanks_of m_placed_parts m_is_blank FUEL) 1 4)):=
  fn_mk Fn sc_blanks_of (mb:=mb_blanks_of m_placed_parts m_is_blank) (fun n cdv A outer s H E hr=>(sseq (ssetO 1 sc_blanks_of.nd (flst fnil)) (sseq (sfor PassesOwn.never rfl (iseq (fk G_placed_parts hr (fcons (fv 0) fnil))) (gtup rfl (gcons (gname 2 sc_blanks_of.nd) (gcons (gname 3 sc_blanks_of.nd) gnil)) (len_cons (len_cons len_nil))) (sone (sif (FTp.up (FWp.pt (tand (tval (fk G_is_blank hr (fcons (fv 3) fnil))) (tand1 (tcmpf (p_notIn (u101 hr)) (fv 3) (fb 1) (by with_unfolding_all rfl)))))) (sone (sexprX (xappend 1 (fv 3)))) snil))) (sone (sretF 1))))) runF_hm
theorem sc_made_alike:FnScope ["one", "other", "filling", "waiting", "first", "second", "left", "right", "pairs"] ["one", "other"] (defScope (top 9)):=⟨rfl,rfl,rfl,by decide +kernel,rfl,by decide +kernel,by decide +kernel⟩
set_option maxHeartbeats 4000000 in
theorem ok_made_alike {m_is_blank:List D→Option D}{m_paired_parts:List D→Option D} {m_filled:List D→Option D}{m_with_blank:List D→Option D} {m_blanks_of:List D→Option D}{k:Nat} {f:Addr}{fd:FuncData} (B:Glb mg) (Fn:Fun K "made_alike" "made_alike" (top 9) f fd) (G_is_blank:Fk P w K mg base "is_blank" ["term"] .fz k m_is_blank) (G_paired_parts:Fk P w K mg base "paired_parts" ["one", "other"] .fz k m_paired_parts) (G_filled:Fk P w K mg base "filled" ["term", "filling"] .fz k m_filled) (G_with_blank:Fk P w K mg base "with_blank" ["filling", "blank", "term"] .fz k m_with_blank) (G_blanks_of:Fk P w K mg base "blanks_of" ["term"] .fz k m_blanks_of):FnOk P w K mg base CX0 (k + 1) f fd ["one", "other"] (SpD K .fz (runF (mb_made_alike m_is_blank m_paired_parts m_filled m_with_blank m_blanks_of FUEL) 2 9)):=
  fn_mk Fn sc_made_alike (mb:=mb_made_alike m_is_blank m_paired_parts m_filled m_with_blank m_blanks_of) (fun n cdv A outer s H E hr=>(sseq (sset 2 sc_made_alike.nd (FP.fz fdic0)) (sseq (ssetO 3 sc_made_alike.nd (flst (fcons (ftup (fcons (fv 0) (fcons (fv 1) fnil))) fnil))) (sseq (swhile n PassesOwn.never (FTp.up (ttru (fb 3))) (sseq (sasgX (xpopAt 3 fint) (gtup rfl (gcons (gname 4 sc_made_alike.nd) (gcons (gname 5 sc_made_alike.nd) gnil)) (len_cons (len_cons len_nil)))) (sseq (spar 6 7 rfl sc_made_alike.nd (fcons (fk G_filled hr (fcons (fv 4) (fcons (fv 2) fnil))) (fcons (fk G_filled hr (fcons (fv 5) (fcons (fv 2) fnil))) fnil))) (sseq (sif (FTp.up (tcmp (p_eq (u100 hr)) (fb 6) (fb 7) (nomark _))) (sone scont) snil) (sseq (sif (FTp.up (tval (fk G_is_blank hr (fcons (fv 7) fnil)))) (sone (spar 6 7 rfl sc_made_alike.nd (fcons (fv 7) (fcons (fv 6) fnil)))) snil) (sseq (sif (FTp.up (tval (fk G_is_blank hr (fcons (fv 6) fnil)))) (sseq (sif (FTp.up (tcmpf (p_in (u101 hr)) (fv 6) (FP.br (fk G_blanks_of hr (fcons (fv 7) fnil))) (by with_unfolding_all rfl))) (sone (sret fnon)) snil) (sseq (sset 2 sc_made_alike.nd (fk G_with_blank hr (fcons (fv 2) (fcons (fv 6) (fcons (fv 7) fnil))))) (sone scont))) snil) (sseq (sset 8 sc_made_alike.nd (fk G_paired_parts hr (fcons (fv 6) (fcons (fv 7) fnil)))) (sseq (sif (FTp.up (tcmp (p_is) (fb 8) (FP.br fnon) (nomark _))) (sone (sret fnon)) snil) (sone (ssetO 3 sc_made_alike.nd (fop p_cat (fb 8) (fb 3)))))))))))) (sone (sret (fv 2))))))) runF_hm
theorem sc__law_cell:FnScope ["_law_script", "_law_k"] ["_law_script", "_law_k"] (defScope (top 11)):=⟨rfl,rfl,rfl,by decide +kernel,rfl,by decide +kernel,by decide +kernel⟩
set_option maxHeartbeats 4000000 in
theorem ok__law_cell {k:Nat}{f:Addr} {fd:FuncData}(B:Glb mg) (Fn:Fun K "_law_cell" "_law_cell" (top 11) f fd):FnOk P w K mg base CX0 (k + 1) f fd ["_law_script", "_law_k"] (SpD K .fz (runF (mb__law_cell  FUEL) 2 2)):=
  fn_mk Fn sc__law_cell (mb:=mb__law_cell ) (fun n cdv A outer s H E hr=>(sseq (sif (FTp.up (tcmp (p_lt) (fb 1) (FP.br (fcallB (c_len) rfl B.len PySem.boot_len (fconb (fb 0) fnil))) (nomark _))) (sone (sret (fix p_ix (fb 0) (fb 1) (fun _ _=>rfl)))) snil) (sone (sret fint)))) runF_hm
theorem sc__law_purse:FnScope ["_law_cell_here", "_law_number", "_law_found", "_law_k"] ["_law_cell_here"] (defScope (top 15)):=⟨rfl,rfl,rfl,by decide +kernel,rfl,by decide +kernel,by decide +kernel⟩
set_option maxHeartbeats 4000000 in
theorem ok__law_purse {k:Nat}{f:Addr} {fd:FuncData}(B:Glb mg) (Fn:Fun K "_law_purse" "_law_purse" (top 15) f fd):FnOk P w K mg base CX0 (k + 1) f fd ["_law_cell_here"] (SpD K .ow (runF (mb__law_purse  FUEL) 1 4)):=
  fn_mk Fn sc__law_purse (mb:=mb__law_purse ) (fun n cdv A outer s H E hr=>(sseq (sset 1 sc__law_purse.nd (fop p_mod (fb 0) (FP.br fint))) (sseq (sset 2 sc__law_purse.nd fint) (sseq (sfor PassesOwn.never rfl (irange1 fint rfl B.range) (gname 3 sc__law_purse.nd) (sseq (sset 1 sc__law_purse.nd (fop p_mod (FP.br (fop p_add (FP.br (fop p_add (FP.br (fop p_add (FP.br (fop p_mul (fb 1) (fb 1))) (FP.br (fop p_mul (FP.br (fop p_mul (FP.br fint) (fb 3))) (fb 3))))) (fb 3))) (FP.br fint))) (FP.br fint))) (sone (sset 2 sc__law_purse.nd (fop p_add (FP.br (fop p_mul (fb 2) (FP.br fint))) (FP.br (fop p_mod (FP.br (fop p_mul (fb 1) (fb 1))) (FP.br fint)))))))) (sseq (sif (FTp.up (tcmp (p_eq (u100 hr)) (FP.br (fop p_mod (fb 0) (FP.br fint))) (FP.br fint) (nomark _))) (sone (sretw (flst (fcons (fop p_div (FP.br (fcallB (c_abs) rfl B.abs PyProof.Rows.boot_abs (fconb (fb 0) fnil))) (FP.br fint)) (fcons (fv 2) fnil))))) snil) (sone (sretw (flst (fcons fint (fcons (fv 2) fnil)))))))))) runF_hm
theorem sc__law_take:FnScope ["_law_purse_here", "_law_many", "_law_at", "_law_found"] ["_law_purse_here", "_law_many"] (defScope (top 16)):=⟨rfl,rfl,rfl,by decide +kernel,rfl,by decide +kernel,by decide +kernel⟩
set_option maxHeartbeats 4000000 in
theorem ok__law_take {k:Nat}{f:Addr} {fd:FuncData}(B:Glb mg) (Fn:Fun K "_law_take" "_law_take" (top 16) f fd):FnOk P w K mg base CX0 (k + 1) f fd ["_law_purse_here", "_law_many"] (SpX K 0 (runX (mb__law_take  FUEL) 2 4 0)):=
  fn_mkX Fn sc__law_take (mb:=mb__law_take ) 2 4 0 rfl rfl (fun n cdv A outer s H E hr=>(sseq (sset 2 sc__law_take.nd (fcallT c_int rfl B.int PyProof.Rows.boot_int (fconb (FP.br (fcmp (p_eq (u100 hr)) (FP.br (fix p_ix (fb 0) (FP.br fint) (fun _ _=>rfl))) (FP.br fint) (nomark _))) fnil))) (sseq (sset 3 sc__law_take.nd (fop p_mod (FP.br (fix p_ix (fb 0) (fb 2) (fun _ _=>rfl))) (fb 1))) (sseq (sput 0 (fop p_div (FP.br (fix p_ix (fb 0) (fb 2) (fun _ _=>rfl))) (fb 1)) (fv 2)) (sone (sret (fv 3)))))))
theorem nd__law_k__law_purse_here:(["_law_k", "_law_purse_here"]:List Str).Nodup:=by decide +kernel
theorem sc__law_stream:FnScope ["_law_cell_here", "_law_many", "_law_purse_here"] ["_law_cell_here", "_law_many"] (defScope (top 17)):=⟨rfl,rfl,rfl,by decide +kernel,rfl,by decide +kernel,by decide +kernel⟩
set_option maxHeartbeats 4000000 in
theorem ok__law_stream {m__law_purse:List D→Option D}{m__law_take:D→List D→Option (D×D)} {k:Nat}{f:Addr} {fd:FuncData}(B:Glb mg) (Fn:Fun K "_law_stream" "_law_stream" (top 17) f fd) (G__law_purse:Fk P w K mg base "_law_purse" ["_law_cell_here"] .ow k m__law_purse) (G__law_take:FkX P w K mg base "_law_take" ["_law_purse_here", "_law_many"] 0 k m__law_take):FnOk P w K mg base CX0 (k + 1) f fd ["_law_cell_here", "_law_many"] (SpD K .fz (runF (mb__law_stream m__law_purse m__law_take FUEL) 2 3)):=
  fn_mk Fn sc__law_stream (mb:=mb__law_stream m__law_purse m__law_take) (fun n cdv A outer s H E hr=>(sseq (ssetO 2 sc__law_stream.nd (fk G__law_purse hr (fcons (fv 0) fnil))) (sone (sretX (xcomp 2 1 ["_law_k", "_law_purse_here"] [none,some 2] (.own (.cap .nil)) rfl (irange1 (fv 1) rfl B.range) (fun _ _ _ _=>(gname 0 nd__law_k__law_purse_here)) (fun _ _ _ _=>(xcall0 1 G__law_take hr fint))))))) runF_hm
theorem nd__law_part_here__law_filling:(["_law_part_here", "_law_filling"]:List Str).Nodup:=by decide +kernel
theorem sc__law_filled:FnScope ["_law_term_here", "_law_filling"] ["_law_term_here", "_law_filling"] (defScope (top 24)):=⟨rfl,rfl,rfl,by decide +kernel,rfl,by decide +kernel,by decide +kernel⟩
set_option maxHeartbeats 4000000 in
theorem ok__law_filled {m__law_filled:List D→Option D}{k:Nat} {f:Addr}{fd:FuncData} (B:Glb mg) (Fn:Fun K "_law_filled" "_law_filled" (top 24) f fd) (G__law_filled:Fk P w K mg base "_law_filled" ["_law_term_here", "_law_filling"] .fz k m__law_filled):FnOk P w K mg base CX0 (k + 1) f fd ["_law_term_here", "_law_filling"] (SpD K .fz (runF (mb__law_filled m__law_filled FUEL) 2 2)):=
  fn_mk Fn sc__law_filled (mb:=mb__law_filled m__law_filled) (fun n cdv A outer s H E hr=>(sseq (sif (FTp.up (tval (fisi (fb 0) rfl B.isi rfl B.str PyProof.Rows.boot_str))) (sone (sret (fget (u100 hr) (fb 1) (fv 0) (fv 0)))) snil) (sone (sret (fop p_add (FP.br (fslice p_slice (fb 0) o_none (o_some fint))) (FP.br (fcallT c_tuple rfl B.tuple PyProof.Rows.boot_tuple (fconb (FP.ob (fcomp ["_law_part_here", "_law_filling"] [none,some 1] (.own (.cap .nil)) rfl (iseq (fslice p_slice (fb 0) (o_some fint) o_none)) (fun _ _ _ _=>(gname 0 nd__law_part_here__law_filling)) (fun _ _ _ _=>pif0) (fun _ _ _ _=>(fk G__law_filled hr (fcons (fv 0) (fcons (fv 1) fnil)))))) fnil)))))))) runF_hm
theorem sc__law_walks:FnScope ["_law_one", "_law_other", "_law_found", "_law_blanks", "_law_blank", "_law_its"] ["_law_one", "_law_other", "_law_found"] (defScope (top 27)):=⟨rfl,rfl,rfl,by decide +kernel,rfl,by decide +kernel,by decide +kernel⟩
set_option maxHeartbeats 4000000 in
theorem ok__law_walks {m__law_blanks_of:List D→Option D}{m__law_filled:List D→Option D} {k:Nat}{f:Addr} {fd:FuncData}(B:Glb mg) (Fn:Fun K "_law_walks" "_law_walks" (top 27) f fd) (G__law_blanks_of:Fk P w K mg base "_law_blanks_of" ["_law_term_here"] .fz k m__law_blanks_of) (G__law_filled:Fk P w K mg base "_law_filled" ["_law_term_here", "_law_filling"] .fz k m__law_filled):FnOk P w K mg base CX0 (k + 1) f fd ["_law_one", "_law_other", "_law_found"] (SpD K .fz (runF (mb_walks14 m__law_blanks_of m__law_filled FUEL) 3 6)):=
  fn_mk Fn sc__law_walks (mb:=mb_walks14 m__law_blanks_of m__law_filled) (fun n cdv A outer s H E hr=>(sseq (sset 3 sc__law_walks.nd (fop p_add (FP.br (fk G__law_blanks_of hr (fcons (fv 0) fnil))) (FP.br (fk G__law_blanks_of hr (fcons (fv 1) fnil))))) (sseq (sif (FTp.up (FWp.pt (tor (tnot (tval (fisi (fb 2) rfl B.isi rfl B.dict PyProof.Rows.boot_dict))) (tor1 (tcmp (p_ne (u100 hr)) (FP.br (fk G__law_filled hr (fcons (fv 0) (fcons (fv 2) fnil)))) (FP.br (fk G__law_filled hr (fcons (fv 1) (fcons (fv 2) fnil)))) (nomark _)))))) (sone (sret fbl)) snil) (sseq (sfor PassesOwn.never rfl (ikeys (fv 2)) (gname 4 sc__law_walks.nd) (sseq (sif (FTp.up (tcmpf (p_notIn (u101 hr)) (fv 4) (fb 3) (by with_unfolding_all rfl))) (sone (sret fbl)) snil) (sone (sfor PassesOwn.never rfl (iseq (fk G__law_blanks_of hr (fcons (fixK (u100 hr) (fb 2) (fv 4) (fun _ _=>rfl)) fnil))) (gname 5 sc__law_walks.nd) (sone (sif (FTp.up (FWp.pt (tor (tcmpf (p_notIn (u101 hr)) (fv 5) (fb 3) (by with_unfolding_all rfl)) (tor1 (tcmpf (p_inKey (u101 hr)) (fv 5) (fb 2) (by with_unfolding_all rfl)))))) (sone (sret fbl)) snil)))))) (sone (sret fbl)))))) runF_hm
theorem sc__law_fits:FnScope ["_law_pattern", "_law_term_here", "_law_filling", "_law_k"] ["_law_pattern", "_law_term_here", "_law_filling"] (defScope (top 25)):=⟨rfl,rfl,rfl,by decide +kernel,rfl,by decide +kernel,by decide +kernel⟩
set_option maxHeartbeats 4000000 in
theorem ok__law_fits {m__law_fits:D→List D→Option (D×D)}{k:Nat} {f:Addr}{fd:FuncData} (B:Glb mg) (Fn:Fun K "_law_fits" "_law_fits" (top 25) f fd) (G__law_fits:FkX P w K mg base "_law_fits" ["_law_pattern", "_law_term_here", "_law_filling"] 2 k m__law_fits):FnOk P w K mg base CX0 (k + 1) f fd ["_law_pattern", "_law_term_here", "_law_filling"] (SpX K 2 (runX (mb__law_fits m__law_fits FUEL) 3 4 2)):=
  fn_mkX Fn sc__law_fits (mb:=mb__law_fits m__law_fits) 3 4 2 rfl rfl (fun n cdv A outer s H E hr=>(sseq (sif (FTp.up (tval (fisi (fb 0) rfl B.isi rfl B.str PyProof.Rows.boot_str))) (sseq (sif (FTp.up (tcmpf (p_notInKey (u101 hr)) (fv 0) (fb 2) (by with_unfolding_all rfl))) (sone (sputK 2 (u100 hr) (fv 1) (fv 0))) snil) (sone (sret (fcmp (p_eq (u100 hr)) (FP.br (fixK (u100 hr) (fb 2) (fv 0) (fun _ _=>rfl))) (fb 1) (nomark _))))) snil) (sseq (sif (FTp.up (FWp.pt (tor (tval (fisi (fb 1) rfl B.isi rfl B.str PyProof.Rows.boot_str)) (tor (tcmp (p_ne (u100 hr)) (FP.br (fix p_ix (fb 0) (FP.br fint) (fun _ _=>rfl))) (FP.br (fix p_ix (fb 1) (FP.br fint) (fun _ _=>rfl))) (nomark _)) (tor1 (tcmp (p_ne (u100 hr)) (FP.br (fcallB (c_len) rfl B.len PySem.boot_len (fconb (fb 0) fnil))) (FP.br (fcallB (c_len) rfl B.len PySem.boot_len (fconb (fb 1) fnil))) (nomark _))))))) (sone (sret fbl)) snil) (sseq (sfor PassesOwn.never rfl (irange2 fint (fcallB (c_len) rfl B.len PySem.boot_len (fconb (fb 1) fnil)) rfl B.range) (gname 3 sc__law_fits.nd) (sone (sif (mnot (mvalX (xcall2 2 G__law_fits hr (fix p_ix (fb 0) (fb 3) (fun _ _=>rfl)) (fix p_ix (fb 1) (fb 3) (fun _ _=>rfl))))) (sone (sret fbl)) snil))) (sone (sret fbl))))))
theorem sc__law_goes_by:FnScope ["_law_one", "_law_other", "_law_found", "_law_filling", "_law_into", "_law_blank"] ["_law_one", "_law_other", "_law_found", "_law_filling"] (defScope (top 29)):=⟨rfl,rfl,rfl,by decide +kernel,rfl,by decide +kernel,by decide +kernel⟩
set_option maxHeartbeats 4000000 in
theorem ok__law_goes_by {m__law_blanks_of:List D→Option D}{m__law_fits:D→List D→Option (D×D)} {m__law_filled:List D→Option D}{k:Nat} {f:Addr}{fd:FuncData} (B:Glb mg) (Fn:Fun K "_law_goes_by" "_law_goes_by" (top 29) f fd) (G__law_blanks_of:Fk P w K mg base "_law_blanks_of" ["_law_term_here"] .fz k m__law_blanks_of) (G__law_fits:FkX P w K mg base "_law_fits" ["_law_pattern", "_law_term_here", "_law_filling"] 2 k m__law_fits) (G__law_filled:Fk P w K mg base "_law_filled" ["_law_term_here", "_law_filling"] .fz k m__law_filled):FnOk P w K mg base CX0 (k + 1) f fd ["_law_one", "_law_other", "_law_found", "_law_filling"] (SpD K .fz (runF (mb__law_goes_by m__law_blanks_of m__law_fits m__law_filled FUEL) 4 6)):=
  fn_mk Fn sc__law_goes_by (mb:=mb__law_goes_by m__law_blanks_of m__law_fits m__law_filled) (fun n cdv A outer s H E hr=>(sseq (ssetO 4 sc__law_goes_by.nd fdic0) (sseq (sfor PassesOwn.never rfl (iseq (fop p_add (FP.br (fk G__law_blanks_of hr (fcons (fv 0) fnil))) (FP.br (fk G__law_blanks_of hr (fcons (fv 1) fnil))))) (gname 5 sc__law_goes_by.nd) (sone (sif (mnot (mvalX (xcall2 4 G__law_fits hr (fk G__law_filled hr (fcons (fv 5) (fcons (fv 2) fnil))) (fixK (u100 hr) (fb 3) (fv 5) (fun _ _=>rfl))))) (sone (sret fbl)) snil))) (sone (sret fbl))))) runF_hm
theorem nd__law_k__law_letters__law_script:(["_law_k", "_law_letters", "_law_script"]:List Str).Nodup:=by decide +kernel
theorem nd__law_cell_here:(["_law_cell_here"]:List Str).Nodup:=by decide +kernel
theorem nd__law_k__law_numbers:(["_law_k", "_law_numbers"]:List Str).Nodup:=by decide +kernel
theorem sc_law:FnScope ["_law_script", "_law_sorts_here", "_law_letters", "_law_blanks", "_law_wide", "_law_whole", "_law_numbers", "_law_filling", "_law_one", "_law_other", "_law_found"] ["_law_script"] (defScope (top 30)):=⟨rfl,rfl,rfl,by decide +kernel,rfl,by decide +kernel,by decide +kernel⟩
set_option maxHeartbeats 4000000 in
theorem ok_law {m__law_sorts:List D→Option D}{m__law_term:List D→Option D} {m__law_cut:D→List D→Option (D×D)}{m_made_alike:List D→Option D} {m__law_cell:List D→Option D}{m__law_stream:List D→Option D} {m__law_walks:List D→Option D}{m__law_goes_by:List D→Option D} {k:Nat}{f:Addr} {fd:FuncData}(B:Glb mg) (Fn:Fun K "law" "law" (top 30) f fd) (G__law_sorts:Fk P w K mg base "_law_sorts" ["_law_cell_here"] .ow k m__law_sorts) (G__law_term:Fk P w K mg base "_law_term" ["_law_numbers", "_law_sorts_here", "_law_blanks", "_law_most"] .fz k m__law_term) (G__law_cut:FkX P w K mg base "_law_cut" ["_law_whole", "_law_numbers", "_law_blanks", "_law_filling"] 3 k m__law_cut) (G_made_alike:Fk P w K mg base "made_alike" ["one", "other"] .fz k m_made_alike) (G__law_cell:Fk P w K mg base "_law_cell" ["_law_script", "_law_k"] .fz k m__law_cell) (G__law_stream:Fk P w K mg base "_law_stream" ["_law_cell_here", "_law_many"] .fz k m__law_stream) (G__law_walks:Fk P w K mg base "_law_walks" ["_law_one", "_law_other", "_law_found"] .fz k m__law_walks) (G__law_goes_by:Fk P w K mg base "_law_goes_by" ["_law_one", "_law_other", "_law_found", "_law_filling"] .fz k m__law_goes_by):FnOk P w K mg base CX0 (k + 1) f fd ["_law_script"] (SpD K .fz (runF (mb_law14 m__law_sorts m__law_term m__law_cut m_made_alike m__law_cell m__law_stream m__law_walks m__law_goes_by FUEL) 1 11)):=
  fn_mk Fn sc_law (mb:=mb_law14 m__law_sorts m__law_term m__law_cut m_made_alike m__law_cell m__law_stream m__law_walks m__law_goes_by) (fun n cdv A outer s H E hr=>(sseq (sset 1 sc_law.nd (FP.fz (fk G__law_sorts hr (fcons (fk G__law_cell hr (fcons (fv 0) (fcons fint fnil))) fnil)))) (sseq (sset 2 sc_law.nd fstr) (sseq (ssetC 3 ["_law_k", "_law_letters", "_law_script"] [none,some 2,some 0] (.own (.cap (.cap .nil))) rfl sc_law.nd (irange1 fint rfl B.range) (fun _ _ _ _=>(gname 0 nd__law_k__law_letters__law_script)) (fun _ _ _ _=>pif0) (fun _ _ _ _=>(fix p_ix (fb 1) (FP.br (fop p_mod (FP.br (fop p_add (FP.br (fop p_mod (FP.br (fk G__law_cell hr (fcons (fv 2) (fcons fint fnil)))) (FP.br fint))) (FP.br (fop p_mul (FP.br fint) (fb 0))))) (FP.br fint))) (fun _ _=>rfl)))) (sseq (sset 4 sc_law.nd (fcmp (p_eq (u100 hr)) (FP.br (fop p_mod (FP.br (fop p_div (FP.br (fk G__law_cell hr (fcons (fv 0) (fcons fint fnil)))) (FP.br fint))) (FP.br fint))) (FP.br fint) (nomark _))) (sseq (sset 5 sc_law.nd (fk G__law_term hr (fcons (fk G__law_stream hr (fcons (fk G__law_cell hr (fcons (fv 0) (fcons fint fnil))) (fcons (fix p_ix (FP.ob (flst (fcons fint (fcons fint fnil)))) (FP.br (fcallT c_int rfl B.int PyProof.Rows.boot_int (fconb (fb 4) fnil))) (fun _ _=>rfl)) fnil))) (fcons (fv 1) (fcons (FP.fz (flst fnil)) (fcons fint fnil)))))) (sseq (sset 6 sc_law.nd (FP.fz (fcomp ["_law_cell_here"] [none] (.own .nil) rfl (iseq (fop p_add (FP.ob (flst (fcons fint (fcons fint (fcons fint (fcons fint fnil)))))) (FP.br (fslice p_slice (fb 0) (o_some fint) (o_some fint))))) (fun _ _ _ _=>(gname 0 nd__law_cell_here)) (fun _ _ _ _=>pif0) (fun _ _ _ _=>(fop p_mod (FP.br (fop p_mul (fb 0) (FP.br fint))) (FP.br fint)))))) (sseq (ssetO 7 sc_law.nd fdic0) (sseq (sasgX (xcall3 7 G__law_cut hr (fv 5) (FP.fz (fcomp ["_law_k", "_law_numbers"] [none,some 6] (.own (.cap .nil)) rfl (irange1 (fcallB (c_len) rfl B.len PySem.boot_len (fconb (fb 6) fnil)) rfl B.range) (fun _ _ _ _=>(gname 0 nd__law_k__law_numbers)) (fun _ _ _ _=>pif1 (tcmp (p_eq (u100 hr)) (FP.br (fop p_mod (fb 0) (FP.br fint))) (FP.br fint) (nomark _))) (fun _ _ _ _=>(fix p_ix (fb 1) (fb 0) (fun _ _=>rfl))))) (fslice p_slice (fb 3) o_none (o_some fint))) (gname 8 sc_law.nd)) (sseq (sasgX (xcall3 7 G__law_cut hr (fv 5) (FP.fz (fcomp ["_law_k", "_law_numbers"] [none,some 6] (.own (.cap .nil)) rfl (irange1 (fcallB (c_len) rfl B.len PySem.boot_len (fconb (fb 6) fnil)) rfl B.range) (fun _ _ _ _=>(gname 0 nd__law_k__law_numbers)) (fun _ _ _ _=>pif1 (tcmp (p_eq (u100 hr)) (FP.br (fop p_mod (fb 0) (FP.br fint))) (FP.br fint) (nomark _))) (fun _ _ _ _=>(fix p_ix (fb 1) (fb 0) (fun _ _=>rfl))))) (fslice p_slice (fb 3) (o_some fint) o_none)) (gname 9 sc_law.nd)) (sseq (sif (FTp.up (ttru (fb 4))) (sone (spar 8 9 rfl sc_law.nd (fcons (ftup (fcons fstr (fcons (fv 8) (fcons (fv 9) fnil)))) (fcons (ftup (fcons fstr (fcons (fv 9) (fcons (fv 8) fnil)))) fnil)))) snil) (sseq (sset 10 sc_law.nd (fk G_made_alike hr (fcons (fv 8) (fcons (fv 9) fnil)))) (sone (sfrz 7 (sret (vand (fk G__law_walks hr (fcons (fv 8) (fcons (fv 9) (fcons (fv 10) fnil)))) (vone (fk G__law_goes_by hr (fcons (fv 8) (fcons (fv 9) (fcons (fv 10) (fcons (fv 7) fnil)))))))))))))))))))))) runF_hm
end
theorem us1 {us:List Value}(h:us.length=1):∃ a0,us=[a0]:=List.length_eq_one_iff.mp h
theorem us2 {us:List Value}(h:us.length=2):∃ a0 a1,us=[a0,a1]:=by
  cases us with
  | nil=>cases h
  | cons a0 l=>obtain ⟨a1,rfl⟩:=us1 (Nat.succ.inj h);exact ⟨a0,a1,rfl⟩
theorem us3 {us:List Value}(h:us.length=3):∃ a0 a1 a2,us=[a0,a1,a2]:=by
  cases us with
  | nil=>cases h
  | cons a0 l=>obtain ⟨a1,a2,rfl⟩:=us2 (Nat.succ.inj h);exact ⟨a0,a1,a2,rfl⟩
theorem us4 {us:List Value}(h:us.length=4):∃ a0 a1 a2 a3,us=[a0,a1,a2,a3]:=by
  cases us with
  | nil=>cases h
  | cons a0 l=>obtain ⟨a1,a2,a3,rfl⟩:=us3 (Nat.succ.inj h);exact ⟨a0,a1,a2,a3,rfl⟩
theorem us5 {us:List Value}(h:us.length=5):∃ a0 a1 a2 a3 a4,us=[a0,a1,a2,a3,a4]:=by
  cases us with
  | nil=>cases h
  | cons a0 l=>obtain ⟨a1,a2,a3,a4,rfl⟩:=us4 (Nat.succ.inj h);exact ⟨a0,a1,a2,a3,a4,rfl⟩
theorem all_mk {l:PySem.W.OpenLaw}{w:World} {K:PySem.W.Frag}{h:Heap} {mg:Str→Option Value}{fa f1 f2 f3 f4 f5 f6 f7 f8 f9 f10 f11 f12 f13 f14 f15 f16 f17 f18 f19 f20 f21 f22 f23 f24 f25 f26 f27:Addr} (X:K.In h) (G:h.Ns mainGlobals mg) (hfa:mg "law" = some (.ref fa))
    {od1 an1 od2 an2 od3 an3 od4 an4 od5 an5 od6 an6 od7 an7 od8 an8 od9 an9 od10 an10 od11 an11 od12 an12 od13 an13 od14 an14 od15 an15 od16 an16 od17 an17 od18 an18 od19 an19 od20 an20 od21 an21 od22 an22 od23 an23 od24 an24 od25 an25 od26 an26 od27 an27:Option Addr} {sl1 sl2 sl3 sl4 sl5 sl6 sl7 sl8 sl9 sl10 sl11 sl12 sl13 sl14 sl15 sl16 sl17 sl18 sl19 sl20 sl21 sl22 sl23 sl24 sl25 sl26 sl27:Array (Option Value)}{oc1 kV1 dc1 pm1 cd1 ct1 oc2 kV2 dc2 pm2 cd2 ct2 oc3 kV3 dc3 pm3 cd3 ct3 oc4 kV4 dc4 pm4 cd4 ct4 oc5 kV5 dc5 pm5 cd5 ct5 oc6 kV6 dc6 pm6 cd6 ct6 oc7 kV7 dc7 pm7 cd7 ct7 oc8 kV8 dc8 pm8 cd8 ct8 oc9 kV9 dc9 pm9 cd9 ct9 oc10 kV10 dc10 pm10 cd10 ct10 oc11 kV11 dc11 pm11 cd11 ct11 oc12 kV12 dc12 pm12 cd12 ct12 oc13 kV13 dc13 pm13 cd13 ct13 oc14 kV14 dc14 pm14 cd14 ct14 oc15 kV15 dc15 pm15 cd15 ct15 oc16 kV16 dc16 pm16 cd16 ct16 oc17 kV17 dc17 pm17 cd17 ct17 oc18 kV18 dc18 pm18 cd18 ct18 oc19 kV19 dc19 pm19 cd19 ct19 oc20 kV20 dc20 pm20 cd20 ct20 oc21 kV21 dc21 pm21 cd21 ct21 oc22 kV22 dc22 pm22 cd22 ct22 oc23 kV23 dc23 pm23 cd23 ct23 oc24 kV24 dc24 pm24 cd24 ct24 oc25 kV25 dc25 pm25 cd25 ct25 oc26 kV26 dc26 pm26 cd26 ct26 oc27 kV27 dc27 pm27 cd27 ct27:Value}
    (a1:PySem.W.nsIn K mainGlobals "_law_words" = some (some (.ref f1))) (l1:K.lookup f1=some ⟨oc1,od1,.func (PySem.W.fnOf "_law_words" "_law_words" (defArgs (top 12)) (defBody (top 12)) (defScope (top 12)) .none kV1 dc1 pm1 an1 cd1 ct1),sl1⟩) (c1:PySem.W.codeIn K cd1 "_law_words" = true) (k1:PySem.W.keepIn K (.ref f1)=true)
    (a2:PySem.W.nsIn K mainGlobals "_law_sorts" = some (some (.ref f2))) (l2:K.lookup f2=some ⟨oc2,od2,.func (PySem.W.fnOf "_law_sorts" "_law_sorts" (defArgs (top 13)) (defBody (top 13)) (defScope (top 13)) .none kV2 dc2 pm2 an2 cd2 ct2),sl2⟩) (c2:PySem.W.codeIn K cd2 "_law_sorts" = true) (k2:PySem.W.keepIn K (.ref f2)=true)
    (a3:PySem.W.nsIn K mainGlobals "_law_grown" = some (some (.ref f3))) (l3:K.lookup f3=some ⟨oc3,od3,.func (PySem.W.fnOf "_law_grown" "_law_grown" (defArgs (top 14)) (defBody (top 14)) (defScope (top 14)) .none kV3 dc3 pm3 an3 cd3 ct3),sl3⟩) (c3:PySem.W.codeIn K cd3 "_law_grown" = true) (k3:PySem.W.keepIn K (.ref f3)=true)
    (a4:PySem.W.nsIn K mainGlobals "_law_count" = some (some (.ref f4))) (l4:K.lookup f4=some ⟨oc4,od4,.func (PySem.W.fnOf "_law_count" "_law_count" (defArgs (top 18)) (defBody (top 18)) (defScope (top 18)) .none kV4 dc4 pm4 an4 cd4 ct4),sl4⟩) (c4:PySem.W.codeIn K cd4 "_law_count" = true) (k4:PySem.W.keepIn K (.ref f4)=true)
    (a5:PySem.W.nsIn K mainGlobals "_law_term" = some (some (.ref f5))) (l5:K.lookup f5=some ⟨oc5,od5,.func (PySem.W.fnOf "_law_term" "_law_term" (defArgs (top 19)) (defBody (top 19)) (defScope (top 19)) .none kV5 dc5 pm5 an5 cd5 ct5),sl5⟩) (c5:PySem.W.codeIn K cd5 "_law_term" = true) (k5:PySem.W.keepIn K (.ref f5)=true)
    (a6:PySem.W.nsIn K mainGlobals "_law_places" = some (some (.ref f6))) (l6:K.lookup f6=some ⟨oc6,od6,.func (PySem.W.fnOf "_law_places" "_law_places" (defArgs (top 21)) (defBody (top 21)) (defScope (top 21)) .none kV6 dc6 pm6 an6 cd6 ct6),sl6⟩) (c6:PySem.W.codeIn K cd6 "_law_places" = true) (k6:PySem.W.keepIn K (.ref f6)=true)
    (a7:PySem.W.nsIn K mainGlobals "_law_part_or" = some (some (.ref f7))) (l7:K.lookup f7=some ⟨oc7,od7,.func (PySem.W.fnOf "_law_part_or" "_law_part_or" (defArgs (top 23)) (defBody (top 23)) (defScope (top 23)) .none kV7 dc7 pm7 an7 cd7 ct7),sl7⟩) (c7:PySem.W.codeIn K cd7 "_law_part_or" = true) (k7:PySem.W.keepIn K (.ref f7)=true)
    (a8:PySem.W.nsIn K mainGlobals "_law_put" = some (some (.ref f8))) (l8:K.lookup f8=some ⟨oc8,od8,.func (PySem.W.fnOf "_law_put" "_law_put" (defArgs (top 22)) (defBody (top 22)) (defScope (top 22)) .none kV8 dc8 pm8 an8 cd8 ct8),sl8⟩) (c8:PySem.W.codeIn K cd8 "_law_put" = true) (k8:PySem.W.keepIn K (.ref f8)=true)
    (a9:PySem.W.nsIn K mainGlobals "_law_blanks_of" = some (some (.ref f9))) (l9:K.lookup f9=some ⟨oc9,od9,.func (PySem.W.fnOf "_law_blanks_of" "_law_blanks_of" (defArgs (top 26)) (defBody (top 26)) (defScope (top 26)) .none kV9 dc9 pm9 an9 cd9 ct9),sl9⟩) (c9:PySem.W.codeIn K cd9 "_law_blanks_of" = true) (k9:PySem.W.keepIn K (.ref f9)=true)
    (a10:PySem.W.nsIn K mainGlobals "_law_cut" = some (some (.ref f10))) (l10:K.lookup f10=some ⟨oc10,od10,.func (PySem.W.fnOf "_law_cut" "_law_cut" (defArgs (top 28)) (defBody (top 28)) (defScope (top 28)) .none kV10 dc10 pm10 an10 cd10 ct10),sl10⟩) (c10:PySem.W.codeIn K cd10 "_law_cut" = true) (k10:PySem.W.keepIn K (.ref f10)=true)
    (a11:PySem.W.nsIn K mainGlobals "is_blank" = some (some (.ref f11))) (l11:K.lookup f11=some ⟨oc11,od11,.func (PySem.W.fnOf "is_blank" "is_blank" (defArgs (top 1)) (defBody (top 1)) (defScope (top 1)) .none kV11 dc11 pm11 an11 cd11 ct11),sl11⟩) (c11:PySem.W.codeIn K cd11 "is_blank" = true) (k11:PySem.W.keepIn K (.ref f11)=true)
    (a12:PySem.W.nsIn K mainGlobals "paired_parts" = some (some (.ref f12))) (l12:K.lookup f12=some ⟨oc12,od12,.func (PySem.W.fnOf "paired_parts" "paired_parts" (defArgs (top 7)) (defBody (top 7)) (defScope (top 7)) .none kV12 dc12 pm12 an12 cd12 ct12),sl12⟩) (c12:PySem.W.codeIn K cd12 "paired_parts" = true) (k12:PySem.W.keepIn K (.ref f12)=true)
    (a13:PySem.W.nsIn K mainGlobals "filled" = some (some (.ref f13))) (l13:K.lookup f13=some ⟨oc13,od13,.func (PySem.W.fnOf "filled" "filled" (defArgs (top 6)) (defBody (top 6)) (defScope (top 6)) .none kV13 dc13 pm13 an13 cd13 ct13),sl13⟩) (c13:PySem.W.codeIn K cd13 "filled" = true) (k13:PySem.W.keepIn K (.ref f13)=true)
    (a14:PySem.W.nsIn K mainGlobals "with_blank" = some (some (.ref f14))) (l14:K.lookup f14=some ⟨oc14,od14,.func (PySem.W.fnOf "with_blank" "with_blank" (defArgs (top 8)) (defBody (top 8)) (defScope (top 8)) .none kV14 dc14 pm14 an14 cd14 ct14),sl14⟩) (c14:PySem.W.codeIn K cd14 "with_blank" = true) (k14:PySem.W.keepIn K (.ref f14)=true)
    (a15:PySem.W.nsIn K mainGlobals "inner_parts" = some (some (.ref f15))) (l15:K.lookup f15=some ⟨oc15,od15,.func (PySem.W.fnOf "inner_parts" "inner_parts" (defArgs (top 2)) (defBody (top 2)) (defScope (top 2)) .none kV15 dc15 pm15 an15 cd15 ct15),sl15⟩) (c15:PySem.W.codeIn K cd15 "inner_parts" = true) (k15:PySem.W.keepIn K (.ref f15)=true)
    (a16:PySem.W.nsIn K mainGlobals "placed_parts" = some (some (.ref f16))) (l16:K.lookup f16=some ⟨oc16,od16,.func (PySem.W.fnOf "placed_parts" "placed_parts" (defArgs (top 3)) (defBody (top 3)) (defScope (top 3)) .none kV16 dc16 pm16 an16 cd16 ct16),sl16⟩) (c16:PySem.W.codeIn K cd16 "placed_parts" = true) (k16:PySem.W.keepIn K (.ref f16)=true)
    (a17:PySem.W.nsIn K mainGlobals "blanks_of" = some (some (.ref f17))) (l17:K.lookup f17=some ⟨oc17,od17,.func (PySem.W.fnOf "blanks_of" "blanks_of" (defArgs (top 4)) (defBody (top 4)) (defScope (top 4)) .none kV17 dc17 pm17 an17 cd17 ct17),sl17⟩) (c17:PySem.W.codeIn K cd17 "blanks_of" = true) (k17:PySem.W.keepIn K (.ref f17)=true)
    (a18:PySem.W.nsIn K mainGlobals "made_alike" = some (some (.ref f18))) (l18:K.lookup f18=some ⟨oc18,od18,.func (PySem.W.fnOf "made_alike" "made_alike" (defArgs (top 9)) (defBody (top 9)) (defScope (top 9)) .none kV18 dc18 pm18 an18 cd18 ct18),sl18⟩) (c18:PySem.W.codeIn K cd18 "made_alike" = true) (k18:PySem.W.keepIn K (.ref f18)=true)
    (a19:PySem.W.nsIn K mainGlobals "_law_cell" = some (some (.ref f19))) (l19:K.lookup f19=some ⟨oc19,od19,.func (PySem.W.fnOf "_law_cell" "_law_cell" (defArgs (top 11)) (defBody (top 11)) (defScope (top 11)) .none kV19 dc19 pm19 an19 cd19 ct19),sl19⟩) (c19:PySem.W.codeIn K cd19 "_law_cell" = true) (k19:PySem.W.keepIn K (.ref f19)=true)
    (a20:PySem.W.nsIn K mainGlobals "_law_purse" = some (some (.ref f20))) (l20:K.lookup f20=some ⟨oc20,od20,.func (PySem.W.fnOf "_law_purse" "_law_purse" (defArgs (top 15)) (defBody (top 15)) (defScope (top 15)) .none kV20 dc20 pm20 an20 cd20 ct20),sl20⟩) (c20:PySem.W.codeIn K cd20 "_law_purse" = true) (k20:PySem.W.keepIn K (.ref f20)=true)
    (a21:PySem.W.nsIn K mainGlobals "_law_take" = some (some (.ref f21))) (l21:K.lookup f21=some ⟨oc21,od21,.func (PySem.W.fnOf "_law_take" "_law_take" (defArgs (top 16)) (defBody (top 16)) (defScope (top 16)) .none kV21 dc21 pm21 an21 cd21 ct21),sl21⟩) (c21:PySem.W.codeIn K cd21 "_law_take" = true) (k21:PySem.W.keepIn K (.ref f21)=true)
    (a22:PySem.W.nsIn K mainGlobals "_law_stream" = some (some (.ref f22))) (l22:K.lookup f22=some ⟨oc22,od22,.func (PySem.W.fnOf "_law_stream" "_law_stream" (defArgs (top 17)) (defBody (top 17)) (defScope (top 17)) .none kV22 dc22 pm22 an22 cd22 ct22),sl22⟩) (c22:PySem.W.codeIn K cd22 "_law_stream" = true) (k22:PySem.W.keepIn K (.ref f22)=true)
    (a23:PySem.W.nsIn K mainGlobals "_law_filled" = some (some (.ref f23))) (l23:K.lookup f23=some ⟨oc23,od23,.func (PySem.W.fnOf "_law_filled" "_law_filled" (defArgs (top 24)) (defBody (top 24)) (defScope (top 24)) .none kV23 dc23 pm23 an23 cd23 ct23),sl23⟩) (c23:PySem.W.codeIn K cd23 "_law_filled" = true) (k23:PySem.W.keepIn K (.ref f23)=true)
    (a24:PySem.W.nsIn K mainGlobals "_law_walks" = some (some (.ref f24))) (l24:K.lookup f24=some ⟨oc24,od24,.func (PySem.W.fnOf "_law_walks" "_law_walks" (defArgs (top 27)) (defBody (top 27)) (defScope (top 27)) .none kV24 dc24 pm24 an24 cd24 ct24),sl24⟩) (c24:PySem.W.codeIn K cd24 "_law_walks" = true) (k24:PySem.W.keepIn K (.ref f24)=true)
    (a25:PySem.W.nsIn K mainGlobals "_law_fits" = some (some (.ref f25))) (l25:K.lookup f25=some ⟨oc25,od25,.func (PySem.W.fnOf "_law_fits" "_law_fits" (defArgs (top 25)) (defBody (top 25)) (defScope (top 25)) .none kV25 dc25 pm25 an25 cd25 ct25),sl25⟩) (c25:PySem.W.codeIn K cd25 "_law_fits" = true) (k25:PySem.W.keepIn K (.ref f25)=true)
    (a26:PySem.W.nsIn K mainGlobals "_law_goes_by" = some (some (.ref f26))) (l26:K.lookup f26=some ⟨oc26,od26,.func (PySem.W.fnOf "_law_goes_by" "_law_goes_by" (defArgs (top 29)) (defBody (top 29)) (defScope (top 29)) .none kV26 dc26 pm26 an26 cd26 ct26),sl26⟩) (c26:PySem.W.codeIn K cd26 "_law_goes_by" = true) (k26:PySem.W.keepIn K (.ref f26)=true)
    (a27:PySem.W.nsIn K mainGlobals "law" = some (some (.ref f27))) (l27:K.lookup f27=some ⟨oc27,od27,.func (PySem.W.fnOf "law" "law" (defArgs (top 30)) (defBody (top 30)) (defScope (top 30)) .none kV27 dc27 pm27 an27 cd27 ct27),sl27⟩) (c27:PySem.W.codeIn K cd27 "law" = true) (k27:PySem.W.keepIn K (.ref f27)=true)
    (z1:PySem.W.nsIn K mainGlobals "isinstance" = some none) (z2:PySem.W.nsIn K mainGlobals "str" = some none) (z3:PySem.W.nsIn K mainGlobals "tuple" = some none) (z4:PySem.W.nsIn K mainGlobals "list" = some none) (z5:PySem.W.nsIn K mainGlobals "int" = some none) (z6:PySem.W.nsIn K mainGlobals "bool" = some none) (z7:PySem.W.nsIn K mainGlobals "dict" = some none) (z8:PySem.W.nsIn K mainGlobals "len" = some none) (z9:PySem.W.nsIn K mainGlobals "range" = some none) (z10:PySem.W.nsIn K mainGlobals "enumerate" = some none) (z11:PySem.W.nsIn K mainGlobals "sum" = some none) (z12:PySem.W.nsIn K mainGlobals "max" = some none) (z13:PySem.W.nsIn K mainGlobals "min" = some none) (z14:PySem.W.nsIn K mainGlobals "abs" = some none) (z15:PySem.W.nsIn K mainGlobals "zip" = some none) (z16:PySem.W.nsIn K mainGlobals "reversed" = some none) (z17:PySem.W.nsIn K mainGlobals "sorted" = some none) (z18:PySem.W.nsIn K mainGlobals "set" = some none) (z19:PySem.W.nsIn K mainGlobals "any" = some none) (z20:PySem.W.nsIn K mainGlobals "all" = some none)
    : ∃ fd:FuncData,(∀ (s:Shared) (v:Value),BindsTo s fd ⟨[v],[]⟩ [("_law_script",v)])∧∀ base:Heap,K.In base→base.Ns mainGlobals mg→FnOk l.prog w K mg base CX0 104 fa fd ["_law_script"] (SpD K .fz m_law14):=by
  have e:=hfa.symm.trans (PySem.W.mg_of X G a27)
  cases e
  have B:Glb mg:=⟨PySem.W.mg_none_of X G z1,PySem.W.mg_none_of X G z2,PySem.W.mg_none_of X G z3,PySem.W.mg_none_of X G z4,PySem.W.mg_none_of X G z5,PySem.W.mg_none_of X G z6,PySem.W.mg_none_of X G z7,PySem.W.mg_none_of X G z8,PySem.W.mg_none_of X G z9,PySem.W.mg_none_of X G z10,PySem.W.mg_none_of X G z11,PySem.W.mg_none_of X G z12,PySem.W.mg_none_of X G z13,PySem.W.mg_none_of X G z14,PySem.W.mg_none_of X G z15,PySem.W.mg_none_of X G z16,PySem.W.mg_none_of X G z17,PySem.W.mg_none_of X G z18,PySem.W.mg_none_of X G z19,PySem.W.mg_none_of X G z20⟩
  refine ⟨PySem.W.fnOf "law" "law" (defArgs (top 30)) (defBody (top 30)) (defScope (top 30)) .none kV27 dc27 pm27 an27 cd27 ct27,fun s v=>.of_eq rfl,fun base _ _=>?_⟩
  have F1:=fun_mk (st:=top 12) l1 c1 k1
  have b1:=F1.binds (ps:=["_law_cell_here"]) fun _ _ _ _ _ _ us hl=>by obtain ⟨_,rfl⟩:=us1 hl;rfl
  have G__law_words:Fk l.prog w K mg base "_law_words" ["_law_cell_here"] .ow 1 m__law_words:=⟨_,_,ok__law_words (k:=0) B F1,b1,k1,PySem.W.mg_of X G a1⟩
  have F2:=fun_mk (st:=top 13) l2 c2 k2
  have b2:=F2.binds (ps:=["_law_cell_here"]) fun _ _ _ _ _ _ us hl=>by obtain ⟨_,rfl⟩:=us1 hl;rfl
  have G__law_sorts:Fk l.prog w K mg base "_law_sorts" ["_law_cell_here"] .ow 2 m__law_sorts:=⟨_,_,ok__law_sorts (k:=1) B F2 (G__law_words.mono (j:=1) (by first | decide | omega)),b2,k2,PySem.W.mg_of X G a2⟩
  have F3:=fun_mk (st:=top 14) l3 c3 k3
  have b3:=F3.binds (ps:=["_law_row", "_law_number", "_law_sorts_here", "_law_blanks", "_law_most"]) fun _ _ _ _ _ _ us hl=>by obtain ⟨_,_,_,_,_,rfl⟩:=us5 hl;rfl
  have G__law_grown:Fk l.prog w K mg base "_law_grown" ["_law_row", "_law_number", "_law_sorts_here", "_law_blanks", "_law_most"] .ow 1 m__law_grown:=⟨_,_,ok__law_grown (k:=0) B F3,b3,k3,PySem.W.mg_of X G a3⟩
  have F4:=fun_mk (st:=top 18) l4 c4 k4
  have b4:=F4.binds (ps:=["_law_term_here"]) fun _ _ _ _ _ _ us hl=>by obtain ⟨_,rfl⟩:=us1 hl;rfl
  have H__law_count:∀ n:Nat,Fk l.prog w K mg base "_law_count" ["_law_term_here"] .fz (0 + n) (m_count01_n n):=by
    intro n
    induction n with
    | zero=>exact (Fk.never ⟨b4,k4,PySem.W.mg_of X G a4⟩ fun _=>rfl).mono (by omega)
    | succ n ih=>exact ⟨_,_,ok__law_count (k:=0 + n) B F4 (ih.mono (j:=0 + n) (by omega)),b4,k4,PySem.W.mg_of X G a4⟩
  have G__law_count:Fk l.prog w K mg base "_law_count" ["_law_term_here"] .fz 100 m_count01:=H__law_count 100
  have F5:=fun_mk (st:=top 19) l5 c5 k5
  have b5:=F5.binds (ps:=["_law_numbers", "_law_sorts_here", "_law_blanks", "_law_most"]) fun _ _ _ _ _ _ us hl=>by obtain ⟨_,_,_,_,rfl⟩:=us4 hl;rfl
  have G__law_term:Fk l.prog w K mg base "_law_term" ["_law_numbers", "_law_sorts_here", "_law_blanks", "_law_most"] .fz 101 m__law_term:=⟨_,_,ok__law_term (k:=100) B F5 (G__law_grown.mono (j:=100) (by first | decide | omega)) (G__law_count.mono (j:=100) (by first | decide | omega)),b5,k5,PySem.W.mg_of X G a5⟩
  have F6:=fun_mk (st:=top 21) l6 c6 k6
  have b6:=F6.binds (ps:=["_law_term_here"]) fun _ _ _ _ _ _ us hl=>by obtain ⟨_,rfl⟩:=us1 hl;rfl
  have H__law_places:∀ n:Nat,Fk l.prog w K mg base "_law_places" ["_law_term_here"] .fz (0 + n) (m__law_places_n n):=by
    intro n
    induction n with
    | zero=>exact (Fk.never ⟨b6,k6,PySem.W.mg_of X G a6⟩ fun _=>rfl).mono (by omega)
    | succ n ih=>exact ⟨_,_,ok__law_places (k:=0 + n) B F6 (ih.mono (j:=0 + n) (by omega)),b6,k6,PySem.W.mg_of X G a6⟩
  have G__law_places:Fk l.prog w K mg base "_law_places" ["_law_term_here"] .fz 100 m__law_places:=H__law_places 100
  have F7:=fun_mk (st:=top 23) l7 c7 k7
  have b7:=F7.binds (ps:=["_law_term_here", "_law_place"]) fun _ _ _ _ _ _ us hl=>by obtain ⟨_,_,rfl⟩:=us2 hl;rfl
  have G__law_part_or:Fk l.prog w K mg base "_law_part_or" ["_law_term_here", "_law_place"] .fz 1 m__law_part_or:=⟨_,_,ok__law_part_or (k:=0) B F7,b7,k7,PySem.W.mg_of X G a7⟩
  have F8:=fun_mk (st:=top 22) l8 c8 k8
  have b8:=F8.binds (ps:=["_law_term_here", "_law_place", "_law_new"]) fun _ _ _ _ _ _ us hl=>by obtain ⟨_,_,_,rfl⟩:=us3 hl;rfl
  have H__law_put:∀ n:Nat,Fk l.prog w K mg base "_law_put" ["_law_term_here", "_law_place", "_law_new"] .fz (0 + n) (m__law_put_n n):=by
    intro n
    induction n with
    | zero=>exact (Fk.never ⟨b8,k8,PySem.W.mg_of X G a8⟩ fun _=>rfl).mono (by omega)
    | succ n ih=>exact ⟨_,_,ok__law_put (k:=0 + n) B F8 (ih.mono (j:=0 + n) (by omega)),b8,k8,PySem.W.mg_of X G a8⟩
  have G__law_put:Fk l.prog w K mg base "_law_put" ["_law_term_here", "_law_place", "_law_new"] .fz 100 m__law_put:=H__law_put 100
  have F9:=fun_mk (st:=top 26) l9 c9 k9
  have b9:=F9.binds (ps:=["_law_term_here"]) fun _ _ _ _ _ _ us hl=>by obtain ⟨_,rfl⟩:=us1 hl;rfl
  have H__law_blanks_of:∀ n:Nat,Fk l.prog w K mg base "_law_blanks_of" ["_law_term_here"] .fz (0 + n) (m__law_blanks_of_n n):=by
    intro n
    induction n with
    | zero=>exact (Fk.never ⟨b9,k9,PySem.W.mg_of X G a9⟩ fun _=>rfl).mono (by omega)
    | succ n ih=>exact ⟨_,_,ok__law_blanks_of (k:=0 + n) B F9 (ih.mono (j:=0 + n) (by omega)),b9,k9,PySem.W.mg_of X G a9⟩
  have G__law_blanks_of:Fk l.prog w K mg base "_law_blanks_of" ["_law_term_here"] .fz 100 m__law_blanks_of:=H__law_blanks_of 100
  have F10:=fun_mk (st:=top 28) l10 c10 k10
  have b10:=F10.binds (ps:=["_law_whole", "_law_numbers", "_law_blanks", "_law_filling"]) fun _ _ _ _ _ _ us hl=>by obtain ⟨_,_,_,_,rfl⟩:=us4 hl;rfl
  have G__law_cut:FkX l.prog w K mg base "_law_cut" ["_law_whole", "_law_numbers", "_law_blanks", "_law_filling"] 3 101 m__law_cut:=⟨_,_,ok__law_cut (k:=100) B F10 (G__law_places.mono (j:=100) (by first | decide | omega)) (G__law_part_or.mono (j:=100) (by first | decide | omega)) (G__law_put.mono (j:=100) (by first | decide | omega)) (G__law_blanks_of.mono (j:=100) (by first | decide | omega)),b10,k10,PySem.W.mg_of X G a10⟩
  have F11:=fun_mk (st:=top 1) l11 c11 k11
  have b11:=F11.binds (ps:=["term"]) fun _ _ _ _ _ _ us hl=>by obtain ⟨_,rfl⟩:=us1 hl;rfl
  have G_is_blank:Fk l.prog w K mg base "is_blank" ["term"] .fz 1 m_is_blank:=⟨_,_,ok_is_blank (k:=0) B F11,b11,k11,PySem.W.mg_of X G a11⟩
  have F12:=fun_mk (st:=top 7) l12 c12 k12
  have b12:=F12.binds (ps:=["one", "other"]) fun _ _ _ _ _ _ us hl=>by obtain ⟨_,_,rfl⟩:=us2 hl;rfl
  have G_paired_parts:Fk l.prog w K mg base "paired_parts" ["one", "other"] .fz 2 m_paired_parts:=⟨_,_,ok_paired_parts (k:=1) B F12 (G_is_blank.mono (j:=1) (by first | decide | omega)),b12,k12,PySem.W.mg_of X G a12⟩
  have F13:=fun_mk (st:=top 6) l13 c13 k13
  have b13:=F13.binds (ps:=["term", "filling"]) fun _ _ _ _ _ _ us hl=>by obtain ⟨_,_,rfl⟩:=us2 hl;rfl
  have H_filled:∀ n:Nat,Fk l.prog w K mg base "filled" ["term", "filling"] .fz (1 + n) (m_filled_n n):=by
    intro n
    induction n with
    | zero=>exact (Fk.never ⟨b13,k13,PySem.W.mg_of X G a13⟩ fun _=>rfl).mono (by omega)
    | succ n ih=>exact ⟨_,_,ok_filled (k:=1 + n) B F13 (G_is_blank.mono (j:=1 + n) (by first | decide | omega)) (ih.mono (j:=1 + n) (by omega)),b13,k13,PySem.W.mg_of X G a13⟩
  have G_filled:Fk l.prog w K mg base "filled" ["term", "filling"] .fz 101 m_filled:=H_filled 100
  have F14:=fun_mk (st:=top 8) l14 c14 k14
  have b14:=F14.binds (ps:=["filling", "blank", "term"]) fun _ _ _ _ _ _ us hl=>by obtain ⟨_,_,_,rfl⟩:=us3 hl;rfl
  have G_with_blank:Fk l.prog w K mg base "with_blank" ["filling", "blank", "term"] .fz 102 m_with_blank:=⟨_,_,ok_with_blank (k:=101) B F14 (G_filled.mono (j:=101) (by first | decide | omega)),b14,k14,PySem.W.mg_of X G a14⟩
  have F15:=fun_mk (st:=top 2) l15 c15 k15
  have b15:=F15.binds (ps:=["term"]) fun _ _ _ _ _ _ us hl=>by obtain ⟨_,rfl⟩:=us1 hl;rfl
  have G_inner_parts:Fk l.prog w K mg base "inner_parts" ["term"] .fz 2 m_inner_parts:=⟨_,_,ok_inner_parts (k:=1) B F15 (G_is_blank.mono (j:=1) (by first | decide | omega)),b15,k15,PySem.W.mg_of X G a15⟩
  have F16:=fun_mk (st:=top 3) l16 c16 k16
  have b16:=F16.binds (ps:=["term"]) fun _ _ _ _ _ _ us hl=>by obtain ⟨_,rfl⟩:=us1 hl;rfl
  have G_placed_parts:Fk l.prog w K mg base "placed_parts" ["term"] .fz 3 m_placed_parts:=⟨_,_,ok_placed_parts (k:=2) B F16 (G_inner_parts.mono (j:=2) (by first | decide | omega)),b16,k16,PySem.W.mg_of X G a16⟩
  have F17:=fun_mk (st:=top 4) l17 c17 k17
  have b17:=F17.binds (ps:=["term"]) fun _ _ _ _ _ _ us hl=>by obtain ⟨_,rfl⟩:=us1 hl;rfl
  have G_blanks_of:Fk l.prog w K mg base "blanks_of" ["term"] .fz 4 m_blanks_of:=⟨_,_,ok_blanks_of (k:=3) B F17 (G_placed_parts.mono (j:=3) (by first | decide | omega)) (G_is_blank.mono (j:=3) (by first | decide | omega)),b17,k17,PySem.W.mg_of X G a17⟩
  have F18:=fun_mk (st:=top 9) l18 c18 k18
  have b18:=F18.binds (ps:=["one", "other"]) fun _ _ _ _ _ _ us hl=>by obtain ⟨_,_,rfl⟩:=us2 hl;rfl
  have G_made_alike:Fk l.prog w K mg base "made_alike" ["one", "other"] .fz 103 m_made_alike:=⟨_,_,ok_made_alike (k:=102) B F18 (G_is_blank.mono (j:=102) (by first | decide | omega)) (G_paired_parts.mono (j:=102) (by first | decide | omega)) (G_filled.mono (j:=102) (by first | decide | omega)) (G_with_blank.mono (j:=102) (by first | decide | omega)) (G_blanks_of.mono (j:=102) (by first | decide | omega)),b18,k18,PySem.W.mg_of X G a18⟩
  have F19:=fun_mk (st:=top 11) l19 c19 k19
  have b19:=F19.binds (ps:=["_law_script", "_law_k"]) fun _ _ _ _ _ _ us hl=>by obtain ⟨_,_,rfl⟩:=us2 hl;rfl
  have G__law_cell:Fk l.prog w K mg base "_law_cell" ["_law_script", "_law_k"] .fz 1 m__law_cell:=⟨_,_,ok__law_cell (k:=0) B F19,b19,k19,PySem.W.mg_of X G a19⟩
  have F20:=fun_mk (st:=top 15) l20 c20 k20
  have b20:=F20.binds (ps:=["_law_cell_here"]) fun _ _ _ _ _ _ us hl=>by obtain ⟨_,rfl⟩:=us1 hl;rfl
  have G__law_purse:Fk l.prog w K mg base "_law_purse" ["_law_cell_here"] .ow 1 m__law_purse:=⟨_,_,ok__law_purse (k:=0) B F20,b20,k20,PySem.W.mg_of X G a20⟩
  have F21:=fun_mk (st:=top 16) l21 c21 k21
  have b21:=F21.binds (ps:=["_law_purse_here", "_law_many"]) fun _ _ _ _ _ _ us hl=>by obtain ⟨_,_,rfl⟩:=us2 hl;rfl
  have G__law_take:FkX l.prog w K mg base "_law_take" ["_law_purse_here", "_law_many"] 0 1 m__law_take:=⟨_,_,ok__law_take (k:=0) B F21,b21,k21,PySem.W.mg_of X G a21⟩
  have F22:=fun_mk (st:=top 17) l22 c22 k22
  have b22:=F22.binds (ps:=["_law_cell_here", "_law_many"]) fun _ _ _ _ _ _ us hl=>by obtain ⟨_,_,rfl⟩:=us2 hl;rfl
  have G__law_stream:Fk l.prog w K mg base "_law_stream" ["_law_cell_here", "_law_many"] .fz 2 m__law_stream:=⟨_,_,ok__law_stream (k:=1) B F22 (G__law_purse.mono (j:=1) (by first | decide | omega)) (G__law_take.mono (j':=1) (by first | decide | omega)),b22,k22,PySem.W.mg_of X G a22⟩
  have F23:=fun_mk (st:=top 24) l23 c23 k23
  have b23:=F23.binds (ps:=["_law_term_here", "_law_filling"]) fun _ _ _ _ _ _ us hl=>by obtain ⟨_,_,rfl⟩:=us2 hl;rfl
  have H__law_filled:∀ n:Nat,Fk l.prog w K mg base "_law_filled" ["_law_term_here", "_law_filling"] .fz (0 + n) (m__law_filled_n n):=by
    intro n
    induction n with
    | zero=>exact (Fk.never ⟨b23,k23,PySem.W.mg_of X G a23⟩ fun _=>rfl).mono (by omega)
    | succ n ih=>exact ⟨_,_,ok__law_filled (k:=0 + n) B F23 (ih.mono (j:=0 + n) (by omega)),b23,k23,PySem.W.mg_of X G a23⟩
  have G__law_filled:Fk l.prog w K mg base "_law_filled" ["_law_term_here", "_law_filling"] .fz 100 m__law_filled:=H__law_filled 100
  have F24:=fun_mk (st:=top 27) l24 c24 k24
  have b24:=F24.binds (ps:=["_law_one", "_law_other", "_law_found"]) fun _ _ _ _ _ _ us hl=>by obtain ⟨_,_,_,rfl⟩:=us3 hl;rfl
  have G__law_walks:Fk l.prog w K mg base "_law_walks" ["_law_one", "_law_other", "_law_found"] .fz 101 m_walks14:=⟨_,_,ok__law_walks (k:=100) B F24 (G__law_blanks_of.mono (j:=100) (by first | decide | omega)) (G__law_filled.mono (j:=100) (by first | decide | omega)),b24,k24,PySem.W.mg_of X G a24⟩
  have F25:=fun_mk (st:=top 25) l25 c25 k25
  have b25:=F25.binds (ps:=["_law_pattern", "_law_term_here", "_law_filling"]) fun _ _ _ _ _ _ us hl=>by obtain ⟨_,_,_,rfl⟩:=us3 hl;rfl
  have H__law_fits:∀ n:Nat,FkX l.prog w K mg base "_law_fits" ["_law_pattern", "_law_term_here", "_law_filling"] 2 (0 + n) (m__law_fits_n n):=by
    intro n
    induction n with
    | zero=>exact (FkX.never ⟨b25,k25,PySem.W.mg_of X G a25⟩ fun _ _=>rfl).mono (by omega)
    | succ n ih=>exact ⟨_,_,ok__law_fits (k:=0 + n) B F25 (ih.mono (j':=0 + n) (by omega)),b25,k25,PySem.W.mg_of X G a25⟩
  have G__law_fits:FkX l.prog w K mg base "_law_fits" ["_law_pattern", "_law_term_here", "_law_filling"] 2 100 m__law_fits:=H__law_fits 100
  have F26:=fun_mk (st:=top 29) l26 c26 k26
  have b26:=F26.binds (ps:=["_law_one", "_law_other", "_law_found", "_law_filling"]) fun _ _ _ _ _ _ us hl=>by obtain ⟨_,_,_,_,rfl⟩:=us4 hl;rfl
  have G__law_goes_by:Fk l.prog w K mg base "_law_goes_by" ["_law_one", "_law_other", "_law_found", "_law_filling"] .fz 101 m__law_goes_by:=⟨_,_,ok__law_goes_by (k:=100) B F26 (G__law_blanks_of.mono (j:=100) (by first | decide | omega)) (G__law_fits.mono (j':=100) (by first | decide | omega)) (G__law_filled.mono (j:=100) (by first | decide | omega)),b26,k26,PySem.W.mg_of X G a26⟩
  have F27:=fun_mk (st:=top 30) l27 c27 k27
  have b27:=F27.binds (ps:=["_law_script"]) fun _ _ _ _ _ _ us hl=>by obtain ⟨_,rfl⟩:=us1 hl;rfl
  exact ok_law (k:=103) B F27 (G__law_sorts.mono (j:=103) (by first | decide | omega)) (G__law_term.mono (j:=103) (by first | decide | omega)) (G__law_cut.mono (j':=103) (by first | decide | omega)) (G_made_alike.mono (j:=103) (by first | decide | omega)) (G__law_cell.mono (j:=103) (by first | decide | omega)) (G__law_stream.mono (j:=103) (by first | decide | omega)) (G__law_walks.mono (j:=103) (by first | decide | omega)) (G__law_goes_by.mono (j:=103) (by first | decide | omega))
end FL
end
open PySem PySem.W PyProof.Rows
set_option maxRecDepth 100000 in
set_option maxHeartbeats 0 in
theorem PySem.Challenge.cw_endmeet_k14_whole_widest_holds : PySem.Challenge.rw_endmeet_k14_whole_widest.Holds := by
  w_on; o_law; k_head; (case hw => w_witness2)
  k_fill
  refine FL.walkD (l := PySem.Challenge.rw_endmeet_k14_whole_widest) (k := 104) (x := "_law_script") (m := FL.m_law14) rfl rfl ⟨rfl, by decide, by decide⟩ (fun w h Y => PySem.W.kIn_of Y) ?F FL.FACT14
  case F =>
    intro w mg fa h KX G hmg
    refine' FL.all_mk KX G hmg ?a1 ?l1 ?c1 ?k1 ?a2 ?l2 ?c2 ?k2 ?a3 ?l3 ?c3 ?k3 ?a4 ?l4 ?c4 ?k4 ?a5 ?l5 ?c5 ?k5 ?a6 ?l6 ?c6 ?k6 ?a7 ?l7 ?c7 ?k7 ?a8 ?l8 ?c8 ?k8 ?a9 ?l9 ?c9 ?k9 ?a10 ?l10 ?c10 ?k10 ?a11 ?l11 ?c11 ?k11 ?a12 ?l12 ?c12 ?k12 ?a13 ?l13 ?c13 ?k13 ?a14 ?l14 ?c14 ?k14 ?a15 ?l15 ?c15 ?k15 ?a16 ?l16 ?c16 ?k16 ?a17 ?l17 ?c17 ?k17 ?a18 ?l18 ?c18 ?k18 ?a19 ?l19 ?c19 ?k19 ?a20 ?l20 ?c20 ?k20 ?a21 ?l21 ?c21 ?k21 ?a22 ?l22 ?c22 ?k22 ?a23 ?l23 ?c23 ?k23 ?a24 ?l24 ?c24 ?k24 ?a25 ?l25 ?c25 ?k25 ?a26 ?l26 ?c26 ?k26 ?a27 ?l27 ?c27 ?k27 ?z1 ?z2 ?z3 ?z4 ?z5 ?z6 ?z7 ?z8 ?z9 ?z10 ?z11 ?z12 ?z13 ?z14 ?z15 ?z16 ?z17 ?z18 ?z19 ?z20
    (case a1 => k_is); (case l1 => k_is); (case c1 => k_is); (case k1 => k_is)
    (case a2 => k_is); (case l2 => k_is); (case c2 => k_is); (case k2 => k_is)
    (case a3 => k_is); (case l3 => k_is); (case c3 => k_is); (case k3 => k_is)
    (case a4 => k_is); (case l4 => k_is); (case c4 => k_is); (case k4 => k_is)
    (case a5 => k_is); (case l5 => k_is); (case c5 => k_is); (case k5 => k_is)
    (case a6 => k_is); (case l6 => k_is); (case c6 => k_is); (case k6 => k_is)
    (case a7 => k_is); (case l7 => k_is); (case c7 => k_is); (case k7 => k_is)
    (case a8 => k_is); (case l8 => k_is); (case c8 => k_is); (case k8 => k_is)
    (case a9 => k_is); (case l9 => k_is); (case c9 => k_is); (case k9 => k_is)
    (case a10 => k_is); (case l10 => k_is); (case c10 => k_is); (case k10 => k_is)
    (case a11 => k_is); (case l11 => k_is); (case c11 => k_is); (case k11 => k_is)
    (case a12 => k_is); (case l12 => k_is); (case c12 => k_is); (case k12 => k_is)
    (case a13 => k_is); (case l13 => k_is); (case c13 => k_is); (case k13 => k_is)
    (case a14 => k_is); (case l14 => k_is); (case c14 => k_is); (case k14 => k_is)
    (case a15 => k_is); (case l15 => k_is); (case c15 => k_is); (case k15 => k_is)
    (case a16 => k_is); (case l16 => k_is); (case c16 => k_is); (case k16 => k_is)
    (case a17 => k_is); (case l17 => k_is); (case c17 => k_is); (case k17 => k_is)
    (case a18 => k_is); (case l18 => k_is); (case c18 => k_is); (case k18 => k_is)
    (case a19 => k_is); (case l19 => k_is); (case c19 => k_is); (case k19 => k_is)
    (case a20 => k_is); (case l20 => k_is); (case c20 => k_is); (case k20 => k_is)
    (case a21 => k_is); (case l21 => k_is); (case c21 => k_is); (case k21 => k_is)
    (case a22 => k_is); (case l22 => k_is); (case c22 => k_is); (case k22 => k_is)
    (case a23 => k_is); (case l23 => k_is); (case c23 => k_is); (case k23 => k_is)
    (case a24 => k_is); (case l24 => k_is); (case c24 => k_is); (case k24 => k_is)
    (case a25 => k_is); (case l25 => k_is); (case c25 => k_is); (case k25 => k_is)
    (case a26 => k_is); (case l26 => k_is); (case c26 => k_is); (case k26 => k_is)
    (case a27 => k_is); (case l27 => k_is); (case c27 => k_is); (case k27 => k_is)
    (case z1 => k_is)
    (case z2 => k_is)
    (case z3 => k_is)
    (case z4 => k_is)
    (case z5 => k_is)
    (case z6 => k_is)
    (case z7 => k_is)
    (case z8 => k_is)
    (case z9 => k_is)
    (case z10 => k_is)
    (case z11 => k_is)
    (case z12 => k_is)
    (case z13 => k_is)
    (case z14 => k_is)
    (case z15 => k_is)
    (case z16 => k_is)
    (case z17 => k_is)
    (case z18 => k_is)
    (case z19 => k_is)
    (case z20 => k_is)
