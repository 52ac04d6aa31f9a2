import PyProof.Rows.All
import Wide.All
import OpenK.AllK
import Wide.FinOn
import PyProof.Rows.SortStr
import Lean
import PyProof.EqAt
import PyProof.EqKinds
import PyProof.TupleCall
import PyProof.NeKinds
import PyProof.ZipIter
import PyProof.Draws
import KE.KRevIter
import PyProof.ListNew
import KE.KEqDict
import PyProof.EnumMake
import PyProof.StrWalks
import KE.KDictLaws
import PyProof.DictItemsLoops
import PyProof.DictWalks
import PyProof.DictCompW
import PyProof.ListMulAny
import PyProof.FactsAll.tuple_2
import PyProof.ConsumeWalk
import PyProof.StrLawsIn
import PySem.Challenge.RW_endmeet_k03_blanks_and_signs
section
local macro_rules | `(tactic| omega) => `(tactic| lia)
set_option Elab.async false
set_option linter.all false
set_option maxRecDepth 100000
namespace TS
open PySem PySem.Spec PyProof.Rows
noncomputable def El (w:World) (l:List (Int×Value)):Prop:=∀ e∈l,∃ k t,e=(hashStr w k,Value.str k t)
theorem El.of {P:Program}{w:World} {l:List (Int×Value)}(h:El w l):ElemsOf (PySem.strKind P w) l:=fun e he=>by
 obtain ⟨k,t,rfl⟩:=h e he
 exact ⟨⟨k,by show Value.isStrOf k (.str k t)=true;simp [Value.isStrOf],rfl⟩,rfl⟩
noncomputable def txt (l:List (Int×Value)):List Str:=l.map fun e=>strOf e.2
structure Good (w:World) (t t':SetTable):Prop where
 led:t'.led=t.led
 plain:t.plain=false→t'.plain=false
noncomputable def St (w:World) (h:Heap) (a:Addr) (L:List Str):Prop:=
 ∃ o es ep t,h.get? a=some o∧o.ExactSet∧o.data=.set es ep t∧El w es.toList∧(txt es.toList).Perm L∧L.Nodup∧es.size < scanBound∧t.fits es.size=true∧
  (L≠[]→t.plain=false)∧(w.params.followText "set-order" = false→t.led=true)
noncomputable def addT (L:List Str) (x:Str):List Str:=if x∈L then L else L++[x]
section
variable {w:World}{t:SetTable} {es:Array (Int×Value)}{h:Int} {x:Value}
theorem zbN (n:Nat):Good w t (t.standIn n):=⟨rfl,fun _=>rfl⟩
theorem zfU:Good w t (layNew t es h x).2.1:=by
 unfold layNew
 split
 ·dsimp only
  unfold SetTable.orStandIn
  split
  ·exact ⟨rfl,fun z=>z⟩
  ·exact ⟨rfl,fun _=>rfl⟩
 ·exact zbN _
theorem zez (wanted:Nat):Good w t (relayAll t es wanted).2.1:=by
 unfold relayAll
 split
 ·rename_i t' order hr
  dsimp only
  split
  ·unfold SetTable.relaid SetTable.laid at hr
   cases q:SetTable.layClean (SetTable.sizeAbove wanted - 1) (es.map (·.1)) with
   | none=>rw [q] at hr;cases hr
   | some ow=>
    rw [q] at hr
    cases hr
    exact ⟨rfl,fun z=>z⟩
  ·exact zbN _
 ·exact zbN _
end
section
variable {P:Program}{w:World} {A:Around}{E:Value→Shared→Prop} {s:Shared}{a:Addr}
theorem zis {g:Bool→Sem Unit}(hg:∀ (b:Bool) (s₁:Shared) (Q':Unit→Shared→Prop),Q' () s₁→wpAny (model P w) A (g b) Q' E s₁)
  {o:Obj} {es:Array (Int×Value)}{ep:Nat} {t:SetTable}(ho:s.heap.get? a=some o) (hd:o.data=.set es ep t)
  {es1:Array (Int×Value)} {t2:SetTable}(hb1:es1.size < scanBound) (hf2:t2.fits es1.size=true) {wasDummy:Bool}{R:Option Bool→Shared→Prop}
  (h:∀ h' es2 ep2 t3,Heap.SameBut a s.heap h'→h'.get? a=some { o with data:=.set es2 ep2 t3 }→es2.toList.Perm es1.toList→t3.fits es2.size=true→Good w t2 t3→R (some true) { s with heap:=h' }) :
  wpAny (model P w) A (do
    storeSet a es1 t2
    if (!wasDummy && t2.tooFull)=true then do
      g (relayAll t2 es1 (SetTable.grown es1.size)).2.2
      storeSet a (relayAll t2 es1 (SetTable.grown es1.size)).1 (relayAll t2 es1 (SetTable.grown es1.size)).2.1
      pure (some true)
     else pure (some true)) R E s:=by
 refine wpAny_bind (wpAny_storeSet_of ho hd ?_ (fits_of_scanBound hb1))
 have put1:(s.heap.update a (Obj.putSet es1 t2)).get? a=some { o with data:=.set es1 (ep + 1) t2 }:=by
  have:=Heap.get?_update_self (Obj.putSet es1 t2) ho (by rw [putSet_of es1 t2 hd];rfl)
  rw [putSet_of es1 t2 hd] at this;exact this
 have hsb1:=Heap.SameBut.update s.heap a (Obj.putSet es1 t2)
 split
 ·have hp:=relayAll_perm t2 es1 (SetTable.grown es1.size)
  have hfr:=relayAll_fits t2 es1 (SetTable.grown es1.size)
  have hgd:=zez (w:=w) (t:=t2) (es:=es1) (SetTable.grown es1.size)
  generalize relayAll t2 es1 (SetTable.grown es1.size)=Rl at hp hfr hgd ⊢
  obtain ⟨es2,t3,gave2⟩:=Rl
  dsimp only at hp hfr hgd ⊢
  have hsz:es2.size=es1.size:=by rw [← Array.length_toList,hp.length_eq,Array.length_toList]
  refine wpAny_bind (hg _ _ _ ?_)
  refine wpAny_bind (wpAny_storeSet_of put1 rfl ?_ (fits_of_scanBound (by rw [hsz];exact hb1)))
  have put2:((s.heap.update a (Obj.putSet es1 t2)).update a (Obj.putSet es2 t3)).get? a=some { o with data:=.set es2 (ep + 1 + 1) t3 }:=by
   have:=Heap.get?_update_self (Obj.putSet es2 t3) put1 (by rw [putSet_of es2 t3 rfl];rfl)
   rw [putSet_of es2 t3 rfl] at this;exact this
  exact wpAny_pure (h _ es2 _ t3 (hsb1.trans (Heap.SameBut.update _ a _)) put2 hp hfr hgd)
 ·exact wpAny_pure (h _ es1 _ t2 hsb1 put1 (List.Perm.refl _) hf2 ⟨rfl,fun z=>z⟩)
theorem zhj {es:List (Int×Value)}(he:El w es) {x:Str}:x∈txt es↔∃ e∈es,Value.isStrOf x e.2=true:=by
 unfold txt
 rw [List.mem_map]
 constructor
 ·rintro ⟨e,h1,h2⟩
  obtain ⟨k,t,rfl⟩:=he e h1
  refine ⟨_,h1,?_⟩
  subst h2
  simp [Value.isStrOf,strOf]
 ·rintro ⟨e,h1,h2⟩
  obtain ⟨k,t,rfl⟩:=he e h1
  obtain ⟨t',e'⟩:=Value.isStrOf_shape h2
  cases e'
  exact ⟨_,h1,rfl⟩
theorem zhe {L:List Str}{x:Str} (h:L.Nodup):(addT L x).Nodup:=by
 unfold addT;split
 ·exact h
 ·rename_i hx
  exact List.nodup_append.mpr ⟨h,by simp,fun a ha b hb=>by simp at hb;subst hb;exact fun e=>hx (e ▸ ha)⟩
theorem add {L:List Str}{x:Str} {tk:Tok}{Q:Bool→Shared→Prop} (hS:St w s.heap a L) (hroom:L.length + 1 < scanBound)
  (h:∀ h' b,Heap.SameBut a s.heap h'→St w h' a (addT L x)→Q b { s with heap:=h' }) :
  wpAny (model P w) A (setAddHashed a (.str x tk) (hashStr w x)) Q E s:=by
 obtain ⟨o,es,ep,t,ho,hex,hd,hel,hpm,hnd,hb,hf,hpl,hld⟩:=hS
 have hsz:es.size=L.length:=by rw [← hpm.length_eq];simp [txt]
 have hb1:es.size + 1 < scanBound:=by rw [hsz];exact hroom
 have hkey:(PySem.strKind P w).is x (.str x tk)=true:=by show Value.isStrOf x (.str x tk)=true;simp [Value.isStrOf]
 have hE:ElemsOf (PySem.strKind P w) es.toList:=hel.of
 unfold setAddHashed setAddHashedIn
 refine wpAny_holding (wpAny_bind (wpAny_setState_of ho hd hf ?_))
 dsimp only
 rw [byScan_of rfl hb hE]
 simp only [↓reduceIte]
 unfold setAddByScan
 refine wpAny_bind ?_
 refine wpAny_bind (wpAny_rule ?_)
 refine wpAny_bind (wpAny_setScan_of (knd:=PySem.strKind P w) (k:=x) hkey ho hd hf hE ?_)
 cases hr:List.findIdx? (fun e=>(PySem.strKind P w).is x e.2) es.toList with
 | some j=>
  dsimp only
  obtain ⟨hj,hpj,_⟩:=List.findIdx?_eq_some_iff_getElem.mp hr
  have hx:x∈L:=hpm.mem_iff.mp ((zhj hel).mpr ⟨es.toList[j],List.getElem_mem hj,hpj⟩)
  refine wpAny_pure (wpAny_pure ?_)
  have e:s={ s with heap:=s.heap }:=by cases s;rfl
  rw [e]
  exact h s.heap _ (Heap.SameBut.refl a s.heap) (by unfold addT;rw [if_pos hx];exact ⟨o,es,ep,t,ho,hex,hd,hel,hpm,hnd,hb,hf,hpl,hld⟩)
 | none=>
  dsimp only
  have hx:x∉L:=fun z=>by
   obtain ⟨e,he,hp⟩:=(zhj hel).mp (hpm.mem_iff.mpr z)
   have:=List.findIdx?_eq_none_iff.mp hr e he
   have hp':(PySem.strKind P w).is x e.2=true:=hp
   rw [hp'] at this;exact Bool.noConfusion this
  have hgw:∀ (b:Bool) {s₁:Shared}{Q':Unit→Shared→Prop},Q' () s₁→wpAny (model P w) A (match b with | true=>rule "set.scan.the-table-gave-way" | false=>pure ()) Q' E s₁:=
   fun b s₁ Q' hq=>by cases b<;>first | exact wpAny_pure hq | exact wpAny_rule hq
  have hperm:=layNew_perm t es (hashStr w x) (.str x tk)
  have hfits:=layNew_fits t es (hashStr w x) (.str x tk)
  have hgood:=zfU (w:=w) (t:=t) (es:=es) (h:=hashStr w x) (x:=.str x tk)
  generalize layNew t es (hashStr w x) (.str x tk)=L1 at hperm hfits hgood ⊢
  obtain ⟨es1,t1,wasDummy,gave⟩:=L1
  dsimp only at hperm hfits hgood ⊢
  rw [Array.toList_push] at hperm
  have hel1:El w es1.toList:=fun e he=>by
   rcases List.mem_append.mp (hperm.mem_iff.mp he) with z | z
   ·exact hel e z
   ·exact ⟨x,tk,List.mem_singleton.mp z⟩
  have hpm1:(txt es1.toList).Perm (addT L x):=by
   unfold addT;rw [if_neg hx]
   refine (hperm.map _).trans ?_
   rw [List.map_append]
   exact hpm.append (List.Perm.refl _)
  have hb1':es1.size < scanBound:=by rw [← Array.length_toList,hperm.length_eq,List.length_append,Array.length_toList];simpa using hb1
  refine wpAny_bind (hgw _ ?_)
  have fin:∀ (t2:SetTable),t2.led=t.led→t2.plain=false→∀ h' es2 ep2 t3,Heap.SameBut a s.heap h'→h'.get? a=some { o with data:=.set es2 ep2 t3 }→es2.toList.Perm es1.toList→t3.fits es2.size=true→Good w t2 t3→St w h' a (addT L x):=by
   intro t2 e1 e2 h' es2 ep2 t3 _ g1 g2 g3 g4
   have z2:es2.size=es1.size:=by rw [← Array.length_toList,g2.length_eq,Array.length_toList]
   exact ⟨_,es2,ep2,t3,g1,hex,rfl,fun e he=>hel1 e (g2.mem_iff.mp he),(g2.map _).trans hpm1,zhe hnd,by rw [z2];exact hb1',g3,fun _=>g4.plain e2,fun z=>by rw [g4.led,e1];exact hld z⟩
  split
  ·refine wpAny_bind ?_
   rw [hashByValue_scannable 8 (x:=.str x tk) rfl]
   refine wpAny_pure ?_
   refine zis ?_ ho hd hb1' ?_ ?_
   ·intro b s₁ Q' hq;cases b<;>first | exact wpAny_pure hq | exact wpAny_rule hq
   ·split
    ·exact hfits
    ·exact SetTable.fits_plain_off hfits
   ·intro h' es2 ep2 t3 g0 g1 g2 g3 g4
    dsimp only
    refine wpAny_pure (h h' _ g0 (fin _ ?_ ?_ h' es2 ep2 t3 g0 g1 g2 g3 g4))
    ·split
     ·exact hgood.led
     ·exact hgood.led
    ·rw [if_neg (by simp [plainKind])]
  ·rename_i hnp
   refine wpAny_bind (wpAny_pure ?_)
   simp only [↓reduceIte]
   refine zis ?_ ho hd hb1' hfits ?_
   ·intro b s₁ Q' hq;cases b<;>first | exact wpAny_pure hq | exact wpAny_rule hq
   ·intro h' es2 ep2 t3 g0 g1 g2 g3 g4
    dsimp only
    exact wpAny_pure (h h' _ g0 (fin t1 hgood.led (by simpa using hnp) h' es2 ep2 t3 g0 g1 g2 g3 g4))
end
end TS
set_option Elab.async false
set_option linter.all false
set_option maxRecDepth 100000
namespace L2
open PySem PySem.Spec PyProof.Rows
noncomputable abbrev Key:=Sum Int Str
noncomputable def zlJ:Key→Value→Bool
 | .inl k,v=>Value.isInt k v
 | .inr x,v=>Value.isStrOf x v
noncomputable def keyH (w:World):Key→Int
 | .inl k=>hashInt k
 | .inr x=>hashStr w x
theorem zaC:∀ {k:Key}{v:Value},zlJ k v=true→(∃ i t,k=Sum.inl i∧v=Value.int i t)∨(∃ x t,k=Sum.inr x∧v=Value.str x t)
 | .inl i,v,h=>by
  obtain ⟨t,e⟩:=Value.isInt_shape (k:=i) (v:=v) h
  exact .inl ⟨i,t,rfl,e⟩
 | .inr x,v,h=>by
  obtain ⟨t,e⟩:=Value.isStrOf_shape (x:=x) (v:=v) h
  exact .inr ⟨x,t,rfl,e⟩
theorem zlI (a b:Int):decide ((Sum.inl a:Key)=Sum.inl b)=(a == b):=by
 by_cases e:a=b
 ·subst e;simp
 ·have h:¬ (Sum.inl a:Key)=Sum.inl b:=fun q=>e (Sum.inl.inj q)
  rw [decide_eq_false h]
  exact (beq_eq_false_iff_ne.mpr e).symm
theorem zlF (a b:Str):decide ((Sum.inr a:Key)=Sum.inr b)=decide (a=b):=by
 by_cases e:a=b
 ·subst e;simp
 ·have h:¬ (Sum.inr a:Key)=Sum.inr b:=fun q=>e (Sum.inr.inj q)
  rw [decide_eq_false h,decide_eq_false e]
theorem zlH (a:Int) (b:Str):decide ((Sum.inl a:Key)=Sum.inr b)=false:=decide_eq_false (fun q=>nomatch q)
theorem zlG (a:Str) (b:Int):decide ((Sum.inr a:Key)=Sum.inl b)=false:=decide_eq_false (fun q=>nomatch q)
noncomputable def zfT (prog:Program) (w:World):PySem.KeyKind prog w Key where
 is:=zlJ
 hash:=keyH w
 inj:=fun v a b ha hb=>by
  rcases zaC ha with ⟨i,t,rfl,rfl⟩ | ⟨x,t,rfl,rfl⟩
  ·rcases zaC hb with ⟨j,u,rfl,e⟩ | ⟨y,u,rfl,e⟩
   ·injection e with e1 _;rw [e1]
   ·exact nomatch e
  ·rcases zaC hb with ⟨j,u,rfl,e⟩ | ⟨y,u,rfl,e⟩
   ·exact nomatch e
   ·injection e with e1 _;rw [e1]
 byValue:=fun k v h=>by
  rcases zaC h with ⟨i,t,rfl,rfl⟩ | ⟨x,t,rfl,rfl⟩<;>rfl
 pyHash:=fun hv h=>by
  rcases zaC hv with ⟨i,t,rfl,rfl⟩ | ⟨x,t,rfl,rfl⟩
  ·exact wpAny_pyHash_int h
  ·exact wpAny_pyHash_str h
 eqBool:=fun hu hv h=>by
  rcases zaC hu with ⟨i,t,rfl,rfl⟩ | ⟨x,t,rfl,rfl⟩
  ·rcases zaC hv with ⟨j,u,rfl,rfl⟩ | ⟨y,u,rfl,rfl⟩
   ·rw [zlI] at h;exact wpAny_eqBool_int h
   ·rw [zlH] at h;exact SeqAt.EqAt.int_str i t y u _ _ _ _ h
  ·rcases zaC hv with ⟨j,u,rfl,rfl⟩ | ⟨y,u,rfl,rfl⟩
   ·rw [zlG] at h;exact SeqAt.EqAt.str_int x t j u _ _ _ _ h
   ·rw [zlF] at h;exact wpAny_eqBool_str h
 «strs»:=fun k x t v h=>by
  rcases zaC h with ⟨i,u,rfl,e⟩ | ⟨y,u,rfl,e⟩
  ·exact nomatch e
  ·injection e with e1 _
   subst e1
   cases v<;>rfl
end L2
namespace L2
open PySem PySem.Spec PyProof.Rows
inductive V where
 | non | bl (b:Bool) | int (i:Int) | str (x:Str) | byt (b:Array UInt8) | flt (b:UInt64) | ref (a:Addr) | ty (n:String)
 deriving DecidableEq
noncomputable def RelV:V→Value→Prop
 | .non,u=>u=Value.none
 | .bl b,u=>u=Value.bool b
 | .int i,u=>∃ t,u=Value.int i t
 | .str x,u=>∃ t,u=Value.str x t
 | .byt b,u=>∃ t,u=Value.bytes b t
 | .flt b,u=>∃ t,u=Value.float b t
 | .ref a,u=>u=Value.ref a
 | .ty n,u=>u=Value.type n
noncomputable abbrev Vals:List V→List Value→Prop:=Paired RelV
theorem Vals.length {xs:List V}{us:List Value} (r:Vals xs us):xs.length=us.length:=Paired.length r
theorem Vals.get:∀ {xs:List V}{us:List Value} {i:Nat}{x:V},Vals xs us→xs[i]?=some x→∃ u,us[i]?=some u∧RelV x u
 | _,_,_,_,.nil,e=>by simp at e
 | _,_,0,_,.cons r _,e=>by simp at e;subst e;exact ⟨_,rfl,r⟩
 | _,_,i + 1,x,.cons _ t,e=>by
  obtain ⟨u,h1,h2⟩:=Vals.get (i:=i) (x:=x) t (by simpa using e)
  exact ⟨u,by simpa using h1,h2⟩
theorem Vals.append:∀ {xs ys:List V}{us ws:List Value},Vals xs us→Vals ys ws→Vals (xs++ys) (us++ws)
 | _,_,_,_,.nil,s=>s
 | _,_,_,_,.cons r t,s=>.cons r (Vals.append t s)
theorem Vals.take:∀ {xs:List V}{us:List Value} (n:Nat),Vals xs us→Vals (xs.take n) (us.take n)
 | _,_,0,_=>.nil
 | _,_,_ + 1,.nil=>.nil
 | _,_,n + 1,.cons r t=>.cons r (Vals.take n t)
theorem Vals.drop:∀ {xs:List V}{us:List Value} (n:Nat),Vals xs us→Vals (xs.drop n) (us.drop n)
 | _,_,0,r=>r
 | _,_,_ + 1,.nil=>.nil
 | _,_,n + 1,.cons _ t=>Vals.drop n t
noncomputable def RelO:Option V→Option Value→Prop
 | some v,some u=>RelV v u
 | none,none=>True
 | _,_=>False
noncomputable def KV {κ:Type}:List (κ×V)→List (κ×Value)→Prop:=Paired fun (p:κ×V) (q:κ×Value)=>p.1=q.1∧RelV p.2 q.2
noncomputable def kV:Key→V
 | .inl i=>.int i
 | .inr x=>.str x
inductive HO where
 | lst (xs:List V)
 | tup (xs:List V)
 | dK (kvs:List (Key×V)) | dT (kvs:List (List Key×V))
 | set (S:List Str)
 | ins (C dx:Addr) (fs:List (Str×V))
 | own (x:Addr)
 | xd (fs:List (Str×V))
 | met (f x:Addr)
 | rng (lo hi:Int)
 | frz (o:Obj) (u:HO)
 | tbl (ps:Array Value)
 | ext (φ:Heap→Prop)
noncomputable abbrev Hp:=Addr→Option HO
noncomputable def upd (H:Hp) (a:Addr) (o:HO):Hp:=fun b=>if b=a then some o else H b
theorem zam {H:Hp}{a:Addr} {o:HO}:upd H a o a=some o:=by unfold upd;rw [if_pos rfl]
theorem zar {H:Hp}{a b:Addr} {o:HO}(h:b≠a):upd H a o b=H b:=by unfold upd;rw [if_neg h]
theorem zal {H:Hp}{a b:Addr} {o:HO}(h:H a=some o) (h':H b=none):a≠b:=by
 intro e;subst e;rw [h] at h';cases h'
section
variable (P:Program) (w:World)
noncomputable def zaW (H:Hp) (h:Heap) (a:Addr):HO→Prop
 | .lst xs=>xs.length≤sizeLine∧∃ (its:List Value) (n:Nat),Vals xs its∧h.get? a=some { cls:=.type "list",data:=.seq its.toArray n }
 | .tup xs=>xs.length≤sizeLine∧∃ its:List Value,Vals xs its∧IsTup h a its.toArray
 | .dK kvs=>kvs.length≤sizeLine∧(a == sysModules)=false∧∃ vs,KV kvs vs∧h.DictOf (zfT P w) a vs
 | .dT kvs=>kvs.length≤sizeLine∧(a == sysModules)=false∧∃ xs:List (List Key×Addr×Value),
   Paired (fun (p:List Key×V) (q:List Key×Addr×Value)=>p.1=q.1∧H q.2.1=some (.tup (p.1.map kV))∧RelV p.2 q.2.2) kvs xs∧
   ∃ o es ep,h.get? a=some o∧o.ExactDict∧o.data=.dict es ep∧es.toList=xs.map (entryOfKey (tupleKind (zfT P w)))∧(xs.map (·.1)).Nodup
 | .set S=>TS.St w h a S
 | .ins C dx fs=>H dx=some (.own a)∧fs.length≤1000∧dx≠a∧h.get? a=some (PySem.W.instObj C dx)∧
   ∃ mA,h.Ns1 dx mA∧(∀ f,RelO (fs.lookup f) (mA f))∧PySem.Within mA (fs.map (·.1))
 | .own _=>∃ o,h.get? a=some o
 | .xd fs=>∃ mA,h.Ns1 a mA∧∀ f,RelO (fs.lookup f) (mA f)
 | .rng lo hi=>∃ t u v,h.get? a=some { cls:=.type "range",data:=.fields #[.int lo t,.int hi u,.int 1 v] }
 | .frz o u=>h.get? a=some o∧zaW H h a u
 | .tbl ps=>h.get? a=some { cls:=.none,data:=.fields ps }
 | .met f x=>h.get? a=some (PySem.W.methodObj (.ref f) (.ref x))
 | .ext φ=>φ h∧(∃ o,h.get? a=some o)∧∀ h1 h2:Heap,φ h1→(∀ o,h1.get? a=some o→h2.get? a=some o)→φ h2
noncomputable def HOk (H:Hp) (h:Heap):Prop:=∀ a o,H a=some o→zaW P w H h a o
end
section
variable {P:Program}{w:World} {H H':Hp}{h h':Heap} {a:Addr}{o:HO}
theorem zaW.lt (x:zaW P w H h a o):a < h.objs.size:=by
 cases o with
 | lst xs=>obtain ⟨_,_,_,_,e⟩:=x;exact Heap.lt_size e
 | tup xs=>obtain ⟨_,_,_,p⟩:=x;exact p.lt
 | dK kvs=>obtain ⟨_,_,_,_,o,_,_,e,_⟩:=x;exact Heap.lt_size e
 | dT kvs=>obtain ⟨_,_,_,_,o,_,_,e,_⟩:=x;exact Heap.lt_size e
 | set S=>obtain ⟨o,_,_,_,e,_⟩:=x;exact Heap.lt_size e
 | ins C dx fs=>obtain ⟨_,_,_,e,_⟩:=x;exact Heap.lt_size e
 | own y=>obtain ⟨_,e⟩:=x;exact Heap.lt_size e
 | xd fs=>obtain ⟨_,⟨_,_,_,e,_⟩,_⟩:=x;exact Heap.lt_size e
 | rng lo hi=>obtain ⟨_,_,_,e⟩:=x;exact Heap.lt_size e
 | frz ob u=>obtain ⟨e,_⟩:=x;exact Heap.lt_size e
 | tbl ps=>exact Heap.lt_size (show h.get? a=some _ from x)
 | met f y=>exact Heap.lt_size (show h.get? a=some _ from x)
 | ext φ=>obtain ⟨_,⟨_,e⟩,_⟩:=x;exact Heap.lt_size e
theorem Paired.mapP {α β:Type}{F G:α→β→Prop}:∀ {l₁:List α}{l₂:List β},Paired F l₁ l₂→(∀ a b,F a b→G a b)→Paired G l₁ l₂
 | _,_,.nil,_=>.nil
 | _,_,.cons r t,f=>.cons (f _ _ r) (Paired.mapP t f)
theorem zaW.stay (x:zaW P w H h a o) (k:∀ b u,(b=a∨H b=some (.own a))→h.get? b=some u→h'.get? b=some u)
  (ho:∀ b,H b=some (.own a)→H' b=some (.own a)) (ht:∀ b xs,H b=some (.tup xs)→H' b=some (.tup xs)):zaW P w H' h' a o:=by
 induction o with
 | lst xs=>obtain ⟨z,its,n,r,e⟩:=x;exact ⟨z,its,n,r,k _ _ (.inl rfl) e⟩
 | tup xs=>obtain ⟨z,its,r,ob,e,c⟩:=x;exact ⟨z,its,r,ob,k _ _ (.inl rfl) e,c⟩
 | dK kvs=>obtain ⟨z,y,vs,r,ob,es,ep,e,c⟩:=x;exact ⟨z,y,vs,r,ob,es,ep,k _ _ (.inl rfl) e,c⟩
 | dT kvs=>
  obtain ⟨z,y,xs,r,ob,es,ep,e,c⟩:=x
  exact ⟨z,y,xs,Paired.mapP r fun p q z=>⟨z.1,ht _ _ z.2.1,z.2.2⟩,ob,es,ep,k _ _ (.inl rfl) e,c⟩
 | set S=>obtain ⟨ob,es,ep,t,e,c⟩:=x;exact ⟨ob,es,ep,t,k _ _ (.inl rfl) e,c⟩
 | ins C dx fs=>
  obtain ⟨d,z,ne,e,mA,⟨od,es,ep,e2,c⟩,r⟩:=x
  exact ⟨ho _ d,z,ne,k _ _ (.inl rfl) e,mA,⟨od,es,ep,k _ _ (.inr d) e2,c⟩,r⟩
 | own y=>obtain ⟨ob,e⟩:=x;exact ⟨ob,k _ _ (.inl rfl) e⟩
 | xd fs=>obtain ⟨mA,⟨od,es,ep,e,c⟩,r⟩:=x;exact ⟨mA,⟨od,es,ep,k _ _ (.inl rfl) e,c⟩,r⟩
 | rng lo hi=>obtain ⟨t,u,v,e⟩:=x;exact ⟨t,u,v,k _ _ (.inl rfl) e⟩
 | frz ob u ih=>obtain ⟨e,q⟩:=x;exact ⟨k _ _ (.inl rfl) e,ih q⟩
 | tbl ps=>
  have e:h.get? a=some { cls:=.none,data:=.fields ps }:=x
  show h'.get? a=some { cls:=.none,data:=.fields ps }
  exact k a _ (.inl rfl) e
 | met f y=>
  have e:h.get? a=some (PySem.W.methodObj (.ref f) (.ref y)):=x
  show h'.get? a=some (PySem.W.methodObj (.ref f) (.ref y))
  exact k a _ (.inl rfl) e
 | ext φ=>obtain ⟨p,⟨o,e⟩,st⟩:=x;exact ⟨st _ _ p fun o q=>k _ _ (.inl rfl) q,⟨o,k _ _ (.inl rfl) e⟩,st⟩
theorem HOk.lt (x:HOk P w H h) (e:H a=some o):a < h.objs.size:=(x a o e).lt
theorem HOk.fresh (x:HOk P w H h) (e:h.objs.size≤a):H a=none:=by
 cases q:H a with
 | none=>rfl
 | some u=>exact absurd (Nat.lt_of_lt_of_le (x.lt q) e) (Nat.lt_irrefl _)
theorem HOk.kept (x:HOk P w H h) (k:∀ b u,h.get? b=some u→h'.get? b=some u):HOk P w H h':=fun a o e=>
 (x a o e).stay (fun b u _ q=>k b u q) (fun _ q=>q) fun _ _ q=>q
theorem HOk.laid (x:HOk P w H h) (k:∀ b u,h.get? b=some u→h'.get? b=some u) (hp:h.objs.size≤a) (new:zaW P w (upd H a o) h' a o):HOk P w (upd H a o) h':=fun b u e=>by
 have hn:=x.fresh hp
 by_cases hb:b=a
 ·subst hb;rw [zam] at e;cases e;exact new
 ·rw [zar hb] at e
  exact (x b u e).stay (fun c v _ q=>k c v q) (fun c q=>by rw [zar (zal q hn)];exact q) fun c xs q=>by rw [zar (zal q hn)];exact q
end
noncomputable def Rd (H:Hp) (a:Addr) (u:HO):Prop:=H a=some u∨∃ o,H a=some (.frz o u)
theorem Rd.ok {P:Program}{w:World} {H:Hp}{h:Heap} {a:Addr}{u:HO} (r:Rd H a u) (x:HOk P w H h):zaW P w H h a u:=by
 rcases r with r | ⟨o,r⟩
 ·exact x a u r
 ·obtain ⟨_,q⟩:=x a _ r
  exact q
noncomputable def Mut:Option HO→Prop
 | some (.lst _)=>True
 | some (.dK _)=>True
 | some (.dT _)=>True
 | some (.set _)=>True
 | some (.ins _ _ _)=>True
 | some (.ext _)=>True
 | _=>False
section
variable {P:Program}{w:World} {H:Hp}{h h':Heap} {x e:Addr}{o':HO}
theorem HOk.write (ok:HOk P w H h) (mu:Mut (H x)) (he:e=x∨H e=some (.own x)) (k:∀ b u,b≠e→h.get? b=some u→h'.get? b=some u) (heo:∃ u,h'.get? e=some u)
  (new:zaW P w (upd H x o') h' x o'):HOk P w (upd H x o') h':=fun b u q=>by
 have nown:∀ c y,H c=some (.own y)→c≠x:=fun c y r z=>by subst z;rw [r] at mu;exact mu
 have ntup:∀ c xs,H c=some (.tup xs)→c≠x:=fun c xs r z=>by subst z;rw [r] at mu;exact mu
 by_cases hb:b=x
 ·subst hb;rw [zam] at q;cases q;exact new
 ·rw [zar hb] at q
  by_cases hbe:b=e
  ·have q':H b=some (.own x):=by
    rcases he with z | z
    ·exact absurd (hbe.trans z) hb
    ·rw [hbe];exact z
   rw [q] at q';cases q'
   obtain ⟨v,hv⟩:=heo
   exact ⟨v,by rw [hbe];exact hv⟩
  ·refine (ok b u q).stay (fun c v hc r=>k c v ?_ r) (fun c r=>by rw [zar (nown c b r)];exact r) fun c xs r=>by rw [zar (ntup c xs r)];exact r
   rcases hc with rfl | hc
   ·exact hbe
   ·rintro rfl
    rcases he with z | z
    ·exact nown c b hc z
    ·rw [hc] at z;cases z;exact hb rfl
end
structure Un (fs ex:List Addr) (H H':Hp) (h h':Heap):Prop where
 keep:∀ b o,h.get? b=some o→H b=none→b∉fs→b∉ex→h'.get? b=some o
 slot:∀ b o,h.get? b=some o→H b=none→b∈fs→b∉ex→∃ sl,h'.get? b=some { o with slots:=sl }
 free:∀ b o,h.get? b=some o→H b=none→b∉ex→H' b=none
 there:∀ b o,h.get? b=some o→b∉ex→∃ o',h'.get? b=some o'
 tups:∀ b xs,H b=some (.tup xs)→H' b=some (.tup xs)
 frzs:∀ b o u,H b=some (.frz o u)→H' b=some (.frz o u)
 tbls:∀ b ps,H b=some (.tbl ps)→∃ more,H' b=some (.tbl (ps++more))
section
variable {fs fs' ex ex':List Addr}{H H1 H2:Hp} {h h1 h2 h':Heap}{a x e:Addr} {o:HO}
theorem Un.any (u:Un fs ex H H1 h h1) {b:Addr}{ob:Obj} (q:h.get? b=some ob) (n:H b=none) (hx:b∉ex):∃ sl,h1.get? b=some { ob with slots:=sl }:=by
 by_cases hb:b∈fs
 ·exact u.slot b ob q n hb hx
 ·exact ⟨ob.slots,u.keep b ob q n hb hx⟩
theorem Un.kept (k:∀ b u,h.get? b=some u→h'.get? b=some u):Un fs ex H H h h':=
 ⟨fun b ob q _ _ _=>k b ob q,fun b ob q _ _ _=>⟨ob.slots,k b ob q⟩,fun _ _ _ n _=>n,fun b ob q _=>⟨ob,k b ob q⟩,fun _ _ q=>q,fun _ _ _ q=>q,fun _ ps q=>⟨#[],by rw [q];simp⟩⟩
theorem Un.refl:Un fs ex H H h h:=Un.kept fun _ _ q=>q
theorem Un.laid (k:∀ b u,h.get? b=some u→h'.get? b=some u) (hp:h.objs.size≤a) (hn:H a=none):Un fs ex H (upd H a o) h h' where
 keep:=fun b u q _ _ _=>k b u q
 slot:=fun b u q _ _ _=>⟨u.slots,k b u q⟩
 free:=fun b u q n _=>by rw [zar (Nat.ne_of_lt (Nat.lt_of_lt_of_le (Heap.lt_size q) hp))];exact n
 there:=fun b u q _=>⟨u,k b u q⟩
 tups:=fun b xs q=>by rw [zar (zal q hn)];exact q
 frzs:=fun b u xs q=>by rw [zar (zal q hn)];exact q
 tbls:=fun b ps q=>⟨#[],by rw [zar (zal q hn),q];simp⟩
theorem Un.write (mu:Mut (H x)) (he:e=x∨H e=some (.own x)) (k:∀ b u,b≠e→h.get? b=some u→h'.get? b=some u) (heo:∃ u,h'.get? e=some u):Un fs ex H (upd H x o) h h':=by
 have hx:∀ b,H b=none→b≠x:=fun b n z=>by subst z;rw [n] at mu;exact mu
 have hb:∀ b,H b=none→b≠e:=fun b n z=>by
  subst z
  rcases he with r | r
  ·exact hx b n r
  ·rw [n] at r;cases r
 have hm:∀ b u,H b=some u→¬ Mut (some u)→b≠x:=fun b u q nm z=>by subst z;rw [q] at mu;exact nm mu
 refine ⟨fun b u q n _ _=>k b u (hb b n) q,fun b u q n _ _=>⟨u.slots,k b u (hb b n) q⟩,fun b u q n _=>by rw [zar (hx b n)];exact n,fun b u q _=>?_,
  fun b xs q=>by rw [zar (hm b _ q fun z=>z)];exact q,fun b u xs q=>by rw [zar (hm b _ q fun z=>z)];exact q,fun b ps q=>⟨#[],by rw [zar (hm b _ q fun z=>z),q];simp⟩⟩
 by_cases hbe:b=e
 ·subst hbe;exact heo
 ·exact ⟨u,k b u hbe q⟩
end
noncomputable def trk (h:Heap) (H:Hp):List Addr:=(List.range h.objs.size).filter fun a=>(H a).isSome
noncomputable def hidT (h:Heap) (H:Hp):Heap:=PySem.W.hideAll h (trk h H)
theorem zhV (h:Heap) (H:Hp):(hidT h H).objs.size=h.objs.size:=PySem.W.hideAll_size _ _
theorem zjb {h:Heap}{H:Hp} {b:Addr}{o:Obj} (e:h.get? b=some o) (n:H b=none):(hidT h H).get? b=some o:=
 PySem.W.hideAll_get _ e fun hm=>by
  have q:(H b).isSome=true:=(List.mem_filter.mp hm).2
  rw [n] at q;simp at q
theorem zkj {h:Heap}{H:Hp} {b:Addr}{o:Obj} (e:(hidT h H).get? b=some o):h.get? b=some o∧H b=none:=by
 have e':h.get? b=some o:=PySem.W.of_hideAll (trk h H) e
 refine ⟨e',?_⟩
 cases q:H b with
 | none=>rfl
 | some x=>
  have hm:b∈trk h H:=List.mem_filter.mpr ⟨List.mem_range.mpr (Heap.lt_size e'),by simp [q]⟩
  have z:(hidT h H).get? b=none:=PySem.W.hideAll_none (trk h H) hm
  rw [z] at e;cases e
end L2
namespace L2
open PySem PySem.Spec PyProof.Rows
structure Mod (K:PySem.W.Frag) (mg:Str→Option Value) (base:Heap):Prop where
 kin:K.In base
 glob:base.Ns mainGlobals mg
 blt:∃ mb,base.Ns builtinsNs mb∧∀ x:Str,x ≠ "__name__" → mb x=bootBuiltins x
 nolimit:base.NoLimit
structure Cx where
 prog:Program
 w:World
 K:PySem.W.Frag
 mg:Str→Option Value
 base:Heap
 A:Around
 N:List Str
 s₀:Shared
 H₀:Hp
 env:Env
 outer:List Env
 stack:List Env
 ex:List Addr
 fn:Str→Bool
 calm:Bool
 pn:List (Addr×Obj)
 xe:Value→Shared→Prop
noncomputable def frs (l:List Env):List Addr:=l.filterMap (·.frame)
noncomputable abbrev Cx.fs (X:Cx):List Addr:=frs X.outer
noncomputable def Vis (sc:Scope) (x:Str):Prop:=sc.names.lookup x=some .local∨sc.names.lookup x=some .cell∨sc.names.lookup x=some .free
noncomputable def Loc (sc:Scope) (x:Str):Prop:=sc.names.lookup x=some .local∨sc.names.lookup x=some .cell
noncomputable def Look (env:Env) (h:Heap) (m:Str→Option Value) (x:Str) (u:Value):Prop:=
 (env.kindOf x=some .local∧m x=some u)∨((env.kindOf x=some .cell∨env.kindOf x=some .free)∧∃ c,env.cells.lookup x=some c∧h.IsCell c (some u))
structure Cx.Ok (X:Cx):Prop where
 mod:Mod X.K X.mg X.base
 kind:X.env.scope.kind=.function
 glob:X.env.globals=mainGlobals
 blt:X.env.builtins=builtinsNs
 above:X.s₀.heap.objs.size≤X.env.locals
 inj:∀ x y c,X.env.cells.lookup x=some c→X.env.cells.lookup y=some c→x=y
 has:∀ x,(X.env.kindOf x=some .cell∨X.env.kindOf x=some .free)→∃ c,X.env.cells.lookup x=some c
 cab:∀ x c,X.fn x=true→X.env.cells.lookup x=some c→X.s₀.heap.objs.size≤c
 hd:X.calm=true→X.A.handled=none
 frames:X.A.frames=some X.stack
 stk:X.stack=X.outer∨(X.stack=X.env::X.outer∧X.env.frame=some X.env.locals)
 exf:∀ b∈X.ex,b≠X.env.locals∧∀ x c,X.env.cells.lookup x=some c→c≠b
 bs:∀ b o,X.base.get? b=some o→X.s₀.heap.get? b=some o∧X.H₀ b=none
 bsz:X.base.objs.size≤X.s₀.heap.objs.size
 noex:∀ b o,X.base.get? b=some o→b∉X.ex
 exfs:∀ b∈X.ex,b∉X.fs
 funs:X.s₀.heap.FunFrames X.base X.outer
 frf:∀ b∈X.fs,X.H₀ b=none
structure Inv (X:Cx) (pins:List (Addr×Obj)) (σ:List (Option V)) (H:Hp) (s:Shared):Prop where
 ok:X.Ok
 os:s.os=X.s₀.os
 bare:AllBare s.gens
 base:Un X.fs X.ex X.H₀ H X.s₀.heap s.heap
 loc:∃ m,s.heap.Ns X.env.locals m∧∀ (i:Nat) (x:Str) (v:V),X.N[i]?=some x→σ[i]?=some (some v)→Vis X.env.scope x→∃ u,RelV v u∧Look X.env s.heap m x u
 cell:∀ x c,X.env.cells.lookup x=some c→∃ v,s.heap.IsCell c v
 free:H X.env.locals=none
 freeC:∀ x c,X.env.cells.lookup x=some c→H c=none
 pin:∀ p∈X.pn++pins,s.heap.get? p.1=some p.2∧H p.1=none∧p.1≠X.env.locals∧p.1∉X.fs∧∀ v,p.2.data≠.cell v
 hok:HOk X.prog X.w H s.heap
 len:σ.length=X.N.length
section
variable {X:Cx}{pins:List (Addr×Obj)} {σ:List (Option V)}{H H':Hp} {s:Shared}{h':Heap}
theorem Cx.Ok.nofr (ok:X.Ok) {b:Addr}{o:Obj} (e:X.base.get? b=some o):b∉X.fs:=fun hb=>by
 have:=(ok.funs.mem hb).1
 rw [e] at this;cases this
theorem Inv.bs (I:Inv X pins σ H s):∀ b o,X.base.get? b=some o→s.heap.get? b=some o∧H b=none:=fun b o e=>
 ⟨I.base.keep b o (I.ok.bs b o e).1 (I.ok.bs b o e).2 (I.ok.nofr e) (I.ok.noex b o e),I.base.free b o (I.ok.bs b o e).1 (I.ok.bs b o e).2 (I.ok.noex b o e)⟩
theorem Inv.bk (I:Inv X pins σ H s):∀ b o,X.base.get? b=some o→s.heap.get? b=some o:=fun b o e=>(I.bs b o e).1
theorem Inv.mod (I:Inv X pins σ H s):Mod X.K X.mg X.base:=I.ok.mod
theorem Inv.kIn (I:Inv X pins σ H s):X.K.In s.heap:=I.ok.mod.kin.keeps I.bk
theorem Inv.lt (I:Inv X pins σ H s):X.env.locals < s.heap.objs.size:=let ⟨_,hn,_⟩:=I.loc;hn.lt
theorem Inv.sz (I:Inv X pins σ H s):X.s₀.heap.objs.size≤s.heap.objs.size:=Nat.le_trans I.ok.above (Nat.le_of_lt I.lt)
theorem Inv.nofs (I:Inv X pins σ H s) {a:Addr}(h:s.heap.objs.size≤a):a∉X.fs:=fun hb=>by
 obtain ⟨_,o,ho,_⟩:=I.ok.funs.mem hb
 exact absurd (Nat.lt_of_lt_of_le (Heap.lt_size ho) (Nat.le_trans I.sz h)) (Nat.lt_irrefl _)
theorem Inv.cne (I:Inv X pins σ H s):∀ x c,X.env.cells.lookup x=some c→c≠X.env.locals:=fun x c e z=>by
 obtain ⟨v,o,ho,hd⟩:=I.cell x c e
 obtain ⟨m,⟨o',es,ep,ho',hd',_⟩,_⟩:=I.loc
 rw [z,ho'] at ho;cases ho;rw [hd'] at hd;cases hd
theorem Inv.funs (I:Inv X pins σ H s):s.heap.FunFrames X.base X.outer:=by
 have all:∀ (l:List Env),(∀ b∈frs l,b∈X.fs)→X.s₀.heap.FunFrames X.base l→s.heap.FunFrames X.base l:=by
  intro l
  induction l with
  | nil=>intro _ _;trivial
  | cons env r ih=>
   intro hs hl
   obtain ⟨hk,⟨L,o,hf,hn,ho,hd⟩,hr⟩:=hl
   have hL:L∈X.fs:=hs L (by unfold frs;rw [List.filterMap_cons,hf];exact List.mem_cons_self)
   obtain ⟨sl,e⟩:=I.base.slot L o ho (I.ok.frf L hL) hL fun z=>I.ok.exfs L z hL
   exact ⟨hk,⟨L,_,hf,hn,e,hd⟩,ih (fun b hb=>hs b (by unfold frs;rw [List.filterMap_cons,hf];exact List.mem_cons_of_mem _ hb)) hr⟩
 exact all X.outer (fun _ hb=>hb) I.ok.funs
theorem Inv.stack (I:Inv X pins σ H s):s.heap.FunFrames X.base X.stack:=by
 rcases I.ok.stk with e | ⟨e,hf⟩
 ·rw [e];exact I.funs
 ·rw [e]
  obtain ⟨m,hn,_⟩:=I.loc
  refine .cons (by rw [I.ok.kind];decide) hf hn ?_ I.funs
  exact Heap.get?_none_of_le (Nat.le_trans I.ok.bsz I.ok.above)
theorem Inv.stkSub (I:Inv X pins σ H s):∀ b∈frs X.stack,b∈X.env.locals::X.fs:=fun b hb=>by
 rcases I.ok.stk with e | ⟨e,hf⟩
 ·rw [e] at hb;exact List.mem_cons_of_mem _ hb
 ·rw [e] at hb
  unfold frs at hb
  rw [List.filterMap_cons,hf] at hb
  exact hb
theorem Inv.stkFree (I:Inv X pins σ H s):∀ b∈frs X.stack,H b=none:=fun b hb=>by
 rcases List.mem_cons.mp (I.stkSub b hb) with e | hb
 ·rw [e];exact I.free
 ·obtain ⟨_,o,ho,_⟩:=I.ok.funs.mem hb
  exact I.base.free b o ho (I.ok.frf b hb) fun z=>I.ok.exfs b z hb
theorem Inv.step {g':Array GenState}{t':Nat} {d':Drawn}{ch:List Addr} (I:Inv X pins σ H s)
  (hch:∀ b∈ch,(b∈X.ex∨X.s₀.heap.objs.size≤b)∧b≠X.env.locals∧(∀ x c,X.env.cells.lookup x=some c→c≠b)∧∀ p∈X.pn++pins,p.1≠b)
  (keep:∀ b o,b≠X.env.locals→b∉X.fs→b∉ch→s.heap.get? b=some o→H b=none→h'.get? b=some o)
  (slot:∀ b o,b≠X.env.locals→b∈X.fs→b∉ch→s.heap.get? b=some o→H b=none→∃ sl,h'.get? b=some { o with slots:=sl }) (free:∀ b o,b∉ch→s.heap.get? b=some o→H b=none→H' b=none)
  (there:∀ b o,b∉ch→s.heap.get? b=some o→∃ o',h'.get? b=some o')
  (tups:∀ b xs,H b=some (.tup xs)→H' b=some (.tup xs)) (frzs:∀ b o u,H b=some (.frz o u)→H' b=some (.frz o u)) (tbls:∀ b ps,H b=some (.tbl ps)→∃ more,H' b=some (.tbl (ps++more)))
  (ns:∀ m,s.heap.Ns X.env.locals m→h'.Ns X.env.locals m) (hok:HOk X.prog X.w H' h') (hg:AllBare g') :
  Inv X pins σ H' { s with heap:=h',gens:=g',drawn:=d',toks:=t' }:=by
 have neL:∀ b o,X.s₀.heap.get? b=some o→b≠X.env.locals:=fun b o e=>Nat.ne_of_lt (Nat.lt_of_lt_of_le (Heap.lt_size e) I.ok.above)
 have neC:∀ b o,X.s₀.heap.get? b=some o→b∉X.ex→b∉ch:=fun b o e hx hb=>by
  rcases (hch b hb).1 with z | z
  ·exact hx z
  ·exact absurd (Nat.lt_of_lt_of_le (Heap.lt_size e) z) (Nat.lt_irrefl _)
 have cellK:∀ x c,X.env.cells.lookup x=some c→∀ v,s.heap.IsCell c v→h'.IsCell c v:=fun x c e v ⟨o,ho,hd⟩=>by
  have nch:c∉ch:=fun z=>(hch c z).2.2.1 x c e rfl
  by_cases hc:c∈X.fs
  ·obtain ⟨sl,q⟩:=slot c o (I.cne x c e) hc nch ho (I.freeC x c e)
   exact ⟨_,q,hd⟩
  ·exact ⟨o,keep c o (I.cne x c e) hc nch ho (I.freeC x c e),hd⟩
 refine ⟨I.ok,I.os,hg,⟨fun b o e n hb hx=>?_,fun b o e n hb hx=>?_,fun b o e n hx=>?_,fun b o e hx=>?_,fun b xs e=>tups b xs (I.base.tups b xs e),fun b o xs e=>frzs b o xs (I.base.frzs b o xs e),fun b ps e=>?_⟩,?_,fun x c e=>?_,?_,fun x c e=>?_,fun p hp=>?_,hok,I.len⟩
 ·exact keep b o (neL b o e) hb (neC b o e hx) (I.base.keep b o e n hb hx) (I.base.free b o e n hx)
 ·obtain ⟨sl,e1⟩:=I.base.slot b o e n hb hx
  obtain ⟨sl',e2⟩:=slot b _ (neL b o e) hb (neC b o e hx) e1 (I.base.free b o e n hx)
  exact ⟨sl',e2⟩
 ·obtain ⟨o',e1⟩:=I.base.there b o e hx
  exact free b o' (neC b o e hx) e1 (I.base.free b o e n hx)
 ·obtain ⟨o',e1⟩:=I.base.there b o e hx
  exact there b o' (neC b o e hx) e1
 ·obtain ⟨m1,e1⟩:=I.base.tbls b ps e
  obtain ⟨m2,e2⟩:=tbls b _ e1
  exact ⟨m1++m2,by rw [e2,Array.append_assoc]⟩
 ·obtain ⟨m,hn,hl⟩:=I.loc
  refine ⟨m,ns m hn,fun i x v e1 e2 e3=>?_⟩
  obtain ⟨u,r,l⟩:=hl i x v e1 e2 e3
  refine ⟨u,r,?_⟩
  rcases l with l | ⟨k,c,e,z⟩
  ·exact .inl l
  ·exact .inr ⟨k,c,e,cellK x c e _ z⟩
 ·obtain ⟨v,z⟩:=I.cell x c e
  exact ⟨v,cellK x c e v z⟩
 ·obtain ⟨m,⟨o,_,_,ho,_⟩,_⟩:=I.loc
  exact free _ o (fun z=>(hch _ z).2.1 rfl) ho I.free
 ·obtain ⟨v,o,ho,hd⟩:=I.cell x c e
  exact free c o (fun z=>(hch c z).2.2.1 x c e rfl) ho (I.freeC x c e)
 ·obtain ⟨e,n,ne,nf,d⟩:=I.pin p hp
  have nch:p.1∉ch:=fun z=>(hch p.1 z).2.2.2 p hp rfl
  exact ⟨keep p.1 p.2 ne nf nch e n,free p.1 p.2 nch e n,ne,nf,d⟩
theorem Inv.un {t':Nat}(I:Inv X pins σ H s) (u:Un X.fs [] H H' s.heap h') (hok:HOk X.prog X.w H' h'):Inv X pins σ H' { s with heap:=h',toks:=t' }:=by
 obtain ⟨m,⟨o,es,ep,ho,r⟩,_⟩:=id I.loc
 obtain ⟨sl,hL⟩:=u.any ho I.free (by simp)
 exact I.step (g':=s.gens) (d':=s.drawn) (ch:=[]) (fun _ z=>nomatch z) (fun b o _ hb _ e n=>u.keep b o e n hb (by simp)) (fun b o _ hb _ e n=>u.slot b o e n hb (by simp)) (fun b o _ e n=>u.free b o e n (by simp)) (fun b o _ e=>u.there b o e (by simp)) u.tups u.frzs u.tbls (fun m' hm=>by
  obtain ⟨o',es',ep',ho',r'⟩:=hm
  rw [ho] at ho';cases ho'
  exact ⟨_,es',ep',hL,r'⟩) hok I.bare
theorem Inv.call {g':Array GenState}{t':Nat} {d':Drawn}{ch:List Addr} (I:Inv X pins σ H s) (u:Un (frs X.stack) ch H H' s.heap h') (hok:HOk X.prog X.w H' h') (hg:AllBare g')
  (hch:∀ b∈ch,(b∈X.ex∨X.s₀.heap.objs.size≤b)∧b≠X.env.locals∧(∀ x c,X.env.cells.lookup x=some c→c≠b)∧∀ p∈X.pn++pins,p.1≠b) :
  Inv X pins σ H' { s with heap:=h',gens:=g',drawn:=d',toks:=t' }:=by
 obtain ⟨m,⟨o,es,ep,ho,r⟩,_⟩:=id I.loc
 obtain ⟨sl,hL⟩:=u.any ho I.free fun z=>(hch _ z).2.1 rfl
 exact I.step (ch:=ch) hch (fun b o hL hb hc e n=>u.keep b o e n (fun z=>(List.mem_cons.mp (I.stkSub b z)).elim hL hb) hc) (fun b o _ _ hc e n=>u.any e n hc) (fun b o hc e n=>u.free b o e n hc) (fun b o hc e=>u.there b o e hc) u.tups u.frzs u.tbls (fun m' hm=>by
  obtain ⟨o',es',ep',ho',r'⟩:=hm
  rw [ho] at ho';cases ho'
  exact ⟨_,es',ep',hL,r'⟩) hok hg
theorem Inv.turned {t':Nat}{it:Addr} (I:Inv X pins σ H s) (k:∀ b o,b≠it→s.heap.get? b=some o→h'.get? b=some o) (hn:H it=none) (hL:it≠X.env.locals)
  (h1:it∈X.ex∨X.s₀.heap.objs.size≤it) (h2:∀ x c,X.env.cells.lookup x=some c→c≠it) (h3:∀ p∈X.pn++pins,p.1≠it):Inv X pins σ H { s with heap:=h',toks:=t' }:=by
 have nit:∀ b u,H b=some u→b≠it:=fun b u e z=>by rw [z,hn] at e;cases e
 refine I.step (g':=s.gens) (d':=s.drawn) (ch:=[it]) (fun b hb=>?_) (fun b o _ _ hc e _=>k b o (fun z=>hc (by simp [z])) e) (fun b o _ _ hc e _=>⟨o.slots,k b o (fun z=>hc (by simp [z])) e⟩) (fun _ _ _ _ n=>n)
  (fun b o hc e=>⟨o,k b o (fun z=>hc (by simp [z])) e⟩) (fun _ _ e=>e) (fun _ _ _ e=>e) (fun b ps e=>⟨#[],by rw [e];simp⟩) (fun m hm=>?_) (fun b u e=>?_) I.bare
 ·have e:b=it:=by simpa using hb
  subst e
  exact ⟨h1,hL,h2,h3⟩
 ·obtain ⟨o,es,ep,ho,r⟩:=hm
  exact ⟨o,es,ep,k _ o (Ne.symm hL) ho,r⟩
 ·refine (I.hok b u e).stay (fun c v hc q=>k c v ?_ q) (fun _ q=>q) fun _ _ q=>q
  rcases hc with z | z
  ·rw [z];exact nit b u e
  ·exact nit c _ z
theorem Inv.tok (I:Inv X pins σ H s) (t:Nat):Inv X pins σ H { s with toks:=t }:=I.un (h':=s.heap) (t':=t) Un.refl I.hok
theorem Inv.kept {t':Nat}(I:Inv X pins σ H s) (k:∀ b u,s.heap.get? b=some u→h'.get? b=some u):Inv X pins σ H { s with heap:=h',toks:=t' }:=I.un (Un.kept k) (I.hok.kept k)
theorem Inv.laid {a:Addr}{o:HO} {t':Nat}(I:Inv X pins σ H s) (k:∀ b u,s.heap.get? b=some u→h'.get? b=some u) (hp:s.heap.objs.size≤a) (new:zaW X.prog X.w (upd H a o) h' a o) :
  Inv X pins σ (upd H a o) { s with heap:=h',toks:=t' }:=I.un (Un.laid k hp (I.hok.fresh hp)) (I.hok.laid k hp new)
theorem Inv.write {x e:Addr}{o:HO} {t':Nat}(I:Inv X pins σ H s) (mu:Mut (H x)) (he:e=x∨H e=some (.own x)) (k:∀ b u,b≠e→s.heap.get? b=some u→h'.get? b=some u) (heo:∃ u,h'.get? e=some u)
  (new:zaW X.prog X.w (upd H x o) h' x o):Inv X pins σ (upd H x o) { s with heap:=h',toks:=t' }:=I.un (Un.write mu he k heo) (I.hok.write mu he k heo new)
theorem Inv.pins_of {pins':List (Addr×Obj)}(I:Inv X pins σ H s) (h:∀ p∈pins',s.heap.get? p.1=some p.2∧H p.1=none∧p.1≠X.env.locals∧p.1∉X.fs∧∀ v,p.2.data≠.cell v):Inv X pins' σ H s:=
 ⟨I.ok,I.os,I.bare,I.base,I.loc,I.cell,I.free,I.freeC,fun p hp=>(List.mem_append.mp hp).elim (fun z=>I.pin p (List.mem_append_left _ z)) (h p),I.hok,I.len⟩
theorem zgu {N:List Str}(hN:N.Nodup) {i j:Nat}{x:Str} (a:N[i]?=some x) (b:N[j]?=some x):i=j:=by
 obtain ⟨h1,e1⟩:=List.getElem?_eq_some_iff.mp a
 obtain ⟨h2,e2⟩:=List.getElem?_eq_some_iff.mp b
 exact (List.getElem_inj hN).mp (e1.trans e2.symm)
theorem zeW {M:Model}{A:Around} {E:Value→Shared→Prop}{i:Nat} {x:Str}{v:V} {u:Value}{Q:Unit→Shared→Prop} (I:Inv X pins σ H s) (hN:X.N.Nodup) (hi:X.N[i]?=some x) (hx:Loc X.env.scope x) (r:RelV v u)
  (h:∀ s',Inv X pins (σ.set i (some v)) H s'→(∃ a,Heap.SameBut a s.heap s'.heap∧(a=X.env.locals∨X.env.cells.lookup x=some a))→Q () s') (hf:X.fn x=true∨X.env.scope.names.lookup x=some .local:=by first | exact .inl rfl | exact .inr rfl | assumption):wpAny M A (storeName X.env x u) Q E s:=by
 obtain ⟨m,hn,hl⟩:=id I.loc
 have hcls:(X.env.scope.kind == .class || (X.env.scope.kind == .module && X.env.locals != X.env.globals))=false:=by rw [I.ok.kind];rfl
 have hiσ:i < σ.length:=by rw [I.len];exact (List.getElem?_eq_some_iff.mp hi).1
 have cne:=I.cne
 have tracked:∀ {a:Addr}{h':Heap},(∃ o,s.heap.get? a=some o∧H a=none)→Heap.SameBut a s.heap h'→HOk X.prog X.w H h':=fun {a h'} ha hs b ob e=>by
  obtain ⟨_,_,hfree⟩:=ha
  refine (I.hok b ob e).stay (fun c w' hc q=>(hs.2 c ?_).trans q) (fun _ q=>q) fun _ _ q=>q
  rintro rfl
  rcases hc with rfl | hc
  ·rw [hfree] at e;cases e
  ·rw [hfree] at hc;cases hc
 rcases hx with hk | hk
 ·refine wpAny_storeName_local hk hn (fun h' hn' hs=>?_) hcls
  obtain ⟨oL,_,_,hoL,_⟩:=id hn
  refine h _ ⟨I.ok,I.os,I.bare,⟨fun b o e n hb hx=>?_,fun b o e n hb hx=>?_,I.base.free,fun b o e hx=>?_,I.base.tups,I.base.frzs,I.base.tbls⟩,⟨_,hn',fun j y v' e1 e2 e3=>?_⟩,fun y c e=>?_,I.free,I.freeC,fun p hp=>?_,tracked ⟨oL,hoL,I.free⟩ hs,by simpa using I.len⟩ ⟨_,hs,.inl rfl⟩
  ·exact (hs.2 b (Nat.ne_of_lt (Nat.lt_of_lt_of_le (Heap.lt_size e) I.ok.above))).trans (I.base.keep b o e n hb hx)
  ·obtain ⟨sl,e1⟩:=I.base.slot b o e n hb hx
   exact ⟨sl,(hs.2 b (Nat.ne_of_lt (Nat.lt_of_lt_of_le (Heap.lt_size e) I.ok.above))).trans e1⟩
  ·obtain ⟨o',e1⟩:=I.base.there b o e hx
   exact ⟨o',(hs.2 b (Nat.ne_of_lt (Nat.lt_of_lt_of_le (Heap.lt_size e) I.ok.above))).trans e1⟩
  ·by_cases hj:j=i
   ·subst hj
    rw [hi] at e1;cases e1
    rw [List.getElem?_set_self hiσ] at e2
    cases e2
    exact ⟨u,r,.inl ⟨hk,by simp⟩⟩
   ·rw [List.getElem?_set_ne (Ne.symm hj)] at e2
    obtain ⟨u',r',q⟩:=hl j y v' e1 e2 e3
    refine ⟨u',r',?_⟩
    rcases q with ⟨k,e⟩ | ⟨k,c,e,z⟩
    ·refine .inl ⟨k,?_⟩
     have:y≠x:=fun e=>hj (zgu hN e1 (e ▸ hi))
     simp [this,e]
    ·exact .inr ⟨k,c,e,z.sameBut hs (cne y c e)⟩
  ·obtain ⟨w',z⟩:=I.cell y c e
   exact ⟨w',z.sameBut hs (cne y c e)⟩
  ·obtain ⟨e,n,ne,nf,d⟩:=I.pin p hp
   exact ⟨(hs.2 p.1 ne).trans e,n,ne,nf,d⟩
 ·have hfn:X.fn x=true:=by
   rcases hf with z | z
   ·exact z
   ·rw [z] at hk;cases hk
  obtain ⟨c,hc⟩:=I.ok.has x (.inl hk)
  obtain ⟨w',z⟩:=I.cell x c hc
  refine wpAny_storeName_cell I.ok.kind hk hc z (fun h' hc' hs=>?_)
  obtain ⟨oc,hoc,hocd⟩:=id z
  refine h { s with heap:=h' } ⟨I.ok,I.os,I.bare,⟨fun b o e n hb hx=>?_,fun b o e n hb hx=>?_,I.base.free,fun b o e hx=>?_,I.base.tups,I.base.frzs,I.base.tbls⟩,⟨m,hn.sameBut hs (Ne.symm (cne x c hc)),fun j y v' e1 e2 e3=>?_⟩,fun y c' e=>?_,I.free,I.freeC,fun p hp=>?_,tracked ⟨oc,hoc,I.freeC x c hc⟩ hs,by simpa using I.len⟩ ⟨c,hs,.inr hc⟩
  ·exact (hs.2 b (Nat.ne_of_lt (Nat.lt_of_lt_of_le (Heap.lt_size e) (I.ok.cab x c hfn hc)))).trans (I.base.keep b o e n hb hx)
  ·obtain ⟨sl,e1⟩:=I.base.slot b o e n hb hx
   exact ⟨sl,(hs.2 b (Nat.ne_of_lt (Nat.lt_of_lt_of_le (Heap.lt_size e) (I.ok.cab x c hfn hc)))).trans e1⟩
  ·obtain ⟨o',e1⟩:=I.base.there b o e hx
   exact ⟨o',(hs.2 b (Nat.ne_of_lt (Nat.lt_of_lt_of_le (Heap.lt_size e) (I.ok.cab x c hfn hc)))).trans e1⟩
  ·by_cases hj:j=i
   ·subst hj
    rw [hi] at e1;cases e1
    rw [List.getElem?_set_self hiσ] at e2
    cases e2
    exact ⟨u,r,.inr ⟨.inl hk,c,hc,hc'⟩⟩
   ·rw [List.getElem?_set_ne (Ne.symm hj)] at e2
    obtain ⟨u',r',q⟩:=hl j y v' e1 e2 e3
    refine ⟨u',r',?_⟩
    rcases q with q | ⟨k,c',e,z'⟩
    ·exact .inl q
    ·refine .inr ⟨k,c',e,z'.sameBut hs ?_⟩
     rintro rfl
     exact hj (zgu hN e1 (I.ok.inj _ _ _ e hc ▸ hi))
  ·by_cases hcc:c'=c
   ·subst hcc;exact ⟨_,hc'⟩
   ·obtain ⟨w2,z2⟩:=I.cell y c' e
    exact ⟨w2,z2.sameBut hs hcc⟩
  ·obtain ⟨e,n,ne,nf,d⟩:=I.pin p hp
   refine ⟨(hs.2 p.1 ?_).trans e,n,ne,nf,d⟩
   intro q
   rw [q,hoc] at e
   have q':oc=p.2:=Option.some.inj e
   exact d w' (by rw [← q'];exact hocd)
theorem zgk {M:Model}{A:Around} {E:Value→Shared→Prop}{i:Nat} {x:Str}{v:V} {u:Value}{Q:Unit→Shared→Prop} (I:Inv X pins σ H s) (hN:X.N.Nodup) (hi:X.N[i]?=some x) (hx:Loc X.env.scope x) (r:RelV v u)
  (h:∀ s',Inv X pins (σ.set i (some v)) H s'→Q () s') (hf:X.fn x=true∨X.env.scope.names.lookup x=some .local:=by first | exact .inl rfl | exact .inr rfl | assumption):wpAny M A (storeName X.env x u) Q E s:=
 zeW I hN hi hx r (fun s' I' _=>h s' I') hf
theorem Inv.call' {s':Shared}{ch:List Addr} (I:Inv X pins σ H s) (ho:s'.os=s.os) (u:Un (frs X.stack) ch H H' s.heap s'.heap) (hok:HOk X.prog X.w H' s'.heap) (hg:AllBare s'.gens)
  (hch:∀ b∈ch,(b∈X.ex∨X.s₀.heap.objs.size≤b)∧b≠X.env.locals∧(∀ x c,X.env.cells.lookup x=some c→c≠b)∧∀ p∈X.pn++pins,p.1≠b):Inv X pins σ H' s':=by
 obtain ⟨h',g',d',t',o'⟩:=s'
 have e:o'=s.os:=ho
 subst e
 exact I.call (g':=g') (t':=t') (d':=d') u hok hg hch
end
noncomputable abbrev XK:=Value→Option Addr→Hp→Prop
noncomputable abbrev St:=List (Option V)
noncomputable abbrev VK:=V→Hp→Prop
noncomputable abbrev TE:=St→Hp→VK→Prop
noncomputable abbrev TT:=St→Hp→(Bool→Hp→Prop)→Prop
noncomputable abbrev TA:=St→Hp→(List V→Hp→Prop)→Prop
structure Ends where
 nx:St→Hp→Prop
 rt:VK
 bk:St→Hp→Prop:=fun _ _=>False
 ct:St→Hp→Prop:=fun _ _=>False
noncomputable abbrev TS:=Ends→St→Hp→Prop
noncomputable def EP (X:Cx) (pins:List (Addr×Obj)) (σ:St) (Q:VK) (u:Value) (s':Shared):Prop:=∃ v H',Inv X pins σ H' s'∧RelV v u∧Q v H'
noncomputable def TP (X:Cx) (pins:List (Addr×Obj)) (σ:St) (Q:Bool→Hp→Prop) (b:Bool) (s':Shared):Prop:=∃ H',Inv X pins σ H' s'∧Q b H'
noncomputable def AP (X:Cx) (pins:List (Addr×Obj)) (σ:St) (Q:List V→Hp→Prop) (us:List Value) (s':Shared):Prop:=∃ vs H',Inv X pins σ H' s'∧Vals vs us∧Q vs H'
noncomputable def SP (X:Cx) (pins:List (Addr×Obj)) (D:Ends) (f:Flow) (s':Shared):Prop:=
 match f with
 | .next=>∃ σ' H',Inv X pins σ' H' s'∧D.nx σ' H'
 | .brk=>∃ σ' H',Inv X pins σ' H' s'∧D.bk σ' H'
 | .cont=>∃ σ' H',Inv X pins σ' H' s'∧D.ct σ' H'
 | .ret u=>∃ v σ' H',Inv X pins σ' H' s'∧RelV v u∧D.rt v H'
noncomputable def PE (X:Cx) (e:Expr) (t:TE):Prop:=
 ∀ (pins:List (Addr×Obj)) (s:Shared) (σ:St) (H:Hp) (Q:VK),Inv X pins σ H s→t σ H Q→wpAny (model X.prog X.w) X.A (eval e X.env) (EP X pins σ Q) X.xe s
noncomputable def PT (X:Cx) (e:Expr) (t:TT):Prop:=
 ∀ (pins:List (Addr×Obj)) (s:Shared) (σ:St) (H:Hp) (Q:Bool→Hp→Prop),Inv X pins σ H s→t σ H Q→wpAny (model X.prog X.w) X.A (isTrue e X.env (eval e X.env)) (TP X pins σ Q) X.xe s
noncomputable def PW (X:Cx) (e:Expr) (t:TT):Prop:=
 ∀ (whole:Sem Value) (pins:List (Addr×Obj)) (s:Shared) (σ:St) (H:Hp) (Q:Bool→Hp→Prop),Inv X pins σ H s→t σ H Q→wpAny (model X.prog X.w) X.A (isTrue e X.env whole) (TP X pins σ Q) X.xe s
theorem PW.pt {X:Cx}{e:Expr} {t:TT}(h:PW X e t):PT X e t:=h _
noncomputable def PA (X:Cx) (es:List Expr) (t:TA):Prop:=
 ∀ (pos:Pos) (pins:List (Addr×Obj)) (s:Shared) (σ:St) (H:Hp) (Q:List V→Hp→Prop),Inv X pins σ H s→t σ H Q→wpAny (model X.prog X.w) X.A (spliced (backTo pos (starEach es X.env))) (AP X pins σ Q) X.xe s
noncomputable def PS (X:Cx) (st:Stmt) (t:TS):Prop:=
 ∀ (pins:List (Addr×Obj)) (s:Shared) (σ:St) (H:Hp) (D:Ends),Inv X pins σ H s→t D σ H→wpAny (model X.prog X.w) X.A (exec st X.env) (SP X pins D) X.xe s
noncomputable def PSs (X:Cx) (st:List Stmt) (t:TS):Prop:=
 ∀ (pins:List (Addr×Obj)) (s:Shared) (σ:St) (H:Hp) (D:Ends),Inv X pins σ H s→t D σ H→wpAny (model X.prog X.w) X.A (execs st X.env) (SP X pins D) X.xe s
theorem thn {α:Type}{t:Sem α} {Q Q':α→Shared→Prop}{M:Model} {A:Around}{E:Value→Shared→Prop} {s:Shared}(h:wpAny M A t Q E s) (hQ:∀ a s,Q a s→Q' a s):wpAny M A t Q' E s:=wpAny_mono h hQ fun _ _ x=>x
end L2
namespace L2
open PySem PySem.Spec PyProof.Rows
section
variable {X:Cx}
noncomputable def tVar (i:Nat):TE:=fun σ H Q=>∃ v,σ[i]?=some (some v)∧Q v H
noncomputable def tC (v:V):TE:=fun _ H Q=>Q v H
theorem zdl {i:Nat}{x:Str} {pos:Pos}(hN:X.N[i]?=some x) (hv:Vis X.env.scope x) (hd:(x == ("__debug__" : Str))=false:=by decide) (hcd:(x == ("__classdict__" : Str))=false:=by decide):PE X (.Name x pos) (tVar i):=by
 intro pins s σ H Q I h
 obtain ⟨v,e,h⟩:=h
 obtain ⟨m,hn,hl⟩:=I.loc
 obtain ⟨u,r,l⟩:=hl i x v hN e hv
 have fin:EP X pins σ Q u s:=⟨v,H,I,r,h⟩
 rcases l with ⟨hk,hm⟩ | ⟨hk,c,hc,hcell⟩
 ·exact wpAny_Name (wpAny_loadName_local I.ok.kind hk hn hm fin) hd
 ·rcases hk with hk | hk
  ·exact wpAny_Name (wpAny_loadName_cell I.ok.kind hk hc hcell fin) hd
  ·exact wpAny_Name (wpAny_loadName_free I.ok.kind hk hc hcell fin hcd) hd
theorem zlj {i j pos}:PE X (.Constant (.int i) j pos) (tC (.int i)):=fun _ _ _ H _ I h=>wpAny_Constant_int ⟨.int i,H,I.tok _,⟨_,rfl⟩,h⟩
theorem zmt {b j pos}:PE X (.Constant (.bool b) j pos) (tC (.bl b)):=fun _ _ _ H _ I h=>Constant_bool ⟨.bl b,H,I,rfl,h⟩
theorem zlf {x j pos}:PE X (.Constant (.str x) j pos) (tC (.str x)):=fun _ _ _ H _ I h=>Calls.Constant_str ⟨.str x,H,I.tok _,⟨_,rfl⟩,h⟩
noncomputable def Gl (X:Cx) (x:Str):Prop:=X.env.kindOf x=some .globalImplicit
theorem zkn {E:Value→Shared→Prop}{pins:List (Addr×Obj)} {s:Shared}{σ:St} {H:Hp}{x:Str} {u:Value}{pos:Pos} {Q:Value→Shared→Prop}(I:Inv X pins σ H s) (hg:Gl X x) (hm:X.mg x=some u) (h:Q u s)
  (hd:(x == ("__debug__" : Str))=false:=by decide):wpAny (model X.prog X.w) X.A (eval (.Name x pos) X.env) Q E s:=
 Calls.Name_function_global I.ok.kind hg (Calls.loadGlobal_global (by rw [I.ok.glob];exact I.mod.glob.keeps I.bk) hm h) hd
theorem zdM {E:Value→Shared→Prop}{pins:List (Addr×Obj)} {s:Shared}{σ:St} {H:Hp}{x:Str} {u:Value}{pos:Pos} {Q:Value→Shared→Prop}(I:Inv X pins σ H s) (hg:Gl X x) (hm:X.mg x=none) (hv:bootBuiltins x=some u) (h:Q u s)
  (hn:x ≠ "__name__" := by decide) (hd:(x == ("__debug__" : Str))=false:=by decide):wpAny (model X.prog X.w) X.A (eval (.Name x pos) X.env) Q E s:=by
 obtain ⟨mb,h1,h2⟩:=I.mod.blt
 exact Calls.Name_function_global I.ok.kind hg (Calls.loadGlobal_builtin (by rw [I.ok.glob];exact I.mod.glob.keeps I.bk) hm (by rw [I.ok.blt];exact h1.keeps I.bk) ((h2 x hn).trans hv) h) hd
theorem zkd {x:Str}{v:V} {u:Value}{pos:Pos} (hg:Gl X x) (hm:X.mg x=none) (hv:bootBuiltins x=some u) (r:RelV v u) (hn:x ≠ "__name__" := by decide) (hd:(x == ("__debug__" : Str))=false:=by decide):PE X (.Name x pos) (tC v):=
 fun _ _ _ H _ I h=>zdM I hg hm hv ⟨v,H,I,r,h⟩ hn hd
variable {a b:Expr}{ta tb:TE} {pos:Pos}
noncomputable def tB (t:TE):TT:=fun σ H Q=>t σ H fun x H1=>∃ c,x=.bl c∧Q c H1
theorem zkX {e:Expr}{t:TE} (h:PE X e t) (he:∀ whole,isTrue e X.env whole=(do let v ← whole;standAt e.pos;holding [v] (truthy v)):=by intro _;rfl):PT X e (tB t):=by
 intro pins s σ H Q I hw
 refine isTrue_plain (thn (h pins s σ H _ I hw) fun v s1 ⟨x,H1,I1,r1,q1⟩=>?_) (he _)
 obtain ⟨d,rfl,q⟩:=q1
 cases r1
 exact wpAny_truthy_bool ⟨H1,I1,q⟩
variable {tA tB':TT}{rest:List Expr}
noncomputable def tAnd (t u:TT):TT:=fun σ H Q=>t σ H fun c H1=>if c=true then u σ H1 Q else Q false H1
noncomputable def tOr (t u:TT):TT:=fun σ H Q=>t σ H fun c H1=>if c=true then Q true H1 else u σ H1 Q
noncomputable def tNot (t:TT):TT:=fun σ H Q=>t σ H fun c H1=>Q (!c) H1
theorem zjQ (ha:PT X a tA):PW X (.BoolOp .And [a] pos) tA:=by
 intro wh pins s σ H Q I h
 refine isTrue_and (thn (ha pins s σ H Q I h) fun c s1 e=>?_)
 cases c with
 | true=>exact isTrue_and_nil e
 | false=>exact e
theorem zkV (ha:PT X a tA):PW X (.BoolOp .Or [a] pos) tA:=by
 intro wh pins s σ H Q I h
 refine isTrue_or (thn (ha pins s σ H Q I h) fun c s1 e=>?_)
 cases c with
 | false=>exact isTrue_or_nil e
 | true=>exact e
theorem zjv (ha:PT X a tA) (hb:PW X (.BoolOp .And (b::rest) pos) tB'):PW X (.BoolOp .And (a::b::rest) pos) (tAnd tA tB'):=by
 intro wh pins s σ H Q I h
 refine isTrue_and (thn (ha pins s σ H _ I h) fun c s1 ⟨H1,I1,q1⟩=>?_)
 cases c with
 | true=>exact hb wh pins s1 σ H1 Q I1 q1
 | false=>exact ⟨H1,I1,q1⟩
theorem zkW (ha:PT X a tA) (hb:PW X (.BoolOp .Or (b::rest) pos) tB'):PW X (.BoolOp .Or (a::b::rest) pos) (tOr tA tB'):=by
 intro wh pins s σ H Q I h
 refine isTrue_or (thn (ha pins s σ H _ I h) fun c s1 ⟨H1,I1,q1⟩=>?_)
 cases c with
 | true=>exact ⟨H1,I1,q1⟩
 | false=>exact hb wh pins s1 σ H1 Q I1 q1
theorem zkY (ha:PT X a tA):PT X (.UnaryOp .Not a pos) (tNot tA):=by
 intro pins s σ H Q I h
 exact isTrue_not (ha pins s σ H (fun c H1=>Q (!c) H1) I h)
noncomputable def zmg (ta tb:TE):TE:=fun σ H Q=>ta σ H fun x H1=>∃ c,x=.bl c∧if c=true then tb σ H1 Q else Q (.bl false) H1
theorem zlh {op} {t:TE}(h:PE X a t):PE X (.BoolOp op [a] pos) t:=fun pins s σ H Q I hw=>BoolOp_one (h pins s σ H Q I hw)
theorem zjz (ha:PE X a ta) (hb:PE X (.BoolOp .And (b::rest) pos) tb):PE X (.BoolOp .And (a::b::rest) pos) (zmg ta tb):=by
 intro pins s σ H Q I h
 refine BoolOp_and (thn (ha pins s σ H _ I h) fun v s1 ⟨x,H1,I1,r1,q1⟩=>?_)
 obtain ⟨c,rfl,q1⟩:=q1
 cases r1
 refine wpAny_truthy_bool ?_
 cases c with
 | true=>exact hb pins s1 σ H1 Q I1 q1
 | false=>exact ⟨.bl false,H1,I1,rfl,q1⟩
end
end L2
namespace L2
open PySem PySem.Spec PyProof.Rows
noncomputable def SqL (K:PySem.W.Frag) (H:Hp) (a:Addr) (xs:List V):Prop:=
 Rd H a (.lst xs)∨
  ∃ (o:Obj) (its:Array Value) (n:Nat),K.lookup a=some o∧o.cls=.type "list" ∧ o.dict=none∧o.data=.seq its n∧its.size≤sizeLine∧Vals xs its.toList
noncomputable def SqT (K:PySem.W.Frag) (H:Hp) (a:Addr) (xs:List V):Prop:=
 Rd H a (.tup xs)∨
  ∃ (o:Obj) (its:Array Value) (n:Nat),K.lookup a=some o∧o.cls=.type "tuple" ∧ o.data=.seq its n∧its.size≤sizeLine∧Vals xs its.toList
noncomputable def absV:Value→Option V
 | .none=>some .non
 | .bool b=>some (.bl b)
 | .int i _=>some (.int i)
 | .str x _=>some (.str x)
 | .bytes b _=>some (.byt b)
 | .float b _=>some (.flt b)
 | .ref a=>some (.ref a)
 | .type n=>some (.ty n)
 | _=>none
theorem RelV.abs {x:V}{u:Value} (r:RelV x u):absV u=some x:=by
 cases x with
 | non=>cases r;rfl
 | bl _=>cases r;rfl
 | int _=>obtain ⟨t,rfl⟩:=r;rfl
 | str _=>obtain ⟨t,rfl⟩:=r;rfl
 | byt _=>obtain ⟨t,rfl⟩:=r;rfl
 | flt _=>obtain ⟨t,rfl⟩:=r;rfl
 | ref _=>cases r;rfl
 | ty _=>cases r;rfl
theorem RelV.inj {x y:V}{u:Value} (r:RelV x u) (q:RelV y u):x=y:=Option.some.inj (r.abs.symm.trans q.abs)
theorem Vals.inj:∀ {xs ys:List V}{us:List Value},Vals xs us→Vals ys us→xs=ys
 | _,_,_,.nil,.nil=>rfl
 | _,_,_,.cons r t,.cons r' t'=>by rw [r.inj r',Vals.inj t t']
section
variable {X:Cx}{pins:List (Addr×Obj)} {σ:St}{H:Hp} {s:Shared}{a:Addr} {xs ys:List V}
theorem SqL.of {K:PySem.W.Frag}(h:H a=some (.lst xs)):SqL K H a xs:=.inl (.inl h)
theorem SqT.of {K:PySem.W.Frag}(h:H a=some (.tup xs)):SqT K H a xs:=.inl (.inl h)
theorem Inv.list (I:Inv X pins σ H s) (h:SqL X.K H a xs):∃ its:List Value,Vals xs its∧PlainL s.heap a its.toArray∧xs.length≤sizeLine:=by
 rcases h with h | ⟨o,its,n,hk,hc,hd,hs,hz,r⟩
 ·obtain ⟨z,its,n,r,e⟩:=h.ok I.hok
  exact ⟨its,r,⟨_,n,e,rfl,rfl,rfl⟩,z⟩
 ·refine ⟨its.toList,r,⟨o,n,I.kIn a o hk,hc,hd,by simpa using hs⟩,?_⟩
  have e:=r.length
  simp only [Array.length_toList] at e
  omega
theorem Inv.tuple (I:Inv X pins σ H s) (h:SqT X.K H a xs):∃ its:List Value,Vals xs its∧IsTup s.heap a its.toArray∧xs.length≤sizeLine:=by
 rcases h with h | ⟨o,its,n,hk,hc,hs,hz,r⟩
 ·obtain ⟨z,its,r,p⟩:=h.ok I.hok
  exact ⟨its,r,p,z⟩
 ·refine ⟨its.toList,r,⟨o,I.kIn a o hk,hc,n,by simpa using hs⟩,?_⟩
  have e:=r.length
  simp only [Array.length_toList] at e
  omega
theorem Inv.list_inj (I:Inv X pins σ H s) (h:SqL X.K H a xs) (h':SqL X.K H a ys):xs=ys:=by
 obtain ⟨its,r,⟨o,n,e,_,_,d⟩,_⟩:=I.list h
 obtain ⟨its',r',⟨o',n',e',_,_,d'⟩,_⟩:=I.list h'
 rw [e] at e';cases e'
 rw [d] at d'
 injection d' with d1 _
 have:its=its':=by simpa using congrArg Array.toList d1
 subst this
 exact r.inj r'
theorem Inv.tuple_inj (I:Inv X pins σ H s) (h:SqT X.K H a xs) (h':SqT X.K H a ys):xs=ys:=by
 obtain ⟨its,r,⟨o,e,_,n,d⟩,_⟩:=I.tuple h
 obtain ⟨its',r',⟨o',e',_,n',d'⟩,_⟩:=I.tuple h'
 rw [e] at e';cases e'
 rw [d] at d'
 injection d' with d1 _
 have:its=its':=by simpa using congrArg Array.toList d1
 subst this
 exact r.inj r'
end
noncomputable abbrev Cx.wish (X:Cx) (E:Value→Shared→Prop):Cx:={ X with xe:=E }
noncomputable abbrev Cx.nox (X:Cx):Cx:=X.wish fun _ _=>False
theorem Cx.Ok.wish {X:Cx}(ok:X.Ok) (E:Value→Shared→Prop):(X.wish E).Ok:=
 ⟨ok.mod,ok.kind,ok.glob,ok.blt,ok.above,ok.inj,ok.has,ok.cab,ok.hd,ok.frames,ok.stk,ok.exf,ok.bs,ok.bsz,ok.noex,ok.exfs,ok.funs,ok.frf⟩
theorem Cx.Ok.unwish {X:Cx}{E:Value→Shared→Prop} (ok:(X.wish E).Ok):X.Ok:=
 ⟨ok.mod,ok.kind,ok.glob,ok.blt,ok.above,ok.inj,ok.has,ok.cab,ok.hd,ok.frames,ok.stk,ok.exf,ok.bs,ok.bsz,ok.noex,ok.exfs,ok.funs,ok.frf⟩
section
variable {X:Cx}{pins:List (Addr×Obj)} {σ:St}{H:Hp} {s:Shared}{E:Value→Shared→Prop}
theorem Inv.wish (I:Inv X pins σ H s) (E:Value→Shared→Prop):Inv (X.wish E) pins σ H s:=⟨I.ok.wish E,I.os,I.bare,I.base,I.loc,I.cell,I.free,I.freeC,I.pin,I.hok,I.len⟩
theorem Inv.unwish (I:Inv (X.wish E) pins σ H s):Inv X pins σ H s:=⟨I.ok.unwish,I.os,I.bare,I.base,I.loc,I.cell,I.free,I.freeC,I.pin,I.hok,I.len⟩
theorem SP.unwish {D:Ends}{f:Flow} {s':Shared}(h:SP (X.wish E) pins D f s'):SP X pins D f s':=by
 cases f with
 | next=>obtain ⟨σ',H',I,q⟩:=h;exact ⟨σ',H',I.unwish,q⟩
 | brk=>obtain ⟨σ',H',I,q⟩:=h;exact ⟨σ',H',I.unwish,q⟩
 | cont=>obtain ⟨σ',H',I,q⟩:=h;exact ⟨σ',H',I.unwish,q⟩
 | ret u=>obtain ⟨v,σ',H',I,r,q⟩:=h;exact ⟨v,σ',H',I.unwish,r,q⟩
theorem PSs.nox {st:List Stmt}{t:TS} (h:PSs X.nox st t):PSs X st t:=fun pins s σ H D I hw=>
 wpAny_mono (h pins s σ H D (I.wish _) hw) (fun _ _ q=>q.unwish) fun _ _ z=>False.elim z
end
section
variable {X:Cx}{st:Stmt} {rest:List Stmt}{t u:TS} {e:Expr}{te:TE} {pos:Pos}
noncomputable def zme:TS:=fun D σ H=>D.nx σ H
noncomputable def tSeq (t u:TS):TS:=fun D σ H=>t { D with nx:=u D } σ H
theorem zjS:PSs X [] zme:=fun _ _ σ H _ I h=>wpAny_execs_nil ⟨σ,H,I,h⟩
theorem zgo (h1:PS X st t) (h2:PSs X rest u):PSs X (st::rest) (tSeq t u):=by
 intro pins s σ H D I h
 refine wpAny_execs_cons (thn (h1 pins s σ H { D with nx:=u D } I h) fun f s1 q=>?_)
 cases f with
 | next=>
  obtain ⟨σ',H',I',q⟩:=q
  exact h2 pins s1 σ' H' D I' q
 | ret v=>exact q
 | brk=>exact q
 | cont=>exact q
theorem zjR (h1:PS X st t):PSs X [st] t:=by
 intro pins s σ H D I h
 refine wpAny_execs_cons (thn (h1 pins s σ H D I h) fun f s1 q=>?_)
 cases f with
 | next=>exact wpAny_execs_nil q
 | ret v=>exact q
 | brk=>exact q
 | cont=>exact q
theorem Inv.quiet {pins:List (Addr×Obj)}{σ:St} {H:Hp}{s:Shared} (I:Inv X pins σ H s):interactive X.env=false:=by simp [interactive,I.ok.kind]
noncomputable def zmf (te:TE):TS:=fun D σ H=>te σ H fun _ H1=>D.nx σ H1
theorem zjT (he:PE X e te) (hs:swapsWith e none pos.line X.env=pure false:=by rfl):PS X (.Expr e pos) (zmf te):=by
 intro pins s σ H D I h
 exact wpAny_Expr_any (thn (he pins s σ H _ I h) fun v s1 ⟨x,H1,I1,r1,q1⟩=>⟨σ,H1,I1,q1⟩) I.quiet hs
noncomputable def tRet (te:TE):TS:=fun D σ H=>te σ H D.rt
theorem zgp (he:PE X e te):PS X (.Return (some e) pos) (tRet te):=by
 intro pins s σ H D I h
 exact wpAny_Return_some (thn (he pins s σ H _ I h) fun v s1 ⟨x,H1,I1,r1,q1⟩=>⟨x,σ,H1,I1,r1,q1⟩)
noncomputable def tIfS (c:TT) (t u:TS):TS:=fun D σ H=>c σ H fun b H1=>if b=true then t D σ H1 else u D σ H1
theorem zkZ {c:Expr}{a b:List Stmt} {tc:TT}(hc:PT X c tc) (ha:PSs X a t) (hb:PSs X b u):PS X (.If c a b pos) (tIfS tc t u):=by
 intro pins s σ H D I h
 refine wpAny_If (thn (hc pins s σ H _ I h) fun d s1 ⟨H1,I1,q1⟩=>?_)
 cases d with
 | true=>exact ha pins s1 σ H1 D I1 q1
 | false=>exact hb pins s1 σ H1 D I1 q1
noncomputable def zkK:TS:=fun _ _ _=>False
theorem zdB {sts:List Stmt}:PSs X sts zkK:=fun _ _ _ _ _ _ h=>h.elim
end
noncomputable abbrev TG:=V→St→Hp→(St→Hp→Prop)→Prop
noncomputable abbrev TGs:=List V→St→Hp→(St→Hp→Prop)→Prop
noncomputable def PG (X:Cx) (target:Expr) (t:TG):Prop:=
 ∀ (pins:List (Addr×Obj)) (s:Shared) (σ:St) (H:Hp) (v:V) (u:Value) (Q:St→Hp→Prop),Inv X pins σ H s→RelV v u→t v σ H Q→
  wpAny (model X.prog X.w) X.A (assign target X.env u) (fun _ s'=>∃ σ' H',Inv X pins σ' H' s'∧Q σ' H') X.xe s
noncomputable def PGs (X:Cx) (ts:List Expr) (t:TGs):Prop:=
 ∀ (pins:List (Addr×Obj)) (s:Shared) (σ:St) (H:Hp) (vs:List V) (us:List Value) (Q:St→Hp→Prop),Inv X pins σ H s→Vals vs us→t vs σ H Q→
  wpAny (model X.prog X.w) X.A (assignInOrder ((assignEach ts X.env).map (·.2)) us) (fun _ s'=>∃ σ' H',Inv X pins σ' H' s'∧Q σ' H') X.xe s
section
variable {X:Cx}{pos:Pos}
noncomputable def zjd (i:Nat):TG:=fun v σ H Q=>Q (σ.set i (some v)) H
theorem zka {i:Nat}{x:Str} (hN:X.N.Nodup) (hi:X.N[i]?=some x) (hx:Loc X.env.scope x) (hf:X.fn x=true∨X.env.scope.names.lookup x=some .local:=by first | exact .inl rfl | exact .inr rfl | assumption):PG X (.Name x pos) (zjd i):=by
 intro pins s σ H v u Q I r h
 exact wpAny_assign_Name (zgk I hN hi hx r (fun s' I'=>⟨_,H,I',h⟩) hf)
noncomputable def gNil:TGs:=fun vs σ H Q=>vs=[]∧Q σ H
noncomputable def zaM (t:TG) (u:TGs):TGs:=fun vs σ H Q=>∃ v r,vs=v::r∧t v σ H fun σ' H'=>u r σ' H' Q
theorem zjZ:PGs X [] gNil:=by
 intro pins s σ H vs us Q I r h
 obtain ⟨e,h⟩:=h
 subst e
 cases r
 exact assignInOrder_nil ⟨σ,H,I,h⟩
theorem ziG {e:Expr}{es:List Expr} {t:TG}{u:TGs} (h1:PG X e t) (h2:PGs X es u)
  (hs:(assignEach (e::es) X.env).map (·.2)=assign e X.env::(assignEach es X.env).map (·.2):=by rfl):PGs X (e::es) (zaM t u):=by
 intro pins s σ H vs us Q I r h
 obtain ⟨v,vr,e1,h⟩:=h
 subst e1
 cases r with
 | cons r rr=>
  rw [hs]
  refine assignInOrder_cons (thn (h1 pins s σ H _ _ _ I r h) fun _ s1 ⟨σ1,H1,I1,q1⟩=>?_)
  exact h2 pins s1 σ1 H1 _ _ Q I1 rr q1
noncomputable def gTup (K:PySem.W.Frag) (n:Nat) (t:TGs):TG:=fun v σ H Q=>∃ a xs,v=.ref a∧SqT K H a xs∧xs.length=n∧t xs σ H Q
theorem zld {es:List Expr}{k:Nat} {t:TGs}{n:Nat} (hc:X.calm=true) (h:PGs X es t)
  (hn:(assignEach es X.env).length=n:=by rfl) (hst:(assignEach es X.env).findIdx? (·.1)=none:=by rfl):PG X (.Tuple es k pos) (gTup X.K n t):=by
 intro pins s σ H v u Q I r hw
 obtain ⟨a,xs,e1,hq,hl,hw⟩:=hw
 subst e1
 cases r
 obtain ⟨its,rv,ht,hz⟩:=I.tuple hq
 refine assign_Tuple_tuple (I.ok.hd hc) ht (by simp [hn,← hl,rv.length]) hst fun h' hx=>?_
 have I1:Inv X pins σ H { s with heap:=h' }:=I.kept (t':=s.toks) fun b o e=>hx b o (Nat.ne_of_lt (Heap.lt_size e)) e
 exact h pins _ σ H xs _ Q I1 (by simpa using rv) hw
noncomputable def tAsg (te:TE) (g:TG):TS:=fun D σ H=>te σ H fun x H1=>g x σ H1 D.nx
theorem zjx {tg e:Expr}{te:TE} {g:TG}(he:PE X e te) (hg:PG X tg g) (hs:swapsWithSole [tg] e pos.line X.env=pure false:=by rfl) (hw:swappedStores [tg] e X.env=pure none:=by rfl)
  (h1:(assignEach [tg] X.env).map (·.2)=[assign tg X.env]:=by rfl):PS X (.Assign [tg] e pos) (tAsg te g):=by
 intro pins s σ H D I h
 refine wpAny_Assign_stores (thn (he pins s σ H _ I h) fun v s1 ⟨x,H1,I1,r1,q1⟩=>?_) hs hw
 rw [h1]
 exact thn (hg pins s1 σ H1 x v _ I1 r1 q1) fun _ s2 q=>q
theorem zjw {i:Nat}{x:Str} {e:Expr}{te:TE} {pos':Pos}(hN:X.N.Nodup) (hi:X.N[i]?=some x) (hx:Loc X.env.scope x) (he:PE X e te) (hs:swapsWith e (some (.Name x pos')) pos.line X.env=pure false:=by rfl) (hf:X.fn x=true∨X.env.scope.names.lookup x=some .local:=by first | exact .inl rfl | exact .inr rfl | assumption) :
  PS X (.Assign [.Name x pos'] e pos) (tAsg te (zjd i)):=by
 intro pins s σ H D I h
 refine wpAny_Assign_Name (thn (he pins s σ H _ I h) fun v s1 ⟨y,H1,I1,r1,q1⟩=>?_) hs
 exact zgk I1 hN hi hx r1 (fun s2 I2=>⟨_,H1,I2,q1⟩) hf
end
section
variable {X:Cx}{pos:Pos}
noncomputable def zkJ (c:TT) (tb:TS):TS:=fun D σ H=>∃ W:Nat→St→Hp→Prop,(∃ m,W m σ H)∧∀ m σ H,W m σ H→
 c σ H fun b H1=>if b=true then ∃ N:St→Hp→Prop,(∀ σ' H',N σ' H'→∃ m',m' < m∧W m' σ' H')∧tb { D with nx:=N,ct:=N,bk:=D.nx } σ H1 else D.nx σ H1
theorem ziC {c:Expr}{body:List Stmt} {tc:TT}{tb:TS} (hp:PassesOwn (model X.prog X.w) X.A X.env X.xe) (hc:PT X c tc) (hb:PSs X body tb):PS X (.While c body [] pos) (zkJ tc tb):=by
 intro pins s σ H D I h
 obtain ⟨W,⟨m0,w0⟩,turn⟩:=h
 refine wpAny_While (codeAny_whileLoop (fun n s'=>∃ σ' H',Inv X pins σ' H' s'∧W n σ' H') ?_ m0 ⟨σ,H,I,w0⟩)
 rintro n s1 ⟨σ1,H1,I1,w1⟩
 refine wpAny_passesOwn hp (thn (hc pins s1 σ1 H1 _ I1 (turn n σ1 H1 w1)) fun b s2 ⟨H2,I2,q2⟩=>?_)
 cases b with
 | true=>
  obtain ⟨N,hN,q2⟩:=q2
  rw [if_pos rfl]
  refine wpAny_passesOwn hp (thn (hb pins s2 σ1 H2 _ I2 q2) fun f s3 q3=>?_)
  cases f with
  | next=>
   obtain ⟨σ3,H3,I3,n3⟩:=q3
   obtain ⟨m',hm,w3⟩:=hN σ3 H3 n3
   exact ⟨m',hm,σ3,H3,I3,w3⟩
  | cont=>
   obtain ⟨σ3,H3,I3,n3⟩:=q3
   obtain ⟨m',hm,w3⟩:=hN σ3 H3 n3
   exact ⟨m',hm,σ3,H3,I3,w3⟩
  | brk=>exact q3
  | ret v=>exact q3
 | false=>
  rw [if_neg Bool.false_ne_true]
  exact wpAny_execs_nil ⟨σ1,H2,I2,q2⟩
end
structure It where
 go:Nat→Hp→Prop
 yld:Nat→Hp→V→Hp→Prop
 stop:Nat→Hp→Prop
noncomputable def FpOk (X:Cx) (pins:List (Addr×Obj)) (H:Hp) (b:Addr):Prop:=
 H b=none∧b≠X.env.locals∧b∉X.fs∧(b∈X.ex∨X.s₀.heap.objs.size≤b)∧(∀ x c,X.env.cells.lookup x=some c→c≠b)∧∀ p∈X.pn++pins,p.1≠b
theorem Inv.fpOk {X:Cx}{pins:List (Addr×Obj)} {σ:St}{H H':Hp} {s:Shared}{b:Addr} (I:Inv X pins σ H s) (hb:s.heap.objs.size≤b) (hn:H' b=none):FpOk X pins H' b:=by
 refine ⟨hn,Nat.ne_of_gt (Nat.lt_of_lt_of_le I.lt hb),I.nofs hb,.inr (Nat.le_trans I.sz hb),fun x c e z=>?_,fun p hp z=>?_⟩
 ·obtain ⟨v,q⟩:=I.cell x c e
  exact absurd (Nat.lt_of_lt_of_le q.lt (by rw [z];exact hb)) (Nat.lt_irrefl _)
 ·exact absurd (Nat.lt_of_lt_of_le (Heap.lt_size (I.pin p hp).1) (by rw [z];exact hb)) (Nat.lt_irrefl _)
structure Turn (P:Program) (w:World) (K:PySem.W.Frag) (tg:Expr) (J:It) (fp:List Addr) (it:Addr) (tn:Nat→Heap→Prop):Prop where
 mem:it∈fp
 obj:∀ i h,tn i h→∀ b∈fp,∃ o,h.get? b=some o∧∀ v,o.data≠.cell v
 keep:∀ i h h',tn i h→(∀ b∈fp,∀ o,h.get? b=some o→h'.get? b=some o)→tn i h'
 item:∀ (X:Cx),X.prog=P→X.w=w→X.K=K→X.calm=true→∀ (i:Nat) (pins:List (Addr×Obj)) (s:Shared) (σ:St) (H:Hp) (E:Value→Shared→Prop),Inv X pins σ H s→(∀ b∈fp,FpOk X pins H b)→tn i s.heap→J.go i H→
  wpAny (model P w) X.A (pyNext (.ref it)) (fun r s1=>∃ u,r=some u∧
   wpAny (model P w) X.A (letOwnedTupleGo tg (.ref it) u) (fun _ s2=>∃ x H',Inv X pins σ H' s2∧RelV x u∧J.yld i H x H'∧tn (i + 1) s2.heap∧∀ b∈fp,H' b=none) E s1) E s
 done:∀ (X:Cx),X.prog=P→X.w=w→X.K=K→X.calm=true→∀ (i:Nat) (pins:List (Addr×Obj)) (s:Shared) (σ:St) (H:Hp) (E:Value→Shared→Prop),Inv X pins σ H s→(∀ b∈fp,FpOk X pins H b)→tn i s.heap→J.stop i H→
  wpAny (model P w) X.A (pyNext (.ref it)) (fun r s1=>r=none∧Inv X pins σ H s1) E s
 self:∀ (A:Around) (i:Nat) (s:Shared) (Q:Value→Shared→Prop) (E:Value→Shared→Prop),tn i s.heap→Q (.ref it) s→wpAny (model P w) A (pyIter (.ref it)) Q E s
noncomputable abbrev TI:=St→Hp→(It→Hp→Prop)→Prop
noncomputable def PIE (X:Cx) (pins:List (Addr×Obj)) (σ:St) (tg:Expr) (R:It→Hp→Prop) (itv:Value) (s2:Shared):Prop:=
 ∃ (it:Addr) (fp:List Addr) (tn:Nat→Heap→Prop) (J:It) (H':Hp),itv=.ref it∧Inv X pins σ H' s2∧Turn X.prog X.w X.K tg J fp it tn∧tn 0 s2.heap∧(∀ b∈fp,FpOk X pins H' b)∧R J H'
noncomputable def PI (X:Cx) (tg iter:Expr) (wi:TI):Prop:=
 ∀ (pins:List (Addr×Obj)) (s:Shared) (σ:St) (H:Hp) (R:It→Hp→Prop),Inv X pins σ H s→wi σ H R→
  wpAny (model X.prog X.w) X.A (eval iter X.env) (fun v s1=>wpAny (model X.prog X.w) X.A (pyIter v) (PIE X pins σ tg R) X.xe s1) X.xe s
theorem zku {M:Model}{A:Around} {E:Value→Shared→Prop}{s:Shared} {tg:Expr}{it:Addr} {u:Value}{o:Obj} {n:String}{vs:Array Value} {Q:Unit→Shared→Prop}(ho:s.heap.get? it=some o) (hc:o.cls=.type n) (hd:o.data=.fields vs)
  (hn:["enumerate", "zip", "dict_itemiterator", "dict_reverseitemiterator", "odict_iterator", "itertools.zip_longest", "itertools.pairwise"].contains n=false) (hQ:Q () s):wpAny M A (letOwnedTupleGo tg (.ref it) u) Q E s:=by
 unfold letOwnedTupleGo
 cases tg<;>first
  | exact wpAny_pure hQ
  | (cases u<;>first
    | exact wpAny_pure hQ
    | (refine wpAny_bind (wpAny_load ho ?_)
       rw [hc,hd]
       show wpAny M A (if (["enumerate", "zip", "dict_itemiterator", "dict_reverseitemiterator", "odict_iterator", "itertools.zip_longest", "itertools.pairwise"].contains n && vs[0]? == some (rawInt _))=true then _ else _) Q E s
       rw [if_neg (by intro h;rw [hn,Bool.false_and] at h;cases h)]
       exact wpAny_pure hQ))
noncomputable def Itl (K:PySem.W.Frag) (a:Addr):It:=
 ⟨fun i H=>∃ xs x,SqL K H a xs∧xs[i]?=some x,fun i H x H'=>H'=H∧∀ xs,SqL K H a xs→xs[i]?=some x,fun i H=>∃ xs,SqL K H a xs∧xs.length≤i⟩
noncomputable def Itt (K:PySem.W.Frag) (a:Addr):It:=
 ⟨fun i H=>∃ xs x,SqT K H a xs∧xs[i]?=some x,fun i H x H'=>H'=H∧∀ xs,SqT K H a xs→xs[i]?=some x,fun i H=>∃ xs,SqT K H a xs∧xs.length≤i⟩
noncomputable def Itr (lo:Int) (n:Nat):It:=⟨fun i _=>i < n,fun i H x H'=>H'=H∧x=.int (lo + i),fun i _=>n≤i⟩
theorem zhk {P:Program}{w:World} {K:PySem.W.Frag}{tg:Expr} (a it:Addr):Turn P w K tg (Itl K a) [it] it (fun i h=>h.IsListIter it a i) where
 mem:=by simp
 obj:=fun i h st b hb=>by
  have e:b=it:=by simpa using hb
  subst e
  obtain ⟨o,e,c,d⟩:=st
  exact ⟨o,e,fun v z=>by rw [d] at z;cases z⟩
 keep:=fun i h h' st k=>st.at fun o e=>k it (by simp) o e
 item:=by
  intro X hP hw hK hc i pins s σ H E I hf st hg
  subst hP hw hK
  obtain ⟨xs,x,hq,hx⟩:=hg
  obtain ⟨its,rv,p,hz⟩:=I.list hq
  obtain ⟨u,hu,ru⟩:=rv.get hx
  obtain ⟨f0,f1,f2,f3,f4,f5⟩:=hf it (by simp)
  refine wpAny_pyNext_list_item st p.isList (x:=u) (by simpa using hu) fun h' st' sb=>?_
  have I1:Inv X pins σ H { s with heap:=h' }:=I.turned (t':=s.toks) (fun b o hb e=>(sb.2 b hb).trans e) f0 f1 f3 f4 f5
  obtain ⟨o,e,c,d⟩:=id st'
  exact ⟨u,rfl,zku (s:={ s with heap:=h' }) e c d (by decide) ⟨x,H,I1,ru,⟨rfl,fun ys hy=>by rw [I.list_inj hy hq];exact hx⟩,st',fun b hb=>(hf b hb).1⟩⟩
 done:=by
  intro X hP hw hK hc i pins s σ H E I hf st hg
  subst hP hw hK
  obtain ⟨xs,hq,hx⟩:=hg
  obtain ⟨its,rv,p,hz⟩:=I.list hq
  obtain ⟨f0,f1,f2,f3,f4,f5⟩:=hf it (by simp)
  have hl:=rv.length
  exact wpAny_pyNext_list_end (I.ok.hd hc) st p.isList (by simp;omega) fun h' eb=>⟨rfl,I.turned (t':=s.toks) (fun b o hb e=>eb b o hb e) f0 f1 f3 f4 f5⟩
 self:=fun _ _ _ _ _ st h=>wpAny_pyIter_listiter st h
theorem zgI {P:Program}{w:World} {K:PySem.W.Frag}{tg:Expr} (a it:Addr):Turn P w K tg (Itt K a) [it] it (fun i h=>h.IsTupleIter it a i) where
 mem:=by simp
 obj:=fun i h st b hb=>by
  have e:b=it:=by simpa using hb
  subst e
  obtain ⟨o,e,c,d⟩:=st
  exact ⟨o,e,fun v z=>by rw [d] at z;cases z⟩
 keep:=fun i h h' st k=>st.at fun o e=>k it (by simp) o e
 item:=by
  intro X hP hw hK hc i pins s σ H E I hf st hg
  subst hP hw hK
  obtain ⟨xs,x,hq,hx⟩:=hg
  obtain ⟨its,rv,p,hz⟩:=I.tuple hq
  obtain ⟨u,hu,ru⟩:=rv.get hx
  obtain ⟨f0,f1,f2,f3,f4,f5⟩:=hf it (by simp)
  refine wpAny_pyNext_tuple_item st (show s.heap.IsTuple a its.toArray from p) (x:=u) (by simpa using hu) fun h' st' sb=>?_
  have I1:Inv X pins σ H { s with heap:=h' }:=I.turned (t':=s.toks) (fun b o hb e=>(sb.2 b hb).trans e) f0 f1 f3 f4 f5
  obtain ⟨o,e,c,d⟩:=id st'
  exact ⟨u,rfl,zku (s:={ s with heap:=h' }) e c d (by decide) ⟨x,H,I1,ru,⟨rfl,fun ys hy=>by rw [I.tuple_inj hy hq];exact hx⟩,st',fun b hb=>(hf b hb).1⟩⟩
 done:=by
  intro X hP hw hK hc i pins s σ H E I hf st hg
  subst hP hw hK
  obtain ⟨xs,hq,hx⟩:=hg
  obtain ⟨its,rv,p,hz⟩:=I.tuple hq
  obtain ⟨f0,f1,f2,f3,f4,f5⟩:=hf it (by simp)
  have hl:=rv.length
  exact wpAny_pyNext_tuple_end (I.ok.hd hc) st (show s.heap.IsTuple a its.toArray from p) (by simp;omega) fun h' eb=>⟨rfl,I.turned (t':=s.toks) (fun b o hb e=>eb b o hb e) f0 f1 f3 f4 f5⟩
 self:=fun _ _ _ _ _ st h=>wpAny_pyIter_tupleiter st h
theorem zgJ {P:Program}{w:World} {K:PySem.W.Frag}{tg:Expr} (it:Addr) (lo:Int) (n:Nat):Turn P w K tg (Itr lo n) [it] it (fun i h=>IsRangeIter h it (lo + (i:Nat) * 1) ((n:Int) - (i:Nat)) 1) where
 mem:=by simp
 obj:=fun i h st b hb=>by
  have e:b=it:=by simpa using hb
  subst e
  exact ⟨_,st,fun v z=>by
   have z':Data.fields _=Data.cell v:=z
   cases z'⟩
 keep:=fun i h h' st k=>k it (by simp) _ st
 item:=by
  intro X hP hw hK hc i pins s σ H E I hf st hg
  subst hP hw hK
  obtain ⟨f0,f1,f2,f3,f4,f5⟩:=hf it (by simp)
  have W:=Walks.range (prog:=X.prog) (w:=X.w) (I.ok.hd hc) it lo 1 n
  refine W.item i s _ _ hg st fun v h' tk hv st' kk=>?_
  obtain ⟨t,rfl⟩:=hv
  have I1:Inv X pins σ H { s with heap:=h',toks:=tk }:=I.turned (fun b o hb e=>kk b o (by simpa using hb) e) f0 f1 f3 f4 f5
  refine ⟨_,rfl,zku (s:={ s with heap:=h',toks:=tk }) (n := "range_iterator") st' rfl rfl (by decide) ⟨.int (lo + i),H,I1,⟨t,?_⟩,⟨rfl,rfl⟩,st',fun b hb=>(hf b hb).1⟩⟩
  rw [Int.mul_one]
 done:=by
  intro X hP hw hK hc i pins s σ H E I hf st hg
  subst hP hw hK
  obtain ⟨f0,f1,f2,f3,f4,f5⟩:=hf it (by simp)
  exact wpAny_pyNext_range_end (I.ok.hd hc) st (by have:n≤i:=hg;omega) fun h' eb=>⟨rfl,I.turned (t':=s.toks) (fun b o hb e=>eb b o hb e) f0 f1 f3 f4 f5⟩
 self:=fun _ _ _ _ _ st h=>wpAny_pyIter_rangeiter st h
end L2
namespace L2
open PySem PySem.Spec PyProof.Rows
section
variable {X:Cx}{tg:Expr}
noncomputable def zmC (K:PySem.W.Frag) (tl:TE):TI:=fun σ H R=>tl σ H fun x H1=>∃ a,x=.ref a∧(∃ xs,SqL K H1 a xs)∧R (Itl K a) H1
noncomputable def iTup (K:PySem.W.Frag) (tl:TE):TI:=fun σ H R=>tl σ H fun x H1=>∃ a,x=.ref a∧(∃ xs,SqT K H1 a xs)∧R (Itt K a) H1
theorem zhy {l:Expr}{tl:TE} (hl:PE X l tl):PI X tg l (zmC X.K tl):=by
 intro pins s σ H R I h
 refine thn (hl pins s σ H _ I h) fun v s1 h_=>?_
 obtain ⟨x,H1,I1,r1,q1⟩:=h_
 obtain ⟨a,e,⟨xs,hq⟩,q⟩:=q1
 subst e
 cases r1
 obtain ⟨its,rv,p,hz⟩:=I1.list hq
 refine wpAny_pyIter_list p.isList ?_
 refine ⟨s1.heap.objs.size,[s1.heap.objs.size],_,_,H1,rfl,I1.kept (t':=s1.toks) fun b o e=>Heap.get?_push_of_some _ e,zhk a _,⟨_,Heap.get?_push_size _ rfl,rfl,rfl⟩,fun b hb=>?_,q⟩
 have e:b=s1.heap.objs.size:=by simpa using hb
 subst e
 exact I1.fpOk (Nat.le_refl _) (I1.hok.fresh (Nat.le_refl _))
theorem zlc {l:Expr}{tl:TE} (hl:PE X l tl):PI X tg l (iTup X.K tl):=by
 intro pins s σ H R I h
 refine thn (hl pins s σ H _ I h) fun v s1 h_=>?_
 obtain ⟨x,H1,I1,r1,q1⟩:=h_
 obtain ⟨a,e,⟨xs,hq⟩,q⟩:=q1
 subst e
 cases r1
 obtain ⟨its,rv,p,hz⟩:=I1.tuple hq
 refine wpAny_pyIter_tuple (show s1.heap.IsTuple a its.toArray from p) ?_
 refine ⟨s1.heap.objs.size,[s1.heap.objs.size],_,_,H1,rfl,I1.kept (t':=s1.toks) fun b o e=>Heap.get?_push_of_some _ e,zgI a _,⟨_,Heap.get?_push_size _ rfl,rfl,rfl⟩,fun b hb=>?_,q⟩
 have e:b=s1.heap.objs.size:=by simpa using hb
 subst e
 exact I1.fpOk (Nat.le_refl _) (I1.hok.fresh (Nat.le_refl _))
theorem ziA {pins:List (Addr×Obj)}{σ:St} {H:Hp}{s:Shared} {R:It→Hp→Prop}{E:Value→Shared→Prop} {lo hi:Int}{t u v:Tok} {tk:Nat}(I:Inv X pins σ H s) (h1:-(2 ^ 62)≤lo) (h2:lo < 2 ^ 62) (h3:-(2 ^ 62)≤hi) (h4:hi < 2 ^ 62)
  (q:R (Itr lo (hi - lo).toNat) H):wpAny (model X.prog X.w) X.A (pyIter (.ref s.heap.objs.size)) (PIE X pins σ tg R) E { s with heap:=s.heap.push { cls:=.type "range",data:=.fields #[.int lo t,.int hi u,.int 1 v] },toks:=tk }:=by
 refine wpAny_pyIter_range (IsRange.new ..) (small_one h1 h2 h3 h4) ?_
 have I1:Inv X pins σ H { s with heap:=s.heap.push { cls:=.type "range",data:=.fields #[.int lo t,.int hi u,.int 1 v] },toks:=tk }:=I.kept fun b o e=>Heap.get?_push_of_some _ e
 refine ⟨(s.heap.push { cls:=.type "range",data:=.fields #[.int lo t,.int hi u,.int 1 v] }).objs.size,[(s.heap.push { cls:=.type "range",data:=.fields #[.int lo t,.int hi u,.int 1 v] }).objs.size],_,_,H,rfl,
  I1.kept (t':=tk) fun b o e=>Heap.get?_push_of_some _ e,zgJ _ lo (hi - lo).toNat,?_,fun b hb=>?_,q⟩
 ·have e1:lo + ((0:Nat):Int) * 1=lo:=by simp
  have e2:(((hi - lo).toNat:Nat):Int) - ((0:Nat):Int)=Builtin.Range.rangeSize lo hi 1:=by rw [rangeSize_one];split<;>omega
  show IsRangeIter _ _ (lo + ((0:Nat):Int) * 1) ((((hi - lo).toNat:Nat):Int) - ((0:Nat):Int)) 1
  rw [e1,e2]
  exact Heap.get?_push_size _ rfl
 ·have e:b=(s.heap.push { cls:=.type "range",data:=.fields #[.int lo t,.int hi u,.int 1 v] }).objs.size:=by simpa using hb
  subst e
  exact I1.fpOk (Nat.le_refl _) (I1.hok.fresh (Nat.le_refl _))
noncomputable def zmB (ta:TA):TI:=fun σ H R=>ta σ H fun vs H1=>∃ j:Int,vs=[.int j]∧-(2 ^ 62)≤j∧j < 2 ^ 62∧R (Itr 0 j.toNat) H1
theorem zhx {a:Expr}{ta:TA} {p pos:Pos}(hg:Gl X "range") (hm:X.mg "range" = none) (ha:PA X [a] ta) (hs:starEach [a] X.env=[(false,eval a X.env)]:=by rfl):PI X tg (.Call (.Name "range" p) [a] [] pos) (zmB ta):=by
 intro pins s σ H R I h
 refine Call_ (zdM I hg hm boot_range (PyProof.Rows.callWith_type1 (thn (ha pos pins s σ H _ I h) fun us s1 ⟨vs,H1,I1,r1,q1⟩=>?_) hs rfl))
 obtain ⟨j,e,q1,q2,q⟩:=q1
 subst e
 cases r1 with
 | cons r rr=>
  cases rr
  obtain ⟨t,rfl⟩:=r
  exact call_range_1 (ziA I1 (by omega) (by omega) q1 q2 (by simpa using q))
noncomputable def tFor (wi:TI) (g:TG) (tb:TS):TS:=fun D σ H=>wi σ H fun J H1=>∃ W:Nat→Nat→St→Hp→Prop,(∃ m,W 0 m σ H1)∧∀ i m σ H,W i m σ H→
 (J.stop i H∧D.nx σ H)∨(J.go i H∧∃ N:St→Hp→Prop,(∀ σ' H',N σ' H'→∃ m',m' < m∧W (i + 1) m' σ' H')∧∀ x H',J.yld i H x H'→g x σ H' fun σ2 H2=>tb { D with nx:=N,ct:=N,bk:=D.nx } σ2 H2)
noncomputable def zfg (fp:List Addr) (h:Heap):List (Addr×Obj):=fp.filterMap fun b=>(h.get? b).map fun o=>(b,o)
theorem zcl {fp:List Addr}{h:Heap} {b:Addr}{o:Obj} (hb:b∈fp) (e:h.get? b=some o):(b,o)∈zfg fp h:=List.mem_filterMap.mpr ⟨b,hb,by rw [e];rfl⟩
theorem zhH {fp:List Addr}{h:Heap} {p:Addr×Obj}(hp:p∈zfg fp h):p.1∈fp∧h.get? p.1=some p.2:=by
 obtain ⟨b,hb,e⟩:=List.mem_filterMap.mp hp
 cases q:h.get? b with
 | none=>rw [q] at e;cases e
 | some o=>
  rw [q] at e
  have e':(b,o)=p:=Option.some.inj e
  subst e'
  exact ⟨hb,q⟩
theorem Inv.pinned {pins:List (Addr×Obj)}{σ:St} {H:Hp}{s:Shared} {fp:List Addr}(I:Inv X pins σ H s) (hf:∀ b∈fp,FpOk X pins H b) (ho:∀ b∈fp,∃ o,s.heap.get? b=some o∧∀ v,o.data≠.cell v):Inv X (pins++zfg fp s.heap) σ H s:=
 I.pins_of fun p hp=>(List.mem_append.mp hp).elim (fun z=>I.pin p (List.mem_append_right _ z)) fun z=>by
  obtain ⟨hb,e⟩:=zhH z
  obtain ⟨f0,f1,f2,_⟩:=hf p.1 hb
  obtain ⟨o,e',d⟩:=ho p.1 hb
  rw [e] at e';cases e'
  exact ⟨e,f0,f1,f2,d⟩
theorem Inv.unpinned {pins pl:List (Addr×Obj)}{σ:St} {H:Hp}{s:Shared} (I:Inv X (pins++pl) σ H s):Inv X pins σ H s:=I.pins_of fun p hp=>I.pin p (List.mem_append_right _ (List.mem_append_left _ hp))
theorem zla {iter:Expr}{body:List Stmt} {wi:TI}{g:TG} {tb:TS}{pos:Pos} (hp:PassesOwn (model X.prog X.w) X.A X.env X.xe) (hc:X.calm=true) (hi:PI X tg iter wi) (hg:PG X tg g) (hb:PSs X body tb)
  (hs:∀ x,foldedSetIterable iter X.env x=pure x:=by intro _;rfl):PS X (.For tg iter body [] pos) (tFor wi g tb):=by
 intro pins s σ H D I h
 refine wpAny_For (thn (hi pins s σ H _ I h) fun v s1 h1=>thn h1 fun itv s2 h2=>?_) hs
 obtain ⟨it,fp,tn,J,H2,e,I2,T,st2,f2,W,⟨m0,w0⟩,turn⟩:=h2
 subst e
 have stat:∀ {H':Hp},(∀ b∈fp,H' b=none)→∀ b∈fp,FpOk X pins H' b:=fun hn b hb=>⟨hn b hb,(f2 b hb).2⟩
 refine codeAny_forLoop_any (fun n s'=>∃ i σ' H',Inv X pins σ' H' s'∧tn i s'.heap∧(∀ b∈fp,H' b=none)∧W i n σ' H') ?_ m0 ⟨0,σ,H2,I2,st2,fun b hb=>(f2 b hb).1,w0⟩
 rintro n s3 ⟨i,σ3,H3,I3,st3,fr3,w3⟩
 rcases turn i n σ3 H3 w3 with ⟨stop,qn⟩ | ⟨go,N,hN,step⟩
 ·refine wpAny_passesOwn hp (thn (T.done X rfl rfl rfl hc i pins s3 σ3 H3 X.xe I3 (stat fr3) st3 stop) fun r s4 ⟨hr,I4⟩=>?_)
  subst hr
  exact wpAny_execs_nil ⟨σ3,H3,I4,qn⟩
 ·refine wpAny_passesOwn hp (thn (T.item X rfl rfl rfl hc i pins s3 σ3 H3 X.xe I3 (stat fr3) st3 go) fun r s4 ⟨u,hr,h4⟩=>?_)
  subst hr
  refine wpAny_passesOwn hp (thn h4 fun _ s5 ⟨x,H5,I5,r5,y5,st5,fr5⟩=>?_)
  have I5':=I5.pinned (stat fr5) (T.obj _ _ st5)
  refine wpAny_passesOwn hp (thn (hg _ s5 σ3 H5 x u _ I5' r5 (step x H5 y5)) fun _ s6 ⟨σ6,H6,I6,q6⟩=>?_)
  refine wpAny_passesOwn hp (thn (hb _ s6 σ6 H6 _ I6 q6) fun f s7 q7=>?_)
  have again:∀ {σ7:St}{H7:Hp},Inv X (pins++zfg fp s5.heap) σ7 H7 s7→N σ7 H7→∃ m,m < n∧∃ i σ' H',Inv X pins σ' H' s7∧tn i s7.heap∧(∀ b∈fp,H' b=none)∧W i m σ' H':=fun {σ7 H7} I7 n7=>by
   obtain ⟨m',hm,w7⟩:=hN σ7 H7 n7
   refine ⟨m',hm,i + 1,σ7,H7,I7.unpinned,T.keep _ _ _ st5 fun b hb o e=>(I7.pin (b,o) (List.mem_append_right _ (List.mem_append_right _ (zcl hb e)))).1,fun b hb=>?_,w7⟩
   obtain ⟨o,e,d⟩:=T.obj _ _ st5 b hb
   exact (I7.pin (b,o) (List.mem_append_right _ (List.mem_append_right _ (zcl hb e)))).2.1
  cases f with
  | next=>obtain ⟨σ7,H7,I7,n7⟩:=q7;exact again I7 n7
  | cont=>obtain ⟨σ7,H7,I7,n7⟩:=q7;exact again I7 n7
  | brk=>obtain ⟨σ7,H7,I7,q7⟩:=q7;exact ⟨σ7,H7,I7.unpinned,q7⟩
  | ret v=>obtain ⟨x7,σ7,H7,I7,r7,q7⟩:=q7;exact ⟨x7,σ7,H7,I7.unpinned,r7,q7⟩
end
end L2
namespace L2
open PySem PySem.Spec PyProof.Rows
noncomputable abbrev R2:=V→V→Hp→VK→Prop
noncomputable def OpR (X:Cx) (f:Value→Value→Sem Value) (r:R2):Prop:=
 ∀ (pins:List (Addr×Obj)) (s:Shared) (σ:St) (H:Hp) (x y:V) (v u:Value) (Q:VK),Inv X pins σ H s→RelV x v→RelV y u→r x y H Q→
  wpAny (model X.prog X.w) X.A (f v u) (EP X pins σ Q) X.xe s
noncomputable def UnR (X:Cx) (f:Value→Sem Value) (r:V→Hp→VK→Prop):Prop:=
 ∀ (pins:List (Addr×Obj)) (s:Shared) (σ:St) (H:Hp) (x:V) (v:Value) (Q:VK),Inv X pins σ H s→RelV x v→r x H Q→
  wpAny (model X.prog X.w) X.A (f v) (EP X pins σ Q) X.xe s
noncomputable def zcj (X:Cx) (f:Value) (r:List V→Hp→VK→Prop):Prop:=
 ∀ (pins:List (Addr×Obj)) (s:Shared) (σ:St) (H:Hp) (xs:List V) (us:List Value) (Q:VK),Inv X pins σ H s→Vals xs us→r xs H Q→
  wpAny (model X.prog X.w) X.A (call f us) (EP X pins σ Q) X.xe s
noncomputable def TruR (X:Cx) (r:V→Hp→(Bool→Hp→Prop)→Prop):Prop:=
 ∀ (pins:List (Addr×Obj)) (s:Shared) (σ:St) (H:Hp) (x:V) (v:Value) (Q:Bool→Hp→Prop),Inv X pins σ H s→RelV x v→r x H Q→
  wpAny (model X.prog X.w) X.A (truthy v) (TP X pins σ Q) X.xe s
noncomputable def tOp (r:R2) (ta tb:TE):TE:=fun σ H Q=>ta σ H fun x H1=>tb σ H1 fun y H2=>r x y H2 Q
noncomputable def tUn (r:V→Hp→VK→Prop) (ta:TE):TE:=fun σ H Q=>ta σ H fun x H1=>r x H1 Q
noncomputable def rI (C:Int→Int→Prop) (g:Int→Int→V):R2:=fun x y H Q=>∃ i j,x=.int i∧y=.int j∧C i j∧Q (g i j) H
noncomputable def rI0 (g:Int→Int→V):R2:=fun x y H Q=>∃ i j,x=.int i∧y=.int j∧Q (g i j) H
noncomputable def rU (g:Int→V):V→Hp→VK→Prop:=fun x H Q=>∃ i,x=.int i∧Q (g i) H
section
variable {X:Cx}{a b c:Expr} {ta tb tc:TE}{pos:Pos}
theorem binT (ha:PE X a ta) (hb:PE X b tb) {pins:List (Addr×Obj)}{s:Shared} {σ:St}{H:Hp} {R:V→V→Hp→Prop}(I:Inv X pins σ H s)
  (h:ta σ H fun x H1=>tb σ H1 fun y H2=>R x y H2) {Q:Value→Shared→Prop}{f:Value→Value→Sem Value}
  (hf:∀ v u s2 x y H2,Inv X pins σ H2 s2→RelV x v→RelV y u→R x y H2→wpAny (model X.prog X.w) X.A (f v u) Q X.xe s2) :
  wpAny (model X.prog X.w) X.A (eval a X.env) (fun v s₁=>wpAny (model X.prog X.w) X.A (eval b X.env) (fun u s₂=>wpAny (model X.prog X.w) X.A (f v u) Q X.xe s₂) X.xe s₁) X.xe s:=by
 refine thn (ha pins s σ H _ I h) fun v s1 h_=>?_
 obtain ⟨x,H1,I1,r1,q1⟩:=h_
 refine thn (hb pins s1 σ H1 _ I1 q1) fun u s2 h_=>?_
 obtain ⟨y,H2,I2,r2,q2⟩:=h_
 exact hf v u s2 x y H2 I2 r1 r2 q2
theorem zmr {op:Operator}{r:R2} (ho:OpR X (binaryOp op) r) (ha:PE X a ta) (hb:PE X b tb):PE X (.BinOp a op b pos) (tOp r ta tb):=by
 intro pins s σ H Q I h
 exact wpAny_BinOp (binT ha hb I h fun v u s2 x y H2 I2 rx ry q=>ho pins s2 σ H2 x y v u Q I2 rx ry q)
theorem zmq {op:UnaryOp}{r:V→Hp→VK→Prop} (ho:UnR X (unaryOp op) r) (ha:PE X a ta):PE X (.UnaryOp op a pos) (tUn r ta):=by
 intro pins s σ H Q I h
 exact UnaryOp_ (thn (ha pins s σ H _ I h) fun v s1 ⟨x,H1,I1,r1,q1⟩=>ho pins s1 σ H1 x v Q I1 r1 q1)
theorem opI {f:Value→Value→Sem Value}{C:Int→Int→Prop} {g:Int→Int→Int}
  (rule:∀ (i j:Int) (t u:Tok) (s:Shared) (Q:Value→Shared→Prop) (E:Value→Shared→Prop),C i j→Q (.int (g i j) s.toks) { s with toks:=s.toks + 1 }→wpAny (model X.prog X.w) X.A (f (.int i t) (.int j u)) Q E s) :
  OpR X f (rI C fun i j=>.int (g i j)):=by
 intro pins s σ H x y v u Q I rx ry h
 obtain ⟨i,j,rfl,rfl,hc,q⟩:=h
 obtain ⟨t,rfl⟩:=rx
 obtain ⟨t',rfl⟩:=ry
 exact rule i j t t' s _ _ hc ⟨.int (g i j),H,I.tok _,⟨_,rfl⟩,q⟩
theorem opI0 {f:Value→Value→Sem Value}{g:Int→Int→Int}
  (rule:∀ (i j:Int) (t u:Tok) (s:Shared) (Q:Value→Shared→Prop) (E:Value→Shared→Prop),Q (.int (g i j) s.toks) { s with toks:=s.toks + 1 }→wpAny (model X.prog X.w) X.A (f (.int i t) (.int j u)) Q E s) :
  OpR X f (rI0 fun i j=>.int (g i j)):=by
 intro pins s σ H x y v u Q I rx ry h
 obtain ⟨i,j,rfl,rfl,q⟩:=h
 obtain ⟨t,rfl⟩:=rx
 obtain ⟨t',rfl⟩:=ry
 exact rule i j t t' s _ _ ⟨.int (g i j),H,I.tok _,⟨_,rfl⟩,q⟩
theorem opB0 {f:Value→Value→Sem Value}{g:Int→Int→Bool}
  (rule:∀ (i j:Int) (t u:Tok) (s:Shared) (Q:Value→Shared→Prop) (E:Value→Shared→Prop),Q (.bool (g i j)) s→wpAny (model X.prog X.w) X.A (f (.int i t) (.int j u)) Q E s) :
  OpR X f (rI0 fun i j=>.bl (g i j)):=by
 intro pins s σ H x y v u Q I rx ry h
 obtain ⟨i,j,rfl,rfl,q⟩:=h
 obtain ⟨t,rfl⟩:=rx
 obtain ⟨t',rfl⟩:=ry
 exact rule i j t t' s _ _ ⟨.bl (g i j),H,I,rfl,q⟩
noncomputable def CDiv (i j:Int):Prop:=0 < j∧j < 1073741824
noncomputable def CPow (i j:Int):Prop:=0≤j∧j≤1000000∧i.natAbs < 2 ^ 64
noncomputable def CMul (i j:Int):Prop:=(-(2 ^ 64) < i∧i < 2 ^ 64)∨(-(2 ^ 64) < j∧j < 2 ^ 64)
theorem CMul.ok {i j:Int}(h:CMul i j):IntMulOk i j:=by
 rcases h with ⟨h1,h2⟩ | ⟨h1,h2⟩
 ·exact .of_left (intBits_le_64 h1 h2)
 ·exact .of_right (intBits_le_64 h1 h2)
theorem zlu:OpR X (binaryOp .Add) (rI0 fun i j=>.int (i + j)):=opI0 fun _ _ _ _ _ _ _ q=>add_int q
theorem zln:OpR X (binaryOp .Sub) (rI0 fun i j=>.int (i - j)):=opI0 fun _ _ _ _ _ _ _ q=>sub_int q
theorem zlq:OpR X (binaryOp .Mult) (rI CMul fun i j=>.int (i * j)):=opI fun _ _ _ _ _ _ _ hc q=>mul_int q hc.ok
theorem zkf:OpR X (binaryOp .FloorDiv) (rI CDiv fun i j=>.int (i / j)):=opI fun i j _ _ _ _ _ hc q=>by
 have h1:(0:Int) < j:=hc.1
 have h2:j < 1073741824:=hc.2
 exact floordiv_int (by omega) (by rw [Int.fdiv_eq_ediv_of_nonneg i (by omega)];exact q) (.inl (PyProof.noPylong_small (by omega)))
theorem zlr:OpR X (binaryOp .Mod) (rI (fun _ j=>0 < j) fun i j=>.int (i % j)):=opI fun i j _ _ _ _ _ hc q=>by
 have h1:(0:Int) < j:=hc
 exact mod_int' (by omega) (by rw [Int.fmod_eq_emod_of_nonneg i (by omega)];exact q)
theorem zlo:OpR X (binaryOp .Pow) (rI CPow fun i j=>.int (i ^ j.toNat)):=opI fun _ _ _ _ _ _ _ hc q=>pow_int_small hc.1 hc.2.1 hc.2.2 q
theorem unI {f:Value→Sem Value}{g:Int→Int}
  (rule:∀ (i:Int) (t:Tok) (s:Shared) (Q:Value→Shared→Prop) (E:Value→Shared→Prop),Q (.int (g i) s.toks) { s with toks:=s.toks + 1 }→wpAny (model X.prog X.w) X.A (f (.int i t)) Q E s) :
  UnR X f (rU fun i=>.int (g i)):=by
 intro pins s σ H x v Q I rx h
 obtain ⟨i,rfl,q⟩:=h
 obtain ⟨t,rfl⟩:=rx
 exact rule i t s _ _ ⟨.int (g i),H,I.tok _,⟨_,rfl⟩,q⟩
theorem zkG:UnR X (unaryOp .USub) (rU fun i=>.int (-i)):=unI fun _ _ _ _ _ q=>neg_int q
end
section
variable {X:Cx}{a b c:Expr} {ta tb tc:TE}{pos:Pos}
theorem zmx:OpR X (compareOp .Lt) (rI0 fun i j=>.bl (decide (i < j))):=opB0 fun _ _ _ _ _ _ _ q=>lt_int q
theorem zmy:OpR X (compareOp .LtE) (rI0 fun i j=>.bl (decide (i≤j))):=opB0 fun _ _ _ _ _ _ _ q=>le_int q
theorem zmz:OpR X (compareOp .Gt) (rI0 fun i j=>.bl (decide (j < i))):=opB0 fun _ _ _ _ _ _ _ q=>gt_int q
theorem OpR.or {f:Value→Value→Sem Value}{r r':R2} (h:OpR X f r) (h':OpR X f r'):OpR X f (fun x y H Q=>r x y H Q∨r' x y H Q):=by
 intro pins s σ H x y v u Q I rx ry q
 rcases q with q | q
 ·exact h pins s σ H x y v u Q I rx ry q
 ·exact h' pins s σ H x y v u Q I rx ry q
theorem zbs (b:Expr) {op:CmpOp}(h:op≠.In:=by decide) (h2:op≠.NotIn:=by decide):behindInMarks op b=false:=by
 have e1:(op == CmpOp.In)=false:=by cases op<;>first | rfl | exact absurd rfl h
 have e2:(op == CmpOp.NotIn)=false:=by cases op<;>first | rfl | exact absurd rfl h2
 cases b<;>simp [behindInMarks,e1,e2]
theorem zkc {op:CmpOp}{r:R2} (ho:OpR X (compareOp op) r) (ha:PE X a ta) (hb:PE X b tb) (hm:behindInMarks op b=false):PE X (.Compare a [op] [b] pos) (tOp r ta tb):=by
 intro pins s σ H Q I h
 exact wpAny_Compare1 (binT ha hb I h fun v u s2 x y H2 I2 rx ry q=>ho pins s2 σ H2 x y v u Q I2 rx ry q) hm
noncomputable def zmc (t:TE):TT:=fun σ H Q=>t σ H fun x H'=>∃ k,x=.bl k∧Q k H'
theorem zht {op:CmpOp}{r:R2} (ho:OpR X (compareOp op) r) (ha:PE X a ta) (hb:PE X b tb) (hm:behindInMarks op b=false):PT X (.Compare a [op] [b] pos) (zmc (tOp r ta tb)):=by
 intro pins s σ H Q I h
 refine wpAny_isTrue_Compare1 (thn (ha pins s σ H _ I h) fun v s1 ⟨x,H1,I1,r1,q1⟩=>thn (hb pins s1 σ H1 _ I1 q1) fun u s2 ⟨y,H2,I2,r2,q2⟩=>
  thn (ho pins s2 σ H2 x y v u _ I2 r1 r2 q2) fun c s3 ⟨z,H3,I3,r3,k,e,q3⟩=>?_) hm
 subst e
 cases r3
 exact wpAny_truthy_bool ⟨H3,I3,q3⟩
noncomputable def TruV (K:PySem.W.Frag) (x:V) (H:Hp) (k:Bool):Prop:=
 match x with
 | .non=>k=false
 | .bl b=>k=b
 | .int i=>k=(i != 0)
 | .str y=>y.length≤sizeLine∧k=((y.length:Int) != 0)
 | .byt y=>y.size≤sizeLine∧k=((y.size:Int) != 0)
 | .ref p=>(∃ xs,SqL K H p xs∧k=!xs.isEmpty)∨(∃ xs,SqT K H p xs∧k=!xs.isEmpty)∨∃ kvs,H p=some (.dK kvs)∧k=!kvs.isEmpty
 | _=>False
theorem zgU {κ:Type}{kvs:List (κ×V)} {vs:List (κ×Value)}(r:KV kvs vs):(!vs.isEmpty)=!kvs.isEmpty:=by
 cases r<;>rfl
theorem zek {xs:List V}{its:List Value} (r:Vals xs its):(!its.toArray.isEmpty)=!xs.isEmpty:=by
 cases r<;>simp
theorem zeh:(sizeLine:Nat) < 2 ^ 63:=by rw [sizeLine_eq];decide
theorem zkI:TruR X (fun x H Q=>∃ k,TruV X.K x H k∧Q k H):=by
 intro pins s σ H x v Q I rx h
 obtain ⟨k,e,q⟩:=h
 have hl:=zeh
 have hs:sizeLine=16777216:=sizeLine_eq
 cases x with
 | non=>
  cases rx
  have e':k=false:=e
  subst e'
  exact truthy_none ⟨H,I,q⟩
 | bl b=>
  cases rx
  have e':k=b:=e
  subst e'
  exact wpAny_truthy_bool ⟨H,I,q⟩
 | int i=>
  obtain ⟨t,rfl⟩:=rx
  have e':k=(i != 0):=e
  subst e'
  exact PySem.P.truthy_int ⟨H,I,q⟩
 | str y=>
  obtain ⟨t,rfl⟩:=rx
  obtain ⟨hy,e'⟩:y.length≤sizeLine∧k=((y.length:Int) != 0):=e
  subst e'
  exact PySem.P.truthy_str (by omega) ⟨H,I.tok _,q⟩
 | byt y=>
  obtain ⟨t,rfl⟩:=rx
  obtain ⟨hy,e'⟩:y.size≤sizeLine∧k=((y.size:Int) != 0):=e
  subst e'
  exact PySem.W.truthy_bytes (by omega) ⟨H,I.tok _,q⟩
 | ref p=>
  cases rx
  have e':(∃ xs,SqL X.K H p xs∧k=!xs.isEmpty)∨(∃ xs,SqT X.K H p xs∧k=!xs.isEmpty)∨∃ kvs,H p=some (.dK kvs)∧k=!kvs.isEmpty:=e
  rcases e' with ⟨xs,hx,e'⟩ | ⟨xs,hx,e'⟩ | ⟨kvs,hx,e'⟩
  ·subst e'
   obtain ⟨its,r,pl,hz⟩:=I.list hx
   have hlen:=r.length
   exact wpAny_truthy_list pl.isList (by simp only [List.size_toArray];omega) ⟨H,I.tok _,by rw [zek r];exact q⟩
  ·subst e'
   obtain ⟨its,r,pl,hz⟩:=I.tuple hx
   have hlen:=r.length
   exact truthy_tuple pl (by simp only [List.size_toArray];omega) ⟨H,I.tok _,by rw [zek r];exact q⟩
  ·subst e'
   obtain ⟨hz,hS,vs,r,m⟩:kvs.length≤sizeLine∧(p == sysModules)=false∧∃ vs,KV kvs vs∧s.heap.DictOf (zfT X.prog X.w) p vs:=I.hok p _ hx
   have hlen:kvs.length=vs.length:=Paired.length r
   exact wpAny_truthy_dict hS m (by omega) ⟨H,I.tok _,by rw [zgU r];exact q⟩
 | _=>exact (show False from e).elim
theorem ziB (ha:PE X a ta) (he:∀ whole,isTrue a X.env whole=(do let v ← whole;standAt a.pos;holding [v] (truthy v))) :
  PT X a (fun σ H Q=>ta σ H fun x H'=>∃ k,TruV X.K x H' k∧Q k H'):=by
 intro pins s σ H Q I h
 exact isTrue_plain (thn (ha pins s σ H _ I h) fun v s1 ⟨x,H1,I1,r1,q1⟩=>zkI pins s1 σ H1 x v Q I1 r1 q1) (he _)
theorem zgR:OpR X (binaryOp .Add) (fun x y H Q=>∃ i j,x=.str i∧y=.str j∧i.length + j.length≤sizeLine∧Q (.str (i++j)) H):=by
 intro pins s σ H x y v u Q I rx ry h
 obtain ⟨i,j,rfl,rfl,hz,q⟩:=h
 obtain ⟨t,rfl⟩:=rx
 obtain ⟨t',rfl⟩:=ry
 exact add_str (fun t' tk=>⟨.str (i++j),H,I.tok _,⟨_,rfl⟩,q⟩) hz
theorem zeU {x:V}{us:List Value} (r:Vals [x] us):∃ u,us=[u]∧RelV x u:=by
 cases r with
 | cons r1 r2=>cases r2;exact ⟨_,rfl,r1⟩
theorem zlZ {x y:V}{us:List Value} (r:Vals [x,y] us):∃ u w',us=[u,w']∧RelV x u∧RelV y w':=by
 cases r with
 | cons r1 r2=>
  cases r2 with
  | cons r3 r4=>cases r4;exact ⟨_,_,rfl,r1,r3⟩
end
end L2
namespace L2
open PySem PySem.Spec PyProof.Rows
structure ObjM (h:Heap) (x dx C:Addr) (mA:Str→Option Value):Prop where
 obj:h.get? x=some (PySem.W.instObj C dx)
 ns:h.Ns1 dx mA
 ne:dx≠x
theorem zhM {h:Heap}{dx:Addr} {mA:Str→Option Value}(n:h.Ns1 dx mA):∃ od,h.get? dx=some od∧∀ name,PySem.W.lookIn name od=some (mA name):=by
 obtain ⟨o,es,ep,ho,hd,hk,_,hm⟩:=n
 refine ⟨o,ho,fun name=>?_⟩
 have e:=hm name
 unfold nsFind findBy at e
 rw [← Array.find?_toList] at e
 unfold PySem.W.lookIn
 rw [hd]
 dsimp only
 split
 ·rename_i y q
  rw [q] at e
  exact congrArg some e
 ·rename_i q
  rw [q] at e
  have a:es.toList.any (·.refKey)=false:=by
   rw [List.any_eq_false]
   intro y hy
   obtain ⟨z,t,hkey⟩:=hk y (Array.mem_toList_iff.mp hy)
   simp [DictEntry.refKey,hkey]
  have a':¬ es.toList.any (·.refKey)=true:=by rw [a];exact Bool.false_ne_true
  rw [if_neg a']
  exact congrArg some e
theorem ObjM.look {h:Heap}{x dx C:Addr} {mA:Str→Option Value}(I:ObjM h x dx C mA):∃ od,PySem.W.InstAt h x (PySem.W.instObj C dx) C (some od)∧∀ name,PySem.W.lookIn name od=some (mA name):=
 let ⟨od,ho,hl⟩:=zhM I.ns
 ⟨od,⟨I.obj,rfl,rfl,ho⟩,hl⟩
section
variable {prog:Program}{w:World} {A:Around}{E:Value→Shared→Prop} {s:Shared}{K:PySem.W.Frag} {x dx C f:Addr}{mA:Str→Option Value} {name:Str}{v:Value}
end
section
variable {P:Program}{w:World} {H H':Hp}{h h':Heap} {a C dx:Addr}{fs fs':List (Str×V)}
theorem zks (hok:HOk P w H h) (e:H a=some (.ins C dx fs)):∃ mA,ObjM h a dx C mA∧(∀ f,RelO (fs.lookup f) (mA f))∧PySem.Within mA (fs.map (·.1))∧fs.length≤1000∧H dx=some (.own a):=by
 obtain ⟨d,z,ne,ob,mA,n,r,q⟩:=(show zaW P w H h a (.ins C dx fs) from hok a _ e)
 exact ⟨mA,⟨ob,n,ne⟩,r,q,z,d⟩
end
structure Cls (K:PySem.W.Frag) (C:Addr):Prop where
 pg:PySem.W.plainGet K C Str.empty=true
 hd:PySem.W.hasDictIn K C=true
 po:PySem.W.plainOver K C=true
 sa:PySem.W.findIn K (.ref C) "__setattr__" = some (some (.builtin "object.__setattr__"))
theorem Cls.get {K:PySem.W.Frag}{C:Addr} (c:Cls K C) (f:Str):PySem.W.plainGet K C f=true:=c.pg
section
variable {X:Cx}{pins:List (Addr×Obj)} {σ:St}{H:Hp} {s:Shared}{a C dx:Addr} {fs:List (Str×V)}{f:Str} {v:V}{A:Around} {E:Value→Shared→Prop}
end
section
variable {X:Cx}{o e value:Expr} {f:Str}{pos pos' tpos:Pos} {ta tv:TE}
end
section
variable {X:Cx}{pins:List (Addr×Obj)} {σ:St}{H:Hp} {s:Shared}{A:Around} {E:Value→Shared→Prop}{Q:Value→Shared→Prop} {c:Value}{b:Bool}
inductive TyOf (K:PySem.W.Frag) (H:Hp):V→Value→Prop where
 | non:TyOf K H .non (.type "NoneType")
 | bl (x:Bool):TyOf K H (.bl x) (.type "bool")
 | int (i:Int):TyOf K H (.int i) (.type "int")
 | str (x:Str):TyOf K H (.str x) (.type "str")
 | flt (x:UInt64):TyOf K H (.flt x) (.type "float")
 | lst {a:Addr}{xs:List V} (e:H a=some (.lst xs)):TyOf K H (.ref a) (.type "list")
 | frz {a:Addr}{o:Obj} {xs:List V}(e:H a=some (.frz o (.lst xs))):TyOf K H (.ref a) (.type "list")
 | tup {a:Addr}{xs:List V} (e:H a=some (.tup xs)):TyOf K H (.ref a) (.type "tuple")
 | dK {a:Addr}{kvs:List (Key×V)} (e:Rd H a (.dK kvs)):TyOf K H (.ref a) (.type "dict")
 | dT {a:Addr}{kvs:List (List Key×V)} (e:Rd H a (.dT kvs)):TyOf K H (.ref a) (.type "dict")
 | ins {a C dx:Addr}{fs:List (Str×V)} (e:H a=some (.ins C dx fs)) (cl:Cls K C) (ha:PySem.W.findIn K (.ref C) "__class__" = some (some (.builtin "object.__class__")))
   (hn:PySem.W.specialIn K (.builtin "object.__class__") "__get__" = some (some (.builtin "getset_descriptor.__get__"))) (htk:PySem.W.takesIn K (.builtin "object.__class__")=some true)
   (hm:PySem.W.mroIn K C (.type "object")=some true):TyOf K H (.ref a) (.ref C)
theorem zhR {x:V}{u t:Value} (I:Inv X pins σ H s) (rx:RelV x u) (ty:TyOf X.K H x t) (e:PySem.W.kitOne X.K t c=some b) (h:∀ tk,Q (.bool b) { s with toks:=tk }) :
  wpAny (model X.prog X.w) A (call (.builtin "isinstance") [u,c]) Q E s:=by
 cases ty with
 | non=>cases (show u=Value.none from rx);exact PySem.W.kia_one PySem.W.kitx_none I.kIn True.intro e (fun z=>nomatch z) h
 | bl y=>cases (show u=Value.bool y from rx);exact PySem.W.kia_one PySem.W.kitx_bool I.kIn True.intro e (fun z=>nomatch z) h
 | int i=>obtain ⟨t,q⟩:=(show ∃ t,u=Value.int i t from rx);cases q;exact PySem.W.kia_one PySem.W.kitx_int I.kIn True.intro e (fun z=>nomatch z) h
 | str y=>obtain ⟨t,q⟩:=(show ∃ t,u=Value.str y t from rx);cases q;exact PySem.W.kia_one PySem.W.kitx_str I.kIn True.intro e (fun z=>nomatch z) h
 | flt y=>obtain ⟨t,q⟩:=(show ∃ t,u=Value.float y t from rx);cases q;exact PySem.W.kia_one PySem.W.kitx_float I.kIn True.intro e (fun z=>nomatch z) h
 | @lst a xs ea=>
  cases (show u=Value.ref a from rx)
  obtain ⟨_,_,n,_,h1⟩:=(show zaW X.prog X.w H s.heap a (.lst xs) from I.hok a _ ea)
  exact PySem.W.kia_one PySem.W.kitx_list I.kIn ⟨_,h1,rfl⟩ e (fun z=>nomatch z) h
 | @frz a ob xs ea=>
  cases (show u=Value.ref a from rx)
  obtain ⟨_,_,_,n,_,h1⟩:=(show zaW X.prog X.w H s.heap a (.frz ob (.lst xs)) from I.hok a _ ea)
  exact PySem.W.kia_one PySem.W.kitx_list I.kIn ⟨_,h1,rfl⟩ e (fun z=>nomatch z) h
 | @tup a xs ea=>
  cases (show u=Value.ref a from rx)
  obtain ⟨_,_,_,p⟩:=(show zaW X.prog X.w H s.heap a (.tup xs) from I.hok a _ ea)
  obtain ⟨o,h1,h2,_⟩:=p
  exact PySem.W.kia_one PySem.W.kitx_tuple I.kIn ⟨o,h1,h2⟩ e (fun z=>nomatch z) h
 | @dK a kvs ea=>
  cases (show u=Value.ref a from rx)
  obtain ⟨_,_,vs,_,p⟩:=(show zaW X.prog X.w H s.heap a (.dK kvs) from ea.ok I.hok)
  obtain ⟨o,es,ep,h1,h2,_⟩:=p
  exact PySem.W.kia_one PySem.W.kitx_dict I.kIn ⟨o,h1,h2.1⟩ e (fun z=>nomatch z) h
 | @dT a kvs ea=>
  cases (show u=Value.ref a from rx)
  obtain ⟨_,_,xs,_,o,es,ep,h1,h2,_⟩:=(show zaW X.prog X.w H s.heap a (.dT kvs) from ea.ok I.hok)
  exact PySem.W.kia_one PySem.W.kitx_dict I.kIn ⟨o,h1,h2.1⟩ e (fun z=>nomatch z) h
 | @ins a C dx fs ea cl ha hn htk hm=>
  cases (show u=Value.ref a from rx)
  obtain ⟨mA,O,_⟩:=zks I.hok ea
  obtain ⟨od,J,_⟩:=O.look
  exact PySem.W.kia_one (PySem.W.kitx_own (cl.get _) cl.hd ha hn htk hm) I.kIn J e (fun z=>nomatch z) h
end
end L2
namespace L2
open PySem PySem.Spec PyProof.Rows
structure Room (k:Nat) (A:Around):Prop where
 hd:A.handled=none
 dp:A.depth + 3 * k + 5 < recursionLimit
 un:A.units + 16 * k + 200 < cLine
theorem Room.mono {j k:Nat}{A:Around} (r:Room k A) (h:j≤k):Room j A:=⟨r.hd,by have:=r.dp;omega,by have:=r.un;omega⟩
theorem Room.deeper {k:Nat}{A:Around} (r:Room (k + 1) A) (env:Env):Room k (A.deeper env):=
 ⟨r.hd,by have:=r.dp;show A.depth + 1 + 3 * k + 5 < _;omega,by have:=r.un;show A.units + 3 + 16 * k + 200 < _;omega⟩
theorem Room.in1 {k:Nat}{A:Around} (r:Room (k + 1) A):Room k A.in1:=
 ⟨r.hd,by have:=r.dp;show A.depth + 3 * k + 5 < _;omega,by have:=r.un;show A.units + 1 + 16 * k + 200 < _;omega⟩
theorem Room.depth {k:Nat}{A:Around} (r:Room k A):A.depth < recursionLimit:=by have:=r.dp;omega
noncomputable def tNil:TA:=fun _ H Q=>Q [] H
noncomputable def zix (ta:TE) (tr:TA):TA:=fun σ H Q=>ta σ H fun x H1=>tr σ H1 fun xs H2=>Q (x::xs) H2
section
variable {X:Cx}{e:Expr} {es:List Expr}{te:TE} {t:TA}{pos:Pos}
theorem zcM:PA X [] tNil:=fun _ _ _ _ H Q I h=>Calls.spliced_nil ⟨[],H,I,.nil,h⟩
theorem zbd (ha:PE X e te) (hr:PA X es t) (hs:starEach (e::es) X.env=(false,eval e X.env)::starEach es X.env:=by rfl):PA X (e::es) (zix te t):=by
 intro pos pins s σ H Q I h
 rw [hs]
 show wpAny _ _ (spliced ((false,eval e X.env)::backTo pos (starEach es X.env))) _ _ s
 refine Calls.spliced_cons (thn (ha pins s σ H _ I h) fun u s1 ⟨x,H1,I1,r1,q1⟩=>?_)
 exact thn (hr pos pins s1 σ H1 _ I1 q1) fun us s2 ⟨xs,H2,I2,r2,q2⟩=>⟨x::xs,H2,I2,.cons r1 r2,q2⟩
noncomputable def tTup (t:TA):TE:=fun σ H Q=>t σ H fun xs H1=>xs.length≤sizeLine∧∀ p,H1 p=none→Q (.ref p) (upd H1 p (.tup xs))
noncomputable def tLst (t:TA):TE:=fun σ H Q=>t σ H fun xs H1=>xs.length≤sizeLine∧∀ p,H1 p=none→Q (.ref p) (upd H1 p (.lst xs))
theorem zle {x1} (h:PA X es t):PE X (.Tuple es x1 pos) (tTup t):=by
 intro pins s σ H Q I hq
 refine wpAny_Tuple_spliced (thn (h pos pins s σ H _ I hq) fun us s1 ⟨xs,H1,I1,r,z,q⟩=>⟨by rw [← r.length];exact z,?_⟩)
 have hf:H1 s1.heap.objs.size=none:=I1.hok.fresh (Nat.le_refl _)
 refine ⟨.ref s1.heap.objs.size,upd H1 s1.heap.objs.size (.tup xs),I1.laid (t':=s1.toks) (fun b u e=>Heap.get?_push_of_some _ e) (Nat.le_refl _) ?_,rfl,q _ hf⟩
 exact ⟨z,us,r,⟨_,Heap.get?_push_size _ rfl,rfl,_,rfl⟩⟩
theorem zli (h:PA X es t):PE X (.List es pos) (tLst t):=by
 intro pins s σ H Q I hq
 refine wpAny_List_spliced (thn (h pos pins s σ H _ I hq) fun us s1 ⟨xs,H1,I1,r,z,q⟩=>⟨by rw [← r.length];exact z,?_⟩)
 have hf:H1 s1.heap.objs.size=none:=I1.hok.fresh (Nat.le_refl _)
 refine ⟨.ref s1.heap.objs.size,upd H1 s1.heap.objs.size (.lst xs),I1.laid (t':=s1.toks) (fun b u e=>Heap.get?_push_of_some _ e) (Nat.le_refl _) ?_,rfl,q _ hf⟩
 exact ⟨z,us,0,r,Heap.get?_push_size _ rfl⟩
end
noncomputable abbrev Sp:=List V→Hp→VK→XK→Prop
noncomputable abbrev CXT:=List Env→Hp→Shared→XK→Value→Shared→Prop
structure Env0 (P:Program) (w:World) (K:PySem.W.Frag) (mg:Str→Option Value) (base:Heap) (A:Around) (outer:List Env) (s:Shared) (H:Hp):Prop where
 frames:A.frames=some outer
 mod:Mod K mg base
 bs:∀ b o,base.get? b=some o→s.heap.get? b=some o∧H b=none
 bsz:base.objs.size≤s.heap.objs.size
 funs:s.heap.FunFrames base outer
 frf:∀ b∈frs outer,H b=none
 hok:HOk P w H s.heap
 bare:AllBare s.gens
noncomputable def CE (outer:List Env) (P:Program) (w:World) (H:Hp) (s:Shared) (Q:VK) (u:Value) (s':Shared):Prop:=
 ∃ v H',s'.os=s.os∧AllBare s'.gens∧Un (frs outer) [] H H' s.heap s'.heap∧HOk P w H' s'.heap∧RelV v u∧Q v H'
noncomputable def CR (CX:CXT) (outer:List Env) (P:Program) (w:World) (H:Hp) (s:Shared) (Q:VK) (E:XK) (r:Result) (s':Shared):Prop:=
 match r with
 | .ok (.ret u)=>CE outer P w H s Q u s'
 | .ok _=>False
 | .error e=>CX outer H s E e s'
structure FnOk (P:Program) (w:World) (K:PySem.W.Frag) (mg:Str→Option Value) (base:Heap) (CX:CXT) (k:Nat) (f:Addr) (fd:FuncData) (ps:List Str) (sp:Sp):Prop where
 len:∀ vs H Q E,sp vs H Q E→vs.length=ps.length
 run:∀ (A:Around) (outer:List Env) (s:Shared) (H:Hp) (args:Args) (us:List Value) (vs:List V) (Q:VK) (E:XK),Room k A→Env0 P w K mg base A outer s H→BindsTo s fd args (ps.zip us)→Vals vs us→sp vs H Q E→
  codeAny (model P w) A (.call (.ref f) args) (CR CX outer P w H s Q E) s
theorem FnOk.mono {P:Program}{w:World} {K:PySem.W.Frag}{mg:Str→Option Value} {base:Heap}{CX:CXT} {j k:Nat}{f:Addr} {fd:FuncData}{ps:List Str} {sp:Sp}(F:FnOk P w K mg base CX j f fd ps sp) (h:j≤k) :
  FnOk P w K mg base CX k f fd ps sp:=⟨F.len,fun A outer s H args us vs Q E hr=>F.run A outer s H args us vs Q E (hr.mono h)⟩
section
variable {X:Cx}{pins:List (Addr×Obj)} {σ:St}{H:Hp} {s s':Shared}
theorem Inv.env0 (I:Inv X pins σ H s):Env0 X.prog X.w X.K X.mg X.base X.A X.stack s H:=
 ⟨I.ok.frames,I.ok.mod,I.bs,Nat.le_trans I.ok.bsz I.sz,I.stack,I.stkFree,I.hok,I.bare⟩
theorem Inv.after {Q:VK}{u:Value} (I:Inv X pins σ H s) (h:CE X.stack X.prog X.w H s Q u s'):EP X pins σ Q u s':=by
 obtain ⟨v,H',os,bare,un,hok,r,q⟩:=h
 obtain ⟨hh,g,d,t,os'⟩:=s'
 obtain rfl:os'=s.os:=os
 exact ⟨v,H',I.call (h':=hh) (g':=g) (d':=d) (t':=t) (ch:=[]) un hok bare (fun b z=>absurd z (by simp)),r,q⟩
end
noncomputable def zjJ (sp:Sp) (dvs:List V) (E:XK) (t:TA):TE:=fun σ H Q=>t σ H fun vs H1=>sp (vs++dvs) H1 Q E
noncomputable def zeR (K:PySem.W.Frag) (fd:FuncData) (ps:List Str) (ds:List Value):Prop:=
 ∀ (s:Shared) (us:List Value),K.In s.heap→(us++ds).length=ps.length→BindsTo s fd ⟨us,[]⟩ (ps.zip (us++ds))
theorem zeR.all {K:PySem.W.Frag}{fd:FuncData} {ps:List Str}(h:∀ us:List Value,us.length=ps.length→bindArgs fd ⟨us,[]⟩=pure (ps.zip us)):zeR K fd ps []:=fun s us _ hl=>by
 rw [List.append_nil] at hl ⊢
 exact .of_eq (h us hl)
noncomputable def ziu (CX:CXT) (X:Cx) (E:XK):Prop:=∀ (pins:List (Addr×Obj)) (σ:St) (H:Hp) (s:Shared) (e:Value) (s':Shared),Inv X pins σ H s→CX X.stack H s E e s'→X.xe e s'
section
variable {X:Cx}{CX:CXT} {k:Nat}{f C:Addr} {fd:FuncData}{ps:List Str} {sp:Sp}{dvs:List V} {ds:List Value}{E:XK} {x m:Str}{p pos apos:Pos} {e o:Expr}{es:List Expr} {ta:TE}{t:TA}
theorem zkT {pins:List (Addr×Obj)}{σ:St} {H:Hp}{s:Shared} {Q:VK}{us:List Value} {vs:List V}(F:FnOk X.prog X.w X.K X.mg X.base CX k f fd ps sp) (hr:Room k X.A) (hb:zeR X.K fd ps ds) (hd:Vals dvs ds) (hx:ziu CX X E)
  (I:Inv X pins σ H s) (r:Vals vs us) (h:sp (vs++dvs) H Q E):wpAny (model X.prog X.w) X.A (call (.ref f) us) (EP X pins σ Q) X.xe s:=by
 have r2:Vals (vs++dvs) (us++ds):=r.append hd
 have hl:(us++ds).length=ps.length:=by rw [← r2.length];exact F.len _ _ _ _ h
 refine wpAny_call (codeAny_mono (F.run X.A X.stack s H ⟨us,[]⟩ (us++ds) (vs++dvs) Q E hr I.env0 (hb s us I.kIn hl) r2 h) fun r s' hq=>?_)
 cases r with
 | error e=>exact hx pins σ H s e s' I hq
 | ok fl=>
  cases fl with
  | ret u=>exact I.after hq
  | next=>exact False.elim hq
  | brk=>exact False.elim hq
  | cont=>exact False.elim hq
theorem zhB (F:FnOk X.prog X.w X.K X.mg X.base CX k f fd ps sp) (hr:Room k X.A) (hg:Gl X x) (hm:X.mg x=some (.ref f)) (hk:PySem.W.keepIn X.K (.ref f)=true) (hb:zeR X.K fd ps ds) (hd:Vals dvs ds) (hx:ziu CX X E)
  (ha:PA X (e::es) t) (hdb:(x == ("__debug__" : Str))=false:=by decide) (he:starEach (e::es) X.env=(false,eval e X.env)::starEach es X.env:=by rfl) (hpl:(backTo pos (starEach es X.env)).any (·.1)=false:=by rfl) :
  PE X (.Call (.Name x p) (e::es) [] pos) (zjJ sp dvs E t):=by
 intro pins s σ H Q I h
 refine wpAny_Call_Name_kw (zkn I hg hm ?_ hdb)
 refine PySem.W.callWith_K (h₀:=X.base) I.ok.mod.kin hk (thn (ha pos pins s σ H _ I h) fun us s1 ⟨vs,H1,I1,r,q⟩=>⟨I1.kIn,?_⟩) he hpl
 exact zkT F hr hb hd hx I1 r q
end
noncomputable def PK (X:Cx) (kws:List Keyword) (t:TA):Prop:=
 ∀ (pos:Pos) (pins:List (Addr×Obj)) (s:Shared) (σ:St) (H:Hp) (Q:List V→Hp→Prop),Inv X pins σ H s→t σ H Q→wpAny (model X.prog X.w) X.A (evalAll ((backToKw pos (keywordEach kws X.env)).map (·.2))) (AP X pins σ Q) X.xe s
section
variable {X:Cx}{CX:CXT} {k:Nat}{f C:Addr} {fd:FuncData}{ps ks:List Str} {sp:Sp}{E:XK} {x m:Str}{p pos apos kpos:Pos} {e o:Expr}{es:List Expr} {kws:List Keyword}{te ta:TE} {t tk:TA}{nm:Option Str}
theorem zlb:PK X [] tNil:=fun _ _ _ _ H Q I h=>wpAny_evalAll_nil ⟨[],H,I,.nil,h⟩
theorem zjW (ha:PE X e te) (hr:PK X kws t):PK X (⟨nm,e,kpos⟩::kws) (zix te t):=by
 intro pos pins s σ H Q I h
 show wpAny _ _ (evalAll ((do let v ← eval e X.env;standAt pos;pure v)::(backToKw pos (keywordEach kws X.env)).map (·.2))) _ _ s
 refine wpAny_evalAll_cons (wpAny_bind (thn (ha pins s σ H _ I h) fun u s1 ⟨x,H1,I1,r1,q1⟩=>wpAny_bind (wpAny_standAt (wpAny_pure ?_))))
 exact thn (hr pos pins s1 σ H1 _ I1 q1) fun us s2 ⟨xs,H2,I2,r2,q2⟩=>⟨x::xs,H2,I2,.cons r1 r2,q2⟩
variable {g:List Value→List Value→List Value}{gV:List V→List V→List V}
end
structure zaD (N P:List Str) (sc:Scope):Prop where
 kind:sc.kind=.function
 co:sc.isCoroutine=false
 gen:sc.isGenerator=false
 nd:N.Nodup
 pre:N.take P.length=P
 par:∀ x∈P,sc.names.lookup x=some .local∨sc.names.lookup x=some .cell
 nofree:∀ y∈sc.names,y.2≠.free
theorem zfG {kindOf:Str→Option NameKind}{x:Str}:∀ {binds:List (Str×Value)}{m:Str→Option Value},(∀ v,(x,v)∉binds)→bindL kindOf binds m x=m x
 | [],_,_=>rfl
 | (n,v)::r,m,h=>by
  unfold bindL
  rw [zfG fun w hw=>h w (List.mem_cons_of_mem _ hw)]
  split
  ·have:x≠n:=by rintro rfl;exact h v List.mem_cons_self
   simp [this]
  ·rfl
theorem zfI {kindOf:Str→Option NameKind}{x:Str}:∀ {binds:List (Str×Value)}{m:Str→Option Value},(∀ v,(x,v)∉binds)→bindC kindOf binds m x=m x
 | [],_,_=>rfl
 | (n,v)::r,m,h=>by
  unfold bindC
  rw [zfI fun w hw=>h w (List.mem_cons_of_mem _ hw)]
  split
  ·rfl
  ·have:x≠n:=by rintro rfl;exact h v List.mem_cons_self
   simp [this]
theorem zfH {kindOf:Str→Option NameKind}{x:Str} {v:Value}:∀ {P:List Str}{vs:List Value} {i:Nat}{m:Str→Option Value},P.Nodup→P[i]?=some x→vs[i]?=some v→kindOf x=some .local→
  bindL kindOf (P.zip vs) m x=some v
 | [],_,_,_,_,h,_,_=>by simp at h
 | _::_,[],_,_,_,_,h,_=>by simp at h
 | p::P,w::vs,0,m,nd,h1,h2,hk=>by
  simp at h1 h2;subst h1;subst h2
  show bindL kindOf ((p,w)::P.zip vs) m p=_
  unfold bindL
  rw [zfG fun v hv=>(List.nodup_cons.mp nd).1 (List.of_mem_zip hv).1,if_pos hk]
  simp
 | p::P,w::vs,i + 1,m,nd,h1,h2,hk=>by
  show bindL kindOf ((p,w)::P.zip vs) m x=_
  unfold bindL
  exact zfH (i:=i) (List.nodup_cons.mp nd).2 (by simpa using h1) (by simpa using h2) hk
theorem zfJ {kindOf:Str→Option NameKind}{x:Str} {v:Value}:∀ {P:List Str}{vs:List Value} {i:Nat}{m:Str→Option Value},P.Nodup→P[i]?=some x→vs[i]?=some v→kindOf x≠some .local→
  bindC kindOf (P.zip vs) m x=some v
 | [],_,_,_,_,h,_,_=>by simp at h
 | _::_,[],_,_,_,_,h,_=>by simp at h
 | p::P,w::vs,0,m,nd,h1,h2,hk=>by
  simp at h1 h2;subst h1;subst h2
  show bindC kindOf ((p,w)::P.zip vs) m p=_
  unfold bindC
  rw [zfI fun v hv=>(List.nodup_cons.mp nd).1 (List.of_mem_zip hv).1,if_neg hk]
  simp
 | p::P,w::vs,i + 1,m,nd,h1,h2,hk=>by
  show bindC kindOf ((p,w)::P.zip vs) m x=_
  unfold bindC
  exact zfJ (i:=i) (List.nodup_cons.mp nd).2 (by simpa using h1) (by simpa using h2) hk
noncomputable def start (N:List Str) (vs:List V):St:=vs.map some++List.replicate (N.length - vs.length) none
noncomputable def cxOf (CX:CXT) (P:Program) (w:World) (K:PySem.W.Frag) (mg:Str→Option Value) (base:Heap) (N:List Str) (qual:Str) (scope:Scope) (f:Addr) (cd:Value) (A:Around) (outer:List Env) (s:Shared) (H:Hp) (E:XK):Cx where
 prog:=P
 w:=w
 K:=K
 mg:=mg
 base:=base
 A:=A.deeper (envOfC qual scope s.heap.objs.size f cd)
 N:=N
 s₀:=s
 H₀:=H
 env:=envOfC qual scope s.heap.objs.size f cd
 outer:=outer
 stack:=envOfC qual scope s.heap.objs.size f cd::outer
 ex:=[]
 calm:=true
 fn:=fun _=>true
 pn:=[]
 xe:=fun e s'=>wpAny (model P w) (A.deeper (envOfC qual scope s.heap.objs.size f cd)) (leaving (envOfC qual scope s.heap.objs.size f cd) e) (fun _ s''=>CX outer H s E e s'') (fun e' s''=>CX outer H s E e' s'') s'
theorem zgF {sc:Scope}{n:Nat} {x:Str}(h:sc.names.lookup x=some .cell):∃ c,(cellsFrom n sc.names []).lookup x=some c:=by
 have q:=PySem.W.cellsFrom_some sc.names n [] (.inl h)
 exact Option.isSome_iff_exists.mp q
theorem zhS {CX:CXT}{P:Program} {w:World}{K:PySem.W.Frag} {mg:Str→Option Value}{base:Heap} {N ps:List Str}{qual:Str} {scope:Scope}{f:Addr} {cd:Value}{A:Around} {outer:List Env}{s s1:Shared} {H:Hp}{E:XK} {us:List Value}{vs:List V}
  (S:zaD N ps scope) (hd:A.handled=none) (e0:Env0 P w K mg base A outer s H) (hl:vs.length=ps.length) (r:Vals vs us)
  (x:InCallC s s.heap.objs.size (bindL (envOfC qual scope s.heap.objs.size f cd).kindOf (ps.zip us) fun _=>none) (cellsFrom (s.heap.objs.size + 1) scope.names []) (bindC (envOfC qual scope s.heap.objs.size f cd).kindOf (ps.zip us) fun _=>none) s1) :
  Inv (cxOf CX P w K mg base N qual scope f cd A outer s H E) [] (start N vs) H s1:=by
 have hpl:ps.length≤N.length:=by have:=congrArg List.length S.pre;rw [List.length_take] at this;omega
 obtain ⟨h1,tk,rfl,hk⟩:=x.done
 have noA:∀ b:Addr,b∉(cxOf CX P w K mg base N qual scope f cd A outer s H E).ex:=fun b z=>absurd (show b∈([]:List Addr) from z) (by simp)
 refine ⟨⟨e0.mod,S.kind,rfl,rfl,Nat.le_refl _,fun y z c h1 h2=>?_,fun y hy=>?_,fun y c _ h=>?_,fun _=>hd,Around.frames_deeper e0.frames,.inr ⟨rfl,rfl⟩,fun b z=>absurd z (noA b),e0.bs,e0.bsz,fun b _ _=>noA b,fun b z=>absurd z (noA b),e0.funs,e0.frf⟩,
  rfl,e0.bare,Un.kept hk,⟨_,x.toInCall.ns,fun i y v h1 h2 h3=>?_⟩,fun y c h=>⟨_,x.cell y c h⟩,e0.hok.fresh (Nat.le_refl _),fun y c h=>?_,fun p hp=>absurd (show p∈([]:List (Addr×Obj)) from hp) (by simp),e0.hok.kept hk,?_⟩
 ·exact name_of_addr x.apart (PySem.mem_of_lookup h1) (PySem.mem_of_lookup h2)
 ·have hy:scope.names.lookup y=some .cell∨scope.names.lookup y=some .free:=hy
  rcases hy with hy | hy
  ·exact zgF hy
  ·exact absurd rfl (S.nofree _ (PySem.mem_of_lookup hy))
 ·exact Nat.le_of_lt (x.above y c (PySem.mem_of_lookup h))
 ·have hi:i < vs.length:=by
   unfold start at h2
   by_cases hi:i < vs.length
   ·exact hi
   ·rw [List.getElem?_append_right (by simpa using hi)] at h2
    rw [List.getElem?_replicate] at h2
    split at h2<;>cases h2
  have ha:vs[i]?=some v:=by
   unfold start at h2
   rw [List.getElem?_append_left (by simpa using hi),List.getElem?_map] at h2
   cases e:vs[i]? with
   | none=>rw [e] at h2;cases h2
   | some a=>rw [e] at h2;cases h2;rfl
  obtain ⟨u,hu,rv⟩:=r.get ha
  have hp:ps[i]?=some y:=by
   rw [← S.pre,List.getElem?_take_of_lt (by omega)];exact h1
  have ndP:ps.Nodup:=by rw [← S.pre];exact S.nd.sublist (List.take_sublist _ _)
  refine ⟨u,rv,?_⟩
  rcases S.par y (List.mem_of_getElem? hp) with k | k
  ·exact .inl ⟨k,zfH ndP hp hu k⟩
  ·obtain ⟨c,e⟩:=zgF (n:=s.heap.objs.size + 1) k
   refine .inr ⟨.inl k,c,e,?_⟩
   have q:=x.cell y c e
   rw [zfJ ndP hp hu (by show scope.names.lookup y≠_;rw [k];decide)] at q
   exact q
 ·exact e0.hok.fresh (Nat.le_of_lt (x.above y c (PySem.mem_of_lookup h)))
 ·unfold start
  show _=N.length
  rw [List.length_append,List.length_map,List.length_replicate]
  omega
theorem zmE {CX:CXT}{P:Program} {w:World}{K:PySem.W.Frag} {mg:Str→Option Value}{base:Heap} {k:Nat}{f:Addr} {name qual:Str}{params:Arguments} {body:List Stmt}{scope:Scope} {dV kV doc pm cdv ct oc:Value}{an od:Option Addr}
  {osl:Array (Option Value)} {N ps:List Str}{sp:Sp} (lk:K.lookup f=some ⟨oc,od,.func (PySem.W.fnOf name qual params body scope dV kV doc pm an cdv ct),osl⟩) (hcd:PySem.W.codeIn K cdv qual=true) (S:zaD N ps scope)
  (len:∀ vs H Q E,sp vs H Q E→vs.length=ps.length)
  (hbody:∀ (A:Around) (outer:List Env) (s:Shared) (H:Hp) (vs:List V) (Q:VK) (E:XK),Room k (A.deeper (envOfC qual scope s.heap.objs.size f cdv))→sp vs H Q E→
   ∃ t,PSs (cxOf CX P w K mg base N qual scope f cdv A outer s H E) body t∧t { nx:=fun _ H'=>Q .non H',rt:=Q } (start N vs) H) :
  FnOk P w K mg base CX (k + 1) f (PySem.W.fnOf name qual params body scope dV kV doc pm an cdv ct) ps sp:=by
 refine ⟨len,fun A outer s H args us vs Q E hr e0 hb r hsp=>?_⟩
 have hl:=len _ _ _ _ hsp
 have KX:K.In s.heap:=e0.mod.kin.keeps fun b o e=>(e0.bs b o e).1
 have lim:s.heap.NoLimit:=e0.mod.nolimit.keeps fun b o e=>(e0.bs b o e).1
 have hkind:∀ y∈ps.zip us,scope.names.lookup y.1=some .local∨(scope.names.lookup y.1=some .cell∧((cellsFrom (s.heap.objs.size + 1) scope.names []).lookup y.1).isSome=true):=fun ⟨n,v⟩ hy=>by
  rcases S.par n (List.of_mem_zip hy).1 with q | q
  ·exact .inl q
  ·exact .inr ⟨q,PySem.W.cellsFrom_some _ _ _ (.inl q)⟩
 refine codeAny_call_function hr.depth (KX _ _ lk) rfl S.co S.gen rfl (PySem.W.codeRec_of KX hcd) (hb _ _ _ _ ?_)
 refine wpAny_newFunctionEnv_cells S.kind hkind fun env he s1 x=>?_
 subst he
 refine ⟨lim.keeps x.toInCall.keep,codeAny_func ?_⟩
 obtain ⟨t,ht,hq⟩:=hbody A outer s H vs Q E (hr.deeper _) hsp
 have I:Inv (cxOf CX P w K mg base N qual scope f cdv A outer s H E) [] (start N vs) H s1:=zhS S hr.hd e0 hl r x
 refine wpAny_mono (ht [] s1 (start N vs) H _ I hq) (fun fl s' hs=>?_) fun e s' hs=>hs
 have fin:∀ {σ':St}{H':Hp} {v:V}{u:Value},Inv (cxOf CX P w K mg base N qual scope f cdv A outer s H E) [] σ' H' s'→RelV v u→Q v H'→CE outer P w H s Q u s':=
  fun {σ' H' v u} J rv q=>⟨v,H',J.os,J.bare,J.base,J.hok,rv,q⟩
 cases fl with
 | ret u=>
  obtain ⟨v,σ',H',J,rv,q⟩:=hs
  exact fin J rv q
 | next=>
  obtain ⟨σ',H',J,q⟩:=hs
  exact fin (v:=V.non) (u:=Value.none) J rfl q
 | brk=>
  obtain ⟨_,_,_,q⟩:=hs
  exact False.elim q
 | cont=>
  obtain ⟨_,_,_,q⟩:=hs
  exact False.elim q
end L2
namespace L2
open PySem PySem.Spec PyProof.Rows
section
variable {X:Cx}{x:Str} {p pos:Pos}{e:Expr} {es:List Expr}{t:TA} {id T:String}{r:List V→Hp→VK→Prop}
noncomputable def tCB (r:List V→Hp→VK→Prop) (t:TA):TE:=fun σ H Q=>t σ H fun vs H1=>r vs H1 Q
theorem zgr (hc:zcj X (.builtin id) r) (hg:Gl X x) (hm:X.mg x=none) (hv:bootBuiltins x=some (.builtin id)) (ha:PA X (e::es) t) (hn:x ≠ "__name__" := by decide) (hdb:(x == ("__debug__" : Str))=false:=by decide)
  (he:starEach (e::es) X.env=(false,eval e X.env)::starEach es X.env:=by rfl) (hpl:(backTo pos (starEach es X.env)).any (·.1)=false:=by rfl):PE X (.Call (.Name x p) (e::es) [] pos) (tCB r t):=by
 intro pins s σ H Q I h
 refine wpAny_Call_Name_kw (zdM I hg hm hv ?_ hn hdb)
 exact PyProof.Rows.callWith_builtin1 (thn (ha pos pins s σ H _ I h) fun us s1 ⟨vs,H1,I1,r1,q1⟩=>hc pins s1 σ H1 vs us Q I1 r1 q1) he hpl
theorem zhz (hc:zcj X (.type T) r) (hg:Gl X x) (hm:X.mg x=none) (hv:bootBuiltins x=some (.type T)) (ha:PA X (e::es) t) (hn:x ≠ "__name__" := by decide) (hdb:(x == ("__debug__" : Str))=false:=by decide)
  (he:starEach (e::es) X.env=(false,eval e X.env)::starEach es X.env:=by rfl) (hpl:(backTo pos (starEach es X.env)).any (·.1)=false:=by rfl):PE X (.Call (.Name x p) (e::es) [] pos) (tCB r t):=by
 intro pins s σ H Q I h
 refine wpAny_Call_Name_kw (zdM I hg hm hv ?_ hn hdb)
 exact PyProof.Rows.callWith_type1 (thn (ha pos pins s σ H _ I h) fun us s1 ⟨vs,H1,I1,r1,q1⟩=>hc pins s1 σ H1 vs us Q I1 r1 q1) he hpl
theorem zgQ (hc:zcj X (.type T) r) (hg:Gl X x) (hm:X.mg x=none) (hv:bootBuiltins x=some (.type T)) (hn:x ≠ "__name__" := by decide) (hdb:(x == ("__debug__" : Str))=false:=by decide) :
  PE X (.Call (.Name x p) [] [] pos) (tCB r tNil):=by
 intro pins s σ H Q I h
 refine wpAny_Call_Name_kw (zdM I hg hm hv ?_ hn hdb)
 exact PyProof.Rows.callWith_type0 (hc pins s σ H [] [] Q I .nil h)
end
end L2
namespace HT
open PySem PyProof.Rows
noncomputable def lexLt:List Int→List Int→Bool
 | [],[]=>false
 | [],_::_=>true
 | _::_,[]=>false
 | x::xs,y::ys=>if x=y then lexLt xs ys else decide (x < y)
section
open PySem.SeqAt
open PySem.AutoSeq1 (wpAny_loadPart')
open PySem.MeetsSeq PySem.MeetsSeq2 PySem.MeetsSeq3
end
section
variable {prog:Program}{w:World} {A:Around}{E:Value→Shared→Prop} {s:Shared}
theorem cat_tup {t b:Addr}{vs ws:List Value} {Q:Value→Shared→Prop}(ht:IsTup s.heap t vs.toArray) (hb:IsTup s.heap b ws.toArray) (hv:vs≠[])
  (h1:ws=[]→Q (.ref t) s) (h2:ws≠[]→Q (.ref s.heap.objs.size) { s with heap:=s.heap.push { cls:=.type "tuple",data:=.seq (vs++ws).toArray } })
  (hsz:vs.length + ws.length≤sizeLine):wpAny (model prog w) A (binaryOp .Add (.ref t) (.ref b)) Q E s:=by
 obtain ⟨⟨cls,dd,data,sl⟩,ho,hc,n,hd⟩:=id ht
 obtain ⟨⟨cls2,dd2,data2,sl2⟩,ho2,hc2,n2,hd2⟩:=id hb
 simp only at hc hd hc2 hd2
 subst hc hd hc2 hd2
 have e:vs.toArray++ws.toArray=(vs++ws).toArray:=by simp
 by_cases hw:ws=[]
 ·exact concat_meets ⟨_,ho,rfl⟩ ⟨_,ho2,rfl⟩ noFill_tuple_add seq_tuple_add PySem.F.slot_tuple_add PySem.F.entry_tuple_add (PySem.F.args_tuple_add_2 _ _)
   (tuple_addW1 t b vs.toArray ws.toArray n n2 dd dd2 sl sl2 (by simpa using hv) (by simp [hw])) ⟨ho,ho2,h1 hw⟩
 ·refine concat_meets ⟨_,ho,rfl⟩ ⟨_,ho2,rfl⟩ noFill_tuple_add seq_tuple_add PySem.F.slot_tuple_add PySem.F.entry_tuple_add (PySem.F.args_tuple_add_2 _ _)
   (tuple_addW2 t b vs.toArray ws.toArray n n2 dd dd2 sl sl2 (by simpa using hv) (by simpa using hw) (by rw [List.size_toArray,List.size_toArray];exact hsz)) ⟨ho,ho2,?_⟩
  rw [e]
  exact h2 hw
noncomputable def sIx (n d:Nat):Option Int→Nat
 | none=>d
 | some v=>if v < 0 then (v + (n:Int)).toNat else min v.toNat n
theorem sIx_none (n d:Nat):sIx n d none=d:=rfl
theorem sIx_nat (n d k:Nat):sIx n d (some (k:Int))=min k n:=by
 show (if (k:Int) < 0 then ((k:Int) + (n:Int)).toNat else min (k:Int).toNat n)=min k n
 rw [if_neg (by omega),Int.toNat_natCast]
theorem zkS (n d:Nat) (hd:d≤n) (o:Option Int):sIx n d o≤n:=by
 cases o with
 | none=>exact hd
 | some v=>
  show (if v < 0 then (v + (n:Int)).toNat else min v.toNat n)≤n
  by_cases hv:v < 0
  ·rw [if_pos hv];omega
  ·rw [if_neg hv];exact Nat.min_le_right _ _
theorem zii (v:Int) (n d:Nat):(if v < 0 then max (v + (n:Int)) 0 else min v (n:Int))=((sIx n d (some v):Nat):Int):=by
 show (if v < 0 then max (v + (n:Int)) 0 else min v (n:Int))=(((if v < 0 then (v + (n:Int)).toNat else min v.toNat n):Nat):Int)
 by_cases hv:v < 0
 ·simp only [if_pos hv];omega
 ·simp only [if_neg hv];omega
theorem zhd (lo hi:Option Int) (n:Nat):Builtin.Slice.sliceAdjust lo hi 1 (n:Int)=(((sIx n 0 lo:Nat):Int),((sIx n n hi:Nat):Int)):=by
 have h1:¬ ((1:Int) < 0):=by omega
 unfold Builtin.Slice.sliceAdjust
 simp only [h1,if_false]
 refine Prod.ext ?_ ?_
 ·cases lo with
  | none=>rfl
  | some v=>exact zii v n 0
 ·cases hi with
  | none=>rfl
  | some v=>exact zii v n n
theorem zgP (i j:Nat):Builtin.Slice.slicePlaces (i:Int) (j:Int) 1=j - i:=by
 unfold Builtin.Slice.slicePlaces
 have h1:(1:Int) > 0:=by omega
 simp only [h1,if_true,Int.ediv_one]
 split<;>omega
theorem zef {v:Value}{o:Option Int} {Q:Option Int→Shared→Prop}(p:IsPart v o) (h:Q o s):wpAny (model prog w) A (Builtin.Slice.slicePartIndex v) Q E s:=by
 cases p with
 | none=>exact slicePart_none h
 | int i t=>exact slicePart_int h
theorem zbE {sl:Addr}{vl vu:Value} {lo hi:Option Int}{n:Nat} {Q:Int×Int×Nat→Shared→Prop}(hs:s.heap.IsSliceOf sl vl vu .none) (pl:IsPart vl lo) (pu:IsPart vu hi)
  (h:Q (((sIx n 0 lo:Nat):Int),1,sIx n n hi - sIx n 0 lo) s):wpAny (model prog w) A (Builtin.Slice.sliceApplied (.ref sl) (pure (n:Int))) Q E s:=by
 obtain ⟨os,hos,hcs,hds⟩:=id hs
 unfold Builtin.Slice.sliceApplied Builtin.Slice.sliceFields
 refine wpAny_bind (wpAny_bind (wpAny_field hos hds (x:=vl) rfl (wpAny_bind (wpAny_field hos hds (x:=vu) rfl (wpAny_bind (wpAny_field hos hds (x:=.none) rfl (wpAny_pure ?_)))))))
 refine wpAny_bind (slicePart_none ?_)
 show wpAny _ _ (if ((1:Int) == 0)=true then _ else _) _ _ s
 rw [if_neg (by decide)]
 refine wpAny_bind (zef pl (wpAny_bind (zef pu (wpAny_bind (wpAny_pure ?_)))))
 show wpAny _ _ (match Builtin.Slice.sliceAdjust lo hi 1 (n:Int) with | (lo,hi)=>pure (lo,(1:Int),Builtin.Slice.slicePlaces lo hi 1)) _ _ s
 rw [zhd lo hi n]
 show wpAny _ _ (pure (((sIx n 0 lo:Nat):Int),(1:Int),Builtin.Slice.slicePlaces ((sIx n 0 lo:Nat):Int) ((sIx n n hi:Nat):Int) 1)) _ _ s
 rw [zgP]
 exact wpAny_pure h
theorem ziE (xs:Array Value) (i k:Nat):((List.range k).filterMap fun (m:Nat)=>xs[((i:Int) + (m:Int) * 1).toNat]?).toArray=((xs.toList.drop i).take k).toArray:=by
 have e:(fun (m:Nat)=>xs[((i:Int) + (m:Int) * 1).toNat]?)=fun m=>xs[i + m]?:=by
  funext m
  have:((i:Int) + (m:Int) * 1).toNat=i + m:=by omega
  rw [this]
 rw [e]
 have:=pick_run xs i k
 rw [List.filterMap_map] at this
 have e2:((fun x=>xs[x]?) ∘ fun x=>i + x)=fun m=>xs[i + m]?:=rfl
 rw [e2] at this
 rw [this]
theorem getItem_tuple_cut {t sl:Addr}{items:Array Value} {vl vu:Value}{lo hi:Option Int} {Q:Value→Shared→Prop}(ht:IsTup s.heap t items) (hs:s.heap.IsSliceOf sl vl vu .none) (pl:IsPart vl lo) (pu:IsPart vu hi)
  (hw:¬ (sIx items.size 0 lo=0∧sIx items.size items.size hi=items.size))
  (h:Q (.ref s.heap.objs.size) { s with heap:=s.heap.push { cls:=.type "tuple",data:=.seq ((items.toList.drop (sIx items.size 0 lo)).take (sIx items.size items.size hi - sIx items.size 0 lo)).toArray } })
  (hsz:items.size≤sizeLine):wpAny (model prog w) A (getItem (.ref t) (.ref sl)) Q E s:=by
 have htake:sizeOk (.seq ((items.toList.drop (sIx items.size 0 lo)).take (sIx items.size items.size hi - sIx items.size 0 lo)).toArray):=by
  show ((items.toList.drop (sIx items.size 0 lo)).take (sIx items.size items.size hi - sIx items.size 0 lo)).toArray.size≤sizeLine
  rw [List.size_toArray,List.length_take,List.length_drop,Array.length_toList]
  omega
 have hj:sIx items.size items.size hi≤items.size:=zkS _ _ (Nat.le_refl _) hi
 obtain ⟨os,hos,hcs,hds⟩:=id hs
 have hTs:s.TypeIs (.ref sl) "slice" := ⟨os,hos,hcs⟩
 unfold getItem
 try with_reducible refine wpAny_holding ?_
 first | refine wpAny_bind (wpAny_pure ?_) | skip
 refine wpAny_bind (wpAny_sequenceKey ht.typeIs (by decide) ?_)
 refine wpAny_bind (wpAny_callSpecial?_slot (name:=Str.ofString "__getitem__") ht.typeIs PyProof.Rows.slot_tuple_getitem
  (wpAny_call_entry PyProof.Rows.slot_tuple_getitem ht.typeIs entry_tuple_getitem ?_ (args_tuple_getitem _ _)))
 show wpAny _ _ (Builtin.Tuple.tupleItemsOf (.ref t) >>= _) _ _ s
 refine wpAny_bind (tupleItemsOf_ ht ?_)
 refine wpAny_bind (wpAny_typeOf hTs ?_)
 rw [if_pos (by decide)]
 refine wpAny_bind (zbE hs pl pu ?_)
 have hno:¬ ((((sIx items.size 0 lo:Nat):Int) == 0 && (1:Int) == 1 && (sIx items.size items.size hi - sIx items.size 0 lo) == items.size)=true):=by
  intro q
  rw [Bool.and_eq_true,Bool.and_eq_true] at q
  have q1:((sIx items.size 0 lo:Nat):Int)=0:=eq_of_beq q.1.1
  have q2:sIx items.size items.size hi - sIx items.size 0 lo=items.size:=eq_of_beq q.2
  exact hw ⟨by omega,by omega⟩
 show wpAny _ _ (if (((sIx items.size 0 lo:Nat):Int) == 0 && (1:Int) == 1 && (sIx items.size items.size hi - sIx items.size 0 lo) == items.size)=true then _ else _) _ _ s
 rw [if_neg hno,ziE]
 first
  | exact wpAny_bind (m:=Builtin.Tuple.tupleExact _) (wpAny_newObj_type (wpAny_pure ⟨_,rfl,wpAny_pure h⟩) htake)
  | exact wpAny_bind (m:=Builtin.Tuple.tupleExact _) (wpAny_newObj_type (wpAny_bind (wpAny_pure (wpAny_pure ⟨_,rfl,wpAny_pure h⟩))) htake)
  | exact wpAny_bind (wpAny_bind (m:=Builtin.Tuple.tupleExact _) (wpAny_newObj_type (wpAny_pure (wpAny_pure ⟨_,rfl,wpAny_pure h⟩)) htake))
  | exact wpAny_bind (wpAny_bind (m:=Builtin.Tuple.tupleExact _) (wpAny_newObj_type (wpAny_pure ⟨_,rfl,wpAny_pure h⟩) htake))
end
end HT
namespace L2
open PySem PySem.Spec PyProof.Rows
noncomputable abbrev TO:=St→Hp→(Option Int→Hp→Prop)→Prop
noncomputable def PO (X:Cx) (e:Option Expr) (t:TO):Prop:=
 ∀ (pins:List (Addr×Obj)) (s:Shared) (σ:St) (H:Hp) (Q:Option Int→Hp→Prop),Inv X pins σ H s→t σ H Q→
  wpAny (model X.prog X.w) X.A (evalPart e X.env) (fun u s'=>∃ o H',Inv X pins σ H' s'∧IsPart u o∧Q o H') X.xe s
noncomputable def zjI:TO:=fun _ H Q=>Q none H
noncomputable def zmd (t:TE):TO:=fun σ H Q=>t σ H fun x H1=>∃ i,x=.int i∧Q (some i) H1
theorem zgV {ns:List Int}:∀ {us:List Value},Vals (ns.map V.int) us→IntsAre us ns:=by
 induction ns with
 | nil=>intro us r;rw [List.map_nil] at r;cases r;exact .nil
 | cons n ns ih=>
  intro us r
  rw [List.map_cons] at r
  cases r with
  | cons r1 r2=>
   obtain ⟨t,e⟩:=r1
   subst e
   exact .cons n t (ih r2)
section
variable {X:Cx}{e:Expr} {te:TE}{lo hi:Option Expr} {tl th:TO}{pos p2:Pos}
theorem zjV:PO X none zjI:=by
 intro pins s σ H Q I h
 rw [evalPart_none]
 exact wpAny_pure ⟨none,H,I,.none,h⟩
theorem zjU (h:PE X e te):PO X (some e) (zmd te):=by
 intro pins s σ H Q I hw
 rw [evalPart_some]
 refine thn (h pins s σ H _ I hw) fun u s1 h_=>?_
 obtain ⟨x,H1,I1,r1,q1⟩:=h_
 obtain ⟨i,rfl,q⟩:=q1
 obtain ⟨t,rfl⟩:=r1
 exact ⟨some i,H1,I1,.int i t,q⟩
noncomputable def SlR (X:Cx) (r:V→Option Int→Option Int→Hp→VK→Prop):Prop:=
 ∀ (pins:List (Addr×Obj)) (s:Shared) (σ:St) (H:Hp) (x:V) (v vl vu:Value) (lo hi:Option Int) (sl:Addr) (Q:VK),Inv X pins σ H s→RelV x v→s.heap.IsSliceOf sl vl vu .none→IsPart vl lo→IsPart vu hi→r x lo hi H Q→
  ∃ T id,typeLookup (.type T) "__getitem__" = pure (some (.builtin id))∧s.TypeIs v T∧wpAny (model X.prog X.w) X.A (getItem v (.ref sl)) (EP X pins σ Q) X.xe s
theorem SlR.or {r r':V→Option Int→Option Int→Hp→VK→Prop}(h:SlR X r) (h':SlR X r'):SlR X (fun x lo hi H Q=>r x lo hi H Q∨r' x lo hi H Q):=by
 intro pins s σ H x v vl vu lo hi sl Q I rx hs pl pu q
 rcases q with q | q
 ·exact h pins s σ H x v vl vu lo hi sl Q I rx hs pl pu q
 ·exact h' pins s σ H x v vl vu lo hi sl Q I rx hs pl pu q
noncomputable def tSl (r:V→Option Int→Option Int→Hp→VK→Prop) (te:TE) (tl th:TO):TE:=fun σ H Q=>te σ H fun x H1=>tl σ H1 fun l H2=>th σ H2 fun u H3=>r x l u H3 Q
theorem ziH {r:V→Option Int→Option Int→Hp→VK→Prop}(hr:SlR X r) (he:PE X e te) (hl:PO X lo tl) (hu:PO X hi th):PE X (.Subscript e (.Slice lo hi none p2) pos) (tSl r te tl th):=by
 intro pins s σ H Q I h
 refine Subscript_ (thn (he pins s σ H _ I h) fun v s1 ⟨x,H1,I1,r1,q1⟩=>?_)
 refine wpAny_Slice (thn (hl pins s1 σ H1 _ I1 q1) fun vl s2 ⟨l,H2,I2,pl,q2⟩=>thn (hu pins s2 σ H2 _ I2 q2) fun vu s3 ⟨u,H3,I3,pu,q3⟩=>?_)
 rw [evalPart_none]
 refine wpAny_pure ?_
 have I4:Inv X pins σ H3 { s3 with heap:=s3.heap.push { cls:=.type "slice",data:=.fields #[vl,vu,.none] } }:=I3.kept (t':=s3.toks) fun b ob q=>Heap.get?_push_of_some _ q
 obtain ⟨T,id,hT,ht,hg⟩:=hr pins { s3 with heap:=s3.heap.push { cls:=.type "slice",data:=.fields #[vl,vu,.none] } } σ H3 x v vl vu l u s3.heap.objs.size Q I4 r1 (Heap.IsSliceOf.new ..) pl pu q3
 show wpAny (model X.prog X.w) X.A (subscriptTail e (.Slice lo hi none p2) v (.ref s3.heap.objs.size)) (EP X pins σ Q) X.xe { s3 with heap:=s3.heap.push { cls:=.type "slice",data:=.fields #[vl,vu,.none] } }
 exact tail_any (ops:=[.ref s3.heap.objs.size,v]) ht hT hg (by with_unfolding_all rfl)
noncomputable def cutV (xs:List V) (lo hi:Option Int):List V:=(xs.drop (HT.sIx xs.length 0 lo)).take (HT.sIx xs.length xs.length hi - HT.sIx xs.length 0 lo)
theorem zdV (xs:List V) (lo hi:Option Int):(cutV xs lo hi).length≤xs.length:=by
 unfold cutV
 rw [List.length_take,List.length_drop]
 omega
noncomputable def rSlT (K:PySem.W.Frag):V→Option Int→Option Int→Hp→VK→Prop:=fun x lo hi H Q=>∃ a xs,x=.ref a∧SqT K H a xs∧
 ¬ (HT.sIx xs.length 0 lo=0∧HT.sIx xs.length xs.length hi=xs.length)∧∀ p,H p=none→Q (.ref p) (upd H p (.tup (cutV xs lo hi)))
theorem zkO:SlR X (rSlT X.K):=by
 intro pins s σ H x v vl vu lo hi sl Q I rx hs pl pu h
 obtain ⟨a,xs,rfl,hx,hw,q⟩:=h
 cases rx
 obtain ⟨its,r,ht,hz⟩:=I.tuple hx
 have hlen:its.toArray.size=xs.length:=by rw [List.size_toArray];exact r.length.symm
 refine ⟨"tuple",_,PyProof.Rows.slot_tuple_getitem.lookup,ht.typeIs,?_⟩
 refine HT.getItem_tuple_cut ht hs pl pu (by rw [hlen];exact hw) ?_ (by rw [hlen];exact hz)
 rw [hlen]
 refine ⟨.ref s.heap.objs.size,_,I.laid (t':=s.toks) (o:=.tup (cutV xs lo hi)) (fun b ob q=>Heap.get?_push_of_some _ q) (Nat.le_refl _) ?_,rfl,q _ (I.hok.fresh (Nat.le_refl _))⟩
 exact ⟨Nat.le_trans (zdV xs lo hi) hz,_,(r.drop (HT.sIx xs.length 0 lo)).take (HT.sIx xs.length xs.length hi - HT.sIx xs.length 0 lo),IsTup.new _ _⟩
noncomputable def zmo (K:PySem.W.Frag):R2:=fun x y H Q=>∃ a b xs ys,x=.ref a∧y=.ref b∧SqT K H a xs∧SqT K H b ys∧xs≠[]∧xs.length + ys.length≤sizeLine∧
 (ys=[]→Q (.ref a) H)∧(ys≠[]→∀ p,H p=none→Q (.ref p) (upd H p (.tup (xs++ys))))
theorem Vals.nil_iff {xs:List V}{us:List Value} (r:Vals xs us):us=[]↔xs=[]:=by
 cases r with
 | nil=>simp
 | cons _ _=>simp
theorem zkg:OpR X (binaryOp .Add) (zmo X.K):=by
 intro pins s σ H x y v u Q I rx ry h
 obtain ⟨a,b,xs,ys,rfl,rfl,ha,hb,hx,hz,q1,q2⟩:=h
 cases rx
 cases ry
 obtain ⟨its,r1,p1,_⟩:=I.tuple ha
 obtain ⟨its2,r2,p2,_⟩:=I.tuple hb
 refine HT.cat_tup p1 p2 (fun z=>hx (r1.nil_iff.mp z)) (fun z=>⟨.ref a,H,I,rfl,q1 (r2.nil_iff.mp z)⟩) (fun z=>?_) (by rw [← r1.length,← r2.length];exact hz)
 refine ⟨.ref s.heap.objs.size,_,I.laid (t':=s.toks) (o:=.tup (xs++ys)) (fun b ob q=>Heap.get?_push_of_some _ q) (Nat.le_refl _) ?_,rfl,q2 (fun w=>z (r2.nil_iff.mpr w)) _ (I.hok.fresh (Nat.le_refl _))⟩
 exact ⟨by rw [List.length_append];exact hz,_,r1.append r2,IsTup.new _ _⟩
end
end L2
namespace L2
open PySem PySem.Spec PyProof.Rows
noncomputable def ixN (n:Nat) (i:Int):Option Nat:=if 0≤i then (if i < n then some i.toNat else none) else if -(n:Int)≤i then some (i + n).toNat else none
noncomputable def atI {α:Type}(xs:List α) (i:Int):Option α:=(ixN xs.length i).bind fun j=>xs[j]?
theorem zkq {n:Nat}{i:Int} {j:Nat}(h:ixN n i=some j):seqIndex? i n=some j∧j < n∧-(n:Int)≤i∧i < n:=by
 unfold ixN at h
 by_cases h0:0≤i
 ·rw [if_pos h0] at h
  by_cases h1:i < n
  ·rw [if_pos h1] at h
   have e:i.toNat=j:=Option.some.inj h
   exact ⟨by rw [seqIndex_of h0 h1,e],by omega,by omega,h1⟩
  ·rw [if_neg h1] at h;cases h
 ·rw [if_neg h0] at h
  by_cases h1:-(n:Int)≤i
  ·rw [if_pos h1] at h
   have e:(i + n).toNat=j:=Option.some.inj h
   exact ⟨by rw [seqIndex_neg (by omega) h1,e],by omega,h1,by omega⟩
  ·rw [if_neg h1] at h;cases h
theorem zgh {α:Type}{xs:List α} {i:Int}{v:α} (h:atI xs i=some v):∃ j,seqIndex? i xs.length=some j∧xs[j]?=some v∧j < xs.length∧-(xs.length:Int)≤i∧i < xs.length:=by
 unfold atI at h
 cases e:ixN xs.length i with
 | none=>rw [e] at h;cases h
 | some j=>
  rw [e] at h
  obtain ⟨h1,h2,h3,h4⟩:=zkq e
  exact ⟨j,h1,h,h2,h3,h4⟩
theorem zcD {α:Type}{xs:List α} {j:Nat}{v:α} (h:xs[j]?=some v):atI xs (j:Int)=some v:=by
 have hj:j < xs.length:=(List.getElem?_eq_some_iff.mp h).1
 have e:ixN xs.length (j:Int)=some j:=by
  unfold ixN
  rw [if_pos (by omega),if_pos (by omega)];simp
 unfold atI;rw [e];exact h
theorem zjo {α:Type}(xs:List α) (v:α):atI (xs++[v]) (-1)=some v:=by
 have hl:(xs++[v]).length=xs.length + 1:=by simp
 have e:ixN (xs++[v]).length (-1)=some xs.length:=by
  unfold ixN
  rw [hl,if_neg (by decide),if_pos (by omega)]
  congr 1
  omega
 unfold atI
 rw [e]
 show (xs++[v])[xs.length]?=some v
 simp
noncomputable def zit (b:Expr):Prop:=∀ o i,subscripted b false o i=operate [o,i] (getItem o i)
noncomputable def IxR (X:Cx) (r:R2):Prop:=
 ∀ (value slice:Expr) (pins:List (Addr×Obj)) (s:Shared) (σ:St) (H:Hp) (x y:V) (v u:Value) (Q:VK),Inv X pins σ H s→RelV x v→RelV y u→r x y H Q→
  subscripted slice false v u=operate [v,u] (getItem v u)→wpAny (model X.prog X.w) X.A (subscriptTail value slice v u) (EP X pins σ Q) X.xe s
noncomputable def MtR (X:Cx) (id:String) (r:V→List V→Hp→VK→Prop):Prop:=
 ∀ (pins:List (Addr×Obj)) (s:Shared) (σ:St) (H:Hp) (x:V) (xs:List V) (v:Value) (us:List Value) (Q:VK),Inv X pins σ H s→RelV x v→Vals xs us→r x xs H Q→
  wpAny (model X.prog X.w) X.A (call (.builtin id) (v::us)) (EP X pins σ Q) X.xe s
section
variable {X:Cx}{a b:Expr} {ta tb:TE}{pos:Pos}
theorem IxR.or {r r':R2}(h:IxR X r) (h':IxR X r'):IxR X (fun x y H Q=>r x y H Q∨r' x y H Q):=by
 intro value slice pins s σ H x y v u Q I rx ry q hs
 rcases q with q | q
 ·exact h value slice pins s σ H x y v u Q I rx ry q hs
 ·exact h' value slice pins s σ H x y v u Q I rx ry q hs
theorem zms {r:R2}(hr:IxR X r) (ha:PE X a ta) (hb:PE X b tb) (hs:zit b):PE X (.Subscript a b pos) (tOp r ta tb):=by
 intro pins s σ H Q I h
 exact Subscript_ (binT ha hb I h fun v u s2 x y H2 I2 rx ry q=>hr a b pins s2 σ H2 x y v u Q I2 rx ry q (hs _ _))
noncomputable def rIxL (K:PySem.W.Frag):R2:=fun x y H Q=>∃ p xs i v,x=.ref p∧y=.int i∧SqL K H p xs∧atI xs i=some v∧Q v H
noncomputable def rIxT (K:PySem.W.Frag):R2:=fun x y H Q=>∃ p xs i v,x=.ref p∧y=.int i∧SqT K H p xs∧atI xs i=some v∧Q v H
noncomputable def rIxS:R2:=fun x y H Q=>∃ z i c,x=.str z∧y=.int i∧z.length≤sizeLine∧atI z.cps.toList i=some c∧Q (.str ⟨#[c]⟩) H
theorem zkp:IxR X (rIxL X.K):=by
 intro value slice pins s σ H x y v u Q I rx ry h hs
 obtain ⟨p,xs,i,z,rfl,rfl,hq,he,q⟩:=h
 cases rx
 obtain ⟨t,rfl⟩:=ry
 obtain ⟨its,r,pl,hz⟩:=I.list hq
 obtain ⟨j,h1,h2,h3,h4,h5⟩:=zgh he
 obtain ⟨w,ew,rw'⟩:=r.get h2
 have hl:=r.length
 have hn:=zeh
 have fin:EP X pins σ Q w s:=⟨z,H,I,rw',q⟩
 by_cases h0:0≤i
 ·have hj:i.toNat=j:=by
   rw [seqIndex_of h0 h5] at h1
   exact Option.some.inj h1
  exact item_listR pl.isList h0 (by omega) (by rw [hj];simpa using ew) fin hs
 ·have hj:(i + (its.toArray.size:Int)).toNat=j:=by
   rw [seqIndex_neg (by omega) h4] at h1
   rw [List.size_toArray,← hl]
   exact Option.some.inj h1
  exact subscriptTail_builtinR (x:=w) pl.isList.typeIs slot_list_getitem.lookup
   (wpAny_getItem_list_neg (Q:=fun r s'=>r=w∧EP X pins σ Q r s') pl.isList (by omega) (by rw [List.size_toArray]<;>omega) (by omega) (by rw [hj];simpa using ew) ⟨rfl,fin⟩) hs
theorem zlK:IxR X (rIxT X.K):=by
 intro value slice pins s σ H x y v u Q I rx ry h hs
 obtain ⟨p,xs,i,z,rfl,rfl,hq,he,q⟩:=h
 cases rx
 obtain ⟨t,rfl⟩:=ry
 obtain ⟨its,r,pl,hz⟩:=I.tuple hq
 obtain ⟨j,h1,h2,h3,h4,h5⟩:=zgh he
 obtain ⟨w,ew,rw'⟩:=r.get h2
 have hl:=r.length
 have hn:=zeh
 have fin:EP X pins σ Q w s:=⟨z,H,I,rw',q⟩
 exact subscriptTail_builtinR (x:=w) pl.typeIs slot_tuple_getitem.lookup
  (getItem_tuple (j:=j) (Q:=fun r s'=>r=w∧EP X pins σ Q r s') pl (by omega) (by omega) (by rw [List.size_toArray,← hl];exact h1) (by simpa using ew) ⟨rfl,fin⟩) hs
theorem zlL:IxR X rIxS:=by
 intro value slice pins s σ H x y v u Q I rx ry h hs
 obtain ⟨z,i,c,rfl,rfl,hz,he,q⟩:=h
 obtain ⟨t,rfl⟩:=rx
 obtain ⟨t',rfl⟩:=ry
 obtain ⟨j,h1,h2,h3,h4,h5⟩:=zgh he
 have hl:z.cps.toList.length=z.length:=by simp [Str.length]
 rw [hl] at h1 h4 h5
 have hn:=zeh
 exact tail_any (typeIs_str s z t) slot_str_getitem.lookup (getItem_str (c:=c) (by
  have e1:decide (i < -(2 ^ 63:Int))=false:=decide_eq_false (by omega)
  have e2:decide (i ≥ 2 ^ 63)=false:=decide_eq_false (by omega)
  rw [e1,e2,Bool.or_false]) (by rw [h1];simpa using h2) ⟨.str ⟨#[c]⟩,H,I.tok _,⟨_,rfl⟩,q⟩) hs
theorem zeZ (lo hi:Option Int) (n:Nat):(sliceBounds lo hi none n).1=((HT.sIx n 0 lo:Nat):Int)∧(sliceBounds lo hi none n).2.1=((HT.sIx n n hi:Nat):Int)∧(sliceBounds lo hi none n).2.2=1:=by
 refine ⟨?_,?_,rfl⟩
 ·cases lo with
  | none=>simp [sliceBounds,HT.sIx]
  | some i=>
   simp only [sliceBounds,HT.sIx,Option.getD_none,show (1:Int) > 0 by decide,if_true]
   by_cases h:i < 0
   ·simp only [h,if_true]<;>omega
   ·simp only [h,if_false]<;>omega
 ·cases hi with
  | none=>simp [sliceBounds,HT.sIx]
  | some i=>
   simp only [sliceBounds,HT.sIx,Option.getD_none,show (1:Int) > 0 by decide,if_true]
   by_cases h:i < 0
   ·simp only [h,if_true]<;>omega
   ·simp only [h,if_false]<;>omega
theorem zeu (its:List Value) (lo hi:Option Int):slicePick its.toArray lo hi none=((its.drop (HT.sIx its.length 0 lo)).take (HT.sIx its.length its.length hi - HT.sIx its.length 0 lo)).toArray:=by
 obtain ⟨h1,h2,h3⟩:=zeZ lo hi its.toArray.size
 unfold slicePick
 rw [h1,h2,h3]
 simp only [sliceRange_one,pick_run,List.size_toArray]<;>rfl
noncomputable def rSlL (K:PySem.W.Frag):V→Option Int→Option Int→Hp→VK→Prop:=fun x lo hi H Q=>∃ a xs,x=.ref a∧SqL K H a xs∧∀ p,H p=none→Q (.ref p) (upd H p (.lst (cutV xs lo hi)))
theorem zjM:SlR X (rSlL X.K):=by
 intro pins s σ H x v vl vu lo hi sl Q I rx hs pl pu h
 obtain ⟨a,xs,rfl,hx,q⟩:=h
 cases rx
 obtain ⟨its,r,ht,hz⟩:=I.list hx
 have hlen:=r.length
 refine ⟨"list",_,slot_list_getitem.lookup,ht.isList.typeIs,?_⟩
 refine wpAny_getItem_list_slice ht.isList hs pl pu .none (by simp) ?_ (by rw [List.size_toArray]<;>omega)
 rw [zeu,← hlen]
 refine ⟨.ref s.heap.objs.size,_,I.laid (t':=s.toks) (o:=.lst (cutV xs lo hi)) (fun b ob q=>Heap.get?_push_of_some _ q) (Nat.le_refl _) ?_,rfl,q _ (I.hok.fresh (Nat.le_refl _))⟩
 exact ⟨Nat.le_trans (zdV xs lo hi) hz,_,0,(r.drop (HT.sIx xs.length 0 lo)).take (HT.sIx xs.length xs.length hi - HT.sIx xs.length 0 lo),Heap.get?_push_size _ rfl⟩
theorem zfE:zcj X (.builtin "len") (fun xs H Q=>∃ p ys,xs=[.ref p]∧(SqL X.K H p ys∨SqT X.K H p ys)∧Q (.int ys.length) H):=by
 intro pins s σ H xs us Q I r h
 obtain ⟨p,ys,rfl,hq,q⟩:=h
 obtain ⟨u,rfl,rx⟩:=zeU r
 cases rx
 have hn:=zeh
 rcases hq with hq | hq
 ·obtain ⟨its,r',pl,hz⟩:=I.list hq
  have hlen:=r'.length
  exact Calls.call_len_list pl.isList (by simp only [List.size_toArray]<;>omega) ⟨.int ys.length,H,I.tok _,⟨s.toks + 1,by rw [List.size_toArray,hlen]⟩,q⟩
 ·obtain ⟨its,r',pl,hz⟩:=I.tuple hq
  have hlen:=r'.length
  exact len_tuple pl (by simp only [List.size_toArray]<;>omega) ⟨.int ys.length,H,I.tok _,⟨s.toks + 1,by rw [List.size_toArray,hlen]⟩,q⟩
theorem zfD:zcj X (.builtin "len") (fun xs H Q=>∃ z,xs=[.str z]∧z.length≤sizeLine∧Q (.int z.length) H):=by
 intro pins s σ H xs us Q I r h
 obtain ⟨z,rfl,hz,q⟩:=h
 obtain ⟨u,rfl,t,rfl⟩:=zeU r
 have hn:=zeh
 exact len_str (by omega) ⟨.int z.length,H,I.tok _,⟨_,rfl⟩,q⟩
theorem zcj.or {f:Value}{r r':List V→Hp→VK→Prop} (h:zcj X f r) (h':zcj X f r'):zcj X f (fun xs H Q=>r xs H Q∨r' xs H Q):=by
 intro pins s σ H xs us Q I rs q
 rcases q with q | q
 ·exact h pins s σ H xs us Q I rs q
 ·exact h' pins s σ H xs us Q I rs q
theorem zfC:zcj X (.type "list") (fun xs H Q=>∃ p ys,xs=[.ref p]∧(SqL X.K H p ys∨SqT X.K H p ys)∧∀ l,H l=none→Q (.ref l) (upd H l (.lst ys))):=by
 intro pins s σ H xs us Q I r h
 obtain ⟨p,ys,rfl,hq,q⟩:=h
 obtain ⟨u,rfl,rx⟩:=zeU r
 cases rx
 have fin:∀ (its:List Value),Vals ys its→ys.length≤sizeLine→∀ (h':Heap) (c':Nat),(∀ b o',s.heap.get? b=some o'→h'.get? b=some o')→
   h'.get? s.heap.objs.size=some { cls:=.type "list",dict:=none,data:=.seq its.toArray c',slots:=#[] }→EP X pins σ Q (.ref s.heap.objs.size) { s with heap:=h' }:=fun its r' hz h' c' kp e=>
  ⟨.ref s.heap.objs.size,_,I.laid (t':=s.toks) kp (Nat.le_refl _) (show zaW X.prog X.w _ h' _ (.lst ys) from ⟨hz,its,c',r',e⟩),rfl,q _ (I.hok.fresh (Nat.le_refl _))⟩
 rcases hq with hq | hq
 ·obtain ⟨its,r',pl,hz⟩:=I.list hq
  have hlen:=r'.length
  obtain ⟨o,ho,hc,n,hd⟩:=pl.isList
  exact call_list_seq p (.inl rfl) ho hc hd (fun h' c' kp e=>fin its r' hz h' c' kp e) (by simp only [List.size_toArray]<;>omega)
 ·obtain ⟨its,r',pl,hz⟩:=I.tuple hq
  have hlen:=r'.length
  obtain ⟨o,ho,hc,n,hd⟩:=pl
  exact call_list_seq p (.inr rfl) ho hc hd (fun h' c' kp e=>fin its r' hz h' c' kp e) (by simp only [List.size_toArray]<;>omega)
theorem zeO:zcj X (.type "tuple") (fun xs H Q=>∃ p ys,xs=[.ref p]∧((SqL X.K H p ys∧∀ l,H l=none→Q (.ref l) (upd H l (.tup ys)))∨(SqT X.K H p ys∧Q (.ref p) H))):=by
 intro pins s σ H xs us Q I r h
 obtain ⟨p,ys,rfl,h⟩:=h
 obtain ⟨u,rfl,rx⟩:=zeU r
 cases rx
 rcases h with ⟨hq,q⟩ | ⟨hq,q⟩
 ·obtain ⟨its,r',pl,hz⟩:=I.list hq
  have hlen:=r'.length
  refine call_tuple_list pl.isList (fun h' kp=>?_) (by simp only [List.size_toArray]<;>omega)
  have I1:Inv X pins σ H { s with heap:=h' }:=I.kept (t':=s.toks) kp
  have I2:Inv X pins σ (upd H h'.objs.size (.tup ys)) { s with heap:=h'.push { cls:=.type "tuple",data:=.seq its.toArray } }:=
   I1.laid (t':=s.toks) (fun b o e=>Heap.get?_push_of_some _ e) (Nat.le_refl _) (show zaW X.prog X.w _ _ _ (.tup ys) from ⟨hz,its,r',IsTup.new _ _⟩)
  exact ⟨.ref h'.objs.size,_,I2,rfl,q _ (I1.hok.fresh (Nat.le_refl _))⟩
 ·obtain ⟨its,r',pl,hz⟩:=I.tuple hq
  exact call_tuple_same pl ⟨.ref p,H,I,rfl,q⟩
noncomputable def tyV (K:PySem.W.Frag) (T:String) (x:V) (H:Hp):Prop:=match x with
 | .str _=>T = "str"
 | .int _=>T = "int"
 | .ref p=>(T = "list" ∧ ∃ xs,SqL K H p xs)∨(T = "tuple" ∧ ∃ o,K.lookup p=some o∧o.cls=.type "tuple" ∧ o.dict=none)∨
   (T = "dict" ∧ ((∃ kvs,H p=some (.dK kvs))∨∃ kvs,H p=some (.dT kvs)))∨(T = "set" ∧ ∃ S,H p=some (.set S))
 | _=>False
theorem zjs {pins:List (Addr×Obj)}{σ:St} {H:Hp}{s:Shared} {T:String}{x:V} {v:Value}(I:Inv X pins σ H s) (r:RelV x v) (ty:tyV X.K T x H) :
  s.TypeIs v T∧∀ a,v=.ref a→∃ ob,s.heap.get? a=some ob∧ob.dict=none:=by
 cases x with
 | str z=>
  obtain ⟨t,rfl⟩:=r
  cases (show T = "str" from ty)
  exact ⟨typeIs_str s z t,fun _ e=>nomatch e⟩
 | int i=>
  obtain ⟨t,rfl⟩:=r
  cases (show T = "int" from ty)
  exact ⟨typeIs_int s i t,fun _ e=>nomatch e⟩
 | ref p=>
  cases r
  rcases ty with ⟨rfl,xs,hq⟩ | ⟨rfl,o,hk,hc,hd⟩ | ⟨rfl,hk⟩ | ⟨rfl,S,hk⟩
  ·obtain ⟨its,_,pl,_⟩:=I.list hq
   refine ⟨pl.isList.typeIs,fun a e=>?_⟩
   cases e
   obtain ⟨o,n,e,c,hd,_⟩:=pl
   exact ⟨o,e,hd⟩
  ·refine ⟨⟨o,I.kIn p o hk,hc⟩,fun a e=>?_⟩
   cases e
   exact ⟨o,I.kIn _ o hk,hd⟩
  ·have z:∃ o,s.heap.get? p=some o∧o.ExactDict:=by
    rcases hk with ⟨kvs,hk⟩ | ⟨kvs,hk⟩
    ·obtain ⟨_,_,_,_,o,_,_,e,ex,_⟩:=I.hok p _ hk
     exact ⟨o,e,ex⟩
    ·obtain ⟨_,_,_,_,o,_,_,e,ex,_⟩:=I.hok p _ hk
     exact ⟨o,e,ex⟩
   obtain ⟨o,e,ex⟩:=z
   refine ⟨⟨o,e,ex.1⟩,fun a e2=>?_⟩
   cases e2
   exact ⟨o,e,ex.2.1⟩
  ·obtain ⟨o,_,_,_,e,ex,_⟩:=I.hok p _ hk
   refine ⟨⟨o,e,ex.1⟩,fun a e2=>?_⟩
   cases e2
   exact ⟨o,e,ex.2.1⟩
 | _=>exact False.elim ty
noncomputable def tBM0 (K:PySem.W.Frag) (T:String) (r:V→List V→Hp→VK→Prop) (to:TE):TE:=fun σ H Q=>to σ H fun x H1=>tyV K T x H1∧r x [] H1 Q
noncomputable def tBM (K:PySem.W.Frag) (T:String) (r:V→List V→Hp→VK→Prop) (to:TE) (t:TA):TE:=fun σ H Q=>to σ H fun x H1=>tyV K T x H1∧t σ H1 fun xs H2=>r x xs H2 Q
variable {o e:Expr}{es:List Expr} {to:TE}{t:TA} {name:Str}{apos cpos:Pos} {T id:String}{r:V→List V→Hp→VK→Prop}
theorem zlk (pa:PlainAttrs T) (slot:Slot T name id) (hty:typeOf (.builtin id)=pure (.type "method_descriptor")) (hm:MtR X id r) (ho:PE X o to)
  (hbase:attributeBase o name X.env (eval o X.env)=eval o X.env:=by rfl) (hline:(apos.endLine == cpos.line)=true:=by rfl):PE X (.Call (.Attribute o name apos) [] [] cpos) (tBM0 X.K T r to):=by
 intro pins s σ H Q I h
 refine wpAny_Call_method0_late hbase hline (thn (ho pins s σ H _ I h) fun v s1 ⟨x,H1,I1,r1,ty,q1⟩=>?_)
 obtain ⟨h1,h2⟩:=zjs I1 r1 ty
 exact ⟨T,id,pa,slot,hty,h1,h2,Calls.callWith_builtin rfl (PySem.evalArgs_none (hm pins s1 σ H1 x [] v [] Q I1 r1 .nil q1))⟩
theorem ziJ (pa:PlainAttrs T) (slot:Slot T name id) (hty:typeOf (.builtin id)=pure (.type "method_descriptor")) (hm:MtR X id r) (ho:PE X o to) (ha:PA X (e::es) t)
  (hbase:attributeBase o name X.env (eval o X.env)=eval o X.env:=by rfl)
  (hfew:((backTo cpos (starEach (e::es) X.env)).all (fun x=>!x.1) && (backToKw cpos (keywordEach [] X.env)).all (fun x=>x.1.isSome)
   && decide ((e::es).length + ([]:List Keyword).length + (if ([]:List Keyword).isEmpty then 0 else 1) < 30))=true:=by rfl)
  (hline:(apos.endLine == cpos.line)=true:=by rfl) (hs:starEach (e::es) X.env=(false,eval e X.env)::starEach es X.env:=by rfl) (hplain:(backTo cpos (starEach es X.env)).any (·.1)=false:=by rfl) :
  PE X (.Call (.Attribute o name apos) (e::es) [] cpos) (tBM X.K T r to t):=by
 intro pins s σ H Q I h
 refine wpAny_Call_method_late hbase hfew hline rfl (thn (ho pins s σ H _ I h) fun v s1 ⟨x,H1,I1,r1,ty,q1⟩=>?_)
 obtain ⟨h1,h2⟩:=zjs I1 r1 ty
 refine ⟨T,id,pa,slot,hty,h1,h2,?_⟩
 have hA:=ha cpos pins s1 σ H1 _ I1 q1
 rw [hs] at hA ⊢
 refine Calls.callWith_builtin (by show (false || (backTo cpos (starEach es X.env)).any (·.1))=false;rw [hplain]<;>rfl) (Calls.evalArgs_plain ?_)
 exact thn hA fun us s2 ⟨vs,H2,I2,r2,q2⟩=>hm pins s2 σ H2 x vs v us Q I2 r1 r2 q2
/- xs.append(e),list.index on a module's tuple .. are MtR facts of 06m -/
end
end L2
namespace L2
open PySem PySem.Spec PyProof.Rows
noncomputable def MtM (X:Cx) (id:String) (r:V→List V→Hp→VK→Prop):Prop:=
 ∀ (pins:List (Addr×Obj)) (s:Shared) (σ:St) (H:Hp) (x:V) (xs:List V) (v:Value) (us:List Value) (Q:VK),Inv X pins σ H s→RelV x v→Vals xs us→r x xs H Q→
  wpAny (model X.prog X.w) X.A (call (.builtin id) (v::us)) (EP X pins σ Q) X.xe s
theorem Vals.one:∀ {x:V}{us:List Value},Vals [x] us→∃ u,us=[u]∧RelV x u
 | _,_,.cons r .nil=>⟨_,rfl,r⟩
theorem Vals.zero:∀ {us:List Value},Vals [] us→us=[]
 | _,.nil=>rfl
theorem Vals.dropLast {xs:List V}{us:List Value} (h:Vals xs us):Vals xs.dropLast us.dropLast:=by
 induction h with
 | nil=>exact .nil
 | cons r t ih=>
  cases t with
  | nil=>exact .nil
  | cons q t'=>exact .cons r ih
theorem Vals.reverse {xs:List V}{us:List Value} (h:Vals xs us):Vals xs.reverse us.reverse:=by
 induction h with
 | nil=>exact .nil
 | cons r t ih=>rw [List.reverse_cons,List.reverse_cons];exact Vals.append ih (.cons r .nil)
theorem zgZ {α:Type}(l:List α):l.eraseIdx (l.length - 1)=l.dropLast:=by
 induction l with
 | nil=>rfl
 | cons a r ih=>
  cases r with
  | nil=>rfl
  | cons b r=>
   have e:(a::b::r).length - 1=((b::r).length - 1) + 1:=by
    have h1:(a::b::r).length=r.length + 2:=rfl
    have h2:(b::r).length=r.length + 1:=rfl
    omega
   rw [e,List.eraseIdx_cons_succ,ih]
   all_goals rfl
section
variable {X:Cx}{pins:List (Addr×Obj)} {σ:St}{H:Hp} {s:Shared}{l b:Addr} {xs ys zs:List V}
theorem Inv.lset {its its':List Value}{n:Nat} {f:Array Value→Array Value}{t':Nat} (I:Inv X pins σ H s) (hH:H l=some (.lst xs))
  (e:s.heap.get? l=some { cls:=.type "list",data:=.seq its.toArray n }) (hf:f its.toArray=its'.toArray) (hv:Vals ys its') (hz:ys.length≤sizeLine) :
  Inv X pins σ (upd H l (.lst ys)) { s with heap:=s.heap.update l (Obj.mapSeq f),toks:=t' }:=by
 have q:=PySem.IsL.update e f
 rw [hf] at q
 refine I.write (x:=l) (e:=l) (by rw [hH];exact trivial) (.inl rfl) (fun b' u hb hu=>(Heap.get?_update_other s.heap (Obj.mapSeq f) (Ne.symm hb)).trans hu) ⟨_,q⟩ ?_
 exact ⟨hz,its',_,hv,q⟩
theorem Inv.lnew {its:List Value}{t':Nat} (I:Inv X pins σ H s) (hv:Vals ys its) (hz:ys.length≤sizeLine) :
  Inv X pins σ (upd H s.heap.objs.size (.lst ys)) { s with heap:=s.heap.push { cls:=.type "list",data:=.seq its.toArray },toks:=t' }:=
 I.laid (fun _ _ q=>Heap.get?_push_of_some _ q) (Nat.le_refl _) ⟨hz,its,0,hv,Heap.get?_push_size _ rfl⟩
theorem Inv.fresh (I:Inv X pins σ H s):H s.heap.objs.size=none:=I.hok.fresh (Nat.le_refl _)
theorem Inv.lstM (I:Inv X pins σ H s) (hH:H l=some (.lst xs)):xs.length≤sizeLine∧∃ (its:List Value) (n:Nat),Vals xs its∧xs.length=its.length∧s.heap.get? l=some { cls:=.type "list",data:=.seq its.toArray n }:=by
 obtain ⟨z,its,n,r,e⟩:=I.hok l _ hH
 exact ⟨z,its,n,r,r.length,e⟩
theorem ziQ {n:Nat}(h:n≤sizeLine):Builtin.List.listTooLong n=false:=by
 unfold Builtin.List.listTooLong
 exact decide_eq_false (by omega)
end
section
variable {X:Cx}
noncomputable def zjP:V→List V→Hp→VK→Prop:=fun x vs H Q=>∃ l xs y,x=.ref l∧vs=[y]∧H l=some (.lst xs)∧xs.length < sizeLine∧Q .non (upd H l (.lst (xs++[y])))
theorem zfp:MtM X "list.append" zjP:=by
 intro pins s σ H x vs v us Q I rx rv h
 obtain ⟨l,xs,y,rfl,rfl,hH,hz,q⟩:=h
 cases rx
 obtain ⟨u,rfl,ru⟩:=rv.one
 obtain ⟨z,its,n,r,hl,e⟩:=I.lstM hH
 refine call_meets F.slot_list_append ⟨_,e,rfl⟩ F.entry_list_append (F.args_list_append_2 _ _) (PySem.list_append l its.toArray n u (by rw [List.size_toArray];omega)) ⟨e,?_⟩
 refine ⟨.non,_,I.lset (its':=its++[u]) hH e (by simp) (r.append (.cons ru .nil)) ?_,rfl,q⟩
 rw [List.length_append,List.length_singleton]
 omega
noncomputable def zjO:V→List V→Hp→VK→Prop:=fun x vs H Q=>∃ l b xs zs,x=.ref l∧vs=[.ref b]∧H l=some (.lst xs)∧H b=some (.lst zs)∧xs.length + zs.length≤sizeLine∧Q .non (upd H l (.lst (xs++zs)))
theorem zhK:MtM X "list.extend" zjO:=by
 intro pins s σ H x vs v us Q I rx rv h
 obtain ⟨l,b,xs,zs,rfl,rfl,hH,hB,hz,q⟩:=h
 cases rx
 obtain ⟨u,rfl,ru⟩:=rv.one
 cases ru
 obtain ⟨z,its,n,r,hl,e⟩:=I.lstM hH
 obtain ⟨z2,its2,n2,r2,hl2,e2⟩:=I.lstM hB
 have hsz:its.toArray.size + its2.toArray.size≤sizeLine:=by rw [List.size_toArray,List.size_toArray];omega
 have hlong:¬ (!its.toArray.isEmpty && Builtin.List.listTooLong (its.toArray.size + its2.toArray.size))=true:=by
  rw [ziQ hsz,Bool.and_false]
  exact Bool.false_ne_true
 refine call_meets F.slot_list_extend ⟨_,e,rfl⟩ F.entry_list_extend (F.args_list_extend_2 _ _)
  (AutoSeq1.list_extend_list_list_0 l its.toArray n b its2.toArray n2 hlong (by rw [List.size_toArray];omega) (by omega)) ⟨e,e2,?_⟩
 refine ⟨.non,_,I.lset (its':=its++its2) hH e (by simp) (r.append r2) ?_,rfl,q⟩
 rw [List.length_append]
 omega
noncomputable def rPop:V→List V→Hp→VK→Prop:=fun x vs H Q=>∃ l xs y,x=.ref l∧vs=[]∧H l=some (.lst xs)∧xs[xs.length - 1]?=some y∧Q y (upd H l (.lst xs.dropLast))
theorem zlz:MtM X "list.pop" rPop:=by
 intro pins s σ H x vs v us Q I rx rv h
 obtain ⟨l,xs,y,rfl,rfl,hH,hy,q⟩:=h
 cases rx
 have hus:=rv.zero
 subst hus
 obtain ⟨z,its,n,r,hl,e⟩:=I.lstM hH
 obtain ⟨u,hu,ru⟩:=r.get hy
 have hy':its.toArray[its.toArray.size - 1]?=some u:=by
  show its.toArray[its.length - 1]?=some u
  rw [← Array.getElem?_toList,← hl]
  exact hu
 refine call_meets F.slot_list_pop ⟨_,e,rfl⟩ F.entry_list_pop (F.args_list_pop_1 _) (MeetsSeq.list_pop_last l its.toArray n u hy' (by rw [List.size_toArray];omega)) ⟨e,?_⟩
 refine ⟨y,_,I.lset (its':=its.dropLast) hH e ?_ r.dropLast ?_,ru,q⟩
 ·show its.toArray.eraseIdxIfInBounds (its.toArray.size - 1)=its.dropLast.toArray
  rw [List.size_toArray,List.eraseIdxIfInBounds_toArray,zgZ]
 ·rw [List.length_dropLast]
  omega
noncomputable def rCat:R2:=fun x y H Q=>∃ l b xs zs,x=.ref l∧y=.ref b∧H l=some (.lst xs)∧H b=some (.lst zs)∧xs.length + zs.length≤sizeLine∧∀ p,H p=none→Q (.ref p) (upd H p (.lst (xs++zs)))
theorem zjA:OpR X (binaryOp .Add) rCat:=by
 intro pins s σ H x y v u Q I rx ry h
 obtain ⟨l,b,xs,zs,rfl,rfl,hH,hB,hz,q⟩:=h
 cases rx
 cases ry
 obtain ⟨z,its,n,r,hl,e⟩:=I.lstM hH
 obtain ⟨z2,its2,n2,r2,hl2,e2⟩:=I.lstM hB
 refine PySem.P.add_list e e2 ?_ (by rw [List.size_toArray,List.size_toArray];omega)
 have ea:its.toArray++its2.toArray=(its++its2).toArray:=by simp
 rw [ea]
 exact ⟨.ref _,_,I.lnew (t':=s.toks) (r.append r2) (by rw [List.length_append];omega),rfl,q _ I.fresh⟩
end
section
variable {prog:Program}{w:World} {A:Around}{E:Value→Shared→Prop} {s:Shared}
end
section
variable {X:Cx}
end
end L2
namespace Att
open PySem PySem.W PySem.Calls PyProof.Rows
theorem zdO {P:Params}{h:Heap}:∀ (ns:List Int) (vs:List Value),WellAll P h vs (ns.map WData.int)→IntsAre vs ns:=by
 intro ns
 induction ns with
 | nil=>
  intro vs w
  rw [List.map_nil] at w
  cases w
  exact .nil
 | cons n ns ih=>
  intro vs w
  rw [List.map_cons] at w
  cases w with
  | cons a b=>
   cases a
   exact .cons _ _ (ih _ b)
theorem zhr {l:OpenLaw}{n:Nat} (hn:l.most=some n) {P:Params}{h:Heap} {args:List WData}{vals:List Value}
  (hpre:l.row.toRowW.claim.pre args=true) (hwl:WellAll P h vals args) :
  ∃ a vs ns,vals=[Value.ref a]∧args=[WData.list (ns.map WData.int)]∧h.get? a=some { cls:=.type "list",data:=.seq vs.toArray }∧IntsAre vs ns∧ns.length≤n:=by
 have hsh:WShape.hasAll [] args [.list .int]=true:=(pre_splitW hpre).1
 have hc:l.pre.holds [] { args:=args }=true:=(pre_splitW hpre).2
 obtain ⟨d,r,rfl,h1,h2⟩:=hasAllW_cons hsh
 obtain rfl:=hasAllW_nil h2
 obtain ⟨xs,rfl,h3⟩:=hasW_list h1
 obtain ⟨ns,rfl⟩:=items_int h3
 have hlen:ns.length≤n:=by
  unfold OpenLaw.pre at hc
  have h4:(WTm.not (.lt (.lit (.int (n:Int))) (.len (.arg 0)))).holds [] { args:=[.list (ns.map .int)] }=true:=by
   have h4:=(holds_andW hc).1
   rw [hn] at h4
   exact h4
  have h5:=condW_of h4 (w_not (w_lt w_lit (w_len_list (w_arg rfl))))
  rw [List.length_map] at h5
  refine Nat.le_of_not_lt fun q=>?_
  have q':(n:Int) < ((ns.length:Nat):Int):=by omega
  first
   | (rw [decide_eq_true q'] at h5;exact absurd h5 (by decide))
   | (simp at h5;omega)
 cases hwl with
 | cons w1 w2=>
  cases w2
  cases w1 with
  | list ho hall=>exact ⟨_,_,ns,rfl,rfl,ho,zdO ns _ hall,hlen⟩
theorem zhu (l:OpenLaw) (args:List WData):l.row.toRowW.claim.post args (.bool true) args=true:=
 postW_of (r:=l.row.toRowW) (X:=(true == true))
  (show WShape.has [] (.bool true) .bool=true by first | rfl | decide | simp [WShape.has,WShape.arms,WShape.armsAll])
  (show (WTm.eq .res (.lit (.bool true))).value [] { args:=args,res:=some (.bool true),after:=args }=some (.bool (true == true)) from w_eq_bool (w_res rfl) w_lit) rfl
theorem attach_call {l:OpenLaw}{n:Nat} {q:Program}{loose:List Str} {XP:(Str→Option Value)→Heap→Prop}{YP:World→Heap→Prop} {d:DefRec}
  (hn:l.most=some n) (hdf:d.params.defaults=[])
  (call:∀ (w:World) (s₀ s₁:Shared) (mg mb:Str→Option Value) (fa:Addr) (o:Obj) (pm cd doc:Value) (a:Addr) (vs:List Value) (ns:List Int),
   Ground q loose [] XP w s₀ mg mb s₁.heap→YP w s₁.heap→
   s₁.heap.get? fa=some o→o.data=.func (docDef d.name d.params d.body d.scope pm cd doc)→s₁.heap.CodeRec cd d.name→mg d.name=some (.ref fa)→
   s₁.heap.get? a=some { cls:=.type "list",data:=.seq vs.toArray }→IntsAre vs ns→ns.length≤n→s₁.gens=#[]→
   codeAny (model l.prog w) callerA (.call (.ref fa) ⟨[.ref a],[]⟩) (fun r s'=>r=.ok (.ret (.bool true))∧OldK s₁.heap s'.heap∧s'.os=s₁.os∧AllBare s'.gens) s₁) :
  WalkO q loose XP YP l.row.toRowW d [] (fun f vs=>PySem.call f vs):=by
 intro w s₀ s₁ mg mb G Y fa o pm cd doc dV kV ho hd hcd hD hmg hg args vals as hpre hlay hrd hwl hlo
 obtain rfl:dV=.none:=Dflts.none hD hdf
 obtain rfl:kV=.none:=Dflts.noKw hD
 obtain ⟨a,vs,ns,rfl,rfl,hobj,hints,hlen⟩:=zhr hn hpre hwl
 refine enter_call (codeAny_mono (call w s₀ s₁ mg mb fa o pm cd doc a vs ns G Y ho (fd_plain hd) hcd hmg hobj hints hlen hg) fun r s' hq=>?_)
 obtain ⟨rfl,h2,h3,h4⟩:=hq
 exact ⟨.inl ⟨.bool true,.bool true,[],rfl,fun _=>rfl,.bool true,zhu l _,fun _=>⟨List.Pairwise.nil,fun _ hm=>(nomatch hm)⟩⟩,h2,h3,h4⟩
section
variable {prog:Program}{w:World} {A:Around}{E:Value→Shared→Prop} {s:Shared}{K:Frag}
end
end Att
namespace L2
open PySem PySem.Spec PyProof.Rows
theorem zcG:∀ {vs:List Value}{ns:List Int},IntsAre vs ns→Vals (ns.map V.int) vs
 | _,_,.nil=>.nil
 | _,_,.cons n t h=>.cons ⟨t,rfl⟩ (zcG h)
noncomputable def Only (H:Hp):Prop:=∀ b,H b=none∨∃ o xs,H b=some (.frz o (.lst xs))
theorem ziV {P:Program}{w:World} {K:PySem.W.Frag}{mg mb:Str→Option Value} {CX:CXT}{k:Nat} {fa a:Addr}{fd:FuncData} {x:Str}{sp:Sp} {s₁:Shared}{vs:List Value} {ns:List Int}
  (KX:K.In s₁.heap) (hns:s₁.heap.Ns mainGlobals mg) (hb:s₁.heap.Ns builtinsNs mb) (hbb:∀ x:Str,x ≠ "__name__" → mb x=bootBuiltins x) (hlim:s₁.heap.NoLimit) (hg:s₁.gens=#[])
  (ha:s₁.heap.get? a=some { cls:=.type "list",data:=.seq vs.toArray }) (hi:IntsAre vs ns) (hl:ns.length≤sizeLine) (hr:Room k callerA)
  (F:∀ base:Heap,K.In base→base.Ns mainGlobals mg→FnOk P w K mg base CX k fa fd [x] sp) (hbind:∀ (s:Shared) (u:Value),BindsTo s fd ⟨[u],[]⟩ [(x,u)])
  (hsp:∀ H:Hp,Only H→SqL K H a (ns.map V.int)→sp [.ref a] H (fun v _=>v=.bl true) fun _ _ _=>False)
  (hCX:∀ H e s',CX [] H s₁ (fun _ _ _=>False) e s'→False) :
  codeAny (model P w) callerA (.call (.ref fa) ⟨[.ref a],[]⟩) (fun r s'=>r=.ok (.ret (.bool true))∧OldK s₁.heap s'.heap∧s'.os=s₁.os∧AllBare s'.gens) s₁:=by
 have rv:=zcG hi
 have lenV:=hi.length
 have core:∀ H:Hp,Only H→SqL K H a (ns.map V.int)→HOk P w H s₁.heap→(∀ b,H b≠none→b=a)→(H a≠none→K.lookup a=none)→
   codeAny (model P w) callerA (.call (.ref fa) ⟨[.ref a],[]⟩) (fun r s'=>r=.ok (.ret (.bool true))∧OldK s₁.heap s'.heap∧s'.os=s₁.os∧AllBare s'.gens) s₁:=by
  intro H hO hS hok hA hK
  have base_of:∀ {b:Addr}{o:Obj},s₁.heap.get? b=some o→H b=none→(hidT s₁.heap H).get? b=some o:=fun e n=>zjb e n
  have noA:∀ {b:Addr}{o:Obj} {es:Array DictEntry}{ep:Nat},s₁.heap.get? b=some o→o.data=.dict es ep→H b=none:=fun {b o es ep} e d=>by
   cases q:H b with
   | none=>rfl
   | some u=>
    have e':b=a:=hA b (by rw [q];simp)
    subst e'
    rw [ha] at e;cases e
    have d':Data.seq vs.toArray _=Data.dict es ep:=d
    cases d'
  have nsK:∀ {b:Addr}{m:Str→Option Value},s₁.heap.Ns b m→(hidT s₁.heap H).Ns b m:=fun {b m} ⟨o,es,ep,e,d,r⟩=>⟨o,es,ep,base_of e (noA e d),d,r⟩
  have hKb:K.In (hidT s₁.heap H):=fun b o e=>base_of (KX b o e) (by
   cases q:H b with
   | none=>rfl
   | some u=>
    have e':b=a:=hA b (by rw [q];simp)
    subst e'
    rw [hK (by rw [q];simp)] at e;cases e)
  have hM:Mod K mg (hidT s₁.heap H):=⟨hKb,nsK hns,⟨mb,nsK hb,hbb⟩,let ⟨mc,h1,h2⟩:=hlim;⟨mc,nsK h1,h2⟩⟩
  have e0:Env0 P w K mg (hidT s₁.heap H) callerA [] s₁ H:=⟨rfl,hM,fun b o e=>zkj e,Nat.le_of_eq (zhV _ _),trivial,fun b hb=>absurd (show b∈([]:List Addr) from hb) (by simp),hok,.of_eq hg⟩
  refine codeAny_mono ((F _ hKb (nsK hns)).run callerA [] s₁ H ⟨[.ref a],[]⟩ [.ref a] [.ref a] _ _ hr e0 (hbind s₁ (.ref a)) (.cons rfl .nil) (hsp H hO hS)) fun r s' h=>?_
  cases r with
  | error e=>exact (hCX H e s' h).elim
  | ok fl=>
   cases fl with
   | next=>exact False.elim h
   | brk=>exact False.elim h
   | cont=>exact False.elim h
   | ret u=>
    obtain ⟨v,H',os,bare,un,hok',r',q⟩:=h
    have q':v=.bl true:=q
    subst q'
    obtain rfl:u=Value.bool true:=r'
    refine ⟨rfl,OldK.of_keep fun b o e=>?_,os,bare⟩
    cases q:H b with
    | none=>exact un.keep b o e q (by intro z;exact absurd (show b∈([]:List Addr) from z) (by simp)) (by simp)
    | some u=>
     rcases hO b with z | ⟨ob,xs,z⟩
     ·rw [q] at z;cases z
     ·have z2:=un.frzs b ob _ z
      obtain ⟨e1,_⟩:=hok b _ z
      obtain ⟨e2,_⟩:=hok' b _ z2
      rw [e] at e1;cases e1
      exact e2
 cases hk:K.lookup a with
 | some o=>
  have e:=KX a o hk
  rw [ha] at e
  cases e
  refine core (fun _=>none) (fun _=>.inl rfl) (.inr ⟨_,vs.toArray,_,hk,rfl,rfl,rfl,by rw [List.size_toArray,lenV];exact hl,by simpa using rv⟩) (fun b u z=>by have z':(none:Option HO)=some u:=z;cases z') (fun b z=>absurd rfl z) fun z=>absurd rfl z
 | none=>
  refine core (fun b=>if b=a then some (.frz { cls:=.type "list",data:=.seq vs.toArray } (.lst (ns.map V.int))) else none) (fun b=>?_) (.inl (.inr ⟨{ cls:=.type "list",data:=.seq vs.toArray },if_pos rfl⟩)) (fun b u z=>?_) (fun b z=>?_) fun _=>hk
  ·by_cases hb:b=a
   ·exact .inr ⟨_,_,if_pos hb⟩
   ·exact .inl (if_neg hb)
  ·by_cases hb:b=a
   ·have z':=(if_pos hb).symm.trans z
    cases z'
    subst hb
    exact ⟨ha,by rw [List.length_map];exact hl,vs,_,rv,ha⟩
   ·have z':=(if_neg hb).symm.trans z
    cases z'
  ·by_cases hb:b=a
   ·exact hb
   ·exact absurd (if_neg hb) z
end L2
namespace L2
open PySem PySem.Spec PyProof.Rows
theorem walk_of {l:PySem.W.OpenLaw}{n k:Nat} {q:Program}{loose:List Str} {XP:(Str→Option Value)→Heap→Prop}{YP:World→Heap→Prop} {d:DefRec}{K:Params→PySem.W.Frag} {CX:World→CXT}{sp:World→Sp} {x:Str}
  (hn:l.most=some n) (hn2:n≤sizeLine) (hdf:d.params.defaults=[]) (hr:Room k callerA)
  (hY:∀ (w:World) (h:Heap),YP w h→(K w.params).In h)
  (F:∀ (w:World) (mg:Str→Option Value) (fa:Addr) (h:Heap),(K w.params).In h→h.Ns mainGlobals mg→mg d.name=some (.ref fa)→
   ∃ fd:FuncData,(∀ (s:Shared) (u:Value),BindsTo s fd ⟨[u],[]⟩ [(x,u)])∧
    ∀ base:Heap,(K w.params).In base→base.Ns mainGlobals mg→FnOk l.prog w (K w.params) mg base (CX w) k fa fd [x] (sp w))
  (hsp:∀ (w:World) (H:Hp) (a:Addr) (ns:List Int),ns.length≤n→Only H→SqL (K w.params) H a (ns.map V.int)→sp w [.ref a] H (fun v _=>v=.bl true) fun _ _ _=>False)
  (hCX:∀ (w:World) (H:Hp) (s:Shared) (e:Value) (s':Shared),CX w [] H s (fun _ _ _=>False) e s'→False) :
  PySem.W.WalkO q loose XP YP l.row.toRowW d [] (fun f vs=>PySem.call f vs):=by
 refine Att.attach_call hn hdf fun w s₀ s₁ mg mb fa o pm cd doc a vs ns G Y ho hd hcd hmg hobj hints hlen hg=>?_
 have KX:=hY w _ Y
 obtain ⟨fd,hb,hF⟩:=F w mg fa _ KX G.T.g hmg
 exact ziV KX G.T.g G.T.b G.T.builtins G.T.nolimit hg hobj hints (Nat.le_trans hlen hn2) hr hF hb (fun H hO hS=>hsp w H a ns hlen hO hS) fun H e s'=>hCX w H s₁ e s'
end L2
/- THE LAST THEOREM (shape;LID,My.* are yours):
  My.Adr: a structure of the addresses that your layer names (classes,functions);My.Txt K t: a structure (Prop) of the equations over K;
  My.txt_mk:{K} {implicit addresses ..} (e1:nsIn K mainGlobals "law" = some (some (.ref f))) (e2:K.lookup f=some ⟨oc,od,.func (fnOf "law" "law" params body scope dV kV doc pm an cdv ct),sl⟩) (e3:codeIn K cdv "law" = true) ..:∃ t,My.Txt K t
set_option maxRecDepth 100000 in
set_option maxHeartbeats 0 in
theorem PySem.Challenge.cw_LID_holds:PySem.Challenge.rw_LID.Holds:=by
 w_on;o_law;k_head;(case hw=>w_witness2)
 k_fill
 refine L2.walk_of (l:=PySem.Challenge.rw_LID) (n:=63) (k:=40) (x := "script") (CX:=fun w=>..) (sp:=fun _=>My.sp_law) rfl (by decide) rfl ⟨rfl,by decide,by decide⟩ (fun w h Y=>PySem.W.kIn_of Y) ?F ?S ?C
 case F=>
  intro w mg fa h KX G hmg
  have T:∃ t,My.Txt (L2.KOf KX) t:=by
   dsimp only [L2.KOf]                          -- K must stand as «<heap const> w.params» for k_is
   refine' My.txt_mk ?e1 ?e2 ?e3 ..
   (case e1=>PySem.W.k_is)                    -- in the order: a name -> its address -> its object -> its parts
   (case e2=>PySem.W.k_is)
   ..
  obtain ⟨t,T⟩:=T
  have e0:=hmg.symm.trans (PySem.W.mg_of KX G T.law)
  cases e0                                       -- fa is the law's own address
  exact ⟨_,fun s u=>.of_eq rfl,fun base kb nb=>My.law_fn T kb nb⟩     -- if «.of_eq rfl» comes too early: refine' ⟨_,?b,fun base kb nb=>My.law_fn T kb nb⟩;exact fun s u=>.of_eq rfl
 case S=>exact fun w H a ns hl hO hS=>..
 case C=>exact ..
(the tactic k_is has no namespace: write k_is) -/
namespace L2
open PySem PySem.Spec PyProof.Rows
noncomputable def zgb (s:Stmt):Arguments:=match s with
 | .FunctionDef _ a _ _ _ _ _ _ _ _=>a
 | _=>{ posonlyargs:=[],args:=[],vararg:=none,kwonlyargs:=[],kw_defaults:=[],kwarg:=none,defaults:=[] }
noncomputable def zdU (s:Stmt):List Stmt:=match s with
 | .FunctionDef _ _ b _ _ _ _ _ _ _=>b
 | _=>[]
noncomputable def zaq (s:Stmt):Scope:=match s with
 | .FunctionDef _ _ _ _ _ _ sc _ _ _=>sc
 | _=>{ kind:=.function,names:=[],isGenerator:=false,isCoroutine:=false }
noncomputable abbrev CX0:CXT:=fun _ _ _ _ _ _=>False
noncomputable abbrev E0:XK:=fun _ _ _=>False
theorem zll {X:Cx}:ziu CX0 X E0:=fun _ _ _ _ _ _ _ h=>h.elim
structure Fun (K:PySem.W.Frag) (x qual:Str) (st:Stmt) (f:Addr) (fd:FuncData):Prop where
 ex:∃ (oc:Value) (od:Option Addr) (kV doc pm:Value) (an:Option Addr) (cdv ct:Value) (osl:Array (Option Value)),
  fd=PySem.W.fnOf x qual (zgb st) (zdU st) (zaq st) .none kV doc pm an cdv ct∧K.lookup f=some ⟨oc,od,.func fd,osl⟩∧PySem.W.codeIn K cdv qual=true
 kp:PySem.W.keepIn K (.ref f)=true
section
variable {P:Program}{w:World} {K:PySem.W.Frag}{mg:Str→Option Value} {base:Heap}
theorem Fun.ok {x qual:Str}{st:Stmt} {f:Addr}{fd:FuncData} {N ps:List Str}{k:Nat} {sp:Sp}(F:Fun K x qual st f fd) (S:zaD N ps (zaq st)) (len:∀ vs H Q E,sp vs H Q E→vs.length=ps.length)
  (hbody:∀ (cdv:Value) (A:Around) (outer:List Env) (s:Shared) (H:Hp) (vs:List V) (Q:VK) (E:XK),Room k (A.deeper (envOfC qual (zaq st) s.heap.objs.size f cdv))→sp vs H Q E→
   ∃ t,PSs (cxOf CX0 P w K mg base N qual (zaq st) f cdv A outer s H E).nox (zdU st) t∧t { nx:=fun _ H'=>Q .non H',rt:=Q } (start N vs) H):FnOk P w K mg base CX0 (k + 1) f fd ps sp:=by
 obtain ⟨oc,od,kV,doc,pm,an,cdv,ct,osl,rfl,lk,hcd⟩:=F.ex
 refine zmE lk hcd S len fun A outer s H vs Q E hr hsp=>?_
 obtain ⟨t,h,q⟩:=hbody cdv A outer s H vs Q E hr hsp
 exact ⟨t,h.nox,q⟩
theorem Fun.binds {x qual:Str}{st:Stmt} {f:Addr}{fd:FuncData} {ps:List Str}(F:Fun K x qual st f fd)
  (h:∀ (kV doc pm:Value) (an:Option Addr) (cdv ct:Value) (us:List Value),us.length=ps.length→bindArgs (PySem.W.fnOf x qual (zgb st) (zdU st) (zaq st) .none kV doc pm an cdv ct) ⟨us,[]⟩=pure (ps.zip us)):zeR K fd ps []:=by
 obtain ⟨oc,od,kV,doc,pm,an,cdv,ct,osl,rfl,lk,hcd⟩:=F.ex
 exact .all (h kV doc pm an cdv ct)
end
section
variable {X:Cx}
end
theorem iteF {A B:Prop}(h:B):if false=true then A else B:=by
 rw [if_neg Bool.false_ne_true]
 exact h
theorem iteT {A B:Prop}(h:A):if true=true then A else B:=by
 rw [if_pos rfl]
 exact h
noncomputable def Same (H H':Hp):Prop:=∀ b o,H b=some o→H' b=some o
theorem Same.refl (H:Hp):Same H H:=fun _ _ h=>h
theorem Same.trans {H H1 H2:Hp}(a:Same H H1) (b:Same H1 H2):Same H H2:=fun c o h=>b c o (a c o h)
theorem Same.free {H H':Hp}(e:Same H H') {l:Addr}(h:H' l=Option.none):H l=Option.none:=by
 cases q:H l with
 | none=>rfl
 | some o=>
  rw [e l o q] at h
  cases h
theorem Same.seq {K:PySem.W.Frag}{H H':Hp} {a:Addr}{xs:List V} (e:Same H H') (h:SqL K H a xs):SqL K H' a xs:=by
 rcases h with (h | ⟨o,h⟩) | h
 ·exact .inl (.inl (e _ _ h))
 ·exact .inl (.inr ⟨o,e _ _ h⟩)
 ·exact .inr h
end L2
set_option Elab.async false
set_option linter.all false
set_option maxRecDepth 100000
namespace L2
open PySem PySem.Spec PyProof.Rows
noncomputable def clOf (env:Env):List (Str×NameKind)→List (Str×Addr)→List (Str×Addr)
 | [],acc=>acc
 | (n,k)::r,acc=>clOf env r (if k=.free then (n,(env.cells.lookup n).getD 0)::acc else acc)
theorem zeq {env:Env}{scope:Scope} (h:∀ y∈scope.names,y.2=.free→∃ c,env.cells.lookup y.1=some c):closureFor scope env=pure (clOf env scope.names []):=by
 unfold closureFor
 have go:∀ (l:List (Str×NameKind)) (acc:List (Str×Addr)),(∀ y∈l,y.2=.free→∃ c,env.cells.lookup y.1=some c)→
   (forIn l acc (fun (x:Str×NameKind) (r:List (Str×Addr))=>(match x with | (name,kind)=>if (kind == .free)=true then (do let c ← cellOf env name;pure (ForInStep.yield ((name,c)::r))) else (pure (ForInStep.yield r)):Sem (ForInStep (List (Str×Addr))))):Sem (List (Str×Addr)))=pure (clOf env l acc):=by
  intro l
  induction l with
  | nil=>intro acc _;rfl
  | cons a r ih=>
   intro acc hl
   obtain ⟨n,k⟩:=a
   have hr:∀ y∈r,y.2=.free→∃ c,env.cells.lookup y.1=some c:=fun y hy=>hl y (List.mem_cons_of_mem _ hy)
   rw [List.forIn_cons]
   by_cases hk:k=.free
   ·subst hk
    obtain ⟨c,hc⟩:=hl (n,.free) List.mem_cons_self rfl
    simp only [clOf,if_true]
    have e:cellOf env n=pure c:=by unfold cellOf;rw [show env.cells.lookup n=some c from hc]
    simp only [e,beq_self_eq_true,if_true,pure_bind]
    rw [show env.cells.lookup n=some c from hc]
    exact ih _ hr
   ·have hb:(k == NameKind.free)=false:=by simpa using hk
    simp only [clOf,if_neg hk,hb,Bool.false_eq_true,if_false,pure_bind]
    exact ih _ hr
 have:=go scope.names [] h
 simpa using this
theorem zeM {env:Env}:∀ (l:List (Str×NameKind)) (acc:List (Str×Addr)),(∀ y∈l,y.2=.free→∃ c,env.cells.lookup y.1=some c)→(∀ x c,acc.lookup x=some c→env.cells.lookup x=some c)→
  ∀ x c,(clOf env l acc).lookup x=some c→env.cells.lookup x=some c
 | [],_,_,ha=>ha
 | (n,k)::r,acc,hl,ha=>by
  refine zeM r _ (fun y hy=>hl y (List.mem_cons_of_mem _ hy)) ?_
  intro x c hx
  by_cases hk:k=.free
  ·rw [if_pos hk,List.lookup_cons] at hx
   obtain ⟨c',hc⟩:=hl (n,k) List.mem_cons_self hk
   cases e:x == n with
   | true=>
    rw [e] at hx
    have ex:x=n:=eq_of_beq e
    subst ex
    have hc':env.cells.lookup x=some c':=hc
    rw [hc'] at hx ⊢
    exact hx
   | false=>rw [e] at hx;exact ha x c hx
  ·rw [if_neg hk] at hx;exact ha x c hx
theorem zeN {env:Env}:∀ (l:List (Str×NameKind)) (acc:List (Str×Addr)) (x:Str),((x,NameKind.free)∈l∨∃ c,acc.lookup x=some c)→∃ c,(clOf env l acc).lookup x=some c
 | [],_,x,h=>by
  rcases h with h | h
  ·cases h
  ·exact h
 | (n,k)::r,acc,x,h=>by
  refine zeN r _ x ?_
  rcases h with h | ⟨c,h⟩
  ·rcases List.mem_cons.mp h with h | h
   ·cases h
    refine .inr ⟨(env.cells.lookup n).getD 0,?_⟩
    rw [if_pos rfl,List.lookup_cons]
    simp
   ·exact .inl h
  ·by_cases hk:k=.free
   ·rw [if_pos hk]
    cases e:x == n with
    | true=>exact .inr ⟨(env.cells.lookup n).getD 0,by rw [List.lookup_cons,e]⟩
    | false=>exact .inr ⟨c,by rw [List.lookup_cons,e];exact h⟩
   ·rw [if_neg hk];exact .inr ⟨c,h⟩
theorem zdi {env:Env}{names:List (Str×NameKind)} (hc:∀ y∈names,y.2≠.cell) {x:Str}{k:NameKind} (hk:k=.cell∨k=.free)
  (h:(names.map fun (p:Str×NameKind)=>if (p.2 == NameKind.free && env.scope.kind == .function && env.kindOf p.1 == some .cell) then (p.1,NameKind.cell) else (p.1,p.2)).lookup x=some k):(x,NameKind.free)∈names:=by
 obtain ⟨⟨n,k0⟩,hm,e⟩:=List.mem_map.mp (PySem.mem_of_lookup h)
 have n0:=hc _ hm
 simp only at e n0
 by_cases hq:(k0 == NameKind.free && env.scope.kind == .function && env.kindOf n == some .cell)=true
 ·rw [if_pos hq] at e
  simp only [Bool.and_eq_true] at hq
  have:k0=.free:=eq_of_beq hq.1.1
  subst this
  cases e
  exact hm
 ·rw [if_neg hq] at e
  cases e
  rcases hk with rfl | rfl
  ·exact absurd rfl n0
  ·exact hm
noncomputable def zaA (X:Cx) (N:List Str) (scope:Scope) (cl:List (Str×Addr)) (C:Addr) (s0:Shared) (H0:Hp) (fp:List Addr):Cx:=
 { prog:=X.prog,w:=X.w,K:=X.K,mg:=X.mg,base:=X.base,A:=X.A,N:=N,s₀:=s0,H₀:=H0,env:=compEnvC scope cl C X.env,outer:=X.stack,stack:=X.stack,ex:=fp,fn:=fun _=>false,calm:=X.calm,pn:=[],xe:=fun _ _=>False }
inductive Cap (X:Cx) (scope:Scope):List Str→List (Option Nat)→Prop
 | nil:Cap X scope [] []
 | own {x N c}:Cap X scope N c→Cap X scope (x::N) (none::c)
 | cap {x j N c} (h:Cap X scope N c) (h1:X.N[j]?=some x:=by rfl) (h2:scope.names.lookup x=some .free:=by rfl) (h3:X.env.kindOf x=some .cell∨X.env.kindOf x=some .free:=by first | exact Or.inl rfl | exact Or.inr rfl) :
   Cap X scope (x::N) (some j::c)
theorem Cap.len {X:Cx}{scope:Scope} {N:List Str}{c:List (Option Nat)} (h:Cap X scope N c):c.length=N.length:=by
 induction h with
 | nil=>rfl
 | own _ ih=>simp [ih]
 | cap _ _ _ _ ih=>simp [ih]
theorem Cap.get {X:Cx}{scope:Scope} {N:List Str}{c:List (Option Nat)} (h:Cap X scope N c):∀ {i j:Nat}{x:Str},c[i]?=some (some j)→N[i]?=some x→
  X.N[j]?=some x∧scope.names.lookup x=some .free∧(X.env.kindOf x=some .cell∨X.env.kindOf x=some .free):=by
 induction h with
 | nil=>intro i j x h;simp at h
 | own _ ih=>
  intro i j x h1 h2
  cases i with
  | zero=>simp at h1
  | succ i=>exact ih (by simpa using h1) (by simpa using h2)
 | cap _ a b d ih=>
  intro i j x h1 h2
  cases i with
  | zero=>simp at h1 h2;subst h1 h2;exact ⟨a,b,d⟩
  | succ i=>exact ih (by simpa using h1) (by simpa using h2)
noncomputable def st0 (cap:List (Option Nat)) (σ:St):St:=cap.map fun o=>match o with
 | some j=>(σ[j]?).getD none
 | none=>none
structure zaU (X:Cx) (scope:Scope):Prop where
 kind:scope.kind=.function
 cells:∀ y∈scope.names,y.2≠.cell
 names:∀ y∈scope.names,y.2=.local→scope.names.lookup y.1=some .local
 free:∀ y∈scope.names,y.2=.free→X.env.kindOf y.1=some .cell∨X.env.kindOf y.1=some .free
theorem zaU.mk' {X:Cx}{scope:Scope} (h1:scope.kind=.function:=by rfl) (h2:(scope.names.all fun y=>decide (y.2≠.cell))=true:=by rfl)
  (h3:(scope.names.all fun y=>decide (y.2≠.local) || decide (scope.names.lookup y.1=some .local))=true:=by rfl)
  (h4:(scope.names.all fun y=>decide (y.2≠.free) || (decide (X.env.kindOf y.1=some .cell) || decide (X.env.kindOf y.1=some .free)))=true:=by rfl):zaU X scope where
 kind:=h1
 cells:=fun y hy=>of_decide_eq_true (List.all_eq_true.mp h2 y hy)
 names:=fun y hy hl=>by
  have:=List.all_eq_true.mp h3 y hy
  rw [Bool.or_eq_true] at this
  rcases this with z | z
  ·exact absurd hl (of_decide_eq_true z)
  ·exact of_decide_eq_true z
 free:=fun y hy hl=>by
  have:=List.all_eq_true.mp h4 y hy
  rw [Bool.or_eq_true,Bool.or_eq_true] at this
  rcases this with z | z | z
  ·exact absurd hl (of_decide_eq_true z)
  ·exact .inl (of_decide_eq_true z)
  ·exact .inr (of_decide_eq_true z)
section
variable {X:Cx}{pins:List (Addr×Obj)} {σ:St}{H H3:Hp} {s s3:Shared}{N:List Str} {cap:List (Option Nat)}{scope:Scope} {fp:List Addr}{C:Addr}
theorem zaU.cellsOf (S:zaU X scope) (ok:X.Ok):∀ y∈scope.names,y.2=.free→∃ c,X.env.cells.lookup y.1=some c:=fun y hy hf=>ok.has y.1 (S.free y hy hf)
theorem zkz (S:zaU X scope) (I3:Inv X pins σ H3 s3) (f3:∀ b∈fp,FpOk X pins H3 b) (hfp:∀ b∈fp,b < s3.heap.objs.size) (hC:s3.heap.objs.size≤C) :
  (zaA X N scope (clOf X.env scope.names []) C s3 H3 fp).Ok:=by
 have sub:=zeM (env:=X.env) scope.names [] (S.cellsOf I3.ok) (fun x c h=>by simp at h)
 refine ⟨I3.ok.mod,S.kind,I3.ok.glob,I3.ok.blt,hC,fun x y c h1 h2=>I3.ok.inj x y c (sub x c h1) (sub y c h2),fun x hx=>?_,fun x c h=>absurd (show false=true from h) Bool.false_ne_true,I3.ok.hd,I3.ok.frames,.inl rfl,fun b hb=>⟨?_,fun x c h=>?_⟩,
  I3.bs,Nat.le_trans I3.ok.bsz I3.sz,fun b o e hb=>?_,fun b hb=>?_,I3.stack,I3.stkFree⟩
 ·refine zeN scope.names [] x (.inl ?_)
  rcases hx with hx | hx
  ·exact zdi S.cells (.inl rfl) hx
  ·exact zdi S.cells (.inr rfl) hx
 ·exact Nat.ne_of_lt (Nat.lt_of_lt_of_le (hfp b hb) hC)
 ·exact (f3 b hb).2.2.2.2.1 x c (sub x c h)
 ·obtain ⟨_,_,_,h,_⟩:=f3 b hb
  rcases h with h | h
  ·exact I3.ok.noex b o e h
  ·exact absurd (Nat.lt_of_lt_of_le (Heap.lt_size e) (Nat.le_trans I3.ok.bsz h)) (Nat.lt_irrefl _)
 ·intro hz
  obtain ⟨_,h1,h2,_⟩:=f3 b hb
  rcases List.mem_cons.mp (I3.stkSub b hz) with z | z
  ·exact h1 z
  ·exact h2 z
theorem ziZ (S:zaU X scope) (cp:Cap X scope N cap) (I3:Inv X pins σ H3 s3) (f3:∀ b∈fp,FpOk X pins H3 b) (hfp:∀ b∈fp,b < s3.heap.objs.size) (hC:s3.heap.objs.size≤C) (os:s.os=s3.os) (bare:AllBare s.gens)
  (un:Un (frs X.stack) fp H3 H s3.heap s.heap) (ns:∃ m,s.heap.Ns C m) (fC:H C=none) (hok:HOk X.prog X.w H s.heap) :
  Inv (zaA X N scope (clOf X.env scope.names []) C s3 H3 fp) [] (st0 cap σ) H s:=by
 have sub:=zeM (env:=X.env) scope.names [] (S.cellsOf I3.ok) (fun x c h=>by simp at h)
 have cellK:∀ x c,X.env.cells.lookup x=some c→∀ v,s3.heap.IsCell c v→s.heap.IsCell c v:=fun x c e v ⟨o,ho,hd⟩=>by
  obtain ⟨sl,q⟩:=un.any ho (I3.freeC x c e) fun z=>(f3 c z).2.2.2.2.1 x c e rfl
  exact ⟨_,q,hd⟩
 obtain ⟨m,hm⟩:=ns
 refine ⟨zkz S I3 f3 hfp hC,os,bare,un,⟨m,hm,fun i x v h1 h2 h3=>?_⟩,fun x c h=>?_,fC,fun x c h=>?_,fun p hp=>absurd (show p∈([]:List (Addr×Obj)) from hp) (by simp),hok,?_⟩
 ·unfold st0 at h2
  rw [List.getElem?_map] at h2
  cases e:cap[i]? with
  | none=>rw [e] at h2;cases h2
  | some o=>
   rw [e] at h2
   cases o with
   | none=>simp at h2
   | some j=>
    obtain ⟨a1,a2,a3⟩:=cp.get e h1
    simp only [Option.map_some] at h2
    have h2':(σ[j]?).getD none=some v:=Option.some.inj h2
    have h2'':σ[j]?=some (some v):=by
     cases q:σ[j]? with
     | none=>rw [q] at h2';cases h2'
     | some z=>rw [q] at h2';simp at h2';rw [h2']
    obtain ⟨m0,_,hl⟩:=I3.loc
    have vis:Vis X.env.scope x:=by
     rcases a3 with z | z
     ·exact .inr (.inl z)
     ·exact .inr (.inr z)
    obtain ⟨u,r,l⟩:=hl j x v a1 h2'' vis
    refine ⟨u,r,?_⟩
    rcases l with ⟨k,_⟩ | ⟨_,c,e1,z⟩
    ·rcases a3 with q | q
     ·rw [q] at k;cases k
     ·rw [q] at k;cases k
    ·obtain ⟨c',hc'⟩:=zeN (env:=X.env) scope.names [] x (.inl (PySem.mem_of_lookup a2))
     have:=sub x c' hc'
     rw [e1] at this
     cases this
     refine .inr ⟨?_,c,hc',cellK x c e1 _ z⟩
     have vis2:(zaA X N scope (clOf X.env scope.names []) C s3 H3 fp).env.kindOf x=some .local∨(zaA X N scope (clOf X.env scope.names []) C s3 H3 fp).env.kindOf x=some .cell∨(zaA X N scope (clOf X.env scope.names []) C s3 H3 fp).env.kindOf x=some .free:=h3
     rcases vis2 with z1 | z1
     ·-- a local name of the block is not free there
      exfalso
      have z2:(scope.names.map fun (p:Str×NameKind)=>if (p.2 == NameKind.free && X.env.scope.kind == .function && X.env.kindOf p.1 == some .cell) then (p.1,NameKind.cell) else (p.1,p.2)).lookup x=some .local:=z1
      have key:∀ l:List (Str×NameKind),l.lookup x=some .free→(l.map fun (p:Str×NameKind)=>if (p.2 == NameKind.free && X.env.scope.kind == .function && X.env.kindOf p.1 == some .cell) then (p.1,NameKind.cell) else (p.1,p.2)).lookup x≠some .local:=by
       intro l
       induction l with
       | nil=>intro h;simp at h
       | cons p l ih=>
        obtain ⟨n,k⟩:=p
        intro h
        rw [List.map_cons]
        cases ex:x == n with
        | true=>
         rw [List.lookup_cons,ex] at h
         cases h
         intro q
         by_cases hq:((NameKind.free == NameKind.free) && X.env.scope.kind == .function && X.env.kindOf n == some .cell)=true
         ·rw [if_pos hq,List.lookup_cons,ex] at q;cases q
         ·rw [if_neg hq,List.lookup_cons,ex] at q;cases q
        | false=>
         rw [List.lookup_cons,ex] at h
         intro q
         by_cases hq:((k == NameKind.free) && X.env.scope.kind == .function && X.env.kindOf n == some .cell)=true
         ·rw [if_pos hq,List.lookup_cons,ex] at q;exact ih h q
         ·rw [if_neg hq,List.lookup_cons,ex] at q;exact ih h q
      exact key _ a2 z2
     ·exact z1
 ·obtain ⟨v,z⟩:=I3.cell x c (sub x c h)
  exact ⟨v,cellK x c (sub x c h) v z⟩
 ·obtain ⟨v,o,ho,_⟩:=I3.cell x c (sub x c h)
  exact un.free c o ho (I3.freeC x c (sub x c h)) fun z=>(f3 c z).2.2.2.2.1 x c (sub x c h) rfl
 ·show (st0 cap σ).length=N.length
  unfold st0
  rw [List.length_map];exact cp.len
end
noncomputable def PIf (Y:Cx) (ifs:List Expr) (t:TT):Prop:=
 ∀ (pins:List (Addr×Obj)) (s:Shared) (σ:St) (H:Hp) (Q:Bool→Hp→Prop),Inv Y pins σ H s→t σ H Q→
  wpAny (model Y.prog Y.w) Y.A (forIn ifs true fun c r=>if r=true then do let ok ← isTrue c Y.env (eval c Y.env);pure (ForInStep.yield ok) else pure (ForInStep.yield r)) (TP Y pins σ Q) Y.xe s
noncomputable def tYes:TT:=fun _ H Q=>Q true H
theorem zjY {Y:Cx}:PIf Y [] tYes:=fun _ _ _ H _ I h=>wpAny_tests_nil ⟨H,I,h⟩
theorem zjX {Y:Cx}{c:Expr} {t:TT}(h:PT Y c t):PIf Y [c] t:=fun pins s σ H Q I hw=>wpAny_tests_one (h pins s σ H Q I hw)
section
variable {X:Cx}{pins:List (Addr×Obj)} {σ:St}{N:List Str} {cap:List (Option Nat)}{scope:Scope} {tg iter elt:Expr}{ifs:List Expr} {pos:Pos}{g:TG} {tt:TT}{te:TE}
noncomputable abbrev TAct:=St→Hp→(Hp→Prop)→Prop
noncomputable def PAct (Y:Cx) (act:Value→Env→Sem Unit) (D:Addr) (t:TAct):Prop:=
 ∀ (pins:List (Addr×Obj)) (s:Shared) (σ:St) (H:Hp) (Q:Hp→Prop),Inv Y pins σ H s→t σ H Q→wpAny (model Y.prog Y.w) Y.A (act (.ref D) Y.env) (fun _ s'=>∃ σ' H',Inv Y pins σ' H' s'∧Q H') Y.xe s
noncomputable def zhh (J:It) (g:TG) (tt:TT) (ta:Addr→TAct) (ho:HO) (cap:List (Option Nat)) (σ:St) (H1:Hp) (Q:VK):Prop:=
 ∀ D,H1 D=none→∃ W:Nat→Nat→Hp→Prop,(∃ m,W 0 m (upd H1 D ho))∧∀ i m H,W i m H→
  ((J.stop i H∧Q (.ref D) H)∨(J.go i H∧∀ x H',J.yld i H x H'→g x (st0 cap σ) H' fun σ2 H2=>tt σ2 H2 fun b H3=>
   if b=true then ta D σ2 H3 fun H4=>∃ m',m' < m∧W (i + 1) m' H4 else ∃ m',m' < m∧W (i + 1) m' H3))
structure zdw (X:Cx) (e tg iter:Expr) (ifs:List Expr) (newAcc:Sem Value) (act:Value→Env→Sem Unit) (ho:HO):Prop where
 new:∀ (pins:List (Addr×Obj)) (σ:St) (H:Hp) (s:Shared) (Q:Value→Shared→Prop) (E:Value→Shared→Prop),Inv X pins σ H s→
  (∀ ob:Obj,Inv X pins σ (upd H s.heap.objs.size ho) { s with heap:=s.heap.push ob }→Q (.ref s.heap.objs.size) { s with heap:=s.heap.push ob })→wpAny (model X.prog X.w) X.A newAcc Q E s
 turn:∀ (it:Value) (D:Addr) (env:Env),compTurn e 0 it (.ref D) env=(do
   standAt iter.pos
   match ← pyNext it with
   | none=>pure (.done .next)
   | some v=>
    letOwnedTupleGo tg it v
    assign tg env v
    let mut ok:=true
    for c in ifs do
     if ok then ok ← isTrue c env (eval c env)
    if ok then act (.ref D) env
    again (.compLoop e 0 it (.ref D) env))
 loop:∀ (A:Around) (it:Value) (D:Addr) (env:Env) (Q:Fin→Shared→Prop) (E:Value→Shared→Prop) (s:Shared),wpAny (model X.prog X.w) A ((compTurn e 0 it (.ref D) env).onRaise (fun x=>do noteFrame x env;theTreesLotGoes x)) Q E s→
  wpAny (model X.prog X.w) (A.under (.compLoop e 0 it (.ref D) env)) ((model X.prog X.w).den (.compLoop e 0 it (.ref D) env)) Q E s
 start:∀ {it acc:Value}{env:Env} {A:Around}{R:Result→Shared→Prop} {s:Shared},codeAny (model X.prog X.w) A (.compLoop e 0 it acc env) R s→
  wpAny (model X.prog X.w) A (pyIter it) (fun it' s'=>codeAny (model X.prog X.w) A (.compLoop e 0 it' acc env) R s') (notedBy (model X.prog X.w) A env fun x s'=>R (.error x) s') s→codeAny (model X.prog X.w) A (.compStart e 0 it acc env) R s
theorem zfB {e:Expr}{newAcc:Sem Value} {act:Value→Env→Sem Unit}{ho:HO} {ta:Addr→TAct}{H2:Hp} {s2:Shared}{J:It} {fp:List Addr}{it:Addr} {tn:Nat→Heap→Prop}{Q:VK} {RR:Value→Addr→Result→Shared→Prop}{E:Value→Shared→Prop} (ck:zdw X e tg iter ifs newAcc act ho) (hc:X.calm=true) (S:zaU X scope) (cp:Cap X scope N cap)
  (hg:∀ C s0 H0 fp,PG (zaA X N scope (clOf X.env scope.names []) C s0 H0 fp) tg g) (ht:∀ C s0 H0 fp,PIf (zaA X N scope (clOf X.env scope.names []) C s0 H0 fp) ifs tt) (he:∀ C s0 H0 fp D,PAct (zaA X N scope (clOf X.env scope.names []) C s0 H0 fp) act D (ta D))
  (I2:Inv X pins σ H2 s2) (T:Turn X.prog X.w X.K tg J fp it tn) (st2:tn 0 s2.heap) (f2:∀ b∈fp,FpOk X pins H2 b) (hw:zhh J g tt ta ho cap σ H2 Q)
  (hRR:∀ D C H' s' m',Inv X pins σ H' s'→s'.heap.Ns C m'→H' C=none→C≠X.env.locals→X.s₀.heap.objs.size≤C→(∀ x c,X.env.cells.lookup x=some c→c≠C)→(∀ p∈X.pn++pins,p.1≠C)→Q (.ref D) H'→RR (.ref D) C (.ok .next) s') :
  wpAny (model X.prog X.w) X.A newAcc (fun acc s3=>wpAny (model X.prog X.w) X.A (newFunctionEnv scope X.env.globals (clOf X.env scope.names []) [] X.env.qual none .none (some X.env)) (fun cenv s4=>
   codeAny (model X.prog X.w) X.A (.compStart e 0 (.ref it) acc { cenv with scope:=relabel scope X.env }) (RR acc cenv.locals) s4) E s3) E s2:=by
 refine ck.new pins σ H2 s2 _ _ I2 fun ob I3=>wpAny_newFunctionEnv S.cells (by intro y hy;simp at hy) (fun h1 hns1 hsb1=>?_) S.kind
 dsimp only at hns1 hsb1 ⊢
 have D0:H2 s2.heap.objs.size=none:=I2.fresh
 obtain ⟨W,⟨m0,w0⟩,turn⟩:=hw s2.heap.objs.size D0
 generalize hs3:({ s2 with heap:=s2.heap.push ob }:Shared)=s3 at I3
 have e3:s3.heap=s2.heap.push ob:=by rw [← hs3]
 have z3:s3.heap.objs.size=s2.heap.objs.size + 1:=by rw [e3,Heap.size_push]
 rw [← e3] at hns1 hsb1 ⊢
 generalize hD:s2.heap.objs.size=D at *
 generalize hC:s3.heap.objs.size=C at *
 have fp2:∀ b∈fp,b < D:=fun b hb=>by
  obtain ⟨o,e,_⟩:=T.obj 0 _ st2 b hb
  rw [← hD];exact Heap.lt_size e
 have f3:∀ b∈fp,FpOk X pins (upd H2 D ho) b:=fun b hb=>by
  obtain ⟨a1,a2⟩:=f2 b hb
  exact ⟨by rw [zar (Nat.ne_of_lt (fp2 b hb))];exact a1,a2⟩
 have hfp:∀ b∈fp,b < s3.heap.objs.size:=fun b hb=>by rw [hC,z3];exact Nat.lt_succ_of_lt (fp2 b hb)
 have old:∀ b o,s3.heap.get? b=some o→h1.get? b=some o:=fun b o e=>
  hsb1.extBut b o (Nat.ne_of_lt (by rw [← hC];exact Heap.lt_size e)) (Heap.get?_push_of_some _ e)
 have old2:∀ b o,s2.heap.get? b=some o→s3.heap.get? b=some o:=fun b o e=>by rw [e3];exact Heap.get?_push_of_some _ e
 have ds4:∀ s4:Shared,s4={ s2 with heap:=h1,toks:=s2.toks + ([]:List (Str×Value)).length }→
   codeAny (model X.prog X.w) X.A (.compLoop e 0 (.ref it) (.ref D) (compEnvC scope (clOf X.env scope.names []) C X.env)) (RR (.ref D) C) s4:=by
  intro s4 es4
  have os4:s4.os=s3.os:=by rw [es4,← hs3]
  have bare4:AllBare s4.gens:=by rw [es4];exact I2.bare
  have heap4:s4.heap=h1:=by rw [es4]
  have st4:tn 0 s4.heap:=by rw [heap4];exact T.keep _ _ _ st2 fun b _ o e=>old b o (old2 b o e)
  refine codeAny_loop rfl (fun n s=>∃ i H,s.os=s3.os∧AllBare s.gens∧Un (frs X.stack) fp (upd H2 D ho) H s3.heap s.heap∧(∃ m,s.heap.Ns C m)∧H C=none∧HOk X.prog X.w H s.heap∧tn i s.heap∧(∀ b∈fp,H b=none)∧W i n H)
   (fun n s hI=>?_) m0 ⟨0,_,os4,bare4,by rw [heap4];exact Un.kept old,by rw [heap4];exact ⟨_,hns1⟩,I3.hok.fresh (Nat.le_of_eq hC),by rw [heap4];exact I3.hok.kept old,st4,fun b hb=>(f3 b hb).1,w0⟩
  obtain ⟨i,H,os,bare,un,ns,fC,hok,st,fr,wi⟩:=hI
  refine ck.loop _ _ _ _ _ _ _ ?_
  refine wpAny_noted ?_
  rw [ck.turn]
  have hCge:s3.heap.objs.size≤C:=Nat.le_of_eq hC
  have IY:=ziZ S cp I3 f3 hfp hCge os bare un ns fC hok
  generalize hYd:zaA X N scope (clOf X.env scope.names []) C s3 (upd H2 D ho) fp=Y at IY
  have hYA:Y.A=X.A:=by rw [← hYd];rfl
  have hYenv:Y.env=compEnvC scope (clOf X.env scope.names []) C X.env:=by rw [← hYd];rfl
  have hYp:Y.prog=X.prog:=by rw [← hYd];rfl
  have hYw:Y.w=X.w:=by rw [← hYd];rfl
  have hYK:Y.K=X.K:=by rw [← hYd];rfl
  have hYc:Y.calm=true:=by rw [← hYd];exact hc
  have hYxe:∀ e s,¬ Y.xe e s:=fun e s z=>by rw [← hYd] at z;exact z
  have gY:PG Y tg g:=by rw [← hYd];exact hg _ _ _ _
  have tY:PIf Y ifs tt:=by rw [← hYd];exact ht _ _ _ _
  have eY:PAct Y act D (ta D):=by rw [← hYd];exact he _ _ _ _ _
  have stat:∀ {H':Hp},(∀ b∈fp,H' b=none)→∀ b∈fp,FpOk Y [] H' b:=fun {H'} hn b hb=>by
   have okY:=IY.ok
   refine ⟨hn b hb,(okY.exf b (by rw [← hYd];exact hb)).1,okY.exfs b (by rw [← hYd];exact hb),.inl (by rw [← hYd];exact hb),fun x c e=>(okY.exf b (by rw [← hYd];exact hb)).2 x c e,fun p hp=>?_⟩
   rw [← hYd] at hp
   exact absurd (show p∈([]:List (Addr×Obj)) from hp) (by simp)
  have alt:=turn i n H wi
  have base_of:∀ {σ':St}{pins':List (Addr×Obj)} {H':Hp}{s':Shared},Inv Y pins' σ' H' s'→s'.os=s3.os∧AllBare s'.gens∧Un (frs X.stack) fp (upd H2 D ho) H' s3.heap s'.heap∧(∃ m,s'.heap.Ns C m)∧H' C=none∧HOk X.prog X.w H' s'.heap:=fun {σ' pins' H' s'} I'=>by
   have b1:=I'.os
   have b2:=I'.base
   have b3:=I'.loc
   have b4:=I'.free
   have b5:=I'.hok
   rw [← hYd] at b1 b2 b3 b4 b5
   obtain ⟨m,hm,_⟩:=b3
   exact ⟨b1,I'.bare,b2,⟨m,hm⟩,b4,b5⟩
  refine wpAny_bind (wpAny_standAt (wpAny_bind ?_))
  rcases alt with ⟨stop,qn⟩ | ⟨go,step⟩
  ·have h1:=T.done Y hYp hYw hYK hYc i [] s _ H (notedBy (model X.prog X.w) X.A (compEnvC scope (clOf X.env scope.names []) C X.env) fun e s'=>RR (.ref D) C (.error e) s') IY (stat fr) st stop
   rw [hYA] at h1
   refine wpAny_mono h1 (fun r s5 h5=>?_) fun _ _ z=>z
   obtain ⟨hr,I5⟩:=h5
   subst hr
   refine wpAny_pure ?_
   obtain ⟨os5,bare5,un5,⟨m5,ns5⟩,fC5,hok5⟩:=base_of I5
   have IX:Inv X pins σ H s5:=I3.call' (ch:=fp) (by rw [os5]) un5 hok5 bare5 fun b hb=>by
    obtain ⟨_,a2,a3,a4,a5,a6⟩:=f3 b hb
    exact ⟨a4,a2,a5,a6⟩
   refine hRR D C H s5 m5 IX ns5 fC5 ?_ ?_ ?_ ?_ qn
   ·exact Nat.ne_of_gt (Nat.lt_of_lt_of_le I3.lt hCge)
   ·exact Nat.le_trans I3.sz hCge
   ·intro x c e z
    obtain ⟨v,q⟩:=I3.cell x c e
    exact absurd (Nat.lt_of_lt_of_le q.lt hCge) (by rw [z];exact Nat.lt_irrefl _)
   ·intro p hp z
    exact absurd (Nat.lt_of_lt_of_le (Heap.lt_size (I3.pin p hp).1) hCge) (by rw [z];exact Nat.lt_irrefl _)
  ·have h1:=T.item Y hYp hYw hYK hYc i [] s _ H Y.xe IY (stat fr) st go
   rw [hYA] at h1
   refine wpAny_mono h1 (fun r s5 h5=>?_) fun e s' z=>absurd z (hYxe e s')
   obtain ⟨u,hr,h5⟩:=h5
   subst hr
   refine wpAny_bind (wpAny_mono h5 (fun _ s6 h6=>?_) fun e s' z=>absurd z (hYxe e s'))
   obtain ⟨x,H6,I6,r6,y6,st6,fr6⟩:=h6
   have I6':=I6.pinned (stat fr6) (T.obj _ _ st6)
   have h7:=gY _ s6 _ H6 x u _ I6' r6 (step x H6 y6)
   rw [hYA,hYenv,hYp,hYw] at h7
   refine wpAny_bind (wpAny_mono h7 (fun _ s7 h7=>?_) fun e s' z=>absurd z (hYxe e s'))
   obtain ⟨σ7,H7,I7,q7⟩:=h7
   have h8:=tY _ s7 σ7 H7 _ I7 q7
   rw [hYA,hYenv,hYp,hYw] at h8
   refine wpAny_bind (wpAny_mono h8 (fun b s8 h8=>?_) fun e s' z=>absurd z (hYxe e s'))
   obtain ⟨H8,I8,q8⟩:=h8
   have again:∀ {σ9:St}{H9:Hp} {s9:Shared},Inv Y ([]++zfg fp s6.heap) σ9 H9 s9→(∃ m',m' < n∧W (i + 1) m' H9)→
     ∃ m,m < n∧∃ i H,s9.os=s3.os∧AllBare s9.gens∧Un (frs X.stack) fp (upd H2 D ho) H s3.heap s9.heap∧(∃ m,s9.heap.Ns C m)∧H C=none∧HOk X.prog X.w H s9.heap∧tn i s9.heap∧(∀ b∈fp,H b=none)∧W i m H:=fun {σ9 H9 s9} I9 ⟨m',hm,w9⟩=>by
    obtain ⟨b1,b2,b3,b4,b5,b6⟩:=base_of I9
    refine ⟨m',hm,i + 1,H9,b1,b2,b3,b4,b5,b6,T.keep _ _ _ st6 fun b hb o e=>(I9.pin (b,o) (List.mem_append_right _ (List.mem_append_right _ (zcl hb e)))).1,fun b hb=>?_,w9⟩
    obtain ⟨o,e,d⟩:=T.obj _ _ st6 b hb
    exact (I9.pin (b,o) (List.mem_append_right _ (List.mem_append_right _ (zcl hb e)))).2.1
   cases b with
   | false=>
    simp only [Bool.false_eq_true,if_false] at q8 ⊢
    exact wpAny_pure ⟨rfl,again I8 q8⟩
   | true=>
    simp only [if_true] at q8 ⊢
    have h9:=eY _ s8 σ7 H8 _ I8 q8
    rw [hYA,hYenv,hYp,hYw] at h9
    refine wpAny_bind (wpAny_mono h9 (fun _ s9 h9=>?_) fun e s' z=>absurd z (hYxe e s'))
    obtain ⟨σ9,H9,I9,q9⟩:=h9
    exact wpAny_pure ⟨rfl,again I9 q9⟩
 have st1:tn 0 h1:=T.keep _ _ _ st2 fun b _ o e=>old b o (old2 b o e)
 exact ck.start (ds4 _ rfl) (T.self X.A 0 _ _ _ st1 (ds4 _ rfl))
noncomputable def actL (elt:Expr):Value→Env→Sem Unit:=fun acc env=>do let _ ← call (.builtin "list.append") [acc,← eval elt env]
theorem zij:zdw X (.ListComp elt [⟨tg,iter,ifs,0⟩] scope pos) tg iter ifs (newList []) (actL elt) (.lst []) where
 new:=fun pins σ H s Q E I h=>wpAny_newObj_type (h _ (I.lnew (t':=s.toks) .nil (Nat.zero_le _)))
 turn:=fun it D env=>by rw [compTurn_list];rfl
 loop:=fun A it D env Q E s h=>h
 start:=fun h0 h=>codeAny_compStart_list h0 h
noncomputable def taL (te:TE) (D:Addr):TAct:=fun σ H Q=>te σ H fun v H4=>∃ acc,H4 D=some (.lst acc)∧acc.length < sizeLine∧Q (upd H4 D (.lst (acc++[v])))
theorem zfi {Y:Cx}(he:PE Y elt te) (D:Addr):PAct Y (actL elt) D (taL te D):=by
 intro pins s σ H Q I h
 unfold actL
 refine wpAny_bind (thn (he pins s σ H _ I h) fun v s9 ⟨v9,H9,I9,r9,acc,hD9,hlen,q9⟩=>?_)
 refine wpAny_bind (thn (zfp (X:=Y) _ s9 σ H9 (.ref D) [v9] (.ref D) [v] (fun z Hz=>z=.non∧Hz=upd H9 D (.lst (acc++[v9]))) I9 rfl (.cons r9 .nil) ⟨D,acc,v9,rfl,rfl,hD9,hlen,rfl,rfl⟩) fun _ s10 h10=>?_)
 obtain ⟨_,H10,I10,_,_,e10⟩:=h10
 subst e10
 exact wpAny_pure ⟨_,_,I10,q9⟩
noncomputable def zlY (K:PySem.W.Frag) (J:It) (g:TG) (tt:TT) (te:TE) (cap:List (Option Nat)) (σ:St) (H1:Hp) (Q:VK):Prop:=zhh J g tt (taL te) (.lst []) cap σ H1 Q
noncomputable def zhl (wi:TI) (g:TG) (tt:TT) (ta:Addr→TAct) (ho:HO) (cap:List (Option Nat)):TE:=fun σ H Q=>wi σ H fun J H1=>zhh J g tt ta ho cap σ H1 Q
noncomputable def zkL (K:PySem.W.Frag) (wi:TI) (g:TG) (tt:TT) (te:TE) (cap:List (Option Nat)):TE:=zhl wi g tt (taL te) (.lst []) cap
theorem ziI {e:Expr}{newAcc:Sem Value} {act:Value→Env→Sem Unit}{ho:HO} {ta:Addr→TAct}{wi:TI} (ck:zdw X e tg iter ifs newAcc act ho) (N:List Str) (cap:List (Option Nat)) (cp:Cap X scope N cap) (hc:X.calm=true) (hi:PI X tg iter wi)
  (hg:∀ C s0 H0 fp,PG (zaA X N scope (clOf X.env scope.names []) C s0 H0 fp) tg g) (ht:∀ C s0 H0 fp,PIf (zaA X N scope (clOf X.env scope.names []) C s0 H0 fp) ifs tt) (he:∀ C s0 H0 fp D,PAct (zaA X N scope (clOf X.env scope.names []) C s0 H0 fp) act D (ta D))
  (S:zaU X scope) (hs:∀ x,foldedSetIterable iter X.env x=pure x) (hcl:clausesOf e=[⟨tg,iter,ifs,0⟩]) {p:Pos}(hev:eval e X.env=comprehension e scope X.env p newAcc false (eval iter X.env)) :
  PE X e (zhl wi g tt ta ho cap):=by
 intro pins s σ H Q I h
 rw [hev]
 refine wpAny_comprehension_free (use:=none) hcl hs (zeq (S.cellsOf I.ok)) S.kind S.names (thn (hi pins s σ H _ I h) fun v s1 h1=>thn h1 fun itv s2 h2=>?_)
 obtain ⟨it,fp,tn,J,H2,e,I2,T,st2,f2,hw⟩:=h2
 subst e
 refine zfB (RR:=fun acc C=>compPost (model X.prog X.w) X.A X.xe none (EP X pins σ Q) acc C) ck hc S cp hg ht he I2 T st2 f2 hw ?_
 intro D C H' s' m' I' ns fC c1 c2 c3 c4 q
 exact ⟨m',ns,fun h' hs'=>⟨.ref D,H',I'.turned (t':=s'.toks) (fun b o hb e=>(hs'.2 b hb).trans e) fC c1 (.inr c2) c3 c4,rfl,q⟩⟩
theorem zfQ {e:Expr}{newAcc:Sem Value} {act:Value→Env→Sem Unit}{ho:HO} {ta:Addr→TAct}{wi:TI} {k:Nat}{y:Str} {py spos:Pos}(ck:zdw X e tg iter ifs newAcc act ho) (N:List Str) (cap:List (Option Nat)) (cp:Cap X scope N cap) (hc:X.calm=true) (hN:X.N.Nodup) (hk:X.N[k]?=some y) (hy:Loc X.env.scope y) (hi:PI X tg iter wi)
  (hg:∀ C s0 H0 fp,PG (zaA X N scope (clOf X.env scope.names []) C s0 H0 fp) tg g) (ht:∀ C s0 H0 fp,PIf (zaA X N scope (clOf X.env scope.names []) C s0 H0 fp) ifs tt) (he:∀ C s0 H0 fp D,PAct (zaA X N scope (clOf X.env scope.names []) C s0 H0 fp) act D (ta D))
  (S:zaU X scope) (hs:∀ x,foldedSetIterable iter X.env x=pure x) (hcl:clausesOf e=[⟨tg,iter,ifs,0⟩]) {p:Pos}(hev:∀ use,evalThenUse e X.env use=(do let _ ← comprehension e scope X.env p newAcc false (eval iter X.env) (some use)))
  (hsw:swapsWith e (some (.Name y py)) spos.line X.env=pure true) (hf:X.fn y=true∨X.env.scope.names.lookup y=some .local) :
  PS X (.Assign [.Name y py] e spos) (tAsg (zhl wi g tt ta ho cap) (zjd k)):=by
 intro pins s σ H D0 I h
 rw [exec_Assign_Name_used _ _ _ _ hsw]
 refine wpAny_bind (wpAny_standAt (wpAny_bind ?_))
 rw [hev]
 refine wpAny_bind (wpAny_mono (wpAny_comprehension_free (use:=some (assign (.Name y py) X.env)) (Q:=fun _ s'=>SP X pins D0 .next s') hcl hs (zeq (S.cellsOf I.ok)) S.kind S.names
  (thn (hi pins s σ H _ I h) fun v s1 h1=>thn h1 fun itv s2 h2=>?_)) (fun _ s' hq=>wpAny_pure (wpAny_pure hq)) fun _ _ e=>e)
 obtain ⟨it,fp,tn,J,H2,e,I2,T,st2,f2,hw⟩:=h2
 subst e
 refine zfB (RR:=fun acc C=>compPost (model X.prog X.w) X.A X.xe (some (assign (.Name y py) X.env)) (fun _ s'=>SP X pins D0 .next s') acc C) ck hc S cp hg ht he I2 T st2 f2 hw ?_
 intro D C H' s' m' I' ns fC c1 c2 c3 c4 q
 show wpAny _ X.A (assign (.Name y py) X.env (.ref D)) _ _ _
 refine wpAny_assign_Name (zeW I' hN hk hy (v:=.ref D) rfl (fun s'' I'' ⟨a,hsb,ha⟩=>?_) hf)
 have hCa:C≠a:=by
  rcases ha with z | z
  ·rw [z];exact c1
  ·exact fun w=>c3 y a z w.symm
 refine ⟨m',ns.sameBut hsb hCa,fun h' hs'=>⟨_,H',I''.turned (t':=s''.toks) (fun b o hb e=>(hs'.2 b hb).trans e) fC c1 (.inr c2) c3 c4,q⟩⟩
theorem zkb {wi:TI}(N:List Str) (cap:List (Option Nat)) (cp:Cap X scope N cap) (hc:X.calm=true) (hi:PI X tg iter wi)
  (hg:∀ C s0 H0 fp,PG (zaA X N scope (clOf X.env scope.names []) C s0 H0 fp) tg g) (ht:∀ C s0 H0 fp,PIf (zaA X N scope (clOf X.env scope.names []) C s0 H0 fp) ifs tt) (he:∀ C s0 H0 fp,PE (zaA X N scope (clOf X.env scope.names []) C s0 H0 fp) elt te)
  (S:zaU X scope:=by exact zaU.mk') (hs:∀ x,foldedSetIterable iter X.env x=pure x:=by intro _;rfl) :
  PE X (.ListComp elt [⟨tg,iter,ifs,0⟩] scope pos) (zkL X.K wi g tt te cap):=
 ziI zij N cap cp hc hi hg ht (fun C s0 H0 fp D=>zfi (he C s0 H0 fp) D) S hs rfl (eval_ListComp ..)
theorem zgO {wi:TI}{k:Nat} {y:Str}{py spos:Pos} (N:List Str) (cap:List (Option Nat)) (cp:Cap X scope N cap) (hc:X.calm=true) (hN:X.N.Nodup) (hk:X.N[k]?=some y) (hy:Loc X.env.scope y) (hi:PI X tg iter wi)
  (hg:∀ C s0 H0 fp,PG (zaA X N scope (clOf X.env scope.names []) C s0 H0 fp) tg g) (ht:∀ C s0 H0 fp,PIf (zaA X N scope (clOf X.env scope.names []) C s0 H0 fp) ifs tt) (he:∀ C s0 H0 fp,PE (zaA X N scope (clOf X.env scope.names []) C s0 H0 fp) elt te)
  (S:zaU X scope:=by exact zaU.mk') (hs:∀ x,foldedSetIterable iter X.env x=pure x:=by intro _;rfl)
  (hsw:swapsWith (.ListComp elt [⟨tg,iter,ifs,0⟩] scope pos) (some (.Name y py)) spos.line X.env=pure true:=by rfl)
  (hf:X.fn y=true∨X.env.scope.names.lookup y=some .local:=by first | exact .inl rfl | exact .inr rfl | assumption) :
  PS X (.Assign [.Name y py] (.ListComp elt [⟨tg,iter,ifs,0⟩] scope pos) spos) (tAsg (zkL X.K wi g tt te cap) (zjd k)):=
 zfQ zij N cap cp hc hN hk hy hi hg ht (fun C s0 H0 fp D=>zfi (he C s0 H0 fp) D) S hs rfl (fun _=>rfl) hsw hf
end
end L2
set_option Elab.async false
set_option linter.all false
set_option maxRecDepth 100000
namespace L2
open PySem PySem.Spec PyProof.Rows
section
variable {X:Cx}{a b:Expr} {ta tb:TE}{pos:Pos}
noncomputable def rIsi (K:PySem.W.Frag):List V→Hp→VK→Prop:=fun xs H Q=>∃ x T t k,xs=[x,.ty T]∧TyOf K H x t∧PySem.W.kitOne K t (.type T)=some k∧Q (.bl k) H
theorem zjl:zcj X (.builtin "isinstance") (rIsi X.K):=by
 intro pins s σ H xs us Q I r h
 obtain ⟨x,T,t,k,rfl,ty,e,q⟩:=h
 obtain ⟨u,c,rfl,r1,r2⟩:=zlZ r
 cases (show c=Value.type T from r2)
 exact zhR I r1 ty e fun tk=>⟨.bl k,H,I.tok _,rfl,q⟩
noncomputable def zkU (K:PySem.W.Frag):R2:=fun x y H Q=>∃ a b ys,x=.ref a∧y=.ref b∧SqT K H a []∧SqT K H b ys∧Q (.ref b) H
theorem ziN:OpR X (binaryOp .Add) (zkU X.K):=by
 intro pins s σ H x y v u Q I rx ry h
 obtain ⟨a,b,ys,rfl,rfl,ha,hb,q⟩:=h
 cases rx
 cases ry
 obtain ⟨its,r1,p1,_⟩:=I.tuple ha
 obtain ⟨its2,r2,p2,_⟩:=I.tuple hb
 have e:its=[]:=by cases r1;rfl
 subst e
 obtain ⟨⟨cls,dd,data,sl⟩,ho,hc,n,hd⟩:=id p1
 obtain ⟨⟨cls2,dd2,data2,sl2⟩,ho2,hc2,n2,hd2⟩:=id p2
 simp only at hc hd hc2 hd2
 subst hc hd hc2 hd2
 exact concat_meets ⟨_,ho,rfl⟩ ⟨_,ho2,rfl⟩ noFill_tuple_add seq_tuple_add PySem.F.slot_tuple_add PySem.F.entry_tuple_add (PySem.F.args_tuple_add_2 _ _)
   (tuple_addW0 a b _ its2.toArray n n2 dd dd2 sl sl2 (by simp)) ⟨ho,ho2,⟨.ref b,H,I.tok _,rfl,q⟩⟩
noncomputable def zmp (K:PySem.W.Frag):R2:=fun x y H Q=>∃ a b xs ys,x=.ref a∧y=.ref b∧SqT K H a xs∧SqT K H b ys∧xs.length + ys.length≤sizeLine∧
 (xs=[]→Q (.ref b) H)∧(xs≠[]→ys=[]→Q (.ref a) H)∧(xs≠[]→ys≠[]→∀ p,H p=none→Q (.ref p) (upd H p (.tup (xs++ys))))
theorem zkh:OpR X (binaryOp .Add) (zmp X.K):=by
 intro pins s σ H x y v u Q I rx ry h
 obtain ⟨a,b,xs,ys,rfl,rfl,ha,hb,hz,q0,q1,q2⟩:=h
 by_cases e:xs=[]
 ·subst e
  exact ziN pins s σ H _ _ v u Q I rx ry ⟨a,b,ys,rfl,rfl,ha,hb,q0 rfl⟩
 ·exact zkg pins s σ H _ _ v u Q I rx ry ⟨a,b,xs,ys,rfl,rfl,ha,hb,e,hz,q1 e,q2 e⟩
theorem zds (a v:Value):argsOk "max" ⟨[a],[(Str.ofString "default",v)]⟩:=by unfold argsOk;kernel_rfl
end
section
variable {prog:Program}{w:World} {A:Around}
theorem zgS {R:Result→Shared→Prop}{l I S:Addr} {its:List Value}{ns:List Int} {d:Value}(hh:A.handled=none) (hi:IntsAre its ns) (hlI:l≠I) (hSI:S≠I) (hSl:S≠l) :
  ∀ (k i:Nat) (s:Shared) (m:Int) (t:Tok) (c:Nat),ns.length - i=k→i≤ns.length→s.heap.IsListIter I l i→s.heap.IsList l its.toArray→
  s.heap.get? S=some { cls:=.type "list",dict:=none,data:=.seq #[.int m t,.int m t] c,slots:=#[] }→
  (∀ h' tk t',(∀ b o,b≠I→b≠S→s.heap.get? b=some o→h'.get? b=some o)→R (.ok (.ret (.int ((ns.drop i).foldl max m) t'))) { s with heap:=h',toks:=tk })→
  codeAny (model prog w) A (.builtin "max.loop" ⟨[.ref I,.none,.ref S],[(Str.ofString "default",d)]⟩) R s:=by
 have hname:(toString "max" ++ toString ".loop" : String) = "max.loop" := by decide
 have W:=Walks.list (prog:=prog) (w:=w) (A:=A.in1) hh I l hlI its.toArray
 have hlen:its.toArray.size=ns.length:=by rw [List.size_toArray];exact hi.length
 intro k
 induction k with
 | zero=>
  intro i s m t c hk hi' hit hl hS hR
  have hin:i=ns.length:=by omega
  subst hin
  refine codeAny_builtin PySem.F.entry_max_loop ?_
  rw [Around.under_plainId PySem.F.plain_max_loop _]
  show wpAny _ A.in1 (seqItems? (.ref S) >>= _) _ _ s
  refine wpAny_bind (wpAny_seqItems hS rfl ?_)
  show wpAny _ A.in1 (tryCatch (pyNext (.ref I)) _ >>= _) _ _ s
  refine wpAny_bind (wpAny_tryCatch (W.done s _ _ (by rw [hlen];exact ⟨hit,hl⟩) fun h' tk hk'=>?_))
  have hS':=hk' S _ (by simpa using hSI) hS
  show wpAny _ A.in1 (updateSeq S (fun _=>#[]) >>= _) _ _ _
  refine wpAny_bind ?_
  refine wpAny_updateSeq hS' rfl (wpAny_bind (wpAny_letGo (wpAny_pure ?_)))
  have:=hR (h'.update S (Obj.mapSeq fun _=>#[])) tk t fun b o hbI hbS e=>(Heap.get?_update_other _ _ (Ne.symm hbS)).trans (hk' b o (by simpa using hbI) e)
  rw [List.drop_length] at this
  exact this
 | succ k ih=>
  intro i s m t c hk hi' hit hl hS hR
  have hlt:i < ns.length:=by omega
  refine codeAny_builtin PySem.F.entry_max_loop ?_
  rw [Around.under_plainId PySem.F.plain_max_loop _]
  show wpAny _ A.in1 (seqItems? (.ref S) >>= _) _ _ s
  refine wpAny_bind (wpAny_seqItems hS rfl ?_)
  show wpAny _ A.in1 (tryCatch (pyNext (.ref I)) _ >>= _) _ _ s
  refine wpAny_bind (wpAny_tryCatch (W.item i s _ _ (by rw [hlen];exact hlt) ⟨hit,hl⟩ fun v h' tk hP hst' hk'=>?_))
  have hv:its[i]?=some v:=by simpa using hP
  obtain ⟨t1,rfl⟩:∃ t1,v=.int ns[i] t1:=by
   have rv:=zcG hi
   obtain ⟨u,e1,r1⟩:=rv.get (i:=i) (x:=.int ns[i]) (by simp [hlt])
   rw [hv] at e1;cases e1
   exact r1
  have hS':=hk' S _ (by simpa using hSI) hS
  have hdrop:ns.drop i=ns[i]::ns.drop (i + 1):=List.drop_eq_getElem_cons hlt
  rw [hdrop,List.foldl_cons] at hR
  show wpAny _ A.in1 (tryCatch (holding [.int ns[i] t1,.int ns[i] t1] (richCompare .Gt (.int ns[i] t1) (.int m t) >>= _)) _ >>= _) _ _ _
  refine wpAny_bind (wpAny_tryCatch (wpAny_holding (wpAny_bind ?_)))
  refine (PyProof.Rows.gt_int ?_:wpAny (model prog w) A.in1 (compareOp .Gt (.int ns[i] t1) (.int m t)) _ _ _)
  refine wpAny_bind (wpAny_holding (wpAny_truthy_bool ?_))
  refine wpAny_bind (wpAny_letGo (wpAny_pure ?_))
  by_cases hb:m < ns[i]
  ·have e:max m ns[i]=ns[i]:=by omega
   rw [e] at hR
   simp only [show decide (ns[i] > m)=true from decide_eq_true hb,if_true]
   refine wpAny_bind ?_
   refine wpAny_updateSeq hS' rfl (wpAny_bind (wpAny_letGo ?_))
   rw [hname]
   have o1:∀ b o,b≠S→h'.get? b=some o→(h'.update S (Obj.mapSeq fun _=>#[.int ns[i] t1,.int ns[i] t1])).get? b=some o:=fun b o hbS e=>(Heap.get?_update_other _ _ (Ne.symm hbS)).trans e
   refine wpAny_pure ⟨plainId_quiet PySem.F.plain_max_loop _,ih (i + 1) _ ns[i] t1 _ (by omega) hlt (hst'.1.at fun o e=>o1 _ _ (Ne.symm hSI) e) (hst'.2.at fun o e=>o1 _ _ (Ne.symm hSl) e) (Heap.get?_update_self _ hS' rfl) fun h'' tk'' t'' hk''=>?_⟩
   exact hR h'' tk'' t'' fun b o hbI hbS e=>hk'' b o hbI hbS (o1 b o hbS (hk' b o (by simpa using hbI) e))
  ·have e:max m ns[i]=m:=by omega
   rw [e] at hR
   simp only [show decide (ns[i] > m)=false from decide_eq_false hb,Bool.false_eq_true,if_false]
   refine wpAny_bind (wpAny_letGo ?_)
   rw [hname]
   refine wpAny_pure ⟨plainId_quiet PySem.F.plain_max_loop _,ih (i + 1) _ m t c (by omega) hlt hst'.1 hst'.2 hS' fun h'' tk'' t'' hk''=>?_⟩
   exact hR h'' tk'' t'' fun b o hbI hbS e=>hk'' b o hbI hbS (hk' b o (by simpa using hbI) e)
noncomputable def maxD (ns:List Int) (d:Int):Int:=match ns with
 | []=>d
 | n::r=>r.foldl max n
theorem zhb {E:Value→Shared→Prop}{s:Shared} {l:Addr}{its:List Value} {ns:List Int}{d:Int} {td:Tok}{Q:Value→Shared→Prop} (hh:A.handled=none) (hl:s.heap.IsList l its.toArray) (hi:IntsAre its ns)
  (h:∀ h' tk t',(∀ b o,s.heap.get? b=some o→h'.get? b=some o)→Q (.int (maxD ns d) t') { s with heap:=h',toks:=tk }) :
  wpAny (model prog w) A (call (.builtin "max") [.ref l] [(Str.ofString "default",.int d td)]) Q E s:=by
 have hname:(toString "max" ++ toString ".loop" : String) = "max.loop" := by decide
 have hlen:its.toArray.size=ns.length:=by rw [List.size_toArray];exact hi.length
 obtain ⟨ol,hol,_⟩:=id hl
 have hll:l < s.heap.objs.size:=Heap.lt_size hol
 refine PyProof.Rows.kmk_tree PySem.F.kind_max PySem.F.plain_max PySem.F.entry_max (zds _ _) ?_
 show wpAny _ A.in1 (Builtin.Builtins.bindParams "max" ["key", "default"] 0 ⟨[],[(Str.ofString "default",.int d td)]⟩ >>= _) _ _ s
 refine wpAny_bind (wpAny_of_eq (show Builtin.Builtins.bindParams "max" ["key", "default"] 0 ⟨[],[(Str.ofString "default",.int d td)]⟩=pure [none,some (.int d td)] from rfl) ?_)
 refine wpAny_bind (wpAny_pure ?_)
 refine wpAny_bind (wpAny_pyIter_list hl ?_)
 refine wpAny_bind (wpAny_newObj_type ?_)
 rw [hname]
 refine wpAny_pure ⟨plainId_quiet PySem.F.plain_max_loop _,?_⟩
 have hz:(s.heap.push { cls:=.type "list_iterator",data:=.fields #[.ref l,.int 0 0] }).objs.size=s.heap.objs.size + 1:=Heap.size_push ..
 generalize hH:((s.heap.push { cls:=.type "list_iterator",data:=.fields #[.ref l,.int 0 0] }).push { cls:=.type "list",dict:=none,data:=.seq ([]:List Value).toArray })=H
 have gI:H.IsListIter s.heap.objs.size l 0:=⟨_,by rw [← hH];exact Heap.get?_push_of_some _ (Heap.get?_push_size _ rfl),rfl,rfl⟩
 have gS:H.get? (s.heap.push { cls:=.type "list_iterator",data:=.fields #[.ref l,.int 0 0] }).objs.size=some { cls:=.type "list",dict:=none,data:=.seq #[] 0,slots:=#[] }:=by rw [← hH];exact Heap.get?_push_size _ rfl
 rw [hz] at gS ⊢
 have old:∀ b o,s.heap.get? b=some o→H.get? b=some o:=fun b o e=>by rw [← hH];exact Heap.get?_push_of_some _ (Heap.get?_push_of_some _ e)
 have gl:H.IsList l its.toArray:=hl.at fun o e=>old _ _ e
 have hlI:l≠s.heap.objs.size:=Nat.ne_of_lt hll
 have hSI:s.heap.objs.size + 1≠s.heap.objs.size:=Nat.succ_ne_self _
 have hSl:s.heap.objs.size + 1≠l:=Nat.ne_of_gt (Nat.lt_succ_of_lt hll)
 have W:=Walks.list (prog:=prog) (w:=w) (A:=A.in1) hh s.heap.objs.size l hlI its.toArray
 have kp:∀ b o,s.heap.get? b=some o→b≠s.heap.objs.size∧b≠s.heap.objs.size + 1:=fun b o e=>⟨Nat.ne_of_lt (Heap.lt_size e),Nat.ne_of_lt (Nat.lt_succ_of_lt (Heap.lt_size e))⟩
 refine codeAny_builtin PySem.F.entry_max_loop ?_
 rw [Around.under_plainId PySem.F.plain_max_loop _]
 show wpAny _ A.in1 (seqItems? (.ref (s.heap.objs.size + 1)) >>= _) _ _ _
 refine wpAny_bind (wpAny_seqItems gS rfl ?_)
 show wpAny _ A.in1 (tryCatch (pyNext (.ref s.heap.objs.size)) _ >>= _) _ _ _
 cases ns with
 | nil=>
  have e0:its.toArray.size=0:=by simpa using hlen
  refine wpAny_bind (wpAny_tryCatch (W.done _ _ _ (by rw [e0];exact ⟨gI,gl⟩) fun h' tk hk'=>?_))
  refine wpAny_bind (wpAny_rule (wpAny_pure ?_))
  exact h h' tk td fun b o e=>hk' b o (by simpa using (kp b o e).1) (old b o e)
 | cons n r=>
  refine wpAny_bind (wpAny_tryCatch (W.item 0 _ _ _ (by rw [hlen];simp) ⟨gI,gl⟩ fun v h' tk hP hst' hk'=>?_))
  have hv:its[0]?=some v:=by simpa using hP
  obtain ⟨t1,rfl⟩:∃ t1,v=.int n t1:=by
   have rv:=zcG hi
   obtain ⟨u,e1,r1⟩:=rv.get (i:=0) (x:=.int n) (by simp)
   rw [hv] at e1;cases e1
   exact r1
  have hS':=hk' (s.heap.objs.size + 1) _ (by simpa using hSI) gS
  show wpAny _ A.in1 (updateSeq (s.heap.objs.size + 1) (fun _=>#[.int n t1,.int n t1]) >>= _) _ _ _
  refine wpAny_bind ?_
  refine wpAny_updateSeq hS' rfl ?_
  rw [hname]
  have o1:∀ b o,b≠s.heap.objs.size + 1→h'.get? b=some o→(h'.update (s.heap.objs.size + 1) (Obj.mapSeq fun _=>#[.int n t1,.int n t1])).get? b=some o:=fun b o hbS e=>(Heap.get?_update_other _ _ (Ne.symm hbS)).trans e
  refine wpAny_pure ⟨plainId_quiet PySem.F.plain_max_loop _,zgS hh hi hlI hSI hSl _ 1 _ n t1 _ rfl (by simp) (hst'.1.at fun o e=>o1 _ _ (Ne.symm hSI) e) (hst'.2.at fun o e=>o1 _ _ (Ne.symm hSl) e) (Heap.get?_update_self _ hS' rfl) fun h'' tk'' t'' hk''=>?_⟩
  exact h h'' tk'' t'' fun b o e=>hk'' b o (kp b o e).1 (kp b o e).2 (o1 b o (kp b o e).2 (hk' b o (by simpa using (kp b o e).1) (old b o e)))
end
section
variable {X:Cx}{a b e:Expr} {es:List Expr}{ta tb:TE} {pos p kpos:Pos}{t tk:TA}
noncomputable def zjE (X:Cx) (f:Value) (ks:List Str) (r:List V→List V→Hp→VK→Prop):Prop:=
 ∀ (pins:List (Addr×Obj)) (s:Shared) (σ:St) (H:Hp) (xs zs:List V) (us ws:List Value) (Q:VK),Inv X pins σ H s→Vals xs us→Vals zs ws→r xs zs H Q→
  wpAny (model X.prog X.w) X.A (call f us (ks.zip ws)) (EP X pins σ Q) X.xe s
noncomputable def tCBK (r:List V→List V→Hp→VK→Prop) (t tk:TA):TE:=fun σ H Q=>t σ H fun vs H1=>tk σ H1 fun zs H2=>r vs zs H2 Q
theorem zhA {id:String}{ks:List Str} {r:List V→List V→Hp→VK→Prop}{x:Str} {kws:List Keyword}(hc:zjE X (.builtin id) ks r) (hg:Gl X x) (hm:X.mg x=none) (hv:bootBuiltins x=some (.builtin id)) (ha:PA X (e::es) t) (hk:PK X kws tk)
  (hks:(backToKw pos (keywordEach kws X.env)).filterMap (·.1)=ks:=by rfl) (hn:x ≠ "__name__" := by decide) (hdb:(x == ("__debug__" : Str))=false:=by decide)
  (he:backTo pos (starEach (e::es) X.env)=(false,eval e X.env)::backTo pos (starEach es X.env):=by rfl)
  (hplain:(backTo pos (starEach (e::es) X.env)).any (·.1)=false:=by rfl)
  (hall:(backToKw pos (keywordEach kws X.env)).all (·.1.isSome)=true:=by rfl)
  (hkw:(backToKw pos (keywordEach kws X.env)).any (·.1.isNone)=false:=by rfl):PE X (.Call (.Name x p) (e::es) kws pos) (tCBK r t tk):=by
 intro pins s σ H Q I h
 refine wpAny_Call_Name_kw (zdM I hg hm hv ?_ hn hdb)
 refine callWith_kw (thn (ha pos pins s σ H _ I h) fun us s1 ⟨vs,H1,I1,r1,q1⟩=>thn (hk pos pins s1 σ H1 _ I1 q1) fun ws s2 ⟨zs,H2,I2,r2,q2⟩=>?_) he hplain hall hkw
 rw [hks]
 exact hc pins s2 σ H2 vs zs us ws Q I2 r1 r2 q2
theorem zim (hc:X.calm=true):zjE X (.builtin "max") [Str.ofString "default"] (fun xs zs H Q=>∃ (p:Addr) (ns:List Int) (d:Int),xs=[.ref p]∧zs=[.int d]∧SqL X.K H p (ns.map V.int)∧Q (.int (maxD ns d)) H):=by
 intro pins s σ H xs zs us ws Q I r rz h
 obtain ⟨p,ns,d,rfl,rfl,hq,q⟩:=h
 obtain ⟨u,rfl,rx⟩:=zeU r
 obtain ⟨v,rfl,td,rfl⟩:=zeU rz
 cases rx
 obtain ⟨its,r',pl,_⟩:=I.list hq
 exact zhb (I.ok.hd hc) pl.isList (zgV r') fun h' tk t' hk=>⟨.int _,H,I.kept hk,⟨t',rfl⟩,q⟩
noncomputable def rSlS:V→Option Int→Option Int→Hp→VK→Prop:=fun x lo hi H Q=>∃ z,x=.str z∧z.length≤sizeLine∧∀ y:Str,y.length≤z.length→y=Txt.slice z lo hi→Q (.str y) H
theorem zkP:SlR X rSlS:=by
 intro pins s σ H x v vl vu lo hi sl Q I rx hs pl pu h
 obtain ⟨z,rfl,hz,q⟩:=h
 obtain ⟨t,rfl⟩:=rx
 refine ⟨"str",_,PySem.F.slot_str_getitem.lookup,typeIs_str s z t,?_⟩
 obtain ⟨o,ho,hc,hd⟩:=hs
 have fin:∀ (lo hi:Option Int),(∀ y:Str,y.length≤z.length→y=Txt.slice z lo hi→Q (.str y) H)→(Txt.slice z lo hi).length≤sizeLine∧∀ t' k,EP X pins σ Q (.str (Txt.slice z lo hi) t') { s with toks:=k }:=fun lo hi q=>
  ⟨Nat.le_trans (Txt.slice_le z lo hi) hz,fun t' k=>⟨.str _,H,I.tok _,⟨_,rfl⟩,q _ (Txt.slice_le z lo hi) rfl⟩⟩
 cases pl with
 | none=>
  cases pu with
  | none=>exact wpAny_getItem_str_slice (l:=none) (u:=none) (st:=none) ⟨o,ho,hc,hd⟩ rfl (post_val_or_str (fin none none q))
  | int j uj=>exact wpAny_getItem_str_slice (l:=none) (u:=some (j,uj)) (st:=none) ⟨o,ho,hc,hd⟩ rfl (post_val_or_str (fin none (some j) q))
 | int i ui=>
  cases pu with
  | none=>exact wpAny_getItem_str_slice (l:=some (i,ui)) (u:=none) (st:=none) ⟨o,ho,hc,hd⟩ rfl (post_val_or_str (fin (some i) none q))
  | int j uj=>exact wpAny_getItem_str_slice (l:=some (i,ui)) (u:=some (j,uj)) (st:=none) ⟨o,ho,hc,hd⟩ rfl (post_val_or_str (fin (some i) (some j) q))
theorem zgL {ys:List Str}:∀ {us:List Value},Vals (ys.map V.str) us→StrsAre us ys:=by
 induction ys with
 | nil=>intro us r;rw [List.map_nil] at r;cases r;exact .nil
 | cons n ns ih=>
  intro us r
  rw [List.map_cons] at r
  cases r with
  | cons r1 r2=>
   obtain ⟨t,e⟩:=r1
   subst e
   exact .cons n t (ih r2)
theorem zkl:MtR X "str.join" (fun x xs H Q=>∃ (sep:Str) (p:Addr) (ys:List Str),x=.str sep∧xs=[.ref p]∧SqL X.K H p (ys.map V.str)∧(ys.map (·.length)).sum + ys.length * sep.length≤16777216∧
  ∀ y:Str,y=Txt.join sep ys→Q (.str y) H):=by
 intro pins s σ H x xs v us Q I rx rs h
 obtain ⟨sep,p,ys,rfl,rfl,hq,hz,q⟩:=h
 obtain ⟨t,rfl⟩:=rx
 obtain ⟨u,rfl,ru⟩:=zeU rs
 cases ru
 obtain ⟨its,r',pl,_⟩:=I.list hq
 exact join_list pl.isList (zgL r') hz fun t' k=>⟨.str _,H,I.tok _,⟨_,rfl⟩,q _ rfl⟩
end
end L2
set_option Elab.async false
set_option linter.all false
set_option maxRecDepth 100000
namespace L2
open PySem PySem.Spec PyProof.Rows
section
variable {X:Cx}{e st:Expr} {te ts:TE}{pos p2:Pos}
theorem zgz {α β:Type}{f g:α→Option β}:∀ {l:List α},(∀ k∈l,f k=g k)→l.filterMap f=l.filterMap g
 | [],_=>rfl
 | a::l,h=>by
  rw [List.filterMap_cons,List.filterMap_cons,h a List.mem_cons_self,zgz fun k hk=>h k (List.mem_cons_of_mem _ hk)]
theorem zhs (l:List Value):((List.range l.length).map fun (k:Nat)=>(((l.length:Int) - 1) + (-1) * (k:Int)).toNat).filterMap (fun i=>l[i]?)=l.reverse:=by
 apply List.ext_getElem?
 intro i
 rw [List.filterMap_map]
 have e:((List.range l.length).filterMap ((fun i=>l[i]?) ∘ fun (k:Nat)=>(((l.length:Int) - 1) + (-1) * (k:Int)).toNat))=(List.range l.length).filterMap fun k=>l.reverse[k]?:=by
  refine zgz fun k hk=>?_
  have hk':k < l.length:=List.mem_range.mp hk
  show l[(((l.length:Int) - 1) + (-1) * (k:Int)).toNat]?=l.reverse[k]?
  rw [List.getElem?_reverse hk']
  congr 1
  omega
 rw [e]
 have e2:∀ r:List Value,(List.range r.length).filterMap (fun k=>r[k]?)=r:=by
  intro r
  induction r with
  | nil=>rfl
  | cons a r ih=>
   rw [List.length_cons,List.range_succ_eq_map,List.filterMap_cons]
   simp only [List.getElem?_cons_zero,List.filterMap_map]
   congr 1
 have e3:=e2 l.reverse
 rw [List.length_reverse] at e3
 rw [e3]
theorem ziD (its:List Value):slicePick its.toArray none none (some (-1))=its.reverse.toArray:=by
 unfold slicePick
 have h1:sliceBounds none none (some (-1)) its.toArray.size=((its.length:Int) - 1,-1,-1):=by
  simp [sliceBounds]
 rw [h1]
 unfold sliceRange
 simp only [show ¬ ((-1:Int) > 0) by decide,if_false]
 have hc:(if (its.length:Int) - 1 > -1 then ((its.length:Int) - 1 - -1 - -1 - 1) / (- -1) else 0).toNat=its.length:=by
  have e1:(- -1:Int)=1:=by decide
  rw [e1,Int.ediv_one]
  split<;>omega
 rw [hc]
 have:=zhs its
 simp only [List.getElem?_toArray]
 rw [this]
noncomputable def rRev (K:PySem.W.Frag):V→Hp→VK→Prop:=fun x H Q=>∃ a xs,x=.ref a∧SqL K H a xs∧∀ p,H p=none→Q (.ref p) (upd H p (.lst xs.reverse))
noncomputable def tRev (K:PySem.W.Frag) (te ts:TE):TE:=fun σ H Q=>te σ H fun x H1=>ts σ H1 fun y H2=>y=.int (-1)∧rRev K x H2 Q
theorem zlg (he:PE X e te) (hs:PE X st ts):PE X (.Subscript e (.Slice none none (some st) p2) pos) (tRev X.K te ts):=by
 intro pins s σ H Q I h
 refine Subscript_ (thn (he pins s σ H _ I h) fun v s1 ⟨x,H1,I1,r1,q1⟩=>?_)
 refine wpAny_Slice ?_
 rw [evalPart_none,evalPart_some]
 refine wpAny_pure (wpAny_pure (thn (hs pins s1 σ H1 _ I1 q1) fun vs s3 ⟨y,H3,I3,r3,ey,q3⟩=>?_))
 subst ey
 obtain ⟨t,rfl⟩:=r3
 have I4:Inv X pins σ H3 { s3 with heap:=s3.heap.push { cls:=.type "slice",data:=.fields #[.none,.none,.int (-1) t] } }:=I3.kept (t':=s3.toks) fun b ob q=>Heap.get?_push_of_some _ q
 obtain ⟨a,xs,rfl,hx,q⟩:=q3
 cases r1
 obtain ⟨its,r,ht,hz⟩:=I4.list hx
 have hlen:=r.length
 show wpAny (model X.prog X.w) X.A (subscriptTail e (.Slice none none (some st) p2) (.ref a) (.ref s3.heap.objs.size)) (EP X pins σ Q) X.xe { s3 with heap:=s3.heap.push { cls:=.type "slice",data:=.fields #[.none,.none,.int (-1) t] } }
 refine tail_any (ops:=[.ref a,.ref s3.heap.objs.size]) ht.isList.typeIs slot_list_getitem.lookup ?_ (by with_unfolding_all rfl)
 refine wpAny_getItem_list_slice ht.isList (Heap.IsSliceOf.new ..) .none .none (.int (-1) t) (by simp) ?_ (by rw [List.size_toArray]<;>omega)
 rw [ziD]
 exact ⟨.ref _,_,I4.lnew (t':=s3.toks) r.reverse (by rw [List.length_reverse];exact hz),rfl,q _ I4.fresh⟩
end
end L2
namespace HT
open PySem PyProof.Rows
section
open PySem.SeqAt
open PySem.AutoSeq1 (wpAny_loadPart')
open PySem.MeetsSeq PySem.MeetsSeq2 PySem.MeetsSeq3
end
section
variable {prog:Program}{w:World} {A:Around}{E:Value→Shared→Prop} {s:Shared}
theorem zda {it l:Addr}{i:Nat} {items} {x:Value}{Q:Value→Shared→Prop} (hit:s.heap.IsTupleIter it l i)
  (hl:s.heap.IsTuple l items) (hx:items[i]?=some x)
  (hQ:∀ h',h'.IsTupleIter it l (i + 1)→Heap.SameBut it s.heap h'→Q x { s with heap:=h' }) :
  wpAny (model prog w) A (Builtin.SmallTypes.nextOf (.ref it)) Q E s:=by
 obtain ⟨o,ho,hc,hd⟩:=id hit
 obtain ⟨ol,hol,_,nl,hdl⟩:=hl
 unfold Builtin.SmallTypes.nextOf
 refine wpAny_bind (wpAny_callSpecial?_slot (name:=Str.ofString "__next__") hit.typeIs PySem.F.slot_tuple_iterator_next
  (wpAny_call_entry PySem.F.slot_tuple_iterator_next hit.typeIs PySem.F.entry_tuple_iterator_next ?_ (PySem.F.args_tuple_iterator_next_1 _)))
 show wpAny _ _ (field (.ref it) 0 >>= _) _ _ s
 refine wpAny_bind (wpAny_field ho hd (x:=.ref l) rfl ?_)
 show wpAny _ _ (if (Value.ref l == Value.none)=true then _ else _) _ _ s
 rw [if_neg (show ¬ ((Value.ref l == Value.none)=true) from Bool.false_ne_true)]
 show wpAny _ _ (field (.ref it) 1 >>= _) _ _ s
 refine wpAny_bind (wpAny_field ho hd (x:=.int i 0) rfl ?_)
 show wpAny _ _ (seqItems? (.ref l) >>= _) _ _ s
 refine wpAny_bind (wpAny_seqItems hol hdl ?_)
 simp only [Int.toNat_natCast,hx]
 refine wpAny_bind (wpAny_setField ho hd (by simp) (wpAny_pure ⟨x,rfl,wpAny_pure (hQ _ ?_ (Heap.SameBut.update ..))⟩))
 exact ⟨_,Heap.get?_update_self _ ho (Obj.isFreed_of_fields (Obj.data_mapFields hd _)),(Obj.cls_mapFields ..).trans hc,by
  rw [Obj.data_mapFields hd];simp [rawInt]⟩
theorem zdq {it l:Addr}{i:Nat} {items} {Q:Value→Shared→Prop}(hh:A.handled=none)
  (hit:s.heap.IsTupleIter it l i) (hl:s.heap.IsTuple l items) (hx:items[i]?=none)
  (hE:∀ h' e,Heap.ExtBut it s.heap h'→(∃ o,h'.get? e=some o∧o.cls=.type "StopIteration")→E (.ref e) { s with heap:=h' }) :
  wpAny (model prog w) A (Builtin.SmallTypes.nextOf (.ref it)) Q E s:=by
 obtain ⟨o,ho,hc,hd⟩:=id hit
 obtain ⟨ol,hol,_,nl,hdl⟩:=hl
 unfold Builtin.SmallTypes.nextOf
 refine wpAny_bind (wpAny_callSpecial?_slot (name:=Str.ofString "__next__") hit.typeIs PySem.F.slot_tuple_iterator_next
  (wpAny_call_entry PySem.F.slot_tuple_iterator_next hit.typeIs PySem.F.entry_tuple_iterator_next ?_ (PySem.F.args_tuple_iterator_next_1 _)))
 show wpAny _ _ (field (.ref it) 0 >>= _) _ _ s
 refine wpAny_bind (wpAny_field ho hd (x:=.ref l) rfl ?_)
 show wpAny _ _ (if (Value.ref l == Value.none)=true then _ else _) _ _ s
 rw [if_neg (show ¬ ((Value.ref l == Value.none)=true) from Bool.false_ne_true)]
 show wpAny _ _ (field (.ref it) 1 >>= _) _ _ s
 refine wpAny_bind (wpAny_field ho hd (x:=.int i 0) rfl ?_)
 show wpAny _ _ (seqItems? (.ref l) >>= _) _ _ s
 refine wpAny_bind (wpAny_seqItems hol hdl ?_)
 simp only [Int.toNat_natCast,hx]
 refine wpAny_bind (wpAny_rule (wpAny_bind (wpAny_setField ho hd (by simp) ?_)))
 show wpAny _ _ (newExc (.type "StopIteration") [] >>= _) _ _ _
 refine wpAny_bind ?_
 simp only [newExc,newTuple]
 refine wpAny_bind (wpAny_newObj_type ?_ (by size_fits))
 refine wpAny_bind (m:=firstArgMember _ _) (wpAny_of_eq (a:=Value.none) (by first | rfl | (simp only [firstArgMember];rfl)) ?_)
 refine wpAny_newObj_type ?_ (by size_fits)
 simp only [raiseNew]
 refine wpAny_bind (wpAny_handled ?_)
 first | rw [show A.in1.handled=none from hh] | rw [hh]
 refine wpAny_bind (wpAny_pure (wpAny_throw ?_))
 exact hE _ _ (((Heap.SameBut.update ..).extBut.push _).push _) ⟨_,Heap.get?_push_size _ rfl,rfl⟩
end
theorem drawsT {prog:Program}{w:World} {A:Around}(hh:A.handled=none) (it l:Addr) (hne:l≠it) (items:Array Value) :
  Draws prog w A it [it,l] items.size (fun i v=>items[i]?=some v) (fun i h=>h.IsTupleIter it l i∧h.IsTuple l items) where
 live:=fun _ _ st=>let ⟨o,ho,_⟩:=st.1;⟨o,ho⟩
 frame:=fun _ _ _ st hk=>⟨st.1.at fun o e=>hk it (by simp) o e,let ⟨o,ho,r⟩:=st.2;⟨o,hk l (by simp) o ho,r⟩⟩
 item:=fun i s Q E hi st hQ=>by
  refine zda st.1 st.2 (x:=items[i]) (by simp [hi]) fun h' hit' hs'=>?_
  exact hQ _ h' s.toks (by simp [hi]) ⟨hit',let ⟨o,ho,r⟩:=st.2;⟨o,hs'.extBut _ _ hne ho,r⟩⟩ hs'
 done:=fun s Q E st hE=>zdq hh st.1 st.2 (by simp) hE
theorem zee (l:Addr) (items:Array Value) (n:Nat) (dct:Option Addr) (sl:Array (Option Value)) :
  Meets (Builtin.«enumerate.__new__» ⟨[.type "enumerate",.ref l],[]⟩) (fun _ R s=>s.heap.get? l=some { cls:=.type "tuple",dict:=dct,data:=.seq items n,slots:=sl }∧
   R (.ok (.ret (.ref (s.heap.push { cls:=.type "tuple_iterator",data:=.fields #[.ref l,.int 0 0] }).objs.size)))
    { s with heap:=(s.heap.push { cls:=.type "tuple_iterator",data:=.fields #[.ref l,.int 0 0] }).push { cls:=.type "enumerate",data:=.fields #[.none,.bool false,.ref s.heap.objs.size,rawInt 0,.none,.none] } }):=
 .of_wp fun prog w A R s h=>by
  obtain ⟨hp,g,d,tk,os⟩:=s;obtain ⟨hl,h⟩:=h
  have hsub:=sub_enumerate
  have hL:Heap.IsTuple (Shared.heap ⟨hp,g,d,tk,os⟩) l items:=⟨_,hl,rfl,n,rfl⟩
  wp_walk using AutoSeq1.wpAny_loadPart' hl
  refine wpAny_stack_any fun st=>wpAny_pure ?_
  split
  ·rename_i c _ _ _ _ _
   cases (c == Value.type "enumerate")
   ·wp_walk using AutoSeq1.wpAny_loadPart' hl,wpAny_pyIter_tuple hL
    exact ⟨_,rfl,h⟩
   ·wp_walk using AutoSeq1.wpAny_loadPart' hl,wpAny_pyIter_tuple hL
    exact ⟨_,rfl,h⟩
  ·wp_walk using AutoSeq1.wpAny_loadPart' hl,wpAny_pyIter_tuple hL
   exact ⟨_,rfl,h⟩
section
variable {prog:Program}{w:World} {A:Around}{E:Value→Shared→Prop} {s:Shared}
theorem call_enumerate_tuple {l:Addr}{items:Array Value} {Q:Value→Shared→Prop}(hL:s.heap.IsTuple l items)
  (h:∀ h',IsEnum h' (s.heap.objs.size + 1) s.heap.objs.size 0 .none→h'.IsTupleIter s.heap.objs.size l 0→h'.objs.size=s.heap.objs.size + 2→
   (∀ b o,s.heap.get? b=some o→h'.get? b=some o)→Q (.ref (s.heap.objs.size + 1)) { s with heap:=h' }) :
  wpAny (model prog w) A (call (.type "enumerate") [.ref l]) Q E s:=by
 obtain ⟨⟨c,dct,dt,sl⟩,hl,hc,n,hd⟩:=hL
 replace hc:c=.type "tuple" := hc
 replace hd:dt=.seq items n:=hd
 subst hc hd
 refine callType_new PySem.F.called_enumerate (by decide) (PySem.F.typeCall_enumerate_1 _) (PySem.F.newCall_enumerate_1 _) (fun obj=>PySem.F.args_object_init_2 obj _) PySem.F.entry_enumerate_new
  (zee l items n dct sl) ⟨hl,?_⟩
 have hz:(s.heap.push { cls:=.type "tuple_iterator",data:=.fields #[.ref l,.int 0 0] }).objs.size=s.heap.objs.size + 1:=Heap.size_push ..
 show _∧_
 rw [hz]
 have he:IsEnum ((s.heap.push { cls:=.type "tuple_iterator",data:=.fields #[.ref l,.int 0 0] }).push
   { cls:=.type "enumerate",data:=.fields #[.none,.bool false,.ref s.heap.objs.size,rawInt 0,.none,.none] }) (s.heap.objs.size + 1) s.heap.objs.size 0 .none:=by
  have:=Heap.get?_push_size (s.heap.push { cls:=.type "tuple_iterator",data:=.fields #[.ref l,.int 0 0] })
   (o:={ cls:=.type "enumerate",data:=.fields #[.none,.bool false,.ref s.heap.objs.size,rawInt 0,.none,.none] }) rfl
  rw [hz] at this;exact this
 refine ⟨⟨_,he,rfl⟩,h _ he ⟨_,Heap.get?_push_of_some _ (Heap.get?_push_size _ rfl),rfl,rfl⟩ (by rw [Heap.size_push,hz]) fun b o x=>Heap.get?_push_of_some _ (Heap.get?_push_of_some _ x)⟩
end
end HT
namespace L2
open PySem PySem.Spec PyProof.Rows
section
variable {X:Cx}
noncomputable def Ite (K:PySem.W.Frag) (a:Addr):It:=
 ⟨fun i H=>∃ xs x,SqT K H a xs∧xs[i]?=some x,fun i H x H'=>∃ p v,H p=none∧x=.ref p∧H'=upd H p (.tup [.int i,v])∧∀ xs,SqT K H a xs→xs[i]?=some v,fun i H=>∃ xs,SqT K H a xs∧xs.length=i⟩
theorem zgK {P:Program}{w:World} {K:PySem.W.Frag}{elts:List Expr} {k:Nat}{tpos:Pos} (a e it:Addr) (hei:e≠it):Turn P w K (.Tuple elts k tpos) (Ite K a) [e,it] e (fun i h=>(∃ old,IsEnum h e it i old)∧h.IsTupleIter it a i) where
 mem:=by simp
 obj:=fun i h st b hb=>by
  obtain ⟨⟨old,he⟩,o,e2,c,d⟩:=st
  rcases List.mem_cons.mp hb with rfl | hb
  ·exact ⟨_,he,fun v z=>by cases (show Data.fields _=Data.cell v from z)⟩
  ·rw [List.mem_singleton.mp hb]
   exact ⟨o,e2,fun v z=>by rw [d] at z;cases z⟩
 keep:=fun i h h' st k=>⟨let ⟨old,he⟩:=st.1;⟨old,k e (by simp) _ he⟩,st.2.at fun o e=>k it (by simp) o e⟩
 item:=by
  intro X hP hw hK hc i pins s σ H E I hf st hg
  subst hP hw hK
  obtain ⟨xs,x,hq,hx⟩:=hg
  obtain ⟨its,rv,p,hz⟩:=I.tuple hq
  obtain ⟨u,hu,ru⟩:=rv.get hx
  obtain ⟨⟨old,he⟩,hit⟩:=st
  have fe:=hf e (by simp)
  have fi:=hf it (by simp)
  have hai:a≠it:=by
   rintro rfl
   obtain ⟨o,e1,c1,_⟩:=id hit
   obtain ⟨o',e2,c2,_⟩:=id p
   rw [e1] at e2;cases e2;rw [c1] at c2
   exact absurd c2 (by decide)
  have hae:a≠e:=by
   rintro rfl
   obtain ⟨o',e2,c2,_⟩:=id p
   rw [he] at e2;cases e2
   exact absurd (show Value.type "enumerate" = Value.type "tuple" from c2) (by decide)
  have hilt:i < its.toArray.size:=by
   have:=(List.getElem?_eq_some_iff.mp hu).1
   simpa using this
  refine wpAny_pyNext_enum_itemD (HT.drawsT (A:=X.A.in1) (I.ok.hd hc) it a hai its.toArray) he ⟨hit,p⟩ hilt hei (by simp [hei,Ne.symm hae]) fun x' h' tk hP ho hs' hT hsz hk=>?_
  have ex:x'=u:=by
   have:its[i]?=some x':=by simpa using hP
   rw [hu] at this;exact (Option.some.inj this).symm
  subst ex
  refine ⟨_,rfl,?_⟩
  refine wpAny_letOwnedTupleGo_enum ho fun h2 he2 hs2=>?_
  have hTe:s.heap.objs.size≠e:=Nat.ne_of_gt (Heap.lt_size he)
  have hTn:h2.get? s.heap.objs.size=some { cls:=.type "tuple",data:=.seq #[.int i tk,x'] }:=(hs2.2 _ hTe).trans hT
  have kk:∀ b o,b≠e→b≠it→s.heap.get? b=some o→h2.get? b=some o:=fun b o h1 h3 e=>(hs2.2 b h1).trans (hk b o h1 h3 e)
  have hit2:h2.IsTupleIter it a (i + 1):=hs'.1.at fun o e=>(hs2.2 it (Ne.symm hei)).trans e
  have fr:H s.heap.objs.size=none:=I.fresh
  have nE:∀ b u,H b=some u→b≠e:=fun b u q z=>by rw [z,fe.1] at q;cases q
  have nI:∀ b u,H b=some u→b≠it:=fun b u q z=>by rw [z,fi.1] at q;cases q
  have hok0:HOk X.prog X.w H h2:=fun b u q=>by
   refine (I.hok b u q).stay (fun c v hc q'=>kk c v ?_ ?_ q') (fun _ z=>z) fun _ _ z=>z
   ·rcases hc with z | z
    ·rw [z];exact nE b u q
    ·exact nE c _ z
   ·rcases hc with z | z
    ·rw [z];exact nI b u q
    ·exact nI c _ z
  have new:zaW X.prog X.w (upd H s.heap.objs.size (.tup [.int i,x])) h2 s.heap.objs.size (.tup [.int i,x]):=
   ⟨by show 2≤sizeLine;rw [sizeLine_eq];decide,[.int i tk,x'],.cons ⟨_,rfl⟩ (.cons ru .nil),⟨_,hTn,rfl,_,rfl⟩⟩
  have hok1:HOk X.prog X.w (upd H s.heap.objs.size (.tup [.int i,x])) h2:=fun b u q=>by
   by_cases hb:b=s.heap.objs.size
   ·subst hb;rw [zam] at q;cases q;exact new
   ·rw [zar hb] at q
    exact (hok0 b u q).stay (fun _ _ _ z=>z) (fun c z=>by rw [zar (zal z fr)];exact z) fun c xs z=>by rw [zar (zal z fr)];exact z
  have I1:Inv X pins σ (upd H s.heap.objs.size (.tup [.int i,x])) { s with heap:=h2,toks:=tk + 1 }:=by
   refine I.step (g':=s.gens) (d':=s.drawn) (ch:=[e,it]) (fun b hb=>?_) (fun b o _ _ hcc q _=>kk b o (fun z=>hcc (by simp [z])) (fun z=>hcc (by simp [z])) q) (fun b o _ _ hcc q _=>⟨o.slots,kk b o (fun z=>hcc (by simp [z])) (fun z=>hcc (by simp [z])) q⟩)
    (fun b o _ q n=>by rw [zar (Nat.ne_of_lt (Heap.lt_size q))];exact n) (fun b o hcc q=>⟨o,kk b o (fun z=>hcc (by simp [z])) (fun z=>hcc (by simp [z])) q⟩) (fun b xs q=>by rw [zar (zal q fr)];exact q) (fun b o xs q=>by rw [zar (zal q fr)];exact q)
    (fun b ps q=>⟨#[],by rw [zar (zal q fr),q];simp⟩) (fun m hm=>?_) hok1 I.bare
   ·rcases List.mem_cons.mp hb with rfl | hb
    ·exact ⟨fe.2.2.2.1,fe.2.1,fe.2.2.2.2.1,fe.2.2.2.2.2⟩
    ·rw [List.mem_singleton.mp hb]
     exact ⟨fi.2.2.2.1,fi.2.1,fi.2.2.2.2.1,fi.2.2.2.2.2⟩
   ·obtain ⟨o,es,ep,ho',r⟩:=hm
    exact ⟨o,es,ep,kk _ o (Ne.symm fe.2.1) (Ne.symm fi.2.1) ho',r⟩
  refine ⟨.ref s.heap.objs.size,_,I1,rfl,⟨s.heap.objs.size,x,fr,rfl,rfl,fun ys hy=>by rw [I.tuple_inj hy hq];exact hx⟩,⟨⟨x',by simpa using he2⟩,hit2⟩,fun b hb=>?_⟩
  have hbl:b≠s.heap.objs.size:=by
   rcases List.mem_cons.mp hb with rfl | hb
   ·exact Ne.symm hTe
   ·rw [List.mem_singleton.mp hb]
    obtain ⟨o,e1,_⟩:=hit
    exact Nat.ne_of_lt (Heap.lt_size e1)
  rw [zar hbl]
  exact (hf b hb).1
 done:=by
  intro X hP hw hK hc i pins s σ H E I hf st hg
  subst hP hw hK
  obtain ⟨xs,hq,hx⟩:=hg
  obtain ⟨its,rv,p,hz⟩:=I.tuple hq
  obtain ⟨⟨old,he⟩,hit⟩:=st
  have fi:=hf it (by simp)
  have hai:a≠it:=by
   rintro rfl
   obtain ⟨o,e1,c1,_⟩:=id hit
   obtain ⟨o',e2,c2,_⟩:=id p
   rw [e1] at e2;cases e2;rw [c1] at c2
   exact absurd c2 (by decide)
  have hn:its.toArray.size=i:=by rw [List.size_toArray,← rv.length];exact hx
  refine wpAny_pyNext_enum_endD (HT.drawsT (A:=X.A.in1) (I.ok.hd hc) it a hai its.toArray) he (by rw [hn];exact ⟨hit,p⟩) fun h' hx'=>⟨rfl,?_⟩
  obtain ⟨f0,f1,f2,f3,f4,f5⟩:=fi
  exact I.turned (t':=s.toks) (fun b o hb e=>hx' b o hb e) f0 f1 f3 f4 f5
 self:=fun A i s Q E st h=>by
  obtain ⟨⟨old,he⟩,_⟩:=st
  exact wpAny_pyIter_enum he h
noncomputable def zlO (K:PySem.W.Frag) (ta:TA):TI:=fun σ H R=>ta σ H fun vs H1=>∃ a xs,vs=[.ref a]∧SqT K H1 a xs∧R (Ite K a) H1
theorem ziF {elts:List Expr}{k:Nat} {tpos p pos:Pos}{a:Expr} {ta:TA}(hg:Gl X "enumerate") (hm:X.mg "enumerate" = none) (ha:PA X [a] ta) (hs:starEach [a] X.env=[(false,eval a X.env)]:=by rfl):PI X (.Tuple elts k tpos) (.Call (.Name "enumerate" p) [a] [] pos) (zlO X.K ta):=by
 intro pins s σ H R I h
 refine Call_ (zdM I hg hm boot_enumerate (PyProof.Rows.callWith_type1 (thn (ha pos pins s σ H _ I h) fun us s1 ⟨vs,H1,I1,r1,q1⟩=>?_) hs rfl))
 obtain ⟨a,xs,e,hq,q⟩:=q1
 subst e
 obtain ⟨u,rfl,ru⟩:=zeU r1
 cases ru
 obtain ⟨its,rv,p,hz⟩:=I1.tuple hq
 refine HT.call_enumerate_tuple p fun h' he hit hsz hk=>?_
 have I2:Inv X pins σ H1 { s1 with heap:=h' }:=I1.kept (t':=s1.toks) hk
 refine wpAny_pyIter_enum he ?_
 refine ⟨s1.heap.objs.size + 1,[s1.heap.objs.size + 1,s1.heap.objs.size],_,_,H1,rfl,I2,zgK a (s1.heap.objs.size + 1) s1.heap.objs.size (Nat.succ_ne_self _),⟨⟨_,he⟩,hit⟩,fun b hb=>?_,q⟩
 rcases List.mem_cons.mp hb with rfl | hb
 ·exact I1.fpOk (Nat.le_succ _) (I1.hok.fresh (Nat.le_succ _))
 ·rw [List.mem_singleton.mp hb]
  exact I1.fpOk (Nat.le_refl _) (I1.hok.fresh (Nat.le_refl _))
end
end L2
set_option Elab.async false
set_option linter.all false
set_option maxRecDepth 100000
namespace L2
open PySem PySem.Spec PyProof.Rows
section
variable {X:Cx}(K:PySem.W.Frag)
end
end L2
set_option Elab.async false
set_option linter.all false
set_option maxRecDepth 100000
namespace FX
open PySem PyProof.Rows
noncomputable def Fly (h:Heap) (e:Addr) (cls:Value) (d:Option Addr) (tb:Option Addr) (fl:Value):Prop:=
 ∃ oe vs,h.get? e=some oe∧oe.cls=cls∧oe.dict=d∧oe.data=.fields vs∧1 < vs.size∧match tb with
  | none=>vs[1]?=some .none
  | some T=>vs[1]?=some (.ref T)∧T≠e∧∃ oT ts,h.get? T=some oT∧oT.data=.fields ts∧ts[3]?=some fl
section
variable {M:Model}{A:Around} {E:Value→Shared→Prop}{s:Shared}
end
end FX
set_option Elab.async false
set_option linter.all false
set_option maxRecDepth 100000
namespace FL
open PySem PySem.Spec PyProof.Rows L2
inductive KD where
 | int (i:Int) | str (x:Str) | tup (l:List Key)
 deriving DecidableEq
inductive D where
 | non | bl (b:Bool) | int (i:Int) | str (x:Str) | tup (l:List D) | lst (l:List D) | scr (ns:List Int) | dic (ks:List KD) (ds:List D) | set (l:List KD) | exc (c:Str) (d:D)
noncomputable def kdK:Key→KD
 | .inl i=>.int i
 | .inr x=>.str x
noncomputable def zdf (F:Hp) (a:Addr) (ks:List KD) (vs:List V):Prop:=
 (∃ kvs:List (Key×V),F a=some (.dK kvs)∧ks=kvs.map (fun p=>kdK p.1)∧vs=kvs.map (·.2))∨
 (∃ kvs:List (List Key×V),F a=some (.dT kvs)∧(ks=kvs.map (fun p=>KD.tup p.1)∧kvs≠[])∧vs=kvs.map (·.2))
noncomputable def DicF (F:Hp) (a:Addr) (ks:List KD) (vs:List V):Prop:=∃ o,
 (∃ kvs:List (Key×V),F a=some (.frz o (.dK kvs))∧ks=kvs.map (fun p=>kdK p.1)∧vs=kvs.map (·.2))∨
 (∃ kvs:List (List Key×V),F a=some (.frz o (.dT kvs))∧(ks=kvs.map (fun p=>KD.tup p.1)∧kvs≠[])∧vs=kvs.map (·.2))
noncomputable def DicB (H:Hp) (a:Addr) (ks:List KD) (vs:List V):Prop:=zdf H a ks vs∨DicF H a ks vs
noncomputable def zci (F:Hp) (a:Addr) (l:List KD):Prop:=∃ L,F a=some (.set L)∧l=L.map KD.str
noncomputable def zje (c:Str):Str:=if c = "NoPlace" then "place" else if c = "NoRule" then "rule" else if c = "TwoCounts" then "sign" else if c = "TooLong" then "term" else "rules"
noncomputable def ExcO (a C da:Addr):HO:=.ext fun h=>∃ oe vs,h.get? a=some oe∧oe.cls=.ref C∧oe.dict=some da∧oe.data=.fields vs
mutual
noncomputable def Dat (K:PySem.W.Frag) (F:Hp):D→V→Prop
 | .non,v=>v=.non
 | .bl b,v=>v=.bl b
 | .int i,v=>v=.int i
 | .str x,v=>v=.str x
 | .tup l,v=>∃ a vs,v=.ref a∧F a=some (.tup vs)∧DatL K F l vs
 | .lst l,v=>∃ a vs,v=.ref a∧F a=some (.lst vs)∧DatL K F l vs
 | .scr ns,v=>∃ a,v=.ref a∧SqL K F a (ns.map V.int)
 | .dic ks ds,v=>∃ a vs,v=.ref a∧DicF F a ks vs∧DatL K F ds vs
 | .set l,v=>∃ a,v=.ref a∧zci F a l
 | .exc c d,v=>∃ a C da u,v=.ref a∧F a=some (ExcO a C da)∧PySem.W.nsIn K mainGlobals c=some (some (.ref C))∧F da=some (.xd [(zje c,u)])∧Dat K F d u
noncomputable def DatL (K:PySem.W.Frag) (F:Hp):List D→List V→Prop
 | [],vs=>vs=[]
 | d::l,vs=>∃ v r,vs=v::r∧Dat K F d v∧DatL K F l r
end
section
variable {K:PySem.W.Frag}{F F' H H':Hp}
theorem zdf.mono (s:Same F F') {a:Addr}{ks:List KD} {vs:List V}(h:zdf F a ks vs):zdf F' a ks vs:=by
 rcases h with ⟨kvs,h,r⟩ | ⟨kvs,h,r⟩
 ·exact .inl ⟨kvs,s _ _ h,r⟩
 ·exact .inr ⟨kvs,s _ _ h,r⟩
theorem DicF.mono (s:Same F F') {a:Addr}{ks:List KD} {vs:List V}(h:DicF F a ks vs):DicF F' a ks vs:=by
 obtain ⟨o,⟨kvs,h,r⟩ | ⟨kvs,h,r⟩⟩:=h
 ·exact ⟨o,.inl ⟨kvs,s _ _ h,r⟩⟩
 ·exact ⟨o,.inr ⟨kvs,s _ _ h,r⟩⟩
theorem DicB.mono (s:Same F F') {a:Addr}{ks:List KD} {vs:List V}(h:DicB F a ks vs):DicB F' a ks vs:=h.imp (zdf.mono s) (DicF.mono s)
theorem zci.mono (s:Same F F') {a:Addr}{l:List KD} (h:zci F a l):zci F' a l:=by
 obtain ⟨o,h,z⟩:=h;exact ⟨o,s _ _ h,z⟩
theorem zdf.some {a:Addr}{ks:List KD} {vs:List V}(h:zdf F a ks vs):∃ o,F a=some o:=by
 rcases h with ⟨kvs,h,r⟩ | ⟨kvs,h,r⟩
 ·exact ⟨_,h⟩
 ·exact ⟨_,h⟩
theorem zci.some {a:Addr}{l:List KD} (h:zci F a l):∃ o,F a=some o:=let ⟨_,h,_⟩:=h;⟨_,h⟩
theorem zdf.at {a:Addr}(e:F' a=F a) {ks:List KD}{vs:List V} (h:zdf F a ks vs):zdf F' a ks vs:=by
 unfold zdf at h ⊢;rw [e];exact h
theorem DicF.at {a:Addr}(e:F' a=F a) {ks:List KD}{vs:List V} (h:DicF F a ks vs):DicF F' a ks vs:=by
 unfold DicF at h ⊢;rw [e];exact h
theorem DicB.at {a:Addr}(e:F' a=F a) {ks:List KD}{vs:List V} (h:DicB F a ks vs):DicB F' a ks vs:=h.imp (zdf.at e) (DicF.at e)
theorem zci.at {a:Addr}(e:F' a=F a) {l:List KD}(h:zci F a l):zci F' a l:=by
 unfold zci at h ⊢;rw [e];exact h
mutual
theorem Dat.mono (t:Same F F'):∀ {d:D}{v:V},Dat K F d v→Dat K F' d v
 | .non,_,h=>by simp only [Dat] at h ⊢;exact h
 | .bl _,_,h=>by simp only [Dat] at h ⊢;exact h
 | .int _,_,h=>by simp only [Dat] at h ⊢;exact h
 | .str _,_,h=>by simp only [Dat] at h ⊢;exact h
 | .tup l,_,h=>by
  simp only [Dat] at h ⊢
  obtain ⟨a,vs,e,h1,h2⟩:=h
  exact ⟨a,vs,e,t _ _ h1,DatL.mono t h2⟩
 | .lst l,_,h=>by
  simp only [Dat] at h ⊢
  obtain ⟨a,vs,e,h1,h2⟩:=h
  exact ⟨a,vs,e,t _ _ h1,DatL.mono t h2⟩
 | .scr l,_,h=>by
  simp only [Dat] at h ⊢
  obtain ⟨a,e,h1⟩:=h
  exact ⟨a,e,Same.seq t h1⟩
 | .dic _ l,_,h=>by
  simp only [Dat] at h ⊢
  obtain ⟨a,vs,e,h1,h2⟩:=h
  exact ⟨a,vs,e,h1.mono t,DatL.mono t h2⟩
 | .set l,_,h=>by
  simp only [Dat] at h ⊢
  obtain ⟨a,e,h1⟩:=h
  exact ⟨a,e,h1.mono t⟩
 | .exc c d,_,h=>by
  simp only [Dat] at h ⊢
  obtain ⟨a,C,da,u,e,h1,h2,h3,h4⟩:=h
  exact ⟨a,C,da,u,e,t _ _ h1,h2,t _ _ h3,Dat.mono t h4⟩
theorem DatL.mono (t:Same F F'):∀ {l:List D}{vs:List V},DatL K F l vs→DatL K F' l vs
 | [],_,h=>by simp only [DatL] at h ⊢;exact h
 | d::l,_,h=>by
  simp only [DatL] at h ⊢
  obtain ⟨v,r,e,h1,h2⟩:=h
  exact ⟨v,r,e,Dat.mono t h1,DatL.mono t h2⟩
end
theorem DatL.nil:DatL K F [] []:=by simp only [DatL]
theorem DatL.cons {d:D}{l:List D} {v:V}{vs:List V} (h:Dat K F d v) (r:DatL K F l vs):DatL K F (d::l) (v::vs):=by simp only [DatL];exact ⟨v,vs,rfl,h,r⟩
theorem DatL.nil_inv {vs:List V}(h:DatL K F [] vs):vs=[]:=by simp only [DatL] at h;exact h
theorem DatL.cons_inv {d:D}{l:List D} {vs:List V}(h:DatL K F (d::l) vs):∃ v r,vs=v::r∧Dat K F d v∧DatL K F l r:=by simp only [DatL] at h;exact h
theorem Dat.non_inv {v:V}(h:Dat K F .non v):v=.non:=by simp only [Dat] at h;exact h
theorem Dat.bl_inv {b:Bool}{v:V} (h:Dat K F (.bl b) v):v=.bl b:=by simp only [Dat] at h;exact h
theorem Dat.int_inv {i:Int}{v:V} (h:Dat K F (.int i) v):v=.int i:=by simp only [Dat] at h;exact h
theorem Dat.str_inv {x:Str}{v:V} (h:Dat K F (.str x) v):v=.str x:=by simp only [Dat] at h;exact h
theorem Dat.tup_inv {l:List D}{v:V} (h:Dat K F (.tup l) v):∃ a vs,v=.ref a∧F a=some (.tup vs)∧DatL K F l vs:=by simp only [Dat] at h;exact h
theorem Dat.lst_inv {l:List D}{v:V} (h:Dat K F (.lst l) v):∃ a vs,v=.ref a∧F a=some (.lst vs)∧DatL K F l vs:=by simp only [Dat] at h;exact h
theorem Dat.scr_inv {l:List Int}{v:V} (h:Dat K F (.scr l) v):∃ a,v=.ref a∧SqL K F a (l.map V.int):=by simp only [Dat] at h;exact h
theorem Dat.dic_inv {ks:List KD}{l:List D} {v:V}(h:Dat K F (.dic ks l) v):∃ a vs,v=.ref a∧DicF F a ks vs∧DatL K F l vs:=by simp only [Dat] at h;exact h
theorem Dat.set_inv {l:List KD}{v:V} (h:Dat K F (.set l) v):∃ a,v=.ref a∧zci F a l:=by simp only [Dat] at h;exact h
theorem Dat.exc_inv {c:Str}{d:D} {v:V}(h:Dat K F (.exc c d) v):∃ a C da u,v=.ref a∧F a=some (ExcO a C da)∧PySem.W.nsIn K mainGlobals c=some (some (.ref C))∧F da=some (.xd [(zje c,u)])∧Dat K F d u:=by simp only [Dat] at h;exact h
theorem Dat.non:Dat K F .non .non:=by simp only [Dat]
theorem Dat.bl (b:Bool):Dat K F (.bl b) (.bl b):=by simp only [Dat]
theorem Dat.int (i:Int):Dat K F (.int i) (.int i):=by simp only [Dat]
theorem Dat.str (x:Str):Dat K F (.str x) (.str x):=by simp only [Dat]
theorem Dat.tup {l:List D}{a:Addr} {vs:List V}(h:F a=some (.tup vs)) (r:DatL K F l vs):Dat K F (.tup l) (.ref a):=by simp only [Dat];exact ⟨a,vs,rfl,h,r⟩
theorem Dat.lst {l:List D}{a:Addr} {vs:List V}(h:F a=some (.lst vs)) (r:DatL K F l vs):Dat K F (.lst l) (.ref a):=by simp only [Dat];exact ⟨a,vs,rfl,h,r⟩
theorem Dat.scr {l:List Int}{a:Addr} (h:SqL K F a (l.map V.int)):Dat K F (.scr l) (.ref a):=by simp only [Dat];exact ⟨a,rfl,h⟩
theorem Dat.dic {ks:List KD}{l:List D} {a:Addr}{vs:List V} (h:DicF F a ks vs) (r:DatL K F l vs):Dat K F (.dic ks l) (.ref a):=by simp only [Dat];exact ⟨a,vs,rfl,h,r⟩
theorem DatL.length:∀ {l:List D}{vs:List V},DatL K F l vs→vs.length=l.length
 | [],_,h=>by rw [h.nil_inv];rfl
 | _::l,_,h=>by
  obtain ⟨v,r,rfl,_,h2⟩:=h.cons_inv
  simp [DatL.length h2]
theorem DatL.get:∀ {l:List D}{vs:List V} {i:Nat}{d:D},DatL K F l vs→l[i]?=some d→∃ v,vs[i]?=some v∧Dat K F d v
 | [],_,_,_,_,e=>by simp at e
 | _::l,_,i,d,h,e=>by
  obtain ⟨v,r,rfl,h1,h2⟩:=h.cons_inv
  cases i with
  | zero=>simp at e;subst e;exact ⟨v,rfl,h1⟩
  | succ i=>
   obtain ⟨u,e1,h3⟩:=DatL.get (i:=i) h2 (by simpa using e)
   exact ⟨u,by simpa using e1,h3⟩
theorem DatL.get' {l:List D}{vs:List V} {i:Nat}{v:V} (h:DatL K F l vs) (e:vs[i]?=some v):∃ d,l[i]?=some d∧Dat K F d v:=by
 have hl:=h.length
 have hi:i < l.length:=by rw [← hl];exact (List.getElem?_eq_some_iff.mp e).1
 obtain ⟨u,e1,h1⟩:=h.get (List.getElem?_eq_getElem hi)
 rw [e] at e1;cases e1
 exact ⟨_,List.getElem?_eq_getElem hi,h1⟩
theorem DatL.append:∀ {l m:List D}{vs us:List V},DatL K F l vs→DatL K F m us→DatL K F (l++m) (vs++us)
 | [],_,_,_,h,k=>by rw [h.nil_inv];exact k
 | _::l,_,_,_,h,k=>by
  obtain ⟨v,r,rfl,h1,h2⟩:=h.cons_inv
  exact DatL.cons h1 (DatL.append h2 k)
theorem DatL.snoc {l:List D}{vs:List V} {d:D}{v:V} (h:DatL K F l vs) (k:Dat K F d v):DatL K F (l++[d]) (vs++[v]):=h.append (DatL.cons k DatL.nil)
theorem DatL.reverse:∀ {l:List D}{vs:List V},DatL K F l vs→DatL K F l.reverse vs.reverse
 | [],_,h=>by rw [h.nil_inv];exact DatL.nil
 | _::l,_,h=>by
  obtain ⟨v,r,rfl,h1,h2⟩:=h.cons_inv
  rw [List.reverse_cons,List.reverse_cons]
  exact (DatL.reverse h2).snoc h1
theorem DatL.take:∀ {l:List D}{vs:List V} (n:Nat),DatL K F l vs→DatL K F (l.take n) (vs.take n)
 | _,_,0,_=>by simp;exact DatL.nil
 | [],_,n + 1,h=>by rw [h.nil_inv];simp;exact DatL.nil
 | _::l,_,n + 1,h=>by
  obtain ⟨v,r,rfl,h1,h2⟩:=h.cons_inv
  rw [List.take_succ_cons,List.take_succ_cons]
  exact DatL.cons h1 (DatL.take n h2)
theorem DatL.drop:∀ {l:List D}{vs:List V} (n:Nat),DatL K F l vs→DatL K F (l.drop n) (vs.drop n)
 | _,_,0,h=>by simpa using h
 | [],_,n + 1,h=>by rw [h.nil_inv];simp;exact DatL.nil
 | _::l,_,n + 1,h=>by
  obtain ⟨v,r,rfl,h1,h2⟩:=h.cons_inv
  rw [List.drop_succ_cons,List.drop_succ_cons]
  exact DatL.drop n h2
theorem DatL.dropLast {l:List D}{vs:List V} (h:DatL K F l vs):DatL K F l.dropLast vs.dropLast:=by
 rw [List.dropLast_eq_take,List.dropLast_eq_take,h.length];exact h.take _
theorem DatL.ints:∀ {ns:List Int}{vs:List V},DatL K F (ns.map D.int) vs→vs=ns.map V.int
 | [],_,h=>h.nil_inv
 | n::ns,_,h=>by
  obtain ⟨v,r,rfl,h1,h2⟩:=h.cons_inv
  rw [h1.int_inv,DatL.ints h2];rfl
theorem DatL.ofInts:∀ (ns:List Int),DatL K F (ns.map D.int) (ns.map V.int)
 | []=>DatL.nil
 | n::ns=>DatL.cons (Dat.int n) (DatL.ofInts ns)
theorem DatL.strs:∀ {ns:List Str}{vs:List V},DatL K F (ns.map D.str) vs→vs=ns.map V.str
 | [],_,h=>h.nil_inv
 | n::ns,_,h=>by
  obtain ⟨v,r,rfl,h1,h2⟩:=h.cons_inv
  rw [h1.str_inv,DatL.strs h2];rfl
noncomputable def DatB (K:PySem.W.Frag) (F H:Hp):D→V→Prop
 | .lst l,v=>∃ a vs,v=.ref a∧H a=some (.lst vs)∧DatL K F l vs
 | .dic ks ds,v=>∃ a vs,v=.ref a∧DicB H a ks vs∧DatL K F ds vs
 | .set l,v=>∃ a,v=.ref a∧zci H a l
 | d,v=>Dat K F d v
theorem Dat.b (s:Same F H) {d:D}{v:V} (h:Dat K F d v):DatB K F H d v:=by
 cases d with
 | lst l=>obtain ⟨a,vs,e,h1,h2⟩:=h.lst_inv;exact ⟨a,vs,e,s _ _ h1,h2⟩
 | dic ks l=>obtain ⟨a,vs,e,h1,h2⟩:=h.dic_inv;exact ⟨a,vs,e,.inr (h1.mono s),h2⟩
 | set l=>obtain ⟨a,e,h1⟩:=h.set_inv;exact ⟨a,e,h1.mono s⟩
 | _=>exact h
theorem DatB.mono (f:Same F F') (g:Same H H') {d:D}{v:V} (h:DatB K F H d v):DatB K F' H' d v:=by
 cases d with
 | lst l=>obtain ⟨a,vs,e,h1,h2⟩:=h;exact ⟨a,vs,e,g _ _ h1,h2.mono f⟩
 | dic ks l=>obtain ⟨a,vs,e,h1,h2⟩:=h;exact ⟨a,vs,e,h1.mono g,h2.mono f⟩
 | set l=>obtain ⟨a,e,h1⟩:=h;exact ⟨a,e,h1.mono g⟩
 | _=>exact Dat.mono f h
noncomputable def Own (K:PySem.W.Frag) (F H:Hp):D→Addr→Prop
 | .lst l,a=>∃ vs,H a=some (.lst vs)∧DatL K F l vs
 | .dic ks ds,a=>∃ vs,zdf H a ks vs∧DatL K F ds vs
 | .set l,a=>zci H a l
 | _,_=>False
theorem Own.mono (f:Same F F') {d:D}{a:Addr} (g:∀ o,H a=some o→H' a=some o) (h:Own K F H d a):Own K F' H' d a:=by
 cases d with
 | lst l=>obtain ⟨vs,h1,h2⟩:=h;exact ⟨vs,g _ h1,h2.mono f⟩
 | dic ks l=>
  obtain ⟨vs,h1,h2⟩:=h
  obtain ⟨o,e⟩:=h1.some
  exact ⟨vs,h1.at (by rw [e];exact g _ e),h2.mono f⟩
 | set l=>
  have h:zci H a l:=h
  obtain ⟨o,e⟩:=h.some
  exact h.at (by rw [e];exact g _ e)
 | _=>exact h.elim
theorem Own.some {d:D}{a:Addr} (h:Own K F H d a):∃ o,H a=some o:=by
 cases d with
 | lst l=>obtain ⟨vs,h1,h2⟩:=h;exact ⟨_,h1⟩
 | dic ks l=>obtain ⟨vs,h1,h2⟩:=h;exact h1.some
 | set l=>exact zci.some (l:=l) h
 | _=>exact h.elim
theorem Own.b {d:D}{a:Addr} (h:Own K F H d a):DatB K F H d (.ref a):=by
 cases d with
 | lst l=>obtain ⟨vs,h1,h2⟩:=h;exact ⟨a,vs,rfl,h1,h2⟩
 | dic ks l=>obtain ⟨vs,h1,h2⟩:=h;exact ⟨a,vs,rfl,.inl h1,h2⟩
 | set l=>exact ⟨a,rfl,h⟩
 | _=>exact h.elim
noncomputable def frz1 (F H:Hp) (a:Addr):Hp:=fun b=>if b=a then H a else F b
theorem zbX {a:Addr}:frz1 F H a a=H a:=by unfold frz1;rw [if_pos rfl]
theorem zdQ {a b:Addr}(h:b≠a):frz1 F H a b=F b:=by unfold frz1;rw [if_neg h]
theorem zcn {a:Addr}(h:F a=none):Same F (frz1 F H a):=fun b o e=>by
 rw [zdQ (zal e h)];exact e
theorem zeH {a:Addr}(s:Same F H):Same (frz1 F H a) H:=fun b o e=>by
 by_cases hb:b=a
 ·subst hb;rw [zbX] at e;exact e
 ·rw [zdQ hb] at e;exact s _ _ e
noncomputable def zkr:Option HO→Bool
 | some (.dK _)=>true
 | some (.dT _)=>true
 | _=>false
noncomputable def zdZ (H:Hp) (a:Addr) (H2:Hp):Prop:=(H2=H∧zkr (H a)=false)∨∃ o u,H a=some u∧zkr (some u)=true∧H2=upd H a (.frz o u)
theorem zdZ.ne {H2:Hp}{a b:Addr} (f:zdZ H a H2) (h:b≠a):H2 b=H b:=by
 rcases f with ⟨rfl,_⟩ | ⟨o,u,_,_,rfl⟩
 ·rfl
 ·exact zar h
theorem zdZ.same {H2:Hp}{a:Addr} (f:zdZ H a H2) (s:Same F H) (h:F a=none):Same F H2:=fun b o e=>by
 rw [f.ne (zal e h)];exact s _ _ e
theorem Own.freeze {H2:Hp}{d:D} {a:Addr}(h:Own K F H d a) (hn:F a=none) (f:zdZ H a H2):Dat K (frz1 F H2 a) d (.ref a):=by
 have x:Same F (frz1 F H2 a):=zcn hn
 cases d with
 | lst l=>
  obtain ⟨vs,h1,h2⟩:=h
  rcases f with ⟨rfl,_⟩ | ⟨o,u,e,z,_⟩
  ·exact Dat.lst (by rw [zbX];exact h1) (h2.mono x)
  ·rw [h1] at e;cases e;cases z
 | dic ks l=>
  obtain ⟨vs,h1,h2⟩:=h
  refine Dat.dic ?_ (h2.mono x)
  rcases h1 with ⟨kvs,h1,r⟩ | ⟨kvs,h1,r⟩
  ·rcases f with ⟨_,z⟩ | ⟨o,u,e,z,rfl⟩
   ·rw [h1] at z;cases z
   ·rw [h1] at e;cases e
    exact ⟨o,.inl ⟨kvs,by rw [zbX];exact zam,r⟩⟩
  ·rcases f with ⟨_,z⟩ | ⟨o,u,e,z,rfl⟩
   ·rw [h1] at z;cases z
   ·rw [h1] at e;cases e
    exact ⟨o,.inr ⟨kvs,by rw [zbX];exact zam,r⟩⟩
 | set l=>
  have h:zci H a l:=h
  obtain ⟨L,h1,e0⟩:=h
  rcases f with ⟨rfl,_⟩ | ⟨o,u,e,z,_⟩
  ·simp only [Dat]
   exact ⟨a,rfl,L,by rw [zbX];exact h1,e0⟩
  ·rw [h1] at e;cases e;cases z
 | _=>exact h.elim
theorem DatB.frz {H2:Hp}{a:Addr} {d:D}{v:V} (h:DatB K F H d v) (x:Same F F') (f:zdZ H a H2) (hv:v≠.ref a):DatB K F' H2 d v:=by
 cases d with
 | lst l=>obtain ⟨b,vs,e,h1,h2⟩:=h;exact ⟨b,vs,e,by rw [f.ne (fun z=>hv (by rw [e,z]))];exact h1,h2.mono x⟩
 | dic ks l=>obtain ⟨b,vs,e,h1,h2⟩:=h;exact ⟨b,vs,e,h1.at (f.ne (fun z=>hv (by rw [e,z]))),h2.mono x⟩
 | set l=>obtain ⟨b,e,h1⟩:=h;exact ⟨b,e,h1.at (f.ne (fun z=>hv (by rw [e,z])))⟩
 | _=>exact Dat.mono x h
theorem Own.fl {l:List D}{a:Addr} (h:Own K F H (.lst l) a):zdZ H a H:=by
 obtain ⟨vs,h1,_⟩:=h
 exact .inl ⟨rfl,by rw [h1];rfl⟩
end
inductive Sl where
 | dat (d:D) | ow (p:Bool) (d:D) | bor (d:D)
noncomputable abbrev Sl.own (d:D):Sl:=.ow false d
noncomputable abbrev Sl.inn (d:D):Sl:=.ow true d
noncomputable def Sl.isDat:Sl→Bool
 | .dat _=>true
 | _=>false
noncomputable abbrev St:=L2.St
noncomputable abbrev En:=List (Option Sl)
noncomputable def zcE (ρ:En) (σ:St) (b:Addr):Prop:=∃ (i:Nat) (p:Bool) (d:D),ρ[i]?=some (some (.ow p d))∧σ[i]?=some (some (.ref b))
structure Rel (K:PySem.W.Frag) (F H:Hp) (ρ:En) (σ:St):Prop where
 sub:Same F H
 dat:∀ (i:Nat) (d:D),ρ[i]?=some (some (.dat d))→∃ v,σ[i]?=some (some v)∧Dat K F d v
 bor:∀ (i:Nat) (d:D),ρ[i]?=some (some (.bor d))→∃ v,σ[i]?=some (some v)∧DatB K F H d v
 own:∀ (i:Nat) (p:Bool) (d:D),ρ[i]?=some (some (.ow p d))→∃ a,σ[i]?=some (some (.ref a))∧F a=none∧Own K F H d a
 inj:∀ (i j:Nat) (p:Bool) (d:D) (s:Sl) (a:Addr),i≠j→ρ[i]?=some (some (.ow p d))→σ[i]?=some (some (.ref a))→ρ[j]?=some (some s)→s.isDat=false→σ[j]?≠some (some (.ref a))
 len:ρ.length=σ.length
structure Grow (F H F' H':Hp):Prop where
 ff:Same F F'
 hh:Same H H'
 fh:Same F' H'
 nw:∀ b o,H b=some o→F b=none→F' b=none
section
variable {K:PySem.W.Frag}{F F' F2 H H' H2:Hp} {ρ ρ' ρ2:En}{σ σ' σ2:St}
theorem Grow.refl (s:Same F H):Grow F H F H:=⟨Same.refl _,Same.refl _,s,fun _ _ _ n=>n⟩
theorem Grow.trans (a:Grow F H F' H') (b:Grow F' H' F2 H2):Grow F H F2 H2:=
 ⟨a.ff.trans b.ff,a.hh.trans b.hh,b.fh,fun c o e n=>b.nw c o (a.hh _ _ e) (a.nw c o e n)⟩
theorem zby {p:Addr}(h:H p=none) (o:HO):Same H (upd H p o):=fun b u q=>by rw [zar (zal q h)];exact q
theorem Grow.frozen {p:Addr}{o:HO} (s:Same F H) (h:H p=none):Grow F H (upd F p o) (upd H p o):=by
 refine ⟨zby (s.free h) o,zby h o,fun b u e=>?_,fun b u e n=>?_⟩
 ·by_cases hb:b=p
  ·subst hb;rw [zam] at e ⊢;exact e
  ·rw [zar hb] at e ⊢;exact s _ _ e
 ·have hb:b≠p:=zal e h
  rw [zar hb];exact n
theorem Grow.fresh {p:Addr}{o:HO} (s:Same F H) (h:H p=none):Grow F H F (upd H p o):=
 ⟨Same.refl _,zby h o,s.trans (zby h o),fun b u e n=>n⟩
theorem Grow.freeze {a:Addr}{H3:Hp} (g:Grow F H F' H') (h:H a=none) (hn:F' a=none) (f:zdZ H' a H3):Grow F H (frz1 F' H3 a) H3:=by
 refine ⟨g.ff.trans (zcn hn),fun b o e=>?_,zeH (f.same g.fh hn),fun b o e n=>?_⟩
 ·rw [f.ne (zal e h)];exact g.hh _ _ e
 ·have hb:b≠a:=zal e h
  rw [zdQ hb];exact g.nw b o e n
theorem Rel.grow (r:Rel K F H ρ σ) (g:Grow F H F' H'):Rel K F' H' ρ σ where
 sub:=g.fh
 dat:=fun i d e=>let ⟨v,h1,h2⟩:=r.dat i d e;⟨v,h1,h2.mono g.ff⟩
 bor:=fun i d e=>let ⟨v,h1,h2⟩:=r.bor i d e;⟨v,h1,h2.mono g.ff g.hh⟩
 own:=fun i p d e=>by
  obtain ⟨a,h1,h2,h3⟩:=r.own i p d e
  obtain ⟨o,ho⟩:=h3.some
  exact ⟨a,h1,g.nw a o ho h2,h3.mono g.ff fun o e=>g.hh _ _ e⟩
 inj:=r.inj
 len:=r.len
structure Step (ρ:En) (σ:St) (F H:Hp) (ρ':En) (σ':St) (F' H':Hp):Prop where
 ff:Same F F'
 rest:∀ b o,H b=some o→F b=none→¬ zcE ρ σ b→H' b=some o∧F' b=none
 own:∀ b,zcE ρ' σ' b→H b=none∨zcE ρ σ b
 pin:∀ (i:Nat) (d':D),ρ'[i]?=some (some (.ow true d'))→∃ d,ρ[i]?=some (some (.ow true d))∧σ'[i]?=σ[i]?
 fh:Same F' H'
theorem Grow.step (g:Grow F H F' H'):Step ρ σ F H ρ σ F' H':=⟨g.ff,fun b o e n _=>⟨g.hh _ _ e,g.nw b o e n⟩,fun _ h=>.inr h,fun _ d e=>⟨d,e,rfl⟩,g.fh⟩
theorem Step.back (a:Step ρ σ F H ρ' σ' F' H') (s:Same F H) {b:Addr}(h:H' b=none∨zcE ρ' σ' b):H b=none∨zcE ρ σ b:=by
 rcases h with h | h
 ·cases e:H b with
  | none=>exact .inl rfl
  | some o=>
   cases f:F b with
   | some u=>have:=a.fh _ _ (a.ff _ _ f);rw [h] at this;cases this
   | none=>
    by_cases q:zcE ρ σ b
    ·exact .inr q
    ·have:=(a.rest b o e f q).1;rw [h] at this;cases this
 ·exact a.own b h
theorem Step.trans (a:Step ρ σ F H ρ' σ' F' H') (b:Step ρ' σ' F' H' ρ2 σ2 F2 H2) (s:Same F H):Step ρ σ F H ρ2 σ2 F2 H2:=by
 refine ⟨a.ff.trans b.ff,fun c o e n q=>?_,fun c h=>a.back s (b.own c h),fun i d e=>?_,b.fh⟩
 rotate_left
 ·obtain ⟨d1,e1,e2⟩:=b.pin i d e
  obtain ⟨d2,e3,e4⟩:=a.pin i d1 e1
  exact ⟨d2,e3,e2.trans e4⟩
 obtain ⟨h1,h2⟩:=a.rest c o e n q
 refine b.rest c o h1 h2 fun z=>?_
 rcases a.own c z with y | y
 ·rw [e] at y;cases y
 ·exact q y
end
inductive Md where
 | fz | ow | br
noncomputable def Res (K:PySem.W.Frag) (md:Md) (H F' H':Hp) (d:D) (v:V):Prop:=match md with
 | .fz=>Dat K F' d v
 | .ow=>∃ a,v=.ref a∧H a=none∧F' a=none∧Own K F' H' d a
 | .br=>DatB K F' H' d v
noncomputable def rdE (K:PySem.W.Frag) (md:Md) (ρ:En) (d:D):TE:=fun σ H Q=>∃ F,Rel K F H ρ σ∧∀ v F' H',Grow F H F' H'→Res K md H F' H' d v→Q v H'
structure FP (K:PySem.W.Frag) (md:Md) (X:Cx) (e:Expr) (f:En→Option D):Prop where
 h:∀ ρ d,f ρ=some d→PE X e (rdE K md ρ d)
theorem PE.imp {X:Cx}{e:Expr} {t t':TE}(h:PE X e t) (w:∀ σ H Q,t' σ H Q→t σ H Q):PE X e t':=fun pins s σ H Q I ht=>h pins s σ H Q I (w σ H Q ht)
theorem PT.imp {X:Cx}{e:Expr} {t t':TT}(h:PT X e t) (w:∀ σ H Q,t' σ H Q→t σ H Q):PT X e t':=fun pins s σ H Q I ht=>h pins s σ H Q I (w σ H Q ht)
theorem PW.imp {X:Cx}{e:Expr} {t t':TT}(h:PW X e t) (w:∀ σ H Q,t' σ H Q→t σ H Q):PW X e t':=fun wh pins s σ H Q I ht=>h wh pins s σ H Q I (w σ H Q ht)
theorem PA.imp {X:Cx}{e:List Expr} {t t':TA}(h:PA X e t) (w:∀ σ H Q,t' σ H Q→t σ H Q):PA X e t':=fun pos pins s σ H Q I ht=>h pos pins s σ H Q I (w σ H Q ht)
theorem PS.imp {X:Cx}{e:Stmt} {t t':TS}(h:PS X e t) (w:∀ D σ H,t' D σ H→t D σ H):PS X e t':=fun pins s σ H D I ht=>h pins s σ H D I (w D σ H ht)
theorem PSs.imp {X:Cx}{e:List Stmt} {t t':TS}(h:PSs X e t) (w:∀ D σ H,t' D σ H→t D σ H):PSs X e t':=fun pins s σ H D I ht=>h pins s σ H D I (w D σ H ht)
section
variable {K:PySem.W.Frag}{X:Cx} {e:Expr}{f:En→Option D}
theorem Res.fz_of_ow {H F' H' H3:Hp}{d:D} {v:V}{F:Hp} {a:Addr}(g:Grow F H F' H') (h:Res K .ow H F' H' d v) (e:v=.ref a) (f:zdZ H' a H3):∃ F2,Grow F H F2 H3∧Dat K F2 d v:=by
 subst e
 obtain ⟨b,e,h1,h2,h3⟩:=h
 cases e
 exact ⟨_,g.freeze h1 h2 f,h3.freeze h2 f⟩
theorem Res.ow_ref {H F' H':Hp}{d:D} {v:V}(h:Res K .ow H F' H' d v):∃ a,v=.ref a:=let ⟨a,e,_⟩:=h;⟨a,e⟩
theorem Inv.frzTo {pins:List (Addr×Obj)}{σ:St} {H:Hp}{s:Shared} (I:Inv X pins σ H s) (a:Addr):∃ H2,zdZ H a H2∧Inv X pins σ H2 s:=by
 cases h:zkr (H a) with
 | false=>exact ⟨H,.inl ⟨rfl,h⟩,I⟩
 | true=>
  cases e:H a with
  | none=>rw [e] at h;cases h
  | some u=>
   rw [e] at h
   have ok:=I.hok a u e
   have mu:Mut (H a):=by
    rw [e]
    cases u<;>first | exact True.intro | cases h
   obtain ⟨o,ho⟩:∃ o,s.heap.get? a=some o:=by
    cases u<;>first
     | cases h;done
     | (obtain ⟨_,_,_,_,o,_,_,q,_⟩:=ok;exact ⟨o,q⟩)
   refine ⟨_,.inr ⟨o,u,e,h,rfl⟩,?_⟩
   have:=I.write (o:=.frz o u) (t':=s.toks) (h':=s.heap) mu (.inl rfl) (fun b u _ q=>q) ⟨o,ho⟩ ⟨ho,ok.stay (fun b u _ q=>q) (fun b q=>?_) fun b xs q=>?_⟩
   ·exact this
   ·rw [zar (fun z=>by subst z;rw [e] at q;cases q;cases h)];exact q
   ·rw [zar (fun z=>by subst z;rw [e] at q;cases q;cases h)];exact q
theorem zjy {t:TE}(h:PE X e t):PE X e (fun σ H Q=>t σ H fun v H'=>∃ a,v=.ref a∧∀ H2,zdZ H' a H2→Q v H2):=fun pins s σ H Q I ht=>
 thn (h pins s σ H _ I ht) fun v s1 ⟨x,H1,I1,r1,a,ea,q⟩=>by
  obtain ⟨H2,f,I2⟩:=Inv.frzTo I1 a
  exact ⟨x,H2,I2,r1,q H2 f⟩
theorem FP.fz (h:FP K .ow X e f):FP K .fz X e f:=FP.mk fun ρ d hf=>PE.imp (zjy (h.h ρ d hf)) fun σ H Q ⟨F,r,q⟩=>⟨F,r,fun v F' H' g hr=>by
 obtain ⟨a,ea⟩:=hr.ow_ref
 refine ⟨a,ea,fun H2 fz=>?_⟩
 obtain ⟨F2,g2,h2⟩:=Res.fz_of_ow g hr ea fz
 exact q v F2 H2 g2 h2⟩
theorem FP.br (h:FP K .fz X e f):FP K .br X e f:=FP.mk fun ρ d hf=>PE.imp (h.h ρ d hf) fun σ H Q ⟨F,r,q⟩=>⟨F,r,fun v F' H' g hr=>q v F' H' g (Dat.b g.fh hr)⟩
theorem FP.ob (h:FP K .ow X e f):FP K .br X e f:=h.fz.br
end
noncomputable def gv (i:Nat) (ρ:En):Option D:=match ρ[i]? with
 | some (some (.dat d))=>some d
 | _=>none
noncomputable def gb (i:Nat) (ρ:En):Option D:=match ρ[i]? with
 | some (some (.dat d))=>some d
 | some (some (.ow _ d))=>some d
 | some (some (.bor d))=>some d
 | _=>none
theorem zkt {i:Nat}{ρ:En} {d:D}(h:gv i ρ=some d):ρ[i]?=some (some (.dat d)):=by
 unfold gv at h
 split at h<;>first | (cases h;assumption) | cases h
theorem zkv {K:PySem.W.Frag}{F H:Hp} {i:Nat}{ρ:En} {σ:St}{d:D} (r:Rel K F H ρ σ) (h:gb i ρ=some d):∃ v,σ[i]?=some (some v)∧DatB K F H d v:=by
 unfold gb at h
 split at h
 ·rename_i e;cases h
  obtain ⟨v,h1,h2⟩:=r.dat i _ e
  exact ⟨v,h1,h2.b r.sub⟩
 ·rename_i e;cases h
  obtain ⟨a,h1,h2,h3⟩:=r.own i _ _ e
  exact ⟨_,h1,h3.b⟩
 ·rename_i e;cases h
  exact r.bor i _ e
 ·cases h
noncomputable def cst (d:D):En→Option D:=fun _=>some d
section
variable {K:PySem.W.Frag}{X:Cx}
theorem fv (i:Nat) {x:Str}{pos:Pos} (hN:X.N[i]?=some x:=by rfl) (hv:Vis X.env.scope x:=by first | exact Or.inl rfl | exact Or.inr (Or.inl rfl) | exact Or.inr (Or.inr rfl)) (hd:(x == ("__debug__" : Str))=false:=by decide)
  (hcd:(x == ("__classdict__" : Str))=false:=by decide):FP K .fz X (.Name x pos) (gv i):=FP.mk fun ρ d hf=>
 PE.imp (zdl hN hv hd hcd) fun σ H Q ⟨F,r,q⟩=>by
  obtain ⟨v,h1,h2⟩:=r.dat i d (zkt hf)
  exact ⟨v,h1,q v F H (Grow.refl r.sub) h2⟩
theorem fb (i:Nat) {x:Str}{pos:Pos} (hN:X.N[i]?=some x:=by rfl) (hv:Vis X.env.scope x:=by first | exact Or.inl rfl | exact Or.inr (Or.inl rfl) | exact Or.inr (Or.inr rfl)) (hd:(x == ("__debug__" : Str))=false:=by decide)
  (hcd:(x == ("__classdict__" : Str))=false:=by decide):FP K .br X (.Name x pos) (gb i):=FP.mk fun ρ d hf=>
 PE.imp (zdl hN hv hd hcd) fun σ H Q ⟨F,r,q⟩=>by
  obtain ⟨v,h1,h2⟩:=zkv r hf
  exact ⟨v,h1,q v F H (Grow.refl r.sub) h2⟩
theorem fint {i j pos}:FP K .fz X (.Constant (.int i) j pos) (cst (.int i)):=FP.mk fun ρ d hf=>PE.imp zlj fun σ H Q ⟨F,r,q⟩=>by
 cases hf;exact q (.int i) F H (Grow.refl r.sub) (Dat.int (K:=K) (F:=F) i)
theorem fbl {i j pos}:FP K .fz X (.Constant (.bool i) j pos) (cst (.bl i)):=FP.mk fun ρ d hf=>PE.imp zmt fun σ H Q ⟨F,r,q⟩=>by
 cases hf;exact q (.bl i) F H (Grow.refl r.sub) (Dat.bl (K:=K) (F:=F) i)
theorem fstr {i j pos}:FP K .fz X (.Constant (.str i) j pos) (cst (.str i)):=FP.mk fun ρ d hf=>PE.imp zlf fun σ H Q ⟨F,r,q⟩=>by
 cases hf;exact q (.str i) F H (Grow.refl r.sub) (Dat.str (K:=K) (F:=F) i)
end
noncomputable def Op2 (K:PySem.W.Frag) (X:Cx) (f:Value→Value→Sem Value) (md:Md) (p:D→D→Option D):Prop:=
 ∃ r:R2,OpR X f r∧∀ x y d F H v u Q,p x y=some d→Same F H→DatB K F H x v→DatB K F H y u→(∀ w F' H',Grow F H F' H'→Res K md H F' H' d w→Q w H')→r v u H Q
noncomputable def Ix2 (K:PySem.W.Frag) (X:Cx) (md:Md) (p:D→D→Option D):Prop:=
 ∃ r:R2,IxR X r∧∀ x y d F H v u Q,p x y=some d→Same F H→DatB K F H x v→DatB K F H y u→(∀ w F' H',Grow F H F' H'→Res K md H F' H' d w→Q w H')→r v u H Q
noncomputable def c2 (p:D→D→Option D) (fa fb:En→Option D):En→Option D:=fun ρ=>(fa ρ).bind fun x=>(fb ρ).bind fun y=>p x y
noncomputable def c1 (p:D→Option D) (fa:En→Option D):En→Option D:=fun ρ=>(fa ρ).bind p
theorem zch {p:D→D→Option D}{fa fb:En→Option D} {ρ:En}{d:D} (h:c2 p fa fb ρ=some d):∃ x y,fa ρ=some x∧fb ρ=some y∧p x y=some d:=by
 unfold c2 at h
 cases e1:fa ρ with
 | none=>rw [e1] at h;cases h
 | some x=>
  cases e2:fb ρ with
  | none=>rw [e1,e2] at h;cases h
  | some y=>rw [e1,e2] at h;exact ⟨x,y,rfl,rfl,h⟩
theorem zin {p:D→Option D}{fa:En→Option D} {ρ:En}{d:D} (h:c1 p fa ρ=some d):∃ x,fa ρ=some x∧p x=some d:=by
 unfold c1 at h
 cases e1:fa ρ with
 | none=>rw [e1] at h;cases h
 | some x=>rw [e1] at h;exact ⟨x,rfl,h⟩
section
variable {K:PySem.W.Frag}{X:Cx} {a b:Expr}{fa fb:En→Option D} {pos:Pos}{md:Md} {p:D→D→Option D}
theorem two {ta tb:TE}{ρ:En} {x y d:D}{r:R2} (ha:PE X a (rdE K .br ρ x)) (hb:PE X b (rdE K .br ρ y))
  (hr:∀ F H v u Q,Same F H→DatB K F H x v→DatB K F H y u→(∀ w F' H',Grow F H F' H'→Res K md H F' H' d w→Q w H')→r v u H Q)
  (σ:St) (H:Hp) (Q:VK) (h:rdE K md ρ d σ H Q):tOp r (rdE K .br ρ x) (rdE K .br ρ y) σ H Q:=by
 obtain ⟨F,rl,q⟩:=h
 refine ⟨F,rl,fun v F1 H1 g1 r1=>⟨F1,rl.grow g1,fun u F2 H2 g2 r2=>?_⟩⟩
 refine hr F2 H2 v u Q g2.fh (DatB.mono g2.ff g2.hh r1) r2 fun w F3 H3 g3 r3=>?_
 have g:=g1.trans (g2.trans g3)
 refine q w F3 H3 g ?_
 cases md with
 | fz=>exact r3
 | br=>exact r3
 | ow=>
  obtain ⟨a,e,h1,h2,h3⟩:=r3
  exact ⟨a,e,(g1.hh.trans g2.hh).free h1,h2,h3⟩
theorem fop {op:Operator}(o:Op2 K X (binaryOp op) md p) (ha:FP K .br X a fa) (hb:FP K .br X b fb):FP K md X (.BinOp a op b pos) (c2 p fa fb):=FP.mk fun ρ d hf=>by
 obtain ⟨x,y,e1,e2,e3⟩:=zch hf
 obtain ⟨r,ho,hr⟩:=o
 exact PE.imp (zmr ho (ha.h ρ x e1) (hb.h ρ y e2)) (two (ta:=fun _ _ _=>True) (tb:=fun _ _ _=>True) (ha.h ρ x e1) (hb.h ρ y e2) fun F H v u Q s h1 h2 k=>hr x y d F H v u Q e3 s h1 h2 k)
theorem fcmp {op:CmpOp}(o:Op2 K X (compareOp op) md p) (ha:FP K .br X a fa) (hb:FP K .br X b fb) (hm:behindInMarks op b=false):FP K md X (.Compare a [op] [b] pos) (c2 p fa fb):=FP.mk fun ρ d hf=>by
 obtain ⟨x,y,e1,e2,e3⟩:=zch hf
 obtain ⟨r,ho,hr⟩:=o
 exact PE.imp (zkc ho (ha.h ρ x e1) (hb.h ρ y e2) hm) (two (ta:=fun _ _ _=>True) (tb:=fun _ _ _=>True) (ha.h ρ x e1) (hb.h ρ y e2) fun F H v u Q s h1 h2 k=>hr x y d F H v u Q e3 s h1 h2 k)
theorem fix (o:Ix2 K X md p) (ha:FP K .br X a fa) (hb:FP K .br X b fb) (hs:zit b):FP K md X (.Subscript a b pos) (c2 p fa fb):=FP.mk fun ρ d hf=>by
 obtain ⟨x,y,e1,e2,e3⟩:=zch hf
 obtain ⟨r,ho,hr⟩:=o
 exact PE.imp (zms ho (ha.h ρ x e1) (hb.h ρ y e2) hs) (two (ta:=fun _ _ _=>True) (tb:=fun _ _ _=>True) (ha.h ρ x e1) (hb.h ρ y e2) fun F H v u Q s h1 h2 k=>hr x y d F H v u Q e3 s h1 h2 k)
end
end FL
set_option Elab.async false
set_option linter.all false
set_option maxRecDepth 100000
namespace FL
open PySem PySem.Spec PyProof.Rows L2
mutual
noncomputable def eqD : D → D → Option Bool
 | .non, y => match y with
  | .non => some true
  | .bl _ => some false
  | .int _ => some false
  | .str _ => some false
  | .tup _ => some false
  | .lst _ => some false
  | _ => none
 | .bl a, y => match y with
  | .bl b => some (a == b)
  | .non => some false
  | _ => none
 | .int a, y => match y with
  | .int b => some (a == b)
  | .non => some false
  | .str _ => some false
  | .tup _ => some false
  | _ => none
 | .str a, y => match y with
  | .str b => some (a == b)
  | .non => some false
  | .int _ => some false
  | .tup _ => some false
  | .lst _ => some false
  | _ => none
 | .tup l, y => match y with
  | .tup m => eqL l m
  | .non => some false
  | .int _ => some false
  | .str _ => some false
  | .lst _ => some false
  | _ => none
 | .lst l, y => match y with
  | .lst m => eqL l m
  | .non => some false
  | .str _ => some false
  | .tup _ => some false
  | _ => none
 | .scr _, _ => none
 | .dic _ _, _ => none
 | .set _, _ => none
 | .exc _ _, _ => none
noncomputable def eqL:List D→List D→Option Bool
 | [],[]=>some true
 | a::l,b::m=>(eqD a b).bind fun x=>(eqL l m).map fun y=>x && y
 | [],_::_=>some false
 | _::_,[]=>some false
end
mutual
noncomputable def dep:D→Nat
 | .tup l=>depL l + 1
 | .lst l=>depL l + 1
 | _=>1
noncomputable def depL:List D→Nat
 | []=>0
 | a::l=>max (dep a) (depL l)
end
theorem zbY:∀ {l:List D}{d:D},d∈l→dep d≤depL l
 | _::_,_,h=>by
  rcases List.mem_cons.mp h with rfl | h
  ·rw [depL];exact Nat.le_max_left _ _
  ·rw [depL];exact Nat.le_trans (zbY h) (Nat.le_max_right _ _)
noncomputable def eAt (l m:List D) (j:Nat):Bool:=match l[j]?,m[j]? with
 | some a,some b=>(eqD a b).getD false
 | _,_=>false
theorem zbD:∀ {l m:List D}{b:Bool},eqL l m=some b→
  (∀ (j:Nat) (x y:D),l[j]?=some x→m[j]?=some y→eqD x y=some (eAt l m j))∧b=((List.range (min l.length m.length)).all (eAt l m) && l.length == m.length)
 | [],[],b,h=>by simp [eqL] at h;subst h;simp
 | [],_::_,b,h=>by simp [eqL] at h;subst h;simp
 | _::_,[],b,h=>by simp [eqL] at h;subst h;simp
 | a::l,c::m,b,h=>by
  simp only [eqL] at h
  cases e1:eqD a c with
  | none=>rw [e1] at h;cases h
  | some x=>
   cases e2:eqL l m with
   | none=>rw [e1,e2] at h;cases h
   | some y=>
    rw [e1,e2] at h
    have hb:(x && y)=b:=by simpa using h
    obtain ⟨h1,h2⟩:=zbD e2
    have s0:eAt (a::l) (c::m) 0=x:=by simp [eAt,e1]
    have sS:∀ j,eAt (a::l) (c::m) (j + 1)=eAt l m j:=fun j=>by simp [eAt]
    refine ⟨fun j p q hp hq=>?_,?_⟩
    ·cases j with
     | zero=>simp at hp hq;subst hp hq;rw [s0];exact e1
     | succ j=>rw [sS];exact h1 j p q (by simpa using hp) (by simpa using hq)
    ·rw [← hb,h2]
     simp only [List.length_cons]
     rw [Nat.succ_min_succ,List.range_succ_eq_map,List.all_cons,List.all_map,s0]
     have e3:(List.range (min l.length m.length)).all (eAt (a::l) (c::m) ∘ Nat.succ)=(List.range (min l.length m.length)).all (eAt l m):=by
      congr 1
     rw [e3,Bool.and_assoc]
     congr 2
     simp
section
variable {K:PySem.W.Frag}{F:Hp}
noncomputable def comp:D→Bool
 | .tup _=>true
 | .lst _=>true
 | .scr _=>true
 | .dic _ _=>true
 | .set _=>true
 | _=>false
theorem Dat.ref {d:D}{v:V} (h:Dat K F d v) (hc:comp d=true):∃ a,v=.ref a:=by
 cases d with
 | tup l=>obtain ⟨a,_,e,_⟩:=h.tup_inv;exact ⟨a,e⟩
 | lst l=>obtain ⟨a,_,e,_⟩:=h.lst_inv;exact ⟨a,e⟩
 | scr l=>obtain ⟨a,e,_⟩:=h.scr_inv;exact ⟨a,e⟩
 | dic k l=>obtain ⟨a,_,e,_⟩:=h.dic_inv;exact ⟨a,e⟩
 | set l=>obtain ⟨a,e,_⟩:=h.set_inv;exact ⟨a,e⟩
 | _=>cases hc
theorem zlQ:∀ (n:Nat) (d1 d2 dx:D) (b1 b2:Bool) (v:V),dep d1≤n→Dat K F d1 v→Dat K F d2 v→eqD d1 dx=some b1→eqD d2 dx=some b2→b1=b2:=by
 intro n
 induction n with
 | zero=>intro d1 d2 dx b1 b2 v h;cases d1<;>simp [dep] at h
 | succ n ih=>
  have L:∀ (l1 l2 lx:List D) (b1 b2:Bool) (vs:List V),depL l1≤n→DatL K F l1 vs→DatL K F l2 vs→eqL l1 lx=some b1→eqL l2 lx=some b2→b1=b2:=by
   intro l1
   induction l1 with
   | nil=>
    intro l2 lx b1 b2 vs _ h1 h2 e1 e2
    rw [h1.nil_inv] at h2
    cases l2 with
    | nil=>rw [e1] at e2;exact Option.some.inj e2
    | cons _ _=>obtain ⟨_,_,e,_⟩:=h2.cons_inv;cases e
   | cons a l1 ih2=>
    intro l2 lx b1 b2 vs hn h1 h2 e1 e2
    obtain ⟨v,r,rfl,q1,q2⟩:=h1.cons_inv
    cases l2 with
    | nil=>have:=h2.nil_inv;cases this
    | cons c l2=>
     obtain ⟨v',r',ee,p1,p2⟩:=h2.cons_inv
     cases ee
     cases lx with
     | nil=>simp [eqL] at e1 e2;rw [e1,e2]
     | cons x lx=>
      simp only [eqL] at e1 e2
      simp only [depL] at hn
      cases f1:eqD a x with
      | none=>rw [f1] at e1;cases e1
      | some y1=>
       cases f2:eqD c x with
       | none=>rw [f2] at e2;cases e2
       | some y2=>
        cases g1:eqL l1 lx with
        | none=>rw [f1,g1] at e1;cases e1
        | some z1=>
         cases g2:eqL l2 lx with
         | none=>rw [f2,g2] at e2;cases e2
         | some z2=>
          rw [f1,g1] at e1
          rw [f2,g2] at e2
          have k1:=ih a c x y1 y2 v (by omega) q1 p1 f1 f2
          have k2:=ih2 l2 lx z1 z2 r (by omega) q2 p2 g1 g2
          subst k1 k2
          rw [e1] at e2;exact Option.some.inj e2
  intro d1 d2 dx b1 b2 v hn h1 h2 e1 e2
  cases d1 with
  | non=>rw [h1.non_inv] at h2;cases d2<;>first | (obtain ⟨_,_,_,_,z,_⟩:=Dat.exc_inv h2;cases z;done) | (obtain ⟨_,z⟩:=Dat.ref h2 rfl;cases z;done) | (simp only [Dat] at h2;cases h2;done) | (simp only [Dat] at h2;(first | cases h2 | skip);rw [e1] at e2;exact Option.some.inj e2) | (rw [e1] at e2;exact Option.some.inj e2)
  | bl b=>rw [h1.bl_inv] at h2;cases d2<;>first | (obtain ⟨_,_,_,_,z,_⟩:=Dat.exc_inv h2;cases z;done) | (obtain ⟨_,z⟩:=Dat.ref h2 rfl;cases z;done) | (simp only [Dat] at h2;cases h2;done) | (simp only [Dat] at h2;(first | cases h2 | skip);rw [e1] at e2;exact Option.some.inj e2) | (rw [e1] at e2;exact Option.some.inj e2)
  | int b=>rw [h1.int_inv] at h2;cases d2<;>first | (obtain ⟨_,_,_,_,z,_⟩:=Dat.exc_inv h2;cases z;done) | (obtain ⟨_,z⟩:=Dat.ref h2 rfl;cases z;done) | (simp only [Dat] at h2;cases h2;done) | (simp only [Dat] at h2;(first | cases h2 | skip);rw [e1] at e2;exact Option.some.inj e2) | (rw [e1] at e2;exact Option.some.inj e2)
  | str b=>rw [h1.str_inv] at h2;cases d2<;>first | (obtain ⟨_,_,_,_,z,_⟩:=Dat.exc_inv h2;cases z;done) | (obtain ⟨_,z⟩:=Dat.ref h2 rfl;cases z;done) | (simp only [Dat] at h2;cases h2;done) | (simp only [Dat] at h2;(first | cases h2 | skip);rw [e1] at e2;exact Option.some.inj e2) | (rw [e1] at e2;exact Option.some.inj e2)
  | tup l1=>
   obtain ⟨a,vs,rfl,f1,q1⟩:=h1.tup_inv
   cases d2 with
   | tup l2=>
    obtain ⟨a',vs',z,f2,q2⟩:=h2.tup_inv
    cases z
    rw [f1] at f2;cases f2
    simp only [dep] at hn
    cases dx<;>first | (simp only [eqD] at e1 e2;exact L l1 l2 _ b1 b2 vs (by omega) q1 q2 e1 e2) | (simp only [eqD] at e1 e2;cases e1;cases e2;rfl) | (simp only [eqD] at e1;cases e1)
   | lst l2=>obtain ⟨a',vs',z,f2,q2⟩:=h2.lst_inv;cases z;rw [f1] at f2;cases f2
   | scr l2=>simp [eqD] at e2
   | dic k l2=>simp [eqD] at e2
   | set l2=>simp [eqD] at e2
   | exc c d=>simp [eqD] at e2
   | _=>simp only [Dat] at h2;cases h2
  | lst l1=>
   obtain ⟨a,vs,rfl,f1,q1⟩:=h1.lst_inv
   cases d2 with
   | lst l2=>
    obtain ⟨a',vs',z,f2,q2⟩:=h2.lst_inv
    cases z
    rw [f1] at f2;cases f2
    simp only [dep] at hn
    cases dx<;>first | (simp only [eqD] at e1 e2;exact L l1 l2 _ b1 b2 vs (by omega) q1 q2 e1 e2) | (simp only [eqD] at e1 e2;cases e1;cases e2;rfl) | (simp only [eqD] at e1;cases e1)
   | tup l2=>obtain ⟨a',vs',z,f2,q2⟩:=h2.tup_inv;cases z;rw [f1] at f2;cases f2
   | scr l2=>simp [eqD] at e2
   | dic k l2=>simp [eqD] at e2
   | set l2=>simp [eqD] at e2
   | exc c d=>simp [eqD] at e2
   | _=>simp only [Dat] at h2;cases h2
  | scr l=>simp [eqD] at e1
  | dic k l=>simp [eqD] at e1
  | set l=>simp [eqD] at e1
  | exc c d=>simp [eqD] at e1
end
section
variable {X:Cx}{pins:List (Addr×Obj)} {σ:St}{H F:Hp} {s:Shared}{K:PySem.W.Frag}
theorem zfd {d1 d2:D}{b:Bool} {v:V}(h1:Dat K F d1 v) (h2:Dat K F d2 v) (e:eqD d1 d2=some b):b=true:=by
 have key:∀ (n:Nat) (d1 d2:D) (b:Bool) (v:V),dep d1≤n→Dat K F d1 v→Dat K F d2 v→eqD d1 d2=some b→b=true:=by
  intro n
  induction n with
  | zero=>intro d1 d2 b v h;cases d1<;>simp [dep] at h
  | succ n ih=>
   have L:∀ (l1 l2:List D) (b:Bool) (vs:List V),depL l1≤n→DatL K F l1 vs→DatL K F l2 vs→eqL l1 l2=some b→b=true:=by
    intro l1
    induction l1 with
    | nil=>
     intro l2 b vs _ h1 h2 e
     rw [h1.nil_inv] at h2
     cases l2 with
     | nil=>simp [eqL] at e;exact e
     | cons _ _=>obtain ⟨_,_,z,_⟩:=h2.cons_inv;cases z
    | cons a l1 ih2=>
     intro l2 b vs hn h1 h2 e
     obtain ⟨v,r,rfl,q1,q2⟩:=h1.cons_inv
     cases l2 with
     | nil=>have:=h2.nil_inv;cases this
     | cons c l2=>
      obtain ⟨v',r',ee,p1,p2⟩:=h2.cons_inv
      cases ee
      simp only [eqL] at e
      simp only [depL] at hn
      cases f1:eqD a c with
      | none=>rw [f1] at e;cases e
      | some y1=>
       cases g1:eqL l1 l2 with
       | none=>rw [f1,g1] at e;cases e
       | some z1=>
        rw [f1,g1] at e
        have e':(y1 && z1)=b:=by simpa using e
        rw [← e',ih a c y1 v (by omega) q1 p1 f1,ih2 l2 z1 r (by omega) q2 p2 g1];rfl
   intro d1 d2 b v hn h1 h2 e
   cases d1 with
   | tup l1=>
    obtain ⟨a,vs,rfl,f1,q1⟩:=h1.tup_inv
    cases d2 with
    | tup l2=>
     obtain ⟨a',vs',z,f2,q2⟩:=h2.tup_inv
     cases z
     rw [f1] at f2;cases f2
     simp only [dep] at hn
     simp only [eqD] at e
     exact L l1 l2 b vs (by omega) q1 q2 e
    | lst l2=>obtain ⟨a',vs',z,f2,q2⟩:=h2.lst_inv;cases z;rw [f1] at f2;cases f2
    | non=>have:=h2.non_inv;cases this
    | int _=>have:=h2.int_inv;cases this
    | str _=>have:=h2.str_inv;cases this
    | _=>simp [eqD] at e
   | lst l1=>
    obtain ⟨a,vs,rfl,f1,q1⟩:=h1.lst_inv
    cases d2 with
    | lst l2=>
     obtain ⟨a',vs',z,f2,q2⟩:=h2.lst_inv
     cases z
     rw [f1] at f2;cases f2
     simp only [dep] at hn
     simp only [eqD] at e
     exact L l1 l2 b vs (by omega) q1 q2 e
    | tup l2=>obtain ⟨a',vs',z,f2,q2⟩:=h2.tup_inv;cases z;rw [f1] at f2;cases f2
    | non=>have:=h2.non_inv;cases this
    | int _=>have:=h2.int_inv;cases this
    | str _=>have:=h2.str_inv;cases this
    | _=>simp [eqD] at e
   | non=>
    have z:=h1.non_inv
    subst z
    cases d2<;>first | (obtain ⟨_,_,_,_,z,_⟩:=Dat.exc_inv h2;cases z;done) | (simp [eqD] at e;exact e) | (obtain ⟨_,z⟩:=Dat.ref h2 rfl;cases z;done) | (simp only [Dat] at h2;cases h2;done)
   | bl x=>
    have z:=h1.bl_inv
    subst z
    cases d2 with
    | bl y=>have z:=h2.bl_inv;cases z;simp [eqD] at e;exact e
    | non=>have z:=h2.non_inv;cases z
    | _=>simp [eqD] at e
   | int x=>
    have z:=h1.int_inv
    subst z
    cases d2 with
    | int y=>have z:=h2.int_inv;cases z;simp [eqD] at e;exact e
    | non=>have z:=h2.non_inv;cases z
    | str _=>have z:=h2.str_inv;cases z
    | tup _=>obtain ⟨_,z⟩:=Dat.ref h2 rfl;cases z
    | _=>simp [eqD] at e
   | str x=>
    have z:=h1.str_inv
    subst z
    cases d2 with
    | str y=>have z:=h2.str_inv;cases z;simp [eqD] at e;exact e
    | non=>have z:=h2.non_inv;cases z
    | int _=>have z:=h2.int_inv;cases z
    | tup _=>obtain ⟨_,z⟩:=Dat.ref h2 rfl;cases z
    | lst _=>obtain ⟨_,z⟩:=Dat.ref h2 rfl;cases z
    | _=>simp [eqD] at e
   | _=>simp [eqD] at e
 exact key _ d1 d2 b v (Nat.le_refl _) h1 h2 e
theorem Inv.tupAt (I:Inv X pins σ H s) {a:Addr}{vs:List V} (h:H a=some (.tup vs)):∃ its:List Value,Vals vs its∧s.heap.IsTuple a its.toArray:=by
 obtain ⟨its,r,p,_⟩:=I.tuple (SqT.of h)
 exact ⟨its,r,p⟩
theorem Inv.lstAt (I:Inv X pins σ H s) {a:Addr}{vs:List V} (h:H a=some (.lst vs)):∃ its:List Value,Vals vs its∧s.heap.IsList a its.toArray:=by
 obtain ⟨its,r,p,_⟩:=I.list (SqL.of h)
 exact ⟨its,r,p.isList⟩
theorem zaS {l:List D}{vs:List V} {its:List Value}(h:DatL K F l vs) (r:Vals vs its) {j:Nat}(hj:j < its.toArray.size):∃ d v,l[j]?=some d∧vs[j]?=some v∧Dat K F d v∧RelV v its.toArray[j]:=by
 have hl:=r.length
 have hj':j < vs.length:=by rw [hl];simpa using hj
 obtain ⟨u,hu,ru⟩:=r.get (List.getElem?_eq_getElem hj')
 obtain ⟨d,hd,hD⟩:=h.get' (List.getElem?_eq_getElem hj')
 refine ⟨d,vs[j],hd,List.getElem?_eq_getElem hj',hD,?_⟩
 have e:its.toArray[j]=u:=by
  have:its[j]?=some u:=hu
  rw [List.getElem?_eq_getElem (by simpa using hj)] at this
  simpa using Option.some.inj this
 rw [e];exact ru
theorem zcQ (A:Around):A.in1.units≤A.units + 1:=by
 have:=(Room.in1 (k:=0) (A:=A));exact Nat.le_refl _
theorem zfv (I:Inv X pins σ H s) (sub:Same F H):∀ (n:Nat) (d1 d2:D) (b:Bool) (v1 v2:V) (u1 u2:Value) (A:Around),dep d1≤n→eqD d1 d2=some b→Dat K F d1 v1→Dat K F d2 v2→RelV v1 u1→RelV v2 u2→A.units + n < cLine→SeqAt.EqAt A s u1 u2 b:=by
 intro n
 induction n with
 | zero=>intro d1 d2 b v1 v2 u1 u2 A h;cases d1<;>simp [dep] at h
 | succ n ih=>
  intro d1 d2 b v1 v2 u1 u2 A hn e h1 h2 r1 r2 hu
  have hu0:A.units < cLine:=by omega
  have hin:A.in1.units + n < cLine:=by have:=zcQ A;omega
  cases d1 with
  | non=>
   rw [h1.non_inv] at r1;cases r1
   cases d2 with
   | non=>simp [eqD] at e;subst e;rw [h2.non_inv] at r2;cases r2;exact SeqAt.EqAt.same _
   | bl x=>simp [eqD] at e;subst e;rw [h2.bl_inv] at r2;cases r2;exact SeqAt.EqAt.none_bool x
   | int x=>simp [eqD] at e;subst e;rw [h2.int_inv] at r2;obtain ⟨t,rfl⟩:=r2;exact SeqAt.EqAt.none_int x t
   | str x=>simp [eqD] at e;subst e;rw [h2.str_inv] at r2;obtain ⟨t,rfl⟩:=r2;exact SeqAt.EqAt.none_str x t
   | tup l=>simp [eqD] at e;subst e;obtain ⟨a,vs,rfl,f,_⟩:=h2.tup_inv;cases r2;obtain ⟨its,_,p⟩:=Inv.tupAt I (sub _ _ f);exact SeqAt.EqAt.none_tuple p hu0
   | lst l=>simp [eqD] at e;subst e;obtain ⟨a,vs,rfl,f,_⟩:=h2.lst_inv;cases r2;obtain ⟨its,_,p⟩:=Inv.lstAt I (sub _ _ f);exact SeqAt.EqAt.none_list p hu0
   | _=>simp [eqD] at e
  | bl y=>
   rw [h1.bl_inv] at r1;cases r1
   cases d2 with
   | non=>simp [eqD] at e;subst e;rw [h2.non_inv] at r2;cases r2;exact SeqAt.EqAt.bool_none y
   | bl x=>simp only [eqD,Option.some.injEq] at e;subst e;rw [h2.bl_inv] at r2;cases r2;exact SeqAt.EqAt.bool_bool y x
   | _=>simp [eqD] at e
  | int y=>
   rw [h1.int_inv] at r1;obtain ⟨t',rfl⟩:=r1
   cases d2 with
   | non=>simp [eqD] at e;subst e;rw [h2.non_inv] at r2;cases r2;exact SeqAt.EqAt.int_none y t'
   | int x=>simp only [eqD,Option.some.injEq] at e;subst e;rw [h2.int_inv] at r2;obtain ⟨t,rfl⟩:=r2;exact SeqAt.EqAt.int_int y t' x t
   | str x=>simp [eqD] at e;subst e;rw [h2.str_inv] at r2;obtain ⟨t,rfl⟩:=r2;exact SeqAt.EqAt.int_str y t' x t
   | tup l=>simp [eqD] at e;subst e;obtain ⟨a,vs,rfl,f,_⟩:=h2.tup_inv;cases r2;obtain ⟨its,_,p⟩:=Inv.tupAt I (sub _ _ f);exact SeqAt.EqAt.int_tuple y t' p hu0
   | _=>simp [eqD] at e
  | str y=>
   rw [h1.str_inv] at r1;obtain ⟨t',rfl⟩:=r1
   cases d2 with
   | non=>simp [eqD] at e;subst e;rw [h2.non_inv] at r2;cases r2;exact SeqAt.EqAt.str_none y t'
   | int x=>simp [eqD] at e;subst e;rw [h2.int_inv] at r2;obtain ⟨t,rfl⟩:=r2;exact SeqAt.EqAt.str_int y t' x t
   | str x=>simp only [eqD,Option.some.injEq] at e;subst e;rw [h2.str_inv] at r2;obtain ⟨t,rfl⟩:=r2;exact SeqAt.EqAt.str_str y t' x t
   | tup l=>simp [eqD] at e;subst e;obtain ⟨a,vs,rfl,f,_⟩:=h2.tup_inv;cases r2;obtain ⟨its,_,p⟩:=Inv.tupAt I (sub _ _ f);exact SeqAt.EqAt.str_tuple y t' p hu0
   | lst l=>simp [eqD] at e;subst e;obtain ⟨a,vs,rfl,f,_⟩:=h2.lst_inv;cases r2;obtain ⟨its,_,p⟩:=Inv.lstAt I (sub _ _ f);exact SeqAt.EqAt.str_list y t' p hu0
   | _=>simp [eqD] at e
  | tup l1=>
   obtain ⟨a,vs,rfl,f1,q1⟩:=id h1.tup_inv
   cases r1
   obtain ⟨its,rv,p⟩:=Inv.tupAt I (sub _ _ f1)
   cases d2 with
   | non=>simp [eqD] at e;subst e;rw [h2.non_inv] at r2;cases r2;exact SeqAt.EqAt.tuple_none p hu0
   | int x=>simp [eqD] at e;subst e;rw [h2.int_inv] at r2;obtain ⟨t,rfl⟩:=r2;exact SeqAt.EqAt.tuple_int x t p hu0
   | str x=>simp [eqD] at e;subst e;rw [h2.str_inv] at r2;obtain ⟨t,rfl⟩:=r2;exact SeqAt.EqAt.tuple_str x t p hu0
   | tup l2=>
    obtain ⟨a2,vs2,rfl,f2,q2⟩:=id h2.tup_inv
    cases r2
    by_cases ha:a=a2
    ·subst ha
     rw [zfd h1 h2 e];exact SeqAt.EqAt.same _
    obtain ⟨its2,rv2,p2⟩:=Inv.tupAt I (sub _ _ f2)
    simp only [eqD] at e
    obtain ⟨hp,hb⟩:=zbD e
    simp only [dep] at hn
    have he:∀ (j:Nat) (h1:j < its.toArray.size) (h2:j < its2.toArray.size),SeqAt.EqAt A.in1 s its.toArray[j] its2.toArray[j] (eAt l1 l2 j):=fun j k1 k2=>by
     obtain ⟨x,v,hx,_,dx,rx⟩:=zaS q1 rv k1
     obtain ⟨y,w,hy,_,dy,ry⟩:=zaS q2 rv2 k2
     have:=zbY (List.mem_of_getElem? hx)
     exact ih x y _ v w _ _ A.in1 (by omega) (hp j x y hx hy) dx dy rx ry hin
    have z:=SeqAt.RcAt.tuples p p2 hu0 he
    have e1:its.toArray.size=l1.length:=by rw [List.size_toArray,← rv.length,q1.length]
    have e2:its2.toArray.size=l2.length:=by rw [List.size_toArray,← rv2.length,q2.length]
    rw [e1,e2] at z
    rw [hb]
    exact SeqAt.EqAt.of_refs ha z
   | lst l2=>simp [eqD] at e;subst e;obtain ⟨a2,vs2,rfl,f2,_⟩:=h2.lst_inv;cases r2;obtain ⟨its2,_,p2⟩:=Inv.lstAt I (sub _ _ f2);exact SeqAt.EqAt.tuple_list p p2 hu0
   | _=>simp [eqD] at e
  | lst l1=>
   obtain ⟨a,vs,rfl,f1,q1⟩:=id h1.lst_inv
   cases r1
   obtain ⟨its,rv,p⟩:=Inv.lstAt I (sub _ _ f1)
   cases d2 with
   | non=>simp [eqD] at e;subst e;rw [h2.non_inv] at r2;cases r2;exact SeqAt.EqAt.list_none p hu0
   | str x=>simp [eqD] at e;subst e;rw [h2.str_inv] at r2;obtain ⟨t,rfl⟩:=r2;exact SeqAt.EqAt.list_str x t p hu0
   | tup l2=>simp [eqD] at e;subst e;obtain ⟨a2,vs2,rfl,f2,_⟩:=h2.tup_inv;cases r2;obtain ⟨its2,_,p2⟩:=Inv.tupAt I (sub _ _ f2);exact SeqAt.EqAt.list_tuple p p2 hu0
   | lst l2=>
    obtain ⟨a2,vs2,rfl,f2,q2⟩:=id h2.lst_inv
    cases r2
    by_cases ha:a=a2
    ·subst ha
     rw [zfd h1 h2 e];exact SeqAt.EqAt.same _
    obtain ⟨its2,rv2,p2⟩:=Inv.lstAt I (sub _ _ f2)
    simp only [eqD] at e
    obtain ⟨hp,hb⟩:=zbD e
    simp only [dep] at hn
    have he:∀ (j:Nat) (h1:j < its.toArray.size) (h2:j < its2.toArray.size),SeqAt.EqAt A.in1 s its.toArray[j] its2.toArray[j] (eAt l1 l2 j):=fun j k1 k2=>by
     obtain ⟨x,v,hx,_,dx,rx⟩:=zaS q1 rv k1
     obtain ⟨y,w,hy,_,dy,ry⟩:=zaS q2 rv2 k2
     have:=zbY (List.mem_of_getElem? hx)
     exact ih x y _ v w _ _ A.in1 (by omega) (hp j x y hx hy) dx dy rx ry hin
    have e1:its.toArray.size=l1.length:=by rw [List.size_toArray,← rv.length,q1.length]
    have e2:its2.toArray.size=l2.length:=by rw [List.size_toArray,← rv2.length,q2.length]
    by_cases hsz:l1.length=l2.length
    ·have z:=SeqAt.RcAt.lists p p2 (by rw [e1,e2,hsz]) hu0 he
     rw [e1] at z
     rw [hb,hsz,Nat.min_self,beq_self_eq_true,Bool.and_true,← hsz]
     exact SeqAt.EqAt.of_refs ha z
    ·have z:=SeqAt.RcAt.lists_lengths p p2 (by rw [e1,e2];simpa using hsz) hu0
     have hb0:b=false:=by
      rw [hb]
      have:(l1.length == l2.length)=false:=by simpa using hsz
      rw [this,Bool.and_false]
     rw [hb0]
     exact SeqAt.EqAt.of_refs ha z
   | _=>simp [eqD] at e
  | _=>simp [eqD] at e
end
end FL
set_option Elab.async false
set_option linter.all false
set_option maxRecDepth 100000
namespace FL
open PySem PySem.Spec PyProof.Rows L2
noncomputable abbrev lim:Nat:=1000000
theorem zbV {n:Nat}(h:n≤lim):n≤sizeLine:=by rw [sizeLine_eq];unfold lim at h;omega
theorem zjB {n:Nat}(h:n≤lim):n < sizeLine:=by rw [sizeLine_eq];unfold lim at h;omega
section
variable {K:PySem.W.Frag}{F H F' H':Hp} {v:V}
theorem DatB.non_inv (h:DatB K F H .non v):v=.non:=Dat.non_inv (K:=K) (F:=F) h
theorem DatB.bl_inv {i:Bool}(h:DatB K F H (.bl i) v):v=.bl i:=Dat.bl_inv (K:=K) (F:=F) h
theorem DatB.int_inv {i:Int}(h:DatB K F H (.int i) v):v=.int i:=Dat.int_inv (K:=K) (F:=F) h
theorem DatB.str_inv {i:Str}(h:DatB K F H (.str i) v):v=.str i:=Dat.str_inv (K:=K) (F:=F) h
theorem DatB.tup_inv {l:List D}(h:DatB K F H (.tup l) v):∃ a vs,v=.ref a∧F a=some (.tup vs)∧DatL K F l vs:=Dat.tup_inv (K:=K) (F:=F) h
theorem DatB.scr_inv {l:List Int}(h:DatB K F H (.scr l) v):∃ a,v=.ref a∧SqL K F a (l.map V.int):=Dat.scr_inv (K:=K) (F:=F) h
theorem DatB.lst_inv {l:List D}(h:DatB K F H (.lst l) v):∃ a vs,v=.ref a∧H a=some (.lst vs)∧DatL K F l vs:=h
theorem DatB.dic_inv {ks:List KD}{l:List D} (h:DatB K F H (.dic ks l) v):∃ a vs,v=.ref a∧DicB H a ks vs∧DatL K F l vs:=h
theorem DatB.exc_inv {c:Str}{d:D} (h:DatB K F H (.exc c d) v):∃ a C da u,v=.ref a∧F a=some (ExcO a C da)∧PySem.W.nsIn K mainGlobals c=some (some (.ref C))∧F da=some (.xd [(zje c,u)])∧Dat K F d u:=Dat.exc_inv (K:=K) (F:=F) (c:=c) (d:=d) (v:=v) h
theorem Res.bl (b:Bool):Res K .fz H F' H' (.bl b) (.bl b):=Dat.bl (K:=K) (F:=F') b
theorem Res.int (b:Int):Res K .fz H F' H' (.int b) (.int b):=Dat.int (K:=K) (F:=F') b
theorem Res.str (b:Str):Res K .fz H F' H' (.str b) (.str b):=Dat.str (K:=K) (F:=F') b
end
noncomputable def addD:D→D→Option D
 | .int a,.int b=>some (.int (a + b))
 | .str a,.str b=>if a.length + b.length≤lim then some (.str (a++b)) else none
 | .tup a,.tup b=>if a.length + b.length≤lim then some (.tup (a++b)) else none
 | .lst a,.lst b=>if a.length + b.length≤lim then some (.lst (a++b)) else none
 | _,_=>none
noncomputable def catD:D→D→Option D
 | .lst a,.lst b=>if a.length + b.length≤lim then some (.lst (a++b)) else none
 | _,_=>none
noncomputable def subD:D→D→Option D
 | .int a,.int b=>some (.int (a - b))
 | _,_=>none
noncomputable def zki (a b:Int):Prop:=(-(2 ^ 64) < a∧a < 2 ^ 64)∨(-(2 ^ 64) < b∧b < 2 ^ 64)
noncomputable def zlx (b:Int):Prop:=0 < b∧b < 1073741824
noncomputable def ziP (b:Int):Prop:=0 < b
noncomputable def zlw (a b:Int):Prop:=0≤b∧b≤1000000∧a.natAbs < 2 ^ 64
theorem zbP {a b:Int}(h1:-18446744073709551616 < b) (h2:b < 18446744073709551616):zki a b:=.inr ⟨h1,h2⟩
theorem zbQ {a b:Int}(h1:-18446744073709551616 < a) (h2:a < 18446744073709551616):zki a b:=.inl ⟨h1,h2⟩
theorem zbm {b:Int}(h1:0 < b) (h2:b < 1073741824):zlx b:=⟨h1,h2⟩
theorem zbl {b:Int}(h1:0 < b):ziP b:=h1
theorem zbk {a b:Int}(h1:0≤b) (h2:b≤1000000) (h3:a.natAbs < 18446744073709551616):zlw a b:=⟨h1,h2,h3⟩
open Classical in
noncomputable def mulD:D→D→Option D
 | .int a,.int b=>if zki a b then some (.int (a * b)) else none
 | _,_=>none
open Classical in
noncomputable def divD:D→D→Option D
 | .int a,.int b=>if zlx b then some (.int (a / b)) else none
 | _,_=>none
open Classical in
noncomputable def modD:D→D→Option D
 | .int a,.int b=>if ziP b then some (.int (a % b)) else none
 | _,_=>none
open Classical in
noncomputable def powD:D→D→Option D
 | .int a,.int b=>if zlw a b then some (.int (a ^ b.toNat)) else none
 | _,_=>none
section
variable {K:PySem.W.Frag}{X:Cx}
theorem zau {α:Type}{c:Prop} {_:Decidable c}{x y:α} (h:(if c then some x else none)=some y):c∧x=y:=by
 by_cases hc:c
 ·rw [if_pos hc] at h;exact ⟨hc,Option.some.inj h⟩
 ·rw [if_neg hc] at h;cases h
theorem zcq (hK:X.K=K:=by rfl):Op2 K X (binaryOp .Add) .fz addD:=by
 subst hK
 refine ⟨_,zlu.or (zgR.or (zkh.or zjA)),fun x y d F H v u Q e s h1 h2 k=>?_⟩
 unfold addD at e
 split at e
 ·cases e
  refine .inl ⟨_,_,h1.int_inv,h2.int_inv,k _ F H (Grow.refl s) (Res.int _)⟩
 ·obtain ⟨hz,rfl⟩:=zau e
  exact .inr (.inl ⟨_,_,h1.str_inv,h2.str_inv,zbV hz,k _ F H (Grow.refl s) (Res.str _)⟩)
 ·obtain ⟨hz,rfl⟩:=zau e
  obtain ⟨a,xs,rfl,f1,q1⟩:=h1.tup_inv
  obtain ⟨b,ys,rfl,f2,q2⟩:=h2.tup_inv
  refine .inr (.inr (.inl ⟨a,b,xs,ys,rfl,rfl,SqT.of (s _ _ f1),SqT.of (s _ _ f2),by rw [q1.length,q2.length];exact zbV hz,fun z=>?_,fun _ z=>?_,fun _ _ p hp=>?_⟩))
  ·subst z
   refine k _ F H (Grow.refl s) ?_
   have:_=([]:List D):=List.eq_nil_of_length_eq_zero (by rw [← q1.length];rfl)
   rw [this];exact h2
  ·subst z
   refine k _ F H (Grow.refl s) ?_
   have:_=([]:List D):=List.eq_nil_of_length_eq_zero (by rw [← q2.length];rfl)
   rw [this,List.append_nil];exact h1
  ·have g:=Grow.frozen (o:=.tup (xs++ys)) s hp
   exact k _ _ _ g (Dat.tup (K:=X.K) zam ((q1.mono g.ff).append (q2.mono g.ff)))
 ·obtain ⟨hz,rfl⟩:=zau e
  obtain ⟨a,xs,rfl,f1,q1⟩:=h1
  obtain ⟨b,ys,rfl,f2,q2⟩:=h2
  refine .inr (.inr (.inr ⟨a,b,xs,ys,rfl,rfl,f1,f2,by rw [q1.length,q2.length];exact zbV hz,fun p hp=>?_⟩))
  have g:=Grow.frozen (o:=.lst (xs++ys)) s hp
  exact k _ _ _ g (Dat.lst (K:=X.K) zam ((q1.mono g.ff).append (q2.mono g.ff)))
 ·cases e
theorem zke (hK:X.K=K:=by rfl):Op2 K X (binaryOp .Add) .ow catD:=by
 subst hK
 refine ⟨_,zjA,fun x y d F H v u Q e s h1 h2 k=>?_⟩
 unfold catD at e
 split at e
 ·obtain ⟨hz,rfl⟩:=zau e
  obtain ⟨a,xs,rfl,f1,q1⟩:=h1
  obtain ⟨b,ys,rfl,f2,q2⟩:=h2
  refine ⟨a,b,xs,ys,rfl,rfl,f1,f2,by rw [q1.length,q2.length];exact zbV hz,fun p hp=>?_⟩
  exact k _ _ _ (Grow.fresh s hp) ⟨p,rfl,hp,s.free hp,xs++ys,zam,q1.append q2⟩
 ·cases e
theorem ziL {f:Value→Value→Sem Value}{C:Int→Int→Prop} {g:Int→Int→Int}{p:D→D→Option D} (o:OpR X f (rI C fun i j=>.int (g i j)))
  (h:∀ x y d,p x y=some d→∃ i j,x=.int i∧y=.int j∧C i j∧d=.int (g i j)):Op2 K X f .fz p:=by
 refine ⟨_,o,fun x y d F H v u Q e s h1 h2 k=>?_⟩
 obtain ⟨i,j,rfl,rfl,c,rfl⟩:=h x y d e
 exact ⟨i,j,h1.int_inv,h2.int_inv,c,k _ F H (Grow.refl s) (Res.int _)⟩
theorem zlm:Op2 K X (binaryOp .Sub) .fz subD:=by
 refine ⟨_,zln,fun x y d F H v u Q e s h1 h2 k=>?_⟩
 unfold subD at e
 split at e
 ·cases e
  exact ⟨_,_,h1.int_inv,h2.int_inv,k _ F H (Grow.refl s) (Res.int _)⟩
 ·cases e
theorem zhD:Op2 K X (binaryOp .Mult) .fz mulD:=ziL zlq fun x y d e=>by
 unfold mulD at e
 split at e
 ·obtain ⟨hz,rfl⟩:=zau e
  exact ⟨_,_,rfl,rfl,hz,rfl⟩
 ·cases e
theorem zdF:Op2 K X (binaryOp .FloorDiv) .fz divD:=ziL zkf fun x y d e=>by
 unfold divD at e
 split at e
 ·obtain ⟨hz,rfl⟩:=zau e
  exact ⟨_,_,rfl,rfl,hz,rfl⟩
 ·cases e
theorem zbO:Op2 K X (binaryOp .Mod) .fz modD:=ziL zlr fun x y d e=>by
 unfold modD at e
 split at e
 ·obtain ⟨hz,rfl⟩:=zau e
  exact ⟨_,_,rfl,rfl,hz,rfl⟩
 ·cases e
theorem zmu:Op2 K X (binaryOp .Pow) .fz powD:=ziL zlo fun x y d e=>by
 unfold powD at e
 split at e
 ·obtain ⟨hz,rfl⟩:=zau e
  exact ⟨_,_,rfl,rfl,hz,rfl⟩
 ·cases e
end
section
variable {X:Cx}{pins:List (Addr×Obj)} {σ:St}{H F:Hp} {s:Shared}{K:PySem.W.Frag}
theorem zlV (I:Inv X pins σ H s) (sub:Same F H) (d1 d2:D) (b:Bool) (v1 v2:V) (u1 u2:Value) (n:Nat) (hn:dep d1≤n) (e:eqD d1 d2=some b) (h1:DatB K F H d1 v1) (h2:DatB K F H d2 v2) (r1:RelV v1 u1) (r2:RelV v2 u2) (hu:X.A.units + n < cLine):SeqAt.RcAt X.A s u1 u2 b:=by
 have d0:0 < dep d1:=by cases d1<;>simp [dep]
 have hu0:X.A.units < cLine:=by omega
 have hin:X.A.in1.units + (n - 1) < cLine:=by have:=zcQ X.A;omega
 cases d1 with
 | non=>
  rw [h1.non_inv] at r1;cases r1
  cases d2 with
  | non=>simp [eqD] at e;subst e;rw [h2.non_inv] at r2;cases r2;exact SeqAt.RcAt.none_none
  | bl x=>simp [eqD] at e;subst e;rw [h2.bl_inv] at r2;cases r2;exact SeqAt.RcAt.none_bool x
  | int x=>simp [eqD] at e;subst e;rw [h2.int_inv] at r2;obtain ⟨t,rfl⟩:=r2;exact SeqAt.RcAt.none_int x t
  | str x=>simp [eqD] at e;subst e;rw [h2.str_inv] at r2;obtain ⟨t,rfl⟩:=r2;exact SeqAt.RcAt.none_str x t
  | tup l=>simp [eqD] at e;subst e;obtain ⟨a,vs,rfl,f,_⟩:=h2.tup_inv;cases r2;obtain ⟨its,_,p⟩:=Inv.tupAt I (sub _ _ f);exact SeqAt.RcAt.none_tuple p hu0
  | lst l=>simp [eqD] at e;subst e;obtain ⟨a,vs,rfl,f,_⟩:=h2.lst_inv;cases r2;obtain ⟨its,_,p⟩:=Inv.lstAt I f;exact SeqAt.RcAt.none_list p hu0
  | _=>simp [eqD] at e
 | bl y=>
  rw [h1.bl_inv] at r1;cases r1
  cases d2 with
  | non=>simp [eqD] at e;subst e;rw [h2.non_inv] at r2;cases r2;exact SeqAt.RcAt.bool_none y
  | bl x=>simp only [eqD,Option.some.injEq] at e;subst e;rw [h2.bl_inv] at r2;cases r2;exact SeqAt.RcAt.bool_bool y x
  | _=>simp [eqD] at e
 | int y=>
  rw [h1.int_inv] at r1;obtain ⟨t',rfl⟩:=r1
  cases d2 with
  | non=>simp [eqD] at e;subst e;rw [h2.non_inv] at r2;cases r2;exact SeqAt.RcAt.int_none y t'
  | int x=>simp only [eqD,Option.some.injEq] at e;subst e;rw [h2.int_inv] at r2;obtain ⟨t,rfl⟩:=r2;exact SeqAt.RcAt.int_int y t' x t
  | str x=>simp [eqD] at e;subst e;rw [h2.str_inv] at r2;obtain ⟨t,rfl⟩:=r2;exact SeqAt.RcAt.int_str y t' x t
  | tup l=>simp [eqD] at e;subst e;obtain ⟨a,vs,rfl,f,_⟩:=h2.tup_inv;cases r2;obtain ⟨its,_,p⟩:=Inv.tupAt I (sub _ _ f);exact SeqAt.RcAt.int_tuple y t' p hu0
  | _=>simp [eqD] at e
 | str y=>
  rw [h1.str_inv] at r1;obtain ⟨t',rfl⟩:=r1
  cases d2 with
  | non=>simp [eqD] at e;subst e;rw [h2.non_inv] at r2;cases r2;exact SeqAt.RcAt.str_none y t'
  | int x=>simp [eqD] at e;subst e;rw [h2.int_inv] at r2;obtain ⟨t,rfl⟩:=r2;exact SeqAt.RcAt.str_int y t' x t
  | str x=>simp only [eqD,Option.some.injEq] at e;subst e;rw [h2.str_inv] at r2;obtain ⟨t,rfl⟩:=r2;exact SeqAt.RcAt.str_str y t' x t
  | tup l=>simp [eqD] at e;subst e;obtain ⟨a,vs,rfl,f,_⟩:=h2.tup_inv;cases r2;obtain ⟨its,_,p⟩:=Inv.tupAt I (sub _ _ f);exact SeqAt.RcAt.str_tuple y t' p hu0
  | lst l=>simp [eqD] at e;subst e;obtain ⟨a,vs,rfl,f,_⟩:=h2.lst_inv;cases r2;obtain ⟨its,_,p⟩:=Inv.lstAt I f;exact SeqAt.RcAt.str_list y t' p hu0
  | _=>simp [eqD] at e
 | tup l1=>
  obtain ⟨a,vs,rfl,f1,q1⟩:=h1.tup_inv
  cases r1
  obtain ⟨its,rv,p⟩:=Inv.tupAt I (sub _ _ f1)
  cases d2 with
  | non=>simp [eqD] at e;subst e;rw [h2.non_inv] at r2;cases r2;exact SeqAt.RcAt.tuple_none p hu0
  | int x=>simp [eqD] at e;subst e;rw [h2.int_inv] at r2;obtain ⟨t,rfl⟩:=r2;exact SeqAt.RcAt.tuple_int x t p hu0
  | str x=>simp [eqD] at e;subst e;rw [h2.str_inv] at r2;obtain ⟨t,rfl⟩:=r2;exact SeqAt.RcAt.tuple_str x t p hu0
  | tup l2=>
   obtain ⟨a2,vs2,rfl,f2,q2⟩:=h2.tup_inv
   cases r2
   obtain ⟨its2,rv2,p2⟩:=Inv.tupAt I (sub _ _ f2)
   simp only [eqD] at e
   obtain ⟨hp,hb⟩:=zbD e
   simp only [dep] at hn
   have he:∀ (j:Nat) (h1:j < its.toArray.size) (h2:j < its2.toArray.size),SeqAt.EqAt X.A.in1 s its.toArray[j] its2.toArray[j] (eAt l1 l2 j):=fun j k1 k2=>by
    obtain ⟨x,v,hx,_,dx,rx⟩:=zaS q1 rv k1
    obtain ⟨y,w,hy,_,dy,ry⟩:=zaS q2 rv2 k2
    have:=zbY (List.mem_of_getElem? hx)
    exact zfv I sub (n - 1) x y _ v w _ _ X.A.in1 (by omega) (hp j x y hx hy) dx dy rx ry hin
   have z:=SeqAt.RcAt.tuples p p2 hu0 he
   have e1:its.toArray.size=l1.length:=by rw [List.size_toArray,← rv.length,q1.length]
   have e2:its2.toArray.size=l2.length:=by rw [List.size_toArray,← rv2.length,q2.length]
   rw [e1,e2] at z
   rw [hb]
   exact z
  | lst l2=>simp [eqD] at e;subst e;obtain ⟨a2,vs2,rfl,f2,_⟩:=h2.lst_inv;cases r2;obtain ⟨its2,_,p2⟩:=Inv.lstAt I f2;exact SeqAt.RcAt.tuple_list p p2 hu0
  | _=>simp [eqD] at e
 | lst l1=>
  obtain ⟨a,vs,rfl,f1,q1⟩:=h1.lst_inv
  cases r1
  obtain ⟨its,rv,p⟩:=Inv.lstAt I f1
  cases d2 with
  | non=>simp [eqD] at e;subst e;rw [h2.non_inv] at r2;cases r2;exact SeqAt.RcAt.list_none p hu0
  | str x=>simp [eqD] at e;subst e;rw [h2.str_inv] at r2;obtain ⟨t,rfl⟩:=r2;exact SeqAt.RcAt.list_str x t p hu0
  | tup l2=>simp [eqD] at e;subst e;obtain ⟨a2,vs2,rfl,f2,_⟩:=h2.tup_inv;cases r2;obtain ⟨its2,_,p2⟩:=Inv.tupAt I (sub _ _ f2);exact SeqAt.RcAt.list_tuple p p2 hu0
  | lst l2=>
   obtain ⟨a2,vs2,rfl,f2,q2⟩:=h2.lst_inv
   cases r2
   obtain ⟨its2,rv2,p2⟩:=Inv.lstAt I f2
   simp only [eqD] at e
   obtain ⟨hp,hb⟩:=zbD e
   simp only [dep] at hn
   have he:∀ (j:Nat) (h1:j < its.toArray.size) (h2:j < its2.toArray.size),SeqAt.EqAt X.A.in1 s its.toArray[j] its2.toArray[j] (eAt l1 l2 j):=fun j k1 k2=>by
    obtain ⟨x,v,hx,_,dx,rx⟩:=zaS q1 rv k1
    obtain ⟨y,w,hy,_,dy,ry⟩:=zaS q2 rv2 k2
    have:=zbY (List.mem_of_getElem? hx)
    exact zfv I sub (n - 1) x y _ v w _ _ X.A.in1 (by omega) (hp j x y hx hy) dx dy rx ry hin
   have e1:its.toArray.size=l1.length:=by rw [List.size_toArray,← rv.length,q1.length]
   have e2:its2.toArray.size=l2.length:=by rw [List.size_toArray,← rv2.length,q2.length]
   by_cases hsz:l1.length=l2.length
   ·have z:=SeqAt.RcAt.lists p p2 (by rw [e1,e2,hsz]) hu0 he
    rw [e1] at z
    rw [hb,hsz,Nat.min_self,beq_self_eq_true,Bool.and_true,← hsz]
    exact z
   ·have z:=SeqAt.RcAt.lists_lengths p p2 (by rw [e1,e2];simpa using hsz) hu0
    have hb0:b=false:=by
     rw [hb]
     have:(l1.length == l2.length)=false:=by simpa using hsz
     rw [this,Bool.and_false]
    rw [hb0]
    exact z
  | _=>simp [eqD] at e
 | _=>simp [eqD] at e
theorem zjr (I:Inv X pins σ H s) (sub:Same F H) (d1 d2:D) (b:Bool) (v1 v2:V) (u1 u2:Value) (n:Nat) (hn:dep d1≤n) (e:eqD d1 d2=some b) (h1:DatB K F H d1 v1) (h2:DatB K F H d2 v2) (r1:RelV v1 u1) (r2:RelV v2 u2) (hu:X.A.units + n < cLine):SeqAt.RcNeAt X.A s u1 u2 (!b):=by
 have d0:0 < dep d1:=by cases d1<;>simp [dep]
 have hu0:X.A.units < cLine:=by omega
 have hin:X.A.in1.units + (n - 1) < cLine:=by have:=zcQ X.A;omega
 cases d1 with
 | non=>
  rw [h1.non_inv] at r1;cases r1
  cases d2 with
  | non=>simp [eqD] at e;subst e;rw [h2.non_inv] at r2;cases r2;exact SeqAt.RcNeAt.none_none
  | bl x=>simp [eqD] at e;subst e;rw [h2.bl_inv] at r2;cases r2;exact SeqAt.RcNeAt.none_bool x
  | int x=>simp [eqD] at e;subst e;rw [h2.int_inv] at r2;obtain ⟨t,rfl⟩:=r2;exact SeqAt.RcNeAt.none_int x t
  | str x=>simp [eqD] at e;subst e;rw [h2.str_inv] at r2;obtain ⟨t,rfl⟩:=r2;exact SeqAt.RcNeAt.none_str x t
  | tup l=>simp [eqD] at e;subst e;obtain ⟨a,vs,rfl,f,_⟩:=h2.tup_inv;cases r2;obtain ⟨its,_,p⟩:=Inv.tupAt I (sub _ _ f);exact SeqAt.RcNeAt.none_tuple p hu0
  | lst l=>simp [eqD] at e;subst e;obtain ⟨a,vs,rfl,f,_⟩:=h2.lst_inv;cases r2;obtain ⟨its,_,p⟩:=Inv.lstAt I f;exact SeqAt.RcNeAt.none_list p hu0
  | _=>simp [eqD] at e
 | bl y=>
  rw [h1.bl_inv] at r1;cases r1
  cases d2 with
  | non=>simp [eqD] at e;subst e;rw [h2.non_inv] at r2;cases r2;exact SeqAt.RcNeAt.bool_none y
  | bl x=>simp only [eqD,Option.some.injEq] at e;subst e;rw [h2.bl_inv] at r2;cases r2;exact SeqAt.RcNeAt.bool_bool y x
  | _=>simp [eqD] at e
 | int y=>
  rw [h1.int_inv] at r1;obtain ⟨t',rfl⟩:=r1
  cases d2 with
  | non=>simp [eqD] at e;subst e;rw [h2.non_inv] at r2;cases r2;exact SeqAt.RcNeAt.int_none y t'
  | int x=>simp only [eqD,Option.some.injEq] at e;subst e;rw [h2.int_inv] at r2;obtain ⟨t,rfl⟩:=r2;exact SeqAt.RcNeAt.int_int y t' x t
  | str x=>simp [eqD] at e;subst e;rw [h2.str_inv] at r2;obtain ⟨t,rfl⟩:=r2;exact SeqAt.RcNeAt.int_str y t' x t
  | tup l=>simp [eqD] at e;subst e;obtain ⟨a,vs,rfl,f,_⟩:=h2.tup_inv;cases r2;obtain ⟨its,_,p⟩:=Inv.tupAt I (sub _ _ f);exact SeqAt.RcNeAt.int_tuple y t' p hu0
  | _=>simp [eqD] at e
 | str y=>
  rw [h1.str_inv] at r1;obtain ⟨t',rfl⟩:=r1
  cases d2 with
  | non=>simp [eqD] at e;subst e;rw [h2.non_inv] at r2;cases r2;exact SeqAt.RcNeAt.str_none y t'
  | int x=>simp [eqD] at e;subst e;rw [h2.int_inv] at r2;obtain ⟨t,rfl⟩:=r2;exact SeqAt.RcNeAt.str_int y t' x t
  | str x=>simp only [eqD,Option.some.injEq] at e;subst e;rw [h2.str_inv] at r2;obtain ⟨t,rfl⟩:=r2;exact SeqAt.RcNeAt.str_str y t' x t
  | tup l=>simp [eqD] at e;subst e;obtain ⟨a,vs,rfl,f,_⟩:=h2.tup_inv;cases r2;obtain ⟨its,_,p⟩:=Inv.tupAt I (sub _ _ f);exact SeqAt.RcNeAt.str_tuple y t' p hu0
  | lst l=>simp [eqD] at e;subst e;obtain ⟨a,vs,rfl,f,_⟩:=h2.lst_inv;cases r2;obtain ⟨its,_,p⟩:=Inv.lstAt I f;exact SeqAt.RcNeAt.str_list y t' p hu0
  | _=>simp [eqD] at e
 | tup l1=>
  obtain ⟨a,vs,rfl,f1,q1⟩:=h1.tup_inv
  cases r1
  obtain ⟨its,rv,p⟩:=Inv.tupAt I (sub _ _ f1)
  cases d2 with
  | non=>simp [eqD] at e;subst e;rw [h2.non_inv] at r2;cases r2;exact SeqAt.RcNeAt.tuple_none p hu0
  | int x=>simp [eqD] at e;subst e;rw [h2.int_inv] at r2;obtain ⟨t,rfl⟩:=r2;exact SeqAt.RcNeAt.tuple_int x t p hu0
  | str x=>simp [eqD] at e;subst e;rw [h2.str_inv] at r2;obtain ⟨t,rfl⟩:=r2;exact SeqAt.RcNeAt.tuple_str x t p hu0
  | tup l2=>
   obtain ⟨a2,vs2,rfl,f2,q2⟩:=h2.tup_inv
   cases r2
   obtain ⟨its2,rv2,p2⟩:=Inv.tupAt I (sub _ _ f2)
   simp only [eqD] at e
   obtain ⟨hp,hb⟩:=zbD e
   simp only [dep] at hn
   have he:∀ (j:Nat) (h1:j < its.toArray.size) (h2:j < its2.toArray.size),SeqAt.EqAt X.A.in1 s its.toArray[j] its2.toArray[j] (eAt l1 l2 j):=fun j k1 k2=>by
    obtain ⟨x,v,hx,_,dx,rx⟩:=zaS q1 rv k1
    obtain ⟨y,w,hy,_,dy,ry⟩:=zaS q2 rv2 k2
    have:=zbY (List.mem_of_getElem? hx)
    exact zfv I sub (n - 1) x y _ v w _ _ X.A.in1 (by omega) (hp j x y hx hy) dx dy rx ry hin
   have z:=SeqAt.RcNeAt.tuples p p2 hu0 he
   have e1:its.toArray.size=l1.length:=by rw [List.size_toArray,← rv.length,q1.length]
   have e2:its2.toArray.size=l2.length:=by rw [List.size_toArray,← rv2.length,q2.length]
   rw [e1,e2] at z
   rw [hb]
   exact z
  | lst l2=>simp [eqD] at e;subst e;obtain ⟨a2,vs2,rfl,f2,_⟩:=h2.lst_inv;cases r2;obtain ⟨its2,_,p2⟩:=Inv.lstAt I f2;exact SeqAt.RcNeAt.tuple_list p p2 hu0
  | _=>simp [eqD] at e
 | lst l1=>
  obtain ⟨a,vs,rfl,f1,q1⟩:=h1.lst_inv
  cases r1
  obtain ⟨its,rv,p⟩:=Inv.lstAt I f1
  cases d2 with
  | non=>simp [eqD] at e;subst e;rw [h2.non_inv] at r2;cases r2;exact SeqAt.RcNeAt.list_none p hu0
  | str x=>simp [eqD] at e;subst e;rw [h2.str_inv] at r2;obtain ⟨t,rfl⟩:=r2;exact SeqAt.RcNeAt.list_str x t p hu0
  | tup l2=>simp [eqD] at e;subst e;obtain ⟨a2,vs2,rfl,f2,_⟩:=h2.tup_inv;cases r2;obtain ⟨its2,_,p2⟩:=Inv.tupAt I (sub _ _ f2);exact SeqAt.RcNeAt.list_tuple p p2 hu0
  | lst l2=>
   obtain ⟨a2,vs2,rfl,f2,q2⟩:=h2.lst_inv
   cases r2
   obtain ⟨its2,rv2,p2⟩:=Inv.lstAt I f2
   simp only [eqD] at e
   obtain ⟨hp,hb⟩:=zbD e
   simp only [dep] at hn
   have he:∀ (j:Nat) (h1:j < its.toArray.size) (h2:j < its2.toArray.size),SeqAt.EqAt X.A.in1 s its.toArray[j] its2.toArray[j] (eAt l1 l2 j):=fun j k1 k2=>by
    obtain ⟨x,v,hx,_,dx,rx⟩:=zaS q1 rv k1
    obtain ⟨y,w,hy,_,dy,ry⟩:=zaS q2 rv2 k2
    have:=zbY (List.mem_of_getElem? hx)
    exact zfv I sub (n - 1) x y _ v w _ _ X.A.in1 (by omega) (hp j x y hx hy) dx dy rx ry hin
   have e1:its.toArray.size=l1.length:=by rw [List.size_toArray,← rv.length,q1.length]
   have e2:its2.toArray.size=l2.length:=by rw [List.size_toArray,← rv2.length,q2.length]
   by_cases hsz:l1.length=l2.length
   ·have z:=SeqAt.RcNeAt.lists p p2 (by rw [e1,e2,hsz]) hu0 he
    rw [e1] at z
    rw [hb,hsz,Nat.min_self,beq_self_eq_true,Bool.and_true,← hsz]
    exact z
   ·have z:=SeqAt.RcNeAt.lists_lengths p p2 (by rw [e1,e2];simpa using hsz) hu0
    have hb0:b=false:=by
     rw [hb]
     have:(l1.length == l2.length)=false:=by simpa using hsz
     rw [this,Bool.and_false]
    rw [hb0]
    exact z
  | _=>simp [eqD] at e
 | _=>simp [eqD] at e
end
noncomputable def eqB (x y:D):Option D:=if dep x≤100 then (eqD x y).map D.bl else none
noncomputable def neB (x y:D):Option D:=if dep x≤100 then (eqD x y).map fun b=>D.bl (!b) else none
noncomputable def rEqD (K:PySem.W.Frag) (f:Bool→Bool):R2:=fun x y H Q=>∃ F d1 d2 b,Same F H∧DatB K F H d1 x∧DatB K F H d2 y∧dep d1≤100∧eqD d1 d2=some b∧Q (.bl (f b)) H
section
variable {K:PySem.W.Frag}{X:Cx}
theorem zlt (hu:X.A.units + 100 < cLine):OpR X (compareOp .Eq) (rEqD K id):=by
 intro pins s σ H x y v u Q I rx ry h
 obtain ⟨F,d1,d2,b,sub,h1,h2,hn,e,q⟩:=h
 exact zlV I sub d1 d2 b x y v u 100 hn e h1 h2 rx ry hu _ _ _ _ ⟨.bl b,H,I,rfl,q⟩
theorem zlp (hu:X.A.units + 100 < cLine):OpR X (compareOp .NotEq) (rEqD K not):=by
 intro pins s σ H x y v u Q I rx ry h
 obtain ⟨F,d1,d2,b,sub,h1,h2,hn,e,q⟩:=h
 exact zjr I sub d1 d2 b x y v u 100 hn e h1 h2 rx ry hu _ _ _ _ ⟨.bl (!b),H,I,rfl,q⟩
theorem p_eq (hu:X.A.units + 100 < cLine):Op2 K X (compareOp .Eq) .fz eqB:=by
 refine ⟨_,zlt (K:=K) hu,fun x y d F H v u Q e s h1 h2 k=>?_⟩
 unfold eqB at e
 by_cases hc:dep x≤100
 ·rw [if_pos hc] at e
  cases e1:eqD x y with
  | none=>rw [e1] at e;cases e
  | some b=>
   rw [e1] at e;cases e
   exact ⟨F,x,y,b,s,h1,h2,hc,e1,k _ F H (Grow.refl s) (Res.bl b)⟩
 ·rw [if_neg hc] at e;cases e
theorem p_ne (hu:X.A.units + 100 < cLine):Op2 K X (compareOp .NotEq) .fz neB:=by
 refine ⟨_,zlp (K:=K) hu,fun x y d F H v u Q e s h1 h2 k=>?_⟩
 unfold neB at e
 by_cases hc:dep x≤100
 ·rw [if_pos hc] at e
  cases e1:eqD x y with
  | none=>rw [e1] at e;cases e
  | some b=>
   rw [e1] at e;cases e
   exact ⟨F,x,y,b,s,h1,h2,hc,e1,k _ F H (Grow.refl s) (Res.bl _)⟩
 ·rw [if_neg hc] at e;cases e
end
end FL
set_option Elab.async false
set_option linter.all false
set_option maxRecDepth 100000
namespace FL
open PySem PySem.Spec PyProof.Rows L2
noncomputable def inL (x:D):List D→Option Bool
 | []=>some false
 | d::l=>(eqD d x).bind fun b=>(inL x l).map fun c=>b || c
theorem zgx {x:D}:∀ {l:List D}{b:Bool},inL x l=some b→(∀ d∈l,∃ c,eqD d x=some c)∧b=l.any fun d=>(eqD d x).getD false
 | [],b,h=>by simp [inL] at h;subst h;simp
 | d::l,b,h=>by
  simp only [inL] at h
  cases e1:eqD d x with
  | none=>rw [e1] at h;cases h
  | some c=>
   cases e2:inL x l with
   | none=>rw [e1,e2] at h;cases h
   | some c2=>
    rw [e1,e2] at h
    have hb:(c || c2)=b:=by simpa using h
    obtain ⟨h1,h2⟩:=zgx e2
    refine ⟨fun y hy=>?_,?_⟩
    ·rcases List.mem_cons.mp hy with rfl | hy
     ·exact ⟨c,e1⟩
     ·exact h1 y hy
    ·rw [← hb,h2,List.any_cons,e1];rfl
theorem ziq {α β:Type}{e:α→Bool} {g:β→Bool}:∀ {xs:List α}{ys:List β},xs.length=ys.length→(∀ (k:Nat) x y,xs[k]?=some x→ys[k]?=some y→e x=g y)→xs.any e=ys.any g
 | [],[],_,_=>rfl
 | [],_::_,h,_=>by simp at h
 | _::_,[],h,_=>by simp at h
 | x::xs,y::ys,h,k=>by
  rw [List.any_cons,List.any_cons,k 0 x y rfl rfl,ziq (xs:=xs) (ys:=ys) (by simpa using h) fun j a b ha hb=>k (j + 1) a b (by simpa using ha) (by simpa using hb)]
section
variable {X:Cx}{pins:List (Addr×Obj)} {σ:St}{H F:Hp} {s:Shared}{K:PySem.W.Frag}
theorem zlB (I:Inv X pins σ H s) (sub:Same F H) {l:List D}{vs:List V} {its:List Value}{x:D} {v:V}{u:Value} {b:Bool}(q:DatL K F l vs) (r:Vals vs its) (hx:Dat K F x v) (ru:RelV v u) (hd:depL l≤100) (e:inL x l=some b) (hu:X.A.in1.units + 100 < cLine) :
  ∃ f:Value→Bool,(∀ y,y∈its.toArray→SeqAt.EqAt X.A.in1 s y u (f y))∧its.toArray.any f=b:=by
 obtain ⟨h1,h2⟩:=zgx e
 have hl:its.length=l.length:=by rw [← r.length,q.length]
 have at_:∀ (k:Nat) (y:Value),its[k]?=some y→∃ d w,l[k]?=some d∧Dat K F d w∧RelV w y:=fun k y hk=>by
  have hk':k < its.toArray.size:=by simpa using (List.getElem?_eq_some_iff.mp hk).1
  obtain ⟨d,w,e1,_,e3,e4⟩:=zaS q r hk'
  refine ⟨d,w,e1,e3,?_⟩
  have:its.toArray[k]=y:=by
   rw [List.getElem?_eq_getElem (by simpa using hk')] at hk
   simpa using Option.some.inj hk
  rw [← this];exact e4
 refine ⟨fun y=>match (its.zip l).find? (fun p=>p.1 == y) with
  | some p=>(eqD p.2 x).getD false
  | none=>false,fun y hy=>?_,?_⟩
 ·have hy':y∈its:=by simpa using hy
  obtain ⟨k,hk⟩:=List.mem_iff_getElem?.mp hy'
  cases f:(its.zip l).find? (fun p=>p.1 == y) with
  | none=>
   exfalso
   have hk2:k < its.length:=(List.getElem?_eq_some_iff.mp hk).1
   have:=List.find?_eq_none.mp f (its[k],l[k]'(by omega)) (by
    have:(its.zip l)[k]?=some (its[k],l[k]'(by omega)):=by simp [List.getElem?_zip_eq_some,hk2]
    exact List.mem_of_getElem? this)
   rw [List.getElem?_eq_getElem hk2] at hk
   have e0:=Option.some.inj hk
   simp [e0] at this
  | some p=>
   have hp:=List.find?_some f
   have hm:=List.mem_of_find?_eq_some f
   obtain ⟨j,hj⟩:=List.mem_iff_getElem?.mp hm
   obtain ⟨j1,j2⟩:=List.getElem?_zip_eq_some.mp hj
   have e1:p.1=y:=by simpa using hp
   obtain ⟨d,w,e2,e3,e4⟩:=at_ j p.1 j1
   rw [j2] at e2;cases e2
   obtain ⟨c,hc⟩:=h1 p.2 (List.mem_of_getElem? j2)
   have:=zbY (List.mem_of_getElem? j2)
   simp only [f,hc,Option.getD_some]
   exact zfv I sub 100 p.2 x c w v y u X.A.in1 (by omega) hc e3 hx (e1 ▸ e4) ru hu
 ·rw [h2,List.any_toArray]
  refine ziq hl fun k y d hk hd'=>?_
  cases f:(its.zip l).find? (fun p=>p.1 == y) with
  | none=>
   exfalso
   have:=List.find?_eq_none.mp f (y,d) (List.mem_of_getElem? (i:=k) (List.getElem?_zip_eq_some.mpr ⟨hk,hd'⟩))
   simp at this
  | some p=>
   have hp:=List.find?_some f
   have hm:=List.mem_of_find?_eq_some f
   obtain ⟨j,hj⟩:=List.mem_iff_getElem?.mp hm
   obtain ⟨j1,j2⟩:=List.getElem?_zip_eq_some.mp hj
   have e1:p.1=y:=by simpa using hp
   obtain ⟨d1,w1,e2,e3,e4⟩:=at_ j p.1 j1
   rw [j2] at e2;cases e2
   obtain ⟨d2,w2,f2,f3,f4⟩:=at_ k y hk
   rw [hd'] at f2;cases f2
   obtain ⟨c1,hc1⟩:=h1 p.2 (List.mem_of_getElem? j2)
   obtain ⟨c2,hc2⟩:=h1 d (List.mem_of_getElem? hd')
   rw [e1] at e4
   have ew:=e4.inj f4
   subst ew
   simp only [f,hc1,hc2,Option.getD_some]
   exact zlQ _ p.2 d x c1 c2 w1 (Nat.le_refl _) e3 f3 hc1 hc2
end
noncomputable def inB (x y:D):Option D:=match y with
 | .lst l=>if depL l≤100 then (inL x l).map D.bl else none
 | .tup l=>if depL l≤100 then (inL x l).map D.bl else none
 | _=>none
noncomputable def zbF (x y:D):Option D:=match y with
 | .lst l=>if depL l≤100 then (inL x l).map fun b=>D.bl (!b) else none
 | .tup l=>if depL l≤100 then (inL x l).map fun b=>D.bl (!b) else none
 | _=>none
noncomputable def rInD (K:PySem.W.Frag) (f:Bool→Bool):R2:=fun x y H Q=>∃ F d l b a vs,Same F H∧Dat K F d x∧y=.ref a∧(H a=some (.lst vs)∨H a=some (.tup vs))∧DatL K F l vs∧depL l≤100∧inL d l=some b∧Q (.bl (f b)) H
section
variable {K:PySem.W.Frag}{X:Cx}
theorem zhG (hu:X.A.units + 101 < cLine):OpR X (compareOp .NotIn) (rInD K not):=by
 intro pins s σ H x y v u Q I rx ry h
 obtain ⟨F,d,l,b,a,vs,sub,h1,rfl,ho,q,hd,e,k⟩:=h
 cases ry
 have hu':X.A.in1.units + 100 < cLine:=by have:=zcQ X.A;omega
 rcases ho with ho | ho
 ·obtain ⟨its,r,p⟩:=Inv.lstAt I ho
  obtain ⟨f,h3,h4⟩:=zlB I sub q r h1 rx hd e hu'
  exact SeqAt.notIn_listAt f p h3 (by rw [h4];exact ⟨.bl (!b),H,I,rfl,k⟩)
 ·obtain ⟨its,r,p⟩:=Inv.tupAt I ho
  obtain ⟨f,h3,h4⟩:=zlB I sub q r h1 rx hd e hu'
  exact SeqAt.notIn_tupleAt f p h3 (by rw [h4];exact ⟨.bl (!b),H,I,rfl,k⟩)
end
noncomputable def Op2f (K:PySem.W.Frag) (X:Cx) (f:Value→Value→Sem Value) (p:D→D→Option D):Prop:=
 ∃ r:R2,OpR X f r∧∀ x y d F H v u Q,p x y=some d→Same F H→Dat K F x v→DatB K F H y u→(∀ w F' H',Grow F H F' H'→Res K .fz H F' H' d w→Q w H')→r v u H Q
section
variable {K:PySem.W.Frag}{X:Cx} {a b:Expr}{fa fb:En→Option D} {pos:Pos}{p:D→D→Option D}
theorem zmw {f:Value→Value→Sem Value}{n:Bool→Bool} {p:D→D→Option D}(o:OpR X f (rInD K n)) (h:∀ x y d,p x y=some d→∃ l b,(y=.lst l∨y=.tup l)∧depL l≤100∧inL x l=some b∧d=.bl (n b)):Op2f K X f p:=by
 refine ⟨_,o,fun x y d F H v u Q e s h1 h2 k=>?_⟩
 obtain ⟨l,b,hy,hd,e1,rfl⟩:=h x y d e
 rcases hy with rfl | rfl
 ·obtain ⟨a,vs,rfl,f,q⟩:=h2.lst_inv
  exact ⟨F,x,l,b,a,vs,s,h1,rfl,.inl f,q,hd,e1,k _ F H (Grow.refl s) (Res.bl _)⟩
 ·obtain ⟨a,vs,rfl,f,q⟩:=h2.tup_inv
  exact ⟨F,x,l,b,a,vs,s,h1,rfl,.inr (s _ _ f),q,hd,e1,k _ F H (Grow.refl s) (Res.bl _)⟩
theorem zhC (hu:X.A.units + 101 < cLine):Op2f K X (compareOp .NotIn) zbF:=zmw (zhG hu) fun x y d e=>by
 unfold zbF at e
 split at e
 ·split at e
  ·rename_i l hd
   cases e1:inL x l with
   | none=>rw [e1] at e;cases e
   | some b=>rw [e1] at e;cases e;exact ⟨l,b,.inl rfl,hd,e1,rfl⟩
  ·cases e
 ·split at e
  ·rename_i l hd
   cases e1:inL x l with
   | none=>rw [e1] at e;cases e
   | some b=>rw [e1] at e;cases e;exact ⟨l,b,.inr rfl,hd,e1,rfl⟩
  ·cases e
 ·cases e
theorem zmb {ρ:En}{x y d:D} {r:R2}(ha:PE X a (rdE K .fz ρ x)) (hb:PE X b (rdE K .br ρ y))
  (hr:∀ F H v u Q,Same F H→Dat K F x v→DatB K F H y u→(∀ w F' H',Grow F H F' H'→Res K .fz H F' H' d w→Q w H')→r v u H Q)
  (σ:St) (H:Hp) (Q:VK) (h:rdE K .fz ρ d σ H Q):tOp r (rdE K .fz ρ x) (rdE K .br ρ y) σ H Q:=by
 obtain ⟨F,rl,q⟩:=h
 refine ⟨F,rl,fun v F1 H1 g1 r1=>⟨F1,rl.grow g1,fun u F2 H2 g2 r2=>?_⟩⟩
 refine hr F2 H2 v u Q g2.fh (Dat.mono g2.ff r1) r2 fun w F3 H3 g3 r3=>?_
 exact q w F3 H3 (g1.trans (g2.trans g3)) r3
end
end FL
set_option Elab.async false
set_option linter.all false
set_option maxRecDepth 100000
namespace HT
open PySem PySem.Spec PyProof.Rows
section
variable {prog:Program}{w:World} {A:Around}{E:Value→Shared→Prop} {s:Shared}
theorem getItem_tuple_whole {t sl:Addr}{items:Array Value} {vl vu:Value}{lo hi:Option Int} {Q:Value→Shared→Prop}(ht:IsTup s.heap t items) (hs:s.heap.IsSliceOf sl vl vu .none) (pl:IsPart vl lo) (pu:IsPart vu hi)
  (hw:sIx items.size 0 lo=0∧sIx items.size items.size hi=items.size)
  (h:Q (.ref t) s):wpAny (model prog w) A (getItem (.ref t) (.ref sl)) Q E s:=by
 obtain ⟨os,hos,hcs,hds⟩:=id hs
 have hTs:s.TypeIs (.ref sl) "slice" := ⟨os,hos,hcs⟩
 unfold getItem
 try with_reducible refine wpAny_holding ?_
 first | refine wpAny_bind (wpAny_pure ?_) | skip
 refine wpAny_bind (wpAny_sequenceKey ht.typeIs (by decide) ?_)
 refine wpAny_bind (wpAny_callSpecial?_slot (name:=Str.ofString "__getitem__") ht.typeIs PyProof.Rows.slot_tuple_getitem
  (wpAny_call_entry PyProof.Rows.slot_tuple_getitem ht.typeIs entry_tuple_getitem ?_ (args_tuple_getitem _ _)))
 show wpAny _ _ (Builtin.Tuple.tupleItemsOf (.ref t) >>= _) _ _ s
 refine wpAny_bind (tupleItemsOf_ ht ?_)
 refine wpAny_bind (wpAny_typeOf hTs ?_)
 rw [if_pos (by decide)]
 refine wpAny_bind (zbE hs pl pu ?_)
 have hyes:(((sIx items.size 0 lo:Nat):Int) == 0 && (1:Int) == 1 && (sIx items.size items.size hi - sIx items.size 0 lo) == items.size)=true:=by
  rw [hw.1,hw.2];simp
 show wpAny _ _ (if (((sIx items.size 0 lo:Nat):Int) == 0 && (1:Int) == 1 && (sIx items.size items.size hi - sIx items.size 0 lo) == items.size)=true then _ else _) _ _ s
 rw [if_pos hyes]
 unfold Builtin.Tuple.tupleIsExact
 refine wpAny_bind (wpAny_bind (wpAny_typeOf ht.typeIs (wpAny_pure ?_)))
 rw [if_pos (by decide)]
 refine wpAny_bind (wpAny_rule ?_)
 exact wpAny_pure ⟨_,rfl,wpAny_pure h⟩
end
end HT
namespace L2
open PySem PySem.Spec PyProof.Rows
section
variable {X:Cx}{K:PySem.W.Frag}
noncomputable def zmk (K:PySem.W.Frag):V→Option Int→Option Int→Hp→VK→Prop:=fun x lo hi H Q=>∃ a xs,x=.ref a∧SqT K H a xs∧
 ((HT.sIx xs.length 0 lo=0∧HT.sIx xs.length xs.length hi=xs.length)→Q (.ref a) H)∧∀ p,H p=none→Q (.ref p) (upd H p (.tup (cutV xs lo hi)))
theorem zjK:SlR X (fun x lo hi H Q=>∃ a xs,x=.ref a∧SqT X.K H a xs∧(HT.sIx xs.length 0 lo=0∧HT.sIx xs.length xs.length hi=xs.length)∧Q (.ref a) H):=by
 intro pins s σ H x v vl vu lo hi sl Q I rx hs pl pu h
 obtain ⟨a,xs,rfl,hx,hw,q⟩:=h
 cases rx
 obtain ⟨its,r,ht,hz⟩:=I.tuple hx
 have hlen:its.toArray.size=xs.length:=by rw [List.size_toArray];exact r.length.symm
 refine ⟨"tuple",_,PyProof.Rows.slot_tuple_getitem.lookup,ht.typeIs,?_⟩
 exact HT.getItem_tuple_whole ht hs pl pu (by rw [hlen];exact hw) ⟨.ref a,H,I,rfl,q⟩
theorem zjL (hK:X.K=K:=by rfl):SlR X (zmk K):=by
 subst hK
 intro pins s σ H x v vl vu lo hi sl Q I rx hs pl pu h
 obtain ⟨a,xs,rfl,hx,h1,h2⟩:=h
 by_cases hw:HT.sIx xs.length 0 lo=0∧HT.sIx xs.length xs.length hi=xs.length
 ·exact zjK pins s σ H _ v vl vu lo hi sl Q I rx hs pl pu ⟨a,xs,rfl,hx,hw,h1 hw⟩
 ·exact zkO pins s σ H _ v vl vu lo hi sl Q I rx hs pl pu ⟨a,xs,rfl,hx,hw,h2⟩
end
end L2
set_option Elab.async false
set_option linter.all false
set_option maxRecDepth 100000
namespace FL
open PySem PySem.Spec PyProof.Rows L2
noncomputable def cmpI (f:Int→Int→Bool):D→D→Option D
 | .int a,.int b=>some (.bl (f a b))
 | _,_=>none
noncomputable abbrev ltD:=cmpI fun i j=>decide (i < j)
noncomputable abbrev leD:=cmpI fun i j=>decide (i≤j)
noncomputable abbrev gtD:=cmpI fun i j=>decide (j < i)
noncomputable def zaL:List D→Option (List Int)
 | []=>some []
 | .int i::l=>(zaL l).map (i::·)
 | _::_=>none
theorem zdP:∀ {l:List D}{ns:List Int},zaL l=some ns→l=ns.map D.int
 | [],ns,h=>by simp [zaL] at h;subst h;rfl
 | .int i::l,ns,h=>by
  simp only [zaL] at h
  cases e:zaL l with
  | none=>rw [e] at h;cases h
  | some ms=>rw [e] at h;cases h;rw [zdP e];rfl
 | .non::_,_,h=>by simp [zaL] at h
 | .bl _::_,_,h=>by simp [zaL] at h
 | .str _::_,_,h=>by simp [zaL] at h
 | .tup _::_,_,h=>by simp [zaL] at h
 | .lst _::_,_,h=>by simp [zaL] at h
 | .scr _::_,_,h=>by simp [zaL] at h
 | .dic _ _::_,_,h=>by simp [zaL] at h
 | .set _::_,_,h=>by simp [zaL] at h
 | .exc _ _::_,_,h=>by simp [zaL] at h
theorem zel:∀ (ns:List Int),zaL (ns.map D.int)=some ns
 | []=>rfl
 | n::ns=>by rw [List.map_cons,zaL,zel ns];rfl
noncomputable def geD:D→D→Option D
 | .int a,.int b=>some (.bl (decide (b≤a)))
 | .tup a,.tup b=>(zaL a).bind fun ns=>(zaL b).map fun ms=>.bl (!HT.lexLt ns ms)
 | _,_=>none
noncomputable def isNon:D→Bool
 | .non=>true
 | _=>false
noncomputable def isB (x y:D):Option D:=match y with
 | .non=>some (.bl (isNon x))
 | _=>none
noncomputable def zdn (x y:D):Option D:=match y with
 | .non=>some (.bl (!isNon x))
 | _=>none
section
variable {K:PySem.W.Frag}{X:Cx}
theorem zhE {f:Value→Value→Sem Value}{g:Int→Int→Bool} (o:OpR X f (rI0 fun i j=>.bl (g i j))):Op2 K X f .fz (cmpI g):=by
 refine ⟨_,o,fun x y d F H v u Q e s h1 h2 k=>?_⟩
 unfold cmpI at e
 split at e
 ·cases e
  exact ⟨_,_,h1.int_inv,h2.int_inv,k _ F H (Grow.refl s) (Res.bl _)⟩
 ·cases e
theorem p_lt:Op2 K X (compareOp .Lt) .fz ltD:=zhE zmx
theorem p_le:Op2 K X (compareOp .LtE) .fz leD:=zhE zmy
theorem p_gt:Op2 K X (compareOp .Gt) .fz gtD:=zhE zmz
theorem DatB.isNon {F H:Hp}{d:D} {v:V}(h:DatB K F H d v):decide (v=.non)=FL.isNon d:=by
 cases d with
 | non=>rw [h.non_inv];rfl
 | bl b=>rw [h.bl_inv];rfl
 | int b=>rw [h.int_inv];rfl
 | str b=>rw [h.str_inv];rfl
 | tup l=>obtain ⟨a,vs,rfl,_⟩:=h.tup_inv;rfl
 | lst l=>obtain ⟨a,vs,rfl,_⟩:=h.lst_inv;rfl
 | scr l=>obtain ⟨a,rfl,_⟩:=h.scr_inv;rfl
 | dic k l=>obtain ⟨a,vs,rfl,_⟩:=h.dic_inv;rfl
 | set l=>obtain ⟨a,rfl,_⟩:=h;rfl
 | exc c d=>obtain ⟨a,_,_,_,rfl,_⟩:=h.exc_inv;rfl
theorem DatL.atI {F:Hp}{l:List D} {vs:List V}(q:DatL K F l vs) {i:Int}{d:D} (h:L2.atI l i=some d):∃ v,L2.atI vs i=some v∧Dat K F d v:=by
 unfold L2.atI at h ⊢
 rw [q.length]
 cases e:ixN l.length i with
 | none=>rw [e] at h;cases h
 | some j=>
  rw [e] at h
  exact q.get h
noncomputable def idxD:D→D→Option D
 | .lst l,.int i=>L2.atI l i
 | .tup l,.int i=>L2.atI l i
 | .scr l,.int i=>(L2.atI l i).map D.int
 | .str z,.int i=>if z.length≤lim then (L2.atI z.cps.toList i).map fun c=>.str ⟨#[c]⟩ else none
 | _,_=>none
theorem p_ix (hK:X.K=K:=by rfl):Ix2 K X .fz idxD:=by
 subst hK
 refine ⟨_,zkp.or (zlK.or zlL),fun x y d F H v u Q e s h1 h2 k=>?_⟩
 unfold idxD at e
 split at e
 ·obtain ⟨a,vs,rfl,f,q⟩:=h1.lst_inv
  obtain ⟨w,hw,dw⟩:=q.atI e
  exact .inl ⟨a,vs,_,w,rfl,h2.int_inv,SqL.of f,hw,k _ F H (Grow.refl s) dw⟩
 ·obtain ⟨a,vs,rfl,f,q⟩:=h1.tup_inv
  obtain ⟨w,hw,dw⟩:=q.atI e
  exact .inr (.inl ⟨a,vs,_,w,rfl,h2.int_inv,SqT.of (s _ _ f),hw,k _ F H (Grow.refl s) dw⟩)
 ·rename_i ns i
  obtain ⟨a,rfl,f⟩:=h1.scr_inv
  cases e1:L2.atI ns i with
  | none=>rw [e1] at e;cases e
  | some c=>
   rw [e1] at e;cases e
   refine .inl ⟨a,_,i,.int c,rfl,h2.int_inv,Same.seq s f,?_,k _ F H (Grow.refl s) (Res.int _)⟩
   unfold L2.atI at e1 ⊢
   rw [List.length_map]
   cases e2:ixN ns.length i with
   | none=>rw [e2] at e1;cases e1
   | some j=>
    rw [e2] at e1
    have e1':ns[j]?=some c:=e1
    show (ns.map V.int)[j]?=_
    rw [List.getElem?_map,e1'];rfl
 ·obtain ⟨hz,e⟩:_∧_:=by
   split at e
   ·rename_i hz;exact ⟨hz,e⟩
   ·cases e
  rename_i z i _
  cases e1:L2.atI z.cps.toList i with
  | none=>rw [e1] at e;cases e
  | some c=>
   rw [e1] at e;cases e
   exact .inr (.inr ⟨z,i,c,h1.str_inv,h2.int_inv,zbV hz,e1,k _ F H (Grow.refl s) (Res.str _)⟩)
 ·cases e
end
noncomputable def cutG {α:Type}(xs:List α) (lo hi:Option Int):List α:=(xs.drop (HT.sIx xs.length 0 lo)).take (HT.sIx xs.length xs.length hi - HT.sIx xs.length 0 lo)
theorem DatL.cut {K:PySem.W.Frag}{F:Hp} {l:List D}{vs:List V} (q:DatL K F l vs) (lo hi:Option Int):DatL K F (cutG l lo hi) (cutV vs lo hi):=by
 unfold cutG cutV
 rw [q.length]
 exact (q.drop _).take _
noncomputable def zaO (x:D) (lo hi:Option Int):Option D:=match x with
 | .tup l=>some (.tup (cutG l lo hi))
 | .lst l=>some (.lst (cutG l lo hi))
 | .scr l=>some (.lst ((cutG l lo hi).map D.int))
 | .str z=>if z.length≤lim then some (.str (Txt.slice z lo hi)) else none
 | _=>none
noncomputable def zdh (x:D) (lo hi:Option Int):Option D:=match x with
 | .lst l=>some (.lst (cutG l lo hi))
 | .scr l=>some (.lst ((cutG l lo hi).map D.int))
 | _=>none
theorem zky {α β:Type}(f:α→β) (l:List α) (lo hi:Option Int):cutG (l.map f) lo hi=(cutG l lo hi).map f:=by
 unfold cutG
 rw [List.length_map,List.map_take,List.map_drop]
theorem zjk (l:List Int) (lo hi:Option Int):cutV (l.map V.int) lo hi=(cutG l lo hi).map V.int:=zky _ _ _ _
noncomputable def rdO (K:PySem.W.Frag) (ρ:En) (o:Option Int):TO:=fun σ H Q=>∃ F,Rel K F H ρ σ∧∀ F' H',Grow F H F' H'→Q o H'
structure FPO (K:PySem.W.Frag) (X:Cx) (e:Option Expr) (f:En→Option (Option Int)):Prop where
 h:∀ ρ o,f ρ=some o→PO X e (rdO K ρ o)
theorem PO.imp {X:Cx}{e:Option Expr} {t t':TO}(h:PO X e t) (w:∀ σ H Q,t' σ H Q→t σ H Q):PO X e t':=fun pins s σ H Q I ht=>h pins s σ H Q I (w σ H Q ht)
noncomputable def zbI:En→Option (Option Int):=fun _=>some none
noncomputable def zbo (f:En→Option D):En→Option (Option Int):=fun ρ=>match f ρ with
 | some (.int i)=>some (some i)
 | _=>none
noncomputable def cS (p:D→Option Int→Option Int→Option D) (fa:En→Option D) (fl fh:En→Option (Option Int)):En→Option D:=fun ρ=>(fa ρ).bind fun x=>(fl ρ).bind fun lo=>(fh ρ).bind fun hi=>p x lo hi
section
variable {K:PySem.W.Frag}{X:Cx} {a:Expr}{fa:En→Option D} {pos p2:Pos}{lo hi:Option Expr} {fl fh:En→Option (Option Int)}
theorem zcN:FPO K X none zbI:=FPO.mk fun ρ o hf=>PO.imp zjV fun σ H Q ⟨F,r,q⟩=>by
 cases hf;exact q F H (Grow.refl r.sub)
theorem zbR {e:Expr}{f:En→Option D} (h:FP K .fz X e f):FPO K X (some e) (zbo f):=FPO.mk fun ρ o hf=>by
 unfold zbo at hf
 split at hf
 ·rename_i i e1
  cases hf
  exact PO.imp (zjU (h.h ρ _ e1)) fun σ H Q ⟨F,r,q⟩=>⟨F,r,fun v F' H' g hr=>⟨i,Dat.int_inv (K:=K) (F:=F') hr,q F' H' g⟩⟩
 ·cases hf
noncomputable def Sl3 (K:PySem.W.Frag) (X:Cx) (md:Md) (p:D→Option Int→Option Int→Option D):Prop:=
 ∃ r,SlR X r∧∀ x lo hi d F H v Q,p x lo hi=some d→Same F H→DatB K F H x v→(∀ w F' H',Grow F H F' H'→Res K md H F' H' d w→Q w H')→r v lo hi H Q
theorem zcu {md:Md}{p:D→Option Int→Option Int→Option D} (o:Sl3 K X md p) (ha:FP K .br X a fa) (hl:FPO K X lo fl) (hh:FPO K X hi fh):FP K md X (.Subscript a (.Slice lo hi none p2) pos) (cS p fa fl fh):=FP.mk fun ρ d hf=>by
 unfold cS at hf
 cases e1:fa ρ with
 | none=>rw [e1] at hf;cases hf
 | some x=>
  cases e2:fl ρ with
  | none=>rw [e1,e2] at hf;cases hf
  | some l=>
   cases e3:fh ρ with
   | none=>rw [e1,e2,e3] at hf;cases hf
   | some h=>
    rw [e1,e2,e3] at hf
    obtain ⟨r,ho,hr⟩:=o
    refine PE.imp (ziH ho (ha.h ρ x e1) (hl.h ρ l e2) (hh.h ρ h e3)) fun σ H Q h_=>?_
    obtain ⟨F,rl,q⟩:=h_
    refine ⟨F,rl,fun v F1 H1 g1 r1=>⟨F1,rl.grow g1,fun F2 H2 g2=>⟨F2,(rl.grow g1).grow g2,fun F3 H3 g3=>?_⟩⟩⟩
    refine hr x l h d F3 H3 v Q hf g3.fh (DatB.mono (g2.trans g3).ff (g2.trans g3).hh r1) fun w F4 H4 g4 r4=>?_
    have g:=g1.trans (g2.trans (g3.trans g4))
    refine q w F4 H4 g ?_
    cases md with
    | fz=>exact r4
    | br=>exact r4
    | ow=>
     obtain ⟨a,e,h1,h2,h3⟩:=r4
     exact ⟨a,e,(g1.hh.trans (g2.hh.trans g3.hh)).free h1,h2,h3⟩
theorem zbn (hK:X.K=K:=by rfl):Sl3 K X .fz zaO:=by
 subst hK
 refine ⟨_,SlR.or (zjL rfl) (SlR.or zjM zkP),fun x lo hi d F H v Q e s h1 k=>?_⟩
 cases x<;>simp only [zaO] at e<;>try (cases e;done)
 ·obtain ⟨hz,rfl⟩:=zau e
  exact .inr (.inr ⟨_,h1.str_inv,zbV hz,fun y _ ey=>by subst ey;exact k _ F H (Grow.refl s) (Res.str _)⟩)
 ·rename_i l
  cases e
  obtain ⟨a,vs,rfl,f,q⟩:=h1.tup_inv
  refine .inl ⟨a,vs,rfl,SqT.of (s _ _ f),fun hw=>?_,fun p hp=>?_⟩
  ·refine k _ F H (Grow.refl s) ?_
   have e:cutG l lo hi=l:=by
    unfold cutG
    rw [q.length] at hw
    rw [hw.1,hw.2,List.drop_zero,Nat.sub_zero,List.take_length]
   rw [e];exact h1
  ·have g:=Grow.frozen (o:=.tup (cutV vs lo hi)) s hp
   exact k _ _ _ g (Dat.tup (K:=X.K) zam ((q.mono g.ff).cut lo hi))
 ·cases e
  obtain ⟨a,vs,rfl,f,q⟩:=h1.lst_inv
  refine .inr (.inl ⟨a,vs,rfl,SqL.of f,fun p hp=>?_⟩)
  have g:=Grow.frozen (o:=.lst (cutV vs lo hi)) s hp
  exact k _ _ _ g (Dat.lst (K:=X.K) zam ((q.mono g.ff).cut lo hi))
 ·rename_i ns
  cases e
  obtain ⟨a,rfl,f⟩:=h1.scr_inv
  refine .inr (.inl ⟨a,_,rfl,Same.seq s f,fun p hp=>?_⟩)
  rw [zjk]
  have g:=Grow.frozen (o:=.lst ((cutG ns lo hi).map V.int)) s hp
  exact k _ _ _ g (Dat.lst (K:=X.K) zam (DatL.ofInts _))
noncomputable def revD:D→Option D
 | .lst l=>some (.lst l.reverse)
 | _=>none
noncomputable def revX (x y:D):Option D:=match y with
 | .int (-1)=>revD x
 | _=>none
theorem frev {st:Expr}{fs:En→Option D} (ha:FP K .br X a fa) (hs:FP K .fz X st fs) (hK:X.K=K:=by rfl):FP K .ow X (.Subscript a (.Slice none none (some st) p2) pos) (c2 revX fa fs):=FP.mk fun ρ d hf=>by
 subst hK
 obtain ⟨x,y,e1,e2,e3⟩:=zch hf
 unfold revX at e3
 split at e3
 ·cases x<;>simp only [revD] at e3<;>try (cases e3;done)
  cases e3
  refine PE.imp (zlg (ha.h ρ _ e1) (hs.h ρ _ e2)) fun σ H Q h_=>?_
  obtain ⟨F,rl,q⟩:=h_
  refine ⟨F,rl,fun v F1 H1 g1 r1=>⟨F1,rl.grow g1,fun u F2 H2 g2 r2=>⟨Dat.int_inv (K:=X.K) (F:=F2) r2,?_⟩⟩⟩
  obtain ⟨a,vs,rfl,f,qq⟩:=DatB.lst_inv (DatB.mono g2.ff g2.hh r1)
  refine ⟨a,vs,rfl,SqL.of f,fun p hp=>?_⟩
  have g:=g1.trans (g2.trans (Grow.fresh (o:=.lst vs.reverse) g2.fh hp))
  exact q _ _ _ g ⟨p,rfl,(g1.hh.trans g2.hh).free hp,g2.fh.free hp,vs.reverse,zam,qq.reverse⟩
 ·cases e3
end
noncomputable def zhf (K:PySem.W.Frag) (F H:Hp):List D→List V→Prop
 | [],vs=>vs=[]
 | d::l,vs=>∃ v r,vs=v::r∧DatB K F H d v∧zhf K F H l r
noncomputable def ResL (K:PySem.W.Frag) (fz:Bool) (F' H':Hp) (ds:List D) (vs:List V):Prop:=if fz=true then DatL K F' ds vs else zhf K F' H' ds vs
noncomputable def rdA (K:PySem.W.Frag) (fz:Bool) (ρ:En) (ds:List D):TA:=fun σ H Q=>∃ F,Rel K F H ρ σ∧∀ vs F' H',Grow F H F' H'→ResL K fz F' H' ds vs→Q vs H'
structure FPs (K:PySem.W.Frag) (fz:Bool) (X:Cx) (es:List Expr) (f:En→Option (List D)):Prop where
 h:∀ ρ ds,f ρ=some ds→PA X es (rdA K fz ρ ds)
noncomputable def nilF:En→Option (List D):=fun _=>some []
noncomputable def zae (f:En→Option D) (fs:En→Option (List D)):En→Option (List D):=fun ρ=>(f ρ).bind fun d=>(fs ρ).map fun l=>d::l
noncomputable def cL (p:List D→Option D) (fs:En→Option (List D)):En→Option D:=fun ρ=>(fs ρ).bind p
noncomputable def zbt (l:List D):Option D:=if l.length≤lim then some (.tup l) else none
noncomputable def zaK (l:List D):Option D:=if l.length≤lim then some (.lst l) else none
section
variable {K:PySem.W.Frag}{X:Cx} {e:Expr}{es:List Expr} {f:En→Option D}{fs:En→Option (List D)} {pos:Pos}{fz:Bool}
theorem fnil:FPs K fz X [] nilF:=FPs.mk fun ρ ds hf=>PA.imp zcM fun σ H Q ⟨F,r,q⟩=>by
 cases hf
 refine q [] F H (Grow.refl r.sub) ?_
 unfold ResL
 split
 ·exact DatL.nil
 ·rfl
theorem zeo {ρ:En}{ds:List D} (h:zae f fs ρ=some ds):∃ d l,f ρ=some d∧fs ρ=some l∧ds=d::l:=by
 unfold zae at h
 cases e1:f ρ with
 | none=>rw [e1] at h;cases h
 | some d=>
  cases e2:fs ρ with
  | none=>rw [e1,e2] at h;cases h
  | some l=>rw [e1,e2] at h;cases h;exact ⟨d,l,rfl,rfl,rfl⟩
theorem zai (h1:FP K .fz X e f) (h2:FPs K true X es fs) (hs:starEach (e::es) X.env=(false,eval e X.env)::starEach es X.env:=by rfl):FPs K true X (e::es) (zae f fs):=FPs.mk fun ρ ds hf=>by
 obtain ⟨d,l,e1,e2,rfl⟩:=zeo hf
 refine PA.imp (zbd (h1.h ρ d e1) (h2.h ρ l e2) hs) fun σ H Q h_=>?_
 obtain ⟨F,r,q⟩:=h_
 refine ⟨F,r,fun v F1 H1 g1 r1=>⟨F1,r.grow g1,fun vs F2 H2 g2 r2=>?_⟩⟩
 exact q (v::vs) F2 H2 (g1.trans g2) (DatL.cons (Dat.mono g2.ff r1) r2)
theorem zdr (h1:FP K .br X e f) (h2:FPs K false X es fs) (hs:starEach (e::es) X.env=(false,eval e X.env)::starEach es X.env:=by rfl):FPs K false X (e::es) (zae f fs):=FPs.mk fun ρ ds hf=>by
 obtain ⟨d,l,e1,e2,rfl⟩:=zeo hf
 refine PA.imp (zbd (h1.h ρ d e1) (h2.h ρ l e2) hs) fun σ H Q h_=>?_
 obtain ⟨F,r,q⟩:=h_
 refine ⟨F,r,fun v F1 H1 g1 r1=>⟨F1,r.grow g1,fun vs F2 H2 g2 r2=>?_⟩⟩
 exact q (v::vs) F2 H2 (g1.trans g2) ⟨v,vs,rfl,DatB.mono g2.ff g2.hh r1,r2⟩
theorem zdX {p:List D→Option D}{ρ:En} {d:D}(h:cL p fs ρ=some d):∃ l,fs ρ=some l∧p l=some d:=by
 unfold cL at h
 cases e1:fs ρ with
 | none=>rw [e1] at h;cases h
 | some l=>rw [e1] at h;exact ⟨l,rfl,h⟩
theorem ftup {x1} (h:FPs K true X es fs):FP K .fz X (.Tuple es x1 pos) (cL zbt fs):=FP.mk fun ρ d hf=>by
 obtain ⟨l,e1,e2⟩:=zdX hf
 obtain ⟨hz,rfl⟩:=zau e2
 refine PE.imp (zle (h.h ρ l e1)) fun σ H Q ⟨F,r,q⟩=>⟨F,r,fun vs F1 H1 g1 r1=>⟨?_,fun p hp=>?_⟩⟩
 ·rw [DatL.length (K:=K) (F:=F1) r1];exact zbV hz
 ·have g:=Grow.frozen (o:=.tup vs) g1.fh hp
  exact q _ _ _ (g1.trans g) (Dat.tup (K:=K) zam (DatL.mono g.ff r1))
theorem flst (h:FPs K true X es fs):FP K .ow X (.List es pos) (cL zaK fs):=FP.mk fun ρ d hf=>by
 obtain ⟨l,e1,e2⟩:=zdX hf
 obtain ⟨hz,rfl⟩:=zau e2
 refine PE.imp (zli (h.h ρ l e1)) fun σ H Q ⟨F,r,q⟩=>⟨F,r,fun vs F1 H1 g1 r1=>⟨?_,fun p hp=>?_⟩⟩
 ·rw [DatL.length (K:=K) (F:=F1) r1];exact zbV hz
 ·exact q _ _ _ (g1.trans (Grow.fresh g1.fh hp)) ⟨p,rfl,g1.hh.free hp,g1.fh.free hp,vs,zam,r1⟩
end
end FL
set_option Elab.async false
set_option linter.all false
set_option maxRecDepth 100000
namespace FL
open PySem PySem.Spec PyProof.Rows L2
noncomputable def zgj (K:PySem.W.Frag) (X:Cx) (f:Value) (md:Md) (p:List D→Option D):Prop:=
 ∃ r,zcj X f r∧∀ ds d F H vs Q,p ds=some d→Same F H→zhf K F H ds vs→(∀ w F' H',Grow F H F' H'→Res K md H F' H' d w→Q w H')→r vs H Q
section
variable {K:PySem.W.Frag}{X:Cx} {e:Expr}{es:List Expr} {f:En→Option D}{fs:En→Option (List D)} {pos p:Pos}{md:Md} {pf:List D→Option D}{x:Str} {id T:String}
theorem zgn {r:List V→Hp→VK→Prop}{ρ:En} {l:List D}{d:D} (hr:∀ F H vs Q,Same F H→zhf K F H l vs→(∀ w F' H',Grow F H F' H'→Res K md H F' H' d w→Q w H')→r vs H Q)
  (σ:St) (H:Hp) (Q:VK) (h:rdE K md ρ d σ H Q):tCB r (rdA K false ρ l) σ H Q:=by
 obtain ⟨F,rl,q⟩:=h
 refine ⟨F,rl,fun vs F1 H1 g1 r1=>hr F1 H1 vs Q g1.fh r1 fun w F2 H2 g2 r2=>?_⟩
 refine q w F2 H2 (g1.trans g2) ?_
 cases md with
 | fz=>exact r2
 | br=>exact r2
 | ow=>
  obtain ⟨a,e,h1,h2,h3⟩:=r2
  exact ⟨a,e,g1.hh.free h1,h2,h3⟩
theorem zcS (o:zgj K X (.builtin id) md pf) (hg:Gl X x) (hm:X.mg x=none) (hv:bootBuiltins x=some (.builtin id)) (ha:FPs K false X (e::es) fs) (hn:x ≠ "__name__" := by decide) (hdb:(x == ("__debug__" : Str))=false:=by decide)
  (he:starEach (e::es) X.env=(false,eval e X.env)::starEach es X.env:=by rfl) (hpl:(backTo pos (starEach es X.env)).any (·.1)=false:=by rfl):FP K md X (.Call (.Name x p) (e::es) [] pos) (cL pf fs):=FP.mk fun ρ d hf=>by
 obtain ⟨l,e1,e2⟩:=zdX hf
 obtain ⟨r,ho,hr⟩:=o
 exact PE.imp (zgr ho hg hm hv (ha.h ρ l e1) hn hdb he hpl) (zgn fun F H vs Q s h k=>hr l d F H vs Q e2 s h k)
theorem zhY (o:zgj K X (.type T) md pf) (hg:Gl X x) (hm:X.mg x=none) (hv:bootBuiltins x=some (.type T)) (ha:FPs K false X (e::es) fs) (hn:x ≠ "__name__" := by decide) (hdb:(x == ("__debug__" : Str))=false:=by decide)
  (he:starEach (e::es) X.env=(false,eval e X.env)::starEach es X.env:=by rfl) (hpl:(backTo pos (starEach es X.env)).any (·.1)=false:=by rfl):FP K md X (.Call (.Name x p) (e::es) [] pos) (cL pf fs):=FP.mk fun ρ d hf=>by
 obtain ⟨l,e1,e2⟩:=zdX hf
 obtain ⟨r,ho,hr⟩:=o
 exact PE.imp (zhz ho hg hm hv (ha.h ρ l e1) hn hdb he hpl) (zgn fun F H vs Q s h k=>hr l d F H vs Q e2 s h k)
theorem zhf.one {F H:Hp}{d:D} {vs:List V}(h:zhf K F H [d] vs):∃ v,vs=[v]∧DatB K F H d v:=by
 obtain ⟨v,r,rfl,h1,rfl⟩:=h;exact ⟨v,rfl,h1⟩
noncomputable def lenD:List D→Option D
 | [.lst l]=>some (.int l.length)
 | [.tup l]=>some (.int l.length)
 | [.scr l]=>some (.int l.length)
 | [.str z]=>if z.length≤lim then some (.int z.length) else none
 | _=>none
theorem zge (hK:X.K=K:=by rfl):zgj K X (.builtin "len") .fz lenD:=by
 subst hK
 refine ⟨_,zcj.or zfE zfD,fun ds d F H vs Q e s h k=>?_⟩
 unfold lenD at e
 split at e
 ·obtain ⟨v,rfl,h1⟩:=h.one
  cases e
  obtain ⟨a,vs,rfl,f,q⟩:=h1.lst_inv
  refine .inl ⟨a,vs,rfl,.inl (SqL.of f),?_⟩
  rw [q.length];exact k _ F H (Grow.refl s) (Res.int _)
 ·obtain ⟨v,rfl,h1⟩:=h.one
  cases e
  obtain ⟨a,vs,rfl,f,q⟩:=h1.tup_inv
  refine .inl ⟨a,vs,rfl,.inr (SqT.of (s _ _ f)),?_⟩
  rw [q.length];exact k _ F H (Grow.refl s) (Res.int _)
 ·obtain ⟨v,rfl,h1⟩:=h.one
  cases e
  obtain ⟨a,rfl,f⟩:=h1.scr_inv
  refine .inl ⟨a,_,rfl,.inl (Same.seq s f),?_⟩
  rw [List.length_map];exact k _ F H (Grow.refl s) (Res.int _)
 ·obtain ⟨v,rfl,h1⟩:=h.one
  obtain ⟨hz,rfl⟩:=zau e
  rw [h1.str_inv]
  exact .inr ⟨_,rfl,zbV hz,k _ F H (Grow.refl s) (Res.int _)⟩
 ·cases e
noncomputable def zbL:List D→Option D
 | [.lst l]=>some (.tup l)
 | [.tup l]=>some (.tup l)
 | _=>none
theorem zkA (hK:X.K=K:=by rfl):zgj K X (.type "tuple") .fz zbL:=by
 subst hK
 refine ⟨_,zeO,fun ds d F H vs Q e s h k=>?_⟩
 unfold zbL at e
 split at e
 ·obtain ⟨v,rfl,h1⟩:=h.one
  cases e
  obtain ⟨a,vs,rfl,f,q⟩:=h1.lst_inv
  refine ⟨a,vs,rfl,.inl ⟨SqL.of f,fun p hp=>?_⟩⟩
  have g:=Grow.frozen (o:=.tup vs) s hp
  exact k _ _ _ g (Dat.tup (K:=X.K) zam (q.mono g.ff))
 ·obtain ⟨v,rfl,h1⟩:=h.one
  cases e
  obtain ⟨a,vs,rfl,f,q⟩:=id h1.tup_inv
  exact ⟨a,vs,rfl,.inr ⟨SqT.of (s _ _ f),k _ F H (Grow.refl s) h1⟩⟩
 ·cases e
noncomputable def zdJ:List D→Option D
 | [.lst l]=>some (.lst l)
 | [.tup l]=>some (.lst l)
 | _=>none
theorem zlU (hK:X.K=K:=by rfl):zgj K X (.type "list") .ow zdJ:=by
 subst hK
 refine ⟨_,zfC,fun ds d F H vs Q e s h k=>?_⟩
 unfold zdJ at e
 split at e
 ·obtain ⟨v,rfl,h1⟩:=h.one
  cases e
  obtain ⟨a,vs,rfl,f,q⟩:=h1.lst_inv
  exact ⟨a,vs,rfl,.inl (SqL.of f),fun p hp=>k _ _ _ (Grow.fresh s hp) ⟨p,rfl,hp,s.free hp,vs,zam,q⟩⟩
 ·obtain ⟨v,rfl,h1⟩:=h.one
  cases e
  obtain ⟨a,vs,rfl,f,q⟩:=h1.tup_inv
  exact ⟨a,vs,rfl,.inr (SqT.of (s _ _ f)),fun p hp=>k _ _ _ (Grow.fresh s hp) ⟨p,rfl,hp,s.free hp,vs,zam,q⟩⟩
 ·cases e
def okSum (ns : List Int) : Prop := (∀ n ∈ ns, 0 ≤ n) ∧ ns.sum < 2 ^ 62
open Classical in
noncomputable def sumD:List D→Option D
 | [.lst l]=>(zaL l).bind fun ns=>if okSum ns then some (.int ns.sum) else none
 | _=>none
noncomputable def absD:List D→Option D
 | [.int i]=>some (.int (if i < 0 then -i else i))
 | _=>none
noncomputable def intD:List D→Option D
 | [.int i]=>some (.int i)
 | [.bl k]=>some (.int (if k then 1 else 0))
 | _=>none
noncomputable def zdI (x y:D):Option D:=match x,y with
 | .lst l,.int d=>(zaL l).map fun ns=>.int (maxD ns d)
 | _,_=>none
theorem zmF {a b:Expr}{fa fb:En→Option D} {kp:Pos}(hc:X.calm=true) (hg:Gl X "max") (hm:X.mg "max" = none) (ha:FP K .br X a fa) (hb:FP K .fz X b fb)
  (hs:starEach [a] X.env=[(false,eval a X.env)]:=by rfl) (hK:X.K=K:=by rfl)
  (H1:∀ {ta tb:TE},X.calm=true→Gl X "max" → X.mg "max" = none→PE X a ta→PE X b tb→PE X (.Call (.Name "max" p) [a] [⟨some "default",b,kp⟩] pos) (tCBK (fun xs zs H Q=>∃ (p:Addr) (ns:List Int) (d:Int),xs=[.ref p]∧zs=[.int d]∧SqL X.K H p (ns.map V.int)∧Q (.int (maxD ns d)) H) (zix ta tNil) (zix tb tNil)):=by
   exact fun hc hg hm ha hb=>zhA (zim hc) hg hm PyProof.Rows.boot_max (zbd ha zcM) (zjW hb zlb)) :
  FP K .fz X (.Call (.Name "max" p) [a] [⟨some "default",b,kp⟩] pos) (c2 zdI fa fb):=FP.mk fun ρ d hf=>by
 subst hK
 obtain ⟨x,y,e1,e2,e3⟩:=zch hf
 refine PE.imp (H1 hc hg hm (ha.h ρ x e1) (hb.h ρ y e2)) fun σ H Q h_=>?_
 obtain ⟨F,rl,q⟩:=h_
 unfold zdI at e3
 split at e3
 ·rename_i l dd
  cases e4:zaL l with
  | none=>rw [e4] at e3;cases e3
  | some ns=>
   rw [e4] at e3;cases e3
   rw [zdP e4]
   refine ⟨F,rl,fun v F1 H1 g1 r1=>⟨F1,rl.grow g1,fun u F2 H2 g2 r2=>?_⟩⟩
   obtain ⟨a,vs,rfl,f,qq⟩:=DatB.lst_inv (DatB.mono g2.ff g2.hh r1)
   rw [qq.ints] at f
   have ru:=Dat.int_inv (K:=X.K) (F:=F2) r2
   subst ru
   exact ⟨a,ns,dd,rfl,rfl,SqL.of f,q _ F2 H2 (g1.trans g2) (Res.int _)⟩
 ·cases e3
noncomputable def tyN:D→Option String
 | .non=>some "NoneType"
 | .bl _=>some "bool"
 | .int _=>some "int"
 | .str _=>some "str"
 | .tup _=>some "tuple"
 | .lst _=>some "list"
 | .dic _ _=>some "dict"
 | _=>none
noncomputable def isiB (k T:String):Bool:=k == T || (k == "bool" && T == "int")
theorem zko (K:PySem.W.Frag):(["NoneType", "bool", "int", "str", "tuple", "list", "dict"].all fun k=>["bool", "int", "str", "tuple", "list", "dict"].all fun T=>PySem.W.kitOne K (.type k) (.type T) == some (isiB k T))=true:=by kernel_rfl
theorem zlE (K:PySem.W.Frag) {k T:String}(hk:k∈["NoneType", "bool", "int", "str", "tuple", "list", "dict"]) (hT:T∈["bool", "int", "str", "tuple", "list", "dict"]):PySem.W.kitOne K (.type k) (.type T)=some (isiB k T):=by
 have h:=List.all_eq_true.mp (zko K) k hk
 exact eq_of_beq (List.all_eq_true.mp h T hT)
noncomputable def isiD (T:String) (x:D):Option D:=(tyN x).map fun k=>.bl (isiB k T)
theorem zjG {d:D}{k:String} (h:tyN d=some k):k∈["NoneType", "bool", "int", "str", "tuple", "list", "dict"]:=by
 cases d<;>simp only [tyN] at h<;>cases h<;>decide
theorem zkH {F H:Hp}{d:D} {v:V}{k:String} (s:Same F H) (h:DatB K F H d v) (e:tyN d=some k):TyOf K H v (.type k):=by
 cases d<;>simp only [tyN] at e<;>cases e
 ·rw [h.non_inv];exact .non
 ·rw [h.bl_inv];exact .bl _
 ·rw [h.int_inv];exact .int _
 ·rw [h.str_inv];exact .str _
 ·obtain ⟨a,vs,rfl,f,_⟩:=h.tup_inv;exact .tup (s _ _ f)
 ·obtain ⟨a,vs,rfl,f,_⟩:=h.lst_inv;exact .lst f
 ·obtain ⟨a,vs,rfl,f,_⟩:=h.dic_inv
  rcases f with (⟨kvs,f,_⟩ | ⟨kvs,f,_⟩) | ⟨o,⟨kvs,f,_⟩ | ⟨kvs,f,_⟩⟩
  ·exact .dK (.inl f)
  ·exact .dT (.inl f)
  ·exact .dK (.inr ⟨o,f⟩)
  ·exact .dT (.inr ⟨o,f⟩)
theorem fisi {a:Expr}{fa:En→Option D} {T:String}{y:Str} {p2:Pos}(ha:FP K .br X a fa) (hg:Gl X "isinstance") (hm:X.mg "isinstance" = none) (hgT:Gl X y) (hmT:X.mg y=none) (hv:bootBuiltins y=some (.type T)) (hT:T∈["bool", "int", "str", "tuple", "list", "dict"]:=by decide)
  (hn:y ≠ "__name__" := by decide) (hd:(y == ("__debug__" : Str))=false:=by decide) (he:starEach [a,.Name y p2] X.env=(false,eval a X.env)::starEach [.Name y p2] X.env:=by rfl) (he2:starEach [.Name y p2] X.env=[(false,eval (.Name y p2) X.env)]:=by rfl)
  (hpl:(backTo pos (starEach [.Name y p2] X.env)).any (·.1)=false:=by rfl) (hK:X.K=K:=by rfl) :
  FP K .fz X (.Call (.Name "isinstance" p) [a,.Name y p2] [] pos) (c1 (isiD T) fa):=FP.mk fun ρ d hf=>by
 subst hK
 obtain ⟨x,e1,e2⟩:=zin hf
 unfold isiD at e2
 cases e3:tyN x with
 | none=>rw [e3] at e2;cases e2
 | some k=>
  rw [e3] at e2;cases e2
  refine PE.imp (zgr zjl hg hm boot_isinstance (zbd (ha.h ρ x e1) (zbd (zkd (v:=.ty T) hgT hmT hv rfl hn hd) zcM he2) he) (by decide) (by decide) he hpl) fun σ H Q h_=>?_
  obtain ⟨F,rl,q⟩:=h_
  refine ⟨F,rl,fun v F1 H1 g1 r1=>⟨v,T,_,_,rfl,zkH g1.fh r1 e3,zlE X.K (zjG e3) hT,q _ F1 H1 g1 (Res.bl _)⟩⟩
end
end FL
set_option Elab.async false
set_option linter.all false
set_option maxRecDepth 100000
namespace FL
open PySem PySem.Spec PyProof.Rows L2
noncomputable def rdTp (K:PySem.W.Frag) (ρ:En) (b:Bool):TT:=fun σ H Q=>∃ F,Rel K F H ρ σ∧∀ F' H',Grow F H F' H'→Q b H'
structure FTp (K:PySem.W.Frag) (X:Cx) (e:Expr) (f:En→Option Bool):Prop where
 h:∀ ρ b,f ρ=some b→PT X e (rdTp K ρ b)
structure FWp (K:PySem.W.Frag) (X:Cx) (e:Expr) (f:En→Option Bool):Prop where
 h:∀ ρ b,f ρ=some b→PW X e (rdTp K ρ b)
noncomputable def rdT (K:PySem.W.Frag) (ρ:En) (b:Bool) (ρ':En):TT:=fun σ H Q=>∃ F,Rel K F H ρ σ∧∀ F' H',Rel K F' H' ρ' σ→Step ρ σ F H ρ' σ F' H'→Q b H'
structure FT (K:PySem.W.Frag) (X:Cx) (e:Expr) (m:En→Option (Bool×En)):Prop where
 h:∀ ρ b ρ',m ρ=some (b,ρ')→PT X e (rdT K ρ b ρ')
noncomputable def cT (f:En→Option D):En→Option Bool:=fun ρ=>match f ρ with
 | some (.bl b)=>some b
 | _=>none
noncomputable def andP (f g:En→Option Bool):En→Option Bool:=fun ρ=>(f ρ).bind fun b=>if b=true then g ρ else some false
noncomputable def orP (f g:En→Option Bool):En→Option Bool:=fun ρ=>(f ρ).bind fun b=>if b=true then some true else g ρ
noncomputable def notP (f:En→Option Bool):En→Option Bool:=fun ρ=>(f ρ).map fun b=>!b
noncomputable def upT (f:En→Option Bool):En→Option (Bool×En):=fun ρ=>(f ρ).map fun b=>(b,ρ)
theorem zgf {f:En→Option D}{ρ:En} {b:Bool}(h:cT f ρ=some b):f ρ=some (.bl b):=by
 unfold cT at h
 split at h
 ·rename_i e;cases h;exact e
 ·cases h
theorem zir {f g:En→Option Bool}{ρ:En} {b:Bool}(h:andP f g ρ=some b):(f ρ=some true∧g ρ=some b)∨(f ρ=some false∧b=false):=by
 unfold andP at h
 cases e:f ρ with
 | none=>rw [e] at h;cases h
 | some c=>
  rw [e] at h
  cases c with
  | true=>exact .inl ⟨rfl,h⟩
  | false=>exact .inr ⟨rfl,(Option.some.inj h).symm⟩
theorem ziM {f g:En→Option Bool}{ρ:En} {b:Bool}(h:orP f g ρ=some b):(f ρ=some false∧g ρ=some b)∨(f ρ=some true∧b=true):=by
 unfold orP at h
 cases e:f ρ with
 | none=>rw [e] at h;cases h
 | some c=>
  rw [e] at h
  cases c with
  | false=>exact .inl ⟨rfl,h⟩
  | true=>exact .inr ⟨rfl,(Option.some.inj h).symm⟩
theorem zgv {X:Cx}{e:Expr}:PW X e (fun _ _ _=>False):=fun _ _ _ _ _ _ _ h=>h.elim
theorem ziS {X:Cx}{e:Expr}:PE X e (fun _ _ _=>False):=fun _ _ _ _ _ _ h=>h.elim
section
variable {K:PySem.W.Frag}{X:Cx} {a b e:Expr}{rest:List Expr} {fa fb f:En→Option D}{pos:Pos} {p:D→D→Option D}{t u:En→Option Bool} {m n:En→Option (Bool×En)}
theorem tcmp {op:CmpOp}(o:Op2 K X (compareOp op) .fz p) (ha:FP K .br X a fa) (hb:FP K .br X b fb) (hm:behindInMarks op b=false):FTp K X (.Compare a [op] [b] pos) (cT (c2 p fa fb)):=FTp.mk fun ρ c hf=>by
 obtain ⟨x,y,e1,e2,e3⟩:=zch (zgf hf)
 obtain ⟨r,ho,hr⟩:=o
 refine PT.imp (zht ho (ha.h ρ x e1) (hb.h ρ y e2) hm) fun σ H Q h_=>?_
 obtain ⟨F,rl,q⟩:=h_
 refine two (md:=.fz) (d:=.bl c) (ta:=fun _ _ _=>True) (tb:=fun _ _ _=>True) (ha.h ρ x e1) (hb.h ρ y e2) (fun F H v u Q s h1 h2 k=>hr x y _ F H v u Q e3 s h1 h2 k) σ H _ ⟨F,rl,fun v F' H' g h=>⟨c,Dat.bl_inv (K:=K) (F:=F') h,q F' H' g⟩⟩
theorem ziw {op:CmpOp}(o:Op2f K X (compareOp op) p) (ha:FP K .fz X a fa) (hb:FP K .br X b fb) (hm:behindInMarks op b=false):FTp K X (.Compare a [op] [b] pos) (cT (c2 p fa fb)):=FTp.mk fun ρ c hf=>by
 obtain ⟨x,y,e1,e2,e3⟩:=zch (zgf hf)
 obtain ⟨r,ho,hr⟩:=o
 refine PT.imp (zht ho (ha.h ρ x e1) (hb.h ρ y e2) hm) fun σ H Q h_=>?_
 obtain ⟨F,rl,q⟩:=h_
 exact zmb (d:=.bl c) (ha.h ρ x e1) (hb.h ρ y e2) (fun F H v u Q s h1 h2 k=>hr x y _ F H v u Q e3 s h1 h2 k) σ H _ ⟨F,rl,fun v F' H' g h=>⟨c,Dat.bl_inv (K:=K) (F:=F') h,q F' H' g⟩⟩
theorem tval (h:FP K .fz X e f) (he:∀ whole,isTrue e X.env whole=(do let v ← whole;standAt e.pos;holding [v] (truthy v)):=by intro _;rfl):FTp K X e (cT f):=FTp.mk fun ρ c hf=>
 PT.imp (zkX (h.h ρ _ (zgf hf)) he) fun σ H Q ⟨F,rl,q⟩=>⟨F,rl,fun v F' H' g h=>⟨c,Dat.bl_inv (K:=K) (F:=F') h,q F' H' g⟩⟩
noncomputable def truD:D→Option Bool
 | .non=>some false
 | .bl b=>some b
 | .int i=>some (i != 0)
 | .str z=>if z.length≤lim then some ((z.length:Int) != 0) else none
 | .lst l=>some (!l.isEmpty)
 | .tup l=>some (!l.isEmpty)
 | _=>none
noncomputable def cTr (f:En→Option D):En→Option Bool:=fun ρ=>(f ρ).bind truD
theorem DatL.empty {F:Hp}{l:List D} {vs:List V}(q:DatL K F l vs):vs.isEmpty=l.isEmpty:=by
 have:=q.length
 cases l<;>cases vs<;>simp at this ⊢
theorem ttru (h:FP K .br X e f) (he:∀ whole,isTrue e X.env whole=(do let v ← whole;standAt e.pos;holding [v] (truthy v)):=by intro _;rfl) (hK:X.K=K:=by rfl):FTp K X e (cTr f):=FTp.mk fun ρ c hf=>by
 subst hK
 unfold cTr at hf
 cases e1:f ρ with
 | none=>rw [e1] at hf;cases hf
 | some d=>
  rw [e1] at hf
  have hf:truD d=some c:=hf
  refine PT.imp (ziB (h.h ρ d e1) he) fun σ H Q ⟨F,rl,q⟩=>⟨F,rl,fun v F' H' g h=>⟨c,?_,q F' H' g⟩⟩
  have h:DatB X.K F' H' d v:=h
  cases d<;>simp only [truD] at hf<;>try (cases hf;done)
  ·cases hf;rw [h.non_inv];rfl
  ·cases hf;rw [h.bl_inv];rfl
  ·cases hf;rw [h.int_inv];rfl
  ·obtain ⟨hz,rfl⟩:=zau hf
   rw [h.str_inv];exact ⟨zbV hz,rfl⟩
  ·cases hf
   obtain ⟨a,vs,rfl,f,q⟩:=h.tup_inv
   exact .inr (.inl ⟨vs,SqT.of (g.fh _ _ f),by rw [q.empty]⟩)
  ·cases hf
   obtain ⟨a,vs,rfl,f,q⟩:=h.lst_inv
   exact .inl ⟨vs,SqL.of f,by rw [q.empty]⟩
theorem zjH (h:FTp K X a t):FWp K X (.BoolOp .And [a] pos) t:=FWp.mk fun ρ c hf=>zjQ (h.h ρ c hf)
theorem tor1 (h:FTp K X a t):FWp K X (.BoolOp .Or [a] pos) t:=FWp.mk fun ρ c hf=>zkV (h.h ρ c hf)
theorem tand (h1:FTp K X a t) (h2:FWp K X (.BoolOp .And (b::rest) pos) u):FWp K X (.BoolOp .And (a::b::rest) pos) (andP t u):=FWp.mk fun ρ c hf=>by
 rcases zir hf with ⟨e1,e2⟩ | ⟨e1,rfl⟩
 ·exact PW.imp (zjv (h1.h ρ _ e1) (h2.h ρ c e2)) fun σ H Q ⟨F,rl,q⟩=>⟨F,rl,fun F1 H1 g1=>iteT ⟨F1,rl.grow g1,fun F2 H2 g2=>q F2 H2 (g1.trans g2)⟩⟩
 ·exact PW.imp (zjv (h1.h ρ _ e1) zgv) fun σ H Q ⟨F,rl,q⟩=>⟨F,rl,fun F1 H1 g1=>iteF (q F1 H1 g1)⟩
theorem tor (h1:FTp K X a t) (h2:FWp K X (.BoolOp .Or (b::rest) pos) u):FWp K X (.BoolOp .Or (a::b::rest) pos) (orP t u):=FWp.mk fun ρ c hf=>by
 rcases ziM hf with ⟨e1,e2⟩ | ⟨e1,rfl⟩
 ·exact PW.imp (zkW (h1.h ρ _ e1) (h2.h ρ c e2)) fun σ H Q ⟨F,rl,q⟩=>⟨F,rl,fun F1 H1 g1=>iteF ⟨F1,rl.grow g1,fun F2 H2 g2=>q F2 H2 (g1.trans g2)⟩⟩
 ·exact PW.imp (zkW (h1.h ρ _ e1) zgv) fun σ H Q ⟨F,rl,q⟩=>⟨F,rl,fun F1 H1 g1=>iteT (q F1 H1 g1)⟩
theorem FWp.pt (h:FWp K X e t):FTp K X e t:=FTp.mk fun ρ c hf=>(h.h ρ c hf).pt
theorem tnot (h:FTp K X a t):FTp K X (.UnaryOp .Not a pos) (notP t):=FTp.mk fun ρ c hf=>by
 unfold notP at hf
 cases e1:t ρ with
 | none=>rw [e1] at hf;cases hf
 | some d=>
  rw [e1] at hf
  cases hf
  exact PT.imp (zkY (h.h ρ d e1)) fun σ H Q ⟨F,rl,q⟩=>⟨F,rl,fun F1 H1 g1=>q F1 H1 g1⟩
theorem FTp.up (h:FTp K X e t):FT K X e (upT t):=FT.mk fun ρ c ρ' hf=>by
 unfold upT at hf
 cases e1:t ρ with
 | none=>rw [e1] at hf;cases hf
 | some d=>
  rw [e1] at hf
  cases hf
  exact PT.imp (h.h ρ c e1) fun σ H Q ⟨F,rl,q⟩=>⟨F,rl,fun F1 H1 g1=>q F1 H1 (rl.grow g1) g1.step⟩
noncomputable def andV (f g:En→Option D):En→Option D:=fun ρ=>match f ρ with
 | some (.bl true)=>g ρ
 | some (.bl false)=>some (.bl false)
 | _=>none
noncomputable def orV (f g:En→Option D):En→Option D:=fun ρ=>match f ρ with
 | some (.bl true)=>some (.bl true)
 | some (.bl false)=>g ρ
 | _=>none
noncomputable def notV (f:En→Option D):En→Option D:=fun ρ=>match f ρ with
 | some (.bl b)=>some (.bl (!b))
 | _=>none
theorem vone {op} (h:FP K .fz X a f):FP K .fz X (.BoolOp op [a] pos) f:=FP.mk fun ρ d hf=>zlh (h.h ρ d hf)
theorem vand (h1:FP K .fz X a fa) (h2:FP K .fz X (.BoolOp .And (b::rest) pos) fb):FP K .fz X (.BoolOp .And (a::b::rest) pos) (andV fa fb):=FP.mk fun ρ d hf=>by
 unfold andV at hf
 split at hf
 ·rename_i e1
  exact PE.imp (zjz (h1.h ρ _ e1) (h2.h ρ d hf)) fun σ H Q ⟨F,rl,q⟩=>⟨F,rl,fun v F1 H1 g1 r1=>⟨true,Dat.bl_inv (K:=K) (F:=F1) r1,iteT ⟨F1,rl.grow g1,fun u F2 H2 g2 r2=>q u F2 H2 (g1.trans g2) r2⟩⟩⟩
 ·rename_i e1
  cases hf
  exact PE.imp (zjz (h1.h ρ _ e1) ziS) fun σ H Q ⟨F,rl,q⟩=>⟨F,rl,fun v F1 H1 g1 r1=>⟨false,Dat.bl_inv (K:=K) (F:=F1) r1,iteF (q _ F1 H1 g1 (Res.bl false))⟩⟩
 ·cases hf
noncomputable def negD:D→Option D
 | .int i=>some (.int (-i))
 | _=>none
theorem fneg (h:FP K .fz X a fa):FP K .fz X (.UnaryOp .USub a pos) (c1 negD fa):=FP.mk fun ρ d hf=>by
 obtain ⟨x,e1,e2⟩:=zin hf
 cases x<;>simp only [negD] at e2<;>try (cases e2;done)
 cases e2
 exact PE.imp (zmq zkG (h.h ρ _ e1)) fun σ H Q ⟨F,rl,q⟩=>⟨F,rl,fun v F1 H1 g1 r1=>⟨_,Dat.int_inv (K:=K) (F:=F1) r1,q _ F1 H1 g1 (Res.int _)⟩⟩
end
end FL
set_option Elab.async false
set_option linter.all false
set_option maxRecDepth 100000
namespace FL
open PySem PySem.Spec PyProof.Rows L2 FX
noncomputable def ExcD (K:PySem.W.Frag) (F:Hp) (c:Str) (d:D) (C da:Addr):Prop:=∃ u,PySem.W.nsIn K mainGlobals c=some (some (.ref C))∧F da=some (.xd [(zje c,u)])∧Dat K F d u
noncomputable def Wish (X:Cx) (σ:St) (C da:Addr) (H:Hp):Prop:=∀ (pins:List (Addr×Obj)) (a:Addr) (tb:Option Addr) (s:Shared),Inv X pins σ H s→Fly s.heap a (.ref C) (some da) tb .none→FpOk X pins H a→(∀ T,tb=some T→FpOk X pins H T)→X.xe (.ref a) s
section
variable {X:Cx}{pins:List (Addr×Obj)} {σ:St}{H:Hp} {s:Shared}{h':Heap}
end
end FL
set_option Elab.async false
set_option linter.all false
set_option maxRecDepth 100000
namespace FL
open PySem PySem.Spec PyProof.Rows L2
section
variable {K:PySem.W.Frag}{F H F' H':Hp} {ρ ρ':En}{σ σ':St} {i:Nat}
theorem zaf {α:Type}{l:List α} {i j:Nat}{x y:α} (h:(l.set i x)[j]?=some y):(j=i∧y=x)∨(j≠i∧l[j]?=some y):=by
 by_cases e:j=i
 ·subst e
  rw [List.getElem?_set] at h
  simp at h
  exact .inl ⟨rfl,h.2.symm⟩
 ·rw [List.getElem?_set_ne (Ne.symm e)] at h
  exact .inr ⟨e,h⟩
theorem zdu {α:Type}{l:List α} {i:Nat}{x:α} (h:i < l.length):(l.set i x)[i]?=some x:=by simp [h]
theorem zgm {α:Type}{l:List α} {i:Nat}{x y:α} (h:(l.set i x)[i]?=some y):i < l.length:=by
 have:=(List.getElem?_eq_some_iff.mp h).1;simpa using this
theorem Rel.setD (r:Rel K F H ρ σ) {d:D}{v:V} (h:Dat K F d v):Rel K F H (ρ.set i (some (.dat d))) (σ.set i (some v)):=by
 refine ⟨r.sub,fun j x e=>?_,fun j x e=>?_,fun j q x e=>?_,fun j k q x s a ne e1 e2 e3 e4=>?_,by simp [r.len]⟩
 ·rcases zaf e with ⟨rfl,e'⟩ | ⟨ne,e'⟩
  ·cases e'
   exact ⟨v,zdu (by rw [← r.len];exact zgm e),h⟩
  ·rw [List.getElem?_set_ne (Ne.symm ne)];exact r.dat j x e'
 ·rcases zaf e with ⟨rfl,e'⟩ | ⟨ne,e'⟩
  ·cases e'
  ·rw [List.getElem?_set_ne (Ne.symm ne)];exact r.bor j x e'
 ·rcases zaf e with ⟨rfl,e'⟩ | ⟨ne,e'⟩
  ·cases e'
  ·rw [List.getElem?_set_ne (Ne.symm ne)];exact r.own j q x e'
 ·rcases zaf e1 with ⟨rfl,e'⟩ | ⟨ne1,e1'⟩
  ·cases e'
  ·rcases zaf e3 with ⟨rfl,e'⟩ | ⟨ne3,e3'⟩
   ·cases e';cases e4
   ·rw [List.getElem?_set_ne (Ne.symm ne1)] at e2
    rw [List.getElem?_set_ne (Ne.symm ne3)]
    exact r.inj j k q x s a ne e1' e2 e3' e4
theorem Rel.setN (r:Rel K F H ρ σ) {v:Option V}:Rel K F H (ρ.set i none) (σ.set i v):=by
 refine ⟨r.sub,fun j x e=>?_,fun j x e=>?_,fun j q x e=>?_,fun j k q x s a ne e1 e2 e3 e4=>?_,by simp [r.len]⟩
 ·rcases zaf e with ⟨rfl,e'⟩ | ⟨ne,e'⟩
  ·cases e'
  ·rw [List.getElem?_set_ne (Ne.symm ne)];exact r.dat j x e'
 ·rcases zaf e with ⟨rfl,e'⟩ | ⟨ne,e'⟩
  ·cases e'
  ·rw [List.getElem?_set_ne (Ne.symm ne)];exact r.bor j x e'
 ·rcases zaf e with ⟨rfl,e'⟩ | ⟨ne,e'⟩
  ·cases e'
  ·rw [List.getElem?_set_ne (Ne.symm ne)];exact r.own j q x e'
 ·rcases zaf e1 with ⟨rfl,e'⟩ | ⟨ne1,e1'⟩
  ·cases e'
  ·rcases zaf e3 with ⟨rfl,e'⟩ | ⟨ne3,e3'⟩
   ·cases e'
   ·rw [List.getElem?_set_ne (Ne.symm ne1)] at e2
    rw [List.getElem?_set_ne (Ne.symm ne3)]
    exact r.inj j k q x s a ne e1' e2 e3' e4
theorem Rel.drop (r:Rel K F H ρ σ):Rel K F H (ρ.set i none) σ:=by
 by_cases hi:i < σ.length
 ·have h:=r.setN (i:=i) (v:=σ[i])
  rw [List.set_getElem_self] at h
  exact h
 ·have e:ρ.set i none=ρ:=List.set_eq_of_length_le (by rw [r.len];omega)
  rw [e];exact r
theorem Rel.setO (r0:Rel K F H ρ σ) (g:Grow F H F' H') {d:D}{a:Addr} (hn:H a=none) (hf:F' a=none) (ho:Own K F' H' d a) (nb:∀ (j:Nat) (s:Sl),ρ[j]?=some (some s)→s.isDat=false→∃ q x,s=.ow q x) :
  Rel K F' H' (ρ.set i (some (.own d))) (σ.set i (some (.ref a))):=by
 have r:=r0.grow g
 have nf:∀ (j:Nat) s,ρ[j]?=some (some s)→s.isDat=false→σ[j]?≠some (some (.ref a)):=fun j s e hs z=>by
  obtain ⟨q,x,rfl⟩:=nb j s e hs
  obtain ⟨b,e1,_,e3⟩:=r0.own j q x e
  rw [z] at e1;cases e1
  obtain ⟨o,e4⟩:=e3.some
  rw [hn] at e4;cases e4
 refine ⟨r.sub,fun j x e=>?_,fun j x e=>?_,fun j q x e=>?_,fun j k q x s c ne e1 e2 e3 e4=>?_,by simp [r.len]⟩
 ·rcases zaf e with ⟨rfl,e'⟩ | ⟨ne,e'⟩
  ·cases e'
  ·rw [List.getElem?_set_ne (Ne.symm ne)];exact r.dat j x e'
 ·rcases zaf e with ⟨rfl,e'⟩ | ⟨ne,e'⟩
  ·cases e'
  ·rw [List.getElem?_set_ne (Ne.symm ne)];exact r.bor j x e'
 ·rcases zaf e with ⟨rfl,e'⟩ | ⟨ne,e'⟩
  ·cases e'
   exact ⟨a,zdu (by rw [← r.len];exact zgm e),hf,ho⟩
  ·rw [List.getElem?_set_ne (Ne.symm ne)];exact r.own j q x e'
 ·rcases zaf e1 with ⟨rfl,e1'⟩ | ⟨ne1,e1'⟩
  ·cases e1'
   rw [zdu (by rw [← r.len];exact zgm e1)] at e2
   cases e2
   rcases zaf e3 with ⟨rfl,e3'⟩ | ⟨ne3,e3'⟩
   ·exact absurd rfl ne
   ·rw [List.getElem?_set_ne (Ne.symm ne3)];exact nf k s e3' e4
  ·rw [List.getElem?_set_ne (Ne.symm ne1)] at e2
   rcases zaf e3 with ⟨rfl,e3'⟩ | ⟨ne3,e3'⟩
   ·rw [zdu (by rw [← r.len];exact zgm e3)]
    intro z;cases z
    exact nf j _ e1' rfl e2
   ·rw [List.getElem?_set_ne (Ne.symm ne3)]
    exact r.inj j k q x s c ne e1' e2 e3' e4
theorem zfj {sl:Option Sl}{v:Option V} {b:Addr}(h:zcE (ρ.set i sl) (σ.set i v) b):(∃ q d,sl=some (.ow q d)∧v=some (.ref b))∨zcE ρ σ b:=by
 obtain ⟨j,q,d,e1,e2⟩:=h
 rcases zaf e1 with ⟨rfl,e1'⟩ | ⟨ne,e1'⟩
 ·rcases zaf e2 with ⟨_,e2'⟩ | ⟨ne,_⟩
  ·exact .inl ⟨q,d,e1'.symm,e2'.symm⟩
  ·exact absurd rfl ne
 ·rw [List.getElem?_set_ne (Ne.symm ne)] at e2
  exact .inr ⟨j,q,d,e1',e2⟩
theorem zeg {b:Addr}(h:zcE (ρ.set i none) σ b):zcE ρ σ b:=by
 obtain ⟨j,q,d,e1,e2⟩:=h
 rcases zaf e1 with ⟨rfl,e1'⟩ | ⟨ne,e1'⟩
 ·cases e1'
 ·exact ⟨j,q,d,e1',e2⟩
structure Kp (ρ:En) (σ:St) (ρ':En) (σ':St):Prop where
 own:∀ b,zcE ρ' σ' b→zcE ρ σ b
 pin:∀ (i:Nat) (d':D),ρ'[i]?=some (some (.ow true d'))→∃ d,ρ[i]?=some (some (.ow true d))∧σ'[i]?=σ[i]?
theorem Kp.refl:Kp ρ σ ρ σ:=⟨fun _ h=>h,fun _ d e=>⟨d,e,rfl⟩⟩
theorem Kp.trans {ρ2:En}{σ2:St} (a:Kp ρ σ ρ' σ') (b:Kp ρ' σ' ρ2 σ2):Kp ρ σ ρ2 σ2:=⟨fun c h=>a.own c (b.own c h),fun i d e=>by
 obtain ⟨d1,e1,e2⟩:=b.pin i d e
 obtain ⟨d2,e3,e4⟩:=a.pin i d1 e1
 exact ⟨d2,e3,e2.trans e4⟩⟩
theorem zhv {sl:Option Sl}{v:Option V} (hs:∀ d,sl≠some (.ow true d)):∀ (j:Nat) (d':D),(ρ.set i sl)[j]?=some (some (.ow true d'))→∃ d,ρ[j]?=some (some (.ow true d))∧(σ.set i v)[j]?=σ[j]?:=fun j d' e=>by
 rcases zaf e with ⟨rfl,e'⟩ | ⟨ne,e'⟩
 ·exact absurd e'.symm (hs d')
 ·exact ⟨d',e',List.getElem?_set_ne (Ne.symm ne)⟩
theorem zgq:∀ (j:Nat) (d':D),(ρ.set i none)[j]?=some (some (.ow true d'))→∃ d,ρ[j]?=some (some (.ow true d))∧σ[j]?=σ[j]?:=fun j d' e=>by
 rcases zaf e with ⟨rfl,e'⟩ | ⟨ne,e'⟩
 ·cases e'
 ·exact ⟨d',e',rfl⟩
theorem Kp.setD {d:D}{v:Option V}:Kp ρ σ (ρ.set i (some (.dat d))) (σ.set i v):=⟨fun b z=>by
 rcases zfj z with ⟨_,_,z,_⟩ | z
 ·cases z
 ·exact z,zhv fun d h=>by cases h⟩
theorem Step.kp {ρ2:En}{σ2:St} (a:Step ρ σ F H ρ' σ' F' H') (k:Kp ρ' σ' ρ2 σ2):Step ρ σ F H ρ2 σ2 F' H':=⟨a.ff,a.rest,fun b z=>a.own b (k.own b z),fun i d e=>by
 obtain ⟨d1,e1,e2⟩:=k.pin i d e
 obtain ⟨d2,e3,e4⟩:=a.pin i d1 e1
 exact ⟨d2,e3,e2.trans e4⟩,a.fh⟩
end
inductive Fl where
 | nx (ρ:En) | rt (d:D) (ρ:En) | bk (ρ:En) | ct (ρ:En) | rs (c:Str) (d:D) (ρ:En)
noncomputable def ResR (K:PySem.W.Frag) (md:Md) (ρ:En) (σ:St) (H F' H':Hp) (d:D) (v:V):Prop:=match md with
 | .fz=>Dat K F' d v
 | .ow=>∃ a,v=.ref a∧(H a=none∨zcE ρ σ a)∧F' a=none∧Own K F' H' d a
 | .br=>False
noncomputable def rdS (X:Cx) (K:PySem.W.Frag) (md:Md) (ρ:En) (fl:Fl):TS:=fun D σ H=>∃ F,Rel K F H ρ σ∧match fl with
 | .nx ρ'=>∀ σ' F' H',Rel K F' H' ρ' σ'→Step ρ σ F H ρ' σ' F' H'→D.nx σ' H'
 | .bk ρ'=>∀ σ' F' H',Rel K F' H' ρ' σ'→Step ρ σ F H ρ' σ' F' H'→D.bk σ' H'
 | .ct ρ'=>∀ σ' F' H',Rel K F' H' ρ' σ'→Step ρ σ F H ρ' σ' F' H'→D.ct σ' H'
 | .rt d ρ'=>∀ v σ' F' H',Rel K F' H' ρ' σ'→Step ρ σ F H ρ' σ' F' H'→ResR K md ρ σ H F' H' d v→D.rt v H'
 | .rs c d ρ'=>∀ σ' F' H' C da,Rel K F' H' ρ' σ'→Step ρ σ F H ρ' σ' F' H'→ExcD K F' c d C da→Wish X σ' C da H'
structure FS (K:PySem.W.Frag) (md:Md) (X:Cx) (st:Stmt) (m:En→Option Fl):Prop where
 h:∀ ρ fl,m ρ=some fl→PS X st (rdS X K md ρ fl)
structure FSs (K:PySem.W.Frag) (md:Md) (X:Cx) (sts:List Stmt) (m:En→Option Fl):Prop where
 h:∀ ρ fl,m ρ=some fl→PSs X sts (rdS X K md ρ fl)
noncomputable def nxM:En→Option Fl:=fun ρ=>some (.nx ρ)
noncomputable def seqM (m n:En→Option Fl):En→Option Fl:=fun ρ=>match m ρ with
 | some (.nx ρ1)=>n ρ1
 | r=>r
theorem ResR.back {K:PySem.W.Frag}{md:Md} {ρ ρ':En}{σ σ':St} {F H F' H' F2 H2:Hp}{d:D} {v:V}(a:Step ρ σ F H ρ' σ' F' H') (s:Same F H) (h:ResR K md ρ' σ' H' F2 H2 d v):ResR K md ρ σ H F2 H2 d v:=by
 cases md with
 | fz=>exact h
 | br=>exact h
 | ow=>
  obtain ⟨b,e,h1,h2,h3⟩:=h
  exact ⟨b,e,a.back s h1,h2,h3⟩
theorem rdS.after {X:Cx}{K:PySem.W.Frag} {md:Md}{ρ ρ':En} {σ σ':St}{F H F' H':Hp} {fl:Fl}{D:Ends} (s:Same F H) (r:Rel K F' H' ρ' σ') (a:Step ρ σ F H ρ' σ' F' H')
  (h:match fl with
   | .nx ρ'=>∀ σ' F' H',Rel K F' H' ρ' σ'→Step ρ σ F H ρ' σ' F' H'→D.nx σ' H'
   | .bk ρ'=>∀ σ' F' H',Rel K F' H' ρ' σ'→Step ρ σ F H ρ' σ' F' H'→D.bk σ' H'
   | .ct ρ'=>∀ σ' F' H',Rel K F' H' ρ' σ'→Step ρ σ F H ρ' σ' F' H'→D.ct σ' H'
   | .rt d ρ'=>∀ v σ' F' H',Rel K F' H' ρ' σ'→Step ρ σ F H ρ' σ' F' H'→ResR K md ρ σ H F' H' d v→D.rt v H'
   | .rs c d ρ'=>∀ σ' F' H' C da,Rel K F' H' ρ' σ'→Step ρ σ F H ρ' σ' F' H'→ExcD K F' c d C da→Wish X σ' C da H'):rdS X K md ρ' fl D σ' H':=by
 refine ⟨F',r,?_⟩
 cases fl with
 | nx ρ2=>exact fun σ2 F2 H2 r2 s2=>h σ2 F2 H2 r2 (a.trans s2 s)
 | bk ρ2=>exact fun σ2 F2 H2 r2 s2=>h σ2 F2 H2 r2 (a.trans s2 s)
 | ct ρ2=>exact fun σ2 F2 H2 r2 s2=>h σ2 F2 H2 r2 (a.trans s2 s)
 | rt d ρ2=>exact fun v σ2 F2 H2 r2 s2 q=>h v σ2 F2 H2 r2 (a.trans s2 s) (ResR.back a s q)
 | rs c d ρ2=>exact fun σ2 F2 H2 C da r2 s2 x=>h σ2 F2 H2 C da r2 (a.trans s2 s) x
section
variable {K:PySem.W.Frag}{md:Md} {X:Cx}{st:Stmt} {rest:List Stmt}{m n:En→Option Fl} {e:Expr}{f:En→Option D} {pos:Pos}
theorem snil:FSs K md X [] nxM:=FSs.mk fun ρ fl hf=>by
 cases hf
 exact PSs.imp zjS fun D σ H ⟨F,r,q⟩=>q σ F H r (Grow.refl r.sub).step
theorem sone (h:FS K md X st m):FSs K md X [st] m:=FSs.mk fun ρ fl hf=>zjR (h.h ρ fl hf)
theorem sseq (h1:FS K md X st m) (h2:FSs K md X rest n):FSs K md X (st::rest) (seqM m n):=FSs.mk fun ρ fl hf=>by
 unfold seqM at hf
 split at hf
 ·rename_i ρ1 e1
  refine PSs.imp (zgo (h1.h ρ _ e1) (h2.h ρ1 fl hf)) fun D σ H ⟨F,r,q⟩=>⟨F,r,fun σ1 F1 H1 r1 s1=>?_⟩
  exact rdS.after r.sub r1 s1 q
 ·rename_i hno
  refine PSs.imp (zgo (h1.h ρ fl hf) zdB) fun D σ H ⟨F,r,q⟩=>⟨F,r,?_⟩
  cases fl with
  | nx ρ1=>exact absurd hf (hno ρ1)
  | bk ρ1=>exact q
  | ct ρ1=>exact q
  | rt d ρ1=>exact q
  | rs c d ρ1=>exact q
noncomputable def zfx (f:En→Option D):En→Option Fl:=fun ρ=>(f ρ).map fun _=>.nx ρ
noncomputable def retM (f:En→Option D):En→Option Fl:=fun ρ=>(f ρ).map fun d=>.rt d ρ
theorem sret (he:FP K .fz X e f):FS K .fz X (.Return (some e) pos) (retM f):=FS.mk fun ρ fl hf=>by
 unfold retM at hf
 cases e1:f ρ with
 | none=>rw [e1] at hf;cases hf
 | some d=>
  rw [e1] at hf;cases hf
  exact PS.imp (zgp (he.h ρ d e1)) fun D σ H ⟨F,r,q⟩=>⟨F,r,fun v F1 H1 g1 h=>q v σ F1 H1 (r.grow g1) g1.step h⟩
theorem zet (he:FP K .ow X e f):FS K .ow X (.Return (some e) pos) (retM f):=FS.mk fun ρ fl hf=>by
 unfold retM at hf
 cases e1:f ρ with
 | none=>rw [e1] at hf;cases hf
 | some d=>
  rw [e1] at hf;cases hf
  refine PS.imp (zgp (he.h ρ d e1)) fun D σ H ⟨F,r,q⟩=>⟨F,r,fun v F1 H1 g1 ⟨a,e,h1,h2,h3⟩=>q v σ F1 H1 (r.grow g1) g1.step ⟨a,e,.inl h1,h2,h3⟩⟩
noncomputable def retO (i:Nat):En→Option Fl:=fun ρ=>match ρ[i]? with
 | some (some (.ow _ d))=>some (.rt d (ρ.set i none))
 | _=>none
theorem zmh (i:Nat) {x:Str}{p:Pos} (hN:X.N[i]?=some x:=by rfl) (hv:Vis X.env.scope x:=by first | exact Or.inl rfl | exact Or.inr (Or.inl rfl) | exact Or.inr (Or.inr rfl)) (hd:(x == ("__debug__" : Str))=false:=by decide)
  (hcd:(x == ("__classdict__" : Str))=false:=by decide):FS K .ow X (.Return (some (.Name x p)) pos) (retO i):=FS.mk fun ρ fl hf=>by
 unfold retO at hf
 split at hf
 ·rename_i pp d e1
  cases hf
  refine PS.imp (zgp (zdl hN hv hd hcd)) fun D σ H h_=>?_
  obtain ⟨F,r,q⟩:=h_
  obtain ⟨a,e2,h1,h2⟩:=r.own i pp d e1
  refine ⟨_,e2,q _ σ F H r.drop ?_ ⟨a,rfl,.inr ⟨i,pp,d,e1,e2⟩,h1,h2⟩⟩
  exact ⟨Same.refl _,fun b o e n _=>⟨e,n⟩,fun b h=>.inr (zeg h),zgq,r.sub⟩
 ·cases hf
theorem zmi (i:Nat) {x:Str}{p:Pos} (hN:X.N[i]?=some x:=by rfl) (hv:Vis X.env.scope x:=by first | exact Or.inl rfl | exact Or.inr (Or.inl rfl) | exact Or.inr (Or.inr rfl)) (hd:(x == ("__debug__" : Str))=false:=by decide)
  (hcd:(x == ("__classdict__" : Str))=false:=by decide):FS K .fz X (.Return (some (.Name x p)) pos) (retO i):=FS.mk fun ρ fl hf=>by
 unfold retO at hf
 split at hf
 ·rename_i pp d e1
  cases hf
  refine PS.imp (zgp (zjy (zdl hN hv hd hcd))) fun D σ H h_=>?_
  obtain ⟨F,r,q⟩:=h_
  obtain ⟨a,e2,h1,h2⟩:=r.own i pp d e1
  have rd:=r.drop (i:=i)
  have ne:∀ b,zcE (ρ.set i none) σ b→b≠a:=fun b ⟨j,q,x,j1,j2⟩ z=>by
   subst z
   rcases zaf j1 with ⟨rfl,j1'⟩ | ⟨hne,j1'⟩
   ·cases j1'
   ·exact r.inj j i q x (.ow pp d) b hne j1' j2 e1 rfl e2
  refine ⟨_,e2,a,rfl,fun H2 fz=>?_⟩
  have g:Step ρ σ F H (ρ.set i none) σ (frz1 F H2 a) H2:=by
   refine ⟨zcn h1,fun b o e n ho=>?_,fun b h=>.inr (zeg h),zgq,zeH (fz.same r.sub h1)⟩
   have hb:b≠a:=fun z=>ho (by subst z;exact ⟨i,pp,d,e1,e2⟩)
   exact ⟨by rw [fz.ne hb];exact e,by rw [zdQ hb];exact n⟩
  have rf:Rel K (frz1 F H2 a) H2 (ρ.set i none) σ:=by
   refine ⟨zeH (fz.same r.sub h1),fun j x e=>?_,fun j x e=>?_,fun j q x e=>?_,rd.inj,rd.len⟩
   ·obtain ⟨v,h3,h4⟩:=rd.dat j x e;exact ⟨v,h3,h4.mono (zcn h1)⟩
   ·obtain ⟨v,h3,h4⟩:=rd.bor j x e;exact ⟨v,h3,DatB.frz h4 (zcn h1) fz (fun z=>r.inj i j pp d (.bor x) a (fun q=>by subst q;rcases zaf e with ⟨_,e'⟩ | ⟨hne,_⟩;cases e';exact hne rfl) e1 e2 (by rcases zaf e with ⟨_,e'⟩ | ⟨_,e'⟩;cases e';exact e') rfl (by rw [h3,z]))⟩
   ·obtain ⟨c,h3,h4,h5⟩:=rd.own j q x e
    exact ⟨c,h3,by rw [zdQ (ne c ⟨j,q,x,e,h3⟩)];exact h4,h5.mono (zcn h1) fun o e=>by rw [fz.ne (ne c ⟨j,q,x,by assumption,h3⟩)];exact e⟩
  exact q _ σ _ H2 rf g (h2.freeze h1 fz)
 ·cases hf
noncomputable def retN:En→Option Fl:=fun ρ=>some (.rt .non ρ)
noncomputable def ifM (t:En→Option (Bool×En)) (m n:En→Option Fl):En→Option Fl:=fun ρ=>(t ρ).bind fun p=>if p.1=true then m p.2 else n p.2
theorem sif {c:Expr}{a b:List Stmt} {t:En→Option (Bool×En)}(hc:FT K X c t) (ha:FSs K md X a m) (hb:FSs K md X b n):FS K md X (.If c a b pos) (ifM t m n):=FS.mk fun ρ fl hf=>by
 unfold ifM at hf
 cases e1:t ρ with
 | none=>rw [e1] at hf;cases hf
 | some p=>
  obtain ⟨k,ρ1⟩:=p
  rw [e1] at hf
  cases k with
  | true=>
   refine PS.imp (zkZ (hc.h ρ _ _ e1) (ha.h ρ1 fl hf) zdB) fun D σ H ⟨F,r,q⟩=>⟨F,r,fun F1 H1 r1 s1=>iteT (rdS.after r.sub r1 s1 q)⟩
  | false=>
   refine PS.imp (zkZ (hc.h ρ _ _ e1) zdB (hb.h ρ1 fl hf)) fun D σ H ⟨F,r,q⟩=>⟨F,r,fun F1 H1 r1 s1=>iteF (rdS.after r.sub r1 s1 q)⟩
noncomputable def rdG (K:PySem.W.Frag) (ρ:En) (d:D) (ρ':En):TG:=fun v σ H Q=>∃ F,Rel K F H ρ σ∧Dat K F d v∧∀ σ',Rel K F H ρ' σ'→Kp ρ σ ρ' σ'→Q σ' H
structure FG (K:PySem.W.Frag) (X:Cx) (tg:Expr) (g:D→En→Option En):Prop where
 h:∀ ρ d ρ',g d ρ=some ρ'→PG X tg (rdG K ρ d ρ')
noncomputable def rdGs (K:PySem.W.Frag) (ρ:En) (ds:List D) (ρ':En):TGs:=fun vs σ H Q=>∃ F,Rel K F H ρ σ∧DatL K F ds vs∧∀ σ',Rel K F H ρ' σ'→Kp ρ σ ρ' σ'→Q σ' H
structure FGs (K:PySem.W.Frag) (X:Cx) (ts:List Expr) (g:List D→En→Option En):Prop where
 h:∀ ρ ds ρ',g ds ρ=some ρ'→PGs X ts (rdGs K ρ ds ρ')
theorem PG.imp {tg:Expr}{t t':TG} (h:PG X tg t) (w:∀ v σ H Q,t' v σ H Q→t v σ H Q):PG X tg t':=fun pins s σ H v u Q I r ht=>h pins s σ H v u Q I r (w v σ H Q ht)
theorem PGs.imp {tg:List Expr}{t t':TGs} (h:PGs X tg t) (w:∀ v σ H Q,t' v σ H Q→t v σ H Q):PGs X tg t':=fun pins s σ H v u Q I r ht=>h pins s σ H v u Q I r (w v σ H Q ht)
noncomputable def gN (i:Nat):D→En→Option En:=fun d ρ=>some (ρ.set i (some (.dat d)))
theorem zaV (i:Nat) {x:Str}(hN:X.N.Nodup) (hi:X.N[i]?=some x:=by rfl) (hx:Loc X.env.scope x:=by first | exact Or.inl rfl | exact Or.inr rfl) (hf:X.fn x=true∨X.env.scope.names.lookup x=some .local:=by first | exact .inl rfl | exact .inr rfl | assumption):FG K X (.Name x pos) (gN i):=FG.mk fun ρ d ρ' hg=>by
 cases hg
 refine PG.imp (zka hN hi hx hf) fun v σ H Q ⟨F,r,h,q⟩=>q _ (r.setD h) Kp.setD
noncomputable def gNil:List D→En→Option En:=fun ds ρ=>match ds with
 | []=>some ρ
 | _=>none
noncomputable def zaM (g:D→En→Option En) (gs:List D→En→Option En):List D→En→Option En:=fun ds ρ=>match ds with
 | d::l=>(g d ρ).bind (gs l)
 | []=>none
noncomputable def gTup (gs:List D→En→Option En):D→En→Option En:=fun d ρ=>match d with
 | .tup l=>gs l ρ
 | _=>none
theorem gnil:FGs K X [] gNil:=FGs.mk fun ρ ds ρ' hg=>by
 unfold gNil at hg
 split at hg
 ·cases hg
  exact PGs.imp zjZ fun vs σ H Q ⟨F,r,h,q⟩=>⟨h.nil_inv,q σ r Kp.refl⟩
 ·cases hg
theorem zed {es:List Expr}{g:D→En→Option En} {gs:List D→En→Option En}(h1:FG K X e g) (h2:FGs K X es gs)
  (hs:(assignEach (e::es) X.env).map (·.2)=assign e X.env::(assignEach es X.env).map (·.2):=by rfl):FGs K X (e::es) (zaM g gs):=FGs.mk fun ρ ds ρ' hg=>by
 unfold zaM at hg
 split at hg
 ·rename_i d l
  cases e1:g d ρ with
  | none=>rw [e1] at hg;cases hg
  | some ρ1=>
   rw [e1] at hg
   refine PGs.imp (ziG (h1.h ρ d ρ1 e1) (h2.h ρ1 l ρ' hg) hs) fun vs σ H Q h_=>?_
   obtain ⟨F,r,h,q⟩:=h_
   obtain ⟨v,vr,e,d1,d2⟩:=h.cons_inv
   exact ⟨v,vr,e,F,r,d1,fun σ1 r1 o1=>⟨F,r1,d2,fun σ2 r2 o2=>q σ2 r2 (o1.trans o2)⟩⟩
 ·cases hg
theorem gtup {es:List Expr}{k:Nat} {gs:List D→En→Option En}{n:Nat} (hc:X.calm=true) (h:FGs K X es gs) (hl:∀ ds ρ ρ',gs ds ρ=some ρ'→ds.length=n)
  (hn:(assignEach es X.env).length=n:=by rfl) (hst:(assignEach es X.env).findIdx? (·.1)=none:=by rfl) (hK:X.K=K:=by rfl):FG K X (.Tuple es k pos) (gTup gs):=FG.mk fun ρ d ρ' hg=>by
 subst hK
 unfold gTup at hg
 split at hg
 ·rename_i l
  refine PG.imp (zld hc (h.h ρ l ρ' hg) hn hst) fun v σ H Q h_=>?_
  obtain ⟨F,r,hd,q⟩:=h_
  obtain ⟨a,vs,rfl,f,qq⟩:=hd.tup_inv
  exact ⟨a,vs,rfl,SqT.of (r.sub _ _ f),by rw [qq.length];exact hl l ρ ρ' hg,F,r,qq,q⟩
 ·cases hg
theorem zdK:∀ ds ρ ρ',gNil ds ρ=some ρ'→ds.length=0:=fun ds ρ ρ' h=>by
 unfold gNil at h
 split at h
 ·rfl
 ·cases h
theorem zaT {g:D→En→Option En}{gs:List D→En→Option En} {n:Nat}(h:∀ ds ρ ρ',gs ds ρ=some ρ'→ds.length=n):∀ ds ρ ρ',zaM g gs ds ρ=some ρ'→ds.length=n + 1:=fun ds ρ ρ' hg=>by
 unfold zaM at hg
 split at hg
 ·rename_i d l
  cases e1:g d ρ with
  | none=>rw [e1] at hg;cases hg
  | some ρ1=>rw [e1] at hg;rw [List.length_cons,h l ρ1 ρ' hg]
 ·cases hg
noncomputable def asgM (f:En→Option D) (g:D→En→Option En):En→Option Fl:=fun ρ=>(f ρ).bind fun d=>(g d ρ).map Fl.nx
theorem sasg {tg:Expr}{g:D→En→Option En} (he:FP K .fz X e f) (hg:FG K X tg g) (hs:swapsWithSole [tg] e pos.line X.env=pure false:=by rfl) (hw:swappedStores [tg] e X.env=pure none:=by rfl)
  (h1:(assignEach [tg] X.env).map (·.2)=[assign tg X.env]:=by rfl):FS K md X (.Assign [tg] e pos) (asgM f g):=FS.mk fun ρ fl hf=>by
 unfold asgM at hf
 cases e1:f ρ with
 | none=>rw [e1] at hf;cases hf
 | some d=>
  cases e2:g d ρ with
  | none=>rw [e1] at hf;simp [e2] at hf
  | some ρ1=>
   rw [e1] at hf;simp [e2] at hf;cases hf
   refine PS.imp (zjx (he.h ρ d e1) (hg.h ρ d ρ1 e2) hs hw h1) fun D σ H ⟨F,r,q⟩=>⟨F,r,fun v F1 H1 g1 h=>⟨F1,r.grow g1,h,fun σ1 r1 o1=>?_⟩⟩
   have s1:=g1.step (ρ:=ρ) (σ:=σ)
   exact q σ1 F1 H1 r1 (s1.kp o1)
noncomputable def setM (i:Nat) (f:En→Option D):En→Option Fl:=fun ρ=>(f ρ).map fun d=>.nx (ρ.set i (some (.dat d)))
theorem sset (i:Nat) {x:Str}{pos':Pos} (hN:X.N.Nodup) (he:FP K .fz X e f) (hi:X.N[i]?=some x:=by rfl) (hx:Loc X.env.scope x:=by first | exact Or.inl rfl | exact Or.inr rfl) (hs:swapsWith e (some (.Name x pos')) pos.line X.env=pure false:=by rfl) (hf:X.fn x=true∨X.env.scope.names.lookup x=some .local:=by first | exact .inl rfl | exact .inr rfl | assumption) :
  FS K md X (.Assign [.Name x pos'] e pos) (setM i f):=FS.mk fun ρ fl hm=>by
 unfold setM at hm
 cases e1:f ρ with
 | none=>rw [e1] at hm;cases hm
 | some d=>
  rw [e1] at hm;cases hm
  refine PS.imp (zjw hN hi hx (he.h ρ d e1) hs hf) fun D σ H ⟨F,r,q⟩=>⟨F,r,fun v F1 H1 g1 h=>?_⟩
  have s1:=g1.step (ρ:=ρ) (σ:=σ)
  exact q _ F1 H1 ((r.grow g1).setD h) (s1.kp Kp.setD)
noncomputable def zdp (ρ:En):Bool:=ρ.all fun s=>match s with
 | some (.bor _)=>false
 | _=>true
theorem zhI {ρ:En}(h:zdp ρ=true):∀ (j:Nat) s,ρ[j]?=some (some s)→s.isDat=false→∃ q x,s=.ow q x:=fun j s e hs=>by
 have:=List.all_eq_true.mp h (some s) (List.mem_of_getElem? e)
 cases s with
 | dat d=>cases hs
 | ow q d=>exact ⟨q,d,rfl⟩
 | bor d=>cases this
noncomputable def setO (i:Nat) (f:En→Option D):En→Option Fl:=fun ρ=>if zdp ρ=true then (f ρ).map fun d=>.nx (ρ.set i (some (.own d))) else none
theorem zhn (i:Nat) {x:Str}{pos':Pos} (hN:X.N.Nodup) (he:FP K .ow X e f) (hi:X.N[i]?=some x:=by rfl) (hx:Loc X.env.scope x:=by first | exact Or.inl rfl | exact Or.inr rfl) (hs:swapsWith e (some (.Name x pos')) pos.line X.env=pure false:=by rfl) (hf:X.fn x=true∨X.env.scope.names.lookup x=some .local:=by first | exact .inl rfl | exact .inr rfl | assumption) :
  FS K md X (.Assign [.Name x pos'] e pos) (setO i f):=FS.mk fun ρ fl hm=>by
 unfold setO at hm
 split at hm
 ·rename_i nb
  cases e1:f ρ with
  | none=>rw [e1] at hm;cases hm
  | some d=>
   rw [e1] at hm;cases hm
   refine PS.imp (zjw hN hi hx (he.h ρ d e1) hs hf) fun D σ H ⟨F,r,q⟩=>⟨F,r,fun v F1 H1 g1 ⟨a,ev,h1,h2,h3⟩=>?_⟩
   subst ev
   have s1:=g1.step (ρ:=ρ) (σ:=σ)
   refine q _ F1 H1 (r.setO g1 h1 h2 h3 (zhI nb)) ⟨s1.ff,s1.rest,fun b z=>?_,zhv (fun d h=>by cases h),s1.fh⟩
   rcases zfj z with ⟨_,_,_,z⟩ | z
   ·cases z;exact .inl h1
   ·exact .inr z
 ·cases hm
end
end FL
set_option Elab.async false
set_option linter.all false
set_option maxRecDepth 100000
namespace FL
open PySem PySem.Spec PyProof.Rows L2
section
variable {K:PySem.W.Frag}{F H F' H':Hp} {ρ ρ':En}{σ σ':St} {i:Nat}
theorem DatB.upd {d:D}{v:V} {a:Addr}{o:HO} (h:DatB K F H d v) (hv:v≠.ref a):DatB K F (upd H a o) d v:=by
 cases d with
 | lst l=>obtain ⟨b,vs,rfl,f,q⟩:=h.lst_inv;exact ⟨b,vs,rfl,by rw [zar (fun z=>hv (by rw [z]))];exact f,q⟩
 | dic k l=>obtain ⟨b,vs,rfl,f,q⟩:=h.dic_inv;exact ⟨b,vs,rfl,f.at (zar (fun z=>hv (by rw [z]))),q⟩
 | set l=>obtain ⟨b,rfl,f⟩:=h;exact ⟨b,rfl,zci.at (F:=H) (zar (fun z=>hv (by rw [z]))) f⟩
 | _=>exact h
theorem Rel.mut (r:Rel K F H ρ σ) {pp:Bool}{d d':D} {a:Addr}{o:HO} (e:ρ[i]?=some (some (.ow pp d))) (hσ:σ[i]?=some (some (.ref a))) (ho:Own K F (upd H a o) d' a) :
  Rel K F (upd H a o) (ρ.set i (some (.ow pp d'))) σ∧Step ρ σ F H (ρ.set i (some (.ow pp d'))) σ F (upd H a o):=by
 obtain ⟨a',e1,fa,_⟩:=r.own i pp d e
 rw [hσ] at e1;cases e1
 have sub:Same F (L2.upd H a o):=fun b u h=>by rw [zar (zal h fa)];exact r.sub _ _ h
 have hi:i < ρ.length:=(List.getElem?_eq_some_iff.mp e).1
 refine ⟨⟨sub,fun j x q=>?_,fun j x q=>?_,fun j qq x q=>?_,fun j k qq x s c ne e1 e2 e3 e4=>?_,by simp [r.len]⟩,⟨Same.refl _,fun b u h n no=>⟨?_,n⟩,fun b h=>.inr ?_,fun j x e'=>?_,sub⟩⟩
 ·rcases zaf q with ⟨rfl,q'⟩ | ⟨ne,q'⟩
  ·cases q'
  ·exact r.dat j x q'
 ·rcases zaf q with ⟨rfl,q'⟩ | ⟨ne,q'⟩
  ·cases q'
  ·obtain ⟨v,h1,h2⟩:=r.bor j x q'
   refine ⟨v,h1,h2.upd fun z=>?_⟩
   subst z
   exact r.inj i j pp d _ a (Ne.symm ne) e hσ q' rfl h1
 ·rcases zaf q with ⟨rfl,q'⟩ | ⟨ne,q'⟩
  ·cases q'
   exact ⟨a,hσ,fa,ho⟩
  ·obtain ⟨c,h1,h2,h3⟩:=r.own j qq x q'
   have hc:c≠a:=fun z=>by
    subst z
    exact r.inj i j pp d _ c (Ne.symm ne) e hσ q' rfl h1
   exact ⟨c,h1,h2,h3.mono (Same.refl _) fun u hu=>by rw [zar hc];exact hu⟩
 ·rcases zaf e1 with ⟨rfl,e1'⟩ | ⟨ne1,e1'⟩
  ·rcases zaf e3 with ⟨rfl,e3'⟩ | ⟨ne3,e3'⟩
   ·exact absurd rfl ne
   ·exact r.inj j k pp d s c ne e e2 e3' e4
  ·rcases zaf e3 with ⟨rfl,e3'⟩ | ⟨ne3,e3'⟩
   ·exact r.inj j k qq x (.ow pp d) c ne e1' e2 e rfl
   ·exact r.inj j k qq x s c ne e1' e2 e3' e4
 ·rw [zar (fun z=>no (by subst z;exact ⟨i,pp,d,e,hσ⟩))];exact h
 ·obtain ⟨j,qq,x,j1,j2⟩:=h
  rcases zaf j1 with ⟨rfl,j1'⟩ | ⟨ne,j1'⟩
  ·exact ⟨j,pp,d,e,j2⟩
  ·exact ⟨j,qq,x,j1',j2⟩
 ·rcases zaf e' with ⟨rfl,e''⟩ | ⟨ne,e''⟩
  ·cases e''
   exact ⟨d,e,rfl⟩
  ·exact ⟨x,e'',rfl⟩
end
noncomputable def rdX (K:PySem.W.Frag) (ρ:En) (d:D) (ρ':En):TE:=fun σ H Q=>∃ F,Rel K F H ρ σ∧∀ v F' H',Rel K F' H' ρ' σ→Step ρ σ F H ρ' σ F' H'→Dat K F' d v→Q v H'
structure FX (K:PySem.W.Frag) (X:Cx) (e:Expr) (m:En→Option (D×En)):Prop where
 h:∀ ρ d ρ',m ρ=some (d,ρ')→PE X e (rdX K ρ d ρ')
noncomputable def appM (i:Nat) (f:En→Option D):En→Option (D×En):=fun ρ=>match ρ[i]?,f ρ with
 | some (some (.ow pp (.lst l))),some d=>if l.length < lim then some (.non,ρ.set i (some (.ow pp (.lst (l++[d]))))) else none
 | _,_=>none
noncomputable def extM (i:Nat) (f:En→Option D):En→Option (D×En):=fun ρ=>match ρ[i]?,f ρ with
 | some (some (.ow pp (.lst l))),some (.lst m)=>if l.length + m.length≤lim then some (.non,ρ.set i (some (.ow pp (.lst (l++m))))) else none
 | _,_=>none
noncomputable def popM (i:Nat):En→Option (D×En):=fun ρ=>match ρ[i]? with
 | some (some (.ow pp (.lst l)))=>(l[l.length - 1]?).map fun d=>(d,ρ.set i (some (.ow pp (.lst l.dropLast))))
 | _=>none
noncomputable def zdj (i:Nat) (f:En→Option D):En→Option (D×En):=fun ρ=>match ρ[i]?,f ρ with
 | some (some (.ow pp (.lst l))),some (.int k)=>if -(2 ^ 63)≤k∧k < 2 ^ 63 then (seqIndex? k l.length).bind fun j=>(l[j]?).map fun d=>(d,ρ.set i (some (.ow pp (.lst (l.eraseIdx j))))) else none
 | _,_=>none
section
variable {K:PySem.W.Frag}{md:Md} {X:Cx}{e:Expr} {f:En→Option D}{pos:Pos} {x:Str}{p apos cpos:Pos}
theorem zfM (i:Nat) (he:FP K .fz X e f) (hN:X.N[i]?=some x:=by rfl) (hv:Vis X.env.scope x:=by first | exact Or.inl rfl | exact Or.inr (Or.inl rfl) | exact Or.inr (Or.inr rfl)) (hd:(x == ("__debug__" : Str))=false:=by decide)
  (hcd:(x == ("__classdict__" : Str))=false:=by decide) (hbase:attributeBase (.Name x p) "append" X.env (eval (.Name x p) X.env)=eval (.Name x p) X.env:=by rfl)
  (hfew:((backTo cpos (starEach [e] X.env)).all (fun x=>!x.1) && (backToKw cpos (keywordEach [] X.env)).all (fun x=>x.1.isSome) && decide (([e]:List Expr).length + ([]:List Keyword).length + (if ([]:List Keyword).isEmpty then 0 else 1) < 30))=true:=by rfl)
  (hline:(apos.endLine == cpos.line)=true:=by rfl) (hs:starEach [e] X.env=(false,eval e X.env)::starEach [] X.env:=by rfl) (hplain:(backTo cpos (starEach [] X.env)).any (·.1)=false:=by rfl) (hK:X.K=K:=by rfl) :
  FX K X (.Call (.Attribute (.Name x p) "append" apos) [e] [] cpos) (appM i f):=FX.mk fun ρ d ρ' hf=>by
 subst hK
 unfold appM at hf
 split at hf
 ·rename_i pp l dd e1 e2
  obtain ⟨hz,hf⟩:=zau hf
  cases hf
  refine PE.imp (ziJ PySem.F.plainAttrs_list PySem.F.slot_list_append PySem.F.type_list_append zfp (zdl hN hv hd hcd) (zbd (he.h ρ dd e2) zcM hs) hbase hfew hline hs hplain) fun σ H Q h_=>?_
  obtain ⟨F,r,q⟩:=h_
  obtain ⟨a,h1,h2,vs,h3,h4⟩:=r.own i _ _ e1
  refine ⟨_,h1,.inl ⟨rfl,vs,SqL.of h3⟩,F,r,fun v F1 H1 g1 r1=>?_⟩
  have rg:=r.grow g1
  obtain ⟨a',h1',h2',vs',h3',h4'⟩:=rg.own i _ _ e1
  rw [h1] at h1';cases h1'
  have h3'':=g1.hh _ _ h3
  rw [h3'] at h3'';cases h3''
  refine ⟨a,vs,v,rfl,rfl,h3',by rw [h4'.length];exact zjB (Nat.le_of_lt hz),?_⟩
  obtain ⟨m1,m2⟩:=rg.mut (i:=i) (o:=.lst (vs++[v])) (d':=.lst (l++[dd])) e1 h1 ⟨_,zam,h4'.snoc r1⟩
  exact q _ _ _ m1 (g1.step.trans m2 r.sub) (Dat.non (K:=X.K))
 ·cases hf
theorem zjF (i:Nat) (he:FP K .fz X e f) (hN:X.N[i]?=some x:=by rfl) (hv:Vis X.env.scope x:=by first | exact Or.inl rfl | exact Or.inr (Or.inl rfl) | exact Or.inr (Or.inr rfl)) (hd:(x == ("__debug__" : Str))=false:=by decide)
  (hcd:(x == ("__classdict__" : Str))=false:=by decide) (hbase:attributeBase (.Name x p) "extend" X.env (eval (.Name x p) X.env)=eval (.Name x p) X.env:=by rfl)
  (hfew:((backTo cpos (starEach [e] X.env)).all (fun x=>!x.1) && (backToKw cpos (keywordEach [] X.env)).all (fun x=>x.1.isSome) && decide (([e]:List Expr).length + ([]:List Keyword).length + (if ([]:List Keyword).isEmpty then 0 else 1) < 30))=true:=by rfl)
  (hline:(apos.endLine == cpos.line)=true:=by rfl) (hs:starEach [e] X.env=(false,eval e X.env)::starEach [] X.env:=by rfl) (hplain:(backTo cpos (starEach [] X.env)).any (·.1)=false:=by rfl) (hK:X.K=K:=by rfl) :
  FX K X (.Call (.Attribute (.Name x p) "extend" apos) [e] [] cpos) (extM i f):=FX.mk fun ρ d ρ' hf=>by
 subst hK
 unfold extM at hf
 split at hf
 ·rename_i pp l m e1 e2
  obtain ⟨hz,hf⟩:=zau hf
  cases hf
  refine PE.imp (ziJ PySem.F.plainAttrs_list PySem.F.slot_list_extend PySem.F.type_list_extend zhK (zdl hN hv hd hcd) (zbd (he.h ρ _ e2) zcM hs) hbase hfew hline hs hplain) fun σ H Q h_=>?_
  obtain ⟨F,r,q⟩:=h_
  obtain ⟨a,h1,h2,vs,h3,h4⟩:=r.own i _ _ e1
  refine ⟨_,h1,.inl ⟨rfl,vs,SqL.of h3⟩,F,r,fun v F1 H1 g1 r1=>?_⟩
  have rg:=r.grow g1
  obtain ⟨a',h1',h2',vs',h3',h4'⟩:=rg.own i _ _ e1
  rw [h1] at h1';cases h1'
  have h3'':=g1.hh _ _ h3
  rw [h3'] at h3'';cases h3''
  obtain ⟨b,us,rfl,f1,q1⟩:=Dat.lst_inv (K:=X.K) (F:=F1) r1
  refine ⟨a,b,vs,us,rfl,rfl,h3',g1.fh _ _ f1,by rw [h4'.length,q1.length];exact zbV hz,?_⟩
  obtain ⟨m1,m2⟩:=rg.mut (i:=i) (o:=.lst (vs++us)) (d':=.lst (l++m)) e1 h1 ⟨_,zam,h4'.append q1⟩
  exact q _ _ _ m1 (g1.step.trans m2 r.sub) (Dat.non (K:=X.K))
 ·cases hf
theorem xpop (i:Nat) (hN:X.N[i]?=some x:=by rfl) (hv:Vis X.env.scope x:=by first | exact Or.inl rfl | exact Or.inr (Or.inl rfl) | exact Or.inr (Or.inr rfl)) (hd:(x == ("__debug__" : Str))=false:=by decide)
  (hcd:(x == ("__classdict__" : Str))=false:=by decide) (hbase:attributeBase (.Name x p) "pop" X.env (eval (.Name x p) X.env)=eval (.Name x p) X.env:=by rfl)
  (hline:(apos.endLine == cpos.line)=true:=by rfl) (hK:X.K=K:=by rfl) :
  FX K X (.Call (.Attribute (.Name x p) "pop" apos) [] [] cpos) (popM i):=FX.mk fun ρ d ρ' hf=>by
 subst hK
 unfold popM at hf
 split at hf
 ·rename_i pp l e1
  cases e2:l[l.length - 1]? with
  | none=>rw [e2] at hf;cases hf
  | some dd=>
   rw [e2] at hf;cases hf
   refine PE.imp (zlk PySem.F.plainAttrs_list PySem.F.slot_list_pop PySem.F.type_list_pop zlz (zdl hN hv hd hcd) hbase hline) fun σ H Q h_=>?_
   obtain ⟨F,r,q⟩:=h_
   obtain ⟨a,h1,h2,vs,h3,h4⟩:=r.own i _ _ e1
   obtain ⟨v,h5,h6⟩:=h4.get e2
   refine ⟨_,h1,.inl ⟨rfl,vs,SqL.of h3⟩,a,vs,v,rfl,rfl,h3,by rw [h4.length];exact h5,?_⟩
   obtain ⟨m1,m2⟩:=r.mut (i:=i) (o:=.lst vs.dropLast) (d':=.lst l.dropLast) e1 h1 ⟨_,zam,h4.dropLast⟩
   exact q _ _ _ m1 m2 h6
 ·cases hf
noncomputable def zcC (m:En→Option (D×En)):En→Option Fl:=fun ρ=>(m ρ).map fun p=>.nx p.2
theorem zfb {m:En→Option (D×En)}(he:FX K X e m) (hs:swapsWith e none pos.line X.env=pure false:=by rfl):FS K md X (.Expr e pos) (zcC m):=FS.mk fun ρ fl hf=>by
 unfold zcC at hf
 cases e1:m ρ with
 | none=>rw [e1] at hf;cases hf
 | some q1=>
  obtain ⟨d,ρ1⟩:=q1
  rw [e1] at hf;cases hf
  exact PS.imp (zjT (he.h ρ d ρ1 e1) hs) fun D σ H ⟨F,r,q⟩=>⟨F,r,fun v F1 H1 r1 s1 _=>q σ F1 H1 r1 s1⟩
noncomputable def asgX (m:En→Option (D×En)) (g:D→En→Option En):En→Option Fl:=fun ρ=>(m ρ).bind fun p=>(g p.1 p.2).map Fl.nx
theorem zmj {m:En→Option (D×En)}{tg:Expr} {g:D→En→Option En}(he:FX K X e m) (hg:FG K X tg g) (hs:swapsWithSole [tg] e pos.line X.env=pure false:=by rfl) (hw:swappedStores [tg] e X.env=pure none:=by rfl)
  (h1:(assignEach [tg] X.env).map (·.2)=[assign tg X.env]:=by rfl):FS K md X (.Assign [tg] e pos) (asgX m g):=FS.mk fun ρ fl hf=>by
 unfold asgX at hf
 cases e1:m ρ with
 | none=>rw [e1] at hf;cases hf
 | some q1=>
  obtain ⟨d,ρ1⟩:=q1
  cases e2:g d ρ1 with
  | none=>rw [e1] at hf;simp [e2] at hf
  | some ρ2=>
   rw [e1] at hf;simp [e2] at hf;cases hf
   refine PS.imp (zjx (he.h ρ d ρ1 e1) (hg.h ρ1 d ρ2 e2) hs hw h1) fun D σ H ⟨F,r,q⟩=>⟨F,r,fun v F1 H1 r1 s1 h=>⟨F1,r1,h,fun σ2 r2 o2=>?_⟩⟩
   exact q σ2 F1 H1 r2 (s1.kp o2)
end
end FL
set_option Elab.async false
set_option linter.all false
set_option maxRecDepth 100000
namespace FL
open PySem PySem.Spec PyProof.Rows L2
noncomputable def zbK (t:En→Option (Bool×En)) (b:En→Option Fl):Nat→En→Option Fl
 | 0,_=>none
 | n + 1,ρ=>match t ρ with
  | some (true,ρ1)=>match b ρ1 with
   | some (.nx ρ2)=>zbK t b n ρ2
   | some (.ct ρ2)=>zbK t b n ρ2
   | some (.bk ρ2)=>some (.nx ρ2)
   | some (.rt d ρ2)=>some (.rt d ρ2)
   | some (.rs c d ρ2)=>some (.rs c d ρ2)
   | none=>none
  | some (false,ρ1)=>some (.nx ρ1)
  | none=>none
section
variable {K:PySem.W.Frag}{md:Md} {X:Cx}{pos:Pos}
theorem PT.any {c:Expr}{ι:Type} {t:ι→TT}(h:∀ i,PT X c (t i)):PT X c (fun σ H Q=>∃ i,t i σ H Q):=fun pins s σ H Q I ⟨i,hi⟩=>h i pins s σ H Q I hi
theorem PSs.any {c:List Stmt}{ι:Type} {t:ι→TS}(h:∀ i,PSs X c (t i)):PSs X c (fun D σ H=>∃ i,t i D σ H):=fun pins s σ H D I ⟨i,hi⟩=>h i pins s σ H D I hi
theorem PE.any {c:Expr}{ι:Type} {t:ι→TE}(h:∀ i,PE X c (t i)):PE X c (fun σ H Q=>∃ i,t i σ H Q):=fun pins s σ H Q I ⟨i,hi⟩=>h i pins s σ H Q I hi
theorem PG.any {c:Expr}{ι:Type} {t:ι→TG}(h:∀ i,PG X c (t i)):PG X c (fun v σ H Q=>∃ i,t i v σ H Q):=fun pins s σ H v u Q I r ⟨i,hi⟩=>h i pins s σ H v u Q I r hi
theorem PIf.any {c:List Expr}{ι:Type} {t:ι→TT}(h:∀ i,PIf X c (t i)):PIf X c (fun σ H Q=>∃ i,t i σ H Q):=fun pins s σ H Q I ⟨i,hi⟩=>h i pins s σ H Q I hi
theorem zkM {c:Expr}{body:List Stmt} {t:En→Option (Bool×En)}{b:En→Option Fl} (n:Nat) (hp:PassesOwn (model X.prog X.w) X.A X.env X.xe) (hc:FT K X c t) (hb:FSs K md X body b):FS K md X (.While c body [] pos) (zbK t b n):=FS.mk fun ρ fl hf=>by
 have hc':=PT.any (X:=X) (c:=c) (t:=fun i:{ q:En×Bool×En // t q.1=some q.2 }=>rdT K i.1.1 i.1.2.1 i.1.2.2) fun i=>hc.h _ _ _ i.2
 have hb':=PSs.any (X:=X) (c:=body) (t:=fun i:{ q:En×Fl // b q.1=some q.2 }=>rdS X K md i.1.1 i.1.2) fun i=>hb.h _ _ i.2
 refine PS.imp (ziC hp hc' hb') fun D σ H h_=>?_
 obtain ⟨F,r,q⟩:=h_
 refine ⟨fun k σ1 H1=>∃ ρ1 F1,Rel K F1 H1 ρ1 σ1∧Step ρ σ F H ρ1 σ1 F1 H1∧zbK t b k ρ1=some fl,⟨n,ρ,F,r,(Grow.refl r.sub).step,hf⟩,?_⟩
 rintro k σ1 H1 ⟨ρ1,F1,r1,s1,e1⟩
 cases k with
 | zero=>simp [zbK] at e1
 | succ k=>
  simp only [zbK] at e1
  cases e2:t ρ1 with
  | none=>rw [e2] at e1;cases e1
  | some p=>
   obtain ⟨c1,ρ2⟩:=p
   rw [e2] at e1
   refine ⟨⟨(ρ1,c1,ρ2),e2⟩,F1,r1,fun F2 H2 r2 s2=>?_⟩
   have s12:=s1.trans s2 r.sub
   cases c1 with
   | false=>
    have e1:some (Fl.nx ρ2)=some fl:=e1
    cases e1
    exact iteF (q σ1 F2 H2 r2 s12)
   | true=>
    refine iteT ?_
    refine ⟨fun σ' H'=>∃ ρ3 F3,Rel K F3 H' ρ3 σ'∧Step ρ σ F H ρ3 σ' F3 H'∧zbK t b k ρ3=some fl,fun σ' H' z=>⟨k,Nat.lt_succ_self k,z⟩,?_⟩
    cases e3:b ρ2 with
    | none=>simp only [e3] at e1;cases e1
    | some fl2=>
     simp only [e3] at e1
     refine ⟨⟨(ρ2,fl2),e3⟩,F2,r2,?_⟩
     cases fl2 with
     | nx ρ3=>exact fun σ3 F3 H3 r3 s3=>⟨ρ3,F3,r3,s12.trans s3 r.sub,e1⟩
     | ct ρ3=>exact fun σ3 F3 H3 r3 s3=>⟨ρ3,F3,r3,s12.trans s3 r.sub,e1⟩
     | bk ρ3=>cases e1;exact fun σ3 F3 H3 r3 s3=>q σ3 F3 H3 r3 (s12.trans s3 r.sub)
     | rt d ρ3=>cases e1;exact fun v σ3 F3 H3 r3 s3 h=>q v σ3 F3 H3 r3 (s12.trans s3 r.sub) (ResR.back s12 r.sub h)
     | rs c d ρ3=>cases e1;exact fun σ3 F3 H3 C da r3 s3 x=>q σ3 F3 H3 C da r3 (s12.trans s3 r.sub) x
end
noncomputable def zfL (K:PySem.W.Frag) (J:It) (F:Hp) (ds:List D):Prop:=∀ F2 H2,Same F F2→Same F2 H2→
 (∀ i,i < ds.length→J.go i H2)∧(∀ i x H3 d,ds[i]?=some d→J.yld i H2 x H3→∃ F3,Grow F2 H2 F3 H3∧Dat K F3 d x)∧J.stop ds.length H2
noncomputable def rdI (K:PySem.W.Frag) (ρ:En) (ds:List D):TI:=fun σ H R=>∃ F,Rel K F H ρ σ∧∀ J F' H',Grow F H F' H'→zfL K J F' ds→R J H'
structure FI (K:PySem.W.Frag) (X:Cx) (tg iter:Expr) (f:En→Option (List D)):Prop where
 h:∀ ρ ds,f ρ=some ds→PI X tg iter (rdI K ρ ds)
theorem PI.imp {X:Cx}{tg iter:Expr} {t t':TI}(h:PI X tg iter t) (w:∀ σ H R,t' σ H R→t σ H R):PI X tg iter t':=fun pins s σ H R I ht=>h pins s σ H R I (w σ H R ht)
noncomputable def itS:D→Option (List D)
 | .lst l=>some l
 | .tup l=>some l
 | .scr l=>some (l.map D.int)
 | _=>none
noncomputable def cI (f:En→Option D):En→Option (List D):=fun ρ=>(f ρ).bind itS
theorem zfq {K:PySem.W.Frag}{a:Addr} {F:Hp}{vs:List V} {ds:List D}(h:∀ F2 H2,Same F F2→Same F2 H2→SqL K H2 a vs) (q:DatL K F ds vs):zfL K (Itl K a) F ds:=fun F2 H2 f2 h2=>by
 have hs:=h F2 H2 f2 h2
 have hl:=q.length
 refine ⟨fun i hi=>⟨vs,vs[i]'(by omega),hs,by simp⟩,fun i x H3 d hd y=>?_,⟨vs,hs,by omega⟩⟩
 obtain ⟨rfl,y⟩:=y
 obtain ⟨v,hv,dv⟩:=q.get hd
 rw [y vs hs] at hv;cases hv
 exact ⟨F2,Grow.refl h2,dv.mono f2⟩
theorem ziY {K:PySem.W.Frag}{a:Addr} {F:Hp}{vs:List V} {ds:List D}(h:F a=some (.tup vs)) (q:DatL K F ds vs):zfL K (Itt K a) F ds:=fun F2 H2 f2 h2=>by
 have hs:SqT K H2 a vs:=SqT.of (h2 _ _ (f2 _ _ h))
 have hl:=q.length
 refine ⟨fun i hi=>⟨vs,vs[i]'(by omega),hs,by simp⟩,fun i x H3 d hd y=>?_,⟨vs,hs,by omega⟩⟩
 obtain ⟨rfl,y⟩:=y
 obtain ⟨v,hv,dv⟩:=q.get hd
 rw [y vs hs] at hv;cases hv
 exact ⟨F2,Grow.refl h2,dv.mono f2⟩
section
variable {K:PySem.W.Frag}{md:Md} {X:Cx}{pos:Pos} {tg l:Expr}{f:En→Option D}
theorem iseq (h:FP K .fz X l f) (hK:X.K=K:=by rfl):FI K X tg l (cI f):=FI.mk fun ρ ds hf=>by
 subst hK
 unfold cI at hf
 cases e1:f ρ with
 | none=>rw [e1] at hf;cases hf
 | some d=>
  rw [e1] at hf
  have hf:itS d=some ds:=hf
  cases d<;>simp only [itS] at hf<;>try (cases hf;done)
  ·cases hf
   refine PI.imp (zlc (h.h ρ _ e1)) fun σ H R ⟨F,r,q⟩=>⟨F,r,fun v F1 H1 g1 r1=>?_⟩
   obtain ⟨a,vs,rfl,f1,q1⟩:=Dat.tup_inv (K:=X.K) (F:=F1) r1
   exact ⟨a,rfl,⟨vs,SqT.of (g1.fh _ _ f1)⟩,q _ F1 H1 g1 (ziY f1 q1)⟩
  ·cases hf
   refine PI.imp (zhy (h.h ρ _ e1)) fun σ H R ⟨F,r,q⟩=>⟨F,r,fun v F1 H1 g1 r1=>?_⟩
   obtain ⟨a,vs,rfl,f1,q1⟩:=Dat.lst_inv (K:=X.K) (F:=F1) r1
   exact ⟨a,rfl,⟨vs,SqL.of (g1.fh _ _ f1)⟩,q _ F1 H1 g1 (zfq (fun F2 H2 a b=>SqL.of (b _ _ (a _ _ f1))) q1)⟩
  ·cases hf
   refine PI.imp (zhy (h.h ρ _ e1)) fun σ H R ⟨F,r,q⟩=>⟨F,r,fun v F1 H1 g1 r1=>?_⟩
   obtain ⟨a,rfl,f1⟩:=Dat.scr_inv (K:=X.K) (F:=F1) r1
   exact ⟨a,rfl,⟨_,Same.seq g1.fh f1⟩,q _ F1 H1 g1 (zfq (fun F2 H2 a b=>Same.seq b (Same.seq a f1)) (DatL.ofInts _))⟩
noncomputable def zaX (lo:Int) (n:Nat):List D:=(List.range n).map fun (k:Nat)=>D.int (lo + (k:Int))
theorem zgT {lo:Int}{n:Nat} {F:Hp}:zfL K (Itr lo n) F (zaX lo n):=fun F2 H2 f2 h2=>by
 refine ⟨fun i hi=>(show i < n by simpa [zaX] using hi),fun i x H3 d hd y=>?_,by simp [zaX,Itr]⟩
 obtain ⟨rfl,rfl⟩:=y
 have:d=D.int (lo + (i:Int)):=by
  unfold zaX at hd
  rw [List.getElem?_map] at hd
  cases e:(List.range n)[i]? with
  | none=>rw [e] at hd;cases hd
  | some k=>
   rw [e] at hd
   have:=(List.getElem?_eq_some_iff.mp e).2
   simp at this
   subst this
   exact (Option.some.inj hd).symm
 subst this
 exact ⟨F2,Grow.refl h2,Dat.int (K:=K) (F:=F2) _⟩
noncomputable def ziO (j:Int):Prop:=-(2 ^ 62)≤j∧j < 2 ^ 62
theorem zbj {j:Int}(h1:-4611686018427387904≤j) (h2:j < 4611686018427387904):ziO j:=⟨h1,h2⟩
open Classical in
noncomputable def rng1:D→Option (List D)
 | .int j=>if ziO j then some (zaX 0 j.toNat) else none
 | _=>none
open Classical in
noncomputable def rng2:D→D→Option (List D)
 | .int i,.int j=>if ziO i∧ziO j then some (zaX i (j - i).toNat) else none
 | _,_=>none
noncomputable def cR1 (f:En→Option D):En→Option (List D):=fun ρ=>(f ρ).bind rng1
noncomputable def cR2 (f g:En→Option D):En→Option (List D):=fun ρ=>(f ρ).bind fun x=>(g ρ).bind fun y=>rng2 x y
theorem zdc {a:Expr}{p:Pos} (h:FP K .fz X a f) (hg:Gl X "range") (hm:X.mg "range" = none) (hs:starEach [a] X.env=[(false,eval a X.env)]:=by rfl):FI K X tg (.Call (.Name "range" p) [a] [] pos) (cR1 f):=FI.mk fun ρ ds hf=>by
 unfold cR1 at hf
 cases e1:f ρ with
 | none=>rw [e1] at hf;cases hf
 | some d=>
  rw [e1] at hf
  have hf:rng1 d=some ds:=hf
  cases d<;>simp only [rng1] at hf<;>try (cases hf;done)
  obtain ⟨hz,rfl⟩:=zau hf
  refine PI.imp (zhx hg hm (zbd (h.h ρ _ e1) zcM hs) hs) fun σ H R ⟨F,r,q⟩=>⟨F,r,fun v F1 H1 g1 r1=>?_⟩
  have ev:=Dat.int_inv (K:=K) (F:=F1) r1
  subst ev
  exact ⟨_,rfl,hz.1,hz.2,q _ F1 H1 g1 zgT⟩
noncomputable def zeK:Nat→List D→List D
 | _,[]=>[]
 | k,d::l=>.tup [.int k,d]::zeK (k + 1) l
theorem zdT:∀ (k:Nat) (l:List D) (i:Nat) (d:D),(zeK k l)[i]?=some d→∃ x,l[i]?=some x∧d=.tup [.int ((k + i:Nat):Int),x]
 | _,[],i,d,h=>by simp [zeK] at h
 | k,x::l,0,d,h=>by simp [zeK] at h;exact ⟨x,rfl,by rw [← h];simp⟩
 | k,x::l,i + 1,d,h=>by
  obtain ⟨y,h1,h2⟩:=zdT (k + 1) l i d (by simpa [zeK] using h)
  exact ⟨y,by simpa using h1,by rw [h2,show k + 1 + i=k + (i + 1) by omega]⟩
theorem zbw:∀ (k:Nat) (l:List D),(zeK k l).length=l.length
 | _,[]=>rfl
 | k,_::l=>by simp [zeK,zbw (k + 1) l]
noncomputable def cEnT (f:En→Option D):En→Option (List D):=fun ρ=>match f ρ with
 | some (.tup l)=>some (zeK 0 l)
 | _=>none
theorem zlN {elts:List Expr}{k:Nat} {tpos p:Pos}{a:Expr} (h:FP K .fz X a f) (hg:Gl X "enumerate") (hm:X.mg "enumerate" = none) (hs:starEach [a] X.env=[(false,eval a X.env)]:=by rfl) (hK:X.K=K:=by rfl) :
  FI K X (.Tuple elts k tpos) (.Call (.Name "enumerate" p) [a] [] pos) (cEnT f):=FI.mk fun ρ ds hf=>by
 subst hK
 unfold cEnT at hf
 split at hf
 ·rename_i l e1
  cases hf
  refine PI.imp (ziF hg hm (zbd (h.h ρ _ e1) zcM hs) hs) fun σ H R ⟨F,r,q⟩=>⟨F,r,fun v F1 H1 g1 r1=>?_⟩
  obtain ⟨a,vs,rfl,f1,q1⟩:=Dat.tup_inv (K:=X.K) (F:=F1) r1
  refine ⟨a,vs,rfl,SqT.of (g1.fh _ _ f1),q _ F1 H1 g1 fun F2 H2 a2 b2=>?_⟩
  have hs:SqT X.K H2 a vs:=SqT.of (b2 _ _ (a2 _ _ f1))
  have hl:=q1.length
  refine ⟨fun i hi=>?_,fun i x H3 d hd y=>?_,?_⟩
  ·rw [zbw] at hi
   exact ⟨vs,vs[i]'(by omega),hs,by simp⟩
  ·obtain ⟨x0,hx0,rfl⟩:=zdT 0 l i d hd
   obtain ⟨pp,vv,hpp,rfl,rfl,hv⟩:=y
   obtain ⟨w,hw,dw⟩:=q1.get hx0
   rw [hv vs hs] at hw;cases hw
   have g:=Grow.frozen (o:=.tup [.int (i:Int),vv]) b2 hpp
   refine ⟨_,g,Dat.tup (K:=X.K) zam ?_⟩
   rw [Nat.zero_add]
   exact DatL.cons (Dat.int (K:=X.K) _) (DatL.cons ((dw.mono a2).mono g.ff) DatL.nil)
  ·rw [zbw]
   exact ⟨vs,hs,by omega⟩
 ·cases hf
noncomputable def forM (g:D→En→Option En) (b:En→Option Fl):List D→En→Option Fl
 | [],ρ=>some (.nx ρ)
 | x::xs,ρ=>match g x ρ with
  | some ρ1=>match b ρ1 with
   | some (.nx ρ2)=>forM g b xs ρ2
   | some (.ct ρ2)=>forM g b xs ρ2
   | some (.bk ρ2)=>some (.nx ρ2)
   | some (.rt d ρ2)=>some (.rt d ρ2)
   | some (.rs c d ρ2)=>some (.rs c d ρ2)
   | none=>none
  | none=>none
noncomputable def forS (fi:En→Option (List D)) (g:D→En→Option En) (b:En→Option Fl):En→Option Fl:=fun ρ=>(fi ρ).bind fun ds=>forM g b ds ρ
theorem sfor {iter:Expr}{body:List Stmt} {fi:En→Option (List D)}{g:D→En→Option En} {b:En→Option Fl}(hp:PassesOwn (model X.prog X.w) X.A X.env X.xe) (hc:X.calm=true) (hi:FI K X tg iter fi) (hg:FG K X tg g) (hb:FSs K md X body b)
  (hs:∀ x,foldedSetIterable iter X.env x=pure x:=by intro _;rfl):FS K md X (.For tg iter body [] pos) (forS fi g b):=FS.mk fun ρ fl hf=>by
 unfold forS at hf
 cases e1:fi ρ with
 | none=>rw [e1] at hf;cases hf
 | some ds=>
  rw [e1] at hf
  have hf:forM g b ds ρ=some fl:=hf
  have hg':=PG.any (X:=X) (c:=tg) (t:=fun i:{ q:En×D×En // g q.2.1 q.1=some q.2.2 }=>rdG K i.1.1 i.1.2.1 i.1.2.2) fun i=>hg.h _ _ _ i.2
  have hb':=PSs.any (X:=X) (c:=body) (t:=fun i:{ q:En×Fl // b q.1=some q.2 }=>rdS X K md i.1.1 i.1.2) fun i=>hb.h _ _ i.2
  refine PS.imp (zla hp hc (hi.h ρ ds e1) hg' hb' hs) fun D σ H ⟨F,r,q⟩=>⟨F,r,fun J F0 H0 g0 ok=>?_⟩
  refine ⟨fun i k σ1 H1=>i≤ds.length∧k=ds.length - i∧∃ ρ1 F1,Rel K F1 H1 ρ1 σ1∧Step ρ σ F H ρ1 σ1 F1 H1∧Same F0 F1∧forM g b (ds.drop i) ρ1=some fl,
   ⟨ds.length,Nat.zero_le _,rfl,ρ,F0,r.grow g0,g0.step,Same.refl _,hf⟩,?_⟩
  rintro i k σ1 H1 ⟨hi,rfl,ρ1,F1,r1,s1,ff1,e2⟩
  obtain ⟨o1,o2,o3⟩:=ok F1 H1 ff1 r1.sub
  by_cases hlt:i < ds.length
  ·rw [List.drop_eq_getElem_cons hlt] at e2
   simp only [forM] at e2
   refine .inr ⟨o1 i hlt,fun σ' H'=>i + 1≤ds.length∧∃ ρ3 F3,Rel K F3 H' ρ3 σ'∧Step ρ σ F H ρ3 σ' F3 H'∧Same F0 F3∧forM g b (ds.drop (i + 1)) ρ3=some fl,fun σ' H' ⟨z1,z2⟩=>⟨ds.length - (i + 1),by omega,z1,rfl,z2⟩,fun x H2 y=>?_⟩
   obtain ⟨F2,g2,d2⟩:=o2 i x H2 _ (List.getElem?_eq_getElem hlt) y
   have r2:=r1.grow g2
   have s2:=s1.trans (g2.step (ρ:=ρ1) (σ:=σ1)) r.sub
   cases e3:g ds[i] ρ1 with
   | none=>rw [e3] at e2;cases e2
   | some ρ2=>
    rw [e3] at e2
    refine ⟨⟨(ρ1,ds[i],ρ2),e3⟩,F2,r2,d2,fun σ2 r2' ow=>?_⟩
    have s2':Step ρ σ F H ρ2 σ2 F2 H2:=s2.kp ow
    cases e4:b ρ2 with
    | none=>simp only [e4] at e2;cases e2
    | some fl2=>
     simp only [e4] at e2
     refine ⟨⟨(ρ2,fl2),e4⟩,F2,r2',?_⟩
     cases fl2 with
     | nx ρ3=>exact fun σ3 F3 H3 r3 s3=>⟨hlt,ρ3,F3,r3,s2'.trans s3 r.sub,ff1.trans (g2.ff.trans s3.ff),e2⟩
     | ct ρ3=>exact fun σ3 F3 H3 r3 s3=>⟨hlt,ρ3,F3,r3,s2'.trans s3 r.sub,ff1.trans (g2.ff.trans s3.ff),e2⟩
     | bk ρ3=>cases e2;exact fun σ3 F3 H3 r3 s3=>q σ3 F3 H3 r3 (s2'.trans s3 r.sub)
     | rt d ρ3=>cases e2;exact fun v σ3 F3 H3 r3 s3 h=>q v σ3 F3 H3 r3 (s2'.trans s3 r.sub) (ResR.back s2' r.sub h)
     | rs c d ρ3=>cases e2;exact fun σ3 F3 H3 C da r3 s3 x=>q σ3 F3 H3 C da r3 (s2'.trans s3 r.sub) x
  ·have e:i=ds.length:=by omega
   subst e
   rw [List.drop_length] at e2
   have e2:some (Fl.nx ρ1)=some fl:=e2
   cases e2
   exact .inl ⟨o3,q σ1 F1 H1 r1 s1⟩
end
end FL
set_option Elab.async false
set_option linter.all false
set_option maxRecDepth 100000
namespace FL
open PySem PySem.Spec PyProof.Rows L2
noncomputable def bors:Option Sl→Option Sl
 | some (.ow _ d)=>some (.bor d)
 | s=>s
noncomputable def st0E (cap:List (Option Nat)) (ρ:En):En:=cap.map fun o=>match o with
 | some j=>bors ((ρ[j]?).getD none)
 | none=>none
theorem zdt {cap:List (Option Nat)}{ρ:En} {i:Nat}{s:Sl} (h:(st0E cap ρ)[i]?=some (some s)):∃ j s0,cap[i]?=some (some j)∧ρ[j]?=some (some s0)∧bors (some s0)=some s:=by
 unfold st0E at h
 rw [List.getElem?_map] at h
 cases e:cap[i]? with
 | none=>rw [e] at h;cases h
 | some o=>
  rw [e] at h
  cases o with
  | none=>cases h
  | some j=>
   have h:bors ((ρ[j]?).getD none)=some s:=Option.some.inj h
   cases e2:ρ[j]? with
   | none=>rw [e2] at h;cases h
   | some o2=>
    rw [e2] at h
    cases o2 with
    | none=>cases h
    | some s0=>exact ⟨j,s0,rfl,e2,h⟩
theorem zfN {cap:List (Option Nat)}{σ:St} {i j:Nat}{v:V} (h:cap[i]?=some (some j)) (e:σ[j]?=some (some v)):(st0 cap σ)[i]?=some (some v):=by
 unfold st0
 rw [List.getElem?_map,h]
 simp [e]
theorem Rel.inner {K:PySem.W.Frag}{F H:Hp} {ρ:En}{σ:St} {cap:List (Option Nat)}(r:Rel K F H ρ σ):Rel K F H (st0E cap ρ) (st0 cap σ):=by
 refine ⟨r.sub,fun i d h=>?_,fun i d h=>?_,fun i q d h=>?_,fun i j q d s a ne h1=>?_,by simp [st0E,st0]⟩
 ·obtain ⟨j,s0,e1,e2,e3⟩:=zdt h
  cases s0<;>simp [bors] at e3
  subst e3
  obtain ⟨v,h1,h2⟩:=r.dat j _ e2
  exact ⟨v,zfN e1 h1,h2⟩
 ·obtain ⟨j,s0,e1,e2,e3⟩:=zdt h
  cases s0<;>simp [bors] at e3<;>subst e3
  ·obtain ⟨a,h1,_,h2⟩:=r.own j _ _ e2
   exact ⟨_,zfN e1 h1,h2.b⟩
  ·obtain ⟨v,h1,h2⟩:=r.bor j _ e2
   exact ⟨v,zfN e1 h1,h2⟩
 ·obtain ⟨j,s0,e1,e2,e3⟩:=zdt h
  cases s0<;>simp [bors] at e3
 ·obtain ⟨j,s0,e1,e2,e3⟩:=zdt h1
  cases s0<;>simp [bors] at e3
noncomputable def zbr (g:D→En→Option En) (t:En→Option Bool) (f:En→Option D) (ρi:En):List D→Option (List D)
 | []=>some []
 | x::xs=>(g x ρi).bind fun ρ1=>(t ρ1).bind fun b=>if b=true then (f ρ1).bind fun d=>(zbr g t f ρi xs).map fun l=>d::l else zbr g t f ρi xs
noncomputable def zbf (cap:List (Option Nat)) (fi:En→Option (List D)) (g:D→En→Option En) (t:En→Option Bool) (f:En→Option D):En→Option D:=fun ρ=>(fi ρ).bind fun ds=>if ds.length≤lim then (zbr g t f (st0E cap ρ) ds).map D.lst else none
structure rdIf (K:PySem.W.Frag) (X:Cx) (ifs:List Expr) (t:En→Option Bool):Prop where
 h:∀ ρ b,t ρ=some b→PIf X ifs (rdTp K ρ b)
noncomputable def yesP:En→Option Bool:=fun _=>some true
theorem pif0 {K:PySem.W.Frag}{X:Cx}:rdIf K X [] yesP:=rdIf.mk fun ρ b h=>by
 cases h
 intro pins s σ H Q I ⟨F,r,q⟩
 exact zjY pins s σ H Q I (q F H (Grow.refl r.sub))
theorem pif1 {K:PySem.W.Frag}{X:Cx} {c:Expr}{t:En→Option Bool} (h:FTp K X c t):rdIf K X [c] t:=rdIf.mk fun ρ b hf=>zjX (h.h ρ b hf)
section
variable {K:PySem.W.Frag}{md:Md} {X:Cx}{pos:Pos} {tg iter elt:Expr}{ifs:List Expr} {scope:Scope}
theorem zih {cap:List (Option Nat)}{g:D→En→Option En} {t:En→Option Bool}{f:En→Option D} {ρ:En}{ds rs:List D} {σ:St}{H F:Hp} {Q:VK}(hm:zbr g t f (st0E cap ρ) ds=some rs) (hn:ds.length≤lim)
  (r:Rel K F H ρ σ) (q:∀ v F' H',Grow F H F' H'→Res K .ow H F' H' (.lst rs) v→Q v H') {J:It}{F1 H1:Hp} (g1:Grow F H F1 H1) (ok:zfL K J F1 ds) :
  zlY K J (fun v σ H Q=>∃ i:{ q:En×D×En // g q.2.1 q.1=some q.2.2 },rdG K i.1.1 i.1.2.1 i.1.2.2 v σ H Q) (fun σ H Q=>∃ i:{ q:En×Bool // t q.1=some q.2 },rdTp K i.1.1 i.1.2 σ H Q) (fun σ H Q=>∃ i:{ q:En×D // f q.1=some q.2 },rdE K .fz i.1.1 i.1.2 σ H Q) cap σ H1 Q:=by
 intro a ha
 refine ⟨fun i m H2=>∃ acc,i≤ds.length∧m=ds.length - i∧∃ F2 done left,Grow F H F2 H2∧Same F1 F2∧(∀ b o,H1 b=some o→H2 b=some o)∧F2 a=none∧H2 a=some (.lst acc)∧DatL K F2 done acc∧acc.length≤i∧zbr g t f (st0E cap ρ) (ds.drop i)=some left∧rs=done++left,
  ⟨ds.length,[],Nat.zero_le _,rfl,F1,[],rs,⟨g1.ff,g1.hh.trans (zby ha _),g1.fh.trans (zby ha _),g1.nw⟩,Same.refl _,fun b o e=>zby ha _ _ _ e,g1.fh.free ha,zam,DatL.nil,Nat.zero_le _,hm,rfl⟩,?_⟩
 rintro i m H2 ⟨acc,hi,rfl,F2,done,left,g2,ff,hh,fa,hd,da,al,e1,e2⟩
 obtain ⟨o1,o2,o3⟩:=ok F2 H2 ff g2.fh
 by_cases hlt:i < ds.length
 ·refine .inr ⟨o1 i hlt,fun x H3 y=>?_⟩
  obtain ⟨F3,g3,d3⟩:=o2 i x H3 _ (List.getElem?_eq_getElem hlt) y
  rw [List.drop_eq_getElem_cons hlt] at e1
  simp only [zbr] at e1
  have g23:=g2.trans g3
  have hd3:=g3.hh _ _ hd
  have fa3:=g3.nw a _ hd fa
  cases e3:g ds[i] (st0E cap ρ) with
  | none=>rw [e3] at e1;cases e1
  | some ρ1=>
   simp only [e3,Option.bind_some] at e1
   refine ⟨⟨(st0E cap ρ,ds[i],ρ1),e3⟩,F3,(r.grow g23).inner,d3,fun σ2 r2 _=>?_⟩
   cases e4:t ρ1 with
   | none=>rw [e4] at e1;cases e1
   | some b=>
    simp only [e4,Option.bind_some] at e1
    refine ⟨⟨(ρ1,b),e4⟩,F3,r2,fun F4 H4 g4=>?_⟩
    have g24:=g23.trans g4
    have hd4:=g4.hh _ _ hd3
    have fa4:=g4.nw a _ hd3 fa3
    have ff4:Same F1 F4:=ff.trans (g3.ff.trans g4.ff)
    have hh4:∀ c o,H1 c=some o→H4 c=some o:=fun c o e=>g4.hh _ _ (g3.hh _ _ (hh c o e))
    cases b with
    | false=>
     rw [if_neg Bool.false_ne_true] at e1
     exact iteF ⟨ds.length - (i + 1),by omega,acc,hlt,rfl,F4,done,left,g24,ff4,hh4,fa4,hd4,da.mono (g3.ff.trans g4.ff),by omega,e1,e2⟩
    | true=>
     rw [if_pos rfl] at e1
     refine iteT ?_
     cases e5:f ρ1 with
     | none=>rw [e5] at e1;cases e1
     | some d=>
      simp only [e5,Option.bind_some] at e1
      cases e6:zbr g t f (st0E cap ρ) (ds.drop (i + 1)) with
      | none=>rw [e6] at e1;cases e1
      | some l=>
       rw [e6] at e1;cases e1
       refine ⟨⟨(ρ1,d),e5⟩,F4,r2.grow g4,fun v F5 H5 g5 d5=>?_⟩
       have g25:=g24.trans g5
       have hd5:=g5.hh _ _ hd4
       have fa5:=g5.nw a _ hd4 fa4
       have haH:H a=none:=g1.hh.free ha
       refine ⟨acc,hd5,zjB (by omega),ds.length - (i + 1),by omega,_,hlt,rfl,F5,done++[d],l,?_,ff4.trans g5.ff,fun c o e=>?_,fa5,zam,?_,by rw [List.length_append,List.length_singleton];omega,e6,by rw [e2];simp⟩
       ·refine ⟨g25.ff,fun c o e=>?_,fun c o e=>?_,g25.nw⟩
        ·rw [zar (zal e haH)];exact g25.hh _ _ e
        ·rw [zar (zal e fa5)];exact g25.fh _ _ e
       ·rw [zar (zal e ha)];exact g5.hh _ _ (hh4 c o e)
       ·exact (da.mono (g3.ff.trans (g4.ff.trans g5.ff))).snoc d5
 ·have e:i=ds.length:=by omega
  subst e
  rw [List.drop_length] at e1
  have e1:some []=some left:=e1
  cases e1
  rw [List.append_nil] at e2
  subst e2
  exact .inl ⟨o3,q _ F2 H2 g2 ⟨a,rfl,g1.hh.free ha,fa,acc,hd,da⟩⟩
theorem zep {cap:List (Option Nat)}{fi:En→Option (List D)} {g:D→En→Option En}{t:En→Option Bool} {f:En→Option D}{ρ:En} {d:D}(h:zbf cap fi g t f ρ=some d):∃ ds rs,fi ρ=some ds∧ds.length≤lim∧zbr g t f (st0E cap ρ) ds=some rs∧d=.lst rs:=by
 unfold zbf at h
 cases e1:fi ρ with
 | none=>rw [e1] at h;cases h
 | some ds=>
  rw [e1] at h
  simp only [Option.bind_some] at h
  split at h
  ·rename_i hz
   cases e2:zbr g t f (st0E cap ρ) ds with
   | none=>rw [e2] at h;cases h
   | some rs=>rw [e2] at h;cases h;exact ⟨ds,rs,rfl,hz,e2,rfl⟩
  ·cases h
theorem zfu {fi:En→Option (List D)}{g:D→En→Option En} {t:En→Option Bool}{f:En→Option D} (N:List Str) (cap:List (Option Nat)) (cp:Cap X scope N cap) (hc:X.calm=true) (hi:FI K X tg iter fi)
  (hg:∀ C s0 H0 fp,FG K (zaA X N scope (clOf X.env scope.names []) C s0 H0 fp) tg g) (ht:∀ C s0 H0 fp,rdIf K (zaA X N scope (clOf X.env scope.names []) C s0 H0 fp) ifs t) (he:∀ C s0 H0 fp,FP K .fz (zaA X N scope (clOf X.env scope.names []) C s0 H0 fp) elt f)
  (S:zaU X scope:=by exact zaU.mk') (hs:∀ x,foldedSetIterable iter X.env x=pure x:=by intro _;rfl) (hK:X.K=K:=by rfl) :
  FP K .ow X (.ListComp elt [⟨tg,iter,ifs,0⟩] scope pos) (zbf cap fi g t f):=FP.mk fun ρ d hf=>by
 subst hK
 obtain ⟨ds,rs,e1,hz,e2,rfl⟩:=zep hf
 refine PE.imp (zkb N cap cp hc (hi.h ρ ds e1) (fun C s0 H0 fp=>PG.any fun i:{ q:En×D×En // g q.2.1 q.1=some q.2.2 }=>(hg C s0 H0 fp).h _ _ _ i.2) (fun C s0 H0 fp=>PIf.any fun i:{ q:En×Bool // t q.1=some q.2 }=>(ht C s0 H0 fp).h _ _ i.2)
  (fun C s0 H0 fp=>PE.any fun i:{ q:En×D // f q.1=some q.2 }=>(he C s0 H0 fp).h _ _ i.2) S hs) fun σ H Q ⟨F,r,q⟩=>?_
 exact ⟨F,r,fun J F1 H1 g1 ok=>zih e2 hz r q g1 ok⟩
theorem zkN (k:Nat) {y:Str}{py spos:Pos} {fi:En→Option (List D)}{g:D→En→Option En} {t:En→Option Bool}{f:En→Option D} (N:List Str) (cap:List (Option Nat)) (cp:Cap X scope N cap) (hc:X.calm=true) (hN:X.N.Nodup) (hi:FI K X tg iter fi)
  (hg:∀ C s0 H0 fp,FG K (zaA X N scope (clOf X.env scope.names []) C s0 H0 fp) tg g) (ht:∀ C s0 H0 fp,rdIf K (zaA X N scope (clOf X.env scope.names []) C s0 H0 fp) ifs t) (he:∀ C s0 H0 fp,FP K .fz (zaA X N scope (clOf X.env scope.names []) C s0 H0 fp) elt f)
  (hk:X.N[k]?=some y:=by rfl) (hy:Loc X.env.scope y:=by first | exact Or.inl rfl | exact Or.inr rfl) (S:zaU X scope:=by exact zaU.mk') (hs:∀ x,foldedSetIterable iter X.env x=pure x:=by intro _;rfl)
  (hsw:swapsWith (.ListComp elt [⟨tg,iter,ifs,0⟩] scope pos) (some (.Name y py)) spos.line X.env=pure true:=by rfl)
  (hf:X.fn y=true∨X.env.scope.names.lookup y=some .local:=by first | exact .inl rfl | exact .inr rfl | assumption) (hK:X.K=K:=by rfl) :
  FS K md X (.Assign [.Name y py] (.ListComp elt [⟨tg,iter,ifs,0⟩] scope pos) spos) (setM k (zbf cap fi g t f)):=FS.mk fun ρ fl hm=>by
 subst hK
 unfold setM at hm
 cases e0:zbf cap fi g t f ρ with
 | none=>rw [e0] at hm;cases hm
 | some d=>
  rw [e0] at hm;cases hm
  obtain ⟨ds,rs,e1,hz,e2,rfl⟩:=zep e0
  refine PS.imp (zgO N cap cp hc hN hk hy (hi.h ρ ds e1) (fun C s0 H0 fp=>PG.any fun i:{ q:En×D×En // g q.2.1 q.1=some q.2.2 }=>(hg C s0 H0 fp).h _ _ _ i.2) (fun C s0 H0 fp=>PIf.any fun i:{ q:En×Bool // t q.1=some q.2 }=>(ht C s0 H0 fp).h _ _ i.2)
   (fun C s0 H0 fp=>PE.any fun i:{ q:En×D // f q.1=some q.2 }=>(he C s0 H0 fp).h _ _ i.2) S hs hsw hf) fun D σ H ⟨F,r,q⟩=>?_
  refine ⟨F,r,fun J F1 H1 g1 ok=>zih e2 hz r (fun v F2 H2 g2 h=>?_) g1 ok⟩
  obtain ⟨a0,ea,z1,z2,z3⟩:=h
  obtain ⟨F3,g3,h3⟩:=Res.fz_of_ow g2 ⟨a0,ea,z1,z2,z3⟩ ea z3.fl
  have s3:=g3.step (ρ:=ρ) (σ:=σ)
  exact q _ F3 H2 ((r.grow g3).setD h3) (s3.kp Kp.setD)
end
noncomputable def SpD (K:PySem.W.Frag) (md:Md) (m:List D→Option D):Sp:=fun vs H Q _=>∃ F ds d,Same F H∧DatL K F ds vs∧m ds=some d∧∀ v F' H',Grow F H F' H'→Res K md H F' H' d v→Q v H'
section
variable {P:Program}{w:World} {K:PySem.W.Frag}{mg:Str→Option Value} {base:Heap}{md:Md} {X:Cx}{k:Nat} {f:Addr}{fd:FuncData} {ps:List Str}{m:List D→Option D} {x:Str}{e:Expr} {es:List Expr}{fs:En→Option (List D)} {p pos:Pos}
theorem zmH (F:FnOk X.prog X.w X.K X.mg X.base CX0 k f fd ps (SpD K md m)) (hr:Room k X.A) (hg:Gl X x) (hm:X.mg x=some (.ref f)) (hk:PySem.W.keepIn X.K (.ref f)=true) (hb:zeR X.K fd ps []) (ha:FPs K true X (e::es) fs)
  (H1:∀ {t:TA},PA X (e::es) t→PE X (.Call (.Name x p) (e::es) [] pos) (zjJ (SpD K md m) [] E0 t):=by exact fun ha=>zhB ‹_› ‹_› ‹_› ‹_› ‹_› ‹_› .nil zll ha) :
  FP K md X (.Call (.Name x p) (e::es) [] pos) (cL m fs):=FP.mk fun ρ d hf=>by
 obtain ⟨l,e1,e2⟩:=zdX hf
 refine PE.imp (H1 (ha.h ρ l e1)) fun σ H Q ⟨F,r,q⟩=>⟨F,r,fun vs F1 H1 g1 r1=>?_⟩
 refine ⟨F1,l,d,g1.fh,by rw [List.append_nil];exact r1,e2,fun v F2 H2 g2 h2=>q v F2 H2 (g1.trans g2) ?_⟩
 cases md with
 | fz=>exact h2
 | br=>exact h2
 | ow=>
  obtain ⟨a,e,h3,h4,h5⟩:=h2
  exact ⟨a,e,g1.hh.free h3,h4,h5⟩
noncomputable def zaJ (n:Nat) (ds:List D):En:=ds.map (fun d=>some (.dat d))++List.replicate (n - ds.length) none
theorem Rel.start {N:List Str}{F H:Hp} {ds:List D}{vs:List V} (s:Same F H) (q:DatL K F ds vs):Rel K F H (zaJ N.length ds) (L2.start N vs):=by
 have hl:=q.length
 have key:∀ (i:Nat) s,(zaJ N.length ds)[i]?=some (some s)→∃ d,s=.dat d∧ds[i]?=some d:=fun i s h=>by
  unfold zaJ at h
  by_cases hi:i < ds.length
  ·rw [List.getElem?_append_left (by simpa using hi),List.getElem?_map,List.getElem?_eq_getElem hi] at h
   cases h
   exact ⟨_,rfl,List.getElem?_eq_getElem hi⟩
  ·rw [List.getElem?_append_right (by simpa using hi)] at h
   rw [List.getElem?_replicate] at h
   split at h<;>cases h
 refine ⟨s,fun i d h=>?_,fun i d h=>?_,fun i q d h=>?_,fun i j q d s a ne h1=>?_,?_⟩
 ·obtain ⟨d',e,hd⟩:=key i _ h
  cases e
  obtain ⟨v,hv,dv⟩:=q.get hd
  refine ⟨v,?_,dv⟩
  unfold L2.start
  have hi:i < vs.length:=(List.getElem?_eq_some_iff.mp hv).1
  rw [List.getElem?_append_left (by simpa using hi),List.getElem?_map,hv];rfl
 ·obtain ⟨d',e,_⟩:=key i _ h;cases e
 ·obtain ⟨d',e,_⟩:=key i _ h;cases e
 ·obtain ⟨d',e,_⟩:=key i _ h1;cases e
 ·unfold zaJ L2.start;simp [hl]
theorem zcx {n:Nat}{ds:List D} {σ:St}{b:Addr} (h:zcE (zaJ n ds) σ b):False:=by
 obtain ⟨i,q,d,h,_⟩:=h
 unfold zaJ at h
 by_cases hi:i < ds.length
 ·rw [List.getElem?_append_left (by simpa using hi),List.getElem?_map,List.getElem?_eq_getElem hi] at h
  cases h
 ·rw [List.getElem?_append_right (by simpa using hi)] at h
  rw [List.getElem?_replicate] at h
  split at h<;>cases h
theorem Step.grow {n:Nat}{ds:List D} {ρ':En}{σ σ':St} {F H F' H':Hp}(a:Step (zaJ n ds) σ F H ρ' σ' F' H') (s:Same F H):Grow F H F' H':=by
 refine ⟨a.ff,fun b o e=>?_,a.fh,fun b o e n=>(a.rest b o e n zcx).2⟩
 cases q:F b with
 | some u=>
  have:=s _ _ q
  rw [e] at this;cases this
  exact a.fh _ _ (a.ff _ _ q)
 | none=>exact (a.rest b o e q zcx).1
theorem zcR {qual:Str}{st:Stmt} {N:List Str}(Fn:Fun K x qual st f fd) (S:zaD N ps (zaq st)) {mb:Nat→En→Option Fl}
  (hb:∀ (n:Nat) (cdv:Value) (A:Around) (outer:List Env) (s:Shared) (H:Hp) (E:XK),Room k (A.deeper (envOfC qual (zaq st) s.heap.objs.size f cdv))→FSs K md (cxOf CX0 P w K mg base N qual (zaq st) f cdv A outer s H E).nox (zdU st) (mb n))
  (hm:∀ ds d,m ds=some d→ds.length=ps.length∧∃ n,(∃ ρ',mb n (zaJ N.length ds)=some (.rt d ρ'))∨(d=.non∧md=.fz∧∃ ρ',mb n (zaJ N.length ds)=some (.nx ρ'))):FnOk P w K mg base CX0 (k + 1) f fd ps (SpD K md m):=by
 refine Fn.ok S (fun vs H Q E h=>?_) (fun cdv A outer s H vs Q E hr h=>?_)
 ·obtain ⟨F,ds,d,_,q,e,_⟩:=h
  rw [q.length];exact (hm ds d e).1
 obtain ⟨F,ds,d,sub,qd,e,k⟩:=h
 obtain ⟨_,n,h⟩:=hm ds d e
 rcases h with ⟨ρ',h⟩ | ⟨rfl,rfl,ρ',h⟩
 ·refine ⟨_,(hb n cdv A outer s H E hr).h _ _ h,F,Rel.start sub qd,fun v σ' F' H' r' s' res=>?_⟩
  refine k v F' H' (s'.grow sub) ?_
  cases md with
  | fz=>exact res
  | br=>exact res.elim
  | ow=>
   obtain ⟨a,ea,h1,h2,h3⟩:=res
   refine ⟨a,ea,?_,h2,h3⟩
   rcases h1 with h1 | h1
   ·exact h1
   ·exact (zcx h1).elim
 ·refine ⟨_,(hb n cdv A outer s H E hr).h _ _ h,F,Rel.start sub qd,fun σ' F' H' r' s'=>?_⟩
  exact k _ F' H' (s'.grow sub) (Dat.non (K:=K) (F:=F'))
end
end FL
set_option Elab.async false
set_option linter.all false
set_option maxRecDepth 100000
namespace FL
open PySem PySem.Spec PyProof.Rows L2
theorem u100 {k:Nat}{A:Around} (hr:Room k A):A.units + 100 < cLine:=by have:=hr.un;omega
theorem u101 {k:Nat}{A:Around} (hr:Room k A):A.units + 101 < cLine:=by have:=hr.un;omega
structure Glb (mg:Str→Option Value):Prop where
 isi:mg "isinstance" = none
 str:mg "str" = none
 tuple:mg "tuple" = none
 list:mg "list" = none
 int:mg "int" = none
 bool:mg "bool" = none
 dict:mg "dict" = none
 len:mg "len" = none
 range:mg "range" = none
 enum:mg "enumerate" = none
 sum:mg "sum" = none
 max:mg "max" = none
 min:mg "min" = none
 abs:mg "abs" = none
 zip:mg "zip" = none
 reversed:mg "reversed" = none
 sorted:mg "sorted" = none
 set:mg "set" = none
 any:mg "any" = none
 all:mg "all" = none
structure Fk (P:Program) (w:World) (K:PySem.W.Frag) (mg:Str→Option Value) (base:Heap) (x:Str) (ps:List Str) (md:Md) (k:Nat) (m:List D→Option D):Prop where
 ex:∃ f fd,FnOk P w K mg base CX0 k f fd ps (SpD K md m)∧zeR K fd ps []∧PySem.W.keepIn K (.ref f)=true∧mg x=some (.ref f)
section
variable {P:Program}{w:World} {K:PySem.W.Frag}{mg:Str→Option Value} {base:Heap}{md:Md} {X:Cx}{k j:Nat} {ps:List Str}{m m':List D→Option D} {x:Str}{e:Expr} {es:List Expr}{fs:En→Option (List D)} {p pos:Pos}
theorem fk (G:Fk X.prog X.w X.K X.mg X.base x ps md k m) (hr:Room j X.A) (ha:FPs K true X (e::es) fs) (hle:k≤j:=by first | decide | omega) (hg:Gl X x:=by rfl) (hK:X.K=K:=by rfl)
  (H1:∀ {f:Addr}{fd:FuncData} {t:TA},FnOk X.prog X.w X.K X.mg X.base CX0 k f fd ps (SpD K md m)→Room k X.A→Gl X x→X.mg x=some (.ref f)→PySem.W.keepIn X.K (.ref f)=true→zeR X.K fd ps []→PA X (e::es) t→PE X (.Call (.Name x p) (e::es) [] pos) (zjJ (SpD K md m) [] E0 t):=by
   exact fun F hr hg hm hk hb ha=>zhB F hr hg hm hk hb .nil zll ha) :
  FP K md X (.Call (.Name x p) (e::es) [] pos) (cL m fs):=by
 subst hK
 obtain ⟨f,fd,F,hb,hk,hm⟩:=G.ex
 exact zmH F (hr.mono hle) hg hm hk hb ha fun ha=>H1 F (hr.mono hle) hg hm hk hb ha
theorem Fk.mono (G:Fk P w K mg base x ps md k m) (h:k≤j):Fk P w K mg base x ps md j m:=by
 obtain ⟨f,fd,F,r⟩:=G.ex
 exact ⟨f,fd,F.mono h,r⟩
theorem Fk.never {f:Addr}{fd:FuncData} (h:zeR K fd ps []∧PySem.W.keepIn K (.ref f)=true∧mg x=some (.ref f)) (hm:∀ ds,m ds=none):Fk P w K mg base x ps md 0 m:=by
 refine ⟨f,fd,⟨fun vs H Q E h=>?_,fun A outer s H args us vs Q E _ _ _ _ h=>?_⟩,h⟩
 ·obtain ⟨F,ds,d,_,_,e,_⟩:=h;rw [hm] at e;cases e
 ·obtain ⟨F,ds,d,_,_,e,_⟩:=h;rw [hm] at e;cases e
noncomputable def zaI:List D→Option (List Str)
 | []=>some []
 | .str i::l=>(zaI l).map (i::·)
 | _::_=>none
theorem zcw:∀ {l:List D}{ns:List Str},zaI l=some ns→l=ns.map D.str
 | [],ns,h=>by simp [zaI] at h;subst h;rfl
 | .str i::l,ns,h=>by
  simp only [zaI] at h
  cases e:zaI l with
  | none=>rw [e] at h;cases h
  | some ms=>rw [e] at h;cases h;rw [zcw e];rfl
 | .non::_,_,h=>by simp [zaI] at h
 | .bl _::_,_,h=>by simp [zaI] at h
 | .int _::_,_,h=>by simp [zaI] at h
 | .tup _::_,_,h=>by simp [zaI] at h
 | .lst _::_,_,h=>by simp [zaI] at h
 | .scr _::_,_,h=>by simp [zaI] at h
 | .dic _ _::_,_,h=>by simp [zaI] at h
 | .set _::_,_,h=>by simp [zaI] at h
 | .exc _ _::_,_,h=>by simp [zaI] at h
theorem zcX:∀ (ns:List Str),zaI (ns.map D.str)=some ns
 | []=>rfl
 | n::ns=>by rw [List.map_cons,zaI,zcX ns];rfl
noncomputable def ziX:D→D→Option D
 | .str sep,.lst l=>(zaI l).bind fun ys=>if (ys.map (·.length)).sum + ys.length * sep.length≤16777216 then some (.str (Txt.join sep ys)) else none
 | _,_=>none
theorem zmG {a o:Expr}{fo fa:En→Option D} {apos cpos:Pos}(ho:FP K .fz X o fo) (ha:FP K .br X a fa) (hbase:attributeBase o "join" X.env (eval o X.env)=eval o X.env:=by rfl)
  (hfew:((backTo cpos (starEach [a] X.env)).all (fun x=>!x.1) && (backToKw cpos (keywordEach [] X.env)).all (fun x=>x.1.isSome) && decide (([a]:List Expr).length + ([]:List Keyword).length + (if ([]:List Keyword).isEmpty then 0 else 1) < 30))=true:=by rfl)
  (hline:(apos.endLine == cpos.line)=true:=by rfl) (hs:starEach [a] X.env=(false,eval a X.env)::starEach [] X.env:=by rfl) (hplain:(backTo cpos (starEach [] X.env)).any (·.1)=false:=by rfl) (hK:X.K=K:=by rfl) :
  FP K .fz X (.Call (.Attribute o "join" apos) [a] [] cpos) (c2 ziX fo fa):=FP.mk fun ρ d hf=>by
 subst hK
 obtain ⟨x,y,e1,e2,e3⟩:=zch hf
 unfold ziX at e3
 split at e3
 ·rename_i sep l
  cases e4:zaI l with
  | none=>rw [e4] at e3;cases e3
  | some ys=>
   rw [e4] at e3
   obtain ⟨hz,rfl⟩:=zau e3
   rw [zcw e4] at e2
   refine PE.imp (ziJ PySem.F.plainAttrs_str PySem.F.slot_str_join PySem.F.type_str_join zkl (ho.h ρ _ e1) (zbd (ha.h ρ _ e2) zcM hs) hbase hfew hline hs hplain) fun σ H Q ⟨F,r,q⟩=>⟨F,r,fun v F1 H1 g1 r1=>?_⟩
   have ev:=Dat.str_inv (K:=X.K) (F:=F1) r1
   subst ev
   refine ⟨rfl,F1,r.grow g1,fun u F2 H2 g2 r2=>?_⟩
   obtain ⟨a,vs,rfl,f,qq⟩:=DatB.lst_inv r2
   rw [qq.strs] at f
   exact ⟨sep,a,ys,rfl,rfl,SqL.of f,hz,fun z ez=>by subst ez;exact q _ F2 H2 (g1.trans g2) (Res.str _)⟩
 ·cases e3
end
noncomputable def FUEL:Nat:=1000000000
noncomputable def runF (mb:En→Option Fl) (np nn:Nat) (ds:List D):Option D:=if ds.length=np then (match mb (zaJ nn ds) with
 | some (.rt d _)=>some d
 | _=>none) else none
theorem zaP {mb:Nat→En→Option Fl}{np nn:Nat} {md:Md}:∀ ds d,runF (mb FUEL) np nn ds=some d→ds.length=np∧∃ n,(∃ ρ',mb n (zaJ nn ds)=some (.rt d ρ'))∨(d=.non∧md=.fz∧∃ ρ',mb n (zaJ nn ds)=some (.nx ρ')):=fun ds d h=>by
 unfold runF at h
 split at h
 ·rename_i hl
  refine ⟨hl,FUEL,.inl ?_⟩
  split at h
  ·rename_i d' ρ' e;cases h;exact ⟨ρ',e⟩
  ·cases h
 ·cases h
theorem zlX {l:PySem.W.OpenLaw}{k:Nat} {q:Program}{loose:List Str} {XP:(Str→Option Value)→Heap→Prop}{YP:World→Heap→Prop} {d:DefRec}{K:Params→PySem.W.Frag} {x:Str}{m:List D→Option D} (hn:l.most=some 63) (hdf:d.params.defaults=[]) (hr:Room k callerA)
  (hY:∀ (w:World) (h:Heap),YP w h→(K w.params).In h)
  (F:∀ (w:World) (mg:Str→Option Value) (fa:Addr) (h:Heap),(K w.params).In h→h.Ns mainGlobals mg→mg d.name=some (.ref fa)→
   ∃ fd:FuncData,(∀ (s:Shared) (u:Value),BindsTo s fd ⟨[u],[]⟩ [(x,u)])∧∀ base:Heap,(K w.params).In base→base.Ns mainGlobals mg→FnOk l.prog w (K w.params) mg base CX0 k fa fd [x] (SpD (K w.params) .fz m))
  (H:∀ ns:List Int,ns.length≤63→m [.scr ns]=some (.bl true)):PySem.W.WalkO q loose XP YP l.row.toRowW d [] (fun f vs=>PySem.call f vs):=
 L2.walk_of (n:=63) (k:=k) (x:=x) (CX:=fun _=>CX0) (sp:=fun w=>SpD (K w.params) .fz m) hn (by decide) hdf hr hY F
  (fun w H' a ns hl _ hS=>⟨H',[.scr ns],.bl true,Same.refl _,DatL.cons (Dat.scr hS) DatL.nil,H ns hl,fun v F' H2 _ h=>Dat.bl_inv (K:=K w.params) (F:=F') h⟩) fun _ _ _ _ _ z=>z
end FL
set_option Elab.async false
set_option linter.all false
set_option maxRecDepth 100000
namespace FL
open PySem PySem.Spec PyProof.Rows L2
section
variable {K:PySem.W.Frag}{F H F' H' F2 H2:Hp} {ρ ρ':En}{σ σ':St} {i:Nat}{a:Addr}
end
noncomputable def zcH (nn j:Nat) (c:D) (ds:List D):En:=(zaJ nn (ds.take j++.non::ds.drop j)).set j (some (.inn c))
noncomputable def runX (mb:En→Option Fl) (np nn j:Nat) (c:D) (ds:List D):Option (D×D):=if ds.length + 1=np∧j≤ds.length then (match mb (zcH nn j c ds) with
 | some (.rt d ρ')=>(match ρ'[j]? with
  | some (some (.ow true c'))=>some (d,c')
  | _=>none)
 | _=>none) else none
section
variable {P:Program}{w:World} {K:PySem.W.Frag}{mg:Str→Option Value} {base:Heap}{X:Cx} {k j:Nat}{f:Addr} {fd:FuncData}{ps:List Str} {x:Str}
noncomputable def zfF (m:D→List D→Option (D×D)) (i:Nat) (fs:En→Option (List D)):En→Option (D×En):=fun ρ=>match ρ[i]?,fs ρ with
 | some (some (.ow p c)),some ds=>(m c ds).map fun q=>(q.1,ρ.set i (some (.ow p q.2)))
 | _,_=>none
noncomputable def retX (m:En→Option (D×En)):En→Option Fl:=fun ρ=>(m ρ).map fun q=>.rt q.1 q.2
end
noncomputable def zfr (jj:Nat) (ρ:En):Option D:=match ρ[jj]? with
 | some (some (.ow true c))=>some c
 | _=>none
section
variable {K:PySem.W.Frag}{X:Cx} {pos:Pos}{tg iter elt:Expr} {scope:Scope}
end
end FL
set_option Elab.async false
set_option linter.all false
set_option maxRecDepth 100000
namespace HT
open PySem PySem.Spec PyProof.Rows
section
variable {prog:Program}{w:World} {A:Around}{E:Value→Shared→Prop} {s:Shared}
end
end HT
set_option Elab.async false
set_option linter.all false
set_option maxRecDepth 100000
namespace PySem.F
end PySem.F
namespace HT
open PySem PySem.Spec PyProof.Rows
end HT
namespace L2
open PySem PySem.Spec PyProof.Rows
section
variable {X:Cx}{pins:List (Addr×Obj)} {σ:St}{H:Hp} {s:Shared}{h':Heap} {ch:List Addr}
end
section
variable {X:Cx}{pins:List (Addr×Obj)} {σ:St}
end
end L2
set_option Elab.async false
set_option linter.all false
set_option maxRecDepth 100000
namespace HT
open PySem PySem.Spec PyProof.Rows
end HT
namespace L2
open PySem PySem.Spec PyProof.Rows
section
variable {X:Cx}{pins:List (Addr×Obj)} {σ:St}
end
section
variable {X:Cx}
end
end L2
set_option Elab.async false
set_option linter.all false
set_option maxRecDepth 100000
namespace FL
open PySem PySem.Spec PyProof.Rows L2
section
variable {K:PySem.W.Frag}{X:Cx} {pos:Pos}
noncomputable def cRv (f:En→Option D):En→Option (List D):=fun ρ=>match f ρ with
 | some (.lst l)=>some l.reverse
 | _=>none
noncomputable def putM (i:Nat) (fk fe:En→Option D):En→Option Fl:=fun ρ=>match ρ[i]?,fe ρ,fk ρ with
 | some (some (.ow pp (.lst l))),some d,some (.int k)=>(ixN l.length k).map fun j=>.nx (ρ.set i (some (.ow pp (.lst (l.set j d)))))
 | _,_,_=>none
end
end FL
set_option Elab.async false
set_option linter.all false
set_option maxRecDepth 100000
namespace L2
open PySem PySem.Spec PyProof.Rows
section
variable {κ:Type} [DecidableEq κ]
end
section
variable {P:Program}{w:World} {H:Hp}{h:Heap} {a:Addr}
end
section
variable {X:Cx}{pins:List (Addr×Obj)} {σ:St}{H:Hp} {s:Shared}{a:Addr} {y v:V}{u r:Value} {o:Option V}{A:Around} {E:Value→Shared→Prop}
end
section
variable {X:Cx}{pins:List (Addr×Obj)} {σ:St}{H:Hp} {s:Shared}{a:Addr} {kvs:List (Key×V)}{k:Key} {u:Value}{A:Around} {E:Value→Shared→Prop}
end
section
variable {X:Cx}{o i e value:Expr} {pos pos' tpos:Pos}{td ty tv:TE}
end
section
variable {X:Cx}{pos:Pos}
end
section
variable {X:Cx}{pins:List (Addr×Obj)} {σ:St}{H:Hp} {s:Shared}{a:Addr} {y d:V}{u r:Value} {o:Option V}{A:Around} {E:Value→Shared→Prop}
end
section
variable {X:Cx}{o e f:Expr} {apos cpos:Pos}{td ty tx:TE}
end
section
variable {X:Cx}{pins:List (Addr×Obj)} {σ:St}{H:Hp} {s:Shared}{a:Addr} {kvs:List (Key×V)}{A:Around} {E:Value→Shared→Prop}
end
section
variable {X:Cx}{pins:List (Addr×Obj)} {σ:St}{H:Hp} {s:Shared}{a:Addr} {y:V}{u:Value} {A:Around}{E:Value→Shared→Prop}
end
end L2
set_option Elab.async false
set_option linter.all false
set_option maxRecDepth 100000
namespace FL
open PySem PySem.Spec PyProof.Rows L2
noncomputable def keyD:D→Option Key
 | .int i=>some (.inl i)
 | .str x=>some (.inr x)
 | _=>none
noncomputable def valD (ks:List KD) (ds:List D) (k:KD):Option D:=((ks.zip ds).find? fun p=>decide (p.1=k)).map (·.2)
noncomputable def putD (ks:List KD) (ds:List D) (k:KD) (d:D):List KD×List D:=
 if (ks.any fun x=>decide (x=k))=true then (ks,(ks.zip ds).map fun p=>if p.1=k then d else p.2) else (ks++[k],ds++[d])
section
variable {K:PySem.W.Frag}{X:Cx} {pos:Pos}
noncomputable def kOk (ks:List KD):Bool:=ks.all fun x=>match x with
 | .tup _=>false
 | _=>true
noncomputable def c3 (p:D→D→D→Option D) (fa fb fc:En→Option D):En→Option D:=fun ρ=>(fa ρ).bind fun x=>(fb ρ).bind fun y=>(fc ρ).bind fun z=>p x y z
noncomputable def zfs (x y z:D):Option D:=match x,keyD y with
 | .dic ks ds,some k=>if kOk ks=true then some ((valD ks ds (kdK k)).getD z) else none
 | _,_=>none
noncomputable def zfz:List D→Option D
 | [.dic ks ds]=>if kOk ks=true then some (.dic ks ds) else none
 | _=>none
noncomputable def zff (i:Nat) (fk fe:En→Option D):En→Option Fl:=fun ρ=>match ρ[i]?,fe ρ,(fk ρ).bind keyD with
 | some (some (.ow pp (.dic ks ds))),some d,some k=>if kOk ks=true∧ks.length < lim then some (.nx (ρ.set i (some (.ow pp (.dic (putD ks ds (kdK k) d).1 (putD ks ds (kdK k) d).2))))) else none
 | _,_,_=>none
noncomputable def frzM (i:Nat) (m:En→Option Fl):En→Option Fl:=fun ρ=>match ρ[i]? with
 | some (some (.ow false d))=>m (ρ.set i (some (.dat d)))
 | _=>none
end
end FL
set_option Elab.async false
set_option linter.all false
set_option maxRecDepth 100000
namespace L2
open PySem PySem.Spec PyProof.Rows
end L2
namespace FL
open PySem PySem.Spec PyProof.Rows L2
section
variable {K:PySem.W.Frag}{X:Cx} {pos:Pos}
noncomputable def zkQ (z:Str):List D:=z.cps.toList.map fun c=>D.str ⟨#[c]⟩
noncomputable def cSg (f:En→Option D):En→Option (List D):=fun ρ=>match f ρ with
 | some (.str z)=>some (zkQ z)
 | _=>none
noncomputable def zfy (y z:D):Option D:=(keyD y).map fun k=>.dic [kdK k] [z]
end
end FL
set_option Elab.async false
set_option linter.all false
set_option maxRecDepth 100000
namespace FL
open PySem PySem.Spec PyProof.Rows L2
section
variable {K:PySem.W.Frag}{X:Cx} {pos:Pos}
end
end FL
set_option Elab.async false
set_option linter.all false
set_option maxRecDepth 100000
namespace L2
open PySem PySem.Spec PyProof.Rows
end L2
namespace FL
open PySem PySem.Spec PyProof.Rows L2
section
variable {K:PySem.W.Frag}{X:Cx} {pos:Pos}{tg l:Expr} {f:En→Option D}
end
end FL
set_option Elab.async false
set_option linter.all false
set_option maxRecDepth 100000
namespace L2
open PySem PySem.Spec PyProof.Rows
section
variable {X:Cx}{pins:List (Addr×Obj)} {σ:St}{N:List Str} {cap:List (Option Nat)}{scope:Scope} {tg iter kx vx:Expr}{ifs:List Expr} {pos:Pos}{g:TG} {tt:TT}{tk tv:TE}
end
end L2
namespace FL
open PySem PySem.Spec PyProof.Rows L2
section
variable {K:PySem.W.Frag}{md:Md} {X:Cx}{pos:Pos} {tg iter kx vx:Expr}{ifs:List Expr} {scope:Scope}
end
end FL
set_option Elab.async false
set_option linter.all false
set_option maxRecDepth 100000
namespace HT
open PySem PySem.Spec PyProof.Rows PySem.Calls
end HT
namespace L2
open PySem PySem.Spec PyProof.Rows
section
variable {X:Cx}
end
end L2
namespace FL
open PySem PySem.Spec PyProof.Rows L2
section
variable {K:PySem.W.Frag}{X:Cx} {md:Md}{pos:Pos}
end
end FL
set_option Elab.async false
set_option linter.all false
set_option maxRecDepth 100000
namespace FL
open PySem PySem.Spec PyProof.Rows L2
section
variable {P:Program}{w:World} {K:PySem.W.Frag}{mg:Str→Option Value} {base:Heap}{X:Cx} {k j:Nat}{ps:List Str} {x:Str}
end
end FL
set_option Elab.async false
set_option linter.all false
set_option maxRecDepth 100000
namespace FL
open PySem PySem.Spec PyProof.Rows L2
section
variable {K:PySem.W.Frag}{md:Md} {X:Cx}{a b e:Expr} {fa fb:En→Option D}{m:En→Option (D×En)} {p:D→D→Option D}{pos:Pos}
end
section
variable {K:PySem.W.Frag}{X:Cx} {e:Expr}{es:List Expr} {m:En→Option (D×En)}{fs:En→Option (List D)} {gs:En→Option (List D×En)}{pos p:Pos} {x:Str}{ps:List Str} {k j:Nat}{mm:List D→Option D}
end
section
variable {K:PySem.W.Frag}{X:Cx} {pos:Pos}
end
end FL
set_option Elab.async false
set_option linter.all false
set_option maxRecDepth 100000
namespace L2
open PySem PySem.Spec PyProof.Rows
section
variable {X:Cx}
end
end L2
namespace FL
open PySem PySem.Spec PyProof.Rows L2
section
variable {K:PySem.W.Frag}{F H:Hp} {X:Cx}
end
end FL
set_option Elab.async false
set_option linter.all false
set_option maxRecDepth 100000
namespace L2
open PySem PySem.Spec PyProof.Rows
section
variable {X:Cx}{tg iter tg2 iter2 elt:Expr} {scope:Scope}{pos:Pos} {wi:TI}{g2:TG} {te:TE}
variable {pins:List (Addr×Obj)}{σ:St} {N:List Str}{cap:List (Option Nat)} {ifs:List Expr}{g:TG} {tt:TT}
end
end L2
set_option Elab.async false
set_option linter.all false
set_option maxRecDepth 100000
namespace FL
open PySem PySem.Spec PyProof.Rows L2
section
variable {K:PySem.W.Frag}{md:Md} {X:Cx}{pos:Pos} {tg iter tg2 iter2 elt:Expr}{scope:Scope}
end
end FL
set_option Elab.async false
set_option linter.all false
set_option maxRecDepth 100000
namespace L2
open PySem PySem.Spec PyProof.Rows
section
variable {X:Cx}
end
end L2
namespace FL
open PySem PySem.Spec PyProof.Rows L2
section
variable {K:PySem.W.Frag}{md:Md} {X:Cx}{f:En→Option D} {pos:Pos}
end
end FL
set_option Elab.async false
set_option linter.all false
set_option maxRecDepth 100000
namespace HD
open PySem PySem.W PySem.Calls PyProof.Rows
noncomputable def bal (S:SharedT→Thread→Option (SharedT×Thread)) (ok:Thread→Bool) (d:Nat):SharedT→Thread→Option (SharedT×Thread):=
 @Nat.rec (fun _=>SharedT→Thread→Option (SharedT×Thread)) (fun s t=>match through t with
  | true=>some (s,t)
  | false=>match ok t with
   | false=>none
   | true=>S s t)
  (fun _ ih s t=>match ih s t with
   | none=>none
   | some (s',t')=>match through t' with
    | true=>some (s',t')
    | false=>ih s' t') d
section
variable {tb:String→Option Builtin}{p:Program} {w:World}{n₀:Nat} {ann:Option Value}
theorem zeV:∀ {n m:Nat}{s s' s2:Shared} {t t' t2:Thread},topGo tb p w n₀ ann n s t=some (s',t')→topGo tb p w n₀ ann m s' t'=some (s2,t2)→topGo tb p w n₀ ann (n + m) s t=some (s2,t2)
 | 0,m,s,s',s2,t,t',t2,h,k=>by
  obtain ⟨rfl,rfl⟩:s=s'∧t=t':=by simpa [topGo] using h
  rw [Nat.zero_add];exact k
 | n + 1,m,s,s',s2,t,t',t2,h,k=>by
  rw [show n + 1 + m=n + m + 1 by omega]
  unfold topGo at h ⊢
  cases ht:through t with
  | true=>rw [ht] at h;cases h
  | false=>
   rw [ht] at h
   cases hk:stepOk n₀ ann t with
   | false=>rw [hk] at h;cases h
   | true=>
    rw [hk] at h
    cases hs:step (denote tb) p w s t with
    | halt o s₂=>rw [hs] at h;cases h
    | go s₂ t₂=>rw [hs] at h;exact zeV h k
theorem zio:∀ (d:Nat) {s s':SharedT}{t t':Thread},bal (stepT (denote tb) p w) (stepOk n₀ ann) d s t=some (s',t')→∃ n,n≤2 ^ d∧topGo tb p w n₀ ann n s.abs t=some (s'.abs,t')
 | 0,s,s',t,t',h=>by
  have h:(match through t with
   | true=>some (s,t)
   | false=>match stepOk n₀ ann t with
    | false=>none
    | true=>stepT (denote tb) p w s t)=some (s',t'):=h
  cases ht:through t with
  | true=>rw [ht] at h;cases h;exact ⟨0,Nat.zero_le _,rfl⟩
  | false=>
   rw [ht] at h
   cases hk:stepOk n₀ ann t with
   | false=>rw [hk] at h;cases h
   | true=>
    rw [hk] at h
    refine ⟨1,by simp,?_⟩
    unfold topGo
    rw [ht,hk,stepT_spec h]
    rfl
 | d + 1,s,s',t,t',h=>by
  have h:(match bal (stepT (denote tb) p w) (stepOk n₀ ann) d s t with
   | none=>none
   | some (s',t')=>match through t' with
    | true=>some (s',t')
    | false=>bal (stepT (denote tb) p w) (stepOk n₀ ann) d s' t')=some (s',t'):=h
  cases e:bal (stepT (denote tb) p w) (stepOk n₀ ann) d s t with
  | none=>rw [e] at h;cases h
  | some r=>
   obtain ⟨s1,t1⟩:=r
   rw [e] at h
   obtain ⟨n,hn,g⟩:=zio d e
   cases ht:through t1 with
   | true=>simp only [ht] at h;cases h;exact ⟨n,by rw [Nat.pow_succ];omega,g⟩
   | false=>
    simp only [ht] at h
    obtain ⟨m,hm,g2⟩:=zio d h
    exact ⟨n + m,by rw [Nat.pow_succ];omega,zeV g g2⟩
theorem zkC {d:Nat}{s s':SharedT} {t t':Thread}(h:bal (stepT (denote tb) p w) (stepOk n₀ ann) d s t=some (s',t')) (ht:through t'=true) {N:Nat}(hN:2 ^ d + 1≤N) :
  topRun tb p w n₀ ann N s.abs t=some s'.abs:=by
 obtain ⟨n,hn,g⟩:=zio d h
 have k:topRun tb p w n₀ ann 1 s'.abs t'=some s'.abs:=by unfold topRun;rw [ht]
 have r:=topRun_mono (N - (n + 1)) _ _ _ _ (go_top g k)
 rwa [show n + 1 + (N - (n + 1))=N by omega] at r
end
noncomputable def zlM (l:List Obj):Nat→BT→BT:=@List.rec Obj (fun _=>Nat→BT→BT) (fun _ t=>t) (fun o _ ih n t=>ih (n + 1) (t.ins n o)) l
noncomputable def zkB (P:Params):BT:=zlM (boot_heap P).objs.toList 0 .nil
theorem zjn (P:Params):absHeap (zkB P) 11 {}=boot_heap P:=by kernel_rfl
theorem zhc (P:Params):((boot_heap P).isNs mainGlobals,(boot_heap P).objs.size,(boot_heap P).nsMap mainGlobals "__annotations__")=(true,11,some (.ref 6)):=by kernel_rfl
section
variable {p q:Program}{loose:List Str} {Xt:Shared→Bool}{α:Type} {Yf:Shared→α}{Ya:World→α} {N d:Nat}
noncomputable def bootS (w:World) (os:OsState):SharedT:=⟨zkB w.params,11,{},⟨[]⟩,boot_drawn,boot_toks,os⟩
noncomputable def looks (p q:Program) (loose:List Str) (Xt:Shared→Bool) (Yf:Shared→α) (sn:Program→List Str→List Str→(Shared→Bool)→Bool→Shared→β) (im:List Stmt→List Str) (w:World) (r:SharedT×Thread):Bool×Bool×β×α:=
 (through r.2,staticsOk (im p.main.body) (boot_heap w.params) r.1.abs.heap && namesBound p r.1.abs.heap && gensDone r.1.abs && laidKept (boot_heap w.params) r.1.abs.heap,sn q loose (im p.main.body) Xt true r.1.abs,Yf r.1.abs)
theorem left_of (e:opening p=plainProg p.main.scope.names) (hN:Nat.ble 600 N=true) (hd:Nat.ble (2 ^ d + 1) N=true) (f:∀ s,fenceModules? p s=some s)
  (h:∀ w:World,(fun os:OsState=>(bal (stepT (denote treeTable) p w) (stepOk 11 (some (.ref 6))) d (bootS w os) (topStub p)).map (looks p q loose Xt Yf openSeen importedModules w))=fun _=>some (true,true,openGood q loose,Ya w)) :
  LeftO p q loose Xt Yf Ya N:=fun w=>by
 obtain ⟨⟨hp,gs,dr,k,os⟩,e1,e2⟩:=Option.map_eq_some_iff.mp (boot_open e hN f w)
 obtain ⟨rfl,rfl,rfl,rfl⟩:hp=boot_heap w.params∧gs=⟨[]⟩∧dr=boot_drawn∧k=boot_toks:=by simpa using e2
 obtain ⟨⟨s,t⟩,b1,b2⟩:=Option.map_eq_some_iff.mp (congrFun (h w) os)
 have l1:=congrArg (fun x=>x.1) b2
 have l2:=congrArg (fun x=>x.2.1) b2
 have l3:=congrArg (fun x=>x.2.2.1) b2
 have l4:=congrArg (fun x=>x.2.2.2) b2
 dsimp only [looks] at l1 l2 l3 l4
 have r:=zkC b1 l1 (Nat.le_of_ble_eq_true hd)
 have ea:(bootS w os).abs=⟨boot_heap w.params,⟨[]⟩,boot_drawn,boot_toks,os⟩:=by
  show Shared.mk (absHeap (zkB w.params) 11 {}) _ _ _ _=_
  rw [zjn];rfl
 rw [ea] at r
 have z:=zhc w.params
 simp only [Prod.mk.injEq] at z
 obtain ⟨z1,z2,z3⟩:=z
 have t':topFrom treeTable p w N ⟨boot_heap w.params,⟨[]⟩,boot_drawn,boot_toks,os⟩=some s.abs:=by
  unfold topFrom
  dsimp only
  rw [z1,z2,z3,r]
  show (match staticsOk (importedModules p.main.body) (boot_heap w.params) s.abs.heap && namesBound p s.abs.heap && gensDone s.abs && laidKept (boot_heap w.params) s.abs.heap with | true=>_ | false=>_)=_
  rw [l2]
 unfold openEnds
 rw [e1]
 show (topFrom treeTable p w N _).map _=_
 rw [t']
 exact congrArg some (Prod.ext l3 l4)
end
end HD
namespace FL
open PySem PySem.Spec PyProof.Rows L2
noncomputable def zjp (h:Heap):PySem.W.Frag:=(List.range h.objs.size).filterMap fun a=>(h.get? a).map fun o=>(a,o)
theorem allIn_in (h:Heap):(zjp h).In h:=by
 intro a o
 unfold zjp
 generalize List.range h.objs.size=l
 induction l with
 | nil=>intro e;cases e
 | cons b l ih=>
  rw [List.filterMap_cons]
  cases e:h.get? b with
  | none=>exact ih
  | some u=>
   intro q
   have q:List.lookup a ((b,u)::List.filterMap (fun a=>Option.map (fun o=>(a,o)) (h.get? a)) l)=some o:=q
   rw [List.lookup_cons] at q
   cases z:a == b with
   | true=>rw [z] at q;cases q;rw [beq_iff_eq.mp z];exact e
   | false=>rw [z] at q;exact ih q
noncomputable abbrev FnT:=Str×Str×Arguments×FuncBody×Scope×Addr×List (Str×Addr)×Value×Addr
noncomputable def fnT (fd:FuncData):FnT:=(fd.name,fd.qualname,fd.params,fd.body,fd.scope,fd.globals,fd.closure,fd.defaults,fd.builtins)
noncomputable def fnv (K:PySem.W.Frag) (n:Str):Option (FnT×Bool):=match PySem.W.nsIn K mainGlobals n with
 | some (some (.ref f))=>(match K.lookup f with
  | some ⟨_,_,.func fd,_⟩=>some (fnT fd,PySem.W.codeIn K fd.code n && PySem.W.keepIn K (.ref f))
  | _=>none)
 | _=>none
noncomputable def stN:Stmt→Str
 | .FunctionDef n ..=>n
 | .ClassDef n ..=>n
 | _=>⟨#[]⟩
noncomputable def fnx (p:Program) (i:Nat):Option (FnT×Bool):=
 let st:=p.main.body.getD i (.Pass ⟨0,0,0,0⟩)
 some (fnT (PySem.W.fnOf (stN st) (stN st) (zgb st) (zdU st) (zaq st) .none .none .none .none none .none .none),true)
theorem zhW {K:PySem.W.Frag}{p:Program} {i:Nat}(st:Stmt) (hst:p.main.body.getD i (.Pass ⟨0,0,0,0⟩)=st) {n:Str}(hn:stN st=n) (e:fnv K (stN (p.main.body.getD i (.Pass ⟨0,0,0,0⟩)))=fnx p i) :
  ∃ f fd,PySem.W.nsIn K mainGlobals n=some (some (.ref f))∧Fun K n n st f fd:=by
 subst hst
 unfold fnx at e
 dsimp only at e
 rw [hn] at e
 unfold fnv at e
 split at e
 ·rename_i f e1
  split at e
  ·rename_i oc od fd osl e2
   have e3:=Option.some.inj e
   have e4:=congrArg Prod.fst e3
   have e5:=congrArg Prod.snd e3
   dsimp only at e4 e5
   obtain ⟨c,k⟩:=Bool.and_eq_true_iff.mp e5
   refine ⟨f,fd,e1,⟨oc,od,fd.kwdefaults,fd.doc,fd.pyModule,fd.annotations,fd.code,fd.closureTuple,osl,?_,e2,c⟩,k⟩
   obtain ⟨a1,a2,a3,a4,a5,a6,a7,a8,a9,a10,a11,a12,a13,a14,a15⟩:=fd
   unfold fnT at e4
   simp only [Prod.mk.injEq] at e4
   obtain ⟨rfl,rfl,rfl,rfl,rfl,rfl,rfl,rfl,rfl⟩:=e4
   rfl
  ·cases e
 ·cases e
noncomputable def topS (p:Program) (i:Nat):Stmt:=p.main.body.getD i (.Pass ⟨0,0,0,0⟩)
noncomputable def biN:List Str:=["isinstance", "str", "tuple", "list", "int", "bool", "dict", "len", "range", "enumerate", "sum", "max", "min", "abs", "zip", "reversed", "sorted", "set", "any", "all"]
noncomputable abbrev FaT:=List (Option (FnT×Bool))×List (Option (Option Value))
noncomputable def faV (p:Program) (I:List Nat) (K:PySem.W.Frag):FaT:=(I.map fun i=>fnv K (stN (p.main.body.getD i (.Pass ⟨0,0,0,0⟩))),biN.map fun n=>PySem.W.nsIn K mainGlobals n)
noncomputable def faX (p:Program) (I:List Nat):FaT:=(I.map fun i=>fnx p i,biN.map fun _=>some none)
theorem zhL {α β:Type}{f g:α→β}:∀ {l:List α},l.map f=l.map g→∀ i∈l,f i=g i
 | [],_,_,h=>nomatch h
 | a::l,e,i,h=>by
  injection e with e1 e2
  cases h with
  | head=>exact e1
  | tail _ h=>exact zhL e2 i h
theorem zcT {p:Program}{I:List Nat} {K:PySem.W.Frag}(A:faV p I K=faX p I) (i:Nat) (hi:i∈I) {n:Str}(hn:stN (topS p i)=n) :
  ∃ f fd,PySem.W.nsIn K mainGlobals n=some (some (.ref f))∧Fun K n n (topS p i) f fd:=zhW _ rfl hn (zhL (congrArg Prod.fst A) i hi)
theorem zlP {p:Program}{I:List Nat} {K:PySem.W.Frag}{h:Heap} {mg:Str→Option Value}(A:faV p I K=faX p I) (X:K.In h) (G:h.Ns mainGlobals mg):Glb mg:=by
 have z:∀ n∈biN,mg n=none:=fun n hn=>PySem.W.mg_none_of X G (zhL (f:=fun n=>PySem.W.nsIn K mainGlobals n) (g:=fun _=>some none) (congrArg Prod.snd A) n hn)
 simp only [biN,List.forall_mem_cons] at z
 obtain ⟨z1,z2,z3,z4,z5,z6,z7,z8,z9,z10,z11,z12,z13,z14,z15,z16,z17,z18,z19,z20,_⟩:=z
 exact ⟨z1,z2,z3,z4,z5,z6,z7,z8,z9,z10,z11,z12,z13,z14,z15,z16,z17,z18,z19,z20⟩
noncomputable def YP (p:Program) (I:List Nat) (_:World) (h:Heap):Prop:=∃ K:PySem.W.Frag,K.In h∧faV p I K=faX p I
theorem YP.keeps {p:Program}{I:List Nat} (w:World) (h h':Heap) (y:YP p I w h) (k:∀ b o,h.get? b=some o→h'.get? b=some o):YP p I w h':=
 let ⟨K,X,A⟩:=y;⟨K,fun a o e=>k _ _ (X a o e),A⟩
theorem walkE {l:PySem.W.OpenLaw}{k:Nat} {q:Program}{loose:List Str} {XP:(Str→Option Value)→Heap→Prop}{d:DefRec} {x:Str}{m:List D→Option D} {p:Program}{I:List Nat} (hn:l.most=some 63) (hdf:d.params.defaults=[]) (hr:Room k callerA)
  (F:∀ (K:PySem.W.Frag) (w:World) (mg:Str→Option Value) (fa:Addr) (h:Heap),faV p I K=faX p I→K.In h→h.Ns mainGlobals mg→mg d.name=some (.ref fa)→
   ∃ fd:FuncData,(∀ (s:Shared) (u:Value),BindsTo s fd ⟨[u],[]⟩ [(x,u)])∧∀ base:Heap,K.In base→base.Ns mainGlobals mg→FnOk l.prog w K mg base CX0 k fa fd [x] (SpD K .fz m))
  (H:∀ ns:List Int,ns.length≤63→m [.scr ns]=some (.bl true)):PySem.W.WalkO q loose XP (YP p I) l.row.toRowW d [] (fun f vs=>PySem.call f vs):=by
 intro w s0 s1 mg mb G Y
 obtain ⟨K,hK,A⟩:=Y
 exact zlX (K:=fun _=>K) (YP:=fun _ h'=>K.In h') hn hdf hr (fun _ _ z=>z) (fun w mg fa h=>F K w mg fa h A) H w s0 s1 mg mb ⟨G.T,G.B,G.D,G.TE,G.TD,G.W,G.X,G.cls,G.has,G.apart,G.once,G.K⟩ hK
end FL
set_option Elab.async false
set_option linter.all false
set_option maxRecDepth 100000
namespace TS
open PySem PySem.Spec PyProof.Rows
noncomputable def fresh (w:World):Obj:={ cls:=.type "set",dict:=none,data:=.set #[] 0 (.fresh 0 0 (!w.params.followText "set-order")) }
theorem fresh_St {w:World}{h:Heap} {a:Addr}(e:h.get? a=some (fresh w)):St w h a []:=
 ⟨_,_,_,_,e,⟨rfl,rfl,rfl⟩,rfl,fun _ he=>by simp at he,by simp [txt],List.nodup_nil,by unfold scanBound;simp,by rfl,fun z=>absurd rfl z,fun z=>by simp [SetTable.fresh,z]⟩
section
variable {P:Program}{w:World} {A:Around}{E:Value→Shared→Prop} {s:Shared}{a:Addr}
theorem zgE (r:List Value) (hc:checkBuiltinCall "set.__new__" ⟨.type "set" :: r,[]⟩=pure ()) {Q₁:Value→Shared→Prop}
  (h:Q₁ (.ref s.heap.objs.size) { s with heap:=s.heap.push (fresh w) }) :
  codeAny (model P w) A (.call (.builtin "set.__new__") ⟨.type "set" :: r,[]⟩) (wants Q₁ E) s:=by
 refine codeAny_of_tree ?_
 show wpAny _ A.in1 (do checkBuiltinCall "set.__new__" ⟨.type "set" :: r,[]⟩;again (.builtin "set.__new__" ⟨.type "set" :: r,[]⟩)) _ _ s
 refine wpAny_bind (wpAny_of_eq hc (wpAny_pure ⟨plainId_quiet F.plain_set_new _,codeAny_builtin F.entry_set_new ?_⟩))
 rw [Around.under_plainId F.plain_set_new _]
 unfold Builtin.«set.__new__» Builtin.Frozenset.newClass
 have hsub:=sub_set_self
 obtain ⟨hp,g,d,tk,os⟩:=s
 dsimp only
 wp_walk
 refine wpAny_askSetting (wpAny_pure ?_)
 dsimp only
 simp only [newObj]
 refine wpAny_bind (wpAny_alloc (wpAny_pure ?_))
 exact wpAny_pure h
set_option maxHeartbeats 1000000 in
theorem call0 {Q:Value→Shared→Prop}(h:Q (.ref s.heap.objs.size) { s with heap:=s.heap.push (fresh w) }) :
  wpAny (model P w) A (call (.type "set") []) Q E s:=by
 obtain ⟨c,tl,hmro⟩:=F.called_set.mro
 have hmade:=F.called_set.made
 have hsub:=F.called_set.sub
 refine wpAny_call (codeAny_of_tree ?_)
 show wpAny _ _ (callAny (.type "set") _) _ _ _
 refine wpAny_pure ⟨Code.quiet_builtin _ (by decide +kernel),codeAny_builtin F.entry_type_call ?_⟩
 rw [Around.under_plain (weight_type_call_type "set" [] []) rfl]
 have h1:=F.called_set.notType
 have h2:=F.called_set.canCreate
 have hct:=F.typeCall_set_0
 repeat (any_goals (first | assumption | wp_step))
 refine codeAny_mono (zgE [] F.newCall_set_0 (E:=E) (Q₁:=fun obj s₁=>obj=.ref s.heap.objs.size∧s₁={ s with heap:=s.heap.push (fresh w) }) ⟨rfl,rfl⟩) fun r s₁ hr=>?_
 cases r with
 | error e=>exact hr
 | ok fl=>
  cases fl with
  | ret obj=>
   obtain ⟨rfl,rfl⟩:=hr
   have hS:(s.heap.push (fresh w)).get? s.heap.objs.size=some (fresh w):=Heap.get?_push_size _ rfl
   have hT:Shared.TypeIs { s with heap:=s.heap.push (fresh w) } (.ref s.heap.objs.size) "set" := ⟨_,hS,rfl⟩
   have hli:=F.called_set.init.lookup
   have hbi:=F.called_set.init.bind (.ref s.heap.objs.size)
   repeat (any_goals (first | assumption | wp_step))
   refine codeAny_mono (codeAny_call_builtin (R:=wants (fun r s₂=>r=.none∧Q (.ref s.heap.objs.size) s₂) E) F.called_set.init.plain F.entry_set_init (check_set_init hT ?_)) fun r₂ s₂ hr₂=>?_
   ·unfold Builtin.«set.__init__» noKeywords
    wp_walk
    exact ⟨rfl,h⟩
   ·cases r₂ with
    | error e=>exact hr₂
    | ok fl₂=>
     cases fl₂ with
     | ret r=>
      obtain ⟨rfl,hq⟩:=hr₂
      repeat (any_goals (first | assumption | wp_step))
     | _=>exact hr₂.elim
  | _=>exact hr.elim
end
noncomputable def setOf (l:List Str):List Str:=l.foldl addT []
theorem zjq (L:List Str) (x:Str):(addT L x).length≤L.length + 1:=by unfold addT;split<;>simp
theorem setOf_len_aux (l:List Str):∀ L:List Str,(l.foldl addT L).length≤L.length + l.length:=by
 induction l with
 | nil=>intro L;simp
 | cons x l ih=>intro L;have:=ih (addT L x);have:=zjq L x;simp only [List.foldl_cons,List.length_cons];omega
theorem St.at {w:World}{h h':Heap} {a:Addr}{L:List Str} (x:St w h a L) (k:∀ o,h.get? a=some o→h'.get? a=some o):St w h' a L:=by
 obtain ⟨o,es,ep,t,ho,r⟩:=x;exact ⟨o,es,ep,t,k _ ho,r⟩
section
variable {P:Program}{w:World} {A:Around}{R:Result→Shared→Prop} {I:Addr}{fp wr:List Addr} {G:Array GenState→Array GenState→Prop}{n:Nat} {PP:Nat→Value→Prop}{Stt:Nat→Shared→Prop}
theorem ziv (W:WalksS P w A.in1 I fp wr G n PP Stt) (S:Addr) (hSf:S∉fp) (ss:List Str) (hn:ss.length=n)
  (hval:∀ i v,PP i v→∃ t,v=.str (ss.getD i ⟨#[]⟩) t) (hb:n + 1 < scanBound) :
  ∀ (k i:Nat) (s:Shared),n - i=k→i≤n→Stt i s→St w s.heap S (setOf (ss.take i))→
   (∀ s',Moved (S::wr) G s s'→St w s'.heap S (setOf ss)→R (.ok (.ret .none)) s')→
   codeAny (model P w) A (.builtin "set.update.loop" ⟨[.ref S,.ref I],[]⟩) R s:=by
 have hSw:S∉wr:=fun h=>hSf (W.sub _ h)
 have hsub:∀ b∈wr,b∈S::wr:=fun b hb=>List.mem_cons_of_mem _ hb
 intro k
 induction k with
 | zero=>
  intro i s hk hi hst hS hR
  have hin:i=n:=by omega
  subst hin
  rw [List.take_of_length_le (by omega)] at hS
  refine codeAny_builtin F.entry_set_update_loop ?_
  rw [Around.under_plainId F.plain_set_update_loop _]
  show wpAny _ A.in1 (pyNext (.ref I) >>= _) _ _ s
  refine wpAny_bind (W.done s _ _ hst fun s' hm=>?_)
  show wpAny _ A.in1 (ret Value.none) _ _ s'
  exact wpAny_pure (hR s' (hm.mono hsub) (hS.at fun o ho=>hm.heap S _ hSw ho))
 | succ k ih=>
  intro i s hk hi hst hS hR
  have hlt:i < n:=by omega
  refine codeAny_builtin F.entry_set_update_loop ?_
  rw [Around.under_plainId F.plain_set_update_loop _]
  show wpAny _ A.in1 (pyNext (.ref I) >>= _) _ _ s
  refine wpAny_bind (W.item i s _ _ hlt hst fun v s' hP hst' hm=>?_)
  obtain ⟨t,rfl⟩:=hval i v hP
  have hS':St w s'.heap S (setOf (ss.take i)):=hS.at fun o ho=>hm.heap S _ hSw ho
  show wpAny _ A.in1 (holding [Value.str (ss.getD i ⟨#[]⟩) t] (setAdd S (.str (ss.getD i ⟨#[]⟩) t)) >>= _) _ _ s'
  refine wpAny_bind (wpAny_holding ?_)
  unfold setAdd
  refine wpAny_holding ?_
  refine wpAny_bind ((PySem.strKind P w).pyHash (k:=ss.getD i ⟨#[]⟩) (strKind_is _ _ _ _) ?_)
  have hlen:(setOf (ss.take i)).length + 1 < scanBound:=by
   have h1:=setOf_len_aux (ss.take i) []
   have h2:(ss.take i).length≤i:=List.length_take_le i ss
   unfold setOf
   simp only [List.length_nil] at h1
   omega
  refine add (s:={ s' with toks:=s'.toks + 1 }) hS' hlen fun h' b hsb hS2=>?_
  have hSi:St w h' S (setOf (ss.take (i + 1))):=by
   have e:ss.take (i + 1)=ss.take i++[ss.getD i ⟨#[]⟩]:=by
    rw [List.take_add_one]
    congr 1
    rw [List.getD_eq_getElem?_getD,List.getElem?_eq_getElem (by omega)]
    rfl
   rw [e]
   unfold setOf
   rw [List.foldl_append]
   exact hS2
  refine wpAny_pure ⟨plainId_quiet F.plain_set_update_loop _,ih (i + 1) _ (by omega) hlt (W.frame _ s' _ _ hst' (Nat.le_succ _) fun b hb o e=>?_) hSi fun s'' hm'' hS''=>?_⟩
  ·rw [hsb.2 b (fun h:b=S=>hSf (by rw [← h];exact hb))];exact e
  ·refine hR s'' (Moved.trans W.gtrans ((hm.mono hsub).then_heap (Nat.le_succ _) fun b o hb e=>?_) hm'') hS''
   rw [hsb.2 b (fun h:b=S=>hb (by rw [h];exact List.mem_cons_self))];exact e
end
section
variable {P:Program}{w:World} {A:Around}{E:Value→Shared→Prop} {s:Shared}{a:Addr}
theorem StrsAre.at':∀ {vs:List Value}{ss:List Str},StrsAre vs ss→∀ (i:Nat) (v:Value),vs[i]?=some v→∃ t,v=.str (ss.getD i ⟨#[]⟩) t
 | _,_,.nil,i,v,h=>by simp at h
 | _,_,.cons x t r,0,v,h=>by simp at h;exact ⟨t,by simp [h.symm]⟩
 | _,_,.cons x t r,i + 1,v,h=>by simp at h;obtain ⟨u,e⟩:=StrsAre.at' r i v h;exact ⟨u,by rw [e];simp⟩
theorem StrsAre.len:∀ {vs:List Value}{ss:List Str},StrsAre vs ss→vs.length=ss.length
 | _,_,.nil=>rfl
 | _,_,.cons x t r=>by simp [StrsAre.len r]
set_option maxHeartbeats 3200000 in
theorem call1 {l:Addr}{vs:List Value} {ss:List Str}{Q:Value→Shared→Prop}
  (hh:A.handled=none) (hl:s.heap.IsList l vs.toArray) (hi:StrsAre vs ss) (hb:ss.length + 1 < scanBound)
  (h:∀ (h':Heap) (tk:Nat),St w h' s.heap.objs.size (setOf ss)→
   (∀ b o,b < s.heap.objs.size→s.heap.get? b=some o→h'.get? b=some o)→Q (.ref s.heap.objs.size) { s with heap:=h',toks:=tk }) :
  wpAny (model P w) A (call (.type "set") [.ref l]) Q E s:=by
 obtain ⟨c,tl,hmro⟩:=F.called_set.mro
 have hmade:=F.called_set.made
 have hsub:=F.called_set.sub
 refine wpAny_call (codeAny_of_tree ?_)
 show wpAny _ _ (callAny (.type "set") _) _ _ _
 refine wpAny_pure ⟨Code.quiet_builtin _ (by decide +kernel),codeAny_builtin F.entry_type_call ?_⟩
 rw [Around.under_plain (weight_type_call_type "set" [.ref l] []) rfl]
 have h1:=F.called_set.notType
 have h2:=F.called_set.canCreate
 have hct:=F.typeCall_set_1 (.ref l)
 repeat (any_goals (first | assumption | wp_step))
 refine codeAny_mono (zgE [.ref l] (F.newCall_set_1 _) (E:=E) (Q₁:=fun obj s₁=>obj=.ref s.heap.objs.size∧s₁={ s with heap:=s.heap.push (fresh w) }) ⟨rfl,rfl⟩) fun r s₁ hr=>?_
 cases r with
 | error e=>exact hr
 | ok fl=>
  cases fl with
  | ret obj=>
   obtain ⟨rfl,rfl⟩:=hr
   have hS:(s.heap.push (fresh w)).get? s.heap.objs.size=some (fresh w):=Heap.get?_push_size _ rfl
   have hT:Shared.TypeIs { s with heap:=s.heap.push (fresh w) } (.ref s.heap.objs.size) "set" := ⟨_,hS,rfl⟩
   have hli:=F.called_set.init.lookup
   have hbi:=F.called_set.init.bind (.ref s.heap.objs.size)
   repeat (any_goals (first | assumption | wp_step))
   refine codeAny_mono (codeAny_call_builtin (R:=wants (fun r s₂=>r=.none∧∃ h' tk,s₂={ s with heap:=h',toks:=tk }∧
     St w h' s.heap.objs.size (setOf ss)∧
     (∀ b o,b < s.heap.objs.size→s.heap.get? b=some o→h'.get? b=some o)) E) F.called_set.init.plain F.entry_set_init (check_set_init_1 hT ?_)) fun r₂ s₂ hr₂=>?_
   ·obtain ⟨ol,hol,hcl,nl,hdl⟩:=hl
    obtain ⟨ocls,odict,odata,oslots⟩:=ol
    simp only at hcl hdl
    subst hcl;subst hdl
    have hol':(s.heap.push (fresh w)).get? l=some { cls:=.type "list",dict:=odict,data:=.seq vs.toArray nl,slots:=oslots }:=Heap.get?_push_of_some _ hol
    have hsls:=F.sub_list_set
    have hslf:=F.sub_list_frozenset
    have hne:(Value.type "list" == Value.type "dict")=false:=by decide
    have hl1:(s.heap.push (fresh w)).IsList l vs.toArray:=⟨_,hol',rfl,nl,rfl⟩
    unfold Builtin.«set.__init__» noKeywords Builtin.Frozenset.updateFrom
    generalize hPI:pyIter=PI
    wp_walk
    subst hPI
    refine wpAny_pyIter_list hl1 ?_
    refine wpAny_bind (wpAny_runValue ?_)
    have hlS:l < s.heap.objs.size:=Heap.lt_size hol
    have hh3:A.in1.in1.in1.handled=none:=by simp [hh]
    have hneI:l≠(s.heap.push (fresh w)).objs.size:=by
     rw [Heap.size_push];exact Nat.ne_of_lt (Nat.lt_succ_of_lt hlS)
    have hSf:s.heap.objs.size∉[(s.heap.push (fresh w)).objs.size,l]:=by
     rw [Heap.size_push];simp only [List.mem_cons,List.mem_singleton,List.not_mem_nil,or_false,not_or]
     exact ⟨Nat.ne_of_lt (Nat.lt_succ_self _),Nat.ne_of_gt hlS⟩
    have hval:∀ (i:Nat) (v:Value),vs.toArray[i]?=some v→∃ t,v=.str (ss.getD i ⟨#[]⟩) t:=fun i v hv=>
     StrsAre.at' hi i v (by simpa using hv)
    have hsz:vs.toArray.size=ss.length:=by simpa using StrsAre.len hi
    refine ziv ((Walks.list hh3 _ l hneI vs.toArray).toS) s.heap.objs.size
     hSf ss hsz.symm hval (by rw [hsz];exact hb) (vs.toArray.size - 0) 0 _ (by omega) (Nat.zero_le _)
     ⟨⟨_,Heap.get?_push_size _ rfl,rfl,rfl⟩,(hl1.push _)⟩ ?hS0 ?hR
    case hS0=>
     exact fresh_St (Heap.get?_push_of_some _ hS)
    case hR=>
     intro s' hm hS'
     obtain ⟨h',g',d',tk',os'⟩:=s'
     have eg:g'=s.gens:=hm.gens
     have ed:d'=s.drawn:=hm.drawn
     have eo:os'=s.os:=hm.os
     subst eg;subst ed;subst eo
     show wpAny _ _ _ _ _ _
     refine wpAny_pure ?_
     show wpAny _ _ (ret Value.none) _ _ _
     refine wpAny_pure ⟨rfl,h',tk',rfl,hS',fun b o hb e=>?_⟩
     have hb1:b≠s.heap.objs.size:=Nat.ne_of_lt hb
     have hb2:b≠(s.heap.push (fresh w)).objs.size:=by
      rw [Heap.size_push];exact Nat.ne_of_lt (Nat.lt_succ_of_lt hb)
     exact hm.heap b o (by simp only [List.mem_cons,List.mem_singleton,List.not_mem_nil,or_false,not_or];exact ⟨hb1,hb2⟩) (Heap.get?_push_of_some _ (Heap.get?_push_of_some _ e))
   ·cases r₂ with
    | error e=>exact hr₂
    | ok fl₂=>
     cases fl₂ with
     | ret r=>
      obtain ⟨rfl,h',tk,rfl,hS',hk'⟩:=hr₂
      repeat (any_goals (first | assumption | wp_step))
      exact h _ _ hS' hk'
     | _=>exact hr₂.elim
  | _=>exact hr.elim
end
end TS
set_option Elab.async false
set_option linter.all false
set_option maxRecDepth 100000
namespace TS
open PySem PySem.Spec PyProof.Rows
theorem zha:entryFor table "set.__iter__" = some Builtin.«frozenset.__iter__»:=
 entryFor_alias (id' := "frozenset.__iter__") (by kernel_rfl) rfl (by decide +kernel) (by kernel_rfl)
theorem zgs:Manifest.owners.lookup (String.ofList ['r','o','t','a','r','e','t','i','_','t','e','s'].reverse)=some Manifest.sig_set_iterator:=by kernel_rfl
theorem zbb:Slot "set_iterator" "__next__" "set_iterator.__next__" :=
 .of (owner := "set_iterator") (n := "__next__") (by rw [typeLookup_type,builtinLookup_eq_fast];kernel_rfl) (by decide +kernel) (by decide +kernel) (by decide +kernel)
  (by first | exact .inl (by decide +kernel) | exact .inr (by decide +kernel)) (by rw [isSubtype_type];kernel_rfl)
theorem zem:entryFor table "set_iterator.__next__" = some Builtin.«set_iterator.__next__»:=entryFor_of_tree (by kernel_rfl)
theorem zfK (a:Value):argsOk "set_iterator.__next__" ⟨[a],[]⟩:=by
 unfold argsOk;rw [signature?_of (id := "set_iterator.__next__") (n:=['_','_','t','x','e','n','_','_']) (o:=['r','o','t','a','r','e','t','i','_','t','e','s']) (by kernel_rfl) zgs];kernel_rfl
theorem zhp:Slot "set_iterator" "__iter__" "set_iterator.__iter__" :=
 .of (owner := "set_iterator") (n := "__iter__") (by rw [typeLookup_type,builtinLookup_eq_fast];kernel_rfl) (by decide +kernel) (by decide +kernel) (by decide +kernel)
  (by first | exact .inl (by decide +kernel) | exact .inr (by decide +kernel)) (by rw [isSubtype_type];kernel_rfl)
theorem zjf:entryFor table "set_iterator.__iter__" = some Builtin.«dict_keyiterator.__iter__»:=
 entryFor_alias (id' := "dict_keyiterator.__iter__") (by kernel_rfl) rfl (by decide +kernel) (by kernel_rfl)
theorem zkD (a:Value):argsOk "set_iterator.__iter__" ⟨[a],[]⟩:=by
 unfold argsOk;rw [signature?_of (id := "set_iterator.__iter__") (n:=['_','_','r','e','t','i','_','_']) (o:=['r','o','t','a','r','e','t','i','_','t','e','s']) (by kernel_rfl) zgs];kernel_rfl
theorem zhw {α:Type}(next:Nat→Nat):∀ (n k:Nat) (l:List α) (out:Array α),l.length=n→(pickOrder.go next n k l out).toList.Perm (out.toList++l)
 | 0,k,l,out,h=>by
  have:l=[]:=List.eq_nil_of_length_eq_zero h
  subst this;unfold pickOrder.go;simp
 | n + 1,k,l,out,h=>by
  unfold pickOrder.go
  have hlt:next k % l.length < l.length:=Nat.mod_lt _ (by omega)
  rw [List.getElem?_eq_getElem hlt]
  dsimp only
  refine (zhw next n (k + 1) _ _ (by rw [List.length_eraseIdx_of_lt hlt];omega)).trans ?_
  rw [Array.toList_push,List.append_assoc]
  refine List.Perm.append_left _ ?_
  have e:l.Perm (l[next k % l.length]::l.eraseIdx (next k % l.length)):=by
   have h2:l.eraseIdx (next k % l.length)=l.take (next k % l.length)++l.drop (next k % l.length + 1):=List.eraseIdx_eq_take_drop_succ l _
   have h1:l=l.take (next k % l.length)++l[next k % l.length]::l.drop (next k % l.length + 1):=by
    rw [List.getElem_cons_drop,List.take_append_drop]
   rw [h2]
   conv=>lhs;rw [h1]
   exact List.perm_middle
  exact e.symm
theorem zfh {α:Type}(next:Nat→Nat) (xs:Array α):(pickOrder next xs).toList.Perm xs.toList:=by
 unfold pickOrder
 have:=zhw next xs.size 0 xs.toList #[] (by simp)
 simpa using this
section
variable {M:Model}{P:Program} {w:World}{A:Around} {E:Value→Shared→Prop}{s:Shared} {a:Addr}
theorem zeS {src:Source}{n:Nat} {Q:Nat→Shared→Prop}(hn:n≠0) (h:∀ i d,i < n→Q i { s with drawn:=d }):wpAny M A (choose src n) Q E s:=by
 intro _ _ _
 exact ⟨hn,h _ _ (Nat.mod_lt _ (Nat.pos_of_ne_zero hn))⟩
theorem draw {α:Type}:∀ (n:Nat) (l:List α) {Q:List α→Shared→Prop}(s:Shared),l.length≤n→(∀ ys d,ys.Perm l→Q ys { s with drawn:=d })→wpAny M A (drawOrder n l) Q E s
 | 0,l,Q,s,hl,h=>by
  have:l=[]:=List.eq_nil_of_length_eq_zero (by omega)
  subst this
  exact wpAny_pure (h [] s.drawn (List.Perm.refl _))
 | n + 1,[],Q,s,hl,h=>wpAny_pure (h [] s.drawn (List.Perm.refl _))
 | n + 1,x::l,Q,s,hl,h=>by
  show wpAny M A (choose .order (x::l).length >>= fun i=>_) Q E s
  refine wpAny_bind (zeS (by simp) fun i d hi=>?_)
  rw [List.getElem?_eq_getElem hi]
  dsimp only
  refine wpAny_bind (draw n _ _ (by rw [List.length_eraseIdx_of_lt hi];simp at hl ⊢;omega) fun ys d' hp=>?_)
  refine wpAny_pure (h _ d' ?_)
  have h2:(x::l).eraseIdx i=(x::l).take i++(x::l).drop (i + 1):=List.eraseIdx_eq_take_drop_succ _ _
  have h1:x::l=(x::l).take i++(x::l)[i]::(x::l).drop (i + 1):=by
   rw [List.getElem_cons_drop,List.take_append_drop]
  rw [h2] at hp
  conv=>rhs;rw [h1]
  exact (hp.cons _).trans List.perm_middle.symm
theorem zck (a:Addr) (slot given epochThen:Nat):setNext a slot given epochThen=(do
 let (es,epoch,t) ← setState a
 if ← setsByText then
  if epoch != epochThen then unsupported "set_iterator.__next__:elements-changed"
  return ((← setWalk a)[given]?).map fun e=>(e.2,slot)
 if (!t.plain && es.size > 1) then unsupported "set_iterator.__next__:the-table-is-plain-no-more"
 (if (!t.led && !es.isEmpty)=true then (unsupported "set:maker-not-led" : Sem Unit) else pure ())
 let i:=SetTable.below t.place slot
 return match es[i]?,t.place[i]? with
  | some (_,x),some j=>some (x,j + 1)
  | _,_=>none):=rfl
theorem zfO (a:Addr):setDrawn a=(do
 let (es,_,t) ← setState a
 let zcW ← setsByText
 return !zcW && (!t.plain && es.size > 1)):=rfl
theorem zcW {Q:Bool→Shared→Prop}(h:Q (w.params.followText "set-order") s):wpAny (model P w) A setsByText Q E s:=
 wpAny_bind (wpAny_askSetting (wpAny_pure h))
end
end TS
set_option Elab.async false
set_option linter.all false
set_option maxRecDepth 100000
namespace TS
open PySem PySem.Spec PyProof.Rows
noncomputable def itO (first:Value) (i:Nat) (a:Addr) (n ep:Nat):Obj:={ cls:=.type "set_iterator",data:=.fields #[first,.int i 0,.ref a,.int n 0,.int ep 0] }
noncomputable def Go (w:World) (es:Array (Int×Value)) (ep:Nat) (t:SetTable) (a:Addr) (ex:List Addr) (vs:List Value) (first:Value) (i:Nat) (h:Heap):Prop:=
 (w.params.followText "set-order" = true∧first=.int 0 0∧vs=(pickOrder (w.params.setOrder a ep) es).toList.map (·.2))∨
 (w.params.followText "set-order" = false∧es.size≤1∧vs=es.toList.map (·.2)∧first=.int (if i=0 then 0 else ((t.place.getD 0 0 + 1:Nat):Int)) 0)∨
 (∃ (tp:Addr) (ps:List Nat),ex=[tp]∧first=.ref tp∧(∃ o,h.get? tp=some o∧o.data=.seq (ps.map fun (j:Nat)=>rawInt j).toArray 0)∧ps.Perm (List.range es.size)∧vs=ps.map fun j=>(es.getD j (0,.none)).2)
structure It (w:World) (o:Obj) (es:Array (Int×Value)) (ep:Nat) (t:SetTable) (a it:Addr) (ex:List Addr) (vs:List Value) (i:Nat) (h:Heap):Prop where
 set:h.get? a=some o
 cur:∃ first,h.get? it=some (itO first i a es.size ep)∧Go w es ep t a ex vs first i h
theorem It.len {w:World}{o:Obj} {es:Array (Int×Value)}{ep:Nat} {t:SetTable}{a it:Addr} {ex:List Addr}{vs:List Value} {i:Nat}{h:Heap} (x:It w o es ep t a it ex vs i h):vs.length=es.size:=by
 obtain ⟨first,_,⟨_,_,e⟩ | ⟨_,_,e,_⟩ | ⟨tp,ps,_,_,_,p,e⟩⟩:=x.cur
 ·rw [e,List.length_map,(zfh _ es).length_eq,Array.length_toList]
 ·rw [e];simp
 ·rw [e,List.length_map,p.length_eq,List.length_range]
section
variable {P:Program}{w:World} {A:Around}{E:Value→Shared→Prop} {s:Shared}{a it:Addr} {o:Obj}{es:Array (Int×Value)} {ep:Nat}{t:SetTable} {ex:List Addr}{vs:List Value} {i:Nat}
theorem zjD {xs:Array Nat}(h:xs.size≤1) (k:Nat):SetTable.below xs k=if xs.size=1∧xs.getD 0 k < k then 1 else 0:=by
 unfold SetTable.below
 rcases Nat.lt_or_ge xs.size 1 with z | z
 ·have e:xs.size=0:=by omega
  rw [e];simp [SetTable.below.go]
 ·have e:xs.size=1:=by omega
  rw [e]
  unfold SetTable.below.go
  simp only [Nat.zero_lt_one,if_true,Nat.zero_add,Nat.reduceDiv]
  split
  ·rename_i hq
   rw [if_pos ⟨trivial,hq⟩];rfl
  ·rename_i hq
   rw [if_neg (fun z=>hq z.2)];rfl
theorem zju {f v:Value}{n:Nat} {nx:Int}{Q:Fin→Shared→Prop} (hi:s.heap.get? it=some (itO f i a n ep))
  (h:∀ h',Heap.SameBut it s.heap h'→h'.get? it=some (itO (.int nx 0) (i + 1) a n ep)→Q (.done (.ret v)) { s with heap:=h' }) :
  wpAny (model P w) A (do setField (.ref it) 0 (rawInt nx);setField (.ref it) 1 (rawInt ((i:Int) + 1));ret v) Q E s:=by
 refine wpAny_bind (wpAny_setField_rec (cls:=.type "set_iterator") hi (by simp) fun h1 g1 k1=>?_)
 refine wpAny_bind (wpAny_setField_rec (cls:=.type "set_iterator") g1 (by simp) fun h2 g2 k2=>?_)
 exact wpAny_pure (h h2 (k1.trans k2) (by rw [g2];simp [itO,rawInt]))
theorem zkR {f v:Value}{n:Nat} {Q:Fin→Shared→Prop}(hi:s.heap.get? it=some (itO f i a n ep))
  (h:∀ h',Heap.SameBut it s.heap h'→h'.get? it=some (itO f (i + 1) a n ep)→Q (.done (.ret v)) { s with heap:=h' }) :
  wpAny (model P w) A (do setField (.ref it) 1 (rawInt ((i:Int) + 1));ret v) Q E s:=by
 refine wpAny_bind (wpAny_setField_rec (cls:=.type "set_iterator") hi (by simp) fun h2 g2 k2=>?_)
 exact wpAny_pure (h h2 k2 (by rw [g2];simp [itO,rawInt]))
theorem zfV {h h':Heap}(k:Heap.SameBut it h h') {b:Addr}{u:Obj} (ne:b≠it) (e:h.get? b=some u):h'.get? b=some u:=by rw [k.2 b ne];exact e
theorem zkk (x:It w o es ep t a it ex vs i s.heap) (hex:o.ExactSet) (hd:o.data=.set es ep t) (hf:t.fits es.size=true) (hld:w.params.followText "set-order" = false→t.led=true) (ne:a≠it) (nx:it∉ex)
  {v:Value} (hv:vs[i]?=some v) {Q:Option Value→Shared→Prop}(h:∀ h',Heap.SameBut it s.heap h'→It w o es ep t a it ex vs (i + 1) h'→Q (some v) { s with heap:=h' }) :
  wpAny (model P w) A (pyNext (.ref it)) Q E s:=by
 obtain ⟨first,hi,hg⟩:=x.cur
 have hT:s.TypeIs (.ref it) "set_iterator" := ⟨_,hi,rfl⟩
 unfold pyNext
 refine wpAny_bind (wpAny_attempt (wpAny_callSpecial?_slot (name:=Str.ofString "__next__") hT zbb
  (wpAny_call_entry zbb hT zem ?_ (zfK _))))
 unfold Builtin.«set_iterator.__next__»
 refine wpAny_bind (wpAny_pure ?_)
 refine wpAny_bind (wpAny_fieldsOf hi rfl ?_)
 dsimp only
 refine wpAny_bind (wpAny_setEntries_of x.set hd hf ?_)
 rw [if_neg (by simp)]
 rcases hg with ⟨b1,rfl,ev⟩ | ⟨b1,b2,ev,rfl⟩ | ⟨tp,ps,rfl,rfl,⟨ot,hot,hdt⟩,pp,ev⟩
 ·dsimp only
  rw [zck]
  refine wpAny_bind (wpAny_bind (wpAny_setState_of x.set hd hf ?_))
  dsimp only
  refine wpAny_bind (zcW ?_)
  rw [b1]
  simp only [if_true,Int.toNat_natCast,bne_self_eq_false,Bool.false_eq_true,if_false]
  unfold setWalk
  refine wpAny_bind (wpAny_bind (wpAny_setState_of x.set hd hf ?_))
  dsimp only
  refine wpAny_bind (zcW ?_)
  rw [b1]
  simp only [if_true]
  refine wpAny_bind (wpAny_askSetting (wpAny_pure (wpAny_pure ?_)))
  have hv0:=hv
  rw [ev,List.getElem?_map,Array.getElem?_toList] at hv
  cases hq:(pickOrder (w.params.setOrder a ep) es)[i]? with
  | none=>rw [hq] at hv;cases hv
  | some e=>
   rw [hq] at hv
   cases hv
   have hm:(pickOrder ((Setting.mk (model P w).prog (model P w).w.params).params.setOrder a ep) es)[i]?=some e:=hq
   rw [hm]
   simp only [Option.map_some]
   exact zju hi fun h' k g=>⟨_,rfl,wpAny_pure (h h' k ⟨zfV k ne x.set,_,g,.inl ⟨b1,rfl,ev⟩⟩)⟩
 ·have hv':=hv
  rw [ev,List.getElem?_map,Array.getElem?_toList] at hv'
  cases hq:es[i]? with
  | none=>rw [hq] at hv';cases hv'
  | some e=>
   rw [hq] at hv'
   cases hv'
   have hlt:i < es.size:=(Array.getElem?_eq_some_iff.mp hq).1
   have hi0:i=0:=by omega
   subst hi0
   have hs1:es.size=1:=by omega
   have hps:t.place.size=1:=by
    simp only [SetTable.fits,Bool.and_eq_true,beq_iff_eq] at hf
    omega
   dsimp only
   rw [zck]
   refine wpAny_bind (wpAny_bind (wpAny_setState_of x.set hd hf ?_))
   dsimp only
   refine wpAny_bind (zcW ?_)
   rw [b1]
   have hb0:SetTable.below t.place 0=0:=by rw [zjD (by omega)];simp
   simp only [Bool.false_eq_true,if_false,if_true,Int.toNat_zero,hb0,hq,hld b1,hs1,Bool.not_true,Bool.false_and,Array.getElem?_eq_getElem (show 0 < t.place.size by omega),gt_iff_lt,Nat.lt_irrefl,decide_false,Bool.and_false]
   refine wpAny_bind (wpAny_pure (wpAny_pure ?_))
   dsimp only
   refine zju (n:=1) (by rw [hs1] at hi;exact hi) fun h' k g=>⟨_,rfl,wpAny_pure (h h' k ⟨zfV k ne x.set,_,by rw [hs1];exact g,.inr (.inl ⟨b1,b2,ev,?_⟩)⟩)⟩
   simp [hps]
 ·have hv':=hv
  rw [ev,List.getElem?_map] at hv'
  cases hq:ps[i]? with
  | none=>rw [hq] at hv';cases hv'
  | some j=>
   rw [hq] at hv'
   cases hv'
   dsimp only
   refine wpAny_bind (wpAny_seqItems hot hdt ?_)
   have e1:(ps.map fun (j:Nat)=>rawInt j).toArray[(i:Int).toNat]?=some (.int j 0):=by
    simp [hq,rawInt]
   dsimp only
   rw [e1]
   dsimp only
   unfold setNextDrawn
   refine wpAny_bind (wpAny_bind (wpAny_setState_of x.set hd hf ?_))
   simp only [Int.toNat_natCast,bne_self_eq_false,Bool.false_eq_true,if_false]
   have hj:j < es.size:=by
    have:=pp.mem_iff.mp (List.mem_of_getElem? hq)
    simpa using this
   rw [Array.getElem?_eq_getElem hj]
   refine wpAny_pure ?_
   have hv2:(es.getD j (0,Value.none)).2=es[j].2:=by simp [Array.getD,hj]
   show wpAny _ _ (do setField (.ref it) 1 (rawInt ((i:Int) + 1));ret es[j].2) _ _ _
   refine zkR hi fun h' k g=>⟨_,rfl,wpAny_pure ?_⟩
   dsimp only at h
   rw [hv2] at h
   exact h h' k ⟨zfV k ne x.set,_,g,.inr (.inr ⟨tp,ps,rfl,rfl,⟨ot,zfV k (fun z=>nx (by simp [z])) hot,hdt⟩,pp,ev⟩)⟩
end
end TS
set_option Elab.async false
set_option linter.all false
set_option maxRecDepth 100000
namespace TS
open PySem PySem.Spec PyProof.Rows
section
variable {P:Program}{w:World} {A:Around}{E:Value→Shared→Prop} {s:Shared}{a it:Addr} {o:Obj}{es:Array (Int×Value)} {ep:Nat}{t:SetTable} {ex:List Addr}{vs:List Value} {i:Nat}
theorem stop {Q:Option Value→Shared→Prop}{Qf:Fin→Shared→Prop} (hh:A.handled=none) (h:∀ h',(∀ b u,s.heap.get? b=some u→h'.get? b=some u)→Q none { s with heap:=h' }) :
  wpAny (model P w) A.in1 (do raiseNew (← newExc (.type "StopIteration") [])) Qf
   (fun e s'=>wpAny (model P w) A (do if ← isInstance e (.type "StopIteration") then pure none else throw e) Q E s') s:=by
 refine wpAny_bind ?_
 simp only [newExc,newTuple]
 refine wpAny_bind (wpAny_newObj_type ?_ (by size_fits))
 refine wpAny_bind (m:=firstArgMember _ _) (wpAny_of_eq (a:=Value.none) (by first | rfl | (simp only [firstArgMember];rfl)) ?_)
 refine wpAny_newObj_type ?_ (by size_fits)
 simp only [raiseNew]
 refine wpAny_bind (wpAny_handled ?_)
 rw [show A.in1.handled=none from hh]
 refine wpAny_bind (wpAny_pure (wpAny_throw ?_))
 refine wpAny_bind (wpAny_isInstance (T := "StopIteration") (b:=true) ⟨_,Heap.get?_push_size _ rfl,rfl⟩ isSubtype_stop ?_)
 exact wpAny_pure (h _ fun b u e=>Heap.get?_push_of_some _ (Heap.get?_push_of_some _ e))
theorem ziR (hh:A.handled=none) (x:It w o es ep t a it ex vs i s.heap) (hd:o.data=.set es ep t) (hf:t.fits es.size=true) (hld:w.params.followText "set-order" = false→t.led=true)
  (hv:vs[i]?=none) {Q:Option Value→Shared→Prop}(h:∀ h',(∀ b u,b≠it→s.heap.get? b=some u→h'.get? b=some u)→Q none { s with heap:=h' }) :
  wpAny (model P w) A (pyNext (.ref it)) Q E s:=by
 obtain ⟨first,hi,hg⟩:=x.cur
 have hT:s.TypeIs (.ref it) "set_iterator" := ⟨_,hi,rfl⟩
 unfold pyNext
 refine wpAny_bind (wpAny_attempt (wpAny_callSpecial?_slot (name:=Str.ofString "__next__") hT zbb
  (wpAny_call_entry zbb hT zem ?_ (zfK _))))
 unfold Builtin.«set_iterator.__next__»
 refine wpAny_bind (wpAny_pure ?_)
 refine wpAny_bind (wpAny_fieldsOf hi rfl ?_)
 dsimp only
 refine wpAny_bind (wpAny_setEntries_of x.set hd hf ?_)
 rw [if_neg (by simp)]
 have fin:∀ {Qf:Fin→Shared→Prop}(h1:Heap) (f:Value),Heap.SameBut it s.heap h1→h1.get? it=some (itO f i a es.size ep)→
   wpAny (model P w) A.in1 (do setField (.ref it) 2 .none;raiseNew (← newExc (.type "StopIteration") [])) Qf
   (fun e s'=>wpAny (model P w) A (do if ← isInstance e (.type "StopIteration") then pure none else throw e) Q E s') { s with heap:=h1 }:=fun h1 f k1 g1=>by
  refine wpAny_bind (wpAny_setField_rec (cls:=.type "set_iterator") g1 (by simp) fun h2 g2 k2=>?_)
  exact stop hh fun h' kk=>h h' fun b u ne e=>kk b u (zfV k2 ne (zfV k1 ne e))
 have hs0:s={ s with heap:=s.heap }:=by cases s;rfl
 rcases hg with ⟨b1,rfl,ev⟩ | ⟨b1,b2,ev,rfl⟩ | ⟨tp,ps,rfl,rfl,⟨ot,hot,hdt⟩,pp,ev⟩
 ·dsimp only
  rw [zck]
  refine wpAny_bind (wpAny_bind (wpAny_setState_of x.set hd hf ?_))
  dsimp only
  refine wpAny_bind (zcW ?_)
  rw [b1]
  simp only [if_true,Int.toNat_natCast,bne_self_eq_false,Bool.false_eq_true,if_false]
  unfold setWalk
  refine wpAny_bind (wpAny_bind (wpAny_setState_of x.set hd hf ?_))
  dsimp only
  refine wpAny_bind (zcW ?_)
  rw [b1]
  simp only [if_true]
  refine wpAny_bind (wpAny_askSetting (wpAny_pure (wpAny_pure ?_)))
  rw [ev,List.getElem?_map,Array.getElem?_toList] at hv
  have hm:(pickOrder ((Setting.mk (model P w).prog (model P w).w.params).params.setOrder a ep) es)[i]?=none:=by
   cases hq:(pickOrder (w.params.setOrder a ep) es)[i]? with
   | none=>exact hq
   | some e=>rw [hq] at hv;cases hv
  rw [hm]
  simp only [Option.map_none]
  exact fin s.heap _ (Heap.SameBut.refl _ _) hi
 ·have hge:es.size≤i:=by rw [ev] at hv;simpa using hv
  have hps:t.place.size=es.size:=by
   simp only [SetTable.fits,Bool.and_eq_true,beq_iff_eq] at hf
   exact hf.1
  dsimp only
  rw [zck]
  refine wpAny_bind (wpAny_bind (wpAny_setState_of x.set hd hf ?_))
  dsimp only
  refine wpAny_bind (zcW ?_)
  rw [b1]
  have hb:es.size≤SetTable.below t.place (if i=0 then (0:Int) else ((t.place.getD 0 0 + 1:Nat):Int)).toNat:=by
   rw [zjD (by omega)]
   by_cases hz:es.size=0
   ·omega
   ·have h1:t.place.size=1:=by omega
    have hi1:¬ i=0:=by omega
    simp only [hi1,if_false,Int.toNat_natCast]
    rw [if_pos ⟨h1,by simp [Array.getD,h1]⟩]
    omega
  have hn:es[SetTable.below t.place (if i=0 then (0:Int) else ((t.place.getD 0 0 + 1:Nat):Int)).toNat]?=none:=Array.getElem?_eq_none hb
  have hgt:decide (es.size > 1)=false:=decide_eq_false (by omega)
  simp only [Bool.false_eq_true,if_false,hn,hld b1,hgt,Bool.not_true,Bool.false_and,Bool.and_false]
  refine wpAny_bind (wpAny_pure (wpAny_pure ?_))
  exact fin s.heap _ (Heap.SameBut.refl _ _) hi
 ·dsimp only
  refine wpAny_bind (wpAny_seqItems hot hdt ?_)
  have hge:ps.length≤i:=by rw [ev] at hv;simpa using hv
  have e1:(ps.map fun (j:Nat)=>rawInt j).toArray[(i:Int).toNat]?=none:=by simp [hge]
  dsimp only
  rw [e1]
  dsimp only
  refine wpAny_bind (wpAny_setField_rec (cls:=.type "set_iterator") hi (by simp) fun h1 g1 k1=>?_)
  exact fin h1 (.int 0 0) k1 (by rw [g1];simp [itO,rawInt])
theorem iter (ho:s.heap.get? a=some o) (hex:o.ExactSet) (hd:o.data=.set es ep t) (hf:t.fits es.size=true) (hsz:es.size < scanBound) (hpl:1 < es.size→t.plain=false)
  {Q:Value→Shared→Prop} (h:∀ h' d it ex vs,(∀ b u,s.heap.get? b=some u→h'.get? b=some u)→it∉ex→s.heap.objs.size≤it→(∀ b∈ex,s.heap.objs.size≤b)→(∀ b∈ex,b < h'.objs.size)→it < h'.objs.size→It w o es ep t a it ex vs 0 h'→
   vs.Perm (es.toList.map (·.2))→Q (.ref it) { s with heap:=h',drawn:=d }) :
  wpAny (model P w) A (pyIter (.ref a)) Q E s:=by
 have hT:s.TypeIs (.ref a) "set" := ⟨o,ho,hex.1⟩
 refine wpAny_pyIter_slot hT F.slot_set_iter (wpAny_call_entry F.slot_set_iter hT zha ?_ (F.args_set_iter_1 _))
 unfold Builtin.«frozenset.__iter__»
 refine wpAny_bind ?_
 unfold Builtin.Frozenset.slot0
 refine wpAny_bind (wpAny_pure ?_)
 show wpAny _ _ (pure a) _ _ _
 refine wpAny_pure ?_
 refine wpAny_bind ?_
 unfold Builtin.Frozenset.sizeOf
 refine wpAny_bind (wpAny_setEntries_of ho hd hf (wpAny_pure ?_))
 rw [zfO]
 refine wpAny_bind (wpAny_bind (wpAny_setState_of ho hd hf ?_))
 dsimp only
 refine wpAny_bind (zcW (wpAny_pure ?_))
 cases hb:(!w.params.followText "set-order" && (!t.plain && decide (es.size > 1))) with
 | false=>
  simp only [Bool.false_eq_true,if_false]
  refine wpAny_bind (wpAny_pure ?_)
  refine wpAny_bind (wpAny_setEpoch_of ho hd hf ?_)
  refine wpAny_bind (wpAny_newObj_type ?_)
  refine wpAny_pure ⟨_,rfl, "set_iterator",_,⟨_,Heap.get?_push_size _ rfl,rfl⟩,zbb.lookup,?_⟩
  have hg:=Heap.get?_push_size s.heap (o:=itO (.int 0 0) 0 a es.size ep) rfl
  have ha:(s.heap.push (itO (.int 0 0) 0 a es.size ep)).get? a=some o:=Heap.get?_push_of_some _ ho
  cases hbt:w.params.followText "set-order" with
  | true=>
   exact h _ s.drawn _ [] ((pickOrder (w.params.setOrder a ep) es).toList.map (·.2)) (fun b u e=>Heap.get?_push_of_some _ e) (by simp) (Nat.le_refl _) (fun _ z=>by simp at z) (fun _ z=>by simp at z) (Heap.lt_size hg) ⟨ha,_,hg,.inl ⟨hbt,rfl,rfl⟩⟩ ((zfh _ _).map _)
  | false=>
   have hs1:es.size≤1:=by
    rcases Nat.lt_or_ge 1 es.size with z | z
    ·rw [hbt,hpl z] at hb;simp at hb;omega
    ·exact z
   exact h _ s.drawn _ [] (es.toList.map (·.2)) (fun b u e=>Heap.get?_push_of_some _ e) (by simp) (Nat.le_refl _) (fun _ z=>by simp at z) (fun _ z=>by simp at z) (Heap.lt_size hg) ⟨ha,_,hg,.inr (.inl ⟨hbt,hs1,rfl,by simp⟩)⟩ (List.Perm.refl _)
 | true=>
  simp only [if_true]
  refine wpAny_bind (draw es.size (List.range es.size) _ (by rw [List.length_range];exact Nat.le_refl _) fun ps d hp=>?_)
  refine wpAny_bind (wpAny_newTuple (items:=ps.map fun (j:Nat)=>rawInt j) ?_ (by rw [List.length_map,hp.length_eq,List.length_range];exact fits_of_scanBound hsz))
  have ho2:=Heap.get?_push_of_some ({ cls:=.type "tuple",data:=.seq (ps.map fun (j:Nat)=>rawInt j).toArray }:Obj) ho
  refine wpAny_bind (wpAny_setEpoch_of ho2 hd hf ?_)
  refine wpAny_bind (wpAny_newObj_type ?_)
  refine wpAny_pure ⟨_,rfl, "set_iterator",_,⟨_,Heap.get?_push_size _ rfl,rfl⟩,zbb.lookup,?_⟩
  have hgt:=Heap.get?_push_size s.heap (o:=({ cls:=.type "tuple",data:=.seq (ps.map fun (j:Nat)=>rawInt j).toArray }:Obj)) rfl
  have hg:=Heap.get?_push_size (s.heap.push ({ cls:=.type "tuple",data:=.seq (ps.map fun (j:Nat)=>rawInt j).toArray }:Obj)) (o:=itO (.ref s.heap.objs.size) 0 a es.size ep) rfl
  have hgt2:=Heap.get?_push_of_some (itO (.ref s.heap.objs.size) 0 a es.size ep) hgt
  refine h _ d _ [s.heap.objs.size] (ps.map fun j=>(es.getD j (0,.none)).2) (fun b u e=>Heap.get?_push_of_some _ (Heap.get?_push_of_some _ e)) ?_ ?_ ?_ ?_ (Heap.lt_size hg) ⟨Heap.get?_push_of_some _ ho2,_,hg,.inr (.inr ⟨_,ps,rfl,rfl,⟨_,hgt2,rfl⟩,hp,rfl⟩)⟩ ?_
  ·simp only [List.mem_singleton]
   rw [Heap.size_push];exact Nat.succ_ne_self _
  ·rw [Heap.size_push];exact Nat.le_succ _
  ·intro b hb;rw [List.mem_singleton.mp hb];exact Nat.le_refl _
  ·intro b hb;rw [List.mem_singleton.mp hb];exact Heap.lt_size hgt2
  ·refine (hp.map _).trans (List.Perm.of_eq ?_)
   refine List.ext_getElem (by simp) fun k h1 h2=>?_
   have hk:k < es.size:=by simpa using h1
   simp [Array.getD,hk]
end
end TS
set_option Elab.async false
set_option linter.all false
set_option maxRecDepth 100000
namespace TS
open PySem PySem.Spec PyProof.Rows
section
variable {P:Program}{w:World} {A:Around}{E:Value→Shared→Prop} {s:Shared}{a it:Addr} {o:Obj}{es:Array (Int×Value)} {ep:Nat}{t:SetTable} {ex:List Addr}{vs:List Value} {i:Nat}
theorem It.at {h h':Heap}(x:It w o es ep t a it ex vs i h) (k:∀ b∈it::a::ex,∀ u,h.get? b=some u→h'.get? b=some u):It w o es ep t a it ex vs i h':=by
 obtain ⟨x1,first,x2,x3⟩:=x
 refine ⟨k a (by simp) _ x1,first,k it (by simp) _ x2,?_⟩
 rcases x3 with x3 | x3 | ⟨tp,ps,rfl,e2,⟨ot,e3,e4⟩,e5⟩
 ·exact .inl x3
 ·exact .inr (.inl x3)
 ·exact .inr (.inr ⟨tp,ps,rfl,e2,⟨ot,k tp (by simp) _ e3,e4⟩,e5⟩)
theorem zlW (hh:A.handled=none) (hex:o.ExactSet) (hd:o.data=.set es ep t) (hf:t.fits es.size=true) (hld:w.params.followText "set-order" = false→t.led=true) (ne:a≠it) (nx:it∉ex) :
  Walks P w A it (it::a::ex) [it] es.size (fun i v=>vs[i]?=some v) (fun i h=>It w o es ep t a it ex vs i h) where
 sub:=fun b hb=>by simp at hb;simp [hb]
 frame:=fun _ _ _ st hk=>st.at hk
 item:=fun i s Q E hi st hQ=>by
  have hl:=st.len
  obtain ⟨v,hv⟩:∃ v,vs[i]?=some v:=⟨vs[i],by simp [hl,hi]⟩
  exact zkk st hex hd hf hld ne nx hv fun h' k st'=>hQ v h' s.toks hv st' fun b u hb e=>zfV k (fun z=>hb (by simp [z])) e
 done:=fun s Q E st hQ=>ziR hh st hd hf hld (by rw [List.getElem?_eq_none];rw [st.len];exact Nat.le_refl _) fun h' k=>hQ h' s.toks fun b u hb e=>k b u (fun z=>hb (by simp [z])) e
 self:=fun i s Q E st hQ=>by
  obtain ⟨first,hi,_⟩:=st.cur
  have hT:s.TypeIs (.ref it) "set_iterator" := ⟨_,hi,rfl⟩
  refine wpAny_pyIter_slot hT zhp (wpAny_call_entry zhp hT zjf ?_ (zkD _))
  show wpAny _ _ (ret (.ref it)) _ _ s
  exact wpAny_pure ⟨_,rfl, "set_iterator",_,hT,zbb.lookup,hQ⟩
theorem zja {Q:Bool→Shared→Prop}(hT:s.TypeIs (.ref a) "set") (h:Q false s):wpAny (model P w) A (Builtin.List.listLengthHint (.ref a)) Q E s:=by
 unfold Builtin.List.listLengthHint
 refine wpAny_bind (wpAny_specialOf hT F.slot_set_len.lookup ?_)
 generalize hid:("set.__len__" : String)=id0
 wp_delta
 rw [show splitId id0=some ("set", "__len__") from by subst hid;decide +kernel]
 subst hid
 refine wpAny_bind (wpAny_isInstance (T := "set") (b:=true) hT (by rw [isSubtype_type];kernel_rfl) ?_)
 refine wpAny_ite_split (fun hab=>absurd hab (by decide)) (fun _=>?_)
 refine wpAny_ite_split (fun _=>?_) (fun hab=>absurd (by decide +kernel) hab)
 refine wpAny_bind (wpAny_typeOf hT ?_)
 exact wpAny_pure h
theorem zgc {L:List Str}{R:List Value→Shared→Prop} (hh:A.handled=none) (hS:St w s.heap a L)
  (h:∀ h' d tk (vs:List Value) ss,(∀ b u,s.heap.get? b=some u→h'.get? b=some u)→s.heap.objs.size < h'.objs.size→StrsAre vs ss→ss.Perm L→R vs { s with heap:=h',drawn:=d,toks:=tk }) :
  wpAny (model P w) A (collect (.ref a)) R E s:=by
 obtain ⟨o,es,ep,t,ho,hex,hd,hel,hpm,hnd,hb,hf,hpl,hld⟩:=hS
 have hpl':1 < es.size→t.plain=false:=fun z=>hpl fun e=>by
  subst e
  have hl:=hpm.length_eq
  unfold txt at hl
  rw [List.length_map,Array.length_toList,List.length_nil] at hl
  omega
 have haS:a < s.heap.objs.size:=Heap.lt_size ho
 unfold collect
 refine wpAny_bind (wpAny_runValue (codeAny_builtin entry_proto_collect' ?_))
 rw [Around.under_plainId PySem.F.plain_proto_collect _]
 show wpAny _ A.in1 (newList [] >>= fun l=>again (.builtin "list.__iadd__" ⟨[l,.ref a],[]⟩)) _ _ s
 refine wpAny_bind (wpAny_newObj_type ?_)
 refine wpAny_pure ⟨plainId_quiet PySem.F.plain_list_iadd _,codeAny_builtin entry_list_iadd' ?_⟩
 rw [Around.under_plainId PySem.F.plain_list_iadd _]
 have hS₁:(s.heap.push { cls:=.type "list",data:=.seq ([]:List Value).toArray }).get? s.heap.objs.size=some { cls:=.type "list",data:=.seq #[] }:=Heap.get?_push_size _ rfl
 have ho1:(s.heap.push { cls:=.type "list",data:=.seq ([]:List Value).toArray }).get? a=some o:=Heap.get?_push_of_some _ ho
 show wpAny _ A.in1 (Builtin.List.listExtendWith (.ref s.heap.objs.size) (.ref a) (.ref s.heap.objs.size)) _ _ _
 unfold Builtin.List.listExtendWith
 refine wpAny_bind (wpAny_typeOf (T := "set") ⟨o,ho1,hex.1⟩ ?_)
 have h1:Builtin.List.listSameRef (.ref s.heap.objs.size) (.ref a)=false:=by simp [Builtin.List.listSameRef];exact Nat.ne_of_gt haS
 rw [if_neg (by rw [h1];decide)]
 refine wpAny_bind (iter ho1 hex hd hf hb hpl' fun h2 d it ex vs k2 nx g1 g2 g2' g3 st pv=>?_)
 have hT2:Shared.TypeIs { s with heap:=h2,drawn:=d } (.ref a) "set" := ⟨o,k2 _ _ ho1,hex.1⟩
 refine wpAny_bind (wpAny_holding (zja hT2 ?_))
 rw [Heap.size_push] at g1 g2
 have nea:a≠it:=Nat.ne_of_lt (Nat.lt_of_lt_of_le (Nat.lt_succ_of_lt haS) g1)
 have hSf:s.heap.objs.size∉it::a::ex:=by
  simp only [List.mem_cons,not_or]
  exact ⟨Nat.ne_of_lt (Nat.lt_of_lt_of_le (Nat.lt_succ_self _) g1),Nat.ne_of_gt haS,fun z=>absurd (g2 _ z) (Nat.not_succ_le_self _)⟩
 have hn:es.size≤sizeLine:=fits_of_scanBound hb
 have W:=zlW (P:=P) (A:=A.in1) (vs:=vs) hh hex hd hf hld nea nx
 have key:∀ {R':Result→Shared→Prop}(h3:Heap) (c₁:Nat),It w o es ep t a it ex vs 0 h3→(∀ b u,b≠s.heap.objs.size→s.heap.get? b=some u→h3.get? b=some u)→
   h3.get? s.heap.objs.size=some { cls:=.type "list",data:=.seq #[] c₁ }→
   (∀ s',wpAny (model P w) A (do
      match (← load s.heap.objs.size).data with
      | .seq xs _=>pure xs.toList
      | _=>unsupported "internal:collect") R E s'→R' (.ok (.ret (.ref s.heap.objs.size))) s')→
   codeAny (model P w) A (.builtin "list.extend.loop" ⟨[.ref s.heap.objs.size,.ref it,.ref s.heap.objs.size],[]⟩) R' { s with heap:=h3,drawn:=d }:=by
  intro R' h3 c₁ hst hk hS3 hR'
  refine codeAny_extend_loopS W.toS hn _ hSf _ es.size 0 _ #[] c₁ rfl (Nat.zero_le _) hst hS3 (ItemsOf.nil _) fun s' acc' c' hm hS' hacc=>hR' s' ?_
  refine wpAny_bind (wpAny_load hS' ?_)
  refine wpAny_pure ?_
  rw [Moved.eq_with hm]
  have ev:acc'.toList=vs:=by
   refine List.ext_getElem? fun j=>?_
   rcases Nat.lt_or_ge j es.size with z | z
   ·have hlt:j < acc'.size:=by rw [hacc.1];exact z
    have:=hacc.2 j acc'[j] (by simp [hlt])
    rw [this,Array.getElem?_toList]
    simp [hlt]
   ·rw [List.getElem?_eq_none (by rw [Array.length_toList,hacc.1];exact z),List.getElem?_eq_none (by rw [st.len];exact z)]
  rw [ev]
  have hstr:StrsAre vs (vs.map strOf):=strsAre_map vs fun v hv=>by
   obtain ⟨e,he,rfl⟩:=List.mem_map.mp (pv.mem_iff.mp hv)
   obtain ⟨k,tk,rfl⟩:=hel e he
   exact ⟨k,tk,rfl⟩
  refine h s'.heap d s'.toks vs _ (fun b u e=>?_) (Heap.lt_size hS') hstr ((pv.map strOf).trans ?_)
  ·have hlt:=Heap.lt_size e
   exact hm.heap b u (by
    simp only [List.mem_cons,List.not_mem_nil,or_false,not_or]
    exact ⟨Nat.ne_of_lt hlt,Nat.ne_of_lt (Nat.lt_of_lt_of_le (Nat.lt_succ_of_lt hlt) g1)⟩) (hk b u (Nat.ne_of_lt hlt) e)
  ·rw [List.map_map];exact hpm
 have hS2:=k2 _ _ hS₁
 have kk:∀ b u,b≠s.heap.objs.size→s.heap.get? b=some u→h2.get? b=some u:=fun b u _ e=>k2 b u (Heap.get?_push_of_some _ e)
 refine wpAny_ite_split (fun _=>?_) (fun _=>wpAny_pure ⟨plainId_quiet PySem.F.plain_extend_loop _,key h2 0 st kk hS2 fun s' z=>z⟩)
 refine wpAny_bind (wpAny_rule ?_)
 refine wpAny_bind ?_
 show wpAny _ _ (updateSeq s.heap.objs.size (·.push .none) >>= fun _=>updateSeq s.heap.objs.size (·.pop)) _ _ _
 refine wpAny_bind (wpAny_updateSeq hS2 rfl ?_)
 have hS3:=Heap.get?_update_self (Obj.mapSeq (·.push Value.none)) hS2 rfl
 refine wpAny_updateSeq hS3 rfl ?_
 have hS4:=Heap.get?_update_self (Obj.mapSeq (·.pop)) hS3 rfl
 have oth:∀ b u,b≠s.heap.objs.size→h2.get? b=some u→((h2.update s.heap.objs.size (Obj.mapSeq (·.push Value.none))).update s.heap.objs.size (Obj.mapSeq (·.pop))).get? b=some u:=
  fun b u hb e=>(Heap.get?_update_other _ _ (Ne.symm hb)).trans ((Heap.get?_update_other _ _ (Ne.symm hb)).trans e)
 refine wpAny_pure ⟨plainId_quiet PySem.F.plain_extend_loop _,key _ _ (st.at fun b hb u e=>oth b u (fun z=>hSf (by rw [← z];exact hb)) e) (fun b u ne e=>oth b u ne (kk b u ne e)) hS4 fun s' z=>z⟩
theorem sorted_set {L:List Str}{Q:Value→Shared→Prop} (hh:A.handled=none) (hS:St w s.heap a L) (h64:L.length < 64)
  (h:∀ h' d tk D (vs:List Value) ss e,(∀ b u,s.heap.get? b=some u→h'.get? b=some u)→s.heap.objs.size≤D→h'.get? D=some { cls:=.type "list",data:=.seq vs.toArray e }→
   StrsAre vs ss→ss.Perm L→sortedS ss=true→Q (.ref D) { s with heap:=h',drawn:=d,toks:=tk }) :
  wpAny (model P w) A (call (.builtin "sorted") [.ref a]) Q E s:=by
 refine Calls.call_function_entry kind_sorted plain_sorted entry_sorted (args_sorted1 _) ?_
 unfold Builtin.«sorted»
 refine wpAny_bind (m:=checkCount "sorted" 1 1 _) (wpAny_pure ?_)
 refine wpAny_bind (zgc (s:=s) hh hS fun h1 d tk vs ss k1 hz1 hs1 hp1=>?_)
 have hvl:vs.length < 64:=by rw [StrsAre.len hs1,hp1.length_eq];exact h64
 refine wpAny_bind (wpAny_newList ?_ (by rw [sizeLine_eq];omega))
 have hoL:(h1.push (seqObj "list" vs.toArray 0)).get? h1.objs.size=some (seqObj "list" vs.toArray 0):=Heap.get?_push_size _ rfl
 show wpAny _ _ _ _ _ { s with heap:=h1.push (seqObj "list" vs.toArray 0),drawn:=d,toks:=tk }
 refine wpAny_bind (wpAny_holding (wpAny_call_entry slot_list_sort ⟨_,hoL,rfl⟩ entry_list_sort (list_sort_treeK strKind_oneLt hoL hs1.keysOf (fun v₁ v₂ rest e=>keyKind_strs (by rw [← e];exact hs1)) hvl fun st' a1 a2=>⟨_,rfl,?_⟩) (args_list_sort _)))
 obtain ⟨ss',b1,b2,b3⟩:=sorted_out_str hs1 a1 a2
 obtain ⟨e,he⟩:=sortedHeap_at (h:=h1.push (seqObj "list" vs.toArray 0)) (a:=h1.objs.size) (vs:=vs) (out:=(arrOf st').map (·.2)) hoL
 refine wpAny_pure ⟨_,rfl,h _ d tk h1.objs.size ((arrOf st').map (·.2)).toList ss' e (fun b u eb=>?_) (Nat.le_of_lt hz1) ?_ b1 (b2.trans hp1) b3⟩
 ·have e1:=k1 _ _ eb
  rw [sortedHeap_old (Nat.ne_of_lt (Heap.lt_size e1)) (by rw [size_push'];exact Nat.lt_succ_of_lt (Heap.lt_size e1))]
  exact Heap.get?_push_of_some _ e1
 ·rw [he]
end
end TS
set_option Elab.async false
set_option linter.all false
set_option maxRecDepth 100000
namespace L2
open PySem PySem.Spec PyProof.Rows
section
variable {X:Cx}
noncomputable def zmm:List V→Hp→VK→Prop:=fun xs H Q=>xs=[]∧∀ p,H p=none→Q (.ref p) (upd H p (.set []))
theorem zil:zcj X (.type "set") zmm:=by
 intro pins s σ H xs us Q I rv h
 obtain ⟨rfl,q⟩:=h
 cases rv
 refine TS.call0 ?_
 have I2:=I.laid (t':=s.toks) (a:=s.heap.objs.size) (o:=.set []) (fun b o e=>Heap.get?_push_of_some (TS.fresh X.w) e) (Nat.le_refl _) (show zaW X.prog X.w _ _ _ (.set []) from TS.fresh_St (Heap.get?_push_size _ rfl))
 exact ⟨.ref _,_,I2,rfl,q _ I.fresh⟩
theorem Vals.strs:∀ {ss:List Str}{its:List Value},Vals (ss.map V.str) its→StrsAre its ss
 | [],_,.nil=>.nil
 | x::ss,_,.cons r t=>by obtain ⟨k,rfl⟩:=r;exact .cons x k (Vals.strs t)
theorem Vals.of_strs:∀ {ss:List Str}{its:List Value},StrsAre its ss→Vals (ss.map V.str) its
 | _,_,.nil=>.nil
 | _,_,.cons x k t=>.cons ⟨k,rfl⟩ (Vals.of_strs t)
noncomputable def zml (K:PySem.W.Frag):List V→Hp→VK→Prop:=fun xs H Q=>∃ p ss,xs=[.ref p]∧SqL K H p (ss.map V.str)∧ss.length + 1 < scanBound∧∀ l,H l=none→Q (.ref l) (upd H l (.set (TS.setOf ss)))
theorem zik (hc:X.calm=true):zcj X (.type "set") (zml X.K):=by
 intro pins s σ H xs us Q I rv h
 obtain ⟨p,ss,rfl,hq,hz,q⟩:=h
 obtain ⟨u,rfl,ru⟩:=rv.one
 cases ru
 obtain ⟨its,r',pl,_⟩:=I.list hq
 refine TS.call1 (I.ok.hd hc) pl.isList (Vals.strs r') hz fun h' tk hS k=>?_
 have I2:=I.laid (t':=tk) (o:=.set (TS.setOf ss)) (fun b o e=>k b o (Heap.lt_size e) e) (Nat.le_refl _) (show zaW X.prog X.w _ _ _ (.set (TS.setOf ss)) from hS)
 exact ⟨.ref _,_,I2,rfl,q _ I.fresh⟩
noncomputable def zjN:List V→Hp→VK→Prop:=fun xs H Q=>∃ p L,xs=[.ref p]∧H p=some (.set L)∧L.length < 64∧∀ l ss,H l=none→ss.Perm L→sortedS ss=true→Q (.ref l) (upd H l (.lst (ss.map V.str)))
theorem Inv.draw {pins:List (Addr×Obj)}{σ:St} {H:Hp}{s:Shared} {d:Drawn}(I:Inv X pins σ H s):Inv X pins σ H { s with drawn:=d }:=
 ⟨I.ok,I.os,I.bare,I.base,I.loc,I.cell,I.free,I.freeC,I.pin,I.hok,I.len⟩
theorem zgd (hc:X.calm=true):zcj X (.builtin "sorted") zjN:=by
 intro pins s σ H xs us Q I rv h
 obtain ⟨p,L,rfl,hp,hz,q⟩:=h
 obtain ⟨u,rfl,ru⟩:=rv.one
 cases ru
 have hS:TS.St X.w s.heap p L:=I.hok p _ hp
 refine TS.sorted_set (I.ok.hd hc) hS hz fun h' d tk D vs ss e k hD ho hs hpm hso=>?_
 have hn:(ss.map V.str).length≤sizeLine:=by rw [List.length_map,hpm.length_eq,sizeLine_eq];omega
 have I2:=(I.draw (d:=d)).laid (t':=tk) (a:=D) (o:=.lst (ss.map V.str)) k hD (show zaW X.prog X.w _ _ _ (.lst (ss.map V.str)) from ⟨hn,vs,e,Vals.of_strs hs,ho⟩)
 exact ⟨.ref D,_,I2,rfl,q D ss (I.hok.fresh hD) hpm hso⟩
end
end L2
namespace TS
open PySem PySem.Spec PyProof.Rows
theorem call_add {P:Program}{w:World} {A:Around}{E:Value→Shared→Prop} {s:Shared}{a:Addr} {L:List Str}{x:Str} {t:Tok}{Q:Value→Shared→Prop} (hS:St w s.heap a L) (hroom:L.length + 1 < scanBound)
  (h:∀ h',Heap.SameBut a s.heap h'→St w h' a (addT L x)→Q .none { s with heap:=h',toks:=s.toks + 1 }) :
  wpAny (model P w) A (call (.builtin "set.add") [.ref a,.str x t]) Q E s:=by
 have hT:s.TypeIs (.ref a) "set" := by obtain ⟨o,_,_,_,ho,hex,_⟩:=hS;exact ⟨o,ho,hex.1⟩
 refine wpAny_call_entry F.slot_set_add hT F.entry_set_add ?_ (F.args_set_add_2 _ _)
 unfold Builtin.«set.add» Builtin.Frozenset.oneOther
 simp only [List.isEmpty_nil,bind_assoc]
 unfold Builtin.Frozenset.addrOf setAdd
 refine wpAny_bind (wpAny_pure ?_)
 try dsimp only
 refine wpAny_bind (wpAny_pure ?_)
 try dsimp only
 refine wpAny_bind ?_
 refine wpAny_holding ?_
 refine wpAny_bind ((PySem.strKind P w).pyHash (k:=x) (strKind_is _ _ _ _) ?_)
 refine add (s:={ s with toks:=s.toks + 1 }) hS hroom fun h' b hsb hS'=>?_
 show wpAny _ _ (ret Value.none) _ _ _
 exact wpAny_pure ⟨_,rfl,h h' hsb hS'⟩
end TS
namespace L2
open PySem PySem.Spec PyProof.Rows
section
variable {X:Cx}
noncomputable def zmn:V→List V→Hp→VK→Prop:=fun x vs H Q=>∃ p L y,x=.ref p∧vs=[.str y]∧H p=some (.set L)∧L.length + 1 < scanBound∧Q .non (upd H p (.set (TS.addT L y)))
theorem zlA:MtR X "set.add" zmn:=by
 intro pins s σ H x vs v us Q I rx rv h
 obtain ⟨p,L,y,rfl,rfl,hp,hz,q⟩:=h
 cases rx
 obtain ⟨u,rfl,ru⟩:=rv.one
 obtain ⟨t,rfl⟩:=ru
 have hS:TS.St X.w s.heap p L:=I.hok p _ hp
 refine TS.call_add hS hz fun h' k hS'=>?_
 have I2:=I.write (t':=s.toks + 1) (x:=p) (e:=p) (o:=.set (TS.addT L y)) (by rw [hp];trivial) (.inl rfl) (fun b u ne e=>by rw [k.2 b ne];exact e) (by obtain ⟨o,_,_,_,ho,_⟩:=hS';exact ⟨o,ho⟩)
  (show zaW X.prog X.w _ _ _ (.set (TS.addT L y)) from hS')
 exact ⟨.non,_,I2,rfl,q⟩
noncomputable def rInS (f:Bool→Bool):R2:=fun x y H Q=>∃ a b,x=.str a∧y=.str b∧Q (.bl (f (Txt.contains b a))) H
theorem zls:OpR X (compareOp .In) (rInS id):=by
 intro pins s σ H x y v u Q I rx ry h
 obtain ⟨a,b,rfl,rfl,q⟩:=h
 obtain ⟨t,rfl⟩:=rx
 obtain ⟨t',rfl⟩:=ry
 exact P.in_str ⟨.bl (Txt.contains b a),H,I,rfl,q⟩
theorem zhF:OpR X (compareOp .NotIn) (rInS not):=by
 intro pins s σ H x y v u Q I rx ry h
 obtain ⟨a,b,rfl,rfl,q⟩:=h
 obtain ⟨t,rfl⟩:=rx
 obtain ⟨t',rfl⟩:=ry
 exact P.notIn_str ⟨.bl (!Txt.contains b a),H,I,rfl,q⟩
end
end L2
namespace FL
open PySem PySem.Spec PyProof.Rows L2
noncomputable def leS (a b:Str):Prop:=ltCps b.cps.toList a.cps.toList=false
theorem zdL {a b:Str}:leS a b↔a.cps.toList≤b.cps.toList:=by
 unfold leS;rw [ltCps_eq];simp
theorem zhQ {a b c:Str}(h:leS a b) (k:leS b c):leS a c:=zdL.mpr (List.le_trans (zdL.mp h) (zdL.mp k))
theorem ziU {a b:Str}(h:leS a b) (k:leS b a):a=b:=by
 have e:=List.le_antisymm (zdL.mp h) (zdL.mp k)
 obtain ⟨x⟩:=a;obtain ⟨y⟩:=b
 congr 1
 exact Array.toList_inj.mp e
theorem zfe:∀ (p:Str) (l:List Str),risingS p l=true→(p::l).Pairwise leS
 | p,[],_=>by simp
 | p,x::r,h=>by
  have h':(!ltCps x.cps.toList p.cps.toList && risingS x r)=true:=h
  rw [Bool.and_eq_true,Bool.not_eq_true'] at h'
  have ih:=zfe x r h'.2
  refine List.pairwise_cons.mpr ⟨fun y hy=>?_,ih⟩
  rcases List.mem_cons.mp hy with rfl | hy
  ·exact h'.1
  ·exact zhQ h'.1 ((List.pairwise_cons.mp ih).1 y hy)
theorem zeX:∀ {l:List Str},sortedS l=true→l.Pairwise leS
 | [],_=>.nil
 | x::r,h=>zfe x r h
theorem zho {a b:List Str}(p:a.Perm b) (h:sortedS a=true) (k:sortedS b=true):a=b:=
 List.Perm.eq_of_pairwise (fun _ _ _ _ x y=>ziU x y) (zeX h) (zeX k) p
open Classical in
noncomputable def zeY (L:List Str):List Str:=if h:∃ ss:List Str,ss.Perm L∧sortedS ss=true then Classical.choose h else []
theorem zgl {L ss:List Str}(p:ss.Perm L) (h:sortedS ss=true):zeY L=ss:=by
 have ex:∃ ss:List Str,ss.Perm L∧sortedS ss=true:=⟨ss,p,h⟩
 unfold zeY
 rw [dif_pos ex]
 have z:=Classical.choose_spec ex
 exact zho (z.1.trans p.symm) z.2 h
theorem zhm {K:PySem.W.Frag}{F:Hp}:∀ (ns:List Str),DatL K F (ns.map D.str) (ns.map V.str)
 | []=>DatL.nil
 | n::ns=>DatL.cons (by simp only [Dat]) (zhm ns)
noncomputable def kstr:List KD→Option (List Str)
 | []=>some []
 | .str x::l=>(kstr l).map (x::·)
 | _=>none
theorem zcP (L:List Str):kstr (L.map KD.str)=some L:=by
 induction L with
 | nil=>rfl
 | cons x L ih=>simp [kstr,ih]
theorem zjm:bootBuiltins "set" = some (.type "set"):=by decide +kernel
noncomputable def zgM:List D→Option D
 | [.set l]=>(kstr l).bind fun L=>if L.length < 64 then some (.lst ((zeY L).map D.str)) else none
 | _=>none
noncomputable def setD:List D→Option D
 | [.lst l]=>(zaI l).bind fun ss=>if ss.length + 1 < scanBound then some (.set ((TS.setOf ss).map KD.str)) else none
 | _=>none
section
variable {K:PySem.W.Frag}{X:Cx} {e:Expr}{f:En→Option D} {pos:Pos}{x:Str} {p apos cpos:Pos}
theorem zmD (hg:Gl X "set") (hm:X.mg "set" = none):FP K .ow X (.Call (.Name "set" p) [] [] pos) (cst (.set [])):=FP.mk fun ρ d hf=>by
 cases hf
 refine PE.imp (zgQ (x := "set") (p:=p) (pos:=pos) zil hg hm (by decide +kernel)) fun σ H Q h_=>?_
 obtain ⟨F,r,q⟩:=h_
 refine ⟨rfl,fun l hl=>?_⟩
 exact q _ _ _ (Grow.fresh r.sub hl) ⟨l,rfl,hl,r.sub.free hl,[],zam,rfl⟩
theorem zmJ (hc:X.calm=true) (hK:X.K=K:=by rfl):zgj K X (.type "set") .ow setD:=by
 subst hK
 refine ⟨_,zik hc,fun ds d F H vs Q e s h k=>?_⟩
 unfold setD at e
 split at e
 ·rename_i l
  cases e1:zaI l with
  | none=>rw [e1] at e;cases e
  | some ss=>
   rw [e1] at e
   obtain ⟨hz,rfl⟩:=zau e
   obtain ⟨v,rfl,h1⟩:=h.one
   rw [zcw e1] at h1
   obtain ⟨a,vs,rfl,f,q⟩:=h1.lst_inv
   rw [q.strs] at f
   exact ⟨a,ss,rfl,SqL.of f,hz,fun l hl=>k _ _ _ (Grow.fresh s hl) ⟨l,rfl,hl,s.free hl,_,zam,rfl⟩⟩
 ·cases e
theorem zgG (hc:X.calm=true):zgj K X (.builtin "sorted") .ow zgM:=by
 refine ⟨_,zgd hc,fun ds d F H vs Q e s h k=>?_⟩
 unfold zgM at e
 split at e
 ·rename_i l
  cases e1:kstr l with
  | none=>rw [e1] at e;cases e
  | some L=>
   rw [e1] at e
   obtain ⟨hz,rfl⟩:=zau e
   obtain ⟨v,rfl,h1⟩:=h.one
   obtain ⟨a,rfl,M,f,rfl⟩:=h1
   rw [zcP] at e1;cases e1
   refine ⟨a,L,rfl,f,hz,fun l ss hl hp hs=>k _ _ _ (Grow.fresh s hl) ⟨l,rfl,hl,s.free hl,_,zam,?_⟩⟩
   rw [zgl hp hs]
   exact zhm ss
 ·cases e
noncomputable def addM (i:Nat) (f:En→Option D):En→Option (D×En):=fun ρ=>match ρ[i]?,f ρ with
 | some (some (.ow pp (.set l))),some (.str y)=>(kstr l).bind fun L=>if L.length + 1 < scanBound then some (.non,ρ.set i (some (.ow pp (.set ((TS.addT L y).map KD.str))))) else none
 | _,_=>none
theorem xadd (i:Nat) (he:FP K .fz X e f) (hN:X.N[i]?=some x:=by rfl) (hv:Vis X.env.scope x:=by first | exact Or.inl rfl | exact Or.inr (Or.inl rfl) | exact Or.inr (Or.inr rfl)) (hd:(x == ("__debug__" : Str))=false:=by decide)
  (hcd:(x == ("__classdict__" : Str))=false:=by decide) (hbase:attributeBase (.Name x p) "add" X.env (eval (.Name x p) X.env)=eval (.Name x p) X.env:=by rfl)
  (hfew:((backTo cpos (starEach [e] X.env)).all (fun x=>!x.1) && (backToKw cpos (keywordEach [] X.env)).all (fun x=>x.1.isSome) && decide (([e]:List Expr).length + ([]:List Keyword).length + (if ([]:List Keyword).isEmpty then 0 else 1) < 30))=true:=by rfl)
  (hline:(apos.endLine == cpos.line)=true:=by rfl) (hs:starEach [e] X.env=(false,eval e X.env)::starEach [] X.env:=by rfl) (hplain:(backTo cpos (starEach [] X.env)).any (·.1)=false:=by rfl) (hK:X.K=K:=by rfl) :
  FX K X (.Call (.Attribute (.Name x p) "add" apos) [e] [] cpos) (addM i f):=FX.mk fun ρ d ρ' hf=>by
 subst hK
 unfold addM at hf
 split at hf
 ·rename_i pp l y e1 e2
  cases e3:kstr l with
  | none=>rw [e3] at hf;cases hf
  | some L=>
   rw [e3] at hf
   obtain ⟨hz,hf⟩:=zau hf
   cases hf
   refine PE.imp (ziJ PySem.F.plainAttrs_set PySem.F.slot_set_add PySem.F.type_set_add zlA (zdl hN hv hd hcd) (zbd (he.h ρ _ e2) zcM hs) hbase hfew hline hs hplain) fun σ H Q h_=>?_
   obtain ⟨F,r,q⟩:=h_
   obtain ⟨a,h1,h2,M,h3,h4⟩:=r.own i _ _ e1
   refine ⟨_,h1,.inr (.inr (.inr ⟨rfl,M,h3⟩)),F,r,fun v F1 H1 g1 r1=>?_⟩
   have rg:=r.grow g1
   have h3':=g1.hh _ _ h3
   rw [h4,zcP] at e3;cases e3
   have ev:=Dat.str_inv (K:=X.K) (F:=F1) r1
   subst ev
   refine ⟨a,L,y,rfl,rfl,h3',hz,?_⟩
   obtain ⟨m1,m2⟩:=rg.mut (i:=i) (o:=.set (TS.addT L y)) (d':=.set ((TS.addT L y).map KD.str)) e1 h1 ⟨_,zam,rfl⟩
   exact q _ _ _ m1 (g1.step.trans m2 r.sub) (Dat.non (K:=X.K))
 ·cases hf
noncomputable def inS (x y:D):Option D:=match x,y with
 | .str a,.str b=>some (.bl (Txt.contains b a))
 | _,_=>none
noncomputable def zgt (x y:D):Option D:=match x,y with
 | .str a,.str b=>some (.bl (!Txt.contains b a))
 | _,_=>none
theorem zmv:Op2f K X (compareOp .In) inS:=by
 refine ⟨_,zls,fun x y d F H v u Q e s h1 h2 k=>?_⟩
 unfold inS at e
 split at e
 ·cases e
  rw [h1.str_inv,DatB.str_inv h2]
  exact ⟨_,_,rfl,rfl,k _ F H (Grow.refl s) (Res.bl _)⟩
 ·cases e
theorem ziK:Op2f K X (compareOp .NotIn) zgt:=by
 refine ⟨_,zhF,fun x y d F H v u Q e s h1 h2 k=>?_⟩
 unfold zgt at e
 split at e
 ·cases e
  rw [h1.str_inv,DatB.str_inv h2]
  exact ⟨_,_,rfl,rfl,k _ F H (Grow.refl s) (Res.bl _)⟩
 ·cases e
end
end FL
set_option Elab.async false
set_option linter.all false
set_option maxRecDepth 100000
namespace FL
open PySem PySem.Spec PyProof.Rows L2
noncomputable abbrev zbW (n:Nat):En→Option Fl:=
 (seqM (setM 3 (c2 addD (gb 3) (c2 idxD (gb 1) (c2 modD (c2 divD (gb 2) (cst (.int 7))) (cst (.int 26)))))) (setM 2 (c2 divD (gb 2) (cst (.int 11)))))
noncomputable abbrev zcd (n:Nat):En→Option D:=
 (c2 idxD (gb 1) (c2 modD (c2 divD (gb 2) (c2 addD (cst (.int 3)) (c2 mulD (gb 0) (gb 0)))) (cst (.int 26))))
noncomputable abbrev zcc (n:Nat):En→Option D:=
 (cS zaO (gb 1) zbI (zbo (c2 addD (gb 0) (cst (.int 1)))))
noncomputable abbrev zcb (n:Nat):En→Option D:=
 (c2 addD (c2 addD (cS zaO (gb 1) zbI (zbo (gv 3))) (c2 idxD (gb 2) (c2 modD (c2 addD (c2 divD (gb 4) (cst (.int 5))) (c2 mulD (cst (.int 5)) (gb 0))) (cst (.int 26))))) (cS zaO (gb 1) (zbo (gv 3)) zbI))
noncomputable abbrev zbz (n:Nat):En→Option Fl:=
 (seqM (setM 1 (cst (.str "abcdefghijklmnopqrstuvwxyz"))) (seqM (setM 2 (c2 modD (c2 mulD (gb 0) (cst (.int 1000000007))) (c2 powD (cst (.int 10)) (cst (.int 18))))) (seqM (setM 3 (cst (.str ""))) (seqM (forS (cR1 (c2 modD (gb 2) (cst (.int 7)))) (gN 4) (zbW n)) (seqM (setM 5 (c2 modD (c2 divD (gb 2) (cst (.int 7))) (c2 addD (cL lenD (zae (gb 3) nilF)) (cst (.int 1))))) (seqM (ifM (upT (cT (c2 eqB (c2 modD (gb 2) (cst (.int 3))) (cst (.int 0))))) (seqM (setM 3 (c2 ziX (cst (.str "")) (zbf [none,some 1,some 2] (cR1 (cst (.int 6))) (gN 0) yesP (zcd n)))) (retM (zbf [none,some 3] (cR1 (cst (.int 5))) (gN 0) yesP (zcc n)))) nxM) (retM (zbf [none,some 3,some 1,some 5,some 2] (cR1 (cst (.int 5))) (gN 0) yesP (zcb n)))))))))
noncomputable def zan:List D→Option D:=runF (zbz  FUEL) 1 6
noncomputable abbrev zce (zan:List D→Option D) (n:Nat):En→Option D:=
 (cL zbt (zae (c2 idxD (gb 1) (gb 0)) (zae (c2 idxD (gb 2) (gb 0)) nilF)))
noncomputable abbrev zbA (zan:List D→Option D) (n:Nat):En→Option Fl:=
 (seqM (setM 1 (cL zan (zae (gv 0) nilF))) (seqM (setM 2 (c2 idxD (cL zaK (zae (cL zaK (zae (cst (.int 0)) (zae (cst (.int 2)) (zae (cst (.int 1)) (zae (cst (.int 0)) (zae (cst (.int 3)) nilF)))))) (zae (cL zaK (zae (cst (.int 0)) (zae (cst (.int 1)) (zae (cst (.int 2)) (zae (cst (.int 2)) (zae (cst (.int 0)) nilF)))))) (zae (cL zaK (zae (cst (.int 0)) (zae (cst (.int 3)) (zae (cst (.int 1)) (zae (cst (.int 1)) (zae (cst (.int 0)) nilF)))))) (zae (cL zaK (zae (cst (.int 0)) (zae (cst (.int 2)) (zae (cst (.int 0)) (zae (cst (.int 1)) (zae (cst (.int 1)) nilF)))))) nilF))))) (c2 modD (c2 divD (gb 0) (cst (.int 3))) (cst (.int 4))))) (seqM (setM 3 (c2 addD (cst (.int 2)) (c2 modD (c2 divD (gb 0) (cst (.int 12))) (cst (.int 4))))) (retM (zbf [none,some 1,some 2] (cR1 (gv 3)) (gN 0) yesP (zce zan n))))))
noncomputable def zaj:List D→Option D:=runF (zbA zan FUEL) 1 4
noncomputable abbrev zbH (n:Nat):En→Option D:=
 (c2 idxD (gb 1) (c2 modD (c2 addD (c2 modD (gb 2) (cst (.int 26))) (c2 mulD (cst (.int 7)) (gb 0))) (cst (.int 26))))
noncomputable abbrev zbq (n:Nat):En→Option Fl:=
 (seqM (setM 1 (cst (.str "ABCDEFGHIJKLMNOPQRSTUVWXYZ"))) (retM (zbf [none,some 1,some 0] (cR1 (c2 addD (cst (.int 1)) (c2 modD (c2 divD (gb 0) (cst (.int 26))) (cst (.int 4))))) (gN 0) yesP (zbH n))))
noncomputable def zah:List D→Option D:=runF (zbq  FUEL) 1 2
noncomputable abbrev zbU (n:Nat):En→Option Fl:=
 (seqM (ifM (upT (cT (c2 ltD (gb 1) (cL lenD (zae (gb 0) nilF))))) (retM (c2 idxD (gb 0) (gb 1))) nxM) (retM (cst (.int 0))))
noncomputable def zak:List D→Option D:=runF (zbU  FUEL) 2 2
noncomputable abbrev zcg (n:Nat):En→Option D:=
 (c2 idxD (gb 0) (cst (.int 1)))
noncomputable abbrev zcf (n:Nat):En→Option D:=
 (c2 idxD (gb 0) (cst (.int 0)))
noncomputable abbrev zbB (n:Nat):En→Option Fl:=
 (seqM (asgM (c2 idxD (gb 2) (c2 modD (gb 1) (cL lenD (zae (gb 2) nilF)))) (gTup (zaM (gN 5) (zaM (gN 6) gNil)))) (seqM (setM 1 (c2 divD (gb 1) (cst (.int 20)))) (seqM (setM 7 (cS zaO (gb 0) (zbo (c2 subD (cL lenD (zae (gb 0) nilF)) (gb 6))) zbI)) (seqM (setM 8 (c2 zdI (zbf [none] (cI (gv 7)) (gN 0) yesP (zcg n)) (cst (.int 0)))) (seqM (ifM (upT (andP (cT (c2 gtD (gb 6) (cst (.int 0)))) (andP (cT (c2 leD (gb 6) (cL lenD (zae (gb 0) nilF)))) (andP (cT (c2 ltD (gb 8) (gb 4))) (cT (c2 gtD (c2 modD (gb 1) (cst (.int 4))) (cst (.int 0)))))))) (retM (c2 catD (cS zaO (gb 0) zbI (zbo (c2 subD (cL lenD (zae (gb 0) nilF)) (gb 6)))) (cL zaK (zae (cL zaK (zae (c2 addD (cL zbt (zae (gv 5) nilF)) (cL zbL (zae (zbf [none] (cI (gv 7)) (gN 0) yesP (zcf n)) nilF))) (zae (c2 addD (gb 8) (cst (.int 1))) nilF))) nilF)))) nxM) (seqM (ifM (upT (orP (cT (c2 eqB (gb 3) (cL zaK nilF))) (cT (c2 eqB (c2 modD (c2 divD (gb 1) (cst (.int 4))) (cst (.int 3))) (cst (.int 0)))))) (retM (c2 catD (gb 0) (cL zaK (zae (cL zaK (zae (cL zbt (zae (c2 idxD (c2 idxD (gb 2) (cst (.int 0))) (cst (.int 0))) nilF)) (zae (cst (.int 1)) nilF))) nilF)))) nxM) (retM (c2 catD (gb 0) (cL zaK (zae (cL zaK (zae (c2 idxD (gb 3) (c2 modD (c2 divD (gb 1) (cst (.int 12))) (cL lenD (zae (gb 3) nilF)))) (zae (cst (.int 1)) nilF))) nilF))))))))))
noncomputable def zac:List D→Option D:=runF (zbB  FUEL) 5 9
noncomputable abbrev zcB (n:Nat):En→Option Fl:=
 (retM (c1 (isiD "str") (gb 0)))
noncomputable def zad:List D→Option D:=runF (zcB  FUEL) 1 1
noncomputable abbrev zbp (zad:List D→Option D) (n:Nat):En→Option Fl:=
 (seqM (ifM (upT (cT (cL zad (zae (gv 0) nilF)))) (retM (cL zbt nilF)) nxM) (retM (cS zaO (gb 0) (zbo (cst (.int 1))) zbI)))
noncomputable def zag:List D→Option D:=runF (zbp zad FUEL) 1 1
noncomputable abbrev zde (zag:List D→Option D) (n:Nat):En→Option D:=
 (cL zbt (zae (c2 addD (gb 2) (cL zbt (zae (gv 0) nilF))) (zae (gv 1) nilF)))
noncomputable abbrev zbv (zag:List D→Option D) (n:Nat):En→Option Fl:=
 (seqM (asgX (popM 2) (gTup (zaM (gN 3) (zaM (gN 4) gNil)))) (seqM (zcC (appM 1 (cL zbt (zae (gv 3) (zae (gv 4) nilF))))) (seqM (setM 5 (zbf [none,none,some 3] (cEnT (cL zag (zae (gv 4) nilF))) (gTup (zaM (gN 0) (zaM (gN 1) gNil))) yesP (zde zag n))) (zcC (extM 2 (c2 revX (gb 5) (c1 negD (cst (.int 1)))))))))
noncomputable abbrev zbe (zag:List D→Option D) (n:Nat):En→Option Fl:=
 (seqM (setO 1 (cL zaK nilF)) (seqM (setO 2 (cL zaK (zae (cL zbt (zae (cL zbt nilF) (zae (gv 0) nilF))) nilF))) (seqM (zbK (upT (cTr (gb 2))) (zbv zag n) n) (retO 1))))
noncomputable def zab:List D→Option D:=runF (zbe zag FUEL) 1 6
end FL
set_option Elab.async false
set_option linter.all false
set_option maxRecDepth 100000
namespace FL
open PySem PySem.Spec PyProof.Rows L2
theorem zgy {g:D→En→Option En}{b:En→Option Fl} (I:Nat→En→Prop):∀ (xs:List D) (k:Nat) (ρ:En),I k ρ→
  (∀ (i:Nat) x ρ,xs[i]?=some x→I (k + i) ρ→∃ ρ1 ρ2,g x ρ=some ρ1∧(b ρ1=some (.nx ρ2)∨b ρ1=some (.ct ρ2))∧I (k + i + 1) ρ2)→∃ ρ',forM g b xs ρ=some (.nx ρ')∧I (k + xs.length) ρ'
 | [],k,ρ,h,_=>⟨ρ,rfl,h⟩
 | x::xs,k,ρ,h,hs=>by
  obtain ⟨ρ1,ρ2,e1,e2,h2⟩:=hs 0 x ρ rfl h
  obtain ⟨ρ',e3,h3⟩:=zgy I xs (k + 1) ρ2 h2 fun i y σ hy hi=>by
   have:=hs (i + 1) y σ (by simpa using hy) (by rw [show k + (i + 1)=k + 1 + i by omega];exact hi)
   rw [show k + (i + 1) + 1=k + 1 + i + 1 by omega] at this
   exact this
  refine ⟨ρ',?_,by rw [List.length_cons,show k + (xs.length + 1)=k + 1 + xs.length by omega];exact h3⟩
  simp only [forM,e1]
  rcases e2 with e2 | e2<;>(rw [e2];exact e3)
theorem zkw {g:D→En→Option En}{b:En→Option Fl} {xs:List D}{ρ:En} (I:Nat→En→Prop) (h0:I 0 ρ)
  (hs:∀ (i:Nat) x ρ,xs[i]?=some x→I i ρ→∃ ρ1 ρ2,g x ρ=some ρ1∧(b ρ1=some (.nx ρ2)∨b ρ1=some (.ct ρ2))∧I (i + 1) ρ2):∃ ρ',forM g b xs ρ=some (.nx ρ')∧I xs.length ρ':=by
 have:=zgy (g:=g) (b:=b) I xs 0 ρ h0 fun i x σ hx hi=>by
  rw [Nat.zero_add] at hi ⊢
  exact hs i x σ hx hi
 rw [Nat.zero_add] at this
 exact this
theorem zdo {g:D→En→Option En}{b:En→Option Fl} {xs:List D}{ρ:En} (I:Nat→En→Prop) (h0:I 0 ρ)
  (hs:∀ (i:Nat) x ρ,xs[i]?=some x→I i ρ→∃ ρ2,((g x ρ).bind b=some (.nx ρ2)∨(g x ρ).bind b=some (.ct ρ2))∧I (i + 1) ρ2):∃ ρ',forM g b xs ρ=some (.nx ρ')∧I xs.length ρ':=
 zkw I h0 fun i x ρ hx hi=>by
  obtain ⟨ρ2,e,h⟩:=hs i x ρ hx hi
  cases e1:g x ρ with
  | none=>rw [e1] at e;rcases e with e | e<;>cases e
  | some ρ1=>rw [e1] at e;exact ⟨ρ1,ρ2,rfl,e,h⟩
theorem zeT {t:En→Option (Bool×En)}{b:En→Option Fl} (I:Nat→En→Prop) (Post:En→Prop)
  (hs:∀ m ρ,I m ρ→(∃ ρ1,t ρ=some (false,ρ1)∧Post ρ1)∨(∃ ρ1 ρ2 m',t ρ=some (true,ρ1)∧(b ρ1=some (.nx ρ2)∨b ρ1=some (.ct ρ2))∧m' < m∧I m' ρ2)) :
  ∀ (n m:Nat) (ρ:En),I m ρ→m < n→∃ ρ',zbK t b n ρ=some (.nx ρ')∧Post ρ'
 | 0,_,_,_,h=>absurd h (Nat.not_lt_zero _)
 | n + 1,m,ρ,h,hn=>by
  rcases hs m ρ h with ⟨ρ1,e,p⟩ | ⟨ρ1,ρ2,m',e,e2,hm,h2⟩
  ·exact ⟨ρ1,by simp only [zbK,e],p⟩
  ·obtain ⟨ρ',e3,p⟩:=zeT I Post hs n m' ρ2 h2 (by omega)
   refine ⟨ρ',?_,p⟩
   simp only [zbK,e]
   rcases e2 with e2 | e2<;>(rw [e2];exact e3)
theorem zcV {g:D→En→Option En}{t:En→Option Bool} {f:En→Option D}{ρ:En}:∀ {xs ys:List D},xs.length=ys.length→(∀ (i:Nat) x y,xs[i]?=some x→ys[i]?=some y→∃ ρ1,g x ρ=some ρ1∧t ρ1=some true∧f ρ1=some y)→zbr g t f ρ xs=some ys
 | [],[],_,_=>rfl
 | [],_::_,h,_=>by simp at h
 | _::_,[],h,_=>by simp at h
 | x::xs,y::ys,h,k=>by
  obtain ⟨ρ1,e1,e2,e3⟩:=k 0 x y rfl rfl
  have:=zcV (g:=g) (t:=t) (f:=f) (ρ:=ρ) (xs:=xs) (ys:=ys) (by simpa using h) fun i a b ha hb=>k (i + 1) a b (by simpa using ha) (by simpa using hb)
  simp [zbr,e1,e2,e3,this]
theorem zdW {g:D→En→Option En}{t:En→Option Bool} {f:En→Option D}{ρ:En} {φ:D→D}{p:D→Bool}:∀ {xs:List D},(∀ x∈xs,∃ ρ1,g x ρ=some ρ1∧t ρ1=some (p x)∧(p x=true→f ρ1=some (φ x)))→zbr g t f ρ xs=some ((xs.filter p).map φ)
 | [],_=>rfl
 | x::xs,k=>by
  obtain ⟨ρ1,e1,e2,e3⟩:=k x List.mem_cons_self
  have:=zdW (g:=g) (t:=t) (f:=f) (ρ:=ρ) (xs:=xs) fun y hy=>k y (List.mem_cons_of_mem _ hy)
  cases hp:p x with
  | true=>simp [zbr,e1,e2,hp,e3 hp,this,List.filter_cons]
  | false=>simp [zbr,e1,e2,hp,this,List.filter_cons]
theorem zba {lo:Int}{n i:Nat} {d:D}(h:(zaX lo n)[i]?=some d):i < n∧d=.int (lo + (i:Int)):=by
 unfold zaX at h
 rw [List.getElem?_map] at h
 cases e:(List.range n)[i]? with
 | none=>rw [e] at h;cases h
 | some k=>
  rw [e] at h
  have h1:=List.getElem?_eq_some_iff.mp e
  have h2:=h1.2
  simp at h2
  subst h2
  exact ⟨by simpa using h1.1,(Option.some.inj h).symm⟩
theorem zaF (lo:Int) (n:Nat):(zaX lo n).length=n:=by simp [zaX]
theorem at0 {α:Type}(a:α) (l:List α):atI (a::l) 0=some a:=zcD (j:=0) rfl
theorem at1 {α:Type}(a b:α) (l:List α):atI (a::b::l) 1=some b:=zcD (j:=1) rfl
theorem at2 {α:Type}(a b c:α) (l:List α):atI (a::b::c::l) 2=some c:=zcD (j:=2) rfl
theorem at3 {α:Type}(a b c d:α) (l:List α):atI (a::b::c::d::l) 3=some d:=zcD (j:=3) rfl
local macro_rules | `(tactic| simp! [$xs,*] $[$loc]?)=>`(tactic| simp [$xs,*,runF,zaJ,seqM,setM,setO,zdp,asgM,asgX,zfx,zcC,retM,retO,retN,ifM,upT,cT,cTr,truD,andP,orP,notP,andV,orV,notV,c1,c2,cL,cS,zae,nilF,cst,gv,gb,gN,gNil,zaM,gTup,zbI,zbo,zbf,yesP,cI,cR1,cR2,cEnT,forS,itS,rng1,rng2,appM,extM,popM,zdj,zbt,zaK,nxM,isiD,tyN,isiB,lim,bors,st0E,negD,revX,revD,zbL,zdJ,lenD,idxD,zaO,zdh,addD,catD,subD,mulD,divD,modD,powD,cmpI,geD,isB,zdn,isNon,absD,intD,runX,zcH,zfF,retX,putM,zff,keyD,frzM,c3,zfs,zfz,zfy,cSg,zfr,itS,Sl.inn,Sl.own,zdI,eqB,neB,inB,zbF,zbP,zbQ,zbm,zbl,zbk,zbj,at0,at1,at2,at3] $[$loc]?)
local macro_rules | `(tactic| dsimp! [$xs,*] $[$loc]?)=>`(tactic| simp [$xs,*,runF,zaJ,seqM,setM,setO,asgM,asgX,zfx,zcC,retM,retO,retN,ifM,upT,cT,cTr,truD,andP,orP,notP,andV,orV,notV,c1,c2,cL,cS,zae,nilF,cst,gv,gb,gN,gNil,zaM,gTup,zbI,zbo,zbf,yesP,cI,cR1,cR2,cEnT,forS,itS,rng1,rng2,appM,extM,popM,zdj,zbt,zaK,nxM,isiD,tyN,isiB,lim,bors,st0E,negD,revX,revD,zbL,zdJ,lenD,idxD,zaO,zdh,addD,catD,subD,mulD,divD,modD,powD,cmpI,geD,isB,zdn,isNon,absD,intD,runX,zcH,zfF,retX,putM,zff,keyD,frzM,c3,zfs,zfz,zfy,cSg,zfr,itS,Sl.inn,Sl.own,zdI,inB,zbF,zbP,zbQ,zbm,zbl,zbk,zbj,at0,at1,at2,at3] $[$loc]?)
inductive T where
 | bl (x:Str) | nd (s:Str) (ts:List T)
mutual
noncomputable def T.d:T→D
 | .bl x=>.str x
 | .nd s ts=>.tup (.str s::T.ds ts)
noncomputable def T.ds:List T→List D
 | []=>[]
 | t::r=>t.d::T.ds r
end
theorem zlR:∀ ts:List T,T.ds ts=ts.map T.d
 | []=>by simp [T.ds]
 | t::r=>by rw [T.ds,zlR r,List.map_cons]
theorem d_nd (s:Str) (ts:List T):(T.nd s ts).d=.tup (.str s::ts.map T.d):=by rw [T.d,zlR]
theorem d_bl (x:Str):(T.bl x).d=.str x:=by rw [T.d]
mutual
noncomputable def T.size:T→Nat
 | .bl _=>1
 | .nd _ ts=>1 + T.sizes ts
noncomputable def T.sizes:List T→Nat
 | []=>0
 | t::r=>t.size + T.sizes r
end
mutual
noncomputable def T.depth:T→Nat
 | .bl _=>1
 | .nd _ ts=>1 + T.depths ts
noncomputable def T.depths:List T→Nat
 | []=>0
 | t::r=>max t.depth (T.depths r)
end
noncomputable def T.isBl:T→Bool
 | .bl _=>true
 | .nd _ _=>false
noncomputable def T.kids:T→List T
 | .bl _=>[]
 | .nd _ ts=>ts
theorem zfa (t:T):t.size=1 + T.sizes t.kids:=by cases t<;>simp [T.size,T.kids,T.sizes]
theorem zev (t:T):0 < t.size:=by rw [zfa];omega
theorem zax:∀ a b:List T,T.sizes (a++b)=T.sizes a + T.sizes b
 | [],b=>by simp [T.sizes]
 | t::a,b=>by simp only [List.cons_append,T.sizes,zax a b];omega
theorem zcJ:∀ a:List T,a.length≤T.sizes a
 | []=>by simp
 | t::a=>by have:=zev t;have:=zcJ a;simp only [List.length_cons,T.sizes];omega
theorem zfA:∀ {ts:List T}{t:T},t∈ts→t.depth≤T.depths ts
 | _::_,_,h=>by
  rcases List.mem_cons.mp h with rfl | h
  ·rw [T.depths];exact Nat.le_max_left _ _
  ·rw [T.depths];exact Nat.le_trans (zfA h) (Nat.le_max_right _ _)
theorem zcK:∀ {ts:List T}{t:T},t∈ts→t.size≤T.sizes ts
 | _::_,_,h=>by
  rcases List.mem_cons.mp h with rfl | h
  ·rw [T.sizes];omega
  ·rw [T.sizes];have:=zcK h;omega
theorem zie (t:T):0 < t.depth:=by cases t<;>simp [T.depth]<;>omega
mutual
theorem zlS:∀ t:T,dep t.d≤t.depth + 1
 | .bl x=>by simp [T.d,dep]
 | .nd s ts=>by
  have:=zig ts
  simp only [T.d,dep,depL,T.depth]
  omega
theorem zig:∀ ts:List T,depL (T.ds ts)≤T.depths ts + 1
 | []=>by simp [T.ds,depL]
 | t::r=>by
  have h1:=zlS t
  have h2:=zig r
  simp only [T.ds,depL,T.depths]
  omega
end
noncomputable def idx (p:List Int):Nat→List T→List (List Int×T)
 | _,[]=>[]
 | k,t::r=>(p++[(k:Int)],t)::idx p (k + 1) r
mutual
noncomputable def zap (p:List Int):T→List (List Int×T)
 | .bl x=>[(p,.bl x)]
 | .nd s ts=>(p,.nd s ts)::zaz p 0 ts
noncomputable def zaz (p:List Int) (k:Nat):List T→List (List Int×T)
 | []=>[]
 | t::r=>zap (p++[(k:Int)]) t++zaz p (k + 1) r
end
theorem zdD (p:List Int) (t:T):zap p t=(p,t)::zaz p 0 t.kids:=by cases t<;>simp [zap,T.kids,zaz]
noncomputable def flat (ws:List (List Int×T)):List (List Int×T):=ws.flatMap fun q=>zap q.1 q.2
theorem zgB (p:List Int):∀ (k:Nat) (ts:List T),flat (idx p k ts)=zaz p k ts
 | _,[]=>by simp [idx,flat,zaz]
 | k,t::r=>by
  have:=zgB p (k + 1) r
  unfold flat at this
  simp only [idx,flat,zaz,List.flatMap_cons,this]
theorem zdS (a b:List (List Int×T)):flat (a++b)=flat a++flat b:=by simp [flat]
theorem zeG (p:List Int):∀ (k:Nat) (ts:List T),(idx p k ts).length=ts.length
 | _,[]=>rfl
 | k,t::r=>by simp [idx,zeG p (k + 1) r]
noncomputable def zbx (ws:List (List Int×T)):Nat:=T.sizes (ws.map (·.2))
theorem zhT (p:List Int):∀ (k:Nat) (ts:List T),(idx p k ts).map (·.2)=ts
 | _,[]=>rfl
 | k,t::r=>by simp [idx,zhT p (k + 1) r]
theorem zcI:∀ a:List T,T.sizes a.reverse=T.sizes a
 | []=>rfl
 | t::a=>by rw [List.reverse_cons,zax,zcI a];simp only [T.sizes];omega
mutual
theorem zaR (p:List Int):∀ t:T,(zap p t).length=t.size
 | .bl x=>by simp [zap,T.size]
 | .nd s ts=>by simp [zap,T.size,zdE p 0 ts];omega
theorem zdE (p:List Int):∀ (k:Nat) (ts:List T),(zaz p k ts).length=T.sizes ts
 | _,[]=>by simp [zaz,T.sizes]
 | k,t::r=>by simp [zaz,T.sizes,zaR (p++[(k:Int)]) t,zdE p (k + 1) r]
end
mutual
theorem zdC (p:List Int):∀ t:T,∀ q∈zap p t,q.1.length < p.length + t.size
 | .bl x,q,hq=>by simp only [zap,List.mem_singleton] at hq;subst hq;simp [T.size]
 | .nd s ts,q,hq=>by
  simp only [zap,List.mem_cons] at hq
  rcases hq with rfl | hq
  ·have:=zev (.nd s ts);simp only;omega
  ·have:=zdk p 0 ts q hq
   simp only [T.size];omega
theorem zdk (p:List Int):∀ (k:Nat) (ts:List T),∀ q∈zaz p k ts,q.1.length < p.length + 1 + T.sizes ts
 | _,[],q,hq=>by simp [zaz] at hq
 | k,t::r,q,hq=>by
  simp only [zaz,List.mem_append] at hq
  rcases hq with hq | hq
  ·have:=zdC (p++[(k:Int)]) t q hq
   rw [List.length_append,List.length_singleton] at this
   simp only [T.sizes];omega
  ·have:=zdk p (k + 1) r q hq
   simp only [T.sizes];omega
end
noncomputable def pd (q:List Int×T):D:=.tup [.tup (q.1.map D.int),q.2.d]
theorem zco (t:T):zad [t.d]=some (.bl t.isBl):=by
 cases t<;>simp! [zad,T.d,T.isBl]
theorem cut1 {α:Type}(a:α) (l:List α):cutG (a::l) (some 1) none=l:=by
 simp [cutG,HT.sIx]
theorem zcU (t:T):zag [t.d]=some (.tup (t.kids.map T.d)):=by
 cases t with
 | bl x=>simp! [zag,zco,T.isBl,T.kids]
 | nd s ts=>
  simp! [zag,zco,T.isBl,T.kids]
  simp [d_nd,cut1]
theorem zbJ (a b:List (List Int×T)):zbx (a++b)=zbx a + zbx b:=by simp [zbx,zax]
theorem zcF (a:List (List Int×T)):zbx a.reverse=zbx a:=by unfold zbx;rw [List.map_reverse,zcI]
theorem zhg (p:List Int) (k:Nat) (ts:List T):zbx (idx p k ts)=T.sizes ts:=by unfold zbx;rw [zhT]
theorem zgA:∀ l:List (List Int×T),l.length≤(flat l).length
 | []=>by simp [flat]
 | a::l=>by
  have:=zev a.2
  have:=zgA l
  have e5:flat (a::l)=zap a.1 a.2++flat l:=by simp [flat]
  rw [e5,List.length_append,zaR,List.length_cons];omega
theorem zdR:∀ l:List (List Int×T),(flat l).length=zbx l
 | []=>by simp [flat,zbx,T.sizes]
 | a::l=>by
  have e5:flat (a::l)=zap a.1 a.2++flat l:=by simp [flat]
  have:=zdR l
  rw [e5,List.length_append,zaR,this];simp [zbx,T.sizes]
theorem zhU (p:List Int):∀ (k:Nat) (ts:List T) (i:Nat) (q:List Int×T),(idx p k ts)[i]?=some q→∃ t,ts[i]?=some t∧q=(p++[((k + i:Nat):Int)],t)
 | _,[],i,q,h=>by simp [idx] at h
 | k,t::r,0,q,h=>by simp [idx] at h;exact ⟨t,rfl,by rw [← h];simp⟩
 | k,t::r,i + 1,q,h=>by
  obtain ⟨u,h1,h2⟩:=zhU p (k + 1) r i q (by simpa [idx] using h)
  exact ⟨u,by simpa using h1,by rw [h2,show k + 1 + i=k + (i + 1) by omega]⟩
theorem zgW (p:List Int) (t x:D) (y z u:Option Sl) (ks:List T) (hp:p.length≤999999) :
  zbr (gTup (zaM (gN 0) (zaM (gN 1) gNil))) yesP (cL zbt (zae (c2 addD (gb 2) (cL zbt (zae (gv 0) nilF))) (zae (gv 1) nilF))) [none,none,some (.dat (.tup (p.map D.int)))] (zeK 0 (ks.map T.d))=some ((idx p 0 ks).map pd):=by
 refine zcV (by simp [zbw,zeG]) fun i a b ha hb=>?_
 obtain ⟨d0,h1,rfl⟩:=zdT 0 _ i a ha
 rw [List.getElem?_map] at h1 hb
 cases e1:(idx p 0 ks)[i]? with
 | none=>rw [e1] at hb;cases hb
 | some q=>
  rw [e1] at hb
  obtain ⟨t0,h2,rfl⟩:=zhU p 0 ks i q e1
  rw [h2] at h1
  cases h1
  cases hb
  have:p.length + 1≤1000000:=by omega
  refine ⟨[some (.dat (.int ((0 + i:Nat):Int))),some (.dat t0.d),some (.dat (.tup (p.map D.int)))],?_,rfl,?_⟩
  ·simp [runF,zaJ,seqM,setM,setO,zdp,asgM,asgX,zfx,zcC,retM,retO,retN,ifM,upT,cT,cTr,truD,andP,orP,notP,andV,orV,notV,c1,c2,cL,cS,zae,nilF,cst,gv,gb,gN,gNil,zaM,gTup,zbI,zbo,zbf,yesP,cI,cR1,cR2,cEnT,forS,itS,rng1,rng2,appM,extM,popM,zdj,zbt,zaK,nxM,isiD,tyN,isiB,lim,bors,st0E,negD,revX,revD,zbL,zdJ,lenD,idxD,zaO,zdh,addD,catD,subD,mulD,divD,modD,powD,cmpI,geD,isB,zdn,isNon,absD,intD,runX,zcH,zfF,retX,putM,zff,keyD,frzM,c3,zfs,zfz,zfy,cSg,zfr,itS,Sl.inn,Sl.own,zdI,eqB,neB,inB,zbF,zbP,zbQ,zbm,zbl,zbk,zbj,at0,at1,at2,at3]
  ·simp! [pd,this]
theorem zcv (t:T) (hz:t.size≤900000):zab [t.d]=some (.lst ((zap [] t).map pd)):=by
 have W:=zeT (t:=upT (cTr (gb 2)))
  (b:=zbv zag FUEL)
  (fun m ρ=>∃ (fs ws:List (List Int×T)) (x3 x4 x5:Option Sl),ρ=[some (.dat t.d),some (.own (.lst (fs.map pd))),some (.own (.lst (ws.map pd))),x3,x4,x5]∧m=zbx ws∧fs++flat ws.reverse=zap [] t)
  (fun ρ=>∃ x2 x3 x4 x5,ρ=[some (.dat t.d),some (.own (.lst ((zap [] t).map pd))),x2,x3,x4,x5]) ?_ FUEL t.size
  [some (.dat t.d),some (.own (.lst [])),some (.own (.lst [pd ([],t)])),none,none,none] ⟨[],[([],t)],none,none,none,rfl,by simp [zbx,T.sizes],by simp [flat]⟩ (by unfold FUEL;omega)
 ·obtain ⟨ρ',e,x2,x3,x4,x5,rfl⟩:=W
  have e0:pd ([],t)=.tup [.tup [],t.d]:=rfl
  rw [e0] at e
  simp! [zab] at e ⊢
  rw [e]
  simp
 ·rintro m ρ ⟨fs,ws,x3,x4,x5,rfl,rfl,inv⟩
  rcases List.eq_nil_or_concat ws with rfl | ⟨ws',⟨p,t1⟩,rfl⟩
  ·refine .inl ⟨_,by simp [runF,zaJ,seqM,setM,setO,zdp,asgM,asgX,zfx,zcC,retM,retO,retN,ifM,upT,cT,cTr,truD,andP,orP,notP,andV,orV,notV,c1,c2,cL,cS,zae,nilF,cst,gv,gb,gN,gNil,zaM,gTup,zbI,zbo,zbf,yesP,cI,cR1,cR2,cEnT,forS,itS,rng1,rng2,appM,extM,popM,zdj,zbt,zaK,nxM,isiD,tyN,isiB,lim,bors,st0E,negD,revX,revD,zbL,zdJ,lenD,idxD,zaO,zdh,addD,catD,subD,mulD,divD,modD,powD,cmpI,geD,isB,zdn,isNon,absD,intD,runX,zcH,zfF,retX,putM,zff,keyD,frzM,c3,zfs,zfz,zfy,cSg,zfr,itS,Sl.inn,Sl.own,zdI,eqB,neB,inB,zbF,zbP,zbQ,zbm,zbl,zbk,zbj,at0,at1,at2,at3];rfl,?_⟩
   have e:fs=zap [] t:=by simpa [flat] using inv
   rw [e]
   exact ⟨_,_,_,_,rfl⟩
  ·rw [List.concat_eq_append] at inv ⊢
   have el:fs.length + zbx (ws'++[(p,t1)])=t.size:=by
    rw [← zaR [] t,← inv,List.length_append,zdR,zcF]
   have ew:zbx [(p,t1)]=t1.size:=by simp [zbx,T.sizes]
   have ek:=zfa t1
   rw [zbJ,ew] at el
   have hm:(p,t1)∈zap [] t:=by
    rw [← inv]
    refine List.mem_append_right _ ?_
    rw [List.reverse_append,zdS]
    refine List.mem_append_left _ ?_
    show (p,t1)∈flat [(p,t1)]
    unfold flat
    rw [List.flatMap_cons,List.flatMap_nil,List.append_nil,zdD]
    exact List.mem_cons_self
   have pl:=zdC [] t _ hm
   simp only [List.length_nil] at pl
   have kl:=zcJ t1.kids
   have wl:ws'.length≤zbx ws':=by rw [← zdR];exact zgA _
   refine .inr ⟨_,[some (.dat t.d),some (.own (.lst ((fs++[(p,t1)]).map pd))),some (.own (.lst ((ws'++(idx p 0 t1.kids).reverse).map pd))),some (.dat (.tup (p.map D.int))),some (.dat t1.d),some (.dat (.lst ((idx p 0 t1.kids).map pd)))],zbx (ws'++(idx p 0 t1.kids).reverse),by simp [runF,zaJ,seqM,setM,setO,zdp,asgM,asgX,zfx,zcC,retM,retO,retN,ifM,upT,cT,cTr,truD,andP,orP,notP,andV,orV,notV,c1,c2,cL,cS,zae,nilF,cst,gv,gb,gN,gNil,zaM,gTup,zbI,zbo,zbf,yesP,cI,cR1,cR2,cEnT,forS,itS,rng1,rng2,appM,extM,popM,zdj,zbt,zaK,nxM,isiD,tyN,isiB,lim,bors,st0E,negD,revX,revD,zbL,zdJ,lenD,idxD,zaO,zdh,addD,catD,subD,mulD,divD,modD,powD,cmpI,geD,isB,zdn,isNon,absD,intD,runX,zcH,zfF,retX,putM,zff,keyD,frzM,c3,zfs,zfz,zfy,cSg,zfr,itS,Sl.inn,Sl.own,zdI,eqB,neB,inB,zbF,zbP,zbQ,zbm,zbl,zbk,zbj,at0,at1,at2,at3];rfl,.inl ?_,?_,fs++[(p,t1)],ws'++(idx p 0 t1.kids).reverse,_,_,_,rfl,rfl,?_⟩
   ·have c:=zgW p t.d t.d none none none t1.kids (by omega)
    have h1:fs.length < 1000000:=by omega
    have h2:t1.kids.length≤1000000:=by omega
    have h3:ws'.length + t1.kids.length≤1000000:=by omega
    simp! [pd,zcU,zbw,zeG,h1,h2,h3] at c ⊢
    rw [c]
    simp! [pd,zcU,zbw,zeG,h1,h2,h3]
   ·rw [zbJ,zbJ,zcF,zhg,ew];omega
   ·rw [← inv]
    simp only [List.reverse_append,List.reverse_reverse,zdS,List.append_assoc,List.reverse_cons,List.reverse_nil,List.nil_append]
    rw [zgB]
    have e5:flat [(p,t1)]=(p,t1)::zaz p 0 t1.kids:=by
     unfold flat;rw [List.flatMap_cons,List.flatMap_nil,List.append_nil,zdD]
    rw [e5];simp
noncomputable def cellOf (ns:List Int) (k:Int):Int:=ns.getD k.toNat 0
theorem zgH {α:Type}{l:List α} {k:Int}(h0:0≤k) (h1:k < (l.length:Int)):atI l k=l[k.toNat]?:=by
 unfold atI ixN
 rw [if_pos h0,if_pos h1];rfl
theorem zjC (ns:List Int) (k:Int) (h0:0≤k):zak [.scr ns,.int k]=some (.int (cellOf ns k)):=by
 by_cases h:k < (ns.length:Int)
 ·have e:ns[k.toNat]?=some (cellOf ns k):=by
   unfold cellOf
   rw [List.getD_eq_getElem?_getD,List.getElem?_eq_getElem (by omega)];rfl
  simp! [zak,h,zgH h0 h,e]
 ·have e:cellOf ns k=0:=by
   unfold cellOf
   rw [List.getD_eq_getElem?_getD,List.getElem?_eq_none (by omega)];rfl
  simp! [zak,h,e]
theorem zgw {z:Str}(h:z.cps.toList.length=26) (n:Int):∃ c,atI z.cps.toList (n % 26)=some c:=by
 have h0:0≤n % 26:=Int.emod_nonneg _ (by decide)
 have h1:n % 26 < 26:=Int.emod_lt_of_pos _ (by decide)
 refine ⟨z.cps.toList[(n % 26).toNat]'(by omega),?_⟩
 rw [zgH h0 (by rw [h];exact_mod_cast h1),List.getElem?_eq_getElem (by omega)]
theorem len1 (c:Nat):(⟨#[c]⟩:Str).length=1:=rfl
theorem zei (a b:Str):(a++b).length=a.length + b.length:=by simp [Str.length,PySem.Str.cps_append]
theorem alen:(Str.ofString "abcdefghijklmnopqrstuvwxyz").cps.toList.length=26:=by decide +kernel
theorem zkE:(Str.ofString "abcdefghijklmnopqrstuvwxyz").length=26:=by decide +kernel
theorem ALEN:(Str.ofString "ABCDEFGHIJKLMNOPQRSTUVWXYZ").cps.toList.length=26:=by decide +kernel
theorem zmK:(Str.ofString "ABCDEFGHIJKLMNOPQRSTUVWXYZ").length=26:=by decide +kernel
theorem elen:(Str.ofString "").length=0:=by decide +kernel
noncomputable def nle (m:Nat) (ys:List Str):Prop:=∀ y∈ys,y.length≤m
theorem zdx (z:Str) (lo hi:Option Int):(Txt.slice z lo hi).length≤z.length:=Txt.slice_le z lo hi
theorem ziW (ys:List Str):(Txt.join (Str.ofString "") ys).length=(ys.map (·.length)).sum:=by
 show (PySem.Builtin.Str.glued _ ys).length=_
 rw [PySem.size_glued,elen];omega
noncomputable def sd (p:Str×Int):D:=.tup [.str p.1,.int p.2]
theorem zaQ {α β:Type}(f:α→β) (l:List α) (i:Int):atI (l.map f) i=(atI l i).map f:=by
 unfold atI
 rw [List.length_map]
 cases ixN l.length i<;>simp
theorem zcp {α:Type}(h:α→D) (P:Nat→α→Prop) {g:D→En→Option En}{f:En→Option D} {ρ:En}:∀ {xs:List D}(k:Nat),(∀ (i:Nat) x,xs[i]?=some x→∃ ρ1 y,g x ρ=some ρ1∧f ρ1=some (h y)∧P (k + i) y)→∃ ys:List α,zbr g yesP f ρ xs=some (ys.map h)∧ys.length=xs.length∧∀ (i:Nat) y,ys[i]?=some y→P (k + i) y
 | [],_,_=>⟨[],rfl,rfl,fun _ _ h=>by simp at h⟩
 | x::xs,k,q=>by
  obtain ⟨ρ1,y,e1,e2,e3⟩:=q 0 x rfl
  obtain ⟨ys,h1,h2,h3⟩:=zcp h P (g:=g) (f:=f) (ρ:=ρ) (xs:=xs) (k + 1) fun i z hz=>by
   have:=q (i + 1) z (by simpa using hz)
   rw [show k + 1 + i=k + (i + 1) by omega];exact this
  refine ⟨y::ys,by simp [zbr,e1,e2,h1,yesP],by simp [h2],fun i z hz=>?_⟩
  cases i with
  | zero=>simp at hz;subst hz;exact e3
  | succ i=>
   have:=h3 i z (by simpa using hz)
   rw [show k + (i + 1)=k + 1 + i by omega];exact this
structure zgi (ps:List (Str×Int)):Prop where
 lo:2≤ps.length
 hi:ps.length≤5
 cnt:∀ p∈ps,0≤p.2∧p.2≤3
 fst:∀ p,ps[0]?=some p→p.2=0
 wd:∀ p∈ps,p.1.length≤16
noncomputable def ent (t:T):D:=.lst [t.d,.int t.depth]
inductive zeQ (ps:List (Str×Int)) (bs:List Str) (most:Int) (ts:List T):List T→Prop
 | sign (w:Str) (m:Int) (h:ps[0]?=some (w,m)):zeQ ps bs most ts (ts++[.nd w []])
 | blank (b:Str) (h:b∈bs):zeQ ps bs most ts (ts++[.bl b])
 | take (k:Nat) (s:Str) (m:Int) (h:(s,m)∈ps) (hk:k < ts.length) (hm:m=((ts.length - k:Nat):Int)) (hd:((T.nd s (ts.drop k)).depth:Int)≤most):zeQ ps bs most ts (ts.take k++[.nd s (ts.drop k)])
theorem zgD {α:Type}(us:List α) (i:Int):cutG us (some i) none=us.drop (HT.sIx us.length 0 (some i)):=by
 unfold cutG
 show List.take (us.length - _) _=_
 exact List.take_of_length_le (by rw [List.length_drop];exact Nat.le_refl _)
theorem zlT {α:Type}(us:List α) (k:Nat) (hk:k≤us.length):cutG us none (some (k:Int))=us.take k:=by
 unfold cutG
 rw [HT.sIx_nat,HT.sIx_none,List.drop_zero,Nat.sub_zero,Nat.min_eq_left hk]
theorem zen:∀ (ts:List T) (a:Int),0≤a→(ts.map fun t=>(t.depth:Int)).foldl max a=max a (T.depths ts)
 | [],a,h=>by simp [T.depths];omega
 | t::ts,a,h=>by
  rw [List.map_cons,List.foldl_cons,zen ts _ (by omega),T.depths]
  omega
noncomputable def zhJ (ts:List T):List Int:=ts.map fun t=>(t.depth:Int)
theorem zas (ts:List T):maxD (zhJ ts) 0=(T.depths ts:Int):=by
 unfold zhJ
 cases ts with
 | nil=>rfl
 | cons t ts=>
  show (ts.map fun t=>(t.depth:Int)).foldl max (t.depth:Int)=_
  rw [zen ts _ (by omega),T.depths];omega
theorem zib (ts:List T) (n:Nat):zbr (gN 0) yesP (zcg n) [none] (ts.map ent)=some ((zhJ ts).map D.int):=by
 unfold zhJ
 refine zcV (by simp) fun i x y hx hy=>?_
 rw [List.getElem?_map] at hx
 rw [List.map_map,List.getElem?_map] at hy
 cases e:ts[i]? with
 | none=>rw [e] at hx;cases hx
 | some t=>
  rw [e] at hx hy
  cases hx;cases hy
  exact ⟨_,rfl,rfl,by simp! [ent,atI,ixN]⟩
theorem zia (ts:List T) (n:Nat):zbr (gN 0) yesP (zcf n) [none] (ts.map ent)=some (ts.map T.d):=by
 refine zcV (by simp) fun i x y hx hy=>?_
 rw [List.getElem?_map] at hx hy
 cases e:ts[i]? with
 | none=>rw [e] at hx;cases hx
 | some t=>
  rw [e] at hx hy
  cases hx;cases hy
  exact ⟨_,rfl,rfl,by simp! [ent,atI,ixN]⟩
set_option maxHeartbeats 1000000 in
theorem zji (ts:List T) (n most:Int) (ps:List (Str×Int)) (bs:List Str) (S:zgi ps) (hb2:bs.length≤1000) (ht:ts.length≤1000) :
  ∃ ts',zac [.lst (ts.map ent),.int n,.lst (ps.map sd),.lst (bs.map D.str),.int most]=some (.lst (ts'.map ent))∧zeQ ps bs most ts ts':=by
 have lo:=S.lo
 have hi:=S.hi
 have h0:0≤n % (ps.length:Int):=Int.emod_nonneg _ (by omega)
 have h1:n % (ps.length:Int) < (ps.length:Int):=Int.emod_lt_of_pos _ (by omega)
 have hpl:(0:Int) < (ps.length:Int):=by omega
 obtain ⟨⟨wd,mn⟩,ej,mj⟩:∃ q,atI ps (n % (ps.length:Int))=some q∧q∈ps:=
  ⟨ps[(n % (ps.length:Int)).toNat]'(by omega),by rw [zgH h0 h1,List.getElem?_eq_getElem (by omega)],List.getElem_mem _⟩
 have hmod:ziP (ps.length:Int):=hpl
 obtain ⟨hm0,hm3⟩:=S.cnt _ mj
 have hm0:0≤mn:=hm0
 generalize hk0:HT.sIx ts.length 0 (some ((ts.length:Int) - mn))=k0
 have cutL:cutG (ts.map ent) (some ((ts.length:Int) - mn)) none=(ts.drop k0).map ent:=by
  rw [zgD,List.length_map,hk0,List.map_drop]
 have ll:(ts.drop k0).length=ts.length - k0:=List.length_drop
 generalize hls:ts.drop k0=ls at cutL ll
 have en:=zib ls FUEL
 have et:=zia ls FUEL
 have dl:ls.length≤1000000:=by omega
 have io:=zel (zhJ ls)
 by_cases cc:0 < mn∧mn≤(ts.length:Int)∧(T.depths ls:Int) < most∧0 < n / 20 % 4
 ·obtain ⟨a1,a2,a3,a4⟩:=cc
  have ek:k0=ts.length - mn.toNat:=by
   rw [← hk0]
   have e4:(ts.length:Int) - mn=((ts.length - mn.toNat:Nat):Int):=by omega
   rw [e4,HT.sIx_nat];omega
  have e5:(ts.length:Int) - mn=(k0:Int):=by omega
  have cutR:cutG (ts.map ent) none (some ((ts.length:Int) - mn))=(ts.take k0).map ent:=by
   rw [e5,zlT _ _ (by rw [List.length_map];omega),List.map_take]
  have rl:(ts.take k0).length≤ts.length:=by rw [List.length_take];omega
  refine ⟨ts.take k0++[.nd wd (ts.drop k0)],?_,.take k0 wd mn mj (by omega) (by omega) (by rw [T.depth,hls];omega)⟩
  rw [hls]
  generalize ts.take k0=rs at cutR rl ⊢
  have z1:rs.length + 1≤1000000:=by omega
  have z2:1 + ls.length≤1000000:=by omega
  have z3:ls.length + 1≤1000000:=by omega
  have de:((T.depth (T.nd wd ls):Nat):Int)=(T.depths ls:Int) + 1:=by rw [T.depth];omega
  simp! [zac,zaQ,ej,sd,hmod,cutL,cutR,en,et,io,zas,a1,a2,a3,a4,dl,z1,z2,z3]
  simp [ent,d_nd,de]
 ·have w0:∃ w m,ps[0]?=some (w,m)∧atI ps 0=some (w,m):=by
   refine ⟨(ps[0]'(by omega)).1,(ps[0]'(by omega)).2,List.getElem?_eq_getElem (by omega),?_⟩
   exact zcD (j:=0) (List.getElem?_eq_getElem (by omega))
  obtain ⟨w0,m0,g0,g1⟩:=w0
  have z1:ts.length + 1≤1000000:=by omega
  have hnc:¬ 0 < mn∨(0 < mn∧¬ mn≤(ts.length:Int))∨(0 < mn∧mn≤(ts.length:Int)∧¬ (T.depths ls:Int) < most)∨(0 < mn∧mn≤(ts.length:Int)∧(T.depths ls:Int) < most∧¬ 0 < n / 20 % 4):=by omega
  by_cases hbn:bs=[]
  ·subst hbn
   refine ⟨ts++[.nd w0 []],?_,.sign w0 m0 g0⟩
   have fin:ent (.nd w0 [])=.lst [.tup [.str w0],.int 1]:=by simp [ent,d_nd,T.depth,T.depths]
   rcases hnc with x1 | ⟨x1,x2⟩ | ⟨x1,x2,x3⟩ | ⟨x1,x2,x3,x4⟩
   ·simp! [zac,zaQ,ej,sd,hmod,cutL,en,io,zas,dl,z1,depL,eqL,g1,fin,eqD,dep,x1]
   ·simp! [zac,zaQ,ej,sd,hmod,cutL,en,io,zas,dl,z1,depL,eqL,g1,fin,eqD,dep,x1,x2]
   ·simp! [zac,zaQ,ej,sd,hmod,cutL,en,io,zas,dl,z1,depL,eqL,g1,fin,eqD,dep,x1,x2,x3]
   ·simp! [zac,zaQ,ej,sd,hmod,cutL,en,io,zas,dl,z1,depL,eqL,g1,fin,eqD,dep,x1,x2,x3,x4]
  have hb:1≤bs.length:=by cases bs with | nil=>exact absurd rfl hbn | cons x l=>simp
  have hbm:ziP (bs.length:Int):=by show (0:Int) < (bs.length:Int);omega
  obtain ⟨b,eb,mb⟩:∃ b,atI bs (n / 20 / 12 % (bs.length:Int))=some b∧b∈bs:=by
   have q0:0≤n / 20 / 12 % (bs.length:Int):=Int.emod_nonneg _ (by omega)
   have q1:n / 20 / 12 % (bs.length:Int) < (bs.length:Int):=Int.emod_lt_of_pos _ (by omega)
   exact ⟨bs[(n / 20 / 12 % (bs.length:Int)).toNat]'(by omega),by rw [zgH q0 q1,List.getElem?_eq_getElem (by omega)],List.getElem_mem _⟩
  have dq:depL (bs.map D.str)≤99:=by
   have:∀ l:List Str,depL (l.map D.str)≤1:=by
    intro l
    induction l with
    | nil=>simp [depL]
    | cons x l ih=>simp only [List.map_cons,depL,dep];omega
   have:=this bs
   omega
  have eq0:eqL (bs.map D.str) []=some false:=by
   cases bs with
   | nil=>simp at hb
   | cons x l=>simp [eqL]
  by_cases h3:n / 20 / 4 % 3=0
  ·refine ⟨ts++[.nd w0 []],?_,.sign w0 m0 g0⟩
   have fin:ent (.nd w0 [])=.lst [.tup [.str w0],.int 1]:=by simp [ent,d_nd,T.depth,T.depths]
   rcases hnc with x1 | ⟨x1,x2⟩ | ⟨x1,x2,x3⟩ | ⟨x1,x2,x3,x4⟩
   ·simp! [zac,zaQ,ej,sd,hmod,cutL,en,io,zas,dl,z1,dq,eq0,h3,g1,fin,eqD,dep,x1]
   ·simp! [zac,zaQ,ej,sd,hmod,cutL,en,io,zas,dl,z1,dq,eq0,h3,g1,fin,eqD,dep,x1,x2]
   ·simp! [zac,zaQ,ej,sd,hmod,cutL,en,io,zas,dl,z1,dq,eq0,h3,g1,fin,eqD,dep,x1,x2,x3]
   ·simp! [zac,zaQ,ej,sd,hmod,cutL,en,io,zas,dl,z1,dq,eq0,h3,g1,fin,eqD,dep,x1,x2,x3,x4]
  ·refine ⟨ts++[.bl b],?_,.blank b mb⟩
   have fin:ent (.bl b)=.lst [.str b,.int 1]:=by simp [ent,d_bl,T.depth]
   rcases hnc with x1 | ⟨x1,x2⟩ | ⟨x1,x2,x3⟩ | ⟨x1,x2,x3,x4⟩
   ·simp! [zac,zaQ,ej,sd,hmod,cutL,en,io,zas,dl,z1,dq,eq0,h3,hbm,eb,fin,eqD,dep,x1]
   ·simp! [zac,zaQ,ej,sd,hmod,cutL,en,io,zas,dl,z1,dq,eq0,h3,hbm,eb,fin,eqD,dep,x1,x2]
   ·simp! [zac,zaQ,ej,sd,hmod,cutL,en,io,zas,dl,z1,dq,eq0,h3,hbm,eb,fin,eqD,dep,x1,x2,x3]
   ·simp! [zac,zaQ,ej,sd,hmod,cutL,en,io,zas,dl,z1,dq,eq0,h3,hbm,eb,fin,eqD,dep,x1,x2,x3,x4]
theorem zkx (ts:List T) (n most:Int) (ps:List (Str×Int)) (bs:List Str) (S:zgi ps) (hb:1≤bs.length) (hb2:bs.length≤1000) (ht:ts.length≤1000) :
  ∃ ts',zac [.lst (ts.map ent),.int n,.lst (ps.map sd),.lst (bs.map D.str),.int most]=some (.lst (ts'.map ent))∧zeQ ps bs most ts ts':=zji ts n most ps bs S hb2 ht
theorem zfX {ps:List (Str×Int)}{bs:List Str} {most:Int}{ts ts':List T} (h:zeQ ps bs most ts ts'):T.sizes ts'≤T.sizes ts + 1:=by
 cases h with
 | sign w m h=>rw [zax];simp [T.sizes,T.size]
 | blank b h=>rw [zax];simp [T.sizes,T.size]
 | take k s m h hk hm hd=>
  have e:T.sizes ts=T.sizes (ts.take k) + T.sizes (ts.drop k):=by rw [← zax,List.take_append_drop]
  rw [zax]
  simp only [T.sizes,T.size]
  omega
theorem zgX {ps:List (Str×Int)}{bs:List Str} {most:Int}{ts ts':List T} (h:zeQ ps bs most ts ts') (hm:1≤most):∃ r t,ts'=r++[t]∧(t.depth:Int)≤most:=by
 cases h with
 | sign w m h=>exact ⟨_,_,rfl,by simp [T.depth,T.depths];omega⟩
 | blank b h=>exact ⟨_,_,rfl,by simp [T.depth];omega⟩
 | take k s m h hk hm hd=>exact ⟨_,_,rfl,hd⟩
mutual
theorem zmI:∀ t:T,eqD t.d t.d=some true
 | .bl x=>by simp [d_bl,eqD]
 | .nd s ts=>by simp [d_nd,eqD,eqL,zhZ ts]
theorem zhZ:∀ ts:List T,eqL (ts.map T.d) (ts.map T.d)=some true
 | []=>by simp [eqL]
 | t::ts=>by simp [eqL,zmI t,zhZ ts]
end
theorem zfW (x:Str):∀ bs:List Str,inL (.str x) (bs.map D.str)=some (decide (x∈bs))
 | []=>by simp [inL]
 | b::bs=>by
  simp only [List.map_cons,inL,eqD,zfW x bs]
  by_cases h:b=x
  ·subst h;simp
  ·have h2:(b == x)=false:=by simpa using h
   have h3:¬ x=b:=fun z=>h z.symm
   simp [h2,h3]
theorem zdv (l:List Str):depL (l.map D.str)≤1:=by
 induction l with
 | nil=>simp [depL]
 | cons x l ih=>simp only [List.map_cons,depL,dep];omega
noncomputable def nb (s:Option Sl):Bool:=match s with
 | some (.bor _)=>false
 | _=>true
theorem zkF (s:Option Sl) (ρ:En):zdp (s::ρ)=(nb s && zdp ρ):=rfl
theorem zly:zdp []=true:=rfl
theorem zmM (d:D):nb (some (.dat d))=true:=rfl
theorem zmL (q:Bool) (d:D):nb (some (.ow q d))=true:=rfl
theorem zmA:nb none=true:=rfl
noncomputable abbrev zcs (zab zad:List D→Option D) (n:Nat):En→Option Fl:=
 (ifM (upT (andP (cT (cL zad (zae (gv 3) nilF))) (cT (c2 zbF (gv 3) (gb 1))))) (zcC (appM 1 (gv 3))) nxM)
noncomputable abbrev zbS (zab zad:List D→Option D) (n:Nat):En→Option Fl:=
 (seqM (setO 1 (cL zaK nilF)) (seqM (forS (cI (cL zab (zae (gv 0) nilF))) (gTup (zaM (gN 2) (zaM (gN 3) gNil))) (zcs zab zad n)) (retO 1)))
noncomputable def zat:List D→Option D:=runF (zbS zab zad FUEL) 1 4
mutual
noncomputable def vs:T→List Str
 | .bl x=>[x]
 | .nd _ ts=>vsL ts
noncomputable def vsL:List T→List Str
 | []=>[]
 | t::r=>vs t++vsL r
end
section
variable {a b:T}{φ:Fil} {W:List (T×T)}{w:T×T}
end
noncomputable def ded (l:List Str):List Str:=l.foldl (fun acc x=>if x∈acc then acc else acc++[x]) []
noncomputable def dedA (acc l:List Str):List Str:=l.foldl (fun acc x=>if x∈acc then acc else acc++[x]) acc
theorem zeL:∀ (l acc:List Str),(dedA acc l).length≤acc.length + l.length
 | [],acc=>by simp [dedA]
 | y::l,acc=>by
  have ih:=zeL l (if y∈acc then acc else acc++[y])
  unfold dedA at ih ⊢
  rw [List.foldl_cons,List.length_cons]
  by_cases h:y∈acc
  ·rw [if_pos h] at ih ⊢;omega
  ·rw [if_neg h] at ih ⊢;rw [List.length_append,List.length_singleton] at ih;omega
noncomputable def blp:List (List Int×T)→List Str
 | []=>[]
 | (_,.bl x)::r=>x::blp r
 | (_,.nd _ _)::r=>blp r
theorem zeP:∀ a b:List (List Int×T),blp (a++b)=blp a++blp b
 | [],b=>by simp [blp]
 | (_,.bl x)::r,b=>by rw [List.cons_append,blp,blp,zeP r b,List.cons_append]
 | (_,.nd _ _)::r,b=>by rw [List.cons_append,blp,blp,zeP r b]
mutual
theorem zes (p:List Int):∀ t:T,blp (zap p t)=vs t
 | .bl x=>by simp [zap,blp,vs]
 | .nd s ts=>by rw [zap,blp,zdY p 0 ts,vs]
theorem zdY (p:List Int):∀ (k:Nat) (ts:List T),blp (zaz p k ts)=vsL ts
 | _,[]=>by simp [zaz,blp,vsL]
 | k,t::r=>by rw [zaz,zeP,zes (p++[(k:Int)]) t,zdY p (k + 1) r,vsL]
end
theorem zgg:∀ l:List (List Int×T),(blp l).length≤l.length
 | []=>by simp [blp]
 | (_,.bl x)::r=>by have:=zgg r;simp [blp];exact this
 | (_,.nd _ _)::r=>by have:=zgg r;simp [blp];omega
theorem zga (t:T) (hz:t.size≤900000):zat [t.d]=some (.lst ((ded (vs t)).map D.str)):=by
 have pp:=zcv t hz
 have hl:=zaR [] t
 obtain ⟨ρ',f1,k2,k3,rfl⟩:=zdo (g:=gTup (zaM (gN 2) (zaM (gN 3) gNil))) (b:=zcs zab zad FUEL) (xs:=(zap [] t).map pd) (ρ:=[some (.dat t.d),some (.own (.lst [])),none,none])
  (fun i ρ=>∃ k2 k3:Option Sl,ρ=[some (.dat t.d),some (.own (.lst ((dedA [] (blp ((zap [] t).take i))).map D.str))),k2,k3]) ⟨none,none,by simp [dedA,blp]⟩ (by
   rintro i x ρ hx ⟨k2,k3,rfl⟩
   rw [List.getElem?_map] at hx
   cases e:(zap [] t)[i]? with
   | none=>rw [e] at hx;cases hx
   | some q=>
    rw [e] at hx
    cases hx
    have hi:i < (zap [] t).length:=(List.getElem?_eq_some_iff.mp e).1
    have eq:(zap [] t)[i]=q:=by rw [List.getElem?_eq_getElem hi] at e;exact Option.some.inj e
    have tk:(zap [] t).take (i + 1)=(zap [] t).take i++[q]:=by rw [List.take_succ_eq_append_getElem hi,eq]
    have l1:=zeL (blp ((zap [] t).take i)) []
    have l2:=zgg ((zap [] t).take i)
    rw [List.length_take] at l2
    simp only [List.length_nil,Nat.zero_add] at l1
    obtain ⟨p,u⟩:=q
    have ib:=zco u
    rw [tk,zeP]
    generalize hacc:dedA [] (blp ((zap [] t).take i))=acc at l1
    have da:dedA [] (blp ((zap [] t).take i)++blp [(p,u)])=dedA acc (blp [(p,u)]):=by
     rw [← hacc];unfold dedA;rw [List.foldl_append]
    rw [da]
    cases u with
    | nd s ts=>
     simp only [T.isBl] at ib
     refine ⟨[some (.dat t.d),some (.own (.lst ((dedA acc (blp [(p,T.nd s ts)])).map D.str))),some (.dat (.tup (p.map D.int))),some (.dat (T.nd s ts).d)],.inl ?_,_,_,rfl⟩
     simp! [pd,ib,blp,dedA]
    | bl y=>
     simp only [T.isBl] at ib
     have i1:=zfW y acc
     have dd:=zdv acc
     have dz:depL (acc.map D.str)≤100:=by omega
     rw [d_bl] at ib
     refine ⟨[some (.dat t.d),some (.own (.lst ((dedA acc (blp [(p,T.bl y)])).map D.str))),some (.dat (.tup (p.map D.int))),some (.dat (.str y))],.inl ?_,_,_,rfl⟩
     by_cases hy:y∈acc
     ·simp! [pd,d_bl,ib,blp,dedA,i1,dz,hy]
     ·have z1:acc.length < 1000000:=by omega
      simp! [pd,d_bl,ib,blp,dedA,i1,dz,hy,z1])
 rw [List.length_map,List.take_length,zes] at f1
 have e0:dedA [] (vs t)=ded (vs t):=rfl
 rw [e0] at f1
 simp! [zat,pp,f1]
noncomputable abbrev zbC (zab zad:List D→Option D) (n:Nat):En→Option Fl:=
 (ifM (upT (notP (cT (cL zad (zae (gv 4) nilF))))) (zcC (addM 1 (c2 idxD (gb 4) (cst (.int 0))))) nxM)
noncomputable abbrev zcO (zab zad:List D→Option D) (n:Nat):En→Option Fl:=
 (forS (cI (cL zab (zae (gv 2) nilF))) (gTup (zaM (gN 3) (zaM (gN 4) gNil))) (zbC zab zad n))
noncomputable abbrev zcA (zab zad:List D→Option D) (n:Nat):En→Option Fl:=
 (seqM (setO 1 (cst (.set []))) (seqM (forS (cI (gv 0)) (gN 2) (zcO zab zad n)) (retM (cL zgM (zae (gb 1) nilF)))))
noncomputable def zao:List D→Option D:=runF (zcA zab zad FUEL) 1 5
noncomputable abbrev zct (zaa:List D→Option D) (n:Nat):En→Option Fl:=
 (setM 1 (c2 addD (gb 1) (cL zaa (zae (gv 2) nilF))))
noncomputable abbrev zbT (zaa:List D→Option D) (n:Nat):En→Option Fl:=
 (seqM (ifM (upT (cT (c1 (isiD "str") (gb 0)))) (retM (cL zaK (zae (gv 0) nilF))) nxM) (seqM (setM 1 (cL zaK (zae (c2 idxD (gb 0) (cst (.int 0))) nilF))) (seqM (forS (cI (cS zaO (gb 0) (zbo (cst (.int 1))) zbI)) (gN 2) (zct zaa n)) (retM (gv 1)))))
noncomputable def zaB:Nat→List D→Option D
 | 0=>fun _=>none
 | n + 1=>runF (zbT (zaB n) FUEL) 1 3
noncomputable def zaa:List D→Option D:=zaB 100
noncomputable abbrev zdN (zaa zat:List D→Option D) (n:Nat):En→Option Fl:=
 (ifM (upT (andP (cT (c2 inS (gv 2) (cst (.str "ABCDEFGHIJKLMNOPQRSTUVWXYZ")))) (cT (c2 zbF (gv 2) (gb 1))))) (zcC (appM 1 (gv 2))) nxM)
noncomputable abbrev zdH (zaa zat:List D→Option D) (n:Nat):En→Option Fl:=
 (seqM (setO 1 (cL zaK nilF)) (seqM (forS (cI (cL zaa (zae (gv 0) nilF))) (gN 2) (zdN zaa zat n)) (seqM (setM 3 (cL zat (zae (gv 0) nilF))) (retM (andV (c1 (isiD "list") (gb 3)) (c2 eqB (gb 3) (gb 1)))))))
noncomputable def zcm:List D→Option D:=runF (zdH zaa zat FUEL) 1 4
noncomputable abbrev zbZ (zaa:List D→Option D) (n:Nat):En→Option Bool:=
 (cT (c2 zgt (gv 0) (cst (.str "ABCDEFGHIJKLMNOPQRSTUVWXYZ"))))
noncomputable abbrev zca (zaa:List D→Option D) (n:Nat):En→Option D:=
 (gv 0)
noncomputable abbrev zdm (zaa:List D→Option D) (n:Nat):En→Option Fl:=
 (setM 1 (c2 addD (gb 1) (zbf [none] (cI (cL zaa (zae (gv 2) nilF))) (gN 0) (zbZ zaa n) (zca zaa n))))
noncomputable abbrev zdb (zaa:List D→Option D) (n:Nat):En→Option Fl:=
 (seqM (setM 1 (cL zaK nilF)) (seqM (forS (cI (gv 0)) (gN 2) (zdm zaa n)) (retM (cL zgM (zae (cL setD (zae (gb 1) nilF)) nilF)))))
noncomputable def zbu:List D→Option D:=runF (zdb zaa FUEL) 1 3
noncomputable abbrev zej (zaj zah:List D→Option D) (zao zak:List D→Option D) (zac m__law_good m__law_signs:List D→Option D) (n:Nat):En→Option Fl:=
 (seqM (setM 3 (cL zac (zae (gv 3) (zae (c2 modD (c2 mulD (gb 4) (cst (.int 1000000007))) (cst (.int 2147483647))) (zae (gv 1) (zae (gv 2) (zae (cst (.int 15)) nilF))))))) (ifM (upT (notP (cT (cL m__law_good (zae (c2 idxD (c2 idxD (gb 3) (c1 negD (cst (.int 1)))) (cst (.int 0))) nilF))))) (retM (cst (.bl false))) nxM))
noncomputable abbrev zer (zaj zah:List D→Option D) (zao zak:List D→Option D) (zac m__law_good m__law_signs:List D→Option D) (n:Nat):En→Option D:=
 (c2 idxD (gb 0) (cst (.int 0)))
noncomputable abbrev zeE (zaj zah:List D→Option D) (zao zak:List D→Option D) (zac m__law_good m__law_signs:List D→Option D) (n:Nat):En→Option Fl:=
 (seqM (setM 1 (cL zaj (zae (cL zak (zae (gv 0) (zae (cst (.int 0)) nilF))) nilF))) (seqM (setM 2 (cL zah (zae (cL zak (zae (gv 0) (zae (cst (.int 1)) nilF))) nilF))) (seqM (setM 3 (cL zaK nilF)) (seqM (forS (cI (c2 addD (cL zaK (zae (cst (.int 0)) nilF)) (cS zaO (gb 0) (zbo (cst (.int 2))) (zbo (cst (.int 41)))))) (gN 4) (zej zaj zah zao zak zac m__law_good m__law_signs n)) (seqM (setM 5 (zbf [none] (cI (gv 3)) (gN 0) yesP (zer zaj zah zao zak zac m__law_good m__law_signs n))) (seqM (setM 6 (cL zdJ (zae (gb 5) nilF))) (seqM (setM 7 (cL zao (zae (gv 5) nilF))) (seqM (ifM (upT (orP (notP (cT (c1 (isiD "list") (gb 7)))) (orP (cT (c2 neB (gb 7) (cL m__law_signs (zae (gv 5) nilF)))) (cT (c2 neB (gb 5) (gb 6)))))) (retM (cst (.bl false))) nxM) (retM (andV (c2 eqB (cL zao (zae (cS zaO (gb 5) (zbo (c1 negD (cst (.int 1)))) zbI) nilF)) (cL m__law_signs (zae (cS zaO (gb 5) (zbo (c1 negD (cst (.int 1)))) zbI) nilF))) (c2 eqB (cL zao (zae (cL zaK nilF) nilF)) (cL zaK nilF))))))))))))
noncomputable def m_law03:List D→Option D:=runF (zeE zaj zah zao zak zac zcm zbu FUEL) 1 8
noncomputable def lows:List Nat:=(Str.ofString "abcdefghijklmnopqrstuvwxyz").cps.toList
noncomputable def ups:List Nat:=(Str.ofString "ABCDEFGHIJKLMNOPQRSTUVWXYZ").cps.toList
theorem zlC:∀ c∈lows,c∉ups:=by decide +kernel
noncomputable def zdg (x:Str):Prop:=∀ c∈x.cps.toList,c∈lows
noncomputable def Lo (x:Str):Prop:=1≤x.length∧zdg x
noncomputable def Up (x:Str):Prop:=∃ c,x=⟨#[c]⟩∧c∈ups
theorem zma {x:Str}(h:Up x):Txt.contains (Str.ofString "ABCDEFGHIJKLMNOPQRSTUVWXYZ") x=true:=by
 obtain ⟨c,rfl,hc⟩:=h
 show (!(Builtin.Str.occurrences _ ⟨#[c]⟩ 0 _ 1).isEmpty)=true
 rw [StrLaws.found_one]
 exact decide_eq_true hc
theorem zlD {x:Str}(h:Lo x):Txt.contains (Str.ofString "ABCDEFGHIJKLMNOPQRSTUVWXYZ") x=false:=by
 rw [← Bool.not_eq_true]
 intro hc
 obtain ⟨i,h1,h2⟩:=(StrLaws.found_iff _ x).mp hc
 rw [StrLaws.subAt_eq,beq_iff_eq] at h2
 obtain ⟨⟨l⟩⟩:=x
 cases l with
 | nil=>exact absurd h.1 (by simp [Str.length])
 | cons c r=>
  have hm:c∈ups:=by
   have:c∈((Str.ofString "ABCDEFGHIJKLMNOPQRSTUVWXYZ").cps.toList.drop i).take (Str.length ⟨⟨c::r⟩⟩):=by rw [h2];simp
   exact List.mem_of_mem_drop (List.mem_of_mem_take this)
  exact zlC c (h.2 c (by simp)) hm
theorem zhP {a b:Str}(h:zdg a) (k:zdg b):zdg (a++b):=fun c hc=>by
 have e:(a++b).cps.toList=a.cps.toList++b.cps.toList:=by
  show (a.cps++b.cps).toList=_
  simp
 rw [e] at hc
 rcases List.mem_append.mp hc with z | z
 ·exact h c z
 ·exact k c z
theorem zeF {z:Str}(h:zdg z) (a b:Option Int):zdg (Txt.slice z a b):=fun c hc=>by
 unfold Txt.slice at hc
 split at hc
 ·exact h c hc
 ·have hc':c∈((Builtin.Str.strSliceIndices a b 1 z.length).filterMap (z.cps[·]?)):=by simpa using hc
  obtain ⟨i,_,e⟩:=List.mem_filterMap.mp hc'
  exact h c (by rw [Array.mem_toList_iff];exact Array.mem_of_getElem? e)
theorem zhN {n:Int}{c:Nat} (h:atI (Str.ofString "abcdefghijklmnopqrstuvwxyz").cps.toList n=some c):zdg ⟨#[c]⟩:=fun b hb=>by
 have:b=c:=by simpa using hb
 subst this
 unfold atI at h
 cases e:ixN (Str.ofString "abcdefghijklmnopqrstuvwxyz").cps.toList.length n with
 | none=>rw [e] at h;cases h
 | some j=>rw [e] at h;exact List.mem_of_getElem? h
theorem zhO:∀ (l:List Str) (acc:Array Nat),(∀ c∈acc,c∈lows)→(∀ y∈l,zdg y)→∀ c∈l.foldl (fun acc p=>acc++(Str.ofString "").cps++p.cps) acc,c∈lows
 | [],acc,h,_,c,hc=>h c hc
 | y::l,acc,h,k,c,hc=>by
  rw [List.foldl_cons] at hc
  refine zhO l _ (fun d hd=>?_) (fun z hz=>k z (List.mem_cons_of_mem _ hz)) c hc
  have e0:(Str.ofString "").cps=#[]:=by decide +kernel
  rw [e0] at hd
  rcases Array.mem_append.mp hd with z | z
  ·exact h d (by simpa using z)
  ·exact k y (by simp) d (by rw [Array.mem_toList_iff];exact z)
theorem zkm {ys:List Str}(h:∀ y∈ys,zdg y):zdg (Txt.join (Str.ofString "") ys):=fun c hc=>by
 have hc':c∈(ys.drop 1).foldl (fun acc p=>acc++(Str.ofString "").cps++p.cps) (ys.headD Str.empty).cps:=by rw [← Array.mem_toList_iff];exact hc
 refine zhO _ _ (fun d hd=>?_) (fun y hy=>h y (List.mem_of_mem_drop hy)) c hc'
 cases ys with
 | nil=>simp [Str.empty] at hd
 | cons y r=>exact h y (by simp) d (by rw [Array.mem_toList_iff];exact hd)
theorem zhq (z:Str) (k:Nat) (hk:k + 1≤z.length):1≤(Txt.slice z none (some ((k:Int) + 1))).length:=by
 have hz:Builtin.Str.strSliceIndices none (some ((k:Int) + 1)) 1 z.length=List.range (k + 1):=by
  unfold Builtin.Str.strSliceIndices sliceRange
  simp only [show (1:Int) > 0 by decide,if_true]
  have e1:¬ ((k:Int) + 1 < 0):=by omega
  simp only [e1,if_false]
  have e2:max 0 (min ((k:Int) + 1) (z.length:Int))=(k:Int) + 1:=by omega
  rw [e2,if_pos (by omega)]
  have e3:(((k:Int) + 1 - 0 + 1 - 1) / 1).toNat=k + 1:=by omega
  rw [e3]
  conv=>rhs;rw [← List.map_id (List.range (k + 1))]
  apply List.map_congr_left
  intro a _
  simp
 unfold Txt.slice
 rw [hz]
 split
 ·omega
 ·show 1≤(List.filterMap _ (List.range (k + 1))).toArray.size
  rw [List.size_toArray,List.range_succ_eq_map,List.filterMap_cons]
  have hlt:0 < z.cps.size:=by have:z.length=z.cps.size:=rfl;omega
  rw [Array.getElem?_eq_getElem hlt]
  simp
noncomputable def LoS (m:Nat) (y:Str):Prop:=y.length≤m∧Lo y
theorem zjg (c:Int):∃ ws:List Str,zan [.int c]=some (.lst (ws.map D.str))∧ws.length=5∧nle 16 ws∧∀ x∈ws,Lo x:=by
 obtain ⟨n0,e0⟩:∃ n0:Int,c * 1000000007 % 1000000000000000000=n0:=⟨_,rfl⟩
 have h7:0≤n0 % 7:=Int.emod_nonneg _ (by decide)
 have h7':n0 % 7 < 7:=Int.emod_lt_of_pos _ (by decide)
 obtain ⟨ρ',e1,nb,bs,k,rfl,hb,hbl⟩:=zdo (g:=gN 4) (b:=zbW FUEL) (xs:=zaX 0 (n0 % 7).toNat) (ρ:=[some (.dat (.int c)),some (.dat (.str "abcdefghijklmnopqrstuvwxyz")),some (.dat (.int n0)),some (.dat (.str "")),none,none])
  (fun i ρ=>∃ (nb:Int) (bs:Str) (k:Option Sl),ρ=[some (.dat (.int c)),some (.dat (.str "abcdefghijklmnopqrstuvwxyz")),some (.dat (.int nb)),some (.dat (.str bs)),k,none]∧bs.length≤min i 7∧zdg bs)
  ⟨n0, "",none,rfl,by rw [elen];omega,by intro c hc;exact absurd hc (by decide +revert +kernel)⟩ (by
   rintro i x ρ hx ⟨nb,bs,k,rfl,hb,hbl⟩
   obtain ⟨hi,rfl⟩:=zba hx
   obtain ⟨cc,hcc⟩:=zgw alen (nb / 7)
   have hl:bs.length + 1≤1000000:=by omega
   refine ⟨[some (.dat (.int c)),some (.dat (.str "abcdefghijklmnopqrstuvwxyz")),some (.dat (.int (nb / 11))),some (.dat (.str (bs++⟨#[cc]⟩))),some (.dat (.int (0 + (i:Int)))),none],.inl ?_,_,_,_,rfl,?_,zhP hbl (zhN hcc)⟩
   ·simp! [zkE,hcc,len1,hl]
   ·rw [zei,len1];omega)
 have hb6:bs.length≤7:=by omega
 have hz:bs.length≤1000000:=by omega
 have hp:(0:Int) < (bs.length:Int) + 1:=by omega
 have hr7:-4611686018427387904≤n0 % 7∧n0 % 7 < 4611686018427387904:=by omega
 by_cases h3:nb % 3=0
 ·obtain ⟨ys,w1,w2,w3⟩:=zcp D.str (fun _ y=>y.length=1∧zdg y) (g:=gN 0) (f:=zcd FUEL) (ρ:=[none,some (.dat (.str "abcdefghijklmnopqrstuvwxyz")),some (.dat (.int nb))]) (xs:=zaX 0 6) 0 (by
   intro i x hx
   obtain ⟨hi,rfl⟩:=zba hx
   rw [Int.zero_add]
   have hd:0 < (3:Int) + (i:Int) * (i:Int):=by
    have:0≤(i:Int) * (i:Int):=Int.mul_nonneg (by omega) (by omega)
    omega
   have hd2:(3:Int) + (i:Int) * (i:Int) < 1073741824:=by
    have:(i:Int) * (i:Int)≤6 * 6:=Int.mul_le_mul (by omega) (by omega) (by omega) (by decide)
    omega
   have hm:(-18446744073709551616 < (i:Int)∧(i:Int) < 18446744073709551616):=by omega
   obtain ⟨cc,hcc⟩:=zgw alen (nb / (3 + (i:Int) * (i:Int)))
   refine ⟨_,⟨#[cc]⟩,rfl,?_,len1 cc,zhN hcc⟩
   simp! [zkE,hcc,hd,hd2,hm])
  rw [zaF] at w2
  have w3':∀ y∈ys,y.length=1∧zdg y:=fun y hy=>by obtain ⟨i,hi⟩:=List.mem_iff_getElem?.mp hy;exact w3 i y hi
  have js6:(ys.map (·.length)).sum=6:=by
   have:∀ l:List Str,(∀ y∈l,y.length=1)→(l.map (·.length)).sum=l.length:=by
    intro l
    induction l with
    | nil=>intro _;rfl
    | cons y l ih=>intro h;rw [List.map_cons,List.sum_cons,h y (by simp),ih fun z hz=>h z (List.mem_cons_of_mem _ hz),List.length_cons];omega
   rw [this ys fun y hy=>(w3' y hy).1];exact w2
  have js:(ys.map (·.length)).sum≤6:=by omega
  have jl6:(Txt.join (Str.ofString "") ys).length=6:=by rw [ziW];exact js6
  have jall:=zkm fun y hy=>(w3' y hy).2
  have jo:zaI (ys.map D.str)=some ys:=zcX ys
  have jz:(ys.map (·.length)).sum + ys.length * (Str.ofString "").length≤16777216:=by rw [elen];omega
  obtain ⟨zs,d1,d2,d4⟩:=zcp D.str (fun _ y=>LoS 16 y) (g:=gN 0) (f:=zcc FUEL) (ρ:=[none,some (.dat (.str (Txt.join (Str.ofString "") ys)))]) (xs:=zaX 0 5) 0 (by
   intro i x hx
   obtain ⟨hi,rfl⟩:=zba hx
   have sp:=zhq (Txt.join (Str.ofString "") ys) i (by omega)
   have sl:=zdx (Txt.join (Str.ofString "") ys) none (some ((i:Int) + 1))
   have hz2:(Txt.join (Str.ofString "") ys).length≤1000000:=by omega
   rw [Int.zero_add]
   refine ⟨_,Txt.slice (Txt.join (Str.ofString "") ys) none (some ((i:Int) + 1)),rfl,?_,by omega,sp,zeF jall _ _⟩
   simp! [hz2])
  rw [zaF] at d2
  have d5:∀ y∈zs,LoS 16 y:=fun y hy=>by obtain ⟨i,hi⟩:=List.mem_iff_getElem?.mp hy;exact d4 i y hi
  refine ⟨zs,?_,d2,fun y hy=>(d5 y hy).1,fun y hy=>(d5 y hy).2⟩
  simp! [zan,e0,e1,h3,w1,d1,hz,hp,hr7,zaF,ziX,jo,jz,dep,eqD]
 ·obtain ⟨zs,d1,d2,d4⟩:=zcp D.str (fun _ y=>LoS 16 y) (g:=gN 0) (f:=zcb FUEL) (ρ:=[none,some (.dat (.str bs)),some (.dat (.str "abcdefghijklmnopqrstuvwxyz")),some (.dat (.int (nb / 7 % ((bs.length:Int) + 1)))),some (.dat (.int nb))]) (xs:=zaX 0 5) 0 (by
   intro i x hx
   obtain ⟨hi,rfl⟩:=zba hx
   rw [Int.zero_add]
   obtain ⟨cc,hcc⟩:=zgw alen (nb / 5 + 5 * (i:Int))
   have s1:=zdx bs none (some (nb / 7 % ((bs.length:Int) + 1)))
   have s2:=zdx bs (some (nb / 7 % ((bs.length:Int) + 1))) none
   have l1:(Txt.slice bs none (some (nb / 7 % ((bs.length:Int) + 1)))).length + 1≤1000000:=by omega
   have l2:(Txt.slice bs none (some (nb / 7 % ((bs.length:Int) + 1)))).length + 1 + (Txt.slice bs (some (nb / 7 % ((bs.length:Int) + 1))) none).length≤1000000:=by omega
   refine ⟨_,Txt.slice bs none (some (nb / 7 % ((bs.length:Int) + 1)))++⟨#[cc]⟩++Txt.slice bs (some (nb / 7 % ((bs.length:Int) + 1))) none,rfl,?_,by rw [zei,zei,len1];omega,by rw [zei,zei,len1];omega,zhP (zhP (zeF hbl _ _) (zhN hcc)) (zeF hbl _ _)⟩
   simp! [hz,zkE,hcc,len1,zei,l1,l2])
  rw [zaF] at d2
  have d5:∀ y∈zs,LoS 16 y:=fun y hy=>by obtain ⟨i,hi⟩:=List.mem_iff_getElem?.mp hy;exact d4 i y hi
  refine ⟨zs,?_,d2,fun y hy=>(d5 y hy).1,fun y hy=>(d5 y hy).2⟩
  simp! [zan,e0,e1,h3,d1,hz,hp,hr7,zaF,dep,eqD]
theorem zjh (c:Int):∃ ps:List (Str×Int),zaj [.int c]=some (.lst (ps.map sd))∧zgi ps∧∀ p∈ps,Lo p.1:=by
 obtain ⟨ws,ew,wl,wn,wlo⟩:=zjg c
 have h0:0≤c / 3 % 4:=Int.emod_nonneg _ (by decide)
 have h4':c / 3 % 4 < 4:=Int.emod_lt_of_pos _ (by decide)
 have h12:0≤c / 12 % 4:=Int.emod_nonneg _ (by decide)
 have h12':c / 12 % 4 < 4:=Int.emod_lt_of_pos _ (by decide)
 have hr:-4611686018427387904≤2 + c / 12 % 4∧2 + c / 12 % 4 < 4611686018427387904:=by omega
 obtain ⟨cs,ecs,cl,cb,cf⟩:∃ cs:List Int,atI [D.lst [.int 0,.int 2,.int 1,.int 0,.int 3],.lst [.int 0,.int 1,.int 2,.int 2,.int 0],.lst [.int 0,.int 3,.int 1,.int 1,.int 0],.lst [.int 0,.int 2,.int 0,.int 1,.int 1]] (c / 3 % 4)=some (.lst (cs.map D.int))∧cs.length=5∧(∀ n∈cs,0≤n∧n≤3)∧cs[0]?=some 0:=by
  rcases (by omega:c / 3 % 4=0∨c / 3 % 4=1∨c / 3 % 4=2∨c / 3 % 4=3) with e | e | e | e
  ·exact ⟨[0,2,1,0,3],by rw [e];rfl,rfl,by decide,rfl⟩
  ·exact ⟨[0,1,2,2,0],by rw [e];rfl,rfl,by decide,rfl⟩
  ·exact ⟨[0,3,1,1,0],by rw [e];rfl,rfl,by decide,rfl⟩
  ·exact ⟨[0,2,0,1,1],by rw [e];rfl,rfl,by decide,rfl⟩
 obtain ⟨ps,p1,p2,p3⟩:=zcp sd (fun i p=>p.1∈ws∧cs[i]?=some p.2) (g:=gN 0) (f:=zce zan FUEL) (ρ:=[none,some (.dat (.lst (ws.map D.str))),some (.dat (.lst (cs.map D.int)))]) (xs:=zaX 0 (2 + c / 12 % 4).toNat) 0 (by
  intro i x hx
  obtain ⟨hi,rfl⟩:=zba hx
  have i1:i < ws.length:=by omega
  have i2:i < cs.length:=by omega
  have a1:atI ws (i:Int)=some ws[i]:=zcD (List.getElem?_eq_getElem i1)
  have a2:atI cs (i:Int)=some cs[i]:=zcD (List.getElem?_eq_getElem i2)
  refine ⟨_,(ws[i],cs[i]),rfl,?_,List.getElem_mem _,?_⟩
  ·simp! [zaQ,a1,a2,sd]
  ·rw [Nat.zero_add];exact List.getElem?_eq_getElem i2)
 rw [zaF] at p2
 have pm:∀ p∈ps,p.1∈ws∧p.2∈cs:=fun p hp=>by
  obtain ⟨i,hi⟩:=List.mem_iff_getElem?.mp hp
  have:=p3 i p hi
  exact ⟨this.1,List.mem_of_getElem? this.2⟩
 refine ⟨ps,?_,⟨by omega,by omega,fun p hp=>cb _ (pm p hp).2,fun p hp=>?_,fun p hp=>wn _ (pm p hp).1⟩,fun p hp=>wlo _ (pm p hp).1⟩
 ·have hz:(2 + c / 12 % 4).toNat≤1000000:=by omega
  simp! [zaj,ew,ecs,hr,p1,hz,zaF]
 ·have:=(p3 0 p hp).2
  rw [Nat.add_zero,cf] at this
  exact (Option.some.inj this).symm
theorem zid (c:Int):∃ bs:List Str,zah [.int c]=some (.lst (bs.map D.str))∧1≤bs.length∧bs.length≤4∧∀ x∈bs,Up x:=by
 have h0:0≤c / 26 % 4:=Int.emod_nonneg _ (by decide)
 have h4:c / 26 % 4 < 4:=Int.emod_lt_of_pos _ (by decide)
 have hr:-4611686018427387904≤1 + c / 26 % 4∧1 + c / 26 % 4 < 4611686018427387904:=by omega
 obtain ⟨bs,p1,p2,p3⟩:=zcp D.str (fun _ y=>Up y) (g:=gN 0) (f:=zbH FUEL) (ρ:=[none,some (.dat (.str "ABCDEFGHIJKLMNOPQRSTUVWXYZ")),some (.dat (.int c))]) (xs:=zaX 0 (1 + c / 26 % 4).toNat) 0 (by
  intro i x hx
  obtain ⟨hi,rfl⟩:=zba hx
  obtain ⟨cc,hcc⟩:=zgw ALEN (c + 7 * (i:Int))
  have hu:cc∈ups:=by
   have h:=hcc
   unfold atI at h
   cases e:ixN (Str.ofString "ABCDEFGHIJKLMNOPQRSTUVWXYZ").cps.toList.length ((c + 7 * (i:Int)) % 26) with
   | none=>rw [e] at h;cases h
   | some j=>rw [e] at h;exact List.mem_of_getElem? h
  refine ⟨_,⟨#[cc]⟩,rfl,?_,cc,rfl,hu⟩
  simp! [zmK,hcc])
 rw [zaF] at p2
 refine ⟨bs,?_,by omega,by omega,fun y hy=>by obtain ⟨i,hi⟩:=List.mem_iff_getElem?.mp hy;exact p3 i y hi⟩
 have hz:(1 + c / 26 % 4).toNat≤1000000:=by omega
 simp! [zah,hr,p1,hz,zaF]
mutual
noncomputable def sg:T→List Str
 | .bl _=>[]
 | .nd s ts=>s::sgL ts
noncomputable def sgL:List T→List Str
 | []=>[]
 | t::r=>sg t++sgL r
end
mutual
noncomputable def fl:T→List Str
 | .bl x=>[x]
 | .nd s ts=>s::flL ts
noncomputable def flL:List T→List Str
 | []=>[]
 | t::r=>fl t++flL r
end
noncomputable def isUp (x:Str):Bool:=Txt.contains (Str.ofString "ABCDEFGHIJKLMNOPQRSTUVWXYZ") x
theorem zey:∀ a b:List T,sgL (a++b)=sgL a++sgL b
 | [],b=>by simp [sgL]
 | t::a,b=>by rw [List.cons_append,sgL,sgL,zey a b,List.append_assoc]
theorem zhi:∀ a b:List T,vsL (a++b)=vsL a++vsL b
 | [],b=>by simp [vsL]
 | t::a,b=>by rw [List.cons_append,vsL,vsL,zhi a b,List.append_assoc]
theorem zhX:∀ a b:List T,flL (a++b)=flL a++flL b
 | [],b=>by simp [flL]
 | t::a,b=>by rw [List.cons_append,flL,flL,zhX a b,List.append_assoc]
noncomputable def OkL (ts:List T):Prop:=(∀ x∈vsL ts,Up x)∧∀ x∈sgL ts,Lo x
noncomputable def OkT (t:T):Prop:=(∀ x∈vs t,Up x)∧∀ x∈sg t,Lo x
theorem OkL.app {a b:List T}:OkL (a++b)↔OkL a∧OkL b:=by
 unfold OkL
 rw [zhi,zey]
 simp only [List.mem_append,or_imp,forall_and]
 exact ⟨fun ⟨⟨a,b⟩,c,d⟩=>⟨⟨a,c⟩,b,d⟩,fun ⟨⟨a,c⟩,b,d⟩=>⟨⟨a,b⟩,c,d⟩⟩
theorem OkL.one {t:T}:OkL [t]↔OkT t:=by simp [OkL,OkT,vsL,sgL]
theorem zjc {ps:List (Str×Int)}{bs:List Str} {most:Int}{ts ts':List T} (h:zeQ ps bs most ts ts') (hp:∀ p∈ps,Lo p.1) (hb:∀ x∈bs,Up x) (k:OkL ts):OkL ts':=by
 cases h with
 | sign w m h=>exact OkL.app.mpr ⟨k,OkL.one.mpr ⟨fun x hx=>by simp [vs,vsL] at hx,fun x hx=>by simp [sg,sgL] at hx;subst hx;exact hp _ (List.mem_of_getElem? h)⟩⟩
 | blank b h=>exact OkL.app.mpr ⟨k,OkL.one.mpr ⟨fun x hx=>by simp [vs] at hx;subst hx;exact hb _ h,fun x hx=>by simp [sg] at hx⟩⟩
 | take j s m h hk hm hd=>
  rw [← List.take_append_drop j ts] at k
  obtain ⟨k1,k2⟩:=OkL.app.mp k
  refine OkL.app.mpr ⟨k1,OkL.one.mpr ⟨fun x hx=>k2.1 x (by rw [vs] at hx;exact hx),fun x hx=>?_⟩⟩
  rw [sg] at hx
  rcases List.mem_cons.mp hx with rfl | hx
  ·exact hp _ h
  ·exact k2.2 x hx
theorem zgY {ps:List (Str×Int)}{bs:List Str} {most:Int}{ts ts':List T} (h:zeQ ps bs most ts ts') (hm:1≤most) (k:∀ t∈ts,(t.depth:Int)≤most):∀ t∈ts',(t.depth:Int)≤most:=by
 intro t ht
 cases h with
 | sign w m h=>
  rcases List.mem_append.mp ht with z | z
  ·exact k t z
  ·rw [List.mem_singleton.mp z];simp [T.depth,T.depths];omega
 | blank b h=>
  rcases List.mem_append.mp ht with z | z
  ·exact k t z
  ·rw [List.mem_singleton.mp z];simp [T.depth];omega
 | take j s m h hk hm hd=>
  rcases List.mem_append.mp ht with z | z
  ·exact k t (List.mem_of_mem_take z)
  ·rw [List.mem_singleton.mp z];exact hd
mutual
theorem zeI:∀ t:T,OkT t→(fl t).filter isUp=vs t∧(fl t).filter (fun x=>!isUp x)=sg t
 | .bl x,h=>by
  have e:isUp x=true:=zma (h.1 x (by simp [vs]))
  simp [fl,vs,sg,e]
 | .nd s ts,h=>by
  have e:isUp s=false:=zlD (h.2 s (by simp [sg]))
  have ih:=zft ts ⟨fun x hx=>h.1 x (by rw [vs];exact hx),fun x hx=>h.2 x (by rw [sg];exact List.mem_cons_of_mem _ hx)⟩
  simp [fl,vs,sg,e,ih.1,ih.2]
theorem zft:∀ ts:List T,OkL ts→(flL ts).filter isUp=vsL ts∧(flL ts).filter (fun x=>!isUp x)=sgL ts
 | [],_=>by simp [flL,vsL,sgL]
 | t::r,h=>by
  obtain ⟨h1,h2⟩:=OkL.app.mp (show OkL ([t]++r) from h)
  have i1:=zeI t (OkL.one.mp h1)
  have i2:=zft r h2
  simp [flL,vsL,sgL,i1.1,i1.2,i2.1,i2.2]
end
mutual
theorem zgC:∀ t:T,(fl t).length=t.size
 | .bl x=>by simp [fl,T.size]
 | .nd s ts=>by rw [fl,List.length_cons,zfY ts,T.size];omega
theorem zfY:∀ ts:List T,(flL ts).length=T.sizes ts
 | []=>by simp [flL,T.sizes]
 | t::r=>by rw [flL,List.length_append,zgC t,zfY r,T.sizes]
end
theorem zcY (ts:List T) (i:Nat):T.sizes (ts.take i)≤T.sizes ts:=by
 have:T.sizes ts=T.sizes (ts.take i) + T.sizes (ts.drop i):=by rw [← zax,List.take_append_drop]
 omega
theorem zic:∀ (n:Nat) (t:T),t.depth≤n→t.size≤1000→zaB n [t.d]=some (.lst ((fl t).map D.str))
 | 0,t,h,_=>by have:=zie t;omega
 | n + 1,.bl x,h,_=>by simp! [zaB,d_bl,fl]
 | n + 1,.nd s ts,h,hz=>by
  rw [T.depth] at h
  rw [T.size] at hz
  obtain ⟨ρ',f1,k,rfl⟩:=zdo (g:=gN 2) (b:=zct (zaB n) FUEL) (xs:=ts.map T.d) (ρ:=[some (.dat (.tup (.str s::ts.map T.d))),some (.dat (.lst [.str s])),none])
   (fun i ρ=>∃ k:Option Sl,ρ=[some (.dat (.tup (.str s::ts.map T.d))),some (.dat (.lst ((s::flL (ts.take i)).map D.str))),k]) ⟨none,by simp [flL]⟩ (by
    rintro i x ρ hx ⟨k,rfl⟩
    rw [List.getElem?_map] at hx
    cases e:ts[i]? with
    | none=>rw [e] at hx;cases hx
    | some t=>
     rw [e] at hx
     cases hx
     have hm:=List.mem_of_getElem? e
     have d1:=zfA hm
     have d2:=zcK hm
     have ih:=zic n t (by omega) (by omega)
     have hi:i < ts.length:=(List.getElem?_eq_some_iff.mp e).1
     have eq:ts[i]=t:=by rw [List.getElem?_eq_getElem hi] at e;exact Option.some.inj e
     have tk:ts.take (i + 1)=ts.take i++[t]:=by rw [List.take_succ_eq_append_getElem hi,eq]
     have l1:=zfY (ts.take i)
     have l2:=zcY ts i
     have l3:=zgC t
     have e2:flL [t]=fl t:=by simp [flL]
     refine ⟨[some (.dat (.tup (.str s::ts.map T.d))),some (.dat (.lst ((s::flL (ts.take (i + 1))).map D.str))),some (.dat t.d)],.inl ?_,_,rfl⟩
     have hz2:(flL (ts.take i)).length + 1 + (fl t).length≤1000000:=by omega
     rw [tk,zhX,e2]
     simp! [ih,hz2])
  rw [List.length_map,List.take_length] at f1
  simp! [zaB,d_nd,cut1,f1,fl]
theorem zfZ:∀ l:List Str,eqL (l.map D.str) (l.map D.str)=some true
 | []=>by simp [eqL]
 | x::l=>by simp [eqL,eqD,zfZ l]
theorem zeJ (l:List Str):eqB (.lst (l.map D.str)) (.lst (l.map D.str))=some (.bl true):=by
 have e:=zfZ l
 have d:=zdv l
 have d2:dep (.lst (l.map D.str))≤100:=by rw [dep];omega
 simp [eqB,eqD,e,d2]
theorem ziT (l:List Str):neB (.lst (l.map D.str)) (.lst (l.map D.str))=some (.bl false):=by
 have e:=zfZ l
 have d:=zdv l
 have d2:dep (.lst (l.map D.str))≤100:=by rw [dep];omega
 simp [neB,eqD,e,d2]
theorem zbM {α:Type}{l:List α} {i:Nat}{x:α} (e:l[i]?=some x):l.take (i + 1)=l.take i++[x]:=by
 have hi:i < l.length:=(List.getElem?_eq_some_iff.mp e).1
 have eq:l[i]=x:=by rw [List.getElem?_eq_getElem hi] at e;exact Option.some.inj e
 rw [List.take_succ_eq_append_getElem hi,eq]
theorem zjj (t:T) (ok:OkT t) (hd:t.depth≤100) (hz:t.size≤1000):zcm [t.d]=some (.bl true):=by
 have e1:zaa [t.d]=some (.lst ((fl t).map D.str)):=zic 100 t hd hz
 have e2:=zga t (by omega)
 have hl:=zgC t
 obtain ⟨ρ',f1,k2,rfl⟩:=zdo (g:=gN 2) (b:=zdN zaa zat FUEL) (xs:=(fl t).map D.str) (ρ:=[some (.dat t.d),some (.own (.lst [])),none,none])
  (fun i ρ=>∃ k2:Option Sl,ρ=[some (.dat t.d),some (.own (.lst ((dedA [] (((fl t).take i).filter isUp)).map D.str))),k2,none]) ⟨none,by simp [dedA]⟩ (by
   rintro i x ρ hx ⟨k2,rfl⟩
   rw [List.getElem?_map] at hx
   cases e:(fl t)[i]? with
   | none=>rw [e] at hx;cases hx
   | some y=>
    rw [e] at hx
    cases hx
    have l1:=zeL (((fl t).take i).filter isUp) []
    have l2:(((fl t).take i).filter isUp).length≤1000:=by
     have:=List.length_filter_le isUp ((fl t).take i)
     rw [List.length_take] at this;omega
    simp only [List.length_nil,Nat.zero_add] at l1
    rw [zbM e,List.filter_append]
    generalize hacc:dedA [] (((fl t).take i).filter isUp)=acc at l1
    have da:dedA [] (((fl t).take i).filter isUp++[y].filter isUp)=dedA acc ([y].filter isUp):=by
     rw [← hacc];unfold dedA;rw [List.foldl_append]
    rw [da]
    have i1:=zfW y acc
    have dd:=zdv acc
    have dz:depL (acc.map D.str)≤100:=by omega
    refine ⟨[some (.dat t.d),some (.own (.lst ((dedA acc ([y].filter isUp)).map D.str))),some (.dat (.str y)),none],.inl ?_,_,rfl⟩
    cases hu:isUp y with
    | false=>
     have hu':Txt.contains (Str.ofString "ABCDEFGHIJKLMNOPQRSTUVWXYZ") y=false:=hu
     simp! [inS,hu',hu,dedA]
    | true=>
     have hu':Txt.contains (Str.ofString "ABCDEFGHIJKLMNOPQRSTUVWXYZ") y=true:=hu
     by_cases hy:y∈acc
     ·simp! [inS,hu',hu,dedA,i1,dz,hy]
     ·have z1:acc.length < 1000000:=by omega
      simp! [inS,hu',hu,dedA,i1,dz,hy,z1])
 rw [List.length_map,List.take_length,(zeI t ok).1] at f1
 have e0:dedA [] (vs t)=ded (vs t):=rfl
 rw [e0] at f1
 have eb:=zeJ (ded (vs t))
 simp [zcm,e1,e2,f1,eb,runF,zaJ,seqM,setM,setO,zdp,asgM,asgX,zfx,zcC,retM,retO,retN,ifM,upT,cT,cTr,truD,andP,orP,notP,andV,orV,notV,c1,c2,cL,cS,zae,nilF,cst,gv,gb,gN,gNil,zaM,gTup,zbI,zbo,zbf,yesP,cI,cR1,cR2,cEnT,forS,itS,rng1,rng2,appM,extM,popM,zdj,zbt,zaK,nxM,isiD,tyN,isiB,lim,bors,st0E,negD,revX,revD,zbL,zdJ,idxD,zdh,addD,catD,subD,mulD,divD,modD,powD,cmpI,geD,isB,zdn,isNon,absD,intD,runX,zcH,zfF,retX,putM,zff,keyD,frzM,c3,zfs,zfz,zfy,cSg,zfr,itS,Sl.inn,Sl.own,zdI,inB,zbF,zbP,zbQ,zbm,zbl,zbk,zbj,at0,at1,at2,at3]
noncomputable def sgp:List (List Int×T)→List Str
 | []=>[]
 | (_,.bl _)::r=>sgp r
 | (_,.nd s _)::r=>s::sgp r
theorem zex:∀ a b:List (List Int×T),sgp (a++b)=sgp a++sgp b
 | [],b=>by simp [sgp]
 | (_,.bl x)::r,b=>by rw [List.cons_append,sgp,sgp,zex r b]
 | (_,.nd _ _)::r,b=>by rw [List.cons_append,sgp,sgp,zex r b,List.cons_append]
mutual
theorem zcZ (p:List Int):∀ t:T,sgp (zap p t)=sg t
 | .bl x=>by simp [zap,sgp,sg]
 | .nd s ts=>by rw [zap,sgp,zdy p 0 ts,sg]
theorem zdy (p:List Int):∀ (k:Nat) (ts:List T),sgp (zaz p k ts)=sgL ts
 | _,[]=>by simp [zaz,sgp,sgL]
 | k,t::r=>by rw [zaz,zex,zcZ (p++[(k:Int)]) t,zdy p (k + 1) r,sgL]
end
theorem zew:∀ l:List (List Int×T),(sgp l).length≤l.length
 | []=>by simp [sgp]
 | (_,.bl x)::r=>by have:=zew r;simp [sgp];omega
 | (_,.nd _ _)::r=>by have:=zew r;simp [sgp];exact this
theorem zjt (t:T):(sg t).length≤t.size:=by
 have:=zew (zap [] t)
 rw [zcZ,zaR] at this;exact this
theorem zdz:∀ ts:List T,(sgL ts).length≤T.sizes ts
 | []=>by simp [sgL]
 | t::r=>by have:=zjt t;have:=zdz r;rw [sgL,List.length_append,T.sizes];omega
theorem zdA (l:List Str):(TS.setOf l).length≤l.length:=by
 have:=TS.setOf_len_aux l []
 simpa [TS.setOf] using this
theorem zgN (l:List Str) (x:Str):TS.setOf (l++[x])=TS.addT (TS.setOf l) x:=by unfold TS.setOf;rw [List.foldl_append];rfl
theorem ziz (ts0:D) (t:T) (L:List Str) (hL:L.length + t.size≤1000) (k3 k4:Option Sl) (hz:t.size≤1000) :
  ∃ k3' k4',forM (gTup (zaM (gN 3) (zaM (gN 4) gNil))) (zbC zab zad FUEL) ((zap [] t).map pd) [some (.dat ts0),some (.own (.set ((TS.setOf L).map KD.str))),some (.dat t.d),k3,k4] =
   some (.nx [some (.dat ts0),some (.own (.set ((TS.setOf (L++sg t)).map KD.str))),some (.dat t.d),k3',k4']):=by
 have hl:=zaR [] t
 obtain ⟨ρ',f1,k3',k4',rfl⟩:=zdo (g:=gTup (zaM (gN 3) (zaM (gN 4) gNil))) (b:=zbC zab zad FUEL) (xs:=(zap [] t).map pd) (ρ:=[some (.dat ts0),some (.own (.set ((TS.setOf L).map KD.str))),some (.dat t.d),k3,k4])
  (fun i ρ=>∃ k3 k4:Option Sl,ρ=[some (.dat ts0),some (.own (.set ((TS.setOf (L++sgp ((zap [] t).take i))).map KD.str))),some (.dat t.d),k3,k4]) ⟨k3,k4,by simp [sgp]⟩ (by
   rintro i x ρ hx ⟨k3,k4,rfl⟩
   rw [List.getElem?_map] at hx
   cases e:(zap [] t)[i]? with
   | none=>rw [e] at hx;cases hx
   | some q=>
    rw [e] at hx
    cases hx
    obtain ⟨p,u⟩:=q
    have ib:=zco u
    have l1:=zdA (L++sgp ((zap [] t).take i))
    have l2:=zew ((zap [] t).take i)
    rw [List.length_take] at l2
    rw [List.length_append] at l1
    rw [zbM e,zex,← List.append_assoc]
    generalize hM:L++sgp ((zap [] t).take i)=M at l1
    have hs:(TS.setOf M).length + 1 < scanBound:=by unfold scanBound;omega
    cases u with
    | bl y=>
     simp only [T.isBl] at ib
     refine ⟨[some (.dat ts0),some (.own (.set ((TS.setOf M).map KD.str))),some (.dat t.d),some (.dat (.tup (p.map D.int))),some (.dat (T.bl y).d)],.inl ?_,some (.dat (.tup (p.map D.int))),some (.dat (T.bl y).d),by simp [sgp]⟩
     simp! [pd,ib]
    | nd s us=>
     simp only [T.isBl] at ib
     refine ⟨[some (.dat ts0),some (.own (.set ((TS.addT (TS.setOf M) s).map KD.str))),some (.dat t.d),some (.dat (.tup (p.map D.int))),some (.dat (T.nd s us).d)],.inl ?_,some (.dat (.tup (p.map D.int))),some (.dat (T.nd s us).d),?_⟩
     ·rw [d_nd] at ib ⊢
      simp! [pd,d_nd,ib,addM,zcP,hs]
     ·have e9:sgp [(p,T.nd s us)]=[s]:=by simp [sgp]
      rw [e9,zgN])
 rw [List.length_map,List.take_length,zcZ] at f1
 exact ⟨k3',k4',f1⟩
theorem zdd (ts:List T) (hz:T.sizes ts≤50):zao [.lst (ts.map T.d)]=some (.lst ((zeY (TS.setOf (sgL ts))).map D.str)):=by
 obtain ⟨ρ',f1,k2,k3,k4,rfl⟩:=zdo (g:=gN 2) (b:=zcO zab zad FUEL) (xs:=ts.map T.d) (ρ:=[some (.dat (.lst (ts.map T.d))),some (.own (.set [])),none,none,none])
  (fun i ρ=>∃ k2 k3 k4:Option Sl,ρ=[some (.dat (.lst (ts.map T.d))),some (.own (.set ((TS.setOf (sgL (ts.take i))).map KD.str))),k2,k3,k4]) ⟨none,none,none,by simp [sgL,TS.setOf]⟩ (by
   rintro i x ρ hx ⟨k2,k3,k4,rfl⟩
   rw [List.getElem?_map] at hx
   cases e:ts[i]? with
   | none=>rw [e] at hx;cases hx
   | some t=>
    rw [e] at hx
    cases hx
    have hm:=List.mem_of_getElem? e
    have d2:=zcK hm
    have l1:=zdz (ts.take i)
    have l2:=zcY ts i
    have pp:=zcv t (by omega)
    obtain ⟨k3',k4',f2⟩:=ziz (.lst (ts.map T.d)) t (sgL (ts.take i)) (by omega) k3 k4 (by omega)
    have e2:sgL [t]=sg t:=by simp [sgL]
    rw [zbM e,zey,e2]
    refine ⟨[some (.dat (.lst (ts.map T.d))),some (.own (.set ((TS.setOf (sgL (ts.take i)++sg t)).map KD.str))),some (.dat t.d),k3',k4'],.inl ?_,_,_,_,rfl⟩
    simp! [pp,f2])
 rw [List.length_map,List.take_length] at f1
 have l1:=zdz ts
 have l2:=zdA (sgL ts)
 have l3:(TS.setOf (sgL ts)).length < 64:=by omega
 simp! [zao,f1,zgM,zcP,l3]
theorem zfw (ts:List T) (ok:OkL ts) (hz:T.sizes ts≤50) (hd:∀ t∈ts,t.depth≤100):zbu [.lst (ts.map T.d)]=some (.lst ((zeY (TS.setOf (sgL ts))).map D.str)):=by
 obtain ⟨ρ',f1,k2,rfl⟩:=zdo (g:=gN 2) (b:=zdm zaa FUEL) (xs:=ts.map T.d) (ρ:=[some (.dat (.lst (ts.map T.d))),some (.dat (.lst [])),none])
  (fun i ρ=>∃ k2:Option Sl,ρ=[some (.dat (.lst (ts.map T.d))),some (.dat (.lst ((sgL (ts.take i)).map D.str))),k2]) ⟨none,by simp [sgL]⟩ (by
   rintro i x ρ hx ⟨k2,rfl⟩
   rw [List.getElem?_map] at hx
   cases e:ts[i]? with
   | none=>rw [e] at hx;cases hx
   | some t=>
    rw [e] at hx
    cases hx
    have hm:=List.mem_of_getElem? e
    have d2:=zcK hm
    have l1:=zdz (ts.take i)
    have l2:=zcY ts i
    have l3:=zgC t
    have l4:=zjt t
    have ot:OkT t:=by
     have h1:ts=ts.take i++[t]++ts.drop (i + 1):=by rw [← zbM e,List.take_append_drop]
     rw [h1] at ok
     exact OkL.one.mp (OkL.app.mp (OkL.app.mp ok).1).2
    have e1:zaa [t.d]=some (.lst ((fl t).map D.str)):=zic 100 t (hd t hm) (by omega)
    have w1:zbr (gN 0) (zbZ zaa FUEL) (zca zaa FUEL) [none] ((fl t).map D.str)=some ((sg t).map D.str):=by
     have:=zdW (g:=gN 0) (t:=zbZ zaa FUEL) (f:=zca zaa FUEL) (ρ:=[none]) (xs:=(fl t).map D.str) (p:=fun d=>match d with | .str x=>!isUp x | _=>false) (φ:=id) (by
      intro x hx
      obtain ⟨y,hy,rfl⟩:=List.mem_map.mp hx
      refine ⟨_,rfl,?_,fun _=>?_⟩
      ·simp! [zgt,isUp]
      ·simp [runF,zaJ,seqM,setM,setO,zdp,asgM,asgX,zfx,zcC,retM,retO,retN,ifM,upT,cT,cTr,truD,andP,orP,notP,andV,orV,notV,c1,c2,cL,cS,zae,nilF,cst,gv,gb,gN,gNil,zaM,gTup,zbI,zbo,zbf,yesP,cI,cR1,cR2,cEnT,forS,itS,rng1,rng2,appM,extM,popM,zdj,zbt,zaK,nxM,isiD,tyN,isiB,lim,bors,st0E,negD,revX,revD,zbL,zdJ,lenD,idxD,zaO,zdh,addD,catD,subD,mulD,divD,modD,powD,cmpI,geD,isB,zdn,isNon,absD,intD,runX,zcH,zfF,retX,putM,zff,keyD,frzM,c3,zfs,zfz,zfy,cSg,zfr,itS,Sl.inn,Sl.own,zdI,eqB,neB,inB,zbF,zbP,zbQ,zbm,zbl,zbk,zbj,at0,at1,at2,at3])
     rw [this,List.map_id,List.filter_map]
     rw [← (zeI t ot).2]
     rfl
    have e2:sgL [t]=sg t:=by simp [sgL]
    rw [zbM e,zey,e2]
    refine ⟨[some (.dat (.lst (ts.map T.d))),some (.dat (.lst ((sgL (ts.take i)++sg t).map D.str))),some (.dat t.d)],.inl ?_,_,rfl⟩
    have z1:(sgL (ts.take i)).length + (sg t).length≤1000000:=by omega
    have z2:(fl t).length≤1000000:=by omega
    simp! [e1,w1,z1,z2])
 rw [List.length_map,List.take_length] at f1
 have l1:=zdz ts
 have l2:=zdA (sgL ts)
 have l3:(TS.setOf (sgL ts)).length < 64:=by omega
 have l4:(sgL ts).length + 1 < scanBound:=by unfold scanBound;omega
 have so:=zcX (sgL ts)
 simp! [zbu,f1,setD,so,l4,zgM,zcP,l3]
theorem zif {m:Nat}:∀ ts:List T,(∀ t∈ts,t.depth≤m)→depL (ts.map T.d)≤m + 1
 | [],_=>by simp [depL]
 | t::r,h=>by
  have:=zlS t
  have h1:=h t (by simp)
  have ih:=zif r fun u hu=>h u (List.mem_cons_of_mem _ hu)
  rw [List.map_cons,depL];omega
theorem ziy:zeY (TS.setOf (sgL []))=[]:=by
 have e:TS.setOf (sgL [])=[]:=by simp [sgL,TS.setOf]
 rw [e]
 exact zgl (List.Perm.refl _) rfl
theorem FACT03:∀ ns:List Int,ns.length≤63→m_law03 [.scr ns]=some (.bl true):=by
 intro ns hn
 have c0:=zjC ns 0 (by omega)
 have c1':=zjC ns 1 (by omega)
 obtain ⟨ps,s1,S,plo⟩:=zjh (cellOf ns 0)
 obtain ⟨bs,b1,b2,b3,bup⟩:=zid (cellOf ns 1)
 have cl:(cutG ns (some 2) (some 41)).length≤39:=by
  unfold cutG
  have h41:HT.sIx ns.length ns.length (some 41)≤41:=by rw [show (41:Int)=((41:Nat):Int) from rfl,HT.sIx_nat];omega
  have h2:HT.sIx ns.length 0 (some 2)=min 2 ns.length:=by rw [show (2:Int)=((2:Nat):Int) from rfl,HT.sIx_nat]
  rw [List.length_take,List.length_drop];omega
 generalize hcs:cutG ns (some 2) (some 41)=cs at cl
 have hz:cs.length + 1≤1000000:=by omega
 have hz':1 + cs.length≤1000000:=by omega
 obtain ⟨ρ',f1,ts,k,rfl,zs,ok,dp⟩:=zdo (g:=gN 4) (b:=zej zaj zah zao zak zac zcm zbu FUEL) (xs:=.int 0::cs.map D.int) (ρ:=[some (.dat (.scr ns)),some (.dat (.lst (ps.map sd))),some (.dat (.lst (bs.map D.str))),some (.dat (.lst [])),none,none,none,none])
  (fun i ρ=>∃ (ts:List T) (k:Option Sl),ρ=[some (.dat (.scr ns)),some (.dat (.lst (ps.map sd))),some (.dat (.lst (bs.map D.str))),some (.dat (.lst (ts.map ent))),k,none,none,none]∧T.sizes ts≤i∧OkL ts∧∀ t∈ts,(t.depth:Int)≤15) ⟨[],none,rfl,by simp [T.sizes],by simp [OkL,vsL,sgL],by simp⟩ (by
   rintro i x ρ hx ⟨ts,k,rfl,hs,ok,dp⟩
   have hi:i < cs.length + 1:=by have:=(List.getElem?_eq_some_iff.mp hx).1;simpa using this
   obtain ⟨c,rfl⟩:∃ c,x=D.int c:=by
    have hm:=List.mem_of_getElem? hx
    rcases List.mem_cons.mp hm with rfl | hm
    ·exact ⟨0,rfl⟩
    ·obtain ⟨c,_,rfl⟩:=List.mem_map.mp hm;exact ⟨c,rfl⟩
   have tl:=zcJ ts
   obtain ⟨ts',g1,g2⟩:=zkx ts (c * 1000000007 % 2147483647) 15 ps bs S b2 (by omega) (by omega)
   have g3:=zfX g2
   have ok':=zjc g2 plo bup ok
   have dp':=zgY g2 (by decide) dp
   obtain ⟨r,t,rfl,g4⟩:=zgX g2 (by decide)
   have g5:t.size≤T.sizes (r++[t]):=zcK (by simp)
   have gd:=zjj t (OkL.one.mp (OkL.app.mp ok').2) (by omega) (by omega)
   refine ⟨[some (.dat (.scr ns)),some (.dat (.lst (ps.map sd))),some (.dat (.lst (bs.map D.str))),some (.dat (.lst ((r++[t]).map ent))),some (.dat (.int c)),none,none,none],.inl ?_,r++[t],_,rfl,by omega,ok',dp'⟩
   have al:atI (r.map ent++[.lst [t.d,.int t.depth]]) (-1)=some (.lst [t.d,.int t.depth]):=zjo _ _
   rw [List.map_append,List.map_cons,List.map_nil] at g1 ⊢
   have en:ent t=.lst [t.d,.int t.depth]:=rfl
   simp! [g1,al,en,gd])
 rw [List.length_cons,List.length_map] at zs
 have w1:zbr (gN 0) yesP (zer zaj zah zao zak zac zcm zbu FUEL) [none] (ts.map ent)=some (ts.map T.d):=by
  refine zcV (by simp) fun i x y hx hy=>?_
  rw [List.getElem?_map] at hx hy
  cases e:ts[i]? with
  | none=>rw [e] at hx;cases hx
  | some t=>
   rw [e] at hx hy
   cases hx;cases hy
   exact ⟨_,rfl,rfl,by simp! [ent,atI,ixN]⟩
 have tl:=zcJ ts
 have tl2:ts.length≤1000000:=by omega
 have dpn:∀ t∈ts,t.depth≤100:=fun t ht=>by have:=dp t ht;omega
 have sA:=zdd ts (by omega)
 have sB:=zfw ts ok (by omega) dpn
 obtain ⟨j,hj⟩:∃ j,cutG (ts.map T.d) (some (-1)) none=(ts.drop j).map T.d:=⟨_,by rw [zgD,List.map_drop]⟩
 have okd:OkL (ts.drop j):=by
  have h1:=ok
  rw [← List.take_append_drop j ts] at h1
  exact (OkL.app.mp h1).2
 have zd:T.sizes (ts.drop j)≤50:=by
  have:T.sizes ts=T.sizes (ts.take j) + T.sizes (ts.drop j):=by rw [← zax,List.take_append_drop]
  omega
 have sC:=zdd (ts.drop j) zd
 have sD:=zfw (ts.drop j) okd zd fun t ht=>dpn t (List.mem_of_mem_drop ht)
 have sE:=zdd [] (by simp [T.sizes])
 rw [ziy] at sE
 have nA:=ziT (zeY (TS.setOf (sgL ts)))
 have eC:=zeJ (zeY (TS.setOf (sgL (ts.drop j))))
 have eE:=zeJ []
 have nT:neB (.lst (ts.map T.d)) (.lst (ts.map T.d))=some (.bl false):=by
  have e:=zhZ ts
  have d:=zif (m:=15) ts fun t ht=>by have:=dp t ht;omega
  have d2:dep (.lst (ts.map T.d))≤100:=by rw [dep];omega
  simp [neB,eqD,e,d2]
 generalize hY:(ts.drop j).map T.d=ys at hj sC sD
 generalize hX:ts.map T.d=xs at hj sA sB nT w1
 rw [List.map_nil] at sE eE
 simp [m_law03,c0,c1',s1,b1,hcs,hz,hz',f1,w1,tl2,sA,sB,sC,sD,sE,hj,nA,eC,eE,nT,zaO,lenD,runF,zaJ,seqM,setM,setO,zdp,asgM,asgX,zfx,zcC,retM,retO,retN,ifM,upT,cT,cTr,truD,andP,orP,notP,andV,orV,notV,c1,c2,cL,cS,zae,nilF,cst,gv,gb,gN,gNil,zaM,gTup,zbI,zbo,zbf,yesP,cI,cR1,cR2,cEnT,forS,itS,rng1,rng2,appM,extM,popM,zdj,zbt,zaK,nxM,isiD,tyN,isiB,lim,bors,st0E,negD,revX,revD,zbL,zdJ,idxD,zdh,addD,catD,subD,mulD,divD,modD,powD,cmpI,geD,isB,zdn,isNon,absD,intD,runX,zcH,zfF,retX,putM,zff,keyD,frzM,c3,zfs,zfz,zfy,cSg,zfr,itS,Sl.inn,Sl.own,zdI,inB,zbF,zbP,zbQ,zbm,zbl,zbk,zbj,at0,at1,at2,at3]
noncomputable abbrev pwk:Program:=PySem.Challenge.pw_endmeet_k03_blanks_and_signs
noncomputable abbrev rwk:PySem.W.OpenLaw:=PySem.Challenge.rw_endmeet_k03_blanks_and_signs
noncomputable def fnI:List Nat:=[1,2,3,4,5,7,8,9,10,11,12,13,14,15]
noncomputable def qwk:Program:={ pwk with main:={ pwk.main with body:=[topS pwk 15] } }
noncomputable def lzk:List Str:=pwk.main.body.dropLast.filterMap fun st=>match st with
 | .FunctionDef n ..=>some n
 | .ClassDef n ..=>some n
 | .Assign [.Name n _] _ _=>if n == "__name__" then none else some n
 | _=>none
section
variable {P:Program}{w:World} {K:PySem.W.Frag}{mg:Str→Option Value} {base:Heap}
theorem zaN:(["_law_k", "_law_letters", "_law_number"]:List Str).Nodup:=by decide +kernel
theorem zcz:(["_law_k", "_law_base"]:List Str).Nodup:=by decide +kernel
theorem zaw:(["_law_k", "_law_base", "_law_letters", "_law_at", "_law_number"]:List Str).Nodup:=by decide +kernel
theorem zav:zaD ["_law_cell_here", "_law_letters", "_law_number", "_law_base", "_law_k", "_law_at"] ["_law_cell_here"] (zaq (topS pwk 8)):=⟨rfl,rfl,rfl,by decide +kernel,rfl,by decide +kernel,by decide +kernel⟩
set_option maxHeartbeats 4000000 in
theorem zeA {k:Nat}{f:Addr} {fd:FuncData}(B:Glb mg) (Fn:Fun K "_law_words" "_law_words" (topS pwk 8) f fd):FnOk P w K mg base CX0 (k + 1) f fd ["_law_cell_here"] (SpD K .ow (runF (zbz  FUEL) 1 6)):=
 zcR Fn zav (mb:=zbz ) (fun n cdv A outer s H E hr=>(sseq (sset 1 zav.nd fstr) (sseq (sset 2 zav.nd (fop zbO (FP.br (fop zhD (fb 0) (FP.br fint))) (FP.br (fop zmu (FP.br fint) (FP.br fint))))) (sseq (sset 3 zav.nd fstr) (sseq (sfor PassesOwn.never rfl (zdc (fop zbO (fb 2) (FP.br fint)) rfl B.range) (zaV 4 zav.nd) (sseq (sset 3 zav.nd (fop zcq (fb 3) (FP.br (fix p_ix (fb 1) (FP.br (fop zbO (FP.br (fop zdF (fb 2) (FP.br fint))) (FP.br fint))) (fun _ _=>rfl))))) (sone (sset 2 zav.nd (fop zdF (fb 2) (FP.br fint)))))) (sseq (sset 5 zav.nd (fop zbO (FP.br (fop zdF (fb 2) (FP.br fint))) (FP.br (fop zcq (FP.br (zcS (zge) rfl B.len PySem.boot_len (zdr (fb 3) fnil))) (FP.br fint))))) (sseq (sif (FTp.up (tcmp (p_eq (u100 hr)) (FP.br (fop zbO (fb 2) (FP.br fint))) (FP.br fint) (zbs _))) (sseq (sset 3 zav.nd (zmG fstr (FP.ob (zfu ["_law_k", "_law_letters", "_law_number"] [none,some 1,some 2] (.own (.cap (.cap .nil))) rfl (zdc fint rfl B.range) (fun _ _ _ _=>(zaV 0 zaN)) (fun _ _ _ _=>pif0) (fun _ _ _ _=>(fix p_ix (fb 1) (FP.br (fop zbO (FP.br (fop zdF (fb 2) (FP.br (fop zcq (FP.br fint) (FP.br (fop zhD (fb 0) (fb 0))))))) (FP.br fint))) (fun _ _=>rfl))))))) (sone (zet (zfu ["_law_k", "_law_base"] [none,some 3] (.own (.cap .nil)) rfl (zdc fint rfl B.range) (fun _ _ _ _=>(zaV 0 zcz)) (fun _ _ _ _=>pif0) (fun _ _ _ _=>(zcu zbn (fb 1) zcN (zbR (fop zcq (fb 0) (FP.br fint))))))))) snil) (sone (zet (zfu ["_law_k", "_law_base", "_law_letters", "_law_at", "_law_number"] [none,some 3,some 1,some 5,some 2] (.own (.cap (.cap (.cap (.cap .nil))))) rfl (zdc fint rfl B.range) (fun _ _ _ _=>(zaV 0 zaw)) (fun _ _ _ _=>pif0) (fun _ _ _ _=>(fop zcq (FP.br (fop zcq (FP.br (zcu zbn (fb 1) zcN (zbR (fv 3)))) (FP.br (fix p_ix (fb 2) (FP.br (fop zbO (FP.br (fop zcq (FP.br (fop zdF (fb 4) (FP.br fint))) (FP.br (fop zhD (FP.br fint) (fb 0))))) (FP.br fint))) (fun _ _=>rfl))))) (FP.br (zcu zbn (fb 1) (zbR (fv 3)) zcN)))))))))))))) zaP
theorem zaG:(["_law_k", "_law_words_here", "_law_counts"]:List Str).Nodup:=by decide +kernel
theorem zaY:zaD ["_law_cell_here", "_law_words_here", "_law_counts", "_law_many"] ["_law_cell_here"] (zaq (topS pwk 9)):=⟨rfl,rfl,rfl,by decide +kernel,rfl,by decide +kernel,by decide +kernel⟩
set_option maxHeartbeats 4000000 in
theorem zeB {zan:List D→Option D}{k:Nat} {f:Addr}{fd:FuncData} (B:Glb mg) (Fn:Fun K "_law_sorts" "_law_sorts" (topS pwk 9) f fd) (G__law_words:Fk P w K mg base "_law_words" ["_law_cell_here"] .ow k zan):FnOk P w K mg base CX0 (k + 1) f fd ["_law_cell_here"] (SpD K .ow (runF (zbA zan FUEL) 1 4)):=
 zcR Fn zaY (mb:=zbA zan) (fun n cdv A outer s H E hr=>(sseq (sset 1 zaY.nd (FP.fz (fk G__law_words hr (zai (fv 0) fnil)))) (sseq (sset 2 zaY.nd (fix p_ix (FP.ob (flst (zai (FP.fz (flst (zai fint (zai fint (zai fint (zai fint (zai fint fnil))))))) (zai (FP.fz (flst (zai fint (zai fint (zai fint (zai fint (zai fint fnil))))))) (zai (FP.fz (flst (zai fint (zai fint (zai fint (zai fint (zai fint fnil))))))) (zai (FP.fz (flst (zai fint (zai fint (zai fint (zai fint (zai fint fnil))))))) fnil)))))) (FP.br (fop zbO (FP.br (fop zdF (fb 0) (FP.br fint))) (FP.br fint))) (fun _ _=>rfl))) (sseq (sset 3 zaY.nd (fop zcq (FP.br fint) (FP.br (fop zbO (FP.br (fop zdF (fb 0) (FP.br fint))) (FP.br fint))))) (sone (zet (zfu ["_law_k", "_law_words_here", "_law_counts"] [none,some 1,some 2] (.own (.cap (.cap .nil))) rfl (zdc (fv 3) rfl B.range) (fun _ _ _ _=>(zaV 0 zaG)) (fun _ _ _ _=>pif0) (fun _ _ _ _=>(ftup (zai (fix p_ix (fb 1) (fb 0) (fun _ _=>rfl)) (zai (fix p_ix (fb 2) (fb 0) (fun _ _=>rfl)) fnil))))))))))) zaP
theorem zaH:(["_law_k", "_law_letters", "_law_cell_here"]:List Str).Nodup:=by decide +kernel
theorem zcr:zaD ["_law_cell_here", "_law_letters"] ["_law_cell_here"] (zaq (topS pwk 10)):=⟨rfl,rfl,rfl,by decide +kernel,rfl,by decide +kernel,by decide +kernel⟩
set_option maxHeartbeats 4000000 in
theorem zec {k:Nat}{f:Addr} {fd:FuncData}(B:Glb mg) (Fn:Fun K "_law_blanks" "_law_blanks" (topS pwk 10) f fd):FnOk P w K mg base CX0 (k + 1) f fd ["_law_cell_here"] (SpD K .ow (runF (zbq  FUEL) 1 2)):=
 zcR Fn zcr (mb:=zbq ) (fun n cdv A outer s H E hr=>(sseq (sset 1 zcr.nd fstr) (sone (zet (zfu ["_law_k", "_law_letters", "_law_cell_here"] [none,some 1,some 0] (.own (.cap (.cap .nil))) rfl (zdc (fop zcq (FP.br fint) (FP.br (fop zbO (FP.br (fop zdF (fb 0) (FP.br fint))) (FP.br fint)))) rfl B.range) (fun _ _ _ _=>(zaV 0 zaH)) (fun _ _ _ _=>pif0) (fun _ _ _ _=>(fix p_ix (fb 1) (FP.br (fop zbO (FP.br (fop zcq (FP.br (fop zbO (fb 2) (FP.br fint))) (FP.br (fop zhD (FP.br fint) (fb 0))))) (FP.br fint))) (fun _ _=>rfl)))))))) zaP
theorem zfP:zaD ["term"] ["term"] (zaq (topS pwk 1)):=⟨rfl,rfl,rfl,by decide +kernel,rfl,by decide +kernel,by decide +kernel⟩
set_option maxHeartbeats 4000000 in
theorem zfS {k:Nat}{f:Addr} {fd:FuncData}(B:Glb mg) (Fn:Fun K "is_blank" "is_blank" (topS pwk 1) f fd):FnOk P w K mg base CX0 (k + 1) f fd ["term"] (SpD K .fz (runF (zcB  FUEL) 1 1)):=
 zcR Fn zfP (mb:=zcB ) (fun n cdv A outer s H E hr=>(sone (sret (fisi (fb 0) rfl B.isi rfl B.str PyProof.Rows.boot_str)))) zaP
theorem zea:zaD ["term"] ["term"] (zaq (topS pwk 2)):=⟨rfl,rfl,rfl,by decide +kernel,rfl,by decide +kernel,by decide +kernel⟩
set_option maxHeartbeats 4000000 in
theorem zeb {zad:List D→Option D}{k:Nat} {f:Addr}{fd:FuncData} (B:Glb mg) (Fn:Fun K "inner_parts" "inner_parts" (topS pwk 2) f fd) (G_is_blank:Fk P w K mg base "is_blank" ["term"] .fz k zad):FnOk P w K mg base CX0 (k + 1) f fd ["term"] (SpD K .fz (runF (zbp zad FUEL) 1 1)):=
 zcR Fn zea (mb:=zbp zad) (fun n cdv A outer s H E hr=>(sseq (sif (FTp.up (tval (fk G_is_blank hr (zai (fv 0) fnil)))) (sone (sret (ftup fnil))) snil) (sone (sret (zcu zbn (fb 0) (zbR fint) zcN))))) zaP
theorem zbG:(["at", "held", "place"]:List Str).Nodup:=by decide +kernel
theorem zay:zaD ["term", "found", "waiting", "place", "part", "inner"] ["term"] (zaq (topS pwk 3)):=⟨rfl,rfl,rfl,by decide +kernel,rfl,by decide +kernel,by decide +kernel⟩
set_option maxHeartbeats 4000000 in
theorem zdG {zag:List D→Option D}{k:Nat} {f:Addr}{fd:FuncData} (B:Glb mg) (Fn:Fun K "placed_parts" "placed_parts" (topS pwk 3) f fd) (G_inner_parts:Fk P w K mg base "inner_parts" ["term"] .fz k zag):FnOk P w K mg base CX0 (k + 1) f fd ["term"] (SpD K .ow (runF (zbe zag FUEL) 1 6)):=
 zcR Fn zay (mb:=zbe zag) (fun n cdv A outer s H E hr=>(sseq (zhn 1 zay.nd (flst fnil)) (sseq (zhn 2 zay.nd (flst (zai (ftup (zai (ftup fnil) (zai (fv 0) fnil))) fnil))) (sseq (zkM n PassesOwn.never (FTp.up (ttru (fb 2))) (sseq (zmj (xpop 2) (gtup rfl (zed (zaV 3 zay.nd) (zed (zaV 4 zay.nd) gnil)) (zaT (zaT zdK)))) (sseq (zfb (zfM 1 (ftup (zai (fv 3) (zai (fv 4) fnil))))) (sseq (zkN 5 ["at", "held", "place"] [none,none,some 3] (.own (.own (.cap .nil))) rfl zay.nd (zlN (fk G_inner_parts hr (zai (fv 4) fnil)) rfl B.enum) (fun _ _ _ _=>(gtup rfl (zed (zaV 0 zbG) (zed (zaV 1 zbG) gnil)) (zaT (zaT zdK)))) (fun _ _ _ _=>pif0) (fun _ _ _ _=>(ftup (zai (fop zcq (fb 2) (FP.br (ftup (zai (fv 0) fnil)))) (zai (fv 1) fnil))))) (sone (zfb (zjF 2 (FP.fz (frev (fb 5) (fneg fint)))))))))) (sone (zmh 1)))))) zaP
theorem zbc:zaD ["terms", "found", "term", "place", "part"] ["terms"] (zaq (topS pwk 5)):=⟨rfl,rfl,rfl,by decide +kernel,rfl,by decide +kernel,by decide +kernel⟩
set_option maxHeartbeats 4000000 in
theorem zfR {zab:List D→Option D}{zad:List D→Option D} {k:Nat}{f:Addr} {fd:FuncData}(B:Glb mg) (Fn:Fun K "signs_of" "signs_of" (topS pwk 5) f fd) (G_placed_parts:Fk P w K mg base "placed_parts" ["term"] .ow k zab) (G_is_blank:Fk P w K mg base "is_blank" ["term"] .fz k zad):FnOk P w K mg base CX0 (k + 1) f fd ["terms"] (SpD K .ow (runF (zcA zab zad FUEL) 1 5)):=
 zcR Fn zbc (mb:=zcA zab zad) (fun n cdv A outer s H E hr=>(sseq (zhn 1 zbc.nd (zmD rfl B.set)) (sseq (sfor PassesOwn.never rfl (iseq (fv 0)) (zaV 2 zbc.nd) (sone (sfor PassesOwn.never rfl (iseq (FP.fz (fk G_placed_parts hr (zai (fv 2) fnil)))) (gtup rfl (zed (zaV 3 zbc.nd) (zed (zaV 4 zbc.nd) gnil)) (zaT (zaT zdK))) (sone (sif (FTp.up (tnot (tval (fk G_is_blank hr (zai (fv 4) fnil))))) (sone (zfb (xadd 1 (fix p_ix (fb 4) (FP.br fint) (fun _ _=>rfl))))) snil))))) (sone (zet (zcS (zgG rfl) rfl B.sorted PyProof.Rows.boot_sorted (zdr (fb 1) fnil))))))) zaP
theorem zfc:zaD ["_law_script", "_law_k"] ["_law_script", "_law_k"] (zaq (topS pwk 7)):=⟨rfl,rfl,rfl,by decide +kernel,rfl,by decide +kernel,by decide +kernel⟩
set_option maxHeartbeats 4000000 in
theorem zfn {k:Nat}{f:Addr} {fd:FuncData}(B:Glb mg) (Fn:Fun K "_law_cell" "_law_cell" (topS pwk 7) f fd):FnOk P w K mg base CX0 (k + 1) f fd ["_law_script", "_law_k"] (SpD K .fz (runF (zbU  FUEL) 2 2)):=
 zcR Fn zfc (mb:=zbU ) (fun n cdv A outer s H E hr=>(sseq (sif (FTp.up (tcmp (p_lt) (fb 1) (FP.br (zcS (zge) rfl B.len PySem.boot_len (zdr (fb 0) fnil))) (zbs _))) (sone (sret (fix p_ix (fb 0) (fb 1) (fun _ _=>rfl)))) snil) (sone (sret fint)))) zaP
theorem zcy:(["_law_one"]:List Str).Nodup:=by decide +kernel
theorem zaE:zaD ["_law_row", "_law_number", "_law_sorts_here", "_law_blanks_here", "_law_most", "_law_word", "_law_many", "_law_last", "_law_nest"] ["_law_row", "_law_number", "_law_sorts_here", "_law_blanks_here", "_law_most"] (zaq (topS pwk 11)):=⟨rfl,rfl,rfl,by decide +kernel,rfl,by decide +kernel,by decide +kernel⟩
set_option maxHeartbeats 4000000 in
theorem zeD {k:Nat}{f:Addr} {fd:FuncData}(B:Glb mg) (Fn:Fun K "_law_grown" "_law_grown" (topS pwk 11) f fd):FnOk P w K mg base CX0 (k + 1) f fd ["_law_row", "_law_number", "_law_sorts_here", "_law_blanks_here", "_law_most"] (SpD K .ow (runF (zbB  FUEL) 5 9)):=
 zcR Fn zaE (mb:=zbB ) (fun n cdv A outer s H E hr=>(sseq (sasg (fix p_ix (fb 2) (FP.br (fop zbO (fb 1) (FP.br (zcS (zge) rfl B.len PySem.boot_len (zdr (fb 2) fnil))))) (fun _ _=>rfl)) (gtup rfl (zed (zaV 5 zaE.nd) (zed (zaV 6 zaE.nd) gnil)) (zaT (zaT zdK)))) (sseq (sset 1 zaE.nd (fop zdF (fb 1) (FP.br fint))) (sseq (sset 7 zaE.nd (zcu zbn (fb 0) (zbR (fop zlm (FP.br (zcS (zge) rfl B.len PySem.boot_len (zdr (fb 0) fnil))) (fb 6))) zcN)) (sseq (sset 8 zaE.nd (zmF rfl rfl B.max (FP.ob (zfu ["_law_one"] [none] (.own .nil) rfl (iseq (fv 7)) (fun _ _ _ _=>(zaV 0 zcy)) (fun _ _ _ _=>pif0) (fun _ _ _ _=>(fix p_ix (fb 0) (FP.br fint) (fun _ _=>rfl))))) fint)) (sseq (sif (FTp.up (FWp.pt (tand (tcmp (p_gt) (fb 6) (FP.br fint) (zbs _)) (tand (tcmp (p_le) (fb 6) (FP.br (zcS (zge) rfl B.len PySem.boot_len (zdr (fb 0) fnil))) (zbs _)) (tand (tcmp (p_lt) (fb 8) (fb 4) (zbs _)) (zjH (tcmp (p_gt) (FP.br (fop zbO (fb 1) (FP.br fint))) (FP.br fint) (zbs _)))))))) (sone (zet (fop zke (FP.br (zcu zbn (fb 0) zcN (zbR (fop zlm (FP.br (zcS (zge) rfl B.len PySem.boot_len (zdr (fb 0) fnil))) (fb 6))))) (FP.ob (flst (zai (FP.fz (flst (zai (fop zcq (FP.br (ftup (zai (fv 5) fnil))) (FP.br (zhY zkA rfl B.tuple PyProof.Rows.boot_tuple (zdr (FP.ob (zfu ["_law_one"] [none] (.own .nil) rfl (iseq (fv 7)) (fun _ _ _ _=>(zaV 0 zcy)) (fun _ _ _ _=>pif0) (fun _ _ _ _=>(fix p_ix (fb 0) (FP.br fint) (fun _ _=>rfl))))) fnil)))) (zai (fop zcq (fb 8) (FP.br fint)) fnil)))) fnil)))))) snil) (sseq (sif (FTp.up (FWp.pt (tor (tcmp (p_eq (u100 hr)) (fb 3) (FP.ob (flst fnil)) (zbs _)) (tor1 (tcmp (p_eq (u100 hr)) (FP.br (fop zbO (FP.br (fop zdF (fb 1) (FP.br fint))) (FP.br fint))) (FP.br fint) (zbs _)))))) (sone (zet (fop zke (fb 0) (FP.ob (flst (zai (FP.fz (flst (zai (ftup (zai (fix p_ix (FP.br (fix p_ix (fb 2) (FP.br fint) (fun _ _=>rfl))) (FP.br fint) (fun _ _=>rfl)) fnil)) (zai fint fnil)))) fnil)))))) snil) (sone (zet (fop zke (fb 0) (FP.ob (flst (zai (FP.fz (flst (zai (fix p_ix (fb 3) (FP.br (fop zbO (FP.br (fop zdF (fb 1) (FP.br fint))) (FP.br (zcS (zge) rfl B.len PySem.boot_len (zdr (fb 3) fnil))))) (fun _ _=>rfl)) (zai fint fnil)))) fnil))))))))))))) zaP
theorem zbi:zaD ["_law_term", "_law_found", "_law_part"] ["_law_term"] (zaq (topS pwk 12)):=⟨rfl,rfl,rfl,by decide +kernel,rfl,by decide +kernel,by decide +kernel⟩
set_option maxHeartbeats 4000000 in
theorem zfm {zaa:List D→Option D}{k:Nat} {f:Addr}{fd:FuncData} (B:Glb mg) (Fn:Fun K "_law_flat" "_law_flat" (topS pwk 12) f fd) (G__law_flat:Fk P w K mg base "_law_flat" ["_law_term"] .fz k zaa):FnOk P w K mg base CX0 (k + 1) f fd ["_law_term"] (SpD K .fz (runF (zbT zaa FUEL) 1 3)):=
 zcR Fn zbi (mb:=zbT zaa) (fun n cdv A outer s H E hr=>(sseq (sif (FTp.up (tval (fisi (fb 0) rfl B.isi rfl B.str PyProof.Rows.boot_str))) (sone (sret (FP.fz (flst (zai (fv 0) fnil))))) snil) (sseq (sset 1 zbi.nd (FP.fz (flst (zai (fix p_ix (fb 0) (FP.br fint) (fun _ _=>rfl)) fnil)))) (sseq (sfor PassesOwn.never rfl (iseq (zcu zbn (fb 0) (zbR fint) zcN)) (zaV 2 zbi.nd) (sone (sset 1 zbi.nd (fop zcq (fb 1) (FP.br (fk G__law_flat hr (zai (fv 2) fnil))))))) (sone (sret (fv 1))))))) zaP
theorem zbg:zaD ["term", "found", "place", "part"] ["term"] (zaq (topS pwk 4)):=⟨rfl,rfl,rfl,by decide +kernel,rfl,by decide +kernel,by decide +kernel⟩
set_option maxHeartbeats 4000000 in
theorem zfk {zab:List D→Option D}{zad:List D→Option D} {k:Nat}{f:Addr} {fd:FuncData}(B:Glb mg) (Fn:Fun K "blanks_of" "blanks_of" (topS pwk 4) f fd) (G_placed_parts:Fk P w K mg base "placed_parts" ["term"] .ow k zab) (G_is_blank:Fk P w K mg base "is_blank" ["term"] .fz k zad):FnOk P w K mg base CX0 (k + 1) f fd ["term"] (SpD K .fz (runF (zbS zab zad FUEL) 1 4)):=
 zcR Fn zbg (mb:=zbS zab zad) (fun n cdv A outer s H E hr=>(sseq (zhn 1 zbg.nd (flst fnil)) (sseq (sfor PassesOwn.never rfl (iseq (FP.fz (fk G_placed_parts hr (zai (fv 0) fnil)))) (gtup rfl (zed (zaV 2 zbg.nd) (zed (zaV 3 zbg.nd) gnil)) (zaT (zaT zdK))) (sone (sif (FTp.up (FWp.pt (tand (tval (fk G_is_blank hr (zai (fv 3) fnil))) (zjH (ziw (zhC (u101 hr)) (fv 3) (fb 1) (by with_unfolding_all rfl)))))) (sone (zfb (zfM 1 (fv 3)))) snil))) (sone (zmi 1))))) zaP
theorem zbh:zaD ["_law_term", "_law_due", "_law_word", "_law_found"] ["_law_term"] (zaq (topS pwk 13)):=⟨rfl,rfl,rfl,by decide +kernel,rfl,by decide +kernel,by decide +kernel⟩
set_option maxHeartbeats 4000000 in
theorem zfl {zaa:List D→Option D}{zat:List D→Option D} {k:Nat}{f:Addr} {fd:FuncData}(B:Glb mg) (Fn:Fun K "_law_good" "_law_good" (topS pwk 13) f fd) (G__law_flat:Fk P w K mg base "_law_flat" ["_law_term"] .fz k zaa) (G_blanks_of:Fk P w K mg base "blanks_of" ["term"] .fz k zat):FnOk P w K mg base CX0 (k + 1) f fd ["_law_term"] (SpD K .fz (runF (zdH zaa zat FUEL) 1 4)):=
 zcR Fn zbh (mb:=zdH zaa zat) (fun n cdv A outer s H E hr=>(sseq (zhn 1 zbh.nd (flst fnil)) (sseq (sfor PassesOwn.never rfl (iseq (fk G__law_flat hr (zai (fv 0) fnil))) (zaV 2 zbh.nd) (sone (sif (FTp.up (FWp.pt (tand (ziw (zmv) (fv 2) (FP.br fstr) (by with_unfolding_all rfl)) (zjH (ziw (zhC (u101 hr)) (fv 2) (fb 1) (by with_unfolding_all rfl)))))) (sone (zfb (zfM 1 (fv 2)))) snil))) (sseq (sset 3 zbh.nd (fk G_blanks_of hr (zai (fv 0) fnil))) (sone (sret (vand (fisi (fb 3) rfl B.isi rfl B.list PyProof.Rows.boot_list) (vone (fcmp (p_eq (u100 hr)) (fb 3) (fb 1) (zbs _)))))))))) zaP
theorem zfo:(["_law_word"]:List Str).Nodup:=by decide +kernel
theorem zaZ:zaD ["_law_terms", "_law_found", "_law_term"] ["_law_terms"] (zaq (topS pwk 14)):=⟨rfl,rfl,rfl,by decide +kernel,rfl,by decide +kernel,by decide +kernel⟩
set_option maxHeartbeats 4000000 in
theorem zeC {zaa:List D→Option D}{k:Nat} {f:Addr}{fd:FuncData} (B:Glb mg) (Fn:Fun K "_law_signs" "_law_signs" (topS pwk 14) f fd) (G__law_flat:Fk P w K mg base "_law_flat" ["_law_term"] .fz k zaa):FnOk P w K mg base CX0 (k + 1) f fd ["_law_terms"] (SpD K .ow (runF (zdb zaa FUEL) 1 3)):=
 zcR Fn zaZ (mb:=zdb zaa) (fun n cdv A outer s H E hr=>(sseq (sset 1 zaZ.nd (FP.fz (flst fnil))) (sseq (sfor PassesOwn.never rfl (iseq (fv 0)) (zaV 2 zaZ.nd) (sone (sset 1 zaZ.nd (fop zcq (fb 1) (FP.ob (zfu ["_law_word"] [none] (.own .nil) rfl (iseq (fk G__law_flat hr (zai (fv 2) fnil))) (fun _ _ _ _=>(zaV 0 zfo)) (fun _ _ _ _=>pif1 (ziw (ziK) (fv 0) (FP.br fstr) (by with_unfolding_all rfl))) (fun _ _ _ _=>(fv 0)))))))) (sone (zet (zcS (zgG rfl) rfl B.sorted PyProof.Rows.boot_sorted (zdr (FP.ob (zhY (zmJ rfl) rfl B.set zjm (zdr (fb 1) fnil))) fnil))))))) zaP
theorem zcL:zaD ["_law_script", "_law_sorts_here", "_law_blanks_here", "_law_row", "_law_cell_here", "_law_terms", "_law_kept", "_law_found"] ["_law_script"] (zaq (topS pwk 15)):=⟨rfl,rfl,rfl,by decide +kernel,rfl,by decide +kernel,by decide +kernel⟩
set_option maxHeartbeats 4000000 in
theorem zlv {zaj:List D→Option D}{zah:List D→Option D} {zao:List D→Option D}{zak:List D→Option D} {zac:List D→Option D}{m__law_good:List D→Option D} {m__law_signs:List D→Option D}{k:Nat} {f:Addr}{fd:FuncData} (B:Glb mg) (Fn:Fun K "law" "law" (topS pwk 15) f fd) (G__law_sorts:Fk P w K mg base "_law_sorts" ["_law_cell_here"] .ow k zaj) (G__law_blanks:Fk P w K mg base "_law_blanks" ["_law_cell_here"] .ow k zah) (G_signs_of:Fk P w K mg base "signs_of" ["terms"] .ow k zao) (G__law_cell:Fk P w K mg base "_law_cell" ["_law_script", "_law_k"] .fz k zak) (G__law_grown:Fk P w K mg base "_law_grown" ["_law_row", "_law_number", "_law_sorts_here", "_law_blanks_here", "_law_most"] .ow k zac) (G__law_good:Fk P w K mg base "_law_good" ["_law_term"] .fz k m__law_good) (G__law_signs:Fk P w K mg base "_law_signs" ["_law_terms"] .ow k m__law_signs):FnOk P w K mg base CX0 (k + 1) f fd ["_law_script"] (SpD K .fz (runF (zeE zaj zah zao zak zac m__law_good m__law_signs FUEL) 1 8)):=
 zcR Fn zcL (mb:=zeE zaj zah zao zak zac m__law_good m__law_signs) (fun n cdv A outer s H E hr=>(sseq (sset 1 zcL.nd (FP.fz (fk G__law_sorts hr (zai (fk G__law_cell hr (zai (fv 0) (zai fint fnil))) fnil)))) (sseq (sset 2 zcL.nd (FP.fz (fk G__law_blanks hr (zai (fk G__law_cell hr (zai (fv 0) (zai fint fnil))) fnil)))) (sseq (sset 3 zcL.nd (FP.fz (flst fnil))) (sseq (sfor PassesOwn.never rfl (iseq (fop zcq (FP.ob (flst (zai fint fnil))) (FP.br (zcu zbn (fb 0) (zbR fint) (zbR fint))))) (zaV 4 zcL.nd) (sseq (sset 3 zcL.nd (FP.fz (fk G__law_grown hr (zai (fv 3) (zai (fop zbO (FP.br (fop zhD (fb 4) (FP.br fint))) (FP.br fint)) (zai (fv 1) (zai (fv 2) (zai fint fnil)))))))) (sone (sif (FTp.up (tnot (tval (fk G__law_good hr (zai (fix p_ix (FP.br (fix p_ix (fb 3) (FP.br (fneg fint)) (fun _ _=>rfl))) (FP.br fint) (fun _ _=>rfl)) fnil))))) (sone (sret fbl)) snil)))) (sseq (zkN 5 ["_law_one"] [none] (.own .nil) rfl zcL.nd (iseq (fv 3)) (fun _ _ _ _=>(zaV 0 zcy)) (fun _ _ _ _=>pif0) (fun _ _ _ _=>(fix p_ix (fb 0) (FP.br fint) (fun _ _=>rfl)))) (sseq (sset 6 zcL.nd (FP.fz (zhY zlU rfl B.list PyProof.Rows.boot_list (zdr (fb 5) fnil)))) (sseq (sset 7 zcL.nd (FP.fz (fk G_signs_of hr (zai (fv 5) fnil)))) (sseq (sif (FTp.up (FWp.pt (tor (tnot (tval (fisi (fb 7) rfl B.isi rfl B.list PyProof.Rows.boot_list))) (tor (tcmp (p_ne (u100 hr)) (fb 7) (FP.ob (fk G__law_signs hr (zai (fv 5) fnil))) (zbs _)) (tor1 (tcmp (p_ne (u100 hr)) (fb 5) (fb 6) (zbs _))))))) (sone (sret fbl)) snil) (sone (sret (vand (fcmp (p_eq (u100 hr)) (FP.ob (fk G_signs_of hr (zai (zcu zbn (fb 5) (zbR (fneg fint)) zcN) fnil))) (FP.ob (fk G__law_signs hr (zai (zcu zbn (fb 5) (zbR (fneg fint)) zcN) fnil))) (zbs _)) (vone (fcmp (p_eq (u100 hr)) (FP.ob (fk G_signs_of hr (zai (FP.fz (flst fnil)) fnil))) (FP.ob (flst fnil)) (zbs _))))))))))))))) zaP
end
theorem us1 {us:List Value}(h:us.length=1):∃ a,us=[a]:=List.length_eq_one_iff.mp h
theorem us2 {us:List Value}(h:us.length=2):∃ a0 a1,us=[a0,a1]:=by
 cases us with
 | nil=>cases h
 | cons a0 l=>obtain ⟨a1,rfl⟩:=us1 (Nat.succ.inj h);exact ⟨a0,a1,rfl⟩
theorem us3 {us:List Value}(h:us.length=3):∃ a0 a1 a2,us=[a0,a1,a2]:=by
 cases us with
 | nil=>cases h
 | cons a0 l=>obtain ⟨a1,a2,rfl⟩:=us2 (Nat.succ.inj h);exact ⟨a0,a1,a2,rfl⟩
theorem us4 {us:List Value}(h:us.length=4):∃ a0 a1 a2 a3,us=[a0,a1,a2,a3]:=by
 cases us with
 | nil=>cases h
 | cons a0 l=>obtain ⟨a1,a2,a3,rfl⟩:=us3 (Nat.succ.inj h);exact ⟨a0,a1,a2,a3,rfl⟩
theorem us5 {us:List Value}(h:us.length=5):∃ a0 a1 a2 a3 a4,us=[a0,a1,a2,a3,a4]:=by
 cases us with
 | nil=>cases h
 | cons a0 l=>obtain ⟨a1,a2,a3,a4,rfl⟩:=us4 (Nat.succ.inj h);exact ⟨a0,a1,a2,a3,a4,rfl⟩
set_option maxHeartbeats 0 in
theorem all_mk {l:PySem.W.OpenLaw}{w:World} {K:PySem.W.Frag}{h:Heap} {mg:Str→Option Value}{fa:Addr} (X:K.In h) (G:h.Ns mainGlobals mg) (hfa:mg "law" = some (.ref fa)) (A:faV pwk fnI K=faX pwk fnI)
  : ∃ fd:FuncData,(∀ (s:Shared) (v:Value),BindsTo s fd ⟨[v],[]⟩ [("_law_script",v)])∧∀ base:Heap,K.In base→base.Ns mainGlobals mg→FnOk l.prog w K mg base CX0 102 fa fd ["_law_script"] (SpD K .fz m_law03):=by
 have B:Glb mg:=zlP A X G
 obtain ⟨f14,fd14,a14,F14⟩:=zcT A 15 (by decide) (n := "law") rfl
 have e:=hfa.symm.trans (PySem.W.mg_of X G a14)
 cases e
 refine ⟨fd14,?_,fun base _ _=>?_⟩
 ·obtain ⟨oc,od,kV,doc,pm,an,cdv,ct,osl,rfl,lk,cd⟩:=F14.ex;exact fun s v=>.of_eq rfl
 obtain ⟨f1,fd1,a1,F1⟩:=zcT A 8 (by decide) (n := "_law_words") rfl
 have k1:=F1.kp
 have b1:=F1.binds (ps:=["_law_cell_here"]) fun _ _ _ _ _ _ us hl=>by obtain ⟨_,rfl⟩:=us1 hl;rfl
 have G__law_words:Fk l.prog w K mg base "_law_words" ["_law_cell_here"] .ow 1 zan:=⟨_,_,zeA (k:=0) B F1,b1,k1,PySem.W.mg_of X G a1⟩
 obtain ⟨f2,fd2,a2,F2⟩:=zcT A 9 (by decide) (n := "_law_sorts") rfl
 have k2:=F2.kp
 have b2:=F2.binds (ps:=["_law_cell_here"]) fun _ _ _ _ _ _ us hl=>by obtain ⟨_,rfl⟩:=us1 hl;rfl
 have G__law_sorts:Fk l.prog w K mg base "_law_sorts" ["_law_cell_here"] .ow 2 zaj:=⟨_,_,zeB (k:=1) B F2 (G__law_words.mono (j:=1) (by first | decide | omega)),b2,k2,PySem.W.mg_of X G a2⟩
 obtain ⟨f3,fd3,a3,F3⟩:=zcT A 10 (by decide) (n := "_law_blanks") rfl
 have k3:=F3.kp
 have b3:=F3.binds (ps:=["_law_cell_here"]) fun _ _ _ _ _ _ us hl=>by obtain ⟨_,rfl⟩:=us1 hl;rfl
 have G__law_blanks:Fk l.prog w K mg base "_law_blanks" ["_law_cell_here"] .ow 1 zah:=⟨_,_,zec (k:=0) B F3,b3,k3,PySem.W.mg_of X G a3⟩
 obtain ⟨f4,fd4,a4,F4⟩:=zcT A 1 (by decide) (n := "is_blank") rfl
 have k4:=F4.kp
 have b4:=F4.binds (ps:=["term"]) fun _ _ _ _ _ _ us hl=>by obtain ⟨_,rfl⟩:=us1 hl;rfl
 have G_is_blank:Fk l.prog w K mg base "is_blank" ["term"] .fz 1 zad:=⟨_,_,zfS (k:=0) B F4,b4,k4,PySem.W.mg_of X G a4⟩
 obtain ⟨f5,fd5,a5,F5⟩:=zcT A 2 (by decide) (n := "inner_parts") rfl
 have k5:=F5.kp
 have b5:=F5.binds (ps:=["term"]) fun _ _ _ _ _ _ us hl=>by obtain ⟨_,rfl⟩:=us1 hl;rfl
 have G_inner_parts:Fk l.prog w K mg base "inner_parts" ["term"] .fz 2 zag:=⟨_,_,zeb (k:=1) B F5 (G_is_blank.mono (j:=1) (by first | decide | omega)),b5,k5,PySem.W.mg_of X G a5⟩
 obtain ⟨f6,fd6,a6,F6⟩:=zcT A 3 (by decide) (n := "placed_parts") rfl
 have k6:=F6.kp
 have b6:=F6.binds (ps:=["term"]) fun _ _ _ _ _ _ us hl=>by obtain ⟨_,rfl⟩:=us1 hl;rfl
 have G_placed_parts:Fk l.prog w K mg base "placed_parts" ["term"] .ow 3 zab:=⟨_,_,zdG (k:=2) B F6 (G_inner_parts.mono (j:=2) (by first | decide | omega)),b6,k6,PySem.W.mg_of X G a6⟩
 obtain ⟨f7,fd7,a7,F7⟩:=zcT A 5 (by decide) (n := "signs_of") rfl
 have k7:=F7.kp
 have b7:=F7.binds (ps:=["terms"]) fun _ _ _ _ _ _ us hl=>by obtain ⟨_,rfl⟩:=us1 hl;rfl
 have G_signs_of:Fk l.prog w K mg base "signs_of" ["terms"] .ow 4 zao:=⟨_,_,zfR (k:=3) B F7 (G_placed_parts.mono (j:=3) (by first | decide | omega)) (G_is_blank.mono (j:=3) (by first | decide | omega)),b7,k7,PySem.W.mg_of X G a7⟩
 obtain ⟨f8,fd8,a8,F8⟩:=zcT A 7 (by decide) (n := "_law_cell") rfl
 have k8:=F8.kp
 have b8:=F8.binds (ps:=["_law_script", "_law_k"]) fun _ _ _ _ _ _ us hl=>by obtain ⟨_,_,rfl⟩:=us2 hl;rfl
 have G__law_cell:Fk l.prog w K mg base "_law_cell" ["_law_script", "_law_k"] .fz 1 zak:=⟨_,_,zfn (k:=0) B F8,b8,k8,PySem.W.mg_of X G a8⟩
 obtain ⟨f9,fd9,a9,F9⟩:=zcT A 11 (by decide) (n := "_law_grown") rfl
 have k9:=F9.kp
 have b9:=F9.binds (ps:=["_law_row", "_law_number", "_law_sorts_here", "_law_blanks_here", "_law_most"]) fun _ _ _ _ _ _ us hl=>by obtain ⟨_,_,_,_,_,rfl⟩:=us5 hl;rfl
 have G__law_grown:Fk l.prog w K mg base "_law_grown" ["_law_row", "_law_number", "_law_sorts_here", "_law_blanks_here", "_law_most"] .ow 1 zac:=⟨_,_,zeD (k:=0) B F9,b9,k9,PySem.W.mg_of X G a9⟩
 obtain ⟨f10,fd10,a10,F10⟩:=zcT A 12 (by decide) (n := "_law_flat") rfl
 have k10:=F10.kp
 have b10:=F10.binds (ps:=["_law_term"]) fun _ _ _ _ _ _ us hl=>by obtain ⟨_,rfl⟩:=us1 hl;rfl
 have H__law_flat:∀ n:Nat,Fk l.prog w K mg base "_law_flat" ["_law_term"] .fz (0 + n) (zaB n):=by
  intro n
  induction n with
  | zero=>exact (Fk.never ⟨b10,k10,PySem.W.mg_of X G a10⟩ fun _=>rfl).mono (by omega)
  | succ n ih=>exact ⟨_,_,zfm (k:=0 + n) B F10 (ih.mono (j:=0 + n) (by omega)),b10,k10,PySem.W.mg_of X G a10⟩
 have G__law_flat:Fk l.prog w K mg base "_law_flat" ["_law_term"] .fz 100 zaa:=H__law_flat 100
 obtain ⟨f11,fd11,a11,F11⟩:=zcT A 4 (by decide) (n := "blanks_of") rfl
 have k11:=F11.kp
 have b11:=F11.binds (ps:=["term"]) fun _ _ _ _ _ _ us hl=>by obtain ⟨_,rfl⟩:=us1 hl;rfl
 have G_blanks_of:Fk l.prog w K mg base "blanks_of" ["term"] .fz 4 zat:=⟨_,_,zfk (k:=3) B F11 (G_placed_parts.mono (j:=3) (by first | decide | omega)) (G_is_blank.mono (j:=3) (by first | decide | omega)),b11,k11,PySem.W.mg_of X G a11⟩
 obtain ⟨f12,fd12,a12,F12⟩:=zcT A 13 (by decide) (n := "_law_good") rfl
 have k12:=F12.kp
 have b12:=F12.binds (ps:=["_law_term"]) fun _ _ _ _ _ _ us hl=>by obtain ⟨_,rfl⟩:=us1 hl;rfl
 have G__law_good:Fk l.prog w K mg base "_law_good" ["_law_term"] .fz 101 zcm:=⟨_,_,zfl (k:=100) B F12 (G__law_flat.mono (j:=100) (by first | decide | omega)) (G_blanks_of.mono (j:=100) (by first | decide | omega)),b12,k12,PySem.W.mg_of X G a12⟩
 obtain ⟨f13,fd13,a13,F13⟩:=zcT A 14 (by decide) (n := "_law_signs") rfl
 have k13:=F13.kp
 have b13:=F13.binds (ps:=["_law_terms"]) fun _ _ _ _ _ _ us hl=>by obtain ⟨_,rfl⟩:=us1 hl;rfl
 have G__law_signs:Fk l.prog w K mg base "_law_signs" ["_law_terms"] .ow 101 zbu:=⟨_,_,zeC (k:=100) B F13 (G__law_flat.mono (j:=100) (by first | decide | omega)),b13,k13,PySem.W.mg_of X G a13⟩
 exact zlv (k:=101) B F14 (G__law_sorts.mono (j:=101) (by first | decide | omega)) (G__law_blanks.mono (j:=101) (by first | decide | omega)) (G_signs_of.mono (j:=101) (by first | decide | omega)) (G__law_cell.mono (j:=101) (by first | decide | omega)) (G__law_grown.mono (j:=101) (by first | decide | omega)) (G__law_good.mono (j:=101) (by first | decide | omega)) (G__law_signs.mono (j:=101) (by first | decide | omega))
open PySem.W
theorem bigk:∀ w:World,(fun os:OsState=>(HD.bal (Fast.tw10156331382660048174 (Fast.tw11892475500146522536 Fast.tw14364793385576792824) pwk w) (Fast.tw6613529449190102663 11 (some (.ref 6))) 12 (HD.bootS w os) (topStub pwk)).map (HD.looks pwk qwk lzk (fun s=>recOk rwk.row.toRowW.records s) (fun s=>faV pwk fnI (zjp s.heap)) Fast.tw4187177175401517315 Fast.tw5923862056798008813 w))=fun _=>some (true,true,openGood qwk lzk,faX pwk fnI):=by
 intro w
 kernel_rfl
theorem saidk:rwk.wellSaid=true:=by kernel_rfl
theorem leftk:LeftO pwk qwk lzk (fun s=>recOk rwk.row.toRowW.records s) (fun s=>faV pwk fnI (zjp s.heap)) (fun _=>faX pwk fnI) 4796:=by
 refine HD.left_of (d:=12) (by kernel_rfl) (by decide) (by decide) (fun s=>by kernel_rfl) ?_
 rw [Fast.te10156331382660048174,Fast.te11892475500146522536,Fast.te14364793385576792824,Fast.te6613529449190102663,Fast.te4187177175401517315,Fast.te5923862056798008813]
 exact bigk
end FL
end
open PySem PySem.W PyProof.Rows
set_option maxRecDepth 100000 in
set_option maxHeartbeats 0 in
theorem PySem.Challenge.cw_endmeet_k03_blanks_and_signs_holds : PySem.Challenge.rw_endmeet_k03_blanks_and_signs.Holds := by
  refine holds_law FL.saidk fun said => ?_
  refine holds_open (q := FL.qwk) (loose := FL.lzk) (XP := fun _ _ => True) (YP := FL.YP FL.pwk FL.fnI) FL.leftk (fun w s e => ⟨_, FL.allIn_in s.heap, e⟩) FL.YP.keeps (fun _ _ => trivial) (fun _ _ _ _ _ => trivial) (by rfl) (by rfl) (by rfl) (fun s e => recFacts_of e) (by rfl) said (by decide +kernel) ⟨rfl, rfl, rfl, rfl, rfl, by decide +kernel⟩ ?hw ?hc
  case hw => w_witness2
  case hc =>
    refine FL.walkE (l := PySem.Challenge.rw_endmeet_k03_blanks_and_signs) (k := 102) (x := "_law_script") (m := FL.m_law03) rfl rfl ⟨rfl, by decide, by decide⟩ ?F FL.FACT03
    intro K w mg fa h A KX G hmg
    exact FL.all_mk KX G hmg A
