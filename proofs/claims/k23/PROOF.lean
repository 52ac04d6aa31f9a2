import PyProof.Rows.All
import Wide.All
import OpenK.AllK
import Wide.FinOn
import PyProof.Rows.SortStr
import Lean
import PyProof.EqAt
import PyProof.EqKinds
import PyProof.TupleCall
import PyProof.NeKinds
import PyProof.ZipIter
import PyProof.Draws
import KE.KRevIter
import PyProof.ListNew
import KE.KEqDict
import PyProof.EnumMake
import PyProof.StrWalks
import KE.KDictLaws
import PyProof.DictItemsLoops
import PyProof.DictWalks
import PyProof.DictCompW
import PyProof.ListMulAny
import PyProof.FactsAll.tuple_2
import PyProof.ConsumeWalk
import PyProof.ReprRoads
import PyProof.ExcInit
import PyProof.ExcBaseAll.ValueError
import PyProof.InstStoreFacts
import PyProof.RulesAs
import PyProof.NsDelKeeps
import PyProof.ExcAttrAll.ValueError
import PyProof.Rows.SetFrom
import PyProof.MinMaxWalk
import PyProof.StrLawsIn
import PySem.Challenge.RW_endmeet_k23_rules_refused
section
local macro_rules | `(tactic| omega) => `(tactic| lia)
set_option Elab.async false
set_option linter.all false
set_option maxRecDepth 100000
set_option maxHeartbeats 0
open PySem PySem.Spec PyProof.Rows
noncomputable section
abbrev Fg:=PySem.W.Frag
abbrev VS:=Value→Shared→Prop
abbrev AO:=List (Addr×Obj)
abbrev SV:=Str→Option Value
abbrev SI:=List (Str×Int)
abbrev ON:=List (Option Nat)
namespace TS
def El(w:World)(l:List (Int×Value)):Prop:=∀e∈l,∃k t,e=(hashStr w k,Value.str k t)
theorem El.of{P:Program}{w:World}{l:List (Int×Value)}(h:El w l):ElemsOf (PySem.strKind P w) l:=λe he=>by obtain⟨k,t,rfl⟩:=h e he;exact⟨⟨k,by show Value.isStrOf k (.str k t)=true;simp[Value.isStrOf],rfl⟩,rfl⟩
def txt(l:List (Int×Value)):List Str:=l.map λe=>strOf e.2
structure Good(w:World)(t t':SetTable):Prop where
 led:t'.led=t.led
 plain:t.plain=false->t'.plain=false
def St(w:World)(h:Heap)(a:Addr)(L:List Str):Prop:=
 ∃o es ep t,h.get? a=some o/\o.ExactSet/\o.data=.set es ep t/\El w es.toList/\(txt es.toList).Perm L/\L.Nodup/\es.size<scanBound/\t.fits es.size=true/\
  (L≠[]->t.plain=false)/\(w.params.followText "set-order"=false->t.led=true)
def addT(L:List Str)(x:Str):List Str:=if x∈L then L else L++[x]
section
variable{w:World}{t:SetTable}{es:Array (Int×Value)}{h:Int}{x:Value}
theorem zbg(n:Nat):Good w t (t.standIn n):=⟨rfl,λ_=>rfl⟩
theorem zgu:Good w t (layNew t es h x).2.1:=by
 unfold layNew;split
 ·dsimp only;unfold SetTable.orStandIn;split
  ·exact⟨rfl,λz=>z⟩
  ·exact⟨rfl,λ_=>rfl⟩
 ·exact zbg _
theorem zej(wanted:Nat):Good w t (relayAll t es wanted).2.1:=by
 unfold relayAll;split
 ·rename_i t' order hr;dsimp only;split
  ·unfold SetTable.relaid SetTable.laid at hr;cases q:SetTable.layClean (SetTable.sizeAbove wanted - 1) (es.map (·.1))with
   |none=>rw[q]at hr;cases hr
   |some ow=>
    rw[q]at hr;cases hr
    exact⟨rfl,λz=>z⟩
  ·exact zbg _
 ·exact zbg _
end
variable{x:Str}{L:List Str}
section
variable{P:Program}{w:World}{A:Around}{E:VS}{s:Shared}{a:Addr}
theorem zkJ{g:Bool->Sem Unit}(hg:∀(b:Bool) (s₁:Shared) (Q':Unit->Shared->Prop),Q' () s₁->wpAny (model P w) A (g b) Q' E s₁){o:Obj}{es:Array (Int×Value)}{ep:Nat}{t:SetTable}(ho:s.heap.get? a=some o)(hd:o.data=.set es ep t){es1:Array (Int×Value)}{t2:SetTable}(hb1:es1.size<scanBound)(hf2:t2.fits es1.size=true){wasDummy:Bool}{R:Option Bool->Shared->Prop}(h:∀h' es2 ep2 t3,Heap.SameBut a s.heap h'->h'.get? a=some {o with data:=.set es2 ep2 t3}->es2.toList.Perm es1.toList->t3.fits es2.size=true->Good w t2 t3->R (some true) {s with heap:=h'}):
  wpAny (model P w) A (do
    storeSet a es1 t2
    if(!wasDummy&&t2.tooFull)=true then do
      g (relayAll t2 es1 (SetTable.grown es1.size)).2.2
      storeSet a (relayAll t2 es1 (SetTable.grown es1.size)).1 (relayAll t2 es1 (SetTable.grown es1.size)).2.1
      pure (some true)
     else pure (some true)) R E s:=by
 refine wpAny_bind (wpAny_storeSet_of ho hd ?_ (fits_of_scanBound hb1));have put1:(s.heap.update a (Obj.putSet es1 t2)).get? a=some {o with data:=.set es1 (ep+1) t2}:=by have:=Heap.get?_update_self (Obj.putSet es1 t2) ho (by rw[putSet_of es1 t2 hd];rfl);rw[putSet_of es1 t2 hd]at this;exact this
 have hsb1:=Heap.SameBut.update s.heap a (Obj.putSet es1 t2);split
 ·have hp:=relayAll_perm t2 es1 (SetTable.grown es1.size);have hfr:=relayAll_fits t2 es1 (SetTable.grown es1.size);have hgd:=zej (w:=w) (t:=t2) (es:=es1) (SetTable.grown es1.size);generalize relayAll t2 es1 (SetTable.grown es1.size)=Rl at hp hfr hgd ⊢;obtain⟨es2,t3,gave2⟩:=Rl;dsimp only at hp hfr hgd ⊢;have hsz:es2.size=es1.size:=by rw[←Array.length_toList,hp.length_eq,Array.length_toList]
  refine wpAny_bind (hg _ _ _ ?_);refine wpAny_bind (wpAny_storeSet_of put1 rfl ?_ (fits_of_scanBound (by rw[hsz];exact hb1)));have put2:((s.heap.update a (Obj.putSet es1 t2)).update a (Obj.putSet es2 t3)).get? a=some {o with data:=.set es2 (ep+1+1) t3}:=by have:=Heap.get?_update_self (Obj.putSet es2 t3) put1 (by rw[putSet_of es2 t3 rfl];rfl);rw[putSet_of es2 t3 rfl]at this;exact this
  exact wpAny_pure (h _ es2 _ t3 (hsb1.trans (Heap.SameBut.update _ a _)) put2 hp hfr hgd)
 ·exact wpAny_pure (h _ es1 _ t2 hsb1 put1 (List.Perm.refl _) hf2 ⟨rfl,λz=>z⟩)
theorem ziA{es:List (Int×Value)}(he:El w es):x∈txt es↔∃e∈es,Value.isStrOf x e.2=true:=by
 unfold txt;rw[List.mem_map];constructor
 ·rintro⟨e,h1,h2⟩;obtain⟨k,t,rfl⟩:=he e h1;refine⟨_,h1,?_⟩;subst h2;simp[Value.isStrOf,strOf]
 ·rintro⟨e,h1,h2⟩;obtain⟨k,t,rfl⟩:=he e h1;obtain⟨t',e'⟩:=Value.isStrOf_shape h2;cases e'
  exact⟨_,h1,rfl⟩
theorem addT_nodup(h:L.Nodup):(addT L x).Nodup:=by
 unfold addT;split
 ·exact h
 ·rename_i hx;exact List.nodup_append.mpr ⟨h,by simp,λa ha b hb=>by simp at hb;subst hb;exact λe=>hx (e▸ha)⟩
theorem add{tk:Tok}{Q:Bool->Shared->Prop}(hS:St w s.heap a L)(hroom:L.length+1<scanBound)(h:∀h' b,Heap.SameBut a s.heap h'->St w h' a (addT L x)->Q b {s with heap:=h'}):
  wpAny (model P w) A (setAddHashed a (.str x tk) (hashStr w x)) Q E s:=by
 obtain⟨o,es,ep,t,ho,hex,hd,hel,hpm,hnd,hb,hf,hpl,hld⟩:=hS;have hsz:es.size=L.length:=by rw[←hpm.length_eq];simp[txt]
 have hb1:es.size+1<scanBound:=by rw[hsz];exact hroom
 have hkey:(PySem.strKind P w).is x (.str x tk)=true:=by show Value.isStrOf x (.str x tk)=true;simp[Value.isStrOf]
 have hE:ElemsOf (PySem.strKind P w) es.toList:=hel.of;unfold setAddHashed setAddHashedIn;refine wpAny_holding (wpAny_bind (wpAny_setState_of ho hd hf ?_));dsimp only;rw[byScan_of rfl hb hE];simp only[↓reduceIte];unfold setAddByScan;refine wpAny_bind ?_;refine wpAny_bind (wpAny_rule ?_);refine wpAny_bind (wpAny_setScan_of (knd:=PySem.strKind P w) (k:=x) hkey ho hd hf hE ?_);cases hr:List.findIdx? (λe=>(PySem.strKind P w).is x e.2) es.toList with
 |some j=>
  dsimp only;obtain⟨hj,hpj,_⟩:=List.findIdx?_eq_some_iff_getElem.mp hr;have hx:x∈L:=hpm.mem_iff.mp ((ziA hel).mpr ⟨es.toList[j],List.getElem_mem hj,hpj⟩);refine wpAny_pure (wpAny_pure ?_);have e:s={s with heap:=s.heap}:=by cases s;rfl
  rw[e];exact h s.heap _ (Heap.SameBut.refl a s.heap) (by unfold addT;rw[if_pos hx];exact⟨o,es,ep,t,ho,hex,hd,hel,hpm,hnd,hb,hf,hpl,hld⟩)
 |none=>
  dsimp only;have hx:x∉L:=λz=>by
   obtain⟨e,he,hp⟩:=(ziA hel).mp (hpm.mem_iff.mpr z)
   have:=List.findIdx?_eq_none_iff.mp hr e he;have hp':(PySem.strKind P w).is x e.2=true:=hp;rw[hp']at this;exact Bool.noConfusion this
  have hgw:∀(b:Bool) {s₁:Shared}{Q':Unit->Shared->Prop},Q' () s₁->wpAny (model P w) A (match b with|true=>rule "set.scan.the-table-gave-way"|false=>pure ()) Q' E s₁:=
   λb s₁ Q' hq=>by cases b<;>first|exact wpAny_pure hq|exact wpAny_rule hq
  have hperm:=layNew_perm t es (hashStr w x) (.str x tk);have hfits:=layNew_fits t es (hashStr w x) (.str x tk);have hgood:=zgu (w:=w) (t:=t) (es:=es) (h:=hashStr w x) (x:=.str x tk);generalize layNew t es (hashStr w x) (.str x tk)=L1 at hperm hfits hgood ⊢;obtain⟨es1,t1,wasDummy,gave⟩:=L1;dsimp only at hperm hfits hgood ⊢;rw[Array.toList_push]at hperm;have hel1:El w es1.toList:=λe he=>by
   rcases List.mem_append.mp (hperm.mem_iff.mp he)with z|z
   ·exact hel e z
   ·exact⟨x,tk,List.mem_singleton.mp z⟩
  have hpm1:(txt es1.toList).Perm (addT L x):=by unfold addT;rw[if_neg hx];refine(hperm.map _).trans ?_;rw[List.map_append];exact hpm.append (List.Perm.refl _)
  have hb1':es1.size<scanBound:=by rw[←Array.length_toList,hperm.length_eq,List.length_append,Array.length_toList];simpa using hb1
  refine wpAny_bind (hgw _ ?_);have fin:∀(t2:SetTable),t2.led=t.led->t2.plain=false->∀h' es2 ep2 t3,Heap.SameBut a s.heap h'->h'.get? a=some {o with data:=.set es2 ep2 t3}->es2.toList.Perm es1.toList->t3.fits es2.size=true->Good w t2 t3->St w h' a (addT L x):=by
   intro t2 e1 e2 h' es2 ep2 t3 _ g1 g2 g3 g4;have z2:es2.size=es1.size:=by rw[←Array.length_toList,g2.length_eq,Array.length_toList]
   exact⟨_,es2,ep2,t3,g1,hex,rfl,λe he=>hel1 e (g2.mem_iff.mp he),(g2.map _).trans hpm1,addT_nodup hnd,by rw[z2];exact hb1',g3,λ_=>g4.plain e2,λz=>by rw[g4.led,e1];exact hld z⟩
  split
  ·refine wpAny_bind ?_;rw[hashByValue_scannable 8 (x:=.str x tk) rfl];refine wpAny_pure ?_;refine zkJ ?_ ho hd hb1' ?_ ?_
   ·intro b s₁ Q' hq;cases b<;>first|exact wpAny_pure hq|exact wpAny_rule hq
   ·split
    ·exact hfits
    ·exact SetTable.fits_plain_off hfits
   ·intro h' es2 ep2 t3 g0 g1 g2 g3 g4;dsimp only;refine wpAny_pure (h h' _ g0 (fin _ ?_ ?_ h' es2 ep2 t3 g0 g1 g2 g3 g4))
    ·split
     ·exact hgood.led
     ·exact hgood.led
    ·rw[if_neg (by simp[plainKind])]
  ·rename_i hnp;refine wpAny_bind (wpAny_pure ?_);simp only[↓reduceIte];refine zkJ ?_ ho hd hb1' hfits ?_
   ·intro b s₁ Q' hq;cases b<;>first|exact wpAny_pure hq|exact wpAny_rule hq
   ·intro h' es2 ep2 t3 g0 g1 g2 g3 g4;dsimp only;exact wpAny_pure (h h' _ g0 (fin t1 hgood.led (by simpa using hnp) h' es2 ep2 t3 g0 g1 g2 g3 g4))
end
end TS
namespace L2
abbrev Key:=Sum Int Str
def zif:Key->Value->Bool
 | .inl k,v=>Value.isInt k v
 | .inr x,v=>Value.isStrOf x v
def keyH(w:World):Key->Int
 | .inl k=>hashInt k
 | .inr x=>hashStr w x
theorem gT:∀{k:Key}{v:Value},zif k v=true->(∃i t,k=Sum.inl i/\v=Value.int i t)\/(∃x t,k=Sum.inr x/\v=Value.str x t)
 | .inl i,v,h=>by obtain⟨t,e⟩:=Value.isInt_shape (k:=i) (v:=v) h;exact .inl ⟨i,t,rfl,e⟩
 | .inr x,v,h=>by obtain⟨t,e⟩:=Value.isStrOf_shape (x:=x) (v:=v) h;exact .inr ⟨x,t,rfl,e⟩
theorem zjJ(i:Int)(t:Tok):zif (.inl i) (.int i t)=true:=by simp[zif,Value.isInt]
theorem zjI(x:Str)(t:Tok):zif (.inr x) (.str x t)=true:=by simp[zif,Value.isStrOf]
theorem zpw(a b:Int):decide ((Sum.inl a:Key)=Sum.inl b)=(a==b):=by
 by_cases e:a=b
 ·subst e;simp
 ·have h:¬(Sum.inl a:Key)=Sum.inl b:=λq=>e (Sum.inl.inj q)
  rw[decide_eq_false h];exact(beq_eq_false_iff_ne.mpr e).symm
theorem zps(a b:Str):decide ((Sum.inr a:Key)=Sum.inr b)=decide (a=b):=by
 by_cases e:a=b
 ·subst e;simp
 ·have h:¬(Sum.inr a:Key)=Sum.inr b:=λq=>e (Sum.inr.inj q)
  rw[decide_eq_false h,decide_eq_false e]
theorem zpv(a:Int)(b:Str):decide ((Sum.inl a:Key)=Sum.inr b)=false:=decide_eq_false (λq=>nomatch q)
theorem zpt(a:Str)(b:Int):decide ((Sum.inr a:Key)=Sum.inl b)=false:=decide_eq_false (λq=>nomatch q)
def xA(prog:Program)(w:World):PySem.KeyKind prog w Key where
 is:=zif
 hash:=keyH w
 inj:=λv a b ha hb=>by
  rcases gT ha with⟨i,t,rfl,rfl⟩|⟨x,t,rfl,rfl⟩
  ·rcases gT hb with⟨j,u,rfl,e⟩|⟨y,u,rfl,e⟩
   ·injection e with e1 _;rw[e1]
   ·exact nomatch e
  ·rcases gT hb with⟨j,u,rfl,e⟩|⟨y,u,rfl,e⟩
   ·exact nomatch e
   ·injection e with e1 _;rw[e1]
 byValue:=λk v h=>by rcases gT h with⟨i,t,rfl,rfl⟩|⟨x,t,rfl,rfl⟩<;>rfl
 pyHash:=λhv h=>by
  rcases gT hv with⟨i,t,rfl,rfl⟩|⟨x,t,rfl,rfl⟩
  ·exact wpAny_pyHash_int h
  ·exact wpAny_pyHash_str h
 eqBool:=λhu hv h=>by
  rcases gT hu with⟨i,t,rfl,rfl⟩|⟨x,t,rfl,rfl⟩
  ·rcases gT hv with⟨j,u,rfl,rfl⟩|⟨y,u,rfl,rfl⟩
   ·rw[zpw]at h;exact wpAny_eqBool_int h
   ·rw[zpv]at h;exact SeqAt.EqAt.int_str i t y u _ _ _ _ h
  ·rcases gT hv with⟨j,u,rfl,rfl⟩|⟨y,u,rfl,rfl⟩
   ·rw[zpt]at h;exact SeqAt.EqAt.str_int x t j u _ _ _ _ h
   ·rw[zps]at h;exact wpAny_eqBool_str h
 «strs»:=λk x t v h=>by
  rcases gT h with⟨i,u,rfl,e⟩|⟨y,u,rfl,e⟩
  ·exact nomatch e
  ·injection e with e1 _;subst e1;cases v<;>rfl
theorem zgl(prog:Program)(w:World)(i:Int)(t:Tok):(xA prog w).is (.inl i) (.int i t)=true:=zjJ i t
theorem zgk(prog:Program)(w:World)(x:Str)(t:Tok):(xA prog w).is (.inr x) (.str x t)=true:=zjI x t
inductive V where
 |non|bl (b:Bool)|int (i:Int)|str (x:Str)|byt (b:Array UInt8)|flt (b:UInt64)|ref (a:Addr)|ty (n:String)
 deriving DecidableEq
def zQ:V->Value->Prop
 | .non,u=>u=Value.none
 | .bl b,u=>u=Value.bool b
 | .int i,u=>∃t,u=Value.int i t
 | .str x,u=>∃t,u=Value.str x t
 | .byt b,u=>∃t,u=Value.bytes b t
 | .flt b,u=>∃t,u=Value.float b t
 | .ref a,u=>u=Value.ref a
 | .ty n,u=>u=Value.type n
abbrev zL:List V->List Value->Prop:=Paired zQ
variable{xs:List V}{us:List Value}
theorem zL.length(r:zL xs us):xs.length=us.length:=Paired.length r
theorem zL.get:∀{xs:List V}{us:List Value} {i:Nat}{x:V},zL xs us->xs[i]?=some x->∃u,us[i]?=some u/\zQ x u
 |_,_,_,_,.nil,e=>by simp at e
 |_,_,0,_,.cons r _,e=>by simp at e;subst e;exact⟨_,rfl,r⟩
 |_,_,i+1,x,.cons _ t,e=>by obtain⟨u,h1,h2⟩:=zL.get (i:=i) (x:=x) t (by simpa using e);exact⟨u,by simpa using h1,h2⟩
variable{u:Value}
theorem zL.set{x:V}(r:zQ x u):∀{xs:List V}{us:List Value} (i:Nat),zL xs us->zL (xs.set i x) (us.set i u)
 |_,_,_,.nil=>.nil
 |_,_,0,.cons _ t=>.cons r t
 |_,_,i+1,.cons q t=>.cons q (zL.set r i t)
theorem zL.append:∀{xs ys:List V}{us ws:List Value},zL xs us->zL ys ws->zL (xs++ys) (us++ws)
 |_,_,_,_,.nil,s=>s
 |_,_,_,_,.cons r t,s=>.cons r (zL.append t s)
theorem zL.take:∀{xs:List V}{us:List Value} (n:Nat),zL xs us->zL (xs.take n) (us.take n)
 |_,_,0,_=>.nil
 |_,_,_+1,.nil=>.nil
 |_,_,n+1,.cons r t=>.cons r (zL.take n t)
theorem zL.drop:∀{xs:List V}{us:List Value} (n:Nat),zL xs us->zL (xs.drop n) (us.drop n)
 |_,_,0,r=>r
 |_,_,_+1,.nil=>.nil
 |_,_,n+1,.cons _ t=>zL.drop n t
def RelO:Option V->Option Value->Prop
 |some v,some u=>zQ v u
 |none,none=>True
 |_,_=>False
variable{κ:Type}
def KV:List (κ×V)->List (κ×Value)->Prop:=Paired λ(p:κ×V) (q:κ×Value)=>p.1=q.1/\zQ p.2 q.2
def kV:Key->V
 | .inl i=>.int i
 | .inr x=>.str x
inductive HO where
 |lst (xs:List V)
 |tup (xs:List V)
 |dK (kvs:List (Key×V))|dT (kvs:List (List Key×V))
 |set (S:List Str)
 |ins (C dx:Addr) (fs:List (Str×V))
 |own (x:Addr)
 |xd (fs:List (Str×V))
 |met (f x:Addr)
 |rng (lo hi:Int)
 |frz (o:Obj) (u:HO)
 |tbl (ps:Array Value)
 |ext (φ:Heap->Prop)
abbrev Hp:=Addr->Option HO
def upd(H:Hp)(a:Addr)(o:HO):Hp:=λb=>if b=a then some o else H b
variable{H:Hp}{a:Addr}
theorem qF{o:HO}:upd H a o a=some o:=by unfold upd;rw[if_pos rfl]
theorem zV{b:Addr}{o:HO}(h:b≠a):upd H a o b=H b:=by unfold upd;rw[if_neg h]
theorem qK{b:Addr}{o:HO}(h:H a=some o)(h':H b=none):a≠b:=by intro e;subst e;rw[h]at h';cases h'
section
variable(P:Program)(w:World)
def qZ(H:Hp)(h:Heap)(a:Addr):HO->Prop
 | .lst xs=>xs.length<=sizeLine/\∃(its:List Value) (n:Nat),zL xs its/\h.get? a=some {cls:=.type "list",data:=.seq its.toArray n}
 | .tup xs=>xs.length<=sizeLine/\∃its:List Value,zL xs its/\IsTup h a its.toArray
 | .dK kvs=>kvs.length<=sizeLine/\(a==sysModules)=false/\∃vs,KV kvs vs/\h.DictOf (xA P w) a vs
 | .dT kvs=>kvs.length<=sizeLine/\(a==sysModules)=false/\∃xs:List (List Key×Addr×Value),
   Paired (λ(p:List Key×V) (q:List Key×Addr×Value)=>p.1=q.1/\H q.2.1=some (.tup (p.1.map kV))/\zQ p.2 q.2.2) kvs xs/\
   ∃o es ep,h.get? a=some o/\o.ExactDict/\o.data=.dict es ep/\es.toList=xs.map (entryOfKey (tupleKind (xA P w)))/\(xs.map (·.1)).Nodup
 | .set S=>TS.St w h a S
 | .ins C dx fs=>H dx=some (.own a)/\fs.length<=1000/\dx≠a/\h.get? a=some (PySem.W.instObj C dx)/\
   ∃mA,h.Ns1 dx mA/\(∀f,RelO (fs.lookup f) (mA f))/\PySem.Within mA (fs.map (·.1))
 | .own _=>∃o,h.get? a=some o
 | .xd fs=>∃mA,h.Ns1 a mA/\∀f,RelO (fs.lookup f) (mA f)
 | .rng lo hi=>∃t u v,h.get? a=some {cls:=.type "range",data:=.fields #[.int lo t,.int hi u,.int 1 v]}
 | .frz o u=>h.get? a=some o/\qZ H h a u
 | .tbl ps=>h.get? a=some {cls:=.none,data:=.fields ps}
 | .met f x=>h.get? a=some (PySem.W.methodObj (.ref f) (.ref x))
 | .ext φ=>φ h/\(∃o,h.get? a=some o)/\∀h1 h2:Heap,φ h1->(∀o,h1.get? a=some o->h2.get? a=some o)->φ h2
def HOk(H:Hp)(h:Heap):Prop:=∀a o,H a=some o->qZ P w H h a o
end
variable{α:Type}
section
variable{P:Program}{w:World}{H H':Hp}{h h':Heap}{a:Addr}{o:HO}
theorem qZ.lt(x:qZ P w H h a o):a<h.objs.size:=by
 cases o with
 |lst xs=>obtain⟨_,_,_,_,e⟩:=x;exact Heap.lt_size e
 |tup xs=>obtain⟨_,_,_,p⟩:=x;exact p.lt
 |dK kvs=>obtain⟨_,_,_,_,o,_,_,e,_⟩:=x;exact Heap.lt_size e
 |dT kvs=>obtain⟨_,_,_,_,o,_,_,e,_⟩:=x;exact Heap.lt_size e
 |set S=>obtain⟨o,_,_,_,e,_⟩:=x;exact Heap.lt_size e
 |ins C dx fs=>obtain⟨_,_,_,e,_⟩:=x;exact Heap.lt_size e
 |own y=>obtain⟨_,e⟩:=x;exact Heap.lt_size e
 |xd fs=>obtain⟨_,⟨_,_,_,e,_⟩,_⟩:=x;exact Heap.lt_size e
 |rng lo hi=>obtain⟨_,_,_,e⟩:=x;exact Heap.lt_size e
 |frz ob u=>obtain⟨e,_⟩:=x;exact Heap.lt_size e
 |tbl ps=>exact Heap.lt_size (show h.get? a=some _ from x)
 |met f y=>exact Heap.lt_size (show h.get? a=some _ from x)
 |ext φ=>obtain⟨_,⟨_,e⟩,_⟩:=x;exact Heap.lt_size e
theorem Paired.mapP{β:Type}{F G:α->β->Prop}:∀{l₁:List α}{l₂:List β},Paired F l₁ l₂->(∀a b,F a b->G a b)->Paired G l₁ l₂
 |_,_,.nil,_=>.nil
 |_,_,.cons r t,f=>.cons (f _ _ r) (Paired.mapP t f)
theorem qZ.stay(x:qZ P w H h a o)(k:∀b u,(b=a\/H b=some (.own a))->h.get? b=some u->h'.get? b=some u)(ho:∀b,H b=some (.own a)->H' b=some (.own a))(ht:∀b xs,H b=some (.tup xs)->H' b=some (.tup xs)):qZ P w H' h' a o:=by
 induction o with
 |lst xs=>obtain⟨z,its,n,r,e⟩:=x;exact⟨z,its,n,r,k _ _ (.inl rfl) e⟩
 |tup xs=>obtain⟨z,its,r,ob,e,c⟩:=x;exact⟨z,its,r,ob,k _ _ (.inl rfl) e,c⟩
 |dK kvs=>obtain⟨z,y,vs,r,ob,es,ep,e,c⟩:=x;exact⟨z,y,vs,r,ob,es,ep,k _ _ (.inl rfl) e,c⟩
 |dT kvs=>
  obtain⟨z,y,xs,r,ob,es,ep,e,c⟩:=x;exact⟨z,y,xs,Paired.mapP r λp q z=>⟨z.1,ht _ _ z.2.1,z.2.2⟩,ob,es,ep,k _ _ (.inl rfl) e,c⟩
 |set S=>obtain⟨ob,es,ep,t,e,c⟩:=x;exact⟨ob,es,ep,t,k _ _ (.inl rfl) e,c⟩
 |ins C dx fs=>
  obtain⟨d,z,ne,e,mA,⟨od,es,ep,e2,c⟩,r⟩:=x;exact⟨ho _ d,z,ne,k _ _ (.inl rfl) e,mA,⟨od,es,ep,k _ _ (.inr d) e2,c⟩,r⟩
 |own y=>obtain⟨ob,e⟩:=x;exact⟨ob,k _ _ (.inl rfl) e⟩
 |xd fs=>obtain⟨mA,⟨od,es,ep,e,c⟩,r⟩:=x;exact⟨mA,⟨od,es,ep,k _ _ (.inl rfl) e,c⟩,r⟩
 |rng lo hi=>obtain⟨t,u,v,e⟩:=x;exact⟨t,u,v,k _ _ (.inl rfl) e⟩
 |frz ob u ih=>obtain⟨e,q⟩:=x;exact⟨k _ _ (.inl rfl) e,ih q⟩
 |tbl ps=>
  have e:h.get? a=some {cls:=.none,data:=.fields ps}:=x;show h'.get? a=some {cls:=.none,data:=.fields ps};exact k a _ (.inl rfl) e
 |met f y=>
  have e:h.get? a=some (PySem.W.methodObj (.ref f) (.ref y)):=x;show h'.get? a=some (PySem.W.methodObj (.ref f) (.ref y));exact k a _ (.inl rfl) e
 |ext φ=>obtain⟨p,⟨o,e⟩,st⟩:=x;exact⟨st _ _ p λo q=>k _ _ (.inl rfl) q,⟨o,k _ _ (.inl rfl) e⟩,st⟩
theorem HOk.lt(x:HOk P w H h)(e:H a=some o):a<h.objs.size:=(x a o e).lt
theorem HOk.fresh(x:HOk P w H h)(e:h.objs.size<=a):H a=none:=by
 cases q:H a with
 |none=>rfl
 |some u=>exact absurd (Nat.lt_of_lt_of_le (x.lt q) e) (Nat.lt_irrefl _)
theorem HOk.kept(x:HOk P w H h)(k:∀b u,h.get? b=some u->h'.get? b=some u):HOk P w H h':=λa o e=>
 (x a o e).stay (λb u _ q=>k b u q) (λ_ q=>q) λ_ _ q=>q
theorem HOk.laid(x:HOk P w H h)(k:∀b u,h.get? b=some u->h'.get? b=some u)(hp:h.objs.size<=a)(new:qZ P w (upd H a o) h' a o):HOk P w (upd H a o) h':=λb u e=>by
 have hn:=x.fresh hp;by_cases hb:b=a
 ·subst hb;rw[qF]at e;cases e;exact new
 ·rw[zV hb]at e;exact(x b u e).stay (λc v _ q=>k c v q) (λc q=>by rw[zV (qK q hn)];exact q) λc xs q=>by rw[zV (qK q hn)];exact q
end
def Rd(H:Hp)(a:Addr)(u:HO):Prop:=H a=some u\/∃o,H a=some (.frz o u)
variable{P:Program}{w:World}{h:Heap}
theorem Rd.ok{u:HO}(r:Rd H a u)(x:HOk P w H h):qZ P w H h a u:=by
 rcases r with r|⟨o,r⟩
 ·exact x a u r
 ·obtain⟨_,q⟩:=x a _ r;exact q
def Mut:Option HO->Prop
 |some (.lst _)=>True
 |some (.dK _)=>True
 |some (.dT _)=>True
 |some (.set _)=>True
 |some (.ins _ _ _)=>True
 |some (.ext _)=>True
 |_=>False
section
variable{P:Program}{w:World}{H:Hp}{h h':Heap}{x e:Addr}{o':HO}
theorem HOk.write(ok:HOk P w H h)(mu:Mut (H x))(he:e=x\/H e=some (.own x))(k:∀b u,b≠e->h.get? b=some u->h'.get? b=some u)(heo:∃u,h'.get? e=some u)(new:qZ P w (upd H x o') h' x o'):HOk P w (upd H x o') h':=λb u q=>by
 have nown:∀c y,H c=some (.own y)->c≠x:=λc y r z=>by subst z;rw[r]at mu;exact mu
 have ntup:∀c xs,H c=some (.tup xs)->c≠x:=λc xs r z=>by subst z;rw[r]at mu;exact mu
 by_cases hb:b=x
 ·subst hb;rw[qF]at q;cases q;exact new
 ·rw[zV hb]at q;by_cases hbe:b=e
  ·have q':H b=some (.own x):=by
    rcases he with z|z
    ·exact absurd (hbe.trans z) hb
    ·rw[hbe];exact z
   rw[q]at q';cases q'
   obtain⟨v,hv⟩:=heo;exact⟨v,by rw[hbe];exact hv⟩
  ·refine(ok b u q).stay (λc v hc r=>k c v ?_ r) (λc r=>by rw[zV (nown c b r)];exact r) λc xs r=>by rw[zV (ntup c xs r)];exact r
   rcases hc with rfl|hc
   ·exact hbe
   ·rintro rfl;rcases he with z|z
    ·exact nown c b hc z
    ·rw[hc]at z;cases z;exact hb rfl
end
structure Un(fs ex:List Addr)(H H':Hp)(h h':Heap):Prop where
 keep:∀b o,h.get? b=some o->H b=none->b∉fs->b∉ex->h'.get? b=some o
 slot:∀b o,h.get? b=some o->H b=none->b∈fs->b∉ex->∃sl,h'.get? b=some {o with slots:=sl}
 free:∀b o,h.get? b=some o->H b=none->b∉ex->H' b=none
 there:∀b o,h.get? b=some o->b∉ex->∃o',h'.get? b=some o'
 tups:∀b xs,H b=some (.tup xs)->H' b=some (.tup xs)
 frzs:∀b o u,H b=some (.frz o u)->H' b=some (.frz o u)
 tbls:∀b ps,H b=some (.tbl ps)->∃more,H' b=some (.tbl (ps++more))
section
variable{fs fs' ex ex':List Addr}{H H1 H2:Hp}{h h1 h2 h':Heap}{a x e:Addr}{o:HO}
theorem Un.any(u:Un fs ex H H1 h h1){b:Addr}{ob:Obj}(q:h.get? b=some ob)(n:H b=none)(hx:b∉ex):∃sl,h1.get? b=some {ob with slots:=sl}:=by
 by_cases hb:b∈fs
 ·exact u.slot b ob q n hb hx
 ·exact⟨ob.slots,u.keep b ob q n hb hx⟩
theorem Un.kept(k:∀b u,h.get? b=some u->h'.get? b=some u):Un fs ex H H h h':=
 ⟨λb ob q _ _ _=>k b ob q,λb ob q _ _ _=>⟨ob.slots,k b ob q⟩,λ_ _ _ n _=>n,λb ob q _=>⟨ob,k b ob q⟩,λ_ _ q=>q,λ_ _ _ q=>q,λ_ ps q=>⟨#[],by rw[q];simp⟩⟩
theorem Un.refl:Un fs ex H H h h:=Un.kept λ_ _ q=>q
theorem Un.laid(k:∀b u,h.get? b=some u->h'.get? b=some u)(hp:h.objs.size<=a)(hn:H a=none):Un fs ex H (upd H a o) h h' where
 keep:=λb u q _ _ _=>k b u q
 slot:=λb u q _ _ _=>⟨u.slots,k b u q⟩
 free:=λb u q n _=>by rw[zV (Nat.ne_of_lt (Nat.lt_of_lt_of_le (Heap.lt_size q) hp))];exact n
 there:=λb u q _=>⟨u,k b u q⟩
 tups:=λb xs q=>by rw[zV (qK q hn)];exact q
 frzs:=λb u xs q=>by rw[zV (qK q hn)];exact q
 tbls:=λb ps q=>⟨#[],by rw[zV (qK q hn),q];simp⟩
theorem Un.write(mu:Mut (H x))(he:e=x\/H e=some (.own x))(k:∀b u,b≠e->h.get? b=some u->h'.get? b=some u)(heo:∃u,h'.get? e=some u):Un fs ex H (upd H x o) h h':=by
 have hx:∀b,H b=none->b≠x:=λb n z=>by subst z;rw[n]at mu;exact mu
 have hb:∀b,H b=none->b≠e:=λb n z=>by
  subst z;rcases he with r|r
  ·exact hx b n r
  ·rw[n]at r;cases r
 have hm:∀b u,H b=some u->¬Mut (some u)->b≠x:=λb u q nm z=>by subst z;rw[q]at mu;exact nm mu
 refine⟨λb u q n _ _=>k b u (hb b n) q,λb u q n _ _=>⟨u.slots,k b u (hb b n) q⟩,λb u q n _=>by rw[zV (hx b n)];exact n,λb u q _=>?_,
  λb xs q=>by rw[zV (hm b _ q λz=>z)];exact q,λb u xs q=>by rw[zV (hm b _ q λz=>z)];exact q,λb ps q=>⟨#[],by rw[zV (hm b _ q λz=>z),q];simp⟩⟩
 by_cases hbe:b=e
 ·subst hbe;exact heo
 ·exact⟨u,k b u hbe q⟩
end
def trk(h:Heap)(H:Hp):List Addr:=(List.range h.objs.size).filter λa=>(H a).isSome
def gW(h:Heap)(H:Hp):Heap:=PySem.W.hideAll h (trk h H)
theorem zjT(h:Heap)(H:Hp):(gW h H).objs.size=h.objs.size:=PySem.W.hideAll_size _ _
variable{o:Obj}
theorem zlC{b:Addr}(e:h.get? b=some o)(n:H b=none):(gW h H).get? b=some o:=
 PySem.W.hideAll_get _ e λhm=>by have q:(H b).isSome=true:=(List.mem_filter.mp hm).2;rw[n]at q;simp at q
theorem znx{b:Addr}(e:(gW h H).get? b=some o):h.get? b=some o/\H b=none:=by
 have e':h.get? b=some o:=PySem.W.of_hideAll (trk h H) e;refine⟨e',?_⟩;cases q:H b with
 |none=>rfl
 |some x=>
  have hm:b∈trk h H:=List.mem_filter.mpr ⟨List.mem_range.mpr (Heap.lt_size e'),by simp[q]⟩;have z:(gW h H).get? b=none:=PySem.W.hideAll_none (trk h H) hm;rw[z]at e;cases e
structure Mod(K:Fg)(mg:SV)(base:Heap):Prop where
 kin:K.In base
 glob:base.Ns mainGlobals mg
 blt:∃mb,base.Ns builtinsNs mb/\∀x:Str,x≠"__name__"->mb x=bootBuiltins x
 nolimit:base.NoLimit
structure Cx where
 prog:Program
 w:World
 K:Fg
 mg:SV
 base:Heap
 A:Around
 N:List Str
 s₀:Shared
 H₀:Hp
 env:Env
 outer:List Env
 stack:List Env
 ex:List Addr
 fn:Str->Bool
 calm:Bool
 pn:AO
 xe:VS
noncomputable def frs(l:List Env):List Addr:=l.filterMap (·.frame)
abbrev Cx.fs(X:Cx):List Addr:=frs X.outer
def Vis(sc:Scope)(x:Str):Prop:=sc.names.lookup x=some .local\/sc.names.lookup x=some .cell\/sc.names.lookup x=some .free
def Loc(sc:Scope)(x:Str):Prop:=sc.names.lookup x=some .local\/sc.names.lookup x=some .cell
def Look(env:Env)(h:Heap)(m:SV)(x:Str)(u:Value):Prop:=
 (env.kindOf x=some .local/\m x=some u)\/((env.kindOf x=some .cell\/env.kindOf x=some .free)/\∃c,env.cells.lookup x=some c/\h.IsCell c (some u))
structure Cx.Ok(X:Cx):Prop where
 mod:Mod X.K X.mg X.base
 kind:X.env.scope.kind=.function
 glob:X.env.globals=mainGlobals
 blt:X.env.builtins=builtinsNs
 above:X.s₀.heap.objs.size<=X.env.locals
 inj:∀x y c,X.env.cells.lookup x=some c->X.env.cells.lookup y=some c->x=y
 has:∀x,(X.env.kindOf x=some .cell\/X.env.kindOf x=some .free)->∃c,X.env.cells.lookup x=some c
 cab:∀x c,X.fn x=true->X.env.cells.lookup x=some c->X.s₀.heap.objs.size<=c
 hd:X.calm=true->X.A.handled=none
 frames:X.A.frames=some X.stack
 stk:X.stack=X.outer\/(X.stack=X.env::X.outer/\X.env.frame=some X.env.locals)
 exf:∀b∈X.ex,b≠X.env.locals/\∀x c,X.env.cells.lookup x=some c->c≠b
 bs:∀b o,X.base.get? b=some o->X.s₀.heap.get? b=some o/\X.H₀ b=none
 bsz:X.base.objs.size<=X.s₀.heap.objs.size
 noex:∀b o,X.base.get? b=some o->b∉X.ex
 exfs:∀b∈X.ex,b∉X.fs
 funs:X.s₀.heap.FunFrames X.base X.outer
 frf:∀b∈X.fs,X.H₀ b=none
structure Inv(X:Cx)(pins:AO)(σ:List (Option V))(H:Hp)(s:Shared):Prop where
 ok:X.Ok
 os:s.os=X.s₀.os
 bare:AllBare s.gens
 base:Un X.fs X.ex X.H₀ H X.s₀.heap s.heap
 loc:∃m,s.heap.Ns X.env.locals m/\∀(i:Nat) (x:Str) (v:V),X.N[i]?=some x->σ[i]?=some (some v)->Vis X.env.scope x->∃u,zQ v u/\Look X.env s.heap m x u
 cell:∀x c,X.env.cells.lookup x=some c->∃v,s.heap.IsCell c v
 free:H X.env.locals=none
 freeC:∀x c,X.env.cells.lookup x=some c->H c=none
 pin:∀p∈X.pn++pins,s.heap.get? p.1=some p.2/\H p.1=none/\p.1≠X.env.locals/\p.1∉X.fs/\∀v,p.2.data≠.cell v
 hok:HOk X.prog X.w H s.heap
 len:σ.length=X.N.length
variable{x:Str}{it:Addr}{N:List Str}{i j:Nat}{M:Model}{A:Around}{E:VS}{v:V}{Q:Unit->Shared->Prop}{s':Shared}
section
variable{X:Cx}{pins:AO}{σ:List (Option V)}{H H':Hp}{s:Shared}{h':Heap}
theorem Cx.Ok.nofr(ok:X.Ok){b:Addr}(e:X.base.get? b=some o):b∉X.fs:=λhb=>by have:=(ok.funs.mem hb).1;rw[e]at this;cases this
theorem Inv.bs(I:Inv X pins σ H s):∀b o,X.base.get? b=some o->s.heap.get? b=some o/\H b=none:=λb o e=>
 ⟨I.base.keep b o (I.ok.bs b o e).1 (I.ok.bs b o e).2 (I.ok.nofr e) (I.ok.noex b o e),I.base.free b o (I.ok.bs b o e).1 (I.ok.bs b o e).2 (I.ok.noex b o e)⟩
theorem Inv.bk(I:Inv X pins σ H s):∀b o,X.base.get? b=some o->s.heap.get? b=some o:=λb o e=>(I.bs b o e).1
theorem Inv.mod(I:Inv X pins σ H s):Mod X.K X.mg X.base:=I.ok.mod
theorem Inv.kIn(I:Inv X pins σ H s):X.K.In s.heap:=I.ok.mod.kin.keeps I.bk
theorem Inv.lt(I:Inv X pins σ H s):X.env.locals<s.heap.objs.size:=let⟨_,hn,_⟩:=I.loc;hn.lt
theorem Inv.sz(I:Inv X pins σ H s):X.s₀.heap.objs.size<=s.heap.objs.size:=Nat.le_trans I.ok.above (Nat.le_of_lt I.lt)
theorem Inv.nofs(I:Inv X pins σ H s)(h:s.heap.objs.size<=a):a∉X.fs:=λhb=>by obtain⟨_,o,ho,_⟩:=I.ok.funs.mem hb;exact absurd (Nat.lt_of_lt_of_le (Heap.lt_size ho) (Nat.le_trans I.sz h)) (Nat.lt_irrefl _)
theorem Inv.cne(I:Inv X pins σ H s):∀x c,X.env.cells.lookup x=some c->c≠X.env.locals:=λx c e z=>by obtain⟨v,o,ho,hd⟩:=I.cell x c e;obtain⟨m,⟨o',es,ep,ho',hd',_⟩,_⟩:=I.loc;rw[z,ho']at ho;cases ho;rw[hd']at hd;cases hd
theorem Inv.funs(I:Inv X pins σ H s):s.heap.FunFrames X.base X.outer:=by
 have all:∀(l:List Env),(∀b∈frs l,b∈X.fs)->X.s₀.heap.FunFrames X.base l->s.heap.FunFrames X.base l:=by
  intro l;induction l with
  |nil=>intro _ _;trivial
  |cons env r ih=>
   intro hs hl;obtain⟨hk,⟨L,o,hf,hn,ho,hd⟩,hr⟩:=hl;have hL:L∈X.fs:=hs L (by unfold frs;rw[List.filterMap_cons,hf];exact List.mem_cons_self);obtain⟨sl,e⟩:=I.base.slot L o ho (I.ok.frf L hL) hL λz=>I.ok.exfs L z hL
   exact⟨hk,⟨L,_,hf,hn,e,hd⟩,ih (λb hb=>hs b (by unfold frs;rw[List.filterMap_cons,hf];exact List.mem_cons_of_mem _ hb)) hr⟩
 exact all X.outer (λ_ hb=>hb) I.ok.funs
theorem Inv.stack(I:Inv X pins σ H s):s.heap.FunFrames X.base X.stack:=by
 rcases I.ok.stk with e|⟨e,hf⟩
 ·rw[e];exact I.funs
 ·rw[e];obtain⟨m,hn,_⟩:=I.loc;refine .cons (by rw[I.ok.kind];decide) hf hn ?_ I.funs;exact Heap.get?_none_of_le (Nat.le_trans I.ok.bsz I.ok.above)
theorem Inv.stkSub(I:Inv X pins σ H s):∀b∈frs X.stack,b∈X.env.locals::X.fs:=λb hb=>by
 rcases I.ok.stk with e|⟨e,hf⟩
 ·rw[e]at hb;exact List.mem_cons_of_mem _ hb
 ·rw[e]at hb;unfold frs at hb;rw[List.filterMap_cons,hf]at hb;exact hb
theorem Inv.stkFree(I:Inv X pins σ H s):∀b∈frs X.stack,H b=none:=λb hb=>by
 rcases List.mem_cons.mp (I.stkSub b hb)with e|hb
 ·rw[e];exact I.free
 ·obtain⟨_,o,ho,_⟩:=I.ok.funs.mem hb;exact I.base.free b o ho (I.ok.frf b hb) λz=>I.ok.exfs b z hb
theorem Inv.step{g':Array GenState}{t':Nat}{d':Drawn}{ch:List Addr}(I:Inv X pins σ H s)(hch:∀b∈ch,(b∈X.ex\/X.s₀.heap.objs.size<=b)/\b≠X.env.locals/\(∀x c,X.env.cells.lookup x=some c->c≠b)/\∀p∈X.pn++pins,p.1≠b)(keep:∀b o,b≠X.env.locals->b∉X.fs->b∉ch->s.heap.get? b=some o->H b=none->h'.get? b=some o)(slot:∀b o,b≠X.env.locals->b∈X.fs->b∉ch->s.heap.get? b=some o->H b=none->∃sl,h'.get? b=some {o with slots:=sl})(free:∀b o,b∉ch->s.heap.get? b=some o->H b=none->H' b=none)(there:∀b o,b∉ch->s.heap.get? b=some o->∃o',h'.get? b=some o')(tups:∀b xs,H b=some (.tup xs)->H' b=some (.tup xs))(frzs:∀b o u,H b=some (.frz o u)->H' b=some (.frz o u))(tbls:∀b ps,H b=some (.tbl ps)->∃more,H' b=some (.tbl (ps++more)))(ns:∀m,s.heap.Ns X.env.locals m->h'.Ns X.env.locals m)(hok:HOk X.prog X.w H' h')(hg:AllBare g'):
  Inv X pins σ H' {s with heap:=h',gens:=g',drawn:=d',toks:=t'}:=by
 have neL:∀b o,X.s₀.heap.get? b=some o->b≠X.env.locals:=λb o e=>Nat.ne_of_lt (Nat.lt_of_lt_of_le (Heap.lt_size e) I.ok.above)
 have neC:∀b o,X.s₀.heap.get? b=some o->b∉X.ex->b∉ch:=λb o e hx hb=>by
  rcases(hch b hb).1 with z|z
  ·exact hx z
  ·exact absurd (Nat.lt_of_lt_of_le (Heap.lt_size e) z) (Nat.lt_irrefl _)
 have cellK:∀x c,X.env.cells.lookup x=some c->∀v,s.heap.IsCell c v->h'.IsCell c v:=λx c e v ⟨o,ho,hd⟩=>by
  have nch:c∉ch:=λz=>(hch c z).2.2.1 x c e rfl
  by_cases hc:c∈X.fs
  ·obtain⟨sl,q⟩:=slot c o (I.cne x c e) hc nch ho (I.freeC x c e);exact⟨_,q,hd⟩
  ·exact⟨o,keep c o (I.cne x c e) hc nch ho (I.freeC x c e),hd⟩
 refine⟨I.ok,I.os,hg,⟨λb o e n hb hx=>?_,λb o e n hb hx=>?_,λb o e n hx=>?_,λb o e hx=>?_,λb xs e=>tups b xs (I.base.tups b xs e),λb o xs e=>frzs b o xs (I.base.frzs b o xs e),λb ps e=>?_⟩,?_,λx c e=>?_,?_,λx c e=>?_,λp hp=>?_,hok,I.len⟩
 ·exact keep b o (neL b o e) hb (neC b o e hx) (I.base.keep b o e n hb hx) (I.base.free b o e n hx)
 ·obtain⟨sl,e1⟩:=I.base.slot b o e n hb hx;obtain⟨sl',e2⟩:=slot b _ (neL b o e) hb (neC b o e hx) e1 (I.base.free b o e n hx);exact⟨sl',e2⟩
 ·obtain⟨o',e1⟩:=I.base.there b o e hx;exact free b o' (neC b o e hx) e1 (I.base.free b o e n hx)
 ·obtain⟨o',e1⟩:=I.base.there b o e hx;exact there b o' (neC b o e hx) e1
 ·obtain⟨m1,e1⟩:=I.base.tbls b ps e;obtain⟨m2,e2⟩:=tbls b _ e1;exact⟨m1++m2,by rw[e2,Array.append_assoc]⟩
 ·obtain⟨m,hn,hl⟩:=I.loc;refine⟨m,ns m hn,λi x v e1 e2 e3=>?_⟩;obtain⟨u,r,l⟩:=hl i x v e1 e2 e3;refine⟨u,r,?_⟩;rcases l with l|⟨k,c,e,z⟩
  ·exact .inl l
  ·exact .inr ⟨k,c,e,cellK x c e _ z⟩
 ·obtain⟨v,z⟩:=I.cell x c e;exact⟨v,cellK x c e v z⟩
 ·obtain⟨m,⟨o,_,_,ho,_⟩,_⟩:=I.loc;exact free _ o (λz=>(hch _ z).2.1 rfl) ho I.free
 ·obtain⟨v,o,ho,hd⟩:=I.cell x c e;exact free c o (λz=>(hch c z).2.2.1 x c e rfl) ho (I.freeC x c e)
 ·obtain⟨e,n,ne,nf,d⟩:=I.pin p hp;have nch:p.1∉ch:=λz=>(hch p.1 z).2.2.2 p hp rfl
  exact⟨keep p.1 p.2 ne nf nch e n,free p.1 p.2 nch e n,ne,nf,d⟩
theorem Inv.un{t':Nat}(I:Inv X pins σ H s)(u:Un X.fs [] H H' s.heap h')(hok:HOk X.prog X.w H' h'):Inv X pins σ H' {s with heap:=h',toks:=t'}:=by
 obtain⟨m,⟨o,es,ep,ho,r⟩,_⟩:=id I.loc;obtain⟨sl,hL⟩:=u.any ho I.free (by simp);exact I.step (g':=s.gens) (d':=s.drawn) (ch:=[]) (λ_ z=>nomatch z) (λb o _ hb _ e n=>u.keep b o e n hb (by simp)) (λb o _ hb _ e n=>u.slot b o e n hb (by simp)) (λb o _ e n=>u.free b o e n (by simp)) (λb o _ e=>u.there b o e (by simp)) u.tups u.frzs u.tbls (λm' hm=>by
  obtain⟨o',es',ep',ho',r'⟩:=hm;rw[ho]at ho';cases ho'
  exact⟨_,es',ep',hL,r'⟩) hok I.bare
theorem Inv.call{g':Array GenState}{t':Nat}{d':Drawn}{ch:List Addr}(I:Inv X pins σ H s)(u:Un (frs X.stack) ch H H' s.heap h')(hok:HOk X.prog X.w H' h')(hg:AllBare g')(hch:∀b∈ch,(b∈X.ex\/X.s₀.heap.objs.size<=b)/\b≠X.env.locals/\(∀x c,X.env.cells.lookup x=some c->c≠b)/\∀p∈X.pn++pins,p.1≠b):
  Inv X pins σ H' {s with heap:=h',gens:=g',drawn:=d',toks:=t'}:=by
 obtain⟨m,⟨o,es,ep,ho,r⟩,_⟩:=id I.loc;obtain⟨sl,hL⟩:=u.any ho I.free λz=>(hch _ z).2.1 rfl
 exact I.step (ch:=ch) hch (λb o hL hb hc e n=>u.keep b o e n (λz=>(List.mem_cons.mp (I.stkSub b z)).elim hL hb) hc) (λb o _ _ hc e n=>u.any e n hc) (λb o hc e n=>u.free b o e n hc) (λb o hc e=>u.there b o e hc) u.tups u.frzs u.tbls (λm' hm=>by
  obtain⟨o',es',ep',ho',r'⟩:=hm;rw[ho]at ho';cases ho'
  exact⟨_,es',ep',hL,r'⟩) hok hg
theorem Inv.turned{t':Nat}(I:Inv X pins σ H s)(k:∀b o,b≠it->s.heap.get? b=some o->h'.get? b=some o)(hn:H it=none)(hL:it≠X.env.locals)(h1:it∈X.ex\/X.s₀.heap.objs.size<=it)(h2:∀x c,X.env.cells.lookup x=some c->c≠it)(h3:∀p∈X.pn++pins,p.1≠it):Inv X pins σ H {s with heap:=h',toks:=t'}:=by
 have nit:∀b u,H b=some u->b≠it:=λb u e z=>by rw[z,hn]at e;cases e
 refine I.step (g':=s.gens) (d':=s.drawn) (ch:=[it]) (λb hb=>?_) (λb o _ _ hc e _=>k b o (λz=>hc (by simp[z])) e) (λb o _ _ hc e _=>⟨o.slots,k b o (λz=>hc (by simp[z])) e⟩) (λ_ _ _ _ n=>n)
  (λb o hc e=>⟨o,k b o (λz=>hc (by simp[z])) e⟩) (λ_ _ e=>e) (λ_ _ _ e=>e) (λb ps e=>⟨#[],by rw[e];simp⟩) (λm hm=>?_) (λb u e=>?_) I.bare
 ·have e:b=it:=by simpa using hb
  subst e;exact⟨h1,hL,h2,h3⟩
 ·obtain⟨o,es,ep,ho,r⟩:=hm;exact⟨o,es,ep,k _ o (Ne.symm hL) ho,r⟩
 ·refine(I.hok b u e).stay (λc v hc q=>k c v ?_ q) (λ_ q=>q) λ_ _ q=>q
  rcases hc with z|z
  ·rw[z];exact nit b u e
  ·exact nit c _ z
theorem Inv.tok(I:Inv X pins σ H s)(t:Nat):Inv X pins σ H {s with toks:=t}:=I.un (h':=s.heap) (t':=t) Un.refl I.hok
theorem Inv.kept{t':Nat}(I:Inv X pins σ H s)(k:∀b u,s.heap.get? b=some u->h'.get? b=some u):Inv X pins σ H {s with heap:=h',toks:=t'}:=I.un (Un.kept k) (I.hok.kept k)
theorem Inv.laid{a:Addr}{o:HO}{t':Nat}(I:Inv X pins σ H s)(k:∀b u,s.heap.get? b=some u->h'.get? b=some u)(hp:s.heap.objs.size<=a)(new:qZ X.prog X.w (upd H a o) h' a o):
  Inv X pins σ (upd H a o) {s with heap:=h',toks:=t'}:=I.un (Un.laid k hp (I.hok.fresh hp)) (I.hok.laid k hp new)
theorem Inv.write{x e:Addr}{o:HO}{t':Nat}(I:Inv X pins σ H s)(mu:Mut (H x))(he:e=x\/H e=some (.own x))(k:∀b u,b≠e->s.heap.get? b=some u->h'.get? b=some u)(heo:∃u,h'.get? e=some u)(new:qZ X.prog X.w (upd H x o) h' x o):Inv X pins σ (upd H x o) {s with heap:=h',toks:=t'}:=I.un (Un.write mu he k heo) (I.hok.write mu he k heo new)
theorem Inv.pins_of{pins':AO}(I:Inv X pins σ H s)(h:∀p∈pins',s.heap.get? p.1=some p.2/\H p.1=none/\p.1≠X.env.locals/\p.1∉X.fs/\∀v,p.2.data≠.cell v):Inv X pins' σ H s:=
 ⟨I.ok,I.os,I.bare,I.base,I.loc,I.cell,I.free,I.freeC,λp hp=>(List.mem_append.mp hp).elim (λz=>I.pin p (List.mem_append_left _ z)) (h p),I.hok,I.len⟩
theorem zes(hN:N.Nodup)(a:N[i]?=some x)(b:N[j]?=some x):i=j:=by obtain⟨h1,e1⟩:=List.getElem?_eq_some_iff.mp a;obtain⟨h2,e2⟩:=List.getElem?_eq_some_iff.mp b;exact(List.getElem_inj hN).mp (e1.trans e2.symm)
theorem zeX(I:Inv X pins σ H s)(hN:X.N.Nodup)(hi:X.N[i]?=some x)(hx:Loc X.env.scope x)(r:zQ v u)(h:∀s',Inv X pins (σ.set i (some v)) H s'->(∃a,Heap.SameBut a s.heap s'.heap/\(a=X.env.locals\/X.env.cells.lookup x=some a))->Q () s')(hf:X.fn x=true\/X.env.scope.names.lookup x=some .local:=by first|exact .inl rfl|exact .inr rfl|assumption):wpAny M A (storeName X.env x u) Q E s:=by
 obtain⟨m,hn,hl⟩:=id I.loc;have hcls:(X.env.scope.kind== .class||(X.env.scope.kind== .module&&X.env.locals !=X.env.globals))=false:=by rw[I.ok.kind];rfl
 have hiσ:i<σ.length:=by rw[I.len];exact(List.getElem?_eq_some_iff.mp hi).1
 have cne:=I.cne;have tracked:∀{a:Addr}{h':Heap},(∃o,s.heap.get? a=some o/\H a=none)->Heap.SameBut a s.heap h'->HOk X.prog X.w H h':=λ{a h'} ha hs b ob e=>by
  obtain⟨_,_,hfree⟩:=ha;refine(I.hok b ob e).stay (λc w' hc q=>(hs.2 c ?_).trans q) (λ_ q=>q) λ_ _ q=>q
  rintro rfl;rcases hc with rfl|hc
  ·rw[hfree]at e;cases e
  ·rw[hfree]at hc;cases hc
 rcases hx with hk|hk
 ·refine wpAny_storeName_local hk hn (λh' hn' hs=>?_) hcls;obtain⟨oL,_,_,hoL,_⟩:=id hn;refine h _ ⟨I.ok,I.os,I.bare,⟨λb o e n hb hx=>?_,λb o e n hb hx=>?_,I.base.free,λb o e hx=>?_,I.base.tups,I.base.frzs,I.base.tbls⟩,⟨_,hn',λj y v' e1 e2 e3=>?_⟩,λy c e=>?_,I.free,I.freeC,λp hp=>?_,tracked ⟨oL,hoL,I.free⟩ hs,by simpa using I.len⟩ ⟨_,hs,.inl rfl⟩
  ·exact(hs.2 b (Nat.ne_of_lt (Nat.lt_of_lt_of_le (Heap.lt_size e) I.ok.above))).trans (I.base.keep b o e n hb hx)
  ·obtain⟨sl,e1⟩:=I.base.slot b o e n hb hx;exact⟨sl,(hs.2 b (Nat.ne_of_lt (Nat.lt_of_lt_of_le (Heap.lt_size e) I.ok.above))).trans e1⟩
  ·obtain⟨o',e1⟩:=I.base.there b o e hx;exact⟨o',(hs.2 b (Nat.ne_of_lt (Nat.lt_of_lt_of_le (Heap.lt_size e) I.ok.above))).trans e1⟩
  ·by_cases hj:j=i
   ·subst hj;rw[hi]at e1;cases e1
    rw[List.getElem?_set_self hiσ]at e2;cases e2
    exact⟨u,r,.inl ⟨hk,by simp⟩⟩
   ·rw[List.getElem?_set_ne (Ne.symm hj)]at e2;obtain⟨u',r',q⟩:=hl j y v' e1 e2 e3;refine⟨u',r',?_⟩;rcases q with⟨k,e⟩|⟨k,c,e,z⟩
    ·refine .inl ⟨k,?_⟩
     have:y≠x:=λe=>hj (zes hN e1 (e▸hi))
     simp[this,e]
    ·exact .inr ⟨k,c,e,z.sameBut hs (cne y c e)⟩
  ·obtain⟨w',z⟩:=I.cell y c e;exact⟨w',z.sameBut hs (cne y c e)⟩
  ·obtain⟨e,n,ne,nf,d⟩:=I.pin p hp;exact⟨(hs.2 p.1 ne).trans e,n,ne,nf,d⟩
 ·have hfn:X.fn x=true:=by
   rcases hf with z|z
   ·exact z
   ·rw[z]at hk;cases hk
  obtain⟨c,hc⟩:=I.ok.has x (.inl hk);obtain⟨w',z⟩:=I.cell x c hc;refine wpAny_storeName_cell I.ok.kind hk hc z (λh' hc' hs=>?_);obtain⟨oc,hoc,hocd⟩:=id z;refine h {s with heap:=h'} ⟨I.ok,I.os,I.bare,⟨λb o e n hb hx=>?_,λb o e n hb hx=>?_,I.base.free,λb o e hx=>?_,I.base.tups,I.base.frzs,I.base.tbls⟩,⟨m,hn.sameBut hs (Ne.symm (cne x c hc)),λj y v' e1 e2 e3=>?_⟩,λy c' e=>?_,I.free,I.freeC,λp hp=>?_,tracked ⟨oc,hoc,I.freeC x c hc⟩ hs,by simpa using I.len⟩ ⟨c,hs,.inr hc⟩
  ·exact(hs.2 b (Nat.ne_of_lt (Nat.lt_of_lt_of_le (Heap.lt_size e) (I.ok.cab x c hfn hc)))).trans (I.base.keep b o e n hb hx)
  ·obtain⟨sl,e1⟩:=I.base.slot b o e n hb hx;exact⟨sl,(hs.2 b (Nat.ne_of_lt (Nat.lt_of_lt_of_le (Heap.lt_size e) (I.ok.cab x c hfn hc)))).trans e1⟩
  ·obtain⟨o',e1⟩:=I.base.there b o e hx;exact⟨o',(hs.2 b (Nat.ne_of_lt (Nat.lt_of_lt_of_le (Heap.lt_size e) (I.ok.cab x c hfn hc)))).trans e1⟩
  ·by_cases hj:j=i
   ·subst hj;rw[hi]at e1;cases e1
    rw[List.getElem?_set_self hiσ]at e2;cases e2
    exact⟨u,r,.inr ⟨.inl hk,c,hc,hc'⟩⟩
   ·rw[List.getElem?_set_ne (Ne.symm hj)]at e2;obtain⟨u',r',q⟩:=hl j y v' e1 e2 e3;refine⟨u',r',?_⟩;rcases q with q|⟨k,c',e,z'⟩
    ·exact .inl q
    ·refine .inr ⟨k,c',e,z'.sameBut hs ?_⟩;rintro rfl;exact hj (zes hN e1 (I.ok.inj _ _ _ e hc▸hi))
  ·by_cases hcc:c'=c
   ·subst hcc;exact⟨_,hc'⟩
   ·obtain⟨w2,z2⟩:=I.cell y c' e;exact⟨w2,z2.sameBut hs hcc⟩
  ·obtain⟨e,n,ne,nf,d⟩:=I.pin p hp;refine⟨(hs.2 p.1 ?_).trans e,n,ne,nf,d⟩;intro q;rw[q,hoc]at e;have q':oc=p.2:=Option.some.inj e;exact d w' (by rw[←q'];exact hocd)
theorem zeg(I:Inv X pins σ H s)(hN:X.N.Nodup)(hi:X.N[i]?=some x)(hx:Loc X.env.scope x)(r:zQ v u)(h:∀s',Inv X pins (σ.set i (some v)) H s'->Q () s')(hf:X.fn x=true\/X.env.scope.names.lookup x=some .local:=by first|exact .inl rfl|exact .inr rfl|assumption):wpAny M A (storeName X.env x u) Q E s:=
 zeX I hN hi hx r (λs' I' _=>h s' I') hf
theorem Inv.call'{ch:List Addr}(I:Inv X pins σ H s)(ho:s'.os=s.os)(u:Un (frs X.stack) ch H H' s.heap s'.heap)(hok:HOk X.prog X.w H' s'.heap)(hg:AllBare s'.gens)(hch:∀b∈ch,(b∈X.ex\/X.s₀.heap.objs.size<=b)/\b≠X.env.locals/\(∀x c,X.env.cells.lookup x=some c->c≠b)/\∀p∈X.pn++pins,p.1≠b):Inv X pins σ H' s':=by obtain⟨h',g',d',t',o'⟩:=s';have e:o'=s.os:=ho;subst e;exact I.call (g':=g') (t':=t') (d':=d') u hok hg hch
end
abbrev XK:=Value->Option Addr->Hp->Prop
abbrev St:=List (Option V)
abbrev VK:=V->Hp->Prop
abbrev TE:=St->Hp->VK->Prop
abbrev TT:=St->Hp->(Bool->Hp->Prop)->Prop
abbrev TA:=St->Hp->(List V->Hp->Prop)->Prop
structure Ends where
 nx:St->Hp->Prop
 rt:VK
 bk:St->Hp->Prop:=λ_ _=>False
 ct:St->Hp->Prop:=λ_ _=>False
abbrev TS:=Ends->St->Hp->Prop
def EP(X:Cx)(pins:AO)(σ:St)(Q:VK)(u:Value)(s':Shared):Prop:=∃v H',Inv X pins σ H' s'/\zQ v u/\Q v H'
def TP(X:Cx)(pins:AO)(σ:St)(Q:Bool->Hp->Prop)(b:Bool)(s':Shared):Prop:=∃H',Inv X pins σ H' s'/\Q b H'
def AP(X:Cx)(pins:AO)(σ:St)(Q:List V->Hp->Prop)(us:List Value)(s':Shared):Prop:=∃vs H',Inv X pins σ H' s'/\zL vs us/\Q vs H'
def SP(X:Cx)(pins:AO)(D:Ends)(f:Flow)(s':Shared):Prop:=
 match f with
 | .next=>∃σ' H',Inv X pins σ' H' s'/\D.nx σ' H'
 | .brk=>∃σ' H',Inv X pins σ' H' s'/\D.bk σ' H'
 | .cont=>∃σ' H',Inv X pins σ' H' s'/\D.ct σ' H'
 | .ret u=>∃v σ' H',Inv X pins σ' H' s'/\zQ v u/\D.rt v H'
def PE(X:Cx)(e:Expr)(t:TE):Prop:=
 ∀(pins:AO) (s:Shared) (σ:St) (H:Hp) (Q:VK),Inv X pins σ H s->t σ H Q->wpAny (model X.prog X.w) X.A (eval e X.env) (EP X pins σ Q) X.xe s
def PT(X:Cx)(e:Expr)(t:TT):Prop:=
 ∀(pins:AO) (s:Shared) (σ:St) (H:Hp) (Q:Bool->Hp->Prop),Inv X pins σ H s->t σ H Q->wpAny (model X.prog X.w) X.A (isTrue e X.env (eval e X.env)) (TP X pins σ Q) X.xe s
def PW(X:Cx)(e:Expr)(t:TT):Prop:=
 ∀(whole:Sem Value) (pins:AO) (s:Shared) (σ:St) (H:Hp) (Q:Bool->Hp->Prop),Inv X pins σ H s->t σ H Q->wpAny (model X.prog X.w) X.A (isTrue e X.env whole) (TP X pins σ Q) X.xe s
variable{X:Cx}{e:Expr}
theorem PW.pt{t:TT}(h:PW X e t):PT X e t:=h _
def PA(X:Cx)(es:List Expr)(t:TA):Prop:=
 ∀(pos:Pos) (pins:AO) (s:Shared) (σ:St) (H:Hp) (Q:List V->Hp->Prop),Inv X pins σ H s->t σ H Q->wpAny (model X.prog X.w) X.A (spliced (backTo pos (starEach es X.env))) (AP X pins σ Q) X.xe s
def PS(X:Cx)(st:Stmt)(t:TS):Prop:=
 ∀(pins:AO) (s:Shared) (σ:St) (H:Hp) (D:Ends),Inv X pins σ H s->t D σ H->wpAny (model X.prog X.w) X.A (exec st X.env) (SP X pins D) X.xe s
def PSs(X:Cx)(st:List Stmt)(t:TS):Prop:=
 ∀(pins:AO) (s:Shared) (σ:St) (H:Hp) (D:Ends),Inv X pins σ H s->t D σ H->wpAny (model X.prog X.w) X.A (execs st X.env) (SP X pins D) X.xe s
variable{s:Shared}
theorem thn{t:Sem α}{Q Q':α->Shared->Prop}(h:wpAny M A t Q E s)(hQ:∀a s,Q a s->Q' a s):wpAny M A t Q' E s:=wpAny_mono h hQ λ_ _ x=>x
variable{t:TE}{pos:Pos}{pins:AO}{σ:St}
section
variable{X:Cx}
def vJ(i:Nat):TE:=λσ H Q=>∃v,σ[i]?=some (some v)/\Q v H
def tC(v:V):TE:=λ_ H Q=>Q v H
theorem yE(hN:X.N[i]?=some x)(hv:Vis X.env.scope x)(hd:(x==("__debug__":Str))=false:=by decide)(hcd:(x==("__classdict__":Str))=false:=by decide):PE X (.Name x pos) (vJ i):=by
 intro pins s σ H Q I h;obtain⟨v,e,h⟩:=h;obtain⟨m,hn,hl⟩:=I.loc;obtain⟨u,r,l⟩:=hl i x v hN e hv;have fin:EP X pins σ Q u s:=⟨v,H,I,r,h⟩;rcases l with⟨hk,hm⟩|⟨hk,c,hc,hcell⟩
 ·exact wpAny_Name (wpAny_loadName_local I.ok.kind hk hn hm fin) hd
 ·rcases hk with hk|hk
  ·exact wpAny_Name (wpAny_loadName_cell I.ok.kind hk hc hcell fin) hd
  ·exact wpAny_Name (wpAny_loadName_free I.ok.kind hk hc hcell fin hcd) hd
theorem zoW{i j pos}:PE X (.Constant (.int i) j pos) (tC (.int i)):=λ_ _ _ H _ I h=>wpAny_Constant_int ⟨.int i,H,I.tok _,⟨_,rfl⟩,h⟩
theorem zqL{b j pos}:PE X (.Constant (.bool b) j pos) (tC (.bl b)):=λ_ _ _ H _ I h=>Constant_bool ⟨.bl b,H,I,rfl,h⟩
theorem zoU{j pos}:PE X (.Constant .none j pos) (tC .non):=λ_ _ _ H _ I h=>Constant_none ⟨.non,H,I,rfl,h⟩
theorem zhg{x j pos}:PE X (.Constant (.str x) j pos) (tC (.str x)):=λ_ _ _ H _ I h=>Calls.Constant_str ⟨.str x,H,I.tok _,⟨_,rfl⟩,h⟩
def Gl(X:Cx)(x:Str):Prop:=X.env.kindOf x=some .globalImplicit
theorem zbP{Q:VS}(I:Inv X pins σ H s)(hg:Gl X x)(hm:X.mg x=some u)(h:Q u s)(hd:(x==("__debug__":Str))=false:=by decide):wpAny (model X.prog X.w) X.A (eval (.Name x pos) X.env) Q E s:=
 Calls.Name_function_global I.ok.kind hg (Calls.loadGlobal_global (by rw[I.ok.glob];exact I.mod.glob.keeps I.bk) hm h) hd
theorem zdj{Q:VS}(I:Inv X pins σ H s)(hg:Gl X x)(hm:X.mg x=none)(hv:bootBuiltins x=some u)(h:Q u s)(hn:x≠"__name__":=by decide)(hd:(x==("__debug__":Str))=false:=by decide):wpAny (model X.prog X.w) X.A (eval (.Name x pos) X.env) Q E s:=by obtain⟨mb,h1,h2⟩:=I.mod.blt;exact Calls.Name_function_global I.ok.kind hg (Calls.loadGlobal_builtin (by rw[I.ok.glob];exact I.mod.glob.keeps I.bk) hm (by rw[I.ok.blt];exact h1.keeps I.bk) ((h2 x hn).trans hv) h) hd
theorem zji{v:V}(hg:Gl X x)(hm:X.mg x=some u)(r:zQ v u)(hd:(x==("__debug__":Str))=false:=by decide):PE X (.Name x pos) (tC v):=
 λ_ _ _ H _ I h=>zbP I hg hm ⟨v,H,I,r,h⟩ hd
theorem zjn{v:V}(hg:Gl X x)(hm:X.mg x=none)(hv:bootBuiltins x=some u)(r:zQ v u)(hn:x≠"__name__":=by decide)(hd:(x==("__debug__":Str))=false:=by decide):PE X (.Name x pos) (tC v):=
 λ_ _ _ H _ I h=>zdj I hg hm hv ⟨v,H,I,r,h⟩ hn hd
variable{a b:Expr}{ta tb:TE}{pos:Pos}
def tB(t:TE):TT:=λσ H Q=>t σ H λx H1=>∃c,x=.bl c/\Q c H1
theorem zoG(h:PE X e t)(he:∀whole,isTrue e X.env whole=(do let v ←whole;standAt e.pos;holding [v] (truthy v)):=by intro _;rfl):PT X e (tB t):=by
 intro pins s σ H Q I hw;refine isTrue_plain (thn (h pins s σ H _ I hw) λv s1 ⟨x,H1,I1,r1,q1⟩=>?_) (he _);obtain⟨d,rfl,q⟩:=q1;cases r1
 exact wpAny_truthy_bool ⟨H1,I1,q⟩
variable{tA tB':TT}{rest:List Expr}
def tAnd(t u:TT):TT:=λσ H Q=>t σ H λc H1=>if c=true then u σ H1 Q else Q false H1
def tOr(t u:TT):TT:=λσ H Q=>t σ H λc H1=>if c=true then Q true H1 else u σ H1 Q
def tNot(t:TT):TT:=λσ H Q=>t σ H λc H1=>Q (!c) H1
theorem ziX(ha:PT X a tA):PW X (.BoolOp .And [a] pos) tA:=by
 intro wh pins s σ H Q I h;refine isTrue_and (thn (ha pins s σ H Q I h) λc s1 e=>?_);cases c with
 |true=>exact isTrue_and_nil e
 |false=>exact e
theorem zoE(ha:PT X a tA):PW X (.BoolOp .Or [a] pos) tA:=by
 intro wh pins s σ H Q I h;refine isTrue_or (thn (ha pins s σ H Q I h) λc s1 e=>?_);cases c with
 |false=>exact isTrue_or_nil e
 |true=>exact e
theorem zhc(ha:PT X a tA)(hb:PW X (.BoolOp .And (b::rest) pos) tB'):PW X (.BoolOp .And (a::b::rest) pos) (tAnd tA tB'):=by
 intro wh pins s σ H Q I h;refine isTrue_and (thn (ha pins s σ H _ I h) λc s1 ⟨H1,I1,q1⟩=>?_);cases c with
 |true=>exact hb wh pins s1 σ H1 Q I1 q1
 |false=>exact⟨H1,I1,q1⟩
theorem zoF(ha:PT X a tA)(hb:PW X (.BoolOp .Or (b::rest) pos) tB'):PW X (.BoolOp .Or (a::b::rest) pos) (tOr tA tB'):=by
 intro wh pins s σ H Q I h;refine isTrue_or (thn (ha pins s σ H _ I h) λc s1 ⟨H1,I1,q1⟩=>?_);cases c with
 |true=>exact⟨H1,I1,q1⟩
 |false=>exact hb wh pins s1 σ H1 Q I1 q1
theorem zoH(ha:PT X a tA):PT X (.UnaryOp .Not a pos) (tNot tA):=by intro pins s σ H Q I h;exact isTrue_not (ha pins s σ H (λc H1=>Q (!c) H1) I h)
def zqq(ta tb:TE):TE:=λσ H Q=>ta σ H λx H1=>∃c,x=.bl c/\if c=true then tb σ H1 Q else Q (.bl false) H1
theorem zoT{op}(h:PE X a t):PE X (.BoolOp op [a] pos) t:=λpins s σ H Q I hw=>BoolOp_one (h pins s σ H Q I hw)
theorem zmw(ha:PE X a ta)(hb:PE X (.BoolOp .And (b::rest) pos) tb):PE X (.BoolOp .And (a::b::rest) pos) (zqq ta tb):=by
 intro pins s σ H Q I h;refine BoolOp_and (thn (ha pins s σ H _ I h) λv s1 ⟨x,H1,I1,r1,q1⟩=>?_);obtain⟨c,rfl,q1⟩:=q1;cases r1
 refine wpAny_truthy_bool ?_;cases c with
 |true=>exact hb pins s1 σ H1 Q I1 q1
 |false=>exact⟨.bl false,H1,I1,rfl,q1⟩
end
def SqL(K:Fg)(H:Hp)(a:Addr)(xs:List V):Prop:=
 Rd H a (.lst xs)\/
  ∃(o:Obj) (its:Array Value) (n:Nat),K.lookup a=some o/\o.cls=.type "list"/\o.dict=none/\o.data=.seq its n/\its.size<=sizeLine/\zL xs its.toList
def SqT(K:Fg)(H:Hp)(a:Addr)(xs:List V):Prop:=
 Rd H a (.tup xs)\/
  ∃(o:Obj) (its:Array Value) (n:Nat),K.lookup a=some o/\o.cls=.type "tuple"/\o.data=.seq its n/\its.size<=sizeLine/\zL xs its.toList
noncomputable def absV:Value->Option V
 | .none=>some .non
 | .bool b=>some (.bl b)
 | .int i _=>some (.int i)
 | .str x _=>some (.str x)
 | .bytes b _=>some (.byt b)
 | .float b _=>some (.flt b)
 | .ref a=>some (.ref a)
 | .type n=>some (.ty n)
 |_=>none
theorem zQ.abs{x:V}(r:zQ x u):absV u=some x:=by
 cases x with
 |non=>cases r;rfl
 |bl _=>cases r;rfl
 |int _=>obtain⟨t,rfl⟩:=r;rfl
 |str _=>obtain⟨t,rfl⟩:=r;rfl
 |byt _=>obtain⟨t,rfl⟩:=r;rfl
 |flt _=>obtain⟨t,rfl⟩:=r;rfl
 |ref _=>cases r;rfl
 |ty _=>cases r;rfl
theorem zQ.inj{x y:V}(r:zQ x u)(q:zQ y u):x=y:=Option.some.inj (r.abs.symm.trans q.abs)
theorem zL.inj:∀{xs ys:List V}{us:List Value},zL xs us->zL ys us->xs=ys
 |_,_,_,.nil,.nil=>rfl
 |_,_,_,.cons r t,.cons r' t'=>by rw[r.inj r',zL.inj t t']
variable{K:Fg}
section
variable{X:Cx}{pins:AO}{σ:St}{H:Hp}{s:Shared}{a:Addr}{xs ys:List V}
theorem SqL.of(h:H a=some (.lst xs)):SqL K H a xs:=.inl (.inl h)
theorem SqT.of(h:H a=some (.tup xs)):SqT K H a xs:=.inl (.inl h)
theorem Inv.list(I:Inv X pins σ H s)(h:SqL X.K H a xs):∃its:List Value,zL xs its/\PlainL s.heap a its.toArray/\xs.length<=sizeLine:=by
 rcases h with h|⟨o,its,n,hk,hc,hd,hs,hz,r⟩
 ·obtain⟨z,its,n,r,e⟩:=h.ok I.hok;exact⟨its,r,⟨_,n,e,rfl,rfl,rfl⟩,z⟩
 ·refine⟨its.toList,r,⟨o,n,I.kIn a o hk,hc,hd,by simpa using hs⟩,?_⟩;have e:=r.length;simp only[Array.length_toList]at e;omega
theorem Inv.tuple(I:Inv X pins σ H s)(h:SqT X.K H a xs):∃its:List Value,zL xs its/\IsTup s.heap a its.toArray/\xs.length<=sizeLine:=by
 rcases h with h|⟨o,its,n,hk,hc,hs,hz,r⟩
 ·obtain⟨z,its,r,p⟩:=h.ok I.hok;exact⟨its,r,p,z⟩
 ·refine⟨its.toList,r,⟨o,I.kIn a o hk,hc,n,by simpa using hs⟩,?_⟩;have e:=r.length;simp only[Array.length_toList]at e;omega
theorem Inv.list_inj(I:Inv X pins σ H s)(h:SqL X.K H a xs)(h':SqL X.K H a ys):xs=ys:=by
 obtain⟨its,r,⟨o,n,e,_,_,d⟩,_⟩:=I.list h;obtain⟨its',r',⟨o',n',e',_,_,d'⟩,_⟩:=I.list h';rw[e]at e';cases e'
 rw[d]at d';injection d' with d1 _
 have:its=its':=by simpa using congrArg Array.toList d1
 subst this;exact r.inj r'
theorem Inv.tuple_inj(I:Inv X pins σ H s)(h:SqT X.K H a xs)(h':SqT X.K H a ys):xs=ys:=by
 obtain⟨its,r,⟨o,e,_,n,d⟩,_⟩:=I.tuple h;obtain⟨its',r',⟨o',e',_,n',d'⟩,_⟩:=I.tuple h';rw[e]at e';cases e'
 rw[d]at d';injection d' with d1 _
 have:its=its':=by simpa using congrArg Array.toList d1
 subst this;exact r.inj r'
end
abbrev Cx.wish(X:Cx)(E:VS):Cx:={X with xe:=E}
abbrev Cx.nox(X:Cx):Cx:=X.wish λ_ _=>False
theorem Cx.Ok.wish(ok:X.Ok)(E:VS):(X.wish E).Ok:=
 ⟨ok.mod,ok.kind,ok.glob,ok.blt,ok.above,ok.inj,ok.has,ok.cab,ok.hd,ok.frames,ok.stk,ok.exf,ok.bs,ok.bsz,ok.noex,ok.exfs,ok.funs,ok.frf⟩
theorem Cx.Ok.unwish(ok:(X.wish E).Ok):X.Ok:=
 ⟨ok.mod,ok.kind,ok.glob,ok.blt,ok.above,ok.inj,ok.has,ok.cab,ok.hd,ok.frames,ok.stk,ok.exf,ok.bs,ok.bsz,ok.noex,ok.exfs,ok.funs,ok.frf⟩
section
variable{X:Cx}{pins:AO}{σ:St}{H:Hp}{s:Shared}{E:VS}
theorem Inv.wish(I:Inv X pins σ H s)(E:VS):Inv (X.wish E) pins σ H s:=⟨I.ok.wish E,I.os,I.bare,I.base,I.loc,I.cell,I.free,I.freeC,I.pin,I.hok,I.len⟩
theorem Inv.unwish(I:Inv (X.wish E) pins σ H s):Inv X pins σ H s:=⟨I.ok.unwish,I.os,I.bare,I.base,I.loc,I.cell,I.free,I.freeC,I.pin,I.hok,I.len⟩
theorem SP.unwish{D:Ends}{f:Flow}(h:SP (X.wish E) pins D f s'):SP X pins D f s':=by
 cases f with
 |next=>obtain⟨σ',H',I,q⟩:=h;exact⟨σ',H',I.unwish,q⟩
 |brk=>obtain⟨σ',H',I,q⟩:=h;exact⟨σ',H',I.unwish,q⟩
 |cont=>obtain⟨σ',H',I,q⟩:=h;exact⟨σ',H',I.unwish,q⟩
 |ret u=>obtain⟨v,σ',H',I,r,q⟩:=h;exact⟨v,σ',H',I.unwish,r,q⟩
theorem PSs.nox{st:List Stmt}{t:TS}(h:PSs X.nox st t):PSs X st t:=λpins s σ H D I hw=>
 wpAny_mono (h pins s σ H D (I.wish _) hw) (λ_ _ q=>q.unwish) λ_ _ z=>False.elim z
end
variable{c:Expr}{tc:TT}
section
variable{X:Cx}{st:Stmt}{rest:List Stmt}{t u:TS}{e:Expr}{te:TE}{pos:Pos}
def zqp:TS:=λD σ H=>D.nx σ H
def tSeq(t u:TS):TS:=λD σ H=>t {D with nx:=u D} σ H
theorem znf:PSs X [] zqp:=λ_ _ σ H _ I h=>wpAny_execs_nil ⟨σ,H,I,h⟩
theorem zep(h1:PS X st t)(h2:PSs X rest u):PSs X (st::rest) (tSeq t u):=by
 intro pins s σ H D I h;refine wpAny_execs_cons (thn (h1 pins s σ H {D with nx:=u D} I h) λf s1 q=>?_);cases f with
 |next=>
  obtain⟨σ',H',I',q⟩:=q;exact h2 pins s1 σ' H' D I' q
 |ret v=>exact q
 |brk=>exact q
 |cont=>exact q
theorem zeo(h1:PS X st t):PSs X [st] t:=by
 intro pins s σ H D I h;refine wpAny_execs_cons (thn (h1 pins s σ H D I h) λf s1 q=>?_);cases f with
 |next=>exact wpAny_execs_nil q
 |ret v=>exact q
 |brk=>exact q
 |cont=>exact q
theorem Inv.quiet(I:Inv X pins σ H s):interactive X.env=false:=by simp[interactive,I.ok.kind]
def ziD(te:TE):TS:=λD σ H=>te σ H λ_ H1=>D.nx σ H1
theorem zcU(he:PE X e te)(hs:swapsWith e none pos.line X.env=pure false:=by rfl):PS X (.Expr e pos) (ziD te):=by intro pins s σ H D I h;exact wpAny_Expr_any (thn (he pins s σ H _ I h) λv s1 ⟨x,H1,I1,r1,q1⟩=>⟨σ,H1,I1,q1⟩) I.quiet hs
def tRet(te:TE):TS:=λD σ H=>te σ H D.rt
theorem zdN(he:PE X e te):PS X (.Return (some e) pos) (tRet te):=by intro pins s σ H D I h;exact wpAny_Return_some (thn (he pins s σ H _ I h) λv s1 ⟨x,H1,I1,r1,q1⟩=>⟨x,σ,H1,I1,r1,q1⟩)
def tIfS(c:TT)(t u:TS):TS:=λD σ H=>c σ H λb H1=>if b=true then t D σ H1 else u D σ H1
theorem zoI{a b:List Stmt}(hc:PT X c tc)(ha:PSs X a t)(hb:PSs X b u):PS X (.If c a b pos) (tIfS tc t u):=by
 intro pins s σ H D I h;refine wpAny_If (thn (hc pins s σ H _ I h) λd s1 ⟨H1,I1,q1⟩=>?_);cases d with
 |true=>exact ha pins s1 σ H1 D I1 q1
 |false=>exact hb pins s1 σ H1 D I1 q1
def zom:TS:=λ_ _ _=>False
theorem zcT{sts:List Stmt}:PSs X sts zom:=λ_ _ _ _ _ _ h=>h.elim
end
abbrev TG:=V->St->Hp->(St->Hp->Prop)->Prop
abbrev TGs:=List V->St->Hp->(St->Hp->Prop)->Prop
def PG(X:Cx)(target:Expr)(t:TG):Prop:=
 ∀(pins:AO) (s:Shared) (σ:St) (H:Hp) (v:V) (u:Value) (Q:St->Hp->Prop),Inv X pins σ H s->zQ v u->t v σ H Q->
  wpAny (model X.prog X.w) X.A (assign target X.env u) (λ_ s'=>∃σ' H',Inv X pins σ' H' s'/\Q σ' H') X.xe s
def PGs(X:Cx)(ts:List Expr)(t:TGs):Prop:=
 ∀(pins:AO) (s:Shared) (σ:St) (H:Hp) (vs:List V) (us:List Value) (Q:St->Hp->Prop),Inv X pins σ H s->zL vs us->t vs σ H Q->
  wpAny (model X.prog X.w) X.A (assignInOrder ((assignEach ts X.env).map (·.2)) us) (λ_ s'=>∃σ' H',Inv X pins σ' H' s'/\Q σ' H') X.xe s
abbrev TSet:=V->V->V->Hp->(Hp->Prop)->Prop
def PSet(X:Cx)(t:TSet):Prop:=
 ∀(pins:AO) (s:Shared) (σ:St) (H:Hp) (o i v:V) (ov iv u:Value) (Q:Hp->Prop),Inv X pins σ H s->zQ o ov->zQ i iv->zQ v u->t o i v H Q->
  wpAny (model X.prog X.w) X.A (setItem ov iv u) (λ_ s'=>∃H',Inv X pins σ H' s'/\Q H') X.xe s
variable{es:List Expr}{k:Nat}{tg:Expr}{te:TE}
section
variable{X:Cx}{pos:Pos}
def zlI(i:Nat):TG:=λv σ H Q=>Q (σ.set i (some v)) H
theorem znm(hN:X.N.Nodup)(hi:X.N[i]?=some x)(hx:Loc X.env.scope x)(hf:X.fn x=true\/X.env.scope.names.lookup x=some .local:=by first|exact .inl rfl|exact .inr rfl|assumption):PG X (.Name x pos) (zlI i):=by intro pins s σ H v u Q I r h;exact wpAny_assign_Name (zeg I hN hi hx r (λs' I'=>⟨_,H,I',h⟩) hf)
def jV:TGs:=λvs σ H Q=>vs=[]/\Q σ H
def qV(t:TG)(u:TGs):TGs:=λvs σ H Q=>∃v r,vs=v::r/\t v σ H λσ' H'=>u r σ' H' Q
theorem znl:PGs X [] jV:=by
 intro pins s σ H vs us Q I r h;obtain⟨e,h⟩:=h;subst e;cases r
 exact assignInOrder_nil ⟨σ,H,I,h⟩
theorem zld{t:TG}{u:TGs}(h1:PG X e t)(h2:PGs X es u)(hs:(assignEach (e::es) X.env).map (·.2)=assign e X.env::(assignEach es X.env).map (·.2):=by rfl):PGs X (e::es) (qV t u):=by
 intro pins s σ H vs us Q I r h;obtain⟨v,vr,e1,h⟩:=h;subst e1;cases r with
 |cons r rr=>
  rw[hs];refine assignInOrder_cons (thn (h1 pins s σ H _ _ _ I r h) λ_ s1 ⟨σ1,H1,I1,q1⟩=>?_);exact h2 pins s1 σ1 H1 _ _ Q I1 rr q1
def kC(K:Fg)(n:Nat)(t:TGs):TG:=λv σ H Q=>∃a xs,v=.ref a/\SqT K H a xs/\xs.length=n/\t xs σ H Q
theorem zoO{t:TGs}{n:Nat}(hc:X.calm=true)(h:PGs X es t)(hn:(assignEach es X.env).length=n:=by rfl)(hst:(assignEach es X.env).findIdx? (·.1)=none:=by rfl):PG X (.Tuple es k pos) (kC X.K n t):=by
 intro pins s σ H v u Q I r hw;obtain⟨a,xs,e1,hq,hl,hw⟩:=hw;subst e1;cases r
 obtain⟨its,rv,ht,hz⟩:=I.tuple hq;refine assign_Tuple_tuple (I.ok.hd hc) ht (by simp[hn,←hl,rv.length]) hst λh' hx=>?_
 have I1:Inv X pins σ H {s with heap:=h'}:=I.kept (t':=s.toks) λb o e=>hx b o (Nat.ne_of_lt (Heap.lt_size e)) e
 exact h pins _ σ H xs _ Q I1 (by simpa using rv) hw
def gSub(to ti:TE)(t:TSet):TG:=λv σ H Q=>to σ H λo H1=>ti σ H1 λi H2=>t o i v H2 λH3=>Q σ H3
theorem zoP{o i:Expr}{to ti:TE}{t:TSet}(ho:PE X o to)(hi:PE X i ti)(hs:PSet X t)(ha:∀v,assign (.Subscript o i pos) X.env v=(do
   let ov ←holding [v] (eval o X.env);let iv ←holding [v,ov] (eval i X.env)
   standAt pos
   holding [v,ov,iv] (setItem ov iv v)
   release [v,ov,iv] []):=by intro _;rfl):PG X (.Subscript o i pos) (gSub to ti t):=by
 intro pins s σ H v u Q I r h;rw[ha];refine wpAny_bind (wpAny_holding (thn (ho pins s σ H _ I h) λov s1 ⟨x,H1,I1,r1,q1⟩=>?_));refine wpAny_bind (wpAny_holding (thn (hi pins s1 σ H1 _ I1 q1) λiv s2 ⟨y,H2,I2,r2,q2⟩=>?_));refine wpAny_bind (wpAny_standAt (wpAny_bind (wpAny_holding (thn (hs pins s2 σ H2 x y v ov iv u _ I2 r1 r2 r q2) λ_ s3 ⟨H3,I3,q3⟩=>?_))));exact wpAny_release ⟨σ,H3,I3,q3⟩
def tAsg(te:TE)(g:TG):TS:=λD σ H=>te σ H λx H1=>g x σ H1 D.nx
theorem zjb{g:TG}(he:PE X e te)(hg:PG X tg g)(hs:swapsWithSole [tg] e pos.line X.env=pure false:=by rfl)(hw:swappedStores [tg] e X.env=pure none:=by rfl)(h1:(assignEach [tg] X.env).map (·.2)=[assign tg X.env]:=by rfl):PS X (.Assign [tg] e pos) (tAsg te g):=by intro pins s σ H D I h;refine wpAny_Assign_stores (thn (he pins s σ H _ I h) λv s1 ⟨x,H1,I1,r1,q1⟩=>?_) hs hw;rw[h1];exact thn (hg pins s1 σ H1 x v _ I1 r1 q1) λ_ s2 q=>q
theorem zja{pos':Pos}(hN:X.N.Nodup)(hi:X.N[i]?=some x)(hx:Loc X.env.scope x)(he:PE X e te)(hs:swapsWith e (some (.Name x pos')) pos.line X.env=pure false:=by rfl)(hf:X.fn x=true\/X.env.scope.names.lookup x=some .local:=by first|exact .inl rfl|exact .inr rfl|assumption):
  PS X (.Assign [.Name x pos'] e pos) (tAsg te (zlI i)):=by
 intro pins s σ H D I h;refine wpAny_Assign_Name (thn (he pins s σ H _ I h) λv s1 ⟨y,H1,I1,r1,q1⟩=>?_) hs;exact zeg I1 hN hi hx r1 (λs2 I2=>⟨_,H1,I2,q1⟩) hf
end
variable{body:List Stmt}{tb:TS}
section
variable{X:Cx}{pos:Pos}
def zol(c:TT)(tb:TS):TS:=λD σ H=>∃W:Nat->St->Hp->Prop,(∃m,W m σ H)/\∀m σ H,W m σ H->
 c σ H λb H1=>if b=true then∃N:St->Hp->Prop,(∀σ' H',N σ' H'->∃m',m'<m/\W m' σ' H')/\tb {D with nx:=N,ct:=N,bk:=D.nx} σ H1 else D.nx σ H1
theorem zkZ(hp:PassesOwn (model X.prog X.w) X.A X.env X.xe)(hc:PT X c tc)(hb:PSs X body tb):PS X (.While c body [] pos) (zol tc tb):=by
 intro pins s σ H D I h;obtain⟨W,⟨m0,w0⟩,turn⟩:=h;refine wpAny_While (codeAny_whileLoop (λn s'=>∃σ' H',Inv X pins σ' H' s'/\W n σ' H') ?_ m0 ⟨σ,H,I,w0⟩);rintro n s1 ⟨σ1,H1,I1,w1⟩;refine wpAny_passesOwn hp (thn (hc pins s1 σ1 H1 _ I1 (turn n σ1 H1 w1)) λb s2 ⟨H2,I2,q2⟩=>?_);cases b with
 |true=>
  obtain⟨N,hN,q2⟩:=q2;rw[if_pos rfl];refine wpAny_passesOwn hp (thn (hb pins s2 σ1 H2 _ I2 q2) λf s3 q3=>?_);cases f with
  |next=>
   obtain⟨σ3,H3,I3,n3⟩:=q3;obtain⟨m',hm,w3⟩:=hN σ3 H3 n3;exact⟨m',hm,σ3,H3,I3,w3⟩
  |cont=>
   obtain⟨σ3,H3,I3,n3⟩:=q3;obtain⟨m',hm,w3⟩:=hN σ3 H3 n3;exact⟨m',hm,σ3,H3,I3,w3⟩
  |brk=>exact q3
  |ret v=>exact q3
 |false=>
  rw[if_neg Bool.false_ne_true];exact wpAny_execs_nil ⟨σ1,H2,I2,q2⟩
end
structure It where
 go:Nat->Hp->Prop
 yld:Nat->Hp->V->Hp->Prop
 stop:Nat->Hp->Prop
def jT(X:Cx)(pins:AO)(H:Hp)(b:Addr):Prop:=
 H b=none/\b≠X.env.locals/\b∉X.fs/\(b∈X.ex\/X.s₀.heap.objs.size<=b)/\(∀x c,X.env.cells.lookup x=some c->c≠b)/\∀p∈X.pn++pins,p.1≠b
theorem Inv.fpOk{H':Hp}{b:Addr}(I:Inv X pins σ H s)(hb:s.heap.objs.size<=b)(hn:H' b=none):jT X pins H' b:=by
 refine⟨hn,Nat.ne_of_gt (Nat.lt_of_lt_of_le I.lt hb),I.nofs hb,.inr (Nat.le_trans I.sz hb),λx c e z=>?_,λp hp z=>?_⟩
 ·obtain⟨v,q⟩:=I.cell x c e;exact absurd (Nat.lt_of_lt_of_le q.lt (by rw[z];exact hb)) (Nat.lt_irrefl _)
 ·exact absurd (Nat.lt_of_lt_of_le (Heap.lt_size (I.pin p hp).1) (by rw[z];exact hb)) (Nat.lt_irrefl _)
structure Turn(P:Program)(w:World)(K:Fg)(tg:Expr)(J:It)(fp:List Addr)(it:Addr)(tn:Nat->Heap->Prop):Prop where
 mem:it∈fp
 obj:∀i h,tn i h->∀b∈fp,∃o,h.get? b=some o/\∀v,o.data≠.cell v
 keep:∀i h h',tn i h->(∀b∈fp,∀o,h.get? b=some o->h'.get? b=some o)->tn i h'
 item:∀(X:Cx),X.prog=P->X.w=w->X.K=K->X.calm=true->∀(i:Nat) (pins:AO) (s:Shared) (σ:St) (H:Hp) (E:VS),Inv X pins σ H s->(∀b∈fp,jT X pins H b)->tn i s.heap->J.go i H->
  wpAny (model P w) X.A (pyNext (.ref it)) (λr s1=>∃u,r=some u/\
   wpAny (model P w) X.A (letOwnedTupleGo tg (.ref it) u) (λ_ s2=>∃x H',Inv X pins σ H' s2/\zQ x u/\J.yld i H x H'/\tn (i+1) s2.heap/\∀b∈fp,H' b=none) E s1) E s
 done:∀(X:Cx),X.prog=P->X.w=w->X.K=K->X.calm=true->∀(i:Nat) (pins:AO) (s:Shared) (σ:St) (H:Hp) (E:VS),Inv X pins σ H s->(∀b∈fp,jT X pins H b)->tn i s.heap->J.stop i H->
  wpAny (model P w) X.A (pyNext (.ref it)) (λr s1=>r=none/\Inv X pins σ H s1) E s
 self:∀(A:Around) (i:Nat) (s:Shared) (Q:VS) (E:VS),tn i s.heap->Q (.ref it) s->wpAny (model P w) A (pyIter (.ref it)) Q E s
abbrev TI:=St->Hp->(It->Hp->Prop)->Prop
def PIE(X:Cx)(pins:AO)(σ:St)(tg:Expr)(R:It->Hp->Prop)(itv:Value)(s2:Shared):Prop:=
 ∃(it:Addr) (fp:List Addr) (tn:Nat->Heap->Prop) (J:It) (H':Hp),itv=.ref it/\Inv X pins σ H' s2/\Turn X.prog X.w X.K tg J fp it tn/\tn 0 s2.heap/\(∀b∈fp,jT X pins H' b)/\R J H'
def PI(X:Cx)(tg zM:Expr)(wi:TI):Prop:=
 ∀(pins:AO) (s:Shared) (σ:St) (H:Hp) (R:It->Hp->Prop),Inv X pins σ H s->wi σ H R->
  wpAny (model X.prog X.w) X.A (eval zM X.env) (λv s1=>wpAny (model X.prog X.w) X.A (pyIter v) (PIE X pins σ tg R) X.xe s1) X.xe s
theorem zlE{s:Shared}{n:String}{vs:Array Value}(ho:s.heap.get? it=some o)(hc:o.cls=.type n)(hd:o.data=.fields vs)(hn:["enumerate","zip","dict_itemiterator","dict_reverseitemiterator","odict_iterator","itertools.zip_longest","itertools.pairwise"].contains n=false)(hQ:Q () s):wpAny M A (letOwnedTupleGo tg (.ref it) u) Q E s:=by
 unfold letOwnedTupleGo;cases tg<;>first
  |exact wpAny_pure hQ
  |(cases u<;>first
    |exact wpAny_pure hQ
    | (refine wpAny_bind (wpAny_load ho ?_)
       rw[hc,hd];show wpAny M A (if(["enumerate","zip","dict_itemiterator","dict_reverseitemiterator","odict_iterator","itertools.zip_longest","itertools.pairwise"].contains n&&vs[0]? ==some (rawInt _))=true then _ else _) Q E s;rw[if_neg (by intro h;rw[hn,Bool.false_and]at h;cases h)];exact wpAny_pure hQ))
def Itl(K:Fg)(a:Addr):It:=
 ⟨λi H=>∃xs x,SqL K H a xs/\xs[i]?=some x,λi H x H'=>H'=H/\∀xs,SqL K H a xs->xs[i]?=some x,λi H=>∃xs,SqL K H a xs/\xs.length<=i⟩
def Itt(K:Fg)(a:Addr):It:=
 ⟨λi H=>∃xs x,SqT K H a xs/\xs[i]?=some x,λi H x H'=>H'=H/\∀xs,SqT K H a xs->xs[i]?=some x,λi H=>∃xs,SqT K H a xs/\xs.length<=i⟩
def Itr(lo:Int)(n:Nat):It:=⟨λi _=>i<n,λi H x H'=>H'=H/\x=.int (lo+i),λi _=>n<=i⟩
theorem ziB(a it:Addr):Turn P w K tg (Itl K a) [it] it (λi h=>h.IsListIter it a i)where
 mem:=by simp
 obj:=λi h st b hb=>by
  have e:b=it:=by simpa using hb
  subst e;obtain⟨o,e,c,d⟩:=st;exact⟨o,e,λv z=>by rw[d]at z;cases z⟩
 keep:=λi h h' st k=>st.at λo e=>k it (by simp) o e
 item:=by
  intro X hP hw hK hc i pins s σ H E I hf st hg;subst hP hw hK;obtain⟨xs,x,hq,hx⟩:=hg;obtain⟨its,rv,p,hz⟩:=I.list hq;obtain⟨u,hu,ru⟩:=rv.get hx;obtain⟨f0,f1,f2,f3,f4,f5⟩:=hf it (by simp);refine wpAny_pyNext_list_item st p.isList (x:=u) (by simpa using hu) λh' st' sb=>?_
  have I1:Inv X pins σ H {s with heap:=h'}:=I.turned (t':=s.toks) (λb o hb e=>(sb.2 b hb).trans e) f0 f1 f3 f4 f5;obtain⟨o,e,c,d⟩:=id st';exact⟨u,rfl,zlE (s:={s with heap:=h'}) e c d (by decide) ⟨x,H,I1,ru,⟨rfl,λys hy=>by rw[I.list_inj hy hq];exact hx⟩,st',λb hb=>(hf b hb).1⟩⟩
 done:=by intro X hP hw hK hc i pins s σ H E I hf st hg;subst hP hw hK;obtain⟨xs,hq,hx⟩:=hg;obtain⟨its,rv,p,hz⟩:=I.list hq;obtain⟨f0,f1,f2,f3,f4,f5⟩:=hf it (by simp);have hl:=rv.length;exact wpAny_pyNext_list_end (I.ok.hd hc) st p.isList (by simp;omega) λh' eb=>⟨rfl,I.turned (t':=s.toks) (λb o hb e=>eb b o hb e) f0 f1 f3 f4 f5⟩
 self:=λ_ _ _ _ _ st h=>wpAny_pyIter_listiter st h
theorem zhF(a it:Addr):Turn P w K tg (Itt K a) [it] it (λi h=>h.IsTupleIter it a i)where
 mem:=by simp
 obj:=λi h st b hb=>by
  have e:b=it:=by simpa using hb
  subst e;obtain⟨o,e,c,d⟩:=st;exact⟨o,e,λv z=>by rw[d]at z;cases z⟩
 keep:=λi h h' st k=>st.at λo e=>k it (by simp) o e
 item:=by
  intro X hP hw hK hc i pins s σ H E I hf st hg;subst hP hw hK;obtain⟨xs,x,hq,hx⟩:=hg;obtain⟨its,rv,p,hz⟩:=I.tuple hq;obtain⟨u,hu,ru⟩:=rv.get hx;obtain⟨f0,f1,f2,f3,f4,f5⟩:=hf it (by simp);refine wpAny_pyNext_tuple_item st (show s.heap.IsTuple a its.toArray from p) (x:=u) (by simpa using hu) λh' st' sb=>?_
  have I1:Inv X pins σ H {s with heap:=h'}:=I.turned (t':=s.toks) (λb o hb e=>(sb.2 b hb).trans e) f0 f1 f3 f4 f5;obtain⟨o,e,c,d⟩:=id st';exact⟨u,rfl,zlE (s:={s with heap:=h'}) e c d (by decide) ⟨x,H,I1,ru,⟨rfl,λys hy=>by rw[I.tuple_inj hy hq];exact hx⟩,st',λb hb=>(hf b hb).1⟩⟩
 done:=by intro X hP hw hK hc i pins s σ H E I hf st hg;subst hP hw hK;obtain⟨xs,hq,hx⟩:=hg;obtain⟨its,rv,p,hz⟩:=I.tuple hq;obtain⟨f0,f1,f2,f3,f4,f5⟩:=hf it (by simp);have hl:=rv.length;exact wpAny_pyNext_tuple_end (I.ok.hd hc) st (show s.heap.IsTuple a its.toArray from p) (by simp;omega) λh' eb=>⟨rfl,I.turned (t':=s.toks) (λb o hb e=>eb b o hb e) f0 f1 f3 f4 f5⟩
 self:=λ_ _ _ _ _ st h=>wpAny_pyIter_tupleiter st h
theorem zhG(it:Addr)(lo:Int)(n:Nat):Turn P w K tg (Itr lo n) [it] it (λi h=>IsRangeIter h it (lo+(i:Nat)*1) ((n:Int) - (i:Nat)) 1)where
 mem:=by simp
 obj:=λi h st b hb=>by
  have e:b=it:=by simpa using hb
  subst e;exact⟨_,st,λv z=>by have z':Data.fields _=Data.cell v:=z;cases z'⟩
 keep:=λi h h' st k=>k it (by simp) _ st
 item:=by
  intro X hP hw hK hc i pins s σ H E I hf st hg;subst hP hw hK;obtain⟨f0,f1,f2,f3,f4,f5⟩:=hf it (by simp);have W:=Walks.range (prog:=X.prog) (w:=X.w) (I.ok.hd hc) it lo 1 n;refine W.item i s _ _ hg st λv h' tk hv st' kk=>?_
  obtain⟨t,rfl⟩:=hv;have I1:Inv X pins σ H {s with heap:=h',toks:=tk}:=I.turned (λb o hb e=>kk b o (by simpa using hb) e) f0 f1 f3 f4 f5;refine⟨_,rfl,zlE (s:={s with heap:=h',toks:=tk}) (n:="range_iterator") st' rfl rfl (by decide) ⟨.int (lo+i),H,I1,⟨t,?_⟩,⟨rfl,rfl⟩,st',λb hb=>(hf b hb).1⟩⟩;rw[Int.mul_one]
 done:=by intro X hP hw hK hc i pins s σ H E I hf st hg;subst hP hw hK;obtain⟨f0,f1,f2,f3,f4,f5⟩:=hf it (by simp);exact wpAny_pyNext_range_end (I.ok.hd hc) st (by have:n<=i:=hg;omega) λh' eb=>⟨rfl,I.turned (t':=s.toks) (λb o hb e=>eb b o hb e) f0 f1 f3 f4 f5⟩
 self:=λ_ _ _ _ _ st h=>wpAny_pyIter_rangeiter st h
variable{l:Expr}{fp:List Addr}
section
variable{X:Cx}{tg:Expr}
def zqY(K:Fg)(tl:TE):TI:=λσ H R=>tl σ H λx H1=>∃a,x=.ref a/\(∃xs,SqL K H1 a xs)/\R (Itl K a) H1
def iTup(K:Fg)(tl:TE):TI:=λσ H R=>tl σ H λx H1=>∃a,x=.ref a/\(∃xs,SqT K H1 a xs)/\R (Itt K a) H1
theorem zjh{tl:TE}(hl:PE X l tl):PI X tg l (zqY X.K tl):=by
 intro pins s σ H R I h;refine thn (hl pins s σ H _ I h) λv s1 h_=>?_
 obtain⟨x,H1,I1,r1,q1⟩:=h_;obtain⟨a,e,⟨xs,hq⟩,q⟩:=q1;subst e;cases r1
 obtain⟨its,rv,p,hz⟩:=I1.list hq;refine wpAny_pyIter_list p.isList ?_;refine⟨s1.heap.objs.size,[s1.heap.objs.size],_,_,H1,rfl,I1.kept (t':=s1.toks) λb o e=>Heap.get?_push_of_some _ e,ziB a _,⟨_,Heap.get?_push_size _ rfl,rfl,rfl⟩,λb hb=>?_,q⟩;have e:b=s1.heap.objs.size:=by simpa using hb
 subst e;exact I1.fpOk (Nat.le_refl _) (I1.hok.fresh (Nat.le_refl _))
theorem zoM{tl:TE}(hl:PE X l tl):PI X tg l (iTup X.K tl):=by
 intro pins s σ H R I h;refine thn (hl pins s σ H _ I h) λv s1 h_=>?_
 obtain⟨x,H1,I1,r1,q1⟩:=h_;obtain⟨a,e,⟨xs,hq⟩,q⟩:=q1;subst e;cases r1
 obtain⟨its,rv,p,hz⟩:=I1.tuple hq;refine wpAny_pyIter_tuple (show s1.heap.IsTuple a its.toArray from p) ?_;refine⟨s1.heap.objs.size,[s1.heap.objs.size],_,_,H1,rfl,I1.kept (t':=s1.toks) λb o e=>Heap.get?_push_of_some _ e,zhF a _,⟨_,Heap.get?_push_size _ rfl,rfl,rfl⟩,λb hb=>?_,q⟩;have e:b=s1.heap.objs.size:=by simpa using hb
 subst e;exact I1.fpOk (Nat.le_refl _) (I1.hok.fresh (Nat.le_refl _))
theorem zkX{R:It->Hp->Prop}{lo hi:Int}{t u v:Tok}{tk:Nat}(I:Inv X pins σ H s)(h1:-(2^62)<=lo)(h2:lo<2^62)(h3:-(2^62)<=hi)(h4:hi<2^62)(q:R (Itr lo (hi - lo).toNat) H):wpAny (model X.prog X.w) X.A (pyIter (.ref s.heap.objs.size)) (PIE X pins σ tg R) E {s with heap:=s.heap.push {cls:=.type "range",data:=.fields #[.int lo t,.int hi u,.int 1 v]},toks:=tk}:=by
 refine wpAny_pyIter_range (IsRange.new ..) (small_one h1 h2 h3 h4) ?_;have I1:Inv X pins σ H {s with heap:=s.heap.push {cls:=.type "range",data:=.fields #[.int lo t,.int hi u,.int 1 v]},toks:=tk}:=I.kept λb o e=>Heap.get?_push_of_some _ e
 refine⟨(s.heap.push {cls:=.type "range",data:=.fields #[.int lo t,.int hi u,.int 1 v]}).objs.size,[(s.heap.push {cls:=.type "range",data:=.fields #[.int lo t,.int hi u,.int 1 v]}).objs.size],_,_,H,rfl,
  I1.kept (t':=tk) λb o e=>Heap.get?_push_of_some _ e,zhG _ lo (hi - lo).toNat,?_,λb hb=>?_,q⟩
 ·have e1:lo+((0:Nat):Int)*1=lo:=by simp
  have e2:(((hi - lo).toNat:Nat):Int) - ((0:Nat):Int)=Builtin.Range.rangeSize lo hi 1:=by rw[rangeSize_one];split<;>omega
  show IsRangeIter _ _ (lo+((0:Nat):Int)*1) ((((hi - lo).toNat:Nat):Int) - ((0:Nat):Int)) 1;rw[e1,e2];exact Heap.get?_push_size _ rfl
 ·have e:b=(s.heap.push {cls:=.type "range",data:=.fields #[.int lo t,.int hi u,.int 1 v]}).objs.size:=by simpa using hb
  subst e;exact I1.fpOk (Nat.le_refl _) (I1.hok.fresh (Nat.le_refl _))
def zqX(ta:TA):TI:=λσ H R=>ta σ H λvs H1=>∃j:Int,vs=[.int j]/\ -(2^62)<=j/\j<2^62/\R (Itr 0 j.toNat) H1
theorem zjg{a:Expr}{ta:TA}{p:Pos}(hg:Gl X "range")(hm:X.mg "range"=none)(ha:PA X [a] ta)(hs:starEach [a] X.env=[(false,eval a X.env)]:=by rfl):PI X tg (.Call (.Name "range" p) [a] [] pos) (zqX ta):=by
 intro pins s σ H R I h;refine Call_ (zdj I hg hm boot_range (PyProof.Rows.callWith_type1 (thn (ha pos pins s σ H _ I h) λus s1 ⟨vs,H1,I1,r1,q1⟩=>?_) hs rfl));obtain⟨j,e,q1,q2,q⟩:=q1;subst e;cases r1 with
 |cons r rr=>
  cases rr
  obtain⟨t,rfl⟩:=r;exact call_range_1 (zkX I1 (by omega) (by omega) q1 q2 (by simpa using q))
def tFor(wi:TI)(g:TG)(tb:TS):TS:=λD σ H=>wi σ H λJ H1=>∃W:Nat->Nat->St->Hp->Prop,(∃m,W 0 m σ H1)/\∀i m σ H,W i m σ H->
 (J.stop i H/\D.nx σ H)\/(J.go i H/\∃N:St->Hp->Prop,(∀σ' H',N σ' H'->∃m',m'<m/\W (i+1) m' σ' H')/\∀x H',J.yld i H x H'->g x σ H' λσ2 H2=>tb {D with nx:=N,ct:=N,bk:=D.nx} σ2 H2)
def zfm(fp:List Addr)(h:Heap):AO:=fp.filterMap λb=>(h.get? b).map λo=>(b,o)
theorem zaw{b:Addr}(hb:b∈fp)(e:h.get? b=some o):(b,o)∈zfm fp h:=List.mem_filterMap.mpr ⟨b,hb,by rw[e];rfl⟩
theorem zjt{p:Addr×Obj}(hp:p∈zfm fp h):p.1∈fp/\h.get? p.1=some p.2:=by
 obtain⟨b,hb,e⟩:=List.mem_filterMap.mp hp;cases q:h.get? b with
 |none=>rw[q]at e;cases e
 |some o=>
  rw[q]at e;have e':(b,o)=p:=Option.some.inj e;subst e';exact⟨hb,q⟩
theorem Inv.pinned(I:Inv X pins σ H s)(hf:∀b∈fp,jT X pins H b)(ho:∀b∈fp,∃o,s.heap.get? b=some o/\∀v,o.data≠.cell v):Inv X (pins++zfm fp s.heap) σ H s:=
 I.pins_of λp hp=>(List.mem_append.mp hp).elim (λz=>I.pin p (List.mem_append_right _ z)) λz=>by
  obtain⟨hb,e⟩:=zjt z;obtain⟨f0,f1,f2,_⟩:=hf p.1 hb;obtain⟨o,e',d⟩:=ho p.1 hb;rw[e]at e';cases e'
  exact⟨e,f0,f1,f2,d⟩
theorem Inv.unpinned{pl:AO}(I:Inv X (pins++pl) σ H s):Inv X pins σ H s:=I.pins_of λp hp=>I.pin p (List.mem_append_right _ (List.mem_append_left _ hp))
theorem zoJ{zM:Expr}{wi:TI}{g:TG}(hp:PassesOwn (model X.prog X.w) X.A X.env X.xe)(hc:X.calm=true)(hi:PI X tg zM wi)(hg:PG X tg g)(hb:PSs X body tb)(hs:∀x,foldedSetIterable zM X.env x=pure x:=by intro _;rfl):PS X (.For tg zM body [] pos) (tFor wi g tb):=by
 intro pins s σ H D I h;refine wpAny_For (thn (hi pins s σ H _ I h) λv s1 h1=>thn h1 λitv s2 h2=>?_) hs;obtain⟨it,fp,tn,J,H2,e,I2,T,st2,f2,W,⟨m0,w0⟩,turn⟩:=h2;subst e;have stat:∀{H':Hp},(∀b∈fp,H' b=none)->∀b∈fp,jT X pins H' b:=λhn b hb=>⟨hn b hb,(f2 b hb).2⟩
 refine codeAny_forLoop_any (λn s'=>∃i σ' H',Inv X pins σ' H' s'/\tn i s'.heap/\(∀b∈fp,H' b=none)/\W i n σ' H') ?_ m0 ⟨0,σ,H2,I2,st2,λb hb=>(f2 b hb).1,w0⟩;rintro n s3 ⟨i,σ3,H3,I3,st3,fr3,w3⟩;rcases turn i n σ3 H3 w3 with⟨stop,qn⟩|⟨go,N,hN,step⟩
 ·refine wpAny_passesOwn hp (thn (T.done X rfl rfl rfl hc i pins s3 σ3 H3 X.xe I3 (stat fr3) st3 stop) λr s4 ⟨hr,I4⟩=>?_);subst hr;exact wpAny_execs_nil ⟨σ3,H3,I4,qn⟩
 ·refine wpAny_passesOwn hp (thn (T.item X rfl rfl rfl hc i pins s3 σ3 H3 X.xe I3 (stat fr3) st3 go) λr s4 ⟨u,hr,h4⟩=>?_);subst hr;refine wpAny_passesOwn hp (thn h4 λ_ s5 ⟨x,H5,I5,r5,y5,st5,fr5⟩=>?_);have I5':=I5.pinned (stat fr5) (T.obj _ _ st5);refine wpAny_passesOwn hp (thn (hg _ s5 σ3 H5 x u _ I5' r5 (step x H5 y5)) λ_ s6 ⟨σ6,H6,I6,q6⟩=>?_);refine wpAny_passesOwn hp (thn (hb _ s6 σ6 H6 _ I6 q6) λf s7 q7=>?_);have again:∀{σ7:St}{H7:Hp},Inv X (pins++zfm fp s5.heap) σ7 H7 s7->N σ7 H7->∃m,m<n/\∃i σ' H',Inv X pins σ' H' s7/\tn i s7.heap/\(∀b∈fp,H' b=none)/\W i m σ' H':=λ{σ7 H7} I7 n7=>by obtain⟨m',hm,w7⟩:=hN σ7 H7 n7;refine⟨m',hm,i+1,σ7,H7,I7.unpinned,T.keep _ _ _ st5 λb hb o e=>(I7.pin (b,o) (List.mem_append_right _ (List.mem_append_right _ (zaw hb e)))).1,λb hb=>?_,w7⟩;obtain⟨o,e,d⟩:=T.obj _ _ st5 b hb;exact(I7.pin (b,o) (List.mem_append_right _ (List.mem_append_right _ (zaw hb e)))).2.1
  cases f with
  |next=>obtain⟨σ7,H7,I7,n7⟩:=q7;exact again I7 n7
  |cont=>obtain⟨σ7,H7,I7,n7⟩:=q7;exact again I7 n7
  |brk=>obtain⟨σ7,H7,I7,q7⟩:=q7;exact⟨σ7,H7,I7.unpinned,q7⟩
  |ret v=>obtain⟨x7,σ7,H7,I7,r7,q7⟩:=q7;exact⟨x7,σ7,H7,I7.unpinned,r7,q7⟩
end
abbrev R2:=V->V->Hp->VK->Prop
def OpR(X:Cx)(f:Value->Value->Sem Value)(r:R2):Prop:=
 ∀(pins:AO) (s:Shared) (σ:St) (H:Hp) (x y:V) (v u:Value) (Q:VK),Inv X pins σ H s->zQ x v->zQ y u->r x y H Q->
  wpAny (model X.prog X.w) X.A (f v u) (EP X pins σ Q) X.xe s
def UnR(X:Cx)(f:Value->Sem Value)(r:V->Hp->VK->Prop):Prop:=
 ∀(pins:AO) (s:Shared) (σ:St) (H:Hp) (x:V) (v:Value) (Q:VK),Inv X pins σ H s->zQ x v->r x H Q->
  wpAny (model X.prog X.w) X.A (f v) (EP X pins σ Q) X.xe s
def jX(X:Cx)(f:Value)(r:List V->Hp->VK->Prop):Prop:=
 ∀(pins:AO) (s:Shared) (σ:St) (H:Hp) (xs:List V) (us:List Value) (Q:VK),Inv X pins σ H s->zL xs us->r xs H Q->
  wpAny (model X.prog X.w) X.A (call f us) (EP X pins σ Q) X.xe s
def TruR(X:Cx)(r:V->Hp->(Bool->Hp->Prop)->Prop):Prop:=
 ∀(pins:AO) (s:Shared) (σ:St) (H:Hp) (x:V) (v:Value) (Q:Bool->Hp->Prop),Inv X pins σ H s->zQ x v->r x H Q->
  wpAny (model X.prog X.w) X.A (truthy v) (TP X pins σ Q) X.xe s
def tOp(r:R2)(ta tb:TE):TE:=λσ H Q=>ta σ H λx H1=>tb σ H1 λy H2=>r x y H2 Q
def tUn(r:V->Hp->VK->Prop)(ta:TE):TE:=λσ H Q=>ta σ H λx H1=>r x H1 Q
def rI(C:Int->Int->Prop)(g:Int->Int->V):R2:=λx y H Q=>∃i j,x=.int i/\y=.int j/\C i j/\Q (g i j) H
def rI0(g:Int->Int->V):R2:=λx y H Q=>∃i j,x=.int i/\y=.int j/\Q (g i j) H
def rU(g:Int->V):V->Hp->VK->Prop:=λx H Q=>∃i,x=.int i/\Q (g i) H
variable{f:Value->Value->Sem Value}{g:Int->Int->Int}{r:R2}
section
variable{X:Cx}{a b c:Expr}{ta tb tc:TE}{pos:Pos}
theorem binT(ha:PE X a ta)(hb:PE X b tb){R:V->V->Hp->Prop}(I:Inv X pins σ H s)(h:ta σ H λx H1=>tb σ H1 λy H2=>R x y H2){Q:VS}(hf:∀v u s2 x y H2,Inv X pins σ H2 s2->zQ x v->zQ y u->R x y H2->wpAny (model X.prog X.w) X.A (f v u) Q X.xe s2):
  wpAny (model X.prog X.w) X.A (eval a X.env) (λv s₁=>wpAny (model X.prog X.w) X.A (eval b X.env) (λu s₂=>wpAny (model X.prog X.w) X.A (f v u) Q X.xe s₂) X.xe s₁) X.xe s:=by
 refine thn (ha pins s σ H _ I h) λv s1 h_=>?_
 obtain⟨x,H1,I1,r1,q1⟩:=h_;refine thn (hb pins s1 σ H1 _ I1 q1) λu s2 h_=>?_
 obtain⟨y,H2,I2,r2,q2⟩:=h_;exact hf v u s2 x y H2 I2 r1 r2 q2
theorem zoS{op:Operator}(ho:OpR X (binaryOp op) r)(ha:PE X a ta)(hb:PE X b tb):PE X (.BinOp a op b pos) (tOp r ta tb):=by intro pins s σ H Q I h;exact wpAny_BinOp (binT ha hb I h λv u s2 x y H2 I2 rx ry q=>ho pins s2 σ H2 x y v u Q I2 rx ry q)
theorem zqH{op:UnaryOp}{r:V->Hp->VK->Prop}(ho:UnR X (unaryOp op) r)(ha:PE X a ta):PE X (.UnaryOp op a pos) (tUn r ta):=by intro pins s σ H Q I h;exact UnaryOp_ (thn (ha pins s σ H _ I h) λv s1 ⟨x,H1,I1,r1,q1⟩=>ho pins s1 σ H1 x v Q I1 r1 q1)
theorem opI{C:Int->Int->Prop}(rule:∀(i j:Int) (t u:Tok) (s:Shared) (Q:VS) (E:VS),C i j->Q (.int (g i j) s.toks) {s with toks:=s.toks+1}->wpAny (model X.prog X.w) X.A (f (.int i t) (.int j u)) Q E s):
  OpR X f (rI C λi j=>.int (g i j)):=by
 intro pins s σ H x y v u Q I rx ry h;obtain⟨i,j,rfl,rfl,hc,q⟩:=h;obtain⟨t,rfl⟩:=rx;obtain⟨t',rfl⟩:=ry;exact rule i j t t' s _ _ hc ⟨.int (g i j),H,I.tok _,⟨_,rfl⟩,q⟩
theorem opI0(rule:∀(i j:Int) (t u:Tok) (s:Shared) (Q:VS) (E:VS),Q (.int (g i j) s.toks) {s with toks:=s.toks+1}->wpAny (model X.prog X.w) X.A (f (.int i t) (.int j u)) Q E s):
  OpR X f (rI0 λi j=>.int (g i j)):=by
 intro pins s σ H x y v u Q I rx ry h;obtain⟨i,j,rfl,rfl,q⟩:=h;obtain⟨t,rfl⟩:=rx;obtain⟨t',rfl⟩:=ry;exact rule i j t t' s _ _ ⟨.int (g i j),H,I.tok _,⟨_,rfl⟩,q⟩
theorem opB0{g:Int->Int->Bool}(rule:∀(i j:Int) (t u:Tok) (s:Shared) (Q:VS) (E:VS),Q (.bool (g i j)) s->wpAny (model X.prog X.w) X.A (f (.int i t) (.int j u)) Q E s):
  OpR X f (rI0 λi j=>.bl (g i j)):=by
 intro pins s σ H x y v u Q I rx ry h;obtain⟨i,j,rfl,rfl,q⟩:=h;obtain⟨t,rfl⟩:=rx;obtain⟨t',rfl⟩:=ry;exact rule i j t t' s _ _ ⟨.bl (g i j),H,I,rfl,q⟩
def CDiv(i j:Int):Prop:=0<j/\j<1073741824
def CPow(i j:Int):Prop:=0<=j/\j<=1000000/\i.natAbs<2^64
def CMul(i j:Int):Prop:=(-(2^64)<i/\i<2^64)\/(-(2^64)<j/\j<2^64)
theorem CMul.ok{i j:Int}(h:CMul i j):IntMulOk i j:=by
 rcases h with⟨h1,h2⟩|⟨h1,h2⟩
 ·exact .of_left (intBits_le_64 h1 h2)
 ·exact .of_right (intBits_le_64 h1 h2)
theorem zpi:OpR X (binaryOp .Add) (rI0 λi j=>.int (i+j)):=opI0 λ_ _ _ _ _ _ _ q=>add_int q
theorem zoZ:OpR X (binaryOp .Sub) (rI0 λi j=>.int (i - j)):=opI0 λ_ _ _ _ _ _ _ q=>sub_int q
theorem zpc:OpR X (binaryOp .Mult) (rI CMul λi j=>.int (i*j)):=opI λ_ _ _ _ _ _ _ hc q=>mul_int q hc.ok
theorem zns:OpR X (binaryOp .FloorDiv) (rI CDiv λi j=>.int (i/j)):=opI λi j _ _ _ _ _ hc q=>by have h1:(0:Int)<j:=hc.1;have h2:j<1073741824:=hc.2;exact floordiv_int (by omega) (by rw[Int.fdiv_eq_ediv_of_nonneg i (by omega)];exact q) (.inl (PyProof.noPylong_small (by omega)))
theorem zpd:OpR X (binaryOp .Mod) (rI (λ_ j=>0<j) λi j=>.int (i%j)):=opI λi j _ _ _ _ _ hc q=>by have h1:(0:Int)<j:=hc;exact mod_int' (by omega) (by rw[Int.fmod_eq_emod_of_nonneg i (by omega)];exact q)
theorem zpa:OpR X (binaryOp .Pow) (rI CPow λi j=>.int (i^j.toNat)):=opI λ_ _ _ _ _ _ _ hc q=>pow_int_small hc.1 hc.2.1 hc.2.2 q
theorem unI{f:Value->Sem Value}{g:Int->Int}(rule:∀(i:Int) (t:Tok) (s:Shared) (Q:VS) (E:VS),Q (.int (g i) s.toks) {s with toks:=s.toks+1}->wpAny (model X.prog X.w) X.A (f (.int i t)) Q E s):
  UnR X f (rU λi=>.int (g i)):=by
 intro pins s σ H x v Q I rx h;obtain⟨i,rfl,q⟩:=h;obtain⟨t,rfl⟩:=rx;exact rule i t s _ _ ⟨.int (g i),H,I.tok _,⟨_,rfl⟩,q⟩
theorem zog:UnR X (unaryOp .USub) (rU λi=>.int (-i)):=unI λ_ _ _ _ _ q=>neg_int q
end
variable{op:CmpOp}
section
variable{X:Cx}{a b c:Expr}{ta tb tc:TE}{pos:Pos}
theorem zmC{Q:VK}{k k':Bool}(I:Inv X pins σ H s)(q:Q (.bl k) H)(e:k=k'):EP X pins σ Q (.bool k') s:=by subst e;exact⟨.bl k,H,I,rfl,q⟩
theorem zqO:OpR X (compareOp .Lt) (rI0 λi j=>.bl (decide (i<j))):=opB0 λ_ _ _ _ _ _ _ q=>lt_int q
theorem zqP:OpR X (compareOp .LtE) (rI0 λi j=>.bl (decide (i<=j))):=opB0 λ_ _ _ _ _ _ _ q=>le_int q
theorem zqQ:OpR X (compareOp .Gt) (rI0 λi j=>.bl (decide (j<i))):=opB0 λ_ _ _ _ _ _ _ q=>gt_int q
theorem zqR:OpR X (compareOp .GtE) (rI0 λi j=>.bl (decide (j<=i))):=opB0 λ_ _ _ _ _ _ _ q=>ge_int q
theorem zpe:OpR X (compareOp .Is) (λx y H Q=>y=.non/\Q (.bl (decide (x=.non))) H):=by
 intro pins s σ H x y v u Q I rx ry h;obtain⟨rfl,q⟩:=h;cases ry
 refine is_none_gen (zmC I q ?_);cases x<;>first
  |(cases rx;rfl)
  |(obtain⟨t,rfl⟩:=rx;rfl)
theorem znr:OpR X (compareOp .IsNot) (λx y H Q=>y=.non/\Q (.bl (!decide (x=.non))) H):=by
 intro pins s σ H x y v u Q I rx ry h;obtain⟨rfl,q⟩:=h;cases ry
 refine isnot_none_gen (zmC I q ?_);cases x<;>first
  |(cases rx;rfl)
  |(obtain⟨t,rfl⟩:=rx;rfl)
theorem OpR.or{r':R2}(h:OpR X f r)(h':OpR X f r'):OpR X f (λx y H Q=>r x y H Q\/r' x y H Q):=by
 intro pins s σ H x y v u Q I rx ry q;rcases q with q|q
 ·exact h pins s σ H x y v u Q I rx ry q
 ·exact h' pins s σ H x y v u Q I rx ry q
theorem zju(b:Expr)(h:op≠.In:=by decide)(h2:op≠.NotIn:=by decide):behindInMarks op b=false:=by
 have e1:(op==CmpOp.In)=false:=by cases op<;>first|rfl|exact absurd rfl h
 have e2:(op==CmpOp.NotIn)=false:=by cases op<;>first|rfl|exact absurd rfl h2
 cases b<;>simp[behindInMarks,e1,e2]
theorem zjl(ho:OpR X (compareOp op) r)(ha:PE X a ta)(hb:PE X b tb)(hm:behindInMarks op b=false):PE X (.Compare a [op] [b] pos) (tOp r ta tb):=by intro pins s σ H Q I h;exact wpAny_Compare1 (binT ha hb I h λv u s2 x y H2 I2 rx ry q=>ho pins s2 σ H2 x y v u Q I2 rx ry q) hm
def zqn(t:TE):TT:=λσ H Q=>t σ H λx H'=>∃k,x=.bl k/\Q k H'
theorem zge(ho:OpR X (compareOp op) r)(ha:PE X a ta)(hb:PE X b tb)(hm:behindInMarks op b=false):PT X (.Compare a [op] [b] pos) (zqn (tOp r ta tb)):=by
 intro pins s σ H Q I h;refine wpAny_isTrue_Compare1 (thn (ha pins s σ H _ I h) λv s1 ⟨x,H1,I1,r1,q1⟩=>thn (hb pins s1 σ H1 _ I1 q1) λu s2 ⟨y,H2,I2,r2,q2⟩=>
  thn (ho pins s2 σ H2 x y v u _ I2 r1 r2 q2) λc s3 ⟨z,H3,I3,r3,k,e,q3⟩=>?_) hm
 subst e;cases r3
 exact wpAny_truthy_bool ⟨H3,I3,q3⟩
def TruV(K:Fg)(x:V)(H:Hp)(k:Bool):Prop:=
 match x with
 | .non=>k=false
 | .bl b=>k=b
 | .int i=>k=(i !=0)
 | .str y=>y.length<=sizeLine/\k=((y.length:Int)!=0)
 | .byt y=>y.size<=sizeLine/\k=((y.size:Int)!=0)
 | .ref p=>(∃xs,SqL K H p xs/\k=!xs.isEmpty)\/(∃xs,SqT K H p xs/\k=!xs.isEmpty)\/∃kvs,H p=some (.dK kvs)/\k=!kvs.isEmpty
 |_=>False
theorem zih{kvs:List (κ×V)}{vs:List (κ×Value)}(r:KV kvs vs):(!vs.isEmpty)=!kvs.isEmpty:=by cases r<;>rfl
theorem zdT{its:List Value}(r:zL xs its):(!its.toArray.isEmpty)=!xs.isEmpty:=by cases r<;>simp
theorem zdh:(sizeLine:Nat)<2^63:=by rw[sizeLine_eq];decide
theorem zoj:TruR X (λx H Q=>∃k,TruV X.K x H k/\Q k H):=by
 intro pins s σ H x v Q I rx h;obtain⟨k,e,q⟩:=h;have hl:=zdh;have hs:sizeLine=16777216:=sizeLine_eq;cases x with
 |non=>
  cases rx
  have e':k=false:=e;subst e';exact truthy_none ⟨H,I,q⟩
 |bl b=>
  cases rx
  have e':k=b:=e;subst e';exact wpAny_truthy_bool ⟨H,I,q⟩
 |int i=>
  obtain⟨t,rfl⟩:=rx;have e':k=(i !=0):=e;subst e';exact PySem.P.truthy_int ⟨H,I,q⟩
 |str y=>
  obtain⟨t,rfl⟩:=rx;obtain⟨hy,e'⟩:y.length<=sizeLine/\k=((y.length:Int)!=0):=e;subst e';exact PySem.P.truthy_str (by omega) ⟨H,I.tok _,q⟩
 |byt y=>
  obtain⟨t,rfl⟩:=rx;obtain⟨hy,e'⟩:y.size<=sizeLine/\k=((y.size:Int)!=0):=e;subst e';exact PySem.W.truthy_bytes (by omega) ⟨H,I.tok _,q⟩
 |ref p=>
  cases rx
  have e':(∃xs,SqL X.K H p xs/\k=!xs.isEmpty)\/(∃xs,SqT X.K H p xs/\k=!xs.isEmpty)\/∃kvs,H p=some (.dK kvs)/\k=!kvs.isEmpty:=e;rcases e' with⟨xs,hx,e'⟩|⟨xs,hx,e'⟩|⟨kvs,hx,e'⟩
  ·subst e';obtain⟨its,r,pl,hz⟩:=I.list hx;have hlen:=r.length;exact wpAny_truthy_list pl.isList (by simp only[List.size_toArray];omega) ⟨H,I.tok _,by rw[zdT r];exact q⟩
  ·subst e';obtain⟨its,r,pl,hz⟩:=I.tuple hx;have hlen:=r.length;exact truthy_tuple pl (by simp only[List.size_toArray];omega) ⟨H,I.tok _,by rw[zdT r];exact q⟩
  ·subst e';obtain⟨hz,hS,vs,r,m⟩:kvs.length<=sizeLine/\(p==sysModules)=false/\∃vs,KV kvs vs/\s.heap.DictOf (xA X.prog X.w) p vs:=I.hok p _ hx;have hlen:kvs.length=vs.length:=Paired.length r;exact wpAny_truthy_dict hS m (by omega) ⟨H,I.tok _,by rw[zih r];exact q⟩
 |_=>exact(show False from e).elim
theorem zkY(ha:PE X a ta)(he:∀whole,isTrue a X.env whole=(do let v ←whole;standAt a.pos;holding [v] (truthy v))):
  PT X a (λσ H Q=>ta σ H λx H'=>∃k,TruV X.K x H' k/\Q k H'):=by
 intro pins s σ H Q I h;exact isTrue_plain (thn (ha pins s σ H _ I h) λv s1 ⟨x,H1,I1,r1,q1⟩=>zoj pins s1 σ H1 x v Q I1 r1 q1) (he _)
theorem zhR:OpR X (binaryOp .Add) (λx y H Q=>∃i j,x=.str i/\y=.str j/\i.length+j.length<=sizeLine/\Q (.str (i++j)) H):=by intro pins s σ H x y v u Q I rx ry h;obtain⟨i,j,rfl,rfl,hz,q⟩:=h;obtain⟨t,rfl⟩:=rx;obtain⟨t',rfl⟩:=ry;exact add_str (λt' tk=>⟨.str (i++j),H,I.tok _,⟨_,rfl⟩,q⟩) hz
theorem yV{x:V}(r:zL [x] us):∃u,us=[u]/\zQ x u:=by
 cases r with
 |cons r1 r2=>cases r2;exact⟨_,rfl,r1⟩
theorem zmR{x y:V}(r:zL [x,y] us):∃u w',us=[u,w']/\zQ x u/\zQ y w':=by
 cases r with
 |cons r1 r2=>
  cases r2 with
  |cons r3 r4=>cases r4;exact⟨_,_,rfl,r1,r3⟩
theorem zmk:jX X (.builtin "abs") (λxs H Q=>∃i,xs=[.int i]/\Q (.int (if i<0 then -i else i)) H):=by intro pins s σ H xs us Q I r h;obtain⟨i,rfl,q⟩:=h;obtain⟨u,rfl,t,rfl⟩:=yV r;exact call_abs_int λu tk=>⟨.int (if i<0 then -i else i),H,I.tok _,⟨_,rfl⟩,q⟩
theorem zkC:jX X (.type "int") (λxs H Q=>(∃i,xs=[.int i]/\Q (.int i) H)\/∃k,xs=[.bl k]/\Q (.int (if k then 1 else 0)) H):=by
 intro pins s σ H xs us Q I r h;rcases h with⟨i,rfl,q⟩|⟨k,rfl,q⟩
 ·obtain⟨u,rfl,t,rfl⟩:=yV r;exact call_int_int ⟨.int i,H,I,⟨_,rfl⟩,q⟩
 ·obtain⟨u,rfl,r1⟩:=yV r;cases r1
  exact call_int_bool ⟨.int (if k then 1 else 0),H,I.tok _,⟨_,rfl⟩,q⟩
end
structure ObjM(h:Heap)(x dx C:Addr)(mA:SV):Prop where
 obj:h.get? x=some (PySem.W.instObj C dx)
 ns:h.Ns1 dx mA
 ne:dx≠x
variable{dx:Addr}{mA:SV}
theorem zfw(n:h.Ns1 dx mA):∃od,h.get? dx=some od/\∀name,PySem.W.lookIn name od=some (mA name):=by
 obtain⟨o,es,ep,ho,hd,hk,_,hm⟩:=n;refine⟨o,ho,λname=>?_⟩;have e:=hm name;unfold nsFind findBy at e;rw[←Array.find?_toList]at e;unfold PySem.W.lookIn;rw[hd];dsimp only;split
 ·rename_i y q;rw[q]at e;exact congrArg some e
 ·rename_i q;rw[q]at e;have a:es.toList.any (·.refKey)=false:=by rw[List.any_eq_false];intro y hy;obtain⟨z,t,hkey⟩:=hk y (Array.mem_toList_iff.mp hy);simp[DictEntry.refKey,hkey]
  have a':¬es.toList.any (·.refKey)=true:=by rw[a];exact Bool.false_ne_true
  rw[if_neg a'];exact congrArg some e
variable{C:Addr}
theorem ObjM.look{x:Addr}(I:ObjM h x dx C mA):∃od,PySem.W.InstAt h x (PySem.W.instObj C dx) C (some od)/\∀name,PySem.W.lookIn name od=some (mA name):=
 let⟨od,ho,hl⟩:=zfw I.ns
 ⟨od,⟨I.obj,rfl,rfl,ho⟩,hl⟩
section
variable{prog:Program}{w:World}{A:Around}{E:VS}{s:Shared}{K:Fg}{x dx C f:Addr}{mA:SV}{name:Str}{v:Value}
end
theorem zjU(r:zQ v u):PySem.W.handedIn u=true:=by
 cases v with
 |non=>cases(show u=Value.none from r);rfl
 |bl b=>cases(show u=Value.bool b from r);rfl
 |int i=>obtain⟨t,e⟩:=(show∃t,u=Value.int i t from r);cases e;rfl
 |str x=>obtain⟨t,e⟩:=(show∃t,u=Value.str x t from r);cases e;rfl
 |byt b=>obtain⟨t,e⟩:=(show∃t,u=Value.bytes b t from r);cases e;rfl
 |flt b=>obtain⟨t,e⟩:=(show∃t,u=Value.float b t from r);cases e;rfl
 |ref a=>cases(show u=Value.ref a from r);rfl
 |ty n=>cases(show u=Value.type n from r);rfl
section
variable{P:Program}{w:World}{H H':Hp}{h h':Heap}{a C dx:Addr}{fs fs':List (Str×V)}
theorem znF(hok:HOk P w H h)(e:H a=some (.ins C dx fs)):∃mA,ObjM h a dx C mA/\(∀f,RelO (fs.lookup f) (mA f))/\PySem.Within mA (fs.map (·.1))/\fs.length<=1000/\H dx=some (.own a):=by obtain⟨d,z,ne,ob,mA,n,r,q⟩:=(show qZ P w H h a (.ins C dx fs)from hok a _ e);exact⟨mA,⟨ob,n,ne⟩,r,q,z,d⟩
end
structure Cls(K:Fg)(C:Addr):Prop where
 pg:PySem.W.plainGet K C Str.empty=true
 hd:PySem.W.hasDictIn K C=true
 po:PySem.W.plainOver K C=true
 sa:PySem.W.findIn K (.ref C) "__setattr__"=some (some (.builtin "object.__setattr__"))
theorem Cls.get(c:Cls K C)(f:Str):PySem.W.plainGet K C f=true:=c.pg
section
variable{X:Cx}{pins:AO}{σ:St}{H:Hp}{s:Shared}{a C dx:Addr}{fs:List (Str×V)}{f:Str}{v:V}{A:Around}{E:VS}
theorem znY{prog:Program}{env:Env}{f:Str}{s:Shared}{Q:VS}(hb:attributeBase e f env (eval e env)=eval e env)(h:wpAny (model prog w) A (eval e env) (λo s₁=>wpAny (model prog w) A (getAttr o f true) Q E s₁) E s):wpAny (model prog w) A (eval (.Attribute e f pos) env) Q E s:=
 Attribute_any_ h (by rw[arm_eval_Attribute,hb])
end
section
variable{X:Cx}{o e value:Expr}{f:Str}{pos pos' tpos:Pos}{ta tv:TE}
end
section
variable{X:Cx}{pins:AO}{σ:St}{H:Hp}{s:Shared}{A:Around}{E:VS}{Q:VS}{c:Value}{b:Bool}
inductive xF(K:Fg)(H:Hp):V->Value->Prop where
 |non:xF K H .non (.type "NoneType")
 |bl (x:Bool):xF K H (.bl x) (.type "bool")
 |int (i:Int):xF K H (.int i) (.type "int")
 |str (x:Str):xF K H (.str x) (.type "str")
 |flt (x:UInt64):xF K H (.flt x) (.type "float")
 |lst {a:Addr}{xs:List V} (e:H a=some (.lst xs)):xF K H (.ref a) (.type "list")
 |frz {a:Addr}{o:Obj} {xs:List V}(e:H a=some (.frz o (.lst xs))):xF K H (.ref a) (.type "list")
 |tup {a:Addr}{xs:List V} (e:H a=some (.tup xs)):xF K H (.ref a) (.type "tuple")
 |dK {a:Addr}{kvs:List (Key×V)} (e:Rd H a (.dK kvs)):xF K H (.ref a) (.type "dict")
 |dT {a:Addr}{kvs:List (List Key×V)} (e:Rd H a (.dT kvs)):xF K H (.ref a) (.type "dict")
 |ins {a C dx:Addr}{fs:List (Str×V)} (e:H a=some (.ins C dx fs)) (cl:Cls K C) (ha:PySem.W.findIn K (.ref C) "__class__"=some (some (.builtin "object.__class__")))
   (hn:PySem.W.specialIn K (.builtin "object.__class__") "__get__"=some (some (.builtin "getset_descriptor.__get__"))) (htk:PySem.W.takesIn K (.builtin "object.__class__")=some true)
   (hm:PySem.W.mroIn K C (.type "object")=some true):xF K H (.ref a) (.ref C)
theorem zjM{x:V}{t:Value}(I:Inv X pins σ H s)(rx:zQ x u)(ty:xF X.K H x t)(e:PySem.W.kitOne X.K t c=some b)(h:∀tk,Q (.bool b) {s with toks:=tk}):
  wpAny (model X.prog X.w) A (call (.builtin "isinstance") [u,c]) Q E s:=by
 cases ty with
 |non=>cases(show u=Value.none from rx);exact PySem.W.kia_one PySem.W.kitx_none I.kIn True.intro e (λz=>nomatch z) h
 |bl y=>cases(show u=Value.bool y from rx);exact PySem.W.kia_one PySem.W.kitx_bool I.kIn True.intro e (λz=>nomatch z) h
 |int i=>obtain⟨t,q⟩:=(show∃t,u=Value.int i t from rx);cases q;exact PySem.W.kia_one PySem.W.kitx_int I.kIn True.intro e (λz=>nomatch z) h
 |str y=>obtain⟨t,q⟩:=(show∃t,u=Value.str y t from rx);cases q;exact PySem.W.kia_one PySem.W.kitx_str I.kIn True.intro e (λz=>nomatch z) h
 |flt y=>obtain⟨t,q⟩:=(show∃t,u=Value.float y t from rx);cases q;exact PySem.W.kia_one PySem.W.kitx_float I.kIn True.intro e (λz=>nomatch z) h
 |@lst a xs ea=>
  cases(show u=Value.ref a from rx)
  obtain⟨_,_,n,_,h1⟩:=(show qZ X.prog X.w H s.heap a (.lst xs)from I.hok a _ ea);exact PySem.W.kia_one PySem.W.kitx_list I.kIn ⟨_,h1,rfl⟩ e (λz=>nomatch z) h
 |@frz a ob xs ea=>
  cases(show u=Value.ref a from rx)
  obtain⟨_,_,_,n,_,h1⟩:=(show qZ X.prog X.w H s.heap a (.frz ob (.lst xs))from I.hok a _ ea);exact PySem.W.kia_one PySem.W.kitx_list I.kIn ⟨_,h1,rfl⟩ e (λz=>nomatch z) h
 |@tup a xs ea=>
  cases(show u=Value.ref a from rx)
  obtain⟨_,_,_,p⟩:=(show qZ X.prog X.w H s.heap a (.tup xs)from I.hok a _ ea);obtain⟨o,h1,h2,_⟩:=p;exact PySem.W.kia_one PySem.W.kitx_tuple I.kIn ⟨o,h1,h2⟩ e (λz=>nomatch z) h
 |@dK a kvs ea=>
  cases(show u=Value.ref a from rx)
  obtain⟨_,_,vs,_,p⟩:=(show qZ X.prog X.w H s.heap a (.dK kvs)from ea.ok I.hok);obtain⟨o,es,ep,h1,h2,_⟩:=p;exact PySem.W.kia_one PySem.W.kitx_dict I.kIn ⟨o,h1,h2.1⟩ e (λz=>nomatch z) h
 |@dT a kvs ea=>
  cases(show u=Value.ref a from rx)
  obtain⟨_,_,xs,_,o,es,ep,h1,h2,_⟩:=(show qZ X.prog X.w H s.heap a (.dT kvs)from ea.ok I.hok);exact PySem.W.kia_one PySem.W.kitx_dict I.kIn ⟨o,h1,h2.1⟩ e (λz=>nomatch z) h
 |@ins a C dx fs ea cl ha hn htk hm=>
  cases(show u=Value.ref a from rx)
  obtain⟨mA,O,_⟩:=znF I.hok ea;obtain⟨od,J,_⟩:=O.look;exact PySem.W.kia_one (PySem.W.kitx_own (cl.get _) cl.hd ha hn htk hm) I.kIn J e (λz=>nomatch z) h
end
structure zW(k:Nat)(A:Around):Prop where
 hd:A.handled=none
 dp:A.depth+3*k+5<recursionLimit
 un:A.units+16*k+200<cLine
 gd:A.guards=some []
theorem zW.mono(r:zW k A)(h:j<=k):zW j A:=⟨r.hd,by have:=r.dp;omega,by have:=r.un;omega,r.gd⟩
theorem zW.deeper(r:zW (k+1) A)(env:Env):zW k (A.deeper env):=
 ⟨r.hd,by have:=r.dp;show A.depth+1+3*k+5<_;omega,by have:=r.un;show A.units+3+16*k+200<_;omega,r.gd⟩
theorem zW.in1{k:Nat}{A:Around}(r:zW (k+1) A):zW k A.in1:=
 ⟨r.hd,by have:=r.dp;show A.depth+3*k+5<_;omega,by have:=r.un;show A.units+1+16*k+200<_;omega,r.gd⟩
variable{kw:List (Str×Value)}
theorem zib:(A.under (.builtin "type.__call__" ⟨.ref C::us,kw⟩)).depth=A.depth+1:=by first|rfl|simp[Around.under,Code.weight,Code.isCreation,Code.isGuard,Code.isCaller,Code.frames,Code.isFrame,guardIds]
theorem zia:(A.under (.builtin "type.__call__" ⟨.ref C::us,kw⟩)).units=A.units+1:=by first|rfl|simp[Around.under,Code.cUnits,Code.frames,Code.isFrame]
theorem zW.make(r:zW (k+1) A)(C:Addr)(us:List Value)(kw:List (Str×Value)):zW k (A.under (.builtin "type.__call__" ⟨.ref C::us,kw⟩)):=
 ⟨r.hd,by have:=r.dp;rw[zib];omega,by have:=r.un;rw[zia];omega,by first|exact r.gd|(simp[Around.under,Code.isGuard,guardIds];exact r.gd)⟩
theorem zW.depth(r:zW k A):A.depth<recursionLimit:=by have:=r.dp;omega
def wA:TA:=λ_ H Q=>Q [] H
def yN(ta:TE)(tr:TA):TA:=λσ H Q=>ta σ H λx H1=>tr σ H1 λxs H2=>Q (x::xs) H2
section
variable{X:Cx}{e:Expr}{es:List Expr}{te:TE}{t:TA}{pos:Pos}
theorem kO:PA X [] wA:=λ_ _ _ _ H Q I h=>Calls.spliced_nil ⟨[],H,I,.nil,h⟩
theorem jF(ha:PE X e te)(hr:PA X es t)(hs:starEach (e::es) X.env=(false,eval e X.env)::starEach es X.env:=by rfl):PA X (e::es) (yN te t):=by intro pos pins s σ H Q I h;rw[hs];show wpAny _ _ (spliced ((false,eval e X.env)::backTo pos (starEach es X.env))) _ _ s;refine Calls.spliced_cons (thn (ha pins s σ H _ I h) λu s1 ⟨x,H1,I1,r1,q1⟩=>?_);exact thn (hr pos pins s1 σ H1 _ I1 q1) λus s2 ⟨xs,H2,I2,r2,q2⟩=>⟨x::xs,H2,I2,.cons r1 r2,q2⟩
def tTup(t:TA):TE:=λσ H Q=>t σ H λxs H1=>xs.length<=sizeLine/\∀p,H1 p=none->Q (.ref p) (upd H1 p (.tup xs))
def tLst(t:TA):TE:=λσ H Q=>t σ H λxs H1=>xs.length<=sizeLine/\∀p,H1 p=none->Q (.ref p) (upd H1 p (.lst xs))
theorem zmu{x1}(h:PA X es t):PE X (.Tuple es x1 pos) (tTup t):=by intro pins s σ H Q I hq;refine wpAny_Tuple_spliced (thn (h pos pins s σ H _ I hq) λus s1 ⟨xs,H1,I1,r,z,q⟩=>⟨by rw[←r.length];exact z,?_⟩);have hf:H1 s1.heap.objs.size=none:=I1.hok.fresh (Nat.le_refl _);refine⟨.ref s1.heap.objs.size,upd H1 s1.heap.objs.size (.tup xs),I1.laid (t':=s1.toks) (λb u e=>Heap.get?_push_of_some _ e) (Nat.le_refl _) ?_,rfl,q _ hf⟩;exact⟨z,us,r,⟨_,Heap.get?_push_size _ rfl,rfl,_,rfl⟩⟩
theorem zoV(h:PA X es t):PE X (.List es pos) (tLst t):=by intro pins s σ H Q I hq;refine wpAny_List_spliced (thn (h pos pins s σ H _ I hq) λus s1 ⟨xs,H1,I1,r,z,q⟩=>⟨by rw[←r.length];exact z,?_⟩);have hf:H1 s1.heap.objs.size=none:=I1.hok.fresh (Nat.le_refl _);refine⟨.ref s1.heap.objs.size,upd H1 s1.heap.objs.size (.lst xs),I1.laid (t':=s1.toks) (λb u e=>Heap.get?_push_of_some _ e) (Nat.le_refl _) ?_,rfl,q _ hf⟩;exact⟨z,us,0,r,Heap.get?_push_size _ rfl⟩
end
abbrev Sp:=List V->Hp->VK->XK->Prop
abbrev CXT:=List Env->Hp->Shared->XK->VS
structure Env0(P:Program)(w:World)(K:Fg)(mg:SV)(base:Heap)(A:Around)(outer:List Env)(s:Shared)(H:Hp):Prop where
 frames:A.frames=some outer
 mod:Mod K mg base
 bs:∀b o,base.get? b=some o->s.heap.get? b=some o/\H b=none
 bsz:base.objs.size<=s.heap.objs.size
 funs:s.heap.FunFrames base outer
 frf:∀b∈frs outer,H b=none
 hok:HOk P w H s.heap
 bare:AllBare s.gens
def CE(outer:List Env)(P:Program)(w:World)(H:Hp)(s:Shared)(Q:VK)(u:Value)(s':Shared):Prop:=
 ∃v H',s'.os=s.os/\AllBare s'.gens/\Un (frs outer) [] H H' s.heap s'.heap/\HOk P w H' s'.heap/\zQ v u/\Q v H'
def CR(CX:CXT)(outer:List Env)(P:Program)(w:World)(H:Hp)(s:Shared)(Q:VK)(E:XK)(r:Result)(s':Shared):Prop:=
 match r with
 | .ok (.ret u)=>CE outer P w H s Q u s'
 | .ok _=>False
 | .error e=>CX outer H s E e s'
structure jA(P:Program)(w:World)(K:Fg)(mg:SV)(base:Heap)(CX:CXT)(k:Nat)(f:Addr)(fd:FuncData)(ps:List Str)(sp:Sp):Prop where
 len:∀vs H Q E,sp vs H Q E->vs.length=ps.length
 run:∀(A:Around) (outer:List Env) (s:Shared) (H:Hp) (args:Args) (us:List Value) (vs:List V) (Q:VK) (E:XK),zW k A->Env0 P w K mg base A outer s H->BindsTo s fd args (ps.zip us)->zL vs us->sp vs H Q E->
  codeAny (model P w) A (.call (.ref f) args) (CR CX outer P w H s Q E) s
variable{mg:SV}{base:Heap}{CX:CXT}{fd:FuncData}{ps:List Str}{sp:Sp}
theorem jA.mono{f:Addr}(F:jA P w K mg base CX j f fd ps sp)(h:j<=k):
  jA P w K mg base CX k f fd ps sp:=⟨F.len,λA outer s H args us vs Q E hr=>F.run A outer s H args us vs Q E (hr.mono h)⟩
variable{outer:List Env}
theorem Env0.make(e:Env0 P w K mg base A outer s H)(C:Addr)(us:List Value)(kw:List (Str×Value)):
  Env0 P w K mg base (A.under (.builtin "type.__call__" ⟨.ref C::us,kw⟩)) outer s H:=⟨by first|exact e.frames|(simpa[Around.under,Code.envs,Code.isFrame,pushEnvs]using e.frames),e.mod,e.bs,e.bsz,e.funs,e.frf,e.hok,e.bare⟩
section
variable{X:Cx}{pins:AO}{σ:St}{H:Hp}{s s':Shared}
theorem Inv.env0(I:Inv X pins σ H s):Env0 X.prog X.w X.K X.mg X.base X.A X.stack s H:=
 ⟨I.ok.frames,I.ok.mod,I.bs,Nat.le_trans I.ok.bsz I.sz,I.stack,I.stkFree,I.hok,I.bare⟩
theorem Inv.after{Q:VK}(I:Inv X pins σ H s)(h:CE X.stack X.prog X.w H s Q u s'):EP X pins σ Q u s':=by obtain⟨v,H',os,bare,un,hok,r,q⟩:=h;obtain⟨hh,g,d,t,os'⟩:=s';obtain rfl:os'=s.os:=os;exact⟨v,H',I.call (h':=hh) (g':=g) (d':=d) (t':=t) (ch:=[]) un hok bare (λb z=>absurd z (by simp)),r,q⟩
end
def ziE(sp:Sp)(dvs:List V)(E:XK)(t:TA):TE:=λσ H Q=>t σ H λvs H1=>sp (vs++dvs) H1 Q E
def kM(K:Fg)(fd:FuncData)(ps:List Str)(ds:List Value):Prop:=
 ∀(s:Shared) (us:List Value),K.In s.heap->(us++ds).length=ps.length->BindsTo s fd ⟨us,[]⟩ (ps.zip (us++ds))
theorem kM.all(h:∀us:List Value,us.length=ps.length->bindArgs fd ⟨us,[]⟩=pure (ps.zip us)):kM K fd ps []:=λs us _ hl=>by rw[List.append_nil]at hl ⊢;exact .of_eq (h us hl)
def zkL(CX:CXT)(X:Cx)(E:XK):Prop:=∀(pins:AO) (σ:St) (H:Hp) (s:Shared) (e:Value) (s':Shared),Inv X pins σ H s->CX X.stack H s E e s'->X.xe e s'
section
variable{X:Cx}{CX:CXT}{k:Nat}{f C:Addr}{fd:FuncData}{ps:List Str}{sp:Sp}{dvs:List V}{ds:List Value}{E:XK}{x m:Str}{p pos apos:Pos}{e o:Expr}{es:List Expr}{ta:TE}{t:TA}
theorem zmt{Q:VK}{us:List Value}{vs:List V}(F:jA X.prog X.w X.K X.mg X.base CX k f fd ps sp)(hr:zW k X.A)(hb:kM X.K fd ps ds)(hd:zL dvs ds)(hx:zkL CX X E)(I:Inv X pins σ H s)(r:zL vs us)(h:sp (vs++dvs) H Q E):wpAny (model X.prog X.w) X.A (call (.ref f) us) (EP X pins σ Q) X.xe s:=by
 have r2:zL (vs++dvs) (us++ds):=r.append hd;have hl:(us++ds).length=ps.length:=by rw[←r2.length];exact F.len _ _ _ _ h
 refine wpAny_call (codeAny_mono (F.run X.A X.stack s H ⟨us,[]⟩ (us++ds) (vs++dvs) Q E hr I.env0 (hb s us I.kIn hl) r2 h) λr s' hq=>?_);cases r with
 |error e=>exact hx pins σ H s e s' I hq
 |ok fl=>
  cases fl with
  |ret u=>exact I.after hq
  |next=>exact False.elim hq
  |brk=>exact False.elim hq
  |cont=>exact False.elim hq
theorem zer(F:jA X.prog X.w X.K X.mg X.base CX k f fd ps sp)(hr:zW k X.A)(hg:Gl X x)(hm:X.mg x=some (.ref f))(hk:PySem.W.keepIn X.K (.ref f)=true)(hb:kM X.K fd ps ds)(hd:zL dvs ds)(hx:zkL CX X E)(ha:PA X (e::es) t)(hdb:(x==("__debug__":Str))=false:=by decide)(he:starEach (e::es) X.env=(false,eval e X.env)::starEach es X.env:=by rfl)(hpl:(backTo pos (starEach es X.env)).any (·.1)=false:=by rfl):
  PE X (.Call (.Name x p) (e::es) [] pos) (ziE sp dvs E t):=by
 intro pins s σ H Q I h;refine wpAny_Call_Name_kw (zbP I hg hm ?_ hdb);refine PySem.W.callWith_K (h₀:=X.base) I.ok.mod.kin hk (thn (ha pos pins s σ H _ I h) λus s1 ⟨vs,H1,I1,r,q⟩=>⟨I1.kIn,?_⟩) he hpl;exact zmt F hr hb hd hx I1 r q
end
def PK(X:Cx)(kws:List Keyword)(t:TA):Prop:=
 ∀(pos:Pos) (pins:AO) (s:Shared) (σ:St) (H:Hp) (Q:List V->Hp->Prop),Inv X pins σ H s->t σ H Q->wpAny (model X.prog X.w) X.A (evalAll ((backToKw pos (keywordEach kws X.env)).map (·.2))) (AP X pins σ Q) X.xe s
section
variable{X:Cx}{CX:CXT}{k:Nat}{f C:Addr}{fd:FuncData}{ps ks:List Str}{sp:Sp}{E:XK}{x m:Str}{p pos apos kpos:Pos}{e o:Expr}{es:List Expr}{kws:List Keyword}{te ta:TE}{t tk:TA}{nm:Option Str}
theorem zoL:PK X [] wA:=λ_ _ _ _ H Q I h=>wpAny_evalAll_nil ⟨[],H,I,.nil,h⟩
theorem znj(ha:PE X e te)(hr:PK X kws t):PK X (⟨nm,e,kpos⟩::kws) (yN te t):=by intro pos pins s σ H Q I h;show wpAny _ _ (evalAll ((do let v ←eval e X.env;standAt pos;pure v)::(backToKw pos (keywordEach kws X.env)).map (·.2))) _ _ s;refine wpAny_evalAll_cons (wpAny_bind (thn (ha pins s σ H _ I h) λu s1 ⟨x,H1,I1,r1,q1⟩=>wpAny_bind (wpAny_standAt (wpAny_pure ?_))));exact thn (hr pos pins s1 σ H1 _ I1 q1) λus s2 ⟨xs,H2,I2,r2,q2⟩=>⟨x::xs,H2,I2,.cons r1 r2,q2⟩
variable{g:List Value->List Value->List Value}{gV:List V->List V->List V}
end
structure yL(N P:List Str)(sc:Scope):Prop where
 kind:sc.kind=.function
 co:sc.isCoroutine=false
 gen:sc.isGenerator=false
 nd:N.Nodup
 pre:N.take P.length=P
 par:∀x∈P,sc.names.lookup x=some .local\/sc.names.lookup x=some .cell
 nofree:∀y∈sc.names,y.2≠.free
variable{kindOf:Str->Option NameKind}
theorem zfM:∀{binds:List (Str×Value)}{m:SV},(∀v,(x,v)∉binds)->bindL kindOf binds m x=m x
 |[],_,_=>rfl
 |(n,v)::r,m,h=>by
  unfold bindL;rw[zfM λw hw=>h w (List.mem_cons_of_mem _ hw)];split
  ·have:x≠n:=by rintro rfl;exact h v List.mem_cons_self
   simp[this]
  ·rfl
theorem zfO:∀{binds:List (Str×Value)}{m:SV},(∀v,(x,v)∉binds)->bindC kindOf binds m x=m x
 |[],_,_=>rfl
 |(n,v)::r,m,h=>by
  unfold bindC;rw[zfO λw hw=>h w (List.mem_cons_of_mem _ hw)];split
  ·rfl
  ·have:x≠n:=by rintro rfl;exact h v List.mem_cons_self
   simp[this]
theorem zfN{v:Value}:∀{P:List Str}{vs:List Value} {i:Nat}{m:SV},P.Nodup->P[i]?=some x->vs[i]?=some v->kindOf x=some .local->
  bindL kindOf (P.zip vs) m x=some v
 |[],_,_,_,_,h,_,_=>by simp at h
 |_::_,[],_,_,_,_,h,_=>by simp at h
 |p::P,w::vs,0,m,nd,h1,h2,hk=>by simp at h1 h2;subst h1;subst h2;show bindL kindOf ((p,w)::P.zip vs) m p=_;unfold bindL;rw[zfM λv hv=>(List.nodup_cons.mp nd).1 (List.of_mem_zip hv).1,if_pos hk];simp
 |p::P,w::vs,i+1,m,nd,h1,h2,hk=>by show bindL kindOf ((p,w)::P.zip vs) m x=_;unfold bindL;exact zfN (i:=i) (List.nodup_cons.mp nd).2 (by simpa using h1) (by simpa using h2) hk
theorem zfP{v:Value}:∀{P:List Str}{vs:List Value} {i:Nat}{m:SV},P.Nodup->P[i]?=some x->vs[i]?=some v->kindOf x≠some .local->
  bindC kindOf (P.zip vs) m x=some v
 |[],_,_,_,_,h,_,_=>by simp at h
 |_::_,[],_,_,_,_,h,_=>by simp at h
 |p::P,w::vs,0,m,nd,h1,h2,hk=>by simp at h1 h2;subst h1;subst h2;show bindC kindOf ((p,w)::P.zip vs) m p=_;unfold bindC;rw[zfO λv hv=>(List.nodup_cons.mp nd).1 (List.of_mem_zip hv).1,if_neg hk];simp
 |p::P,w::vs,i+1,m,nd,h1,h2,hk=>by show bindC kindOf ((p,w)::P.zip vs) m x=_;unfold bindC;exact zfP (i:=i) (List.nodup_cons.mp nd).2 (by simpa using h1) (by simpa using h2) hk
def start(N:List Str)(vs:List V):St:=vs.map some++List.replicate (N.length - vs.length) none
noncomputable def kE(CX:CXT)(P:Program)(w:World)(K:Fg)(mg:SV)(base:Heap)(N:List Str)(qual:Str)(scope:Scope)(f:Addr)(cd:Value)(A:Around)(outer:List Env)(s:Shared)(H:Hp)(E:XK):Cx where
 prog:=P
 w:=w
 K:=K
 mg:=mg
 base:=base
 A:=A.deeper (envOfC qual scope s.heap.objs.size f cd)
 N:=N
 s₀:=s
 H₀:=H
 env:=envOfC qual scope s.heap.objs.size f cd
 outer:=outer
 stack:=envOfC qual scope s.heap.objs.size f cd::outer
 ex:=[]
 calm:=true
 fn:=λ_=>true
 pn:=[]
 xe:=λe s'=>wpAny (model P w) (A.deeper (envOfC qual scope s.heap.objs.size f cd)) (leaving (envOfC qual scope s.heap.objs.size f cd) e) (λ_ s''=>CX outer H s E e s'') (λe' s''=>CX outer H s E e' s'') s'
theorem zhB{sc:Scope}{n:Nat}(h:sc.names.lookup x=some .cell):∃c,(cellsFrom n sc.names []).lookup x=some c:=by have q:=PySem.W.cellsFrom_some sc.names n [] (.inl h);exact Option.isSome_iff_exists.mp q
variable{qual:Str}{scope:Scope}
theorem zjP{f:Addr}{cd:Value}{s1:Shared}{E:XK}{vs:List V}(S:yL N ps scope)(hd:A.handled=none)(e0:Env0 P w K mg base A outer s H)(hl:vs.length=ps.length)(r:zL vs us)(x:InCallC s s.heap.objs.size (bindL (envOfC qual scope s.heap.objs.size f cd).kindOf (ps.zip us) λ_=>none) (cellsFrom (s.heap.objs.size+1) scope.names []) (bindC (envOfC qual scope s.heap.objs.size f cd).kindOf (ps.zip us) λ_=>none) s1):
  Inv (kE CX P w K mg base N qual scope f cd A outer s H E) [] (start N vs) H s1:=by
 have hpl:ps.length<=N.length:=by have:=congrArg List.length S.pre;rw[List.length_take]at this;omega
 obtain⟨h1,tk,rfl,hk⟩:=x.done;have noA:∀b:Addr,b∉(kE CX P w K mg base N qual scope f cd A outer s H E).ex:=λb z=>absurd (show b∈([]:List Addr)from z) (by simp)
 refine⟨⟨e0.mod,S.kind,rfl,rfl,Nat.le_refl _,λy z c h1 h2=>?_,λy hy=>?_,λy c _ h=>?_,λ_=>hd,Around.frames_deeper e0.frames,.inr ⟨rfl,rfl⟩,λb z=>absurd z (noA b),e0.bs,e0.bsz,λb _ _=>noA b,λb z=>absurd z (noA b),e0.funs,e0.frf⟩,
  rfl,e0.bare,Un.kept hk,⟨_,x.toInCall.ns,λi y v h1 h2 h3=>?_⟩,λy c h=>⟨_,x.cell y c h⟩,e0.hok.fresh (Nat.le_refl _),λy c h=>?_,λp hp=>absurd (show p∈([]:AO)from hp) (by simp),e0.hok.kept hk,?_⟩
 ·exact name_of_addr x.apart (PySem.mem_of_lookup h1) (PySem.mem_of_lookup h2)
 ·have hy:scope.names.lookup y=some .cell\/scope.names.lookup y=some .free:=hy;rcases hy with hy|hy
  ·exact zhB hy
  ·exact absurd rfl (S.nofree _ (PySem.mem_of_lookup hy))
 ·exact Nat.le_of_lt (x.above y c (PySem.mem_of_lookup h))
 ·have hi:i<vs.length:=by
   unfold start at h2;by_cases hi:i<vs.length
   ·exact hi
   ·rw[List.getElem?_append_right (by simpa using hi)]at h2;rw[List.getElem?_replicate]at h2;split at h2<;>cases h2
  have ha:vs[i]?=some v:=by
   unfold start at h2;rw[List.getElem?_append_left (by simpa using hi),List.getElem?_map]at h2;cases e:vs[i]? with
   |none=>rw[e]at h2;cases h2
   |some a=>rw[e]at h2;cases h2;rfl
  obtain⟨u,hu,rv⟩:=r.get ha;have hp:ps[i]?=some y:=by rw[←S.pre,List.getElem?_take_of_lt (by omega)];exact h1
  have ndP:ps.Nodup:=by rw[←S.pre];exact S.nd.sublist (List.take_sublist _ _)
  refine⟨u,rv,?_⟩;rcases S.par y (List.mem_of_getElem? hp)with k|k
  ·exact .inl ⟨k,zfN ndP hp hu k⟩
  ·obtain⟨c,e⟩:=zhB (n:=s.heap.objs.size+1) k;refine .inr ⟨.inl k,c,e,?_⟩;have q:=x.cell y c e;rw[zfP ndP hp hu (by show scope.names.lookup y≠_;rw[k];decide)]at q;exact q
 ·exact e0.hok.fresh (Nat.le_of_lt (x.above y c (PySem.mem_of_lookup h)))
 ·unfold start;show _=N.length;rw[List.length_append,List.length_map,List.length_replicate];omega
theorem zpJ{f:Addr}{name:Str}{params:Arguments}{dV kV doc pm cdv ct oc:Value}{an od:Option Addr}{osl:Array (Option Value)}(lk:K.lookup f=some ⟨oc,od,.func (PySem.W.fnOf name qual params body scope dV kV doc pm an cdv ct),osl⟩)(hcd:PySem.W.codeIn K cdv qual=true)(S:yL N ps scope)(len:∀vs H Q E,sp vs H Q E->vs.length=ps.length)(hbody:∀(A:Around) (outer:List Env) (s:Shared) (H:Hp) (vs:List V) (Q:VK) (E:XK),zW k (A.deeper (envOfC qual scope s.heap.objs.size f cdv))->sp vs H Q E->
   ∃t,PSs (kE CX P w K mg base N qual scope f cdv A outer s H E) body t/\t {nx:=λ_ H'=>Q .non H',rt:=Q} (start N vs) H):
  jA P w K mg base CX (k+1) f (PySem.W.fnOf name qual params body scope dV kV doc pm an cdv ct) ps sp:=by
 refine⟨len,λA outer s H args us vs Q E hr e0 hb r hsp=>?_⟩;have hl:=len _ _ _ _ hsp;have KX:K.In s.heap:=e0.mod.kin.keeps λb o e=>(e0.bs b o e).1
 have lim:s.heap.NoLimit:=e0.mod.nolimit.keeps λb o e=>(e0.bs b o e).1
 have hkind:∀y∈ps.zip us,scope.names.lookup y.1=some .local\/(scope.names.lookup y.1=some .cell/\((cellsFrom (s.heap.objs.size+1) scope.names []).lookup y.1).isSome=true):=λ⟨n,v⟩ hy=>by
  rcases S.par n (List.of_mem_zip hy).1 with q|q
  ·exact .inl q
  ·exact .inr ⟨q,PySem.W.cellsFrom_some _ _ _ (.inl q)⟩
 refine codeAny_call_function hr.depth (KX _ _ lk) rfl S.co S.gen rfl (PySem.W.codeRec_of KX hcd) (hb _ _ _ _ ?_);refine wpAny_newFunctionEnv_cells S.kind hkind λenv he s1 x=>?_
 subst he;refine⟨lim.keeps x.toInCall.keep,codeAny_func ?_⟩;obtain⟨t,ht,hq⟩:=hbody A outer s H vs Q E (hr.deeper _) hsp;have I:Inv (kE CX P w K mg base N qual scope f cdv A outer s H E) [] (start N vs) H s1:=zjP S hr.hd e0 hl r x;refine wpAny_mono (ht [] s1 (start N vs) H _ I hq) (λfl s' hs=>?_) λe s' hs=>hs
 have fin:∀{σ':St}{H':Hp} {v:V}{u:Value},Inv (kE CX P w K mg base N qual scope f cdv A outer s H E) [] σ' H' s'->zQ v u->Q v H'->CE outer P w H s Q u s':=
  λ{σ' H' v u} J rv q=>⟨v,H',J.os,J.bare,J.base,J.hok,rv,q⟩
 cases fl with
 |ret u=>
  obtain⟨v,σ',H',J,rv,q⟩:=hs;exact fin J rv q
 |next=>
  obtain⟨σ',H',J,q⟩:=hs;exact fin (v:=V.non) (u:=Value.none) J rfl q
 |brk=>
  obtain⟨_,_,_,q⟩:=hs;exact False.elim q
 |cont=>
  obtain⟨_,_,_,q⟩:=hs;exact False.elim q
section
variable{X:Cx}{x:Str}{p pos:Pos}{e:Expr}{es:List Expr}{t:TA}{id T:String}{r:List V->Hp->VK->Prop}
def tCB(r:List V->Hp->VK->Prop)(t:TA):TE:=λσ H Q=>t σ H λvs H1=>r vs H1 Q
theorem zbA(hc:jX X (.builtin id) r)(hg:Gl X x)(hm:X.mg x=none)(hv:bootBuiltins x=some (.builtin id))(ha:PA X (e::es) t)(hn:x≠"__name__":=by decide)(hdb:(x==("__debug__":Str))=false:=by decide)(he:starEach (e::es) X.env=(false,eval e X.env)::starEach es X.env:=by rfl)(hpl:(backTo pos (starEach es X.env)).any (·.1)=false:=by rfl):PE X (.Call (.Name x p) (e::es) [] pos) (tCB r t):=by intro pins s σ H Q I h;refine wpAny_Call_Name_kw (zdj I hg hm hv ?_ hn hdb);exact PyProof.Rows.callWith_builtin1 (thn (ha pos pins s σ H _ I h) λus s1 ⟨vs,H1,I1,r1,q1⟩=>hc pins s1 σ H1 vs us Q I1 r1 q1) he hpl
theorem zfo(hc:jX X (.type T) r)(hg:Gl X x)(hm:X.mg x=none)(hv:bootBuiltins x=some (.type T))(ha:PA X (e::es) t)(hn:x≠"__name__":=by decide)(hdb:(x==("__debug__":Str))=false:=by decide)(he:starEach (e::es) X.env=(false,eval e X.env)::starEach es X.env:=by rfl)(hpl:(backTo pos (starEach es X.env)).any (·.1)=false:=by rfl):PE X (.Call (.Name x p) (e::es) [] pos) (tCB r t):=by intro pins s σ H Q I h;refine wpAny_Call_Name_kw (zdj I hg hm hv ?_ hn hdb);exact PyProof.Rows.callWith_type1 (thn (ha pos pins s σ H _ I h) λus s1 ⟨vs,H1,I1,r1,q1⟩=>hc pins s1 σ H1 vs us Q I1 r1 q1) he hpl
end
end L2
namespace HT
def lexLt:List Int->List Int->Bool
 |[],[]=>false
 |[],_::_=>true
 |_::_,[]=>false
 |x::xs,y::ys=>if x=y then lexLt xs ys else decide (x<y)
theorem zic(x y:Int)(xs ys:List Int):lexLt (x::xs) (y::ys)=if x=y then lexLt xs ys else decide (x<y):=rfl
theorem zeC:lexLt [] []=false:=rfl
theorem zdF(y:Int)(ys:List Int):lexLt [] (y::ys)=true:=rfl
theorem zdG(x:Int)(xs:List Int):lexLt (x::xs) []=false:=rfl
theorem zlM(A:Around)(s:Shared)(a:Int)(t:Tok)(c:Int)(u:Tok):∃e,SeqAt.EqAt A s (.int a t) (.int c u) e/\(e=true↔a=c):=
 ⟨(a==c),SeqAt.EqAt.int_int a t c u,by simp⟩
section
open PySem.SeqAt
open PySem.AutoSeq1 (wpAny_loadPart')
open PySem.MeetsSeq PySem.MeetsSeq2 PySem.MeetsSeq3
end
variable{t sl:Addr}{Q:VS}{vl vu:Value}{lo hi:Option Int}
section
variable{prog:Program}{w:World}{A:Around}{E:VS}{s:Shared}
theorem cat_tup{b:Addr}{vs ws:List Value}(ht:IsTup s.heap t vs.toArray)(hb:IsTup s.heap b ws.toArray)(hv:vs≠[])(h1:ws=[]->Q (.ref t) s)(h2:ws≠[]->Q (.ref s.heap.objs.size) {s with heap:=s.heap.push {cls:=.type "tuple",data:=.seq (vs++ws).toArray}})(hsz:vs.length+ws.length<=sizeLine):wpAny (model prog w) A (binaryOp .Add (.ref t) (.ref b)) Q E s:=by
 obtain⟨⟨cls,dd,data,sl⟩,ho,hc,n,hd⟩:=id ht;obtain⟨⟨cls2,dd2,data2,sl2⟩,ho2,hc2,n2,hd2⟩:=id hb;simp only at hc hd hc2 hd2;subst hc hd hc2 hd2;have e:vs.toArray++ws.toArray=(vs++ws).toArray:=by simp
 by_cases hw:ws=[]
 ·exact concat_meets ⟨_,ho,rfl⟩ ⟨_,ho2,rfl⟩ noFill_tuple_add seq_tuple_add PySem.F.slot_tuple_add PySem.F.entry_tuple_add (PySem.F.args_tuple_add_2 _ _)
   (tuple_addW1 t b vs.toArray ws.toArray n n2 dd dd2 sl sl2 (by simpa using hv) (by simp[hw])) ⟨ho,ho2,h1 hw⟩
 ·refine concat_meets ⟨_,ho,rfl⟩ ⟨_,ho2,rfl⟩ noFill_tuple_add seq_tuple_add PySem.F.slot_tuple_add PySem.F.entry_tuple_add (PySem.F.args_tuple_add_2 _ _)
   (tuple_addW2 t b vs.toArray ws.toArray n n2 dd dd2 sl sl2 (by simpa using hv) (by simpa using hw) (by rw[List.size_toArray,List.size_toArray];exact hsz)) ⟨ho,ho2,?_⟩
  rw[e];exact h2 hw
noncomputable def sIx(n d:Nat):Option Int->Nat
 |none=>d
 |some v=>if v<0 then(v+(n:Int)).toNat else min v.toNat n
theorem sIx_none(n d:Nat):sIx n d none=d:=rfl
theorem sIx_nat(n d k:Nat):sIx n d (some (k:Int))=min k n:=by show(if(k:Int)<0 then((k:Int)+(n:Int)).toNat else min (k:Int).toNat n)=min k n;rw[if_neg (by omega),Int.toNat_natCast]
theorem zoz(n d:Nat)(hd:d<=n)(o:Option Int):sIx n d o<=n:=by
 cases o with
 |none=>exact hd
 |some v=>
  show(if v<0 then(v+(n:Int)).toNat else min v.toNat n)<=n;by_cases hv:v<0
  ·rw[if_pos hv];omega
  ·rw[if_neg hv];exact Nat.min_le_right _ _
theorem zkt(v:Int)(n d:Nat):(if v<0 then max (v+(n:Int)) 0 else min v (n:Int))=((sIx n d (some v):Nat):Int):=by
 show(if v<0 then max (v+(n:Int)) 0 else min v (n:Int))=(((if v<0 then(v+(n:Int)).toNat else min v.toNat n):Nat):Int);by_cases hv:v<0
 ·simp only[if_pos hv];omega
 ·simp only[if_neg hv];omega
theorem ziu(lo hi:Option Int)(n:Nat):Builtin.Slice.sliceAdjust lo hi 1 (n:Int)=(((sIx n 0 lo:Nat):Int),((sIx n n hi:Nat):Int)):=by
 have h1:¬((1:Int)<0):=by omega
 unfold Builtin.Slice.sliceAdjust;simp only[h1,if_false];refine Prod.ext ?_ ?_
 ·cases lo with
  |none=>rfl
  |some v=>exact zkt v n 0
 ·cases hi with
  |none=>rfl
  |some v=>exact zkt v n n
theorem zhQ(i j:Nat):Builtin.Slice.slicePlaces (i:Int) (j:Int) 1=j - i:=by
 unfold Builtin.Slice.slicePlaces;have h1:(1:Int)>0:=by omega
 simp only[h1,if_true,Int.ediv_one]
 split<;>omega
theorem zdJ{v:Value}{o:Option Int}{Q:Option Int->Shared->Prop}(p:IsPart v o)(h:Q o s):wpAny (model prog w) A (Builtin.Slice.slicePartIndex v) Q E s:=by
 cases p with
 |none=>exact slicePart_none h
 |int i t=>exact slicePart_int h
theorem zaZ{n:Nat}{Q:Int×Int×Nat->Shared->Prop}(hs:s.heap.IsSliceOf sl vl vu .none)(pl:IsPart vl lo)(pu:IsPart vu hi)(h:Q (((sIx n 0 lo:Nat):Int),1,sIx n n hi - sIx n 0 lo) s):wpAny (model prog w) A (Builtin.Slice.sliceApplied (.ref sl) (pure (n:Int))) Q E s:=by obtain⟨os,hos,hcs,hds⟩:=id hs;unfold Builtin.Slice.sliceApplied Builtin.Slice.sliceFields;refine wpAny_bind (wpAny_bind (wpAny_field hos hds (x:=vl) rfl (wpAny_bind (wpAny_field hos hds (x:=vu) rfl (wpAny_bind (wpAny_field hos hds (x:=.none) rfl (wpAny_pure ?_)))))));refine wpAny_bind (slicePart_none ?_);show wpAny _ _ (if((1:Int)==0)=true then _ else _) _ _ s;rw[if_neg (by decide)];refine wpAny_bind (zdJ pl (wpAny_bind (zdJ pu (wpAny_bind (wpAny_pure ?_)))));show wpAny _ _ (match Builtin.Slice.sliceAdjust lo hi 1 (n:Int)with|(lo,hi)=>pure (lo,(1:Int),Builtin.Slice.slicePlaces lo hi 1)) _ _ s;rw[ziu lo hi n];show wpAny _ _ (pure (((sIx n 0 lo:Nat):Int),(1:Int),Builtin.Slice.slicePlaces ((sIx n 0 lo:Nat):Int) ((sIx n n hi:Nat):Int) 1)) _ _ s;rw[zhQ];exact wpAny_pure h
theorem zlb(xs:Array Value)(i k:Nat):((List.range k).filterMap λ(m:Nat)=>xs[((i:Int)+(m:Int)*1).toNat]?).toArray=((xs.toList.drop i).take k).toArray:=by
 have e:(λ(m:Nat)=>xs[((i:Int)+(m:Int)*1).toNat]?)=λm=>xs[i+m]?:=by
  funext m
  have:((i:Int)+(m:Int)*1).toNat=i+m:=by omega
  rw[this]
 rw[e]
 have:=pick_run xs i k;rw[List.filterMap_map]at this;have e2:((λx=>xs[x]?)∘λx=>i+x)=λm=>xs[i+m]?:=rfl
 rw[e2]at this;rw[this]
theorem getItem_tuple_cut{items:Array Value}(ht:IsTup s.heap t items)(hs:s.heap.IsSliceOf sl vl vu .none)(pl:IsPart vl lo)(pu:IsPart vu hi)(hw:¬(sIx items.size 0 lo=0/\sIx items.size items.size hi=items.size))(h:Q (.ref s.heap.objs.size) {s with heap:=s.heap.push {cls:=.type "tuple",data:=.seq ((items.toList.drop (sIx items.size 0 lo)).take (sIx items.size items.size hi - sIx items.size 0 lo)).toArray}})(hsz:items.size<=sizeLine):wpAny (model prog w) A (getItem (.ref t) (.ref sl)) Q E s:=by
 have htake:sizeOk (.seq ((items.toList.drop (sIx items.size 0 lo)).take (sIx items.size items.size hi - sIx items.size 0 lo)).toArray):=by show((items.toList.drop (sIx items.size 0 lo)).take (sIx items.size items.size hi - sIx items.size 0 lo)).toArray.size<=sizeLine;rw[List.size_toArray,List.length_take,List.length_drop,Array.length_toList];omega
 have hj:sIx items.size items.size hi<=items.size:=zoz _ _ (Nat.le_refl _) hi;obtain⟨os,hos,hcs,hds⟩:=id hs;have hTs:s.TypeIs (.ref sl) "slice":=⟨os,hos,hcs⟩;unfold getItem
 try with_reducible refine wpAny_holding ?_
 first|refine wpAny_bind (wpAny_pure ?_)|skip
 refine wpAny_bind (wpAny_sequenceKey ht.typeIs (by decide) ?_);refine wpAny_bind (wpAny_callSpecial?_slot (name:=Str.ofString "__getitem__") ht.typeIs PyProof.Rows.slot_tuple_getitem
  (wpAny_call_entry PyProof.Rows.slot_tuple_getitem ht.typeIs entry_tuple_getitem ?_ (args_tuple_getitem _ _)))
 show wpAny _ _ (Builtin.Tuple.tupleItemsOf (.ref t)>>=_) _ _ s;refine wpAny_bind (tupleItemsOf_ ht ?_);refine wpAny_bind (wpAny_typeOf hTs ?_);rw[if_pos (by decide)];refine wpAny_bind (zaZ hs pl pu ?_);have hno:¬((((sIx items.size 0 lo:Nat):Int)==0&&(1:Int)==1&&(sIx items.size items.size hi - sIx items.size 0 lo)==items.size)=true):=by intro q;rw[Bool.and_eq_true,Bool.and_eq_true]at q;have q1:((sIx items.size 0 lo:Nat):Int)=0:=eq_of_beq q.1.1;have q2:sIx items.size items.size hi - sIx items.size 0 lo=items.size:=eq_of_beq q.2;exact hw ⟨by omega,by omega⟩
 show wpAny _ _ (if(((sIx items.size 0 lo:Nat):Int)==0&&(1:Int)==1&&(sIx items.size items.size hi - sIx items.size 0 lo)==items.size)=true then _ else _) _ _ s;rw[if_neg hno,zlb];first
  |exact wpAny_bind (m:=Builtin.Tuple.tupleExact _) (wpAny_newObj_type (wpAny_pure ⟨_,rfl,wpAny_pure h⟩) htake)
  |exact wpAny_bind (m:=Builtin.Tuple.tupleExact _) (wpAny_newObj_type (wpAny_bind (wpAny_pure (wpAny_pure ⟨_,rfl,wpAny_pure h⟩))) htake)
  |exact wpAny_bind (wpAny_bind (m:=Builtin.Tuple.tupleExact _) (wpAny_newObj_type (wpAny_pure (wpAny_pure ⟨_,rfl,wpAny_pure h⟩)) htake))
  |exact wpAny_bind (wpAny_bind (m:=Builtin.Tuple.tupleExact _) (wpAny_newObj_type (wpAny_pure ⟨_,rfl,wpAny_pure h⟩) htake))
end
end HT
namespace L2
abbrev TO:=St->Hp->(Option Int->Hp->Prop)->Prop
def PO(X:Cx)(e:Option Expr)(t:TO):Prop:=
 ∀(pins:AO) (s:Shared) (σ:St) (H:Hp) (Q:Option Int->Hp->Prop),Inv X pins σ H s->t σ H Q->
  wpAny (model X.prog X.w) X.A (evalPart e X.env) (λu s'=>∃o H',Inv X pins σ H' s'/\IsPart u o/\Q o H') X.xe s
def zmT:TO:=λ_ H Q=>Q none H
def zqo(t:TE):TO:=λσ H Q=>t σ H λx H1=>∃i,x=.int i/\Q (some i) H1
theorem zaI{ns:List Int}:∀{us:List Value},zL (ns.map V.int) us->IntsAre us ns:=by
 induction ns with
 |nil=>intro us r;rw[List.map_nil]at r;cases r;exact .nil
 |cons n ns ih=>
  intro us r;rw[List.map_cons]at r;cases r with
  |cons r1 r2=>
   obtain⟨t,e⟩:=r1;subst e;exact .cons n t (ih r2)
variable{r:V->Option Int->Option Int->Hp->VK->Prop}{xs:List V}{us:List Value}
section
variable{X:Cx}{e:Expr}{te:TE}{lo hi:Option Expr}{tl th:TO}{pos p2:Pos}
theorem zni:PO X none zmT:=by intro pins s σ H Q I h;rw[evalPart_none];exact wpAny_pure ⟨none,H,I,.none,h⟩
theorem znh(h:PE X e te):PO X (some e) (zqo te):=by
 intro pins s σ H Q I hw;rw[evalPart_some];refine thn (h pins s σ H _ I hw) λu s1 h_=>?_
 obtain⟨x,H1,I1,r1,q1⟩:=h_;obtain⟨i,rfl,q⟩:=q1;obtain⟨t,rfl⟩:=r1;exact⟨some i,H1,I1,.int i t,q⟩
def SlR(X:Cx)(r:V->Option Int->Option Int->Hp->VK->Prop):Prop:=
 ∀(pins:AO) (s:Shared) (σ:St) (H:Hp) (x:V) (v vl vu:Value) (lo hi:Option Int) (sl:Addr) (Q:VK),Inv X pins σ H s->zQ x v->s.heap.IsSliceOf sl vl vu .none->IsPart vl lo->IsPart vu hi->r x lo hi H Q->
  ∃T id,typeLookup (.type T) "__getitem__"=pure (some (.builtin id))/\s.TypeIs v T/\wpAny (model X.prog X.w) X.A (getItem v (.ref sl)) (EP X pins σ Q) X.xe s
theorem SlR.or{r':V->Option Int->Option Int->Hp->VK->Prop}(h:SlR X r)(h':SlR X r'):SlR X (λx lo hi H Q=>r x lo hi H Q\/r' x lo hi H Q):=by
 intro pins s σ H x v vl vu lo hi sl Q I rx hs pl pu q;rcases q with q|q
 ·exact h pins s σ H x v vl vu lo hi sl Q I rx hs pl pu q
 ·exact h' pins s σ H x v vl vu lo hi sl Q I rx hs pl pu q
def tSl(r:V->Option Int->Option Int->Hp->VK->Prop)(te:TE)(tl th:TO):TE:=λσ H Q=>te σ H λx H1=>tl σ H1 λl H2=>th σ H2 λu H3=>r x l u H3 Q
theorem zlf(hr:SlR X r)(he:PE X e te)(hl:PO X lo tl)(hu:PO X hi th):PE X (.Subscript e (.Slice lo hi none p2) pos) (tSl r te tl th):=by
 intro pins s σ H Q I h;refine Subscript_ (thn (he pins s σ H _ I h) λv s1 ⟨x,H1,I1,r1,q1⟩=>?_);refine wpAny_Slice (thn (hl pins s1 σ H1 _ I1 q1) λvl s2 ⟨l,H2,I2,pl,q2⟩=>thn (hu pins s2 σ H2 _ I2 q2) λvu s3 ⟨u,H3,I3,pu,q3⟩=>?_);rw[evalPart_none];refine wpAny_pure ?_;have I4:Inv X pins σ H3 {s3 with heap:=s3.heap.push {cls:=.type "slice",data:=.fields #[vl,vu,.none]}}:=I3.kept (t':=s3.toks) λb ob q=>Heap.get?_push_of_some _ q
 obtain⟨T,id,hT,ht,hg⟩:=hr pins {s3 with heap:=s3.heap.push {cls:=.type "slice",data:=.fields #[vl,vu,.none]}} σ H3 x v vl vu l u s3.heap.objs.size Q I4 r1 (Heap.IsSliceOf.new ..) pl pu q3;show wpAny (model X.prog X.w) X.A (subscriptTail e (.Slice lo hi none p2) v (.ref s3.heap.objs.size)) (EP X pins σ Q) X.xe {s3 with heap:=s3.heap.push {cls:=.type "slice",data:=.fields #[vl,vu,.none]}};exact tail_any (ops:=[.ref s3.heap.objs.size,v]) ht hT hg (by with_unfolding_all rfl)
noncomputable def xZ(xs:List V)(lo hi:Option Int):List V:=(xs.drop (HT.sIx xs.length 0 lo)).take (HT.sIx xs.length xs.length hi - HT.sIx xs.length 0 lo)
theorem zdr(xs:List V)(lo hi:Option Int):(xZ xs lo hi).length<=xs.length:=by unfold xZ;rw[List.length_take,List.length_drop];omega
def rSlT(K:Fg):V->Option Int->Option Int->Hp->VK->Prop:=λx lo hi H Q=>∃a xs,x=.ref a/\SqT K H a xs/\
 ¬(HT.sIx xs.length 0 lo=0/\HT.sIx xs.length xs.length hi=xs.length)/\∀p,H p=none->Q (.ref p) (upd H p (.tup (xZ xs lo hi)))
theorem zov:SlR X (rSlT X.K):=by
 intro pins s σ H x v vl vu lo hi sl Q I rx hs pl pu h;obtain⟨a,xs,rfl,hx,hw,q⟩:=h;cases rx
 obtain⟨its,r,ht,hz⟩:=I.tuple hx;have hlen:its.toArray.size=xs.length:=by rw[List.size_toArray];exact r.length.symm
 refine⟨"tuple",_,PyProof.Rows.slot_tuple_getitem.lookup,ht.typeIs,?_⟩;refine HT.getItem_tuple_cut ht hs pl pu (by rw[hlen];exact hw) ?_ (by rw[hlen];exact hz);rw[hlen];refine⟨.ref s.heap.objs.size,_,I.laid (t':=s.toks) (o:=.tup (xZ xs lo hi)) (λb ob q=>Heap.get?_push_of_some _ q) (Nat.le_refl _) ?_,rfl,q _ (I.hok.fresh (Nat.le_refl _))⟩;exact⟨Nat.le_trans (zdr xs lo hi) hz,_,(r.drop (HT.sIx xs.length 0 lo)).take (HT.sIx xs.length xs.length hi - HT.sIx xs.length 0 lo),IsTup.new _ _⟩
def zqE(K:Fg):R2:=λx y H Q=>∃a b xs ys,x=.ref a/\y=.ref b/\SqT K H a xs/\SqT K H b ys/\xs≠[]/\xs.length+ys.length<=sizeLine/\
 (ys=[]->Q (.ref a) H)/\(ys≠[]->∀p,H p=none->Q (.ref p) (upd H p (.tup (xs++ys))))
theorem zL.nil_iff(r:zL xs us):us=[]↔xs=[]:=by
 cases r with
 |nil=>simp
 |cons _ _=>simp
theorem znt:OpR X (binaryOp .Add) (zqE X.K):=by
 intro pins s σ H x y v u Q I rx ry h;obtain⟨a,b,xs,ys,rfl,rfl,ha,hb,hx,hz,q1,q2⟩:=h;cases rx
 cases ry
 obtain⟨its,r1,p1,_⟩:=I.tuple ha;obtain⟨its2,r2,p2,_⟩:=I.tuple hb;refine HT.cat_tup p1 p2 (λz=>hx (r1.nil_iff.mp z)) (λz=>⟨.ref a,H,I,rfl,q1 (r2.nil_iff.mp z)⟩) (λz=>?_) (by rw[←r1.length,←r2.length];exact hz);refine⟨.ref s.heap.objs.size,_,I.laid (t':=s.toks) (o:=.tup (xs++ys)) (λb ob q=>Heap.get?_push_of_some _ q) (Nat.le_refl _) ?_,rfl,q2 (λw=>z (r2.nil_iff.mpr w)) _ (I.hok.fresh (Nat.le_refl _))⟩;exact⟨by rw[List.length_append];exact hz,_,r1.append r2,IsTup.new _ _⟩
end
noncomputable def ixN(n:Nat)(i:Int):Option Nat:=if 0<=i then(if i<n then some i.toNat else none)else if -(n:Int)<=i then some (i+n).toNat else none
variable{α:Type}
noncomputable def atI(xs:List α)(i:Int):Option α:=(ixN xs.length i).bind λj=>xs[j]?
variable{n:Nat}{i:Int}
theorem zjL{j:Nat}(h:ixN n i=some j):seqIndex? i n=some j/\j<n/\ -(n:Int)<=i/\i<n:=by
 unfold ixN at h;by_cases h0:0<=i
 ·rw[if_pos h0]at h;by_cases h1:i<n
  ·rw[if_pos h1]at h;have e:i.toNat=j:=Option.some.inj h;exact⟨by rw[seqIndex_of h0 h1,e],by omega,by omega,h1⟩
  ·rw[if_neg h1]at h;cases h
 ·rw[if_neg h0]at h;by_cases h1:-(n:Int)<=i
  ·rw[if_pos h1]at h;have e:(i+n).toNat=j:=Option.some.inj h;exact⟨by rw[seqIndex_neg (by omega) h1,e],by omega,h1,by omega⟩
  ·rw[if_neg h1]at h;cases h
theorem zgM{xs:List α}{v:α}(h:atI xs i=some v):∃j,seqIndex? i xs.length=some j/\xs[j]?=some v/\j<xs.length/\ -(xs.length:Int)<=i/\i<xs.length:=by
 unfold atI at h;cases e:ixN xs.length i with
 |none=>rw[e]at h;cases h
 |some j=>
  rw[e]at h;obtain⟨h1,h2,h3,h4⟩:=zjL e;exact⟨j,h1,h,h2,h3,h4⟩
theorem vD{xs:List α}{j:Nat}{v:α}(h:xs[j]?=some v):atI xs (j:Int)=some v:=by
 have hj:j<xs.length:=(List.getElem?_eq_some_iff.mp h).1;have e:ixN xs.length (j:Int)=some j:=by unfold ixN;rw[if_pos (by omega),if_pos (by omega)];simp
 unfold atI;rw[e];exact h
def zeR(b:Expr):Prop:=∀o i,subscripted b false o i=operate [o,i] (getItem o i)
def IxR(X:Cx)(r:R2):Prop:=
 ∀(value slice:Expr) (pins:AO) (s:Shared) (σ:St) (H:Hp) (x y:V) (v u:Value) (Q:VK),Inv X pins σ H s->zQ x v->zQ y u->r x y H Q->
  subscripted slice false v u=operate [v,u] (getItem v u)->wpAny (model X.prog X.w) X.A (subscriptTail value slice v u) (EP X pins σ Q) X.xe s
def MtR(X:Cx)(id:String)(r:V->List V->Hp->VK->Prop):Prop:=
 ∀(pins:AO) (s:Shared) (σ:St) (H:Hp) (x:V) (xs:List V) (v:Value) (us:List Value) (Q:VK),Inv X pins σ H s->zQ x v->zL xs us->r x xs H Q->
  wpAny (model X.prog X.w) X.A (call (.builtin id) (v::us)) (EP X pins σ Q) X.xe s
variable{pins:AO}{σ:St}{H:Hp}{s:Shared}{its:List Value}
section
variable{X:Cx}{a b:Expr}{ta tb:TE}{pos:Pos}
theorem IxR.or{r r':R2}(h:IxR X r)(h':IxR X r'):IxR X (λx y H Q=>r x y H Q\/r' x y H Q):=by
 intro value slice pins s σ H x y v u Q I rx ry q hs;rcases q with q|q
 ·exact h value slice pins s σ H x y v u Q I rx ry q hs
 ·exact h' value slice pins s σ H x y v u Q I rx ry q hs
theorem zqK{r:R2}(hr:IxR X r)(ha:PE X a ta)(hb:PE X b tb)(hs:zeR b):PE X (.Subscript a b pos) (tOp r ta tb):=by intro pins s σ H Q I h;exact Subscript_ (binT ha hb I h λv u s2 x y H2 I2 rx ry q=>hr a b pins s2 σ H2 x y v u Q I2 rx ry q (hs _ _))
def rIxL(K:Fg):R2:=λx y H Q=>∃p xs i v,x=.ref p/\y=.int i/\SqL K H p xs/\atI xs i=some v/\Q v H
def rIxT(K:Fg):R2:=λx y H Q=>∃p xs i v,x=.ref p/\y=.int i/\SqT K H p xs/\atI xs i=some v/\Q v H
def rIxS:R2:=λx y H Q=>∃z i c,x=.str z/\y=.int i/\z.length<=sizeLine/\atI z.cps.toList i=some c/\Q (.str ⟨#[c]⟩) H
theorem znD:IxR X (rIxL X.K):=by
 intro value slice pins s σ H x y v u Q I rx ry h hs;obtain⟨p,xs,i,z,rfl,rfl,hq,he,q⟩:=h;cases rx
 obtain⟨t,rfl⟩:=ry;obtain⟨its,r,pl,hz⟩:=I.list hq;obtain⟨j,h1,h2,h3,h4,h5⟩:=zgM he;obtain⟨w,ew,rw'⟩:=r.get h2;have hl:=r.length;have hn:=zdh;have fin:EP X pins σ Q w s:=⟨z,H,I,rw',q⟩;by_cases h0:0<=i
 ·have hj:i.toNat=j:=by rw[seqIndex_of h0 h5]at h1;exact Option.some.inj h1
  exact item_listR pl.isList h0 (by omega) (by rw[hj];simpa using ew) fin hs
 ·have hj:(i+(its.toArray.size:Int)).toNat=j:=by rw[seqIndex_neg (by omega) h4]at h1;rw[List.size_toArray,←hl];exact Option.some.inj h1
  exact subscriptTail_builtinR (x:=w) pl.isList.typeIs slot_list_getitem.lookup
   (wpAny_getItem_list_neg (Q:=λr s'=>r=w/\EP X pins σ Q r s') pl.isList (by omega) (by rw[List.size_toArray]<;>omega) (by omega) (by rw[hj];simpa using ew) ⟨rfl,fin⟩) hs
theorem zpy:IxR X (rIxT X.K):=by
 intro value slice pins s σ H x y v u Q I rx ry h hs;obtain⟨p,xs,i,z,rfl,rfl,hq,he,q⟩:=h;cases rx
 obtain⟨t,rfl⟩:=ry;obtain⟨its,r,pl,hz⟩:=I.tuple hq;obtain⟨j,h1,h2,h3,h4,h5⟩:=zgM he;obtain⟨w,ew,rw'⟩:=r.get h2;have hl:=r.length;have hn:=zdh;have fin:EP X pins σ Q w s:=⟨z,H,I,rw',q⟩;exact subscriptTail_builtinR (x:=w) pl.typeIs slot_tuple_getitem.lookup
  (getItem_tuple (j:=j) (Q:=λr s'=>r=w/\EP X pins σ Q r s') pl (by omega) (by omega) (by rw[List.size_toArray,←hl];exact h1) (by simpa using ew) ⟨rfl,fin⟩) hs
theorem zpz:IxR X rIxS:=by
 intro value slice pins s σ H x y v u Q I rx ry h hs;obtain⟨z,i,c,rfl,rfl,hz,he,q⟩:=h;obtain⟨t,rfl⟩:=rx;obtain⟨t',rfl⟩:=ry;obtain⟨j,h1,h2,h3,h4,h5⟩:=zgM he;have hl:z.cps.toList.length=z.length:=by simp[Str.length]
 rw[hl]at h1 h4 h5;have hn:=zdh;exact tail_any (typeIs_str s z t) slot_str_getitem.lookup (getItem_str (c:=c) (by have e1:decide (i< -(2^63:Int))=false:=decide_eq_false (by omega);have e2:decide (i≥2^63)=false:=decide_eq_false (by omega);rw[e1,e2,Bool.or_false]) (by rw[h1];simpa using h2) ⟨.str ⟨#[c]⟩,H,I.tok _,⟨_,rfl⟩,q⟩) hs
theorem zhZ(its:List Value)(n j:Nat)(u:Value):Obj.mapSeq (·.setIfInBounds j u) {cls:=.type "list",data:=.seq its.toArray n}={cls:=.type "list",data:=.seq (its.set j u).toArray n}:=by simp[Obj.mapSeq]
theorem Inv.lst{pins:AO}{σ:St}{H:Hp}{s:Shared}{p:Addr}{xs:List V}(I:Inv X pins σ H s)(h:H p=some (.lst xs)):
  ∃(its:List Value) (n:Nat),zL xs its/\s.heap.get? p=some {cls:=.type "list",data:=.seq its.toArray n}/\xs.length<=sizeLine:=by
 obtain⟨z,its,n,r,e⟩:=I.hok p _ h;exact⟨its,n,r,e,z⟩
theorem Inv.lstUpd{p:Addr}{ys:List V}{its':List Value}{n':Nat}{f:Obj->Obj}(I:Inv X pins σ H s)(h:H p=some (.lst xs))(ho:s.heap.get? p=some {cls:=.type "list",data:=.seq its.toArray n})(hf:f {cls:=.type "list",data:=.seq its.toArray n}={cls:=.type "list",data:=.seq its'.toArray n'})(r:zL ys its')(hz:ys.length<=sizeLine)(t:Nat):
  Inv X pins σ (upd H p (.lst ys)) {s with heap:=s.heap.update p f,toks:=t}:=by
 have e:(s.heap.update p f).get? p=some {cls:=.type "list",data:=.seq its'.toArray n'}:=by rw[Heap.get?_update_self f ho (by rw[hf]<;>rfl),hf]
 refine I.write (x:=p) (e:=p) (by rw[h];trivial) (.inl rfl) (λb u hb q=>(Heap.get?_update_other _ _ (Ne.symm hb)).trans q) ⟨_,e⟩ ?_;exact⟨hz,its',n',r,e⟩
def zqz:V->V->V->Hp->(Hp->Prop)->Prop:=λo i v H Q=>∃p xs k j,o=.ref p/\i=.int k/\H p=some (.lst xs)/\ixN xs.length k=some j/\Q (upd H p (.lst (xs.set j v)))
theorem zkS:PSet X zqz:=by
 intro pins s σ H o i v ov iv u Q I ro ri rv h;obtain⟨p,xs,k,j,rfl,rfl,hp,hj,q⟩:=h;cases ro
 obtain⟨t,rfl⟩:=ri;obtain⟨its,n,r,ho,hz⟩:=I.lst hp;obtain⟨h1,h2,h3,h4⟩:=zjL hj;have hl:=r.length;have hn:=zdh;have I':Inv X pins σ (upd H p (.lst (xs.set j v))) {s with heap:=s.heap.update p (Obj.mapSeq (·.setIfInBounds j u))}:=
  I.lstUpd hp ho (zhZ its n j u) (r.set rv j) (by rw[List.length_set];exact hz) s.toks
 by_cases h0:0<=k
 ·have hk:k.toNat=j:=by rw[seqIndex_of h0 h4]at h1;exact Option.some.inj h1
  exact PySem.W.ki_setAt ho h0 (by omega) (by rw[List.size_toArray,←hl];exact h4) (by rw[hk];exact⟨_,I',q⟩)
 ·have hk:(k+(its.toArray.size:Int)).toNat=j:=by rw[seqIndex_neg (by omega) h3]at h1;rw[List.size_toArray,←hl];exact Option.some.inj h1
  exact PySem.W.ki_setBack ho (by omega) (by rw[List.size_toArray,←hl];exact h3) (by omega) (by rw[hk];exact⟨_,I',q⟩)
theorem zfa(lo hi:Option Int)(n:Nat):(sliceBounds lo hi none n).1=((HT.sIx n 0 lo:Nat):Int)/\(sliceBounds lo hi none n).2.1=((HT.sIx n n hi:Nat):Int)/\(sliceBounds lo hi none n).2.2=1:=by
 refine⟨?_,?_,rfl⟩
 ·cases lo with
  |none=>simp[sliceBounds,HT.sIx]
  |some i=>
   simp only[sliceBounds,HT.sIx,Option.getD_none,show(1:Int)>0 by decide,if_true];by_cases h:i<0
   ·simp only[h,if_true]<;>omega
   ·simp only[h,if_false]<;>omega
 ·cases hi with
  |none=>simp[sliceBounds,HT.sIx]
  |some i=>
   simp only[sliceBounds,HT.sIx,Option.getD_none,show(1:Int)>0 by decide,if_true];by_cases h:i<0
   ·simp only[h,if_true]<;>omega
   ·simp only[h,if_false]<;>omega
theorem zeh(its:List Value)(lo hi:Option Int):slicePick its.toArray lo hi none=((its.drop (HT.sIx its.length 0 lo)).take (HT.sIx its.length its.length hi - HT.sIx its.length 0 lo)).toArray:=by obtain⟨h1,h2,h3⟩:=zfa lo hi its.toArray.size;unfold slicePick;rw[h1,h2,h3];simp only[sliceRange_one,pick_run,List.size_toArray]<;>rfl
def rSlL(K:Fg):V->Option Int->Option Int->Hp->VK->Prop:=λx lo hi H Q=>∃a xs,x=.ref a/\SqL K H a xs/\∀p,H p=none->Q (.ref p) (upd H p (.lst (xZ xs lo hi)))
theorem zmX:SlR X (rSlL X.K):=by
 intro pins s σ H x v vl vu lo hi sl Q I rx hs pl pu h;obtain⟨a,xs,rfl,hx,q⟩:=h;cases rx
 obtain⟨its,r,ht,hz⟩:=I.list hx;have hlen:=r.length;refine⟨"list",_,slot_list_getitem.lookup,ht.isList.typeIs,?_⟩;refine wpAny_getItem_list_slice ht.isList hs pl pu .none (by simp) ?_ (by rw[List.size_toArray]<;>omega);rw[zeh,←hlen];refine⟨.ref s.heap.objs.size,_,I.laid (t':=s.toks) (o:=.lst (xZ xs lo hi)) (λb ob q=>Heap.get?_push_of_some _ q) (Nat.le_refl _) ?_,rfl,q _ (I.hok.fresh (Nat.le_refl _))⟩;exact⟨Nat.le_trans (zdr xs lo hi) hz,_,0,(r.drop (HT.sIx xs.length 0 lo)).take (HT.sIx xs.length xs.length hi - HT.sIx xs.length 0 lo),Heap.get?_push_size _ rfl⟩
theorem zfK:jX X (.builtin "len") (λxs H Q=>∃p ys,xs=[.ref p]/\(SqL X.K H p ys\/SqT X.K H p ys)/\Q (.int ys.length) H):=by
 intro pins s σ H xs us Q I r h;obtain⟨p,ys,rfl,hq,q⟩:=h;obtain⟨u,rfl,rx⟩:=yV r;cases rx
 have hn:=zdh;rcases hq with hq|hq
 ·obtain⟨its,r',pl,hz⟩:=I.list hq;have hlen:=r'.length;exact Calls.call_len_list pl.isList (by simp only[List.size_toArray]<;>omega) ⟨.int ys.length,H,I.tok _,⟨s.toks+1,by rw[List.size_toArray,hlen]⟩,q⟩
 ·obtain⟨its,r',pl,hz⟩:=I.tuple hq;have hlen:=r'.length;exact len_tuple pl (by simp only[List.size_toArray]<;>omega) ⟨.int ys.length,H,I.tok _,⟨s.toks+1,by rw[List.size_toArray,hlen]⟩,q⟩
theorem zfJ:jX X (.builtin "len") (λxs H Q=>∃z,xs=[.str z]/\z.length<=sizeLine/\Q (.int z.length) H):=by intro pins s σ H xs us Q I r h;obtain⟨z,rfl,hz,q⟩:=h;obtain⟨u,rfl,t,rfl⟩:=yV r;have hn:=zdh;exact len_str (by omega) ⟨.int z.length,H,I.tok _,⟨_,rfl⟩,q⟩
theorem jX.or{f:Value}{r r':List V->Hp->VK->Prop}(h:jX X f r)(h':jX X f r'):jX X f (λxs H Q=>r xs H Q\/r' xs H Q):=by
 intro pins s σ H xs us Q I rs q;rcases q with q|q
 ·exact h pins s σ H xs us Q I rs q
 ·exact h' pins s σ H xs us Q I rs q
theorem zfI:jX X (.type "list") (λxs H Q=>∃p ys,xs=[.ref p]/\(SqL X.K H p ys\/SqT X.K H p ys)/\∀l,H l=none->Q (.ref l) (upd H l (.lst ys))):=by
 intro pins s σ H xs us Q I r h;obtain⟨p,ys,rfl,hq,q⟩:=h;obtain⟨u,rfl,rx⟩:=yV r;cases rx
 have fin:∀(its:List Value),zL ys its->ys.length<=sizeLine->∀(h':Heap) (c':Nat),(∀b o',s.heap.get? b=some o'->h'.get? b=some o')->
   h'.get? s.heap.objs.size=some {cls:=.type "list",dict:=none,data:=.seq its.toArray c',slots:=#[]}->EP X pins σ Q (.ref s.heap.objs.size) {s with heap:=h'}:=λits r' hz h' c' kp e=>
  ⟨.ref s.heap.objs.size,_,I.laid (t':=s.toks) kp (Nat.le_refl _) (show qZ X.prog X.w _ h' _ (.lst ys)from⟨hz,its,c',r',e⟩),rfl,q _ (I.hok.fresh (Nat.le_refl _))⟩
 rcases hq with hq|hq
 ·obtain⟨its,r',pl,hz⟩:=I.list hq;have hlen:=r'.length;obtain⟨o,ho,hc,n,hd⟩:=pl.isList;exact call_list_seq p (.inl rfl) ho hc hd (λh' c' kp e=>fin its r' hz h' c' kp e) (by simp only[List.size_toArray]<;>omega)
 ·obtain⟨its,r',pl,hz⟩:=I.tuple hq;have hlen:=r'.length;obtain⟨o,ho,hc,n,hd⟩:=pl;exact call_list_seq p (.inr rfl) ho hc hd (λh' c' kp e=>fin its r' hz h' c' kp e) (by simp only[List.size_toArray]<;>omega)
theorem zeL:jX X (.type "tuple") (λxs H Q=>∃p ys,xs=[.ref p]/\((SqL X.K H p ys/\∀l,H l=none->Q (.ref l) (upd H l (.tup ys)))\/(SqT X.K H p ys/\Q (.ref p) H))):=by
 intro pins s σ H xs us Q I r h;obtain⟨p,ys,rfl,h⟩:=h;obtain⟨u,rfl,rx⟩:=yV r;cases rx
 rcases h with⟨hq,q⟩|⟨hq,q⟩
 ·obtain⟨its,r',pl,hz⟩:=I.list hq;have hlen:=r'.length;refine call_tuple_list pl.isList (λh' kp=>?_) (by simp only[List.size_toArray]<;>omega);have I1:Inv X pins σ H {s with heap:=h'}:=I.kept (t':=s.toks) kp;have I2:Inv X pins σ (upd H h'.objs.size (.tup ys)) {s with heap:=h'.push {cls:=.type "tuple",data:=.seq its.toArray}}:=
   I1.laid (t':=s.toks) (λb o e=>Heap.get?_push_of_some _ e) (Nat.le_refl _) (show qZ X.prog X.w _ _ _ (.tup ys)from⟨hz,its,r',IsTup.new _ _⟩)
  exact⟨.ref h'.objs.size,_,I2,rfl,q _ (I1.hok.fresh (Nat.le_refl _))⟩
 ·obtain⟨its,r',pl,hz⟩:=I.tuple hq;exact call_tuple_same pl ⟨.ref p,H,I,rfl,q⟩
def tyV(K:Fg)(T:String)(x:V)(H:Hp):Prop:=match x with
 | .str _=>T="str"
 | .int _=>T="int"
 | .ref p=>(T="list"/\∃xs,SqL K H p xs)\/(T="tuple"/\∃o,K.lookup p=some o/\o.cls=.type "tuple"/\o.dict=none)\/
   (T="dict"/\((∃kvs,H p=some (.dK kvs))\/∃kvs,H p=some (.dT kvs)))\/(T="set"/\∃S,H p=some (.set S))
 |_=>False
theorem zmr{T:String}{x:V}{v:Value}(I:Inv X pins σ H s)(r:zQ x v)(ty:tyV X.K T x H):
  s.TypeIs v T/\∀a,v=.ref a->∃ob,s.heap.get? a=some ob/\ob.dict=none:=by
 cases x with
 |str z=>
  obtain⟨t,rfl⟩:=r;cases(show T="str"from ty)
  exact⟨typeIs_str s z t,λ_ e=>nomatch e⟩
 |int i=>
  obtain⟨t,rfl⟩:=r;cases(show T="int"from ty)
  exact⟨typeIs_int s i t,λ_ e=>nomatch e⟩
 |ref p=>
  cases r
  rcases ty with⟨rfl,xs,hq⟩|⟨rfl,o,hk,hc,hd⟩|⟨rfl,hk⟩|⟨rfl,S,hk⟩
  ·obtain⟨its,_,pl,_⟩:=I.list hq;refine⟨pl.isList.typeIs,λa e=>?_⟩;cases e
   obtain⟨o,n,e,c,hd,_⟩:=pl;exact⟨o,e,hd⟩
  ·refine⟨⟨o,I.kIn p o hk,hc⟩,λa e=>?_⟩;cases e
   exact⟨o,I.kIn _ o hk,hd⟩
  ·have z:∃o,s.heap.get? p=some o/\o.ExactDict:=by
    rcases hk with⟨kvs,hk⟩|⟨kvs,hk⟩
    ·obtain⟨_,_,_,_,o,_,_,e,ex,_⟩:=I.hok p _ hk;exact⟨o,e,ex⟩
    ·obtain⟨_,_,_,_,o,_,_,e,ex,_⟩:=I.hok p _ hk;exact⟨o,e,ex⟩
   obtain⟨o,e,ex⟩:=z;refine⟨⟨o,e,ex.1⟩,λa e2=>?_⟩;cases e2
   exact⟨o,e,ex.2.1⟩
  ·obtain⟨o,_,_,_,e,ex,_⟩:=I.hok p _ hk;refine⟨⟨o,e,ex.1⟩,λa e2=>?_⟩;cases e2
   exact⟨o,e,ex.2.1⟩
 |_=>exact False.elim ty
def tBM0(K:Fg)(T:String)(r:V->List V->Hp->VK->Prop)(to:TE):TE:=λσ H Q=>to σ H λx H1=>tyV K T x H1/\r x [] H1 Q
def tBM(K:Fg)(T:String)(r:V->List V->Hp->VK->Prop)(to:TE)(t:TA):TE:=λσ H Q=>to σ H λx H1=>tyV K T x H1/\t σ H1 λxs H2=>r x xs H2 Q
variable{o e:Expr}{es:List Expr}{to:TE}{t:TA}{name:Str}{apos cpos:Pos}{T id:String}{r:V->List V->Hp->VK->Prop}
theorem zoX(pa:PlainAttrs T)(slot:Slot T name id)(hty:typeOf (.builtin id)=pure (.type "method_descriptor"))(hm:MtR X id r)(ho:PE X o to)(hbase:attributeBase o name X.env (eval o X.env)=eval o X.env:=by rfl)(hline:(apos.endLine==cpos.line)=true:=by rfl):PE X (.Call (.Attribute o name apos) [] [] cpos) (tBM0 X.K T r to):=by intro pins s σ H Q I h;refine wpAny_Call_method0_late hbase hline (thn (ho pins s σ H _ I h) λv s1 ⟨x,H1,I1,r1,ty,q1⟩=>?_);obtain⟨h1,h2⟩:=zmr I1 r1 ty;exact⟨T,id,pa,slot,hty,h1,h2,Calls.callWith_builtin rfl (PySem.evalArgs_none (hm pins s1 σ H1 x [] v [] Q I1 r1 .nil q1))⟩
theorem znn(pa:PlainAttrs T)(slot:Slot T name id)(hty:typeOf (.builtin id)=pure (.type "method_descriptor"))(hm:MtR X id r)(ho:PE X o to)(ha:PA X (e::es) t)(hbase:attributeBase o name X.env (eval o X.env)=eval o X.env:=by rfl)(hfew:((backTo cpos (starEach (e::es) X.env)).all (λx=>!x.1)&&(backToKw cpos (keywordEach [] X.env)).all (λx=>x.1.isSome)
   &&decide ((e::es).length+([]:List Keyword).length+(if([]:List Keyword).isEmpty then 0 else 1)<30))=true:=by rfl)(hline:(apos.endLine==cpos.line)=true:=by rfl)(hs:starEach (e::es) X.env=(false,eval e X.env)::starEach es X.env:=by rfl)(hplain:(backTo cpos (starEach es X.env)).any (·.1)=false:=by rfl):
  PE X (.Call (.Attribute o name apos) (e::es) [] cpos) (tBM X.K T r to t):=by
 intro pins s σ H Q I h;refine wpAny_Call_method_late hbase hfew hline rfl (thn (ho pins s σ H _ I h) λv s1 ⟨x,H1,I1,r1,ty,q1⟩=>?_);obtain⟨h1,h2⟩:=zmr I1 r1 ty;refine⟨T,id,pa,slot,hty,h1,h2,?_⟩;have hA:=ha cpos pins s1 σ H1 _ I1 q1;rw[hs]at hA ⊢;refine Calls.callWith_builtin (by show(false||(backTo cpos (starEach es X.env)).any (·.1))=false;rw[hplain]<;>rfl) (Calls.evalArgs_plain ?_);exact thn hA λus s2 ⟨vs,H2,I2,r2,q2⟩=>hm pins s2 σ H2 x vs v us Q I2 r1 r2 q2
/- xs.append(e),list.index on a module's tuple .. are MtR facts of 06m -/
end
def MtM(X:Cx)(id:String)(r:V->List V->Hp->VK->Prop):Prop:=
 ∀(pins:AO) (s:Shared) (σ:St) (H:Hp) (x:V) (xs:List V) (v:Value) (us:List Value) (Q:VK),Inv X pins σ H s->zQ x v->zL xs us->r x xs H Q->
  wpAny (model X.prog X.w) X.A (call (.builtin id) (v::us)) (EP X pins σ Q) X.xe s
theorem zL.one:∀{x:V}{us:List Value},zL [x] us->∃u,us=[u]/\zQ x u
 |_,_,.cons r .nil=>⟨_,rfl,r⟩
theorem zL.zero:∀{us:List Value},zL [] us->us=[]
 |_,.nil=>rfl
theorem zL.dropLast(h:zL xs us):zL xs.dropLast us.dropLast:=by
 induction h with
 |nil=>exact .nil
 |cons r t ih=>
  cases t with
  |nil=>exact .nil
  |cons q t'=>exact .cons r ih
theorem zL.reverse(h:zL xs us):zL xs.reverse us.reverse:=by
 induction h with
 |nil=>exact .nil
 |cons r t ih=>rw[List.reverse_cons,List.reverse_cons];exact zL.append ih (.cons r .nil)
theorem zik(l:List α):l.eraseIdx (l.length - 1)=l.dropLast:=by
 induction l with
 |nil=>rfl
 |cons a r ih=>
  cases r with
  |nil=>rfl
  |cons b r=>
   have e:(a::b::r).length - 1=((b::r).length - 1)+1:=by have h1:(a::b::r).length=r.length+2:=rfl;have h2:(b::r).length=r.length+1:=rfl;omega
   rw[e,List.eraseIdx_cons_succ,ih];all_goals rfl
section
variable{X:Cx}{pins:AO}{σ:St}{H:Hp}{s:Shared}{l b:Addr}{xs ys zs:List V}
theorem Inv.lset{its':List Value}{f:Array Value->Array Value}{t':Nat}(I:Inv X pins σ H s)(hH:H l=some (.lst xs))(e:s.heap.get? l=some {cls:=.type "list",data:=.seq its.toArray n})(hf:f its.toArray=its'.toArray)(hv:zL ys its')(hz:ys.length<=sizeLine):
  Inv X pins σ (upd H l (.lst ys)) {s with heap:=s.heap.update l (Obj.mapSeq f),toks:=t'}:=by
 have q:=PySem.IsL.update e f;rw[hf]at q;refine I.write (x:=l) (e:=l) (by rw[hH];exact trivial) (.inl rfl) (λb' u hb hu=>(Heap.get?_update_other s.heap (Obj.mapSeq f) (Ne.symm hb)).trans hu) ⟨_,q⟩ ?_;exact⟨hz,its',_,hv,q⟩
theorem Inv.lnew{t':Nat}(I:Inv X pins σ H s)(hv:zL ys its)(hz:ys.length<=sizeLine):
  Inv X pins σ (upd H s.heap.objs.size (.lst ys)) {s with heap:=s.heap.push {cls:=.type "list",data:=.seq its.toArray},toks:=t'}:=
 I.laid (λ_ _ q=>Heap.get?_push_of_some _ q) (Nat.le_refl _) ⟨hz,its,0,hv,Heap.get?_push_size _ rfl⟩
theorem Inv.fresh(I:Inv X pins σ H s):H s.heap.objs.size=none:=I.hok.fresh (Nat.le_refl _)
theorem Inv.lstM(I:Inv X pins σ H s)(hH:H l=some (.lst xs)):xs.length<=sizeLine/\∃(its:List Value) (n:Nat),zL xs its/\xs.length=its.length/\s.heap.get? l=some {cls:=.type "list",data:=.seq its.toArray n}:=by obtain⟨z,its,n,r,e⟩:=I.hok l _ hH;exact⟨z,its,n,r,r.length,e⟩
theorem zlo(h:n<=sizeLine):Builtin.List.listTooLong n=false:=by unfold Builtin.List.listTooLong;exact decide_eq_false (by omega)
end
section
variable{X:Cx}
def znd:V->List V->Hp->VK->Prop:=λx vs H Q=>∃l xs y,x=.ref l/\vs=[y]/\H l=some (.lst xs)/\xs.length<sizeLine/\Q .non (upd H l (.lst (xs++[y])))
theorem zdc:MtM X "list.append" znd:=by
 intro pins s σ H x vs v us Q I rx rv h;obtain⟨l,xs,y,rfl,rfl,hH,hz,q⟩:=h;cases rx
 obtain⟨u,rfl,ru⟩:=rv.one;obtain⟨z,its,n,r,hl,e⟩:=I.lstM hH;refine call_meets F.slot_list_append ⟨_,e,rfl⟩ F.entry_list_append (F.args_list_append_2 _ _) (PySem.list_append l its.toArray n u (by rw[List.size_toArray];omega)) ⟨e,?_⟩;refine⟨.non,_,I.lset (its':=its++[u]) hH e (by simp) (r.append (.cons ru .nil)) ?_,rfl,q⟩;rw[List.length_append,List.length_singleton];omega
def znc:V->List V->Hp->VK->Prop:=λx vs H Q=>∃l b xs zs,x=.ref l/\vs=[.ref b]/\H l=some (.lst xs)/\H b=some (.lst zs)/\xs.length+zs.length<=sizeLine/\Q .non (upd H l (.lst (xs++zs)))
theorem zjA:MtM X "list.extend" znc:=by
 intro pins s σ H x vs v us Q I rx rv h;obtain⟨l,b,xs,zs,rfl,rfl,hH,hB,hz,q⟩:=h;cases rx
 obtain⟨u,rfl,ru⟩:=rv.one;cases ru
 obtain⟨z,its,n,r,hl,e⟩:=I.lstM hH;obtain⟨z2,its2,n2,r2,hl2,e2⟩:=I.lstM hB;have hsz:its.toArray.size+its2.toArray.size<=sizeLine:=by rw[List.size_toArray,List.size_toArray];omega
 have hlong:¬(!its.toArray.isEmpty&&Builtin.List.listTooLong (its.toArray.size+its2.toArray.size))=true:=by rw[zlo hsz,Bool.and_false];exact Bool.false_ne_true
 refine call_meets F.slot_list_extend ⟨_,e,rfl⟩ F.entry_list_extend (F.args_list_extend_2 _ _)
  (AutoSeq1.list_extend_list_list_0 l its.toArray n b its2.toArray n2 hlong (by rw[List.size_toArray];omega) (by omega)) ⟨e,e2,?_⟩
 refine⟨.non,_,I.lset (its':=its++its2) hH e (by simp) (r.append r2) ?_,rfl,q⟩;rw[List.length_append];omega
def rPop:V->List V->Hp->VK->Prop:=λx vs H Q=>∃l xs y,x=.ref l/\vs=[]/\H l=some (.lst xs)/\xs[xs.length - 1]?=some y/\Q y (upd H l (.lst xs.dropLast))
theorem zpo:MtM X "list.pop" rPop:=by
 intro pins s σ H x vs v us Q I rx rv h;obtain⟨l,xs,y,rfl,rfl,hH,hy,q⟩:=h;cases rx
 have hus:=rv.zero;subst hus;obtain⟨z,its,n,r,hl,e⟩:=I.lstM hH;obtain⟨u,hu,ru⟩:=r.get hy;have hy':its.toArray[its.toArray.size - 1]?=some u:=by show its.toArray[its.length - 1]?=some u;rw[←Array.getElem?_toList,←hl];exact hu
 refine call_meets F.slot_list_pop ⟨_,e,rfl⟩ F.entry_list_pop (F.args_list_pop_1 _) (MeetsSeq.list_pop_last l its.toArray n u hy' (by rw[List.size_toArray];omega)) ⟨e,?_⟩;refine⟨y,_,I.lset (its':=its.dropLast) hH e ?_ r.dropLast ?_,ru,q⟩
 ·show its.toArray.eraseIdxIfInBounds (its.toArray.size - 1)=its.dropLast.toArray;rw[List.size_toArray,List.eraseIdxIfInBounds_toArray,zik]
 ·rw[List.length_dropLast];omega
def rCat:R2:=λx y H Q=>∃l b xs zs,x=.ref l/\y=.ref b/\H l=some (.lst xs)/\H b=some (.lst zs)/\xs.length+zs.length<=sizeLine/\∀p,H p=none->Q (.ref p) (upd H p (.lst (xs++zs)))
theorem zmx:OpR X (binaryOp .Add) rCat:=by
 intro pins s σ H x y v u Q I rx ry h;obtain⟨l,b,xs,zs,rfl,rfl,hH,hB,hz,q⟩:=h;cases rx
 cases ry
 obtain⟨z,its,n,r,hl,e⟩:=I.lstM hH;obtain⟨z2,its2,n2,r2,hl2,e2⟩:=I.lstM hB;refine PySem.P.add_list e e2 ?_ (by rw[List.size_toArray,List.size_toArray];omega);have ea:its.toArray++its2.toArray=(its++its2).toArray:=by simp
 rw[ea];exact⟨.ref _,_,I.lnew (t':=s.toks) (r.append r2) (by rw[List.length_append];omega),rfl,q _ I.fresh⟩
end
section
variable{prog:Program}{w:World}{A:Around}{E:VS}{s:Shared}
end
section
variable{X:Cx}
end
end L2
namespace Att
open PySem PySem.W PySem.Calls PyProof.Rows
variable{P:Params}{h:Heap}
theorem zdm:∀(ns:List Int) (vs:List Value),WellAll P h vs (ns.map WData.int)->IntsAre vs ns:=by
 intro ns;induction ns with
 |nil=>
  intro vs w;rw[List.map_nil]at w;cases w
  exact .nil
 |cons n ns ih=>
  intro vs w;rw[List.map_cons]at w;cases w with
  |cons a b=>
   cases a
   exact .cons _ _ (ih _ b)
variable{l:OpenLaw}{n:Nat}
theorem ziP(hn:l.most=some n){args:List WData}{vals:List Value}(hpre:l.row.toRowW.claim.pre args=true)(hwl:WellAll P h vals args):
  ∃a vs ns,vals=[Value.ref a]/\args=[WData.list (ns.map WData.int)]/\h.get? a=some {cls:=.type "list",data:=.seq vs.toArray}/\IntsAre vs ns/\ns.length<=n:=by
 have hsh:WShape.hasAll [] args [.list .int]=true:=(pre_splitW hpre).1;have hc:l.pre.holds [] {args:=args}=true:=(pre_splitW hpre).2;obtain⟨d,r,rfl,h1,h2⟩:=hasAllW_cons hsh;obtain rfl:=hasAllW_nil h2;obtain⟨xs,rfl,h3⟩:=hasW_list h1;obtain⟨ns,rfl⟩:=items_int h3;have hlen:ns.length<=n:=by
  unfold OpenLaw.pre at hc;have h4:(WTm.not (.lt (.lit (.int (n:Int))) (.len (.arg 0)))).holds [] {args:=[.list (ns.map .int)]}=true:=by have h4:=(holds_andW hc).1;rw[hn]at h4;exact h4
  have h5:=condW_of h4 (w_not (w_lt w_lit (w_len_list (w_arg rfl))));rw[List.length_map]at h5;refine Nat.le_of_not_lt λq=>?_
  have q':(n:Int)<((ns.length:Nat):Int):=by omega
  first
   |(rw[decide_eq_true q']at h5;exact absurd h5 (by decide))
   |(simp at h5;omega)
 cases hwl with
 |cons w1 w2=>
  cases w2
  cases w1 with
  |list ho hall=>exact⟨_,_,ns,rfl,rfl,ho,zdm ns _ hall,hlen⟩
theorem zjc(l:OpenLaw)(args:List WData):l.row.toRowW.claim.post args (.bool true) args=true:=
 postW_of (r:=l.row.toRowW) (X:=(true==true))
  (show WShape.has [] (.bool true) .bool=true by first|rfl|decide|simp[WShape.has,WShape.arms,WShape.armsAll])
  (show(WTm.eq .res (.lit (.bool true))).value [] {args:=args,res:=some (.bool true),after:=args}=some (.bool (true==true))from w_eq_bool (w_res rfl) w_lit) rfl
theorem attach_call{q:Program}{loose:List Str}{XP:(SV)->Heap->Prop}{YP:World->Heap->Prop}{d:DefRec}(hn:l.most=some n)(hdf:d.params.defaults=[])(call:∀(w:World) (s₀ s₁:Shared) (mg mb:SV) (fa:Addr) (o:Obj) (pm cd doc:Value) (a:Addr) (vs:List Value) (ns:List Int),
   Ground q loose [] XP w s₀ mg mb s₁.heap->YP w s₁.heap->
   s₁.heap.get? fa=some o->o.data=.func (docDef d.name d.params d.body d.scope pm cd doc)->s₁.heap.CodeRec cd d.name->mg d.name=some (.ref fa)->
   s₁.heap.get? a=some {cls:=.type "list",data:=.seq vs.toArray}->IntsAre vs ns->ns.length<=n->s₁.gens=#[]->
   codeAny (model l.prog w) callerA (.call (.ref fa) ⟨[.ref a],[]⟩) (λr s'=>r=.ok (.ret (.bool true))/\OldK s₁.heap s'.heap/\s'.os=s₁.os/\AllBare s'.gens) s₁):
  WalkO q loose XP YP l.row.toRowW d [] (λf vs=>PySem.call f vs):=by
 intro w s₀ s₁ mg mb G Y fa o pm cd doc dV kV ho hd hcd hD hmg hg args vals as hpre hlay hrd hwl hlo;obtain rfl:dV=.none:=Dflts.none hD hdf;obtain rfl:kV=.none:=Dflts.noKw hD;obtain⟨a,vs,ns,rfl,rfl,hobj,hints,hlen⟩:=ziP hn hpre hwl;refine enter_call (codeAny_mono (call w s₀ s₁ mg mb fa o pm cd doc a vs ns G Y ho (fd_plain hd) hcd hmg hobj hints hlen hg) λr s' hq=>?_);obtain⟨rfl,h2,h3,h4⟩:=hq;exact⟨.inl ⟨.bool true,.bool true,[],rfl,λ_=>rfl,.bool true,zjc l _,λ_=>⟨List.Pairwise.nil,λ_ hm=>(nomatch hm)⟩⟩,h2,h3,h4⟩
section
variable{prog:Program}{w:World}{A:Around}{E:VS}{s:Shared}{K:Frag}
end
end Att
namespace L2
theorem zbT:∀{vs:List Value}{ns:List Int},IntsAre vs ns->zL (ns.map V.int) vs
 |_,_,.nil=>.nil
 |_,_,.cons n t h=>.cons ⟨t,rfl⟩ (zbT h)
def Only(H:Hp):Prop:=∀b,H b=none\/∃o xs,H b=some (.frz o (.lst xs))
theorem zlv{P:Program}{w:World}{K:Fg}{mg mb:SV}{CX:CXT}{k:Nat}{fa a:Addr}{fd:FuncData}{x:Str}{sp:Sp}{s₁:Shared}{vs:List Value}{ns:List Int}(KX:K.In s₁.heap)(hns:s₁.heap.Ns mainGlobals mg)(hb:s₁.heap.Ns builtinsNs mb)(hbb:∀x:Str,x≠"__name__"->mb x=bootBuiltins x)(hlim:s₁.heap.NoLimit)(hg:s₁.gens=#[])(ha:s₁.heap.get? a=some {cls:=.type "list",data:=.seq vs.toArray})(hi:IntsAre vs ns)(hl:ns.length<=sizeLine)(hr:zW k callerA)(F:∀base:Heap,K.In base->base.Ns mainGlobals mg->jA P w K mg base CX k fa fd [x] sp)(hbind:∀(s:Shared) (u:Value),BindsTo s fd ⟨[u],[]⟩ [(x,u)])(hsp:∀H:Hp,Only H->SqL K H a (ns.map V.int)->sp [.ref a] H (λv _=>v=.bl true) λ_ _ _=>False)(hCX:∀H e s',CX [] H s₁ (λ_ _ _=>False) e s'->False):
  codeAny (model P w) callerA (.call (.ref fa) ⟨[.ref a],[]⟩) (λr s'=>r=.ok (.ret (.bool true))/\OldK s₁.heap s'.heap/\s'.os=s₁.os/\AllBare s'.gens) s₁:=by
 have rv:=zbT hi;have lenV:=hi.length;have core:∀H:Hp,Only H->SqL K H a (ns.map V.int)->HOk P w H s₁.heap->(∀b,H b≠none->b=a)->(H a≠none->K.lookup a=none)->
   codeAny (model P w) callerA (.call (.ref fa) ⟨[.ref a],[]⟩) (λr s'=>r=.ok (.ret (.bool true))/\OldK s₁.heap s'.heap/\s'.os=s₁.os/\AllBare s'.gens) s₁:=by
  intro H hO hS hok hA hK;have base_of:∀{b:Addr}{o:Obj},s₁.heap.get? b=some o->H b=none->(gW s₁.heap H).get? b=some o:=λe n=>zlC e n
  have noA:∀{b:Addr}{o:Obj} {es:Array DictEntry}{ep:Nat},s₁.heap.get? b=some o->o.data=.dict es ep->H b=none:=λ{b o es ep} e d=>by
   cases q:H b with
   |none=>rfl
   |some u=>
    have e':b=a:=hA b (by rw[q];simp);subst e';rw[ha]at e;cases e
    have d':Data.seq vs.toArray _=Data.dict es ep:=d;cases d'
  have nsK:∀{b:Addr}{m:SV},s₁.heap.Ns b m->(gW s₁.heap H).Ns b m:=λ{b m} ⟨o,es,ep,e,d,r⟩=>⟨o,es,ep,base_of e (noA e d),d,r⟩
  have hKb:K.In (gW s₁.heap H):=λb o e=>base_of (KX b o e) (by
   cases q:H b with
   |none=>rfl
   |some u=>
    have e':b=a:=hA b (by rw[q];simp);subst e';rw[hK (by rw[q];simp)]at e;cases e)
  have hM:Mod K mg (gW s₁.heap H):=⟨hKb,nsK hns,⟨mb,nsK hb,hbb⟩,let⟨mc,h1,h2⟩:=hlim;⟨mc,nsK h1,h2⟩⟩;have e0:Env0 P w K mg (gW s₁.heap H) callerA [] s₁ H:=⟨rfl,hM,λb o e=>znx e,Nat.le_of_eq (zjT _ _),trivial,λb hb=>absurd (show b∈([]:List Addr)from hb) (by simp),hok,.of_eq hg⟩;refine codeAny_mono ((F _ hKb (nsK hns)).run callerA [] s₁ H ⟨[.ref a],[]⟩ [.ref a] [.ref a] _ _ hr e0 (hbind s₁ (.ref a)) (.cons rfl .nil) (hsp H hO hS)) λr s' h=>?_
  cases r with
  |error e=>exact(hCX H e s' h).elim
  |ok fl=>
   cases fl with
   |next=>exact False.elim h
   |brk=>exact False.elim h
   |cont=>exact False.elim h
   |ret u=>
    obtain⟨v,H',os,bare,un,hok',r',q⟩:=h;have q':v=.bl true:=q;subst q';obtain rfl:u=Value.bool true:=r';refine⟨rfl,OldK.of_keep λb o e=>?_,os,bare⟩;cases q:H b with
    |none=>exact un.keep b o e q (by intro z;exact absurd (show b∈([]:List Addr)from z) (by simp)) (by simp)
    |some u=>
     rcases hO b with z|⟨ob,xs,z⟩
     ·rw[q]at z;cases z
     ·have z2:=un.frzs b ob _ z;obtain⟨e1,_⟩:=hok b _ z;obtain⟨e2,_⟩:=hok' b _ z2;rw[e]at e1;cases e1
      exact e2
 cases hk:K.lookup a with
 |some o=>
  have e:=KX a o hk;rw[ha]at e;cases e
  refine core (λ_=>none) (λ_=>.inl rfl) (.inr ⟨_,vs.toArray,_,hk,rfl,rfl,rfl,by rw[List.size_toArray,lenV];exact hl,by simpa using rv⟩) (λb u z=>by have z':(none:Option HO)=some u:=z;cases z') (λb z=>absurd rfl z) λz=>absurd rfl z
 |none=>
  refine core (λb=>if b=a then some (.frz {cls:=.type "list",data:=.seq vs.toArray} (.lst (ns.map V.int)))else none) (λb=>?_) (.inl (.inr ⟨{cls:=.type "list",data:=.seq vs.toArray},if_pos rfl⟩)) (λb u z=>?_) (λb z=>?_) λ_=>hk
  ·by_cases hb:b=a
   ·exact .inr ⟨_,_,if_pos hb⟩
   ·exact .inl (if_neg hb)
  ·by_cases hb:b=a
   ·have z':=(if_pos hb).symm.trans z;cases z'
    subst hb;exact⟨ha,by rw[List.length_map];exact hl,vs,_,rv,ha⟩
   ·have z':=(if_neg hb).symm.trans z;cases z'
  ·by_cases hb:b=a
   ·exact hb
   ·exact absurd (if_neg hb) z
theorem walk_of{l:PySem.W.OpenLaw}{n k:Nat}{q:Program}{loose:List Str}{XP:(SV)->Heap->Prop}{YP:World->Heap->Prop}{d:DefRec}{K:Params->Fg}{CX:World->CXT}{sp:World->Sp}{x:Str}(hn:l.most=some n)(hn2:n<=sizeLine)(hdf:d.params.defaults=[])(hr:zW k callerA)(hY:∀(w:World) (h:Heap),YP w h->(K w.params).In h)(F:∀(w:World) (mg:SV) (fa:Addr) (h:Heap),(K w.params).In h->h.Ns mainGlobals mg->mg d.name=some (.ref fa)->
   ∃fd:FuncData,(∀(s:Shared) (u:Value),BindsTo s fd ⟨[u],[]⟩ [(x,u)])/\
    ∀base:Heap,(K w.params).In base->base.Ns mainGlobals mg->jA l.prog w (K w.params) mg base (CX w) k fa fd [x] (sp w))(hsp:∀(w:World) (H:Hp) (a:Addr) (ns:List Int),ns.length<=n->Only H->SqL (K w.params) H a (ns.map V.int)->sp w [.ref a] H (λv _=>v=.bl true) λ_ _ _=>False)(hCX:∀(w:World) (H:Hp) (s:Shared) (e:Value) (s':Shared),CX w [] H s (λ_ _ _=>False) e s'->False):
  PySem.W.WalkO q loose XP YP l.row.toRowW d [] (λf vs=>PySem.call f vs):=by
 refine Att.attach_call hn hdf λw s₀ s₁ mg mb fa o pm cd doc a vs ns G Y ho hd hcd hmg hobj hints hlen hg=>?_
 have KX:=hY w _ Y;obtain⟨fd,hb,hF⟩:=F w mg fa _ KX G.T.g hmg;exact zlv KX G.T.g G.T.b G.T.builtins G.T.nolimit hg hobj hints (Nat.le_trans hlen hn2) hr hF hb (λH hO hS=>hsp w H a ns hlen hO hS) λH e s'=>hCX w H s₁ e s'
end L2
/- THE LAST THEOREM (shape;LID,My.*are yours):
  My.Adr:a structure of the addresses that your layer names (classes,functions);My.Txt K t:a structure (Prop) of the equations over K;
  My.txt_mk:{K} {implicit addresses ..} (e1:nsIn K mainGlobals "law"=some (some (.ref f))) (e2:K.lookup f=some ⟨oc,od,.func (fnOf "law" "law" params body scope dV kV doc pm an cdv ct),sl⟩) (e3:codeIn K cdv "law"=true) ..:∃t,My.Txt K t
theorem PySem.Challenge.cw_LID_holds:PySem.Challenge.rw_LID.Holds:=by
 w_on;o_law;k_head;(case hw=>w_witness2)
 k_fill
 refine L2.walk_of (l:=PySem.Challenge.rw_LID) (n:=63) (k:=40) (x:="script") (CX:=λw=>..) (sp:=λ_=>My.sp_law) rfl (by decide) rfl ⟨rfl,by decide,by decide⟩ (λw h Y=>PySem.W.kIn_of Y) ?F ?S ?C
 case F=>
  intro w mg fa h KX G hmg;have T:∃t,My.Txt (L2.KOf KX) t:=by
   dsimp only[L2.KOf] -- K must stand as «<heap const> w.params» for k_is
   refine' My.txt_mk ?e1 ?e2 ?e3 ..
   (case e1=>PySem.W.k_is) -- in the order:a name->its address->its object->its parts
   (case e2=>PySem.W.k_is)
   ..
  obtain⟨t,T⟩:=T;have e0:=hmg.symm.trans (PySem.W.mg_of KX G T.law);cases e0 -- fa is the law's own address
  exact⟨_,λs u=>.of_eq rfl,λbase kb nb=>My.law_fn T kb nb⟩ -- if «.of_eq rfl» comes too early:refine' ⟨_,?b,λbase kb nb=>My.law_fn T kb nb⟩;exact λs u=>.of_eq rfl
 case S=>exact λw H a ns hl hO hS=>..
 case C=>exact ..
(the tactic k_is has no namespace:write k_is) -/
namespace L2
def zcr(s:Stmt):Arguments:=match s with
 | .FunctionDef _ a _ _ _ _ _ _ _ _=>a
 |_=>{posonlyargs:=[],args:=[],vararg:=none,kwonlyargs:=[],kw_defaults:=[],kwarg:=none,defaults:=[]}
def kS(s:Stmt):List Stmt:=match s with
 | .FunctionDef _ _ b _ _ _ _ _ _ _=>b
 |_=>[]
def qH(s:Stmt):Scope:=match s with
 | .FunctionDef _ _ _ _ _ _ sc _ _ _=>sc
 |_=>{kind:=.function,names:=[],isGenerator:=false,isCoroutine:=false}
abbrev CX0:CXT:=λ_ _ _ _ _ _=>False
abbrev E0:XK:=λ_ _ _=>False
variable{X:Cx}
theorem zjo:zkL CX0 X E0:=λ_ _ _ _ _ _ _ h=>h.elim
structure Fun(K:Fg)(x qual:Str)(st:Stmt)(f:Addr)(fd:FuncData):Prop where
 ex:∃(oc:Value) (od:Option Addr) (kV doc pm:Value) (an:Option Addr) (cdv ct:Value) (osl:Array (Option Value)),
  fd=PySem.W.fnOf x qual (zcr st) (kS st) (qH st) .none kV doc pm an cdv ct/\K.lookup f=some ⟨oc,od,.func fd,osl⟩/\PySem.W.codeIn K cdv qual=true
 kp:PySem.W.keepIn K (.ref f)=true
variable{x qual:Str}{st:Stmt}{f:Addr}{fd:FuncData}{N ps:List Str}{k:Nat}
section
variable{P:Program}{w:World}{K:Fg}{mg:SV}{base:Heap}
theorem Fun.ok{sp:Sp}(F:Fun K x qual st f fd)(S:yL N ps (qH st))(len:∀vs H Q E,sp vs H Q E->vs.length=ps.length)(hbody:∀(cdv:Value) (A:Around) (outer:List Env) (s:Shared) (H:Hp) (vs:List V) (Q:VK) (E:XK),zW k (A.deeper (envOfC qual (qH st) s.heap.objs.size f cdv))->sp vs H Q E->
   ∃t,PSs (kE CX0 P w K mg base N qual (qH st) f cdv A outer s H E).nox (kS st) t/\t {nx:=λ_ H'=>Q .non H',rt:=Q} (start N vs) H):jA P w K mg base CX0 (k+1) f fd ps sp:=by
 obtain⟨oc,od,kV,doc,pm,an,cdv,ct,osl,rfl,lk,hcd⟩:=F.ex;refine zpJ lk hcd S len λA outer s H vs Q E hr hsp=>?_
 obtain⟨t,h,q⟩:=hbody cdv A outer s H vs Q E hr hsp;exact⟨t,h.nox,q⟩
theorem Fun.binds(F:Fun K x qual st f fd)(h:∀(kV doc pm:Value) (an:Option Addr) (cdv ct:Value) (us:List Value),us.length=ps.length->bindArgs (PySem.W.fnOf x qual (zcr st) (kS st) (qH st) .none kV doc pm an cdv ct) ⟨us,[]⟩=pure (ps.zip us)):kM K fd ps []:=by obtain⟨oc,od,kV,doc,pm,an,cdv,ct,osl,rfl,lk,hcd⟩:=F.ex;exact .all (h kV doc pm an cdv ct)
end
section
variable{X:Cx}
end
variable{A B:Prop}
theorem iteF(h:B):if false=true then A else B:=by rw[if_neg Bool.false_ne_true];exact h
theorem nN(h:A):if true=true then A else B:=by rw[if_pos rfl];exact h
def zI(H H':Hp):Prop:=∀b o,H b=some o->H' b=some o
theorem zI.refl(H:Hp):zI H H:=λ_ _ h=>h
variable{H H2:Hp}
theorem zI.trans{H1:Hp}(a:zI H H1)(b:zI H1 H2):zI H H2:=λc o h=>b c o (a c o h)
variable{H':Hp}{l:Addr}
theorem zI.free(e:zI H H')(h:H' l=Option.none):H l=Option.none:=by
 cases q:H l with
 |none=>rfl
 |some o=>
  rw[e l o q]at h;cases h
theorem zI.seq{K:Fg}{a:Addr}{xs:List V}(e:zI H H')(h:SqL K H a xs):SqL K H' a xs:=by
 rcases h with(h|⟨o,h⟩)|h
 ·exact .inl (.inl (e _ _ h))
 ·exact .inl (.inr ⟨o,e _ _ h⟩)
 ·exact .inr h
noncomputable def qD(env:Env):List (Str×NameKind)->List (Str×Addr)->List (Str×Addr)
 |[],acc=>acc
 |(n,k)::r,acc=>qD env r (if k=.free then(n,(env.cells.lookup n).getD 0)::acc else acc)
variable{env:Env}{scope:Scope}
theorem zct(h:∀y∈scope.names,y.2=.free->∃c,env.cells.lookup y.1=some c):closureFor scope env=pure (qD env scope.names []):=by
 unfold closureFor;have go:∀(l:List (Str×NameKind)) (acc:List (Str×Addr)),(∀y∈l,y.2=.free->∃c,env.cells.lookup y.1=some c)->
   (forIn l acc (λ(x:Str×NameKind) (r:List (Str×Addr))=>(match x with|(name,kind)=>if(kind== .free)=true then(do let c ←cellOf env name;pure (ForInStep.yield ((name,c)::r)))else(pure (ForInStep.yield r)):Sem (ForInStep (List (Str×Addr))))):Sem (List (Str×Addr)))=pure (qD env l acc):=by
  intro l;induction l with
  |nil=>intro acc _;rfl
  |cons a r ih=>
   intro acc hl;obtain⟨n,k⟩:=a;have hr:∀y∈r,y.2=.free->∃c,env.cells.lookup y.1=some c:=λy hy=>hl y (List.mem_cons_of_mem _ hy)
   rw[List.forIn_cons];by_cases hk:k=.free
   ·subst hk;obtain⟨c,hc⟩:=hl (n,.free) List.mem_cons_self rfl;simp only[qD,if_true];have e:cellOf env n=pure c:=by unfold cellOf;rw[show env.cells.lookup n=some c from hc]
    simp only[e,beq_self_eq_true,if_true,pure_bind];rw[show env.cells.lookup n=some c from hc];exact ih _ hr
   ·have hb:(k==NameKind.free)=false:=by simpa using hk
    simp only[qD,if_neg hk,hb,Bool.false_eq_true,if_false,pure_bind];exact ih _ hr
 have:=go scope.names [] h;simpa using this
theorem zeJ{env:Env}:∀(l:List (Str×NameKind)) (acc:List (Str×Addr)),(∀y∈l,y.2=.free->∃c,env.cells.lookup y.1=some c)->(∀x c,acc.lookup x=some c->env.cells.lookup x=some c)->
  ∀x c,(qD env l acc).lookup x=some c->env.cells.lookup x=some c
 |[],_,_,ha=>ha
 |(n,k)::r,acc,hl,ha=>by
  refine zeJ r _ (λy hy=>hl y (List.mem_cons_of_mem _ hy)) ?_;intro x c hx;by_cases hk:k=.free
  ·rw[if_pos hk,List.lookup_cons]at hx;obtain⟨c',hc⟩:=hl (n,k) List.mem_cons_self hk;cases e:x==n with
   |true=>
    rw[e]at hx;have ex:x=n:=eq_of_beq e;subst ex;have hc':env.cells.lookup x=some c':=hc;rw[hc']at hx ⊢;exact hx
   |false=>rw[e]at hx;exact ha x c hx
  ·rw[if_neg hk]at hx;exact ha x c hx
theorem zeK{env:Env}:∀(l:List (Str×NameKind)) (acc:List (Str×Addr)) (x:Str),((x,NameKind.free)∈l\/∃c,acc.lookup x=some c)->∃c,(qD env l acc).lookup x=some c
 |[],_,x,h=>by
  rcases h with h|h
  ·cases h
  ·exact h
 |(n,k)::r,acc,x,h=>by
  refine zeK r _ x ?_;rcases h with h|⟨c,h⟩
  ·rcases List.mem_cons.mp h with h|h
   ·cases h
    refine .inr ⟨(env.cells.lookup n).getD 0,?_⟩;rw[if_pos rfl,List.lookup_cons];simp
   ·exact .inl h
  ·by_cases hk:k=.free
   ·rw[if_pos hk];cases e:x==n with
    |true=>exact .inr ⟨(env.cells.lookup n).getD 0,by rw[List.lookup_cons,e]⟩
    |false=>exact .inr ⟨c,by rw[List.lookup_cons,e];exact h⟩
   ·rw[if_neg hk];exact .inr ⟨c,h⟩
theorem zcw{names:List (Str×NameKind)}(hc:∀y∈names,y.2≠.cell){k:NameKind}(hk:k=.cell\/k=.free)(h:(names.map λ(p:Str×NameKind)=>if(p.2==NameKind.free&&env.scope.kind== .function&&env.kindOf p.1==some .cell)then(p.1,NameKind.cell)else(p.1,p.2)).lookup x=some k):(x,NameKind.free)∈names:=by
 obtain⟨⟨n,k0⟩,hm,e⟩:=List.mem_map.mp (PySem.mem_of_lookup h);have n0:=hc _ hm;simp only at e n0;by_cases hq:(k0==NameKind.free&&env.scope.kind== .function&&env.kindOf n==some .cell)=true
 ·rw[if_pos hq]at e;simp only[Bool.and_eq_true]at hq
  have:k0=.free:=eq_of_beq hq.1.1;subst this;cases e
  exact hm
 ·rw[if_neg hq]at e;cases e
  rcases hk with rfl|rfl
  ·exact absurd rfl n0
  ·exact hm
def qR(X:Cx)(N:List Str)(scope:Scope)(cl:List (Str×Addr))(C:Addr)(s0:Shared)(H0:Hp)(fp:List Addr):Cx:=
 {prog:=X.prog,w:=X.w,K:=X.K,mg:=X.mg,base:=X.base,A:=X.A,N:=N,s₀:=s0,H₀:=H0,env:=compEnvC scope cl C X.env,outer:=X.stack,stack:=X.stack,ex:=fp,fn:=λ_=>false,calm:=X.calm,pn:=[],xe:=λ_ _=>False}
inductive Cap(X:Cx)(scope:Scope):List Str->ON->Prop
 |nil:Cap X scope [] []
 |own {x N c}:Cap X scope N c->Cap X scope (x::N) (none::c)
 |cap {x j N c} (h:Cap X scope N c) (h1:X.N[j]?=some x:=by rfl) (h2:scope.names.lookup x=some .free:=by rfl) (h3:X.env.kindOf x=some .cell\/X.env.kindOf x=some .free:=by first|exact Or.inl rfl|exact Or.inr rfl):
   Cap X scope (x::N) (some j::c)
variable{c:ON}
theorem Cap.len(h:Cap X scope N c):c.length=N.length:=by
 induction h with
 |nil=>rfl
 |own _ ih=>simp[ih]
 |cap _ _ _ _ ih=>simp[ih]
theorem Cap.get(h:Cap X scope N c):∀{i j:Nat}{x:Str},c[i]?=some (some j)->N[i]?=some x->
  X.N[j]?=some x/\scope.names.lookup x=some .free/\(X.env.kindOf x=some .cell\/X.env.kindOf x=some .free):=by
 induction h with
 |nil=>intro i j x h;simp at h
 |own _ ih=>
  intro i j x h1 h2;cases i with
  |zero=>simp at h1
  |succ i=>exact ih (by simpa using h1) (by simpa using h2)
 |cap _ a b d ih=>
  intro i j x h1 h2;cases i with
  |zero=>simp at h1 h2;subst h1 h2;exact⟨a,b,d⟩
  |succ i=>exact ih (by simpa using h1) (by simpa using h2)
noncomputable def st0(cap:ON)(σ:St):St:=cap.map λo=>match o with
 |some j=>(σ[j]?).getD none
 |none=>none
structure kF(X:Cx)(scope:Scope):Prop where
 kind:scope.kind=.function
 cells:∀y∈scope.names,y.2≠.cell
 names:∀y∈scope.names,y.2=.local->scope.names.lookup y.1=some .local
 free:∀y∈scope.names,y.2=.free->X.env.kindOf y.1=some .cell\/X.env.kindOf y.1=some .free
theorem kF.mk'(h1:scope.kind=.function:=by rfl)(h2:(scope.names.all λy=>decide (y.2≠.cell))=true:=by rfl)(h3:(scope.names.all λy=>decide (y.2≠.local)||decide (scope.names.lookup y.1=some .local))=true:=by rfl)(h4:(scope.names.all λy=>decide (y.2≠.free)||(decide (X.env.kindOf y.1=some .cell)||decide (X.env.kindOf y.1=some .free)))=true:=by rfl):kF X scope where
 kind:=h1
 cells:=λy hy=>of_decide_eq_true (List.all_eq_true.mp h2 y hy)
 names:=λy hy hl=>by
  have:=List.all_eq_true.mp h3 y hy;rw[Bool.or_eq_true]at this;rcases this with z|z
  ·exact absurd hl (of_decide_eq_true z)
  ·exact of_decide_eq_true z
 free:=λy hy hl=>by
  have:=List.all_eq_true.mp h4 y hy;rw[Bool.or_eq_true,Bool.or_eq_true]at this;rcases this with z|z|z
  ·exact absurd hl (of_decide_eq_true z)
  ·exact .inl (of_decide_eq_true z)
  ·exact .inr (of_decide_eq_true z)
section
variable{X:Cx}{pins:AO}{σ:St}{H H3:Hp}{s s3:Shared}{N:List Str}{cap:ON}{scope:Scope}{fp:List Addr}{C:Addr}
theorem kF.cellsOf(S:kF X scope)(ok:X.Ok):∀y∈scope.names,y.2=.free->∃c,X.env.cells.lookup y.1=some c:=λy hy hf=>ok.has y.1 (S.free y hy hf)
theorem znT(S:kF X scope)(I3:Inv X pins σ H3 s3)(f3:∀b∈fp,jT X pins H3 b)(hfp:∀b∈fp,b<s3.heap.objs.size)(hC:s3.heap.objs.size<=C):
  (qR X N scope (qD X.env scope.names []) C s3 H3 fp).Ok:=by
 have sub:=zeJ (env:=X.env) scope.names [] (S.cellsOf I3.ok) (λx c h=>by simp at h);refine⟨I3.ok.mod,S.kind,I3.ok.glob,I3.ok.blt,hC,λx y c h1 h2=>I3.ok.inj x y c (sub x c h1) (sub y c h2),λx hx=>?_,λx c h=>absurd (show false=true from h) Bool.false_ne_true,I3.ok.hd,I3.ok.frames,.inl rfl,λb hb=>⟨?_,λx c h=>?_⟩,
  I3.bs,Nat.le_trans I3.ok.bsz I3.sz,λb o e hb=>?_,λb hb=>?_,I3.stack,I3.stkFree⟩
 ·refine zeK scope.names [] x (.inl ?_);rcases hx with hx|hx
  ·exact zcw S.cells (.inl rfl) hx
  ·exact zcw S.cells (.inr rfl) hx
 ·exact Nat.ne_of_lt (Nat.lt_of_lt_of_le (hfp b hb) hC)
 ·exact(f3 b hb).2.2.2.2.1 x c (sub x c h)
 ·obtain⟨_,_,_,h,_⟩:=f3 b hb;rcases h with h|h
  ·exact I3.ok.noex b o e h
  ·exact absurd (Nat.lt_of_lt_of_le (Heap.lt_size e) (Nat.le_trans I3.ok.bsz h)) (Nat.lt_irrefl _)
 ·intro hz;obtain⟨_,h1,h2,_⟩:=f3 b hb;rcases List.mem_cons.mp (I3.stkSub b hz)with z|z
  ·exact h1 z
  ·exact h2 z
theorem zlA(S:kF X scope)(cp:Cap X scope N cap)(I3:Inv X pins σ H3 s3)(f3:∀b∈fp,jT X pins H3 b)(hfp:∀b∈fp,b<s3.heap.objs.size)(hC:s3.heap.objs.size<=C)(os:s.os=s3.os)(bare:AllBare s.gens)(un:Un (frs X.stack) fp H3 H s3.heap s.heap)(ns:∃m,s.heap.Ns C m)(fC:H C=none)(hok:HOk X.prog X.w H s.heap):
  Inv (qR X N scope (qD X.env scope.names []) C s3 H3 fp) [] (st0 cap σ) H s:=by
 have sub:=zeJ (env:=X.env) scope.names [] (S.cellsOf I3.ok) (λx c h=>by simp at h);have cellK:∀x c,X.env.cells.lookup x=some c->∀v,s3.heap.IsCell c v->s.heap.IsCell c v:=λx c e v ⟨o,ho,hd⟩=>by
  obtain⟨sl,q⟩:=un.any ho (I3.freeC x c e) λz=>(f3 c z).2.2.2.2.1 x c e rfl
  exact⟨_,q,hd⟩
 obtain⟨m,hm⟩:=ns;refine⟨znT S I3 f3 hfp hC,os,bare,un,⟨m,hm,λi x v h1 h2 h3=>?_⟩,λx c h=>?_,fC,λx c h=>?_,λp hp=>absurd (show p∈([]:AO)from hp) (by simp),hok,?_⟩
 ·unfold st0 at h2;rw[List.getElem?_map]at h2;cases e:cap[i]? with
  |none=>rw[e]at h2;cases h2
  |some o=>
   rw[e]at h2;cases o with
   |none=>simp at h2
   |some j=>
    obtain⟨a1,a2,a3⟩:=cp.get e h1;simp only[Option.map_some]at h2;have h2':(σ[j]?).getD none=some v:=Option.some.inj h2;have h2'':σ[j]?=some (some v):=by
     cases q:σ[j]? with
     |none=>rw[q]at h2';cases h2'
     |some z=>rw[q]at h2';simp at h2';rw[h2']
    obtain⟨m0,_,hl⟩:=I3.loc;have vis:Vis X.env.scope x:=by
     rcases a3 with z|z
     ·exact .inr (.inl z)
     ·exact .inr (.inr z)
    obtain⟨u,r,l⟩:=hl j x v a1 h2'' vis;refine⟨u,r,?_⟩;rcases l with⟨k,_⟩|⟨_,c,e1,z⟩
    ·rcases a3 with q|q
     ·rw[q]at k;cases k
     ·rw[q]at k;cases k
    ·obtain⟨c',hc'⟩:=zeK (env:=X.env) scope.names [] x (.inl (PySem.mem_of_lookup a2))
     have:=sub x c' hc';rw[e1]at this;cases this
     refine .inr ⟨?_,c,hc',cellK x c e1 _ z⟩;have vis2:(qR X N scope (qD X.env scope.names []) C s3 H3 fp).env.kindOf x=some .local\/(qR X N scope (qD X.env scope.names []) C s3 H3 fp).env.kindOf x=some .cell\/(qR X N scope (qD X.env scope.names []) C s3 H3 fp).env.kindOf x=some .free:=h3;rcases vis2 with z1|z1
     ·-- a local name of the block is not free there
      exfalso;have z2:(scope.names.map λ(p:Str×NameKind)=>if(p.2==NameKind.free&&X.env.scope.kind== .function&&X.env.kindOf p.1==some .cell)then(p.1,NameKind.cell)else(p.1,p.2)).lookup x=some .local:=z1;have key:∀l:List (Str×NameKind),l.lookup x=some .free->(l.map λ(p:Str×NameKind)=>if(p.2==NameKind.free&&X.env.scope.kind== .function&&X.env.kindOf p.1==some .cell)then(p.1,NameKind.cell)else(p.1,p.2)).lookup x≠some .local:=by
       intro l;induction l with
       |nil=>intro h;simp at h
       |cons p l ih=>
        obtain⟨n,k⟩:=p;intro h;rw[List.map_cons];cases ex:x==n with
        |true=>
         rw[List.lookup_cons,ex]at h;cases h
         intro q;by_cases hq:((NameKind.free==NameKind.free)&&X.env.scope.kind== .function&&X.env.kindOf n==some .cell)=true
         ·rw[if_pos hq,List.lookup_cons,ex]at q;cases q
         ·rw[if_neg hq,List.lookup_cons,ex]at q;cases q
        |false=>
         rw[List.lookup_cons,ex]at h;intro q;by_cases hq:((k==NameKind.free)&&X.env.scope.kind== .function&&X.env.kindOf n==some .cell)=true
         ·rw[if_pos hq,List.lookup_cons,ex]at q;exact ih h q
         ·rw[if_neg hq,List.lookup_cons,ex]at q;exact ih h q
      exact key _ a2 z2
     ·exact z1
 ·obtain⟨v,z⟩:=I3.cell x c (sub x c h);exact⟨v,cellK x c (sub x c h) v z⟩
 ·obtain⟨v,o,ho,_⟩:=I3.cell x c (sub x c h);exact un.free c o ho (I3.freeC x c (sub x c h)) λz=>(f3 c z).2.2.2.2.1 x c (sub x c h) rfl
 ·show(st0 cap σ).length=N.length;unfold st0;rw[List.length_map];exact cp.len
end
def PIf(Y:Cx)(ifs:List Expr)(t:TT):Prop:=
 ∀(pins:AO) (s:Shared) (σ:St) (H:Hp) (Q:Bool->Hp->Prop),Inv Y pins σ H s->t σ H Q->
  wpAny (model Y.prog Y.w) Y.A (forIn ifs true λc r=>if r=true then do let ok ←isTrue c Y.env (eval c Y.env);pure (ForInStep.yield ok)else pure (ForInStep.yield r)) (TP Y pins σ Q) Y.xe s
def tYes:TT:=λ_ H Q=>Q true H
variable{Y:Cx}
theorem zje:PIf Y [] tYes:=λ_ _ _ H _ I h=>wpAny_tests_nil ⟨H,I,h⟩
theorem znk{c:Expr}{t:TT}(h:PT Y c t):PIf Y [c] t:=λpins s σ H Q I hw=>wpAny_tests_one (h pins s σ H Q I hw)
variable{e:Expr}{newAcc:Sem Value}{act:Value->Env->Sem Unit}{ho:HO}{E:VS}{wi:TI}{p py spos:Pos}{y:Str}
section
variable{X:Cx}{pins:AO}{σ:St}{N:List Str}{cap:ON}{scope:Scope}{tg zM elt:Expr}{ifs:List Expr}{pos:Pos}{g:TG}{tt:TT}{te:TE}
abbrev nD:=St->Hp->(Hp->Prop)->Prop
def PAct(Y:Cx)(act:Value->Env->Sem Unit)(D:Addr)(t:nD):Prop:=
 ∀(pins:AO) (s:Shared) (σ:St) (H:Hp) (Q:Hp->Prop),Inv Y pins σ H s->t σ H Q->wpAny (model Y.prog Y.w) Y.A (act (.ref D) Y.env) (λ_ s'=>∃σ' H',Inv Y pins σ' H' s'/\Q H') Y.xe s
def zgP(J:It)(g:TG)(tt:TT)(ta:Addr->nD)(ho:HO)(cap:ON)(σ:St)(H1:Hp)(Q:VK):Prop:=
 ∀D,H1 D=none->∃W:Nat->Nat->Hp->Prop,(∃m,W 0 m (upd H1 D ho))/\∀i m H,W i m H->
  ((J.stop i H/\Q (.ref D) H)\/(J.go i H/\∀x H',J.yld i H x H'->g x (st0 cap σ) H' λσ2 H2=>tt σ2 H2 λb H3=>
   if b=true then ta D σ2 H3 λH4=>∃m',m'<m/\W (i+1) m' H4 else∃m',m'<m/\W (i+1) m' H3))
structure zbE(X:Cx)(e tg zM:Expr)(ifs:List Expr)(newAcc:Sem Value)(act:Value->Env->Sem Unit)(ho:HO):Prop where
 new:∀(pins:AO) (σ:St) (H:Hp) (s:Shared) (Q:VS) (E:VS),Inv X pins σ H s->
  (∀ob:Obj,Inv X pins σ (upd H s.heap.objs.size ho) {s with heap:=s.heap.push ob}->Q (.ref s.heap.objs.size) {s with heap:=s.heap.push ob})->wpAny (model X.prog X.w) X.A newAcc Q E s
 turn:∀(it:Value) (D:Addr) (env:Env),compTurn e 0 it (.ref D) env=(do
   standAt zM.pos
   match←pyNext it with
   |none=>pure (.done .next)
   |some v=>
    letOwnedTupleGo tg it v
    assign tg env v
    let mut ok:=true
    for c in ifs do
     if ok then ok ←isTrue c env (eval c env)
    if ok then act (.ref D) env
    again (.compLoop e 0 it (.ref D) env))
 loop:∀(A:Around) (it:Value) (D:Addr) (env:Env) (Q:Fin->Shared->Prop) (E:VS) (s:Shared),wpAny (model X.prog X.w) A ((compTurn e 0 it (.ref D) env).onRaise λx=>do noteFrame x env;theTreesLotGoes x) Q E s->
  wpAny (model X.prog X.w) (A.under (.compLoop e 0 it (.ref D) env)) ((model X.prog X.w).den (.compLoop e 0 it (.ref D) env)) Q E s
 start:∀{it acc:Value}{env:Env} {A:Around}{R:Result->Shared->Prop} {s:Shared},codeAny (model X.prog X.w) A (.compLoop e 0 it acc env) R s->
  wpAny (model X.prog X.w) A (pyIter it) (λit' s'=>codeAny (model X.prog X.w) A (.compLoop e 0 it' acc env) R s') (notedBy (model X.prog X.w) A env λx s'=>R (.error x) s') s->codeAny (model X.prog X.w) A (.compStart e 0 it acc env) R s
theorem zdt{ta:Addr->nD}{s2:Shared}{J:It}{fp:List Addr}{it:Addr}{tn:Nat->Heap->Prop}{Q:VK}{RR:Value->Addr->Result->Shared->Prop}(ck:zbE X e tg zM ifs newAcc act ho)(hc:X.calm=true)(S:kF X scope)(cp:Cap X scope N cap)(hg:∀C s0 H0 fp,PG (qR X N scope (qD X.env scope.names []) C s0 H0 fp) tg g)(ht:∀C s0 H0 fp,PIf (qR X N scope (qD X.env scope.names []) C s0 H0 fp) ifs tt)(he:∀C s0 H0 fp D,PAct (qR X N scope (qD X.env scope.names []) C s0 H0 fp) act D (ta D))(I2:Inv X pins σ H2 s2)(T:Turn X.prog X.w X.K tg J fp it tn)(st2:tn 0 s2.heap)(f2:∀b∈fp,jT X pins H2 b)(hw:zgP J g tt ta ho cap σ H2 Q)(hRR:∀D C H' s' m',Inv X pins σ H' s'->s'.heap.Ns C m'->H' C=none->C≠X.env.locals->X.s₀.heap.objs.size<=C->(∀x c,X.env.cells.lookup x=some c->c≠C)->(∀p∈X.pn++pins,p.1≠C)->Q (.ref D) H'->RR (.ref D) C (.ok .next) s'):
  wpAny (model X.prog X.w) X.A newAcc (λacc s3=>wpAny (model X.prog X.w) X.A (newFunctionEnv scope X.env.globals (qD X.env scope.names []) [] X.env.qual none .none (some X.env)) (λcenv s4=>
   codeAny (model X.prog X.w) X.A (.compStart e 0 (.ref it) acc {cenv with scope:=relabel scope X.env}) (RR acc cenv.locals) s4) E s3) E s2:=by
 refine ck.new pins σ H2 s2 _ _ I2 λob I3=>wpAny_newFunctionEnv S.cells (by intro y hy;simp at hy) (λh1 hns1 hsb1=>?_) S.kind
 dsimp only at hns1 hsb1 ⊢;have D0:H2 s2.heap.objs.size=none:=I2.fresh;obtain⟨W,⟨m0,w0⟩,turn⟩:=hw s2.heap.objs.size D0;generalize hs3:({s2 with heap:=s2.heap.push ob}:Shared)=s3 at I3;have e3:s3.heap=s2.heap.push ob:=by rw[←hs3]
 have z3:s3.heap.objs.size=s2.heap.objs.size+1:=by rw[e3,Heap.size_push]
 rw[←e3]at hns1 hsb1 ⊢;generalize hD:s2.heap.objs.size=D at*;generalize hC:s3.heap.objs.size=C at*;have fp2:∀b∈fp,b<D:=λb hb=>by obtain⟨o,e,_⟩:=T.obj 0 _ st2 b hb;rw[←hD];exact Heap.lt_size e
 have f3:∀b∈fp,jT X pins (upd H2 D ho) b:=λb hb=>by obtain⟨a1,a2⟩:=f2 b hb;exact⟨by rw[zV (Nat.ne_of_lt (fp2 b hb))];exact a1,a2⟩
 have hfp:∀b∈fp,b<s3.heap.objs.size:=λb hb=>by rw[hC,z3];exact Nat.lt_succ_of_lt (fp2 b hb)
 have old:∀b o,s3.heap.get? b=some o->h1.get? b=some o:=λb o e=>
  hsb1.extBut b o (Nat.ne_of_lt (by rw[←hC];exact Heap.lt_size e)) (Heap.get?_push_of_some _ e)
 have old2:∀b o,s2.heap.get? b=some o->s3.heap.get? b=some o:=λb o e=>by rw[e3];exact Heap.get?_push_of_some _ e
 have ds4:∀s4:Shared,s4={s2 with heap:=h1,toks:=s2.toks+([]:List (Str×Value)).length}->
   codeAny (model X.prog X.w) X.A (.compLoop e 0 (.ref it) (.ref D) (compEnvC scope (qD X.env scope.names []) C X.env)) (RR (.ref D) C) s4:=by
  intro s4 es4;have os4:s4.os=s3.os:=by rw[es4,←hs3]
  have bare4:AllBare s4.gens:=by rw[es4];exact I2.bare
  have heap4:s4.heap=h1:=by rw[es4]
  have st4:tn 0 s4.heap:=by rw[heap4];exact T.keep _ _ _ st2 λb _ o e=>old b o (old2 b o e)
  refine codeAny_loop rfl (λn s=>∃i H,s.os=s3.os/\AllBare s.gens/\Un (frs X.stack) fp (upd H2 D ho) H s3.heap s.heap/\(∃m,s.heap.Ns C m)/\H C=none/\HOk X.prog X.w H s.heap/\tn i s.heap/\(∀b∈fp,H b=none)/\W i n H)
   (λn s hI=>?_) m0 ⟨0,_,os4,bare4,by rw[heap4];exact Un.kept old,by rw[heap4];exact⟨_,hns1⟩,I3.hok.fresh (Nat.le_of_eq hC),by rw[heap4];exact I3.hok.kept old,st4,λb hb=>(f3 b hb).1,w0⟩
  obtain⟨i,H,os,bare,un,ns,fC,hok,st,fr,wi⟩:=hI;refine ck.loop _ _ _ _ _ _ _ ?_;refine wpAny_noted ?_;rw[ck.turn];have hCge:s3.heap.objs.size<=C:=Nat.le_of_eq hC;have IY:=zlA S cp I3 f3 hfp hCge os bare un ns fC hok;generalize hYd:qR X N scope (qD X.env scope.names []) C s3 (upd H2 D ho) fp=Y at IY;have hYA:Y.A=X.A:=by rw[←hYd];rfl
  have hYenv:Y.env=compEnvC scope (qD X.env scope.names []) C X.env:=by rw[←hYd];rfl
  have hYp:Y.prog=X.prog:=by rw[←hYd];rfl
  have hYw:Y.w=X.w:=by rw[←hYd];rfl
  have hYK:Y.K=X.K:=by rw[←hYd];rfl
  have hYc:Y.calm=true:=by rw[←hYd];exact hc
  have hYxe:∀e s,¬Y.xe e s:=λe s z=>by rw[←hYd]at z;exact z
  have gY:PG Y tg g:=by rw[←hYd];exact hg _ _ _ _
  have tY:PIf Y ifs tt:=by rw[←hYd];exact ht _ _ _ _
  have eY:PAct Y act D (ta D):=by rw[←hYd];exact he _ _ _ _ _
  have stat:∀{H':Hp},(∀b∈fp,H' b=none)->∀b∈fp,jT Y [] H' b:=λ{H'} hn b hb=>by have okY:=IY.ok;refine⟨hn b hb,(okY.exf b (by rw[←hYd];exact hb)).1,okY.exfs b (by rw[←hYd];exact hb),.inl (by rw[←hYd];exact hb),λx c e=>(okY.exf b (by rw[←hYd];exact hb)).2 x c e,λp hp=>?_⟩;rw[←hYd]at hp;exact absurd (show p∈([]:AO)from hp) (by simp)
  have alt:=turn i n H wi;have base_of:∀{σ':St}{pins':AO} {H':Hp}{s':Shared},Inv Y pins' σ' H' s'->s'.os=s3.os/\AllBare s'.gens/\Un (frs X.stack) fp (upd H2 D ho) H' s3.heap s'.heap/\(∃m,s'.heap.Ns C m)/\H' C=none/\HOk X.prog X.w H' s'.heap:=λ{σ' pins' H' s'} I'=>by have b1:=I'.os;have b2:=I'.base;have b3:=I'.loc;have b4:=I'.free;have b5:=I'.hok;rw[←hYd]at b1 b2 b3 b4 b5;obtain⟨m,hm,_⟩:=b3;exact⟨b1,I'.bare,b2,⟨m,hm⟩,b4,b5⟩
  refine wpAny_bind (wpAny_standAt (wpAny_bind ?_));rcases alt with⟨stop,qn⟩|⟨go,step⟩
  ·have h1:=T.done Y hYp hYw hYK hYc i [] s _ H (notedBy (model X.prog X.w) X.A (compEnvC scope (qD X.env scope.names []) C X.env) λe s'=>RR (.ref D) C (.error e) s') IY (stat fr) st stop;rw[hYA]at h1;refine wpAny_mono h1 (λr s5 h5=>?_) λ_ _ z=>z
   obtain⟨hr,I5⟩:=h5;subst hr;refine wpAny_pure ?_;obtain⟨os5,bare5,un5,⟨m5,ns5⟩,fC5,hok5⟩:=base_of I5;have IX:Inv X pins σ H s5:=I3.call' (ch:=fp) (by rw[os5]) un5 hok5 bare5 λb hb=>by obtain⟨_,a2,a3,a4,a5,a6⟩:=f3 b hb;exact⟨a4,a2,a5,a6⟩
   refine hRR D C H s5 m5 IX ns5 fC5 ?_ ?_ ?_ ?_ qn
   ·exact Nat.ne_of_gt (Nat.lt_of_lt_of_le I3.lt hCge)
   ·exact Nat.le_trans I3.sz hCge
   ·intro x c e z;obtain⟨v,q⟩:=I3.cell x c e;exact absurd (Nat.lt_of_lt_of_le q.lt hCge) (by rw[z];exact Nat.lt_irrefl _)
   ·intro p hp z;exact absurd (Nat.lt_of_lt_of_le (Heap.lt_size (I3.pin p hp).1) hCge) (by rw[z];exact Nat.lt_irrefl _)
  ·have h1:=T.item Y hYp hYw hYK hYc i [] s _ H Y.xe IY (stat fr) st go;rw[hYA]at h1;refine wpAny_mono h1 (λr s5 h5=>?_) λe s' z=>absurd z (hYxe e s')
   obtain⟨u,hr,h5⟩:=h5;subst hr;refine wpAny_bind (wpAny_mono h5 (λ_ s6 h6=>?_) λe s' z=>absurd z (hYxe e s'));obtain⟨x,H6,I6,r6,y6,st6,fr6⟩:=h6;have I6':=I6.pinned (stat fr6) (T.obj _ _ st6);have h7:=gY _ s6 _ H6 x u _ I6' r6 (step x H6 y6);rw[hYA,hYenv,hYp,hYw]at h7;refine wpAny_bind (wpAny_mono h7 (λ_ s7 h7=>?_) λe s' z=>absurd z (hYxe e s'));obtain⟨σ7,H7,I7,q7⟩:=h7;have h8:=tY _ s7 σ7 H7 _ I7 q7;rw[hYA,hYenv,hYp,hYw]at h8;refine wpAny_bind (wpAny_mono h8 (λb s8 h8=>?_) λe s' z=>absurd z (hYxe e s'));obtain⟨H8,I8,q8⟩:=h8;have again:∀{σ9:St}{H9:Hp} {s9:Shared},Inv Y ([]++zfm fp s6.heap) σ9 H9 s9->(∃m',m'<n/\W (i+1) m' H9)->
     ∃m,m<n/\∃i H,s9.os=s3.os/\AllBare s9.gens/\Un (frs X.stack) fp (upd H2 D ho) H s3.heap s9.heap/\(∃m,s9.heap.Ns C m)/\H C=none/\HOk X.prog X.w H s9.heap/\tn i s9.heap/\(∀b∈fp,H b=none)/\W i m H:=λ{σ9 H9 s9} I9 ⟨m',hm,w9⟩=>by
    obtain⟨b1,b2,b3,b4,b5,b6⟩:=base_of I9;refine⟨m',hm,i+1,H9,b1,b2,b3,b4,b5,b6,T.keep _ _ _ st6 λb hb o e=>(I9.pin (b,o) (List.mem_append_right _ (List.mem_append_right _ (zaw hb e)))).1,λb hb=>?_,w9⟩;obtain⟨o,e,d⟩:=T.obj _ _ st6 b hb;exact(I9.pin (b,o) (List.mem_append_right _ (List.mem_append_right _ (zaw hb e)))).2.1
   cases b with
   |false=>
    simp only[Bool.false_eq_true,if_false]at q8 ⊢;exact wpAny_pure ⟨rfl,again I8 q8⟩
   |true=>
    simp only[if_true]at q8 ⊢;have h9:=eY _ s8 σ7 H8 _ I8 q8;rw[hYA,hYenv,hYp,hYw]at h9;refine wpAny_bind (wpAny_mono h9 (λ_ s9 h9=>?_) λe s' z=>absurd z (hYxe e s'));obtain⟨σ9,H9,I9,q9⟩:=h9;exact wpAny_pure ⟨rfl,again I9 q9⟩
 have st1:tn 0 h1:=T.keep _ _ _ st2 λb _ o e=>old b o (old2 b o e)
 exact ck.start (ds4 _ rfl) (T.self X.A 0 _ _ _ st1 (ds4 _ rfl))
noncomputable def actL(elt:Expr):Value->Env->Sem Unit:=λacc env=>do let _ ←call (.builtin "list.append") [acc,←eval elt env]
theorem zku:zbE X (.ListComp elt [⟨tg,zM,ifs,0⟩] scope pos) tg zM ifs (newList []) (actL elt) (.lst [])where
 new:=λpins σ H s Q E I h=>wpAny_newObj_type (h _ (I.lnew (t':=s.toks) .nil (Nat.zero_le _)))
 turn:=λit D env=>by rw[compTurn_list];rfl
 loop:=λA it D env Q E s h=>h
 start:=λh0 h=>codeAny_compStart_list h0 h
def taL(te:TE)(D:Addr):nD:=λσ H Q=>te σ H λv H4=>∃acc,H4 D=some (.lst acc)/\acc.length<sizeLine/\Q (upd H4 D (.lst (acc++[v])))
theorem zfp(he:PE Y elt te)(D:Addr):PAct Y (actL elt) D (taL te D):=by intro pins s σ H Q I h;unfold actL;refine wpAny_bind (thn (he pins s σ H _ I h) λv s9 ⟨v9,H9,I9,r9,acc,hD9,hlen,q9⟩=>?_);refine wpAny_bind (thn (zdc (X:=Y) _ s9 σ H9 (.ref D) [v9] (.ref D) [v] (λz Hz=>z=.non/\Hz=upd H9 D (.lst (acc++[v9]))) I9 rfl (.cons r9 .nil) ⟨D,acc,v9,rfl,rfl,hD9,hlen,rfl,rfl⟩) λ_ s10 h10=>?_);obtain⟨_,H10,I10,_,_,e10⟩:=h10;subst e10;exact wpAny_pure ⟨_,_,I10,q9⟩
def zoe(K:Fg)(J:It)(g:TG)(tt:TT)(te:TE)(cap:ON)(σ:St)(H1:Hp)(Q:VK):Prop:=zgP J g tt (taL te) (.lst []) cap σ H1 Q
noncomputable def zgU(wi:TI)(g:TG)(tt:TT)(ta:Addr->nD)(ho:HO)(cap:ON):TE:=λσ H Q=>wi σ H λJ H1=>zgP J g tt ta ho cap σ H1 Q
noncomputable def zoo(K:Fg)(wi:TI)(g:TG)(tt:TT)(te:TE)(cap:ON):TE:=zgU wi g tt (taL te) (.lst []) cap
theorem zli{ta:Addr->nD}(ck:zbE X e tg zM ifs newAcc act ho)(N:List Str)(cap:ON)(cp:Cap X scope N cap)(hc:X.calm=true)(hi:PI X tg zM wi)(hg:∀C s0 H0 fp,PG (qR X N scope (qD X.env scope.names []) C s0 H0 fp) tg g)(ht:∀C s0 H0 fp,PIf (qR X N scope (qD X.env scope.names []) C s0 H0 fp) ifs tt)(he:∀C s0 H0 fp D,PAct (qR X N scope (qD X.env scope.names []) C s0 H0 fp) act D (ta D))(S:kF X scope)(hs:∀x,foldedSetIterable zM X.env x=pure x)(hcl:clausesOf e=[⟨tg,zM,ifs,0⟩])(hev:eval e X.env=comprehension e scope X.env p newAcc false (eval zM X.env)):
  PE X e (zgU wi g tt ta ho cap):=by
 intro pins s σ H Q I h;rw[hev];refine wpAny_comprehension_free (use:=none) hcl hs (zct (S.cellsOf I.ok)) S.kind S.names (thn (hi pins s σ H _ I h) λv s1 h1=>thn h1 λitv s2 h2=>?_);obtain⟨it,fp,tn,J,H2,e,I2,T,st2,f2,hw⟩:=h2;subst e;refine zdt (RR:=λacc C=>compPost (model X.prog X.w) X.A X.xe none (EP X pins σ Q) acc C) ck hc S cp hg ht he I2 T st2 f2 hw ?_;intro D C H' s' m' I' ns fC c1 c2 c3 c4 q;exact⟨m',ns,λh' hs'=>⟨.ref D,H',I'.turned (t':=s'.toks) (λb o hb e=>(hs'.2 b hb).trans e) fC c1 (.inr c2) c3 c4,rfl,q⟩⟩
theorem zgf{ta:Addr->nD}(ck:zbE X e tg zM ifs newAcc act ho)(N:List Str)(cap:ON)(cp:Cap X scope N cap)(hc:X.calm=true)(hN:X.N.Nodup)(hk:X.N[k]?=some y)(hy:Loc X.env.scope y)(hi:PI X tg zM wi)(hg:∀C s0 H0 fp,PG (qR X N scope (qD X.env scope.names []) C s0 H0 fp) tg g)(ht:∀C s0 H0 fp,PIf (qR X N scope (qD X.env scope.names []) C s0 H0 fp) ifs tt)(he:∀C s0 H0 fp D,PAct (qR X N scope (qD X.env scope.names []) C s0 H0 fp) act D (ta D))(S:kF X scope)(hs:∀x,foldedSetIterable zM X.env x=pure x)(hcl:clausesOf e=[⟨tg,zM,ifs,0⟩])(hev:∀use,evalThenUse e X.env use=(do let _ ←comprehension e scope X.env p newAcc false (eval zM X.env) (some use)))(hsw:swapsWith e (some (.Name y py)) spos.line X.env=pure true)(hf:X.fn y=true\/X.env.scope.names.lookup y=some .local):
  PS X (.Assign [.Name y py] e spos) (tAsg (zgU wi g tt ta ho cap) (zlI k)):=by
 intro pins s σ H D0 I h;rw[exec_Assign_Name_used _ _ _ _ hsw];refine wpAny_bind (wpAny_standAt (wpAny_bind ?_));rw[hev];refine wpAny_bind (wpAny_mono (wpAny_comprehension_free (use:=some (assign (.Name y py) X.env)) (Q:=λ_ s'=>SP X pins D0 .next s') hcl hs (zct (S.cellsOf I.ok)) S.kind S.names
  (thn (hi pins s σ H _ I h) λv s1 h1=>thn h1 λitv s2 h2=>?_)) (λ_ s' hq=>wpAny_pure (wpAny_pure hq)) λ_ _ e=>e)
 obtain⟨it,fp,tn,J,H2,e,I2,T,st2,f2,hw⟩:=h2;subst e;refine zdt (RR:=λacc C=>compPost (model X.prog X.w) X.A X.xe (some (assign (.Name y py) X.env)) (λ_ s'=>SP X pins D0 .next s') acc C) ck hc S cp hg ht he I2 T st2 f2 hw ?_;intro D C H' s' m' I' ns fC c1 c2 c3 c4 q;show wpAny _ X.A (assign (.Name y py) X.env (.ref D)) _ _ _;refine wpAny_assign_Name (zeX I' hN hk hy (v:=.ref D) rfl (λs'' I'' ⟨a,hsb,ha⟩=>?_) hf);have hCa:C≠a:=by
  rcases ha with z|z
  ·rw[z];exact c1
  ·exact λw=>c3 y a z w.symm
 refine⟨m',ns.sameBut hsb hCa,λh' hs'=>⟨_,H',I''.turned (t':=s''.toks) (λb o hb e=>(hs'.2 b hb).trans e) fC c1 (.inr c2) c3 c4,q⟩⟩
theorem zjk(N:List Str)(cap:ON)(cp:Cap X scope N cap)(hc:X.calm=true)(hi:PI X tg zM wi)(hg:∀C s0 H0 fp,PG (qR X N scope (qD X.env scope.names []) C s0 H0 fp) tg g)(ht:∀C s0 H0 fp,PIf (qR X N scope (qD X.env scope.names []) C s0 H0 fp) ifs tt)(he:∀C s0 H0 fp,PE (qR X N scope (qD X.env scope.names []) C s0 H0 fp) elt te)(S:kF X scope:=by exact kF.mk')(hs:∀x,foldedSetIterable zM X.env x=pure x:=by intro _;rfl):
  PE X (.ListComp elt [⟨tg,zM,ifs,0⟩] scope pos) (zoo X.K wi g tt te cap):=
 zli zku N cap cp hc hi hg ht (λC s0 H0 fp D=>zfp (he C s0 H0 fp) D) S hs rfl (eval_ListComp ..)
theorem zhP(N:List Str)(cap:ON)(cp:Cap X scope N cap)(hc:X.calm=true)(hN:X.N.Nodup)(hk:X.N[k]?=some y)(hy:Loc X.env.scope y)(hi:PI X tg zM wi)(hg:∀C s0 H0 fp,PG (qR X N scope (qD X.env scope.names []) C s0 H0 fp) tg g)(ht:∀C s0 H0 fp,PIf (qR X N scope (qD X.env scope.names []) C s0 H0 fp) ifs tt)(he:∀C s0 H0 fp,PE (qR X N scope (qD X.env scope.names []) C s0 H0 fp) elt te)(S:kF X scope:=by exact kF.mk')(hs:∀x,foldedSetIterable zM X.env x=pure x:=by intro _;rfl)(hsw:swapsWith (.ListComp elt [⟨tg,zM,ifs,0⟩] scope pos) (some (.Name y py)) spos.line X.env=pure true:=by rfl)(hf:X.fn y=true\/X.env.scope.names.lookup y=some .local:=by first|exact .inl rfl|exact .inr rfl|assumption):
  PS X (.Assign [.Name y py] (.ListComp elt [⟨tg,zM,ifs,0⟩] scope pos) spos) (tAsg (zoo X.K wi g tt te cap) (zlI k)):=
 zgf zku N cap cp hc hN hk hy hi hg ht (λC s0 H0 fp D=>zfp (he C s0 H0 fp) D) S hs rfl (λ_=>rfl) hsw hf
end
section
variable{X:Cx}{a b:Expr}{ta tb:TE}{pos:Pos}
def rIsi(K:Fg):List V->Hp->VK->Prop:=λxs H Q=>∃x T t k,xs=[x,.ty T]/\xF K H x t/\PySem.W.kitOne K t (.type T)=some k/\Q (.bl k) H
theorem zmj:jX X (.builtin "isinstance") (rIsi X.K):=by
 intro pins s σ H xs us Q I r h;obtain⟨x,T,t,k,rfl,ty,e,q⟩:=h;obtain⟨u,c,rfl,r1,r2⟩:=zmR r;cases(show c=Value.type T from r2)
 exact zjM I r1 ty e λtk=>⟨.bl k,H,I.tok _,rfl,q⟩
def zoC(K:Fg):R2:=λx y H Q=>∃a b ys,x=.ref a/\y=.ref b/\SqT K H a []/\SqT K H b ys/\Q (.ref b) H
theorem zlm:OpR X (binaryOp .Add) (zoC X.K):=by
 intro pins s σ H x y v u Q I rx ry h;obtain⟨a,b,ys,rfl,rfl,ha,hb,q⟩:=h;cases rx
 cases ry
 obtain⟨its,r1,p1,_⟩:=I.tuple ha;obtain⟨its2,r2,p2,_⟩:=I.tuple hb;have e:its=[]:=by cases r1;rfl
 subst e;obtain⟨⟨cls,dd,data,sl⟩,ho,hc,n,hd⟩:=id p1;obtain⟨⟨cls2,dd2,data2,sl2⟩,ho2,hc2,n2,hd2⟩:=id p2;simp only at hc hd hc2 hd2;subst hc hd hc2 hd2;exact concat_meets ⟨_,ho,rfl⟩ ⟨_,ho2,rfl⟩ noFill_tuple_add seq_tuple_add PySem.F.slot_tuple_add PySem.F.entry_tuple_add (PySem.F.args_tuple_add_2 _ _)
   (tuple_addW0 a b _ its2.toArray n n2 dd dd2 sl sl2 (by simp)) ⟨ho,ho2,⟨.ref b,H,I.tok _,rfl,q⟩⟩
def zqF(K:Fg):R2:=λx y H Q=>∃a b xs ys,x=.ref a/\y=.ref b/\SqT K H a xs/\SqT K H b ys/\xs.length+ys.length<=sizeLine/\
 (xs=[]->Q (.ref b) H)/\(xs≠[]->ys=[]->Q (.ref a) H)/\(xs≠[]->ys≠[]->∀p,H p=none->Q (.ref p) (upd H p (.tup (xs++ys))))
theorem znu:OpR X (binaryOp .Add) (zqF X.K):=by
 intro pins s σ H x y v u Q I rx ry h;obtain⟨a,b,xs,ys,rfl,rfl,ha,hb,hz,q0,q1,q2⟩:=h;by_cases e:xs=[]
 ·subst e;exact zlm pins s σ H _ _ v u Q I rx ry ⟨a,b,ys,rfl,rfl,ha,hb,q0 rfl⟩
 ·exact znt pins s σ H _ _ v u Q I rx ry ⟨a,b,xs,ys,rfl,rfl,ha,hb,e,hz,q1 e,q2 e⟩
theorem ziF:∀l:List Int,(∀n∈l,0<=n)->0<=l.sum
 |[],_=>by simp
 |a::l,h=>by
  have h1:=ziF l λn hn=>h n (List.mem_cons_of_mem _ hn)
  have h2:=h a List.mem_cons_self;rw[List.sum_cons];omega
theorem zgT:∀(j:Nat) (l:List Int),(∀n∈l,0<=n)->0<=(l.take j).sum/\(l.take j).sum<=l.sum
 |0,l,h=>by have:=ziF l h;simp;exact this
 |j+1,[],_=>by simp
 |j+1,a::l,h=>by
  have h1:=zgT j l λn hn=>h n (List.mem_cons_of_mem _ hn)
  have h2:=h a List.mem_cons_self;rw[List.take_succ_cons,List.sum_cons,List.sum_cons];omega
theorem zjW:∀(j:Nat) (l:List Int),(∀n∈l,0<=n)->0<=l.getD j 0/\l.getD j 0<=l.sum
 |j,[],_=>by simp
 |0,a::l,h=>by
  have h1:=ziF l λn hn=>h n (List.mem_cons_of_mem _ hn)
  have h2:=h a List.mem_cons_self;rw[List.sum_cons];simp;omega
 |j+1,a::l,h=>by
  have h1:=zjW j l λn hn=>h n (List.mem_cons_of_mem _ hn)
  have h2:=h a List.mem_cons_self;rw[List.sum_cons];simp only[List.getD_cons_succ];omega
theorem zhI{l:List Int}(h:∀n∈l,0<=n)(hz:l.sum<2^62):PySem.SumFits l:=λj _=>by have h1:=zgT (j+1) l h;have h2:=zjW j l h;unfold InLong;refine⟨⟨?_,?_⟩,⟨?_,?_⟩⟩<;>omega
theorem zkw(hc:X.calm=true):jX X (.builtin "sum") (λxs H Q=>∃(p:Addr) (ns:List Int),xs=[.ref p]/\SqL X.K H p (ns.map V.int)/\PySem.SumFits ns/\Q (.int ns.sum) H):=by
 intro pins s σ H xs us Q I r h;obtain⟨p,ns,rfl,hq,hz,q⟩:=h;obtain⟨u,rfl,rx⟩:=yV r;cases rx
 obtain⟨its,r',pl,_⟩:=I.list hq;have hi:IntsAre its ns:=zaI r';have hall:AllInts its.toArray:=hi.allInts;have nn:numsOf its.toArray.toList=ns:=by rw[show its.toArray.toList=its from rfl,hi.numsOf]
 obtain⟨xs,hx⟩:=hall.items;rw[hx,nums_intItems]at nn;have hl2:s.heap.IsList p (intItems xs):=by rw[←hx];exact pl.isList
 refine sum_intList (I.ok.hd hc) hl2 (λj hj=>?_) λh' tk t' hk=>?_
 ·rw[numAt_eq,preSum_eq,nn];exact hz j (by rw[←nn];simpa using hj)
 ·refine⟨.int ns.sum,H,I.kept hk,⟨t',?_⟩,q⟩;rw[preSum_eq,nn,List.take_of_length_le (by rw[←nn];simp)]
theorem zcG(a v:Value):argsOk "max" ⟨[a],[(Str.ofString "default",v)]⟩:=by unfold argsOk;kernel_rfl
end
variable{its:List Value}{ns:List Int}
section
variable{prog:Program}{w:World}{A:Around}
theorem zhY{R:Result->Shared->Prop}{I S:Addr}{d:Value}(hh:A.handled=none)(hi:IntsAre its ns)(hlI:l≠I)(hSI:S≠I)(hSl:S≠l):
  ∀(k i:Nat) (s:Shared) (m:Int) (t:Tok) (c:Nat),ns.length - i=k->i<=ns.length->s.heap.IsListIter I l i->s.heap.IsList l its.toArray->
  s.heap.get? S=some {cls:=.type "list",dict:=none,data:=.seq #[.int m t,.int m t] c,slots:=#[]}->
  (∀h' tk t',(∀b o,b≠I->b≠S->s.heap.get? b=some o->h'.get? b=some o)->R (.ok (.ret (.int ((ns.drop i).foldl max m) t'))) {s with heap:=h',toks:=tk})->
  codeAny (model prog w) A (.builtin "max.loop" ⟨[.ref I,.none,.ref S],[(Str.ofString "default",d)]⟩) R s:=by
 have hname:(toString "max"++toString ".loop":String)="max.loop":=by decide
 have W:=Walks.list (prog:=prog) (w:=w) (A:=A.in1) hh I l hlI its.toArray;have hlen:its.toArray.size=ns.length:=by rw[List.size_toArray];exact hi.length
 intro k;induction k with
 |zero=>
  intro i s m t c hk hi' hit hl hS hR;have hin:i=ns.length:=by omega
  subst hin;refine codeAny_builtin PySem.F.entry_max_loop ?_;rw[Around.under_plainId PySem.F.plain_max_loop _];show wpAny _ A.in1 (seqItems? (.ref S)>>=_) _ _ s;refine wpAny_bind (wpAny_seqItems hS rfl ?_);show wpAny _ A.in1 (tryCatch (pyNext (.ref I)) _>>=_) _ _ s;refine wpAny_bind (wpAny_tryCatch (W.done s _ _ (by rw[hlen];exact⟨hit,hl⟩) λh' tk hk'=>?_));have hS':=hk' S _ (by simpa using hSI) hS;show wpAny _ A.in1 (updateSeq S (λ_=>#[])>>=_) _ _ _;refine wpAny_bind ?_;refine wpAny_updateSeq hS' rfl (wpAny_bind (wpAny_letGo (wpAny_pure ?_)))
  have:=hR (h'.update S (Obj.mapSeq λ_=>#[])) tk t λb o hbI hbS e=>(Heap.get?_update_other _ _ (Ne.symm hbS)).trans (hk' b o (by simpa using hbI) e)
  rw[List.drop_length]at this;exact this
 |succ k ih=>
  intro i s m t c hk hi' hit hl hS hR;have hlt:i<ns.length:=by omega
  refine codeAny_builtin PySem.F.entry_max_loop ?_;rw[Around.under_plainId PySem.F.plain_max_loop _];show wpAny _ A.in1 (seqItems? (.ref S)>>=_) _ _ s;refine wpAny_bind (wpAny_seqItems hS rfl ?_);show wpAny _ A.in1 (tryCatch (pyNext (.ref I)) _>>=_) _ _ s;refine wpAny_bind (wpAny_tryCatch (W.item i s _ _ (by rw[hlen];exact hlt) ⟨hit,hl⟩ λv h' tk hP hst' hk'=>?_));have hv:its[i]?=some v:=by simpa using hP
  obtain⟨t1,rfl⟩:∃t1,v=.int ns[i] t1:=by
   have rv:=zbT hi;obtain⟨u,e1,r1⟩:=rv.get (i:=i) (x:=.int ns[i]) (by simp[hlt]);rw[hv]at e1;cases e1
   exact r1
  have hS':=hk' S _ (by simpa using hSI) hS;have hdrop:ns.drop i=ns[i]::ns.drop (i+1):=List.drop_eq_getElem_cons hlt;rw[hdrop,List.foldl_cons]at hR;show wpAny _ A.in1 (tryCatch (holding [.int ns[i] t1,.int ns[i] t1] (richCompare .Gt (.int ns[i] t1) (.int m t)>>=_)) _>>=_) _ _ _;refine wpAny_bind (wpAny_tryCatch (wpAny_holding (wpAny_bind ?_)));refine(PyProof.Rows.gt_int ?_:wpAny (model prog w) A.in1 (compareOp .Gt (.int ns[i] t1) (.int m t)) _ _ _);refine wpAny_bind (wpAny_holding (wpAny_truthy_bool ?_));refine wpAny_bind (wpAny_letGo (wpAny_pure ?_));by_cases hb:m<ns[i]
  ·have e:max m ns[i]=ns[i]:=by omega
   rw[e]at hR;simp only[show decide (ns[i]>m)=true from decide_eq_true hb,if_true];refine wpAny_bind ?_;refine wpAny_updateSeq hS' rfl (wpAny_bind (wpAny_letGo ?_));rw[hname];have o1:∀b o,b≠S->h'.get? b=some o->(h'.update S (Obj.mapSeq λ_=>#[.int ns[i] t1,.int ns[i] t1])).get? b=some o:=λb o hbS e=>(Heap.get?_update_other _ _ (Ne.symm hbS)).trans e
   refine wpAny_pure ⟨plainId_quiet PySem.F.plain_max_loop _,ih (i+1) _ ns[i] t1 _ (by omega) hlt (hst'.1.at λo e=>o1 _ _ (Ne.symm hSI) e) (hst'.2.at λo e=>o1 _ _ (Ne.symm hSl) e) (Heap.get?_update_self _ hS' rfl) λh'' tk'' t'' hk''=>?_⟩;exact hR h'' tk'' t'' λb o hbI hbS e=>hk'' b o hbI hbS (o1 b o hbS (hk' b o (by simpa using hbI) e))
  ·have e:max m ns[i]=m:=by omega
   rw[e]at hR;simp only[show decide (ns[i]>m)=false from decide_eq_false hb,Bool.false_eq_true,if_false];refine wpAny_bind (wpAny_letGo ?_);rw[hname];refine wpAny_pure ⟨plainId_quiet PySem.F.plain_max_loop _,ih (i+1) _ m t c (by omega) hlt hst'.1 hst'.2 hS' λh'' tk'' t'' hk''=>?_⟩;exact hR h'' tk'' t'' λb o hbI hbS e=>hk'' b o hbI hbS (hk' b o (by simpa using hbI) e)
def maxD(ns:List Int)(d:Int):Int:=match ns with
 |[]=>d
 |n::r=>r.foldl max n
theorem ziq{s:Shared}{d:Int}{td:Tok}{Q:VS}(hh:A.handled=none)(hl:s.heap.IsList l its.toArray)(hi:IntsAre its ns)(h:∀h' tk t',(∀b o,s.heap.get? b=some o->h'.get? b=some o)->Q (.int (maxD ns d) t') {s with heap:=h',toks:=tk}):
  wpAny (model prog w) A (call (.builtin "max") [.ref l] [(Str.ofString "default",.int d td)]) Q E s:=by
 have hname:(toString "max"++toString ".loop":String)="max.loop":=by decide
 have hlen:its.toArray.size=ns.length:=by rw[List.size_toArray];exact hi.length
 obtain⟨ol,hol,_⟩:=id hl;have hll:l<s.heap.objs.size:=Heap.lt_size hol;refine PyProof.Rows.kmk_tree PySem.F.kind_max PySem.F.plain_max PySem.F.entry_max (zcG _ _) ?_;show wpAny _ A.in1 (Builtin.Builtins.bindParams "max" ["key","default"] 0 ⟨[],[(Str.ofString "default",.int d td)]⟩>>=_) _ _ s;refine wpAny_bind (wpAny_of_eq (show Builtin.Builtins.bindParams "max" ["key","default"] 0 ⟨[],[(Str.ofString "default",.int d td)]⟩=pure [none,some (.int d td)]from rfl) ?_);refine wpAny_bind (wpAny_pure ?_);refine wpAny_bind (wpAny_pyIter_list hl ?_);refine wpAny_bind (wpAny_newObj_type ?_);rw[hname];refine wpAny_pure ⟨plainId_quiet PySem.F.plain_max_loop _,?_⟩;have hz:(s.heap.push {cls:=.type "list_iterator",data:=.fields #[.ref l,.int 0 0]}).objs.size=s.heap.objs.size+1:=Heap.size_push ..;generalize hH:((s.heap.push {cls:=.type "list_iterator",data:=.fields #[.ref l,.int 0 0]}).push {cls:=.type "list",dict:=none,data:=.seq ([]:List Value).toArray})=H;have gI:H.IsListIter s.heap.objs.size l 0:=⟨_,by rw[←hH];exact Heap.get?_push_of_some _ (Heap.get?_push_size _ rfl),rfl,rfl⟩;have gS:H.get? (s.heap.push {cls:=.type "list_iterator",data:=.fields #[.ref l,.int 0 0]}).objs.size=some {cls:=.type "list",dict:=none,data:=.seq #[] 0,slots:=#[]}:=by rw[←hH];exact Heap.get?_push_size _ rfl
 rw[hz]at gS ⊢;have old:∀b o,s.heap.get? b=some o->H.get? b=some o:=λb o e=>by rw[←hH];exact Heap.get?_push_of_some _ (Heap.get?_push_of_some _ e)
 have gl:H.IsList l its.toArray:=hl.at λo e=>old _ _ e
 have hlI:l≠s.heap.objs.size:=Nat.ne_of_lt hll;have hSI:s.heap.objs.size+1≠s.heap.objs.size:=Nat.succ_ne_self _;have hSl:s.heap.objs.size+1≠l:=Nat.ne_of_gt (Nat.lt_succ_of_lt hll);have W:=Walks.list (prog:=prog) (w:=w) (A:=A.in1) hh s.heap.objs.size l hlI its.toArray;have kp:∀b o,s.heap.get? b=some o->b≠s.heap.objs.size/\b≠s.heap.objs.size+1:=λb o e=>⟨Nat.ne_of_lt (Heap.lt_size e),Nat.ne_of_lt (Nat.lt_succ_of_lt (Heap.lt_size e))⟩
 refine codeAny_builtin PySem.F.entry_max_loop ?_;rw[Around.under_plainId PySem.F.plain_max_loop _];show wpAny _ A.in1 (seqItems? (.ref (s.heap.objs.size+1))>>=_) _ _ _;refine wpAny_bind (wpAny_seqItems gS rfl ?_);show wpAny _ A.in1 (tryCatch (pyNext (.ref s.heap.objs.size)) _>>=_) _ _ _;cases ns with
 |nil=>
  have e0:its.toArray.size=0:=by simpa using hlen
  refine wpAny_bind (wpAny_tryCatch (W.done _ _ _ (by rw[e0];exact⟨gI,gl⟩) λh' tk hk'=>?_));refine wpAny_bind (wpAny_rule (wpAny_pure ?_));exact h h' tk td λb o e=>hk' b o (by simpa using(kp b o e).1) (old b o e)
 |cons n r=>
  refine wpAny_bind (wpAny_tryCatch (W.item 0 _ _ _ (by rw[hlen];simp) ⟨gI,gl⟩ λv h' tk hP hst' hk'=>?_));have hv:its[0]?=some v:=by simpa using hP
  obtain⟨t1,rfl⟩:∃t1,v=.int n t1:=by
   have rv:=zbT hi;obtain⟨u,e1,r1⟩:=rv.get (i:=0) (x:=.int n) (by simp);rw[hv]at e1;cases e1
   exact r1
  have hS':=hk' (s.heap.objs.size+1) _ (by simpa using hSI) gS;show wpAny _ A.in1 (updateSeq (s.heap.objs.size+1) (λ_=>#[.int n t1,.int n t1])>>=_) _ _ _;refine wpAny_bind ?_;refine wpAny_updateSeq hS' rfl ?_;rw[hname];have o1:∀b o,b≠s.heap.objs.size+1->h'.get? b=some o->(h'.update (s.heap.objs.size+1) (Obj.mapSeq λ_=>#[.int n t1,.int n t1])).get? b=some o:=λb o hbS e=>(Heap.get?_update_other _ _ (Ne.symm hbS)).trans e
  refine wpAny_pure ⟨plainId_quiet PySem.F.plain_max_loop _,zhY hh hi hlI hSI hSl _ 1 _ n t1 _ rfl (by simp) (hst'.1.at λo e=>o1 _ _ (Ne.symm hSI) e) (hst'.2.at λo e=>o1 _ _ (Ne.symm hSl) e) (Heap.get?_update_self _ hS' rfl) λh'' tk'' t'' hk''=>?_⟩;exact h h'' tk'' t'' λb o e=>hk'' b o (kp b o e).1 (kp b o e).2 (o1 b o (kp b o e).2 (hk' b o (by simpa using(kp b o e).1) (old b o e)))
end
section
variable{X:Cx}{a b e:Expr}{es:List Expr}{ta tb:TE}{pos p kpos:Pos}{t tk:TA}
def zmM(X:Cx)(f:Value)(ks:List Str)(r:List V->List V->Hp->VK->Prop):Prop:=
 ∀(pins:AO) (s:Shared) (σ:St) (H:Hp) (xs zs:List V) (us ws:List Value) (Q:VK),Inv X pins σ H s->zL xs us->zL zs ws->r xs zs H Q->
  wpAny (model X.prog X.w) X.A (call f us (ks.zip ws)) (EP X pins σ Q) X.xe s
def tCBK(r:List V->List V->Hp->VK->Prop)(t tk:TA):TE:=λσ H Q=>t σ H λvs H1=>tk σ H1 λzs H2=>r vs zs H2 Q
theorem zjm{id:String}{ks:List Str}{r:List V->List V->Hp->VK->Prop}{kws:List Keyword}(hc:zmM X (.builtin id) ks r)(hg:Gl X x)(hm:X.mg x=none)(hv:bootBuiltins x=some (.builtin id))(ha:PA X (e::es) t)(hk:PK X kws tk)(hks:(backToKw pos (keywordEach kws X.env)).filterMap (·.1)=ks:=by rfl)(hn:x≠"__name__":=by decide)(hdb:(x==("__debug__":Str))=false:=by decide)(he:backTo pos (starEach (e::es) X.env)=(false,eval e X.env)::backTo pos (starEach es X.env):=by rfl)(hplain:(backTo pos (starEach (e::es) X.env)).any (·.1)=false:=by rfl)(hall:(backToKw pos (keywordEach kws X.env)).all (·.1.isSome)=true:=by rfl)(hkw:(backToKw pos (keywordEach kws X.env)).any (·.1.isNone)=false:=by rfl):PE X (.Call (.Name x p) (e::es) kws pos) (tCBK r t tk):=by intro pins s σ H Q I h;refine wpAny_Call_Name_kw (zdj I hg hm hv ?_ hn hdb);refine callWith_kw (thn (ha pos pins s σ H _ I h) λus s1 ⟨vs,H1,I1,r1,q1⟩=>thn (hk pos pins s1 σ H1 _ I1 q1) λws s2 ⟨zs,H2,I2,r2,q2⟩=>?_) he hplain hall hkw;rw[hks];exact hc pins s2 σ H2 vs zs us ws Q I2 r1 r2 q2
theorem zkA(hc:X.calm=true):zmM X (.builtin "max") [Str.ofString "default"] (λxs zs H Q=>∃(p:Addr) (ns:List Int) (d:Int),xs=[.ref p]/\zs=[.int d]/\SqL X.K H p (ns.map V.int)/\Q (.int (maxD ns d)) H):=by
 intro pins s σ H xs zs us ws Q I r rz h;obtain⟨p,ns,d,rfl,rfl,hq,q⟩:=h;obtain⟨u,rfl,rx⟩:=yV r;obtain⟨v,rfl,td,rfl⟩:=yV rz;cases rx
 obtain⟨its,r',pl,_⟩:=I.list hq;exact ziq (I.ok.hd hc) pl.isList (zaI r') λh' tk t' hk=>⟨.int _,H,I.kept hk,⟨t',rfl⟩,q⟩
def rSlS:V->Option Int->Option Int->Hp->VK->Prop:=λx lo hi H Q=>∃z,x=.str z/\z.length<=sizeLine/\∀y:Str,y.length<=z.length->y=Txt.slice z lo hi->Q (.str y) H
theorem zow:SlR X rSlS:=by
 intro pins s σ H x v vl vu lo hi sl Q I rx hs pl pu h;obtain⟨z,rfl,hz,q⟩:=h;obtain⟨t,rfl⟩:=rx;refine⟨"str",_,PySem.F.slot_str_getitem.lookup,typeIs_str s z t,?_⟩;obtain⟨o,ho,hc,hd⟩:=hs;have fin:∀(lo hi:Option Int),(∀y:Str,y.length<=z.length->y=Txt.slice z lo hi->Q (.str y) H)->(Txt.slice z lo hi).length<=sizeLine/\∀t' k,EP X pins σ Q (.str (Txt.slice z lo hi) t') {s with toks:=k}:=λlo hi q=>
  ⟨Nat.le_trans (Txt.slice_le z lo hi) hz,λt' k=>⟨.str _,H,I.tok _,⟨_,rfl⟩,q _ (Txt.slice_le z lo hi) rfl⟩⟩
 cases pl with
 |none=>
  cases pu with
  |none=>exact wpAny_getItem_str_slice (l:=none) (u:=none) (st:=none) ⟨o,ho,hc,hd⟩ rfl (post_val_or_str (fin none none q))
  |int j uj=>exact wpAny_getItem_str_slice (l:=none) (u:=some (j,uj)) (st:=none) ⟨o,ho,hc,hd⟩ rfl (post_val_or_str (fin none (some j) q))
 |int i ui=>
  cases pu with
  |none=>exact wpAny_getItem_str_slice (l:=some (i,ui)) (u:=none) (st:=none) ⟨o,ho,hc,hd⟩ rfl (post_val_or_str (fin (some i) none q))
  |int j uj=>exact wpAny_getItem_str_slice (l:=some (i,ui)) (u:=some (j,uj)) (st:=none) ⟨o,ho,hc,hd⟩ rfl (post_val_or_str (fin (some i) (some j) q))
theorem zhJ{ys:List Str}:∀{us:List Value},zL (ys.map V.str) us->StrsAre us ys:=by
 induction ys with
 |nil=>intro us r;rw[List.map_nil]at r;cases r;exact .nil
 |cons n ns ih=>
  intro us r;rw[List.map_cons]at r;cases r with
  |cons r1 r2=>
   obtain⟨t,e⟩:=r1;subst e;exact .cons n t (ih r2)
theorem znz:MtR X "str.join" (λx xs H Q=>∃(sep:Str) (p:Addr) (ys:List Str),x=.str sep/\xs=[.ref p]/\SqL X.K H p (ys.map V.str)/\(ys.map (·.length)).sum+ys.length*sep.length<=16777216/\
  ∀y:Str,y=Txt.join sep ys->Q (.str y) H):=by
 intro pins s σ H x xs v us Q I rx rs h;obtain⟨sep,p,ys,rfl,rfl,hq,hz,q⟩:=h;obtain⟨t,rfl⟩:=rx;obtain⟨u,rfl,ru⟩:=yV rs;cases ru
 obtain⟨its,r',pl,_⟩:=I.list hq;exact join_list pl.isList (zhJ r') hz λt' k=>⟨.str _,H,I.tok _,⟨_,rfl⟩,q _ rfl⟩
end
section
variable{X:Cx}{e st:Expr}{te ts:TE}{pos p2:Pos}
theorem zhs{α β:Type}{f g:α->Option β}:∀{l:List α},(∀k∈l,f k=g k)->l.filterMap f=l.filterMap g
 |[],_=>rfl
 |a::l,h=>by rw[List.filterMap_cons,List.filterMap_cons,h a List.mem_cons_self,zhs λk hk=>h k (List.mem_cons_of_mem _ hk)]
theorem ziT(l:List Value):((List.range l.length).map λ(k:Nat)=>(((l.length:Int) - 1)+(-1)*(k:Int)).toNat).filterMap (λi=>l[i]?)=l.reverse:=by
 apply List.ext_getElem?;intro i;rw[List.filterMap_map];have e:((List.range l.length).filterMap ((λi=>l[i]?)∘λ(k:Nat)=>(((l.length:Int) - 1)+(-1)*(k:Int)).toNat))=(List.range l.length).filterMap λk=>l.reverse[k]?:=by
  refine zhs λk hk=>?_
  have hk':k<l.length:=List.mem_range.mp hk;show l[(((l.length:Int) - 1)+(-1)*(k:Int)).toNat]?=l.reverse[k]?;rw[List.getElem?_reverse hk']
  congr 1
  omega
 rw[e];have e2:∀r:List Value,(List.range r.length).filterMap (λk=>r[k]?)=r:=by
  intro r;induction r with
  |nil=>rfl
  |cons a r ih=>
   rw[List.length_cons,List.range_succ_eq_map,List.filterMap_cons];simp only[List.getElem?_cons_zero,List.filterMap_map]
   congr 1
 have e3:=e2 l.reverse;rw[List.length_reverse]at e3;rw[e3]
theorem zla(its:List Value):slicePick its.toArray none none (some (-1))=its.reverse.toArray:=by
 unfold slicePick;have h1:sliceBounds none none (some (-1)) its.toArray.size=((its.length:Int) - 1,-1,-1):=by simp[sliceBounds]
 rw[h1];unfold sliceRange;simp only[show¬((-1:Int)>0) by decide,if_false];have hc:(if(its.length:Int) - 1> -1 then((its.length:Int) - 1 - -1 - -1 - 1)/(- -1)else 0).toNat=its.length:=by
  have e1:(- -1:Int)=1:=by decide
  rw[e1,Int.ediv_one]
  split<;>omega
 rw[hc]
 have:=ziT its;simp only[List.getElem?_toArray];rw[this]
def rRev(K:Fg):V->Hp->VK->Prop:=λx H Q=>∃a xs,x=.ref a/\SqL K H a xs/\∀p,H p=none->Q (.ref p) (upd H p (.lst xs.reverse))
def tRev(K:Fg)(te ts:TE):TE:=λσ H Q=>te σ H λx H1=>ts σ H1 λy H2=>y=.int (-1)/\rRev K x H2 Q
theorem zoR(he:PE X e te)(hs:PE X st ts):PE X (.Subscript e (.Slice none none (some st) p2) pos) (tRev X.K te ts):=by
 intro pins s σ H Q I h;refine Subscript_ (thn (he pins s σ H _ I h) λv s1 ⟨x,H1,I1,r1,q1⟩=>?_);refine wpAny_Slice ?_;rw[evalPart_none,evalPart_some];refine wpAny_pure (wpAny_pure (thn (hs pins s1 σ H1 _ I1 q1) λvs s3 ⟨y,H3,I3,r3,ey,q3⟩=>?_));subst ey;obtain⟨t,rfl⟩:=r3;have I4:Inv X pins σ H3 {s3 with heap:=s3.heap.push {cls:=.type "slice",data:=.fields #[.none,.none,.int (-1) t]}}:=I3.kept (t':=s3.toks) λb ob q=>Heap.get?_push_of_some _ q
 obtain⟨a,xs,rfl,hx,q⟩:=q3;cases r1
 obtain⟨its,r,ht,hz⟩:=I4.list hx;have hlen:=r.length;show wpAny (model X.prog X.w) X.A (subscriptTail e (.Slice none none (some st) p2) (.ref a) (.ref s3.heap.objs.size)) (EP X pins σ Q) X.xe {s3 with heap:=s3.heap.push {cls:=.type "slice",data:=.fields #[.none,.none,.int (-1) t]}};refine tail_any (ops:=[.ref a,.ref s3.heap.objs.size]) ht.isList.typeIs slot_list_getitem.lookup ?_ (by with_unfolding_all rfl);refine wpAny_getItem_list_slice ht.isList (Heap.IsSliceOf.new ..) .none .none (.int (-1) t) (by simp) ?_ (by rw[List.size_toArray]<;>omega);rw[zla];exact⟨.ref _,_,I4.lnew (t':=s3.toks) r.reverse (by rw[List.length_reverse];exact hz),rfl,q _ I4.fresh⟩
end
end L2
namespace HT
section
open PySem.SeqAt
open PySem.AutoSeq1 (wpAny_loadPart')
open PySem.MeetsSeq PySem.MeetsSeq2 PySem.MeetsSeq3
theorem zkW(A:Around)(s:Shared)(a:Int)(t:Tok)(c:Int)(u:Tok)(prog:Program)(w:World)(E:VS)(Q:VS)(h:Q (.bool (decide (c<=a))) s):
  wpAny (model prog w) A (richCompare .GtE (.int a t) (.int c u)) Q E s:=
 (PyProof.Rows.ge_int h:wpAny (model prog w) A (compareOp .GtE (.int a t) (.int c u)) Q E s)
theorem zef(l b:Addr)(items items2:Array Value)(n n2:Nat)(dd dd2:Option Addr)(sl sl2:Array (Option Value))(ns ms:List Int)(hi:IntsAre items.toList ns)(hj:IntsAre items2.toList ms):
  Meets (Builtin.«tuple.__ge__» ⟨[.ref l,.ref b],[]⟩)
   (λ_ R s=>s.heap.get? l=some {cls:=.type "tuple",dict:=dd,data:=.seq items n,slots:=sl}/\s.heap.get? b=some {cls:=.type "tuple",dict:=dd2,data:=.seq items2 n2,slots:=sl2}/\
    R (.ok (.ret (.bool (!lexLt ns ms)))) s):=
 .of_wp λprog w A R s h=>by
  obtain⟨hp,g,d,tk,os⟩:=s;obtain⟨hl,hb,h⟩:=h;have f2:=AutoSeq1.sub_tuple_tuple;have z1:items.size=ns.length:=by rw[←hi.length];simp
  have z2:items2.size=ms.length:=by rw[←hj.length];simp
  wp_walk using wpAny_loadPart' hl,wpAny_loadPart' hb,wpAny_forIn_list _ (λrest b s'=>b.1=none/\s'=⟨hp,g,d,tk,os⟩/\∃(vs ws:List Value) (ns' ms':List Int),rest=vs.zip ws/\
   IntsAre vs ns'/\IntsAre ws ms'/\ns'.length+items2.size=ms'.length+items.size/\R (.ok (.ret (.bool (!lexLt ns' ms')))) ⟨hp,g,d,tk,os⟩) _
  case turn=>
   rintro⟨y,x⟩ rest b s' ⟨hb',rfl,vs,ws,ns',ms',hz,hvi,hwi,hlen,hR⟩;cases hvi with
   |nil=>rw[List.zip_nil_left]at hz;cases hz
   |cons a t hvi'=>
    cases hwi with
    |nil=>rw[List.zip_nil_right]at hz;cases hz
    |cons c u hwi'=>
     rw[List.zip_cons_cons]at hz;injection hz with hyx hrest;injection hyx with hy hx;subst hy hx;rw[zic]at hR;simp only[List.length_cons]at hlen;obtain⟨e,he,hiff⟩:=zlM A.in1 ⟨hp,g,d,tk,os⟩ a t c u;refine wpAny_bind (he prog w _ _ ?_);cases e with
     |true=>
      rw[if_pos (hiff.mp rfl)]at hR
      wp_walk
      exact⟨rfl,rfl,_,_,_,_,hrest,hvi',hwi',by omega,hR⟩
     |false=>
      rw[if_neg λq=>absurd (hiff.mpr q) Bool.false_ne_true]at hR;have hri:=zkW A.in1 ⟨hp,g,d,tk,os⟩ a t c u prog w;have e2:(!decide (a<c))=decide (c<=a):=by
       by_cases q:a<c
       ·rw[decide_eq_true q,decide_eq_false (by omega)];rfl
       ·rw[decide_eq_false q,decide_eq_true (by omega)];rfl
      rw[e2]at hR
      wp_walk using hri
      exact⟨_,rfl,by simpa using hR⟩
  case fin=>
   rintro⟨b1,b2⟩ s' ⟨hb',rfl,vs,ws,ns',ms',hz,hvi,hwi,hlen,hR⟩;simp only at hb';subst hb';have hv:lexLt ns' ms'=decide (items.size<items2.size):=by
    cases hvi with
    |nil=>
     cases hwi with
     |nil=>
      simp only[List.length_nil]at hlen;rw[zeC];exact(decide_eq_false (by omega)).symm
     |cons c u hw=>
      simp only[List.length_nil,List.length_cons]at hlen;rw[zdF];exact(decide_eq_true (by omega)).symm
    |cons a t hv=>
     cases hwi with
     |nil=>
      simp only[List.length_nil,List.length_cons]at hlen;rw[zdG];exact(decide_eq_false (by omega)).symm
     |cons c u hw=>
      rw[List.zip_cons_cons]at hz;cases hz
   have e2:(!decide (items.size<items2.size))=decide (items.size≥items2.size):=by
    by_cases q:items.size<items2.size
    ·rw[decide_eq_true q,decide_eq_false (by omega)];rfl
    ·rw[decide_eq_false q,decide_eq_true (by omega)];rfl
   rw[hv,e2]at hR
   wp_walk
   exact⟨_,rfl,by simpa[Builtin.Tuple.tupleCompareSizes]using hR⟩
  case h=>
   exact⟨rfl,rfl,items.toList,items2.toList,ns,ms,rfl,hi,hj,by omega,h⟩
end
variable{l it:Addr}{items:Array Value}{Q:VS}{i:Nat}
section
variable{prog:Program}{w:World}{A:Around}{E:VS}{s:Shared}
theorem ge_tupInts{b:Addr}{items2:Array Value}{ns ms:List Int}(hl:IsTup s.heap l items)(hb:IsTup s.heap b items2)(hi:IntsAre items.toList ns)(hj:IntsAre items2.toList ms)(hu:A.units<cLine)(h:Q (.bool (!lexLt ns ms)) s):wpAny (model prog w) A (compareOp .GtE (.ref l) (.ref b)) Q E s:=by
 obtain⟨⟨cls,dd,data,sl⟩,ho,hc,n,hd⟩:=id hl;obtain⟨⟨cls2,dd2,data2,sl2⟩,ho2,hc2,n2,hd2⟩:=id hb;simp only at hc hd hc2 hd2;subst hc hd hc2 hd2;exact richCompare_meets_room (op:=.GtE) ⟨_,ho,rfl⟩ ⟨_,ho2,rfl⟩ PySem.F.slot_tuple_ge PySem.F.entry_tuple_ge (PySem.F.args_tuple_ge_2 _ _) (zef l b items items2 n n2 dd dd2 sl sl2 ns ms hi hj)
  ⟨ho,ho2,show Value.bool (!lexLt ns ms)≠Value.notImplemented/\Q (.bool (!lexLt ns ms)) s from⟨(λx=>nomatch x),h⟩⟩ hu
theorem zcn{items}{x:Value}(hit:s.heap.IsTupleIter it l i)(hl:s.heap.IsTuple l items)(hx:items[i]?=some x)(hQ:∀h',h'.IsTupleIter it l (i+1)->Heap.SameBut it s.heap h'->Q x {s with heap:=h'}):
  wpAny (model prog w) A (Builtin.SmallTypes.nextOf (.ref it)) Q E s:=by
 obtain⟨o,ho,hc,hd⟩:=id hit;obtain⟨ol,hol,_,nl,hdl⟩:=hl;unfold Builtin.SmallTypes.nextOf;refine wpAny_bind (wpAny_callSpecial?_slot (name:=Str.ofString "__next__") hit.typeIs PySem.F.slot_tuple_iterator_next
  (wpAny_call_entry PySem.F.slot_tuple_iterator_next hit.typeIs PySem.F.entry_tuple_iterator_next ?_ (PySem.F.args_tuple_iterator_next_1 _)))
 show wpAny _ _ (field (.ref it) 0>>=_) _ _ s;refine wpAny_bind (wpAny_field ho hd (x:=.ref l) rfl ?_);show wpAny _ _ (if(Value.ref l==Value.none)=true then _ else _) _ _ s;rw[if_neg (show¬((Value.ref l==Value.none)=true)from Bool.false_ne_true)];show wpAny _ _ (field (.ref it) 1>>=_) _ _ s;refine wpAny_bind (wpAny_field ho hd (x:=.int i 0) rfl ?_);show wpAny _ _ (seqItems? (.ref l)>>=_) _ _ s;refine wpAny_bind (wpAny_seqItems hol hdl ?_);simp only[Int.toNat_natCast,hx];refine wpAny_bind (wpAny_setField ho hd (by simp) (wpAny_pure ⟨x,rfl,wpAny_pure (hQ _ ?_ (Heap.SameBut.update ..))⟩));exact⟨_,Heap.get?_update_self _ ho (Obj.isFreed_of_fields (Obj.data_mapFields hd _)),(Obj.cls_mapFields ..).trans hc,by rw[Obj.data_mapFields hd];simp[rawInt]⟩
theorem zcE{items}(hh:A.handled=none)(hit:s.heap.IsTupleIter it l i)(hl:s.heap.IsTuple l items)(hx:items[i]?=none)(hE:∀h' e,Heap.ExtBut it s.heap h'->(∃o,h'.get? e=some o/\o.cls=.type "StopIteration")->E (.ref e) {s with heap:=h'}):
  wpAny (model prog w) A (Builtin.SmallTypes.nextOf (.ref it)) Q E s:=by
 obtain⟨o,ho,hc,hd⟩:=id hit;obtain⟨ol,hol,_,nl,hdl⟩:=hl;unfold Builtin.SmallTypes.nextOf;refine wpAny_bind (wpAny_callSpecial?_slot (name:=Str.ofString "__next__") hit.typeIs PySem.F.slot_tuple_iterator_next
  (wpAny_call_entry PySem.F.slot_tuple_iterator_next hit.typeIs PySem.F.entry_tuple_iterator_next ?_ (PySem.F.args_tuple_iterator_next_1 _)))
 show wpAny _ _ (field (.ref it) 0>>=_) _ _ s;refine wpAny_bind (wpAny_field ho hd (x:=.ref l) rfl ?_);show wpAny _ _ (if(Value.ref l==Value.none)=true then _ else _) _ _ s;rw[if_neg (show¬((Value.ref l==Value.none)=true)from Bool.false_ne_true)];show wpAny _ _ (field (.ref it) 1>>=_) _ _ s;refine wpAny_bind (wpAny_field ho hd (x:=.int i 0) rfl ?_);show wpAny _ _ (seqItems? (.ref l)>>=_) _ _ s;refine wpAny_bind (wpAny_seqItems hol hdl ?_);simp only[Int.toNat_natCast,hx];refine wpAny_bind (wpAny_rule (wpAny_bind (wpAny_setField ho hd (by simp) ?_)));show wpAny _ _ (newExc (.type "StopIteration") []>>=_) _ _ _;refine wpAny_bind ?_;simp only[newExc,newTuple];refine wpAny_bind (wpAny_newObj_type ?_ (by size_fits));refine wpAny_bind (m:=firstArgMember _ _) (wpAny_of_eq (a:=Value.none) (by first|rfl|(simp only[firstArgMember];rfl)) ?_);refine wpAny_newObj_type ?_ (by size_fits);simp only[raiseNew];refine wpAny_bind (wpAny_handled ?_)
 first|rw[show A.in1.handled=none from hh]|rw[hh]
 refine wpAny_bind (wpAny_pure (wpAny_throw ?_));exact hE _ _ (((Heap.SameBut.update ..).extBut.push _).push _) ⟨_,Heap.get?_push_size _ rfl,rfl⟩
end
theorem drawsT{prog:Program}{w:World}{A:Around}(hh:A.handled=none)(it l:Addr)(hne:l≠it)(items:Array Value):
  Draws prog w A it [it,l] items.size (λi v=>items[i]?=some v) (λi h=>h.IsTupleIter it l i/\h.IsTuple l items)where
 live:=λ_ _ st=>let⟨o,ho,_⟩:=st.1;⟨o,ho⟩
 frame:=λ_ _ _ st hk=>⟨st.1.at λo e=>hk it (by simp) o e,let⟨o,ho,r⟩:=st.2;⟨o,hk l (by simp) o ho,r⟩⟩
 item:=λi s Q E hi st hQ=>by
  refine zcn st.1 st.2 (x:=items[i]) (by simp[hi]) λh' hit' hs'=>?_
  exact hQ _ h' s.toks (by simp[hi]) ⟨hit',let⟨o,ho,r⟩:=st.2;⟨o,hs'.extBut _ _ hne ho,r⟩⟩ hs'
 done:=λs Q E st hE=>zcE hh st.1 st.2 (by simp) hE
theorem zdH(l:Addr)(items:Array Value)(n:Nat)(dct:Option Addr)(sl:Array (Option Value)):
  Meets (Builtin.«enumerate.__new__» ⟨[.type "enumerate",.ref l],[]⟩) (λ_ R s=>s.heap.get? l=some {cls:=.type "tuple",dict:=dct,data:=.seq items n,slots:=sl}/\
   R (.ok (.ret (.ref (s.heap.push {cls:=.type "tuple_iterator",data:=.fields #[.ref l,.int 0 0]}).objs.size)))
    {s with heap:=(s.heap.push {cls:=.type "tuple_iterator",data:=.fields #[.ref l,.int 0 0]}).push {cls:=.type "enumerate",data:=.fields #[.none,.bool false,.ref s.heap.objs.size,rawInt 0,.none,.none]}}):=
 .of_wp λprog w A R s h=>by
  obtain⟨hp,g,d,tk,os⟩:=s;obtain⟨hl,h⟩:=h;have hsub:=sub_enumerate;have hL:Heap.IsTuple (Shared.heap ⟨hp,g,d,tk,os⟩) l items:=⟨_,hl,rfl,n,rfl⟩
  wp_walk using AutoSeq1.wpAny_loadPart' hl
  refine wpAny_stack_any λst=>wpAny_pure ?_
  split
  ·rename_i c _ _ _ _ _;cases(c==Value.type "enumerate")
   ·wp_walk using AutoSeq1.wpAny_loadPart' hl,wpAny_pyIter_tuple hL
    exact⟨_,rfl,h⟩
   ·wp_walk using AutoSeq1.wpAny_loadPart' hl,wpAny_pyIter_tuple hL
    exact⟨_,rfl,h⟩
  ·wp_walk using AutoSeq1.wpAny_loadPart' hl,wpAny_pyIter_tuple hL
   exact⟨_,rfl,h⟩
section
variable{prog:Program}{w:World}{A:Around}{E:VS}{s:Shared}
theorem call_enumerate_tuple(hL:s.heap.IsTuple l items)(h:∀h',IsEnum h' (s.heap.objs.size+1) s.heap.objs.size 0 .none->h'.IsTupleIter s.heap.objs.size l 0->h'.objs.size=s.heap.objs.size+2->
   (∀b o,s.heap.get? b=some o->h'.get? b=some o)->Q (.ref (s.heap.objs.size+1)) {s with heap:=h'}):
  wpAny (model prog w) A (call (.type "enumerate") [.ref l]) Q E s:=by
 obtain⟨⟨c,dct,dt,sl⟩,hl,hc,n,hd⟩:=hL
 replace hc:c=.type "tuple":=hc
 replace hd:dt=.seq items n:=hd
 subst hc hd;refine callType_new PySem.F.called_enumerate (by decide) (PySem.F.typeCall_enumerate_1 _) (PySem.F.newCall_enumerate_1 _) (λobj=>PySem.F.args_object_init_2 obj _) PySem.F.entry_enumerate_new
  (zdH l items n dct sl) ⟨hl,?_⟩
 have hz:(s.heap.push {cls:=.type "tuple_iterator",data:=.fields #[.ref l,.int 0 0]}).objs.size=s.heap.objs.size+1:=Heap.size_push ..;show _/\_;rw[hz];have he:IsEnum ((s.heap.push {cls:=.type "tuple_iterator",data:=.fields #[.ref l,.int 0 0]}).push
   {cls:=.type "enumerate",data:=.fields #[.none,.bool false,.ref s.heap.objs.size,rawInt 0,.none,.none]}) (s.heap.objs.size+1) s.heap.objs.size 0 .none:=by
  have:=Heap.get?_push_size (s.heap.push {cls:=.type "tuple_iterator",data:=.fields #[.ref l,.int 0 0]})
   (o:={cls:=.type "enumerate",data:=.fields #[.none,.bool false,.ref s.heap.objs.size,rawInt 0,.none,.none]}) rfl
  rw[hz]at this;exact this
 refine⟨⟨_,he,rfl⟩,h _ he ⟨_,Heap.get?_push_of_some _ (Heap.get?_push_size _ rfl),rfl,rfl⟩ (by rw[Heap.size_push,hz]) λb o x=>Heap.get?_push_of_some _ (Heap.get?_push_of_some _ x)⟩
end
end HT
namespace L2
variable{elts:List Expr}{k:Nat}{tpos:Pos}
section
variable{X:Cx}
def rGeT(K:Fg):R2:=λx y H Q=>∃a b ns ms,x=.ref a/\y=.ref b/\SqT K H a (ns.map V.int)/\SqT K H b (ms.map V.int)/\Q (.bl (!HT.lexLt ns ms)) H
theorem zpg(hu:X.A.units<cLine):OpR X (compareOp .GtE) (rGeT X.K):=by
 intro pins s σ H x y v u Q I rx ry h;obtain⟨a,b,ns,ms,rfl,rfl,ha,hb,q⟩:=h;cases rx
 cases ry
 obtain⟨its,r1,p1,_⟩:=I.tuple ha;obtain⟨its2,r2,p2,_⟩:=I.tuple hb;have i1:IntsAre its.toArray.toList ns:=zaI r1;have i2:IntsAre its2.toArray.toList ms:=zaI r2;exact HT.ge_tupInts p1 p2 i1 i2 hu ⟨.bl (!HT.lexLt ns ms),H,I,rfl,q⟩
def Ite(K:Fg)(a:Addr):It:=
 ⟨λi H=>∃xs x,SqT K H a xs/\xs[i]?=some x,λi H x H'=>∃p v,H p=none/\x=.ref p/\H'=upd H p (.tup [.int i,v])/\∀xs,SqT K H a xs->xs[i]?=some v,λi H=>∃xs,SqT K H a xs/\xs.length=i⟩
theorem zlN{X:Cx}{pins:AO}{σ:St}{H:Hp}{s:Shared}{h2:Heap}{i tk:Nat}{x:V}{x':Value}{e it:Addr}(I:Inv X pins σ H s)(fe:jT X pins H e)(fi:jT X pins H it)(ru:zQ x x')(hTn:h2.get? s.heap.objs.size=some {cls:=.type "tuple",data:=.seq #[.int i tk,x']})(kk:∀b o,b≠e->b≠it->s.heap.get? b=some o->h2.get? b=some o):Inv X pins σ (upd H s.heap.objs.size (.tup [.int i,x])) {s with heap:=h2,toks:=tk+1}:=by
 have fr:H s.heap.objs.size=none:=I.fresh;have nE:∀b u,H b=some u->b≠e:=λb u q z=>by rw[z,fe.1]at q;cases q
 have nI:∀b u,H b=some u->b≠it:=λb u q z=>by rw[z,fi.1]at q;cases q
 have hok0:HOk X.prog X.w H h2:=λb u q=>by
  refine(I.hok b u q).stay (λc v hc q'=>kk c v ?_ ?_ q') (λ_ z=>z) λ_ _ z=>z
  ·rcases hc with z|z
   ·rw[z];exact nE b u q
   ·exact nE c _ z
  ·rcases hc with z|z
   ·rw[z];exact nI b u q
   ·exact nI c _ z
 have new:qZ X.prog X.w (upd H s.heap.objs.size (.tup [.int i,x])) h2 s.heap.objs.size (.tup [.int i,x]):=
  ⟨by show 2<=sizeLine;rw[sizeLine_eq];decide,[.int i tk,x'],.cons ⟨_,rfl⟩ (.cons ru .nil),⟨_,hTn,rfl,_,rfl⟩⟩
 have hok1:HOk X.prog X.w (upd H s.heap.objs.size (.tup [.int i,x])) h2:=λb u q=>by
  by_cases hb:b=s.heap.objs.size
  ·subst hb;rw[qF]at q;cases q;exact new
  ·rw[zV hb]at q;exact(hok0 b u q).stay (λ_ _ _ z=>z) (λc z=>by rw[zV (qK z fr)];exact z) λc xs z=>by rw[zV (qK z fr)];exact z
 refine I.step (g':=s.gens) (d':=s.drawn) (ch:=[e,it]) (λb hb=>?_) (λb o _ _ hcc q _=>kk b o (λz=>hcc (by simp[z])) (λz=>hcc (by simp[z])) q) (λb o _ _ hcc q _=>⟨o.slots,kk b o (λz=>hcc (by simp[z])) (λz=>hcc (by simp[z])) q⟩)
  (λb o _ q n=>by rw[zV (Nat.ne_of_lt (Heap.lt_size q))];exact n) (λb o hcc q=>⟨o,kk b o (λz=>hcc (by simp[z])) (λz=>hcc (by simp[z])) q⟩) (λb xs q=>by rw[zV (qK q fr)];exact q) (λb o xs q=>by rw[zV (qK q fr)];exact q)
  (λb ps q=>⟨#[],by rw[zV (qK q fr),q];simp⟩) (λm hm=>?_) hok1 I.bare
 ·rcases List.mem_cons.mp hb with rfl|hb
  ·exact⟨fe.2.2.2.1,fe.2.1,fe.2.2.2.2.1,fe.2.2.2.2.2⟩
  ·rw[List.mem_singleton.mp hb];exact⟨fi.2.2.2.1,fi.2.1,fi.2.2.2.2.1,fi.2.2.2.2.2⟩
 ·obtain⟨o,es,ep,ho',r⟩:=hm;exact⟨o,es,ep,kk _ o (Ne.symm fe.2.1) (Ne.symm fi.2.1) ho',r⟩
theorem zhH{P:Program}{w:World}{K:Fg}(a e it:Addr)(hei:e≠it):Turn P w K (.Tuple elts k tpos) (Ite K a) [e,it] e (λi h=>(∃old,IsEnum h e it i old)/\h.IsTupleIter it a i)where
 mem:=by simp
 obj:=λi h st b hb=>by
  obtain⟨⟨old,he⟩,o,e2,c,d⟩:=st;rcases List.mem_cons.mp hb with rfl|hb
  ·exact⟨_,he,λv z=>by cases(show Data.fields _=Data.cell v from z)⟩
  ·rw[List.mem_singleton.mp hb];exact⟨o,e2,λv z=>by rw[d]at z;cases z⟩
 keep:=λi h h' st k=>⟨let⟨old,he⟩:=st.1;⟨old,k e (by simp) _ he⟩,st.2.at λo e=>k it (by simp) o e⟩
 item:=by
  intro X hP hw hK hc i pins s σ H E I hf st hg;subst hP hw hK;obtain⟨xs,x,hq,hx⟩:=hg;obtain⟨its,rv,p,hz⟩:=I.tuple hq;obtain⟨u,hu,ru⟩:=rv.get hx;obtain⟨⟨old,he⟩,hit⟩:=st;have fe:=hf e (by simp);have fi:=hf it (by simp);have hai:a≠it:=by
   rintro rfl;obtain⟨o,e1,c1,_⟩:=id hit;obtain⟨o',e2,c2,_⟩:=id p;rw[e1]at e2;cases e2;rw[c1]at c2
   exact absurd c2 (by decide)
  have hae:a≠e:=by
   rintro rfl;obtain⟨o',e2,c2,_⟩:=id p;rw[he]at e2;cases e2
   exact absurd (show Value.type "enumerate"=Value.type "tuple"from c2) (by decide)
  have hilt:i<its.toArray.size:=by have:=(List.getElem?_eq_some_iff.mp hu).1;simpa using this
  refine wpAny_pyNext_enum_itemD (HT.drawsT (A:=X.A.in1) (I.ok.hd hc) it a hai its.toArray) he ⟨hit,p⟩ hilt hei (by simp[hei,Ne.symm hae]) λx' h' tk hP ho hs' hT hsz hk=>?_
  have ex:x'=u:=by
   have:its[i]?=some x':=by simpa using hP
   rw[hu]at this;exact(Option.some.inj this).symm
  subst ex;refine⟨_,rfl,?_⟩;refine wpAny_letOwnedTupleGo_enum ho λh2 he2 hs2=>?_
  have hTe:s.heap.objs.size≠e:=Nat.ne_of_gt (Heap.lt_size he);have hTn:h2.get? s.heap.objs.size=some {cls:=.type "tuple",data:=.seq #[.int i tk,x']}:=(hs2.2 _ hTe).trans hT;have kk:∀b o,b≠e->b≠it->s.heap.get? b=some o->h2.get? b=some o:=λb o h1 h3 e=>(hs2.2 b h1).trans (hk b o h1 h3 e)
  have hit2:h2.IsTupleIter it a (i+1):=hs'.1.at λo e=>(hs2.2 it (Ne.symm hei)).trans e
  have fr:H s.heap.objs.size=none:=I.fresh;have I1:=zlN (i:=i) I fe fi ru hTn kk;refine⟨.ref s.heap.objs.size,_,I1,rfl,⟨s.heap.objs.size,x,fr,rfl,rfl,λys hy=>by rw[I.tuple_inj hy hq];exact hx⟩,⟨⟨x',by simpa using he2⟩,hit2⟩,λb hb=>?_⟩;have hbl:b≠s.heap.objs.size:=by
   rcases List.mem_cons.mp hb with rfl|hb
   ·exact Ne.symm hTe
   ·rw[List.mem_singleton.mp hb];obtain⟨o,e1,_⟩:=hit;exact Nat.ne_of_lt (Heap.lt_size e1)
  rw[zV hbl];exact(hf b hb).1
 done:=by
  intro X hP hw hK hc i pins s σ H E I hf st hg;subst hP hw hK;obtain⟨xs,hq,hx⟩:=hg;obtain⟨its,rv,p,hz⟩:=I.tuple hq;obtain⟨⟨old,he⟩,hit⟩:=st;have fi:=hf it (by simp);have hai:a≠it:=by
   rintro rfl;obtain⟨o,e1,c1,_⟩:=id hit;obtain⟨o',e2,c2,_⟩:=id p;rw[e1]at e2;cases e2;rw[c1]at c2
   exact absurd c2 (by decide)
  have hn:its.toArray.size=i:=by rw[List.size_toArray,←rv.length];exact hx
  refine wpAny_pyNext_enum_endD (HT.drawsT (A:=X.A.in1) (I.ok.hd hc) it a hai its.toArray) he (by rw[hn];exact⟨hit,p⟩) λh' hx'=>⟨rfl,?_⟩
  obtain⟨f0,f1,f2,f3,f4,f5⟩:=fi;exact I.turned (t':=s.toks) (λb o hb e=>hx' b o hb e) f0 f1 f3 f4 f5
 self:=λA i s Q E st h=>by obtain⟨⟨old,he⟩,_⟩:=st;exact wpAny_pyIter_enum he h
noncomputable def zpE(K:Fg)(ta:TA):TI:=λσ H R=>ta σ H λvs H1=>∃a xs,vs=[.ref a]/\SqT K H1 a xs/\R (Ite K a) H1
theorem zlc{p pos:Pos}{a:Expr}{ta:TA}(hg:Gl X "enumerate")(hm:X.mg "enumerate"=none)(ha:PA X [a] ta)(hs:starEach [a] X.env=[(false,eval a X.env)]:=by rfl):PI X (.Tuple elts k tpos) (.Call (.Name "enumerate" p) [a] [] pos) (zpE X.K ta):=by
 intro pins s σ H R I h;refine Call_ (zdj I hg hm boot_enumerate (PyProof.Rows.callWith_type1 (thn (ha pos pins s σ H _ I h) λus s1 ⟨vs,H1,I1,r1,q1⟩=>?_) hs rfl));obtain⟨a,xs,e,hq,q⟩:=q1;subst e;obtain⟨u,rfl,ru⟩:=yV r1;cases ru
 obtain⟨its,rv,p,hz⟩:=I1.tuple hq;refine HT.call_enumerate_tuple p λh' he hit hsz hk=>?_
 have I2:Inv X pins σ H1 {s1 with heap:=h'}:=I1.kept (t':=s1.toks) hk;refine wpAny_pyIter_enum he ?_;refine⟨s1.heap.objs.size+1,[s1.heap.objs.size+1,s1.heap.objs.size],_,_,H1,rfl,I2,zhH a (s1.heap.objs.size+1) s1.heap.objs.size (Nat.succ_ne_self _),⟨⟨_,he⟩,hit⟩,λb hb=>?_,q⟩;rcases List.mem_cons.mp hb with rfl|hb
 ·exact I1.fpOk (Nat.le_succ _) (I1.hok.fresh (Nat.le_succ _))
 ·rw[List.mem_singleton.mp hb];exact I1.fpOk (Nat.le_refl _) (I1.hok.fresh (Nat.le_refl _))
end
section
variable{X:Cx}(K:Fg)
end
end L2
namespace FX
structure Chg(fs ex:List Addr)(h h':Heap):Prop where
 keep:∀b o,h.get? b=some o->b∉fs->b∉ex->h'.get? b=some o
 slot:∀b o,h.get? b=some o->b∈fs->b∉ex->∃sl,h'.get? b=some {o with slots:=sl}
 there:∀b o,h.get? b=some o->∃o',h'.get? b=some o'
variable{h:Heap}
theorem Chg.trans{fs ex ex':List Addr}{h1 h2:Heap}(a:Chg fs ex h h1)(b:Chg fs ex' h1 h2):Chg fs (ex++ex') h h2 where
 keep:=λc o e n x=>by rw[List.mem_append,not_or]at x;exact b.keep c o (a.keep c o e n x.1) n x.2
 slot:=λc o e n x=>by rw[List.mem_append,not_or]at x;obtain⟨sl,e1⟩:=a.slot c o e n x.1;obtain⟨sl2,e2⟩:=b.slot c _ e1 n x.2;exact⟨sl2,e2⟩
 there:=λc o e=>let⟨o1,e1⟩:=a.there c o e;b.there c o1 e1
def Fly(h:Heap)(e:Addr)(cls:Value)(d:Option Addr)(tb:Option Addr)(fl:Value):Prop:=
 ∃oe vs,h.get? e=some oe/\oe.cls=cls/\oe.dict=d/\oe.data=.fields vs/\1<vs.size/\match tb with
  |none=>vs[1]?=some .none
  |some T=>vs[1]?=some (.ref T)/\T≠e/\∃oT ts,h.get? T=some oT/\oT.data=.fields ts/\ts[3]?=some fl
theorem zlY(o:Obj)(f:Array Value->Array Value):(o.mapFields f).dict=o.dict:=by obtain⟨c,d,dt,sl⟩:=o;cases dt<;>rfl
variable{e:Addr}{cls:Value}{tb:Option Addr}
theorem Fly.there{d:Option Addr}{fl:Value}(x:Fly h e cls d tb fl):∃o,h.get? e=some o/\o.cls=cls/\o.dict=d:=by obtain⟨oe,vs,h1,h2,h3,_⟩:=x;exact⟨oe,h1,h2,h3⟩
abbrev exOf(e:Addr):Option Addr->List Addr
 |none=>[e]
 |some T=>[e,T]
variable{env:Env}{Q:Unit->Shared->Prop}
section
variable{M:Model}{A:Around}{E:VS}{s:Shared}
theorem zfE{base:Heap}{outer:List Env}{L:Addr}{oe:Obj}{vs:Array Value}{head:Value}{hadNext:Bool}(hfr:A.frames=some (env::outer))(hl:s.heap.FunFrames base (env::outer))(hf:env.frame=some L)(he:s.heap.get? e=some oe)(hd:oe.data=.fields vs)(hz:1<vs.size)(q:∀h' T,Chg ((env::outer).filterMap (·.frame)) [e] s.heap h'->Fly h' e oe.cls oe.dict (some T) (rawInt L)->s.heap.objs.size<=T->Q () {s with heap:=h'}):
  wpAny M A (do let a ←frameOf env;let pl ←entryPlaceOf L hadNext;let b ←EntryCells.newEntry head a .none (rawInt L) .none pl;setField (.ref e) 1 b) Q E s:=by
 have ne:e∉(env::outer).filterMap (·.frame):=λhm=>by obtain⟨_,o,ho,hn⟩:=hl.mem hm;rw[he]at ho;cases ho;exact hn vs hd
 refine wpAny_bind (wpAny_frameOf_fun hfr hl hf λh1 x1=>?_);refine wpAny_bind (wpAny_entryPlaceOf λpl hp=>?_);unfold EntryCells.newEntry newFields;refine wpAny_bind (wpAny_newObj_type ?_ (hp.sizeOk5 _ _ _ _ _));have e1:h1.get? e=some oe:=(x1.2.1 e ne).trans he;generalize hts:([head,.ref L,.none,rawInt L,.none]++(if pl.isEmpty then List.replicate 6 Value.none else pl)).toArray=ts;have t3:ts[3]?=some (rawInt L):=by rw[←hts];rfl
 have e2:=Heap.get?_push_of_some (h:=h1) {cls:=.type "traceback",dict:=none,data:=.fields ts} e1;refine wpAny_setField e2 hd hz (q _ h1.objs.size ?_ ?_ (by rw[x1.1];exact Nat.le_refl _))
 ·have kp:∀b o,b≠e->h1.get? b=some o->((h1.push {cls:=.type "traceback",dict:=none,data:=.fields ts}).update e (Obj.mapFields (·.setIfInBounds 1 (Value.ref h1.objs.size)))).get? b=some o:=λb o hb q=>by rw[Heap.get?_update_other _ _ (Ne.symm hb)];exact Heap.get?_push_of_some _ q
  refine⟨λb o q n x=>kp b o (λz=>x (by simp[z])) ((x1.2.1 b n).trans q),λb o q n x=>?_,λb o q=>?_⟩
  ·obtain⟨sl,q1⟩:=x1.2.2 b o q;exact⟨sl,kp b _ (λz=>x (by simp[z])) q1⟩
  ·by_cases hb:b=e
   ·subst hb;exact⟨_,Heap.get?_update_self _ e2 (Obj.isFreed_of_fields (Obj.data_mapFields hd _))⟩
   ·obtain⟨sl,q1⟩:=x1.2.2 b o q;exact⟨_,kp b _ hb q1⟩
 ·have ne':h1.objs.size≠e:=Nat.ne_of_gt (Heap.lt_size e1);refine⟨_,_,Heap.get?_update_self _ e2 (Obj.isFreed_of_fields (Obj.data_mapFields hd _)),Obj.cls_mapFields _ _,zlY _ _,Obj.data_mapFields hd _,by simpa using hz,by simp[hz],ne',{cls:=.type "traceback",dict:=none,data:=.fields ts},ts,?_,rfl,t3⟩;rw[Heap.get?_update_other _ _ (Ne.symm ne')];exact Heap.get?_push_size h1 rfl
theorem note_frame{base:Heap}{outer:List Env}{L:Addr}{d:Option Addr}(hfr:A.frames=some (env::outer))(hl:s.heap.FunFrames base (env::outer))(hf:env.frame=some L)(x:Fly s.heap e cls d tb .none)(q:∀h' T,Chg ((env::outer).filterMap (·.frame)) (exOf e tb) s.heap h'->Fly h' e cls d (some T) (rawInt L)->s.heap.objs.size<=T->Q () {s with heap:=h'}):wpAny M A (noteFrame (.ref e) env) Q E s:=by
 obtain⟨oe,vs,he,rfl,rfl,hd,hz,ht⟩:=x;unfold noteFrame;simp only[hf];cases tb with
 |none=>
  refine wpAny_bind (wpAny_field he hd ht ?_);rw[if_neg (by decide)];exact zfE hfr hl hf he hd hz q
 |some T=>
  obtain⟨h1,hTe,oT,ts,hT,hdT,h3⟩:=ht;refine wpAny_bind (wpAny_field he hd h1 ?_);rw[if_pos (show(Value.ref T !=Value.none)=true from by simp)];refine wpAny_bind (wpAny_field hT hdT h3 ?_);rw[if_neg (show¬((Value.none==rawInt L)=true)from by simp[rawInt])];refine wpAny_bind (wpAny_setField hT hdT (Array.getElem?_eq_some_iff.mp h3).1 ?_);have other:∀b,b≠T->(s.heap.update T (Obj.mapFields (·.setIfInBounds 3 Value.none))).get? b=s.heap.get? b:=λb hb=>Heap.get?_update_other _ _ (Ne.symm hb)
  have nf:∀b o,s.heap.get? b=some o->(∀vs,o.data≠.fields vs)->b≠T:=λb o hb hn z=>by rw[z,hT]at hb;cases hb;exact hn ts hdT
  have c1:Chg ((env::outer).filterMap (·.frame)) [T] s.heap (s.heap.update T (Obj.mapFields (·.setIfInBounds 3 Value.none))):=by
   refine⟨λb o q _ x=>by rw[other b λz=>x (by simp[z])];exact q,λb o q _ x=>⟨o.slots,by rw[other b λz=>x (by simp[z])];exact q⟩,λb o q=>?_⟩;by_cases hb:b=T
   ·subst hb;exact⟨_,Heap.get?_update_self _ hT (Obj.isFreed_of_fields (Obj.data_mapFields hdT _))⟩
   ·exact⟨o,by rw[other b hb];exact q⟩
  refine zfE hfr (hl.of_keeps λb o hb hn=>⟨o,(other b (nf b o hb hn)).trans hb,rfl⟩) hf ((other e (Ne.symm hTe)).trans he) hd hz λh' T' c f z=>q h' T' ?_ f ?_
  ·have c2:=c1.trans c;exact⟨λb o q n x=>c2.keep b o q n (by simp at x ⊢;exact⟨x.2,x.1⟩),λb o q n x=>c2.slot b o q n (by simp at x ⊢;exact⟨x.2,x.1⟩),c2.there⟩
  ·have:(s.heap.update T (Obj.mapFields (·.setIfInBounds 3 Value.none))).objs.size=s.heap.objs.size:=by simp[Heap.update]
   rw[this]at z;exact z
theorem set_flight{T:Addr}{fl:Value}{d:Option Addr}{fs:List Addr}(x:Fly s.heap e cls d (some T) fl)(q:∀h',Chg fs [T] s.heap h'->Fly h' e cls d (some T) .none->Q () {s with heap:=h'}):wpAny M A (setFlight (.ref e) none) Q E s:=by
 obtain⟨oe,vs,he,rfl,rfl,hd,hz,h1,hTe,oT,ts,hT,hdT,h3⟩:=x;have z3:3<ts.size:=(Array.getElem?_eq_some_iff.mp h3).1;unfold setFlight;refine wpAny_bind (wpAny_field he hd h1 ?_);rw[if_pos (show(Value.ref T !=Value.none)=true from by simp)];refine wpAny_setField hT hdT z3 (q _ ?_ ?_)
 ·have other:∀b,b≠T->(s.heap.update T (Obj.mapFields (·.setIfInBounds 3 ((none:Option Addr).elim Value.none λf=>rawInt f)))).get? b=s.heap.get? b:=λb hb=>Heap.get?_update_other _ _ (Ne.symm hb)
  refine⟨λb o q _ x=>by rw[other b λz=>x (by simp[z])];exact q,λb o q _ x=>⟨o.slots,by rw[other b λz=>x (by simp[z])];exact q⟩,λb o q=>?_⟩;by_cases hb:b=T
  ·subst hb;exact⟨_,Heap.get?_update_self _ hT (Obj.isFreed_of_fields (Obj.data_mapFields hdT _))⟩
  ·exact⟨o,by rw[other b hb];exact q⟩
 ·refine⟨oe,vs,by rw[Heap.get?_update_other _ _ hTe];exact he,rfl,rfl,hd,hz,h1,hTe,_,_,Heap.get?_update_self _ hT (Obj.isFreed_of_fields (Obj.data_mapFields hdT _)),Obj.data_mapFields hdT _,?_⟩;simp[z3]
theorem zgt{base:Heap}{outer:List Env}{L:Addr}{d:Option Addr}(hfr:A.frames=some (env::outer))(hl:s.heap.FunFrames base (env::outer))(hf:env.frame=some L)(x:Fly s.heap e cls d tb .none)(q:∀h' T,Chg ((env::outer).filterMap (·.frame)) (exOf e tb) s.heap h'->Fly h' e cls d (some T) .none->s.heap.objs.size<=T->Q () {s with heap:=h'}):wpAny M A (leaving env (.ref e)) Q E s:=by
 unfold leaving;refine wpAny_bind (note_frame hfr hl hf x λh1 T c1 f1 z=>set_flight (fs:=(env::outer).filterMap (·.frame)) f1 λh2 c2 f2=>q h2 T ?_ f2 z);have nT:∀b o,s.heap.get? b=some o->b≠T:=λb o hb=>Nat.ne_of_lt (Nat.lt_of_lt_of_le (Heap.lt_size hb) z)
 have c:=c1.trans c2;exact⟨λb o q n x=>c.keep b o q n (by simp only[List.mem_append,List.mem_singleton,not_or];exact⟨x,nT b o q⟩),λb o q n x=>c.slot b o q n (by simp only[List.mem_append,List.mem_singleton,not_or];exact⟨x,nT b o q⟩),c.there⟩
end
end FX
namespace FL
open L2
inductive KD where
 |int (i:Int)|str (x:Str)|tup (l:List Key)
 deriving DecidableEq
inductive D where
 |non|bl (b:Bool)|int (i:Int)|str (x:Str)|tup (l:List D)|lst (l:List D)|scr (ns:List Int)|dic (ks:List KD) (ds:List D)|set (l:List KD)|exc (c:Str) (d:D)
def kdK:Key->KD
 | .inl i=>.int i
 | .inr x=>.str x
def yU(F:Hp)(a:Addr)(ks:List KD)(vs:List V):Prop:=
 (∃kvs:List (Key×V),F a=some (.dK kvs)/\ks=kvs.map (λp=>kdK p.1)/\vs=kvs.map (·.2))\/
 (∃kvs:List (List Key×V),F a=some (.dT kvs)/\(ks=kvs.map (λp=>KD.tup p.1)/\kvs≠[])/\vs=kvs.map (·.2))
def yM(F:Hp)(a:Addr)(ks:List KD)(vs:List V):Prop:=∃o,
 (∃kvs:List (Key×V),F a=some (.frz o (.dK kvs))/\ks=kvs.map (λp=>kdK p.1)/\vs=kvs.map (·.2))\/
 (∃kvs:List (List Key×V),F a=some (.frz o (.dT kvs))/\(ks=kvs.map (λp=>KD.tup p.1)/\kvs≠[])/\vs=kvs.map (·.2))
def gB(H:Hp)(a:Addr)(ks:List KD)(vs:List V):Prop:=yU H a ks vs\/yM H a ks vs
def kX(F:Hp)(a:Addr)(l:List KD):Prop:=∃L,F a=some (.set L)/\l=L.map KD.str
def kD(c:Str):Str:=if c="NoPlace"then "place"else if c="NoRule"then "rule"else if c="TwoCounts"then "sign"else if c="TooLong"then "term"else "rules"
def xS(a C da:Addr):HO:=.ext λh=>∃oe vs,h.get? a=some oe/\oe.cls=.ref C/\oe.dict=some da/\oe.data=.fields vs
mutual
def Dat(K:Fg)(F:Hp):D->V->Prop
 | .non,v=>v=.non
 | .bl b,v=>v=.bl b
 | .int i,v=>v=.int i
 | .str x,v=>v=.str x
 | .tup l,v=>∃a vs,v=.ref a/\F a=some (.tup vs)/\zD K F l vs
 | .lst l,v=>∃a vs,v=.ref a/\F a=some (.lst vs)/\zD K F l vs
 | .scr ns,v=>∃a,v=.ref a/\SqL K F a (ns.map V.int)
 | .dic ks ds,v=>∃a vs,v=.ref a/\yM F a ks vs/\zD K F ds vs
 | .set l,v=>∃a,v=.ref a/\kX F a l
 | .exc c d,v=>∃a C da u,v=.ref a/\F a=some (xS a C da)/\PySem.W.nsIn K mainGlobals c=some (some (.ref C))/\F da=some (.xd [(kD c,u)])/\Dat K F d u
def zD(K:Fg)(F:Hp):List D->List V->Prop
 |[],vs=>vs=[]
 |d::l,vs=>∃v r,vs=v::r/\Dat K F d v/\zD K F l r
end
section
variable{K:Fg}{F F' H H':Hp}
theorem yU.mono(s:zI F F'){a:Addr}{ks:List KD}{vs:List V}(h:yU F a ks vs):yU F' a ks vs:=by
 rcases h with⟨kvs,h,r⟩|⟨kvs,h,r⟩
 ·exact .inl ⟨kvs,s _ _ h,r⟩
 ·exact .inr ⟨kvs,s _ _ h,r⟩
theorem yM.mono(s:zI F F'){a:Addr}{ks:List KD}{vs:List V}(h:yM F a ks vs):yM F' a ks vs:=by
 obtain⟨o,⟨kvs,h,r⟩|⟨kvs,h,r⟩⟩:=h
 ·exact⟨o,.inl ⟨kvs,s _ _ h,r⟩⟩
 ·exact⟨o,.inr ⟨kvs,s _ _ h,r⟩⟩
theorem gB.mono(s:zI F F'){a:Addr}{ks:List KD}{vs:List V}(h:gB F a ks vs):gB F' a ks vs:=h.imp (yU.mono s) (yM.mono s)
theorem kX.mono(s:zI F F'){a:Addr}{l:List KD}(h:kX F a l):kX F' a l:=by obtain⟨o,h,z⟩:=h;exact⟨o,s _ _ h,z⟩
theorem yU.some{a:Addr}{ks:List KD}{vs:List V}(h:yU F a ks vs):∃o,F a=some o:=by
 rcases h with⟨kvs,h,r⟩|⟨kvs,h,r⟩
 ·exact⟨_,h⟩
 ·exact⟨_,h⟩
theorem yM.some{a:Addr}{ks:List KD}{vs:List V}(h:yM F a ks vs):∃o,F a=some o:=by
 obtain⟨o,⟨kvs,h,r⟩|⟨kvs,h,r⟩⟩:=h
 ·exact⟨_,h⟩
 ·exact⟨_,h⟩
theorem gB.some{a:Addr}{ks:List KD}{vs:List V}(h:gB F a ks vs):∃o,F a=some o:=h.elim yU.some yM.some
theorem kX.some{a:Addr}{l:List KD}(h:kX F a l):∃o,F a=some o:=let⟨_,h,_⟩:=h;⟨_,h⟩
theorem yU.at{a:Addr}(e:F' a=F a){ks:List KD}{vs:List V}(h:yU F a ks vs):yU F' a ks vs:=by unfold yU at h ⊢;rw[e];exact h
theorem yM.at{a:Addr}(e:F' a=F a){ks:List KD}{vs:List V}(h:yM F a ks vs):yM F' a ks vs:=by unfold yM at h ⊢;rw[e];exact h
theorem gB.at{a:Addr}(e:F' a=F a){ks:List KD}{vs:List V}(h:gB F a ks vs):gB F' a ks vs:=h.imp (yU.at e) (yM.at e)
theorem kX.at{a:Addr}(e:F' a=F a){l:List KD}(h:kX F a l):kX F' a l:=by unfold kX at h ⊢;rw[e];exact h
mutual
theorem Dat.mono(t:zI F F'):∀{d:D}{v:V},Dat K F d v->Dat K F' d v
 | .non,_,h=>by simp only[Dat]at h ⊢;exact h
 | .bl _,_,h=>by simp only[Dat]at h ⊢;exact h
 | .int _,_,h=>by simp only[Dat]at h ⊢;exact h
 | .str _,_,h=>by simp only[Dat]at h ⊢;exact h
 | .tup l,_,h=>by simp only[Dat]at h ⊢;obtain⟨a,vs,e,h1,h2⟩:=h;exact⟨a,vs,e,t _ _ h1,zD.mono t h2⟩
 | .lst l,_,h=>by simp only[Dat]at h ⊢;obtain⟨a,vs,e,h1,h2⟩:=h;exact⟨a,vs,e,t _ _ h1,zD.mono t h2⟩
 | .scr l,_,h=>by simp only[Dat]at h ⊢;obtain⟨a,e,h1⟩:=h;exact⟨a,e,zI.seq t h1⟩
 | .dic _ l,_,h=>by simp only[Dat]at h ⊢;obtain⟨a,vs,e,h1,h2⟩:=h;exact⟨a,vs,e,h1.mono t,zD.mono t h2⟩
 | .set l,_,h=>by simp only[Dat]at h ⊢;obtain⟨a,e,h1⟩:=h;exact⟨a,e,h1.mono t⟩
 | .exc c d,_,h=>by simp only[Dat]at h ⊢;obtain⟨a,C,da,u,e,h1,h2,h3,h4⟩:=h;exact⟨a,C,da,u,e,t _ _ h1,h2,t _ _ h3,Dat.mono t h4⟩
theorem zD.mono(t:zI F F'):∀{l:List D}{vs:List V},zD K F l vs->zD K F' l vs
 |[],_,h=>by simp only[zD]at h ⊢;exact h
 |d::l,_,h=>by simp only[zD]at h ⊢;obtain⟨v,r,e,h1,h2⟩:=h;exact⟨v,r,e,Dat.mono t h1,zD.mono t h2⟩
end
theorem zD.nil:zD K F [] []:=by simp only[zD]
theorem zD.cons{d:D}{l:List D}{v:V}{vs:List V}(h:Dat K F d v)(r:zD K F l vs):zD K F (d::l) (v::vs):=by simp only[zD];exact⟨v,vs,rfl,h,r⟩
theorem zD.nil_inv{vs:List V}(h:zD K F [] vs):vs=[]:=by simp only[zD]at h;exact h
theorem zD.cons_inv{d:D}{l:List D}{vs:List V}(h:zD K F (d::l) vs):∃v r,vs=v::r/\Dat K F d v/\zD K F l r:=by simp only[zD]at h;exact h
theorem Dat.non_inv{v:V}(h:Dat K F .non v):v=.non:=by simp only[Dat]at h;exact h
theorem Dat.bl_inv{b:Bool}{v:V}(h:Dat K F (.bl b) v):v=.bl b:=by simp only[Dat]at h;exact h
theorem Dat.int_inv{i:Int}{v:V}(h:Dat K F (.int i) v):v=.int i:=by simp only[Dat]at h;exact h
theorem Dat.str_inv{x:Str}{v:V}(h:Dat K F (.str x) v):v=.str x:=by simp only[Dat]at h;exact h
theorem Dat.tup_inv{l:List D}{v:V}(h:Dat K F (.tup l) v):∃a vs,v=.ref a/\F a=some (.tup vs)/\zD K F l vs:=by simp only[Dat]at h;exact h
theorem Dat.lst_inv{l:List D}{v:V}(h:Dat K F (.lst l) v):∃a vs,v=.ref a/\F a=some (.lst vs)/\zD K F l vs:=by simp only[Dat]at h;exact h
theorem Dat.scr_inv{l:List Int}{v:V}(h:Dat K F (.scr l) v):∃a,v=.ref a/\SqL K F a (l.map V.int):=by simp only[Dat]at h;exact h
theorem Dat.dic_inv{ks:List KD}{l:List D}{v:V}(h:Dat K F (.dic ks l) v):∃a vs,v=.ref a/\yM F a ks vs/\zD K F l vs:=by simp only[Dat]at h;exact h
theorem Dat.set_inv{l:List KD}{v:V}(h:Dat K F (.set l) v):∃a,v=.ref a/\kX F a l:=by simp only[Dat]at h;exact h
theorem Dat.exc_inv{c:Str}{d:D}{v:V}(h:Dat K F (.exc c d) v):∃a C da u,v=.ref a/\F a=some (xS a C da)/\PySem.W.nsIn K mainGlobals c=some (some (.ref C))/\F da=some (.xd [(kD c,u)])/\Dat K F d u:=by simp only[Dat]at h;exact h
theorem Dat.non:Dat K F .non .non:=by simp only[Dat]
theorem Dat.bl(b:Bool):Dat K F (.bl b) (.bl b):=by simp only[Dat]
theorem Dat.int(i:Int):Dat K F (.int i) (.int i):=by simp only[Dat]
theorem Dat.str(x:Str):Dat K F (.str x) (.str x):=by simp only[Dat]
theorem Dat.tup{l:List D}{a:Addr}{vs:List V}(h:F a=some (.tup vs))(r:zD K F l vs):Dat K F (.tup l) (.ref a):=by simp only[Dat];exact⟨a,vs,rfl,h,r⟩
theorem Dat.lst{l:List D}{a:Addr}{vs:List V}(h:F a=some (.lst vs))(r:zD K F l vs):Dat K F (.lst l) (.ref a):=by simp only[Dat];exact⟨a,vs,rfl,h,r⟩
theorem Dat.scr{l:List Int}{a:Addr}(h:SqL K F a (l.map V.int)):Dat K F (.scr l) (.ref a):=by simp only[Dat];exact⟨a,rfl,h⟩
theorem Dat.dic{ks:List KD}{l:List D}{a:Addr}{vs:List V}(h:yM F a ks vs)(r:zD K F l vs):Dat K F (.dic ks l) (.ref a):=by simp only[Dat];exact⟨a,vs,rfl,h,r⟩
theorem zD.length:∀{l:List D}{vs:List V},zD K F l vs->vs.length=l.length
 |[],_,h=>by rw[h.nil_inv];rfl
 |_::l,_,h=>by obtain⟨v,r,rfl,_,h2⟩:=h.cons_inv;simp[zD.length h2]
theorem zD.get:∀{l:List D}{vs:List V} {i:Nat}{d:D},zD K F l vs->l[i]?=some d->∃v,vs[i]?=some v/\Dat K F d v
 |[],_,_,_,_,e=>by simp at e
 |_::l,_,i,d,h,e=>by
  obtain⟨v,r,rfl,h1,h2⟩:=h.cons_inv;cases i with
  |zero=>simp at e;subst e;exact⟨v,rfl,h1⟩
  |succ i=>
   obtain⟨u,e1,h3⟩:=zD.get (i:=i) h2 (by simpa using e);exact⟨u,by simpa using e1,h3⟩
theorem zD.get'{l:List D}{vs:List V}{i:Nat}{v:V}(h:zD K F l vs)(e:vs[i]?=some v):∃d,l[i]?=some d/\Dat K F d v:=by
 have hl:=h.length;have hi:i<l.length:=by rw[←hl];exact(List.getElem?_eq_some_iff.mp e).1
 obtain⟨u,e1,h1⟩:=h.get (List.getElem?_eq_getElem hi);rw[e]at e1;cases e1
 exact⟨_,List.getElem?_eq_getElem hi,h1⟩
theorem zD.append:∀{l m:List D}{vs us:List V},zD K F l vs->zD K F m us->zD K F (l++m) (vs++us)
 |[],_,_,_,h,k=>by rw[h.nil_inv];exact k
 |_::l,_,_,_,h,k=>by obtain⟨v,r,rfl,h1,h2⟩:=h.cons_inv;exact zD.cons h1 (zD.append h2 k)
theorem zD.snoc{l:List D}{vs:List V}{d:D}{v:V}(h:zD K F l vs)(k:Dat K F d v):zD K F (l++[d]) (vs++[v]):=h.append (zD.cons k zD.nil)
theorem zD.reverse:∀{l:List D}{vs:List V},zD K F l vs->zD K F l.reverse vs.reverse
 |[],_,h=>by rw[h.nil_inv];exact zD.nil
 |_::l,_,h=>by obtain⟨v,r,rfl,h1,h2⟩:=h.cons_inv;rw[List.reverse_cons,List.reverse_cons];exact(zD.reverse h2).snoc h1
theorem zD.take:∀{l:List D}{vs:List V} (n:Nat),zD K F l vs->zD K F (l.take n) (vs.take n)
 |_,_,0,_=>by simp;exact zD.nil
 |[],_,n+1,h=>by rw[h.nil_inv];simp;exact zD.nil
 |_::l,_,n+1,h=>by obtain⟨v,r,rfl,h1,h2⟩:=h.cons_inv;rw[List.take_succ_cons,List.take_succ_cons];exact zD.cons h1 (zD.take n h2)
theorem zD.drop:∀{l:List D}{vs:List V} (n:Nat),zD K F l vs->zD K F (l.drop n) (vs.drop n)
 |_,_,0,h=>by simpa using h
 |[],_,n+1,h=>by rw[h.nil_inv];simp;exact zD.nil
 |_::l,_,n+1,h=>by obtain⟨v,r,rfl,h1,h2⟩:=h.cons_inv;rw[List.drop_succ_cons,List.drop_succ_cons];exact zD.drop n h2
theorem zD.set:∀{l:List D}{vs:List V} (n:Nat) {d:D}{v:V},zD K F l vs->Dat K F d v->zD K F (l.set n d) (vs.set n v)
 |[],_,_,_,_,h,_=>by rw[h.nil_inv];simp;exact zD.nil
 |_::l,_,n,_,_,h,k=>by
  obtain⟨v,r,rfl,h1,h2⟩:=h.cons_inv;cases n with
  |zero=>exact zD.cons k h2
  |succ n=>exact zD.cons h1 (zD.set n h2 k)
theorem zD.dropLast{l:List D}{vs:List V}(h:zD K F l vs):zD K F l.dropLast vs.dropLast:=by rw[List.dropLast_eq_take,List.dropLast_eq_take,h.length];exact h.take _
theorem zD.ints:∀{ns:List Int}{vs:List V},zD K F (ns.map D.int) vs->vs=ns.map V.int
 |[],_,h=>h.nil_inv
 |n::ns,_,h=>by obtain⟨v,r,rfl,h1,h2⟩:=h.cons_inv;rw[h1.int_inv,zD.ints h2];rfl
theorem zD.ofInts:∀(ns:List Int),zD K F (ns.map D.int) (ns.map V.int)
 |[]=>zD.nil
 |n::ns=>zD.cons (Dat.int n) (zD.ofInts ns)
theorem zD.strs:∀{ns:List Str}{vs:List V},zD K F (ns.map D.str) vs->vs=ns.map V.str
 |[],_,h=>h.nil_inv
 |n::ns,_,h=>by obtain⟨v,r,rfl,h1,h2⟩:=h.cons_inv;rw[h1.str_inv,zD.strs h2];rfl
theorem zD.one{a:D}{vs:List V}(h:zD K F [a] vs):∃v,vs=[v]/\Dat K F a v:=by obtain⟨v,r,rfl,h1,h2⟩:=h.cons_inv;rw[h2.nil_inv];exact⟨v,rfl,h1⟩
def zO(K:Fg)(F H:Hp):D->V->Prop
 | .lst l,v=>∃a vs,v=.ref a/\H a=some (.lst vs)/\zD K F l vs
 | .dic ks ds,v=>∃a vs,v=.ref a/\gB H a ks vs/\zD K F ds vs
 | .set l,v=>∃a,v=.ref a/\kX H a l
 |d,v=>Dat K F d v
theorem Dat.b(s:zI F H){d:D}{v:V}(h:Dat K F d v):zO K F H d v:=by
 cases d with
 |lst l=>obtain⟨a,vs,e,h1,h2⟩:=h.lst_inv;exact⟨a,vs,e,s _ _ h1,h2⟩
 |dic ks l=>obtain⟨a,vs,e,h1,h2⟩:=h.dic_inv;exact⟨a,vs,e,.inr (h1.mono s),h2⟩
 |set l=>obtain⟨a,e,h1⟩:=h.set_inv;exact⟨a,e,h1.mono s⟩
 |_=>exact h
theorem zO.mono(f:zI F F')(g:zI H H'){d:D}{v:V}(h:zO K F H d v):zO K F' H' d v:=by
 cases d with
 |lst l=>obtain⟨a,vs,e,h1,h2⟩:=h;exact⟨a,vs,e,g _ _ h1,h2.mono f⟩
 |dic ks l=>obtain⟨a,vs,e,h1,h2⟩:=h;exact⟨a,vs,e,h1.mono g,h2.mono f⟩
 |set l=>obtain⟨a,e,h1⟩:=h;exact⟨a,e,h1.mono g⟩
 |_=>exact Dat.mono f h
def Own(K:Fg)(F H:Hp):D->Addr->Prop
 | .lst l,a=>∃vs,H a=some (.lst vs)/\zD K F l vs
 | .dic ks ds,a=>∃vs,yU H a ks vs/\zD K F ds vs
 | .set l,a=>kX H a l
 |_,_=>False
theorem Own.mono(f:zI F F'){d:D}{a:Addr}(g:∀o,H a=some o->H' a=some o)(h:Own K F H d a):Own K F' H' d a:=by
 cases d with
 |lst l=>obtain⟨vs,h1,h2⟩:=h;exact⟨vs,g _ h1,h2.mono f⟩
 |dic ks l=>
  obtain⟨vs,h1,h2⟩:=h;obtain⟨o,e⟩:=h1.some;exact⟨vs,h1.at (by rw[e];exact g _ e),h2.mono f⟩
 |set l=>
  have h:kX H a l:=h;obtain⟨o,e⟩:=h.some;exact h.at (by rw[e];exact g _ e)
 |_=>exact h.elim
theorem Own.some{d:D}{a:Addr}(h:Own K F H d a):∃o,H a=some o:=by
 cases d with
 |lst l=>obtain⟨vs,h1,h2⟩:=h;exact⟨_,h1⟩
 |dic ks l=>obtain⟨vs,h1,h2⟩:=h;exact h1.some
 |set l=>exact kX.some (l:=l) h
 |_=>exact h.elim
theorem Own.b{d:D}{a:Addr}(h:Own K F H d a):zO K F H d (.ref a):=by
 cases d with
 |lst l=>obtain⟨vs,h1,h2⟩:=h;exact⟨a,vs,rfl,h1,h2⟩
 |dic ks l=>obtain⟨vs,h1,h2⟩:=h;exact⟨a,vs,rfl,.inl h1,h2⟩
 |set l=>exact⟨a,rfl,h⟩
 |_=>exact h.elim
def xN(F H:Hp)(a:Addr):Hp:=λb=>if b=a then H a else F b
theorem zbk{a:Addr}:xN F H a a=H a:=by unfold xN;rw[if_pos rfl]
theorem zbQ{a b:Addr}(h:b≠a):xN F H a b=F b:=by unfold xN;rw[if_neg h]
theorem zaX{a:Addr}(h:F a=none):zI F (xN F H a):=λb o e=>by rw[zbQ (qK e h)];exact e
theorem zcI{a:Addr}(s:zI F H):zI (xN F H a) H:=λb o e=>by
 by_cases hb:b=a
 ·subst hb;rw[zbk]at e;exact e
 ·rw[zbQ hb]at e;exact s _ _ e
noncomputable def znE:Option HO->Bool
 |some (.dK _)=>true
 |some (.dT _)=>true
 |_=>false
def vX(H:Hp)(a:Addr)(H2:Hp):Prop:=(H2=H/\znE (H a)=false)\/∃o u,H a=some u/\znE (some u)=true/\H2=upd H a (.frz o u)
theorem vX.ne{H2:Hp}{a b:Addr}(f:vX H a H2)(h:b≠a):H2 b=H b:=by
 rcases f with⟨rfl,_⟩|⟨o,u,_,_,rfl⟩
 ·rfl
 ·exact zV h
theorem vX.same{H2:Hp}{a:Addr}(f:vX H a H2)(s:zI F H)(h:F a=none):zI F H2:=λb o e=>by rw[f.ne (qK e h)];exact s _ _ e
theorem Own.freeze{H2:Hp}{d:D}{a:Addr}(h:Own K F H d a)(hn:F a=none)(f:vX H a H2):Dat K (xN F H2 a) d (.ref a):=by
 have x:zI F (xN F H2 a):=zaX hn;cases d with
 |lst l=>
  obtain⟨vs,h1,h2⟩:=h;rcases f with⟨rfl,_⟩|⟨o,u,e,z,_⟩
  ·exact Dat.lst (by rw[zbk];exact h1) (h2.mono x)
  ·rw[h1]at e;cases e;cases z
 |dic ks l=>
  obtain⟨vs,h1,h2⟩:=h;refine Dat.dic ?_ (h2.mono x);rcases h1 with⟨kvs,h1,r⟩|⟨kvs,h1,r⟩
  ·rcases f with⟨_,z⟩|⟨o,u,e,z,rfl⟩
   ·rw[h1]at z;cases z
   ·rw[h1]at e;cases e
    exact⟨o,.inl ⟨kvs,by rw[zbk];exact qF,r⟩⟩
  ·rcases f with⟨_,z⟩|⟨o,u,e,z,rfl⟩
   ·rw[h1]at z;cases z
   ·rw[h1]at e;cases e
    exact⟨o,.inr ⟨kvs,by rw[zbk];exact qF,r⟩⟩
 |set l=>
  have h:kX H a l:=h;obtain⟨L,h1,e0⟩:=h;rcases f with⟨rfl,_⟩|⟨o,u,e,z,_⟩
  ·simp only[Dat];exact⟨a,rfl,L,by rw[zbk];exact h1,e0⟩
  ·rw[h1]at e;cases e;cases z
 |_=>exact h.elim
theorem zO.frz{H2:Hp}{a:Addr}{d:D}{v:V}(h:zO K F H d v)(x:zI F F')(f:vX H a H2)(hv:v≠.ref a):zO K F' H2 d v:=by
 cases d with
 |lst l=>obtain⟨b,vs,e,h1,h2⟩:=h;exact⟨b,vs,e,by rw[f.ne λz=>hv (by rw[e,z])];exact h1,h2.mono x⟩
 |dic ks l=>obtain⟨b,vs,e,h1,h2⟩:=h;exact⟨b,vs,e,h1.at (f.ne λz=>hv (by rw[e,z])),h2.mono x⟩
 |set l=>obtain⟨b,e,h1⟩:=h;exact⟨b,e,h1.at (f.ne λz=>hv (by rw[e,z]))⟩
 |_=>exact Dat.mono x h
theorem Own.fl{l:List D}{a:Addr}(h:Own K F H (.lst l) a):vX H a H:=by obtain⟨vs,h1,_⟩:=h;exact .inl ⟨rfl,by rw[h1];rfl⟩
end
inductive Sl where
 |dat (d:D)|ow (p:Bool) (d:D)|bor (d:D)
abbrev Sl.own(d:D):Sl:=.ow false d
abbrev Sl.inn(d:D):Sl:=.ow true d
def Sl.isDat:Sl->Bool
 | .dat _=>true
 |_=>false
abbrev St:=L2.St
abbrev En:=List (Option Sl)
abbrev EO(α:Type):=En->Option α
abbrev Lo2:=List D->Option D
def yA(ρ:En)(σ:St)(b:Addr):Prop:=∃(i:Nat) (p:Bool) (d:D),ρ[i]?=some (some (.ow p d))/\σ[i]?=some (some (.ref b))
structure Rel(K:Fg)(F H:Hp)(ρ:En)(σ:St):Prop where
 sub:zI F H
 dat:∀(i:Nat) (d:D),ρ[i]?=some (some (.dat d))->∃v,σ[i]?=some (some v)/\Dat K F d v
 bor:∀(i:Nat) (d:D),ρ[i]?=some (some (.bor d))->∃v,σ[i]?=some (some v)/\zO K F H d v
 own:∀(i:Nat) (p:Bool) (d:D),ρ[i]?=some (some (.ow p d))->∃a,σ[i]?=some (some (.ref a))/\F a=none/\Own K F H d a
 inj:∀(i j:Nat) (p:Bool) (d:D) (s:Sl) (a:Addr),i≠j->ρ[i]?=some (some (.ow p d))->σ[i]?=some (some (.ref a))->ρ[j]?=some (some s)->s.isDat=false->σ[j]?≠some (some (.ref a))
 len:ρ.length=σ.length
structure zF(F H F' H':Hp):Prop where
 ff:zI F F'
 hh:zI H H'
 fh:zI F' H'
 nw:∀b o,H b=some o->F b=none->F' b=none
section
variable{K:Fg}{F F' F2 H H' H2:Hp}{ρ ρ' ρ2:En}{σ σ' σ2:St}
theorem zF.refl(s:zI F H):zF F H F H:=⟨zI.refl _,zI.refl _,s,λ_ _ _ n=>n⟩
theorem zF.trans(a:zF F H F' H')(b:zF F' H' F2 H2):zF F H F2 H2:=
 ⟨a.ff.trans b.ff,a.hh.trans b.hh,b.fh,λc o e n=>b.nw c o (a.hh _ _ e) (a.nw c o e n)⟩
theorem wC{p:Addr}(h:H p=none)(o:HO):zI H (upd H p o):=λb u q=>by rw[zV (qK q h)];exact q
theorem zF.frozen{p:Addr}{o:HO}(s:zI F H)(h:H p=none):zF F H (upd F p o) (upd H p o):=by
 refine⟨wC (s.free h) o,wC h o,λb u e=>?_,λb u e n=>?_⟩
 ·by_cases hb:b=p
  ·subst hb;rw[qF]at e ⊢;exact e
  ·rw[zV hb]at e ⊢;exact s _ _ e
 ·have hb:b≠p:=qK e h;rw[zV hb];exact n
theorem zF.fresh{p:Addr}{o:HO}(s:zI F H)(h:H p=none):zF F H F (upd H p o):=
 ⟨zI.refl _,wC h o,s.trans (wC h o),λb u e n=>n⟩
theorem zF.freeze{a:Addr}{H3:Hp}(g:zF F H F' H')(h:H a=none)(hn:F' a=none)(f:vX H' a H3):zF F H (xN F' H3 a) H3:=by
 refine⟨g.ff.trans (zaX hn),λb o e=>?_,zcI (f.same g.fh hn),λb o e n=>?_⟩
 ·rw[f.ne (qK e h)];exact g.hh _ _ e
 ·have hb:b≠a:=qK e h;rw[zbQ hb];exact g.nw b o e n
theorem Rel.grow(r:Rel K F H ρ σ)(g:zF F H F' H'):Rel K F' H' ρ σ where
 sub:=g.fh
 dat:=λi d e=>let⟨v,h1,h2⟩:=r.dat i d e;⟨v,h1,h2.mono g.ff⟩
 bor:=λi d e=>let⟨v,h1,h2⟩:=r.bor i d e;⟨v,h1,h2.mono g.ff g.hh⟩
 own:=λi p d e=>by obtain⟨a,h1,h2,h3⟩:=r.own i p d e;obtain⟨o,ho⟩:=h3.some;exact⟨a,h1,g.nw a o ho h2,h3.mono g.ff λo e=>g.hh _ _ e⟩
 inj:=r.inj
 len:=r.len
structure qS(ρ:En)(σ:St)(F H:Hp)(ρ':En)(σ':St)(F' H':Hp):Prop where
 ff:zI F F'
 rest:∀b o,H b=some o->F b=none->¬yA ρ σ b->H' b=some o/\F' b=none
 own:∀b,yA ρ' σ' b->H b=none\/yA ρ σ b
 pin:∀(i:Nat) (d':D),ρ'[i]?=some (some (.ow true d'))->∃d,ρ[i]?=some (some (.ow true d))/\σ'[i]?=σ[i]?
 fh:zI F' H'
theorem zF.step(g:zF F H F' H'):qS ρ σ F H ρ σ F' H':=⟨g.ff,λb o e n _=>⟨g.hh _ _ e,g.nw b o e n⟩,λ_ h=>.inr h,λ_ d e=>⟨d,e,rfl⟩,g.fh⟩
theorem qS.back(a:qS ρ σ F H ρ' σ' F' H')(s:zI F H){b:Addr}(h:H' b=none\/yA ρ' σ' b):H b=none\/yA ρ σ b:=by
 rcases h with h|h
 ·cases e:H b with
  |none=>exact .inl rfl
  |some o=>
   cases f:F b with
   |some u=>have:=a.fh _ _ (a.ff _ _ f);rw[h]at this;cases this
   |none=>
    by_cases q:yA ρ σ b
    ·exact .inr q
    ·have:=(a.rest b o e f q).1;rw[h]at this;cases this
 ·exact a.own b h
theorem qS.trans(a:qS ρ σ F H ρ' σ' F' H')(b:qS ρ' σ' F' H' ρ2 σ2 F2 H2)(s:zI F H):qS ρ σ F H ρ2 σ2 F2 H2:=by
 refine⟨a.ff.trans b.ff,λc o e n q=>?_,λc h=>a.back s (b.own c h),λi d e=>?_,b.fh⟩
 rotate_left
 ·obtain⟨d1,e1,e2⟩:=b.pin i d e;obtain⟨d2,e3,e4⟩:=a.pin i d1 e1;exact⟨d2,e3,e2.trans e4⟩
 obtain⟨h1,h2⟩:=a.rest c o e n q;refine b.rest c o h1 h2 λz=>?_
 rcases a.own c z with y|y
 ·rw[e]at y;cases y
 ·exact q y
end
inductive Md where
 |fz|ow|br
def Res(K:Fg)(md:Md)(H F' H':Hp)(d:D)(v:V):Prop:=match md with
 | .fz=>Dat K F' d v
 | .ow=>∃a,v=.ref a/\H a=none/\F' a=none/\Own K F' H' d a
 | .br=>zO K F' H' d v
noncomputable def rdE(K:Fg)(md:Md)(ρ:En)(d:D):TE:=λσ H Q=>∃F,Rel K F H ρ σ/\∀v F' H',zF F H F' H'->Res K md H F' H' d v->Q v H'
structure FP(K:Fg)(md:Md)(X:Cx)(e:Expr)(f:EO D):Prop where
 h:∀ρ d,f ρ=some d->PE X e (rdE K md ρ d)
theorem PE.imp{X:Cx}{e:Expr}{t t':TE}(h:PE X e t)(w:∀σ H Q,t' σ H Q->t σ H Q):PE X e t':=λpins s σ H Q I ht=>h pins s σ H Q I (w σ H Q ht)
theorem PT.imp{X:Cx}{e:Expr}{t t':TT}(h:PT X e t)(w:∀σ H Q,t' σ H Q->t σ H Q):PT X e t':=λpins s σ H Q I ht=>h pins s σ H Q I (w σ H Q ht)
theorem PW.imp{X:Cx}{e:Expr}{t t':TT}(h:PW X e t)(w:∀σ H Q,t' σ H Q->t σ H Q):PW X e t':=λwh pins s σ H Q I ht=>h wh pins s σ H Q I (w σ H Q ht)
theorem PA.imp{X:Cx}{e:List Expr}{t t':TA}(h:PA X e t)(w:∀σ H Q,t' σ H Q->t σ H Q):PA X e t':=λpos pins s σ H Q I ht=>h pos pins s σ H Q I (w σ H Q ht)
theorem PS.imp{X:Cx}{e:Stmt}{t t':TS}(h:PS X e t)(w:∀D σ H,t' D σ H->t D σ H):PS X e t':=λpins s σ H D I ht=>h pins s σ H D I (w D σ H ht)
theorem PSs.imp{X:Cx}{e:List Stmt}{t t':TS}(h:PSs X e t)(w:∀D σ H,t' D σ H->t D σ H):PSs X e t':=λpins s σ H D I ht=>h pins s σ H D I (w D σ H ht)
section
variable{K:Fg}{X:Cx}{e:Expr}{f:EO D}
theorem Res.fz_of_ow{H F' H' H3:Hp}{d:D}{v:V}{F:Hp}{a:Addr}(g:zF F H F' H')(h:Res K .ow H F' H' d v)(e:v=.ref a)(f:vX H' a H3):∃F2,zF F H F2 H3/\Dat K F2 d v:=by
 subst e;obtain⟨b,e,h1,h2,h3⟩:=h;cases e
 exact⟨_,g.freeze h1 h2 f,h3.freeze h2 f⟩
theorem Res.ow_ref{H F' H':Hp}{d:D}{v:V}(h:Res K .ow H F' H' d v):∃a,v=.ref a:=let⟨a,e,_⟩:=h;⟨a,e⟩
theorem Inv.frzTo{pins:AO}{σ:St}{H:Hp}{s:Shared}(I:Inv X pins σ H s)(a:Addr):∃H2,vX H a H2/\Inv X pins σ H2 s:=by
 cases h:znE (H a)with
 |false=>exact⟨H,.inl ⟨rfl,h⟩,I⟩
 |true=>
  cases e:H a with
  |none=>rw[e]at h;cases h
  |some u=>
   rw[e]at h;have ok:=I.hok a u e;have mu:Mut (H a):=by rw[e];cases u<;>first|exact True.intro|cases h
   obtain⟨o,ho⟩:∃o,s.heap.get? a=some o:=by
    cases u<;>first
     |cases h;done
     |(obtain⟨_,_,_,_,o,_,_,q,_⟩:=ok;exact⟨o,q⟩)
   refine⟨_,.inr ⟨o,u,e,h,rfl⟩,?_⟩
   have:=I.write (o:=.frz o u) (t':=s.toks) (h':=s.heap) mu (.inl rfl) (λb u _ q=>q) ⟨o,ho⟩ ⟨ho,ok.stay (λb u _ q=>q) (λb q=>?_) λb xs q=>?_⟩
   ·exact this
   ·rw[zV λz=>by subst z;rw[e]at q;cases q;cases h];exact q
   ·rw[zV λz=>by subst z;rw[e]at q;cases q;cases h];exact q
theorem zmv{t:TE}(h:PE X e t):PE X e (λσ H Q=>t σ H λv H'=>∃a,v=.ref a/\∀H2,vX H' a H2->Q v H2):=λpins s σ H Q I ht=>
 thn (h pins s σ H _ I ht) λv s1 ⟨x,H1,I1,r1,a,ea,q⟩=>by obtain⟨H2,f,I2⟩:=Inv.frzTo I1 a;exact⟨x,H2,I2,r1,q H2 f⟩
theorem FP.fz(h:FP K .ow X e f):FP K .fz X e f:=FP.mk λρ d hf=>PE.imp (zmv (h.h ρ d hf)) λσ H Q ⟨F,r,q⟩=>⟨F,r,λv F' H' g hr=>by obtain⟨a,ea⟩:=hr.ow_ref;refine⟨a,ea,λH2 fz=>?_⟩;obtain⟨F2,g2,h2⟩:=Res.fz_of_ow g hr ea fz;exact q v F2 H2 g2 h2⟩
theorem FP.br(h:FP K .fz X e f):FP K .br X e f:=FP.mk λρ d hf=>PE.imp (h.h ρ d hf) λσ H Q ⟨F,r,q⟩=>⟨F,r,λv F' H' g hr=>q v F' H' g (Dat.b g.fh hr)⟩
theorem FP.ob(h:FP K .ow X e f):FP K .br X e f:=h.fz.br
end
noncomputable def gv(i:Nat)(ρ:En):Option D:=match ρ[i]? with
 |some (some (.dat d))=>some d
 |_=>none
noncomputable def gb(i:Nat)(ρ:En):Option D:=match ρ[i]? with
 |some (some (.dat d))=>some d
 |some (some (.ow _ d))=>some d
 |some (some (.bor d))=>some d
 |_=>none
theorem znH{i:Nat}{ρ:En}{d:D}(h:gv i ρ=some d):ρ[i]?=some (some (.dat d)):=by unfold gv at h;split at h<;>first|(cases h;assumption)|cases h
theorem znI{K:Fg}{F H:Hp}{i:Nat}{ρ:En}{σ:St}{d:D}(r:Rel K F H ρ σ)(h:gb i ρ=some d):∃v,σ[i]?=some (some v)/\zO K F H d v:=by
 unfold gb at h;split at h
 ·rename_i e;cases h
  obtain⟨v,h1,h2⟩:=r.dat i _ e;exact⟨v,h1,h2.b r.sub⟩
 ·rename_i e;cases h
  obtain⟨a,h1,h2,h3⟩:=r.own i _ _ e;exact⟨_,h1,h3.b⟩
 ·rename_i e;cases h
  exact r.bor i _ e
 ·cases h
noncomputable def cst(d:D):EO D:=λ_=>some d
section
variable{K:Fg}{X:Cx}
theorem fv(i:Nat){x:Str}{pos:Pos}(hN:X.N[i]?=some x:=by rfl)(hv:Vis X.env.scope x:=by first|exact Or.inl rfl|exact Or.inr (Or.inl rfl)|exact Or.inr (Or.inr rfl))(hd:(x==("__debug__":Str))=false:=by decide)(hcd:(x==("__classdict__":Str))=false:=by decide):FP K .fz X (.Name x pos) (gv i):=FP.mk λρ d hf=>
 PE.imp (yE hN hv hd hcd) λσ H Q ⟨F,r,q⟩=>by obtain⟨v,h1,h2⟩:=r.dat i d (znH hf);exact⟨v,h1,q v F H (zF.refl r.sub) h2⟩
theorem fb(i:Nat){x:Str}{pos:Pos}(hN:X.N[i]?=some x:=by rfl)(hv:Vis X.env.scope x:=by first|exact Or.inl rfl|exact Or.inr (Or.inl rfl)|exact Or.inr (Or.inr rfl))(hd:(x==("__debug__":Str))=false:=by decide)(hcd:(x==("__classdict__":Str))=false:=by decide):FP K .br X (.Name x pos) (gb i):=FP.mk λρ d hf=>
 PE.imp (yE hN hv hd hcd) λσ H Q ⟨F,r,q⟩=>by obtain⟨v,h1,h2⟩:=znI r hf;exact⟨v,h1,q v F H (zF.refl r.sub) h2⟩
theorem zP{i j pos}:FP K .fz X (.Constant (.int i) j pos) (cst (.int i)):=FP.mk λρ d hf=>PE.imp zoW λσ H Q ⟨F,r,q⟩=>by cases hf;exact q (.int i) F H (zF.refl r.sub) (Dat.int (K:=K) (F:=F) i)
theorem fbl{i j pos}:FP K .fz X (.Constant (.bool i) j pos) (cst (.bl i)):=FP.mk λρ d hf=>PE.imp zqL λσ H Q ⟨F,r,q⟩=>by cases hf;exact q (.bl i) F H (zF.refl r.sub) (Dat.bl (K:=K) (F:=F) i)
theorem fnon{j pos}:FP K .fz X (.Constant .none j pos) (cst .non):=FP.mk λρ d hf=>PE.imp zoU λσ H Q ⟨F,r,q⟩=>by cases hf;exact q .non F H (zF.refl r.sub) (Dat.non (K:=K) (F:=F))
theorem xB{i j pos}:FP K .fz X (.Constant (.str i) j pos) (cst (.str i)):=FP.mk λρ d hf=>PE.imp zhg λσ H Q ⟨F,r,q⟩=>by cases hf;exact q (.str i) F H (zF.refl r.sub) (Dat.str (K:=K) (F:=F) i)
end
def Op2(K:Fg)(X:Cx)(f:Value->Value->Sem Value)(md:Md)(p:D->D->Option D):Prop:=
 ∃r:R2,OpR X f r/\∀x y d F H v u Q,p x y=some d->zI F H->zO K F H x v->zO K F H y u->(∀w F' H',zF F H F' H'->Res K md H F' H' d w->Q w H')->r v u H Q
def Ix2(K:Fg)(X:Cx)(md:Md)(p:D->D->Option D):Prop:=
 ∃r:R2,IxR X r/\∀x y d F H v u Q,p x y=some d->zI F H->zO K F H x v->zO K F H y u->(∀w F' H',zF F H F' H'->Res K md H F' H' d w->Q w H')->r v u H Q
noncomputable def c2(p:D->D->Option D)(fa fb:EO D):EO D:=λρ=>(fa ρ).bind λx=>(fb ρ).bind λy=>p x y
noncomputable def c1(p:D->Option D)(fa:EO D):EO D:=λρ=>(fa ρ).bind p
theorem nA{p:D->D->Option D}{fa fb:EO D}{ρ:En}{d:D}(h:c2 p fa fb ρ=some d):∃x y,fa ρ=some x/\fb ρ=some y/\p x y=some d:=by
 unfold c2 at h;cases e1:fa ρ with
 |none=>rw[e1]at h;cases h
 |some x=>
  cases e2:fb ρ with
  |none=>rw[e1,e2]at h;cases h
  |some y=>rw[e1,e2]at h;exact⟨x,y,rfl,rfl,h⟩
theorem zbR{p:D->Option D}{fa:EO D}{ρ:En}{d:D}(h:c1 p fa ρ=some d):∃x,fa ρ=some x/\p x=some d:=by
 unfold c1 at h;cases e1:fa ρ with
 |none=>rw[e1]at h;cases h
 |some x=>rw[e1]at h;exact⟨x,rfl,h⟩
section
variable{K:Fg}{X:Cx}{a b:Expr}{fa fb:EO D}{pos:Pos}{md:Md}{p:D->D->Option D}
theorem two{ta tb:TE}{ρ:En}{x y d:D}{r:R2}(ha:PE X a (rdE K .br ρ x))(hb:PE X b (rdE K .br ρ y))(hr:∀F H v u Q,zI F H->zO K F H x v->zO K F H y u->(∀w F' H',zF F H F' H'->Res K md H F' H' d w->Q w H')->r v u H Q)(σ:St)(H:Hp)(Q:VK)(h:rdE K md ρ d σ H Q):tOp r (rdE K .br ρ x) (rdE K .br ρ y) σ H Q:=by
 obtain⟨F,rl,q⟩:=h;refine⟨F,rl,λv F1 H1 g1 r1=>⟨F1,rl.grow g1,λu F2 H2 g2 r2=>?_⟩⟩;refine hr F2 H2 v u Q g2.fh (zO.mono g2.ff g2.hh r1) r2 λw F3 H3 g3 r3=>?_
 have g:=g1.trans (g2.trans g3);refine q w F3 H3 g ?_;cases md with
 |fz=>exact r3
 |br=>exact r3
 |ow=>
  obtain⟨a,e,h1,h2,h3⟩:=r3;exact⟨a,e,(g1.hh.trans g2.hh).free h1,h2,h3⟩
theorem fop{op:Operator}(o:Op2 K X (binaryOp op) md p)(ha:FP K .br X a fa)(hb:FP K .br X b fb):FP K md X (.BinOp a op b pos) (c2 p fa fb):=FP.mk λρ d hf=>by obtain⟨x,y,e1,e2,e3⟩:=nA hf;obtain⟨r,ho,hr⟩:=o;exact PE.imp (zoS ho (ha.h ρ x e1) (hb.h ρ y e2)) (two (ta:=λ_ _ _=>True) (tb:=λ_ _ _=>True) (ha.h ρ x e1) (hb.h ρ y e2) λF H v u Q s h1 h2 k=>hr x y d F H v u Q e3 s h1 h2 k)
theorem fcmp{op:CmpOp}(o:Op2 K X (compareOp op) md p)(ha:FP K .br X a fa)(hb:FP K .br X b fb)(hm:behindInMarks op b=false):FP K md X (.Compare a [op] [b] pos) (c2 p fa fb):=FP.mk λρ d hf=>by obtain⟨x,y,e1,e2,e3⟩:=nA hf;obtain⟨r,ho,hr⟩:=o;exact PE.imp (zjl ho (ha.h ρ x e1) (hb.h ρ y e2) hm) (two (ta:=λ_ _ _=>True) (tb:=λ_ _ _=>True) (ha.h ρ x e1) (hb.h ρ y e2) λF H v u Q s h1 h2 k=>hr x y d F H v u Q e3 s h1 h2 k)
theorem fix(o:Ix2 K X md p)(ha:FP K .br X a fa)(hb:FP K .br X b fb)(hs:zeR b):FP K md X (.Subscript a b pos) (c2 p fa fb):=FP.mk λρ d hf=>by obtain⟨x,y,e1,e2,e3⟩:=nA hf;obtain⟨r,ho,hr⟩:=o;exact PE.imp (zqK ho (ha.h ρ x e1) (hb.h ρ y e2) hs) (two (ta:=λ_ _ _=>True) (tb:=λ_ _ _=>True) (ha.h ρ x e1) (hb.h ρ y e2) λF H v u Q s h1 h2 k=>hr x y d F H v u Q e3 s h1 h2 k)
end
mutual
noncomputable def eqD:D->D->Option Bool
 | .non,y=>match y with
  | .non=>some true
  | .bl _=>some false
  | .int _=>some false
  | .str _=>some false
  | .tup _=>some false
  | .lst _=>some false
  |_=>none
 | .bl a,y=>match y with
  | .bl b=>some (a==b)
  | .non=>some false
  |_=>none
 | .int a,y=>match y with
  | .int b=>some (a==b)
  | .non=>some false
  | .str _=>some false
  | .tup _=>some false
  |_=>none
 | .str a,y=>match y with
  | .str b=>some (a==b)
  | .non=>some false
  | .int _=>some false
  | .tup _=>some false
  | .lst _=>some false
  |_=>none
 | .tup l,y=>match y with
  | .tup m=>eqL l m
  | .non=>some false
  | .int _=>some false
  | .str _=>some false
  | .lst _=>some false
  |_=>none
 | .lst l,y=>match y with
  | .lst m=>eqL l m
  | .non=>some false
  | .str _=>some false
  | .tup _=>some false
  |_=>none
 | .scr _,_=>none
 | .dic _ _,_=>none
 | .set _,_=>none
 | .exc _ _,_=>none
noncomputable def eqL:List D->List D->Option Bool
 |[],[]=>some true
 |a::l,b::m=>(eqD a b).bind λx=>(eqL l m).map λy=>x&&y
 |[],_::_=>some false
 |_::_,[]=>some false
end
mutual
def dep:D->Nat
 | .tup l=>zU l+1
 | .lst l=>zU l+1
 |_=>1
def zU:List D->Nat
 |[]=>0
 |a::l=>max (dep a) (zU l)
end
theorem zcq:∀{l:List D}{d:D},d∈l->dep d<=zU l
 |_::_,_,h=>by
  rcases List.mem_cons.mp h with rfl|h
  ·rw[zU];exact Nat.le_max_left _ _
  ·rw[zU];exact Nat.le_trans (zcq h) (Nat.le_max_right _ _)
def eAt(l m:List D)(j:Nat):Bool:=match l[j]?,m[j]? with
 |some a,some b=>(eqD a b).getD false
 |_,_=>false
theorem zcc:∀{l m:List D}{b:Bool},eqL l m=some b->
  (∀(j:Nat) (x y:D),l[j]?=some x->m[j]?=some y->eqD x y=some (eAt l m j))/\b=((List.range (min l.length m.length)).all (eAt l m)&&l.length==m.length)
 |[],[],b,h=>by simp[eqL]at h;subst h;simp
 |[],_::_,b,h=>by simp[eqL]at h;subst h;simp
 |_::_,[],b,h=>by simp[eqL]at h;subst h;simp
 |a::l,c::m,b,h=>by
  simp only[eqL]at h;cases e1:eqD a c with
  |none=>rw[e1]at h;cases h
  |some x=>
   cases e2:eqL l m with
   |none=>rw[e1,e2]at h;cases h
   |some y=>
    rw[e1,e2]at h;have hb:(x&&y)=b:=by simpa using h
    obtain⟨h1,h2⟩:=zcc e2;have s0:eAt (a::l) (c::m) 0=x:=by simp[eAt,e1]
    have sS:∀j,eAt (a::l) (c::m) (j+1)=eAt l m j:=λj=>by simp[eAt]
    refine⟨λj p q hp hq=>?_,?_⟩
    ·cases j with
     |zero=>simp at hp hq;subst hp hq;rw[s0];exact e1
     |succ j=>rw[sS];exact h1 j p q (by simpa using hp) (by simpa using hq)
    ·rw[←hb,h2];simp only[List.length_cons];rw[Nat.succ_min_succ,List.range_succ_eq_map,List.all_cons,List.all_map,s0];have e3:(List.range (min l.length m.length)).all (eAt (a::l) (c::m)∘Nat.succ)=(List.range (min l.length m.length)).all (eAt l m):=by congr 1
     rw[e3,Bool.and_assoc]
     congr 2
     simp
section
variable{K:Fg}{F:Hp}
def comp:D->Bool
 | .tup _=>true
 | .lst _=>true
 | .scr _=>true
 | .dic _ _=>true
 | .set _=>true
 |_=>false
theorem Dat.ref{d:D}{v:V}(h:Dat K F d v)(hc:comp d=true):∃a,v=.ref a:=by
 cases d with
 |tup l=>obtain⟨a,_,e,_⟩:=h.tup_inv;exact⟨a,e⟩
 |lst l=>obtain⟨a,_,e,_⟩:=h.lst_inv;exact⟨a,e⟩
 |scr l=>obtain⟨a,e,_⟩:=h.scr_inv;exact⟨a,e⟩
 |dic k l=>obtain⟨a,_,e,_⟩:=h.dic_inv;exact⟨a,e⟩
 |set l=>obtain⟨a,e,_⟩:=h.set_inv;exact⟨a,e⟩
 |_=>cases hc
theorem zpT:∀(n:Nat) (d1 d2 dx:D) (b1 b2:Bool) (v:V),dep d1<=n->Dat K F d1 v->Dat K F d2 v->eqD d1 dx=some b1->eqD d2 dx=some b2->b1=b2:=by
 intro n;induction n with
 |zero=>intro d1 d2 dx b1 b2 v h;cases d1<;>simp[dep]at h
 |succ n ih=>
  have L:∀(l1 l2 lx:List D) (b1 b2:Bool) (vs:List V),zU l1<=n->zD K F l1 vs->zD K F l2 vs->eqL l1 lx=some b1->eqL l2 lx=some b2->b1=b2:=by
   intro l1;induction l1 with
   |nil=>
    intro l2 lx b1 b2 vs _ h1 h2 e1 e2;rw[h1.nil_inv]at h2;cases l2 with
    |nil=>rw[e1]at e2;exact Option.some.inj e2
    |cons _ _=>obtain⟨_,_,e,_⟩:=h2.cons_inv;cases e
   |cons a l1 ih2=>
    intro l2 lx b1 b2 vs hn h1 h2 e1 e2;obtain⟨v,r,rfl,q1,q2⟩:=h1.cons_inv;cases l2 with
    |nil=>have:=h2.nil_inv;cases this
    |cons c l2=>
     obtain⟨v',r',ee,p1,p2⟩:=h2.cons_inv;cases ee
     cases lx with
     |nil=>simp[eqL]at e1 e2;rw[e1,e2]
     |cons x lx=>
      simp only[eqL]at e1 e2;simp only[zU]at hn;cases f1:eqD a x with
      |none=>rw[f1]at e1;cases e1
      |some y1=>
       cases f2:eqD c x with
       |none=>rw[f2]at e2;cases e2
       |some y2=>
        cases g1:eqL l1 lx with
        |none=>rw[f1,g1]at e1;cases e1
        |some z1=>
         cases g2:eqL l2 lx with
         |none=>rw[f2,g2]at e2;cases e2
         |some z2=>
          rw[f1,g1]at e1;rw[f2,g2]at e2;have k1:=ih a c x y1 y2 v (by omega) q1 p1 f1 f2;have k2:=ih2 l2 lx z1 z2 r (by omega) q2 p2 g1 g2;subst k1 k2;rw[e1]at e2;exact Option.some.inj e2
  intro d1 d2 dx b1 b2 v hn h1 h2 e1 e2;cases d1 with
  |non=>rw[h1.non_inv]at h2;cases d2<;>first|(obtain⟨_,_,_,_,z,_⟩:=Dat.exc_inv h2;cases z;done)|(obtain⟨_,z⟩:=Dat.ref h2 rfl;cases z;done)|(simp only[Dat]at h2;cases h2;done)|(simp only[Dat]at h2;(first|cases h2|skip);rw[e1]at e2;exact Option.some.inj e2)|(rw[e1]at e2;exact Option.some.inj e2)
  |bl b=>rw[h1.bl_inv]at h2;cases d2<;>first|(obtain⟨_,_,_,_,z,_⟩:=Dat.exc_inv h2;cases z;done)|(obtain⟨_,z⟩:=Dat.ref h2 rfl;cases z;done)|(simp only[Dat]at h2;cases h2;done)|(simp only[Dat]at h2;(first|cases h2|skip);rw[e1]at e2;exact Option.some.inj e2)|(rw[e1]at e2;exact Option.some.inj e2)
  |int b=>rw[h1.int_inv]at h2;cases d2<;>first|(obtain⟨_,_,_,_,z,_⟩:=Dat.exc_inv h2;cases z;done)|(obtain⟨_,z⟩:=Dat.ref h2 rfl;cases z;done)|(simp only[Dat]at h2;cases h2;done)|(simp only[Dat]at h2;(first|cases h2|skip);rw[e1]at e2;exact Option.some.inj e2)|(rw[e1]at e2;exact Option.some.inj e2)
  |str b=>rw[h1.str_inv]at h2;cases d2<;>first|(obtain⟨_,_,_,_,z,_⟩:=Dat.exc_inv h2;cases z;done)|(obtain⟨_,z⟩:=Dat.ref h2 rfl;cases z;done)|(simp only[Dat]at h2;cases h2;done)|(simp only[Dat]at h2;(first|cases h2|skip);rw[e1]at e2;exact Option.some.inj e2)|(rw[e1]at e2;exact Option.some.inj e2)
  |tup l1=>
   obtain⟨a,vs,rfl,f1,q1⟩:=h1.tup_inv;cases d2 with
   |tup l2=>
    obtain⟨a',vs',z,f2,q2⟩:=h2.tup_inv;cases z
    rw[f1]at f2;cases f2
    simp only[dep]at hn;cases dx<;>first|(simp only[eqD]at e1 e2;exact L l1 l2 _ b1 b2 vs (by omega) q1 q2 e1 e2)|(simp only[eqD]at e1 e2;cases e1;cases e2;rfl)|(simp only[eqD]at e1;cases e1)
   |lst l2=>obtain⟨a',vs',z,f2,q2⟩:=h2.lst_inv;cases z;rw[f1]at f2;cases f2
   |scr l2=>simp[eqD]at e2
   |dic k l2=>simp[eqD]at e2
   |set l2=>simp[eqD]at e2
   |exc c d=>simp[eqD]at e2
   |_=>simp only[Dat]at h2;cases h2
  |lst l1=>
   obtain⟨a,vs,rfl,f1,q1⟩:=h1.lst_inv;cases d2 with
   |lst l2=>
    obtain⟨a',vs',z,f2,q2⟩:=h2.lst_inv;cases z
    rw[f1]at f2;cases f2
    simp only[dep]at hn;cases dx<;>first|(simp only[eqD]at e1 e2;exact L l1 l2 _ b1 b2 vs (by omega) q1 q2 e1 e2)|(simp only[eqD]at e1 e2;cases e1;cases e2;rfl)|(simp only[eqD]at e1;cases e1)
   |tup l2=>obtain⟨a',vs',z,f2,q2⟩:=h2.tup_inv;cases z;rw[f1]at f2;cases f2
   |scr l2=>simp[eqD]at e2
   |dic k l2=>simp[eqD]at e2
   |set l2=>simp[eqD]at e2
   |exc c d=>simp[eqD]at e2
   |_=>simp only[Dat]at h2;cases h2
  |scr l=>simp[eqD]at e1
  |dic k l=>simp[eqD]at e1
  |set l=>simp[eqD]at e1
  |exc c d=>simp[eqD]at e1
end
section
variable{X:Cx}{pins:AO}{σ:St}{H F:Hp}{s:Shared}{K:Fg}
theorem zff{d1 d2:D}{b:Bool}{v:V}(h1:Dat K F d1 v)(h2:Dat K F d2 v)(e:eqD d1 d2=some b):b=true:=by
 have key:∀(n:Nat) (d1 d2:D) (b:Bool) (v:V),dep d1<=n->Dat K F d1 v->Dat K F d2 v->eqD d1 d2=some b->b=true:=by
  intro n;induction n with
  |zero=>intro d1 d2 b v h;cases d1<;>simp[dep]at h
  |succ n ih=>
   have L:∀(l1 l2:List D) (b:Bool) (vs:List V),zU l1<=n->zD K F l1 vs->zD K F l2 vs->eqL l1 l2=some b->b=true:=by
    intro l1;induction l1 with
    |nil=>
     intro l2 b vs _ h1 h2 e;rw[h1.nil_inv]at h2;cases l2 with
     |nil=>simp[eqL]at e;exact e
     |cons _ _=>obtain⟨_,_,z,_⟩:=h2.cons_inv;cases z
    |cons a l1 ih2=>
     intro l2 b vs hn h1 h2 e;obtain⟨v,r,rfl,q1,q2⟩:=h1.cons_inv;cases l2 with
     |nil=>have:=h2.nil_inv;cases this
     |cons c l2=>
      obtain⟨v',r',ee,p1,p2⟩:=h2.cons_inv;cases ee
      simp only[eqL]at e;simp only[zU]at hn;cases f1:eqD a c with
      |none=>rw[f1]at e;cases e
      |some y1=>
       cases g1:eqL l1 l2 with
       |none=>rw[f1,g1]at e;cases e
       |some z1=>
        rw[f1,g1]at e;have e':(y1&&z1)=b:=by simpa using e
        rw[←e',ih a c y1 v (by omega) q1 p1 f1,ih2 l2 z1 r (by omega) q2 p2 g1];rfl
   intro d1 d2 b v hn h1 h2 e;cases d1 with
   |tup l1=>
    obtain⟨a,vs,rfl,f1,q1⟩:=h1.tup_inv;cases d2 with
    |tup l2=>
     obtain⟨a',vs',z,f2,q2⟩:=h2.tup_inv;cases z
     rw[f1]at f2;cases f2
     simp only[dep]at hn;simp only[eqD]at e;exact L l1 l2 b vs (by omega) q1 q2 e
    |lst l2=>obtain⟨a',vs',z,f2,q2⟩:=h2.lst_inv;cases z;rw[f1]at f2;cases f2
    |non=>have:=h2.non_inv;cases this
    |int _=>have:=h2.int_inv;cases this
    |str _=>have:=h2.str_inv;cases this
    |_=>simp[eqD]at e
   |lst l1=>
    obtain⟨a,vs,rfl,f1,q1⟩:=h1.lst_inv;cases d2 with
    |lst l2=>
     obtain⟨a',vs',z,f2,q2⟩:=h2.lst_inv;cases z
     rw[f1]at f2;cases f2
     simp only[dep]at hn;simp only[eqD]at e;exact L l1 l2 b vs (by omega) q1 q2 e
    |tup l2=>obtain⟨a',vs',z,f2,q2⟩:=h2.tup_inv;cases z;rw[f1]at f2;cases f2
    |non=>have:=h2.non_inv;cases this
    |int _=>have:=h2.int_inv;cases this
    |str _=>have:=h2.str_inv;cases this
    |_=>simp[eqD]at e
   |non=>
    have z:=h1.non_inv;subst z;cases d2<;>first|(obtain⟨_,_,_,_,z,_⟩:=Dat.exc_inv h2;cases z;done)|(simp[eqD]at e;exact e)|(obtain⟨_,z⟩:=Dat.ref h2 rfl;cases z;done)|(simp only[Dat]at h2;cases h2;done)
   |bl x=>
    have z:=h1.bl_inv;subst z;cases d2 with
    |bl y=>have z:=h2.bl_inv;cases z;simp[eqD]at e;exact e
    |non=>have z:=h2.non_inv;cases z
    |_=>simp[eqD]at e
   |int x=>
    have z:=h1.int_inv;subst z;cases d2 with
    |int y=>have z:=h2.int_inv;cases z;simp[eqD]at e;exact e
    |non=>have z:=h2.non_inv;cases z
    |str _=>have z:=h2.str_inv;cases z
    |tup _=>obtain⟨_,z⟩:=Dat.ref h2 rfl;cases z
    |_=>simp[eqD]at e
   |str x=>
    have z:=h1.str_inv;subst z;cases d2 with
    |str y=>have z:=h2.str_inv;cases z;simp[eqD]at e;exact e
    |non=>have z:=h2.non_inv;cases z
    |int _=>have z:=h2.int_inv;cases z
    |tup _=>obtain⟨_,z⟩:=Dat.ref h2 rfl;cases z
    |lst _=>obtain⟨_,z⟩:=Dat.ref h2 rfl;cases z
    |_=>simp[eqD]at e
   |_=>simp[eqD]at e
 exact key _ d1 d2 b v (Nat.le_refl _) h1 h2 e
theorem Inv.tupAt(I:Inv X pins σ H s){a:Addr}{vs:List V}(h:H a=some (.tup vs)):∃its:List Value,zL vs its/\s.heap.IsTuple a its.toArray:=by obtain⟨its,r,p,_⟩:=I.tuple (SqT.of h);exact⟨its,r,p⟩
theorem Inv.lstAt(I:Inv X pins σ H s){a:Addr}{vs:List V}(h:H a=some (.lst vs)):∃its:List Value,zL vs its/\s.heap.IsList a its.toArray:=by obtain⟨its,r,p,_⟩:=I.list (SqL.of h);exact⟨its,r,p.isList⟩
theorem gU{l:List D}{vs:List V}{its:List Value}(h:zD K F l vs)(r:zL vs its){j:Nat}(hj:j<its.toArray.size):∃d v,l[j]?=some d/\vs[j]?=some v/\Dat K F d v/\zQ v its.toArray[j]:=by
 have hl:=r.length;have hj':j<vs.length:=by rw[hl];simpa using hj
 obtain⟨u,hu,ru⟩:=r.get (List.getElem?_eq_getElem hj');obtain⟨d,hd,hD⟩:=h.get' (List.getElem?_eq_getElem hj');refine⟨d,vs[j],hd,List.getElem?_eq_getElem hj',hD,?_⟩;have e:its.toArray[j]=u:=by have:its[j]?=some u:=hu;rw[List.getElem?_eq_getElem (by simpa using hj)]at this;simpa using Option.some.inj this
 rw[e];exact ru
theorem zcb(A:Around):A.in1.units<=A.units+1:=by have:=(zW.in1 (k:=0) (A:=A));exact Nat.le_refl _
theorem zkd(I:Inv X pins σ H s)(sub:zI F H):∀(n:Nat) (d1 d2:D) (b:Bool) (v1 v2:V) (u1 u2:Value) (A:Around),dep d1<=n->eqD d1 d2=some b->Dat K F d1 v1->Dat K F d2 v2->zQ v1 u1->zQ v2 u2->A.units+n<cLine->SeqAt.EqAt A s u1 u2 b:=by
 intro n;induction n with
 |zero=>intro d1 d2 b v1 v2 u1 u2 A h;cases d1<;>simp[dep]at h
 |succ n ih=>
  intro d1 d2 b v1 v2 u1 u2 A hn e h1 h2 r1 r2 hu;have hu0:A.units<cLine:=by omega
  have hin:A.in1.units+n<cLine:=by have:=zcb A;omega
  cases d1 with
  |non=>
   rw[h1.non_inv]at r1;cases r1
   cases d2 with
   |non=>simp[eqD]at e;subst e;rw[h2.non_inv]at r2;cases r2;exact SeqAt.EqAt.same _
   |bl x=>simp[eqD]at e;subst e;rw[h2.bl_inv]at r2;cases r2;exact SeqAt.EqAt.none_bool x
   |int x=>simp[eqD]at e;subst e;rw[h2.int_inv]at r2;obtain⟨t,rfl⟩:=r2;exact SeqAt.EqAt.none_int x t
   |str x=>simp[eqD]at e;subst e;rw[h2.str_inv]at r2;obtain⟨t,rfl⟩:=r2;exact SeqAt.EqAt.none_str x t
   |tup l=>simp[eqD]at e;subst e;obtain⟨a,vs,rfl,f,_⟩:=h2.tup_inv;cases r2;obtain⟨its,_,p⟩:=Inv.tupAt I (sub _ _ f);exact SeqAt.EqAt.none_tuple p hu0
   |lst l=>simp[eqD]at e;subst e;obtain⟨a,vs,rfl,f,_⟩:=h2.lst_inv;cases r2;obtain⟨its,_,p⟩:=Inv.lstAt I (sub _ _ f);exact SeqAt.EqAt.none_list p hu0
   |_=>simp[eqD]at e
  |bl y=>
   rw[h1.bl_inv]at r1;cases r1
   cases d2 with
   |non=>simp[eqD]at e;subst e;rw[h2.non_inv]at r2;cases r2;exact SeqAt.EqAt.bool_none y
   |bl x=>simp only[eqD,Option.some.injEq]at e;subst e;rw[h2.bl_inv]at r2;cases r2;exact SeqAt.EqAt.bool_bool y x
   |_=>simp[eqD]at e
  |int y=>
   rw[h1.int_inv]at r1;obtain⟨t',rfl⟩:=r1;cases d2 with
   |non=>simp[eqD]at e;subst e;rw[h2.non_inv]at r2;cases r2;exact SeqAt.EqAt.int_none y t'
   |int x=>simp only[eqD,Option.some.injEq]at e;subst e;rw[h2.int_inv]at r2;obtain⟨t,rfl⟩:=r2;exact SeqAt.EqAt.int_int y t' x t
   |str x=>simp[eqD]at e;subst e;rw[h2.str_inv]at r2;obtain⟨t,rfl⟩:=r2;exact SeqAt.EqAt.int_str y t' x t
   |tup l=>simp[eqD]at e;subst e;obtain⟨a,vs,rfl,f,_⟩:=h2.tup_inv;cases r2;obtain⟨its,_,p⟩:=Inv.tupAt I (sub _ _ f);exact SeqAt.EqAt.int_tuple y t' p hu0
   |_=>simp[eqD]at e
  |str y=>
   rw[h1.str_inv]at r1;obtain⟨t',rfl⟩:=r1;cases d2 with
   |non=>simp[eqD]at e;subst e;rw[h2.non_inv]at r2;cases r2;exact SeqAt.EqAt.str_none y t'
   |int x=>simp[eqD]at e;subst e;rw[h2.int_inv]at r2;obtain⟨t,rfl⟩:=r2;exact SeqAt.EqAt.str_int y t' x t
   |str x=>simp only[eqD,Option.some.injEq]at e;subst e;rw[h2.str_inv]at r2;obtain⟨t,rfl⟩:=r2;exact SeqAt.EqAt.str_str y t' x t
   |tup l=>simp[eqD]at e;subst e;obtain⟨a,vs,rfl,f,_⟩:=h2.tup_inv;cases r2;obtain⟨its,_,p⟩:=Inv.tupAt I (sub _ _ f);exact SeqAt.EqAt.str_tuple y t' p hu0
   |lst l=>simp[eqD]at e;subst e;obtain⟨a,vs,rfl,f,_⟩:=h2.lst_inv;cases r2;obtain⟨its,_,p⟩:=Inv.lstAt I (sub _ _ f);exact SeqAt.EqAt.str_list y t' p hu0
   |_=>simp[eqD]at e
  |tup l1=>
   obtain⟨a,vs,rfl,f1,q1⟩:=id h1.tup_inv;cases r1
   obtain⟨its,rv,p⟩:=Inv.tupAt I (sub _ _ f1);cases d2 with
   |non=>simp[eqD]at e;subst e;rw[h2.non_inv]at r2;cases r2;exact SeqAt.EqAt.tuple_none p hu0
   |int x=>simp[eqD]at e;subst e;rw[h2.int_inv]at r2;obtain⟨t,rfl⟩:=r2;exact SeqAt.EqAt.tuple_int x t p hu0
   |str x=>simp[eqD]at e;subst e;rw[h2.str_inv]at r2;obtain⟨t,rfl⟩:=r2;exact SeqAt.EqAt.tuple_str x t p hu0
   |tup l2=>
    obtain⟨a2,vs2,rfl,f2,q2⟩:=id h2.tup_inv;cases r2
    by_cases ha:a=a2
    ·subst ha;rw[zff h1 h2 e];exact SeqAt.EqAt.same _
    obtain⟨its2,rv2,p2⟩:=Inv.tupAt I (sub _ _ f2);simp only[eqD]at e;obtain⟨hp,hb⟩:=zcc e;simp only[dep]at hn;have he:∀(j:Nat) (h1:j<its.toArray.size) (h2:j<its2.toArray.size),SeqAt.EqAt A.in1 s its.toArray[j] its2.toArray[j] (eAt l1 l2 j):=λj k1 k2=>by
     obtain⟨x,v,hx,_,dx,rx⟩:=gU q1 rv k1;obtain⟨y,w,hy,_,dy,ry⟩:=gU q2 rv2 k2
     have:=zcq (List.mem_of_getElem? hx);exact ih x y _ v w _ _ A.in1 (by omega) (hp j x y hx hy) dx dy rx ry hin
    have z:=SeqAt.RcAt.tuples p p2 hu0 he;have e1:its.toArray.size=l1.length:=by rw[List.size_toArray,←rv.length,q1.length]
    have e2:its2.toArray.size=l2.length:=by rw[List.size_toArray,←rv2.length,q2.length]
    rw[e1,e2]at z;rw[hb];exact SeqAt.EqAt.of_refs ha z
   |lst l2=>simp[eqD]at e;subst e;obtain⟨a2,vs2,rfl,f2,_⟩:=h2.lst_inv;cases r2;obtain⟨its2,_,p2⟩:=Inv.lstAt I (sub _ _ f2);exact SeqAt.EqAt.tuple_list p p2 hu0
   |_=>simp[eqD]at e
  |lst l1=>
   obtain⟨a,vs,rfl,f1,q1⟩:=id h1.lst_inv;cases r1
   obtain⟨its,rv,p⟩:=Inv.lstAt I (sub _ _ f1);cases d2 with
   |non=>simp[eqD]at e;subst e;rw[h2.non_inv]at r2;cases r2;exact SeqAt.EqAt.list_none p hu0
   |str x=>simp[eqD]at e;subst e;rw[h2.str_inv]at r2;obtain⟨t,rfl⟩:=r2;exact SeqAt.EqAt.list_str x t p hu0
   |tup l2=>simp[eqD]at e;subst e;obtain⟨a2,vs2,rfl,f2,_⟩:=h2.tup_inv;cases r2;obtain⟨its2,_,p2⟩:=Inv.tupAt I (sub _ _ f2);exact SeqAt.EqAt.list_tuple p p2 hu0
   |lst l2=>
    obtain⟨a2,vs2,rfl,f2,q2⟩:=id h2.lst_inv;cases r2
    by_cases ha:a=a2
    ·subst ha;rw[zff h1 h2 e];exact SeqAt.EqAt.same _
    obtain⟨its2,rv2,p2⟩:=Inv.lstAt I (sub _ _ f2);simp only[eqD]at e;obtain⟨hp,hb⟩:=zcc e;simp only[dep]at hn;have he:∀(j:Nat) (h1:j<its.toArray.size) (h2:j<its2.toArray.size),SeqAt.EqAt A.in1 s its.toArray[j] its2.toArray[j] (eAt l1 l2 j):=λj k1 k2=>by
     obtain⟨x,v,hx,_,dx,rx⟩:=gU q1 rv k1;obtain⟨y,w,hy,_,dy,ry⟩:=gU q2 rv2 k2
     have:=zcq (List.mem_of_getElem? hx);exact ih x y _ v w _ _ A.in1 (by omega) (hp j x y hx hy) dx dy rx ry hin
    have e1:its.toArray.size=l1.length:=by rw[List.size_toArray,←rv.length,q1.length]
    have e2:its2.toArray.size=l2.length:=by rw[List.size_toArray,←rv2.length,q2.length]
    by_cases hsz:l1.length=l2.length
    ·have z:=SeqAt.RcAt.lists p p2 (by rw[e1,e2,hsz]) hu0 he;rw[e1]at z;rw[hb,hsz,Nat.min_self,beq_self_eq_true,Bool.and_true,←hsz];exact SeqAt.EqAt.of_refs ha z
    ·have z:=SeqAt.RcAt.lists_lengths p p2 (by rw[e1,e2];simpa using hsz) hu0;have hb0:b=false:=by
      rw[hb]
      have:(l1.length==l2.length)=false:=by simpa using hsz
      rw[this,Bool.and_false]
     rw[hb0];exact SeqAt.EqAt.of_refs ha z
   |_=>simp[eqD]at e
  |_=>simp[eqD]at e
end
abbrev lim:Nat:=1000000
theorem vT{n:Nat}(h:n<=lim):n<=sizeLine:=by rw[sizeLine_eq];unfold lim at h;omega
theorem zfx{n:Nat}(h:n<=lim):n<sizeLine:=by rw[sizeLine_eq];unfold lim at h;omega
section
variable{K:Fg}{F H F' H':Hp}{v:V}
theorem zO.non_inv(h:zO K F H .non v):v=.non:=Dat.non_inv (K:=K) (F:=F) h
theorem zO.bl_inv{i:Bool}(h:zO K F H (.bl i) v):v=.bl i:=Dat.bl_inv (K:=K) (F:=F) h
theorem zO.int_inv{i:Int}(h:zO K F H (.int i) v):v=.int i:=Dat.int_inv (K:=K) (F:=F) h
theorem zO.str_inv{i:Str}(h:zO K F H (.str i) v):v=.str i:=Dat.str_inv (K:=K) (F:=F) h
theorem zO.tup_inv{l:List D}(h:zO K F H (.tup l) v):∃a vs,v=.ref a/\F a=some (.tup vs)/\zD K F l vs:=Dat.tup_inv (K:=K) (F:=F) h
theorem zO.scr_inv{l:List Int}(h:zO K F H (.scr l) v):∃a,v=.ref a/\SqL K F a (l.map V.int):=Dat.scr_inv (K:=K) (F:=F) h
theorem zO.lst_inv{l:List D}(h:zO K F H (.lst l) v):∃a vs,v=.ref a/\H a=some (.lst vs)/\zD K F l vs:=h
theorem zO.dic_inv{ks:List KD}{l:List D}(h:zO K F H (.dic ks l) v):∃a vs,v=.ref a/\gB H a ks vs/\zD K F l vs:=h
theorem zO.exc_inv{c:Str}{d:D}(h:zO K F H (.exc c d) v):∃a C da u,v=.ref a/\F a=some (xS a C da)/\PySem.W.nsIn K mainGlobals c=some (some (.ref C))/\F da=some (.xd [(kD c,u)])/\Dat K F d u:=Dat.exc_inv (K:=K) (F:=F) (c:=c) (d:=d) (v:=v) h
theorem Res.bl(b:Bool):Res K .fz H F' H' (.bl b) (.bl b):=Dat.bl (K:=K) (F:=F') b
theorem Res.int(b:Int):Res K .fz H F' H' (.int b) (.int b):=Dat.int (K:=K) (F:=F') b
theorem Res.str(b:Str):Res K .fz H F' H' (.str b) (.str b):=Dat.str (K:=K) (F:=F') b
end
noncomputable def qE:D->D->Option D
 | .int a,.int b=>some (.int (a+b))
 | .str a,.str b=>if a.length+b.length<=lim then some (.str (a++b))else none
 | .tup a,.tup b=>if a.length+b.length<=lim then some (.tup (a++b))else none
 | .lst a,.lst b=>if a.length+b.length<=lim then some (.lst (a++b))else none
 |_,_=>none
noncomputable def vC:D->D->Option D
 | .lst a,.lst b=>if a.length+b.length<=lim then some (.lst (a++b))else none
 |_,_=>none
noncomputable def xG:D->D->Option D
 | .int a,.int b=>some (.int (a - b))
 |_,_=>none
def zhS(a b:Int):Prop:=(-(2^64)<a/\a<2^64)\/(-(2^64)<b/\b<2^64)
def znw(b:Int):Prop:=0<b/\b<1073741824
def vN(b:Int):Prop:=0<b
def zpl(a b:Int):Prop:=0<=b/\b<=1000000/\a.natAbs<2^64
theorem wN{a b:Int}(h1:-18446744073709551616<b)(h2:b<18446744073709551616):zhS a b:=.inr ⟨h1,h2⟩
theorem zbO{a b:Int}(h1:-18446744073709551616<a)(h2:a<18446744073709551616):zhS a b:=.inl ⟨h1,h2⟩
theorem zaW{b:Int}(h1:0<b)(h2:b<1073741824):znw b:=⟨h1,h2⟩
theorem zaV{b:Int}(h1:0<b):vN b:=h1
theorem zaU{a b:Int}(h1:0<=b)(h2:b<=1000000)(h3:a.natAbs<18446744073709551616):zpl a b:=⟨h1,h2,h3⟩
open Classical in
noncomputable def kQ:D->D->Option D
 | .int a,.int b=>if zhS a b then some (.int (a*b))else none
 |_,_=>none
open Classical in
noncomputable def jI:D->D->Option D
 | .int a,.int b=>if znw b then some (.int (a/b))else none
 |_,_=>none
open Classical in
noncomputable def qI:D->D->Option D
 | .int a,.int b=>if vN b then some (.int (a%b))else none
 |_,_=>none
open Classical in
noncomputable def wI:D->D->Option D
 | .int a,.int b=>if zpl a b then some (.int (a^b.toNat))else none
 |_,_=>none
section
variable{K:Fg}{X:Cx}
theorem jD{α:Type}{c:Prop}{_:Decidable c}{x y:α}(h:(if c then some x else none)=some y):c/\x=y:=by
 by_cases hc:c
 ·rw[if_pos hc]at h;exact⟨hc,Option.some.inj h⟩
 ·rw[if_neg hc]at h;cases h
theorem qP(hK:X.K=K:=by rfl):Op2 K X (binaryOp .Add) .fz qE:=by
 subst hK;refine⟨_,zpi.or (zhR.or (znu.or zmx)),λx y d F H v u Q e s h1 h2 k=>?_⟩;unfold qE at e;split at e
 ·cases e
  refine .inl ⟨_,_,h1.int_inv,h2.int_inv,k _ F H (zF.refl s) (Res.int _)⟩
 ·obtain⟨hz,rfl⟩:=jD e;exact .inr (.inl ⟨_,_,h1.str_inv,h2.str_inv,vT hz,k _ F H (zF.refl s) (Res.str _)⟩)
 ·obtain⟨hz,rfl⟩:=jD e;obtain⟨a,xs,rfl,f1,q1⟩:=h1.tup_inv;obtain⟨b,ys,rfl,f2,q2⟩:=h2.tup_inv;refine .inr (.inr (.inl ⟨a,b,xs,ys,rfl,rfl,SqT.of (s _ _ f1),SqT.of (s _ _ f2),by rw[q1.length,q2.length];exact vT hz,λz=>?_,λ_ z=>?_,λ_ _ p hp=>?_⟩))
  ·subst z;refine k _ F H (zF.refl s) ?_
   have:_=([]:List D):=List.eq_nil_of_length_eq_zero (by rw[←q1.length];rfl);rw[this];exact h2
  ·subst z;refine k _ F H (zF.refl s) ?_
   have:_=([]:List D):=List.eq_nil_of_length_eq_zero (by rw[←q2.length];rfl);rw[this,List.append_nil];exact h1
  ·have g:=zF.frozen (o:=.tup (xs++ys)) s hp;exact k _ _ _ g (Dat.tup (K:=X.K) qF ((q1.mono g.ff).append (q2.mono g.ff)))
 ·obtain⟨hz,rfl⟩:=jD e;obtain⟨a,xs,rfl,f1,q1⟩:=h1;obtain⟨b,ys,rfl,f2,q2⟩:=h2;refine .inr (.inr (.inr ⟨a,b,xs,ys,rfl,rfl,f1,f2,by rw[q1.length,q2.length];exact vT hz,λp hp=>?_⟩));have g:=zF.frozen (o:=.lst (xs++ys)) s hp;exact k _ _ _ g (Dat.lst (K:=X.K) qF ((q1.mono g.ff).append (q2.mono g.ff)))
 ·cases e
theorem znp(hK:X.K=K:=by rfl):Op2 K X (binaryOp .Add) .ow vC:=by
 subst hK;refine⟨_,zmx,λx y d F H v u Q e s h1 h2 k=>?_⟩;unfold vC at e;split at e
 ·obtain⟨hz,rfl⟩:=jD e;obtain⟨a,xs,rfl,f1,q1⟩:=h1;obtain⟨b,ys,rfl,f2,q2⟩:=h2;refine⟨a,b,xs,ys,rfl,rfl,f1,f2,by rw[q1.length,q2.length];exact vT hz,λp hp=>?_⟩;exact k _ _ _ (zF.fresh s hp) ⟨p,rfl,hp,s.free hp,xs++ys,qF,q1.append q2⟩
 ·cases e
theorem zlk{f:Value->Value->Sem Value}{C:Int->Int->Prop}{g:Int->Int->Int}{p:D->D->Option D}(o:OpR X f (rI C λi j=>.int (g i j)))(h:∀x y d,p x y=some d->∃i j,x=.int i/\y=.int j/\C i j/\d=.int (g i j)):Op2 K X f .fz p:=by refine⟨_,o,λx y d F H v u Q e s h1 h2 k=>?_⟩;obtain⟨i,j,rfl,rfl,c,rfl⟩:=h x y d e;exact⟨i,j,h1.int_inv,h2.int_inv,c,k _ F H (zF.refl s) (Res.int _)⟩
theorem zlj:Op2 K X (binaryOp .Sub) .fz xG:=by
 refine⟨_,zoZ,λx y d F H v u Q e s h1 h2 k=>?_⟩;unfold xG at e;split at e
 ·cases e
  exact⟨_,_,h1.int_inv,h2.int_inv,k _ F H (zF.refl s) (Res.int _)⟩
 ·cases e
theorem wL:Op2 K X (binaryOp .Mult) .fz kQ:=zlk zpc λx y d e=>by
 unfold kQ at e;split at e
 ·obtain⟨hz,rfl⟩:=jD e;exact⟨_,_,rfl,rfl,hz,rfl⟩
 ·cases e
theorem kP:Op2 K X (binaryOp .FloorDiv) .fz jI:=zlk zns λx y d e=>by
 unfold jI at e;split at e
 ·obtain⟨hz,rfl⟩:=jD e;exact⟨_,_,rfl,rfl,hz,rfl⟩
 ·cases e
theorem qY:Op2 K X (binaryOp .Mod) .fz qI:=zlk zpd λx y d e=>by
 unfold qI at e;split at e
 ·obtain⟨hz,rfl⟩:=jD e;exact⟨_,_,rfl,rfl,hz,rfl⟩
 ·cases e
theorem zqN:Op2 K X (binaryOp .Pow) .fz wI:=zlk zpa λx y d e=>by
 unfold wI at e;split at e
 ·obtain⟨hz,rfl⟩:=jD e;exact⟨_,_,rfl,rfl,hz,rfl⟩
 ·cases e
end
section
variable{X:Cx}{pins:AO}{σ:St}{H F:Hp}{s:Shared}{K:Fg}
theorem zmK(I:Inv X pins σ H s)(sub:zI F H)(d1 d2:D)(b:Bool)(v1 v2:V)(u1 u2:Value)(n:Nat)(hn:dep d1<=n)(e:eqD d1 d2=some b)(h1:zO K F H d1 v1)(h2:zO K F H d2 v2)(r1:zQ v1 u1)(r2:zQ v2 u2)(hu:X.A.units+n<cLine):SeqAt.RcAt X.A s u1 u2 b/\SeqAt.RcNeAt X.A s u1 u2 (!b):=by
 have d0:0<dep d1:=by cases d1<;>simp[dep]
 have hu0:X.A.units<cLine:=by omega
 have hin:X.A.in1.units+(n - 1)<cLine:=by have:=zcb X.A;omega
 cases d1 with
 |non=>
  rw[h1.non_inv]at r1;cases r1
  cases d2 with
  |non=>simp[eqD]at e;subst e;rw[h2.non_inv]at r2;cases r2;exact⟨SeqAt.RcAt.none_none,SeqAt.RcNeAt.none_none⟩
  |bl x=>simp[eqD]at e;subst e;rw[h2.bl_inv]at r2;cases r2;exact⟨SeqAt.RcAt.none_bool x,SeqAt.RcNeAt.none_bool x⟩
  |int x=>simp[eqD]at e;subst e;rw[h2.int_inv]at r2;obtain⟨t,rfl⟩:=r2;exact⟨SeqAt.RcAt.none_int x t,SeqAt.RcNeAt.none_int x t⟩
  |str x=>simp[eqD]at e;subst e;rw[h2.str_inv]at r2;obtain⟨t,rfl⟩:=r2;exact⟨SeqAt.RcAt.none_str x t,SeqAt.RcNeAt.none_str x t⟩
  |tup l=>simp[eqD]at e;subst e;obtain⟨a,vs,rfl,f,_⟩:=h2.tup_inv;cases r2;obtain⟨its,_,p⟩:=Inv.tupAt I (sub _ _ f);exact⟨SeqAt.RcAt.none_tuple p hu0,SeqAt.RcNeAt.none_tuple p hu0⟩
  |lst l=>simp[eqD]at e;subst e;obtain⟨a,vs,rfl,f,_⟩:=h2.lst_inv;cases r2;obtain⟨its,_,p⟩:=Inv.lstAt I f;exact⟨SeqAt.RcAt.none_list p hu0,SeqAt.RcNeAt.none_list p hu0⟩
  |_=>simp[eqD]at e
 |bl y=>
  rw[h1.bl_inv]at r1;cases r1
  cases d2 with
  |non=>simp[eqD]at e;subst e;rw[h2.non_inv]at r2;cases r2;exact⟨SeqAt.RcAt.bool_none y,SeqAt.RcNeAt.bool_none y⟩
  |bl x=>simp only[eqD,Option.some.injEq]at e;subst e;rw[h2.bl_inv]at r2;cases r2;exact⟨SeqAt.RcAt.bool_bool y x,SeqAt.RcNeAt.bool_bool y x⟩
  |_=>simp[eqD]at e
 |int y=>
  rw[h1.int_inv]at r1;obtain⟨t',rfl⟩:=r1;cases d2 with
  |non=>simp[eqD]at e;subst e;rw[h2.non_inv]at r2;cases r2;exact⟨SeqAt.RcAt.int_none y t',SeqAt.RcNeAt.int_none y t'⟩
  |int x=>simp only[eqD,Option.some.injEq]at e;subst e;rw[h2.int_inv]at r2;obtain⟨t,rfl⟩:=r2;exact⟨SeqAt.RcAt.int_int y t' x t,SeqAt.RcNeAt.int_int y t' x t⟩
  |str x=>simp[eqD]at e;subst e;rw[h2.str_inv]at r2;obtain⟨t,rfl⟩:=r2;exact⟨SeqAt.RcAt.int_str y t' x t,SeqAt.RcNeAt.int_str y t' x t⟩
  |tup l=>simp[eqD]at e;subst e;obtain⟨a,vs,rfl,f,_⟩:=h2.tup_inv;cases r2;obtain⟨its,_,p⟩:=Inv.tupAt I (sub _ _ f);exact⟨SeqAt.RcAt.int_tuple y t' p hu0,SeqAt.RcNeAt.int_tuple y t' p hu0⟩
  |_=>simp[eqD]at e
 |str y=>
  rw[h1.str_inv]at r1;obtain⟨t',rfl⟩:=r1;cases d2 with
  |non=>simp[eqD]at e;subst e;rw[h2.non_inv]at r2;cases r2;exact⟨SeqAt.RcAt.str_none y t',SeqAt.RcNeAt.str_none y t'⟩
  |int x=>simp[eqD]at e;subst e;rw[h2.int_inv]at r2;obtain⟨t,rfl⟩:=r2;exact⟨SeqAt.RcAt.str_int y t' x t,SeqAt.RcNeAt.str_int y t' x t⟩
  |str x=>simp only[eqD,Option.some.injEq]at e;subst e;rw[h2.str_inv]at r2;obtain⟨t,rfl⟩:=r2;exact⟨SeqAt.RcAt.str_str y t' x t,SeqAt.RcNeAt.str_str y t' x t⟩
  |tup l=>simp[eqD]at e;subst e;obtain⟨a,vs,rfl,f,_⟩:=h2.tup_inv;cases r2;obtain⟨its,_,p⟩:=Inv.tupAt I (sub _ _ f);exact⟨SeqAt.RcAt.str_tuple y t' p hu0,SeqAt.RcNeAt.str_tuple y t' p hu0⟩
  |lst l=>simp[eqD]at e;subst e;obtain⟨a,vs,rfl,f,_⟩:=h2.lst_inv;cases r2;obtain⟨its,_,p⟩:=Inv.lstAt I f;exact⟨SeqAt.RcAt.str_list y t' p hu0,SeqAt.RcNeAt.str_list y t' p hu0⟩
  |_=>simp[eqD]at e
 |tup l1=>
  obtain⟨a,vs,rfl,f1,q1⟩:=h1.tup_inv;cases r1
  obtain⟨its,rv,p⟩:=Inv.tupAt I (sub _ _ f1);cases d2 with
  |non=>simp[eqD]at e;subst e;rw[h2.non_inv]at r2;cases r2;exact⟨SeqAt.RcAt.tuple_none p hu0,SeqAt.RcNeAt.tuple_none p hu0⟩
  |int x=>simp[eqD]at e;subst e;rw[h2.int_inv]at r2;obtain⟨t,rfl⟩:=r2;exact⟨SeqAt.RcAt.tuple_int x t p hu0,SeqAt.RcNeAt.tuple_int x t p hu0⟩
  |str x=>simp[eqD]at e;subst e;rw[h2.str_inv]at r2;obtain⟨t,rfl⟩:=r2;exact⟨SeqAt.RcAt.tuple_str x t p hu0,SeqAt.RcNeAt.tuple_str x t p hu0⟩
  |tup l2=>
   obtain⟨a2,vs2,rfl,f2,q2⟩:=h2.tup_inv;cases r2
   obtain⟨its2,rv2,p2⟩:=Inv.tupAt I (sub _ _ f2);simp only[eqD]at e;obtain⟨hp,hb⟩:=zcc e;simp only[dep]at hn;have he:∀(j:Nat) (h1:j<its.toArray.size) (h2:j<its2.toArray.size),SeqAt.EqAt X.A.in1 s its.toArray[j] its2.toArray[j] (eAt l1 l2 j):=λj k1 k2=>by
    obtain⟨x,v,hx,_,dx,rx⟩:=gU q1 rv k1;obtain⟨y,w,hy,_,dy,ry⟩:=gU q2 rv2 k2
    have:=zcq (List.mem_of_getElem? hx);exact zkd I sub (n - 1) x y _ v w _ _ X.A.in1 (by omega) (hp j x y hx hy) dx dy rx ry hin
   have z:=And.intro (SeqAt.RcAt.tuples p p2 hu0 he) (SeqAt.RcNeAt.tuples p p2 hu0 he);have e1:its.toArray.size=l1.length:=by rw[List.size_toArray,←rv.length,q1.length]
   have e2:its2.toArray.size=l2.length:=by rw[List.size_toArray,←rv2.length,q2.length]
   rw[e1,e2]at z;rw[hb];exact z
  |lst l2=>simp[eqD]at e;subst e;obtain⟨a2,vs2,rfl,f2,_⟩:=h2.lst_inv;cases r2;obtain⟨its2,_,p2⟩:=Inv.lstAt I f2;exact⟨SeqAt.RcAt.tuple_list p p2 hu0,SeqAt.RcNeAt.tuple_list p p2 hu0⟩
  |_=>simp[eqD]at e
 |lst l1=>
  obtain⟨a,vs,rfl,f1,q1⟩:=h1.lst_inv;cases r1
  obtain⟨its,rv,p⟩:=Inv.lstAt I f1;cases d2 with
  |non=>simp[eqD]at e;subst e;rw[h2.non_inv]at r2;cases r2;exact⟨SeqAt.RcAt.list_none p hu0,SeqAt.RcNeAt.list_none p hu0⟩
  |str x=>simp[eqD]at e;subst e;rw[h2.str_inv]at r2;obtain⟨t,rfl⟩:=r2;exact⟨SeqAt.RcAt.list_str x t p hu0,SeqAt.RcNeAt.list_str x t p hu0⟩
  |tup l2=>simp[eqD]at e;subst e;obtain⟨a2,vs2,rfl,f2,_⟩:=h2.tup_inv;cases r2;obtain⟨its2,_,p2⟩:=Inv.tupAt I (sub _ _ f2);exact⟨SeqAt.RcAt.list_tuple p p2 hu0,SeqAt.RcNeAt.list_tuple p p2 hu0⟩
  |lst l2=>
   obtain⟨a2,vs2,rfl,f2,q2⟩:=h2.lst_inv;cases r2
   obtain⟨its2,rv2,p2⟩:=Inv.lstAt I f2;simp only[eqD]at e;obtain⟨hp,hb⟩:=zcc e;simp only[dep]at hn;have he:∀(j:Nat) (h1:j<its.toArray.size) (h2:j<its2.toArray.size),SeqAt.EqAt X.A.in1 s its.toArray[j] its2.toArray[j] (eAt l1 l2 j):=λj k1 k2=>by
    obtain⟨x,v,hx,_,dx,rx⟩:=gU q1 rv k1;obtain⟨y,w,hy,_,dy,ry⟩:=gU q2 rv2 k2
    have:=zcq (List.mem_of_getElem? hx);exact zkd I sub (n - 1) x y _ v w _ _ X.A.in1 (by omega) (hp j x y hx hy) dx dy rx ry hin
   have e1:its.toArray.size=l1.length:=by rw[List.size_toArray,←rv.length,q1.length]
   have e2:its2.toArray.size=l2.length:=by rw[List.size_toArray,←rv2.length,q2.length]
   by_cases hsz:l1.length=l2.length
   ·have z:=And.intro (SeqAt.RcAt.lists p p2 (by rw[e1,e2,hsz]) hu0 he) (SeqAt.RcNeAt.lists p p2 (by rw[e1,e2,hsz]) hu0 he);rw[e1]at z;rw[hb,hsz,Nat.min_self,beq_self_eq_true,Bool.and_true,←hsz];exact z
   ·have z:=And.intro (SeqAt.RcAt.lists_lengths p p2 (by rw[e1,e2];simpa using hsz) hu0) (SeqAt.RcNeAt.lists_lengths p p2 (by rw[e1,e2];simpa using hsz) hu0);have hb0:b=false:=by
     rw[hb]
     have:(l1.length==l2.length)=false:=by simpa using hsz
     rw[this,Bool.and_false]
    rw[hb0];exact z
  |_=>simp[eqD]at e
 |_=>simp[eqD]at e
end
noncomputable def eqB(x y:D):Option D:=if dep x<=100 then(eqD x y).map D.bl else none
noncomputable def neB(x y:D):Option D:=if dep x<=100 then(eqD x y).map λb=>D.bl (!b)else none
def rEqD(K:Fg)(f:Bool->Bool):R2:=λx y H Q=>∃F d1 d2 b,zI F H/\zO K F H d1 x/\zO K F H d2 y/\dep d1<=100/\eqD d1 d2=some b/\Q (.bl (f b)) H
section
variable{K:Fg}{X:Cx}
theorem zph(hu:X.A.units+100<cLine):OpR X (compareOp .Eq) (rEqD K id):=by intro pins s σ H x y v u Q I rx ry h;obtain⟨F,d1,d2,b,sub,h1,h2,hn,e,q⟩:=h;exact(zmK I sub d1 d2 b x y v u 100 hn e h1 h2 rx ry hu).1 _ _ _ _ ⟨.bl b,H,I,rfl,q⟩
theorem zpb(hu:X.A.units+100<cLine):OpR X (compareOp .NotEq) (rEqD K not):=by intro pins s σ H x y v u Q I rx ry h;obtain⟨F,d1,d2,b,sub,h1,h2,hn,e,q⟩:=h;exact(zmK I sub d1 d2 b x y v u 100 hn e h1 h2 rx ry hu).2 _ _ _ _ ⟨.bl (!b),H,I,rfl,q⟩
theorem p_eq(hu:X.A.units+100<cLine):Op2 K X (compareOp .Eq) .fz eqB:=by
 refine⟨_,zph (K:=K) hu,λx y d F H v u Q e s h1 h2 k=>?_⟩;unfold eqB at e;by_cases hc:dep x<=100
 ·rw[if_pos hc]at e;cases e1:eqD x y with
  |none=>rw[e1]at e;cases e
  |some b=>
   rw[e1]at e;cases e
   exact⟨F,x,y,b,s,h1,h2,hc,e1,k _ F H (zF.refl s) (Res.bl b)⟩
 ·rw[if_neg hc]at e;cases e
theorem p_ne(hu:X.A.units+100<cLine):Op2 K X (compareOp .NotEq) .fz neB:=by
 refine⟨_,zpb (K:=K) hu,λx y d F H v u Q e s h1 h2 k=>?_⟩;unfold neB at e;by_cases hc:dep x<=100
 ·rw[if_pos hc]at e;cases e1:eqD x y with
  |none=>rw[e1]at e;cases e
  |some b=>
   rw[e1]at e;cases e
   exact⟨F,x,y,b,s,h1,h2,hc,e1,k _ F H (zF.refl s) (Res.bl _)⟩
 ·rw[if_neg hc]at e;cases e
end
noncomputable def inL(x:D):List D->Option Bool
 |[]=>some false
 |d::l=>(eqD d x).bind λb=>(inL x l).map λc=>b||c
theorem zhq{x:D}:∀{l:List D}{b:Bool},inL x l=some b->(∀d∈l,∃c,eqD d x=some c)/\b=l.any λd=>(eqD d x).getD false
 |[],b,h=>by simp[inL]at h;subst h;simp
 |d::l,b,h=>by
  simp only[inL]at h;cases e1:eqD d x with
  |none=>rw[e1]at h;cases h
  |some c=>
   cases e2:inL x l with
   |none=>rw[e1,e2]at h;cases h
   |some c2=>
    rw[e1,e2]at h;have hb:(c||c2)=b:=by simpa using h
    obtain⟨h1,h2⟩:=zhq e2;refine⟨λy hy=>?_,?_⟩
    ·rcases List.mem_cons.mp hy with rfl|hy
     ·exact⟨c,e1⟩
     ·exact h1 y hy
    ·rw[←hb,h2,List.any_cons,e1];rfl
theorem zkH{α β:Type}{e:α->Bool}{g:β->Bool}:∀{xs:List α}{ys:List β},xs.length=ys.length->(∀(k:Nat) x y,xs[k]?=some x->ys[k]?=some y->e x=g y)->xs.any e=ys.any g
 |[],[],_,_=>rfl
 |[],_::_,h,_=>by simp at h
 |_::_,[],h,_=>by simp at h
 |x::xs,y::ys,h,k=>by rw[List.any_cons,List.any_cons,k 0 x y rfl rfl,zkH (xs:=xs) (ys:=ys) (by simpa using h) λj a b ha hb=>k (j+1) a b (by simpa using ha) (by simpa using hb)]
section
variable{X:Cx}{pins:AO}{σ:St}{H F:Hp}{s:Shared}{K:Fg}
theorem zlr(I:Inv X pins σ H s)(sub:zI F H){l:List D}{vs:List V}{its:List Value}{x:D}{v:V}{u:Value}{b:Bool}(q:zD K F l vs)(r:zL vs its)(hx:Dat K F x v)(ru:zQ v u)(hd:zU l<=100)(e:inL x l=some b)(hu:X.A.in1.units+100<cLine):
  ∃f:Value->Bool,(∀y,y∈its.toArray->SeqAt.EqAt X.A.in1 s y u (f y))/\its.toArray.any f=b:=by
 obtain⟨h1,h2⟩:=zhq e;have hl:its.length=l.length:=by rw[←r.length,q.length]
 have at_:∀(k:Nat) (y:Value),its[k]?=some y->∃d w,l[k]?=some d/\Dat K F d w/\zQ w y:=λk y hk=>by
  have hk':k<its.toArray.size:=by simpa using(List.getElem?_eq_some_iff.mp hk).1
  obtain⟨d,w,e1,_,e3,e4⟩:=gU q r hk';refine⟨d,w,e1,e3,?_⟩
  have:its.toArray[k]=y:=by rw[List.getElem?_eq_getElem (by simpa using hk')]at hk;simpa using Option.some.inj hk
  rw[←this];exact e4
 refine⟨λy=>match(its.zip l).find? (λp=>p.1==y)with
  |some p=>(eqD p.2 x).getD false
  |none=>false,λy hy=>?_,?_⟩
 ·have hy':y∈its:=by simpa using hy
  obtain⟨k,hk⟩:=List.mem_iff_getElem?.mp hy';cases f:(its.zip l).find? (λp=>p.1==y)with
  |none=>
   exfalso;have hk2:k<its.length:=(List.getElem?_eq_some_iff.mp hk).1
   have:=List.find?_eq_none.mp f (its[k],l[k]'(by omega)) (by
    have:(its.zip l)[k]?=some (its[k],l[k]'(by omega)):=by simp[List.getElem?_zip_eq_some,hk2]
    exact List.mem_of_getElem? this)
   rw[List.getElem?_eq_getElem hk2]at hk;have e0:=Option.some.inj hk;simp[e0]at this
  |some p=>
   have hp:=List.find?_some f;have hm:=List.mem_of_find?_eq_some f;obtain⟨j,hj⟩:=List.mem_iff_getElem?.mp hm;obtain⟨j1,j2⟩:=List.getElem?_zip_eq_some.mp hj;have e1:p.1=y:=by simpa using hp
   obtain⟨d,w,e2,e3,e4⟩:=at_ j p.1 j1;rw[j2]at e2;cases e2
   obtain⟨c,hc⟩:=h1 p.2 (List.mem_of_getElem? j2)
   have:=zcq (List.mem_of_getElem? j2);simp only[f,hc,Option.getD_some];exact zkd I sub 100 p.2 x c w v y u X.A.in1 (by omega) hc e3 hx (e1▸e4) ru hu
 ·rw[h2,List.any_toArray];refine zkH hl λk y d hk hd'=>?_
  cases f:(its.zip l).find? (λp=>p.1==y)with
  |none=>
   exfalso
   have:=List.find?_eq_none.mp f (y,d) (List.mem_of_getElem? (i:=k) (List.getElem?_zip_eq_some.mpr ⟨hk,hd'⟩));simp at this
  |some p=>
   have hp:=List.find?_some f;have hm:=List.mem_of_find?_eq_some f;obtain⟨j,hj⟩:=List.mem_iff_getElem?.mp hm;obtain⟨j1,j2⟩:=List.getElem?_zip_eq_some.mp hj;have e1:p.1=y:=by simpa using hp
   obtain⟨d1,w1,e2,e3,e4⟩:=at_ j p.1 j1;rw[j2]at e2;cases e2
   obtain⟨d2,w2,f2,f3,f4⟩:=at_ k y hk;rw[hd']at f2;cases f2
   obtain⟨c1,hc1⟩:=h1 p.2 (List.mem_of_getElem? j2);obtain⟨c2,hc2⟩:=h1 d (List.mem_of_getElem? hd');rw[e1]at e4;have ew:=e4.inj f4;subst ew;simp only[f,hc1,hc2,Option.getD_some];exact zpT _ p.2 d x c1 c2 w1 (Nat.le_refl _) e3 f3 hc1 hc2
end
noncomputable def inB(x y:D):Option D:=match y with
 | .lst l=>if zU l<=100 then(inL x l).map D.bl else none
 | .tup l=>if zU l<=100 then(inL x l).map D.bl else none
 |_=>none
noncomputable def yF(x y:D):Option D:=match y with
 | .lst l=>if zU l<=100 then(inL x l).map λb=>D.bl (!b)else none
 | .tup l=>if zU l<=100 then(inL x l).map λb=>D.bl (!b)else none
 |_=>none
def rInD(K:Fg)(f:Bool->Bool):R2:=λx y H Q=>∃F d l b a vs,zI F H/\Dat K F d x/\y=.ref a/\(H a=some (.lst vs)\/H a=some (.tup vs))/\zD K F l vs/\zU l<=100/\inL d l=some b/\Q (.bl (f b)) H
section
variable{K:Fg}{X:Cx}
theorem zpf(hu:X.A.units+101<cLine):OpR X (compareOp .In) (rInD K id):=by
 intro pins s σ H x y v u Q I rx ry h;obtain⟨F,d,l,b,a,vs,sub,h1,rfl,ho,q,hd,e,k⟩:=h;cases ry
 have hu':X.A.in1.units+100<cLine:=by have:=zcb X.A;omega
 rcases ho with ho|ho
 ·obtain⟨its,r,p⟩:=Inv.lstAt I ho;obtain⟨f,h3,h4⟩:=zlr I sub q r h1 rx hd e hu';exact SeqAt.in_listAt f p h3 (by rw[h4];exact⟨.bl b,H,I,rfl,k⟩)
 ·obtain⟨its,r,p⟩:=Inv.tupAt I ho;obtain⟨f,h3,h4⟩:=zlr I sub q r h1 rx hd e hu';exact SeqAt.in_tupleAt f p h3 (by rw[h4];exact⟨.bl b,H,I,rfl,k⟩)
theorem zjs(hu:X.A.units+101<cLine):OpR X (compareOp .NotIn) (rInD K not):=by
 intro pins s σ H x y v u Q I rx ry h;obtain⟨F,d,l,b,a,vs,sub,h1,rfl,ho,q,hd,e,k⟩:=h;cases ry
 have hu':X.A.in1.units+100<cLine:=by have:=zcb X.A;omega
 rcases ho with ho|ho
 ·obtain⟨its,r,p⟩:=Inv.lstAt I ho;obtain⟨f,h3,h4⟩:=zlr I sub q r h1 rx hd e hu';exact SeqAt.notIn_listAt f p h3 (by rw[h4];exact⟨.bl (!b),H,I,rfl,k⟩)
 ·obtain⟨its,r,p⟩:=Inv.tupAt I ho;obtain⟨f,h3,h4⟩:=zlr I sub q r h1 rx hd e hu';exact SeqAt.notIn_tupleAt f p h3 (by rw[h4];exact⟨.bl (!b),H,I,rfl,k⟩)
end
def nY(K:Fg)(X:Cx)(f:Value->Value->Sem Value)(p:D->D->Option D):Prop:=
 ∃r:R2,OpR X f r/\∀x y d F H v u Q,p x y=some d->zI F H->Dat K F x v->zO K F H y u->(∀w F' H',zF F H F' H'->Res K .fz H F' H' d w->Q w H')->r v u H Q
section
variable{K:Fg}{X:Cx}{a b:Expr}{fa fb:EO D}{pos:Pos}{p:D->D->Option D}
theorem zoY{f:Value->Value->Sem Value}{n:Bool->Bool}{p:D->D->Option D}(o:OpR X f (rInD K n))(h:∀x y d,p x y=some d->∃l b,(y=.lst l\/y=.tup l)/\zU l<=100/\inL x l=some b/\d=.bl (n b)):nY K X f p:=by
 refine⟨_,o,λx y d F H v u Q e s h1 h2 k=>?_⟩;obtain⟨l,b,hy,hd,e1,rfl⟩:=h x y d e;rcases hy with rfl|rfl
 ·obtain⟨a,vs,rfl,f,q⟩:=h2.lst_inv;exact⟨F,x,l,b,a,vs,s,h1,rfl,.inl f,q,hd,e1,k _ F H (zF.refl s) (Res.bl _)⟩
 ·obtain⟨a,vs,rfl,f,q⟩:=h2.tup_inv;exact⟨F,x,l,b,a,vs,s,h1,rfl,.inr (s _ _ f),q,hd,e1,k _ F H (zF.refl s) (Res.bl _)⟩
theorem p_in(hu:X.A.units+101<cLine):nY K X (compareOp .In) inB:=zoY (zpf hu) λx y d e=>by
 unfold inB at e;split at e
 ·split at e
  ·rename_i l hd;cases e1:inL x l with
   |none=>rw[e1]at e;cases e
   |some b=>rw[e1]at e;cases e;exact⟨l,b,.inl rfl,hd,e1,rfl⟩
  ·cases e
 ·split at e
  ·rename_i l hd;cases e1:inL x l with
   |none=>rw[e1]at e;cases e
   |some b=>rw[e1]at e;cases e;exact⟨l,b,.inr rfl,hd,e1,rfl⟩
  ·cases e
 ·cases e
theorem zno(hu:X.A.units+101<cLine):nY K X (compareOp .NotIn) yF:=zoY (zjs hu) λx y d e=>by
 unfold yF at e;split at e
 ·split at e
  ·rename_i l hd;cases e1:inL x l with
   |none=>rw[e1]at e;cases e
   |some b=>rw[e1]at e;cases e;exact⟨l,b,.inl rfl,hd,e1,rfl⟩
  ·cases e
 ·split at e
  ·rename_i l hd;cases e1:inL x l with
   |none=>rw[e1]at e;cases e
   |some b=>rw[e1]at e;cases e;exact⟨l,b,.inr rfl,hd,e1,rfl⟩
  ·cases e
 ·cases e
theorem zoi{ρ:En}{x y d:D}{r:R2}(ha:PE X a (rdE K .fz ρ x))(hb:PE X b (rdE K .br ρ y))(hr:∀F H v u Q,zI F H->Dat K F x v->zO K F H y u->(∀w F' H',zF F H F' H'->Res K .fz H F' H' d w->Q w H')->r v u H Q)(σ:St)(H:Hp)(Q:VK)(h:rdE K .fz ρ d σ H Q):tOp r (rdE K .fz ρ x) (rdE K .br ρ y) σ H Q:=by
 obtain⟨F,rl,q⟩:=h;refine⟨F,rl,λv F1 H1 g1 r1=>⟨F1,rl.grow g1,λu F2 H2 g2 r2=>?_⟩⟩;refine hr F2 H2 v u Q g2.fh (Dat.mono g2.ff r1) r2 λw F3 H3 g3 r3=>?_
 exact q w F3 H3 (g1.trans (g2.trans g3)) r3
theorem zrg{op:CmpOp}(o:nY K X (compareOp op) p)(ha:FP K .fz X a fa)(hb:FP K .br X b fb)(hm:behindInMarks op b=false):FP K .fz X (.Compare a [op] [b] pos) (c2 p fa fb):=FP.mk λρ d hf=>by obtain⟨x,y,e1,e2,e3⟩:=nA hf;obtain⟨r,ho,hr⟩:=o;exact PE.imp (zjl ho (ha.h ρ x e1) (hb.h ρ y e2) hm) (zoi (ha.h ρ x e1) (hb.h ρ y e2) λF H v u Q s h1 h2 k=>hr x y d F H v u Q e3 s h1 h2 k)
end
end FL
namespace HT
section
variable{prog:Program}{w:World}{A:Around}{E:VS}{s:Shared}
theorem getItem_tuple_whole{t sl:Addr}{items:Array Value}{vl vu:Value}{lo hi:Option Int}{Q:VS}(ht:IsTup s.heap t items)(hs:s.heap.IsSliceOf sl vl vu .none)(pl:IsPart vl lo)(pu:IsPart vu hi)(hw:sIx items.size 0 lo=0/\sIx items.size items.size hi=items.size)(h:Q (.ref t) s):wpAny (model prog w) A (getItem (.ref t) (.ref sl)) Q E s:=by
 obtain⟨os,hos,hcs,hds⟩:=id hs;have hTs:s.TypeIs (.ref sl) "slice":=⟨os,hos,hcs⟩;unfold getItem
 try with_reducible refine wpAny_holding ?_
 first|refine wpAny_bind (wpAny_pure ?_)|skip
 refine wpAny_bind (wpAny_sequenceKey ht.typeIs (by decide) ?_);refine wpAny_bind (wpAny_callSpecial?_slot (name:=Str.ofString "__getitem__") ht.typeIs PyProof.Rows.slot_tuple_getitem
  (wpAny_call_entry PyProof.Rows.slot_tuple_getitem ht.typeIs entry_tuple_getitem ?_ (args_tuple_getitem _ _)))
 show wpAny _ _ (Builtin.Tuple.tupleItemsOf (.ref t)>>=_) _ _ s;refine wpAny_bind (tupleItemsOf_ ht ?_);refine wpAny_bind (wpAny_typeOf hTs ?_);rw[if_pos (by decide)];refine wpAny_bind (zaZ hs pl pu ?_);have hyes:(((sIx items.size 0 lo:Nat):Int)==0&&(1:Int)==1&&(sIx items.size items.size hi - sIx items.size 0 lo)==items.size)=true:=by rw[hw.1,hw.2];simp
 show wpAny _ _ (if(((sIx items.size 0 lo:Nat):Int)==0&&(1:Int)==1&&(sIx items.size items.size hi - sIx items.size 0 lo)==items.size)=true then _ else _) _ _ s;rw[if_pos hyes];unfold Builtin.Tuple.tupleIsExact;refine wpAny_bind (wpAny_bind (wpAny_typeOf ht.typeIs (wpAny_pure ?_)));rw[if_pos (by decide)];refine wpAny_bind (wpAny_rule ?_);exact wpAny_pure ⟨_,rfl,wpAny_pure h⟩
end
end HT
namespace L2
section
variable{X:Cx}{K:Fg}
def zqy(K:Fg):V->Option Int->Option Int->Hp->VK->Prop:=λx lo hi H Q=>∃a xs,x=.ref a/\SqT K H a xs/\
 ((HT.sIx xs.length 0 lo=0/\HT.sIx xs.length xs.length hi=xs.length)->Q (.ref a) H)/\∀p,H p=none->Q (.ref p) (upd H p (.tup (xZ xs lo hi)))
theorem zmV:SlR X (λx lo hi H Q=>∃a xs,x=.ref a/\SqT X.K H a xs/\(HT.sIx xs.length 0 lo=0/\HT.sIx xs.length xs.length hi=xs.length)/\Q (.ref a) H):=by
 intro pins s σ H x v vl vu lo hi sl Q I rx hs pl pu h;obtain⟨a,xs,rfl,hx,hw,q⟩:=h;cases rx
 obtain⟨its,r,ht,hz⟩:=I.tuple hx;have hlen:its.toArray.size=xs.length:=by rw[List.size_toArray];exact r.length.symm
 refine⟨"tuple",_,PyProof.Rows.slot_tuple_getitem.lookup,ht.typeIs,?_⟩;exact HT.getItem_tuple_whole ht hs pl pu (by rw[hlen];exact hw) ⟨.ref a,H,I,rfl,q⟩
theorem zmW(hK:X.K=K:=by rfl):SlR X (zqy K):=by
 subst hK;intro pins s σ H x v vl vu lo hi sl Q I rx hs pl pu h;obtain⟨a,xs,rfl,hx,h1,h2⟩:=h;by_cases hw:HT.sIx xs.length 0 lo=0/\HT.sIx xs.length xs.length hi=xs.length
 ·exact zmV pins s σ H _ v vl vu lo hi sl Q I rx hs pl pu ⟨a,xs,rfl,hx,hw,h1 hw⟩
 ·exact zov pins s σ H _ v vl vu lo hi sl Q I rx hs pl pu ⟨a,xs,rfl,hx,hw,h2⟩
end
end L2
namespace FL
open L2
noncomputable def xQ(f:Int->Int->Bool):D->D->Option D
 | .int a,.int b=>some (.bl (f a b))
 |_,_=>none
abbrev ltD:=xQ λi j=>decide (i<j)
abbrev leD:=xQ λi j=>decide (i<=j)
abbrev gtD:=xQ λi j=>decide (j<i)
noncomputable def jM:List D->Option (List Int)
 |[]=>some []
 | .int i::l=>(jM l).map (i::·)
 |_::_=>none
theorem zaq:∀{l:List D}{ns:List Int},jM l=some ns->l=ns.map D.int
 |[],ns,h=>by simp[jM]at h;subst h;rfl
 | .int i::l,ns,h=>by
  simp only[jM]at h;cases e:jM l with
  |none=>rw[e]at h;cases h
  |some ms=>rw[e]at h;cases h;rw[zaq e];rfl
 | .non::_,_,h=>by simp[jM]at h
 | .bl _::_,_,h=>by simp[jM]at h
 | .str _::_,_,h=>by simp[jM]at h
 | .tup _::_,_,h=>by simp[jM]at h
 | .lst _::_,_,h=>by simp[jM]at h
 | .scr _::_,_,h=>by simp[jM]at h
 | .dic _ _::_,_,h=>by simp[jM]at h
 | .set _::_,_,h=>by simp[jM]at h
 | .exc _ _::_,_,h=>by simp[jM]at h
theorem zbC:∀(ns:List Int),jM (ns.map D.int)=some ns
 |[]=>rfl
 |n::ns=>by rw[List.map_cons,jM,zbC ns];rfl
noncomputable def geD:D->D->Option D
 | .int a,.int b=>some (.bl (decide (b<=a)))
 | .tup a,.tup b=>(jM a).bind λns=>(jM b).map λms=>.bl (!HT.lexLt ns ms)
 |_,_=>none
def isNon:D->Bool
 | .non=>true
 |_=>false
noncomputable def isB(x y:D):Option D:=match y with
 | .non=>some (.bl (isNon x))
 |_=>none
noncomputable def vU(x y:D):Option D:=match y with
 | .non=>some (.bl (!isNon x))
 |_=>none
variable{F H:Hp}{v:V}{l:List D}
section
variable{K:Fg}{X:Cx}
theorem zjr{f:Value->Value->Sem Value}{g:Int->Int->Bool}(o:OpR X f (rI0 λi j=>.bl (g i j))):Op2 K X f .fz (xQ g):=by
 refine⟨_,o,λx y d F H v u Q e s h1 h2 k=>?_⟩;unfold xQ at e;split at e
 ·cases e
  exact⟨_,_,h1.int_inv,h2.int_inv,k _ F H (zF.refl s) (Res.bl _)⟩
 ·cases e
theorem p_lt:Op2 K X (compareOp .Lt) .fz ltD:=zjr zqO
theorem p_le:Op2 K X (compareOp .LtE) .fz leD:=zjr zqP
theorem p_gt:Op2 K X (compareOp .Gt) .fz gtD:=zjr zqQ
theorem p_ge(hu:X.A.units+100<cLine)(hK:X.K=K:=by rfl):Op2 K X (compareOp .GtE) .fz geD:=by
 subst hK;refine⟨_,zqR.or (zpg (by omega)),λx y d F H v u Q e s h1 h2 k=>?_⟩;unfold geD at e;split at e
 ·cases e
  exact .inl ⟨_,_,h1.int_inv,h2.int_inv,k _ F H (zF.refl s) (Res.bl _)⟩
 ·rename_i l m;cases e1:jM l with
  |none=>rw[e1]at e;cases e
  |some ns=>
   cases e2:jM m with
   |none=>rw[e1,e2]at e;cases e
   |some ms=>
    rw[e1,e2]at e;cases e
    rw[zaq e1]at h1;rw[zaq e2]at h2;obtain⟨a,vs,rfl,f1,q1⟩:=h1.tup_inv;obtain⟨b,us,rfl,f2,q2⟩:=h2.tup_inv;rw[q1.ints]at f1;rw[q2.ints]at f2;exact .inr ⟨a,b,ns,ms,rfl,rfl,SqT.of (s _ _ f1),SqT.of (s _ _ f2),k _ F H (zF.refl s) (Res.bl _)⟩
 ·cases e
theorem zO.isNon{d:D}(h:zO K F H d v):decide (v=.non)=FL.isNon d:=by
 cases d with
 |non=>rw[h.non_inv];rfl
 |bl b=>rw[h.bl_inv];rfl
 |int b=>rw[h.int_inv];rfl
 |str b=>rw[h.str_inv];rfl
 |tup l=>obtain⟨a,vs,rfl,_⟩:=h.tup_inv;rfl
 |lst l=>obtain⟨a,vs,rfl,_⟩:=h.lst_inv;rfl
 |scr l=>obtain⟨a,rfl,_⟩:=h.scr_inv;rfl
 |dic k l=>obtain⟨a,vs,rfl,_⟩:=h.dic_inv;rfl
 |set l=>obtain⟨a,rfl,_⟩:=h;rfl
 |exc c d=>obtain⟨a,_,_,_,rfl,_⟩:=h.exc_inv;rfl
theorem p_is:Op2 K X (compareOp .Is) .fz isB:=by
 refine⟨_,zpe,λx y d F H v u Q e s h1 h2 k=>?_⟩;cases y<;>simp only[isB]at e<;>try(cases e;done)
 cases e
 refine⟨h2.non_inv,?_⟩;rw[h1.isNon];exact k _ F H (zF.refl s) (Res.bl _)
theorem zjq:Op2 K X (compareOp .IsNot) .fz vU:=by
 refine⟨_,znr,λx y d F H v u Q e s h1 h2 k=>?_⟩;cases y<;>simp only[vU]at e<;>try(cases e;done)
 cases e
 refine⟨h2.non_inv,?_⟩;rw[h1.isNon];exact k _ F H (zF.refl s) (Res.bl _)
theorem zD.atI{vs:List V}(q:zD K F l vs){i:Int}{d:D}(h:L2.atI l i=some d):∃v,L2.atI vs i=some v/\Dat K F d v:=by
 unfold L2.atI at h ⊢;rw[q.length];cases e:ixN l.length i with
 |none=>rw[e]at h;cases h
 |some j=>
  rw[e]at h;exact q.get h
noncomputable def zS:D->D->Option D
 | .lst l,.int i=>L2.atI l i
 | .tup l,.int i=>L2.atI l i
 | .scr l,.int i=>(L2.atI l i).map D.int
 | .str z,.int i=>if z.length<=lim then(L2.atI z.cps.toList i).map λc=>.str ⟨#[c]⟩else none
 |_,_=>none
theorem p_ix(hK:X.K=K:=by rfl):Ix2 K X .fz zS:=by
 subst hK;refine⟨_,znD.or (zpy.or zpz),λx y d F H v u Q e s h1 h2 k=>?_⟩;unfold zS at e;split at e
 ·obtain⟨a,vs,rfl,f,q⟩:=h1.lst_inv;obtain⟨w,hw,dw⟩:=q.atI e;exact .inl ⟨a,vs,_,w,rfl,h2.int_inv,SqL.of f,hw,k _ F H (zF.refl s) dw⟩
 ·obtain⟨a,vs,rfl,f,q⟩:=h1.tup_inv;obtain⟨w,hw,dw⟩:=q.atI e;exact .inr (.inl ⟨a,vs,_,w,rfl,h2.int_inv,SqT.of (s _ _ f),hw,k _ F H (zF.refl s) dw⟩)
 ·rename_i ns i;obtain⟨a,rfl,f⟩:=h1.scr_inv;cases e1:L2.atI ns i with
  |none=>rw[e1]at e;cases e
  |some c=>
   rw[e1]at e;cases e
   refine .inl ⟨a,_,i,.int c,rfl,h2.int_inv,zI.seq s f,?_,k _ F H (zF.refl s) (Res.int _)⟩;unfold L2.atI at e1 ⊢;rw[List.length_map];cases e2:ixN ns.length i with
   |none=>rw[e2]at e1;cases e1
   |some j=>
    rw[e2]at e1;have e1':ns[j]?=some c:=e1;show(ns.map V.int)[j]?=_;rw[List.getElem?_map,e1'];rfl
 ·obtain⟨hz,e⟩:_/\_:=by
   split at e
   ·rename_i hz;exact⟨hz,e⟩
   ·cases e
  rename_i z i _;cases e1:L2.atI z.cps.toList i with
  |none=>rw[e1]at e;cases e
  |some c=>
   rw[e1]at e;cases e
   exact .inr (.inr ⟨z,i,c,h1.str_inv,h2.int_inv,vT hz,e1,k _ F H (zF.refl s) (Res.str _)⟩)
 ·cases e
end
variable{α:Type}
noncomputable def jG(xs:List α)(lo hi:Option Int):List α:=(xs.drop (HT.sIx xs.length 0 lo)).take (HT.sIx xs.length xs.length hi - HT.sIx xs.length 0 lo)
variable{K:Fg}
theorem zD.cut{vs:List V}(q:zD K F l vs)(lo hi:Option Int):zD K F (jG l lo hi) (xZ vs lo hi):=by unfold jG xZ;rw[q.length];exact(q.drop _).take _
noncomputable def kB(x:D)(lo hi:Option Int):Option D:=match x with
 | .tup l=>some (.tup (jG l lo hi))
 | .lst l=>some (.lst (jG l lo hi))
 | .scr l=>some (.lst ((jG l lo hi).map D.int))
 | .str z=>if z.length<=lim then some (.str (Txt.slice z lo hi))else none
 |_=>none
noncomputable def zcP(x:D)(lo hi:Option Int):Option D:=match x with
 | .lst l=>some (.lst (jG l lo hi))
 | .scr l=>some (.lst ((jG l lo hi).map D.int))
 |_=>none
theorem znS{β:Type}(f:α->β)(l:List α)(lo hi:Option Int):jG (l.map f) lo hi=(jG l lo hi).map f:=by unfold jG;rw[List.length_map,List.map_take,List.map_drop]
theorem zmc(l:List Int)(lo hi:Option Int):xZ (l.map V.int) lo hi=(jG l lo hi).map V.int:=znS _ _ _ _
noncomputable def rdO(K:Fg)(ρ:En)(o:Option Int):TO:=λσ H Q=>∃F,Rel K F H ρ σ/\∀F' H',zF F H F' H'->Q o H'
structure FPO(K:Fg)(X:Cx)(e:Option Expr)(f:EO (Option Int)):Prop where
 h:∀ρ o,f ρ=some o->PO X e (rdO K ρ o)
variable{X:Cx}
theorem PO.imp{e:Option Expr}{t t':TO}(h:PO X e t)(w:∀σ H Q,t' σ H Q->t σ H Q):PO X e t':=λpins s σ H Q I ht=>h pins s σ H Q I (w σ H Q ht)
noncomputable def kG:EO (Option Int):=λ_=>some none
noncomputable def jU(f:EO D):EO (Option Int):=λρ=>match f ρ with
 |some (.int i)=>some (some i)
 |_=>none
noncomputable def cS(p:D->Option Int->Option Int->Option D)(fa:EO D)(fl fh:EO (Option Int)):EO D:=λρ=>(fa ρ).bind λx=>(fl ρ).bind λlo=>(fh ρ).bind λhi=>p x lo hi
variable{f:EO D}{e:Expr}{md:Md}
section
variable{K:Fg}{X:Cx}{a:Expr}{fa:EO D}{pos p2:Pos}{lo hi:Option Expr}{fl fh:EO (Option Int)}
theorem xJ:FPO K X none kG:=FPO.mk λρ o hf=>PO.imp zni λσ H Q ⟨F,r,q⟩=>by cases hf;exact q F H (zF.refl r.sub)
theorem yP(h:FP K .fz X e f):FPO K X (some e) (jU f):=FPO.mk λρ o hf=>by
 unfold jU at hf;split at hf
 ·rename_i i e1;cases hf
  exact PO.imp (znh (h.h ρ _ e1)) λσ H Q ⟨F,r,q⟩=>⟨F,r,λv F' H' g hr=>⟨i,Dat.int_inv (K:=K) (F:=F') hr,q F' H' g⟩⟩
 ·cases hf
def Sl3(K:Fg)(X:Cx)(md:Md)(p:D->Option Int->Option Int->Option D):Prop:=
 ∃r,SlR X r/\∀x lo hi d F H v Q,p x lo hi=some d->zI F H->zO K F H x v->(∀w F' H',zF F H F' H'->Res K md H F' H' d w->Q w H')->r v lo hi H Q
theorem xC{p:D->Option Int->Option Int->Option D}(o:Sl3 K X md p)(ha:FP K .br X a fa)(hl:FPO K X lo fl)(hh:FPO K X hi fh):FP K md X (.Subscript a (.Slice lo hi none p2) pos) (cS p fa fl fh):=FP.mk λρ d hf=>by
 unfold cS at hf;cases e1:fa ρ with
 |none=>rw[e1]at hf;cases hf
 |some x=>
  cases e2:fl ρ with
  |none=>rw[e1,e2]at hf;cases hf
  |some l=>
   cases e3:fh ρ with
   |none=>rw[e1,e2,e3]at hf;cases hf
   |some h=>
    rw[e1,e2,e3]at hf;obtain⟨r,ho,hr⟩:=o;refine PE.imp (zlf ho (ha.h ρ x e1) (hl.h ρ l e2) (hh.h ρ h e3)) λσ H Q h_=>?_
    obtain⟨F,rl,q⟩:=h_;refine⟨F,rl,λv F1 H1 g1 r1=>⟨F1,rl.grow g1,λF2 H2 g2=>⟨F2,(rl.grow g1).grow g2,λF3 H3 g3=>?_⟩⟩⟩;refine hr x l h d F3 H3 v Q hf g3.fh (zO.mono (g2.trans g3).ff (g2.trans g3).hh r1) λw F4 H4 g4 r4=>?_
    have g:=g1.trans (g2.trans (g3.trans g4));refine q w F4 H4 g ?_;cases md with
    |fz=>exact r4
    |br=>exact r4
    |ow=>
     obtain⟨a,e,h1,h2,h3⟩:=r4;exact⟨a,e,(g1.hh.trans (g2.hh.trans g3.hh)).free h1,h2,h3⟩
theorem yZ(hK:X.K=K:=by rfl):Sl3 K X .fz kB:=by
 subst hK;refine⟨_,SlR.or (zmW rfl) (SlR.or zmX zow),λx lo hi d F H v Q e s h1 k=>?_⟩;cases x<;>simp only[kB]at e<;>try(cases e;done)
 ·obtain⟨hz,rfl⟩:=jD e;exact .inr (.inr ⟨_,h1.str_inv,vT hz,λy _ ey=>by subst ey;exact k _ F H (zF.refl s) (Res.str _)⟩)
 ·rename_i l;cases e
  obtain⟨a,vs,rfl,f,q⟩:=h1.tup_inv;refine .inl ⟨a,vs,rfl,SqT.of (s _ _ f),λhw=>?_,λp hp=>?_⟩
  ·refine k _ F H (zF.refl s) ?_;have e:jG l lo hi=l:=by unfold jG;rw[q.length]at hw;rw[hw.1,hw.2,List.drop_zero,Nat.sub_zero,List.take_length]
   rw[e];exact h1
  ·have g:=zF.frozen (o:=.tup (xZ vs lo hi)) s hp;exact k _ _ _ g (Dat.tup (K:=X.K) qF ((q.mono g.ff).cut lo hi))
 ·cases e
  obtain⟨a,vs,rfl,f,q⟩:=h1.lst_inv;refine .inr (.inl ⟨a,vs,rfl,SqL.of f,λp hp=>?_⟩);have g:=zF.frozen (o:=.lst (xZ vs lo hi)) s hp;exact k _ _ _ g (Dat.lst (K:=X.K) qF ((q.mono g.ff).cut lo hi))
 ·rename_i ns;cases e
  obtain⟨a,rfl,f⟩:=h1.scr_inv;refine .inr (.inl ⟨a,_,rfl,zI.seq s f,λp hp=>?_⟩);rw[zmc];have g:=zF.frozen (o:=.lst ((jG ns lo hi).map V.int)) s hp;exact k _ _ _ g (Dat.lst (K:=X.K) qF (zD.ofInts _))
noncomputable def gG:D->Option D
 | .lst l=>some (.lst l.reverse)
 |_=>none
noncomputable def wE(x y:D):Option D:=match y with
 | .int (-1)=>gG x
 |_=>none
theorem frev{st:Expr}{fs:EO D}(ha:FP K .br X a fa)(hs:FP K .fz X st fs)(hK:X.K=K:=by rfl):FP K .ow X (.Subscript a (.Slice none none (some st) p2) pos) (c2 wE fa fs):=FP.mk λρ d hf=>by
 subst hK;obtain⟨x,y,e1,e2,e3⟩:=nA hf;unfold wE at e3;split at e3
 ·cases x<;>simp only[gG]at e3<;>try(cases e3;done)
  cases e3
  refine PE.imp (zoR (ha.h ρ _ e1) (hs.h ρ _ e2)) λσ H Q h_=>?_
  obtain⟨F,rl,q⟩:=h_;refine⟨F,rl,λv F1 H1 g1 r1=>⟨F1,rl.grow g1,λu F2 H2 g2 r2=>⟨Dat.int_inv (K:=X.K) (F:=F2) r2,?_⟩⟩⟩;obtain⟨a,vs,rfl,f,qq⟩:=zO.lst_inv (zO.mono g2.ff g2.hh r1);refine⟨a,vs,rfl,SqL.of f,λp hp=>?_⟩;have g:=g1.trans (g2.trans (zF.fresh (o:=.lst vs.reverse) g2.fh hp));exact q _ _ _ g ⟨p,rfl,(g1.hh.trans g2.hh).free hp,g2.fh.free hp,vs.reverse,qF,qq.reverse⟩
 ·cases e3
end
def ziv(K:Fg)(F H:Hp):List D->List V->Prop
 |[],vs=>vs=[]
 |d::l,vs=>∃v r,vs=v::r/\zO K F H d v/\ziv K F H l r
def ResL(K:Fg)(fz:Bool)(F' H':Hp)(ds:List D)(vs:List V):Prop:=if fz=true then zD K F' ds vs else ziv K F' H' ds vs
noncomputable def rdA(K:Fg)(fz:Bool)(ρ:En)(ds:List D):TA:=λσ H Q=>∃F,Rel K F H ρ σ/\∀vs F' H',zF F H F' H'->ResL K fz F' H' ds vs->Q vs H'
structure FPs(K:Fg)(fz:Bool)(X:Cx)(es:List Expr)(f:EO (List D)):Prop where
 h:∀ρ ds,f ρ=some ds->PA X es (rdA K fz ρ ds)
noncomputable def zC:EO (List D):=λ_=>some []
noncomputable def zA(f:EO D)(fs:EO (List D)):EO (List D):=λρ=>(f ρ).bind λd=>(fs ρ).map λl=>d::l
noncomputable def cL(p:Lo2)(fs:EO (List D)):EO D:=λρ=>(fs ρ).bind p
noncomputable def qT(l:List D):Option D:=if l.length<=lim then some (.tup l)else none
noncomputable def qC(l:List D):Option D:=if l.length<=lim then some (.lst l)else none
variable{ρ:En}
section
variable{K:Fg}{X:Cx}{e:Expr}{es:List Expr}{f:EO D}{fs:EO (List D)}{pos:Pos}{fz:Bool}
theorem zE:FPs K fz X [] zC:=FPs.mk λρ ds hf=>PA.imp kO λσ H Q ⟨F,r,q⟩=>by
 cases hf
 refine q [] F H (zF.refl r.sub) ?_;unfold ResL;split
 ·exact zD.nil
 ·rfl
theorem zcs{ds:List D}(h:zA f fs ρ=some ds):∃d l,f ρ=some d/\fs ρ=some l/\ds=d::l:=by
 unfold zA at h;cases e1:f ρ with
 |none=>rw[e1]at h;cases h
 |some d=>
  cases e2:fs ρ with
  |none=>rw[e1,e2]at h;cases h
  |some l=>rw[e1,e2]at h;cases h;exact⟨d,l,rfl,rfl,rfl⟩
theorem zB(h1:FP K .fz X e f)(h2:FPs K true X es fs)(hs:starEach (e::es) X.env=(false,eval e X.env)::starEach es X.env:=by rfl):FPs K true X (e::es) (zA f fs):=FPs.mk λρ ds hf=>by
 obtain⟨d,l,e1,e2,rfl⟩:=zcs hf;refine PA.imp (jF (h1.h ρ d e1) (h2.h ρ l e2) hs) λσ H Q h_=>?_
 obtain⟨F,r,q⟩:=h_;refine⟨F,r,λv F1 H1 g1 r1=>⟨F1,r.grow g1,λvs F2 H2 g2 r2=>?_⟩⟩;exact q (v::vs) F2 H2 (g1.trans g2) (zD.cons (Dat.mono g2.ff r1) r2)
theorem vW(h1:FP K .br X e f)(h2:FPs K false X es fs)(hs:starEach (e::es) X.env=(false,eval e X.env)::starEach es X.env:=by rfl):FPs K false X (e::es) (zA f fs):=FPs.mk λρ ds hf=>by
 obtain⟨d,l,e1,e2,rfl⟩:=zcs hf;refine PA.imp (jF (h1.h ρ d e1) (h2.h ρ l e2) hs) λσ H Q h_=>?_
 obtain⟨F,r,q⟩:=h_;refine⟨F,r,λv F1 H1 g1 r1=>⟨F1,r.grow g1,λvs F2 H2 g2 r2=>?_⟩⟩;exact q (v::vs) F2 H2 (g1.trans g2) ⟨v,vs,rfl,zO.mono g2.ff g2.hh r1,r2⟩
theorem zdw{p:Lo2}{d:D}(h:cL p fs ρ=some d):∃l,fs ρ=some l/\p l=some d:=by
 unfold cL at h;cases e1:fs ρ with
 |none=>rw[e1]at h;cases h
 |some l=>rw[e1]at h;exact⟨l,rfl,h⟩
theorem jP{x1}(h:FPs K true X es fs):FP K .fz X (.Tuple es x1 pos) (cL qT fs):=FP.mk λρ d hf=>by
 obtain⟨l,e1,e2⟩:=zdw hf;obtain⟨hz,rfl⟩:=jD e2;refine PE.imp (zmu (h.h ρ l e1)) λσ H Q ⟨F,r,q⟩=>⟨F,r,λvs F1 H1 g1 r1=>⟨?_,λp hp=>?_⟩⟩
 ·rw[zD.length (K:=K) (F:=F1) r1];exact vT hz
 ·have g:=zF.frozen (o:=.tup vs) g1.fh hp;exact q _ _ _ (g1.trans g) (Dat.tup (K:=K) qF (zD.mono g.ff r1))
theorem qJ(h:FPs K true X es fs):FP K .ow X (.List es pos) (cL qC fs):=FP.mk λρ d hf=>by
 obtain⟨l,e1,e2⟩:=zdw hf;obtain⟨hz,rfl⟩:=jD e2;refine PE.imp (zoV (h.h ρ l e1)) λσ H Q ⟨F,r,q⟩=>⟨F,r,λvs F1 H1 g1 r1=>⟨?_,λp hp=>?_⟩⟩
 ·rw[zD.length (K:=K) (F:=F1) r1];exact vT hz
 ·exact q _ _ _ (g1.trans (zF.fresh g1.fh hp)) ⟨p,rfl,g1.hh.free hp,g1.fh.free hp,vs,qF,r1⟩
end
def vH(K:Fg)(X:Cx)(f:Value)(md:Md)(p:Lo2):Prop:=
 ∃r,jX X f r/\∀ds d F H vs Q,p ds=some d->zI F H->ziv K F H ds vs->(∀w F' H',zF F H F' H'->Res K md H F' H' d w->Q w H')->r vs H Q
variable{a:Expr}{fa:EO D}{y:Str}
section
variable{K:Fg}{X:Cx}{e:Expr}{es:List Expr}{f:EO D}{fs:EO (List D)}{pos p:Pos}{md:Md}{pf:Lo2}{x:Str}{id T:String}
theorem zgZ{r:List V->Hp->VK->Prop}{d:D}(hr:∀F H vs Q,zI F H->ziv K F H l vs->(∀w F' H',zF F H F' H'->Res K md H F' H' d w->Q w H')->r vs H Q)(σ:St)(H:Hp)(Q:VK)(h:rdE K md ρ d σ H Q):tCB r (rdA K false ρ l) σ H Q:=by
 obtain⟨F,rl,q⟩:=h;refine⟨F,rl,λvs F1 H1 g1 r1=>hr F1 H1 vs Q g1.fh r1 λw F2 H2 g2 r2=>?_⟩;refine q w F2 H2 (g1.trans g2) ?_;cases md with
 |fz=>exact r2
 |br=>exact r2
 |ow=>
  obtain⟨a,e,h1,h2,h3⟩:=r2;exact⟨a,e,g1.hh.free h1,h2,h3⟩
theorem zdV(o:vH K X (.builtin id) md pf)(hg:Gl X x)(hm:X.mg x=none)(hv:bootBuiltins x=some (.builtin id))(ha:FPs K false X (e::es) fs)(hn:x≠"__name__":=by decide)(hdb:(x==("__debug__":Str))=false:=by decide)(he:starEach (e::es) X.env=(false,eval e X.env)::starEach es X.env:=by rfl)(hpl:(backTo pos (starEach es X.env)).any (·.1)=false:=by rfl):FP K md X (.Call (.Name x p) (e::es) [] pos) (cL pf fs):=FP.mk λρ d hf=>by obtain⟨l,e1,e2⟩:=zdw hf;obtain⟨r,ho,hr⟩:=o;exact PE.imp (zbA ho hg hm hv (ha.h ρ l e1) hn hdb he hpl) (zgZ λF H vs Q s h k=>hr l d F H vs Q e2 s h k)
theorem zfD(o:vH K X (.type T) md pf)(hg:Gl X x)(hm:X.mg x=none)(hv:bootBuiltins x=some (.type T))(ha:FPs K false X (e::es) fs)(hn:x≠"__name__":=by decide)(hdb:(x==("__debug__":Str))=false:=by decide)(he:starEach (e::es) X.env=(false,eval e X.env)::starEach es X.env:=by rfl)(hpl:(backTo pos (starEach es X.env)).any (·.1)=false:=by rfl):FP K md X (.Call (.Name x p) (e::es) [] pos) (cL pf fs):=FP.mk λρ d hf=>by obtain⟨l,e1,e2⟩:=zdw hf;obtain⟨r,ho,hr⟩:=o;exact PE.imp (zfo ho hg hm hv (ha.h ρ l e1) hn hdb he hpl) (zgZ λF H vs Q s h k=>hr l d F H vs Q e2 s h k)
theorem ziv.one{d:D}{vs:List V}(h:ziv K F H [d] vs):∃v,vs=[v]/\zO K F H d v:=by obtain⟨v,r,rfl,h1,rfl⟩:=h;exact⟨v,rfl,h1⟩
noncomputable def jB:Lo2
 |[.lst l]=>some (.int l.length)
 |[.tup l]=>some (.int l.length)
 |[.scr l]=>some (.int l.length)
 |[.str z]=>if z.length<=lim then some (.int z.length)else none
 |_=>none
theorem zro(hK:X.K=K:=by rfl):vH K X (.builtin "len") .fz jB:=by
 subst hK;refine⟨_,jX.or zfK zfJ,λds d F H vs Q e s h k=>?_⟩;unfold jB at e;split at e
 ·obtain⟨v,rfl,h1⟩:=h.one;cases e
  obtain⟨a,vs,rfl,f,q⟩:=h1.lst_inv;refine .inl ⟨a,vs,rfl,.inl (SqL.of f),?_⟩;rw[q.length];exact k _ F H (zF.refl s) (Res.int _)
 ·obtain⟨v,rfl,h1⟩:=h.one;cases e
  obtain⟨a,vs,rfl,f,q⟩:=h1.tup_inv;refine .inl ⟨a,vs,rfl,.inr (SqT.of (s _ _ f)),?_⟩;rw[q.length];exact k _ F H (zF.refl s) (Res.int _)
 ·obtain⟨v,rfl,h1⟩:=h.one;cases e
  obtain⟨a,rfl,f⟩:=h1.scr_inv;refine .inl ⟨a,_,rfl,.inl (zI.seq s f),?_⟩;rw[List.length_map];exact k _ F H (zF.refl s) (Res.int _)
 ·obtain⟨v,rfl,h1⟩:=h.one;obtain⟨hz,rfl⟩:=jD e;rw[h1.str_inv];exact .inr ⟨_,rfl,vT hz,k _ F H (zF.refl s) (Res.int _)⟩
 ·cases e
noncomputable def vY:Lo2
 |[.lst l]=>some (.tup l)
 |[.tup l]=>some (.tup l)
 |_=>none
theorem znV(hK:X.K=K:=by rfl):vH K X (.type "tuple") .fz vY:=by
 subst hK;refine⟨_,zeL,λds d F H vs Q e s h k=>?_⟩;unfold vY at e;split at e
 ·obtain⟨v,rfl,h1⟩:=h.one;cases e
  obtain⟨a,vs,rfl,f,q⟩:=h1.lst_inv;refine⟨a,vs,rfl,.inl ⟨SqL.of f,λp hp=>?_⟩⟩;have g:=zF.frozen (o:=.tup vs) s hp;exact k _ _ _ g (Dat.tup (K:=X.K) qF (q.mono g.ff))
 ·obtain⟨v,rfl,h1⟩:=h.one;cases e
  obtain⟨a,vs,rfl,f,q⟩:=id h1.tup_inv;exact⟨a,vs,rfl,.inr ⟨SqT.of (s _ _ f),k _ F H (zF.refl s) h1⟩⟩
 ·cases e
noncomputable def vS:Lo2
 |[.lst l]=>some (.lst l)
 |[.tup l]=>some (.lst l)
 |_=>none
theorem zmH(hK:X.K=K:=by rfl):vH K X (.type "list") .ow vS:=by
 subst hK;refine⟨_,zfI,λds d F H vs Q e s h k=>?_⟩;unfold vS at e;split at e
 ·obtain⟨v,rfl,h1⟩:=h.one;cases e
  obtain⟨a,vs,rfl,f,q⟩:=h1.lst_inv;exact⟨a,vs,rfl,.inl (SqL.of f),λp hp=>k _ _ _ (zF.fresh s hp) ⟨p,rfl,hp,s.free hp,vs,qF,q⟩⟩
 ·obtain⟨v,rfl,h1⟩:=h.one;cases e
  obtain⟨a,vs,rfl,f,q⟩:=h1.tup_inv;exact⟨a,vs,rfl,.inr (SqT.of (s _ _ f)),λp hp=>k _ _ _ (zF.fresh s hp) ⟨p,rfl,hp,s.free hp,vs,qF,q⟩⟩
 ·cases e
def zpk(ns:List Int):Prop:=(∀n∈ns,0<=n)/\ns.sum<2^62
open Classical in
noncomputable def sumD:Lo2
 |[.lst l]=>(jM l).bind λns=>if zpk ns then some (.int ns.sum)else none
 |_=>none
theorem zrm(hc:X.calm=true)(hK:X.K=K:=by rfl):vH K X (.builtin "sum") .fz sumD:=by
 subst hK;refine⟨_,zkw hc,λds d F H vs Q e s h k=>?_⟩;unfold sumD at e;split at e
 ·rename_i l;cases e1:jM l with
  |none=>rw[e1]at e;cases e
  |some ns=>
   rw[e1]at e;obtain⟨hz,rfl⟩:=jD e;obtain⟨v,rfl,h1⟩:=h.one;rw[zaq e1]at h1;obtain⟨a,vs,rfl,f,q⟩:=h1.lst_inv;rw[q.ints]at f;exact⟨a,ns,rfl,SqL.of f,zhI hz.1 hz.2,k _ F H (zF.refl s) (Res.int _)⟩
 ·cases e
noncomputable def gA:Lo2
 |[.int i]=>some (.int (if i<0 then -i else i))
 |_=>none
theorem zrr:vH K X (.builtin "abs") .fz gA:=by
 refine⟨_,zmk,λds d F H vs Q e s h k=>?_⟩;unfold gA at e;split at e
 ·obtain⟨v,rfl,h1⟩:=h.one;cases e
  rw[h1.int_inv];exact⟨_,rfl,k _ F H (zF.refl s) (Res.int _)⟩
 ·cases e
noncomputable def wT:Lo2
 |[.int i]=>some (.int i)
 |[.bl k]=>some (.int (if k then 1 else 0))
 |_=>none
theorem zrp:vH K X (.type "int") .fz wT:=by
 refine⟨_,zkC,λds d F H vs Q e s h k=>?_⟩;unfold wT at e;split at e
 ·obtain⟨v,rfl,h1⟩:=h.one;cases e
  rw[h1.int_inv];exact .inl ⟨_,rfl,k _ F H (zF.refl s) (Res.int _)⟩
 ·obtain⟨v,rfl,h1⟩:=h.one;cases e
  rw[h1.bl_inv];exact .inr ⟨_,rfl,k _ F H (zF.refl s) (Res.int _)⟩
 ·cases e
noncomputable def wP(x y:D):Option D:=match x,y with
 | .lst l,.int d=>(jM l).map λns=>.int (maxD ns d)
 |_,_=>none
theorem zqZ{b:Expr}{fb:EO D}{kp:Pos}(hc:X.calm=true)(hg:Gl X "max")(hm:X.mg "max"=none)(ha:FP K .br X a fa)(hb:FP K .fz X b fb)(hs:starEach [a] X.env=[(false,eval a X.env)]:=by rfl)(hK:X.K=K:=by rfl)(H1:∀{ta tb:TE},X.calm=true->Gl X "max"->X.mg "max"=none->PE X a ta->PE X b tb->PE X (.Call (.Name "max" p) [a] [⟨some "default",b,kp⟩] pos) (tCBK (λxs zs H Q=>∃(p:Addr) (ns:List Int) (d:Int),xs=[.ref p]/\zs=[.int d]/\SqL X.K H p (ns.map V.int)/\Q (.int (maxD ns d)) H) (yN ta wA) (yN tb wA)):=by exact λhc hg hm ha hb=>zjm (zkA hc) hg hm PyProof.Rows.boot_max (jF ha kO) (znj hb zoL)):
  FP K .fz X (.Call (.Name "max" p) [a] [⟨some "default",b,kp⟩] pos) (c2 wP fa fb):=FP.mk λρ d hf=>by
 subst hK;obtain⟨x,y,e1,e2,e3⟩:=nA hf;refine PE.imp (H1 hc hg hm (ha.h ρ x e1) (hb.h ρ y e2)) λσ H Q h_=>?_
 obtain⟨F,rl,q⟩:=h_;unfold wP at e3;split at e3
 ·rename_i l dd;cases e4:jM l with
  |none=>rw[e4]at e3;cases e3
  |some ns=>
   rw[e4]at e3;cases e3
   rw[zaq e4];refine⟨F,rl,λv F1 H1 g1 r1=>⟨F1,rl.grow g1,λu F2 H2 g2 r2=>?_⟩⟩;obtain⟨a,vs,rfl,f,qq⟩:=zO.lst_inv (zO.mono g2.ff g2.hh r1);rw[qq.ints]at f;have ru:=Dat.int_inv (K:=X.K) (F:=F2) r2;subst ru;exact⟨a,ns,dd,rfl,rfl,SqL.of f,q _ F2 H2 (g1.trans g2) (Res.int _)⟩
 ·cases e3
noncomputable def tyN:D->Option String
 | .non=>some "NoneType"
 | .bl _=>some "bool"
 | .int _=>some "int"
 | .str _=>some "str"
 | .tup _=>some "tuple"
 | .lst _=>some "list"
 | .dic _ _=>some "dict"
 |_=>none
def wS(k T:String):Bool:=k==T||(k=="bool"&&T=="int")
theorem znC(K:Fg):(["NoneType","bool","int","str","tuple","list","dict"].all λk=>["bool","int","str","tuple","list","dict"].all λT=>PySem.W.kitOne K (.type k) (.type T)==some (wS k T))=true:=by kernel_rfl
theorem zpr(K:Fg){k T:String}(hk:k∈["NoneType","bool","int","str","tuple","list","dict"])(hT:T∈["bool","int","str","tuple","list","dict"]):PySem.W.kitOne K (.type k) (.type T)=some (wS k T):=by have h:=List.all_eq_true.mp (znC K) k hk;exact eq_of_beq (List.all_eq_true.mp h T hT)
noncomputable def kW(T:String)(x:D):Option D:=(tyN x).map λk=>.bl (wS k T)
theorem zmS{d:D}{k:String}(h:tyN d=some k):k∈["NoneType","bool","int","str","tuple","list","dict"]:=by cases d<;>simp only[tyN]at h<;>cases h<;>decide
theorem zoh{d:D}{k:String}(s:zI F H)(h:zO K F H d v)(e:tyN d=some k):xF K H v (.type k):=by
 cases d<;>simp only[tyN]at e<;>cases e
 ·rw[h.non_inv];exact .non
 ·rw[h.bl_inv];exact .bl _
 ·rw[h.int_inv];exact .int _
 ·rw[h.str_inv];exact .str _
 ·obtain⟨a,vs,rfl,f,_⟩:=h.tup_inv;exact .tup (s _ _ f)
 ·obtain⟨a,vs,rfl,f,_⟩:=h.lst_inv;exact .lst f
 ·obtain⟨a,vs,rfl,f,_⟩:=h.dic_inv;rcases f with(⟨kvs,f,_⟩|⟨kvs,f,_⟩)|⟨o,⟨kvs,f,_⟩|⟨kvs,f,_⟩⟩
  ·exact .dK (.inl f)
  ·exact .dT (.inl f)
  ·exact .dK (.inr ⟨o,f⟩)
  ·exact .dT (.inr ⟨o,f⟩)
theorem nS{T:String}{p2:Pos}(ha:FP K .br X a fa)(hg:Gl X "isinstance")(hm:X.mg "isinstance"=none)(hgT:Gl X y)(hmT:X.mg y=none)(hv:bootBuiltins y=some (.type T))(hT:T∈["bool","int","str","tuple","list","dict"]:=by decide)(hn:y≠"__name__":=by decide)(hd:(y==("__debug__":Str))=false:=by decide)(he:starEach [a,.Name y p2] X.env=(false,eval a X.env)::starEach [.Name y p2] X.env:=by rfl)(he2:starEach [.Name y p2] X.env=[(false,eval (.Name y p2) X.env)]:=by rfl)(hpl:(backTo pos (starEach [.Name y p2] X.env)).any (·.1)=false:=by rfl)(hK:X.K=K:=by rfl):
  FP K .fz X (.Call (.Name "isinstance" p) [a,.Name y p2] [] pos) (c1 (kW T) fa):=FP.mk λρ d hf=>by
 subst hK;obtain⟨x,e1,e2⟩:=zbR hf;unfold kW at e2;cases e3:tyN x with
 |none=>rw[e3]at e2;cases e2
 |some k=>
  rw[e3]at e2;cases e2
  refine PE.imp (zbA zmj hg hm boot_isinstance (jF (ha.h ρ x e1) (jF (zjn (v:=.ty T) hgT hmT hv rfl hn hd) kO he2) he) (by decide) (by decide) he hpl) λσ H Q h_=>?_
  obtain⟨F,rl,q⟩:=h_;refine⟨F,rl,λv F1 H1 g1 r1=>⟨v,T,_,_,rfl,zoh g1.fh r1 e3,zpr X.K (zmS e3) hT,q _ F1 H1 g1 (Res.bl _)⟩⟩
end
noncomputable def rdTp(K:Fg)(ρ:En)(b:Bool):TT:=λσ H Q=>∃F,Rel K F H ρ σ/\∀F' H',zF F H F' H'->Q b H'
structure FTp(K:Fg)(X:Cx)(e:Expr)(f:EO Bool):Prop where
 h:∀ρ b,f ρ=some b->PT X e (rdTp K ρ b)
structure FWp(K:Fg)(X:Cx)(e:Expr)(f:EO Bool):Prop where
 h:∀ρ b,f ρ=some b->PW X e (rdTp K ρ b)
noncomputable def rdT(K:Fg)(ρ:En)(b:Bool)(ρ':En):TT:=λσ H Q=>∃F,Rel K F H ρ σ/\∀F' H',Rel K F' H' ρ' σ->qS ρ σ F H ρ' σ F' H'->Q b H'
structure FT(K:Fg)(X:Cx)(e:Expr)(m:EO (Bool×En)):Prop where
 h:∀ρ b ρ',m ρ=some (b,ρ')->PT X e (rdT K ρ b ρ')
structure FW(K:Fg)(X:Cx)(e:Expr)(m:EO (Bool×En)):Prop where
 h:∀ρ b ρ',m ρ=some (b,ρ')->PW X e (rdT K ρ b ρ')
noncomputable def cT(f:EO D):EO Bool:=λρ=>match f ρ with
 |some (.bl b)=>some b
 |_=>none
noncomputable def xE(f g:EO Bool):EO Bool:=λρ=>(f ρ).bind λb=>if b=true then g ρ else some false
noncomputable def orP(f g:EO Bool):EO Bool:=λρ=>(f ρ).bind λb=>if b=true then some true else g ρ
noncomputable def yQ(f:EO Bool):EO Bool:=λρ=>(f ρ).map λb=>!b
noncomputable def upT(f:EO Bool):EO (Bool×En):=λρ=>(f ρ).map λb=>(b,ρ)
noncomputable def andM(f g:EO (Bool×En)):EO (Bool×En):=λρ=>(f ρ).bind λp=>if p.1=true then g p.2 else some (false,p.2)
theorem zgK{b:Bool}(h:cT f ρ=some b):f ρ=some (.bl b):=by
 unfold cT at h;split at h
 ·rename_i e;cases h;exact e
 ·cases h
theorem zkI{f g:EO Bool}{b:Bool}(h:xE f g ρ=some b):(f ρ=some true/\g ρ=some b)\/(f ρ=some false/\b=false):=by
 unfold xE at h;cases e:f ρ with
 |none=>rw[e]at h;cases h
 |some c=>
  rw[e]at h;cases c with
  |true=>exact .inl ⟨rfl,h⟩
  |false=>exact .inr ⟨rfl,(Option.some.inj h).symm⟩
theorem zll{f g:EO Bool}{b:Bool}(h:orP f g ρ=some b):(f ρ=some false/\g ρ=some b)\/(f ρ=some true/\b=true):=by
 unfold orP at h;cases e:f ρ with
 |none=>rw[e]at h;cases h
 |some c=>
  rw[e]at h;cases c with
  |false=>exact .inl ⟨rfl,h⟩
  |true=>exact .inr ⟨rfl,(Option.some.inj h).symm⟩
theorem zet:PW X e (λ_ _ _=>False):=λ_ _ _ _ _ _ _ h=>h.elim
theorem zlq:PE X e (λ_ _ _=>False):=λ_ _ _ _ _ _ h=>h.elim
variable{op:CmpOp}
section
variable{K:Fg}{X:Cx}{a b e:Expr}{rest:List Expr}{fa fb f:EO D}{pos:Pos}{p:D->D->Option D}{t u:EO Bool}{m n:EO (Bool×En)}
theorem tcmp(o:Op2 K X (compareOp op) .fz p)(ha:FP K .br X a fa)(hb:FP K .br X b fb)(hm:behindInMarks op b=false):FTp K X (.Compare a [op] [b] pos) (cT (c2 p fa fb)):=FTp.mk λρ c hf=>by
 obtain⟨x,y,e1,e2,e3⟩:=nA (zgK hf);obtain⟨r,ho,hr⟩:=o;refine PT.imp (zge ho (ha.h ρ x e1) (hb.h ρ y e2) hm) λσ H Q h_=>?_
 obtain⟨F,rl,q⟩:=h_;refine two (md:=.fz) (d:=.bl c) (ta:=λ_ _ _=>True) (tb:=λ_ _ _=>True) (ha.h ρ x e1) (hb.h ρ y e2) (λF H v u Q s h1 h2 k=>hr x y _ F H v u Q e3 s h1 h2 k) σ H _ ⟨F,rl,λv F' H' g h=>⟨c,Dat.bl_inv (K:=K) (F:=F') h,q F' H' g⟩⟩
theorem zqm(o:nY K X (compareOp op) p)(ha:FP K .fz X a fa)(hb:FP K .br X b fb)(hm:behindInMarks op b=false):FTp K X (.Compare a [op] [b] pos) (cT (c2 p fa fb)):=FTp.mk λρ c hf=>by
 obtain⟨x,y,e1,e2,e3⟩:=nA (zgK hf);obtain⟨r,ho,hr⟩:=o;refine PT.imp (zge ho (ha.h ρ x e1) (hb.h ρ y e2) hm) λσ H Q h_=>?_
 obtain⟨F,rl,q⟩:=h_;exact zoi (d:=.bl c) (ha.h ρ x e1) (hb.h ρ y e2) (λF H v u Q s h1 h2 k=>hr x y _ F H v u Q e3 s h1 h2 k) σ H _ ⟨F,rl,λv F' H' g h=>⟨c,Dat.bl_inv (K:=K) (F:=F') h,q F' H' g⟩⟩
theorem kT(h:FP K .fz X e f)(he:∀whole,isTrue e X.env whole=(do let v ←whole;standAt e.pos;holding [v] (truthy v)):=by intro _;rfl):FTp K X e (cT f):=FTp.mk λρ c hf=>
 PT.imp (zoG (h.h ρ _ (zgK hf)) he) λσ H Q ⟨F,rl,q⟩=>⟨F,rl,λv F' H' g h=>⟨c,Dat.bl_inv (K:=K) (F:=F') h,q F' H' g⟩⟩
noncomputable def vZ:D->Option Bool
 | .non=>some false
 | .bl b=>some b
 | .int i=>some (i !=0)
 | .str z=>if z.length<=lim then some ((z.length:Int)!=0)else none
 | .lst l=>some (!l.isEmpty)
 | .tup l=>some (!l.isEmpty)
 |_=>none
noncomputable def cTr(f:EO D):EO Bool:=λρ=>(f ρ).bind vZ
theorem zD.empty{vs:List V}(q:zD K F l vs):vs.isEmpty=l.isEmpty:=by have:=q.length;cases l<;>cases vs<;>simp at this ⊢
theorem ttru(h:FP K .br X e f)(he:∀whole,isTrue e X.env whole=(do let v ←whole;standAt e.pos;holding [v] (truthy v)):=by intro _;rfl)(hK:X.K=K:=by rfl):FTp K X e (cTr f):=FTp.mk λρ c hf=>by
 subst hK;unfold cTr at hf;cases e1:f ρ with
 |none=>rw[e1]at hf;cases hf
 |some d=>
  rw[e1]at hf;have hf:vZ d=some c:=hf;refine PT.imp (zkY (h.h ρ d e1) he) λσ H Q ⟨F,rl,q⟩=>⟨F,rl,λv F' H' g h=>⟨c,?_,q F' H' g⟩⟩
  have h:zO X.K F' H' d v:=h;cases d<;>simp only[vZ]at hf<;>try(cases hf;done)
  ·cases hf;rw[h.non_inv];rfl
  ·cases hf;rw[h.bl_inv];rfl
  ·cases hf;rw[h.int_inv];rfl
  ·obtain⟨hz,rfl⟩:=jD hf;rw[h.str_inv];exact⟨vT hz,rfl⟩
  ·cases hf
   obtain⟨a,vs,rfl,f,q⟩:=h.tup_inv;exact .inr (.inl ⟨vs,SqT.of (g.fh _ _ f),by rw[q.empty]⟩)
  ·cases hf
   obtain⟨a,vs,rfl,f,q⟩:=h.lst_inv;exact .inl ⟨vs,SqL.of f,by rw[q.empty]⟩
theorem zok(h:FTp K X a t):FWp K X (.BoolOp .And [a] pos) t:=FWp.mk λρ c hf=>ziX (h.h ρ c hf)
theorem tor1(h:FTp K X a t):FWp K X (.BoolOp .Or [a] pos) t:=FWp.mk λρ c hf=>zoE (h.h ρ c hf)
theorem tand(h1:FTp K X a t)(h2:FWp K X (.BoolOp .And (b::rest) pos) u):FWp K X (.BoolOp .And (a::b::rest) pos) (xE t u):=FWp.mk λρ c hf=>by
 rcases zkI hf with⟨e1,e2⟩|⟨e1,rfl⟩
 ·exact PW.imp (zhc (h1.h ρ _ e1) (h2.h ρ c e2)) λσ H Q ⟨F,rl,q⟩=>⟨F,rl,λF1 H1 g1=>nN ⟨F1,rl.grow g1,λF2 H2 g2=>q F2 H2 (g1.trans g2)⟩⟩
 ·exact PW.imp (zhc (h1.h ρ _ e1) zet) λσ H Q ⟨F,rl,q⟩=>⟨F,rl,λF1 H1 g1=>iteF (q F1 H1 g1)⟩
theorem tor(h1:FTp K X a t)(h2:FWp K X (.BoolOp .Or (b::rest) pos) u):FWp K X (.BoolOp .Or (a::b::rest) pos) (orP t u):=FWp.mk λρ c hf=>by
 rcases zll hf with⟨e1,e2⟩|⟨e1,rfl⟩
 ·exact PW.imp (zoF (h1.h ρ _ e1) (h2.h ρ c e2)) λσ H Q ⟨F,rl,q⟩=>⟨F,rl,λF1 H1 g1=>iteF ⟨F1,rl.grow g1,λF2 H2 g2=>q F2 H2 (g1.trans g2)⟩⟩
 ·exact PW.imp (zoF (h1.h ρ _ e1) zet) λσ H Q ⟨F,rl,q⟩=>⟨F,rl,λF1 H1 g1=>nN (q F1 H1 g1)⟩
theorem FWp.pt(h:FWp K X e t):FTp K X e t:=FTp.mk λρ c hf=>(h.h ρ c hf).pt
theorem tnot(h:FTp K X a t):FTp K X (.UnaryOp .Not a pos) (yQ t):=FTp.mk λρ c hf=>by
 unfold yQ at hf;cases e1:t ρ with
 |none=>rw[e1]at hf;cases hf
 |some d=>
  rw[e1]at hf;cases hf
  exact PT.imp (zoH (h.h ρ d e1)) λσ H Q ⟨F,rl,q⟩=>⟨F,rl,λF1 H1 g1=>q F1 H1 g1⟩
theorem FTp.up(h:FTp K X e t):FT K X e (upT t):=FT.mk λρ c ρ' hf=>by
 unfold upT at hf;cases e1:t ρ with
 |none=>rw[e1]at hf;cases hf
 |some d=>
  rw[e1]at hf;cases hf
  exact PT.imp (h.h ρ c e1) λσ H Q ⟨F,rl,q⟩=>⟨F,rl,λF1 H1 g1=>q F1 H1 (rl.grow g1) g1.step⟩
theorem zqW(h:FT K X a m):FW K X (.BoolOp .And [a] pos) m:=FW.mk λρ c ρ' hf=>ziX (h.h ρ c ρ' hf)
theorem mand(h1:FT K X a m)(h2:FW K X (.BoolOp .And (b::rest) pos) n):FW K X (.BoolOp .And (a::b::rest) pos) (andM m n):=FW.mk λρ c ρ' hf=>by
 unfold andM at hf;cases e1:m ρ with
 |none=>rw[e1]at hf;cases hf
 |some q1=>
  obtain⟨b1,ρ1⟩:=q1;rw[e1]at hf;cases b1 with
  |true=>
   have hf:n ρ1=some (c,ρ'):=hf;exact PW.imp (zhc (h1.h ρ _ _ e1) (h2.h ρ1 c ρ' hf)) λσ H Q ⟨F,rl,q⟩=>⟨F,rl,λF1 H1 r1 s1=>nN ⟨F1,r1,λF2 H2 r2 s2=>q F2 H2 r2 (s1.trans s2 rl.sub)⟩⟩
  |false=>
   have hf:some (false,ρ1)=some (c,ρ'):=hf;cases hf
   exact PW.imp (zhc (h1.h ρ _ _ e1) zet) λσ H Q ⟨F,rl,q⟩=>⟨F,rl,λF1 H1 r1 s1=>iteF (q F1 H1 r1 s1)⟩
theorem FW.pt(h:FW K X e m):FT K X e m:=FT.mk λρ c ρ' hf=>(h.h ρ c ρ' hf).pt
noncomputable def wZ(f g:EO D):EO D:=λρ=>match f ρ with
 |some (.bl true)=>g ρ
 |some (.bl false)=>some (.bl false)
 |_=>none
noncomputable def orV(f g:EO D):EO D:=λρ=>match f ρ with
 |some (.bl true)=>some (.bl true)
 |some (.bl false)=>g ρ
 |_=>none
noncomputable def notV(f:EO D):EO D:=λρ=>match f ρ with
 |some (.bl b)=>some (.bl (!b))
 |_=>none
theorem vone{op}(h:FP K .fz X a f):FP K .fz X (.BoolOp op [a] pos) f:=FP.mk λρ d hf=>zoT (h.h ρ d hf)
theorem vand(h1:FP K .fz X a fa)(h2:FP K .fz X (.BoolOp .And (b::rest) pos) fb):FP K .fz X (.BoolOp .And (a::b::rest) pos) (wZ fa fb):=FP.mk λρ d hf=>by
 unfold wZ at hf;split at hf
 ·rename_i e1;exact PE.imp (zmw (h1.h ρ _ e1) (h2.h ρ d hf)) λσ H Q ⟨F,rl,q⟩=>⟨F,rl,λv F1 H1 g1 r1=>⟨true,Dat.bl_inv (K:=K) (F:=F1) r1,nN ⟨F1,rl.grow g1,λu F2 H2 g2 r2=>q u F2 H2 (g1.trans g2) r2⟩⟩⟩
 ·rename_i e1;cases hf
  exact PE.imp (zmw (h1.h ρ _ e1) zlq) λσ H Q ⟨F,rl,q⟩=>⟨F,rl,λv F1 H1 g1 r1=>⟨false,Dat.bl_inv (K:=K) (F:=F1) r1,iteF (q _ F1 H1 g1 (Res.bl false))⟩⟩
 ·cases hf
noncomputable def wO:D->Option D
 | .int i=>some (.int (-i))
 |_=>none
theorem fneg(h:FP K .fz X a fa):FP K .fz X (.UnaryOp .USub a pos) (c1 wO fa):=FP.mk λρ d hf=>by
 obtain⟨x,e1,e2⟩:=zbR hf;cases x<;>simp only[wO]at e2<;>try(cases e2;done)
 cases e2
 exact PE.imp (zqH zog (h.h ρ _ e1)) λσ H Q ⟨F,rl,q⟩=>⟨F,rl,λv F1 H1 g1 r1=>⟨_,Dat.int_inv (K:=K) (F:=F1) r1,q _ F1 H1 g1 (Res.int _)⟩⟩
end
open L2 FX
def ExcD(K:Fg)(F:Hp)(c:Str)(d:D)(C da:Addr):Prop:=∃u,PySem.W.nsIn K mainGlobals c=some (some (.ref C))/\F da=some (.xd [(kD c,u)])/\Dat K F d u
def Wish(X:Cx)(σ:St)(C da:Addr)(H:Hp):Prop:=∀(pins:AO) (a:Addr) (tb:Option Addr) (s:Shared),Inv X pins σ H s->Fly s.heap a (.ref C) (some da) tb .none->jT X pins H a->(∀T,tb=some T->jT X pins H T)->X.xe (.ref a) s
def CX1(P:Program)(w:World):CXT:=λouter H s E e s'=>∃a C da T H',e=.ref a/\s'.os=s.os/\AllBare s'.gens/\Un (frs outer) [] H H' s.heap s'.heap/\HOk P w H' s'.heap/\
 Fly s'.heap a (.ref C) (some da) (some T) .none/\s.heap.objs.size<=a/\s.heap.objs.size<=T/\H' a=none/\H' T=none/\E (.ref C) (some da) H'
variable{k:Nat}{ex:List Addr}{P:Program}{w:World}{N:List Str}{qual:Str}{A:Around}{fd:FuncData}{Q:VK}
section
variable{X:Cx}{pins:AO}{σ:St}{H:Hp}{s:Shared}{h':Heap}
theorem zjS{fs:List Addr}{h:Heap}(x:HOk P w H h)(c:Chg fs ex h h')(hf:∀b∈fs,H b=none)(hx:∀b∈ex,H b=none):HOk P w H h':=λa o e=>by
 refine(x a o e).stay (λb u hb q=>?_) (λ_ q=>q) λ_ _ q=>q
 have n:H b≠none:=by
  rcases hb with rfl|hb
  ·rw[e];intro z;cases z
  ·rw[hb];intro z;cases z
 exact c.keep b u q (λz=>n (hf b z)) λz=>n (hx b z)
theorem zgx(I:Inv X pins σ H s){fs:List Addr}(hfs:fs=frs X.stack)(c:Chg fs ex s.heap h')(hx:∀b∈ex,jT X pins H b):Inv X pins σ H {s with heap:=h'}:=by
 subst hfs;refine Inv.call' (ch:=ex) I rfl ⟨λb o q n h1 h2=>c.keep b o q h1 h2,λb o q n h1 h2=>c.slot b o q h1 h2,λb o q n h2=>n,λb o q h2=>c.there b o q,λ_ _ q=>q,λ_ _ _ q=>q,λ_ ps q=>⟨#[],by simpa using q⟩⟩
  (zjS I.hok c I.stkFree λb hb=>(hx b hb).1) I.bare λb hb=>?_
 obtain⟨h1,h2,h3,h4,h5,h6⟩:=hx b hb;exact⟨h4,h2,h5,h6⟩
theorem ex_ok{e:Addr}{tb:Option Addr}{Pr:Addr->Prop}(h1:Pr e)(h2:∀T,tb=some T->Pr T):∀b∈exOf e tb,Pr b:=by
 intro b hb;cases tb with
 |none=>simp at hb;subst hb;exact h1
 |some T=>
  simp at hb;rcases hb with rfl|rfl
  ·exact h1
  ·exact h2 _ rfl
theorem zhE{mg:SV}{base:Heap}{scope:Scope}{f:Addr}{cd:Value}{outer:List Env}{s0:Shared}{H0:Hp}{E:XK}{C da:Addr}(h:E (.ref C) (some da) H):
  Wish (kE (CX1 P w) P w K mg base N qual scope f cd A outer s0 H0 E) σ C da H:=λpins a tb s I fl pa pt=>by
 have hst:(kE (CX1 P w) P w K mg base N qual scope f cd A outer s0 H0 E).stack=envOfC qual scope s0.heap.objs.size f cd::outer:=rfl;have hfs:(envOfC qual scope s0.heap.objs.size f cd::outer).filterMap (·.frame)=frs (kE (CX1 P w) P w K mg base N qual scope f cd A outer s0 H0 E).stack:=rfl;refine zgt (base:=base) (outer:=outer) (L:=s0.heap.objs.size) I.ok.frames I.stack rfl fl λh' T c fl' z=>?_
 have exn:∀b∈exOf a tb,jT (kE (CX1 P w) P w K mg base N qual scope f cd A outer s0 H0 E) pins H b:=ex_ok pa pt;have old:∀b,b<s0.heap.objs.size->b∉exOf a tb:=λb hb hm=>by
  obtain⟨_,_,_,h4,_⟩:=exn b hm;rcases h4 with h4|h4
  ·exact absurd (show b∈([]:List Addr)from h4) (by simp)
  ·exact absurd (Nat.lt_of_lt_of_le hb h4) (Nat.lt_irrefl _)
 have fro:∀b,b<s0.heap.objs.size->b∉frs outer->b∉(envOfC qual scope s0.heap.objs.size f cd::outer).filterMap (·.frame):=λb hb hn hm=>by
  have hm:b∈s0.heap.objs.size::frs outer:=hm;rcases List.mem_cons.mp hm with e|e
  ·exact absurd hb (by rw[e];exact Nat.lt_irrefl _)
  ·exact hn e
 have B:Un (frs outer) [] H0 H s0.heap s.heap:=I.base;have za:s0.heap.objs.size<=a:=by
  obtain⟨_,_,_,h4,_⟩:=pa;rcases h4 with h4|h4
  ·exact absurd (show a∈([]:List Addr)from h4) (by simp)
  ·exact h4
 refine⟨a,C,da,T,H,rfl,I.os,I.bare,⟨λb o q n h1 h2=>?_,λb o q n h1 h2=>?_,B.free,λb o q h2=>?_,B.tups,B.frzs,B.tbls⟩,zjS I.hok c (by rw[hfs];exact I.stkFree) λb hb=>(exn b hb).1,fl',za,Nat.le_trans I.sz z,pa.1,I.hok.fresh z,h⟩
 ·have lt:=Heap.lt_size q;exact c.keep b o (B.keep b o q n h1 h2) (fro b lt h1) (old b lt)
 ·have lt:=Heap.lt_size q;obtain⟨sl,e1⟩:=B.slot b o q n h1 h2;obtain⟨sl2,e2⟩:=c.slot b _ e1 (List.mem_cons_of_mem _ h1) (old b lt);exact⟨sl2,e2⟩
 ·obtain⟨o1,e1⟩:=B.there b o q h2;exact c.there b o1 e1
theorem zmZ{f:Addr}{ps:List Str}{sp:Sp}{us:List Value}{vs:List V}(F:jA X.prog X.w X.K X.mg X.base (CX1 X.prog X.w) k f fd ps sp)(hr:zW k X.A)(hb:kM X.K fd ps [])(I:Inv X pins σ H s)(r:zL vs us)(h:sp vs H Q λcv od H'=>∃C da,cv=.ref C/\od=some da/\Wish X σ C da H'):wpAny (model X.prog X.w) X.A (call (.ref f) us) (EP X pins σ Q) X.xe s:=by
 have hl:us.length=ps.length:=by rw[←r.length];exact F.len _ _ _ _ h
 have hb':=hb s us I.kIn (by simpa using hl);rw[List.append_nil]at hb';refine wpAny_call (codeAny_mono (F.run X.A X.stack s H ⟨us,[]⟩ us vs Q _ hr I.env0 hb' r h) λr s' hq=>?_);cases r with
 |error e=>
  obtain⟨a,C,da,T,H',rfl,os,bare,un,hok,fl,za,zT,na,nT,C',da',e1,e2,w⟩:=hq;cases e1;cases e2
  have I':Inv X pins σ H' s':=I.call' (ch:=[]) os un hok bare λb z=>absurd z (by simp)
  exact w pins a (some T) s' I' fl (I.fpOk za na) λT' e=>by cases e;exact I.fpOk zT nT
 |ok fl=>
  cases fl with
  |ret u=>exact I.after hq
  |next=>exact False.elim hq
  |brk=>exact False.elim hq
  |cont=>exact False.elim hq
end
variable{j:Nat}{sl:Option Sl}{ρ2:En}{σ2:St}
section
variable{K:Fg}{F H F' H':Hp}{ρ ρ':En}{σ σ':St}{i:Nat}
theorem qA{l:List α}{i:Nat}{x y:α}(h:(l.set i x)[j]?=some y):(j=i/\y=x)\/(j≠i/\l[j]?=some y):=by
 by_cases e:j=i
 ·subst e;rw[List.getElem?_set]at h;simp at h;exact .inl ⟨rfl,h.2.symm⟩
 ·rw[List.getElem?_set_ne (Ne.symm e)]at h;exact .inr ⟨e,h⟩
theorem zbx{l:List α}{i:Nat}{x:α}(h:i<l.length):(l.set i x)[i]?=some x:=by simp[h]
theorem zfe{l:List α}{i:Nat}{x y:α}(h:(l.set i x)[i]?=some y):i<l.length:=by have:=(List.getElem?_eq_some_iff.mp h).1;simpa using this
theorem Rel.setD(r:Rel K F H ρ σ){d:D}(h:Dat K F d v):Rel K F H (ρ.set i (some (.dat d))) (σ.set i (some v)):=by
 refine⟨r.sub,λj x e=>?_,λj x e=>?_,λj q x e=>?_,λj k q x s a ne e1 e2 e3 e4=>?_,by simp[r.len]⟩
 ·rcases qA e with⟨rfl,e'⟩|⟨ne,e'⟩
  ·cases e'
   exact⟨v,zbx (by rw[←r.len];exact zfe e),h⟩
  ·rw[List.getElem?_set_ne (Ne.symm ne)];exact r.dat j x e'
 ·rcases qA e with⟨rfl,e'⟩|⟨ne,e'⟩
  ·cases e'
  ·rw[List.getElem?_set_ne (Ne.symm ne)];exact r.bor j x e'
 ·rcases qA e with⟨rfl,e'⟩|⟨ne,e'⟩
  ·cases e'
  ·rw[List.getElem?_set_ne (Ne.symm ne)];exact r.own j q x e'
 ·rcases qA e1 with⟨rfl,e'⟩|⟨ne1,e1'⟩
  ·cases e'
  ·rcases qA e3 with⟨rfl,e'⟩|⟨ne3,e3'⟩
   ·cases e';cases e4
   ·rw[List.getElem?_set_ne (Ne.symm ne1)]at e2;rw[List.getElem?_set_ne (Ne.symm ne3)];exact r.inj j k q x s a ne e1' e2 e3' e4
theorem Rel.setN(r:Rel K F H ρ σ){v:Option V}:Rel K F H (ρ.set i none) (σ.set i v):=by
 refine⟨r.sub,λj x e=>?_,λj x e=>?_,λj q x e=>?_,λj k q x s a ne e1 e2 e3 e4=>?_,by simp[r.len]⟩
 ·rcases qA e with⟨rfl,e'⟩|⟨ne,e'⟩
  ·cases e'
  ·rw[List.getElem?_set_ne (Ne.symm ne)];exact r.dat j x e'
 ·rcases qA e with⟨rfl,e'⟩|⟨ne,e'⟩
  ·cases e'
  ·rw[List.getElem?_set_ne (Ne.symm ne)];exact r.bor j x e'
 ·rcases qA e with⟨rfl,e'⟩|⟨ne,e'⟩
  ·cases e'
  ·rw[List.getElem?_set_ne (Ne.symm ne)];exact r.own j q x e'
 ·rcases qA e1 with⟨rfl,e'⟩|⟨ne1,e1'⟩
  ·cases e'
  ·rcases qA e3 with⟨rfl,e'⟩|⟨ne3,e3'⟩
   ·cases e'
   ·rw[List.getElem?_set_ne (Ne.symm ne1)]at e2;rw[List.getElem?_set_ne (Ne.symm ne3)];exact r.inj j k q x s a ne e1' e2 e3' e4
theorem Rel.drop(r:Rel K F H ρ σ):Rel K F H (ρ.set i none) σ:=by
 by_cases hi:i<σ.length
 ·have h:=r.setN (i:=i) (v:=σ[i]);rw[List.set_getElem_self]at h;exact h
 ·have e:ρ.set i none=ρ:=List.set_eq_of_length_le (by rw[r.len];omega);rw[e];exact r
theorem Rel.setO(r0:Rel K F H ρ σ)(g:zF F H F' H'){d:D}{a:Addr}(hn:H a=none)(hf:F' a=none)(ho:Own K F' H' d a)(nb:∀(j:Nat) (s:Sl),ρ[j]?=some (some s)->s.isDat=false->∃q x,s=.ow q x):
  Rel K F' H' (ρ.set i (some (.own d))) (σ.set i (some (.ref a))):=by
 have r:=r0.grow g;have nf:∀(j:Nat) s,ρ[j]?=some (some s)->s.isDat=false->σ[j]?≠some (some (.ref a)):=λj s e hs z=>by
  obtain⟨q,x,rfl⟩:=nb j s e hs;obtain⟨b,e1,_,e3⟩:=r0.own j q x e;rw[z]at e1;cases e1
  obtain⟨o,e4⟩:=e3.some;rw[hn]at e4;cases e4
 refine⟨r.sub,λj x e=>?_,λj x e=>?_,λj q x e=>?_,λj k q x s c ne e1 e2 e3 e4=>?_,by simp[r.len]⟩
 ·rcases qA e with⟨rfl,e'⟩|⟨ne,e'⟩
  ·cases e'
  ·rw[List.getElem?_set_ne (Ne.symm ne)];exact r.dat j x e'
 ·rcases qA e with⟨rfl,e'⟩|⟨ne,e'⟩
  ·cases e'
  ·rw[List.getElem?_set_ne (Ne.symm ne)];exact r.bor j x e'
 ·rcases qA e with⟨rfl,e'⟩|⟨ne,e'⟩
  ·cases e'
   exact⟨a,zbx (by rw[←r.len];exact zfe e),hf,ho⟩
  ·rw[List.getElem?_set_ne (Ne.symm ne)];exact r.own j q x e'
 ·rcases qA e1 with⟨rfl,e1'⟩|⟨ne1,e1'⟩
  ·cases e1'
   rw[zbx (by rw[←r.len];exact zfe e1)]at e2;cases e2
   rcases qA e3 with⟨rfl,e3'⟩|⟨ne3,e3'⟩
   ·exact absurd rfl ne
   ·rw[List.getElem?_set_ne (Ne.symm ne3)];exact nf k s e3' e4
  ·rw[List.getElem?_set_ne (Ne.symm ne1)]at e2;rcases qA e3 with⟨rfl,e3'⟩|⟨ne3,e3'⟩
   ·rw[zbx (by rw[←r.len];exact zfe e3)];intro z;cases z
    exact nf j _ e1' rfl e2
   ·rw[List.getElem?_set_ne (Ne.symm ne3)];exact r.inj j k q x s c ne e1' e2 e3' e4
theorem zdb{v:Option V}{b:Addr}(h:yA (ρ.set i sl) (σ.set i v) b):(∃q d,sl=some (.ow q d)/\v=some (.ref b))\/yA ρ σ b:=by
 obtain⟨j,q,d,e1,e2⟩:=h;rcases qA e1 with⟨rfl,e1'⟩|⟨ne,e1'⟩
 ·rcases qA e2 with⟨_,e2'⟩|⟨ne,_⟩
  ·exact .inl ⟨q,d,e1'.symm,e2'.symm⟩
  ·exact absurd rfl ne
 ·rw[List.getElem?_set_ne (Ne.symm ne)]at e2;exact .inr ⟨j,q,d,e1',e2⟩
theorem zdQ{b:Addr}(h:yA (ρ.set i none) σ b):yA ρ σ b:=by
 obtain⟨j,q,d,e1,e2⟩:=h;rcases qA e1 with⟨rfl,e1'⟩|⟨ne,e1'⟩
 ·cases e1'
 ·exact⟨j,q,d,e1',e2⟩
structure Kp(ρ:En)(σ:St)(ρ':En)(σ':St):Prop where
 own:∀b,yA ρ' σ' b->yA ρ σ b
 pin:∀(i:Nat) (d':D),ρ'[i]?=some (some (.ow true d'))->∃d,ρ[i]?=some (some (.ow true d))/\σ'[i]?=σ[i]?
theorem Kp.refl:Kp ρ σ ρ σ:=⟨λ_ h=>h,λ_ d e=>⟨d,e,rfl⟩⟩
theorem Kp.trans(a:Kp ρ σ ρ' σ')(b:Kp ρ' σ' ρ2 σ2):Kp ρ σ ρ2 σ2:=⟨λc h=>a.own c (b.own c h),λi d e=>by obtain⟨d1,e1,e2⟩:=b.pin i d e;obtain⟨d2,e3,e4⟩:=a.pin i d1 e1;exact⟨d2,e3,e2.trans e4⟩⟩
theorem zgi{v:Option V}(hs:∀d,sl≠some (.ow true d)):∀(j:Nat) (d':D),(ρ.set i sl)[j]?=some (some (.ow true d'))->∃d,ρ[j]?=some (some (.ow true d))/\(σ.set i v)[j]?=σ[j]?:=λj d' e=>by
 rcases qA e with⟨rfl,e'⟩|⟨ne,e'⟩
 ·exact absurd e'.symm (hs d')
 ·exact⟨d',e',List.getElem?_set_ne (Ne.symm ne)⟩
theorem zhf:∀(j:Nat) (d':D),(ρ.set i none)[j]?=some (some (.ow true d'))->∃d,ρ[j]?=some (some (.ow true d))/\σ[j]?=σ[j]?:=λj d' e=>by
 rcases qA e with⟨rfl,e'⟩|⟨ne,e'⟩
 ·cases e'
 ·exact⟨d',e',rfl⟩
theorem Kp.setD{d:D}{v:Option V}:Kp ρ σ (ρ.set i (some (.dat d))) (σ.set i v):=⟨λb z=>by
 rcases zdb z with⟨_,_,z,_⟩|z
 ·cases z
 ·exact z,zgi λd h=>by cases h⟩
theorem qS.kp(a:qS ρ σ F H ρ' σ' F' H')(k:Kp ρ' σ' ρ2 σ2):qS ρ σ F H ρ2 σ2 F' H':=⟨a.ff,a.rest,λb z=>a.own b (k.own b z),λi d e=>by obtain⟨d1,e1,e2⟩:=k.pin i d e;obtain⟨d2,e3,e4⟩:=a.pin i d1 e1;exact⟨d2,e3,e2.trans e4⟩,a.fh⟩
end
inductive Fl where
 |nx (ρ:En)|rt (d:D) (ρ:En)|bk (ρ:En)|ct (ρ:En)|rs (c:Str) (d:D) (ρ:En)
def nX(K:Fg)(md:Md)(ρ:En)(σ:St)(H F' H':Hp)(d:D)(v:V):Prop:=match md with
 | .fz=>Dat K F' d v
 | .ow=>∃a,v=.ref a/\(H a=none\/yA ρ σ a)/\F' a=none/\Own K F' H' d a
 | .br=>False
noncomputable def rdS(X:Cx)(K:Fg)(md:Md)(ρ:En)(fl:Fl):TS:=λD σ H=>∃F,Rel K F H ρ σ/\match fl with
 | .nx ρ'=>∀σ' F' H',Rel K F' H' ρ' σ'->qS ρ σ F H ρ' σ' F' H'->D.nx σ' H'
 | .bk ρ'=>∀σ' F' H',Rel K F' H' ρ' σ'->qS ρ σ F H ρ' σ' F' H'->D.bk σ' H'
 | .ct ρ'=>∀σ' F' H',Rel K F' H' ρ' σ'->qS ρ σ F H ρ' σ' F' H'->D.ct σ' H'
 | .rt d ρ'=>∀v σ' F' H',Rel K F' H' ρ' σ'->qS ρ σ F H ρ' σ' F' H'->nX K md ρ σ H F' H' d v->D.rt v H'
 | .rs c d ρ'=>∀σ' F' H' C da,Rel K F' H' ρ' σ'->qS ρ σ F H ρ' σ' F' H'->ExcD K F' c d C da->Wish X σ' C da H'
structure FS(K:Fg)(md:Md)(X:Cx)(st:Stmt)(m:EO Fl):Prop where
 h:∀ρ fl,m ρ=some fl->PS X st (rdS X K md ρ fl)
structure FSs(K:Fg)(md:Md)(X:Cx)(sts:List Stmt)(m:EO Fl):Prop where
 h:∀ρ fl,m ρ=some fl->PSs X sts (rdS X K md ρ fl)
noncomputable def nxM:EO Fl:=λρ=>some (.nx ρ)
noncomputable def zG(m n:EO Fl):EO Fl:=λρ=>match m ρ with
 |some (.nx ρ1)=>n ρ1
 |r=>r
variable{ρ':En}{σ σ':St}{F' H':Hp}
theorem nX.back{F2 H2:Hp}{d:D}(a:qS ρ σ F H ρ' σ' F' H')(s:zI F H)(h:nX K md ρ' σ' H' F2 H2 d v):nX K md ρ σ H F2 H2 d v:=by
 cases md with
 |fz=>exact h
 |br=>exact h
 |ow=>
  obtain⟨b,e,h1,h2,h3⟩:=h;exact⟨b,e,a.back s h1,h2,h3⟩
theorem rdS.after{fl:Fl}{D:Ends}(s:zI F H)(r:Rel K F' H' ρ' σ')(a:qS ρ σ F H ρ' σ' F' H')(h:match fl with
   | .nx ρ'=>∀σ' F' H',Rel K F' H' ρ' σ'->qS ρ σ F H ρ' σ' F' H'->D.nx σ' H'
   | .bk ρ'=>∀σ' F' H',Rel K F' H' ρ' σ'->qS ρ σ F H ρ' σ' F' H'->D.bk σ' H'
   | .ct ρ'=>∀σ' F' H',Rel K F' H' ρ' σ'->qS ρ σ F H ρ' σ' F' H'->D.ct σ' H'
   | .rt d ρ'=>∀v σ' F' H',Rel K F' H' ρ' σ'->qS ρ σ F H ρ' σ' F' H'->nX K md ρ σ H F' H' d v->D.rt v H'
   | .rs c d ρ'=>∀σ' F' H' C da,Rel K F' H' ρ' σ'->qS ρ σ F H ρ' σ' F' H'->ExcD K F' c d C da->Wish X σ' C da H'):rdS X K md ρ' fl D σ' H':=by
 refine⟨F',r,?_⟩;cases fl with
 |nx ρ2=>exact λσ2 F2 H2 r2 s2=>h σ2 F2 H2 r2 (a.trans s2 s)
 |bk ρ2=>exact λσ2 F2 H2 r2 s2=>h σ2 F2 H2 r2 (a.trans s2 s)
 |ct ρ2=>exact λσ2 F2 H2 r2 s2=>h σ2 F2 H2 r2 (a.trans s2 s)
 |rt d ρ2=>exact λv σ2 F2 H2 r2 s2 q=>h v σ2 F2 H2 r2 (a.trans s2 s) (nX.back a s q)
 |rs c d ρ2=>exact λσ2 F2 H2 C da r2 s2 x=>h σ2 F2 H2 C da r2 (a.trans s2 s) x
variable{g:D->EO En}{p pos':Pos}{x:Str}{c tg:Expr}{es:List Expr}{gs:List D->EO En}
section
variable{K:Fg}{md:Md}{X:Cx}{st:Stmt}{rest:List Stmt}{m n:EO Fl}{e:Expr}{f:EO D}{pos:Pos}
theorem qN:FSs K md X [] nxM:=FSs.mk λρ fl hf=>by
 cases hf
 exact PSs.imp znf λD σ H ⟨F,r,q⟩=>q σ F H r (zF.refl r.sub).step
theorem zK(h:FS K md X st m):FSs K md X [st] m:=FSs.mk λρ fl hf=>zeo (h.h ρ fl hf)
theorem zH(h1:FS K md X st m)(h2:FSs K md X rest n):FSs K md X (st::rest) (zG m n):=FSs.mk λρ fl hf=>by
 unfold zG at hf;split at hf
 ·rename_i ρ1 e1;refine PSs.imp (zep (h1.h ρ _ e1) (h2.h ρ1 fl hf)) λD σ H ⟨F,r,q⟩=>⟨F,r,λσ1 F1 H1 r1 s1=>?_⟩
  exact rdS.after r.sub r1 s1 q
 ·rename_i hno;refine PSs.imp (zep (h1.h ρ fl hf) zcT) λD σ H ⟨F,r,q⟩=>⟨F,r,?_⟩
  cases fl with
  |nx ρ1=>exact absurd hf (hno ρ1)
  |bk ρ1=>exact q
  |ct ρ1=>exact q
  |rt d ρ1=>exact q
  |rs c d ρ1=>exact q
theorem zgX:FS K md X st (λ_=>none):=FS.mk λρ fl hf=>by cases hf
noncomputable def wV(f:EO D):EO Fl:=λρ=>(f ρ).map λ_=>.nx ρ
theorem zqv(he:FP K .fz X e f)(hs:swapsWith e none pos.line X.env=pure false:=by rfl):FS K md X (.Expr e pos) (wV f):=FS.mk λρ fl hf=>by
 unfold wV at hf;cases e1:f ρ with
 |none=>rw[e1]at hf;cases hf
 |some d=>
  rw[e1]at hf;cases hf
  exact PS.imp (zcU (he.h ρ d e1) hs) λD σ H ⟨F,r,q⟩=>⟨F,r,λv F1 H1 g1 _=>q σ F1 H1 (r.grow g1) g1.step⟩
noncomputable def zR(f:EO D):EO Fl:=λρ=>(f ρ).map λd=>.rt d ρ
theorem qL(he:FP K .fz X e f):FS K .fz X (.Return (some e) pos) (zR f):=FS.mk λρ fl hf=>by
 unfold zR at hf;cases e1:f ρ with
 |none=>rw[e1]at hf;cases hf
 |some d=>
  rw[e1]at hf;cases hf
  exact PS.imp (zdN (he.h ρ d e1)) λD σ H ⟨F,r,q⟩=>⟨F,r,λv F1 H1 g1 h=>q v σ F1 H1 (r.grow g1) g1.step h⟩
theorem wB(he:FP K .ow X e f):FS K .ow X (.Return (some e) pos) (zR f):=FS.mk λρ fl hf=>by
 unfold zR at hf;cases e1:f ρ with
 |none=>rw[e1]at hf;cases hf
 |some d=>
  rw[e1]at hf;cases hf
  refine PS.imp (zdN (he.h ρ d e1)) λD σ H ⟨F,r,q⟩=>⟨F,r,λv F1 H1 g1 ⟨a,e,h1,h2,h3⟩=>q v σ F1 H1 (r.grow g1) g1.step ⟨a,e,.inl h1,h2,h3⟩⟩
noncomputable def yO(i:Nat):EO Fl:=λρ=>match ρ[i]? with
 |some (some (.ow _ d))=>some (.rt d (ρ.set i none))
 |_=>none
theorem zos(i:Nat)(hN:X.N[i]?=some x:=by rfl)(hv:Vis X.env.scope x:=by first|exact Or.inl rfl|exact Or.inr (Or.inl rfl)|exact Or.inr (Or.inr rfl))(hd:(x==("__debug__":Str))=false:=by decide)(hcd:(x==("__classdict__":Str))=false:=by decide):FS K .ow X (.Return (some (.Name x p)) pos) (yO i):=FS.mk λρ fl hf=>by
 unfold yO at hf;split at hf
 ·rename_i pp d e1;cases hf
  refine PS.imp (zdN (yE hN hv hd hcd)) λD σ H h_=>?_
  obtain⟨F,r,q⟩:=h_;obtain⟨a,e2,h1,h2⟩:=r.own i pp d e1;refine⟨_,e2,q _ σ F H r.drop ?_ ⟨a,rfl,.inr ⟨i,pp,d,e1,e2⟩,h1,h2⟩⟩;exact⟨zI.refl _,λb o e n _=>⟨e,n⟩,λb h=>.inr (zdQ h),zhf,r.sub⟩
 ·cases hf
theorem zot(i:Nat)(hN:X.N[i]?=some x:=by rfl)(hv:Vis X.env.scope x:=by first|exact Or.inl rfl|exact Or.inr (Or.inl rfl)|exact Or.inr (Or.inr rfl))(hd:(x==("__debug__":Str))=false:=by decide)(hcd:(x==("__classdict__":Str))=false:=by decide):FS K .fz X (.Return (some (.Name x p)) pos) (yO i):=FS.mk λρ fl hf=>by
 unfold yO at hf;split at hf
 ·rename_i pp d e1;cases hf
  refine PS.imp (zdN (zmv (yE hN hv hd hcd))) λD σ H h_=>?_
  obtain⟨F,r,q⟩:=h_;obtain⟨a,e2,h1,h2⟩:=r.own i pp d e1;have rd:=r.drop (i:=i);have ne:∀b,yA (ρ.set i none) σ b->b≠a:=λb ⟨j,q,x,j1,j2⟩ z=>by
   subst z;rcases qA j1 with⟨rfl,j1'⟩|⟨hne,j1'⟩
   ·cases j1'
   ·exact r.inj j i q x (.ow pp d) b hne j1' j2 e1 rfl e2
  refine⟨_,e2,a,rfl,λH2 fz=>?_⟩;have g:qS ρ σ F H (ρ.set i none) σ (xN F H2 a) H2:=by
   refine⟨zaX h1,λb o e n ho=>?_,λb h=>.inr (zdQ h),zhf,zcI (fz.same r.sub h1)⟩;have hb:b≠a:=λz=>ho (by subst z;exact⟨i,pp,d,e1,e2⟩)
   exact⟨by rw[fz.ne hb];exact e,by rw[zbQ hb];exact n⟩
  have rf:Rel K (xN F H2 a) H2 (ρ.set i none) σ:=by
   refine⟨zcI (fz.same r.sub h1),λj x e=>?_,λj x e=>?_,λj q x e=>?_,rd.inj,rd.len⟩
   ·obtain⟨v,h3,h4⟩:=rd.dat j x e;exact⟨v,h3,h4.mono (zaX h1)⟩
   ·obtain⟨v,h3,h4⟩:=rd.bor j x e;exact⟨v,h3,zO.frz h4 (zaX h1) fz λz=>r.inj i j pp d (.bor x) a (λq=>by subst q;rcases qA e with⟨_,e'⟩|⟨hne,_⟩;cases e';exact hne rfl) e1 e2 (by rcases qA e with⟨_,e'⟩|⟨_,e'⟩;cases e';exact e') rfl (by rw[h3,z])⟩
   ·obtain⟨c,h3,h4,h5⟩:=rd.own j q x e;exact⟨c,h3,by rw[zbQ (ne c ⟨j,q,x,e,h3⟩)];exact h4,h5.mono (zaX h1) λo e=>by rw[fz.ne (ne c ⟨j,q,x,by assumption,h3⟩)];exact e⟩
  exact q _ σ _ H2 rf g (h2.freeze h1 fz)
 ·cases hf
noncomputable def retN:EO Fl:=λρ=>some (.rt .non ρ)
noncomputable def ifM(t:EO (Bool×En))(m n:EO Fl):EO Fl:=λρ=>(t ρ).bind λp=>if p.1=true then m p.2 else n p.2
theorem sif{a b:List Stmt}{t:EO (Bool×En)}(hc:FT K X c t)(ha:FSs K md X a m)(hb:FSs K md X b n):FS K md X (.If c a b pos) (ifM t m n):=FS.mk λρ fl hf=>by
 unfold ifM at hf;cases e1:t ρ with
 |none=>rw[e1]at hf;cases hf
 |some p=>
  obtain⟨k,ρ1⟩:=p;rw[e1]at hf;cases k with
  |true=>
   refine PS.imp (zoI (hc.h ρ _ _ e1) (ha.h ρ1 fl hf) zcT) λD σ H ⟨F,r,q⟩=>⟨F,r,λF1 H1 r1 s1=>nN (rdS.after r.sub r1 s1 q)⟩
  |false=>
   refine PS.imp (zoI (hc.h ρ _ _ e1) zcT (hb.h ρ1 fl hf)) λD σ H ⟨F,r,q⟩=>⟨F,r,λF1 H1 r1 s1=>iteF (rdS.after r.sub r1 s1 q)⟩
noncomputable def rdG(K:Fg)(ρ:En)(d:D)(ρ':En):TG:=λv σ H Q=>∃F,Rel K F H ρ σ/\Dat K F d v/\∀σ',Rel K F H ρ' σ'->Kp ρ σ ρ' σ'->Q σ' H
structure FG(K:Fg)(X:Cx)(tg:Expr)(g:D->EO En):Prop where
 h:∀ρ d ρ',g d ρ=some ρ'->PG X tg (rdG K ρ d ρ')
noncomputable def rdGs(K:Fg)(ρ:En)(ds:List D)(ρ':En):TGs:=λvs σ H Q=>∃F,Rel K F H ρ σ/\zD K F ds vs/\∀σ',Rel K F H ρ' σ'->Kp ρ σ ρ' σ'->Q σ' H
structure FGs(K:Fg)(X:Cx)(ts:List Expr)(g:List D->EO En):Prop where
 h:∀ρ ds ρ',g ds ρ=some ρ'->PGs X ts (rdGs K ρ ds ρ')
theorem PG.imp{t t':TG}(h:PG X tg t)(w:∀v σ H Q,t' v σ H Q->t v σ H Q):PG X tg t':=λpins s σ H v u Q I r ht=>h pins s σ H v u Q I r (w v σ H Q ht)
theorem PGs.imp{tg:List Expr}{t t':TGs}(h:PGs X tg t)(w:∀v σ H Q,t' v σ H Q->t v σ H Q):PGs X tg t':=λpins s σ H v u Q I r ht=>h pins s σ H v u Q I r (w v σ H Q ht)
noncomputable def gN(i:Nat):D->EO En:=λd ρ=>some (ρ.set i (some (.dat d)))
theorem qU(i:Nat)(hN:X.N.Nodup)(hi:X.N[i]?=some x:=by rfl)(hx:Loc X.env.scope x:=by first|exact Or.inl rfl|exact Or.inr rfl)(hf:X.fn x=true\/X.env.scope.names.lookup x=some .local:=by first|exact .inl rfl|exact .inr rfl|assumption):FG K X (.Name x pos) (gN i):=FG.mk λρ d ρ' hg=>by
 cases hg
 refine PG.imp (znm hN hi hx hf) λv σ H Q ⟨F,r,h,q⟩=>q _ (r.setD h) Kp.setD
noncomputable def jV:List D->EO En:=λds ρ=>match ds with
 |[]=>some ρ
 |_=>none
noncomputable def qV(g:D->EO En)(gs:List D->EO En):List D->EO En:=λds ρ=>match ds with
 |d::l=>(g d ρ).bind (gs l)
 |[]=>none
noncomputable def kC(gs:List D->EO En):D->EO En:=λd ρ=>match d with
 | .tup l=>gs l ρ
 |_=>none
theorem nR:FGs K X [] jV:=FGs.mk λρ ds ρ' hg=>by
 unfold jV at hg;split at hg
 ·cases hg
  exact PGs.imp znl λvs σ H Q ⟨F,r,h,q⟩=>⟨h.nil_inv,q σ r Kp.refl⟩
 ·cases hg
theorem yJ(h1:FG K X e g)(h2:FGs K X es gs)(hs:(assignEach (e::es) X.env).map (·.2)=assign e X.env::(assignEach es X.env).map (·.2):=by rfl):FGs K X (e::es) (qV g gs):=FGs.mk λρ ds ρ' hg=>by
 unfold qV at hg;split at hg
 ·rename_i d l;cases e1:g d ρ with
  |none=>rw[e1]at hg;cases hg
  |some ρ1=>
   rw[e1]at hg;refine PGs.imp (zld (h1.h ρ d ρ1 e1) (h2.h ρ1 l ρ' hg) hs) λvs σ H Q h_=>?_
   obtain⟨F,r,h,q⟩:=h_;obtain⟨v,vr,e,d1,d2⟩:=h.cons_inv;exact⟨v,vr,e,F,r,d1,λσ1 r1 o1=>⟨F,r1,d2,λσ2 r2 o2=>q σ2 r2 (o1.trans o2)⟩⟩
 ·cases hg
theorem nQ{n:Nat}(hc:X.calm=true)(h:FGs K X es gs)(hl:∀ds ρ ρ',gs ds ρ=some ρ'->ds.length=n)(hn:(assignEach es X.env).length=n:=by rfl)(hst:(assignEach es X.env).findIdx? (·.1)=none:=by rfl)(hK:X.K=K:=by rfl):FG K X (.Tuple es k pos) (kC gs):=FG.mk λρ d ρ' hg=>by
 subst hK;unfold kC at hg;split at hg
 ·rename_i l;refine PG.imp (zoO hc (h.h ρ l ρ' hg) hn hst) λv σ H Q h_=>?_
  obtain⟨F,r,hd,q⟩:=h_;obtain⟨a,vs,rfl,f,qq⟩:=hd.tup_inv;exact⟨a,vs,rfl,SqT.of (r.sub _ _ f),by rw[qq.length];exact hl l ρ ρ' hg,F,r,qq,q⟩
 ·cases hg
theorem nM:∀ds ρ ρ',jV ds ρ=some ρ'->ds.length=0:=λds ρ ρ' h=>by
 unfold jV at h;split at h
 ·rfl
 ·cases h
theorem yI{n:Nat}(h:∀ds ρ ρ',gs ds ρ=some ρ'->ds.length=n):∀ds ρ ρ',qV g gs ds ρ=some ρ'->ds.length=n+1:=λds ρ ρ' hg=>by
 unfold qV at hg;split at hg
 ·rename_i d l;cases e1:g d ρ with
  |none=>rw[e1]at hg;cases hg
  |some ρ1=>rw[e1]at hg;rw[List.length_cons,h l ρ1 ρ' hg]
 ·cases hg
noncomputable def xR(f:EO D)(g:D->EO En):EO Fl:=λρ=>(f ρ).bind λd=>(g d ρ).map Fl.nx
theorem sasg(he:FP K .fz X e f)(hg:FG K X tg g)(hs:swapsWithSole [tg] e pos.line X.env=pure false:=by rfl)(hw:swappedStores [tg] e X.env=pure none:=by rfl)(h1:(assignEach [tg] X.env).map (·.2)=[assign tg X.env]:=by rfl):FS K md X (.Assign [tg] e pos) (xR f g):=FS.mk λρ fl hf=>by
 unfold xR at hf;cases e1:f ρ with
 |none=>rw[e1]at hf;cases hf
 |some d=>
  cases e2:g d ρ with
  |none=>rw[e1]at hf;simp[e2]at hf
  |some ρ1=>
   rw[e1]at hf;simp[e2]at hf;cases hf
   refine PS.imp (zjb (he.h ρ d e1) (hg.h ρ d ρ1 e2) hs hw h1) λD σ H ⟨F,r,q⟩=>⟨F,r,λv F1 H1 g1 h=>⟨F1,r.grow g1,h,λσ1 r1 o1=>?_⟩⟩
   have s1:=g1.step (ρ:=ρ) (σ:=σ);exact q σ1 F1 H1 r1 (s1.kp o1)
noncomputable def zN(i:Nat)(f:EO D):EO Fl:=λρ=>(f ρ).map λd=>.nx (ρ.set i (some (.dat d)))
theorem zY(i:Nat)(hN:X.N.Nodup)(he:FP K .fz X e f)(hi:X.N[i]?=some x:=by rfl)(hx:Loc X.env.scope x:=by first|exact Or.inl rfl|exact Or.inr rfl)(hs:swapsWith e (some (.Name x pos')) pos.line X.env=pure false:=by rfl)(hf:X.fn x=true\/X.env.scope.names.lookup x=some .local:=by first|exact .inl rfl|exact .inr rfl|assumption):
  FS K md X (.Assign [.Name x pos'] e pos) (zN i f):=FS.mk λρ fl hm=>by
 unfold zN at hm;cases e1:f ρ with
 |none=>rw[e1]at hm;cases hm
 |some d=>
  rw[e1]at hm;cases hm
  refine PS.imp (zja hN hi hx (he.h ρ d e1) hs hf) λD σ H ⟨F,r,q⟩=>⟨F,r,λv F1 H1 g1 h=>?_⟩
  have s1:=g1.step (ρ:=ρ) (σ:=σ);exact q _ F1 H1 ((r.grow g1).setD h) (s1.kp Kp.setD)
noncomputable def vO(ρ:En):Bool:=ρ.all λs=>match s with
 |some (.bor _)=>false
 |_=>true
theorem zjw(h:vO ρ=true):∀(j:Nat) s,ρ[j]?=some (some s)->s.isDat=false->∃q x,s=.ow q x:=λj s e hs=>by
 have:=List.all_eq_true.mp h (some s) (List.mem_of_getElem? e);cases s with
 |dat d=>cases hs
 |ow q d=>exact⟨q,d,rfl⟩
 |bor d=>cases this
noncomputable def setO(i:Nat)(f:EO D):EO Fl:=λρ=>if vO ρ=true then(f ρ).map λd=>.nx (ρ.set i (some (.own d)))else none
theorem nG(i:Nat)(hN:X.N.Nodup)(he:FP K .ow X e f)(hi:X.N[i]?=some x:=by rfl)(hx:Loc X.env.scope x:=by first|exact Or.inl rfl|exact Or.inr rfl)(hs:swapsWith e (some (.Name x pos')) pos.line X.env=pure false:=by rfl)(hf:X.fn x=true\/X.env.scope.names.lookup x=some .local:=by first|exact .inl rfl|exact .inr rfl|assumption):
  FS K md X (.Assign [.Name x pos'] e pos) (setO i f):=FS.mk λρ fl hm=>by
 unfold setO at hm;split at hm
 ·rename_i nb;cases e1:f ρ with
  |none=>rw[e1]at hm;cases hm
  |some d=>
   rw[e1]at hm;cases hm
   refine PS.imp (zja hN hi hx (he.h ρ d e1) hs hf) λD σ H ⟨F,r,q⟩=>⟨F,r,λv F1 H1 g1 ⟨a,ev,h1,h2,h3⟩=>?_⟩
   subst ev;have s1:=g1.step (ρ:=ρ) (σ:=σ);refine q _ F1 H1 (r.setO g1 h1 h2 h3 (zjw nb)) ⟨s1.ff,s1.rest,λb z=>?_,zgi (λd h=>by cases h),s1.fh⟩;rcases zdb z with⟨_,_,_,z⟩|z
   ·cases z;exact .inl h1
   ·exact .inr z
 ·cases hm
end
variable{o:HO}{pp:Bool}
section
variable{K:Fg}{F H F' H':Hp}{ρ ρ':En}{σ σ':St}{i:Nat}
theorem zO.upd{d:D}{a:Addr}(h:zO K F H d v)(hv:v≠.ref a):zO K F (upd H a o) d v:=by
 cases d with
 |lst l=>obtain⟨b,vs,rfl,f,q⟩:=h.lst_inv;exact⟨b,vs,rfl,by rw[zV λz=>hv (by rw[z])];exact f,q⟩
 |dic k l=>obtain⟨b,vs,rfl,f,q⟩:=h.dic_inv;exact⟨b,vs,rfl,f.at (zV λz=>hv (by rw[z])),q⟩
 |set l=>obtain⟨b,rfl,f⟩:=h;exact⟨b,rfl,kX.at (F:=H) (zV λz=>hv (by rw[z])) f⟩
 |_=>exact h
theorem Rel.mut(r:Rel K F H ρ σ){d d':D}{a:Addr}{o:HO}(e:ρ[i]?=some (some (.ow pp d)))(hσ:σ[i]?=some (some (.ref a)))(ho:Own K F (upd H a o) d' a):
  Rel K F (upd H a o) (ρ.set i (some (.ow pp d'))) σ/\qS ρ σ F H (ρ.set i (some (.ow pp d'))) σ F (upd H a o):=by
 obtain⟨a',e1,fa,_⟩:=r.own i pp d e;rw[hσ]at e1;cases e1
 have sub:zI F (L2.upd H a o):=λb u h=>by rw[zV (qK h fa)];exact r.sub _ _ h
 have hi:i<ρ.length:=(List.getElem?_eq_some_iff.mp e).1;refine⟨⟨sub,λj x q=>?_,λj x q=>?_,λj qq x q=>?_,λj k qq x s c ne e1 e2 e3 e4=>?_,by simp[r.len]⟩,⟨zI.refl _,λb u h n no=>⟨?_,n⟩,λb h=>.inr ?_,λj x e'=>?_,sub⟩⟩
 ·rcases qA q with⟨rfl,q'⟩|⟨ne,q'⟩
  ·cases q'
  ·exact r.dat j x q'
 ·rcases qA q with⟨rfl,q'⟩|⟨ne,q'⟩
  ·cases q'
  ·obtain⟨v,h1,h2⟩:=r.bor j x q';refine⟨v,h1,h2.upd λz=>?_⟩;subst z;exact r.inj i j pp d _ a (Ne.symm ne) e hσ q' rfl h1
 ·rcases qA q with⟨rfl,q'⟩|⟨ne,q'⟩
  ·cases q'
   exact⟨a,hσ,fa,ho⟩
  ·obtain⟨c,h1,h2,h3⟩:=r.own j qq x q';have hc:c≠a:=λz=>by subst z;exact r.inj i j pp d _ c (Ne.symm ne) e hσ q' rfl h1
   exact⟨c,h1,h2,h3.mono (zI.refl _) λu hu=>by rw[zV hc];exact hu⟩
 ·rcases qA e1 with⟨rfl,e1'⟩|⟨ne1,e1'⟩
  ·rcases qA e3 with⟨rfl,e3'⟩|⟨ne3,e3'⟩
   ·exact absurd rfl ne
   ·exact r.inj j k pp d s c ne e e2 e3' e4
  ·rcases qA e3 with⟨rfl,e3'⟩|⟨ne3,e3'⟩
   ·exact r.inj j k qq x (.ow pp d) c ne e1' e2 e rfl
   ·exact r.inj j k qq x s c ne e1' e2 e3' e4
 ·rw[zV λz=>no (by subst z;exact⟨i,pp,d,e,hσ⟩)];exact h
 ·obtain⟨j,qq,x,j1,j2⟩:=h;rcases qA j1 with⟨rfl,j1'⟩|⟨ne,j1'⟩
  ·exact⟨j,pp,d,e,j2⟩
  ·exact⟨j,qq,x,j1',j2⟩
 ·rcases qA e' with⟨rfl,e''⟩|⟨ne,e''⟩
  ·cases e''
   exact⟨d,e,rfl⟩
  ·exact⟨x,e'',rfl⟩
end
noncomputable def rdX(K:Fg)(ρ:En)(d:D)(ρ':En):TE:=λσ H Q=>∃F,Rel K F H ρ σ/\∀v F' H',Rel K F' H' ρ' σ->qS ρ σ F H ρ' σ F' H'->Dat K F' d v->Q v H'
structure FX(K:Fg)(X:Cx)(e:Expr)(m:EO (D×En)):Prop where
 h:∀ρ d ρ',m ρ=some (d,ρ')->PE X e (rdX K ρ d ρ')
noncomputable def vE(i:Nat)(f:EO D):EO (D×En):=λρ=>match ρ[i]?,f ρ with
 |some (some (.ow pp (.lst l))),some d=>if l.length<lim then some (.non,ρ.set i (some (.ow pp (.lst (l++[d])))))else none
 |_,_=>none
noncomputable def wU(i:Nat)(f:EO D):EO (D×En):=λρ=>match ρ[i]?,f ρ with
 |some (some (.ow pp (.lst l))),some (.lst m)=>if l.length+m.length<=lim then some (.non,ρ.set i (some (.ow pp (.lst (l++m)))))else none
 |_,_=>none
noncomputable def wJ(i:Nat):EO (D×En):=λρ=>match ρ[i]? with
 |some (some (.ow pp (.lst l)))=>(l[l.length - 1]?).map λd=>(d,ρ.set i (some (.ow pp (.lst l.dropLast))))
 |_=>none
noncomputable def zcV(i:Nat)(f:EO D):EO (D×En):=λρ=>match ρ[i]?,f ρ with
 |some (some (.ow pp (.lst l))),some (.int k)=>if -(2^63)<=k/\k<2^63 then(seqIndex? k l.length).bind λj=>(l[j]?).map λd=>(d,ρ.set i (some (.ow pp (.lst (l.eraseIdx j)))))else none
 |_,_=>none
variable{m:EO (D×En)}
section
variable{K:Fg}{md:Md}{X:Cx}{e:Expr}{f:EO D}{pos:Pos}{x:Str}{p apos cpos:Pos}
theorem zfR(i:Nat)(he:FP K .fz X e f)(hN:X.N[i]?=some x:=by rfl)(hv:Vis X.env.scope x:=by first|exact Or.inl rfl|exact Or.inr (Or.inl rfl)|exact Or.inr (Or.inr rfl))(hd:(x==("__debug__":Str))=false:=by decide)(hcd:(x==("__classdict__":Str))=false:=by decide)(hbase:attributeBase (.Name x p) "append" X.env (eval (.Name x p) X.env)=eval (.Name x p) X.env:=by rfl)(hfew:((backTo cpos (starEach [e] X.env)).all (λx=>!x.1)&&(backToKw cpos (keywordEach [] X.env)).all (λx=>x.1.isSome)&&decide (([e]:List Expr).length+([]:List Keyword).length+(if([]:List Keyword).isEmpty then 0 else 1)<30))=true:=by rfl)(hline:(apos.endLine==cpos.line)=true:=by rfl)(hs:starEach [e] X.env=(false,eval e X.env)::starEach [] X.env:=by rfl)(hplain:(backTo cpos (starEach [] X.env)).any (·.1)=false:=by rfl)(hK:X.K=K:=by rfl):
  FX K X (.Call (.Attribute (.Name x p) "append" apos) [e] [] cpos) (vE i f):=FX.mk λρ d ρ' hf=>by
 subst hK;unfold vE at hf;split at hf
 ·rename_i pp l dd e1 e2;obtain⟨hz,hf⟩:=jD hf;cases hf
  refine PE.imp (znn PySem.F.plainAttrs_list PySem.F.slot_list_append PySem.F.type_list_append zdc (yE hN hv hd hcd) (jF (he.h ρ dd e2) kO hs) hbase hfew hline hs hplain) λσ H Q h_=>?_
  obtain⟨F,r,q⟩:=h_;obtain⟨a,h1,h2,vs,h3,h4⟩:=r.own i _ _ e1;refine⟨_,h1,.inl ⟨rfl,vs,SqL.of h3⟩,F,r,λv F1 H1 g1 r1=>?_⟩;have rg:=r.grow g1;obtain⟨a',h1',h2',vs',h3',h4'⟩:=rg.own i _ _ e1;rw[h1]at h1';cases h1'
  have h3'':=g1.hh _ _ h3;rw[h3']at h3'';cases h3''
  refine⟨a,vs,v,rfl,rfl,h3',by rw[h4'.length];exact zfx (Nat.le_of_lt hz),?_⟩;obtain⟨m1,m2⟩:=rg.mut (i:=i) (o:=.lst (vs++[v])) (d':=.lst (l++[dd])) e1 h1 ⟨_,qF,h4'.snoc r1⟩;exact q _ _ _ m1 (g1.step.trans m2 r.sub) (Dat.non (K:=X.K))
 ·cases hf
theorem zmO(i:Nat)(he:FP K .fz X e f)(hN:X.N[i]?=some x:=by rfl)(hv:Vis X.env.scope x:=by first|exact Or.inl rfl|exact Or.inr (Or.inl rfl)|exact Or.inr (Or.inr rfl))(hd:(x==("__debug__":Str))=false:=by decide)(hcd:(x==("__classdict__":Str))=false:=by decide)(hbase:attributeBase (.Name x p) "extend" X.env (eval (.Name x p) X.env)=eval (.Name x p) X.env:=by rfl)(hfew:((backTo cpos (starEach [e] X.env)).all (λx=>!x.1)&&(backToKw cpos (keywordEach [] X.env)).all (λx=>x.1.isSome)&&decide (([e]:List Expr).length+([]:List Keyword).length+(if([]:List Keyword).isEmpty then 0 else 1)<30))=true:=by rfl)(hline:(apos.endLine==cpos.line)=true:=by rfl)(hs:starEach [e] X.env=(false,eval e X.env)::starEach [] X.env:=by rfl)(hplain:(backTo cpos (starEach [] X.env)).any (·.1)=false:=by rfl)(hK:X.K=K:=by rfl):
  FX K X (.Call (.Attribute (.Name x p) "extend" apos) [e] [] cpos) (wU i f):=FX.mk λρ d ρ' hf=>by
 subst hK;unfold wU at hf;split at hf
 ·rename_i pp l m e1 e2;obtain⟨hz,hf⟩:=jD hf;cases hf
  refine PE.imp (znn PySem.F.plainAttrs_list PySem.F.slot_list_extend PySem.F.type_list_extend zjA (yE hN hv hd hcd) (jF (he.h ρ _ e2) kO hs) hbase hfew hline hs hplain) λσ H Q h_=>?_
  obtain⟨F,r,q⟩:=h_;obtain⟨a,h1,h2,vs,h3,h4⟩:=r.own i _ _ e1;refine⟨_,h1,.inl ⟨rfl,vs,SqL.of h3⟩,F,r,λv F1 H1 g1 r1=>?_⟩;have rg:=r.grow g1;obtain⟨a',h1',h2',vs',h3',h4'⟩:=rg.own i _ _ e1;rw[h1]at h1';cases h1'
  have h3'':=g1.hh _ _ h3;rw[h3']at h3'';cases h3''
  obtain⟨b,us,rfl,f1,q1⟩:=Dat.lst_inv (K:=X.K) (F:=F1) r1;refine⟨a,b,vs,us,rfl,rfl,h3',g1.fh _ _ f1,by rw[h4'.length,q1.length];exact vT hz,?_⟩;obtain⟨m1,m2⟩:=rg.mut (i:=i) (o:=.lst (vs++us)) (d':=.lst (l++m)) e1 h1 ⟨_,qF,h4'.append q1⟩;exact q _ _ _ m1 (g1.step.trans m2 r.sub) (Dat.non (K:=X.K))
 ·cases hf
theorem xpop(i:Nat)(hN:X.N[i]?=some x:=by rfl)(hv:Vis X.env.scope x:=by first|exact Or.inl rfl|exact Or.inr (Or.inl rfl)|exact Or.inr (Or.inr rfl))(hd:(x==("__debug__":Str))=false:=by decide)(hcd:(x==("__classdict__":Str))=false:=by decide)(hbase:attributeBase (.Name x p) "pop" X.env (eval (.Name x p) X.env)=eval (.Name x p) X.env:=by rfl)(hline:(apos.endLine==cpos.line)=true:=by rfl)(hK:X.K=K:=by rfl):
  FX K X (.Call (.Attribute (.Name x p) "pop" apos) [] [] cpos) (wJ i):=FX.mk λρ d ρ' hf=>by
 subst hK;unfold wJ at hf;split at hf
 ·rename_i pp l e1;cases e2:l[l.length - 1]? with
  |none=>rw[e2]at hf;cases hf
  |some dd=>
   rw[e2]at hf;cases hf
   refine PE.imp (zoX PySem.F.plainAttrs_list PySem.F.slot_list_pop PySem.F.type_list_pop zpo (yE hN hv hd hcd) hbase hline) λσ H Q h_=>?_
   obtain⟨F,r,q⟩:=h_;obtain⟨a,h1,h2,vs,h3,h4⟩:=r.own i _ _ e1;obtain⟨v,h5,h6⟩:=h4.get e2;refine⟨_,h1,.inl ⟨rfl,vs,SqL.of h3⟩,a,vs,v,rfl,rfl,h3,by rw[h4.length];exact h5,?_⟩;obtain⟨m1,m2⟩:=r.mut (i:=i) (o:=.lst vs.dropLast) (d':=.lst l.dropLast) e1 h1 ⟨_,qF,h4.dropLast⟩;exact q _ _ _ m1 m2 h6
 ·cases hf
noncomputable def xP(m:EO (D×En)):EO Fl:=λρ=>(m ρ).map λp=>.nx p.2
theorem zgY(he:FX K X e m)(hs:swapsWith e none pos.line X.env=pure false:=by rfl):FS K md X (.Expr e pos) (xP m):=FS.mk λρ fl hf=>by
 unfold xP at hf;cases e1:m ρ with
 |none=>rw[e1]at hf;cases hf
 |some q1=>
  obtain⟨d,ρ1⟩:=q1;rw[e1]at hf;cases hf
  exact PS.imp (zcU (he.h ρ d ρ1 e1) hs) λD σ H ⟨F,r,q⟩=>⟨F,r,λv F1 H1 r1 s1 _=>q σ F1 H1 r1 s1⟩
noncomputable def yK(m:EO (D×En))(g:D->EO En):EO Fl:=λρ=>(m ρ).bind λp=>(g p.1 p.2).map Fl.nx
theorem zfW(he:FX K X e m)(hg:FG K X tg g)(hs:swapsWithSole [tg] e pos.line X.env=pure false:=by rfl)(hw:swappedStores [tg] e X.env=pure none:=by rfl)(h1:(assignEach [tg] X.env).map (·.2)=[assign tg X.env]:=by rfl):FS K md X (.Assign [tg] e pos) (yK m g):=FS.mk λρ fl hf=>by
 unfold yK at hf;cases e1:m ρ with
 |none=>rw[e1]at hf;cases hf
 |some q1=>
  obtain⟨d,ρ1⟩:=q1;cases e2:g d ρ1 with
  |none=>rw[e1]at hf;simp[e2]at hf
  |some ρ2=>
   rw[e1]at hf;simp[e2]at hf;cases hf
   refine PS.imp (zjb (he.h ρ d ρ1 e1) (hg.h ρ1 d ρ2 e2) hs hw h1) λD σ H ⟨F,r,q⟩=>⟨F,r,λv F1 H1 r1 s1 h=>⟨F1,r1,h,λσ2 r2 o2=>?_⟩⟩
   exact q σ2 F1 H1 r2 (s1.kp o2)
noncomputable def cmpX(pp:D->D->Option D)(m:EO (D×En))(fb:EO D):EO (Bool×En):=λρ=>(m ρ).bind λq=>(fb q.2).bind λy=>match pp q.1 y with
 |some (.bl c)=>some (c,q.2)
 |_=>none
theorem zqV{b:Expr}{fb:EO D}{pp:D->D->Option D}(o:Op2 K X (compareOp op) .fz pp)(ha:FX K X e m)(hb:FP K .br X b fb)(hm:behindInMarks op b=false):
  FT K X (.Compare e [op] [b] pos) (cmpX pp m fb):=FT.mk λρ c ρ' hf=>by
 unfold cmpX at hf;cases e1:m ρ with
 |none=>rw[e1]at hf;cases hf
 |some q1=>
  obtain⟨x,ρ1⟩:=q1;cases e2:fb ρ1 with
  |none=>rw[e1]at hf;simp[e2]at hf
  |some y=>
   rw[e1]at hf;simp only[Option.bind_some,e2]at hf;split at hf
   ·rename_i c' e3;cases hf
    obtain⟨r,ho,hr⟩:=o;refine PT.imp (zge ho (ha.h ρ x _ e1) (hb.h _ y e2) hm) λσ H Q h_=>?_
    obtain⟨F,rl,q⟩:=h_;refine⟨F,rl,λv F1 H1 r1 s1 d1=>⟨F1,r1,λu F2 H2 g2 d2=>?_⟩⟩;refine hr x y _ F2 H2 v u _ e3 g2.fh ((d1.mono g2.ff).b g2.fh) d2 λw F3 H3 g3 d3=>⟨c,Dat.bl_inv (K:=K) (F:=F3) d3,?_⟩
    exact q F3 H3 ((r1.grow g2).grow g3) (s1.trans ((g2.trans g3).step) rl.sub)
   ·cases hf
end
noncomputable def vI(t:EO (Bool×En))(b:EO Fl):Nat->EO Fl
 |0,_=>none
 |n+1,ρ=>match t ρ with
  |some (true,ρ1)=>match b ρ1 with
   |some (.nx ρ2)=>vI t b n ρ2
   |some (.ct ρ2)=>vI t b n ρ2
   |some (.bk ρ2)=>some (.nx ρ2)
   |some (.rt d ρ2)=>some (.rt d ρ2)
   |some (.rs c d ρ2)=>some (.rs c d ρ2)
   |none=>none
  |some (false,ρ1)=>some (.nx ρ1)
  |none=>none
variable{ι:Type}{body:List Stmt}
section
variable{K:Fg}{md:Md}{X:Cx}{pos:Pos}
theorem PT.any{c:Expr}{t:ι->TT}(h:∀i,PT X c (t i)):PT X c (λσ H Q=>∃i,t i σ H Q):=λpins s σ H Q I ⟨i,hi⟩=>h i pins s σ H Q I hi
theorem PSs.any{c:List Stmt}{t:ι->TS}(h:∀i,PSs X c (t i)):PSs X c (λD σ H=>∃i,t i D σ H):=λpins s σ H D I ⟨i,hi⟩=>h i pins s σ H D I hi
theorem PE.any{c:Expr}{t:ι->TE}(h:∀i,PE X c (t i)):PE X c (λσ H Q=>∃i,t i σ H Q):=λpins s σ H Q I ⟨i,hi⟩=>h i pins s σ H Q I hi
theorem PG.any{c:Expr}{t:ι->TG}(h:∀i,PG X c (t i)):PG X c (λv σ H Q=>∃i,t i v σ H Q):=λpins s σ H v u Q I r ⟨i,hi⟩=>h i pins s σ H v u Q I r hi
theorem PIf.any{c:List Expr}{t:ι->TT}(h:∀i,PIf X c (t i)):PIf X c (λσ H Q=>∃i,t i σ H Q):=λpins s σ H Q I ⟨i,hi⟩=>h i pins s σ H Q I hi
theorem zoq{t:EO (Bool×En)}{b:EO Fl}(n:Nat)(hp:PassesOwn (model X.prog X.w) X.A X.env X.xe)(hc:FT K X c t)(hb:FSs K md X body b):FS K md X (.While c body [] pos) (vI t b n):=FS.mk λρ fl hf=>by
 have hc':=PT.any (X:=X) (c:=c) (t:=λi:{q:En×Bool×En//t q.1=some q.2}=>rdT K i.1.1 i.1.2.1 i.1.2.2) λi=>hc.h _ _ _ i.2
 have hb':=PSs.any (X:=X) (c:=body) (t:=λi:{q:En×Fl//b q.1=some q.2}=>rdS X K md i.1.1 i.1.2) λi=>hb.h _ _ i.2
 refine PS.imp (zkZ hp hc' hb') λD σ H h_=>?_
 obtain⟨F,r,q⟩:=h_;refine⟨λk σ1 H1=>∃ρ1 F1,Rel K F1 H1 ρ1 σ1/\qS ρ σ F H ρ1 σ1 F1 H1/\vI t b k ρ1=some fl,⟨n,ρ,F,r,(zF.refl r.sub).step,hf⟩,?_⟩;rintro k σ1 H1 ⟨ρ1,F1,r1,s1,e1⟩;cases k with
 |zero=>simp[vI]at e1
 |succ k=>
  simp only[vI]at e1;cases e2:t ρ1 with
  |none=>rw[e2]at e1;cases e1
  |some p=>
   obtain⟨c1,ρ2⟩:=p;rw[e2]at e1;refine⟨⟨(ρ1,c1,ρ2),e2⟩,F1,r1,λF2 H2 r2 s2=>?_⟩;have s12:=s1.trans s2 r.sub;cases c1 with
   |false=>
    have e1:some (Fl.nx ρ2)=some fl:=e1;cases e1
    exact iteF (q σ1 F2 H2 r2 s12)
   |true=>
    refine nN ?_;refine⟨λσ' H'=>∃ρ3 F3,Rel K F3 H' ρ3 σ'/\qS ρ σ F H ρ3 σ' F3 H'/\vI t b k ρ3=some fl,λσ' H' z=>⟨k,Nat.lt_succ_self k,z⟩,?_⟩;cases e3:b ρ2 with
    |none=>simp only[e3]at e1;cases e1
    |some fl2=>
     simp only[e3]at e1;refine⟨⟨(ρ2,fl2),e3⟩,F2,r2,?_⟩;cases fl2 with
     |nx ρ3=>exact λσ3 F3 H3 r3 s3=>⟨ρ3,F3,r3,s12.trans s3 r.sub,e1⟩
     |ct ρ3=>exact λσ3 F3 H3 r3 s3=>⟨ρ3,F3,r3,s12.trans s3 r.sub,e1⟩
     |bk ρ3=>cases e1;exact λσ3 F3 H3 r3 s3=>q σ3 F3 H3 r3 (s12.trans s3 r.sub)
     |rt d ρ3=>cases e1;exact λv σ3 F3 H3 r3 s3 h=>q v σ3 F3 H3 r3 (s12.trans s3 r.sub) (nX.back s12 r.sub h)
     |rs c d ρ3=>cases e1;exact λσ3 F3 H3 C da r3 s3 x=>q σ3 F3 H3 C da r3 (s12.trans s3 r.sub) x
end
def zdy(K:Fg)(J:It)(F:Hp)(ds:List D):Prop:=∀F2 H2,zI F F2->zI F2 H2->
 (∀i,i<ds.length->J.go i H2)/\(∀i x H3 d,ds[i]?=some d->J.yld i H2 x H3->∃F3,zF F2 H2 F3 H3/\Dat K F3 d x)/\J.stop ds.length H2
noncomputable def rdI(K:Fg)(ρ:En)(ds:List D):TI:=λσ H R=>∃F,Rel K F H ρ σ/\∀J F' H',zF F H F' H'->zdy K J F' ds->R J H'
structure FI(K:Fg)(X:Cx)(tg zM:Expr)(f:EO (List D)):Prop where
 h:∀ρ ds,f ρ=some ds->PI X tg zM (rdI K ρ ds)
theorem PI.imp{zM:Expr}{t t':TI}(h:PI X tg zM t)(w:∀σ H R,t' σ H R->t σ H R):PI X tg zM t':=λpins s σ H R I ht=>h pins s σ H R I (w σ H R ht)
noncomputable def itS:D->Option (List D)
 | .lst l=>some l
 | .tup l=>some l
 | .scr l=>some (l.map D.int)
 |_=>none
noncomputable def cI(f:EO D):EO (List D):=λρ=>(f ρ).bind itS
theorem zfz{a:Addr}{vs:List V}{ds:List D}(h:∀F2 H2,zI F F2->zI F2 H2->SqL K H2 a vs)(q:zD K F ds vs):zdy K (Itl K a) F ds:=λF2 H2 f2 h2=>by
 have hs:=h F2 H2 f2 h2;have hl:=q.length;refine⟨λi hi=>⟨vs,vs[i]'(by omega),hs,by simp⟩,λi x H3 d hd y=>?_,⟨vs,hs,by omega⟩⟩;obtain⟨rfl,y⟩:=y;obtain⟨v,hv,dv⟩:=q.get hd;rw[y vs hs]at hv;cases hv
 exact⟨F2,zF.refl h2,dv.mono f2⟩
theorem zly{a:Addr}{vs:List V}{ds:List D}(h:F a=some (.tup vs))(q:zD K F ds vs):zdy K (Itt K a) F ds:=λF2 H2 f2 h2=>by
 have hs:SqT K H2 a vs:=SqT.of (h2 _ _ (f2 _ _ h));have hl:=q.length;refine⟨λi hi=>⟨vs,vs[i]'(by omega),hs,by simp⟩,λi x H3 d hd y=>?_,⟨vs,hs,by omega⟩⟩;obtain⟨rfl,y⟩:=y;obtain⟨v,hv,dv⟩:=q.get hd;rw[y vs hs]at hv;cases hv
 exact⟨F2,zF.refl h2,dv.mono f2⟩
variable{n:Nat}{fi:EO (List D)}
section
variable{K:Fg}{md:Md}{X:Cx}{pos:Pos}{tg l:Expr}{f:EO D}
theorem jO(h:FP K .fz X l f)(hK:X.K=K:=by rfl):FI K X tg l (cI f):=FI.mk λρ ds hf=>by
 subst hK;unfold cI at hf;cases e1:f ρ with
 |none=>rw[e1]at hf;cases hf
 |some d=>
  rw[e1]at hf;have hf:itS d=some ds:=hf;cases d<;>simp only[itS]at hf<;>try(cases hf;done)
  ·cases hf
   refine PI.imp (zoM (h.h ρ _ e1)) λσ H R ⟨F,r,q⟩=>⟨F,r,λv F1 H1 g1 r1=>?_⟩
   obtain⟨a,vs,rfl,f1,q1⟩:=Dat.tup_inv (K:=X.K) (F:=F1) r1;exact⟨a,rfl,⟨vs,SqT.of (g1.fh _ _ f1)⟩,q _ F1 H1 g1 (zly f1 q1)⟩
  ·cases hf
   refine PI.imp (zjh (h.h ρ _ e1)) λσ H R ⟨F,r,q⟩=>⟨F,r,λv F1 H1 g1 r1=>?_⟩
   obtain⟨a,vs,rfl,f1,q1⟩:=Dat.lst_inv (K:=X.K) (F:=F1) r1;exact⟨a,rfl,⟨vs,SqL.of (g1.fh _ _ f1)⟩,q _ F1 H1 g1 (zfz (λF2 H2 a b=>SqL.of (b _ _ (a _ _ f1))) q1)⟩
  ·cases hf
   refine PI.imp (zjh (h.h ρ _ e1)) λσ H R ⟨F,r,q⟩=>⟨F,r,λv F1 H1 g1 r1=>?_⟩
   obtain⟨a,rfl,f1⟩:=Dat.scr_inv (K:=X.K) (F:=F1) r1;exact⟨a,rfl,⟨_,zI.seq g1.fh f1⟩,q _ F1 H1 g1 (zfz (λF2 H2 a b=>zI.seq b (zI.seq a f1)) (zD.ofInts _))⟩
def jJ(lo:Int)(n:Nat):List D:=(List.range n).map λ(k:Nat)=>D.int (lo+(k:Int))
theorem zig{lo:Int}:zdy K (Itr lo n) F (jJ lo n):=λF2 H2 f2 h2=>by
 refine⟨λi hi=>(show i<n by simpa[jJ]using hi),λi x H3 d hd y=>?_,by simp[jJ,Itr]⟩;obtain⟨rfl,rfl⟩:=y
 have:d=D.int (lo+(i:Int)):=by
  unfold jJ at hd;rw[List.getElem?_map]at hd;cases e:(List.range n)[i]? with
  |none=>rw[e]at hd;cases hd
  |some k=>
   rw[e]at hd
   have:=(List.getElem?_eq_some_iff.mp e).2;simp at this;subst this;exact(Option.some.inj hd).symm
 subst this;exact⟨F2,zF.refl h2,Dat.int (K:=K) (F:=F2) _⟩
def wM(j:Int):Prop:=-(2^62)<=j/\j<2^62
theorem xI{j:Int}(h1:-4611686018427387904<=j)(h2:j<4611686018427387904):wM j:=⟨h1,h2⟩
open Classical in
noncomputable def wD:D->Option (List D)
 | .int j=>if wM j then some (jJ 0 j.toNat)else none
 |_=>none
open Classical in
noncomputable def nJ:D->D->Option (List D)
 | .int i,.int j=>if wM i/\wM j then some (jJ i (j - i).toNat)else none
 |_,_=>none
noncomputable def cR1(f:EO D):EO (List D):=λρ=>(f ρ).bind wD
noncomputable def cR2(f g:EO D):EO (List D):=λρ=>(f ρ).bind λx=>(g ρ).bind λy=>nJ x y
theorem xM(h:FP K .fz X a f)(hg:Gl X "range")(hm:X.mg "range"=none)(hs:starEach [a] X.env=[(false,eval a X.env)]:=by rfl):FI K X tg (.Call (.Name "range" p) [a] [] pos) (cR1 f):=FI.mk λρ ds hf=>by
 unfold cR1 at hf;cases e1:f ρ with
 |none=>rw[e1]at hf;cases hf
 |some d=>
  rw[e1]at hf;have hf:wD d=some ds:=hf;cases d<;>simp only[wD]at hf<;>try(cases hf;done)
  obtain⟨hz,rfl⟩:=jD hf;refine PI.imp (zjg hg hm (jF (h.h ρ _ e1) kO hs) hs) λσ H R ⟨F,r,q⟩=>⟨F,r,λv F1 H1 g1 r1=>?_⟩
  have ev:=Dat.int_inv (K:=K) (F:=F1) r1;subst ev;exact⟨_,rfl,hz.1,hz.2,q _ F1 H1 g1 zig⟩
def gX:Nat->List D->List D
 |_,[]=>[]
 |k,d::l=>.tup [.int k,d]::gX (k+1) l
theorem zdp:∀(k:Nat) (l:List D) (i:Nat) (d:D),(gX k l)[i]?=some d->∃x,l[i]?=some x/\d=.tup [.int ((k+i:Nat):Int),x]
 |_,[],i,d,h=>by simp[gX]at h
 |k,x::l,0,d,h=>by simp[gX]at h;exact⟨x,rfl,by rw[←h];simp⟩
 |k,x::l,i+1,d,h=>by obtain⟨y,h1,h2⟩:=zdp (k+1) l i d (by simpa[gX]using h);exact⟨y,by simpa using h1,by rw[h2,show k+1+i=k+(i+1) by omega]⟩
theorem zaJ:∀(k:Nat) (l:List D),(gX k l).length=l.length
 |_,[]=>rfl
 |k,_::l=>by simp[gX,zaJ (k+1) l]
noncomputable def wX(f:EO D):EO (List D):=λρ=>match f ρ with
 |some (.tup l)=>some (gX 0 l)
 |_=>none
theorem zpD{elts:List Expr}{tpos:Pos}(h:FP K .fz X a f)(hg:Gl X "enumerate")(hm:X.mg "enumerate"=none)(hs:starEach [a] X.env=[(false,eval a X.env)]:=by rfl)(hK:X.K=K:=by rfl):
  FI K X (.Tuple elts k tpos) (.Call (.Name "enumerate" p) [a] [] pos) (wX f):=FI.mk λρ ds hf=>by
 subst hK;unfold wX at hf;split at hf
 ·rename_i l e1;cases hf
  refine PI.imp (zlc hg hm (jF (h.h ρ _ e1) kO hs) hs) λσ H R ⟨F,r,q⟩=>⟨F,r,λv F1 H1 g1 r1=>?_⟩
  obtain⟨a,vs,rfl,f1,q1⟩:=Dat.tup_inv (K:=X.K) (F:=F1) r1;refine⟨a,vs,rfl,SqT.of (g1.fh _ _ f1),q _ F1 H1 g1 λF2 H2 a2 b2=>?_⟩;have hs:SqT X.K H2 a vs:=SqT.of (b2 _ _ (a2 _ _ f1));have hl:=q1.length;refine⟨λi hi=>?_,λi x H3 d hd y=>?_,?_⟩
  ·rw[zaJ]at hi;exact⟨vs,vs[i]'(by omega),hs,by simp⟩
  ·obtain⟨x0,hx0,rfl⟩:=zdp 0 l i d hd;obtain⟨pp,vv,hpp,rfl,rfl,hv⟩:=y;obtain⟨w,hw,dw⟩:=q1.get hx0;rw[hv vs hs]at hw;cases hw
   have g:=zF.frozen (o:=.tup [.int (i:Int),vv]) b2 hpp;refine⟨_,g,Dat.tup (K:=X.K) qF ?_⟩;rw[Nat.zero_add];exact zD.cons (Dat.int (K:=X.K) _) (zD.cons ((dw.mono a2).mono g.ff) zD.nil)
  ·rw[zaJ];exact⟨vs,hs,by omega⟩
 ·cases hf
noncomputable def kY(g:D->EO En)(b:EO Fl):List D->EO Fl
 |[],ρ=>some (.nx ρ)
 |x::xs,ρ=>match g x ρ with
  |some ρ1=>match b ρ1 with
   |some (.nx ρ2)=>kY g b xs ρ2
   |some (.ct ρ2)=>kY g b xs ρ2
   |some (.bk ρ2)=>some (.nx ρ2)
   |some (.rt d ρ2)=>some (.rt d ρ2)
   |some (.rs c d ρ2)=>some (.rs c d ρ2)
   |none=>none
  |none=>none
noncomputable def jQ(fi:EO (List D))(g:D->EO En)(b:EO Fl):EO Fl:=λρ=>(fi ρ).bind λds=>kY g b ds ρ
theorem yC{zM:Expr}{b:EO Fl}(hp:PassesOwn (model X.prog X.w) X.A X.env X.xe)(hc:X.calm=true)(hi:FI K X tg zM fi)(hg:FG K X tg g)(hb:FSs K md X body b)(hs:∀x,foldedSetIterable zM X.env x=pure x:=by intro _;rfl):FS K md X (.For tg zM body [] pos) (jQ fi g b):=FS.mk λρ fl hf=>by
 unfold jQ at hf;cases e1:fi ρ with
 |none=>rw[e1]at hf;cases hf
 |some ds=>
  rw[e1]at hf;have hf:kY g b ds ρ=some fl:=hf;have hg':=PG.any (X:=X) (c:=tg) (t:=λi:{q:En×D×En//g q.2.1 q.1=some q.2.2}=>rdG K i.1.1 i.1.2.1 i.1.2.2) λi=>hg.h _ _ _ i.2
  have hb':=PSs.any (X:=X) (c:=body) (t:=λi:{q:En×Fl//b q.1=some q.2}=>rdS X K md i.1.1 i.1.2) λi=>hb.h _ _ i.2
  refine PS.imp (zoJ hp hc (hi.h ρ ds e1) hg' hb' hs) λD σ H ⟨F,r,q⟩=>⟨F,r,λJ F0 H0 g0 ok=>?_⟩
  refine⟨λi k σ1 H1=>i<=ds.length/\k=ds.length - i/\∃ρ1 F1,Rel K F1 H1 ρ1 σ1/\qS ρ σ F H ρ1 σ1 F1 H1/\zI F0 F1/\kY g b (ds.drop i) ρ1=some fl,
   ⟨ds.length,Nat.zero_le _,rfl,ρ,F0,r.grow g0,g0.step,zI.refl _,hf⟩,?_⟩
  rintro i k σ1 H1 ⟨hi,rfl,ρ1,F1,r1,s1,ff1,e2⟩;obtain⟨o1,o2,o3⟩:=ok F1 H1 ff1 r1.sub;by_cases hlt:i<ds.length
  ·rw[List.drop_eq_getElem_cons hlt]at e2;simp only[kY]at e2;refine .inr ⟨o1 i hlt,λσ' H'=>i+1<=ds.length/\∃ρ3 F3,Rel K F3 H' ρ3 σ'/\qS ρ σ F H ρ3 σ' F3 H'/\zI F0 F3/\kY g b (ds.drop (i+1)) ρ3=some fl,λσ' H' ⟨z1,z2⟩=>⟨ds.length - (i+1),by omega,z1,rfl,z2⟩,λx H2 y=>?_⟩;obtain⟨F2,g2,d2⟩:=o2 i x H2 _ (List.getElem?_eq_getElem hlt) y;have r2:=r1.grow g2;have s2:=s1.trans (g2.step (ρ:=ρ1) (σ:=σ1)) r.sub;cases e3:g ds[i] ρ1 with
   |none=>rw[e3]at e2;cases e2
   |some ρ2=>
    rw[e3]at e2;refine⟨⟨(ρ1,ds[i],ρ2),e3⟩,F2,r2,d2,λσ2 r2' ow=>?_⟩;have s2':qS ρ σ F H ρ2 σ2 F2 H2:=s2.kp ow;cases e4:b ρ2 with
    |none=>simp only[e4]at e2;cases e2
    |some fl2=>
     simp only[e4]at e2;refine⟨⟨(ρ2,fl2),e4⟩,F2,r2',?_⟩;cases fl2 with
     |nx ρ3=>exact λσ3 F3 H3 r3 s3=>⟨hlt,ρ3,F3,r3,s2'.trans s3 r.sub,ff1.trans (g2.ff.trans s3.ff),e2⟩
     |ct ρ3=>exact λσ3 F3 H3 r3 s3=>⟨hlt,ρ3,F3,r3,s2'.trans s3 r.sub,ff1.trans (g2.ff.trans s3.ff),e2⟩
     |bk ρ3=>cases e2;exact λσ3 F3 H3 r3 s3=>q σ3 F3 H3 r3 (s2'.trans s3 r.sub)
     |rt d ρ3=>cases e2;exact λv σ3 F3 H3 r3 s3 h=>q v σ3 F3 H3 r3 (s2'.trans s3 r.sub) (nX.back s2' r.sub h)
     |rs c d ρ3=>cases e2;exact λσ3 F3 H3 C da r3 s3 x=>q σ3 F3 H3 C da r3 (s2'.trans s3 r.sub) x
  ·have e:i=ds.length:=by omega
   subst e;rw[List.drop_length]at e2;have e2:some (Fl.nx ρ1)=some fl:=e2;cases e2
   exact .inl ⟨o3,q σ1 F1 H1 r1 s1⟩
end
noncomputable def kZ:Option Sl->Option Sl
 |some (.ow _ d)=>some (.bor d)
 |s=>s
noncomputable def qQ(cap:ON)(ρ:En):En:=cap.map λo=>match o with
 |some j=>kZ ((ρ[j]?).getD none)
 |none=>none
variable{i:Nat}{cap:ON}
theorem zaO{s:Sl}(h:(qQ cap ρ)[i]?=some (some s)):∃j s0,cap[i]?=some (some j)/\ρ[j]?=some (some s0)/\kZ (some s0)=some s:=by
 unfold qQ at h;rw[List.getElem?_map]at h;cases e:cap[i]? with
 |none=>rw[e]at h;cases h
 |some o=>
  rw[e]at h;cases o with
  |none=>cases h
  |some j=>
   have h:kZ ((ρ[j]?).getD none)=some s:=Option.some.inj h;cases e2:ρ[j]? with
   |none=>rw[e2]at h;cases h
   |some o2=>
    rw[e2]at h;cases o2 with
    |none=>cases h
    |some s0=>exact⟨j,s0,rfl,e2,h⟩
theorem zcO{σ:St}(h:cap[i]?=some (some j))(e:σ[j]?=some (some v)):(st0 cap σ)[i]?=some (some v):=by unfold st0;rw[List.getElem?_map,h];simp[e]
theorem Rel.inner{cap:ON}(r:Rel K F H ρ σ):Rel K F H (qQ cap ρ) (st0 cap σ):=by
 refine⟨r.sub,λi d h=>?_,λi d h=>?_,λi q d h=>?_,λi j q d s a ne h1=>?_,by simp[qQ,st0]⟩
 ·obtain⟨j,s0,e1,e2,e3⟩:=zaO h;cases s0<;>simp[kZ]at e3
  subst e3;obtain⟨v,h1,h2⟩:=r.dat j _ e2;exact⟨v,zcO e1 h1,h2⟩
 ·obtain⟨j,s0,e1,e2,e3⟩:=zaO h;cases s0<;>simp[kZ]at e3<;>subst e3
  ·obtain⟨a,h1,_,h2⟩:=r.own j _ _ e2;exact⟨_,zcO e1 h1,h2.b⟩
  ·obtain⟨v,h1,h2⟩:=r.bor j _ e2;exact⟨v,zcO e1 h1,h2⟩
 ·obtain⟨j,s0,e1,e2,e3⟩:=zaO h;cases s0<;>simp[kZ]at e3
 ·obtain⟨j,s0,e1,e2,e3⟩:=zaO h1;cases s0<;>simp[kZ]at e3
noncomputable def qM(g:D->EO En)(t:EO Bool)(f:EO D)(ρi:En):List D->Option (List D)
 |[]=>some []
 |x::xs=>(g x ρi).bind λρ1=>(t ρ1).bind λb=>if b=true then(f ρ1).bind λd=>(qM g t f ρi xs).map λl=>d::l else qM g t f ρi xs
noncomputable def jC(cap:ON)(fi:EO (List D))(g:D->EO En)(t:EO Bool)(f:EO D):EO D:=λρ=>(fi ρ).bind λds=>if ds.length<=lim then(qM g t f (qQ cap ρ) ds).map D.lst else none
structure rdIf(K:Fg)(X:Cx)(ifs:List Expr)(t:EO Bool):Prop where
 h:∀ρ b,t ρ=some b->PIf X ifs (rdTp K ρ b)
noncomputable def qW:EO Bool:=λ_=>some true
theorem yY{K:Fg}:rdIf K X [] qW:=rdIf.mk λρ b h=>by
 cases h
 intro pins s σ H Q I ⟨F,r,q⟩;exact zje pins s σ H Q I (q F H (zF.refl r.sub))
variable{t:EO Bool}
theorem pif1(h:FTp K X c t):rdIf K X [c] t:=rdIf.mk λρ b hf=>znk (h.h ρ b hf)
variable{rs:List D}{J:It}{F1 H1:Hp}
section
variable{K:Fg}{md:Md}{X:Cx}{pos:Pos}{tg zM elt:Expr}{ifs:List Expr}{scope:Scope}
theorem zkr{ds:List D}(hm:qM g t f (qQ cap ρ) ds=some rs)(hn:ds.length<=lim)(r:Rel K F H ρ σ)(q:∀v F' H',zF F H F' H'->Res K .ow H F' H' (.lst rs) v->Q v H')(g1:zF F H F1 H1)(ok:zdy K J F1 ds):
  zoe K J (λv σ H Q=>∃i:{q:En×D×En//g q.2.1 q.1=some q.2.2},rdG K i.1.1 i.1.2.1 i.1.2.2 v σ H Q) (λσ H Q=>∃i:{q:En×Bool//t q.1=some q.2},rdTp K i.1.1 i.1.2 σ H Q) (λσ H Q=>∃i:{q:En×D//f q.1=some q.2},rdE K .fz i.1.1 i.1.2 σ H Q) cap σ H1 Q:=by
 intro a ha;refine⟨λi m H2=>∃acc,i<=ds.length/\m=ds.length - i/\∃F2 done left,zF F H F2 H2/\zI F1 F2/\(∀b o,H1 b=some o->H2 b=some o)/\F2 a=none/\H2 a=some (.lst acc)/\zD K F2 done acc/\acc.length<=i/\qM g t f (qQ cap ρ) (ds.drop i)=some left/\rs=done++left,
  ⟨ds.length,[],Nat.zero_le _,rfl,F1,[],rs,⟨g1.ff,g1.hh.trans (wC ha _),g1.fh.trans (wC ha _),g1.nw⟩,zI.refl _,λb o e=>wC ha _ _ _ e,g1.fh.free ha,qF,zD.nil,Nat.zero_le _,hm,rfl⟩,?_⟩
 rintro i m H2 ⟨acc,hi,rfl,F2,done,left,g2,ff,hh,fa,hd,da,al,e1,e2⟩;obtain⟨o1,o2,o3⟩:=ok F2 H2 ff g2.fh;by_cases hlt:i<ds.length
 ·refine .inr ⟨o1 i hlt,λx H3 y=>?_⟩;obtain⟨F3,g3,d3⟩:=o2 i x H3 _ (List.getElem?_eq_getElem hlt) y;rw[List.drop_eq_getElem_cons hlt]at e1;simp only[qM]at e1;have g23:=g2.trans g3;have hd3:=g3.hh _ _ hd;have fa3:=g3.nw a _ hd fa;cases e3:g ds[i] (qQ cap ρ)with
  |none=>rw[e3]at e1;cases e1
  |some ρ1=>
   simp only[e3,Option.bind_some]at e1;refine⟨⟨(qQ cap ρ,ds[i],ρ1),e3⟩,F3,(r.grow g23).inner,d3,λσ2 r2 _=>?_⟩;cases e4:t ρ1 with
   |none=>rw[e4]at e1;cases e1
   |some b=>
    simp only[e4,Option.bind_some]at e1;refine⟨⟨(ρ1,b),e4⟩,F3,r2,λF4 H4 g4=>?_⟩;have g24:=g23.trans g4;have hd4:=g4.hh _ _ hd3;have fa4:=g4.nw a _ hd3 fa3;have ff4:zI F1 F4:=ff.trans (g3.ff.trans g4.ff);have hh4:∀c o,H1 c=some o->H4 c=some o:=λc o e=>g4.hh _ _ (g3.hh _ _ (hh c o e))
    cases b with
    |false=>
     rw[if_neg Bool.false_ne_true]at e1;exact iteF ⟨ds.length - (i+1),by omega,acc,hlt,rfl,F4,done,left,g24,ff4,hh4,fa4,hd4,da.mono (g3.ff.trans g4.ff),by omega,e1,e2⟩
    |true=>
     rw[if_pos rfl]at e1;refine nN ?_;cases e5:f ρ1 with
     |none=>rw[e5]at e1;cases e1
     |some d=>
      simp only[e5,Option.bind_some]at e1;cases e6:qM g t f (qQ cap ρ) (ds.drop (i+1))with
      |none=>rw[e6]at e1;cases e1
      |some l=>
       rw[e6]at e1;cases e1
       refine⟨⟨(ρ1,d),e5⟩,F4,r2.grow g4,λv F5 H5 g5 d5=>?_⟩;have g25:=g24.trans g5;have hd5:=g5.hh _ _ hd4;have fa5:=g5.nw a _ hd4 fa4;have haH:H a=none:=g1.hh.free ha;refine⟨acc,hd5,zfx (by omega),ds.length - (i+1),by omega,_,hlt,rfl,F5,done++[d],l,?_,ff4.trans g5.ff,λc o e=>?_,fa5,qF,?_,by rw[List.length_append,List.length_singleton];omega,e6,by rw[e2];simp⟩
       ·refine⟨g25.ff,λc o e=>?_,λc o e=>?_,g25.nw⟩
        ·rw[zV (qK e haH)];exact g25.hh _ _ e
        ·rw[zV (qK e fa5)];exact g25.fh _ _ e
       ·rw[zV (qK e ha)];exact g5.hh _ _ (hh4 c o e)
       ·exact(da.mono (g3.ff.trans (g4.ff.trans g5.ff))).snoc d5
 ·have e:i=ds.length:=by omega
  subst e;rw[List.drop_length]at e1;have e1:some []=some left:=e1;cases e1
  rw[List.append_nil]at e2;subst e2;exact .inl ⟨o3,q _ F2 H2 g2 ⟨a,rfl,g1.hh.free ha,fa,acc,hd,da⟩⟩
theorem zea{d:D}(h:jC cap fi g t f ρ=some d):∃ds rs,fi ρ=some ds/\ds.length<=lim/\qM g t f (qQ cap ρ) ds=some rs/\d=.lst rs:=by
 unfold jC at h;cases e1:fi ρ with
 |none=>rw[e1]at h;cases h
 |some ds=>
  rw[e1]at h;simp only[Option.bind_some]at h;split at h
  ·rename_i hz;cases e2:qM g t f (qQ cap ρ) ds with
   |none=>rw[e2]at h;cases h
   |some rs=>rw[e2]at h;cases h;exact⟨ds,rs,rfl,hz,e2,rfl⟩
  ·cases h
theorem xD(N:List Str)(cap:ON)(cp:Cap X scope N cap)(hc:X.calm=true)(hi:FI K X tg zM fi)(hg:∀C s0 H0 fp,FG K (qR X N scope (qD X.env scope.names []) C s0 H0 fp) tg g)(ht:∀C s0 H0 fp,rdIf K (qR X N scope (qD X.env scope.names []) C s0 H0 fp) ifs t)(he:∀C s0 H0 fp,FP K .fz (qR X N scope (qD X.env scope.names []) C s0 H0 fp) elt f)(S:kF X scope:=by exact kF.mk')(hs:∀x,foldedSetIterable zM X.env x=pure x:=by intro _;rfl)(hK:X.K=K:=by rfl):
  FP K .ow X (.ListComp elt [⟨tg,zM,ifs,0⟩] scope pos) (jC cap fi g t f):=FP.mk λρ d hf=>by
 subst hK;obtain⟨ds,rs,e1,hz,e2,rfl⟩:=zea hf;refine PE.imp (zjk N cap cp hc (hi.h ρ ds e1) (λC s0 H0 fp=>PG.any λi:{q:En×D×En//g q.2.1 q.1=some q.2.2}=>(hg C s0 H0 fp).h _ _ _ i.2) (λC s0 H0 fp=>PIf.any λi:{q:En×Bool//t q.1=some q.2}=>(ht C s0 H0 fp).h _ _ i.2)
  (λC s0 H0 fp=>PE.any λi:{q:En×D//f q.1=some q.2}=>(he C s0 H0 fp).h _ _ i.2) S hs) λσ H Q ⟨F,r,q⟩=>?_
 exact⟨F,r,λJ F1 H1 g1 ok=>zkr e2 hz r q g1 ok⟩
theorem ziI(k:Nat){py spos:Pos}(N:List Str)(cap:ON)(cp:Cap X scope N cap)(hc:X.calm=true)(hN:X.N.Nodup)(hi:FI K X tg zM fi)(hg:∀C s0 H0 fp,FG K (qR X N scope (qD X.env scope.names []) C s0 H0 fp) tg g)(ht:∀C s0 H0 fp,rdIf K (qR X N scope (qD X.env scope.names []) C s0 H0 fp) ifs t)(he:∀C s0 H0 fp,FP K .fz (qR X N scope (qD X.env scope.names []) C s0 H0 fp) elt f)(hk:X.N[k]?=some y:=by rfl)(hy:Loc X.env.scope y:=by first|exact Or.inl rfl|exact Or.inr rfl)(S:kF X scope:=by exact kF.mk')(hs:∀x,foldedSetIterable zM X.env x=pure x:=by intro _;rfl)(hsw:swapsWith (.ListComp elt [⟨tg,zM,ifs,0⟩] scope pos) (some (.Name y py)) spos.line X.env=pure true:=by rfl)(hf:X.fn y=true\/X.env.scope.names.lookup y=some .local:=by first|exact .inl rfl|exact .inr rfl|assumption)(hK:X.K=K:=by rfl):
  FS K md X (.Assign [.Name y py] (.ListComp elt [⟨tg,zM,ifs,0⟩] scope pos) spos) (zN k (jC cap fi g t f)):=FS.mk λρ fl hm=>by
 subst hK;unfold zN at hm;cases e0:jC cap fi g t f ρ with
 |none=>rw[e0]at hm;cases hm
 |some d=>
  rw[e0]at hm;cases hm
  obtain⟨ds,rs,e1,hz,e2,rfl⟩:=zea e0;refine PS.imp (zhP N cap cp hc hN hk hy (hi.h ρ ds e1) (λC s0 H0 fp=>PG.any λi:{q:En×D×En//g q.2.1 q.1=some q.2.2}=>(hg C s0 H0 fp).h _ _ _ i.2) (λC s0 H0 fp=>PIf.any λi:{q:En×Bool//t q.1=some q.2}=>(ht C s0 H0 fp).h _ _ i.2)
   (λC s0 H0 fp=>PE.any λi:{q:En×D//f q.1=some q.2}=>(he C s0 H0 fp).h _ _ i.2) S hs hsw hf) λD σ H ⟨F,r,q⟩=>?_
  refine⟨F,r,λJ F1 H1 g1 ok=>zkr e2 hz r (λv F2 H2 g2 h=>?_) g1 ok⟩;obtain⟨a0,ea,z1,z2,z3⟩:=h;obtain⟨F3,g3,h3⟩:=Res.fz_of_ow g2 ⟨a0,ea,z1,z2,z3⟩ ea z3.fl;have s3:=g3.step (ρ:=ρ) (σ:=σ);exact q _ F3 H2 ((r.grow g3).setD h3) (s3.kp Kp.setD)
end
noncomputable def SpD(K:Fg)(md:Md)(m:Lo2):Sp:=λvs H Q _=>∃F ds d,zI F H/\zD K F ds vs/\m ds=some d/\∀v F' H',zF F H F' H'->Res K md H F' H' d v->Q v H'
variable{st:Stmt}{mb:Nat->EO Fl}
section
variable{P:Program}{w:World}{K:Fg}{mg:SV}{base:Heap}{md:Md}{X:Cx}{k:Nat}{f:Addr}{fd:FuncData}{ps:List Str}{m:Lo2}{x:Str}{e:Expr}{es:List Expr}{fs:EO (List D)}{p pos:Pos}
theorem zrh(F:jA X.prog X.w X.K X.mg X.base CX0 k f fd ps (SpD K md m))(hr:zW k X.A)(hg:Gl X x)(hm:X.mg x=some (.ref f))(hk:PySem.W.keepIn X.K (.ref f)=true)(hb:kM X.K fd ps [])(ha:FPs K true X (e::es) fs)(H1:∀{t:TA},PA X (e::es) t->PE X (.Call (.Name x p) (e::es) [] pos) (ziE (SpD K md m) [] E0 t):=by exact λha=>zer ‹_› ‹_› ‹_› ‹_› ‹_› ‹_› .nil zjo ha):
  FP K md X (.Call (.Name x p) (e::es) [] pos) (cL m fs):=FP.mk λρ d hf=>by
 obtain⟨l,e1,e2⟩:=zdw hf;refine PE.imp (H1 (ha.h ρ l e1)) λσ H Q ⟨F,r,q⟩=>⟨F,r,λvs F1 H1 g1 r1=>?_⟩
 refine⟨F1,l,d,g1.fh,by rw[List.append_nil];exact r1,e2,λv F2 H2 g2 h2=>q v F2 H2 (g1.trans g2) ?_⟩;cases md with
 |fz=>exact h2
 |br=>exact h2
 |ow=>
  obtain⟨a,e,h3,h4,h5⟩:=h2;exact⟨a,e,g1.hh.free h3,h4,h5⟩
noncomputable def qX(n:Nat)(ds:List D):En:=ds.map (λd=>some (.dat d))++List.replicate (n - ds.length) none
theorem Rel.start{N:List Str}{ds:List D}{vs:List V}(s:zI F H)(q:zD K F ds vs):Rel K F H (qX N.length ds) (L2.start N vs):=by
 have hl:=q.length;have key:∀(i:Nat) s,(qX N.length ds)[i]?=some (some s)->∃d,s=.dat d/\ds[i]?=some d:=λi s h=>by
  unfold qX at h;by_cases hi:i<ds.length
  ·rw[List.getElem?_append_left (by simpa using hi),List.getElem?_map,List.getElem?_eq_getElem hi]at h;cases h
   exact⟨_,rfl,List.getElem?_eq_getElem hi⟩
  ·rw[List.getElem?_append_right (by simpa using hi)]at h;rw[List.getElem?_replicate]at h;split at h<;>cases h
 refine⟨s,λi d h=>?_,λi d h=>?_,λi q d h=>?_,λi j q d s a ne h1=>?_,?_⟩
 ·obtain⟨d',e,hd⟩:=key i _ h;cases e
  obtain⟨v,hv,dv⟩:=q.get hd;refine⟨v,?_,dv⟩;unfold L2.start;have hi:i<vs.length:=(List.getElem?_eq_some_iff.mp hv).1;rw[List.getElem?_append_left (by simpa using hi),List.getElem?_map,hv];rfl
 ·obtain⟨d',e,_⟩:=key i _ h;cases e
 ·obtain⟨d',e,_⟩:=key i _ h;cases e
 ·obtain⟨d',e,_⟩:=key i _ h1;cases e
 ·unfold qX L2.start;simp[hl]
theorem zax{ds:List D}{σ:St}{b:Addr}(h:yA (qX n ds) σ b):False:=by
 obtain⟨i,q,d,h,_⟩:=h;unfold qX at h;by_cases hi:i<ds.length
 ·rw[List.getElem?_append_left (by simpa using hi),List.getElem?_map,List.getElem?_eq_getElem hi]at h;cases h
 ·rw[List.getElem?_append_right (by simpa using hi)]at h;rw[List.getElem?_replicate]at h;split at h<;>cases h
theorem qS.grow{ds:List D}(a:qS (qX n ds) σ F H ρ' σ' F' H')(s:zI F H):zF F H F' H':=by
 refine⟨a.ff,λb o e=>?_,a.fh,λb o e n=>(a.rest b o e n zax).2⟩;cases q:F b with
 |some u=>
  have:=s _ _ q;rw[e]at this;cases this
  exact a.fh _ _ (a.ff _ _ q)
 |none=>exact(a.rest b o e q zax).1
theorem zpL(Fn:Fun K x qual st f fd)(S:yL N ps (qH st))(hb:∀(n:Nat) (cdv:Value) (A:Around) (outer:List Env) (s:Shared) (H:Hp) (E:XK),zW k (A.deeper (envOfC qual (qH st) s.heap.objs.size f cdv))->FSs K md (kE CX0 P w K mg base N qual (qH st) f cdv A outer s H E).nox (kS st) (mb n))(hm:∀ds d,m ds=some d->ds.length=ps.length/\∃n,(∃ρ',mb n (qX N.length ds)=some (.rt d ρ'))\/(d=.non/\md=.fz/\∃ρ',mb n (qX N.length ds)=some (.nx ρ'))):jA P w K mg base CX0 (k+1) f fd ps (SpD K md m):=by
 refine Fn.ok S (λvs H Q E h=>?_) (λcdv A outer s H vs Q E hr h=>?_)
 ·obtain⟨F,ds,d,_,q,e,_⟩:=h;rw[q.length];exact(hm ds d e).1
 obtain⟨F,ds,d,sub,qd,e,k⟩:=h;obtain⟨_,n,h⟩:=hm ds d e;rcases h with⟨ρ',h⟩|⟨rfl,rfl,ρ',h⟩
 ·refine⟨_,(hb n cdv A outer s H E hr).h _ _ h,F,Rel.start sub qd,λv σ' F' H' r' s' res=>?_⟩;refine k v F' H' (s'.grow sub) ?_;cases md with
  |fz=>exact res
  |br=>exact res.elim
  |ow=>
   obtain⟨a,ea,h1,h2,h3⟩:=res;refine⟨a,ea,?_,h2,h3⟩;rcases h1 with h1|h1
   ·exact h1
   ·exact(zax h1).elim
 ·refine⟨_,(hb n cdv A outer s H E hr).h _ _ h,F,Rel.start sub qd,λσ' F' H' r' s'=>?_⟩;exact k _ F' H' (s'.grow sub) (Dat.non (K:=K) (F:=F'))
end
theorem u100(hr:zW k A):A.units+100<cLine:=by have:=hr.un;omega
theorem u101(hr:zW k A):A.units+101<cLine:=by have:=hr.un;omega
structure Glb(mg:SV):Prop where
 isi:mg "isinstance"=none
 str:mg "str"=none
 tuple:mg "tuple"=none
 list:mg "list"=none
 int:mg "int"=none
 bool:mg "bool"=none
 dict:mg "dict"=none
 len:mg "len"=none
 range:mg "range"=none
 enum:mg "enumerate"=none
 sum:mg "sum"=none
 max:mg "max"=none
 min:mg "min"=none
 abs:mg "abs"=none
 zip:mg "zip"=none
 reversed:mg "reversed"=none
 sorted:mg "sorted"=none
 set:mg "set"=none
 any:mg "any"=none
 all:mg "all"=none
structure Fk(P:Program)(w:World)(K:Fg)(mg:SV)(base:Heap)(x:Str)(ps:List Str)(md:Md)(k:Nat)(m:Lo2):Prop where
 ex:∃f fd,jA P w K mg base CX0 k f fd ps (SpD K md m)/\kM K fd ps []/\PySem.W.keepIn K (.ref f)=true/\mg x=some (.ref f)
section
variable{P:Program}{w:World}{K:Fg}{mg:SV}{base:Heap}{md:Md}{X:Cx}{k j:Nat}{ps:List Str}{m m':Lo2}{x:Str}{e:Expr}{es:List Expr}{fs:EO (List D)}{p pos:Pos}
theorem fk(G:Fk X.prog X.w X.K X.mg X.base x ps md k m)(hr:zW j X.A)(ha:FPs K true X (e::es) fs)(hle:k<=j:=by first|decide|omega)(hg:Gl X x:=by rfl)(hK:X.K=K:=by rfl)(H1:∀{f:Addr}{fd:FuncData} {t:TA},jA X.prog X.w X.K X.mg X.base CX0 k f fd ps (SpD K md m)->zW k X.A->Gl X x->X.mg x=some (.ref f)->PySem.W.keepIn X.K (.ref f)=true->kM X.K fd ps []->PA X (e::es) t->PE X (.Call (.Name x p) (e::es) [] pos) (ziE (SpD K md m) [] E0 t):=by exact λF hr hg hm hk hb ha=>zer F hr hg hm hk hb .nil zjo ha):
  FP K md X (.Call (.Name x p) (e::es) [] pos) (cL m fs):=by
 subst hK;obtain⟨f,fd,F,hb,hk,hm⟩:=G.ex;exact zrh F (hr.mono hle) hg hm hk hb ha λha=>H1 F (hr.mono hle) hg hm hk hb ha
theorem Fk.mono(G:Fk P w K mg base x ps md k m)(h:k<=j):Fk P w K mg base x ps md j m:=by obtain⟨f,fd,F,r⟩:=G.ex;exact⟨f,fd,F.mono h,r⟩
theorem Fk.never{f:Addr}(h:kM K fd ps []/\PySem.W.keepIn K (.ref f)=true/\mg x=some (.ref f))(hm:∀ds,m ds=none):Fk P w K mg base x ps md 0 m:=by
 refine⟨f,fd,⟨λvs H Q E h=>?_,λA outer s H args us vs Q E _ _ _ _ h=>?_⟩,h⟩
 ·obtain⟨F,ds,d,_,_,e,_⟩:=h;rw[hm]at e;cases e
 ·obtain⟨F,ds,d,_,_,e,_⟩:=h;rw[hm]at e;cases e
noncomputable def jY:List D->Option (List Str)
 |[]=>some []
 | .str i::l=>(jY l).map (i::·)
 |_::_=>none
theorem zaN:∀{l:List D}{ns:List Str},jY l=some ns->l=ns.map D.str
 |[],ns,h=>by simp[jY]at h;subst h;rfl
 | .str i::l,ns,h=>by
  simp only[jY]at h;cases e:jY l with
  |none=>rw[e]at h;cases h
  |some ms=>rw[e]at h;cases h;rw[zaN e];rfl
 | .non::_,_,h=>by simp[jY]at h
 | .bl _::_,_,h=>by simp[jY]at h
 | .int _::_,_,h=>by simp[jY]at h
 | .tup _::_,_,h=>by simp[jY]at h
 | .lst _::_,_,h=>by simp[jY]at h
 | .scr _::_,_,h=>by simp[jY]at h
 | .dic _ _::_,_,h=>by simp[jY]at h
 | .set _::_,_,h=>by simp[jY]at h
 | .exc _ _::_,_,h=>by simp[jY]at h
theorem zbw:∀(ns:List Str),jY (ns.map D.str)=some ns
 |[]=>rfl
 |n::ns=>by rw[List.map_cons,jY,zbw ns];rfl
noncomputable def zlx:D->D->Option D
 | .str sep,.lst l=>(jY l).bind λys=>if(ys.map (·.length)).sum+ys.length*sep.length<=16777216 then some (.str (Txt.join sep ys))else none
 |_,_=>none
theorem zrb{o:Expr}{fo:EO D}{apos cpos:Pos}(ho:FP K .fz X o fo)(ha:FP K .br X a fa)(hbase:attributeBase o "join" X.env (eval o X.env)=eval o X.env:=by rfl)(hfew:((backTo cpos (starEach [a] X.env)).all (λx=>!x.1)&&(backToKw cpos (keywordEach [] X.env)).all (λx=>x.1.isSome)&&decide (([a]:List Expr).length+([]:List Keyword).length+(if([]:List Keyword).isEmpty then 0 else 1)<30))=true:=by rfl)(hline:(apos.endLine==cpos.line)=true:=by rfl)(hs:starEach [a] X.env=(false,eval a X.env)::starEach [] X.env:=by rfl)(hplain:(backTo cpos (starEach [] X.env)).any (·.1)=false:=by rfl)(hK:X.K=K:=by rfl):
  FP K .fz X (.Call (.Attribute o "join" apos) [a] [] cpos) (c2 zlx fo fa):=FP.mk λρ d hf=>by
 subst hK;obtain⟨x,y,e1,e2,e3⟩:=nA hf;unfold zlx at e3;split at e3
 ·rename_i sep l;cases e4:jY l with
  |none=>rw[e4]at e3;cases e3
  |some ys=>
   rw[e4]at e3;obtain⟨hz,rfl⟩:=jD e3;rw[zaN e4]at e2;refine PE.imp (znn PySem.F.plainAttrs_str PySem.F.slot_str_join PySem.F.type_str_join znz (ho.h ρ _ e1) (jF (ha.h ρ _ e2) kO hs) hbase hfew hline hs hplain) λσ H Q ⟨F,r,q⟩=>⟨F,r,λv F1 H1 g1 r1=>?_⟩
   have ev:=Dat.str_inv (K:=X.K) (F:=F1) r1;subst ev;refine⟨rfl,F1,r.grow g1,λu F2 H2 g2 r2=>?_⟩;obtain⟨a,vs,rfl,f,qq⟩:=zO.lst_inv r2;rw[qq.strs]at f;exact⟨sep,a,ys,rfl,rfl,SqL.of f,hz,λz ez=>by subst ez;exact q _ F2 H2 (g1.trans g2) (Res.str _)⟩
 ·cases e3
end
def zJ:Nat:=1000000000
noncomputable def qO(mb:EO Fl)(np nn:Nat)(ds:List D):Option D:=if ds.length=np then(match mb (qX nn ds)with
 |some (.rt d _)=>some d
 |_=>none)else none
theorem ziR{np nn:Nat}:∀ds d,qO (mb zJ) np nn ds=some d->ds.length=np/\∃n,(∃ρ',mb n (qX nn ds)=some (.rt d ρ'))\/(d=.non/\md=.fz/\∃ρ',mb n (qX nn ds)=some (.nx ρ')):=λds d h=>by
 unfold qO at h;split at h
 ·rename_i hl;refine⟨hl,zJ,.inl ?_⟩;split at h
  ·rename_i d' ρ' e;cases h;exact⟨ρ',e⟩
  ·cases h
 ·cases h
theorem zqj{l:PySem.W.OpenLaw}{q:Program}{loose:List Str}{XP:(SV)->Heap->Prop}{YP:World->Heap->Prop}{d:DefRec}{K:Params->Fg}{m:Lo2}(hn:l.most=some 63)(hdf:d.params.defaults=[])(hr:zW k callerA)(hY:∀(w:World) (h:Heap),YP w h->(K w.params).In h)(F:∀(w:World) (mg:SV) (fa:Addr) (h:Heap),(K w.params).In h->h.Ns mainGlobals mg->mg d.name=some (.ref fa)->
   ∃fd:FuncData,(∀(s:Shared) (u:Value),BindsTo s fd ⟨[u],[]⟩ [(x,u)])/\∀base:Heap,(K w.params).In base->base.Ns mainGlobals mg->jA l.prog w (K w.params) mg base CX0 k fa fd [x] (SpD (K w.params) .fz m))(H:∀ns:List Int,ns.length<=63->m [.scr ns]=some (.bl true)):PySem.W.WalkO q loose XP YP l.row.toRowW d [] (λf vs=>PySem.call f vs):=
 L2.walk_of (n:=63) (k:=k) (x:=x) (CX:=λ_=>CX0) (sp:=λw=>SpD (K w.params) .fz m) hn (by decide) hdf hr hY F
  (λw H' a ns hl _ hS=>⟨H',[.scr ns],.bl true,zI.refl _,zD.cons (Dat.scr hS) zD.nil,H ns hl,λv F' H2 _ h=>Dat.bl_inv (K:=K w.params) (F:=F') h⟩) λ_ _ _ _ _ z=>z
structure Chg(F H:Hp)(a:Addr)(F' H':Hp):Prop where
 ff:zI F F'
 fh:zI F' H'
 rest:∀b o,H b=some o->F b=none->b≠a->H' b=some o/\F' b=none
 fa:F' a=none
section
variable{K:Fg}{F H F' H' F2 H2:Hp}{ρ ρ':En}{σ σ':St}{i:Nat}{a:Addr}
theorem Chg.trans(x:Chg F H a F' H')(y:Chg F' H' a F2 H2):Chg F H a F2 H2:=
 ⟨x.ff.trans y.ff,y.fh,λb o e n ne=>let⟨e1,n1⟩:=x.rest b o e n ne;y.rest b o e1 n1 ne,y.fa⟩
theorem zF.chg(g:zF F H F' H')(h:H a=some o)(n:F a=none):Chg F H a F' H':=⟨g.ff,g.fh,λb o e n _=>⟨g.hh _ _ e,g.nw b o e n⟩,g.nw a o h n⟩
theorem zO.chg{d:D}(s:zI F H)(c:Chg F H a F' H')(h:zO K F H d v)(hv:v≠.ref a):zO K F' H' d v:=by
 have key:∀b o,b≠a->H b=some o->H' b=some o:=λb o ne e=>by
  cases f:F b with
  |some u=>
   have:=s _ _ f;rw[e]at this;cases this
   exact c.fh _ _ (c.ff _ _ f)
  |none=>exact(c.rest b o e f ne).1
 cases d with
 |lst l=>obtain⟨b,vs,rfl,f,q⟩:=h.lst_inv;exact⟨b,vs,rfl,key b _ (λz=>hv (by rw[z])) f,q.mono c.ff⟩
 |dic k l=>
  obtain⟨b,vs,rfl,f,q⟩:=h.dic_inv;obtain⟨o,ho⟩:=f.some;exact⟨b,vs,rfl,f.at (by rw[ho];exact key b _ (λz=>hv (by rw[z])) ho),q.mono c.ff⟩
 |set l=>
  obtain⟨b,rfl,f⟩:=h;have f:kX H b l:=f;obtain⟨o,ho⟩:=f.some;exact⟨b,rfl,f.at (by rw[ho];exact key b _ (λz=>hv (by rw[z])) ho)⟩
 |_=>exact Dat.mono c.ff h
theorem Rel.chg(r:Rel K F H ρ σ){d d':D}(e:ρ[i]?=some (some (.ow pp d)))(hσ:σ[i]?=some (some (.ref a)))(c:Chg F H a F' H')(ho:Own K F' H' d' a):
  Rel K F' H' (ρ.set i (some (.ow pp d'))) σ/\qS ρ σ F H (ρ.set i (some (.ow pp d'))) σ F' H':=by
 refine⟨⟨c.fh,λj x q=>?_,λj x q=>?_,λj qq x q=>?_,λj k qq x s c ne e1 e2 e3 e4=>?_,by simp[r.len]⟩,⟨c.ff,λb u h n no=>c.rest b u h n (λz=>no (by subst z;exact⟨i,pp,d,e,hσ⟩)),λb h=>.inr ?_,λj x e'=>?_,c.fh⟩⟩
 ·rcases qA q with⟨rfl,q'⟩|⟨ne,q'⟩
  ·cases q'
  ·obtain⟨v,h1,h2⟩:=r.dat j x q';exact⟨v,h1,h2.mono c.ff⟩
 ·rcases qA q with⟨rfl,q'⟩|⟨ne,q'⟩
  ·cases q'
  ·obtain⟨v,h1,h2⟩:=r.bor j x q';refine⟨v,h1,h2.chg r.sub c λz=>?_⟩;subst z;exact r.inj i j pp d _ a (Ne.symm ne) e hσ q' rfl h1
 ·rcases qA q with⟨rfl,q'⟩|⟨ne,q'⟩
  ·cases q'
   exact⟨a,hσ,c.fa,ho⟩
  ·obtain⟨b,h1,h2,h3⟩:=r.own j qq x q';have hc:b≠a:=λz=>by subst z;exact r.inj i j pp d _ b (Ne.symm ne) e hσ q' rfl h1
   obtain⟨o,hob⟩:=h3.some;obtain⟨g1,g2⟩:=c.rest b o hob h2 hc;exact⟨b,h1,g2,h3.mono c.ff λu hu=>by rw[hob]at hu;cases hu;exact g1⟩
 ·rcases qA e1 with⟨rfl,e1'⟩|⟨ne1,e1'⟩
  ·rcases qA e3 with⟨rfl,e3'⟩|⟨ne3,e3'⟩
   ·exact absurd rfl ne
   ·exact r.inj j k pp d s c ne e e2 e3' e4
  ·rcases qA e3 with⟨rfl,e3'⟩|⟨ne3,e3'⟩
   ·exact r.inj j k qq x (.ow pp d) c ne e1' e2 e rfl
   ·exact r.inj j k qq x s c ne e1' e2 e3' e4
 ·obtain⟨j,qq,x,j1,j2⟩:=h;rcases qA j1 with⟨rfl,j1'⟩|⟨ne,j1'⟩
  ·exact⟨j,pp,d,e,j2⟩
  ·exact⟨j,qq,x,j1',j2⟩
 ·rcases qA e' with⟨rfl,e''⟩|⟨ne,e''⟩
  ·cases e''
   exact⟨d,e,rfl⟩
  ·exact⟨x,e'',rfl⟩
theorem Rel.setI(r:Rel K F H ρ σ){pp:Bool}{d:D}(nf:∀(j:Nat) (s:Sl),ρ[j]?=some (some s)->s.isDat=true)(hf:F a=none)(ho:Own K F H d a):Rel K F H (ρ.set i (some (.ow pp d))) (σ.set i (some (.ref a))):=by
 have no:∀(j:Nat) (s:Sl),ρ[j]?=some (some s)->s.isDat=false->False:=λj s e hs=>by rw[nf j s e]at hs;cases hs
 refine⟨r.sub,λj x e=>?_,λj x e=>?_,λj q x e=>?_,λj k q x s c ne e1 e2 e3 e4=>?_,by simp[r.len]⟩
 ·rcases qA e with⟨rfl,e'⟩|⟨ne,e'⟩
  ·cases e'
  ·rw[List.getElem?_set_ne (Ne.symm ne)];exact r.dat j x e'
 ·rcases qA e with⟨rfl,e'⟩|⟨ne,e'⟩
  ·cases e'
  ·exact(no j _ e' rfl).elim
 ·rcases qA e with⟨rfl,e'⟩|⟨ne,e'⟩
  ·cases e'
   exact⟨a,zbx (by rw[←r.len];exact zfe e),hf,ho⟩
  ·exact(no j _ e' rfl).elim
 ·rcases qA e3 with⟨rfl,e3'⟩|⟨ne3,e3'⟩
  ·rcases qA e1 with⟨rfl,e1'⟩|⟨ne1,e1'⟩
   ·exact absurd rfl ne
   ·exact(no j _ e1' rfl).elim
  ·exact(no k _ e3' e4).elim
end
noncomputable def SpX(K:Fg)(j:Nat)(m:D->List D->Option (D×D)):Sp:=λvs H Q _=>∃F a us ds c d c',vs=us.take j++.ref a::us.drop j/\j<=us.length/\zI F H/\F a=none/\Own K F H c a/\zD K F ds us/\m c ds=some (d,c')/\
 ∀v F' H',Chg F H a F' H'->Own K F' H' c' a->Dat K F' d v->Q v H'
noncomputable def xU(nn j:Nat)(c:D)(ds:List D):En:=(qX nn (ds.take j++.non::ds.drop j)).set j (some (.inn c))
theorem ziH(N:List Str)(xs ys:List V)(u v:V):(L2.start N (xs++v::ys)).set xs.length (some u)=L2.start N (xs++u::ys):=by unfold L2.start;simp[List.set_append]
noncomputable def xV(mb:EO Fl)(np nn j:Nat)(c:D)(ds:List D):Option (D×D):=if ds.length+1=np/\j<=ds.length then(match mb (xU nn j c ds)with
 |some (.rt d ρ')=>(match ρ'[j]? with
  |some (some (.ow true c'))=>some (d,c')
  |_=>none)
 |_=>none)else none
structure FkX(P:Program)(w:World)(K:Fg)(mg:SV)(base:Heap)(x:Str)(ps:List Str)(j k:Nat)(m:D->List D->Option (D×D)):Prop where
 ex:∃f fd,jA P w K mg base CX0 k f fd ps (SpX K j m)/\kM K fd ps []/\PySem.W.keepIn K (.ref f)=true/\mg x=some (.ref f)
variable{pos:Pos}{jj:Nat}
section
variable{P:Program}{w:World}{K:Fg}{mg:SV}{base:Heap}{X:Cx}{k j:Nat}{f:Addr}{fd:FuncData}{ps:List Str}{x:Str}
theorem zpK(Fn:Fun K x qual st f fd)(S:yL N ps (qH st))(np nn j:Nat)(hnp:ps.length=np)(hnn:N.length=nn)(hb:∀(n:Nat) (cdv:Value) (A:Around) (outer:List Env) (s:Shared) (H:Hp) (E:XK),zW k (A.deeper (envOfC qual (qH st) s.heap.objs.size f cdv))->FSs K .fz (kE CX0 P w K mg base N qual (qH st) f cdv A outer s H E).nox (kS st) (mb n)):
  jA P w K mg base CX0 (k+1) f fd ps (SpX K j (xV (mb zJ) np nn j)):=by
 subst hnp hnn;have hlen:∀(us:List V) (v:V),j<=us.length->(us.take j++v::us.drop j).length=us.length+1:=λus v h=>by rw[List.length_append,List.length_cons,List.length_take,List.length_drop];omega
 have inv:∀{c:D}{ds:List D} {d c':D},xV (mb zJ) ps.length N.length j c ds=some (d,c')->ds.length+1=ps.length/\j<=ds.length/\∃ρ',mb zJ (xU N.length j c ds)=some (.rt d ρ')/\ρ'[j]?=some (some (.ow true c')):=λ{c ds d c'} h=>by
  unfold xV at h;split at h
  ·rename_i hl;split at h
   ·rename_i d' ρ' e;split at h
    ·rename_i c2 e2;cases h;exact⟨hl.1,hl.2,ρ',e,e2⟩
    ·cases h
   ·cases h
  ·cases h
 refine Fn.ok S (λvs H Q E h=>?_) (λcdv A outer s H vs Q E hr h=>?_)
 ·obtain⟨F,a,us,ds,c,d,c',rfl,hj,_,_,_,q,e,_⟩:=h;rw[hlen us _ hj,q.length];exact(inv e).1
 obtain⟨F,a,us,ds,c,d,c',rfl,hj,sub,fa,ho,qd,e,kq⟩:=h;obtain⟨h1,h2,ρ',h3,h4⟩:=inv e;have q0:zD K F (ds.take j++.non::ds.drop j) (us.take j++.non::us.drop j):=(qd.take j).append (zD.cons Dat.non (qd.drop j));have r0:=Rel.start (N:=N) sub q0;have tl:(us.take j).length=j:=by rw[List.length_take];omega
 have r1:Rel K F H (xU N.length j c ds) (L2.start N (us.take j++.ref a::us.drop j)):=by
  have:=Rel.setI (i:=j) (pp:=true) r0 (λi s e=>by
   unfold qX at e;by_cases hi:i<(ds.take j++D.non::ds.drop j).length
   ·rw[List.getElem?_append_left (by simpa using hi),List.getElem?_map,List.getElem?_eq_getElem hi]at e;cases e;rfl
   ·rw[List.getElem?_append_right (by simpa using hi),List.getElem?_replicate]at e;split at e<;>cases e) fa ho
  have e2:=ziH N (us.take j) (us.drop j) (.ref a) .non;rw[tl]at e2;rw[e2]at this;exact this
 refine⟨_,(hb zJ cdv A outer s H E hr).h _ _ h3,F,r1,λv σ' F' H' r' s' res=>?_⟩;obtain⟨d0,p1,p2⟩:=s'.pin j c' h4;obtain⟨b,g1,g2,g3⟩:=r'.own j true c' h4;have sj:(L2.start N (us.take j++.ref a::us.drop j))[j]?=some (some (.ref a)):=by unfold L2.start;rw[List.getElem?_append_left (by rw[List.length_map,hlen us _ hj];omega),List.getElem?_map,List.getElem?_append_right (by omega),tl];simp
 rw[p2,sj]at g1;cases g1
 have only:∀b,yA (xU N.length j c ds) (L2.start N (us.take j++.ref a::us.drop j)) b->b=a:=λb ⟨i,pp,x,i1,i2⟩=>by
  unfold xU at i1;rcases qA i1 with⟨rfl,_⟩|⟨ne,i1'⟩
  ·rw[sj]at i2;cases i2;rfl
  ·exact(zax (σ:=L2.start N (us.take j++.ref a::us.drop j)) ⟨i,pp,x,i1',i2⟩).elim
 exact kq v F' H' ⟨s'.ff,s'.fh,λb o e n ne=>s'.rest b o e n λz=>ne (only b z),g2⟩ g3 res
noncomputable def kK(m:D->List D->Option (D×D))(i:Nat)(fs:EO (List D)):EO (D×En):=λρ=>match ρ[i]?,fs ρ with
 |some (some (.ow p c)),some ds=>(m c ds).map λq=>(q.1,ρ.set i (some (.ow p q.2)))
 |_,_=>none
theorem zir{m:D->List D->Option (D×D)}{fs:EO (List D)}{d:D}(h:kK m i fs ρ=some (d,ρ')):∃p c ds c',ρ[i]?=some (some (.ow p c))/\fs ρ=some ds/\m c ds=some (d,c')/\ρ'=ρ.set i (some (.ow p c')):=by
 unfold kK at h;split at h
 ·rename_i p c ds e1 e2;cases e3:m c ds with
  |none=>rw[e3]at h;cases h
  |some q=>
   rw[e3]at h;cases h
   exact⟨p,c,ds,q.2,e1,e2,e3,rfl⟩
 ·cases h
theorem zcN(i:Nat){p1:Pos}{fe:EO D}{m:D->List D->Option (D×D)}(G:FkX X.prog X.w X.K X.mg X.base x ps 0 k m)(hr:zW jj X.A)(he:FP K .fz X e fe)(hle:k<=jj:=by first|decide|omega)(hg:Gl X x:=by rfl)(hK:X.K=K:=by rfl)(hN:X.N[i]?=some y:=by rfl)(hv:Vis X.env.scope y:=by first|exact Or.inl rfl|exact Or.inr (Or.inl rfl)|exact Or.inr (Or.inr rfl))(hd:(y==("__debug__":Str))=false:=by decide)(hcd:(y==("__classdict__":Str))=false:=by decide)(hs:starEach [e] X.env=(false,eval e X.env)::starEach [] X.env:=by rfl)(H1:∀{f:Addr}{fd:FuncData} {t:TA},jA X.prog X.w X.K X.mg X.base CX0 k f fd ps (SpX K 0 m)->zW k X.A->Gl X x->X.mg x=some (.ref f)->PySem.W.keepIn X.K (.ref f)=true->kM X.K fd ps []->PA X [.Name y p1,e] t->PE X (.Call (.Name x p) [.Name y p1,e] [] pos) (ziE (SpX K 0 m) [] E0 t):=by exact λF hr hg hm hk hb ha=>zer F hr hg hm hk hb .nil zjo ha)(hs0:starEach [.Name y p1,e] X.env=(false,eval (.Name y p1) X.env)::starEach [e] X.env:=by rfl):
  FX K X (.Call (.Name x p) [.Name y p1,e] [] pos) (kK m i (zA fe zC)):=FX.mk λρ d ρ' hf=>by
 subst hK;obtain⟨pp,c,ds,c',e1,e2,e3,rfl⟩:=zir hf;obtain⟨d1,l,e4,e5,rfl⟩:=zcs e2;have e5:some []=some l:=e5;cases e5
 obtain⟨f,fd,F,hb,hk,hm⟩:=G.ex;refine PE.imp (H1 F (hr.mono hle) hg hm hk hb (jF (yE hN hv hd hcd) (jF (he.h ρ d1 e4) kO hs) hs0)) λσ H Q h_=>?_
 obtain⟨Fz,r,q⟩:=h_;obtain⟨a,h1,h2,h3⟩:=r.own i pp c e1;refine⟨_,h1,Fz,r,λv F1 H1 g1 r1=>?_⟩;have rg:=r.grow g1;obtain⟨a',h1',h2',h3'⟩:=rg.own i pp c e1;rw[h1]at h1';cases h1'
 refine⟨F1,a,[v],[d1],c,d,c',rfl,Nat.zero_le _,g1.fh,h2',h3',zD.cons r1 zD.nil,e3,λv' F' H' ch ho hd'=>?_⟩;obtain⟨x1,x2⟩:=rg.chg e1 h1 ch ho;exact q v' F' H' x1 (g1.step.trans x2 r.sub) hd'
noncomputable def wG(m:EO (D×En)):EO Fl:=λρ=>(m ρ).map λq=>.rt q.1 q.2
theorem zqr(he:FX K X e m):FS K .fz X (.Return (some e) pos) (wG m):=FS.mk λρ fl hf=>by
 unfold wG at hf;cases e1:m ρ with
 |none=>rw[e1]at hf;cases hf
 |some q1=>
  obtain⟨d,ρ1⟩:=q1;rw[e1]at hf;cases hf
  exact PS.imp (zdN (he.h ρ d ρ1 e1)) λD σ H ⟨F,r,q⟩=>⟨F,r,λv F1 H1 r1 s1 h=>q v σ F1 H1 r1 s1 h⟩
end
noncomputable def vV(jj:Nat)(ρ:En):Option D:=match ρ[jj]? with
 |some (some (.ow true c))=>some c
 |_=>none
theorem zdU{c:D}(h:vV jj ρ=some c):ρ[jj]?=some (some (.ow true c)):=by
 unfold vV at h;split at h
 ·rename_i e;cases h;exact e
 ·cases h
noncomputable def vB(g:D->EO En)(m:EO (D×En))(ρi:En)(jj:Nat):D->List D->Option (List D×D)
 |c,[]=>some ([],c)
 |c,x::xs=>(g x (ρi.set jj (some (.inn c)))).bind λρ1=>(m ρ1).bind λq=>(vV jj q.2).bind λc2=>(vB g m ρi jj c2 xs).map λr=>(q.1::r.1,r.2)
noncomputable def vA(i jj:Nat)(cap:ON)(fi:EO (List D))(g:D->EO En)(m:EO (D×En)):EO (D×En):=λρ=>match ρ[i]?,fi ρ with
 |some (some (.ow p c)),some ds=>if ds.length<=lim then(vB g m (qQ cap ρ) jj c ds).map λr=>(.lst r.1,ρ.set i (some (.ow p r.2)))else none
 |_,_=>none
section
variable{K:Fg}{X:Cx}{pos:Pos}{tg zM elt:Expr}{scope:Scope}
theorem Rel.innerX{cap:ON}{jj:Nat}{p:Bool}{c:D}(r:Rel K F H ρ σ)(e:ρ[i]?=some (some (.ow p c)))(hc:cap[jj]?=some (some i))(ho:∀k,cap[k]?=some (some i)->k=jj):
  Rel K F H ((qQ cap ρ).set jj (some (.inn c))) (st0 cap σ):=by
 have b:=r.inner (cap:=cap);obtain⟨a,h1,h2,h3⟩:=r.own i p c e;have hs:=zcO (σ:=σ) hc h1;refine⟨r.sub,λj x q=>?_,λj x q=>?_,λj qq x q=>?_,λj k qq x s d ne e1 e2 e3 e4=>?_,by simp[b.len]⟩
 ·rcases qA q with⟨rfl,q'⟩|⟨ne,q'⟩
  ·cases q'
  ·exact b.dat j x q'
 ·rcases qA q with⟨rfl,q'⟩|⟨ne,q'⟩
  ·cases q'
  ·exact b.bor j x q'
 ·rcases qA q with⟨rfl,q'⟩|⟨ne,q'⟩
  ·cases q';exact⟨a,hs,h2,h3⟩
  ·exact b.own j qq x q'
 ·rcases qA e1 with⟨rfl,e1'⟩|⟨ne1,e1'⟩
  ·rcases qA e3 with⟨rfl,e3'⟩|⟨ne3,e3'⟩
   ·exact absurd rfl ne
   ·rw[hs]at e2;cases e2
    obtain⟨l,s0,l1,l2,l3⟩:=zaO e3';have hl:l≠i:=λz=>ne3 (ho k (by rw[l1,z]))
    intro z;have zz:σ[l]?=some (some (.ref a)):=by
     unfold st0 at z;rw[List.getElem?_map,l1]at z;simp at z;cases e5:σ[l]? with
     |none=>rw[e5]at z;cases z
     |some y=>rw[e5]at z;simp at z;rw[z]
    refine r.inj i l p c s0 a (Ne.symm hl) e h1 l2 ?_ zz;cases s0<;>simp[kZ]at l3
    ·subst l3;cases e4
    ·rfl
    ·rfl
  ·obtain⟨l,s0,l1,l2,l3⟩:=zaO e1';cases s0<;>simp[kZ]at l3
theorem zkQ{y z:Option Sl}(ho:∀k,cap[k]?=some (some i)->k=jj):(qQ cap (ρ.set i y)).set jj z=(qQ cap ρ).set jj z:=by
 apply List.ext_getElem?;intro k;by_cases hk:k=jj
 ·subst hk;rw[List.getElem?_set,List.getElem?_set];simp[qQ]
 ·rw[List.getElem?_set_ne (Ne.symm hk),List.getElem?_set_ne (Ne.symm hk)];unfold qQ;rw[List.getElem?_map,List.getElem?_map];cases e:cap[k]? with
  |none=>rfl
  |some o=>
   cases o with
   |none=>rfl
   |some j=>
    have hj:j≠i:=λz=>hk (ho k (by rw[e,z]))
    simp[List.getElem?_set_ne (Ne.symm hj)]
theorem zme{ds:List D}{c0 c9:D}{p:Bool}(hcap:cap[jj]?=some (some i))(ho:∀k,cap[k]?=some (some i)->k=jj)(e1:ρ[i]?=some (some (.ow p c0)))(e3:vB g m (qQ cap ρ) jj c0 ds=some (rs,c9))(hn:ds.length<=lim)(r:Rel K F H ρ σ)(q:∀v F' H',Rel K F' H' (ρ.set i (some (.ow p c9))) σ->qS ρ σ F H (ρ.set i (some (.ow p c9))) σ F' H'->Dat K F' (.lst rs) v->Q v H')(g1:zF F H F1 H1)(ok:zdy K J F1 ds):
  zoe K J (λv σ H Q=>∃i:{q:En×D×En//g q.2.1 q.1=some q.2.2},rdG K i.1.1 i.1.2.1 i.1.2.2 v σ H Q) tYes (λσ H Q=>∃i:{q:En×D×En//m q.1=some q.2},rdX K i.1.1 i.1.2.1 i.1.2.2 σ H Q) cap σ H1 Q:=by
 obtain⟨a,hσ,fa0,own0⟩:=r.own i p c0 e1;obtain⟨oa,hoa⟩:=own0.some;intro dd hdd;have hdH:H dd=none:=g1.hh.free hdd;have hda:dd≠a:=λz=>by rw[z,hoa]at hdH;cases hdH
 have g1':zF F H F1 (upd H1 dd (.lst [])):=g1.trans (zF.fresh g1.fh hdd);refine⟨λn mm H2=>∃acc,n<=ds.length/\mm=ds.length - n/\∃F2 done left c,Chg F H a F2 H2/\Own K F2 H2 c a/\zI F1 F2/\F2 dd=none/\H2 dd=some (.lst acc)/\zD K F2 done acc/\acc.length<=n/\vB g m (qQ cap ρ) jj c (ds.drop n)=some (left,c9)/\rs=done++left,
  ⟨ds.length,[],Nat.zero_le _,rfl,F1,[],rs,c0,g1'.chg hoa fa0,own0.mono g1'.ff λo e=>g1'.hh _ _ e,zI.refl _,g1.fh.free hdd,qF,zD.nil,Nat.zero_le _,e3,rfl⟩,?_⟩
 rintro n mm H2 ⟨acc,hi,rfl,F2,done,left,c,ch,own2,ff,fd,hd,da,al,e4,e5⟩;obtain⟨o1,o2,o3⟩:=ok F2 H2 ff ch.fh;by_cases hlt:n<ds.length
 ·refine .inr ⟨o1 n hlt,λx H3 y=>?_⟩;obtain⟨F3,g3,d3⟩:=o2 n x H3 _ (List.getElem?_eq_getElem hlt) y;rw[List.drop_eq_getElem_cons hlt]at e4;simp only[vB]at e4;obtain⟨o2a,ho2a⟩:=own2.some;have ch3:Chg F H a F3 H3:=ch.trans (g3.chg ho2a ch.fa);have own3:=own2.mono g3.ff (λo e=>g3.hh _ _ e);obtain⟨r3,_⟩:=r.chg e1 hσ ch3 own3;have hil:i<ρ.length:=(List.getElem?_eq_some_iff.mp e1).1;have rin:=r3.innerX (cap:=cap) (jj:=jj) (zbx hil) hcap ho;rw[zkQ ho]at rin;cases e6:g ds[n] ((qQ cap ρ).set jj (some (.inn c)))with
  |none=>rw[e6]at e4;cases e4
  |some ρ1=>
   simp only[e6,Option.bind_some]at e4;refine⟨⟨(_,ds[n],ρ1),e6⟩,F3,rin,d3,λσ2 r2 kp=>?_⟩;simp only[tYes,if_true];cases e7:m ρ1 with
   |none=>rw[e7]at e4;cases e4
   |some q1=>
    obtain⟨d1,ρ2⟩:=q1;simp only[e7,Option.bind_some]at e4;cases e8:vV jj ρ2 with
    |none=>rw[e8]at e4;cases e4
    |some c2=>
     simp only[e8,Option.bind_some]at e4;cases e9:vB g m (qQ cap ρ) jj c2 (ds.drop (n+1))with
     |none=>rw[e9]at e4;cases e4
     |some l=>
      obtain⟨l,c8⟩:=l;rw[e9]at e4;cases e4
      refine⟨⟨(ρ1,d1,ρ2),e7⟩,F3,r2,λv F4 H4 r4 s4 d4=>?_⟩;have hsi:(st0 cap σ)[jj]?=some (some (.ref a)):=zcO hcap hσ;obtain⟨x1,p1,p2⟩:=s4.pin jj c2 (zdU e8);obtain⟨x2,p3,p4⟩:=kp.pin jj x1 p1;obtain⟨b,b1,b2,b3⟩:=r4.own jj true c2 (zdU e8);rw[p4,hsi]at b1;cases b1
      have only:∀b,yA ρ1 σ2 b->b=a:=λb z=>by
       obtain⟨k,pp,x,k1,k2⟩:=kp.own b z;rcases qA k1 with⟨rfl,_⟩|⟨ne,k1'⟩
       ·rw[hsi]at k2;cases k2;rfl
       ·obtain⟨l,s0,l1,l2,l3⟩:=zaO k1';cases s0<;>simp[kZ]at l3
      have ch4:Chg F3 H3 a F4 H4:=⟨s4.ff,s4.fh,λb o e n ne=>s4.rest b o e n λz=>ne (only b z),b2⟩;have hd3:=g3.hh _ _ hd;have fd3:=g3.nw _ _ hd fd;obtain⟨hd4,fd4⟩:=ch4.rest dd _ hd3 fd3 hda;refine⟨acc,hd4,zfx (by omega),ds.length - (n+1),by omega,_,hlt,rfl,F4,done++[d1],l,c2,?_,b3.mono (zI.refl _) (λo e=>by rw[zV (Ne.symm hda)];exact e),ff.trans (g3.ff.trans ch4.ff),fd4,qF,(da.mono (g3.ff.trans ch4.ff)).snoc d4,by rw[List.length_append,List.length_singleton];omega,e9,by rw[e5];simp⟩;have chh:=ch3.trans ch4;exact⟨chh.ff,λb o e=>by rw[zV (qK e fd4)];exact chh.fh _ _ e,λb o e n ne=>by obtain⟨z1,z2⟩:=chh.rest b o e n ne;exact⟨by rw[zV (qK e hdH)];exact z1,z2⟩,chh.fa⟩
 ·have e:n=ds.length:=by omega
  subst e;rw[List.drop_length]at e4;have e4:some ([],c)=some (left,c9):=e4;cases e4
  rw[List.append_nil]at e5;subst e5;have x:zI F2 (xN F2 H2 dd):=zaX fd;have chf:Chg F H a (xN F2 H2 dd) H2:=⟨ch.ff.trans x,zcI ch.fh,λb o e n ne=>by obtain⟨z1,z2⟩:=ch.rest b o e n ne;exact⟨z1,by rw[zbQ (qK e hdH)];exact z2⟩,by rw[zbQ (Ne.symm hda)];exact ch.fa⟩
  obtain⟨rf,sf⟩:=r.chg e1 hσ chf (own2.mono x λo e=>e);exact .inl ⟨o3,q _ _ _ rf sf (Own.freeze (d:=.lst rs) ⟨acc,hd,da⟩ fd (Own.fl (K:=K) (F:=F2) (l:=rs) ⟨acc,hd,da⟩))⟩
theorem zmP(i jj:Nat)(N:List Str)(cap:ON)(cp:Cap X scope N cap)(hc:X.calm=true)(hi:FI K X tg zM fi)(hg:∀C s0 H0 fp,FG K (qR X N scope (qD X.env scope.names []) C s0 H0 fp) tg g)(he:∀C s0 H0 fp,FX K (qR X N scope (qD X.env scope.names []) C s0 H0 fp) elt m)(hcap:cap[jj]?=some (some i):=by rfl)(hol:(List.range cap.length).all (λk=>cap[k]? !=some (some i)||k==jj)=true:=by rfl)(S:kF X scope:=by exact kF.mk')(hs:∀x,foldedSetIterable zM X.env x=pure x:=by intro _;rfl)(hK:X.K=K:=by rfl):
  FX K X (.ListComp elt [⟨tg,zM,[],0⟩] scope pos) (vA i jj cap fi g m):=FX.mk λρ d ρ' hf=>by
 subst hK;have ho:∀k,cap[k]?=some (some i)->k=jj:=λk hk=>by have h:=List.all_eq_true.mp hol k (List.mem_range.mpr (List.getElem?_eq_some_iff.mp hk).1);simpa[hk]using h
 unfold vA at hf;split at hf
 ·rename_i p c0 ds e1 e2;split at hf
  ·rename_i hn;cases e3:vB g m (qQ cap ρ) jj c0 ds with
   |none=>rw[e3]at hf;cases hf
   |some rr=>
    obtain⟨rs,c9⟩:=rr;rw[e3]at hf;cases hf
    refine PE.imp (zjk N cap cp hc (hi.h ρ ds e2) (λC s0 H0 fp=>PG.any λi:{q:En×D×En//g q.2.1 q.1=some q.2.2}=>(hg C s0 H0 fp).h _ _ _ i.2) (λC s0 H0 fp=>zje)
     (λC s0 H0 fp=>PE.any λi:{q:En×D×En//m q.1=some q.2}=>(he C s0 H0 fp).h _ _ _ i.2) S hs) λσ H Q ⟨F,r,q⟩=>?_
    exact⟨F,r,λJ F1 H1 g1 ok=>zme hcap ho e1 e3 hn r q g1 ok⟩
  ·cases hf
 ·cases hf
end
end FL
namespace HT
section
variable{prog:Program}{w:World}{A:Around}{E:VS}{s:Shared}
end
end HT
namespace PySem.F
end PySem.F
namespace HT
end HT
namespace L2
section
variable{X:Cx}{pins:AO}{σ:St}{H:Hp}{s:Shared}{h':Heap}{ch:List Addr}
theorem Inv.turnedL{t':Nat}(I:Inv X pins σ H s)(hf:∀b∈ch,jT X pins H b)(k:∀b o,b∉ch->s.heap.get? b=some o->h'.get? b=some o):Inv X pins σ H {s with heap:=h',toks:=t'}:=by
 have nch:∀b u,H b=some u->b∉ch:=λb u e z=>by rw[(hf b z).1]at e;cases e
 refine I.step (g':=s.gens) (d':=s.drawn) (ch:=ch) (λb hb=>?_) (λb o _ _ hc e _=>k b o hc e) (λb o _ _ hc e _=>⟨o.slots,k b o hc e⟩) (λ_ _ _ _ n=>n)
  (λb o hc e=>⟨o,k b o hc e⟩) (λ_ _ e=>e) (λ_ _ _ e=>e) (λb ps e=>⟨#[],by rw[e];simp⟩) (λm hm=>?_) (λb u e=>?_) I.bare
 ·obtain⟨f0,f1,f2,f3,f4,f5⟩:=hf b hb;exact⟨f3,f1,f4,f5⟩
 ·obtain⟨o,es,ep,ho,r⟩:=hm;exact⟨o,es,ep,k _ o (λz=>(hf _ z).2.1 rfl) ho,r⟩
 ·refine(I.hok b u e).stay (λc v hc q=>k c v ?_ q) (λ_ q=>q) λ_ _ q=>q
  rcases hc with z|z
  ·rw[z];exact nch b u e
  ·exact nch c _ z
end
section
variable{X:Cx}{pins:AO}{σ:St}
end
end L2
namespace HT
end HT
namespace L2
section
variable{X:Cx}{pins:AO}{σ:St}
end
section
variable{X:Cx}
end
end L2
namespace FL
open L2
section
variable{K:Fg}{X:Cx}{pos:Pos}
noncomputable def cRv(f:EO D):EO (List D):=λρ=>match f ρ with
 |some (.lst l)=>some l.reverse
 |_=>none
noncomputable def yD(i:Nat)(fk fe:EO D):EO Fl:=λρ=>match ρ[i]?,fe ρ,fk ρ with
 |some (some (.ow pp (.lst l))),some d,some (.int k)=>(ixN l.length k).map λj=>.nx (ρ.set i (some (.ow pp (.lst (l.set j d)))))
 |_,_,_=>none
theorem sput{md:Md}(i:Nat){x:Str}{p p2:Pos}{ke e:Expr}{fk fe:EO D}(he:FP K .fz X e fe)(hk:FP K .fz X ke fk)(hN:X.N[i]?=some x:=by rfl)(hv:Vis X.env.scope x:=by first|exact Or.inl rfl|exact Or.inr (Or.inl rfl)|exact Or.inr (Or.inr rfl))(hd:(x==("__debug__":Str))=false:=by decide)(hcd:(x==("__classdict__":Str))=false:=by decide)(H1:∀{to ti:TE}{t:TSet},PE X (.Name x p) to->PE X ke ti->PSet X t->PG X (.Subscript (.Name x p) ke p2) (gSub to ti t):=by exact λa b c=>zoP a b c)(hs:swapsWithSole [.Subscript (.Name x p) ke p2] e pos.line X.env=pure false:=by rfl)(hw:swappedStores [.Subscript (.Name x p) ke p2] e X.env=pure none:=by rfl)(h1:(assignEach [.Subscript (.Name x p) ke p2] X.env).map (·.2)=[assign (.Subscript (.Name x p) ke p2) X.env]:=by rfl)(hK:X.K=K:=by rfl):
  FS K md X (.Assign [.Subscript (.Name x p) ke p2] e pos) (yD i fk fe):=FS.mk λρ fl hf=>by
 subst hK;unfold yD at hf;split at hf
 ·rename_i pp l d k e1 e2 e3;cases e4:ixN l.length k with
  |none=>rw[e4]at hf;cases hf
  |some j=>
   rw[e4]at hf;cases hf
   refine PS.imp (zjb (he.h ρ d e2) (H1 (yE hN hv hd hcd) (hk.h ρ _ e3) zkS) hs hw h1) λD σ H h_=>?_
   obtain⟨F,r,q⟩:=h_;obtain⟨a,h1,h2,h3⟩:=r.own i pp _ e1;refine⟨F,r,λv F1 H1 g1 r1=>⟨_,h1,F1,r.grow g1,λu F2 H2 g2 r2=>?_⟩⟩;have rg:=(r.grow g1).grow g2;obtain⟨a',h1',h2',vs,h3',h4'⟩:=rg.own i pp _ e1;rw[h1]at h1';cases h1'
   have ev:=Dat.int_inv (K:=X.K) (F:=F2) r2;subst ev;refine⟨a,vs,k,j,rfl,rfl,h3',by rw[h4'.length];exact e4,?_⟩;obtain⟨m1,m2⟩:=rg.mut (i:=i) (o:=.lst (vs.set j v)) (d':=.lst (l.set j d)) e1 h1 ⟨_,qF,h4'.set j (Dat.mono g2.ff r1)⟩;exact q σ _ _ m1 ((g1.trans g2).step.trans m2 r.sub)
 ·cases hf
end
end FL
namespace L2
variable{u:Value}
section
variable{κ:Type}[DecidableEq κ]
noncomputable def yW(kvs:List (κ×V))(k:κ):Option V:=(kvs.find? λkv=>decide (kv.1=k)).map (·.2)
def xW(kvs:List (κ×V))(k:κ)(v:V):List (κ×V):=
 if(kvs.any λkv=>decide (kv.1=k))=true then kvs.map (λkv=>if kv.1=k then(kv.1,v)else kv)else kvs++[(k,v)]
theorem zgR{p:κ×V}{r:List (κ×V)}{k:κ}(e:p.1=k):yW (p::r) k=some p.2:=by simp[yW,List.find?_cons,e]
theorem zgS{p:κ×V}{r:List (κ×V)}{k:κ}(e:¬p.1=k):yW (p::r) k=yW r k:=by simp[yW,List.find?_cons,e]
theorem zgr(kvs:List (κ×V))(k:κ)(v:V):(xW kvs k v).length<=kvs.length+1:=by
 unfold xW;split
 ·rw[List.length_map];omega
 ·rw[List.length_append,List.length_cons,List.length_nil];omega
theorem KV.val{kvs:List (κ×V)}{vs:List (κ×Value)}(r:KV kvs vs)(k:κ):RelO (yW kvs k) (valueAt vs k):=by
 unfold KV at r;induction r with
 |nil=>exact True.intro
 |@cons p q ps qs h t ih=>
  obtain⟨h1,h2⟩:=h;by_cases e:p.1=k
  ·have e':q.1=k:=h1.symm.trans e;have b:valueAt (q::qs) k=some q.2:=by simp[valueAt,List.find?_cons,e']
   rw[zgR e,b];exact h2
  ·have e':¬q.1=k:=λz=>e (h1.trans z)
   have b:valueAt (q::qs) k=valueAt qs k:=by simp[valueAt,List.find?_cons,e']
   rw[zgS e,b];exact ih
theorem KV.any{kvs:List (κ×V)}{vs:List (κ×Value)}(r:KV kvs vs)(k:κ):(kvs.any λkv=>decide (kv.1=k))=vs.any λkv=>decide (kv.1=k):=by
 unfold KV at r;induction r with
 |nil=>rfl
 |cons h t ih=>rw[List.any_cons,List.any_cons,ih,h.1]
theorem KV.repl{kvs:List (κ×V)}{vs:List (κ×Value)}(r:KV kvs vs)(k:κ){y:V}(ry:zQ y u):
  KV (kvs.map λkv=>if kv.1=k then(kv.1,y)else kv) (vs.map λkv=>if kv.1=k then(kv.1,u)else kv):=by
 unfold KV at r ⊢;induction r with
 |nil=>exact .nil
 |@cons p q ps qs h t ih=>
  rw[List.map_cons,List.map_cons];refine .cons ?_ ih;obtain⟨h1,h2⟩:=h;by_cases e:p.1=k
  ·rw[if_pos e,if_pos (h1.symm.trans e)];exact⟨h1,ry⟩
  ·rw[if_neg e,if_neg λz=>e (h1.trans z)];exact⟨h1,h2⟩
theorem KV.put{kvs:List (κ×V)}{vs:List (κ×Value)}(r:KV kvs vs)(k:κ){y:V}(ry:zQ y u):KV (xW kvs k y) (stored vs k u):=by
 unfold xW stored;rw[r.any k];by_cases e:(vs.any λkv=>decide (kv.1=k))=true
 ·rw[if_pos e,if_pos e];exact r.repl k ry
 ·rw[if_neg e,if_neg e];exact Paired.snoc r ⟨rfl,ry⟩
theorem KV.length{kvs:List (κ×V)}{vs:List (κ×Value)}(r:KV kvs vs):kvs.length=vs.length:=Paired.length r
end
variable{P:Program}{w:World}
theorem zpx{k:Key}(r:zQ (kV k) u):(xA P w).is k u=true:=by
 cases k with
 |inl i=>obtain⟨t,e⟩:=(show∃t,u=Value.int i t from r);subst e;exact zgl P w i t
 |inr x=>obtain⟨t,e⟩:=(show∃t,u=Value.str x t from r);subst e;exact zgk P w x t
theorem zfA:∀{ks:List Key}{us:List Value},zL (ks.map kV) us->ItemsAre (xA P w) ks us
 |[],_,r=>by rw[List.map_nil]at r;cases r;exact .nil
 |k::ks,_,r=>by
  rw[List.map_cons]at r;cases r with
  |cons h t=>exact .cons (zpx h) (zfA t)
abbrev KT(H:Hp):List (List Key×V)->List (List Key×Addr×Value)->Prop:=Paired λp q=>p.1=q.1/\H q.2.1=some (.tup (p.1.map kV))/\zQ p.2 q.2.2
variable{kvs:List (Key×V)}
section
variable{P:Program}{w:World}{H:Hp}{h:Heap}{a:Addr}
theorem zoB{u:HO}(ok:HOk P w H h)(e:Rd H a u):qZ P w H h a u:=e.ok ok
theorem zpY(ok:HOk P w H h)(e:Rd H a (.dK kvs)):kvs.length<=sizeLine/\(a==sysModules)=false/\∃vs,KV kvs vs/\h.DictOf (xA P w) a vs:=
 show qZ P w H h a (.dK kvs)from zoB ok e
theorem zrk(ok:HOk P w H h)(e:H a=some (.dK kvs)):kvs.length<=sizeLine/\(a==sysModules)=false/\∃vs,KV kvs vs/\h.DictOf (xA P w) a vs:=zpY ok (.inl e)
theorem zpu{ks:List Key}(ok:HOk P w H h)(e:H a=some (.tup (ks.map kV))):(tupleKind (xA P w)).is h ks a:=by obtain⟨_,its,r,o,h1,h2,n,h3⟩:=(show qZ P w H h a (.tup (ks.map kV))from ok a _ e);exact⟨o,its.toArray,n,h1,h2,h3,by simpa using zfA r⟩
theorem zrj{kvs:List (List Key×V)}(ok:HOk P w H h)(e:Rd H a (.dT kvs)):kvs.length<=sizeLine/\(a==sysModules)=false/\
  ∃xs,KT H kvs xs/\h.DictOfH (tupleKind (xA P w)) a xs:=by
 obtain⟨z,y,xs,r,o,es,ep,h1,h2,h3,h4,h5⟩:=(show qZ P w H h a (.dT kvs)from zoB ok e);refine⟨z,y,xs,r,o,es,ep,h1,h2,h3,h4,λx hx=>?_,h5⟩;have all:∀{l:List (List Key×V)}{m:List (List Key×Addr×Value)},KT H l m->∀x∈m,(tupleKind (xA P w)).is h x.1 x.2.1:=by
  intro l m q;induction q with
  |nil=>intro x hx;exact nomatch hx
  |@cons p q ps qs hq t ih=>
   intro x hx;rcases List.mem_cons.mp hx with e|hx
   ·subst e;exact zpu ok (by rw[←hq.1];exact hq.2.1)
   ·exact ih x hx
 exact all r x hx
end
variable{h':Heap}
section
variable{X:Cx}{pins:AO}{σ:St}{H:Hp}{s:Shared}{a:Addr}{y v:V}{u r:Value}{o:Option V}{A:Around}{E:VS}
theorem Inv.big(I:Inv X pins σ H s):sysModules<s.heap.objs.size:=by have h:mainGlobals<s.heap.objs.size:=(I.mod.glob.keeps I.bk).lt;exact Nat.lt_trans (by decide) h
theorem znR{t':Nat}{ob:HO}(I:Inv X pins σ H s)(mu:Mut (H a))(hs:Heap.SameBut a s.heap h')(he:∃q,h'.get? a=some q)(new:qZ X.prog X.w (upd H a ob) h' a ob):
  Inv X pins σ (upd H a ob) {s with heap:=h',toks:=t'}:=
 I.write (x:=a) (e:=a) mu (.inl rfl) (λb q hb z=>(hs.2 b hb).trans z) he new
theorem zpZ{H':Hp}{vs:List (Key×Value)}(z:kvs.length<=sizeLine)(hd:(a==sysModules)=false)(rel:KV kvs vs)(dd:h'.DictOf (xA P w) a vs):
  qZ P w H' h' a (.dK kvs):=⟨z,hd,vs,rel,dd⟩
end
section
variable{X:Cx}{pins:AO}{σ:St}{H:Hp}{s:Shared}{a:Addr}{kvs:List (Key×V)}{k:Key}{u:Value}{A:Around}{E:VS}
end
section
variable{X:Cx}{o i e value:Expr}{pos pos' tpos:Pos}{td ty tv:TE}
end
variable{H:Hp}
theorem zlX(h:Heap)(hb:sysModules<h.objs.size):qZ P w H (h.push {cls:=.type "dict",data:=.dict #[]}) h.objs.size (.dK []):=
 ⟨Nat.zero_le _,beq_eq_false_iff_ne.mpr (Ne.symm (Nat.ne_of_lt hb)),[],.nil,Heap.DictOf.new h⟩
def zon:TE:=λ_ H Q=>∀p,H p=none->Q (.ref p) (upd H p (.dK []))
section
variable{X:Cx}{pos:Pos}
theorem zlh:PE X (.Dict [] [] pos) zon:=λpins s σ H Q I h=>
 wpAny_Dict_empty ⟨.ref s.heap.objs.size,_,I.laid (a:=s.heap.objs.size) (o:=.dK []) (t':=s.toks) (λ_ _ q=>Heap.get?_push_of_some _ q) (Nat.le_refl _) (zlX s.heap I.big),rfl,h _ (I.hok.fresh (Nat.le_refl _))⟩
end
structure M2(X:Cx)(o:Expr)(m:Str)(apos:Pos)(e f:Expr)(cpos:Pos):Prop where
 base:attributeBase o m X.env (eval o X.env)=eval o X.env
 few:((backTo cpos (starEach [e,f] X.env)).all (λx=>!x.1)&&(backToKw cpos (keywordEach [] X.env)).all (λx=>x.1.isSome)
  &&decide (([e,f]:List Expr).length+([]:List Keyword).length+(if([]:List Keyword).isEmpty then 0 else 1)<30))=true
 line:(apos.endLine==cpos.line)=true
 trees:backTo cpos (starEach [e,f] X.env)=[(false,eval e X.env),(false,eval f X.env)]
def IsD(H:Hp)(a:Addr):Prop:=(∃kvs,Rd H a (.dK kvs))\/∃kvs,Rd H a (.dT kvs)
theorem zpA{X:Cx}{pins:AO}{σ:St}{s:Shared}{a:Addr}(I:Inv X pins σ H s)(d:IsD H a):
  s.TypeIs (.ref a) "dict"/\(∀b,Value.ref a=.ref b->∃ob,s.heap.get? b=some ob/\ob.dict=none)/\(a==sysModules)=false:=by
 rcases d with⟨kvs,e⟩|⟨kvs,e⟩
 ·obtain⟨_,hd,vs,_,dd⟩:=zpY I.hok e;refine⟨dd.typeIs,λb q=>?_,hd⟩;cases q
  obtain⟨ob,_,_,h1,h2,_⟩:=dd;exact⟨ob,h1,h2.2.1⟩
 ·obtain⟨_,hd,xs,_,dd⟩:=zrj I.hok e;refine⟨dd.typeIs,λb q=>?_,hd⟩;cases q
  obtain⟨ob,_,_,h1,h2,_⟩:=dd;exact⟨ob,h1,h2.2.1⟩
section
variable{X:Cx}{pins:AO}{σ:St}{H:Hp}{s:Shared}{a:Addr}{y d:V}{u r:Value}{o:Option V}{A:Around}{E:VS}
end
section
variable{X:Cx}{o e f:Expr}{apos cpos:Pos}{td ty tx:TE}
end
section
variable{X:Cx}{pins:AO}{σ:St}{H:Hp}{s:Shared}{a:Addr}{kvs:List (Key×V)}{A:Around}{E:VS}
end
section
variable{X:Cx}{pins:AO}{σ:St}{H:Hp}{s:Shared}{a:Addr}{y:V}{u:Value}{A:Around}{E:VS}
end
end L2
namespace FL
open L2
noncomputable def yR:D->Option Key
 | .int i=>some (.inl i)
 | .str x=>some (.inr x)
 |_=>none
theorem zgw{a b:Key}(h:kdK a=kdK b):a=b:=by cases a<;>cases b<;>simp[kdK]at h<;>rw[h]
def kds(kvs:List (Key×V)):List KD:=kvs.map λp=>kdK p.1
noncomputable def yX(ks:List KD)(ds:List D)(k:KD):Option D:=((ks.zip ds).find? λp=>decide (p.1=k)).map (·.2)
def vL(ks:List KD)(ds:List D)(k:KD)(d:D):List KD×List D:=
 if(ks.any λx=>decide (x=k))=true then(ks,(ks.zip ds).map λp=>if p.1=k then d else p.2)else(ks++[k],ds++[d])
variable{F:Hp}{v:V}{ks:List KD}
section
variable{K:Fg}{X:Cx}{pos:Pos}
theorem zjK{d:D}{k:Key}(h:yR d=some k)(r:Dat K F d v):v=kV k:=by
 cases d<;>simp only[yR]at h<;>cases h
 ·rw[r.int_inv];rfl
 ·rw[r.str_inv];rfl
theorem zfS{F:Hp}(k:Key):∀(kvs:List (Key×V)) (ds:List D),zD K F ds (kvs.map (·.2))->(yX (kds kvs) ds (kdK k)=none/\yW kvs k=none)\/∃d v,yX (kds kvs) ds (kdK k)=some d/\yW kvs k=some v/\Dat K F d v
 |[],ds,h=>.inl ⟨by simp[yX,kds],rfl⟩
 |(a,v)::kvs,[],h=>by have:=h.nil_inv;simp at this
 |(a,v)::kvs,d::ds,h=>by
  obtain⟨v',r,e,h1,h2⟩:=h.cons_inv;simp at e;obtain⟨rfl,rfl⟩:=e;by_cases hk:a=k
  ·subst hk;exact .inr ⟨d,v,by simp[yX,kds],zgR rfl,h1⟩
  ·have hk':¬kdK a=kdK k:=λz=>hk (zgw z)
   have e1:yX (kds ((a,v)::kvs)) (d::ds) (kdK k)=yX (kds kvs) ds (kdK k):=by simp[yX,kds,List.find?_cons,hk']
   rw[e1,zgS (p:=(a,v)) hk];exact zfS k kvs ds h2
theorem zkG(k:Key):∀kvs:List (Key×V),((kds kvs).any λx=>decide (x=kdK k))=(kvs.any λkv=>decide (kv.1=k))
 |[]=>rfl
 |(a,v)::kvs=>by
  have ih:=zkG k kvs;by_cases hk:a=k
  ·subst hk;simp[kds]
  ·have hk':¬kdK a=kdK k:=λz=>hk (zgw z)
   simp only[kds,List.map_cons,List.any_cons,hk',hk,decide_false,Bool.false_or];exact ih
theorem ziY(k:Key){d:D}(hd:Dat K F d v):∀(kvs:List (Key×V)) (ds:List D),zD K F ds (kvs.map (·.2))->
  zD K F (((kds kvs).zip ds).map λp=>if p.1=kdK k then d else p.2) ((kvs.map λkv=>if kv.1=k then(kv.1,v)else kv).map (·.2))
 |[],ds,h=>by simp[kds];exact zD.nil
 |(a,u)::kvs,[],h=>by have:=h.nil_inv;simp at this
 |(a,u)::kvs,c::ds,h=>by
  obtain⟨v',r,e,h1,h2⟩:=h.cons_inv;simp at e;obtain⟨rfl,rfl⟩:=e;have ih:=ziY k hd kvs ds h2;simp only[kds,List.map_cons,List.zip_cons_cons];by_cases hk:a=k
  ·subst hk;rw[if_pos rfl,if_pos rfl];exact zD.cons hd ih
  ·have hk':¬kdK a=kdK k:=λz=>hk (zgw z)
   rw[if_neg hk',if_neg hk];exact zD.cons h1 ih
theorem zne{F:Hp}(k:Key){d:D}(hd:Dat K F d v)(kvs:List (Key×V))(ds:List D)(h:zD K F ds (kvs.map (·.2))):
  (vL (kds kvs) ds (kdK k) d).1=kds (xW kvs k v)/\zD K F (vL (kds kvs) ds (kdK k) d).2 ((xW kvs k v).map (·.2)):=by
 unfold vL xW;rw[zkG];split
 ·refine⟨?_,ziY k hd kvs ds h⟩;unfold kds;rw[List.map_map];apply List.map_congr_left;intro p _;simp only[Function.comp]
  split<;>rfl
 ·exact⟨by simp[kds],by rw[List.map_append];exact h.snoc hd⟩
theorem zkn{H:Hp}{a:Addr}{vs:List V}(h:yU H a ks vs)(hk:∀l,KD.tup l∉ks):∃kvs,H a=some (.dK kvs)/\ks=kds kvs/\vs=kvs.map (·.2):=by
 rcases h with⟨kvs,h,e1,e2⟩|⟨kvs,h,⟨e1,e3⟩,e2⟩
 ·exact⟨kvs,h,e1,e2⟩
 ·cases kvs with
  |nil=>exact absurd rfl e3
  |cons p r=>exact absurd (by rw[e1];simp) (hk p.1)
def kOk(ks:List KD):Bool:=ks.all λx=>match x with
 | .tup _=>false
 |_=>true
theorem zmz(h:kOk ks=true):∀l,KD.tup l∉ks:=λl hl=>by have:=List.all_eq_true.mp h _ hl;cases this
theorem zrf:FP K .ow X (.Dict [] [] pos) (cst (.dic [] [])):=FP.mk λρ d hf=>by
 cases hf
 refine PE.imp zlh λσ H Q ⟨F,r,q⟩ p hp=>?_
 exact q _ _ _ (zF.fresh r.sub hp) ⟨p,rfl,hp,r.sub.free hp,[],.inl ⟨[],qF,rfl,rfl⟩,zD.nil⟩
noncomputable def c3(p:D->D->D->Option D)(fa fb fc:EO D):EO D:=λρ=>(fa ρ).bind λx=>(fb ρ).bind λy=>(fc ρ).bind λz=>p x y z
noncomputable def zgz(x y z:D):Option D:=match x,yR y with
 | .dic ks ds,some k=>if kOk ks=true then some ((yX ks ds (kdK k)).getD z)else none
 |_,_=>none
noncomputable def zgB:Lo2
 |[.dic ks ds]=>if kOk ks=true then some (.dic ks ds)else none
 |_=>none
noncomputable def zgd(i:Nat)(fk fe:EO D):EO Fl:=λρ=>match ρ[i]?,fe ρ,(fk ρ).bind yR with
 |some (some (.ow pp (.dic ks ds))),some d,some k=>if kOk ks=true/\ks.length<lim then some (.nx (ρ.set i (some (.ow pp (.dic (vL ks ds (kdK k) d).1 (vL ks ds (kdK k) d).2)))))else none
 |_,_,_=>none
noncomputable def frzM(i:Nat)(m:EO Fl):EO Fl:=λρ=>match ρ[i]? with
 |some (some (.ow false d))=>m (ρ.set i (some (.dat d)))
 |_=>none
end
end FL
namespace L2
def Its(x:Str):It:=⟨λi _=>i<x.cps.size,λi H v H'=>H'=H/\∃c,x.cps[i]?=some c/\v=.str ⟨#[c]⟩,λi _=>i=x.cps.size⟩
variable{w:World}
theorem zeU{prog:Program}{A:Around}(hh:A.handled=none)(I:Addr)(x:Str)(t:Tok):Walks prog w A I [I] [I] x.cps.size (SignAt x) (λi h=>h.IsStrIter I (strIterType x) x t i):=by
 unfold strIterType;split
 ·exact Walks.strAscii hh I x t
 ·exact Walks.strWide hh I x t
theorem zhK(x:Str):["enumerate","zip","dict_itemiterator","dict_reverseitemiterator","odict_iterator","itertools.zip_longest","itertools.pairwise"].contains (strIterType x)=false:=by
 unfold strIterType
 split<;>decide
variable{tg:Expr}
theorem zkO{P:Program}{K:Fg}(x:Str)(t:Tok)(it:Addr):Turn P w K tg (Its x) [it] it (λi h=>h.IsStrIter it (strIterType x) x t i)where
 mem:=by simp
 obj:=λi h st b hb=>by obtain⟨o,e,c,d⟩:=st;rw[List.mem_singleton.mp hb];exact⟨o,e,λv z=>by rw[d]at z;cases z⟩
 keep:=λi h h' st k=>let⟨o,e,r⟩:=st;⟨o,k it (by simp) o e,r⟩
 item:=by
  intro X hP hw hK hc i pins s σ H E I hf st hg;subst hP hw hK;refine(zeU (A:=X.A) (I.ok.hd hc) it x t).item i s _ _ hg st λv h' tk hP st' hk=>⟨v,rfl,?_⟩
  obtain⟨c,u,e1,e2⟩:=hP;subst e2;obtain⟨o,ho,hc',hd⟩:=id st';refine zlE ho hc' hd (zhK x) ⟨.str ⟨#[c]⟩,H,I.turnedL (ch:=[it]) hf hk,⟨u,rfl⟩,⟨rfl,c,e1,rfl⟩,st',λb hb=>(hf b hb).1⟩
 done:=by intro X hP hw hK hc i pins s σ H E I hf st hg;subst hP hw hK;have hg:i=x.cps.size:=hg;subst hg;exact(zeU (A:=X.A) (I.ok.hd hc) it x t).done s _ _ st λh' tk hk=>⟨rfl,I.turnedL (ch:=[it]) hf hk⟩
 self:=λA i s Q E st h=>by
  unfold strIterType at st;split at st
  ·exact wpAny_pyIter_striter_ascii st h
  ·exact wpAny_pyIter_striter_wide st h
def iStr(tl:TE):TI:=λσ H R=>tl σ H λv H1=>∃x,v=.str x/\R (Its x) H1
theorem zoN{X:Cx}{l:Expr}{tl:TE}(hl:PE X l tl):PI X tg l (iStr tl):=by
 intro pins s σ H R I h;refine thn (hl pins s σ H _ I h) λv s1 h_=>?_
 obtain⟨x,H1,I1,r1,q1⟩:=h_;obtain⟨x,rfl,q⟩:=q1;obtain⟨t,rfl⟩:=r1;refine wpAny_pyIter_strU ?_;refine⟨s1.heap.objs.size,[s1.heap.objs.size],_,_,H1,rfl,I1.kept (t':=s1.toks) λb o e=>Heap.get?_push_of_some _ e,zkO x t _,⟨_,Heap.get?_push_size _ rfl,rfl,rfl⟩,λb hb=>?_,q⟩;rw[List.mem_singleton.mp hb];exact I1.fpOk (Nat.le_refl _) (I1.hok.fresh (Nat.le_refl _))
end L2
namespace FL
open L2
section
variable{K:Fg}{X:Cx}{pos:Pos}
def zdK(z:Str):List D:=z.cps.toList.map λc=>D.str ⟨#[c]⟩
noncomputable def cSg(f:EO D):EO (List D):=λρ=>match f ρ with
 |some (.str z)=>some (zdK z)
 |_=>none
theorem istr{tg l:Expr}{f:EO D}(h:FP K .fz X l f):FI K X tg l (cSg f):=FI.mk λρ ds hf=>by
 unfold cSg at hf;split at hf
 ·rename_i z e1;cases hf
  refine PI.imp (zoN (h.h ρ _ e1)) λσ H R ⟨F,r,q⟩=>⟨F,r,λv F1 H1 g1 r1=>⟨z,Dat.str_inv (K:=K) (F:=F1) r1,q _ F1 H1 g1 λF2 H2 f2 h2=>?_⟩⟩
  refine⟨λi hi=>?_,λi x H3 d hd y=>?_,?_⟩
  ·have hi:i<z.cps.size:=by simpa[zdK]using hi
   exact hi
  ·obtain⟨rfl,c,e2,rfl⟩:=y
   have:d=.str ⟨#[c]⟩:=by unfold zdK at hd;rw[List.getElem?_map,Array.getElem?_toList,e2]at hd;exact(Option.some.inj hd).symm
   subst this;exact⟨F2,zF.refl h2,Dat.str (K:=K) (F:=F2) _⟩
  ·show _=_;simp[zdK]
 ·cases hf
noncomputable def zgA(y z:D):Option D:=(yR y).map λk=>.dic [kdK k] [z]
end
variable{f e:Expr}{apos cpos:Pos}
section
variable{K:Fg}{X:Cx}{pos:Pos}
noncomputable def inK(f:Bool->Bool)(y x:D):Option D:=match x,yR y with
 | .dic ks ds,some k=>if kOk ks=true then some (.bl (f (yX ks ds (kdK k)).isSome))else none
 |_,_=>none
theorem zma{pins:AO}{σ:St}{H:Hp}{s:Shared}{a:Addr}{kvs:List (Key×V)}{k:Key}{d:V}{u r:Value}{A:Around}{E:VS}{Q:VS}(I:Inv X pins σ H s)(e:H a=some (.dK kvs))(hl:kvs.length<sizeLine)(ry:zQ (kV k) u)(rr:zQ d r)(h1:∀v,yW kvs k=some v->∀w' s',Inv X pins σ H s'->zQ v w'->Q w' s')(h2:yW kvs k=none->∀s',Inv X pins σ (upd H a (.dK (xW kvs k d))) s'->Q r s'):
  wpAny (model X.prog X.w) A (call (.builtin "dict.setdefault") [.ref a,u,r]) Q E s:=by
 obtain⟨z,hd,vs,rel,dd⟩:=zrk I.hok e;refine call_meetsIn PySem.F.slot_dict_setdefault dd.typeIs PySem.F.entry_dict_setdefault (PySem.F.args_dict_setdefault_3 _ _ _) (PySem.kt_meets_setdefault (xA X.prog X.w) a (zpx ry) hd r)
  ⟨vs,dd,by rw[←rel.length];exact z,λw' hw=>?_,λhn h' dd' hs=>?_⟩
 ·have vr:=rel.val k;rw[hw]at vr;cases e2:yW kvs k with
  |none=>rw[e2]at vr;exact vr.elim
  |some v=>rw[e2]at vr;exact h1 v e2 w' _ (I.tok _) vr
 ·have vr:=rel.val k;rw[hn]at vr;cases e2:yW kvs k with
  |some v=>rw[e2]at vr;exact vr.elim
  |none=>
   have he:∃q,h'.get? a=some q:=let⟨q,_,_,hq,_⟩:=dd';⟨q,hq⟩
   have hl':(xW kvs k d).length<=sizeLine:=by have:=zgr kvs k d;omega
   exact h2 e2 _ (znR I (by rw[e];exact True.intro) hs he (zpZ hl' hd (rel.put k rr) dd'))
def tSdf(td ty tx:TE):TE:=λσ H Q=>td σ H λx H1=>∃a,x=.ref a/\IsD H1 a/\ty σ H1 λy H2=>tx σ H2 λz H3=>∃kvs k,H3 a=some (.dK kvs)/\y=kV k/\kvs.length<sizeLine/\
 (∀v,yW kvs k=some v->Q v H3)/\(yW kvs k=none->Q z (upd H3 a (.dK (xW kvs k z))))
theorem zoQ{o:Expr}{td ty tx:TE}(ho:PE X o td)(he:PE X e ty)(hf:PE X f tx)(m:M2 X o "setdefault" apos e f cpos):PE X (.Call (.Attribute o "setdefault" apos) [e,f] [] cpos) (tSdf td ty tx):=by
 intro pins s σ H Q I h;refine wpAny_Call_method m.base m.few m.line PySem.F.plainAttrs_dict PySem.F.slot_dict_setdefault PySem.F.type_dict_setdefault (thn (ho pins s σ H _ I h) λu s1 ⟨x,H1,I1,rx,a,ex,d,q1⟩=>?_);subst ex;obtain rfl:u=Value.ref a:=rx;obtain⟨t1,t2,_⟩:=zpA I1 d;refine⟨t1,t2,?_⟩;rw[m.trees];refine Calls.callWith_builtin rfl (Calls.evalArgs_plain (Calls.spliced_cons (thn (he pins s1 σ H1 _ I1 q1) λiv s2 ⟨y,H2,I2,ry,q2⟩=>
  Calls.spliced_cons (thn (hf pins s2 σ H2 _ I2 q2) λfv s3 ⟨z,H3,I3,rz,kvs,k,ea,ey,hl,q3,q4⟩=>Calls.spliced_nil ?_))))
 subst ey;exact zma I3 ea hl ry rz (λv hv w' s4 I4 rw'=>⟨v,H3,I4,rw',q3 v hv⟩) λhn s4 I4=>⟨z,_,I4,rz,q4 hn⟩
noncomputable def sdfM(i:Nat)(fe ff:EO D):EO (D×En):=λρ=>match ρ[i]?,(fe ρ).bind yR,ff ρ with
 |some (some (.ow pp (.dic ks ds))),some k,some z=>if kOk ks=true/\ks.length<lim then(match yX ks ds (kdK k)with
  |some d=>some (d,ρ)
  |none=>some (z,ρ.set i (some (.ow pp (.dic (vL ks ds (kdK k) z).1 (vL ks ds (kdK k) z).2)))))else none
 |_,_,_=>none
theorem zmN(i:Nat){x:Str}{p:Pos}{fe ff:EO D}(hu:X.A.units+100<cLine)(he:FP K .fz X e fe)(hf:FP K .fz X f ff)(hN:X.N[i]?=some x:=by rfl)(hv:Vis X.env.scope x:=by first|exact Or.inl rfl|exact Or.inr (Or.inl rfl)|exact Or.inr (Or.inr rfl))(hd:(x==("__debug__":Str))=false:=by decide)(hcd:(x==("__classdict__":Str))=false:=by decide)(m1:attributeBase (.Name x p) "setdefault" X.env (eval (.Name x p) X.env)=eval (.Name x p) X.env:=by rfl)(m2:((backTo cpos (starEach [e,f] X.env)).all (λx=>!x.1)&&(backToKw cpos (keywordEach [] X.env)).all (λx=>x.1.isSome)&&decide (([e,f]:List Expr).length+([]:List Keyword).length+(if([]:List Keyword).isEmpty then 0 else 1)<30))=true:=by rfl)(m3:(apos.endLine==cpos.line)=true:=by rfl)(m4:backTo cpos (starEach [e,f] X.env)=[(false,eval e X.env),(false,eval f X.env)]:=by rfl)(hK:X.K=K:=by rfl):
  FX K X (.Call (.Attribute (.Name x p) "setdefault" apos) [e,f] [] cpos) (sdfM i fe ff):=FX.mk λρ d ρ' hm=>by
 subst hK;unfold sdfM at hm;split at hm
 ·rename_i pp ks ds k z e1 e2 e3;obtain⟨hk,hm⟩:(kOk ks=true/\ks.length<lim)/\_:=by
   split at hm
   ·rename_i hz;exact⟨hz,hm⟩
   ·cases hm
  cases e4:fe ρ with
  |none=>rw[e4]at e2;cases e2
  |some y=>
   rw[e4]at e2;have e2:yR y=some k:=e2;refine PE.imp (zoQ (yE hN hv hd hcd) (he.h ρ y e4) (hf.h ρ z e3) ⟨m1,m2,m3,m4⟩) λσ H Q h_=>?_
   obtain⟨F,r,q⟩:=h_;obtain⟨a,h1,h2,vs0,h3,h4⟩:=r.own i pp _ e1;obtain⟨kvs0,g0,_,_⟩:=zkn h3 (zmz hk.1);refine⟨_,h1,a,rfl,.inl ⟨kvs0,.inl g0⟩,F,r,λv F1 H1 g1 r1=>⟨F1,r.grow g1,λu F2 H2 g2 r2=>?_⟩⟩;have rg:=(r.grow g1).grow g2;obtain⟨a',h1',h2',vs,h3',h4'⟩:=rg.own i pp _ e1;rw[h1]at h1';cases h1'
   obtain⟨kvs,g3,rfl,rfl⟩:=zkn h3' (zmz hk.1);have ev:=zjK (K:=X.K) e2 r1;subst ev;have hl:kvs.length<sizeLine:=by
    have:(kds kvs).length=kvs.length:=by simp[kds]
    exact zfx (by omega)
   have st:=(g1.trans g2).step (ρ:=ρ) (σ:=σ);refine⟨kvs,k,g3,rfl,hl,λv' hv'=>?_,λhn=>?_⟩
   ·rcases zfS (K:=X.K) (F:=F2) k kvs ds h4' with⟨n1,n2⟩|⟨d',w,n1,n2,n3⟩
    ·rw[n2]at hv';cases hv'
    ·rw[n2]at hv';cases hv'
     rw[n1]at hm;cases hm
     exact q _ F2 H2 rg st n3
   ·rcases zfS (K:=X.K) (F:=F2) k kvs ds h4' with⟨n1,n2⟩|⟨d',w,n1,n2,n3⟩
    ·rw[n1]at hm;cases hm
     obtain⟨m0,m00⟩:=zne (K:=X.K) (F:=F2) k r2 kvs ds h4';obtain⟨w1,w2⟩:=rg.mut (i:=i) (o:=.dK (xW kvs k u)) (d':=.dic (vL (kds kvs) ds (kdK k) d).1 (vL (kds kvs) ds (kdK k) d).2) e1 h1 ⟨_,.inl ⟨xW kvs k u,qF,m0,rfl⟩,m00⟩;exact q _ F2 _ w1 (st.trans w2 r.sub) r2
    ·rw[n2]at hn;cases hn
 ·cases hm
end
end FL
namespace L2
end L2
namespace FL
open L2
section
variable{K:Fg}{X:Cx}{pos:Pos}{tg l:Expr}{f:EO D}
end
end FL
namespace L2
section
variable{X:Cx}{pins:AO}{σ:St}{N:List Str}{cap:ON}{scope:Scope}{tg zM kx vx:Expr}{ifs:List Expr}{pos:Pos}{g:TG}{tt:TT}{tk tv:TE}
end
end L2
namespace FL
open L2
section
variable{K:Fg}{md:Md}{X:Cx}{pos:Pos}{tg zM kx vx:Expr}{ifs:List Expr}{scope:Scope}
end
end FL
namespace HT
open PySem.Calls
theorem noFill_tuple_mul:fillsNumberSlot (.type "tuple") "mul"=pure false:=
 PySem.fillsNumberSlot_seq (id:="tuple.__mul__") (r:=some (.builtin "tuple.__rmul__")) PySem.F.slot_tuple_mul.lookup (by decide+kernel) PySem.F.slot_tuple_rmul.lookup (by decide+kernel)
theorem repeat_tuple:seqRepeat? (.type "tuple")=pure (some (.builtin "tuple.__mul__")):=by unfold seqRepeat?;rw[PySem.seqSlot_of (T:="tuple") (name:="__mul__") (id:="tuple.__mul__") PySem.F.slot_tuple_mul.lookup (by decide+kernel),PySem.seqSlot_of (T:="tuple") (name:="__rmul__") (id:="tuple.__rmul__") PySem.F.slot_tuple_rmul.lookup (by decide+kernel)];rfl
theorem rmul_tuple(a:Int)(t:Tok)(l:Addr)(items:Array Value)(n:Nat)(d:Option Addr)(sl:Array (Option Value)):
  Meets (Builtin.«int.__rmul__» ⟨[.int a t,.ref l],[]⟩) (λ_ R s=>s.heap.get? l=some {cls:=.type "tuple",dict:=d,data:=.seq items n,slots:=sl}/\R (.ok (.ret Value.notImplemented)) s):=
 .of_wp λprog w A R s h=>by obtain⟨hp,g,d,tk,os⟩:=s;obtain⟨hl,h⟩:=h;wp_walk;exact⟨_,rfl,h⟩
theorem mul_one(l:Addr)(items:Array Value)(n:Nat)(d:Option Addr)(sl:Array (Option Value))(x:Int)(u:Tok)(h1:x=1):
  Meets (Builtin.«tuple.__mul__» ⟨[.ref l,.int x u],[]⟩) (λ_ R s=>s.heap.get? l=some {cls:=.type "tuple",dict:=d,data:=.seq items n,slots:=sl}/\R (.ok (.ret (.ref l))) s):=
 .of_wp λprog w A R s h=>by
  subst h1;obtain⟨hp,g,d,tk,os⟩:=s;obtain⟨hl,h⟩:=h;have f1:=PySem.AutoSeq1.idx_int
  wp_walk
  exact⟨_,rfl,h⟩
theorem mul_zero(l:Addr)(items:Array Value)(n:Nat)(d:Option Addr)(sl:Array (Option Value))(x:Int)(u:Tok)(h1:x=0)(hc:¬items.isEmpty=true):
  Meets (Builtin.«tuple.__mul__» ⟨[.ref l,.int x u],[]⟩) (λ_ R s=>s.heap.get? l=some {cls:=.type "tuple",dict:=d,data:=.seq items n,slots:=sl}/\R (.ok (.ret (.ref s.heap.objs.size))) {s with heap:=s.heap.push {cls:=.type "tuple",data:=.seq #[]}}):=
 .of_wp λprog w A R s h=>by
  subst h1;obtain⟨hp,g,d,tk,os⟩:=s;obtain⟨hl,h⟩:=h;have f1:=PySem.AutoSeq1.idx_int;have hc':items.isEmpty=false:=by simpa using hc
  wp_walk
  all_goals first|exact⟨_,rfl,h⟩|skip
theorem mul_2(l:Addr)(v:Value)(n:Nat)(d:Option Addr)(sl:Array (Option Value))(x:Int)(u:Tok)(h1:x=2):
  Meets (Builtin.«tuple.__mul__» ⟨[.ref l,.int x u],[]⟩) (λ_ R s=>s.heap.get? l=some {cls:=.type "tuple",dict:=d,data:=.seq #[v] n,slots:=sl}/\R (.ok (.ret (.ref s.heap.objs.size))) {s with heap:=s.heap.push {cls:=.type "tuple",data:=.seq #[v,v]}}):=
 .of_wp λprog w A R s h=>by
  subst h1;obtain⟨hp,g,d,tk,os⟩:=s;obtain⟨hl,h⟩:=h;have f1:=PySem.AutoSeq1.idx_int
  wp_walk
  exact⟨_,rfl,h⟩
theorem mul_3(l:Addr)(v:Value)(n:Nat)(d:Option Addr)(sl:Array (Option Value))(x:Int)(u:Tok)(h1:x=3):
  Meets (Builtin.«tuple.__mul__» ⟨[.ref l,.int x u],[]⟩) (λ_ R s=>s.heap.get? l=some {cls:=.type "tuple",dict:=d,data:=.seq #[v] n,slots:=sl}/\R (.ok (.ret (.ref s.heap.objs.size))) {s with heap:=s.heap.push {cls:=.type "tuple",data:=.seq #[v,v,v]}}):=
 .of_wp λprog w A R s h=>by
  subst h1;obtain⟨hp,g,d,tk,os⟩:=s;obtain⟨hl,h⟩:=h;have f1:=PySem.AutoSeq1.idx_int
  wp_walk
  exact⟨_,rfl,h⟩
end HT
namespace L2
section
variable{X:Cx}
def zqC(K:Fg):R2:=λx y H Q=>∃a k v,x=.ref a/\y=.int k/\SqT K H a [v]/\0<=k/\k<=3/\(k=1->Q (.ref a) H)/\(k≠1->∀p,H p=none->Q (.ref p) (upd H p (.tup (List.replicate k.toNat v))))
theorem znq:OpR X (binaryOp .Mult) (zqC X.K):=by
 intro pins s σ H x y v u Q I rx ry h;obtain⟨a,k,z,rfl,rfl,ha,h0,h3,q1,q2⟩:=h;cases rx
 obtain⟨t,rfl⟩:=ry;obtain⟨its,r1,⟨⟨cls,dd,data,sl⟩,ho,hc,n,hd⟩,_⟩:=I.tuple ha;simp only at hc hd;subst hc hd;obtain⟨w,rfl,rw'⟩:=yV r1;have new:∀ws:List Value,zL (List.replicate k.toNat z) ws->k≠1->EP X pins σ Q (.ref s.heap.objs.size) {s with heap:=s.heap.push {cls:=.type "tuple",data:=.seq ws.toArray}}:=λws rr hk=>
  ⟨.ref s.heap.objs.size,_,I.laid (t':=s.toks) (o:=.tup (List.replicate k.toNat z)) (λb ob q=>Heap.get?_push_of_some _ q) (Nat.le_refl _) ⟨by rw[List.length_replicate,sizeLine_eq];omega,_,rr,IsTup.new _ _⟩,rfl,q2 hk _ (I.hok.fresh (Nat.le_refl _))⟩
 refine wpAny_binaryOp_repeat_ref (T:="tuple") (U:="int") (by decide) ⟨_,ho,rfl⟩ (λs'=>typeIs_int s' k t) HT.noFill_tuple_mul PySem.F.fills_int_mul PySem.F.slot_int_rmul HT.repeat_tuple PySem.F.slot_int_index.lookup
  (call_meets PySem.F.slot_int_rmul (typeIs_int s k t) PySem.F.entry_int_rmul (PySem.F.args_int_rmul_2 _ _) (HT.rmul_tuple k t a #[w] n dd sl) ⟨ho,rfl,⟨_,ho,rfl⟩,?_⟩)
 rcases(by omega:k=0\/k=1\/k=2\/k=3)with e|e|e|e
 ·exact call_meets PySem.F.slot_tuple_mul ⟨_,ho,rfl⟩ PySem.F.entry_tuple_mul (PySem.F.args_tuple_mul_2 _ _) (HT.mul_zero a #[w] n dd sl k t e (by simp)) ⟨ho,new [] (by rw[e];exact .nil) (by omega)⟩
 ·exact call_meets PySem.F.slot_tuple_mul ⟨_,ho,rfl⟩ PySem.F.entry_tuple_mul (PySem.F.args_tuple_mul_2 _ _) (HT.mul_one a #[w] n dd sl k t e) ⟨ho,⟨.ref a,H,I,rfl,q1 e⟩⟩
 ·exact call_meets PySem.F.slot_tuple_mul ⟨_,ho,rfl⟩ PySem.F.entry_tuple_mul (PySem.F.args_tuple_mul_2 _ _) (HT.mul_2 a w n dd sl k t e) ⟨ho,new [w,w] (by rw[e];exact .cons rw' (.cons rw' .nil)) (by omega)⟩
 ·exact call_meets PySem.F.slot_tuple_mul ⟨_,ho,rfl⟩ PySem.F.entry_tuple_mul (PySem.F.args_tuple_mul_2 _ _) (HT.mul_3 a w n dd sl k t e) ⟨ho,new [w,w,w] (by rw[e];exact .cons rw' (.cons rw' (.cons rw' .nil))) (by omega)⟩
end
end L2
namespace FL
open L2
noncomputable def repD:D->D->Option D
 | .tup [d],.int k=>if 0<=k/\k<=3 then some (.tup (List.replicate k.toNat d))else none
 |_,_=>none
theorem zD.rep{K:Fg}{F:Hp}{d:D}{v:V}(h:Dat K F d v):∀n:Nat,zD K F (List.replicate n d) (List.replicate n v)
 |0=>zD.nil
 |n+1=>zD.cons h (zD.rep h n)
section
variable{K:Fg}{X:Cx}{md:Md}{pos:Pos}
theorem zqM(hK:X.K=K:=by rfl):Op2 K X (binaryOp .Mult) .fz repD:=by
 subst hK;refine⟨_,znq,λx y d F H v u Q e s h1 h2 k=>?_⟩;unfold repD at e;split at e
 ·rename_i d0 n;obtain⟨⟨h0,h3⟩,rfl⟩:=jD e;obtain⟨a,vs,rfl,f1,q1⟩:=h1.tup_inv;obtain⟨w,rfl,dw⟩:=q1.one;refine⟨a,n,w,rfl,h2.int_inv,SqT.of (s _ _ f1),h0,h3,λe=>?_,λe p hp=>?_⟩
  ·subst e;exact k _ F H (zF.refl s) (Dat.tup (K:=X.K) f1 (zD.cons dw zD.nil))
  ·have g:=zF.frozen (o:=.tup (List.replicate n.toNat w)) s hp;exact k _ _ _ g (Dat.tup (K:=X.K) qF (zD.rep (dw.mono g.ff) _))
 ·cases e
end
section
variable{P:Program}{w:World}{K:Fg}{mg:SV}{base:Heap}{X:Cx}{k j:Nat}{ps:List Str}{x:Str}
end
noncomputable def opX(p:D->D->Option D)(fa:EO D)(m:EO (D×En)):EO (D×En):=λρ=>(fa ρ).bind λx=>(m ρ).bind λq=>(p x q.1).map λd=>(d,q.2)
section
variable{K:Fg}{md:Md}{X:Cx}{a b e:Expr}{fa fb:EO D}{m:EO (D×En)}{p:D->D->Option D}{pos:Pos}
theorem zln{ρ:En}{d:D}{ρ':En}(h:opX p fa m ρ=some (d,ρ')):∃x y,fa ρ=some x/\m ρ=some (y,ρ')/\p x y=some d:=by
 unfold opX at h;cases e1:fa ρ with
 |none=>rw[e1]at h;cases h
 |some x=>
  cases e2:m ρ with
  |none=>rw[e1,e2]at h;cases h
  |some q=>
   obtain⟨y,ρ1⟩:=q;rw[e1,e2]at h;simp only[Option.bind_some]at h;cases e3:p x y with
   |none=>rw[e3]at h;cases h
   |some d'=>rw[e3]at h;cases h;exact⟨x,y,rfl,rfl,e3⟩
theorem xopR{op:Operator}(o:Op2 K X (binaryOp op) .fz p)(ha:FP K .fz X a fa)(hb:FX K X b m):FX K X (.BinOp a op b pos) (opX p fa m):=FX.mk λρ d ρ' hf=>by
 obtain⟨x,y,e1,e2,e3⟩:=zln hf;obtain⟨r,ho,hr⟩:=o;refine PE.imp (zoS ho (ha.h ρ x e1) (hb.h ρ y ρ' e2)) λσ H Q h_=>?_
 obtain⟨F,rl,q⟩:=h_;refine⟨F,rl,λv F1 H1 g1 r1=>⟨F1,rl.grow g1,λu F2 H2 rl2 s2 d2=>?_⟩⟩;have r1':Dat K F1 x v:=r1;refine hr x y d F2 H2 v u _ e3 rl2.sub ((r1'.mono s2.ff).b rl2.sub) (d2.b rl2.sub) λw F3 H3 g3 d3=>?_
 exact q w F3 H3 (rl2.grow g3) ((g1.step.trans s2 rl.sub).trans g3.step rl.sub) d3
end
noncomputable def rdAX(K:Fg)(ρ:En)(ds:List D)(ρ':En):TA:=λσ H Q=>∃F,Rel K F H ρ σ/\∀vs F' H',Rel K F' H' ρ' σ->qS ρ σ F H ρ' σ F' H'->zD K F' ds vs->Q vs H'
structure FXs(K:Fg)(X:Cx)(es:List Expr)(f:EO (List D×En)):Prop where
 h:∀ρ ds ρ',f ρ=some (ds,ρ')->PA X es (rdAX K ρ ds ρ')
noncomputable def wW(m:EO (D×En))(fs:EO (List D)):EO (List D×En):=λρ=>(m ρ).bind λq=>(fs q.2).map λl=>(q.1::l,q.2)
noncomputable def cLX(p:Lo2)(fs:EO (List D×En)):EO (D×En):=λρ=>(fs ρ).bind λq=>(p q.1).map λd=>(d,q.2)
section
variable{K:Fg}{X:Cx}{e:Expr}{es:List Expr}{m:EO (D×En)}{fs:EO (List D)}{gs:EO (List D×En)}{pos p:Pos}{x:Str}{ps:List Str}{k j:Nat}{mm:Lo2}
theorem zod(h1:FX K X e m)(h2:FPs K true X es fs)(hs:starEach (e::es) X.env=(false,eval e X.env)::starEach es X.env:=by rfl):FXs K X (e::es) (wW m fs):=FXs.mk λρ ds ρ' hf=>by
 unfold wW at hf;cases e1:m ρ with
 |none=>rw[e1]at hf;cases hf
 |some q=>
  obtain⟨d,ρ1⟩:=q;rw[e1]at hf;simp only[Option.bind_some]at hf;cases e2:fs ρ1 with
  |none=>rw[e2]at hf;cases hf
  |some l=>
   rw[e2]at hf;cases hf
   refine PA.imp (jF (h1.h ρ d _ e1) (h2.h _ l e2) hs) λσ H Q h_=>?_
   obtain⟨F,r,q⟩:=h_;refine⟨F,r,λv F1 H1 rl1 s1 d1=>⟨F1,rl1,λvs F2 H2 g2 r2=>?_⟩⟩;exact q (v::vs) F2 H2 (rl1.grow g2) (s1.trans g2.step r.sub) (zD.cons (d1.mono g2.ff) r2)
theorem xk(G:Fk X.prog X.w X.K X.mg X.base x ps .fz k mm)(hr:zW j X.A)(ha:FXs K X (e::es) gs)(hle:k<=j:=by first|decide|omega)(hg:Gl X x:=by rfl)(hK:X.K=K:=by rfl)(H1:∀{f:Addr}{fd:FuncData} {t:TA},jA X.prog X.w X.K X.mg X.base CX0 k f fd ps (SpD K .fz mm)->zW k X.A->Gl X x->X.mg x=some (.ref f)->PySem.W.keepIn X.K (.ref f)=true->kM X.K fd ps []->PA X (e::es) t->PE X (.Call (.Name x p) (e::es) [] pos) (ziE (SpD K .fz mm) [] E0 t):=by exact λF hr hg hm hk hb ha=>zer F hr hg hm hk hb .nil zjo ha):
  FX K X (.Call (.Name x p) (e::es) [] pos) (cLX mm gs):=FX.mk λρ d ρ' hf=>by
 subst hK;unfold cLX at hf;cases e1:gs ρ with
 |none=>rw[e1]at hf;cases hf
 |some q=>
  obtain⟨l,ρ1⟩:=q;rw[e1]at hf;simp only[Option.bind_some]at hf;cases e2:mm l with
  |none=>rw[e2]at hf;cases hf
  |some d'=>
   rw[e2]at hf;cases hf
   obtain⟨f,fd,F,hb,hk,hm⟩:=G.ex;refine PE.imp (H1 F (hr.mono hle) hg hm hk hb (ha.h ρ l _ e1)) λσ H Q ⟨F,r,q⟩=>⟨F,r,λvs F1 H1 rl1 s1 d1=>?_⟩
   refine⟨F1,l,_,rl1.sub,by rw[List.append_nil];exact d1,e2,λv F2 H2 g2 h2=>?_⟩;exact q v F2 H2 (rl1.grow g2) (s1.trans g2.step r.sub) h2
end
section
variable{K:Fg}{X:Cx}{pos:Pos}
end
end FL
namespace L2
section
variable{X:Cx}
theorem zkD(hc:X.calm=true):jX X (.builtin "all") (λxs H Q=>∃(p:Addr) (bs:List Bool),xs=[.ref p]/\SqL X.K H p (bs.map V.bl)/\Q (.bl (bs.all id)) H):=by
 intro pins s σ H xs us Q I r h;obtain⟨p,bs,rfl,hq,q⟩:=h;obtain⟨u,rfl,rx⟩:=yV r;cases rx
 obtain⟨its,r',pl,_⟩:=I.list hq;have hh:X.A.handled=none:=I.ok.hd hc;obtain⟨ol,hol,_⟩:=id pl.isList;have hll:p<s.heap.objs.size:=Heap.lt_size hol;have hlen:its.toArray.size=bs.length:=by rw[List.size_toArray,←r'.length,List.length_map]
 have hlI:p≠s.heap.objs.size:=Nat.ne_of_lt hll;have W:=Walks.list (prog:=X.prog) (w:=X.w) (A:=X.A.in1) hh s.heap.objs.size p hlI its.toArray;rw[hlen]at W;refine call_all_walk (wpAny_pyIter_list pl.isList ⟨s.heap.objs.size,_,_,bs.length,_,_,λi=>(bs[i]?).getD true,rfl,W,⟨⟨_,Heap.get?_push_size _ rfl,rfl,rfl⟩,pl.isList.at λo e=>Heap.get?_push_of_some _ e⟩,λi v s Q E hP hQ=>?_,λh' tk hk=>?_⟩)
 ·have hv:its[i]?=some v:=by simpa using hP
  have hi:i<bs.length:=by have:=(List.getElem?_eq_some_iff.mp hv).1;rw[List.size_toArray]at hlen;omega
  obtain⟨u,e1,r1⟩:=r'.get (i:=i) (x:=.bl bs[i]) (by simp[hi]);rw[hv]at e1;cases e1
  have r1:v=.bool bs[i]:=r1;subst r1;have hQ:Q ((bs[i]?).getD true) s:=hQ;rw[List.getElem?_eq_getElem hi]at hQ;exact wpAny_truthy_bool hQ
 ·refine⟨.bl (bs.all id),H,I.kept (λb o e=>hk b o (by have:b<s.heap.objs.size:=Heap.lt_size e;have n:b≠s.heap.objs.size:=Nat.ne_of_lt this;simpa using n) (Heap.get?_push_of_some _ e)),?_,q⟩
  show Value.bool _=Value.bool _
  congr 1
  rw[Bool.eq_iff_iff,List.all_eq_true,List.all_eq_true];constructor
  ·intro h x hx;obtain⟨i,hi,rfl⟩:=List.getElem_of_mem hx
   have:=h i (List.mem_range.mpr hi);simpa[hi]using this
  ·intro h i hi;have hi:=List.mem_range.mp hi;simpa[hi]using h _ (List.getElem_mem hi)
end
end L2
namespace FL
open L2
noncomputable def nC:List D->Option (List Bool)
 |[]=>some []
 | .bl b::l=>(nC l).map (b::·)
 |_::_=>none
theorem zit:∀{l:List D}{ns:List Bool},nC l=some ns->l=ns.map D.bl:=by
 intro l;induction l with
 |nil=>intro ns h;simp[nC]at h;subst h;rfl
 |cons d l ih=>
  intro ns h;cases d<;>simp only[nC]at h<;>try(cases h;done)
  cases e:nC l with
  |none=>rw[e]at h;cases h
  |some ms=>rw[e]at h;cases h;rw[ih e];rfl
theorem zfL:∀(ns:List Bool),nC (ns.map D.bl)=some ns
 |[]=>rfl
 |b::l=>by rw[List.map_cons,nC,zfL l];rfl
noncomputable def allD:Lo2
 |[.lst l]=>(nC l).map λbs=>.bl (bs.all id)
 |_=>none
section
variable{K:Fg}{F H:Hp}{X:Cx}
theorem zD.bls:∀{bs:List Bool}{vs:List V},zD K F (bs.map D.bl) vs->vs=bs.map V.bl
 |[],vs,h=>h.nil_inv
 |b::l,vs,h=>by
  obtain⟨v,r,e,h1,h2⟩:=h.cons_inv
  have:=Dat.bl_inv (K:=K) (F:=F) h1;rw[e,this,zD.bls h2];rfl
theorem zrq(hc:X.calm=true)(hK:X.K=K:=by rfl):vH K X (.builtin "all") .fz allD:=by
 subst hK;refine⟨_,zkD hc,λds d F H vs Q e s h k=>?_⟩;unfold allD at e;split at e
 ·rename_i l;cases e1:nC l with
  |none=>rw[e1]at e;cases e
  |some bs=>
   rw[e1]at e;cases e
   obtain⟨v,rfl,h1⟩:=h.one;rw[zit e1]at h1;obtain⟨a,vs,rfl,f,q⟩:=h1.lst_inv;rw[q.bls]at f;exact⟨a,bs,rfl,SqL.of f,k _ F H (zF.refl s) (Res.bl _)⟩
 ·cases e
end
end FL
namespace L2
section
variable{X:Cx}{tg zM tg2 iter2 elt:Expr}{scope:Scope}{pos:Pos}{wi:TI}{g2:TG}{te:TE}
abbrev lc2(elt tg zM tg2 iter2:Expr)(scope:Scope)(pos:Pos):Expr:=.ListComp elt [⟨tg,zM,[],0⟩,⟨tg2,iter2,[],0⟩] scope pos
noncomputable def actN(e iter2:Expr):Value->Env->Sem Unit:=λacc env=>do
 let x ←eval iter2 env
 standAt iter2.pos
 let x ←foldedSetIterable iter2 env x;let _ ←runOwn (.compStart e 1 (←holding [x] (pyIter x)) acc env) env
theorem znU:zbE X (lc2 elt tg zM tg2 iter2 scope pos) tg zM [] (newList []) (actN (lc2 elt tg zM tg2 iter2 scope pos) iter2) (.lst [])where
 new:=λpins σ H s Q E I h=>wpAny_newObj_type (h _ (I.lnew (t':=s.toks) .nil (Nat.zero_le _)))
 turn:=λit D env=>by simp only[actN,bind_assoc,pure_bind];rfl
 loop:=λA it D env Q E s h=>h
 start:=λh0 h=>codeAny_compStart_list h0 h
theorem zql(it acc:Value)(env:Env):
  compTurn (lc2 elt tg zM tg2 iter2 scope pos) 1 it acc env=(standAt iter2.pos>>=λ_=>pyNext it>>=λr=>match r with
   |none=>pure (.done .next)
   |some v=>letOwnedTupleGo tg2 it v>>=λ_=>assign tg2 env v>>=λ_=>
    (eval elt env>>=λx=>call (.builtin "list.append") [acc,x]>>=λ_=>pure ())>>=λ_=>
     again (.compLoop (lc2 elt tg zM tg2 iter2 scope pos) 1 it acc env)):=by rfl
theorem zor{prog:Program}{w:World}{A:Around}{R:Result->Shared->Prop}{s:Shared}{it acc:Value}{env:Env}(h0:codeAny (model prog w) A (.compLoop (lc2 elt tg zM tg2 iter2 scope pos) 1 it acc env) R s)(h:wpAny (model prog w) A (pyIter it) (λit' s'=>codeAny (model prog w) A (.compLoop (lc2 elt tg zM tg2 iter2 scope pos) 1 it' acc env) R s')
   (notedBy (model prog w) A env λx s'=>R (.error x) s') s):
  codeAny (model prog w) A (.compStart (lc2 elt tg zM tg2 iter2 scope pos) 1 it acc env) R s:=by
 refine codeAny_of_tree ?_;show wpAny _ _ ((compStart (lc2 elt tg zM tg2 iter2 scope pos) 1 it acc env).onRaise λx=>do noteFrame x env;standAt theWindowsPlace) _ _ s;refine wpAny_notedAt ?_;unfold compStart;show wpAny _ _ (ask>>=_) _ _ s;refine wpAny_bind (wpAny_askSetting (wpAny_ite ?_));split
 ·first
   |exact wpAny_bind (wpAny_pure (wpAny_pure (And.intro rfl h0)))
   |exact wpAny_pure (And.intro rfl h0)
 ·first
   |exact wpAny_bind (wpAny_rule (wpAny_bind (wpAny_standAt (wpAny_bind (wpAny_mono h (λit' s' h'=>wpAny_pure (And.intro rfl h')) λ_ _ x=>x)))))
   |(refine wpAny_bind (wpAny_rule ?_);show wpAny _ _ (standAt iter2.pos>>=_) _ _ s;exact wpAny_bind (wpAny_standAt (wpAny_bind (wpAny_mono h (λit' s' h'=>wpAny_pure (And.intro rfl h')) λ_ _ x=>x))))
def taN(wi:TI)(g2:TG)(te:TE)(D:Addr):nD:=λσ H Q=>wi σ H λJ H1=>∃W:Nat->Nat->St->Hp->Prop,(∃m,W 0 m σ H1)/\∀i m σ' H',W i m σ' H'->
 ((J.stop i H'/\Q H')\/(J.go i H'/\∀x H'',J.yld i H' x H''->g2 x σ' H'' λσ2 H2=>taL te D σ2 H2 λH4=>∃m',m'<m/\W (i+1) m' σ2 H4))
theorem zmo{Y:Cx}(he:PE Y elt te)(D:Addr)(pins:AO)(s:Shared)(σ:St)(H:Hp)(Q:Hp->Prop)(I:Inv Y pins σ H s)(h:taL te D σ H Q):
  wpAny (model Y.prog Y.w) Y.A (eval elt Y.env>>=λx=>call (.builtin "list.append") [.ref D,x]>>=λ_=>pure ()) (λ_ s'=>∃H',Inv Y pins σ H' s'/\Q H') Y.xe s:=by
 refine wpAny_bind (thn (he pins s σ H _ I h) λv s9 ⟨v9,H9,I9,r9,acc,hD9,hlen,q9⟩=>?_);refine wpAny_bind (thn (zdc (X:=Y) _ s9 σ H9 (.ref D) [v9] (.ref D) [v] (λz Hz=>z=.non/\Hz=upd H9 D (.lst (acc++[v9]))) I9 rfl (.cons r9 .nil) ⟨D,acc,v9,rfl,rfl,hD9,hlen,rfl,rfl⟩) λ_ s10 h10=>?_);obtain⟨_,H10,I10,_,_,e10⟩:=h10;subst e10;exact wpAny_pure ⟨_,I10,q9⟩
theorem zjp{Y:Cx}(hxe:∀e s,¬Y.xe e s)(hc:Y.calm=true)(hi:PI Y tg2 iter2 wi)(hg:PG Y tg2 g2)(he:PE Y elt te)(hs:∀x,foldedSetIterable iter2 Y.env x=pure x)(D:Addr):
  PAct Y (actN (lc2 elt tg zM tg2 iter2 scope pos) iter2) D (taN wi g2 te D):=by
 intro pins s σ H Q I h;unfold actN;refine wpAny_bind (thn (hi pins s σ H _ I h) λv s1 h1=>?_);refine wpAny_bind (wpAny_standAt ?_);rw[hs];refine wpAny_bind (wpAny_pure ?_);refine wpAny_bind (wpAny_holding (thn h1 λitv s2 h2=>?_));obtain⟨it,fp,tn,J,H2,e,I2,T,st2,f2,W,⟨m0,w0⟩,turn⟩:=h2;subst e;refine wpAny_bind (wpAny_runOwn ?_);have stat:∀{H':Hp},(∀b∈fp,H' b=none)->∀b∈fp,jT Y pins H' b:=λhn b hb=>⟨hn b hb,(f2 b hb).2⟩
 have lp:∀{R:Result->Shared->Prop},(∀σ' H' s',Inv Y pins σ' H' s'->Q H'->R (.ok .next) s')->codeAny (model Y.prog Y.w) Y.A (.compLoop (lc2 elt tg zM tg2 iter2 scope pos) 1 (.ref it) (.ref D) Y.env) R s2:=by
  intro R hR;refine codeAny_loop rfl (λn s'=>∃i σ' H',Inv Y pins σ' H' s'/\tn i s'.heap/\(∀b∈fp,H' b=none)/\W i n σ' H') ?_ m0 ⟨0,σ,H2,I2,st2,λb hb=>(f2 b hb).1,w0⟩;rintro n s3 ⟨i,σ3,H3,I3,st3,fr3,w3⟩;show wpAny _ Y.A ((compTurn (lc2 elt tg zM tg2 iter2 scope pos) 1 (.ref it) (.ref D) Y.env).onRaise λx=>do noteFrame x Y.env;theTreesLotGoes x) _ _ s3;refine wpAny_noted ?_;rw[zql];refine wpAny_bind (wpAny_standAt (wpAny_bind ?_));rcases turn i n σ3 H3 w3 with⟨stop,qn⟩|⟨go,step⟩
  ·refine wpAny_mono (T.done Y rfl rfl rfl hc i pins s3 σ3 H3 Y.xe I3 (stat fr3) st3 stop) (λr s4 h4=>?_) λe s' z=>absurd z (hxe e s')
   obtain⟨hr,I4⟩:=h4;subst hr;exact wpAny_pure (hR σ3 H3 s4 I4 qn)
  ·refine wpAny_mono (T.item Y rfl rfl rfl hc i pins s3 σ3 H3 Y.xe I3 (stat fr3) st3 go) (λr s4 h4=>?_) λe s' z=>absurd z (hxe e s')
   obtain⟨u,hr,h4⟩:=h4;subst hr;refine wpAny_bind (wpAny_mono h4 (λ_ s5 h5=>?_) λe s' z=>absurd z (hxe e s'));obtain⟨x,H5,I5,r5,y5,st5,fr5⟩:=h5;have I5':=I5.pinned (stat fr5) (T.obj _ _ st5);refine wpAny_bind (wpAny_mono (hg _ s5 σ3 H5 x u _ I5' r5 (step x H5 y5)) (λ_ s6 h6=>?_) λe s' z=>absurd z (hxe e s'));obtain⟨σ6,H6,I6,q6⟩:=h6;refine wpAny_bind (wpAny_mono (zmo he D _ s6 σ6 H6 _ I6 q6) (λ_ s7 h7=>?_) λe s' z=>absurd z (hxe e s'));obtain⟨H7,I7,m',hm,w7⟩:=h7;refine wpAny_pure ⟨rfl,m',hm,i+1,σ6,H7,I7.unpinned,T.keep _ _ _ st5 λb hb o e=>(I7.pin (b,o) (List.mem_append_right _ (List.mem_append_right _ (zaw hb e)))).1,λb hb=>?_,w7⟩;obtain⟨o,e,d⟩:=T.obj _ _ st5 b hb;exact(I7.pin (b,o) (List.mem_append_right _ (List.mem_append_right _ (zaw hb e)))).2.1
 have fin:∀σ' H' s',Inv Y pins σ' H' s'->Q H'->wpAny (model Y.prog Y.w) Y.A (pure ()) (λ_ s'=>∃σ' H',Inv Y pins σ' H' s'/\Q H') Y.xe s':=λσ' H' s' I' q'=>wpAny_pure ⟨σ',H',I',q'⟩
 exact zor (lp fin) (T.self Y.A 0 _ _ _ st2 (lp fin))
variable{pins:AO}{σ:St}{N:List Str}{cap:ON}{ifs:List Expr}{g:TG}{tt:TT}
theorem zjj{e:Expr}{newAcc:Sem Value}{act:Value->Env->Sem Unit}{ho:HO}{ta:Addr->nD}{wi:TI}{gs:List Comprehension}(ck:zbE X e tg zM ifs newAcc act ho)(N:List Str)(cap:ON)(cp:Cap X scope N cap)(hc:X.calm=true)(hi:PI X tg zM wi)(hg:∀C s0 H0 fp,PG (qR X N scope (qD X.env scope.names []) C s0 H0 fp) tg g)(ht:∀C s0 H0 fp,PIf (qR X N scope (qD X.env scope.names []) C s0 H0 fp) ifs tt)(he:∀C s0 H0 fp D,PAct (qR X N scope (qD X.env scope.names []) C s0 H0 fp) act D (ta D))(S:kF X scope)(hs:∀x,foldedSetIterable zM X.env x=pure x)(hcl:clausesOf e=⟨tg,zM,ifs,0⟩::gs){p:Pos}(hev:eval e X.env=comprehension e scope X.env p newAcc false (eval zM X.env)):
  PE X e (zgU wi g tt ta ho cap):=by
 intro pins s σ H Q I h;rw[hev];refine wpAny_comprehension_free (use:=none) hcl hs (zct (S.cellsOf I.ok)) S.kind S.names (thn (hi pins s σ H _ I h) λv s1 h1=>thn h1 λitv s2 h2=>?_);obtain⟨it,fp,tn,J,H2,e,I2,T,st2,f2,hw⟩:=h2;subst e;refine zdt (RR:=λacc C=>compPost (model X.prog X.w) X.A X.xe none (EP X pins σ Q) acc C) ck hc S cp hg ht he I2 T st2 f2 hw ?_;intro D C H' s' m' I' ns fC c1 c2 c3 c4 q;exact⟨m',ns,λh' hs'=>⟨.ref D,H',I'.turned (t':=s'.toks) (λb o hb e=>(hs'.2 b hb).trans e) fC c1 (.inr c2) c3 c4,rfl,q⟩⟩
end
end L2
namespace FL
open L2
noncomputable def gZ(ρ:En):Bool:=ρ.all λs=>match s with
 |none=>true
 |some (.dat _)=>true
 |_=>false
variable{ρ:En}
theorem zeH(h:gZ ρ=true){i:Nat}{s:Sl}(e:ρ[i]?=some (some s)):∃d,s=.dat d:=by
 have:=List.all_eq_true.mp h _ (List.mem_of_getElem? e);cases s with
 |dat d=>exact⟨d,rfl⟩
 |ow p d=>cases this
 |bor d=>cases this
variable{F H:Hp}{σ:St}
theorem Rel.dats{K:Fg}{F' H':Hp}(r:Rel K F H ρ σ)(h:gZ ρ=true)(f:zI F F')(g:zI F' H'):Rel K F' H' ρ σ:=by
 refine⟨g,λi d e=>?_,λi d e=>?_,λi p d e=>?_,λi j p d s a ne e1=>?_,r.len⟩
 ·obtain⟨v,h1,h2⟩:=r.dat i d e;exact⟨v,h1,h2.mono f⟩
 ·obtain⟨d',z⟩:=zeH h e;cases z
 ·obtain⟨d',z⟩:=zeH h e;cases z
 ·obtain⟨d',z⟩:=zeH h e1;cases z
noncomputable def nP(g2:D->EO En)(f:EO D):List D->EO (List D)
 |[],_=>some []
 |y::ys,ρ=>(g2 y ρ).bind λρ'=>if gZ ρ'=true then(f ρ').bind λd=>(nP g2 f ys ρ').map λl=>d::l else none
noncomputable def vM(g:D->EO En)(fi2:EO (List D))(g2:D->EO En)(f:EO D)(ρi:En):List D->Option (List D)
 |[]=>some []
 |x::xs=>(g x ρi).bind λρ1=>if gZ ρ1=true then(fi2 ρ1).bind λys=>(nP g2 f ys ρ1).bind λl=>(vM g fi2 g2 f ρi xs).map λr=>l++r else none
noncomputable def zfH(cap:ON)(fi:EO (List D))(g:D->EO En)(fi2:EO (List D))(g2:D->EO En)(f:EO D):EO D:=λρ=>(fi ρ).bind λds=>(vM g fi2 g2 f (qQ cap ρ) ds).bind λrs=>if rs.length<=lim then some (.lst rs)else none
variable{cap:ON}{fi fi2:EO (List D)}{g g2:D->EO En}{f:EO D}
theorem zgD{d:D}(h:zfH cap fi g fi2 g2 f ρ=some d):∃ds rs,fi ρ=some ds/\vM g fi2 g2 f (qQ cap ρ) ds=some rs/\rs.length<=lim/\d=.lst rs:=by
 unfold zfH at h;cases e1:fi ρ with
 |none=>rw[e1]at h;cases h
 |some ds=>
  rw[e1]at h;simp only[Option.bind_some]at h;cases e2:vM g fi2 g2 f (qQ cap ρ) ds with
  |none=>rw[e2]at h;cases h
  |some rs=>
   rw[e2]at h;simp only[Option.bind_some]at h;obtain⟨hz,rfl⟩:=jD h;exact⟨ds,rs,rfl,e2,hz,rfl⟩
theorem PI.any{X:Cx}{tg zM:Expr}{ι:Type}{t:ι->TI}(h:∀i,PI X tg zM (t i)):PI X tg zM (λσ H R=>∃i,t i σ H R):=λpins s σ H R I ⟨i,ht⟩=>h i pins s σ H R I ht
variable{rs:List D}
section
variable{K:Fg}{md:Md}{X:Cx}{pos:Pos}{tg zM tg2 iter2 elt:Expr}{scope:Scope}
abbrev anyG(K:Fg)(g:D->EO En):TG:=λv σ H Q=>∃i:{q:En×D×En//g q.2.1 q.1=some q.2.2},rdG K i.1.1 i.1.2.1 i.1.2.2 v σ H Q
abbrev anyE(K:Fg)(f:EO D):TE:=λσ H Q=>∃i:{q:En×D//f q.1=some q.2},rdE K .fz i.1.1 i.1.2 σ H Q
abbrev anyI(K:Fg)(f:EO (List D)):TI:=λσ H R=>∃i:{q:En×List D//f q.1=some q.2},rdI K i.1.1 i.1.2 σ H R
theorem zpC{ρ1:En}{ys l done rest:List D}{a:Addr}{acc:List V}{Q:Hp->Prop}(hi:fi2 ρ1=some ys)(hm:nP g2 f ys ρ1=some l)(r:Rel K F H ρ1 σ)(hd:gZ ρ1=true)(fa:F a=none)(ha:H a=some (.lst acc))(da:zD K F done acc)(hrs:rs=done++(l++rest))(hz:rs.length<=lim)(q:∀F' H' acc',zI F F'->(∀b o,b≠a->H b=some o->H' b=some o)->zI F' H'->(∀b o,H b=some o->F b=none->F' b=none)->F' a=none->H' a=some (.lst acc')->zD K F' (done++l) acc'->Q H'):
  taN (anyI K fi2) (anyG K g2) (anyE K f) a σ H Q:=by
 refine⟨⟨(ρ1,ys),hi⟩,F,r,λJ F1 H1 g1 ok=>?_⟩;refine⟨λi m σ' H'=>i<=ys.length/\m=ys.length - i/\∃F' ρ' acc' dn left,Rel K F' H' ρ' σ'/\gZ ρ'=true/\zI F1 F'/\(∀b o,b≠a->H1 b=some o->H' b=some o)/\(∀b o,H1 b=some o->F1 b=none->F' b=none)/\F' a=none/\H' a=some (.lst acc')/\zD K F' (done++dn) acc'/\nP g2 f (ys.drop i) ρ'=some left/\l=dn++left,
  ⟨ys.length,Nat.zero_le _,rfl,F1,ρ1,acc,[],l,r.grow g1,hd,zI.refl _,λb o _ e=>e,λb o _ e=>e,g1.nw a _ ha fa,g1.hh _ _ ha,by rw[List.append_nil];exact da.mono g1.ff,by rw[List.drop_zero];exact hm,rfl⟩,?_⟩
 rintro i m σ' H' ⟨hi',rfl,F',ρ',acc',dn,left,r',hd',ff,hh,nw,fa',ha',da',e1,e2⟩;obtain⟨o1,o2,o3⟩:=ok F' H' ff r'.sub;by_cases hlt:i<ys.length
 ·refine .inr ⟨o1 i hlt,λx H3 y=>?_⟩;obtain⟨F3,g3,d3⟩:=o2 i x H3 _ (List.getElem?_eq_getElem hlt) y;rw[List.drop_eq_getElem_cons hlt]at e1;simp only[nP]at e1;cases e3:g2 ys[i] ρ' with
  |none=>rw[e3]at e1;cases e1
  |some ρ2=>
   simp only[e3,Option.bind_some]at e1;obtain⟨hd2,e1⟩:gZ ρ2=true/\_:=by
    split at e1
    ·rename_i hz;exact⟨hz,e1⟩
    ·cases e1
   refine⟨⟨(ρ',ys[i],ρ2),e3⟩,F3,r'.grow g3,d3,λσ2 r2 _=>?_⟩;cases e5:f ρ2 with
   |none=>rw[e5]at e1;cases e1
   |some d=>
    simp only[e5,Option.bind_some]at e1;cases e6:nP g2 f (ys.drop (i+1)) ρ2 with
    |none=>rw[e6]at e1;cases e1
    |some l2=>
     rw[e6]at e1;cases e1
     refine⟨⟨(ρ2,d),e5⟩,F3,r2,λv F5 H5 g5 d5=>?_⟩;have ha3:=g3.hh _ _ ha';have fa3:=g3.nw a _ ha' fa';have ha5:=g5.hh _ _ ha3;have fa5:=g5.nw a _ ha3 fa3;have al:acc'.length<lim:=by
      have h1:=da'.length;have h2:rs.length=done.length+(dn.length+(l2.length+1)+rest.length):=by rw[hrs,e2];simp;omega
      rw[List.length_append]at h1;omega
     have sub5:zI F5 (upd H5 a (.lst (acc'++[v]))):=λb o e=>by rw[zV (qK e fa5)];exact g5.fh _ _ e
     refine⟨acc',ha5,zfx (Nat.le_of_lt al),ys.length - (i+1),by omega,hlt,rfl,F5,ρ2,acc'++[v],dn++[d],l2,r2.dats hd2 g5.ff sub5,hd2,ff.trans (g3.ff.trans g5.ff),λb o ne e=>?_,λb o e n=>?_,fa5,qF,?_,e6,by rw[e2];simp⟩
     ·rw[zV ne];exact g5.hh _ _ (g3.hh _ _ (hh b o ne e))
     ·by_cases hb:b=a
      ·rw[hb];exact fa5
      ·exact g5.nw b o (g3.hh _ _ (hh b o hb e)) (g3.nw b o (hh b o hb e) (nw b o e n))
     ·rw[←List.append_assoc];exact(da'.mono (g3.ff.trans g5.ff)).snoc d5
 ·have e:i=ys.length:=by omega
  subst e;rw[List.drop_length]at e1;have e1:some []=some left:=e1;cases e1
  rw[List.append_nil]at e2;subst e2;refine .inl ⟨o3,q F' H' acc' (g1.ff.trans ff) (λb o ne e=>hh b o ne (g1.hh _ _ e)) r'.sub (λb o e n=>nw b o (g1.hh _ _ e) (g1.nw b o e n)) fa' ha' da'⟩
theorem zmd{ds:List D}{Q:VK}(hm:vM g fi2 g2 f (qQ cap ρ) ds=some rs)(hz:rs.length<=lim)(r:Rel K F H ρ σ)(q:∀v F' H',zF F H F' H'->Res K .ow H F' H' (.lst rs) v->Q v H'){J:It}{F1 H1:Hp}(g1:zF F H F1 H1)(ok:zdy K J F1 ds):
  zgP J (anyG K g) (λσ H Q=>∃i:{q:En×Bool//qW q.1=some q.2},rdTp K i.1.1 i.1.2 σ H Q) (taN (anyI K fi2) (anyG K g2) (anyE K f)) (.lst []) cap σ H1 Q:=by
 intro a ha;refine⟨λi m H2=>i<=ds.length/\m=ds.length - i/\∃F2 acc done left,zF F H F2 H2/\zI F1 F2/\(∀b o,H1 b=some o->H2 b=some o)/\F2 a=none/\H2 a=some (.lst acc)/\zD K F2 done acc/\vM g fi2 g2 f (qQ cap ρ) (ds.drop i)=some left/\rs=done++left,
  ⟨ds.length,Nat.zero_le _,rfl,F1,[],[],rs,⟨g1.ff,g1.hh.trans (wC ha _),g1.fh.trans (wC ha _),g1.nw⟩,zI.refl _,λb o e=>wC ha _ _ _ e,g1.fh.free ha,qF,zD.nil,by rw[List.drop_zero];exact hm,rfl⟩,?_⟩
 rintro i m H2 ⟨hi,rfl,F2,acc,done,left,gg,ff,hh,fa,hd,da,e1,e2⟩;obtain⟨o1,o2,o3⟩:=ok F2 H2 ff gg.fh;have haH:H a=none:=g1.hh.free ha;by_cases hlt:i<ds.length
 ·refine .inr ⟨o1 i hlt,λx H3 y=>?_⟩;obtain⟨F3,g3,d3⟩:=o2 i x H3 _ (List.getElem?_eq_getElem hlt) y;rw[List.drop_eq_getElem_cons hlt]at e1;simp only[vM]at e1;have g23:=gg.trans g3;have hd3:=g3.hh _ _ hd;have fa3:=g3.nw a _ hd fa;cases e3:g ds[i] (qQ cap ρ)with
  |none=>rw[e3]at e1;cases e1
  |some ρ1=>
   simp only[e3,Option.bind_some]at e1;obtain⟨hd1,e1⟩:gZ ρ1=true/\_:=by
    split at e1
    ·rename_i hz;exact⟨hz,e1⟩
    ·cases e1
   refine⟨⟨(qQ cap ρ,ds[i],ρ1),e3⟩,F3,(r.grow g23).inner,d3,λσ2 r2 _=>?_⟩;refine⟨⟨(ρ1,true),rfl⟩,F3,r2,λF4 H4 g4=>nN ?_⟩;cases e4:fi2 ρ1 with
   |none=>rw[e4]at e1;cases e1
   |some ys=>
    simp only[e4,Option.bind_some]at e1;cases e5:nP g2 f ys ρ1 with
    |none=>rw[e5]at e1;cases e1
    |some l=>
     simp only[e5,Option.bind_some]at e1;cases e6:vM g fi2 g2 f (qQ cap ρ) (ds.drop (i+1))with
     |none=>rw[e6]at e1;cases e1
     |some rest=>
      rw[e6]at e1;cases e1
      have g24:=g23.trans g4;refine zpC e4 e5 (r2.grow g4) hd1 (g4.nw a _ hd3 fa3) (g4.hh _ _ hd3) (da.mono (g3.ff.trans g4.ff)) e2 hz λF5 H5 acc5 f5 h5 s5 n5 fa5 ha5 da5=>?_
      refine⟨ds.length - (i+1),by omega,hlt,rfl,F5,acc5,done++l,rest,⟨g24.ff.trans f5,λb o e=>?_,s5,λb o e n=>?_⟩,ff.trans (g3.ff.trans (g4.ff.trans f5)),λb o e=>?_,fa5,ha5,da5,e6,by rw[e2];simp⟩
      ·exact h5 b o (qK e haH) (g24.hh _ _ e)
      ·exact n5 b o (g24.hh _ _ e) (g24.nw b o e n)
      ·exact h5 b o (qK e ha) (g4.hh _ _ (g3.hh _ _ (hh b o e)))
 ·have e:i=ds.length:=by omega
  subst e;rw[List.drop_length]at e1;have e1:some []=some left:=e1;cases e1
  rw[List.append_nil]at e2;subst e2;exact .inl ⟨o3,q _ F2 H2 gg ⟨a,rfl,haH,fa,acc,hd,da⟩⟩
theorem zpM(N:List Str)(cap:ON)(cp:Cap X scope N cap)(hc:X.calm=true)(hi:FI K X tg zM fi)(hg:∀C s0 H0 fp,FG K (qR X N scope (qD X.env scope.names []) C s0 H0 fp) tg g)(hi2:∀C s0 H0 fp,FI K (qR X N scope (qD X.env scope.names []) C s0 H0 fp) tg2 iter2 fi2)(hg2:∀C s0 H0 fp,FG K (qR X N scope (qD X.env scope.names []) C s0 H0 fp) tg2 g2)(he:∀C s0 H0 fp,FP K .fz (qR X N scope (qD X.env scope.names []) C s0 H0 fp) elt f)(S:kF X scope:=by exact kF.mk')(hs:∀x,foldedSetIterable zM X.env x=pure x:=by intro _;rfl)(hs2:∀C s0 H0 fp x,foldedSetIterable iter2 (qR X N scope (qD X.env scope.names []) C s0 H0 fp).env x=pure x:=by intro _ _ _ _ _;rfl)(hK:X.K=K:=by rfl):
  FP K .ow X (lc2 elt tg zM tg2 iter2 scope pos) (zfH cap fi g fi2 g2 f):=FP.mk λρ d hf=>by
 subst hK;obtain⟨ds,rs,e1,e2,hz,rfl⟩:=zgD hf;refine PE.imp (zjj (znU (elt:=elt) (tg:=tg) (zM:=zM) (tg2:=tg2) (iter2:=iter2) (scope:=scope) (pos:=pos)) N cap cp hc (hi.h ρ ds e1) (λC s0 H0 fp=>PG.any λi:{q:En×D×En//g q.2.1 q.1=some q.2.2}=>(hg C s0 H0 fp).h _ _ _ i.2) (λC s0 H0 fp=>PIf.any λi:{q:En×Bool//qW q.1=some q.2}=>(yY (K:=X.K)).h _ _ i.2)
  (λC s0 H0 fp A=>zjp (Y:=qR X N scope (qD X.env scope.names []) C s0 H0 fp) (λe s z=>z) hc (PI.any λi:{q:En×List D//fi2 q.1=some q.2}=>(hi2 C s0 H0 fp).h _ _ i.2) (PG.any λi:{q:En×D×En//g2 q.2.1 q.1=some q.2.2}=>(hg2 C s0 H0 fp).h _ _ _ i.2) (PE.any λi:{q:En×D//f q.1=some q.2}=>(he C s0 H0 fp).h _ _ i.2) (hs2 C s0 H0 fp) A) S hs rfl (eval_ListComp ..)) λσ H Q ⟨F,r,q⟩=>?_
 exact⟨F,r,λJ F1 H1 g1 ok=>zmd e2 hz r q g1 ok⟩
end
end FL
namespace L2
section
variable{X:Cx}
end
end L2
namespace FL
open L2
section
variable{K:Fg}{md:Md}{X:Cx}{f:EO D}{pos:Pos}
end
end FL
namespace HD
open PySem PySem.W PySem.Calls PyProof.Rows
noncomputable def bal(S:SharedT->Thread->Option (SharedT×Thread))(ok:Thread->Bool)(d:Nat):SharedT->Thread->Option (SharedT×Thread):=
 @Nat.rec (λ_=>SharedT->Thread->Option (SharedT×Thread)) (λs t=>match through t with
  |true=>some (s,t)
  |false=>match ok t with
   |false=>none
   |true=>S s t)
  (λ_ ih s t=>match ih s t with
   |none=>none
   |some (s',t')=>match through t' with
    |true=>some (s',t')
    |false=>ih s' t') d
section
variable{tb:String->Option Builtin}{p:Program}{w:World}{n₀:Nat}{ann:Option Value}
theorem zeW:∀{n m:Nat}{s s' s2:Shared} {t t' t2:Thread},topGo tb p w n₀ ann n s t=some (s',t')->topGo tb p w n₀ ann m s' t'=some (s2,t2)->topGo tb p w n₀ ann (n+m) s t=some (s2,t2)
 |0,m,s,s',s2,t,t',t2,h,k=>by
  obtain⟨rfl,rfl⟩:s=s'/\t=t':=by simpa[topGo]using h
  rw[Nat.zero_add];exact k
 |n+1,m,s,s',s2,t,t',t2,h,k=>by
  rw[show n+1+m=n+m+1 by omega];unfold topGo at h ⊢;cases ht:through t with
  |true=>rw[ht]at h;cases h
  |false=>
   rw[ht]at h;cases hk:stepOk n₀ ann t with
   |false=>rw[hk]at h;cases h
   |true=>
    rw[hk]at h;cases hs:step (denote tb) p w s t with
    |halt o s₂=>rw[hs]at h;cases h
    |go s₂ t₂=>rw[hs]at h;exact zeW h k
theorem zkE:∀(d:Nat) {s s':SharedT}{t t':Thread},bal (stepT (denote tb) p w) (stepOk n₀ ann) d s t=some (s',t')->∃n,n<=2^d/\topGo tb p w n₀ ann n s.abs t=some (s'.abs,t')
 |0,s,s',t,t',h=>by
  have h:(match through t with
   |true=>some (s,t)
   |false=>match stepOk n₀ ann t with
    |false=>none
    |true=>stepT (denote tb) p w s t)=some (s',t'):=h
  cases ht:through t with
  |true=>rw[ht]at h;cases h;exact⟨0,Nat.zero_le _,rfl⟩
  |false=>
   rw[ht]at h;cases hk:stepOk n₀ ann t with
   |false=>rw[hk]at h;cases h
   |true=>
    rw[hk]at h;refine⟨1,by simp,?_⟩;unfold topGo;rw[ht,hk,stepT_spec h];rfl
 |d+1,s,s',t,t',h=>by
  have h:(match bal (stepT (denote tb) p w) (stepOk n₀ ann) d s t with
   |none=>none
   |some (s',t')=>match through t' with
    |true=>some (s',t')
    |false=>bal (stepT (denote tb) p w) (stepOk n₀ ann) d s' t')=some (s',t'):=h
  cases e:bal (stepT (denote tb) p w) (stepOk n₀ ann) d s t with
  |none=>rw[e]at h;cases h
  |some r=>
   obtain⟨s1,t1⟩:=r;rw[e]at h;obtain⟨n,hn,g⟩:=zkE d e;cases ht:through t1 with
   |true=>simp only[ht]at h;cases h;exact⟨n,by rw[Nat.pow_succ];omega,g⟩
   |false=>
    simp only[ht]at h;obtain⟨m,hm,g2⟩:=zkE d h;exact⟨n+m,by rw[Nat.pow_succ];omega,zeW g g2⟩
theorem znX{d:Nat}{s s':SharedT}{t t':Thread}(h:bal (stepT (denote tb) p w) (stepOk n₀ ann) d s t=some (s',t'))(ht:through t'=true){N:Nat}(hN:2^d+1<=N):
  topRun tb p w n₀ ann N s.abs t=some s'.abs:=by
 obtain⟨n,hn,g⟩:=zkE d h;have k:topRun tb p w n₀ ann 1 s'.abs t'=some s'.abs:=by unfold topRun;rw[ht]
 have r:=topRun_mono (N - (n+1)) _ _ _ _ (go_top g k);rwa[show n+1+(N - (n+1))=N by omega]at r
end
def zpB(l:List Obj):Nat->BT->BT:=@List.rec Obj (λ_=>Nat->BT->BT) (λ_ t=>t) (λo _ ih n t=>ih (n+1) (t.ins n o)) l
def znW(P:Params):BT:=zpB (boot_heap P).objs.toList 0 .nil
theorem boot_abs(P:Params):absHeap (znW P) 11 {}=boot_heap P:=by kernel_rfl
theorem zis(P:Params):((boot_heap P).isNs mainGlobals,(boot_heap P).objs.size,(boot_heap P).nsMap mainGlobals "__annotations__")=(true,11,some (.ref 6)):=by kernel_rfl
section
variable{p q:Program}{loose:List Str}{Xt:Shared->Bool}{α:Type}{Yf:Shared->α}{Ya:World->α}{N d:Nat}
def bootS(w:World)(os:OsState):SharedT:=⟨znW w.params,11,{},⟨[]⟩,boot_drawn,boot_toks,os⟩
def looks(p q:Program)(loose:List Str)(Xt:Shared->Bool)(Yf:Shared->α)(sn:Program->List Str->List Str->(Shared->Bool)->Bool->Shared->β)(im:List Stmt->List Str)(w:World)(r:SharedT×Thread):Bool×Bool×β×α:=
 (through r.2,staticsOk (im p.main.body) (boot_heap w.params) r.1.abs.heap&&namesBound p r.1.abs.heap&&gensDone r.1.abs&&laidKept (boot_heap w.params) r.1.abs.heap,sn q loose (im p.main.body) Xt true r.1.abs,Yf r.1.abs)
theorem left_of(e:opening p=plainProg p.main.scope.names)(hN:Nat.ble 600 N=true)(hd:Nat.ble (2^d+1) N=true)(f:∀s,fenceModules? p s=some s)(h:∀w:World,(λos:OsState=>(bal (stepT (denote treeTable) p w) (stepOk 11 (some (.ref 6))) d (bootS w os) (topStub p)).map (looks p q loose Xt Yf openSeen importedModules w))=λ_=>some (true,true,openGood q loose,Ya w)):
  LeftO p q loose Xt Yf Ya N:=λw=>by
 obtain⟨⟨hp,gs,dr,k,os⟩,e1,e2⟩:=Option.map_eq_some_iff.mp (boot_open e hN f w);obtain⟨rfl,rfl,rfl,rfl⟩:hp=boot_heap w.params/\gs=⟨[]⟩/\dr=boot_drawn/\k=boot_toks:=by simpa using e2
 obtain⟨⟨s,t⟩,b1,b2⟩:=Option.map_eq_some_iff.mp (congrFun (h w) os);have l1:=congrArg (λx=>x.1) b2;have l2:=congrArg (λx=>x.2.1) b2;have l3:=congrArg (λx=>x.2.2.1) b2;have l4:=congrArg (λx=>x.2.2.2) b2;dsimp only[looks]at l1 l2 l3 l4;have r:=znX b1 l1 (Nat.le_of_ble_eq_true hd);have ea:(bootS w os).abs=⟨boot_heap w.params,⟨[]⟩,boot_drawn,boot_toks,os⟩:=by show Shared.mk (absHeap (znW w.params) 11 {}) _ _ _ _=_;rw[boot_abs];rfl
 rw[ea]at r;have z:=zis w.params;simp only[Prod.mk.injEq]at z;obtain⟨z1,z2,z3⟩:=z;have t':topFrom treeTable p w N ⟨boot_heap w.params,⟨[]⟩,boot_drawn,boot_toks,os⟩=some s.abs:=by unfold topFrom;dsimp only;rw[z1,z2,z3,r];show(match staticsOk (importedModules p.main.body) (boot_heap w.params) s.abs.heap&&namesBound p s.abs.heap&&gensDone s.abs&&laidKept (boot_heap w.params) s.abs.heap with|true=>_|false=>_)=_;rw[l2]
 unfold openEnds;rw[e1];show(topFrom treeTable p w N _).map _=_;rw[t'];exact congrArg some (Prod.ext l3 l4)
end
end HD
namespace FL
open L2
def zmm(h:Heap):Fg:=(List.range h.objs.size).filterMap λa=>(h.get? a).map λo=>(a,o)
theorem allIn_in(h:Heap):(zmm h).In h:=by
 intro a o;unfold zmm;generalize List.range h.objs.size=l;induction l with
 |nil=>intro e;cases e
 |cons b l ih=>
  rw[List.filterMap_cons];cases e:h.get? b with
  |none=>exact ih
  |some u=>
   intro q;have q:List.lookup a ((b,u)::List.filterMap (λa=>Option.map (λo=>(a,o)) (h.get? a)) l)=some o:=q;rw[List.lookup_cons]at q;cases z:a==b with
   |true=>rw[z]at q;cases q;rw[beq_iff_eq.mp z];exact e
   |false=>rw[z]at q;exact ih q
abbrev FnT:=Str×Str×Arguments×FuncBody×Scope×Addr×List (Str×Addr)×Value×Addr
def fnT(fd:FuncData):FnT:=(fd.name,fd.qualname,fd.params,fd.body,fd.scope,fd.globals,fd.closure,fd.defaults,fd.builtins)
noncomputable def fnv(K:Fg)(n:Str):Option (FnT×Bool):=match PySem.W.nsIn K mainGlobals n with
 |some (some (.ref f))=>(match K.lookup f with
  |some ⟨_,_,.func fd,_⟩=>some (fnT fd,PySem.W.codeIn K fd.code n&&PySem.W.keepIn K (.ref f))
  |_=>none)
 |_=>none
def stN:Stmt->Str
 | .FunctionDef n ..=>n
 | .ClassDef n ..=>n
 |_=>⟨#[]⟩
noncomputable def fnx(p:Program)(i:Nat):Option (FnT×Bool):=
 let st:=p.main.body.getD i (.Pass ⟨0,0,0,0⟩)
 some (fnT (PySem.W.fnOf (stN st) (stN st) (zcr st) (kS st) (qH st) .none .none .none .none none .none .none),true)
variable{K:Fg}{p:Program}{n:Str}
theorem zjX{i:Nat}(st:Stmt)(hst:p.main.body.getD i (.Pass ⟨0,0,0,0⟩)=st)(hn:stN st=n)(e:fnv K (stN (p.main.body.getD i (.Pass ⟨0,0,0,0⟩)))=fnx p i):
  ∃f fd,PySem.W.nsIn K mainGlobals n=some (some (.ref f))/\Fun K n n st f fd:=by
 subst hst;unfold fnx at e;dsimp only at e;rw[hn]at e;unfold fnv at e;split at e
 ·rename_i f e1;split at e
  ·rename_i oc od fd osl e2;have e3:=Option.some.inj e;have e4:=congrArg Prod.fst e3;have e5:=congrArg Prod.snd e3;dsimp only at e4 e5;obtain⟨c,k⟩:=Bool.and_eq_true_iff.mp e5;refine⟨f,fd,e1,⟨oc,od,fd.kwdefaults,fd.doc,fd.pyModule,fd.annotations,fd.code,fd.closureTuple,osl,?_,e2,c⟩,k⟩;obtain⟨a1,a2,a3,a4,a5,a6,a7,a8,a9,a10,a11,a12,a13,a14,a15⟩:=fd;unfold fnT at e4;simp only[Prod.mk.injEq]at e4;obtain⟨rfl,rfl,rfl,rfl,rfl,rfl,rfl,rfl,rfl⟩:=e4;rfl
  ·cases e
 ·cases e
def zZ(p:Program)(i:Nat):Stmt:=p.main.body.getD i (.Pass ⟨0,0,0,0⟩)
def biN:List Str:=["isinstance","str","tuple","list","int","bool","dict","len","range","enumerate","sum","max","min","abs","zip","reversed","sorted","set","any","all"]
abbrev FaT:=List (Option (FnT×Bool))×List (Option (Option Value))
def faV(p:Program)(I:List Nat)(K:Fg):FaT:=(I.map λi=>fnv K (stN (p.main.body.getD i (.Pass ⟨0,0,0,0⟩))),biN.map λn=>PySem.W.nsIn K mainGlobals n)
def faX(p:Program)(I:List Nat):FaT:=(I.map λi=>fnx p i,biN.map λ_=>some none)
theorem zhl{α β:Type}{f g:α->β}:∀{l:List α},l.map f=l.map g->∀i∈l,f i=g i
 |[],_,_,h=>nomatch h
 |a::l,e,i,h=>by
  injection e with e1 e2;cases h with
  |head=>exact e1
  |tail _ h=>exact zhl e2 i h
variable{I:List Nat}
theorem zpQ(A:faV p I K=faX p I)(i:Nat)(hi:i∈I)(hn:stN (zZ p i)=n):
  ∃f fd,PySem.W.nsIn K mainGlobals n=some (some (.ref f))/\Fun K n n (zZ p i) f fd:=zjX _ rfl hn (zhl (congrArg Prod.fst A) i hi)
theorem zpP{h:Heap}{mg:SV}(A:faV p I K=faX p I)(X:K.In h)(G:h.Ns mainGlobals mg):Glb mg:=by
 have z:∀n∈biN,mg n=none:=λn hn=>PySem.W.mg_none_of X G (zhl (f:=λn=>PySem.W.nsIn K mainGlobals n) (g:=λ_=>some none) (congrArg Prod.snd A) n hn)
 simp only[biN,List.forall_mem_cons]at z;obtain⟨z1,z2,z3,z4,z5,z6,z7,z8,z9,z10,z11,z12,z13,z14,z15,z16,z17,z18,z19,z20,_⟩:=z;exact⟨z1,z2,z3,z4,z5,z6,z7,z8,z9,z10,z11,z12,z13,z14,z15,z16,z17,z18,z19,z20⟩
end FL
namespace TS
def fresh(w:World):Obj:={cls:=.type "set",dict:=none,data:=.set #[] 0 (.fresh 0 0 (!w.params.followText "set-order"))}
variable{w:World}{h:Heap}{a:Addr}
theorem zlJ(e:h.get? a=some (fresh w)):St w h a []:=
 ⟨_,_,_,_,e,⟨rfl,rfl,rfl⟩,rfl,λ_ he=>by simp at he,by simp[txt],List.nodup_nil,by unfold scanBound;simp,by rfl,λz=>absurd rfl z,λz=>by simp[SetTable.fresh,z]⟩
section
variable{P:Program}{w:World}{A:Around}{E:VS}{s:Shared}{a:Addr}
theorem zmf(r:List Value)(hc:checkBuiltinCall "set.__new__" ⟨.type "set"::r,[]⟩=pure ()){Q₁:VS}(h:Q₁ (.ref s.heap.objs.size) {s with heap:=s.heap.push (fresh w)}):
  codeAny (model P w) A (.call (.builtin "set.__new__") ⟨.type "set"::r,[]⟩) (wants Q₁ E) s:=by
 refine codeAny_of_tree ?_;show wpAny _ A.in1 (do checkBuiltinCall "set.__new__" ⟨.type "set"::r,[]⟩;again (.builtin "set.__new__" ⟨.type "set"::r,[]⟩)) _ _ s;refine wpAny_bind (wpAny_of_eq hc (wpAny_pure ⟨plainId_quiet F.plain_set_new _,codeAny_builtin F.entry_set_new ?_⟩));rw[Around.under_plainId F.plain_set_new _];unfold Builtin.«set.__new__» Builtin.Frozenset.newClass;have hsub:=sub_set_self;obtain⟨hp,g,d,tk,os⟩:=s;dsimp only
 wp_walk
 refine wpAny_askSetting (wpAny_pure ?_);dsimp only;simp only[newObj];refine wpAny_bind (wpAny_alloc (wpAny_pure ?_));exact wpAny_pure h
end
def setOf(l:List Str):List Str:=l.foldl addT []
theorem zmn(L:List Str)(x:Str):(addT L x).length<=L.length+1:=by unfold addT;split<;>simp
theorem zei(l:List Str):∀L:List Str,(l.foldl addT L).length<=L.length+l.length:=by
 induction l with
 |nil=>intro L;simp
 |cons x l ih=>intro L;have:=ih (addT L x);have:=zmn L x;simp only[List.foldl_cons,List.length_cons];omega
variable{h':Heap}{L:List Str}
theorem St.at(x:St w h a L)(k:∀o,h.get? a=some o->h'.get? a=some o):St w h' a L:=by obtain⟨o,es,ep,t,ho,r⟩:=x;exact⟨o,es,ep,t,k _ ho,r⟩
section
variable{P:Program}{w:World}{A:Around}{R:Result->Shared->Prop}{I:Addr}{fp wr:List Addr}{G:Array GenState->Array GenState->Prop}{n:Nat}{PP:Nat->Value->Prop}{Stt:Nat->Shared->Prop}
theorem zkN(W:WalksS P w A.in1 I fp wr G n PP Stt)(S:Addr)(hSf:S∉fp)(ss:List Str)(hn:ss.length=n)(hval:∀i v,PP i v->∃t,v=.str (ss.getD i ⟨#[]⟩) t)(hb:n+1<scanBound):
  ∀(k i:Nat) (s:Shared),n - i=k->i<=n->Stt i s->St w s.heap S (setOf (ss.take i))->
   (∀s',Moved (S::wr) G s s'->St w s'.heap S (setOf ss)->R (.ok (.ret .none)) s')->
   codeAny (model P w) A (.builtin "set.update.loop" ⟨[.ref S,.ref I],[]⟩) R s:=by
 have hSw:S∉wr:=λh=>hSf (W.sub _ h)
 have hsub:∀b∈wr,b∈S::wr:=λb hb=>List.mem_cons_of_mem _ hb
 intro k;induction k with
 |zero=>
  intro i s hk hi hst hS hR;have hin:i=n:=by omega
  subst hin;rw[List.take_of_length_le (by omega)]at hS;refine codeAny_builtin F.entry_set_update_loop ?_;rw[Around.under_plainId F.plain_set_update_loop _];show wpAny _ A.in1 (pyNext (.ref I)>>=_) _ _ s;refine wpAny_bind (W.done s _ _ hst λs' hm=>?_);show wpAny _ A.in1 (ret Value.none) _ _ s';exact wpAny_pure (hR s' (hm.mono hsub) (hS.at λo ho=>hm.heap S _ hSw ho))
 |succ k ih=>
  intro i s hk hi hst hS hR;have hlt:i<n:=by omega
  refine codeAny_builtin F.entry_set_update_loop ?_;rw[Around.under_plainId F.plain_set_update_loop _];show wpAny _ A.in1 (pyNext (.ref I)>>=_) _ _ s;refine wpAny_bind (W.item i s _ _ hlt hst λv s' hP hst' hm=>?_);obtain⟨t,rfl⟩:=hval i v hP;have hS':St w s'.heap S (setOf (ss.take i)):=hS.at λo ho=>hm.heap S _ hSw ho
  show wpAny _ A.in1 (holding [Value.str (ss.getD i ⟨#[]⟩) t] (setAdd S (.str (ss.getD i ⟨#[]⟩) t))>>=_) _ _ s';refine wpAny_bind (wpAny_holding ?_);unfold setAdd;refine wpAny_holding ?_;refine wpAny_bind ((PySem.strKind P w).pyHash (k:=ss.getD i ⟨#[]⟩) (strKind_is _ _ _ _) ?_);have hlen:(setOf (ss.take i)).length+1<scanBound:=by have h1:=zei (ss.take i) [];have h2:(ss.take i).length<=i:=List.length_take_le i ss;unfold setOf;simp only[List.length_nil]at h1;omega
  refine add (s:={s' with toks:=s'.toks+1}) hS' hlen λh' b hsb hS2=>?_
  have hSi:St w h' S (setOf (ss.take (i+1))):=by
   have e:ss.take (i+1)=ss.take i++[ss.getD i ⟨#[]⟩]:=by
    rw[List.take_add_one]
    congr 1
    rw[List.getD_eq_getElem?_getD,List.getElem?_eq_getElem (by omega)];rfl
   rw[e];unfold setOf;rw[List.foldl_append];exact hS2
  refine wpAny_pure ⟨plainId_quiet F.plain_set_update_loop _,ih (i+1) _ (by omega) hlt (W.frame _ s' _ _ hst' (Nat.le_succ _) λb hb o e=>?_) hSi λs'' hm'' hS''=>?_⟩
  ·rw[hsb.2 b λh:b=S=>hSf (by rw[←h];exact hb)];exact e
  ·refine hR s'' (Moved.trans W.gtrans ((hm.mono hsub).then_heap (Nat.le_succ _) λb o hb e=>?_) hm'') hS'';rw[hsb.2 b λh:b=S=>hb (by rw[h];exact List.mem_cons_self)];exact e
end
section
variable{P:Program}{w:World}{A:Around}{E:VS}{s:Shared}{a:Addr}
theorem StrsAre.at':∀{vs:List Value}{ss:List Str},StrsAre vs ss->∀(i:Nat) (v:Value),vs[i]?=some v->∃t,v=.str (ss.getD i ⟨#[]⟩) t
 |_,_,.nil,i,v,h=>by simp at h
 |_,_,.cons x t r,0,v,h=>by simp at h;exact⟨t,by simp[h.symm]⟩
 |_,_,.cons x t r,i+1,v,h=>by simp at h;obtain⟨u,e⟩:=StrsAre.at' r i v h;exact⟨u,by rw[e];simp⟩
theorem StrsAre.len:∀{vs:List Value}{ss:List Str},StrsAre vs ss->vs.length=ss.length
 |_,_,.nil=>rfl
 |_,_,.cons x t r=>by simp[StrsAre.len r]
theorem call1{l:Addr}{vs:List Value}{ss:List Str}{Q:VS}(hh:A.handled=none)(hl:s.heap.IsList l vs.toArray)(hi:StrsAre vs ss)(hb:ss.length+1<scanBound)(h:∀(h':Heap) (tk:Nat),St w h' s.heap.objs.size (setOf ss)->
   (∀b o,b<s.heap.objs.size->s.heap.get? b=some o->h'.get? b=some o)->Q (.ref s.heap.objs.size) {s with heap:=h',toks:=tk}):
  wpAny (model P w) A (call (.type "set") [.ref l]) Q E s:=by
 obtain⟨c,tl,hmro⟩:=F.called_set.mro;have hmade:=F.called_set.made;have hsub:=F.called_set.sub;refine wpAny_call (codeAny_of_tree ?_);show wpAny _ _ (callAny (.type "set") _) _ _ _;refine wpAny_pure ⟨Code.quiet_builtin _ (by decide+kernel),codeAny_builtin F.entry_type_call ?_⟩;rw[Around.under_plain (weight_type_call_type "set" [.ref l] []) rfl];have h1:=F.called_set.notType;have h2:=F.called_set.canCreate;have hct:=F.typeCall_set_1 (.ref l)
 repeat (any_goals(first|assumption|wp_step))
 refine codeAny_mono (zmf [.ref l] (F.newCall_set_1 _) (E:=E) (Q₁:=λobj s₁=>obj=.ref s.heap.objs.size/\s₁={s with heap:=s.heap.push (fresh w)}) ⟨rfl,rfl⟩) λr s₁ hr=>?_
 cases r with
 |error e=>exact hr
 |ok fl=>
  cases fl with
  |ret obj=>
   obtain⟨rfl,rfl⟩:=hr;have hS:(s.heap.push (fresh w)).get? s.heap.objs.size=some (fresh w):=Heap.get?_push_size _ rfl;have hT:Shared.TypeIs {s with heap:=s.heap.push (fresh w)} (.ref s.heap.objs.size) "set":=⟨_,hS,rfl⟩;have hli:=F.called_set.init.lookup;have hbi:=F.called_set.init.bind (.ref s.heap.objs.size)
   repeat (any_goals(first|assumption|wp_step))
   refine codeAny_mono (codeAny_call_builtin (R:=wants (λr s₂=>r=.none/\∃h' tk,s₂={s with heap:=h',toks:=tk}/\
     St w h' s.heap.objs.size (setOf ss)/\
     (∀b o,b<s.heap.objs.size->s.heap.get? b=some o->h'.get? b=some o)) E) F.called_set.init.plain F.entry_set_init (check_set_init_1 hT ?_)) λr₂ s₂ hr₂=>?_
   ·obtain⟨ol,hol,hcl,nl,hdl⟩:=hl;obtain⟨ocls,odict,odata,oslots⟩:=ol;simp only at hcl hdl;subst hcl;subst hdl;have hol':(s.heap.push (fresh w)).get? l=some {cls:=.type "list",dict:=odict,data:=.seq vs.toArray nl,slots:=oslots}:=Heap.get?_push_of_some _ hol;have hsls:=F.sub_list_set;have hslf:=F.sub_list_frozenset;have hne:(Value.type "list"==Value.type "dict")=false:=by decide
    have hl1:(s.heap.push (fresh w)).IsList l vs.toArray:=⟨_,hol',rfl,nl,rfl⟩;unfold Builtin.«set.__init__» noKeywords Builtin.Frozenset.updateFrom;generalize hPI:pyIter=PI
    wp_walk
    subst hPI;refine wpAny_pyIter_list hl1 ?_;refine wpAny_bind (wpAny_runValue ?_);have hlS:l<s.heap.objs.size:=Heap.lt_size hol;have hh3:A.in1.in1.in1.handled=none:=by simp[hh]
    have hneI:l≠(s.heap.push (fresh w)).objs.size:=by rw[Heap.size_push];exact Nat.ne_of_lt (Nat.lt_succ_of_lt hlS)
    have hSf:s.heap.objs.size∉[(s.heap.push (fresh w)).objs.size,l]:=by rw[Heap.size_push];simp only[List.mem_cons,List.mem_singleton,List.not_mem_nil,or_false,not_or];exact⟨Nat.ne_of_lt (Nat.lt_succ_self _),Nat.ne_of_gt hlS⟩
    have hval:∀(i:Nat) (v:Value),vs.toArray[i]?=some v->∃t,v=.str (ss.getD i ⟨#[]⟩) t:=λi v hv=>
     StrsAre.at' hi i v (by simpa using hv)
    have hsz:vs.toArray.size=ss.length:=by simpa using StrsAre.len hi
    refine zkN ((Walks.list hh3 _ l hneI vs.toArray).toS) s.heap.objs.size
     hSf ss hsz.symm hval (by rw[hsz];exact hb) (vs.toArray.size - 0) 0 _ (by omega) (Nat.zero_le _)
     ⟨⟨_,Heap.get?_push_size _ rfl,rfl,rfl⟩,(hl1.push _)⟩ ?hS0 ?hR
    case hS0=>
     exact zlJ (Heap.get?_push_of_some _ hS)
    case hR=>
     intro s' hm hS';obtain⟨h',g',d',tk',os'⟩:=s';have eg:g'=s.gens:=hm.gens;have ed:d'=s.drawn:=hm.drawn;have eo:os'=s.os:=hm.os;subst eg;subst ed;subst eo;show wpAny _ _ _ _ _ _;refine wpAny_pure ?_;show wpAny _ _ (ret Value.none) _ _ _;refine wpAny_pure ⟨rfl,h',tk',rfl,hS',λb o hb e=>?_⟩;have hb1:b≠s.heap.objs.size:=Nat.ne_of_lt hb;have hb2:b≠(s.heap.push (fresh w)).objs.size:=by rw[Heap.size_push];exact Nat.ne_of_lt (Nat.lt_succ_of_lt hb)
     exact hm.heap b o (by simp only[List.mem_cons,List.mem_singleton,List.not_mem_nil,or_false,not_or];exact⟨hb1,hb2⟩) (Heap.get?_push_of_some _ (Heap.get?_push_of_some _ e))
   ·cases r₂ with
    |error e=>exact hr₂
    |ok fl₂=>
     cases fl₂ with
     |ret r=>
      obtain⟨rfl,h',tk,rfl,hS',hk'⟩:=hr₂
      repeat (any_goals(first|assumption|wp_step))
      exact h _ _ hS' hk'
     |_=>exact hr₂.elim
  |_=>exact hr.elim
end
theorem zil:entryFor table "set.__iter__"=some Builtin.«frozenset.__iter__»:=
 entryFor_alias (id':="frozenset.__iter__") (by kernel_rfl) rfl (by decide+kernel) (by kernel_rfl)
theorem zhh:Manifest.owners.lookup (String.ofList ['r','o','t','a','r','e','t','i','_','t','e','s'].reverse)=some Manifest.sig_set_iterator:=by kernel_rfl
theorem zay:Slot "set_iterator" "__next__" "set_iterator.__next__":=
 .of (owner:="set_iterator") (n:="__next__") (by rw[typeLookup_type,builtinLookup_eq_fast];kernel_rfl) (by decide+kernel) (by decide+kernel) (by decide+kernel)
  (by first|exact .inl (by decide+kernel)|exact .inr (by decide+kernel)) (by rw[isSubtype_type];kernel_rfl)
theorem zdW:entryFor table "set_iterator.__next__"=some Builtin.«set_iterator.__next__»:=entryFor_of_tree (by kernel_rfl)
theorem zfQ(a:Value):argsOk "set_iterator.__next__" ⟨[a],[]⟩:=by unfold argsOk;rw[signature?_of (id:="set_iterator.__next__") (n:=['_','_','t','x','e','n','_','_']) (o:=['r','o','t','a','r','e','t','i','_','t','e','s']) (by kernel_rfl) zhh];kernel_rfl
theorem ziL:Slot "set_iterator" "__iter__" "set_iterator.__iter__":=
 .of (owner:="set_iterator") (n:="__iter__") (by rw[typeLookup_type,builtinLookup_eq_fast];kernel_rfl) (by decide+kernel) (by decide+kernel) (by decide+kernel)
  (by first|exact .inl (by decide+kernel)|exact .inr (by decide+kernel)) (by rw[isSubtype_type];kernel_rfl)
theorem zlO:entryFor table "set_iterator.__iter__"=some Builtin.«dict_keyiterator.__iter__»:=
 entryFor_alias (id':="dict_keyiterator.__iter__") (by kernel_rfl) rfl (by decide+kernel) (by kernel_rfl)
theorem znZ(a:Value):argsOk "set_iterator.__iter__" ⟨[a],[]⟩:=by unfold argsOk;rw[signature?_of (id:="set_iterator.__iter__") (n:=['_','_','r','e','t','i','_','_']) (o:=['r','o','t','a','r','e','t','i','_','t','e','s']) (by kernel_rfl) zhh];kernel_rfl
variable{α:Type}
theorem zjf(next:Nat->Nat):∀(n k:Nat) (l:List α) (out:Array α),l.length=n->(pickOrder.go next n k l out).toList.Perm (out.toList++l)
 |0,k,l,out,h=>by have:l=[]:=List.eq_nil_of_length_eq_zero h;subst this;unfold pickOrder.go;simp
 |n+1,k,l,out,h=>by
  unfold pickOrder.go;have hlt:next k%l.length<l.length:=Nat.mod_lt _ (by omega)
  rw[List.getElem?_eq_getElem hlt];dsimp only;refine(zjf next n (k+1) _ _ (by rw[List.length_eraseIdx_of_lt hlt];omega)).trans ?_;rw[Array.toList_push,List.append_assoc];refine List.Perm.append_left _ ?_;have e:l.Perm (l[next k%l.length]::l.eraseIdx (next k%l.length)):=by
   have h2:l.eraseIdx (next k%l.length)=l.take (next k%l.length)++l.drop (next k%l.length+1):=List.eraseIdx_eq_take_drop_succ l _;have h1:l=l.take (next k%l.length)++l[next k%l.length]::l.drop (next k%l.length+1):=by rw[List.getElem_cons_drop,List.take_append_drop]
   rw[h2]
   conv=>lhs;rw[h1]
   exact List.perm_middle
  exact e.symm
theorem zfn(next:Nat->Nat)(xs:Array α):(pickOrder next xs).toList.Perm xs.toList:=by
 unfold pickOrder
 have:=zjf next xs.size 0 xs.toList #[] (by simp)
 simpa using this
variable{n:Nat}
section
variable{M:Model}{P:Program}{w:World}{A:Around}{E:VS}{s:Shared}{a:Addr}
theorem zeS{src:Source}{Q:Nat->Shared->Prop}(hn:n≠0)(h:∀i d,i<n->Q i {s with drawn:=d}):wpAny M A (choose src n) Q E s:=by intro _ _ _;exact⟨hn,h _ _ (Nat.mod_lt _ (Nat.pos_of_ne_zero hn))⟩
theorem draw:∀(n:Nat) (l:List α) {Q:List α->Shared->Prop}(s:Shared),l.length<=n->(∀ys d,ys.Perm l->Q ys {s with drawn:=d})->wpAny M A (drawOrder n l) Q E s
 |0,l,Q,s,hl,h=>by have:l=[]:=List.eq_nil_of_length_eq_zero (by omega);subst this;exact wpAny_pure (h [] s.drawn (List.Perm.refl _))
 |n+1,[],Q,s,hl,h=>wpAny_pure (h [] s.drawn (List.Perm.refl _))
 |n+1,x::l,Q,s,hl,h=>by
  show wpAny M A (choose .order (x::l).length>>=λi=>_) Q E s;refine wpAny_bind (zeS (by simp) λi d hi=>?_);rw[List.getElem?_eq_getElem hi];dsimp only;refine wpAny_bind (draw n _ _ (by rw[List.length_eraseIdx_of_lt hi];simp at hl ⊢;omega) λys d' hp=>?_);refine wpAny_pure (h _ d' ?_);have h2:(x::l).eraseIdx i=(x::l).take i++(x::l).drop (i+1):=List.eraseIdx_eq_take_drop_succ _ _;have h1:x::l=(x::l).take i++(x::l)[i]::(x::l).drop (i+1):=by rw[List.getElem_cons_drop,List.take_append_drop]
  rw[h2]at hp
  conv=>rhs;rw[h1]
  exact(hp.cons _).trans List.perm_middle.symm
theorem zby(a:Addr)(slot given epochThen:Nat):setNext a slot given epochThen=(do
 let(es,epoch,t) ←setState a
 if←setsByText then
  if epoch !=epochThen then unsupported "set_iterator.__next__:elements-changed"
  return((←setWalk a)[given]?).map λe=>(e.2,slot)
 if(!t.plain&&es.size>1)then unsupported "set_iterator.__next__:the-table-is-plain-no-more"
 (if(!t.led&& !es.isEmpty)=true then(unsupported "set:maker-not-led":Sem Unit)else pure ())
 let i:=SetTable.below t.place slot
 return match es[i]?,t.place[i]? with
  |some (_,x),some j=>some (x,j+1)
  |_,_=>none):=rfl
theorem zfV(a:Addr):setDrawn a=(do
 let(es,_,t) ←setState a;let nB ←setsByText
 return !nB&&(!t.plain&&es.size>1)):=rfl
theorem nB{Q:Bool->Shared->Prop}(h:Q (w.params.followText "set-order") s):wpAny (model P w) A setsByText Q E s:=
 wpAny_bind (wpAny_askSetting (wpAny_pure h))
end
def itO(first:Value)(i:Nat)(a:Addr)(n ep:Nat):Obj:={cls:=.type "set_iterator",data:=.fields #[first,.int i 0,.ref a,.int n 0,.int ep 0]}
def Go(w:World)(es:Array (Int×Value))(ep:Nat)(t:SetTable)(a:Addr)(ex:List Addr)(vs:List Value)(first:Value)(i:Nat)(h:Heap):Prop:=
 (w.params.followText "set-order"=true/\first=.int 0 0/\vs=(pickOrder (w.params.setOrder a ep) es).toList.map (·.2))\/
 (w.params.followText "set-order"=false/\es.size<=1/\vs=es.toList.map (·.2)/\first=.int (if i=0 then 0 else((t.place.getD 0 0+1:Nat):Int)) 0)\/
 (∃(tp:Addr) (ps:List Nat),ex=[tp]/\first=.ref tp/\(∃o,h.get? tp=some o/\o.data=.seq (ps.map λ(j:Nat)=>rawInt j).toArray 0)/\ps.Perm (List.range es.size)/\vs=ps.map λj=>(es.getD j (0,.none)).2)
structure It(w:World)(o:Obj)(es:Array (Int×Value))(ep:Nat)(t:SetTable)(a it:Addr)(ex:List Addr)(vs:List Value)(i:Nat)(h:Heap):Prop where
 set:h.get? a=some o
 cur:∃first,h.get? it=some (itO first i a es.size ep)/\Go w es ep t a ex vs first i h
theorem It.len{o:Obj}{es:Array (Int×Value)}{ep:Nat}{t:SetTable}{it:Addr}{ex:List Addr}{vs:List Value}{i:Nat}(x:It w o es ep t a it ex vs i h):vs.length=es.size:=by
 obtain⟨first,_,⟨_,_,e⟩|⟨_,_,e,_⟩|⟨tp,ps,_,_,_,p,e⟩⟩:=x.cur
 ·rw[e,List.length_map,(zfn _ es).length_eq,Array.length_toList]
 ·rw[e];simp
 ·rw[e,List.length_map,p.length_eq,List.length_range]
variable{Q:Option Value->Shared->Prop}{f v:Value}
section
variable{P:Program}{w:World}{A:Around}{E:VS}{s:Shared}{a it:Addr}{o:Obj}{es:Array (Int×Value)}{ep:Nat}{t:SetTable}{ex:List Addr}{vs:List Value}{i:Nat}
theorem zmI{xs:Array Nat}(h:xs.size<=1)(k:Nat):SetTable.below xs k=if xs.size=1/\xs.getD 0 k<k then 1 else 0:=by
 unfold SetTable.below;rcases Nat.lt_or_ge xs.size 1 with z|z
 ·have e:xs.size=0:=by omega
  rw[e];simp[SetTable.below.go]
 ·have e:xs.size=1:=by omega
  rw[e];unfold SetTable.below.go;simp only[Nat.zero_lt_one,if_true,Nat.zero_add,Nat.reduceDiv];split
  ·rename_i hq;rw[if_pos ⟨trivial,hq⟩];rfl
  ·rename_i hq;rw[if_neg λz=>hq z.2];rfl
theorem zms{n:Nat}{nx:Int}{Q:Fin->Shared->Prop}(hi:s.heap.get? it=some (itO f i a n ep))(h:∀h',Heap.SameBut it s.heap h'->h'.get? it=some (itO (.int nx 0) (i+1) a n ep)->Q (.done (.ret v)) {s with heap:=h'}):
  wpAny (model P w) A (do setField (.ref it) 0 (rawInt nx);setField (.ref it) 1 (rawInt ((i:Int)+1));ret v) Q E s:=by
 refine wpAny_bind (wpAny_setField_rec (cls:=.type "set_iterator") hi (by simp) λh1 g1 k1=>?_);refine wpAny_bind (wpAny_setField_rec (cls:=.type "set_iterator") g1 (by simp) λh2 g2 k2=>?_);exact wpAny_pure (h h2 (k1.trans k2) (by rw[g2];simp[itO,rawInt]))
theorem zoy{Q:Fin->Shared->Prop}(hi:s.heap.get? it=some (itO f i a n ep))(h:∀h',Heap.SameBut it s.heap h'->h'.get? it=some (itO f (i+1) a n ep)->Q (.done (.ret v)) {s with heap:=h'}):
  wpAny (model P w) A (do setField (.ref it) 1 (rawInt ((i:Int)+1));ret v) Q E s:=by
 refine wpAny_bind (wpAny_setField_rec (cls:=.type "set_iterator") hi (by simp) λh2 g2 k2=>?_);exact wpAny_pure (h h2 k2 (by rw[g2];simp[itO,rawInt]))
theorem zgv(k:Heap.SameBut it h h'){b:Addr}{u:Obj}(ne:b≠it)(e:h.get? b=some u):h'.get? b=some u:=by rw[k.2 b ne];exact e
theorem zny(x:It w o es ep t a it ex vs i s.heap)(hex:o.ExactSet)(hd:o.data=.set es ep t)(hf:t.fits es.size=true)(hld:w.params.followText "set-order"=false->t.led=true)(ne:a≠it)(nx:it∉ex)(hv:vs[i]?=some v)(h:∀h',Heap.SameBut it s.heap h'->It w o es ep t a it ex vs (i+1) h'->Q (some v) {s with heap:=h'}):
  wpAny (model P w) A (pyNext (.ref it)) Q E s:=by
 obtain⟨first,hi,hg⟩:=x.cur;have hT:s.TypeIs (.ref it) "set_iterator":=⟨_,hi,rfl⟩;unfold pyNext;refine wpAny_bind (wpAny_attempt (wpAny_callSpecial?_slot (name:=Str.ofString "__next__") hT zay
  (wpAny_call_entry zay hT zdW ?_ (zfQ _))))
 unfold Builtin.«set_iterator.__next__»;refine wpAny_bind (wpAny_pure ?_);refine wpAny_bind (wpAny_fieldsOf hi rfl ?_);dsimp only;refine wpAny_bind (wpAny_setEntries_of x.set hd hf ?_);rw[if_neg (by simp)];rcases hg with⟨b1,rfl,ev⟩|⟨b1,b2,ev,rfl⟩|⟨tp,ps,rfl,rfl,⟨ot,hot,hdt⟩,pp,ev⟩
 ·dsimp only;rw[zby];refine wpAny_bind (wpAny_bind (wpAny_setState_of x.set hd hf ?_));dsimp only;refine wpAny_bind (nB ?_);rw[b1];simp only[if_true,Int.toNat_natCast,bne_self_eq_false,Bool.false_eq_true,if_false];unfold setWalk;refine wpAny_bind (wpAny_bind (wpAny_setState_of x.set hd hf ?_));dsimp only;refine wpAny_bind (nB ?_);rw[b1];simp only[if_true];refine wpAny_bind (wpAny_askSetting (wpAny_pure (wpAny_pure ?_)));have hv0:=hv;rw[ev,List.getElem?_map,Array.getElem?_toList]at hv;cases hq:(pickOrder (w.params.setOrder a ep) es)[i]? with
  |none=>rw[hq]at hv;cases hv
  |some e=>
   rw[hq]at hv;cases hv
   have hm:(pickOrder ((Setting.mk (model P w).prog (model P w).w.params).params.setOrder a ep) es)[i]?=some e:=hq;rw[hm];simp only[Option.map_some];exact zms hi λh' k g=>⟨_,rfl,wpAny_pure (h h' k ⟨zgv k ne x.set,_,g,.inl ⟨b1,rfl,ev⟩⟩)⟩
 ·have hv':=hv;rw[ev,List.getElem?_map,Array.getElem?_toList]at hv';cases hq:es[i]? with
  |none=>rw[hq]at hv';cases hv'
  |some e=>
   rw[hq]at hv';cases hv'
   have hlt:i<es.size:=(Array.getElem?_eq_some_iff.mp hq).1;have hi0:i=0:=by omega
   subst hi0;have hs1:es.size=1:=by omega
   have hps:t.place.size=1:=by simp only[SetTable.fits,Bool.and_eq_true,beq_iff_eq]at hf;omega
   dsimp only;rw[zby];refine wpAny_bind (wpAny_bind (wpAny_setState_of x.set hd hf ?_));dsimp only;refine wpAny_bind (nB ?_);rw[b1];have hb0:SetTable.below t.place 0=0:=by rw[zmI (by omega)];simp
   simp only[Bool.false_eq_true,if_false,if_true,Int.toNat_zero,hb0,hq,hld b1,hs1,Bool.not_true,Bool.false_and,Array.getElem?_eq_getElem (show 0<t.place.size by omega),gt_iff_lt,Nat.lt_irrefl,decide_false,Bool.and_false];refine wpAny_bind (wpAny_pure (wpAny_pure ?_));dsimp only;refine zms (n:=1) (by rw[hs1]at hi;exact hi) λh' k g=>⟨_,rfl,wpAny_pure (h h' k ⟨zgv k ne x.set,_,by rw[hs1];exact g,.inr (.inl ⟨b1,b2,ev,?_⟩)⟩)⟩
   simp[hps]
 ·have hv':=hv;rw[ev,List.getElem?_map]at hv';cases hq:ps[i]? with
  |none=>rw[hq]at hv';cases hv'
  |some j=>
   rw[hq]at hv';cases hv'
   dsimp only;refine wpAny_bind (wpAny_seqItems hot hdt ?_);have e1:(ps.map λ(j:Nat)=>rawInt j).toArray[(i:Int).toNat]?=some (.int j 0):=by simp[hq,rawInt]
   dsimp only;rw[e1];dsimp only;unfold setNextDrawn;refine wpAny_bind (wpAny_bind (wpAny_setState_of x.set hd hf ?_));simp only[Int.toNat_natCast,bne_self_eq_false,Bool.false_eq_true,if_false];have hj:j<es.size:=by have:=pp.mem_iff.mp (List.mem_of_getElem? hq);simpa using this
   rw[Array.getElem?_eq_getElem hj];refine wpAny_pure ?_;have hv2:(es.getD j (0,Value.none)).2=es[j].2:=by simp[Array.getD,hj]
   show wpAny _ _ (do setField (.ref it) 1 (rawInt ((i:Int)+1));ret es[j].2) _ _ _;refine zoy hi λh' k g=>⟨_,rfl,wpAny_pure ?_⟩
   dsimp only at h;rw[hv2]at h;exact h h' k ⟨zgv k ne x.set,_,g,.inr (.inr ⟨tp,ps,rfl,rfl,⟨ot,zgv k (λz=>nx (by simp[z])) hot,hdt⟩,pp,ev⟩)⟩
end
section
variable{P:Program}{w:World}{A:Around}{E:VS}{s:Shared}{a it:Addr}{o:Obj}{es:Array (Int×Value)}{ep:Nat}{t:SetTable}{ex:List Addr}{vs:List Value}{i:Nat}
theorem stop{Qf:Fin->Shared->Prop}(hh:A.handled=none)(h:∀h',(∀b u,s.heap.get? b=some u->h'.get? b=some u)->Q none {s with heap:=h'}):
  wpAny (model P w) A.in1 (do raiseNew (←newExc (.type "StopIteration") [])) Qf
   (λe s'=>wpAny (model P w) A (do if←isInstance e (.type "StopIteration")then pure none else throw e) Q E s') s:=by
 refine wpAny_bind ?_;simp only[newExc,newTuple];refine wpAny_bind (wpAny_newObj_type ?_ (by size_fits));refine wpAny_bind (m:=firstArgMember _ _) (wpAny_of_eq (a:=Value.none) (by first|rfl|(simp only[firstArgMember];rfl)) ?_);refine wpAny_newObj_type ?_ (by size_fits);simp only[raiseNew];refine wpAny_bind (wpAny_handled ?_);rw[show A.in1.handled=none from hh];refine wpAny_bind (wpAny_pure (wpAny_throw ?_));refine wpAny_bind (wpAny_isInstance (T:="StopIteration") (b:=true) ⟨_,Heap.get?_push_size _ rfl,rfl⟩ isSubtype_stop ?_);exact wpAny_pure (h _ λb u e=>Heap.get?_push_of_some _ (Heap.get?_push_of_some _ e))
theorem zlp(hh:A.handled=none)(x:It w o es ep t a it ex vs i s.heap)(hd:o.data=.set es ep t)(hf:t.fits es.size=true)(hld:w.params.followText "set-order"=false->t.led=true)(hv:vs[i]?=none)(h:∀h',(∀b u,b≠it->s.heap.get? b=some u->h'.get? b=some u)->Q none {s with heap:=h'}):
  wpAny (model P w) A (pyNext (.ref it)) Q E s:=by
 obtain⟨first,hi,hg⟩:=x.cur;have hT:s.TypeIs (.ref it) "set_iterator":=⟨_,hi,rfl⟩;unfold pyNext;refine wpAny_bind (wpAny_attempt (wpAny_callSpecial?_slot (name:=Str.ofString "__next__") hT zay
  (wpAny_call_entry zay hT zdW ?_ (zfQ _))))
 unfold Builtin.«set_iterator.__next__»;refine wpAny_bind (wpAny_pure ?_);refine wpAny_bind (wpAny_fieldsOf hi rfl ?_);dsimp only;refine wpAny_bind (wpAny_setEntries_of x.set hd hf ?_);rw[if_neg (by simp)];have fin:∀{Qf:Fin->Shared->Prop}(h1:Heap) (f:Value),Heap.SameBut it s.heap h1->h1.get? it=some (itO f i a es.size ep)->
   wpAny (model P w) A.in1 (do setField (.ref it) 2 .none;raiseNew (←newExc (.type "StopIteration") [])) Qf
   (λe s'=>wpAny (model P w) A (do if←isInstance e (.type "StopIteration")then pure none else throw e) Q E s') {s with heap:=h1}:=λh1 f k1 g1=>by
  refine wpAny_bind (wpAny_setField_rec (cls:=.type "set_iterator") g1 (by simp) λh2 g2 k2=>?_);exact stop hh λh' kk=>h h' λb u ne e=>kk b u (zgv k2 ne (zgv k1 ne e))
 have hs0:s={s with heap:=s.heap}:=by cases s;rfl
 rcases hg with⟨b1,rfl,ev⟩|⟨b1,b2,ev,rfl⟩|⟨tp,ps,rfl,rfl,⟨ot,hot,hdt⟩,pp,ev⟩
 ·dsimp only;rw[zby];refine wpAny_bind (wpAny_bind (wpAny_setState_of x.set hd hf ?_));dsimp only;refine wpAny_bind (nB ?_);rw[b1];simp only[if_true,Int.toNat_natCast,bne_self_eq_false,Bool.false_eq_true,if_false];unfold setWalk;refine wpAny_bind (wpAny_bind (wpAny_setState_of x.set hd hf ?_));dsimp only;refine wpAny_bind (nB ?_);rw[b1];simp only[if_true];refine wpAny_bind (wpAny_askSetting (wpAny_pure (wpAny_pure ?_)));rw[ev,List.getElem?_map,Array.getElem?_toList]at hv;have hm:(pickOrder ((Setting.mk (model P w).prog (model P w).w.params).params.setOrder a ep) es)[i]?=none:=by
   cases hq:(pickOrder (w.params.setOrder a ep) es)[i]? with
   |none=>exact hq
   |some e=>rw[hq]at hv;cases hv
  rw[hm];simp only[Option.map_none];exact fin s.heap _ (Heap.SameBut.refl _ _) hi
 ·have hge:es.size<=i:=by rw[ev]at hv;simpa using hv
  have hps:t.place.size=es.size:=by simp only[SetTable.fits,Bool.and_eq_true,beq_iff_eq]at hf;exact hf.1
  dsimp only;rw[zby];refine wpAny_bind (wpAny_bind (wpAny_setState_of x.set hd hf ?_));dsimp only;refine wpAny_bind (nB ?_);rw[b1];have hb:es.size<=SetTable.below t.place (if i=0 then(0:Int)else((t.place.getD 0 0+1:Nat):Int)).toNat:=by
   rw[zmI (by omega)];by_cases hz:es.size=0
   ·omega
   ·have h1:t.place.size=1:=by omega
    have hi1:¬i=0:=by omega
    simp only[hi1,if_false,Int.toNat_natCast];rw[if_pos ⟨h1,by simp[Array.getD,h1]⟩];omega
  have hn:es[SetTable.below t.place (if i=0 then(0:Int)else((t.place.getD 0 0+1:Nat):Int)).toNat]?=none:=Array.getElem?_eq_none hb;have hgt:decide (es.size>1)=false:=decide_eq_false (by omega);simp only[Bool.false_eq_true,if_false,hn,hld b1,hgt,Bool.not_true,Bool.false_and,Bool.and_false];refine wpAny_bind (wpAny_pure (wpAny_pure ?_));exact fin s.heap _ (Heap.SameBut.refl _ _) hi
 ·dsimp only;refine wpAny_bind (wpAny_seqItems hot hdt ?_);have hge:ps.length<=i:=by rw[ev]at hv;simpa using hv
  have e1:(ps.map λ(j:Nat)=>rawInt j).toArray[(i:Int).toNat]?=none:=by simp[hge]
  dsimp only;rw[e1];dsimp only;refine wpAny_bind (wpAny_setField_rec (cls:=.type "set_iterator") hi (by simp) λh1 g1 k1=>?_);exact fin h1 (.int 0 0) k1 (by rw[g1];simp[itO,rawInt])
theorem zM(ho:s.heap.get? a=some o)(hex:o.ExactSet)(hd:o.data=.set es ep t)(hf:t.fits es.size=true)(hsz:es.size<scanBound)(hpl:1<es.size->t.plain=false){Q:VS}(h:∀h' d it ex vs,(∀b u,s.heap.get? b=some u->h'.get? b=some u)->it∉ex->s.heap.objs.size<=it->(∀b∈ex,s.heap.objs.size<=b)->(∀b∈ex,b<h'.objs.size)->it<h'.objs.size->It w o es ep t a it ex vs 0 h'->
   vs.Perm (es.toList.map (·.2))->Q (.ref it) {s with heap:=h',drawn:=d}):
  wpAny (model P w) A (pyIter (.ref a)) Q E s:=by
 have hT:s.TypeIs (.ref a) "set":=⟨o,ho,hex.1⟩;refine wpAny_pyIter_slot hT F.slot_set_iter (wpAny_call_entry F.slot_set_iter hT zil ?_ (F.args_set_iter_1 _));unfold Builtin.«frozenset.__iter__»;refine wpAny_bind ?_;unfold Builtin.Frozenset.slot0;refine wpAny_bind (wpAny_pure ?_);show wpAny _ _ (pure a) _ _ _;refine wpAny_pure ?_;refine wpAny_bind ?_;unfold Builtin.Frozenset.sizeOf;refine wpAny_bind (wpAny_setEntries_of ho hd hf (wpAny_pure ?_));rw[zfV];refine wpAny_bind (wpAny_bind (wpAny_setState_of ho hd hf ?_));dsimp only;refine wpAny_bind (nB (wpAny_pure ?_));cases hb:(!w.params.followText "set-order"&&(!t.plain&&decide (es.size>1)))with
 |false=>
  simp only[Bool.false_eq_true,if_false];refine wpAny_bind (wpAny_pure ?_);refine wpAny_bind (wpAny_setEpoch_of ho hd hf ?_);refine wpAny_bind (wpAny_newObj_type ?_);refine wpAny_pure ⟨_,rfl,"set_iterator",_,⟨_,Heap.get?_push_size _ rfl,rfl⟩,zay.lookup,?_⟩;have hg:=Heap.get?_push_size s.heap (o:=itO (.int 0 0) 0 a es.size ep) rfl;have ha:(s.heap.push (itO (.int 0 0) 0 a es.size ep)).get? a=some o:=Heap.get?_push_of_some _ ho;cases hbt:w.params.followText "set-order"with
  |true=>
   exact h _ s.drawn _ [] ((pickOrder (w.params.setOrder a ep) es).toList.map (·.2)) (λb u e=>Heap.get?_push_of_some _ e) (by simp) (Nat.le_refl _) (λ_ z=>by simp at z) (λ_ z=>by simp at z) (Heap.lt_size hg) ⟨ha,_,hg,.inl ⟨hbt,rfl,rfl⟩⟩ ((zfn _ _).map _)
  |false=>
   have hs1:es.size<=1:=by
    rcases Nat.lt_or_ge 1 es.size with z|z
    ·rw[hbt,hpl z]at hb;simp at hb;omega
    ·exact z
   exact h _ s.drawn _ [] (es.toList.map (·.2)) (λb u e=>Heap.get?_push_of_some _ e) (by simp) (Nat.le_refl _) (λ_ z=>by simp at z) (λ_ z=>by simp at z) (Heap.lt_size hg) ⟨ha,_,hg,.inr (.inl ⟨hbt,hs1,rfl,by simp⟩)⟩ (List.Perm.refl _)
 |true=>
  simp only[if_true];refine wpAny_bind (draw es.size (List.range es.size) _ (by rw[List.length_range];exact Nat.le_refl _) λps d hp=>?_);refine wpAny_bind (wpAny_newTuple (items:=ps.map λ(j:Nat)=>rawInt j) ?_ (by rw[List.length_map,hp.length_eq,List.length_range];exact fits_of_scanBound hsz));have ho2:=Heap.get?_push_of_some ({cls:=.type "tuple",data:=.seq (ps.map λ(j:Nat)=>rawInt j).toArray}:Obj) ho;refine wpAny_bind (wpAny_setEpoch_of ho2 hd hf ?_);refine wpAny_bind (wpAny_newObj_type ?_);refine wpAny_pure ⟨_,rfl,"set_iterator",_,⟨_,Heap.get?_push_size _ rfl,rfl⟩,zay.lookup,?_⟩;have hgt:=Heap.get?_push_size s.heap (o:=({cls:=.type "tuple",data:=.seq (ps.map λ(j:Nat)=>rawInt j).toArray}:Obj)) rfl;have hg:=Heap.get?_push_size (s.heap.push ({cls:=.type "tuple",data:=.seq (ps.map λ(j:Nat)=>rawInt j).toArray}:Obj)) (o:=itO (.ref s.heap.objs.size) 0 a es.size ep) rfl;have hgt2:=Heap.get?_push_of_some (itO (.ref s.heap.objs.size) 0 a es.size ep) hgt;refine h _ d _ [s.heap.objs.size] (ps.map λj=>(es.getD j (0,.none)).2) (λb u e=>Heap.get?_push_of_some _ (Heap.get?_push_of_some _ e)) ?_ ?_ ?_ ?_ (Heap.lt_size hg) ⟨Heap.get?_push_of_some _ ho2,_,hg,.inr (.inr ⟨_,ps,rfl,rfl,⟨_,hgt2,rfl⟩,hp,rfl⟩)⟩ ?_
  ·simp only[List.mem_singleton];rw[Heap.size_push];exact Nat.succ_ne_self _
  ·rw[Heap.size_push];exact Nat.le_succ _
  ·intro b hb;rw[List.mem_singleton.mp hb];exact Nat.le_refl _
  ·intro b hb;rw[List.mem_singleton.mp hb];exact Heap.lt_size hgt2
  ·refine(hp.map _).trans (List.Perm.of_eq ?_);refine List.ext_getElem (by simp) λk h1 h2=>?_
   have hk:k<es.size:=by simpa using h1
   simp[Array.getD,hk]
end
section
variable{P:Program}{w:World}{A:Around}{E:VS}{s:Shared}{a it:Addr}{o:Obj}{es:Array (Int×Value)}{ep:Nat}{t:SetTable}{ex:List Addr}{vs:List Value}{i:Nat}
theorem It.at(x:It w o es ep t a it ex vs i h)(k:∀b∈it::a::ex,∀u,h.get? b=some u->h'.get? b=some u):It w o es ep t a it ex vs i h':=by
 obtain⟨x1,first,x2,x3⟩:=x;refine⟨k a (by simp) _ x1,first,k it (by simp) _ x2,?_⟩;rcases x3 with x3|x3|⟨tp,ps,rfl,e2,⟨ot,e3,e4⟩,e5⟩
 ·exact .inl x3
 ·exact .inr (.inl x3)
 ·exact .inr (.inr ⟨tp,ps,rfl,e2,⟨ot,k tp (by simp) _ e3,e4⟩,e5⟩)
theorem zqi(hh:A.handled=none)(hex:o.ExactSet)(hd:o.data=.set es ep t)(hf:t.fits es.size=true)(hld:w.params.followText "set-order"=false->t.led=true)(ne:a≠it)(nx:it∉ex):
  Walks P w A it (it::a::ex) [it] es.size (λi v=>vs[i]?=some v) (λi h=>It w o es ep t a it ex vs i h)where
 sub:=λb hb=>by simp at hb;simp[hb]
 frame:=λ_ _ _ st hk=>st.at hk
 item:=λi s Q E hi st hQ=>by have hl:=st.len;obtain⟨v,hv⟩:∃v,vs[i]?=some v:=⟨vs[i],by simp[hl,hi]⟩;exact zny st hex hd hf hld ne nx hv λh' k st'=>hQ v h' s.toks hv st' λb u hb e=>zgv k (λz=>hb (by simp[z])) e
 done:=λs Q E st hQ=>zlp hh st hd hf hld (by rw[List.getElem?_eq_none];rw[st.len];exact Nat.le_refl _) λh' k=>hQ h' s.toks λb u hb e=>k b u (λz=>hb (by simp[z])) e
 self:=λi s Q E st hQ=>by obtain⟨first,hi,_⟩:=st.cur;have hT:s.TypeIs (.ref it) "set_iterator":=⟨_,hi,rfl⟩;refine wpAny_pyIter_slot hT ziL (wpAny_call_entry ziL hT zlO ?_ (znZ _));show wpAny _ _ (ret (.ref it)) _ _ s;exact wpAny_pure ⟨_,rfl,"set_iterator",_,hT,zay.lookup,hQ⟩
theorem zlB{Q:Bool->Shared->Prop}(hT:s.TypeIs (.ref a) "set")(h:Q false s):wpAny (model P w) A (Builtin.List.listLengthHint (.ref a)) Q E s:=by
 unfold Builtin.List.listLengthHint;refine wpAny_bind (wpAny_specialOf hT F.slot_set_len.lookup ?_);generalize hid:("set.__len__":String)=id0
 wp_delta
 rw[show splitId id0=some ("set","__len__")from by subst hid;decide+kernel];subst hid;refine wpAny_bind (wpAny_isInstance (T:="set") (b:=true) hT (by rw[isSubtype_type];kernel_rfl) ?_);refine wpAny_ite_split (λhab=>absurd hab (by decide)) (λ_=>?_);refine wpAny_ite_split (λ_=>?_) (λhab=>absurd (by decide+kernel) hab);refine wpAny_bind (wpAny_typeOf hT ?_);exact wpAny_pure h
theorem zgE{R:List Value->Shared->Prop}(hh:A.handled=none)(hS:St w s.heap a L)(h:∀h' d tk (vs:List Value) ss,(∀b u,s.heap.get? b=some u->h'.get? b=some u)->s.heap.objs.size<h'.objs.size->StrsAre vs ss->ss.Perm L->R vs {s with heap:=h',drawn:=d,toks:=tk}):
  wpAny (model P w) A (collect (.ref a)) R E s:=by
 obtain⟨o,es,ep,t,ho,hex,hd,hel,hpm,hnd,hb,hf,hpl,hld⟩:=hS;have hpl':1<es.size->t.plain=false:=λz=>hpl λe=>by subst e;have hl:=hpm.length_eq;unfold txt at hl;rw[List.length_map,Array.length_toList,List.length_nil]at hl;omega
 have haS:a<s.heap.objs.size:=Heap.lt_size ho;unfold collect;refine wpAny_bind (wpAny_runValue (codeAny_builtin entry_proto_collect' ?_));rw[Around.under_plainId PySem.F.plain_proto_collect _];show wpAny _ A.in1 (newList []>>=λl=>again (.builtin "list.__iadd__" ⟨[l,.ref a],[]⟩)) _ _ s;refine wpAny_bind (wpAny_newObj_type ?_);refine wpAny_pure ⟨plainId_quiet PySem.F.plain_list_iadd _,codeAny_builtin entry_list_iadd' ?_⟩;rw[Around.under_plainId PySem.F.plain_list_iadd _];have hS₁:(s.heap.push {cls:=.type "list",data:=.seq ([]:List Value).toArray}).get? s.heap.objs.size=some {cls:=.type "list",data:=.seq #[]}:=Heap.get?_push_size _ rfl;have ho1:(s.heap.push {cls:=.type "list",data:=.seq ([]:List Value).toArray}).get? a=some o:=Heap.get?_push_of_some _ ho;show wpAny _ A.in1 (Builtin.List.listExtendWith (.ref s.heap.objs.size) (.ref a) (.ref s.heap.objs.size)) _ _ _;unfold Builtin.List.listExtendWith;refine wpAny_bind (wpAny_typeOf (T:="set") ⟨o,ho1,hex.1⟩ ?_);have h1:Builtin.List.listSameRef (.ref s.heap.objs.size) (.ref a)=false:=by simp[Builtin.List.listSameRef];exact Nat.ne_of_gt haS
 rw[if_neg (by rw[h1];decide)];refine wpAny_bind (zM ho1 hex hd hf hb hpl' λh2 d it ex vs k2 nx g1 g2 g2' g3 st pv=>?_);have hT2:Shared.TypeIs {s with heap:=h2,drawn:=d} (.ref a) "set":=⟨o,k2 _ _ ho1,hex.1⟩;refine wpAny_bind (wpAny_holding (zlB hT2 ?_));rw[Heap.size_push]at g1 g2;have nea:a≠it:=Nat.ne_of_lt (Nat.lt_of_lt_of_le (Nat.lt_succ_of_lt haS) g1);have hSf:s.heap.objs.size∉it::a::ex:=by simp only[List.mem_cons,not_or];exact⟨Nat.ne_of_lt (Nat.lt_of_lt_of_le (Nat.lt_succ_self _) g1),Nat.ne_of_gt haS,λz=>absurd (g2 _ z) (Nat.not_succ_le_self _)⟩
 have hn:es.size<=sizeLine:=fits_of_scanBound hb;have W:=zqi (P:=P) (A:=A.in1) (vs:=vs) hh hex hd hf hld nea nx;have key:∀{R':Result->Shared->Prop}(h3:Heap) (c₁:Nat),It w o es ep t a it ex vs 0 h3->(∀b u,b≠s.heap.objs.size->s.heap.get? b=some u->h3.get? b=some u)->
   h3.get? s.heap.objs.size=some {cls:=.type "list",data:=.seq #[] c₁}->
   (∀s',wpAny (model P w) A (do
      match(←load s.heap.objs.size).data with
      | .seq xs _=>pure xs.toList
      |_=>unsupported "internal:collect") R E s'->R' (.ok (.ret (.ref s.heap.objs.size))) s')->
   codeAny (model P w) A (.builtin "list.extend.loop" ⟨[.ref s.heap.objs.size,.ref it,.ref s.heap.objs.size],[]⟩) R' {s with heap:=h3,drawn:=d}:=by
  intro R' h3 c₁ hst hk hS3 hR';refine codeAny_extend_loopS W.toS hn _ hSf _ es.size 0 _ #[] c₁ rfl (Nat.zero_le _) hst hS3 (ItemsOf.nil _) λs' acc' c' hm hS' hacc=>hR' s' ?_
  refine wpAny_bind (wpAny_load hS' ?_);refine wpAny_pure ?_;rw[Moved.eq_with hm];have ev:acc'.toList=vs:=by
   refine List.ext_getElem? λj=>?_
   rcases Nat.lt_or_ge j es.size with z|z
   ·have hlt:j<acc'.size:=by rw[hacc.1];exact z
    have:=hacc.2 j acc'[j] (by simp[hlt]);rw[this,Array.getElem?_toList];simp[hlt]
   ·rw[List.getElem?_eq_none (by rw[Array.length_toList,hacc.1];exact z),List.getElem?_eq_none (by rw[st.len];exact z)]
  rw[ev];have hstr:StrsAre vs (vs.map strOf):=strsAre_map vs λv hv=>by obtain⟨e,he,rfl⟩:=List.mem_map.mp (pv.mem_iff.mp hv);obtain⟨k,tk,rfl⟩:=hel e he;exact⟨k,tk,rfl⟩
  refine h s'.heap d s'.toks vs _ (λb u e=>?_) (Heap.lt_size hS') hstr ((pv.map strOf).trans ?_)
  ·have hlt:=Heap.lt_size e;exact hm.heap b u (by simp only[List.mem_cons,List.not_mem_nil,or_false,not_or];exact⟨Nat.ne_of_lt hlt,Nat.ne_of_lt (Nat.lt_of_lt_of_le (Nat.lt_succ_of_lt hlt) g1)⟩) (hk b u (Nat.ne_of_lt hlt) e)
  ·rw[List.map_map];exact hpm
 have hS2:=k2 _ _ hS₁;have kk:∀b u,b≠s.heap.objs.size->s.heap.get? b=some u->h2.get? b=some u:=λb u _ e=>k2 b u (Heap.get?_push_of_some _ e)
 refine wpAny_ite_split (λ_=>?_) (λ_=>wpAny_pure ⟨plainId_quiet PySem.F.plain_extend_loop _,key h2 0 st kk hS2 λs' z=>z⟩);refine wpAny_bind (wpAny_rule ?_);refine wpAny_bind ?_;show wpAny _ _ (updateSeq s.heap.objs.size (·.push .none)>>=λ_=>updateSeq s.heap.objs.size (·.pop)) _ _ _;refine wpAny_bind (wpAny_updateSeq hS2 rfl ?_);have hS3:=Heap.get?_update_self (Obj.mapSeq (·.push Value.none)) hS2 rfl;refine wpAny_updateSeq hS3 rfl ?_;have hS4:=Heap.get?_update_self (Obj.mapSeq (·.pop)) hS3 rfl;have oth:∀b u,b≠s.heap.objs.size->h2.get? b=some u->((h2.update s.heap.objs.size (Obj.mapSeq (·.push Value.none))).update s.heap.objs.size (Obj.mapSeq (·.pop))).get? b=some u:=
  λb u hb e=>(Heap.get?_update_other _ _ (Ne.symm hb)).trans ((Heap.get?_update_other _ _ (Ne.symm hb)).trans e)
 refine wpAny_pure ⟨plainId_quiet PySem.F.plain_extend_loop _,key _ _ (st.at λb hb u e=>oth b u (λz=>hSf (by rw[←z];exact hb)) e) (λb u ne e=>oth b u ne (kk b u ne e)) hS4 λs' z=>z⟩
theorem sorted_set{Q:VS}(hh:A.handled=none)(hS:St w s.heap a L)(h64:L.length<64)(h:∀h' d tk D (vs:List Value) ss e,(∀b u,s.heap.get? b=some u->h'.get? b=some u)->s.heap.objs.size<=D->h'.get? D=some {cls:=.type "list",data:=.seq vs.toArray e}->
   StrsAre vs ss->ss.Perm L->sortedS ss=true->Q (.ref D) {s with heap:=h',drawn:=d,toks:=tk}):
  wpAny (model P w) A (call (.builtin "sorted") [.ref a]) Q E s:=by
 refine Calls.call_function_entry kind_sorted plain_sorted entry_sorted (args_sorted1 _) ?_;unfold Builtin.«sorted»;refine wpAny_bind (m:=checkCount "sorted" 1 1 _) (wpAny_pure ?_);refine wpAny_bind (zgE (s:=s) hh hS λh1 d tk vs ss k1 hz1 hs1 hp1=>?_);have hvl:vs.length<64:=by rw[StrsAre.len hs1,hp1.length_eq];exact h64
 refine wpAny_bind (wpAny_newList ?_ (by rw[sizeLine_eq];omega));have hoL:(h1.push (seqObj "list" vs.toArray 0)).get? h1.objs.size=some (seqObj "list" vs.toArray 0):=Heap.get?_push_size _ rfl;show wpAny _ _ _ _ _ {s with heap:=h1.push (seqObj "list" vs.toArray 0),drawn:=d,toks:=tk};refine wpAny_bind (wpAny_holding (wpAny_call_entry slot_list_sort ⟨_,hoL,rfl⟩ entry_list_sort (list_sort_treeK strKind_oneLt hoL hs1.keysOf (λv₁ v₂ rest e=>keyKind_strs (by rw[←e];exact hs1)) hvl λst' a1 a2=>⟨_,rfl,?_⟩) (args_list_sort _)));obtain⟨ss',b1,b2,b3⟩:=sorted_out_str hs1 a1 a2;obtain⟨e,he⟩:=sortedHeap_at (h:=h1.push (seqObj "list" vs.toArray 0)) (a:=h1.objs.size) (vs:=vs) (out:=(arrOf st').map (·.2)) hoL;refine wpAny_pure ⟨_,rfl,h _ d tk h1.objs.size ((arrOf st').map (·.2)).toList ss' e (λb u eb=>?_) (Nat.le_of_lt hz1) ?_ b1 (b2.trans hp1) b3⟩
 ·have e1:=k1 _ _ eb;rw[sortedHeap_old (Nat.ne_of_lt (Heap.lt_size e1)) (by rw[size_push'];exact Nat.lt_succ_of_lt (Heap.lt_size e1))];exact Heap.get?_push_of_some _ e1
 ·rw[he]
end
end TS
namespace L2
section
variable{X:Cx}
theorem zL.strs:∀{ss:List Str}{its:List Value},zL (ss.map V.str) its->StrsAre its ss
 |[],_,.nil=>.nil
 |x::ss,_,.cons r t=>by obtain⟨k,rfl⟩:=r;exact .cons x k (zL.strs t)
theorem zL.of_strs:∀{ss:List Str}{its:List Value},StrsAre its ss->zL (ss.map V.str) its
 |_,_,.nil=>.nil
 |_,_,.cons x k t=>.cons ⟨k,rfl⟩ (zL.of_strs t)
def zqB(K:Fg):List V->Hp->VK->Prop:=λxs H Q=>∃p ss,xs=[.ref p]/\SqL K H p (ss.map V.str)/\ss.length+1<scanBound/\∀l,H l=none->Q (.ref l) (upd H l (.set (TS.setOf ss)))
theorem zky(hc:X.calm=true):jX X (.type "set") (zqB X.K):=by
 intro pins s σ H xs us Q I rv h;obtain⟨p,ss,rfl,hq,hz,q⟩:=h;obtain⟨u,rfl,ru⟩:=rv.one;cases ru
 obtain⟨its,r',pl,_⟩:=I.list hq;refine TS.call1 (I.ok.hd hc) pl.isList (zL.strs r') hz λh' tk hS k=>?_
 have I2:=I.laid (t':=tk) (o:=.set (TS.setOf ss)) (λb o e=>k b o (Heap.lt_size e) e) (Nat.le_refl _) (show qZ X.prog X.w _ _ _ (.set (TS.setOf ss))from hS);exact⟨.ref _,_,I2,rfl,q _ I.fresh⟩
def znb:List V->Hp->VK->Prop:=λxs H Q=>∃p L,xs=[.ref p]/\H p=some (.set L)/\L.length<64/\∀l ss,H l=none->ss.Perm L->sortedS ss=true->Q (.ref l) (upd H l (.lst (ss.map V.str)))
theorem Inv.draw{pins:AO}{σ:St}{H:Hp}{s:Shared}{d:Drawn}(I:Inv X pins σ H s):Inv X pins σ H {s with drawn:=d}:=
 ⟨I.ok,I.os,I.bare,I.base,I.loc,I.cell,I.free,I.freeC,I.pin,I.hok,I.len⟩
theorem zgJ(hc:X.calm=true):jX X (.builtin "sorted") znb:=by
 intro pins s σ H xs us Q I rv h;obtain⟨p,L,rfl,hp,hz,q⟩:=h;obtain⟨u,rfl,ru⟩:=rv.one;cases ru
 have hS:TS.St X.w s.heap p L:=I.hok p _ hp;refine TS.sorted_set (I.ok.hd hc) hS hz λh' d tk D vs ss e k hD ho hs hpm hso=>?_
 have hn:(ss.map V.str).length<=sizeLine:=by rw[List.length_map,hpm.length_eq,sizeLine_eq];omega
 have I2:=(I.draw (d:=d)).laid (t':=tk) (a:=D) (o:=.lst (ss.map V.str)) k hD (show qZ X.prog X.w _ _ _ (.lst (ss.map V.str))from⟨hn,vs,e,zL.of_strs hs,ho⟩);exact⟨.ref D,_,I2,rfl,q D ss (I.hok.fresh hD) hpm hso⟩
end
end L2
namespace TS
end TS
namespace L2
section
variable{X:Cx}
end
end L2
namespace FL
open L2
def leS(a b:Str):Prop:=ltCps b.cps.toList a.cps.toList=false
variable{a:Str}
theorem xY{b:Str}:leS a b↔a.cps.toList<=b.cps.toList:=by unfold leS;rw[ltCps_eq];simp
theorem zdi{b c:Str}(h:leS a b)(k:leS b c):leS a c:=xY.mpr (List.le_trans (xY.mp h) (xY.mp k))
theorem zho{b:Str}(h:leS a b)(k:leS b a):a=b:=by
 have e:=List.le_antisymm (xY.mp h) (xY.mp k);obtain⟨x⟩:=a;obtain⟨y⟩:=b
 congr 1
 exact Array.toList_inj.mp e
theorem zfg:∀(p:Str) (l:List Str),risingS p l=true->(p::l).Pairwise leS
 |p,[],_=>by simp
 |p,x::r,h=>by
  have h':(!ltCps x.cps.toList p.cps.toList&&risingS x r)=true:=h;rw[Bool.and_eq_true,Bool.not_eq_true']at h';have ih:=zfg x r h'.2;refine List.pairwise_cons.mpr ⟨λy hy=>?_,ih⟩;rcases List.mem_cons.mp hy with rfl|hy
  ·exact h'.1
  ·exact zdi h'.1 ((List.pairwise_cons.mp ih).1 y hy)
theorem zeY:∀{l:List Str},sortedS l=true->l.Pairwise leS
 |[],_=>.nil
 |x::r,h=>zfg x r h
theorem ziJ{a b:List Str}(p:a.Perm b)(h:sortedS a=true)(k:sortedS b=true):a=b:=
 List.Perm.eq_of_pairwise (λ_ _ _ _ x y=>zho x y) (zeY h) (zeY k) p
open Classical in
def gC(L:List Str):List Str:=if h:∃ss:List Str,ss.Perm L/\sortedS ss=true then Classical.choose h else[]
theorem zgW{L ss:List Str}(p:ss.Perm L)(h:sortedS ss=true):gC L=ss:=by have ex:∃ss:List Str,ss.Perm L/\sortedS ss=true:=⟨ss,p,h⟩;unfold gC;rw[dif_pos ex];have z:=Classical.choose_spec ex;exact ziJ (z.1.trans p.symm) z.2 h
theorem ziG{K:Fg}{F:Hp}:∀(ns:List Str),zD K F (ns.map D.str) (ns.map V.str)
 |[]=>zD.nil
 |n::ns=>zD.cons (by simp only[Dat]) (ziG ns)
noncomputable def kstr:List KD->Option (List Str)
 |[]=>some []
 | .str x::l=>(kstr l).map (x::·)
 |_=>none
theorem zhp(L:List Str):kstr (L.map KD.str)=some L:=by
 induction L with
 |nil=>rfl
 |cons x L ih=>simp[kstr,ih]
noncomputable def ziK:Lo2
 |[.set l]=>(kstr l).bind λL=>if L.length<64 then some (.lst ((gC L).map D.str))else none
 |_=>none
noncomputable def setD:Lo2
 |[.lst l]=>(jY l).bind λss=>if ss.length+1<scanBound then some (.set ((TS.setOf ss).map KD.str))else none
 |_=>none
section
variable{K:Fg}{X:Cx}{e:Expr}{f:EO D}{pos:Pos}{x:Str}{p apos cpos:Pos}
theorem zrn(hc:X.calm=true)(hK:X.K=K:=by rfl):vH K X (.type "set") .ow setD:=by
 subst hK;refine⟨_,zky hc,λds d F H vs Q e s h k=>?_⟩;unfold setD at e;split at e
 ·rename_i l;cases e1:jY l with
  |none=>rw[e1]at e;cases e
  |some ss=>
   rw[e1]at e;obtain⟨hz,rfl⟩:=jD e;obtain⟨v,rfl,h1⟩:=h.one;rw[zaN e1]at h1;obtain⟨a,vs,rfl,f,q⟩:=h1.lst_inv;rw[q.strs]at f;exact⟨a,ss,rfl,SqL.of f,hz,λl hl=>k _ _ _ (zF.fresh s hl) ⟨l,rfl,hl,s.free hl,_,qF,rfl⟩⟩
 ·cases e
theorem zml(hc:X.calm=true):vH K X (.builtin "sorted") .ow ziK:=by
 refine⟨_,zgJ hc,λds d F H vs Q e s h k=>?_⟩;unfold ziK at e;split at e
 ·rename_i l;cases e1:kstr l with
  |none=>rw[e1]at e;cases e
  |some L=>
   rw[e1]at e;obtain⟨hz,rfl⟩:=jD e;obtain⟨v,rfl,h1⟩:=h.one;obtain⟨a,rfl,M,f,rfl⟩:=h1;rw[zhp]at e1;cases e1
   refine⟨a,L,rfl,f,hz,λl ss hl hp hs=>k _ _ _ (zF.fresh s hl) ⟨l,rfl,hl,s.free hl,_,qF,?_⟩⟩;rw[zgW hp hs];exact ziG ss
 ·cases e
end
mutual
def pyD:D->PyData
 | .non=>.none
 | .bl b=>.bool b
 | .int i=>.int i
 | .str x=>.str x
 | .tup l=>.tuple (kH l)
 | .lst l=>.list (kH l)
 |_=>.none
def kH:List D->List PyData
 |[]=>[]
 |d::l=>pyD d::kH l
end
mutual
def plD:D->Bool
 | .non=>true
 | .bl _=>true
 | .int _=>true
 | .str _=>true
 | .tup l=>wK l
 | .lst l=>wK l
 |_=>false
def wK:List D->Bool
 |[]=>true
 |d::l=>plD d&&wK l
end
mutual
theorem zjv:∀d:D,(pyD d).hasDict=false
 | .non=>by simp[pyD,PyData.hasDict]
 | .bl _=>by simp[pyD,PyData.hasDict]
 | .int _=>by simp[pyD,PyData.hasDict]
 | .str _=>by simp[pyD,PyData.hasDict]
 | .tup l=>by simp[pyD,PyData.hasDict,zgj l]
 | .lst l=>by simp[pyD,PyData.hasDict,zgj l]
 | .scr _=>by simp[pyD,PyData.hasDict]
 | .dic _ _=>by simp[pyD,PyData.hasDict]
 | .set _=>by simp[pyD,PyData.hasDict]
 | .exc _ _=>by simp[pyD,PyData.hasDict]
theorem zgj:∀l:List D,PyData.hasDictAll (kH l)=false
 |[]=>by simp[kH,PyData.hasDictAll]
 |d::l=>by simp[kH,PyData.hasDictAll,zjv d,zgj l]
end
section
variable{K:Fg}{F H:Hp}{P:Program}{w:World}{h:Heap}
mutual
theorem zhb(ok:HOk P w H h)(sub:zI F H):∀{d:D}{v:V} {u:Value},plD d=true->Dat K F d v->zQ v u->∃as,Reads h u (pyD d) as
 | .non,v,u,_,hd,r=>by rw[hd.non_inv]at r;rw[show u=.none from r];rw[pyD];exact⟨_,.none⟩
 | .bl b,v,u,_,hd,r=>by rw[hd.bl_inv]at r;rw[show u=.bool b from r];rw[pyD];exact⟨_,.bool b⟩
 | .int i,v,u,_,hd,r=>by rw[hd.int_inv]at r;obtain⟨t,rfl⟩:=r;rw[pyD];exact⟨_,.int i t⟩
 | .str x,v,u,_,hd,r=>by rw[hd.str_inv]at r;obtain⟨t,rfl⟩:=r;rw[pyD];exact⟨_,.str x t⟩
 | .tup l,v,u,hp,hd,r=>by
  obtain⟨a,vs,rfl,h1,h2⟩:=hd.tup_inv;cases r
  obtain⟨_,its,rv,o,e,c1,n,c2⟩:=ok a _ (sub _ _ h1);obtain⟨as,ra⟩:=zcQ ok sub (by rw[plD]at hp;exact hp) h2 rv;rw[pyD];exact⟨_,.tuple e c1 c2 (by simpa using ra)⟩
 | .lst l,v,u,hp,hd,r=>by
  obtain⟨a,vs,rfl,h1,h2⟩:=hd.lst_inv;cases r
  obtain⟨_,its,n,rv,e⟩:=ok a _ (sub _ _ h1);obtain⟨as,ra⟩:=zcQ ok sub (by rw[plD]at hp;exact hp) h2 rv;rw[pyD];exact⟨_,.list e rfl rfl (by simpa using ra)⟩
 | .scr _,_,_,hp,_,_=>by simp[plD]at hp
 | .dic _ _,_,_,hp,_,_=>by simp[plD]at hp
 | .set _,_,_,hp,_,_=>by simp[plD]at hp
 | .exc _ _,_,_,hp,_,_=>by simp[plD]at hp
theorem zcQ(ok:HOk P w H h)(sub:zI F H):∀{l:List D}{vs:List V} {us:List Value},wK l=true->zD K F l vs->zL vs us->∃as,ReadsAll h us (kH l) as
 |[],vs,us,_,hd,r=>by rw[hd.nil_inv]at r;cases r;rw[kH];exact⟨_,.nil⟩
 |d::l,vs,us,hp,hd,r=>by
  obtain⟨v,vs',rfl,h1,h2⟩:=hd.cons_inv;cases r with
  |cons r1 r2=>
   rw[wK,Bool.and_eq_true]at hp;obtain⟨as,a1⟩:=zhb ok sub hp.1 h1 r1;obtain⟨bs,a2⟩:=zcQ ok sub hp.2 h2 r2;rw[kH];exact⟨_,.cons a1 a2⟩
end
end
def shD(d:D):Bool:=plD d&&(pyD d).showable&&decide ((pyD d).depth<=100)&&match d with
 | .str x=>decide (x.length<=4000000)
 | .tup _=>decide ((pyD d).shown.length<=4000000)
 | .lst _=>decide ((pyD d).shown.length<=4000000)
 |_=>false
theorem zeP:8000000<=sizeLine:=by rw[sizeLine_eq];decide
section
variable{X:Cx}{k:Nat}{F H:Hp}{pins:AO}{σ:St}{s:Shared}
theorem fmt{d:D}{v:V}{u:Value}{Q:VS}(hr:zW k X.A)(I:Inv X pins σ H s)(sub:zI F H)(hd:Dat X.K F d v)(r:zQ v u)(hs:shD d=true)(h:∀y t s',Inv X pins σ H s'->y.length<=4000000->Q (.str y t) s'):wpAny (model X.prog X.w) X.A (formatField u Str.empty) Q X.xe s:=by
 unfold shD at hs;simp only[Bool.and_eq_true,decide_eq_true_eq]at hs;obtain⟨⟨⟨h1,h2⟩,h3⟩,h4⟩:=hs;obtain⟨as,ra⟩:=zhb I.hok sub h1 hd r;have hu:=hr.un;have hz:(pyD d).depth+2<=102:=by omega
 have big:=zeP;cases d with
 |str x=>
  rw[hd.str_inv]at r;obtain⟨t,rfl⟩:=r;have h4:=of_decide_eq_true h4;exact formatField_str (λt' tk=>h x t' _ (I.tok tk) h4) (by omega)
 |tup l=>
  obtain⟨a,vs,rfl,f1,f2⟩:=hd.tup_inv;cases r
  have h4:=of_decide_eq_true h4;refine formatField_of_reads (h₀:=s.heap) ra h2 (by rw[zjv];intro z;cases z) hr.gd (by omega) (λ_ _ e=>e) (λh' t tk kk=>h _ t _ (I.kept kk) h4) (by omega)
 |lst l=>
  obtain⟨a,vs,rfl,f1,f2⟩:=hd.lst_inv;cases r
  have h4:=of_decide_eq_true h4;refine formatField_of_reads (h₀:=s.heap) ra h2 (by rw[zjv];intro z;cases z) hr.gd (by omega) (λ_ _ e=>e) (λh' t tk kk=>h _ t _ (I.kept kk) h4) (by omega)
 |_=>cases h4
theorem vF(a b:Str):(a++b).length=a.length+b.length:=by simp[Str.length,PySem.Str.cps_append]
noncomputable def rdF(K:Fg)(ρ:En):TE:=λσ H Q=>∃F,Rel K F H ρ σ/\∀(y:Str) F' H',zF F H F' H'->y.length<=4002000->Q (.str y) H'
variable{e:Expr}{f:EO D}{ρ:En}{d:D}{x z:Str}{j j':Int}{p1 p2 p3 pos:Pos}
theorem zqJ(hr:zW k X.A)(he:FP X.K .fz X e f)(hf:f ρ=some d)(hs:shD d=true)(hx:x.length<=1000){c1:Expr}(h1:PE X c1 (tC (.str x))):
  PE X (.JoinedStr [c1,.FormattedValue e (-1) none p2] pos) (rdF X.K ρ):=by
 intro pins s σ H Q I ⟨F,rel,q⟩;have big:=zeP;refine JoinedStr_many (joinParts_cons (thn (h1 pins s σ H _ I (show tC (.str x) σ H (λv H1=>v=.str x/\H1=H)from⟨rfl,rfl⟩)) ?_));rintro u s1 ⟨v,H1,I1,r1,rfl,rfl⟩;obtain⟨t1,rfl⟩:=r1;have e0:(Str.empty++x).length=x.length:=by rw[vF];simp[Str.empty,Str.length]
 refine⟨by rw[e0];omega,joinParts_cons (FormattedValue_plain (thn (he.h ρ d hf pins s1 σ H1 _ I1 (show rdE X.K .fz ρ d σ H1 (λv H2=>∃F2,zF F H1 F2 H2/\Dat X.K F2 d v)from⟨F,rel,λv F2 H2 g hd=>⟨F2,g,hd⟩⟩)) ?_))⟩;rintro u s2 ⟨v,H2,I2,r2,F2,g,hd⟩;refine fmt hr I2 g.fh hd r2 hs λy t s3 I3 hy=>?_
 refine⟨by rw[vF,e0];omega,joinParts_nil ⟨.str _,H2,I3.tok _,⟨_,rfl⟩,q _ F2 H2 g (by rw[vF,e0];omega)⟩ (by rw[vF,e0];omega)⟩
theorem zqI(hr:zW k X.A)(he:FP X.K .fz X e f)(hf:f ρ=some d)(hs:shD d=true)(hx:x.length<=1000)(hz:z.length<=1000){c1 c3:Expr}(h1:PE X c1 (tC (.str x)))(h3:PE X c3 (tC (.str z))):
  PE X (.JoinedStr [c1,.FormattedValue e (-1) none p2,c3] pos) (rdF X.K ρ):=by
 intro pins s σ H Q I ⟨F,rel,q⟩;have big:=zeP;refine JoinedStr_many (joinParts_cons (thn (h1 pins s σ H _ I (show tC (.str x) σ H (λv H1=>v=.str x/\H1=H)from⟨rfl,rfl⟩)) ?_));rintro u s1 ⟨v,H1,I1,r1,rfl,rfl⟩;obtain⟨t1,rfl⟩:=r1;have e0:(Str.empty++x).length=x.length:=by rw[vF];simp[Str.empty,Str.length]
 refine⟨by rw[e0];omega,joinParts_cons (FormattedValue_plain (thn (he.h ρ d hf pins s1 σ H1 _ I1 (show rdE X.K .fz ρ d σ H1 (λv H2=>∃F2,zF F H1 F2 H2/\Dat X.K F2 d v)from⟨F,rel,λv F2 H2 g hd=>⟨F2,g,hd⟩⟩)) ?_))⟩;rintro u s2 ⟨v,H2,I2,r2,F2,g,hd⟩;refine fmt hr I2 g.fh hd r2 hs λy t s3 I3 hy=>?_
 refine⟨by rw[vF,e0];omega,?_⟩;show wpAny _ _ (joinParts _ (eval c3 X.env::[])) _ _ _;refine joinParts_cons (thn (h3 pins s3 σ H2 _ I3 (show tC (.str z) σ H2 (λv H1=>v=.str z/\H1=H2)from⟨rfl,rfl⟩)) ?_);rintro u s4 ⟨v,H4,I4,r4,rfl,rfl⟩;obtain⟨t4,rfl⟩:=r4;refine⟨by rw[vF,vF,e0];omega,joinParts_nil ⟨.str _,H4,I4.tok _,⟨_,rfl⟩,q _ F2 H4 g (by rw[vF,vF,e0];omega)⟩ (by rw[vF,vF,e0];omega)⟩
end
end FL
namespace FX
variable{M:Model}{rest:List Value}{Q:Unit->Shared->Prop}{mN:SV}{fI e:Addr}{oI:Obj}
section
variable{prog:Program}{w:World}{A:Around}{E:VS}{h:Heap}{g:Array GenState}{d:Drawn}{t:Nat}{os:OsState}
variable{nm q:Str}{C N:Addr}{bs bm:List Value}{hdct:Bool}{sn:List Str}{sub:List Value}{ab:Bool}{col:Option Bool}{dd:Option Addr}{k0 k1 k2 k3 k5:Option Value}
structure Tl(bm:List Value):Prop where
 hasB:bm.contains (.type "ValueError")=true
 noAttr:bm.contains (.type "AttributeError")=false
 noName:bm.contains (.type "NameError")=false
 hasBase:bm.contains (.type "BaseException")=true
theorem zkv(F:Tl bm)(hC:h.get? C=some (excClassObj nm q C N bs bm hdct sn sub ab col dd k0 k1 k2 k3 k5 "ValueError.__new__"))(hq:Q () ⟨h,g,d,t,os⟩):wpAny M A (checkBuiltinCall "ValueError.__new__" ⟨.ref C::rest,[]⟩) Q E ⟨h,g,d,t,os⟩:=by
 have hcont:(Value.ref C::bm).contains (.type "ValueError")=true:=by rw[List.contains_cons,F.hasB,Bool.or_true]
 have hstar:=PySem.F.excBase_ValueError.noStar;simp only[checkBuiltinCall,PySem.F.excBase_ValueError.newKind,PySem.F.excBase_ValueError.newSplit,PySem.F.excBase_ValueError.newRow]
 repeat (first|refine wpAny_loadPart_at hC ?_|(refine wpAny_isSubtype_exc hC ?_;rw[hcont])|refine wpAny_staticBase_exc hC ?_|refine wpAny_madeBy_exc hC ?_|simp only[bne_self_eq_false,Bool.false_eq_true,if_false]|wp_step)
 exact hq
theorem znL(F:Tl bm){R:Result->Shared->Prop}(hC:h.get? C=some (excClassObj nm q C N bs bm hdct sn sub ab col dd k0 k1 k2 k3 k5 "ValueError.__new__"))(hq:R (.ok (.ret (.ref (h.objs.size+1)))) ⟨(h.push {cls:=.type "tuple",data:=.seq rest.toArray}).push
   {cls:=.ref C,data:=.fields #[.ref h.objs.size,.none,.none,.none,.bool false,.none]},g,d,t,os⟩)(hrest:rest.length<=sizeLine:=by size_fits):
  codeAny (model prog w) A (.builtin "ValueError.__new__" ⟨.ref C::rest,[]⟩) R ⟨h,g,d,t,os⟩:=by
 have hends:=PySem.F.excBase_ValueError.ends;have hcB:(Value.ref C::bm).contains (.type "ValueError")=true:=by rw[List.contains_cons,F.hasB,Bool.or_true]
 have hcA:(Value.ref C::bm).contains (.type "AttributeError")=false:=by rw[List.contains_cons,F.noAttr];rfl
 have hcN:(Value.ref C::bm).contains (.type "NameError")=false:=by rw[List.contains_cons,F.noName];rfl
 refine codeAny_builtinAt PySem.F.excBase_ValueError.entry ?_;unfold Builtin.«BaseException.__new__»;refine PySem.wpAt_bind ?_;show PySem.wpAt _ _ _ (stack>>=_) _ _ _;refine PySem.wpAt_bind (PySem.wpAt_stack λp below=>wpAt_of_wpAny ?_)
 wp_walk
 refine wpAt_of_wpAny ?_;rw[PySem.F.excBase_ValueError.owner]
 repeat (first|with_reducible refine wpAny_madeHere_exc PySem.F.excBase_ValueError.canon hC ?_|with_reducible refine wpAny_loadPart_at hC ?_|(with_reducible refine wpAny_isSubtype_exc hC ?_;first|rw[hcB]|rw[hcA]|rw[hcN])|wp_step)
 show R _ _;rw[Heap.size_push];exact hq
theorem zlu{name:Str}{v:Value}{Q:Option Value->Shared->Prop}(hC:h.get? C=some (excClassObj nm q C N bs bm hdct sn sub ab col dd k0 k1 k2 k3 k5 "ValueError.__new__"))(hn:h.Ns N mN)(hv:mN name=some v)(hq:Q (some v) ⟨h,g,d,t,os⟩):wpAny M A (typeLookup (.ref C) name) Q E ⟨h,g,d,t,os⟩:=by rw[typeLookup_eq];refine wpAny_bind (wpAny_mroOf_exc hC ?_);rw[lookupAlong_cons];refine wpAny_bind (wpAny_classOwn_exc hC hn ?_);rw[hv];exact wpAny_pure hq
theorem ziz(F:Tl bm){Q:Fin->Shared->Prop}(hC:h.get? C=some (excClassObj nm q C N bs bm hdct sn sub ab col dd k0 k1 k2 k3 k5 "ValueError.__new__"))(hn:h.Ns N mN)(hi:mN "__init__"=some (.ref fI))(hfI:h.get? fI=some oI)(hfc:oI.cls=.type "function")(hq:∀h' e,Heap.MadeExcOf h h' e (.ref C) rest->h.objs.size<=e->
   wpAny (model prog w) A (call (.ref fI) (.ref e::rest)) (λr s'=>r=.none/\Q (.done (.ret (.ref e))) s') E ⟨h',g,d,t,os⟩)(hrest:rest.length<=sizeLine:=by size_fits):
  wpAny (model prog w) A (Builtin.«type.__call__» ⟨.ref C::rest,[]⟩) Q E ⟨h,g,d,t,os⟩:=by
 repeat (first|with_reducible refine wpAny_loadPart_at hC ?_|with_reducible refine wpAny_madeBy_exc hC ?_|wp_step)
 refine codeAny_call_builtin_code (Code.quiet_builtin _ PySem.F.excBase_ValueError.quiet) (zkv F hC ?_);refine znL F hC ?_ hrest;show wpAny _ _ _ _ _ _;have hC₁:=Heap.get?_push_of_some {cls:=.ref C,data:=.fields #[.ref h.objs.size,.none,.none,.none,.bool false,.none]}
  (Heap.get?_push_of_some {cls:=.type "tuple",data:=.seq rest.toArray} hC)
 have hfI₁:=Heap.get?_push_of_some {cls:=.ref C,data:=.fields #[.ref h.objs.size,.none,.none,.none,.bool false,.none]}
  (Heap.get?_push_of_some {cls:=.type "tuple",data:=.seq rest.toArray} hfI)
 have hn₁:((h.push {cls:=.type "tuple",data:=.seq rest.toArray}).push {cls:=.ref C,data:=.fields #[.ref h.objs.size,.none,.none,.none,.bool false,.none]}).Ns N mN:=
  let⟨o,es,ep,e,r⟩:=hn;⟨o,es,ep,Heap.get?_push_of_some _ (Heap.get?_push_of_some _ e),r⟩
 have hget:((h.push {cls:=.type "tuple",data:=.seq rest.toArray}).push
   {cls:=.ref C,data:=.fields #[.ref h.objs.size,.none,.none,.none,.bool false,.none]}).get? (h.objs.size+1)=some
   {cls:=.ref C,data:=.fields #[.ref h.objs.size,.none,.none,.none,.bool false,.none]}:=by heap_get
 have hcC:(Value.ref C::bm).contains (.ref C)=true:=by simp
 unfold isInstance
 repeat (first|with_reducible refine wpAny_loadPart_at hget ?_|(with_reducible refine wpAny_isSubtype_exc hC₁ ?_;rw[hcC])|wp_step)
 show wpAny _ _ (typeLookup (.ref C) _) _ _ _;refine zlu hC₁ hn₁ hi ?_;refine wpAny_holding (wpAny_bind ?_);unfold bindSpecial;refine wpAny_bind (wpAny_typeOf (T:="function") ⟨_,hfI₁,hfc⟩ ?_);rw[if_pos (by decide)];refine wpAny_pure (wpAny_bind (wpAny_mono (hq _ (h.objs.size+1) ⟨λb o hb=>Heap.get?_push_of_some _ (Heap.get?_push_of_some _ hb),Heap.get?_none_of_le (Nat.le_succ _),h.objs.size,hget,Heap.get?_none_of_le (Nat.le_refl _),?_⟩ (Nat.le_succ _)) (λr s' hr=>?_) λ_ _ x=>x))
 ·exact Heap.get?_push_of_some _ (Heap.get?_push_at rfl rfl)
 ·obtain⟨rfl,hQ⟩:=hr
  wp_walk
  exact hQ
theorem call_cls(F:Tl bm){Q:VS}(hC:h.get? C=some (excClassObj nm q C N bs bm hdct sn sub ab col dd k0 k1 k2 k3 k5 "ValueError.__new__"))(hn:h.Ns N mN)(hi:mN "__init__"=some (.ref fI))(hfI:h.get? fI=some oI)(hfc:oI.cls=.type "function")(hq:∀h' e,Heap.MadeExcOf h h' e (.ref C) rest->h.objs.size<=e->
   wpAny (model prog w) (A.under (.builtin "type.__call__" ⟨.ref C::rest,[]⟩)) (call (.ref fI) (.ref e::rest)) (λr s'=>r=.none/\Q (.ref e) s') E ⟨h',g,d,t,os⟩)(hrest:rest.length<=sizeLine:=by size_fits):
  wpAny (model prog w) A (call (.ref C) rest) Q E ⟨h,g,d,t,os⟩:=by
 have f1:=tc_lookup;have f2:=tc_bind (.ref C);have hT:(⟨h,g,d,t,os⟩:Shared).TypeIs (.ref C) "type":=⟨_,hC,rfl⟩;refine wpAny_call (codeAny_of_tree ?_);show wpAny _ _ (callAny (.ref C) _) _ _ _
 repeat (any_goals(first|assumption|with_reducible refine wpAny_loadPart_at hC ?_|wp_step))
 refine⟨rfl,?_⟩;refine codeAny_call_builtin_at (Code.quiet_builtin _ (by decide+kernel)) entry_typeCall (wpAny_check_type_call_sub hC (ziz (hrest:=hrest) F hC hn hi hfI hfc λh' e hm hl=>?_));exact hq h' e hm hl
theorem zio(F:Tl bm){oe:Obj}(hC:h.get? C=some (excClassObj nm q C N bs bm hdct sn sub ab col dd k0 k1 k2 k3 k5 "ValueError.__new__"))(he:h.get? e=some oe)(hcls:oe.cls=.ref C)(hq:Q () ⟨h,g,d,t,os⟩):
  wpAny M A (checkBuiltinCall "ValueError.__init__" ⟨.ref e::rest,[]⟩) Q E ⟨h,g,d,t,os⟩:=by
 have hcB:(Value.ref C::bm).contains (.type "ValueError")=true:=by rw[List.contains_cons,F.hasB,Bool.or_true]
 have hshort:=PySem.F.excBase_ValueError.noStar;simp only[checkBuiltinCall,PySem.F.excBase_ValueError.initKind,PySem.F.excBase_ValueError.initSplit,PySem.F.excBase_ValueError.initRow]
 repeat (first|(with_reducible refine wpAny_loadPart_at he ?_;rw[hcls])|with_reducible refine wpAny_loadPart_at hC ?_|(with_reducible refine wpAny_isSubtype_exc hC ?_;rw[hcB])|wp_step)
 refine wpAny_onRaise ?_;rw[show∀(a b:String) (n:Nat),Bind.check ⟨.positional,"*","ValueError",.self,[⟨"args",.varPos,false⟩]⟩ a b n (List.map (λx=>x.fst) ({pos:=Value.ref e::rest}:Args).kw)=pure ()from
  λa b n=>check_star_args _ _ _ _ _ _]
 exact wpAny_pure hq
theorem call_init(F:Tl bm){tt:Addr}{u:Value}{Q:VS}(hC:h.get? C=some (excClassObj nm q C N bs bm hdct sn sub ab col dd k0 k1 k2 k3 k5 "ValueError.__new__"))(he:h.get? e=some {cls:=.ref C,data:=.fields #[.ref tt,.none,.none,.none,.bool false,.none]})(hq:∀h',(∀b o,b≠e->h.get? b=some o->h'.get? b=some o)->(∃t',h'.get? e=some {cls:=.ref C,data:=.fields #[.ref t',.none,.none,.none,.bool false,.none]})->Q .none ⟨h',g,d,t,os⟩):
  wpAny (model prog w) A (call (.builtin "ValueError.__init__") [.ref e,u]) Q E ⟨h,g,d,t,os⟩:=by
 refine wpAny_call (codeAny_call_builtin PySem.F.excBase_ValueError.init.plain PySem.F.excBase_ValueError.initEntry (zio F hC he rfl ?_))
 wp_walk
 refine hq _ (λb o hb e=>?_) ⟨h.objs.size,?_⟩
 ·rw[Heap.get?_update_other _ _ (Ne.symm hb)];exact Heap.get?_push_of_some _ e
 ·rw[Heap.get?_update_self _ (Heap.get?_push_of_some _ he) rfl];rfl
end
open PySem Builtin Builtin.ObjectAttr
abbrev bm0:List Value:=[.type "ValueError",.type "Exception",.type "BaseException",.type "object"]
inductive Tail(h:Heap)(ns:List Str):List Value->Prop
 |base:Tail h ns bm0
 |own {A:Addr}{c0:Value} {dd:Option Addr}{cd:ClassData} {sl:Array (Option Value)}{mA:SV} {tl:List Value}:
   h.get? A=some {cls:=c0,dict:=dd,data:=.cls cd,slots:=sl}->h.Ns cd.ns mA->(∀n∈ns,mA n=none)->Tail h ns tl->Tail h ns (.ref A::tl)
variable{h:Heap}{ns:List Str}
theorem Tail.tl{tl:List Value}(T:Tail h ns tl):Tl tl:=by
 induction T with
 |base=>exact⟨by decide+kernel,by decide+kernel,by decide+kernel,by decide+kernel⟩
 |own a b c _ ih=>exact⟨by rw[List.contains_cons,ih.hasB,Bool.or_true],by rw[List.contains_cons,ih.noAttr];rfl,by rw[List.contains_cons,ih.noName];rfl,by rw[List.contains_cons,ih.hasBase,Bool.or_true]⟩
theorem Tail.has{tl:List Value}(T:Tail h ns tl){T':String}(hb:bm0.contains (.type T')=true):tl.contains (.type T')=true:=by
 induction T with
 |base=>exact hb
 |own a b c _ ih=>rw[List.contains_cons,ih,Bool.or_true]
variable{y:Option Value}{o:Obj}
section
variable{prog:Program}{w:World}{A:Around}{E:VS}{h:Heap}{g:Array GenState}{d:Drawn}{t:Nat}{os:OsState}
variable{nm q:Str}{C N x:Addr}{bs bm:List Value}{hdct:Bool}{sn:List Str}{sub:List Value}{ab:Bool}{col:Option Bool}{dd:Option Addr}{k0 k1 k2 k3 k5:Option Value}{newId:String}{mN mA:SV}{name:Str}{v:Value}{ns:List Str}
theorem Tail.look{Q:Option Value->Shared->Prop}(T:Tail h ns bm)(hm:name∈ns)(hB:typeLookup (.type "ValueError") name=pure y)(hq:Q y ⟨h,g,d,t,os⟩):
  wpAny M A (lookupAlong bm name) Q E ⟨h,g,d,t,os⟩:=by
 induction T with
 |base=>
  have hr:lookupAlong bm0 name=pure y:=by rw[typeLookup_eq,PySem.F.excBase_ValueError.mroIs]at hB;exact hB
  rw[hr];exact wpAny_pure hq
 |own a b c _ ih=>
  rw[lookupAlong_cons];refine wpAny_bind ?_;unfold classOwn;refine wpAny_bind ?_;unfold classData;refine wpAny_bind (wpAny_load a (wpAny_pure (wpAny_nsGet b ?_)));rw[c _ hm];exact ih
theorem look(hC:h.get? C=some (excClassObj nm q C N bs bm hdct sn sub ab col dd k0 k1 k2 k3 k5 newId)){Q:Option Value->Shared->Prop}(hn:h.Ns N mN)(hna:mN name=none)(T:Tail h ns bm)(hm:name∈ns)(hB:typeLookup (.type "ValueError") name=pure y)(hq:Q y ⟨h,g,d,t,os⟩):wpAny M A (typeLookup (.ref C) name) Q E ⟨h,g,d,t,os⟩:=by rw[typeLookup_eq];refine wpAny_bind (wpAny_mroOf_exc hC ?_);rw[lookupAlong_cons];refine wpAny_bind (wpAny_classOwn_exc hC hn ?_);rw[hna];exact T.look hm hB hq
theorem Tail.passes(T:Tail h ns bm)(self:Value)(hp:refuseLoop self "__setattr__" bm0=pure ()):refuseLoop self "__setattr__" bm=pure ():=by
 induction T with
 |base=>exact hp
 |own a b c _ ih=>rw[refuseLoop_ref];exact ih
theorem zmh{nameV:Value}(T:Tail h ns bm)(hC:h.get? C=some (excClassObj nm q C N bs bm true sn sub ab col dd k0 k1 k2 k3 k5 newId))(hx:h.get? x=some o)(hc:o.cls=.ref C)(hq:Q () ⟨h,g,d,t,os⟩):
  wpAny M A (checkBuiltinCall "object.__setattr__" ⟨[.ref x,nameV,v],[]⟩) Q E ⟨h,g,d,t,os⟩:=by
 have hcB:(Value.ref C::bm).contains (.type "object")=true:=by rw[List.contains_cons,T.has (by decide+kernel),Bool.or_true]
 have ha:=PySem.F.store_ValueError.args (.ref x) nameV v;simp only[checkBuiltinCall,PySem.F.store_ValueError.kind,PySem.F.store_ValueError.split];refine wpAny_bind ?_
 ·unfold isInstance
  repeat (first|(with_reducible refine wpAny_loadPart_at hx ?_;rw[hc])|(with_reducible refine wpAny_isSubtype_exc hC ?_;rw[hcB])|wp_step)
  exact hq
theorem zfU{tk:Tok}{vs:Array Value}{Q:Fin->Shared->Prop}(T:Tail h ns bm)(hm:name∈ns)(hC:h.get? C=some (excClassObj nm q C N bs bm true sn sub ab col dd k0 k1 k2 k3 k5 newId))(hn:h.Ns N mN)(hna:mN name=none)(hB:typeLookup (.type "ValueError") name=pure none)(hx:h.get? x=some o)(hc:o.cls=.ref C)(hdn:o.dict=none)(hdt:o.data=.fields vs)(hq:∀h' tk' da,h'.get? x=some {o with dict:=some da}->h'.Ns1 da (λy=>if y=name then some v else none)->h.objs.size<=da->da≠x->
   (∀b u,b≠x->h.get? b=some u->h'.get? b=some u)->Q (.done (.ret .none)) ⟨h',g,d,tk',os⟩):
  wpAny (model prog w) A (Builtin.«object.__setattr__» ⟨[.ref x,.str name tk,v],[]⟩) Q E ⟨h,g,d,t,os⟩:=by
 have hpass:=T.passes (.ref x) (PySem.F.store_ValueError.passes (.ref x));unfold Builtin.«object.__setattr__»
 repeat (first|rw[refuse_eq]|(rw[refuseLoop_ref,hpass])|(with_reducible refine wpAny_loadPart_at hx ?_;rw[hc])|with_reducible refine wpAny_mroOf_exc hC ?_|(with_reducible refine look hC hn hna T hm hB ?_)|wp_step)
 rw[hdn,if_neg (by simp[typeHasDict])];split
 ·rename_i hcd;cases hcd
 split
 ·rename_i c hcd;rw[hdt]at hcd;cases hcd
 ·have hx₁:(h.push {cls:=.type "dict",data:=.dict #[]}).get? x=some o:=Heap.get?_push_of_some _ hx;have hxs:x≠h.objs.size:=Nat.ne_of_lt (Heap.lt_size hx);refine wpAny_bind (wpAny_alloc' ?_);refine wpAny_bind (wpAny_update' hx₁ ?_);refine wpAny_pure ?_;have hgd:((h.push {cls:=.type "dict",data:=.dict #[]}).update x λo=>{cls:=o.cls,dict:=some h.objs.size,data:=o.data,slots:=o.slots}).get? h.objs.size
    =some {cls:=.type "dict",data:=.dict #[]}:=
   (Heap.get?_update_ne _ _ _ _ hxs.symm).trans (Heap.get?_push_at rfl rfl)
  have hnd:((h.push {cls:=.type "dict",data:=.dict #[]}).update x λo=>{cls:=o.cls,dict:=some h.objs.size,data:=o.data,slots:=o.slots}).Ns h.objs.size (λ_=>none):=
   ⟨_,#[],_,hgd,rfl,λe he=>absurd he (by simp),λ_=>rfl⟩
  show wpAny _ _ (storeInDict h.objs.size (.str name tk) name v) _ _ _;unfold storeInDict newKeyGuard;refine wpAny_bind (wpAny_pure (wpAny_bind (wpAny_nsSet1 (Heap.Ns1.of_empty hnd) λh' hn' hs=>?_)));obtain⟨oD,esD,epD,hoD,hdD,hcD⟩:=hn'.count (Within.cons name v Within.nil);refine wpAny_bind (wpAny_lookBehind hoD (by rw[hdD];exact pastItsLine_dict (Nat.le_trans hcD (by rw[List.length_cons,List.length_nil,sizeLine_eq];omega))) ?_)
  wp_walk
  refine hq h' _ h.objs.size ?_ hn' (Nat.le_refl _) hxs.symm (λb u hbx hb=>?_)
  ·refine(hs.2 x hxs).trans (Heap.get?_update_self _ hx₁ ?_);have hfr:=(Heap.get?_some_iff.mp hx).2;obtain⟨oc,od,odt,osl⟩:=o;cases odt<;>first|rfl|exact hfr
  ·exact(hs.2 b (Nat.ne_of_lt (Heap.lt_size hb))).trans ((Heap.get?_update_ne _ _ _ _ hbx).trans (Heap.get?_push_of_some _ hb))
theorem set_attr{vs:Array Value}(T:Tail h ns bm)(hm:name∈ns)(hms:Str.ofString "__setattr__"∈ns)(hC:h.get? C=some (excClassObj nm q C N bs bm true sn sub ab col dd k0 k1 k2 k3 k5 newId))(hn:h.Ns N mN)(hns:mN "__setattr__"=none)(hna:mN name=none)(hB:typeLookup (.type "ValueError") name=pure none)(hx:h.get? x=some o)(hc:o.cls=.ref C)(hdn:o.dict=none)(hdt:o.data=.fields vs)(hq:∀h' tk' da,h'.get? x=some {o with dict:=some da}->h'.Ns1 da (λy=>if y=name then some v else none)->h.objs.size<=da->da≠x->
   (∀b u,b≠x->h.get? b=some u->h'.get? b=some u)->Q () ⟨h',g,d,tk',os⟩)(hsz:name.length<=sizeLine:=by size_fits):
  wpAny (model prog w) A (setAttr (.ref x) name v) Q E ⟨h,g,d,t,os⟩:=by
 have f3:=PySem.F.store_ValueError.slot.bind (.ref x);unfold setAttr callSpecial? specialOf
 repeat (any_goals(first|assumption|(with_reducible refine wpAny_loadPart_at hx ?_;rw[hc])|(with_reducible refine look hC hn hns T hms PySem.F.store_ValueError.slot.lookup ?_)|wp_step))
 refine codeAny_call_builtin PySem.F.store_ValueError.slot.plain PySem.F.store_ValueError.entry (zmh T hC hx hc (zfU T hm hC hn hna hB hx hc hdn hdt λh' tk' da a1 a2 a3 a4 a5=>?_))
 repeat (any_goals(first|assumption|wp_step))
 exact hq h' tk' da a1 a2 a3 a4 a5
end
end FX
namespace FL
open L2
def zcM:List Str:=["__setattr__","place","rule","sign","term","rules","__getattribute__","__getattr__"]
def yB(e C:Addr):HO:=.ext λh=>∃t,h.get? e=some {cls:=.ref C,data:=.fields #[.ref t,.none,.none,.none,.bool false,.none]}
def vG(e C da:Addr):HO:=.ext λh=>∃t,h.get? e=some {cls:=.ref C,dict:=some da,data:=.fields #[.ref t,.none,.none,.none,.bool false,.none]}
structure XC(K:Fg)(C fI:Addr):Prop where
 cls:∀h:Heap,K.In h->∃nm q N bs bm sn sub ab col dd k0 k1 k2 k3 k5 mN,h.get? C=some (excClassObj nm q C N bs bm true sn sub ab col dd k0 k1 k2 k3 k5 "ValueError.__new__")/\h.Ns N mN/\mN "__init__"=some (.ref fI)/\
  (∀n∈zcM,mN n=none)/\FX.Tail h zcM bm
 fn:∀h:Heap,K.In h->∃o,h.get? fI=some o/\o.cls=.type "function"
 kp:PySem.W.keepIn K (.ref C)=true
def SpI(K:Fg)(C:Addr)(fld:Str):Sp:=λvs H Q _=>∃e v F d,vs=[.ref e,v]/\H e=some (yB e C)/\zI F H/\F e=none/\Dat K F d v/\shD d=true/\
 ∀F' H' da,zF F H F' H'->H' da=none->da≠e->Q .non (upd (upd H' da (.xd [(fld,v)])) e (vG e C da))
def SpE(K:Fg):Sp:=λvs H Q _=>∃e C y fI,vs=[.ref e,.str y]/\H e=some (yB e C)/\XC K C fI/\Q .non H
variable{w:World}{h:Heap}{e fE:Addr}{u:Value}{K:Fg}{pl:Sem Bool}
section
variable{X:Cx}{pins:AO}{σ:St}{H:Hp}{s:Shared}{Q:VK}{C fI:Addr}{k:Nat}{fd:FuncData}{ps:List Str}{fld:Str}
theorem zjZ{P:Program}{H':Hp}{C t:Addr}(he:h.get? e=some {cls:=.ref C,data:=.fields #[.ref t,.none,.none,.none,.bool false,.none]}):qZ P w H' h e (yB e C):=
 ⟨⟨t,he⟩,⟨_,he⟩,λh1 h2 ⟨t',q⟩ k=>⟨t',k _ q⟩⟩
theorem zmY{v:V}{F:Hp}{d:D}{Q:VS}(M:XC X.K C fI)(Fn:jA X.prog X.w X.K X.mg X.base CX0 k fI fd ps (SpI X.K C fld))(hr:zW (k+1) X.A)(hb:kM X.K fd ps [])(I:Inv X pins σ H s)(r:zQ v u)(sub:zI F H)(hd:Dat X.K F d v)(hs:shD d=true)(h:∀e da F' H' s',s.heap.objs.size<=e->H e=none->zF F (upd H e (yB e C)) F' H'->H' da=none->da≠e->Inv X pins σ (upd (upd H' da (.xd [(fld,v)])) e (vG e C da)) s'->Q (.ref e) s'):
  wpAny (model X.prog X.w) X.A (call (.ref C) [u]) Q X.xe s:=by
 obtain⟨nm,q,N,bs,bm,sn,sb,ab,col,dd,k0,k1,k2,k3,k5,mN,hC,hN,hi,hno,T⟩:=M.cls s.heap I.kIn;obtain⟨oI,hfI,hfc⟩:=M.fn s.heap I.kIn;obtain⟨hp,g,dr,tk,os⟩:=s;refine FX.call_cls T.tl hC hN hi hfI hfc (λh' e hm hle=>?_) (by simp[sizeLine_eq]);obtain⟨t,he,_,_⟩:=hm.there;have hf:H e=none:=I.hok.fresh hle;have I2:Inv X pins σ (upd H e (yB e C)) ⟨h',g,dr,tk,os⟩:=I.laid (t':=tk) hm.keeps hle (zjZ he);have hF:F e=none:=sub.free hf;have sub2:zI F (upd H e (yB e C)):=λb o hb=>by rw[zV (qK hb hF)];exact sub _ _ hb
 have hsp:SpI X.K C fld [.ref e,v] (upd H e (yB e C)) (λv2 H2=>v2=.non/\∃F' H' da,zF F (upd H e (yB e C)) F' H'/\H' da=none/\da≠e/\H2=upd (upd H' da (.xd [(fld,v)])) e (vG e C da)) E0:=
  ⟨e,v,F,d,rfl,qF,sub2,hF,hd,hs,λF' H' da g1 h1 h2=>⟨rfl,F',H',da,g1,h1,h2,rfl⟩⟩
 have r2:zL [V.ref e,v] [Value.ref e,u]:=.cons rfl (.cons r .nil);have hl:([Value.ref e,u]++[]).length=ps.length:=by rw[List.append_nil,←r2.length];exact Fn.len _ _ _ _ hsp
 have hbn:=hb ⟨h',g,dr,tk,os⟩ [.ref e,u] I2.kIn hl;rw[List.append_nil]at hbn;refine wpAny_call (codeAny_mono (Fn.run _ X.stack ⟨h',g,dr,tk,os⟩ _ ⟨[.ref e,u],[]⟩ [.ref e,u] [.ref e,v] _ E0 (hr.make C [u] []) (I2.env0.make C [u] []) hbn r2 hsp) λr s' hq'=>?_);cases r with
 |error ex=>exact False.elim (by exact hq')
 |ok fl=>
  cases fl with
  |ret z=>
   obtain⟨v',H2,I3,rv,ev,F',H',da,g1,h1,h2,eh⟩:=I2.after hq';subst ev eh;exact⟨rv,h e da F' H' s' hle hf g1 h1 h2 I3⟩
  |next=>exact False.elim hq'
  |brk=>exact False.elim hq'
  |cont=>exact False.elim hq'
variable{e1 e2:Expr}{t:TA}{p pos apos cpos:Pos}{x:Str}
theorem zka{C:Addr}(I:Inv X pins σ H s)(he:H e=some (yB e C)):∃t,s.heap.get? e=some {cls:=.ref C,data:=.fields #[.ref t,.none,.none,.none,.bool false,.none]}:=(I.hok e _ he).1
theorem zkM{H:Hp}{a:Addr}{o:HO}(h:H a=some o):upd H a o=H:=by
 funext b;unfold upd;split
 ·rename_i q;rw[q];exact h.symm
 ·rfl
theorem ziQ{C:Addr}{fI:Addr}(I:Inv X pins σ H s)(he:H e=some (yB e C))(M:XC X.K C fI)(h:Q .non H):wpAny (model X.prog X.w) X.A (call (.builtin "ValueError.__init__") [.ref e,u]) (EP X pins σ Q) X.xe s:=by
 obtain⟨nm,q,N,bs,bm,sn,sb,ab,col,dd,k0,k1,k2,k3,k5,mN,hC,hN,hi,hno,T⟩:=M.cls s.heap I.kIn;obtain⟨t,hx⟩:=zka I he;obtain⟨hp,g,dr,tk,os⟩:=s;refine FX.call_init T.tl hC hx λh' hk h_=>?_
 obtain⟨t',hx'⟩:=h_;have I2:Inv X pins σ (upd H e (yB e C)) ⟨h',g,dr,tk,os⟩:=I.write (t':=tk) (by rw[he];trivial) (.inl rfl) hk ⟨_,hx'⟩ (zjZ hx');rw[zkM he]at I2;exact⟨.non,H,I2,rfl,h⟩
theorem zmQ{prog:Program}{A:Around}{E:VS}{s:Shared}{Q:Value×List Value->Shared->Prop}(KX:K.In s.heap)(h:∀tk,Q (.builtin "ValueError.__init__",[]) {s with toks:=tk}):
  wpAny (model prog w) A (getMethod (.type "ValueError") "__init__" pl) Q E s:=by
 have ht:typeOf (.type "ValueError")=pure (.type "type"):=PySem.W.kitMeta_of (by decide+kernel);have hsp:specialOf (.type "ValueError") "__getattribute__"=pure (some (.builtin "type.__getattribute__")):=by
  show(typeOf (.type "ValueError")>>=λt=>typeLookup t "__getattribute__")=_;rw[ht,pure_bind,typeLookup_type,builtinLookup_eq_fast]
  kernel_rfl
 unfold getMethod;rw[hsp];refine wpAny_bind (wpAny_pure ?_);dsimp only;rw[if_pos PySem.W.canon_tga];refine wpAny_bind ?_;have hstub:opaqueClassAbove (.type "ValueError")=pure none:=by unfold opaqueClassAbove;dsimp only;rw[show Manifest.isStub "ValueError"=false from by decide+kernel];rfl
 have L0:PySem.W.Looks (model prog w) s.heap (typeOf (.type "ValueError")) (.type "type"):=PySem.W.Looks.of_pure ht;have LO:PySem.W.Looks (model prog w) s.heap (opaqueClassAbove (.type "ValueError")) none:=PySem.W.Looks.of_pure hstub;have hg:PySem.W.findIn K (.type "type") "__getattribute__"=some (some (.builtin "type.__getattribute__")):=PySem.W.type_tga;refine PySem.W.cls_open (r:=.val (.builtin "ValueError.__init__")) KX LO L0 hg (PySem.W.looks_hook KX (r:=none) (by rfl)) (by show PySem.W.subIn K _ _=_;rfl) (by rfl) ?_;exact wpAny_pure (PySem.W.handed_on rfl (wpAny_pure (h _)))
theorem zle(hg:Gl X "ValueError")(hm:X.mg "ValueError"=none)(ha:PA X [e1,e2] t)(hst:starEach [e1,e2] X.env=(false,eval e1 X.env)::starEach [e2] X.env:=by rfl)(hpl:(backTo pos (starEach [e2] X.env)).any (·.1)=false:=by rfl)(ht:eval (.Call (.Attribute (.Name "ValueError" p) "__init__" apos) [e1,e2] [] pos) X.env=(do
   let ov ←eval (.Name "ValueError" p) X.env
   standAt apos.atName
   let(f,first) ←holding [ov] (getMethod ov "__init__" pl)
   callWith pos f first (backTo pos (starEach [e1,e2] X.env)) (backToKw pos (keywordEach [] X.env))):=by rfl):
  PE X (.Call (.Attribute (.Name "ValueError" p) "__init__" apos) [e1,e2] [] pos) (λσ H Q=>t σ H λvs H1=>∃e C y fI,vs=[.ref e,.str y]/\H1 e=some (yB e C)/\XC X.K C fI/\Q .non H1):=by
 intro pins s σ H Q I h;refine PySem.W.methodCall_KW (pl:=pl) (zdj I hg hm (by decide+kernel:bootBuiltins "ValueError"=some (.type "ValueError")) ?_) ht;refine zmQ I.kIn λtk=>?_
 have I1:=I.tok tk;have hA:=ha pos pins {s with toks:=tk} σ H _ I1 h;rw[hst]at hA ⊢;refine Calls.callWith_builtin (by show(false||(backTo pos (starEach [e2] X.env)).any (·.1))=false;rw[hpl];rfl) (Calls.evalArgs_plain ?_);refine thn hA λus s2 h_=>?_
 obtain⟨vs,H2,I2,r2,e,C,y,fI,ev,he,M,q2⟩:=h_;subst ev;cases r2 with
 |cons ra rb=>
  cases rb with
  |cons rc rd=>
   cases rd
   cases ra
   exact ziQ I2 he M q2
structure XE(K:Fg)(CE fE:Addr):Prop where
 sp:PySem.W.specialIn K (.ref CE) "__getattribute__"=some (some (.builtin "type.__getattribute__"))
 rd:PySem.W.readsIn K CE (.type "type")=true
 fc:PySem.W.findCls K (.ref CE) (.type "type") "__init__"=some (.val (.ref fE))
 kp:PySem.W.keepIn K (.ref fE)=true
theorem zlg{CE:Addr}(B:XE X.K CE fE)(Fn:jA X.prog X.w X.K X.mg X.base CX0 k fE fd ps (SpE X.K))(hr:zW k X.A)(hb:kM X.K fd ps [])(hg:Gl X "EndError")(hm:X.mg "EndError"=some (.ref CE))(ha:PA X [e1,e2] t)(hst:starEach [e1,e2] X.env=(false,eval e1 X.env)::starEach [e2] X.env:=by rfl)(hpl:(backTo pos (starEach [e2] X.env)).any (·.1)=false:=by rfl)(ht:eval (.Call (.Attribute (.Name "EndError" p) "__init__" apos) [e1,e2] [] pos) X.env=(do
   let ov ←eval (.Name "EndError" p) X.env
   standAt apos.atName
   let(f,first) ←holding [ov] (getMethod ov "__init__" pl)
   callWith pos f first (backTo pos (starEach [e1,e2] X.env)) (backToKw pos (keywordEach [] X.env))):=by rfl):
  PE X (.Call (.Attribute (.Name "EndError" p) "__init__" apos) [e1,e2] [] pos) (λσ H Q=>t σ H λvs H1=>SpE X.K vs H1 Q E0):=by
 intro pins s σ H Q I h;refine PySem.W.methodCall_KW (pl:=pl) (zbP I hg hm ?_) ht;refine PySem.W.method_cls I.kIn B.sp (PySem.W.cls_value I.kIn B.rd B.fc rfl ?_);have I1:=I.tok (s.toks+1);refine PySem.W.callWith_K (first:=[]) (h₀:=X.base) I.ok.mod.kin B.kp (thn (ha pos pins _ σ H _ I1 h) λus s2 ⟨vs,H2,I2,r,q2⟩=>⟨I2.kIn,?_⟩) hst hpl;exact zmt (us:=us) (vs:=vs) (dvs:=[]) (ds:=[]) Fn hr hb .nil zjo I2 r (by rw[List.append_nil];exact q2)
theorem zqw{C fI:Addr}{v:V}{Q:Unit->Shared->Prop}(I:Inv X pins σ H s)(he:H e=some (yB e C))(M:XC X.K C fI)(r:zQ v u)(hf:fld∈zcM)(hB:typeLookup (.type "ValueError") fld=pure none)(hz:fld.length<=sizeLine)(h:∀da s',H da=none->da≠e->Inv X pins σ (upd (upd H da (.xd [(fld,v)])) e (vG e C da)) s'->Q () s'):wpAny (model X.prog X.w) X.A (setAttr (.ref e) fld u) Q X.xe s:=by
 obtain⟨nm,q,N,bs,bm,sn,sb,ab,col,dd,k0,k1,k2,k3,k5,mN,hC,hN,hi,hno,T⟩:=M.cls s.heap I.kIn;obtain⟨t,hx⟩:=zka I he;obtain⟨hp,g,dr,tk,os⟩:=s;refine FX.set_attr T hf (by decide) hC hN (hno _ (by decide)) (hno _ hf) hB hx rfl rfl rfl (λh' tk' da a1 a2 a3 a4 a5=>?_) hz;have hda:H da=none:=I.hok.fresh a3;have old:∀b o,hp.get? b=some o->b≠da:=λb o q=>Nat.ne_of_lt (Nat.lt_of_lt_of_le (Heap.lt_size q) a3)
 have at':∀b,b≠e->b≠da->upd (upd H da (.xd [(fld,v)])) e (vG e C da) b=H b:=λb n1 n2=>by rw[zV n1,zV n2]
 have un:Un X.fs [] H (upd (upd H da (.xd [(fld,v)])) e (vG e C da)) hp h':=by
  refine⟨λb o q n _ _=>a5 b o (qK he n∘Eq.symm) q,λb o q n _ _=>⟨o.slots,a5 b o (qK he n∘Eq.symm) q⟩,λb o q n _=>?_,λb o q _=>?_,λb xs q=>?_,λb o xs q=>?_,λb ps q=>?_⟩
  ·rw[at' b (qK he n∘Eq.symm) (old b o q)];exact n
  ·by_cases hb:b=e
   ·subst hb;exact⟨_,a1⟩
   ·exact⟨o,a5 b o hb q⟩
  ·rw[at' b (λz=>by subst z;rw[he]at q;cases q) λz=>by subst z;rw[hda]at q;cases q];exact q
  ·rw[at' b (λz=>by subst z;rw[he]at q;cases q) λz=>by subst z;rw[hda]at q;cases q];exact q
  ·exact⟨#[],by rw[at' b (λz=>by subst z;rw[he]at q;cases q) (λz=>by subst z;rw[hda]at q;cases q),Array.append_empty];exact q⟩
 have ok:HOk X.prog X.w (upd (upd H da (.xd [(fld,v)])) e (vG e C da)) h':=λb o q=>by
  by_cases hb:b=e
  ·subst hb;rw[qF]at q;cases q
   exact⟨⟨_,a1⟩,⟨_,a1⟩,λh1 h2 ⟨t,q1⟩ k=>⟨t,k _ q1⟩⟩
  ·by_cases hb2:b=da
   ·subst hb2;rw[zV hb,qF]at q;cases q
    refine⟨_,a2,λf=>?_⟩;by_cases hq:f=fld
    ·subst hq;simp[List.lookup,RelO];exact r
    ·have:(f==fld)=false:=by simpa using hq
     simp[List.lookup,this,hq,RelO]
   ·rw[at' b hb hb2]at q;refine(I.hok b o q).stay (λc u hc hu=>?_) (λc hc=>?_) λc xs hc=>?_
    ·refine a5 c u (λz=>?_) hu;subst z;rcases hc with z|z
     ·exact hb z.symm
     ·rw[he]at z;cases z
    ·rw[at' c (λz=>by subst z;rw[he]at hc;cases hc) λz=>by subst z;rw[hda]at hc;cases hc];exact hc
    ·rw[at' c (λz=>by subst z;rw[he]at hc;cases hc) λz=>by subst z;rw[hda]at hc;cases hc];exact hc
 exact h da _ hda a4 (I.un (t':=tk') un ok)
end
theorem zhT{N:Addr}{mg:SV}{n:Str}{v:Value}(X:K.In h)(G:h.Ns N mg)(e:PySem.W.nsIn K N n=some (some v)):mg n=some v:=by
 obtain⟨o,es,ep,ho,hd,_,hf⟩:=G;unfold PySem.W.nsIn at e;split at e
 ·rename_i c d es' n' sl q
  have:=X _ _ q;rw[ho]at this;cases this
  cases hd
  split at e
  ·rename_i he;cases e
   rw[←hf];unfold nsFind findBy;rw[←Array.find?_toList,he];rfl
  ·split at e<;>cases e
 ·cases e
def zkP(K:Fg):List Value->Bool
 |[]=>false
 |v::r=>(v::r)==FX.bm0||match v with
  | .ref A=>(match K.lookup A with
   |some ⟨_,_,.cls cd,_⟩=>PySem.W.nsOkIn K cd.ns&&zcM.all (λn=>PySem.W.nsIn K cd.ns n==some none)&&zkP K r
   |_=>false)
  |_=>false
theorem ziC(X:K.In h):∀{l:List Value},zkP K l=true->FX.Tail h zcM l
 |[],e=>by cases e
 |v::r,e=>by
  unfold zkP at e;rcases Bool.or_eq_true_iff.mp e with q|q
  ·rw[beq_iff_eq.mp q];exact .base
  ·split at q
   ·split at q
    ·rename_i ho;simp only[Bool.and_eq_true]at q;exact .own (X _ _ ho) (.of_isNs (PySem.W.isNs_of_in X q.1.1)) (λn hn=>PySem.W.nsMap_none_of_in X q.1.1 (beq_iff_eq.mp (List.all_eq_true.mp q.1.2 n hn))) (ziC X q.2)
    ·cases q
   ·cases q
def xcB(K:Fg)(C fI:Addr):Bool:=(match K.lookup C with
 |some ⟨.type "type",_,.cls cd,sl⟩=>(match cd.mro,sl.toList with
  | .ref C'::bm,[_,_,_,_,some (.builtin n),_]=>C'==C&&n=="ValueError.__new__"&& !cd.hasDel&&cd.hasDict&&zkP K bm&&PySem.W.nsOkIn K cd.ns&&PySem.W.nsIn K cd.ns "__init__"==some (some (.ref fI))&&zcM.all (λn=>PySem.W.nsIn K cd.ns n==some none)
  |_,_=>false)
 |_=>false)&&(match K.lookup fI with|some o=>o.cls== .type "function"|none=>false)&&PySem.W.keepIn K (.ref C)
theorem zqh{C fI:Addr}(e:xcB K C fI=true):XC K C fI:=by
 unfold xcB at e;simp only[Bool.and_eq_true]at e;obtain⟨⟨q,e2⟩,e3⟩:=e;refine⟨λh X=>?_,λh X=>?_,e3⟩
 ·split at q
  ·rename_i dd cd sl ho;split at q
   ·rename_i C' bm k0 k1 k2 k3 n k5 hm hs;simp only[Bool.and_eq_true,beq_iff_eq,Bool.not_eq_true']at q;obtain⟨⟨⟨⟨⟨⟨⟨rfl,rfl⟩,hdel⟩,hdic⟩,ht⟩,hok⟩,hin⟩,hno⟩:=q;obtain⟨nm,bs,mro,ns,qn,hd,sn,sub,ab,col,del⟩:=cd;dsimp only at hm hdel hdic hok hin hno;subst hm hdel hdic;have hsl:sl=#[k0,k1,k2,k3,some (.builtin "ValueError.__new__"),k5]:=by obtain⟨l⟩:=sl;simp only at hs;rw[hs]
    subst hsl;have N:=PySem.W.isNs_of_in X hok;exact⟨nm,qn,ns,bs,bm,sn,sub,ab,col,dd,k0,k1,k2,k3,k5,_,X _ _ ho,.of_isNs N,zhT X (.of_isNs N) hin,λn hn=>PySem.W.nsMap_none_of_in X hok (beq_iff_eq.mp (List.all_eq_true.mp hno n hn)),ziC X ht⟩
   ·cases q
  ·cases q
 ·split at e2
  ·rename_i o ho;exact⟨o,X _ _ ho,beq_iff_eq.mp e2⟩
  ·cases e2
def xeB(K:Fg)(CE fE:Addr):Bool:=PySem.W.specialIn K (.ref CE) "__getattribute__"==some (some (.builtin "type.__getattribute__"))&&PySem.W.readsIn K CE (.type "type")&&
 (match PySem.W.findCls K (.ref CE) (.type "type") "__init__"with|some (.val (.ref f))=>f==fE|_=>false)&&PySem.W.keepIn K (.ref fE)
theorem zqg{CE:Addr}(e:xeB K CE fE=true):XE K CE fE:=by
 unfold xeB at e;simp only[Bool.and_eq_true,beq_iff_eq]at e;obtain⟨⟨⟨a,b⟩,c⟩,d⟩:=e;split at c
 ·rename_i f hf;rw[beq_iff_eq.mp c]at hf;exact⟨a,b,hf,d⟩
 ·cases c
def yS:Stmt->Stmt
 | .ClassDef _ _ _ body ..=>body.headD (.Pass ⟨0,0,0,0⟩)
 |s=>s
def quN(st:Stmt):Str:=stN st++".__init__"
noncomputable def clV(K:Fg)(st:Stmt):Option (FnT×Bool):=match PySem.W.nsIn K mainGlobals (stN st)with
 |some (some (.ref C))=>(match K.lookup C with
  |some ⟨_,_,.cls cd,_⟩=>(match PySem.W.nsIn K cd.ns "__init__"with
   |some (some (.ref f))=>(match K.lookup f with
    |some ⟨_,_,.func fd,_⟩=>some (fnT fd,PySem.W.codeIn K fd.code (quN st)&&PySem.W.keepIn K (.ref f)&&xcB K C f&&xeB K C f)
    |_=>none)
   |_=>none)
  |_=>none)
 |_=>none
noncomputable def clX(st:Stmt):Option (FnT×Bool):=some (fnT (PySem.W.fnOf "__init__" (quN st) (zcr (yS st)) (kS (yS st)) (qH (yS st)) .none .none .none .none none .none .none),true)
theorem zrl{st:Stmt}(e:clV K st=clX st):
  ∃C fI fd,PySem.W.nsIn K mainGlobals (stN st)=some (some (.ref C))/\XC K C fI/\XE K C fI/\Fun K "__init__" (quN st) (yS st) fI fd:=by
 unfold clV clX at e;split at e
 ·rename_i C e1;split at e
  ·rename_i cd e2;split at e
   ·rename_i f e3;split at e
    ·rename_i oc od fd osl e4;have z:=Option.some.inj e;have z1:=congrArg Prod.fst z;have z2:=congrArg Prod.snd z;dsimp only at z1 z2;simp only[Bool.and_eq_true]at z2;obtain⟨⟨⟨c,k⟩,x⟩,y⟩:=z2;refine⟨C,f,fd,e1,zqh x,zqg y,⟨oc,od,fd.kwdefaults,fd.doc,fd.pyModule,fd.annotations,fd.code,fd.closureTuple,osl,?_,e4,c⟩,k⟩;obtain⟨a1,a2,a3,a4,a5,a6,a7,a8,a9,a10,a11,a12,a13,a14,a15⟩:=fd;unfold fnT at z1;simp only[Prod.mk.injEq]at z1;obtain⟨rfl,rfl,rfl,rfl,rfl,rfl,rfl,rfl,rfl⟩:=z1;rfl
    ·cases e
   ·cases e
  ·cases e
 ·cases e
abbrev FaY:=FaT×List (Option (FnT×Bool))×Option (Option Value)
def fbV(p:Program)(I J:List Nat)(K:Fg):FaY:=(faV p I K,J.map λi=>clV K (zZ p i),PySem.W.nsIn K mainGlobals "ValueError")
def fbX(p:Program)(I J:List Nat):FaY:=(faX p I,J.map λi=>clX (zZ p i),some none)
theorem zpO{p:Program}{I J:List Nat}(A:fbV p I J K=fbX p I J)(i:Nat)(hi:i∈J):
  ∃C fI fd,PySem.W.nsIn K mainGlobals (stN (zZ p i))=some (some (.ref C))/\XC K C fI/\XE K C fI/\Fun K "__init__" (quN (zZ p i)) (yS (zZ p i)) fI fd:=
 zrl (zhl (congrArg (λz=>z.2.1) A) i hi)
section
variable{X:Cx}{pins:AO}{σ:St}{H:Hp}{s:Shared}{k:Nat}{fld:Str}{o value:Expr}{p pos:Pos}
def sX(K:Fg)(fld:Str):TS:=λD σ H=>∃e C fI v,σ[0]?=some (some (.ref e))/\σ[1]?=some (some v)/\H e=some (yB e C)/\XC K C fI/\∀da,H da=none->da≠e->D.nx σ (upd (upd H da (.xd [(fld,v)])) e (vG e C da))
theorem zng(ha:PE X o (vJ 0))(hv:PE X value (vJ 1))(hf:fld∈zcM)(hB:typeLookup (.type "ValueError") fld=pure none)(hz:fld.length<=sizeLine)(hs:swapsWith value (some (.Attribute o fld p)) pos.line X.env=pure false:=by rfl):
  PS X (.Assign [.Attribute o fld p] value pos) (sX X.K fld):=by
 intro pins s σ H D I ⟨e,C,fI,v,h0,h1,he,M,q⟩;refine plainObj_wpAny_Assign_Attribute (thn (hv pins s σ H _ I (show vJ 1 σ H (λv' H1=>v'=v/\H1=H)from⟨v,h1,rfl,rfl⟩)) ?_) hs;rintro u s1 ⟨v',H1,I1,r1,rfl,rfl⟩;refine thn (ha pins s1 σ H1 _ I1 (show vJ 0 σ H1 (λv2 H2=>v2=.ref e/\H2=H1)from⟨_,h0,rfl,rfl⟩)) ?_;rintro ov s2 ⟨v2,H2,I2,r2,rfl,rfl⟩;cases r2
 exact zqw I2 he M r1 hf hB hz λda s3 hd hn I3=>⟨σ,_,I3,q da hd hn⟩
end
section
variable{P:Program}{w:World}{K:Fg}{mg:SV}{base:Heap}{k:Nat}{C fI:Addr}{fd:FuncData}{qual pn fld:Str}{st:Stmt}
theorem zpU(Fn:Fun K "__init__" qual st fI fd)(S:yL ["self",pn] ["self",pn] (qH st))(hb:∀(cdv:Value) (A:Around) (outer:List Env) (s:Shared) (H:Hp) (E:XK),PSs (kE CX0 P w K mg base ["self",pn] qual (qH st) fI cdv A outer s H E).nox (kS st)
   (ziD λσ H Q=>yN (vJ 0) (yN (vJ 1) wA) σ H λvs H1=>∃e C y fI,vs=[.ref e,.str y]/\H1 e=some (yB e C)/\XC K C fI/\Q .non H1)):jA P w K mg base CX0 (k+1) fI fd ["self",pn] (SpE K):=by
 refine Fn.ok S (λvs H Q E ⟨e,C,y,f,ev,_⟩=>by rw[ev];rfl) (λcdv A outer s H vs Q E hr ⟨e,C,y,f,ev,he,M,q⟩=>⟨_,hb cdv A outer s H E,?_⟩);subst ev;exact⟨_,rfl,_,rfl,e,C,y,f,rfl,he,M,q⟩
theorem znG(M:XC K C fI)(Fn:Fun K "__init__" qual st fI fd)(S:yL ["self",pn] ["self",pn] (qH st))(hb:∀(d:D) (cdv:Value) (A:Around) (outer:List Env) (s:Shared) (H:Hp) (E:XK),shD d=true->zW k (A.deeper (envOfC qual (qH st) s.heap.objs.size fI cdv))->PSs (kE CX0 P w K mg base ["self",pn] qual (qH st) fI cdv A outer s H E).nox (kS st)
   (tSeq (ziD λσ H Q=>yN (vJ 0) (yN (rdF K [none,some (.dat d)]) wA) σ H λvs H1=>SpE K vs H1 Q E0) (sX K fld))):jA P w K mg base CX0 (k+1) fI fd ["self",pn] (SpI K C fld):=by
 refine Fn.ok S (λvs H Q E ⟨e,v,F,d,ev,_⟩=>by rw[ev];rfl) (λcdv A outer s H vs Q E hr ⟨e,v,F,d,ev,he,sub,fe,hd,hs,q⟩=>⟨_,hb d cdv A outer s H E hs hr,?_⟩);subst ev;have rel:Rel K F H [none,some (.dat d)] (start ["self",pn] [.ref e,v]):=by
  refine⟨sub,λi x h=>?_,λi x h=>?_,λi b x h=>?_,λi j b x y a _ h=>?_,rfl⟩
  ·match i,h with
   |0,h=>cases h
   |1,h=>cases h;exact⟨v,rfl,hd⟩
   |n+2,h=>cases h
  ·match i,h with
   |0,h=>cases h
   |1,h=>cases h
   |n+2,h=>cases h
  ·match i,h with
   |0,h=>cases h
   |1,h=>cases h
   |n+2,h=>cases h
  ·match i,h with
   |0,h=>cases h
   |1,h=>cases h
   |n+2,h=>cases h
 refine⟨_,rfl,F,rel,λy F' H' g hy=>⟨e,C,y,fI,rfl,g.hh _ _ he,M,e,C,fI,v,rfl,rfl,g.hh _ _ he,M,λda h1 h2=>q F' H' da g h1 h2⟩⟩
end
end FL
namespace FX
section
variable{M:Model}{A:Around}{E:VS}{env:Env}
variable{nm q:Str}{C N:Addr}{bs bm:List Value}{hdct:Bool}{sn:List Str}{sub:List Value}{ab:Bool}{col:Option Bool}{dd:Option Addr}{k0 k1 k2 k3 k5:Option Value}{newId:String}
theorem raise_made{s:Shared}{x:Sem Value}{Q:Flow->Shared->Prop}(hbase:bm.contains (.type "BaseException")=true)(hh:A.handled=none)(h:wpAny M A x (λv s₁=>∃e t da,v=.ref e/\s₁.heap.get? C=some (excClassObj nm q C N bs bm hdct sn sub ab col dd k0 k1 k2 k3 k5 newId)/\
   s₁.heap.get? e=some {cls:=.ref C,dict:=some da,data:=.fields #[.ref t,.none,.none,.none,.bool false,.none]}/\E (.ref e) s₁) E s):
  wpAny M A (raiseStmt env (some x) none) Q E s:=by
 have hcB:(Value.ref C::bm).contains (.type "BaseException")=true:=by rw[List.contains_cons,hbase,Bool.or_true]
 unfold raiseStmt;refine wpAny_bind (wpAny_mono h (λv s₁ h₁=>?_) λ_ _ x=>x);obtain⟨e,t,da,rfl,hC,he,hE⟩:=h₁;obtain⟨hp,g,d,tk,os⟩:=s₁
 repeat (first|with_reducible refine wpAny_loadPart_at he ?_|with_reducible refine wpAny_loadPart_at hC ?_|(with_reducible refine wpAny_isSubtype_exc hC ?_;rw[hcB])|wp_step)
 exact wpAny_raiseNew_none hh hE
end
end FX
namespace FL
open L2
structure Xk(P:Program)(w:World)(K:Fg)(mg:SV)(base:Heap)(c:Str)(k:Nat):Prop where
 ex:∃C fI fd pn,XC K C fI/\PySem.W.nsIn K mainGlobals c=some (some (.ref C))/\mg c=some (.ref C)/\kM K fd ["self",pn] []/\jA P w K mg base CX0 k fI fd ["self",pn] (SpI K C (kD c))
variable{ρ:En}
section
variable{X:Cx}{pins:AO}{σ:St}{F H:Hp}{s:Shared}{k j:Nat}{c:Str}{e:Expr}{f:EO D}{p pos rp:Pos}{K:Fg}{md:Md}
theorem zkT{d:D}{Q:VS}(G:Xk X.prog X.w X.K X.mg X.base c k)(hr:zW (k+1) X.A)(hg:Gl X c)(ha:FP X.K .fz X e f)(hf:f ρ=some d)(hs:shD d=true)(I:Inv X pins σ H s)(rel:Rel X.K F H ρ σ)(h:∀a C da fI v F' H' s',XC X.K C fI->PySem.W.nsIn X.K mainGlobals c=some (some (.ref C))->jT X pins (λb=>if b=a then none else H' b) a->H a=none->
   (∃F1 H1,zF F H F1 H1/\Dat X.K F1 d v/\H1 a=none/\zF F1 (upd H1 a (yB a C)) F' H')->H' da=none->da≠a->Inv X pins σ (upd (upd H' da (.xd [(kD c,v)])) a (vG a C da)) s'->Q (.ref a) s')(hdb:(c==("__debug__":Str))=false:=by decide)(hst:starEach [e] X.env=(false,eval e X.env)::starEach [] X.env:=by rfl)(hpl:(backTo pos (starEach [] X.env)).any (·.1)=false:=by rfl):
  wpAny (model X.prog X.w) X.A (eval (.Call (.Name c p) [e] [] pos) X.env) Q X.xe s:=by
 obtain⟨C,fI,fd,pn,M,hn,hm,hb,Fn⟩:=G.ex;refine wpAny_Call_Name_kw (zbP I hg hm ?_ hdb);have hA:=(jF (ha.h ρ d hf) kO hst) pos pins s σ H (λvs H1=>∃v F1,vs=[v]/\zF F H F1 H1/\Dat X.K F1 d v) I (show yN (rdE X.K .fz ρ d) wA σ H _ from⟨F,rel,λv F1 H1 g hd=>⟨v,F1,rfl,g,hd⟩⟩);refine PySem.W.callWith_K (h₀:=X.base) I.ok.mod.kin M.kp (thn hA λus s1 ⟨vs,H1,I1,r,v,F1,ev,g,hd⟩=>⟨I1.kIn,?_⟩) hst hpl;subst ev;cases r with
 |cons ra rb=>
  cases rb
  refine zmY M Fn hr hb I1 ra g.fh hd hs λa da F' H' s' hle ha1 g2 h1 h2 I2=>?_
  refine h a C da fI v F' H' s' M hn ?_ (g.hh.free ha1) ⟨F1,H1,g,hd,ha1,g2⟩ h1 h2 I2;exact I1.fpOk hle (by simp)
theorem Inv.forget{Hx:Hp}{a:Addr}{φ:Heap->Prop}(I:Inv X pins σ Hx s)(ha:Hx a=some (.ext φ)):Inv X pins σ (λb=>if b=a then none else Hx b) s:=by
 have nn:∀b,Hx b=none->(if b=a then none else Hx b)=none:=λb h=>by split;rfl;exact h
 have ne:∀b o,Hx b=some o->(∀ψ,o≠.ext ψ)->(if b=a then none else Hx b)=some o:=λb o h k=>by
  have:b≠a:=λz=>by subst z;rw[ha]at h;cases h;exact k _ rfl
  rw[if_neg this];exact h
 refine⟨I.ok,I.os,I.bare,⟨I.base.keep,I.base.slot,λb o e n hx=>nn b (I.base.free b o e n hx),I.base.there,λb xs e=>ne b _ (I.base.tups b xs e) (λ_ z=>by cases z),λb o u e=>ne b _ (I.base.frzs b o u e) (λ_ z=>by cases z),λb ps e=>?_⟩,
  I.loc,I.cell,nn _ I.free,λx c e=>nn c (I.freeC x c e),λp hp=>let⟨h1,h2,h3⟩:=I.pin p hp;⟨h1,nn _ h2,h3⟩,λb o e=>?_,I.len⟩
 ·obtain⟨more,e1⟩:=I.base.tbls b ps e;exact⟨more,ne b _ e1 λ_ z=>by cases z⟩
 ·have hb:b≠a:=λz=>by subst z;rw[if_pos rfl]at e;cases e
  rw[if_neg hb]at e;exact(I.hok b o e).stay (λ_ _ _ q=>q) (λc hc=>ne c _ hc λ_ z=>by cases z) λc xs hc=>ne c _ hc (λ_ z=>by cases z)
noncomputable def rsM(c:Str)(f:EO D):EO Fl:=λρ=>(f ρ).bind λd=>if shD d=true then some (.rs c d ρ)else none
theorem zou(G:Xk X.prog X.w X.K X.mg X.base c k)(hr:zW j X.A)(ha:FP K .fz X e f)(hle:k+1<=j:=by first|decide|omega)(hg:Gl X c:=by rfl)(hK:X.K=K:=by rfl)(hdb:(c==("__debug__":Str))=false:=by decide)(hst:starEach [e] X.env=(false,eval e X.env)::starEach [] X.env:=by rfl)(hpl:(backTo pos (starEach [] X.env)).any (·.1)=false:=by rfl):
  FS K md X (.Raise (some (.Call (.Name c p) [e] [] pos)) none rp) (rsM c f):=FS.mk λρ fl hf=>by
 subst hK;obtain⟨x,e1,e2⟩:=Option.bind_eq_some_iff.mp hf;obtain⟨hs,rfl⟩:=jD e2;intro pins s σ H D I ⟨F,rel,q⟩;rw[arm_exec_Raise];obtain⟨C0,fI0,_,_,M0,hn0,_⟩:=G.ex;obtain⟨nm,qq,N,bs,bm,sn,sb,ab,col,dd,k0,k1,k2,k3,k5,mN,hC,_,_,_,T⟩:=M0.cls s.heap I.kIn;refine wpAny_bind (wpAny_standAt ?_);refine FX.raise_made (C:=C0) (nm:=nm) (q:=qq) (N:=N) (bs:=bs) (bm:=bm) (hdct:=true) (sn:=sn) (sub:=sb) (ab:=ab) (col:=col) (dd:=dd) (k0:=k0) (k1:=k1) (k2:=k2) (k3:=k3) (k5:=k5) (newId:="ValueError.__new__") T.tl.hasBase hr.hd ?_;refine wpAny_bind (zkT G (hr.mono hle) hg ha e1 hs I rel (λa C da fI v F' H' s' M hn pa hHa ⟨F1,H1,g1,hd,ha1,g2⟩ h1 h2 I2=>?_) hdb hst hpl);refine wpAny_bind (wpAny_standAt (wpAny_pure ?_));have eC:C=C0:=by rw[hn0]at hn;cases hn;rfl
 subst eC;obtain⟨t,hx⟩:=(I2.hok a _ qF).1;have hkC:s'.heap.get? C=some (excClassObj nm qq C N bs bm true sn sb ab col dd k0 k1 k2 k3 k5 "ValueError.__new__"):=by obtain⟨nm',qq',N',bs',bm',sn',sb',ab',col',dd',l0,l1,l2,l3,l5,mN',hC',_⟩:=M.cls X.base I.ok.mod.kin;have z1:=I.bk _ _ hC';rw[hC]at z1;have z2:=I2.bk _ _ hC';rw[←z1]at z2;exact z2
 refine⟨a,t,da,rfl,hkC,hx,?_⟩;have Fa:F1 a=none:=g1.fh.free ha1;have Fa':F' a=none:=g2.nw a _ qF Fa;have Fd':F' da=none:=g2.fh.free h1;have I3:=Inv.forget I2 (qF:upd (upd H' da (.xd [(kD c,v)])) a (vG a C da) a=some (vG a C da));generalize hH2:(λb=>if b=a then none else upd (upd H' da (.xd [(kD c,v)])) a (vG a C da) b)=H2 at I3;have at2:∀b,b≠a->b≠da->H2 b=H' b:=λb n1 n2=>by rw[←hH2];show(if b=a then none else _)=_;rw[if_neg n1,zV n1,zV n2]
 have atd:H2 da=some (.xd [(kD c,v)]):=by rw[←hH2];show(if da=a then none else _)=_;rw[if_neg h2,zV h2,qF]
 have ata:H2 a=none:=by rw[←hH2];show(if a=a then none else _)=_;rw[if_pos rfl]
 have S2:zI F' (upd F' da (.xd [(kD c,v)])):=λb o hb=>by rw[zV (qK hb Fd')];exact hb
 have G2:zF F H (upd F' da (.xd [(kD c,v)])) H2:=by
  refine⟨(g1.ff.trans g2.ff).trans S2,λb o hb=>?_,λb o hb=>?_,λb o hb hn'=>?_⟩
  ·have n1:b≠a:=qK hb hHa;have q1:H' b=some o:=g2.hh _ _ (by rw[zV n1];exact g1.hh _ _ hb);rw[at2 b n1 (qK q1 h1)];exact q1
  ·by_cases z2:b=da
   ·subst z2;rw[qF]at hb;rw[atd];exact hb
   ·rw[zV z2]at hb;rw[at2 b (qK hb Fa') z2];exact g2.fh _ _ hb
  ·have n1:b≠a:=qK hb hHa;have q0:=g1.hh _ _ hb;have q1:H' b=some o:=g2.hh _ _ (by rw[zV n1];exact q0);rw[zV (qK q1 h1)];exact g2.nw b o (by rw[zV n1];exact q0) (g1.nw b o hb hn')
 refine q σ _ H2 C da (rel.grow G2) G2.step ⟨v,hn,qF,(hd.mono g2.ff).mono S2⟩ pins a none s' I3 ⟨_,_,hx,rfl,rfl,rfl,by simp,by simp⟩ ⟨ata,pa.2⟩ (λT' z=>by cases z)
end
inductive Rs where
 |ok (d:D)|ex (c:Str) (d:D)
noncomputable def okm(m:List D->Option Rs)(ds:List D):Option D:=match m ds with
 |some (.ok d)=>some d
 |_=>none
noncomputable def exm(m:List D->Option Rs)(ds:List D):Option (Str×D):=match m ds with
 |some (.ex c d)=>some (c,d)
 |_=>none
noncomputable def SpR(K:Fg)(md:Md)(m:List D->Option Rs):Sp:=λvs H Q E=>∃F ds r,zI F H/\zD K F ds vs/\m ds=some r/\match r with
 | .ok d=>∀v F' H',zF F H F' H'->Res K md H F' H' d v->Q v H'
 | .ex c d=>∀F' H' C da,zF F H F' H'->ExcD K F' c d C da->E (.ref C) (some da) H'
structure FkE(P:Program)(w:World)(K:Fg)(mg:SV)(base:Heap)(x:Str)(ps:List Str)(md:Md)(k:Nat)(m:List D->Option Rs):Prop where
 ex:∃f fd,jA P w K mg base (CX1 P w) k f fd ps (SpR K md m)/\kM K fd ps []/\PySem.W.keepIn K (.ref f)=true/\mg x=some (.ref f)
variable{c:Str}{st:Stmt}{h:EO (Str×D)}
section
variable{P:Program}{w:World}{K:Fg}{mg:SV}{base:Heap}{md:Md}{X:Cx}{k j:Nat}{ps:List Str}{m:List D->Option Rs}{x:Str}{e:Expr}{es:List Expr}{fs:EO (List D)}{p pos:Pos}{f:Addr}{fd:FuncData}
theorem zhi{ds:List D}{d:D}(h:okm m ds=some d):m ds=some (.ok d):=by
 unfold okm at h;split at h
 ·rename_i e;cases h;exact e
 ·cases h
theorem zlK{ds:List D}{d:D}(h:exm m ds=some (c,d)):m ds=some (.ex c d):=by
 unfold exm at h;split at h
 ·rename_i e;cases h;exact e
 ·cases h
theorem FkE.fk(G:FkE P w K mg base x ps md k m):Fk P w K mg base x ps md k (okm m):=by
 obtain⟨f,fd,F,r⟩:=G.ex;refine⟨f,fd,⟨λvs H Q E ⟨Fr,ds,d,a,b,c,q⟩=>F.len vs H Q E ⟨Fr,ds,.ok d,a,b,zhi c,q⟩,λA outer s H args us vs Q E hr he hb hv ⟨Fr,ds,d,a,b,c,q⟩=>?_⟩,r⟩;refine codeAny_mono (F.run A outer s H args us vs Q (λ_ _ _=>False) hr he hb hv ⟨Fr,ds,.ok d,a,b,zhi c,q⟩) λrr s' hq=>?_
 cases rr with
 |error ex=>
  obtain⟨_,_,_,_,_,_,_,_,_,_,_,_,_,_,_,z⟩:=hq;exact z.elim
 |ok fl=>
  cases fl with
  |ret u=>exact hq
  |next=>exact hq
  |brk=>exact hq
  |cont=>exact hq
noncomputable def rdW(X:Cx)(K:Fg)(ρ:En)(c:Str)(d:D):TE:=λσ H _=>∃F,Rel K F H ρ σ/\∀F' H' C da,zF F H F' H'->ExcD K F' c d C da->Wish X σ C da H'
structure RX(K:Fg)(X:Cx)(e:Expr)(h:EO (Str×D)):Prop where
 h:∀ρ c d,h ρ=some (c,d)->PE X e (rdW X K ρ c d)
noncomputable def rL(m:List D->Option Rs)(fs:EO (List D)):EO (Str×D):=λρ=>(fs ρ).bind (exm m)
theorem zfZ(G:FkE X.prog X.w X.K X.mg X.base x ps md k m)(hr:zW j X.A)(ha:FPs K true X (e::es) fs)(hle:k<=j:=by first|decide|omega)(hg:Gl X x:=by rfl)(hK:X.K=K:=by rfl)(hdb:(x==("__debug__":Str))=false:=by decide)(he:starEach (e::es) X.env=(false,eval e X.env)::starEach es X.env:=by rfl)(hpl:(backTo pos (starEach es X.env)).any (·.1)=false:=by rfl):RX K X (.Call (.Name x p) (e::es) [] pos) (rL m fs):=RX.mk λρ c d hf=>by subst hK;obtain⟨l,e1,e2⟩:=Option.bind_eq_some_iff.mp hf;obtain⟨f,fd,F,hb,hk,hm⟩:=G.ex;intro pins s σ H Q I ⟨Fr,r,q⟩;refine wpAny_Call_Name_kw (zbP I hg hm ?_ hdb);have hA:=ha.h ρ l e1 pos pins s σ H (λvs H1=>∃F1,zF Fr H F1 H1/\zD X.K F1 l vs) I (show rdA X.K true ρ l σ H _ from⟨Fr,r,λvs F1 H1 g1 r1=>⟨F1,g1,r1⟩⟩);refine PySem.W.callWith_K (h₀:=X.base) I.ok.mod.kin hk (thn hA λus s1 ⟨vs,H1,I1,rv,F1,g1,r1⟩=>⟨I1.kIn,?_⟩) he hpl;exact zmZ F (hr.mono hle) hb I1 rv ⟨F1,l,.ex c d,g1.fh,r1,zlK e2,λF2 H2 C da g2 x=>⟨C,da,rfl,rfl,q F2 H2 C da (g1.trans g2) x⟩⟩
noncomputable def orR(f:EO D)(h:EO (Str×D))(g:D->EO Fl):EO Fl:=λρ=>match f ρ with
 |some d=>g d ρ
 |none=>(h ρ).map λq=>.rs q.1 q.2 ρ
theorem zoA{h:EO (Str×D)}{d:D}(hp:PS X st λD σ H=>rdW X K ρ c d σ H λ_ _=>False):PS X st (rdS X K md ρ (.rs c d ρ)):=
 PS.imp hp λD σ H ⟨F,r,q⟩=>⟨F,r,λF' H' C da g x=>q σ F' H' C da (r.grow g) g.step x⟩
theorem zqs{f:EO D}(he:FP K .fz X e f)(hh:RX K X e h):FS K .fz X (.Return (some e) pos) (orR f h λd ρ=>some (.rt d ρ)):=FS.mk λρ fl hf=>by
 unfold orR at hf;split at hf
 ·rename_i d e1;cases hf
  exact(qL (pos:=pos) he).h ρ _ (by unfold zR;rw[e1];rfl)
 ·obtain⟨⟨c,d⟩,e1,rfl⟩:=Option.map_eq_some_iff.mp hf;exact zoA (h:=h) (PS.imp (zdN (hh.h ρ c d e1)) λD σ H z=>z)
theorem zdL{f:EO D}(he:FP K .fz X e f)(hh:RX K X e h)(hs:swapsWith e none pos.line X.env=pure false:=by rfl):FS K md X (.Expr e pos) (orR f h λ_ ρ=>some (.nx ρ)):=FS.mk λρ fl hf=>by
 unfold orR at hf;split at hf
 ·rename_i d e1;cases hf
  exact(zqv (pos:=pos) he hs).h ρ _ (by unfold wV;rw[e1];rfl)
 ·obtain⟨⟨c,d⟩,e1,rfl⟩:=Option.map_eq_some_iff.mp hf;exact zoA (h:=h) (PS.imp (zcU (hh.h ρ c d e1) hs) λD σ H z=>z)
theorem zmB{qual:Str}{N:List Str}(Fn:Fun K x qual st f fd)(S:yL N ps (qH st)){mb:Nat->EO Fl}(hb:∀(n:Nat) (cdv:Value) (A:Around) (outer:List Env) (s:Shared) (H:Hp) (E:XK),zW k (A.deeper (envOfC qual (qH st) s.heap.objs.size f cdv))->FSs K md (kE (CX1 P w) P w K mg base N qual (qH st) f cdv A outer s H E) (kS st) (mb n))(hm:∀ds r,m ds=some r->ds.length=ps.length/\∃n,match r with
   | .ok d=>(∃ρ',mb n (qX N.length ds)=some (.rt d ρ'))\/(d=.non/\md=.fz/\∃ρ',mb n (qX N.length ds)=some (.nx ρ'))
   | .ex c d=>∃ρ',mb n (qX N.length ds)=some (.rs c d ρ')):jA P w K mg base (CX1 P w) (k+1) f fd ps (SpR K md m):=by
 obtain⟨oc,od,kV,doc,pm,an,cdv,ct,osl,rfl,lk,hcd⟩:=Fn.ex;refine zpJ lk hcd S (λvs H Q E h=>?_) (λA outer s H vs Q E hr h=>?_)
 ·obtain⟨F,ds,d,_,q,e,_⟩:=h;rw[q.length];exact(hm ds d e).1
 obtain⟨F,ds,r,sub,qd,e,k⟩:=h;obtain⟨_,n,h⟩:=hm ds r e;cases r with
 |ok d=>
  rcases h with⟨ρ',h⟩|⟨rfl,rfl,ρ',h⟩
  ·refine⟨_,(hb n cdv A outer s H E hr).h _ _ h,F,Rel.start sub qd,λv σ' F' H' r' s' res=>?_⟩;refine k v F' H' (s'.grow sub) ?_;cases md with
   |fz=>exact res
   |br=>exact res.elim
   |ow=>
    obtain⟨a,ea,h1,h2,h3⟩:=res;refine⟨a,ea,?_,h2,h3⟩;rcases h1 with h1|h1
    ·exact h1
    ·exact(zax h1).elim
  ·refine⟨_,(hb n cdv A outer s H E hr).h _ _ h,F,Rel.start sub qd,λσ' F' H' r' s'=>?_⟩;exact k _ F' H' (s'.grow sub) (Dat.non (K:=K) (F:=F'))
 |ex c d=>
  obtain⟨ρ',h⟩:=h;exact⟨_,(hb n cdv A outer s H E hr).h _ _ h,F,Rel.start sub qd,λσ' F' H' C da r' s' x=>zhE (k F' H' C da (s'.grow sub) x)⟩
end
def xcs:List Str:=["NoPlace","NoRule","TwoCounts","TooLong","NoRank"]
structure UX(K:Fg)(CE fE:Addr):Prop where
 cls:XC K CE fE
 sub:∀c∈xcs,∀C,PySem.W.nsIn K mainGlobals c=some (some (.ref C))->PySem.W.subIn K (.ref C) (.ref CE)=some true
abbrev Cx.tx(X:Cx)(pn:AO)(E:VS):Cx:={X with pn:=pn,xe:=E}
abbrev Cx.mk'(X:Cx)(a:Addr):Cx:={X with A:=X.A.mark (some (.ref a)),calm:=false}
variable{pn:AO}{M:Model}{A:Around}{j:Nat}{n:Str}{pos:Pos}
section
variable{X:Cx}{pins pins':AO}{σ:St}{H:Hp}{s:Shared}{E:VS}{a C CE fE da:Addr}{K:Fg}{md:Md}
theorem zqS(ok:X.Ok):(Cx.tx X pn E).Ok:=
 ⟨ok.mod,ok.kind,ok.glob,ok.blt,ok.above,ok.inj,ok.has,ok.cab,ok.hd,ok.frames,ok.stk,ok.exf,ok.bs,ok.bsz,ok.noex,ok.exfs,ok.funs,ok.frf⟩
theorem znv(ok:(Cx.tx X pn E).Ok):X.Ok:=
 ⟨ok.mod,ok.kind,ok.glob,ok.blt,ok.above,ok.inj,ok.has,ok.cab,ok.hd,ok.frames,ok.stk,ok.exf,ok.bs,ok.bsz,ok.noex,ok.exfs,ok.funs,ok.frf⟩
theorem zjN(I:Inv X pins σ H s):Inv (Cx.tx X (X.pn++pins) E) [] σ H s:=
 ⟨zqS I.ok,I.os,I.bare,I.base,I.loc,I.cell,I.free,I.freeC,λp hp=>I.pin p (by rw[List.append_nil]at hp;exact hp),I.hok,I.len⟩
theorem zbB(I:Inv (Cx.tx X (X.pn++pins) E) pins' σ H s):Inv X pins σ H s:=
 ⟨znv I.ok,I.os,I.bare,I.base,I.loc,I.cell,I.free,I.freeC,λp hp=>I.pin p (List.mem_append_left _ hp),I.hok,I.len⟩
theorem zmA(I:Inv X pins σ H s):Inv (Cx.mk' X a) pins σ H s:=
 ⟨⟨I.ok.mod,I.ok.kind,I.ok.glob,I.ok.blt,I.ok.above,I.ok.inj,I.ok.has,I.ok.cab,(λz=>by cases z),I.ok.frames,I.ok.stk,I.ok.exf,I.ok.bs,I.ok.bsz,I.ok.noex,I.ok.exfs,I.ok.funs,I.ok.frf⟩,I.os,I.bare,I.base,I.loc,I.cell,I.free,I.freeC,I.pin,I.hok,I.len⟩
theorem zlz(I:Inv (Cx.mk' X a) pins σ H s)(ok:X.Ok):Inv X pins σ H s:=⟨ok,I.os,I.bare,I.base,I.loc,I.cell,I.free,I.freeC,I.pin,I.hok,I.len⟩
theorem zjO{T:Addr}{fw:Value}(I:Inv X pins σ H s)(pa:jT X pins H a)(fl:FX.Fly s.heap a (.ref C) (some da) (some T) fw):Inv X pins σ (upd H a (xS a C da)) s:=by
 obtain⟨p1,p2,p3,p4,p5,p6⟩:=pa;obtain⟨oe,vs,h1,h2,h3,h4,_⟩:=fl;have at':∀b,b≠a->upd H a (xS a C da) b=H b:=λb n=>zV n
 refine⟨I.ok,I.os,I.bare,⟨I.base.keep,I.base.slot,λb o e n hx=>?_,I.base.there,λb xs e=>?_,λb o u e=>?_,λb ps e=>?_⟩,I.loc,I.cell,by rw[at' _ (Ne.symm p2)];exact I.free,λx c e=>by rw[at' _ (p5 x c e)];exact I.freeC x c e,λp hp=>?_,λb o e=>?_,I.len⟩
 ·have:b≠a:=λz=>by
   subst z;rcases p4 with z|z
   ·exact hx z
   ·exact absurd (Nat.lt_of_lt_of_le (Heap.lt_size e) z) (Nat.lt_irrefl _)
  rw[at' _ this];exact I.base.free b o e n hx
 ·have q:=I.base.tups b xs e;rw[at' _ (qK q p1)];exact q
 ·have q:=I.base.frzs b o u e;rw[at' _ (qK q p1)];exact q
 ·obtain⟨more,q⟩:=I.base.tbls b ps e;exact⟨more,by rw[at' _ (qK q p1)];exact q⟩
 ·obtain⟨q1,q2,q3⟩:=I.pin p hp;exact⟨q1,by rw[at' _ (p6 p hp)];exact q2,q3⟩
 ·by_cases hb:b=a
  ·subst hb;rw[qF]at e;cases e
   exact⟨⟨oe,vs,h1,h2,h3,h4⟩,⟨_,h1⟩,λg1 g2 ⟨oe,vs,q1,q2⟩ k=>⟨oe,vs,k _ q1,q2⟩⟩
  ·rw[at' _ hb]at e;exact(I.hok b o e).stay (λ_ _ _ q=>q) (λc hc=>by rw[at' _ (qK hc p1)];exact hc) λc xs hc=>by rw[at' _ (qK hc p1)];exact hc
theorem zjz{Q:Unit->Shared->Prop}(I:Inv X pins σ H s)(hN:X.N.Nodup)(hj:X.N[j]?=some n)(hl:X.env.kindOf n=some .local)(h:∀s',Inv X pins (σ.set j none) H s'->Q () s'):wpAny M A (do bindName X.env n .none;unbindBehindTheSuite X.env n pos) Q E s:=by
 obtain⟨m,hn,hloc⟩:=I.loc;refine wpAny_nameGoes_keeps hl hn (by simp[I.ok.kind]) λh' v hn' hs=>h _ ?_
 have other:∀b,b≠X.env.locals->h'.get? b=s.heap.get? b:=λb hb=>hs.2 b hb
 have neL:∀b o,X.s₀.heap.get? b=some o->b≠X.env.locals:=λb o e=>Nat.ne_of_lt (Nat.lt_of_lt_of_le (Heap.lt_size e) I.ok.above)
 refine⟨I.ok,I.os,I.bare,⟨λb o e q1 q2 q3=>?_,λb o e q1 q2 q3=>?_,I.base.free,λb o e q3=>?_,I.base.tups,I.base.frzs,I.base.tbls⟩,⟨_,hn',λi x u e1 e2 e3=>?_⟩,λx c e=>?_,I.free,I.freeC,λp hp=>?_,λb o e=>?_,by rw[List.length_set];exact I.len⟩
 ·rw[other b (neL b o e)];exact I.base.keep b o e q1 q2 q3
 ·obtain⟨sl,z⟩:=I.base.slot b o e q1 q2 q3;exact⟨sl,by rw[other b (neL b o e)];exact z⟩
 ·obtain⟨o',z⟩:=I.base.there b o e q3;exact⟨o',by rw[other b (neL b o e)];exact z⟩
 ·have hij:i≠j:=λz=>by
   subst z;have hlt:i<σ.length:=by
    rcases Nat.lt_or_ge i σ.length with w|w
    ·exact w
    ·rw[List.getElem?_eq_none (by rw[List.length_set];exact w)]at e2;cases e2
   rw[List.getElem?_set_self hlt]at e2;cases e2
  rw[List.getElem?_set_ne (Ne.symm hij)]at e2;obtain⟨w,r,l⟩:=hloc i x u e1 e2 e3;have hxn:x≠n:=λz=>by subst z;exact hij (zes hN e1 hj)
  refine⟨w,r,?_⟩;rcases l with⟨l1,l2⟩|⟨l1,c,l2,l3⟩
  ·exact .inl ⟨l1,by show(if x=n then v else m x)=_;rw[if_neg hxn];exact l2⟩
  ·obtain⟨oc,q1,q2⟩:=l3;exact .inr ⟨l1,c,l2,oc,by rw[other c (I.cne x c l2)];exact q1,q2⟩
 ·obtain⟨w,oc,q1,q2⟩:=I.cell x c e;exact⟨w,oc,by rw[other c (I.cne x c e)];exact q1,q2⟩
 ·obtain⟨q1,q2,q3,q4⟩:=I.pin p hp;exact⟨by rw[other _ q3];exact q1,q2,q3,q4⟩
 ·refine(I.hok b o e).stay (λc u hc q=>?_) (λ_ q=>q) λ_ _ q=>q
  rw[other c λz=>?_];exact q;subst z;rcases hc with z|z
  ·rw[←z,I.free]at e;cases e
  ·rw[I.free]at z;cases z
theorem zjY{Q:Bool->Shared->Prop}{oe:Obj}(KX:K.In s.heap)(U:UX K CE fE)(hu:PySem.W.subIn K (.ref C) (.ref CE)=some true)(he:s.heap.get? a=some oe)(hc:oe.cls=.ref C)(h:Q true s):
  wpAny M A (excMatches (.ref a) (.ref CE)) Q E s:=by
 obtain⟨nm,q,N,bs,bm,sn,sb,ab,col,dd,k0,k1,k2,k3,k5,mN,hC,_,_,_,T⟩:=U.cls.cls s.heap KX;have hcB:(Value.ref CE::bm).contains (.type "BaseException")=true:=by rw[List.contains_cons,T.tl.hasBase,Bool.or_true]
 have f:=tc_notTuple;have L1:PySem.W.Looks M s.heap (isSubtype (.ref C) (.ref CE)) true:=PySem.W.looks_subIn KX hu;obtain⟨hp,g,d,t,os⟩:=s;unfold excMatches
 repeat (first|(with_reducible refine wpAny_loadPart_at he ?_;rw[hc])|with_reducible refine wpAny_loadPart_at hC ?_|(with_reducible refine wpAny_isSubtype_exc hC ?_;rw[hcB])|(with_reducible refine L1.here ?_)|wp_step)
 exact h
noncomputable def nF(i j:Nat)(b:EO Fl):EO Fl:=λρ=>match b ρ with
 |some (.nx ρ1)=>some (.nx ρ1)
 |some (.rs c d ρ1)=>if c∈xcs then some (.nx (((ρ1.set j none).set i (some (.dat (.exc c d)))).set j none))else none
 |_=>none
theorem Kp.setN'{σ:St}{v:Option V}:Kp ρ σ (ρ.set j none) (σ.set j v):=⟨λb z=>by
 rcases zdb z with⟨_,_,z,_⟩|z
 ·cases z
 ·exact z,zgi λd h=>by cases h⟩
theorem zpG{E':VS}(h:jT (Cx.tx X (X.pn++pins) E') pins' H a):jT X pins H a:=⟨h.1,h.2.1,h.2.2.1,h.2.2.2.1,h.2.2.2.2.1,λp hp=>h.2.2.2.2.2 p (List.mem_append_left _ hp)⟩
theorem stry(i j:Nat){body:List Stmt}{y:Str}{bM:EO Fl}{p1 p2 p3 p4 p5:Pos}(U:UX X.K CE fE)(hE:X.mg "EndError"=some (.ref CE))(hN:X.N.Nodup)(hb:∀pn E',FSs K md (Cx.tx X pn E') body bM)(hg:Gl X "EndError":=by rfl)(hi:X.N[i]?=some y:=by rfl)(hj:X.N[j]?=some n:=by rfl)(hnl:X.env.kindOf n=some .local:=by rfl)(hy:Loc X.env.scope y:=by first|exact Or.inl rfl|exact Or.inr rfl)(hnL:Loc X.env.scope n:=by first|exact Or.inl rfl|exact Or.inr rfl)(hnV:Vis X.env.scope n:=by first|exact Or.inl rfl|exact Or.inr (Or.inl rfl)|exact Or.inr (Or.inr rfl))(hnd:(n==("__debug__":Str))=false:=by decide)(hnc:(n==("__classdict__":Str))=false:=by decide)(hs:swapsWith (.Name n p3) (some (.Name y p2)) p4.line X.env=pure false:=by rfl)(hfy:X.fn y=true\/X.env.scope.names.lookup y=some .local:=by first|exact Or.inl rfl|exact Or.inr rfl)(hfn:X.fn n=true\/X.env.scope.names.lookup n=some .local:=by first|exact Or.inl rfl|exact Or.inr rfl)(hst:X.stack=X.env::X.outer:=by rfl)(hfm:X.env.frame=some X.env.locals:=by rfl)(hK:X.K=K:=by rfl):
  FS K md X (.Try body [.ExceptHandler (some (.Name "EndError" p1)) (some n) [.Assign [.Name y p2] (.Name n p3) p4] p5] [] [] pos) (nF i j bM):=FS.mk λρ fl hf=>by
 subst hK;unfold nF at hf;intro pins s σ H D I;split at hf
 ·rename_i ρ1 e1;cases hf
  rintro⟨F,rel,q⟩;refine wpAny_Try_except ?_;refine wpAny_mono ((hb (X.pn++pins) _).h ρ _ e1 [] s σ H D (zjN I) ⟨F,rel,q⟩) (λf s1 h1=>?_) λ_ _ z=>z
  cases f with
  |next=>obtain⟨σ',H',J,z⟩:=h1;exact wpAny_execs_nil ⟨σ',H',zbB J,z⟩
  |ret u=>obtain⟨v,σ',H',J,r,z⟩:=h1;exact⟨v,σ',H',zbB J,r,z⟩
  |brk=>obtain⟨σ',H',J,z⟩:=h1;exact⟨σ',H',zbB J,z⟩
  |cont=>obtain⟨σ',H',J,z⟩:=h1;exact⟨σ',H',zbB J,z⟩
 ·rename_i c d ρ1 e1;obtain⟨hc,hf⟩:=jD hf;cases hf
  rintro⟨F,rel,q⟩;refine wpAny_Try_except ?_;refine wpAny_mono ((hb (X.pn++pins) _).h ρ _ e1 [] s σ H {nx:=λ_ _=>False,rt:=λ_ _=>False} (zjN I) ⟨F,rel,?_⟩) (λf s1 h1=>?_) λ_ _ z=>z
  ·intro σ' F' H' C da r1 st1 x pins' a tb s1 J fl pa pt;have I1:=zbB J;have pa1:=zpG pa;have pt1:∀T,tb=some T->jT X pins H' T:=λT e=>zpG (pt T e)
   obtain⟨u,hn,hda,hdu⟩:=x;have hu:=U.sub c hc C hn;refine FX.note_frame (base:=X.base) (outer:=X.outer) (L:=X.env.locals) (by rw[I1.ok.frames,hst]) (by rw[←hst];exact I1.stack) hfm fl λh2 T c2 fl2 z2=>?_
   have I2:=zgx I1 (by rw[hst];rfl) c2 (FL.ex_ok pa1 pt1);have pT:jT X pins H' T:=I1.fpOk z2 (I1.hok.fresh z2);refine FX.set_flight (fs:=frs X.stack) fl2 λh3 c3 fl3=>?_
   have I3:=zgx I2 rfl c3 (λb hb=>by rw[List.mem_singleton.mp hb];exact pT);refine wpAny_handleBy_cons (codeAny_handlers_test (zbP (X:=Cx.mk' X a) (zmA I3) hg hE ?_)) (by intro z;cases z);obtain⟨oe,hoe,hoc,hod⟩:=fl3.there;refine zjY I3.kIn U hu hoe hoc ?_;refine codeAny_handlers_suite_as (FX.set_flight (fs:=frs X.stack) fl3 λh4 c4 fl4=>?_);have I4:=zgx I3 rfl c4 (λb hb=>by rw[List.mem_singleton.mp hb];exact pT);have I5:=zjO I4 pa1 fl4;refine zeg I5 hN hj hnL (v:=.ref a) rfl (λs6 I6=>?_) hfn;refine wpAny_mono ((zeo (zja (X:=Cx.tx (Cx.mk' X a) ((Cx.mk' X a).pn++pins) _) hN hi hy (yE (X:=Cx.tx (Cx.mk' X a) ((Cx.mk' X a).pn++pins) _) hj hnV hnd hnc) hs hfy)) [] s6 _ _ {nx:=λσ9 H9=>σ9=(σ'.set j (some (.ref a))).set i (some (.ref a))/\H9=upd H' a (xS a C da),rt:=λ_ _=>False} (zjN (zmA I6)) ?_) (λf s7 h7=>?_) λ_ _ z=>z
   ·have hl:j<σ'.length:=by rw[I1.len];exact(List.getElem?_eq_some_iff.mp hj).1
    exact⟨.ref a,by rw[List.getElem?_set_self hl],rfl,rfl⟩
   ·cases f with
    |next=>
     obtain⟨σ9,H9,J9,rfl,rfl⟩:=h7;have I9:=zlz (zbB J9) I.ok;refine zjz I9 hN hj hnl λs8 I8=>⟨_,_,I8,q _ (upd F' a (xS a C da)) _ ?_ ?_⟩
     ·have g:=zF.frozen (o:=xS a C da) r1.sub pa1.1;exact(((r1.grow g).setN).setD (by simp only[Dat];exact⟨a,C,da,u,rfl,qF,hn,g.ff _ _ hda,hdu.mono g.ff⟩)).setN
     ·have g:=zF.frozen (o:=xS a C da) r1.sub pa1.1;exact(((st1.trans g.step rel.sub).kp Kp.setN').kp Kp.setD).kp Kp.setN'
    |ret u=>obtain⟨v,σ9,H9,J,r,z⟩:=h7;exact z.elim
    |brk=>obtain⟨σ9,H9,J,z⟩:=h7;exact z.elim
    |cont=>obtain⟨σ9,H9,J,z⟩:=h7;exact z.elim
  ·cases f with
   |next=>obtain⟨σ',H',J,z⟩:=h1;exact z.elim
   |ret u=>obtain⟨v,σ',H',J,r,z⟩:=h1;exact z.elim
   |brk=>obtain⟨σ',H',J,z⟩:=h1;exact z.elim
   |cont=>obtain⟨σ',H',J,z⟩:=h1;exact z.elim
 ·cases hf
end
end FL
namespace FX
open PySem.W
variable{Q:Fin->Shared->Prop}{tk:Tok}{expr:Bool}{v:Value}
section
variable{prog:Program}{w:World}{A:Around}{E:VS}{s:Shared}{K:Frag}{x C:Addr}{ox:Obj}{od:Option Obj}{name:Str}
theorem znJ(self:Value):bindSpecial (.builtin "BaseException.__getattribute__") self=pure (.builtin "BaseException.__getattribute__",[self]):=F.attr_ValueError.ga.bind self
theorem zlH{nameV:Value}{Q:Unit->Shared->Prop}(X:K.In s.heap)(I:InstAt s.heap x ox C od)(hm:mroIn K C (.type "BaseException")=some true)(hq:Q () s):wpAny (model prog w) A (checkBuiltinCall "BaseException.__getattribute__" ⟨[.ref x,nameV],[]⟩) Q E s:=by
 have hk:builtinKind "BaseException.__getattribute__"=some .slot:=by decide+kernel
 have hsplit:splitId "BaseException.__getattribute__"=some ("BaseException","__getattribute__"):=by decide+kernel
 have ha:=F.args_bexc_ga (.ref x) nameV;obtain⟨hh,g,d,t,os⟩:=s;have L0:=I.type (M:=model prog w);have L1:=looks_mroIn (M:=model prog w) X hm;simp only[checkBuiltinCall,hk,hsplit];refine wpAny_bind ?_;unfold isInstance;refine wpAny_bind (L0.at (L1.at ?_))
 repeat (any_goals(first|assumption|wp_step))
theorem zpF{fill:Bool}{Q:VS}(X:K.In s.heap)(I:InstAt s.heap x ox C od)(hm:mroIn K C (.type "BaseException")=some true)(hga:findIn K (.ref C) "__getattribute__"=some (some (.builtin "BaseException.__getattribute__")))(hk:findIn K (.ref C) "__getattr__"=some none)(h:∀A' E',wpAny (model prog w) A' (Builtin.«object.__getattribute__» ⟨[.ref x,.str name tk],[]⟩) (λfin s'=>∃v,fin=.done (.ret v)/\handedIn v=true/\Q v s') E' s):wpAny (model prog w) A (getAttrBy (.ref x) (.str name tk) fill expr) Q E s:=by
 obtain⟨hh,g,d,t,os⟩:=s;have L0:=I.type (M:=model prog w);have L1:=looks_findIn (M:=model prog w) X hga;have L2:=looks_findIn (M:=model prog w) X hk;have hx2:(Value.builtin "BaseException.__getattribute__"==Value.builtin "object.__getattribute__")=false:=by decide+kernel
 have hx1:(onTheHeap (Value.ref C)&&Value.builtin "BaseException.__getattribute__"==Value.builtin "object.__getattribute__")=false:=by rw[hx2];rfl
 have hx0:(expr&&onTheHeap (Value.builtin "BaseException.__getattribute__"))=false:=by cases expr<;>rfl
 unfold getAttrBy;refine wpAny_holding (wpAny_bind (L0.at (wpAny_bind (L1.at ?_))));simp only[hx1,Bool.false_eq_true,if_false];unfold getAttrByItsOwn hookBefore;refine wpAny_bind (L2.at ?_);refine wpAny_bind (wpAny_attempt (wpAny_holding ?_));unfold callGetattribute boundAndCalled;simp only[hx0,Bool.false_eq_true,if_false];rw[znJ];refine wpAny_bind (wpAny_pure ?_);refine wpAny_call (codeAny_call_builtin F.attr_ValueError.ga.plain F.entry_bexc_ga (zlH X I hm ?_));refine wpAny_mono (h _ _) (λfin s' ⟨v,e,hv,q⟩=>?_) λ_ _ z=>z
 subst e;show wpAny _ _ (handedOut v) _ _ _;rw[handedOut_of hv];exact wpAny_pure q
theorem zlF{E':VS}(X:K.In s.heap)(I:InstAt s.heap x ox C od)(hf:findObj K C od name=some (.value v))(h:Q (.done (.ret v)) s):wpAny (model prog w) A (Builtin.«object.__getattribute__» ⟨[.ref x,.str name tk],[]⟩) Q E' s:=by obtain⟨hh',g,d,t,os⟩:=s;have L0:=I.type (M:=model prog w);have L1:=looks_find (M:=model prog w) X I hf;unfold Builtin.«object.__getattribute__»;refine wpAny_bind (wpAny_pure (wpAny_bind (wpAny_pure (wpAny_bind (L0.at (wpAny_bind (L1.at ?_)))))));exact wpAny_pure h
theorem zlG{od:Obj}(X:K.In s.heap)(I:InstAt s.heap x ox C (some od))(hdct:hasDictIn K C=true)(ha:findIn K (.ref C) "__class__"=some (some (.builtin "object.__class__")))(hn:specialIn K (.builtin "object.__class__") "__get__"=some (some (.builtin "getset_descriptor.__get__")))(htk:takesIn K (.builtin "object.__class__")=some true)(hm:mroIn K C (.type "object")=some true)(h:Q (.done (.ret (.ref C))) s):wpAny (model prog w) A (Builtin.«object.__getattribute__» ⟨[.ref x,.str "__class__" tk],[]⟩) Q E s:=by have hf:findObj K C (some od) "__class__"=some (.bind (.builtin "getset_descriptor.__get__") (.builtin "object.__class__")):=findObj_data (by obtain⟨cd,hc,_⟩:=any_some hdct;rw[hc];rfl) ha hn htk;obtain⟨hh',g,d,t,os⟩:=s;have L0:=I.type (M:=model prog w);have L1:=looks_find (M:=model prog w) X I hf;unfold Builtin.«object.__getattribute__»;refine wpAny_bind (wpAny_pure (wpAny_bind (wpAny_pure (wpAny_bind (L0.at (wpAny_bind (L1.at ?_)))))));show wpAny _ _ (holding [.builtin "object.__class__"] (call (.builtin "getset_descriptor.__get__") [.builtin "object.__class__",.ref x,.ref C])>>=ret) _ _ _;exact wpAny_bind (wpAny_holding (wpAny_call (class_get (s:=⟨hh',g,d,t,os⟩) (ox:=ox) X I hm (wpAny_pure h))))
theorem get_field{Q:VS}(X:K.In s.heap)(I:InstAt s.heap x ox C od)(hm:mroIn K C (.type "BaseException")=some true)(hga:findIn K (.ref C) "__getattribute__"=some (some (.builtin "BaseException.__getattribute__")))(hk:findIn K (.ref C) "__getattr__"=some none)(hf:findObj K C od name=some (.value v))(hh:handedIn v=true)(h:Q v {s with toks:=s.toks+1}):wpAny (model prog w) A (getAttr (.ref x) name expr) Q E s:=by obtain⟨hh',g,d,t,os⟩:=s;unfold getAttr;exact wpAny_bind (wpAny_mkText (zpF (s:=⟨hh',g,d,t+1,os⟩) X I hm hga hk λA' E'=>zlF (s:=⟨hh',g,d,t+1,os⟩) X I hf ⟨v,rfl,hh,h⟩))
theorem kitx_exc{x D:Addr}{ox od:Obj}(hmb:mroIn K D (.type "BaseException")=some true)(hga:findIn K (.ref D) "__getattribute__"=some (some (.builtin "BaseException.__getattribute__")))(hk:findIn K (.ref D) "__getattr__"=some none)(hdct:hasDictIn K D=true)(ha:findIn K (.ref D) "__class__"=some (some (.builtin "object.__class__")))(hn:specialIn K (.builtin "object.__class__") "__get__"=some (some (.builtin "getset_descriptor.__get__")))(htk:takesIn K (.builtin "object.__class__")=some true)(hm:mroIn K D (.type "object")=some true):
  KitX K (.ref x) (.ref D) (λh=>InstAt h x ox D (some od))where
 ty:=λ_ _ _ I=>I.type
 it:=λ_ _ X _=>by
  obtain⟨cdD,hcD,_⟩:=any_some hdct;unfold clsIn at hcD;split at hcD
  ·rename_i c' d' cd' sl' ho;intro A' Q' E' s' k q;unfold isType loadHead;exact wpAny_bind (wpAny_loadPart (k _ _ (X _ _ ho)) (wpAny_pure q))
  ·cases hcD
 ne:=λh tp dd its n sl X htp=>by
  obtain⟨cdD,hcD,_⟩:=any_some hdct;refine Bool.eq_false_iff.mpr λq=>?_
  have e:D=tp:=Value.ref.inj (beq_iff_eq.mp q);subst e;unfold clsIn at hcD;split at hcD
  ·rename_i c' d' cd' sl' ho;have z:=(X _ _ ho).symm.trans htp;cases z
  ·cases hcD
 ca:=λ{prog w A E Q s} X I k=>by
  obtain⟨hh',g,d,t,os⟩:=s;unfold getAttr? getAttrBy?;refine wpAny_bind (wpAny_mkText (wpAny_bind (wpAny_attempt ?_)));refine zpF (s:=⟨hh',g,d,t+1,os⟩) X I hmb hga hk λA' E'=>zlG (s:=⟨hh',g,d,t+1,os⟩) X I hdct ha hn htk hm ⟨.ref D,rfl,rfl,?_⟩
  exact wpAny_pure k
end
end FX
namespace FL
open L2
structure XQ(K:Fg)(c:Str)(C:Addr):Prop where
 mb:PySem.W.mroIn K C (.type "BaseException")=some true
 ga:PySem.W.findIn K (.ref C) "__getattribute__"=some (some (.builtin "BaseException.__getattribute__"))
 gh:PySem.W.findIn K (.ref C) "__getattr__"=some none
 hd:PySem.W.hasDictIn K C=true
 ca:PySem.W.findIn K (.ref C) "__class__"=some (some (.builtin "object.__class__"))
 mo:PySem.W.mroIn K C (.type "object")=some true
 ve:PySem.W.kitOne K (.ref C) (.type "ValueError")=some true
 nf:PySem.W.findIn K (.ref C) (kD c)=some none
 un:∀c2∈xcs,∀C2,PySem.W.nsIn K mainGlobals c2=some (some (.ref C2))->PySem.W.kitOne K (.ref C) (.ref C2)=some (c==c2)
structure XI(K:Fg):Prop where
 sp:PySem.W.specialIn K (.builtin "object.__class__") "__get__"=some (some (.builtin "getset_descriptor.__get__"))
 tk:PySem.W.takesIn K (.builtin "object.__class__")=some true
 q:∀c∈xcs,∀C,PySem.W.nsIn K mainGlobals c=some (some (.ref C))->XQ K c C
def xqB(K:Fg)(c:Str)(C:Addr):Bool:=PySem.W.mroIn K C (.type "BaseException")==some true&&PySem.W.findIn K (.ref C) "__getattribute__"==some (some (.builtin "BaseException.__getattribute__"))&&PySem.W.findIn K (.ref C) "__getattr__"==some none&&PySem.W.hasDictIn K C&&PySem.W.findIn K (.ref C) "__class__"==some (some (.builtin "object.__class__"))&&PySem.W.mroIn K C (.type "object")==some true&&
 PySem.W.kitOne K (.ref C) (.type "ValueError")==some true&&PySem.W.findIn K (.ref C) (kD c)==some none&&xcs.all λc2=>match PySem.W.nsIn K mainGlobals c2 with
  |some (some (.ref C2))=>PySem.W.kitOne K (.ref C) (.ref C2)==some (c==c2)
  |_=>true
def xiB(K:Fg):Bool:=PySem.W.specialIn K (.builtin "object.__class__") "__get__"==some (some (.builtin "getset_descriptor.__get__"))&&PySem.W.takesIn K (.builtin "object.__class__")==some true&&xcs.all λc=>match PySem.W.nsIn K mainGlobals c with
 |some (some (.ref C))=>xqB K c C
 |_=>true
variable{K:Fg}
theorem zqf(e:xiB K=true):XI K:=by
 unfold xiB at e;simp only[Bool.and_eq_true,beq_iff_eq]at e;obtain⟨⟨a,b⟩,h⟩:=e;refine⟨a,b,λc hc C hn=>?_⟩;have h1:=List.all_eq_true.mp h c hc;rw[hn]at h1;unfold xqB at h1;simp only[Bool.and_eq_true,beq_iff_eq]at h1;obtain⟨⟨⟨⟨⟨⟨⟨⟨a1,b1⟩,b2⟩,a2⟩,a3⟩,a4⟩,a5⟩,a6⟩,a7⟩:=h1;refine⟨a1,b1,b2,a2,a3,a4,a5,a6,λc2 h2 C2 hn2=>?_⟩
 have:=List.all_eq_true.mp a7 c2 h2;rw[hn2]at this;exact beq_iff_eq.mp this
def uxB(K:Fg)(CE:Addr):Bool:=xcs.all λc=>match PySem.W.nsIn K mainGlobals c with
 |some (some (.ref C))=>PySem.W.subIn K (.ref C) (.ref CE)==some true
 |_=>true
variable{fE:Addr}
theorem zqk{CE:Addr}(M:XC K CE fE)(e:uxB K CE=true):UX K CE fE:=by refine⟨M,λc hc C hn=>?_⟩;have h1:=List.all_eq_true.mp e c hc;rw[hn]at h1;exact beq_iff_eq.mp h1
variable{y fld:Str}{p2:Pos}
section
variable{X:Cx}{pins:AO}{σ:St}{F H:Hp}{s:Shared}{K:Fg}{c:Str}{C a da:Addr}{e:Expr}{f:EO D}{p pos:Pos}
theorem zeF{fs:List (Str×V)}(I:Inv X pins σ H s)(h1:H a=some (xS a C da))(h2:H da=some (.xd fs)):∃(ox od:Obj) (mA:SV),PySem.W.InstAt s.heap a ox C (some od)/\(∀name,PySem.W.lookIn name od=some (mA name))/\∀g,RelO (fs.lookup g) (mA g):=by obtain⟨⟨oe,vs,q1,q2,q3,q4⟩,_⟩:=I.hok a _ h1;obtain⟨mA,n,r⟩:=I.hok da _ h2;obtain⟨od,ho,hl⟩:=zfw n;exact⟨oe,od,mA,⟨q1,q2,by unfold PySem.W.notCls;rw[q4],by rw[q3];exact ho⟩,hl,r⟩
def rIsX(K:Fg):List V->Hp->VK->Prop:=λxs H Q=>∃(a C da:Addr) (fs:List (Str×V)) (c:Str) (cv:V) (cu:Value) (b:Bool),xs=[.ref a,cv]/\H a=some (xS a C da)/\H da=some (.xd fs)/\XQ K c C/\(∀u,zQ cv u->u=cu)/\PySem.W.kitOne K (.ref C) cu=some b/\Q (.bl b) H
theorem zhC(J:XI X.K):jX X (.builtin "isinstance") (rIsX X.K):=by
 intro pins s σ H xs us Q I r h;obtain⟨a,C,da,fs,c,cv,cu,b,rfl,h1,h2,q,hc,hb,k⟩:=h;obtain⟨u,z,rfl,r1,r2⟩:=zmR r;cases r1
 cases hc z r2
 obtain⟨ox,od,mA,IA,_,_⟩:=zeF I h1 h2;exact PySem.W.kia_one (FX.kitx_exc q.mb q.ga q.gh q.hd q.ca J.sp J.tk q.mo) I.kIn IA hb (λz=>nomatch z) λtk=>⟨.bl b,H,I.tok _,rfl,k⟩
def rIsY(K:Fg):List V->Hp->VK->Prop:=λxs H Q=>∃(a C da:Addr) (fs:List (Str×V)) (c:Str) (t:Addr) (Cs:List Addr) (b:Bool),xs=[.ref a,.ref t]/\H a=some (xS a C da)/\H da=some (.xd fs)/\XQ K c C/\H t=some (.tup (Cs.map V.ref))/\PySem.W.kitAny K (.ref C) (Cs.map Value.ref)=some b/\Q (.bl b) H
theorem zeV:∀{Cs:List Addr}{us:List Value},zL (Cs.map V.ref) us->us=Cs.map Value.ref
 |[],_,.nil=>rfl
 |_::_,_,.cons r t=>by cases r;rw[zeV t];rfl
theorem zmi(J:XI X.K):jX X (.builtin "isinstance") (rIsY X.K):=by
 intro pins s σ H xs us Q I r h;obtain⟨a,C,da,fs,c,t,Cs,b,rfl,h1,h2,q,ht,hb,k⟩:=h;obtain⟨u,z,rfl,r1,r2⟩:=zmR r;cases r1
 cases r2
 obtain⟨ox,od,mA,IA,_,_⟩:=zeF I h1 h2;obtain⟨_,its,rv,o,q1,q2,n,q3⟩:=I.hok t _ ht;rw[zeV rv]at q3;obtain⟨cl,dd,dt,sl⟩:=o;cases q2;cases q3
 exact PySem.W.kia_tup (FX.kitx_exc q.mb q.ga q.gh q.hd q.ca J.sp J.tk q.mo) I.kIn IA q1 hb (λz=>nomatch z) λtk=>⟨.bl b,H,I.tok _,rfl,k⟩
noncomputable def nO(c2:Str)(x:D):Option D:=match x with
 | .exc c _=>if c∈xcs then some (.bl (c==c2))else none
 |_=>none
noncomputable def isiV(x:D):Option D:=match x with
 | .exc c _=>if c∈xcs then some (.bl true)else none
 |_=>none
noncomputable def isiT(cs:List Str)(x:D):Option D:=match x with
 | .exc c _=>if c∈xcs then some (.bl (cs.any (c==·)))else none
 |_=>none
theorem zlL{c:Str}{d:D}{v:V}(s:zI F H)(h:zO K F H (.exc c d) v):∃a C da u,v=.ref a/\H a=some (xS a C da)/\PySem.W.nsIn K mainGlobals c=some (some (.ref C))/\H da=some (.xd [(kD c,u)])/\Dat K F d u:=by obtain⟨a,C,da,u,h1,h2,h3,h4,h5⟩:=Dat.exc_inv (K:=K) (F:=F) h;exact⟨a,C,da,u,h1,s _ _ h2,h3,s _ _ h4,h5⟩
theorem zre{C2:Addr}(J:XI X.K)(hm2:X.mg y=some (.ref C2))(hn2:PySem.W.nsIn X.K mainGlobals y=some (some (.ref C2)))(hy:y∈xcs)(ha:FP K .br X e f)(hg:Gl X "isinstance")(hm:X.mg "isinstance"=none)(hgy:Gl X y:=by rfl)(hd:(y==("__debug__":Str))=false:=by decide)(he:starEach [e,.Name y p2] X.env=(false,eval e X.env)::starEach [.Name y p2] X.env:=by rfl)(he2:starEach [.Name y p2] X.env=[(false,eval (.Name y p2) X.env)]:=by rfl)(hpl:(backTo pos (starEach [.Name y p2] X.env)).any (·.1)=false:=by rfl)(hK:X.K=K:=by rfl):
  FP K .fz X (.Call (.Name "isinstance" p) [e,.Name y p2] [] pos) (c1 (nO y) f):=FP.mk λρ d hf=>by
 subst hK;obtain⟨x,e1,e2⟩:=zbR hf;unfold nO at e2;split at e2
 ·rename_i c d';obtain⟨hc,rfl⟩:=jD e2;refine PE.imp (zbA (zhC J) hg hm boot_isinstance (jF (ha.h ρ _ e1) (jF (zji (v:=.ref C2) hgy hm2 rfl hd) kO he2) he) (by decide) (by decide) he hpl) λσ H Q h_=>?_
  obtain⟨F,rl,q⟩:=h_;refine⟨F,rl,λv F1 H1 g1 r1=>?_⟩;obtain⟨a,C,da,u,rfl,h1,h2,h3,h4⟩:=zlL g1.fh r1;exact⟨a,C,da,_,c,.ref C2,.ref C2,_,rfl,h1,h3,J.q c hc C h2,λu z=>z,(J.q c hc C h2).un y hy C2 hn2,q _ F1 H1 g1 (Res.bl _)⟩
 ·cases e2
theorem zrc(J:XI X.K)(ha:FP K .br X e f)(hg:Gl X "isinstance")(hm:X.mg "isinstance"=none)(hgy:Gl X "ValueError")(hmy:X.mg "ValueError"=none)(he:starEach [e,.Name "ValueError" p2] X.env=(false,eval e X.env)::starEach [.Name "ValueError" p2] X.env:=by rfl)(he2:starEach [.Name "ValueError" p2] X.env=[(false,eval (.Name "ValueError" p2) X.env)]:=by rfl)(hpl:(backTo pos (starEach [.Name "ValueError" p2] X.env)).any (·.1)=false:=by rfl)(hK:X.K=K:=by rfl):
  FP K .fz X (.Call (.Name "isinstance" p) [e,.Name "ValueError" p2] [] pos) (c1 isiV f):=FP.mk λρ d hf=>by
 subst hK;obtain⟨x,e1,e2⟩:=zbR hf;unfold isiV at e2;split at e2
 ·rename_i c d';obtain⟨hc,rfl⟩:=jD e2;refine PE.imp (zbA (zhC J) hg hm boot_isinstance (jF (ha.h ρ _ e1) (jF (zjn (v:=.ty "ValueError") hgy hmy (by decide+kernel) rfl) kO he2) he) (by decide) (by decide) he hpl) λσ H Q h_=>?_
  obtain⟨F,rl,q⟩:=h_;refine⟨F,rl,λv F1 H1 g1 r1=>?_⟩;obtain⟨a,C,da,u,rfl,h1,h2,h3,h4⟩:=zlL g1.fh r1;exact⟨a,C,da,_,c,.ty "ValueError",.type "ValueError",_,rfl,h1,h3,J.q c hc C h2,λu z=>z,(J.q c hc C h2).ve,q _ F1 H1 g1 (Res.bl _)⟩
 ·cases e2
noncomputable def fldX(fld:Str)(x:D):Option D:=match x with
 | .exc c d=>if c∈xcs/\kD c=fld then some d else none
 |_=>none
theorem ffld(J:XI X.K)(ha:FP K .br X e f)(hb:attributeBase e fld X.env (eval e X.env)=eval e X.env:=by rfl)(hK:X.K=K:=by rfl):FP K .fz X (.Attribute e fld pos) (c1 (fldX fld) f):=FP.mk λρ d hf=>by
 subst hK;obtain⟨x,e1,e2⟩:=zbR hf;unfold fldX at e2;split at e2
 ·rename_i c d';obtain⟨⟨hc,hfl⟩,rfl⟩:=jD e2;intro pins s σ H Q I ⟨F,rl,q⟩;refine znY hb (thn (ha.h ρ _ e1 pins s σ H _ I (show rdE X.K .br ρ _ σ H (λv H1=>∃F1,zF F H F1 H1/\zO X.K F1 H1 (.exc c d') v)from⟨F,rl,λv F1 H1 g h=>⟨F1,g,h⟩⟩)) ?_);rintro ov s1 ⟨v,H1,I1,r1,F1,g1,hd⟩;obtain⟨a,C,da,u,rfl,h1,h2,h3,h4⟩:=zlL g1.fh hd;cases r1
  have q':=J.q c hc C h2;obtain⟨ox,od,mA,IA,hl,hr⟩:=zeF I1 h1 h3;have hu:=hr (kD c);rw[show List.lookup (kD c) [(kD c,u)]=some u by simp[List.lookup]]at hu;cases hm:mA (kD c)with
  |none=>rw[hm]at hu;exact hu.elim
  |some w=>
   rw[hm]at hu;subst hfl;exact FX.get_field I1.kIn IA q'.mb q'.ga q'.gh (PySem.W.findObj_own q'.hd q'.nf rfl (by rw[hl,hm])) (zjU hu) ⟨u,H1,I1.tok _,hu,q _ F1 H1 g1 h4⟩
 ·cases e2
end
inductive NL(X:Cx):List Expr->List Str->List Addr->Prop
 |nil:NL X [] [] []
 |cons {y:Str}{p:Pos} {es:List Expr}{ys:List Str} {Cs:List Addr}{C:Addr} (hm:X.mg y=some (.ref C)) (hn:PySem.W.nsIn X.K mainGlobals y=some (some (.ref C))) (hy:y∈xcs) (r:NL X es ys Cs) (hg:Gl X y:=by rfl) (hd:(y==("__debug__":Str))=false:=by decide)
   (hs:starEach (.Name y p::es) X.env=(false,eval (.Name y p) X.env)::starEach es X.env:=by rfl):NL X (.Name y p::es) (y::ys) (C::Cs)
variable{es:List Expr}{ys:List Str}{Cs:List Addr}{x1:Nat}
section
variable{X:Cx}{pins:AO}{σ:St}{F H:Hp}{s:Shared}{K:Fg}{c:Str}{C CE fE a da:Addr}{e:Expr}{f:EO D}{p pos:Pos}{k:Nat}{fd:FuncData}{pn:Str}
theorem NL.pa(h:NL X es ys Cs):PA X es (λσ H Q=>Q (Cs.map V.ref) H):=by
 induction h with
 |nil=>exact kO
 |cons hm hn hy r hg hd hs ih=>exact jF (zji (v:=.ref _) hg hm rfl hd) ih hs
theorem NL.kit(h:NL X es ys Cs)(q:XQ X.K c C):PySem.W.kitAny X.K (.ref C) (Cs.map Value.ref)=some (ys.any (c==·)):=by
 induction h with
 |nil=>rfl
 |cons hm hn hy r hg hd hs ih=>
  rename_i y p es ys Cs C2;have h1:=q.un y hy _ hn;rw[List.map_cons,PySem.W.kitAny,h1];cases hb:(c==y)with
  |true=>simp[hb]
  |false=>simp only[List.any_cons,hb,Bool.false_or];exact ih
theorem NL.len(h:NL X es ys Cs):Cs.length=es.length:=by
 induction h with
 |nil=>rfl
 |cons hm hn hy r hg hd hs ih=>simp[ih]
theorem zrd(J:XI X.K)(N:NL X es ys Cs)(ha:FP K .br X e f)(hg:Gl X "isinstance")(hm:X.mg "isinstance"=none)(hz:es.length<=100:=by decide)(he:starEach [e,.Tuple es x1 p2] X.env=(false,eval e X.env)::starEach [.Tuple es x1 p2] X.env:=by rfl)(he2:starEach [.Tuple es x1 p2] X.env=[(false,eval (.Tuple es x1 p2) X.env)]:=by rfl)(hpl:(backTo pos (starEach [.Tuple es x1 p2] X.env)).any (·.1)=false:=by rfl)(hK:X.K=K:=by rfl):
  FP K .fz X (.Call (.Name "isinstance" p) [e,.Tuple es x1 p2] [] pos) (c1 (isiT ys) f):=FP.mk λρ d hf=>by
 subst hK;obtain⟨x,e1,e2⟩:=zbR hf;unfold isiT at e2;split at e2
 ·rename_i c d';obtain⟨hc,rfl⟩:=jD e2;refine PE.imp (zbA (zmi J) hg hm boot_isinstance (jF (ha.h ρ _ e1) (jF (zmu N.pa) kO he2) he) (by decide) (by decide) he hpl) λσ H Q h_=>?_
  obtain⟨F,rl,q⟩:=h_;refine⟨F,rl,λv F1 H1 g1 r1=>⟨?_,λt ht=>?_⟩⟩
  ·rw[List.length_map,N.len,sizeLine_eq];omega
  obtain⟨a,C,da,u,rfl,h1,h2,h3,h4⟩:=zlL g1.fh r1;have g2:=zF.fresh (o:=.tup (Cs.map V.ref)) g1.fh ht;exact⟨a,C,da,_,c,t,Cs,_,rfl,g2.hh _ _ h1,g2.hh _ _ h3,J.q c hc C h2,qF,N.kit (J.q c hc C h2),q _ F1 _ (g1.trans g2) (Res.bl _)⟩
 ·cases e2
structure Ek(P:Program)(w:World)(K:Fg)(mg:SV)(base:Heap)(k:Nat):Prop where
 ex:∃CE fE fd pn,XC K CE fE/\mg "EndError"=some (.ref CE)/\kM K fd ["self",pn] []/\jA P w K mg base CX0 k fE fd ["self",pn] (SpE K)/\PySem.W.kitOne K (.ref CE) (.type "ValueError")=some true
end
structure Exs(P:Program)(w:World)(K:Fg)(mg:SV)(base:Heap)(L:List Str):Prop where
 ve:mg "ValueError"=none
 J:XI K
 ux:∃CE fE,UX K CE fE/\mg "EndError"=some (.ref CE)
 cl:∀c∈L,c∈xcs/\∃C,mg c=some (.ref C)/\PySem.W.nsIn K mainGlobals c=some (some (.ref C))
 xk:∀c∈L,Xk P w K mg base c 2
 ek:Ek P w K mg base 1
noncomputable def gF(mb:EO Fl)(np nn:Nat)(ds:List D):Option Rs:=if ds.length=np then(match mb (qX nn ds)with
 |some (.rt d _)=>some (.ok d)
 |some (.rs c d _)=>some (.ex c d)
 |_=>none)else none
theorem zna{mb:Nat->EO Fl}{np nn:Nat}{md:Md}:∀ds r,gF (mb zJ) np nn ds=some r->ds.length=np/\∃n,match r with
   | .ok d=>(∃ρ',mb n (qX nn ds)=some (.rt d ρ'))\/(d=.non/\md=.fz/\∃ρ',mb n (qX nn ds)=some (.nx ρ'))
   | .ex c d=>∃ρ',mb n (qX nn ds)=some (.rs c d ρ'):=λds r h=>by
 unfold gF at h;split at h
 ·rename_i hl;refine⟨hl,zJ,?_⟩;split at h
  ·rename_i d ρ' e;cases h;exact .inl ⟨ρ',e⟩
  ·rename_i c d ρ' e;cases h;exact⟨ρ',e⟩
  ·cases h
 ·cases h
inductive NN(X:Cx)(L:List Str):List Expr->List Str->Prop
 |nil:NN X L [] []
 |cons {y:Str}{p:Pos} {es:List Expr}{ys:List Str} (r:NN X L es ys) (hy:y∈L:=by decide) (hg:Gl X y:=by rfl) (hd:(y==("__debug__":Str))=false:=by decide)
   (hs:starEach (.Name y p::es) X.env=(false,eval (.Name y p) X.env)::starEach es X.env:=by rfl):NN X L (.Name y p::es) (y::ys)
section
variable{X:Cx}{K:Fg}{md:Md}{j:Nat}{c:Str}{L:List Str}{e:Expr}{f:EO D}{p pos rp p2:Pos}
theorem NN.nl(E:Exs X.prog X.w X.K X.mg X.base L)(h:NN X L es ys):∃Cs,NL X es ys Cs:=by
 induction h with
 |nil=>exact⟨[],.nil⟩
 |cons r hy hg hd hs ih=>
  obtain⟨Cs,ih⟩:=ih;obtain⟨h1,C,h2,h3⟩:=E.cl _ hy;exact⟨C::Cs,.cons h2 h3 h1 ih hg hd hs⟩
theorem zmp(E:Exs X.prog X.w X.K X.mg X.base L)(hr:zW j X.A)(ha:FP K .fz X e f)(hc:c∈L:=by decide)(hle:3<=j:=by first|decide|omega)(hg:Gl X c:=by rfl)(hK:X.K=K:=by rfl)(hdb:(c==("__debug__":Str))=false:=by decide)(hst:starEach [e] X.env=(false,eval e X.env)::starEach [] X.env:=by rfl)(hpl:(backTo pos (starEach [] X.env)).any (·.1)=false:=by rfl):
  FS K md X (.Raise (some (.Call (.Name c p) [e] [] pos)) none rp) (rsM c f):=zou (E.xk c hc) hr ha hle hg hK hdb hst hpl
theorem xisC(E:Exs X.prog X.w X.K X.mg X.base L)(B:Glb X.mg)(ha:FP K .br X e f)(hy:y∈L:=by decide)(hg:Gl X "isinstance":=by rfl)(hgy:Gl X y:=by rfl)(hd:(y==("__debug__":Str))=false:=by decide)(he:starEach [e,.Name y p2] X.env=(false,eval e X.env)::starEach [.Name y p2] X.env:=by rfl)(he2:starEach [.Name y p2] X.env=[(false,eval (.Name y p2) X.env)]:=by rfl)(hpl:(backTo pos (starEach [.Name y p2] X.env)).any (·.1)=false:=by rfl)(hK:X.K=K:=by rfl):
  FP K .fz X (.Call (.Name "isinstance" p) [e,.Name y p2] [] pos) (c1 (nO y) f):=by
 obtain⟨h1,C,h2,h3⟩:=E.cl y hy;exact zre E.J h2 h3 h1 ha hg B.isi hgy hd he he2 hpl hK
theorem xisV(E:Exs X.prog X.w X.K X.mg X.base L)(B:Glb X.mg)(ha:FP K .br X e f)(hg:Gl X "isinstance":=by rfl)(hgy:Gl X "ValueError":=by rfl)(he:starEach [e,.Name "ValueError" p2] X.env=(false,eval e X.env)::starEach [.Name "ValueError" p2] X.env:=by rfl)(he2:starEach [.Name "ValueError" p2] X.env=[(false,eval (.Name "ValueError" p2) X.env)]:=by rfl)(hpl:(backTo pos (starEach [.Name "ValueError" p2] X.env)).any (·.1)=false:=by rfl)(hK:X.K=K:=by rfl):
  FP K .fz X (.Call (.Name "isinstance" p) [e,.Name "ValueError" p2] [] pos) (c1 isiV f):=zrc E.J ha hg B.isi hgy E.ve he he2 hpl hK
theorem xisT(E:Exs X.prog X.w X.K X.mg X.base L)(B:Glb X.mg)(N:NN X L es ys)(ha:FP K .br X e f)(hg:Gl X "isinstance":=by rfl)(hz:es.length<=100:=by decide)(he:starEach [e,.Tuple es x1 p2] X.env=(false,eval e X.env)::starEach [.Tuple es x1 p2] X.env:=by rfl)(he2:starEach [.Tuple es x1 p2] X.env=[(false,eval (.Tuple es x1 p2) X.env)]:=by rfl)(hpl:(backTo pos (starEach [.Tuple es x1 p2] X.env)).any (·.1)=false:=by rfl)(hK:X.K=K:=by rfl):
  FP K .fz X (.Call (.Name "isinstance" p) [e,.Tuple es x1 p2] [] pos) (c1 (isiT ys) f):=by
 obtain⟨Cs,N⟩:=N.nl E;exact zrd E.J N ha hg B.isi hz he he2 hpl hK
theorem xfld(E:Exs X.prog X.w X.K X.mg X.base L)(ha:FP K .br X e f)(hb:attributeBase e fld X.env (eval e X.env)=eval e X.env:=by rfl)(hK:X.K=K:=by rfl):FP K .fz X (.Attribute e fld pos) (c1 (fldX fld) f):=ffld E.J ha hb hK
theorem xtry(i j:Nat){body:List Stmt}{n:Str}{bM:EO Fl}{p1 p2 p3 p4 p5 pos:Pos}(E:Exs X.prog X.w X.K X.mg X.base L)(hN:X.N.Nodup)(hb:∀pn E',FSs K md (Cx.tx X pn E') body bM)(hg:Gl X "EndError":=by rfl)(hi:X.N[i]?=some y:=by rfl)(hj:X.N[j]?=some n:=by rfl)(hnl:X.env.kindOf n=some .local:=by rfl)(hy:Loc X.env.scope y:=by first|exact Or.inl rfl|exact Or.inr rfl)(hnL:Loc X.env.scope n:=by first|exact Or.inl rfl|exact Or.inr rfl)(hnV:Vis X.env.scope n:=by first|exact Or.inl rfl|exact Or.inr (Or.inl rfl)|exact Or.inr (Or.inr rfl))(hnd:(n==("__debug__":Str))=false:=by decide)(hnc:(n==("__classdict__":Str))=false:=by decide)(hs:swapsWith (.Name n p3) (some (.Name y p2)) p4.line X.env=pure false:=by rfl)(hfy:X.fn y=true\/X.env.scope.names.lookup y=some .local:=by first|exact Or.inl rfl|exact Or.inr rfl)(hfn:X.fn n=true\/X.env.scope.names.lookup n=some .local:=by first|exact Or.inl rfl|exact Or.inr rfl)(hst:X.stack=X.env::X.outer:=by rfl)(hfm:X.env.frame=some X.env.locals:=by rfl)(hK:X.K=K:=by rfl):
  FS K md X (.Try body [.ExceptHandler (some (.Name "EndError" p1)) (some n) [.Assign [.Name y p2] (.Name n p3) p4] p5] [] [] pos) (nF i j bM):=by
 obtain⟨CE,fE,U,hE⟩:=E.ux;exact stry i j U hE hN hb hg hi hj hnl hy hnL hnV hnd hnc hs hfy hfn hst hfm hK
end
noncomputable def xtB(K:Fg):Bool:=xiB K&&match PySem.W.nsIn K mainGlobals "EndError"with
 |some (some (.ref CE))=>uxB K CE&&PySem.W.kitOne K (.ref CE) (.type "ValueError")==some true
 |_=>false
abbrev FaZ:=FaY×Bool
def fcV(p:Program)(I J:List Nat)(K:Fg):FaZ:=(fbV p I J K,xtB K)
def fcX(p:Program)(I J:List Nat):FaZ:=(fbX p I J,true)
def YP3(p:Program)(I J:List Nat)(_:World)(h:Heap):Prop:=∃K:Fg,K.In h/\fcV p I J K=fcX p I J
variable{p:Program}{I J:List Nat}
theorem YP3.keeps(w:World)(h h':Heap)(y:YP3 p I J w h)(k:∀b o,h.get? b=some o->h'.get? b=some o):YP3 p I J w h':=
 let⟨K,X,A⟩:=y;⟨K,λa o e=>k _ _ (X a o e),A⟩
theorem walkE3{l:PySem.W.OpenLaw}{k:Nat}{q:Program}{loose:List Str}{XP:(SV)->Heap->Prop}{d:DefRec}{x:Str}{m:Lo2}(hn:l.most=some 63)(hdf:d.params.defaults=[])(hr:zW k callerA)(F:∀(K:Fg) (w:World) (mg:SV) (fa:Addr) (h:Heap),fcV p I J K=fcX p I J->K.In h->h.Ns mainGlobals mg->mg d.name=some (.ref fa)->
   ∃fd:FuncData,(∀(s:Shared) (u:Value),BindsTo s fd ⟨[u],[]⟩ [(x,u)])/\∀base:Heap,K.In base->base.Ns mainGlobals mg->jA l.prog w K mg base CX0 k fa fd [x] (SpD K .fz m))(H:∀ns:List Int,ns.length<=63->m [.scr ns]=some (.bl true)):PySem.W.WalkO q loose XP (YP3 p I J) l.row.toRowW d [] (λf vs=>PySem.call f vs):=by
 intro w s0 s1 mg mb G Y;obtain⟨K,hK,A⟩:=Y;exact zqj (K:=λ_=>K) (YP:=λ_ h'=>K.In h') hn hdf hr (λ_ _ z=>z) (λw mg fa h=>F K w mg fa h A) H w s0 s1 mg mb ⟨G.T,G.B,G.D,G.TE,G.TD,G.W,G.X,G.cls,G.has,G.apart,G.once,G.K⟩ hK
theorem zpN{P:Program}{w:World}{h base:Heap}{mg:SV}{L:List Str}{CE:Addr}{fdE:FuncData}{pn:Str}(A:fcV p I J K=fcX p I J)(X:K.In h)(G:h.Ns mainGlobals mg)(hE:PySem.W.nsIn K mainGlobals "EndError"=some (some (.ref CE)))(M:XC K CE fE)(hb:kM K fdE ["self",pn] [])(FE:jA P w K mg base CX0 1 fE fdE ["self",pn] (SpE K))(cl:∀c∈L,c∈xcs/\∃C,PySem.W.nsIn K mainGlobals c=some (some (.ref C)))(xk:∀c∈L,Xk P w K mg base c 2):Exs P w K mg base L:=by have z:xtB K=true:=congrArg Prod.snd A;have ve:PySem.W.nsIn K mainGlobals "ValueError"=some none:=congrArg (λq=>q.1.2.2) A;unfold xtB at z;rw[hE]at z;simp only[Bool.and_eq_true,beq_iff_eq]at z;obtain⟨z1,z2,z3⟩:=z;exact⟨PySem.W.mg_none_of X G ve,zqf z1,⟨CE,fE,zqk M z2,PySem.W.mg_of X G hE⟩,λc hc=>let⟨a,C,b⟩:=cl c hc;⟨a,C,PySem.W.mg_of X G b,b⟩,xk,⟨CE,fE,fdE,pn,M,PySem.W.mg_of X G hE,hb,FE,z3⟩⟩
section
variable{X:Cx}{k j:Nat}{ps:List Str}{md:Md}{m:Lo2}{K:Fg}{x:Str}{a b:Expr}{f:EO D}{h:EO (Str×D)}{p pos:Pos}
noncomputable def rAft(f:EO D)(h:EO (Str×D)):EO (Str×D):=λρ=>(f ρ).bind λ_=>h ρ
theorem zqx(G:Fk X.prog X.w X.K X.mg X.base x ps md k m)(ha:FP K .fz X a f)(hb:RX K X b h)(hg:Gl X x:=by rfl)(hK:X.K=K:=by rfl)(hdb:(x==("__debug__":Str))=false:=by decide)(he:starEach [a,b] X.env=(false,eval a X.env)::starEach [b] X.env:=by rfl)(he2:starEach [b] X.env=[(false,eval b X.env)]:=by rfl)(hpl:(backTo pos (starEach [b] X.env)).any (·.1)=false:=by rfl):RX K X (.Call (.Name x p) [a,b] [] pos) (rAft f h):=RX.mk λρ c d hf=>by subst hK;obtain⟨l,e1,e2⟩:=Option.bind_eq_some_iff.mp hf;obtain⟨fa,fd,F,_,hk,hm⟩:=G.ex;intro pins s σ H Q I ⟨Fr,r,q⟩;refine wpAny_Call_Name_kw (zbP I hg hm ?_ hdb);have hA:=(jF (ha.h ρ l e1) (jF (hb.h ρ c d e2) kO he2) he) pos pins s σ H (λ_ _=>False) I (show yN (rdE X.K .fz ρ l) (yN (rdW X X.K ρ c d) wA) σ H _ from⟨Fr,r,λv F1 H1 g1 hd=>(show rdW X X.K ρ c d σ H1 _ from⟨F1,r.grow g1,λF' H' C da g z=>q F' H' C da (g1.trans g) z⟩)⟩);exact PySem.W.callWith_K (h₀:=X.base) I.ok.mod.kin hk (thn hA λus s1 ⟨vs,H1,I1,rv,z⟩=>z.elim) he hpl
end
end FL
namespace FX
section
variable{prog:Program}{w:World}{A:Around}{E:VS}{s:Shared}
end
end FX
namespace FL
open L2
section
variable{X:Cx}{K:Fg}{pos:Pos}
end
structure ZZ where
 P:Program
 w:World
 K:Fg
 mg:SV
 base:Heap
variable{us:List Value}
theorem us1(h:us.length=1):∃a,us=[a]:=List.length_eq_one_iff.mp h
theorem us2(h:us.length=2):∃a b,us=[a,b]:=by
 cases us with
 |nil=>cases h
 |cons a l=>obtain⟨b,rfl⟩:=us1 (Nat.succ.inj h);exact⟨a,b,rfl⟩
theorem us3(h:us.length=3):∃a b c,us=[a,b,c]:=by
 cases us with
 |nil=>cases h
 |cons a l=>obtain⟨b,c,rfl⟩:=us2 (Nat.succ.inj h);exact⟨a,b,c,rfl⟩
theorem us4(h:us.length=4):∃a b c d,us=[a,b,c,d]:=by
 cases us with
 |nil=>cases h
 |cons a l=>obtain⟨b,c,d,rfl⟩:=us3 (Nat.succ.inj h);exact⟨a,b,c,d,rfl⟩
theorem us5(h:us.length=5):∃a b c d e,us=[a,b,c,d,e]:=by
 cases us with
 |nil=>cases h
 |cons a l=>obtain⟨b,c,d,e,rfl⟩:=us4 (Nat.succ.inj h);exact⟨a,b,c,d,e,rfl⟩
abbrev FNs(p:Program)(I:List Nat)(Z:ZZ):Prop:=∀i∈I,∀n,stN (zZ p i)=n->∃f fd,Z.mg n=some (.ref f)/\Fun Z.K n n (zZ p i) f fd
abbrev BQ(x:Str)(st:Stmt)(ps:List Str):Prop:=∀(kV doc pm:Value) (an:Option Addr) (cdv ct:Value) (us:List Value),us.length=ps.length->bindArgs (PySem.W.fnOf x x (zcr st) (kS st) (qH st) .none kV doc pm an cdv ct) ⟨us,[]⟩=pure (ps.zip us)
structure Df(p:Program)(I:List Nat)(i:Nat)(x:Str)(ps:List Str):Prop where
 hi:i∈I
 hn:stN (zZ p i)=x
 hB:BQ x (zZ p i) ps
variable{x:Str}
theorem dfo{p:Program}{I:List Nat}{i:Nat}{ps:List Str}(hi:i∈I:=by decide)(hn:stN (zZ p i)=x:=by rfl)(hB:BQ x (zZ p i) ps:=by
   intro _ _ _ _ _ _ us hl;first
    |(obtain⟨_,rfl⟩:=us1 hl;rfl)
    |(obtain⟨_,_,rfl⟩:=us2 hl;rfl)
    |(obtain⟨_,_,_,rfl⟩:=us3 hl;rfl)
    |(obtain⟨_,_,_,_,rfl⟩:=us4 hl;rfl)
    |(obtain⟨_,_,_,_,_,rfl⟩:=us5 hl;rfl)
    |(obtain⟨_,_,_,_,_,_,rfl⟩:=us6 hl;rfl)):Df p I i x ps:=⟨hi,hn,hB⟩
abbrev Fq(Z:ZZ):=Fk Z.P Z.w Z.K Z.mg Z.base
abbrev FqX(Z:ZZ):=FkX Z.P Z.w Z.K Z.mg Z.base
abbrev FqE(Z:ZZ):=FkE Z.P Z.w Z.K Z.mg Z.base
section
variable{p:Program}{I:List Nat}{Z:ZZ}{x:Str}{ps:List Str}{md:Md}{k np nn j:Nat}{mb:Nat->EO Fl}{m:Lo2}
theorem zpH{h:Heap}(A:faV p I Z.K=faX p I)(X:Z.K.In h)(G:h.Ns mainGlobals Z.mg):FNs p I Z:=λi hi n hn=>by obtain⟨f,fd,a,F⟩:=zpQ A i hi hn;exact⟨f,fd,PySem.W.mg_of X G a,F⟩
theorem mkM(F:FNs p I Z)(i:Nat)(N:List Str)(hb:N.Nodup->∀(f:Addr) (n:Nat) (cdv:Value) (A:Around) (outer:List Env) (s:Shared) (H:Hp) (E:XK),zW k (A.deeper (envOfC x (qH (zZ p i)) s.heap.objs.size f cdv))->FSs Z.K md (kE CX0 Z.P Z.w Z.K Z.mg Z.base N x (qH (zZ p i)) f cdv A outer s H E).nox (kS (zZ p i)) (mb n))(S:yL N ps (qH (zZ p i)))(hi:i∈I)(hn:stN (zZ p i)=x)(hB:BQ x (zZ p i) ps)(hm:∀ds d,m ds=some d->ds.length=ps.length/\∃n,(∃ρ',mb n (qX N.length ds)=some (.rt d ρ'))\/(d=.non/\md=.fz/\∃ρ',mb n (qX N.length ds)=some (.nx ρ'))):
  Fq Z x ps md (k+1) m:=by
 obtain⟨f,fd,a,F⟩:=F i hi x hn;exact⟨_,_,zpL F S (hb S.nd f) hm,F.binds hB,F.kp,a⟩
theorem mkF(F:FNs p I Z)(i:Nat)(N:List Str)(hb:N.Nodup->∀(f:Addr) (n:Nat) (cdv:Value) (A:Around) (outer:List Env) (s:Shared) (H:Hp) (E:XK),zW k (A.deeper (envOfC x (qH (zZ p i)) s.heap.objs.size f cdv))->FSs Z.K md (kE CX0 Z.P Z.w Z.K Z.mg Z.base N x (qH (zZ p i)) f cdv A outer s H E).nox (kS (zZ p i)) (mb n))(hnp:ps.length=np:=by rfl)(hnn:N.length=nn:=by rfl)(S:yL N ps (qH (zZ p i)):=by exact⟨rfl,rfl,rfl,by decide+kernel,rfl,by decide+kernel,by decide+kernel⟩)(T:Df p I i x ps:=by exact dfo):
  Fq Z x ps md (k+1) (qO (mb zJ) np nn):=by
 subst hnp hnn;exact mkM F i N hb S T.hi T.hn T.hB ziR
theorem mkX(F:FNs p I Z)(i:Nat)(N:List Str)(hb:N.Nodup->∀(f:Addr) (n:Nat) (cdv:Value) (A:Around) (outer:List Env) (s:Shared) (H:Hp) (E:XK),zW k (A.deeper (envOfC x (qH (zZ p i)) s.heap.objs.size f cdv))->FSs Z.K .fz (kE CX0 Z.P Z.w Z.K Z.mg Z.base N x (qH (zZ p i)) f cdv A outer s H E).nox (kS (zZ p i)) (mb n))(hnp:ps.length=np:=by rfl)(hnn:N.length=nn:=by rfl)(S:yL N ps (qH (zZ p i)):=by exact⟨rfl,rfl,rfl,by decide+kernel,rfl,by decide+kernel,by decide+kernel⟩)(T:Df p I i x ps:=by exact dfo):
  FqX Z x ps j (k+1) (xV (mb zJ) np nn j):=by
 obtain⟨f,fd,a,F⟩:=F i T.hi x T.hn;exact⟨_,_,zpK F S np nn j hnp hnn (hb S.nd f),F.binds T.hB,F.kp,a⟩
theorem mkR(F:FNs p I Z)(i:Nat)(N:List Str)(hb:N.Nodup->∀(f:Addr) (n:Nat) (cdv:Value) (A:Around) (outer:List Env) (s:Shared) (H:Hp) (E:XK),zW k (A.deeper (envOfC x (qH (zZ p i)) s.heap.objs.size f cdv))->FSs Z.K md (kE (CX1 Z.P Z.w) Z.P Z.w Z.K Z.mg Z.base N x (qH (zZ p i)) f cdv A outer s H E) (kS (zZ p i)) (mb n))(hnp:ps.length=np:=by rfl)(hnn:N.length=nn:=by rfl)(S:yL N ps (qH (zZ p i)):=by exact⟨rfl,rfl,rfl,by decide+kernel,rfl,by decide+kernel,by decide+kernel⟩)(T:Df p I i x ps:=by exact dfo):
  FqE Z x ps md (k+1) (gF (mb zJ) np nn):=by
 subst hnp hnn;obtain⟨f,fd,a,F⟩:=F i T.hi x T.hn;exact⟨_,_,zmB F S (hb S.nd f) zna,F.binds T.hB,F.kp,a⟩
theorem recF{mn:Nat->Lo2}(F:FNs p I Z)(i:Nat)(kb R:Nat)(hs:∀n,Fq Z x ps md (kb+n) (mn n)->Fq Z x ps md (kb+n+1) (mn (n+1)))(h0:∀ds,mn 0 ds=none:=by intro _;rfl)(T:Df p I i x ps:=by exact dfo):Fq Z x ps md (kb+R) (mn R):=by
 obtain⟨f,fd,a,F⟩:=F i T.hi x T.hn;induction R with
 |zero=>exact(Fk.never ⟨F.binds T.hB,F.kp,a⟩ h0).mono (Nat.zero_le _)
 |succ n ih=>exact hs n ih
end
abbrev BQi(st:Stmt)(ps:List Str):Prop:=∀(kV doc pm:Value) (an:Option Addr) (cdv ct:Value) (us:List Value),us.length=ps.length->bindArgs (PySem.W.fnOf "__init__" (quN st) (zcr (yS st)) (kS (yS st)) (qH (yS st)) .none kV doc pm an cdv ct) ⟨us,[]⟩=pure (ps.zip us)
structure EB(Z:ZZ)(CE fE:Addr)(fdE:FuncData)(pE:Str):Prop where
 m:Z.mg "EndError"=some (.ref CE)
 B:XE Z.K CE fE
 F:jA Z.P Z.w Z.K Z.mg Z.base CX0 1 fE fdE ["self",pE] (SpE Z.K)
 b:kM Z.K fdE ["self",pE] []
section
variable{p:Program}{I J:List Nat}{Z:ZZ}{h:Heap}{CE fE:Addr}{fdE:FuncData}{pE c:Str}{L:List Str}
theorem ziw(E:EB Z CE fE fdE pE)(A:fcV p I J Z.K=fcX p I J)(X:Z.K.In h)(G:h.Ns mainGlobals Z.mg)(i:Nat)(pn fld:Str)(hi:i∈J:=by decide)(hn:stN (zZ p i)=c:=by rfl)(hf:kD c=fld:=by decide+kernel)(S:yL ["self",pn] ["self",pn] (qH (yS (zZ p i))):=by exact⟨rfl,rfl,rfl,by decide+kernel,rfl,by decide+kernel,by decide+kernel⟩)(hB:BQi (zZ p i) ["self",pn]:=by intro _ _ _ _ _ _ us hl;obtain⟨_,_,rfl⟩:=us2 hl;rfl)(hb:EB Z CE fE fdE pE->∀(f:Addr) (d:D) (cdv:Value) (A:Around) (outer:List Env) (s:Shared) (H:Hp) (E':XK),shD d=true->zW 1 (A.deeper (envOfC (quN (zZ p i)) (qH (yS (zZ p i))) s.heap.objs.size f cdv))->PSs (kE CX0 Z.P Z.w Z.K Z.mg Z.base ["self",pn] (quN (zZ p i)) (qH (yS (zZ p i))) f cdv A outer s H E').nox (kS (yS (zZ p i)))
   (tSeq (ziD λσ H Q=>yN (vJ 0) (yN (rdF Z.K [none,some (.dat d)]) wA) σ H λvs H1=>SpE Z.K vs H1 Q E0) (sX Z.K fld)):=by
   exact λE f d cdv A outer s H E' hs hr=>zep (zcU (zlg E.B E.F hr E.b rfl E.m (jF (yE rfl (.inl rfl)) (jF (by first|exact zqJ hr (fv 1) rfl hs (by decide+kernel) zhg|exact zqI hr (fv 1) rfl hs (by decide+kernel) (by decide+kernel) zhg zhg) kO))))
    (zeo (zng (yE rfl (.inl rfl)) (yE rfl (.inl rfl)) (by decide) (by rw[typeLookup_type,builtinLookup_eq_fast];kernel_rfl) (by decide+kernel)))):Xk Z.P Z.w Z.K Z.mg Z.base c 2:=by
 obtain⟨C,f,fd,n,M,_,Q⟩:=zpO (congrArg Prod.fst A) i hi;rw[hn]at n;subst hf;exact⟨_,_,_,_,M,n,PySem.W.mg_of X G n,Q.binds hB,znG M Q S (hb E f)⟩
theorem zpR(A:fcV p I J Z.K=fcX p I J)(X:Z.K.In h)(G:h.Ns mainGlobals Z.mg)(i:Nat)(pn:Str)(xk:∀CE fE fdE,EB Z CE fE fdE pn->∀c∈L,Xk Z.P Z.w Z.K Z.mg Z.base c 2)(hi:i∈J:=by decide)(hn:stN (zZ p i)="EndError":=by rfl)(S:yL ["self",pn] ["self",pn] (qH (yS (zZ p i))):=by exact⟨rfl,rfl,rfl,by decide+kernel,rfl,by decide+kernel,by decide+kernel⟩)(hB:BQi (zZ p i) ["self",pn]:=by intro _ _ _ _ _ _ us hl;obtain⟨_,_,rfl⟩:=us2 hl;rfl)(hb:Z.mg "ValueError"=none->∀(f:Addr) (cdv:Value) (A:Around) (outer:List Env) (s:Shared) (H:Hp) (E:XK),PSs (kE CX0 Z.P Z.w Z.K Z.mg Z.base ["self",pn] (quN (zZ p i)) (qH (yS (zZ p i))) f cdv A outer s H E).nox (kS (yS (zZ p i)))
   (ziD λσ H Q=>yN (vJ 0) (yN (vJ 1) wA) σ H λvs H1=>∃e C y fI,vs=[.ref e,.str y]/\H1 e=some (yB e C)/\XC Z.K C fI/\Q .non H1):=by
   exact λhv f cdv A outer s H E=>zeo (zcU (zle rfl hv (jF (yE rfl (.inl rfl)) (jF (yE rfl (.inl rfl)) kO)))))(hx:∀c∈L,c∈xcs:=by decide):Exs Z.P Z.w Z.K Z.mg Z.base L:=by
 obtain⟨C,f,fd,n,M,B,Q⟩:=zpO (congrArg Prod.fst A) i hi;rw[hn]at n;have b:=Q.binds hB;have F:=zpU (k:=0) Q S (hb (PySem.W.mg_none_of X G (congrArg (λq=>q.1.2.2) A)) f);have x:=xk _ _ _ ⟨PySem.W.mg_of X G n,B,F,b⟩;exact zpN A X G n M b F (λc hc=>let⟨C,_,_,_,_,n,_⟩:=(x c hc).ex;⟨hx c hc,C,n⟩) x
end
variable{op:CmpOp}
section
variable{K:Fg}{X:Cx}{a b:Expr}{fa fb:EO D}{p:D->D->Option D}{pos p2 p3:Pos}{md:Md}{k:Nat}
theorem bi{i j}{pos:Pos}:FP K .br X (.Constant (.int i) j pos) (cst (.int i)):=FP.br zP
theorem bop{op:Operator}(o:Op2 K X (binaryOp op) .fz p)(ha:FP K .br X a fa)(hb:FP K .br X b fb):FP K .br X (.BinOp a op b pos) (c2 p fa fb):=FP.br (fop o ha hb)
theorem fiz(ha:FP K .br X a fa)(hb:FP K .br X b fb)(hK:X.K=K:=by rfl)(hs:zeR b:=by exact λ_ _=>rfl):FP K .fz X (.Subscript a b pos) (c2 zS fa fb):=fix (p_ix hK) ha hb hs
theorem biz(ha:FP K .br X a fa)(hb:FP K .br X b fb)(hK:X.K=K:=by rfl)(hs:zeR b:=by exact λ_ _=>rfl):FP K .br X (.Subscript a b pos) (c2 zS fa fb):=FP.br (fix (p_ix hK) ha hb hs)
theorem fcq(o:Op2 K X (compareOp op) md p)(ha:FP K .br X a fa)(hb:FP K .br X b fb)(h:op≠.In:=by decide)(h2:op≠.NotIn:=by decide):FP K md X (.Compare a [op] [b] pos) (c2 p fa fb):=fcmp o ha hb (zju _ h h2)
theorem tcq(o:Op2 K X (compareOp op) .fz p)(ha:FP K .br X a fa)(hb:FP K .br X b fb)(h:op≠.In:=by decide)(h2:op≠.NotIn:=by decide):FTp K X (.Compare a [op] [b] pos) (cT (c2 p fa fb)):=tcmp o ha hb (zju _ h h2)
theorem tcf(o:nY K X (compareOp op) p)(ha:FP K .fz X a fa)(hb:FP K .br X b fb)(hm:behindInMarks op b=false:=by with_unfolding_all rfl):FTp K X (.Compare a [op] [b] pos) (cT (c2 p fa fb)):=zqm o ha hb hm
theorem peq(hr:zW k X.A):Op2 K X (compareOp .Eq) .fz eqB:=p_eq (u100 hr)
theorem pne(hr:zW k X.A):Op2 K X (compareOp .NotEq) .fz neB:=p_ne (u100 hr)
theorem pinn(hr:zW k X.A):nY K X (compareOp .In) inB:=p_in (u101 hr)
theorem pnin(hr:zW k X.A):nY K X (compareOp .NotIn) yF:=zno (u101 hr)
theorem fln(B:Glb X.mg)(ha:FP K .br X a fa)(hg:Gl X "len":=by rfl)(hK:X.K=K:=by rfl)(hs:starEach [a] X.env=(false,eval a X.env)::starEach [] X.env:=by rfl):FP K .fz X (.Call (.Name "len" p2) [a] [] pos) (cL jB (zA fa zC)):=zdV (zro hK) hg B.len PySem.boot_len (vW ha zE hs) (by decide) (by decide) hs
theorem bln(B:Glb X.mg)(ha:FP K .br X a fa)(hg:Gl X "len":=by rfl)(hK:X.K=K:=by rfl)(hs:starEach [a] X.env=(false,eval a X.env)::starEach [] X.env:=by rfl):FP K .br X (.Call (.Name "len" p2) [a] [] pos) (cL jB (zA fa zC)):=FP.br (fln B ha hg hK hs)
def ndb(l:List Str):Bool:=decide l.Nodup
theorem gnm(i:Nat)(hN:ndb X.N=true:=by kernel_rfl)(hi:X.N[i]?=some x:=by rfl)(hx:Loc X.env.scope x:=by first|exact Or.inl rfl|exact Or.inr rfl)(hf:X.fn x=true\/X.env.scope.names.lookup x=some .local:=by first|exact .inl rfl|exact .inr rfl|assumption):FG K X (.Name x pos) (gN i):=qU i (of_decide_eq_true hN) hi hx hf
end
end FL
namespace L2
section
variable{X:Cx}
def SetI(P:Program)(w:World)(a:Addr)(n:Nat)(h:Heap):Prop:=∃S,h.SetOf (intKind P w) a S n
theorem SetI.at{P:Program}{w:World}{a:Addr}{n:Nat}{h h':Heap}(x:SetI P w a n h)(k:∀o,h.get? a=some o->h'.get? a=some o):SetI P w a n h':=by obtain⟨S,o,es,ep,t,e,r⟩:=x;exact⟨S,o,es,ep,t,k _ e,r⟩
theorem zfC(ns:List Int):firstMet (λi=>ns.getD i 0) ns.length=ns.foldl step_dedup []:=by
 have:(List.range ns.length).map (λi=>ns.getD i 0)=ns:=by
  apply List.ext_getElem?;intro i;rw[List.getElem?_map];by_cases h:i<ns.length
  ·rw[List.getElem?_range h,List.getElem?_eq_getElem h];simp[h]
  ·rw[List.getElem?_eq_none (by simpa using h),List.getElem?_eq_none (by simpa using h)];rfl
 unfold firstMet;rw[this]
def zqA(X:Cx):List V->Hp->VK->Prop:=λxs H Q=>∃(p:Addr) (ns:List Int),xs=[.ref p]/\SqL X.K H p (ns.map V.int)/\ns.length+1<scanBound/\∀l,H l=none->Q (.ref l) (upd H l (.ext (SetI X.prog X.w l (ns.foldl step_dedup []).length)))
theorem zkx(hc:X.calm=true):jX X (.type "set") (zqA X):=by
 intro pins s σ H xs us Q I rv h;obtain⟨p,ns,rfl,hq,hz,q⟩:=h;obtain⟨u,rfl,ru⟩:=rv.one;cases ru
 obtain⟨its,r',pl,_⟩:=I.list hq;have hl:its.toArray.size=ns.length:=by rw[List.size_toArray,←r'.length,List.length_map]
 refine call_set_list (I.ok.hd hc) pl.isList (zaI r') (by rw[hl];exact hz) λh' tk hS k=>?_
 rw[hl,zfC]at hS;have hs:SetI X.prog X.w s.heap.objs.size (ns.foldl step_dedup []).length h':=⟨_,hS⟩;have I2:=I.laid (t':=tk) (o:=.ext (SetI X.prog X.w s.heap.objs.size (ns.foldl step_dedup []).length)) (λb o e=>k b o (Heap.lt_size e) e) (Nat.le_refl _) (show qZ X.prog X.w _ _ _ (.ext _)from⟨hs,(let⟨S,o,es,ep,t,e,r⟩:=hs;⟨o,e⟩),λh1 h2 a k=>a.at k⟩);exact⟨.ref _,_,I2,rfl,q _ I.fresh⟩
def zqD(X:Cx):List V->Hp->VK->Prop:=λxs H Q=>∃p n,xs=[.ref p]/\H p=some (.ext (SetI X.prog X.w p n))/\Q (.int n) H
theorem zkB:jX X (.builtin "len") (zqD X):=by
 intro pins s σ H xs us Q I rv h;obtain⟨p,n,rfl,hp,q⟩:=h;obtain⟨u,rfl,ru⟩:=rv.one;cases ru
 obtain⟨⟨S,o,es,ep,t,ho,hex,hd,_,_,hb,hf,hn⟩,_⟩:=I.hok p _ hp;have hsz:(es.size:Int)<2^63:=by have:=fits_of_scanBound hb;have:=sizeLine_eq;omega
 exact call_len_set ho hex hd hf hsz ⟨.int n,H,I.tok _,⟨_,by rw[hn]⟩,q⟩
def ltS(a b:Str):Bool:=decide (a.cps.toList<b.cps.toList)
def gR(ss:List Str):Nat:=argBest (λi j=>ltS (ss.getD i ⟨#[]⟩) (ss.getD j ⟨#[]⟩)) (ss.length - 1)
theorem zkz(hc:X.calm=true):jX X (.builtin "min") (λxs H Q=>∃(p:Addr) (ss:List Str),xs=[.ref p]/\SqL X.K H p (ss.map V.str)/\0<ss.length/\Q (.str (ss.getD (gR ss) ⟨#[]⟩)) H):=by
 intro pins s σ H xs us Q I rv h;obtain⟨p,ss,rfl,hq,hz,q⟩:=h;obtain⟨u,rfl,ru⟩:=rv.one;cases ru
 obtain⟨its,r',pl,_⟩:=I.list hq;have hl:its.length=ss.length:=by rw[←r'.length,List.length_map]
 have hv:∀(i:Nat) (v:Value),its.toArray[i]?=some v->∃t,v=.str (ss.getD i ⟨#[]⟩) t:=λi v e=>TS.StrsAre.at' (zL.strs r') i v (by simpa using e)
 refine call_min_walk (wpAny_pyIter_list pl.isList ?_);have hpl:p<s.heap.objs.size:=by obtain⟨o,e,_⟩:=pl.isList;exact Heap.lt_size e
 have hh:X.A.in1.in1.handled=none:=by simp[I.ok.hd hc]
 refine⟨_,[s.heap.objs.size,p],_,its.toArray.size,_,_,λi j=>ltS (ss.getD i ⟨#[]⟩) (ss.getD j ⟨#[]⟩),rfl,Walks.list (A:=X.A.in1) (by simp[I.ok.hd hc]) s.heap.objs.size p (Nat.ne_of_lt hpl) its.toArray,⟨⟨_,Heap.get?_push_size _ rfl,rfl,rfl⟩,pl.isList.push _⟩,λb hb=>?_,by rw[List.size_toArray,hl];exact hz,?_,λv h' tk hP k=>?_⟩
 ·rw[Heap.size_push];rcases List.mem_cons.mp hb with rfl|hb
  ·exact Nat.lt_succ_self _
  ·rw[List.mem_singleton.mp hb];exact Nat.lt_succ_of_lt hpl
 ·intro i j vi vj s1 Q1 E1 h1 h2 hQ;obtain⟨t1,rfl⟩:=hv i vi h1;obtain⟨t2,rfl⟩:=hv j vj h2;exact lt_str hQ
 ·rw[List.size_toArray,hl]at hP;obtain⟨t,rfl⟩:=hv _ _ hP;refine⟨.str _,H,I.kept λb o e=>k b o ?_ (Heap.get?_push_of_some _ e),⟨t,rfl⟩,q⟩;intro hb;rw[List.mem_singleton.mp hb]at e;exact absurd (Heap.lt_size e) (Nat.lt_irrefl _)
end
end L2
namespace FL
open L2
noncomputable def lenI(x:D):Option D:=match x with
 | .lst l=>(jM l).bind λns=>if ns.length+1<scanBound then some (.int (ns.foldl step_dedup []).length)else none
 |_=>none
noncomputable def minD:Lo2
 |[.lst l]=>(jY l).bind λss=>if 0<ss.length then some (.str (ss.getD (gR ss) ⟨#[]⟩))else none
 |_=>none
section
variable{K:Fg}{X:Cx}{a:Expr}{fa:EO D}{p p2 pos pos2:Pos}
theorem zra(hc:X.calm=true)(hg:Gl X "len")(hm:X.mg "len"=none)(hg2:Gl X "set")(hm2:X.mg "set"=none)(ha:FP K .br X a fa)(hs:starEach [a] X.env=(false,eval a X.env)::starEach [] X.env:=by rfl)(hp:(backTo pos2 (starEach [] X.env)).any (·.1)=false:=by rfl)(hs2:starEach [.Call (.Name "set" p2) [a] [] pos2] X.env=(false,eval (.Call (.Name "set" p2) [a] [] pos2) X.env)::starEach [] X.env:=by rfl)(hp2:(backTo pos (starEach [] X.env)).any (·.1)=false:=by rfl)(hK:X.K=K:=by rfl):
  FP K .fz X (.Call (.Name "len" p) [.Call (.Name "set" p2) [a] [] pos2] [] pos) (c1 lenI fa):=FP.mk λρ d hf=>by
 subst hK;obtain⟨x,e1,e2⟩:=zbR hf;have h1:=zfo (x:="set") (p:=p2) (pos:=pos2) (zkx hc) hg2 hm2 (by decide+kernel) (jF (ha.h ρ x e1) kO hs) (by decide) (by decide) hs hp;have h2:=zbA (x:="len") (p:=p) (pos:=pos) zkB hg hm PySem.boot_len (jF h1 kO hs2) (by decide) (by decide) hs2 hp2;refine PE.imp h2 λσ H Q h_=>?_
 obtain⟨F,rl,q⟩:=h_;unfold lenI at e2;split at e2
 ·rename_i l;cases e3:jM l with
  |none=>rw[e3]at e2;cases e2
  |some ns=>
   rw[e3]at e2;obtain⟨hz,rfl⟩:=jD e2;rw[zaq e3];refine⟨F,rl,λv F1 H1 g1 r1=>?_⟩;obtain⟨b,vs,rfl,f,qq⟩:=zO.lst_inv r1;rw[qq.ints]at f;exact⟨b,ns,rfl,SqL.of f,hz,λl hl=>⟨l,_,rfl,qF,q _ F1 _ (g1.trans (zF.fresh g1.fh hl)) (Res.int _)⟩⟩
 ·cases e2
theorem zqd(hc:X.calm=true)(hK:X.K=K:=by rfl):vH K X (.builtin "min") .fz minD:=by
 subst hK;refine⟨_,zkz hc,λds d F H vs Q e s h k=>?_⟩;unfold minD at e;split at e
 ·rename_i l;cases e1:jY l with
  |none=>rw[e1]at e;cases e
  |some ss=>
   rw[e1]at e;obtain⟨hz,rfl⟩:=jD e;obtain⟨v,rfl,h1⟩:=h.one;rw[zaN e1]at h1;obtain⟨a,vs,rfl,f,q⟩:=h1.lst_inv;rw[q.strs]at f;exact⟨a,ss,rfl,SqL.of f,hz,k _ F H (zF.refl s) (Dat.str (K:=X.K) (F:=F) _)⟩
 ·cases e
end
noncomputable def zfX(mb:EO Fl)(np nn:Nat)(ds:List D):Option Rs:=if ds.length=np then(match mb (qX nn ds)with
 |some (.rt d _)=>some (.ok d)
 |some (.nx _)=>some (.ok .non)
 |some (.rs c d _)=>some (.ex c d)
 |_=>none)else none
theorem zkU{mb:Nat->EO Fl}{np nn:Nat}:∀ds r,zfX (mb zJ) np nn ds=some r->ds.length=np/\∃n,match r with
   | .ok d=>(∃ρ',mb n (qX nn ds)=some (.rt d ρ'))\/(d=.non/\Md.fz=.fz/\∃ρ',mb n (qX nn ds)=some (.nx ρ'))
   | .ex c d=>∃ρ',mb n (qX nn ds)=some (.rs c d ρ'):=λds r h=>by
 unfold zfX at h;split at h
 ·rename_i hl;refine⟨hl,zJ,?_⟩;split at h
  ·rename_i d ρ' e;cases h;exact .inl ⟨ρ',e⟩
  ·rename_i ρ' e;cases h;exact .inr ⟨rfl,rfl,ρ',e⟩
  ·rename_i c d ρ' e;cases h;exact⟨ρ',e⟩
  ·cases h
 ·cases h
section
variable{p:Program}{I:List Nat}{Z:ZZ}{x:Str}{ps:List Str}{k np nn:Nat}{mb:Nat->EO Fl}
theorem mkRN(F:FNs p I Z)(i:Nat)(N:List Str)(hb:N.Nodup->∀(f:Addr) (n:Nat) (cdv:Value) (A:Around) (outer:List Env) (s:Shared) (H:Hp) (E:XK),zW k (A.deeper (envOfC x (qH (zZ p i)) s.heap.objs.size f cdv))->FSs Z.K .fz (kE (CX1 Z.P Z.w) Z.P Z.w Z.K Z.mg Z.base N x (qH (zZ p i)) f cdv A outer s H E) (kS (zZ p i)) (mb n))(hnp:ps.length=np:=by rfl)(hnn:N.length=nn:=by rfl)(S:yL N ps (qH (zZ p i)):=by exact⟨rfl,rfl,rfl,by decide+kernel,rfl,by decide+kernel,by decide+kernel⟩)(T:Df p I i x ps:=by exact dfo):
  FqE Z x ps .fz (k+1) (zfX (mb zJ) np nn):=by
 subst hnp hnn;obtain⟨f,fd,a,F⟩:=F i T.hi x T.hn;exact⟨_,_,zmB F S (hb S.nd f) zkU,F.binds T.hB,F.kp,a⟩
theorem nevF{m:Lo2}(F:FNs p I Z)(i:Nat)(T:Df p I i x ps:=by exact dfo)(hm:∀ds,m ds=none:=by intro _;rfl):Fq Z x ps .fz 0 m:=by obtain⟨f,fd,a,F⟩:=F i T.hi x T.hn;exact Fk.never ⟨F.binds T.hB,F.kp,a⟩ hm
theorem zpI{K:Fg}{md:Md}{X:Cx}{e:Expr}:FP K md X e (λ_=>none):=FP.mk λρ d hf=>by cases hf
end
abbrev zbi(n:Nat):EO Fl:=
 (zG (zN 3 (c2 qE (gb 3) (c2 zS (gb 1) (c2 qI (c2 jI (gb 2) (cst (.int 7))) (cst (.int 26)))))) (zN 2 (c2 jI (gb 2) (cst (.int 11)))))
abbrev zbq(n:Nat):EO D:=
 (c2 zS (gb 1) (c2 qI (c2 jI (gb 2) (c2 qE (cst (.int 3)) (c2 kQ (gb 0) (gb 0)))) (cst (.int 26))))
abbrev zbp(n:Nat):EO D:=
 (cS kB (gb 1) kG (jU (c2 qE (gb 0) (cst (.int 1)))))
abbrev zbo(n:Nat):EO D:=
 (c2 qE (c2 qE (cS kB (gb 1) kG (jU (gv 3))) (c2 zS (gb 2) (c2 qI (c2 qE (c2 jI (gb 4) (cst (.int 5))) (c2 kQ (cst (.int 5)) (gb 0))) (cst (.int 26))))) (cS kB (gb 1) (jU (gv 3)) kG))
abbrev zew(n:Nat):EO Fl:=
 (zG (zN 1 (cst (.str "abcdefghijklmnopqrstuvwxyz"))) (zG (zN 2 (c2 qI (c2 kQ (gb 0) (cst (.int 1000000007))) (c2 wI (cst (.int 10)) (cst (.int 18))))) (zG (zN 3 (cst (.str ""))) (zG (jQ (cR1 (c2 qI (gb 2) (cst (.int 7)))) (gN 4) (zbi n)) (zG (zN 5 (c2 qI (c2 jI (gb 2) (cst (.int 7))) (c2 qE (cL jB (zA (gb 3) zC)) (cst (.int 1))))) (zG (ifM (upT (cT (c2 eqB (c2 qI (gb 2) (cst (.int 3))) (cst (.int 0))))) (zG (zN 3 (c2 zlx (cst (.str "")) (jC [none,some 1,some 2] (cR1 (cst (.int 6))) (gN 0) qW (zbq n)))) (zR (jC [none,some 3] (cR1 (cst (.int 5))) (gN 0) qW (zbp n)))) nxM) (zR (jC [none,some 3,some 1,some 5,some 2] (cR1 (cst (.int 5))) (gN 0) qW (zbo n)))))))))
def zar:Lo2:=qO (zew zJ) 1 6
abbrev zbt(n:Nat):EO D:=
 (cL qT (zA (c2 zS (gb 1) (gb 0)) (zA (c2 zS (gb 2) (gb 0)) zC)))
abbrev zey(n:Nat):EO Fl:=
 (zG (zN 1 (cL zar (zA (gv 0) zC))) (zG (zN 2 (c2 zS (cL qC (zA (cL qC (zA (cst (.int 0)) (zA (cst (.int 2)) (zA (cst (.int 1)) (zA (cst (.int 0)) (zA (cst (.int 3)) zC)))))) (zA (cL qC (zA (cst (.int 0)) (zA (cst (.int 1)) (zA (cst (.int 2)) (zA (cst (.int 2)) (zA (cst (.int 0)) zC)))))) (zA (cL qC (zA (cst (.int 0)) (zA (cst (.int 3)) (zA (cst (.int 1)) (zA (cst (.int 1)) (zA (cst (.int 0)) zC)))))) (zA (cL qC (zA (cst (.int 0)) (zA (cst (.int 2)) (zA (cst (.int 0)) (zA (cst (.int 1)) (zA (cst (.int 1)) zC)))))) zC))))) (c2 qI (c2 jI (gb 0) (cst (.int 3))) (cst (.int 4))))) (zG (zN 3 (c2 qE (cst (.int 2)) (c2 qI (c2 jI (gb 0) (cst (.int 12))) (cst (.int 4))))) (zR (jC [none,some 1,some 2] (cR1 (gv 3)) (gN 0) qW (zbt n))))))
def zaC:Lo2:=qO (zey zJ) 1 4
abbrev zbe(n:Nat):EO D:=
 (c2 zS (gb 1) (c2 qI (c2 qE (c2 qI (gb 2) (cst (.int 26))) (c2 kQ (cst (.int 7)) (gb 0))) (cst (.int 26))))
abbrev zdE(n:Nat):EO Fl:=
 (zG (zN 1 (cst (.str "ABCDEFGHIJKLMNOPQRSTUVWXYZ"))) (zR (jC [none,some 1,some 0] (cR1 (c2 qE (cst (.int 1)) (c2 qI (c2 jI (gb 0) (cst (.int 26))) (cst (.int 4))))) (gN 0) qW (zbe n))))
def zat:Lo2:=qO (zdE zJ) 1 2
abbrev zfv(n:Nat):EO Fl:=
 (zG (ifM (upT (cT (c2 ltD (gb 1) (cL jB (zA (gb 0) zC))))) (zR (c2 zS (gb 0) (gb 1))) nxM) (zR (cst (.int 0))))
def gQ:Lo2:=qO (zfv zJ) 2 2
abbrev zbv(n:Nat):EO D:=
 (c2 zS (gb 0) (cst (.int 1)))
abbrev zbu(n:Nat):EO D:=
 (c2 zS (gb 0) (cst (.int 0)))
abbrev zeA(n:Nat):EO Fl:=
 (zG (xR (c2 zS (gb 2) (c2 qI (gb 1) (cL jB (zA (gb 2) zC)))) (kC (qV (gN 5) (qV (gN 6) jV)))) (zG (zN 1 (c2 jI (gb 1) (cst (.int 20)))) (zG (zN 7 (cS kB (gb 0) (jU (c2 xG (cL jB (zA (gb 0) zC)) (gb 6))) kG)) (zG (zN 8 (c2 wP (jC [none] (cI (gv 7)) (gN 0) qW (zbv n)) (cst (.int 0)))) (zG (ifM (upT (xE (cT (c2 gtD (gb 6) (cst (.int 0)))) (xE (cT (c2 leD (gb 6) (cL jB (zA (gb 0) zC)))) (xE (cT (c2 ltD (gb 8) (gb 4))) (cT (c2 gtD (c2 qI (gb 1) (cst (.int 4))) (cst (.int 0)))))))) (zR (c2 vC (cS kB (gb 0) kG (jU (c2 xG (cL jB (zA (gb 0) zC)) (gb 6)))) (cL qC (zA (cL qC (zA (c2 qE (cL qT (zA (gv 5) zC)) (cL vY (zA (jC [none] (cI (gv 7)) (gN 0) qW (zbu n)) zC))) (zA (c2 qE (gb 8) (cst (.int 1))) zC))) zC)))) nxM) (zG (ifM (upT (orP (cT (c2 eqB (gb 3) (cL qC zC))) (cT (c2 eqB (c2 qI (c2 jI (gb 1) (cst (.int 4))) (cst (.int 3))) (cst (.int 0)))))) (zR (c2 vC (gb 0) (cL qC (zA (cL qC (zA (cL qT (zA (c2 zS (c2 zS (gb 2) (cst (.int 0))) (cst (.int 0))) zC)) (zA (cst (.int 1)) zC))) zC)))) nxM) (zR (c2 vC (gb 0) (cL qC (zA (cL qC (zA (c2 zS (gb 3) (c2 qI (c2 jI (gb 1) (cst (.int 12))) (cL jB (zA (gb 3) zC)))) (zA (cst (.int 1)) zC))) zC))))))))))
def yH:Lo2:=qO (zeA zJ) 5 9
abbrev zcD(m__law_count:Lo2)(n:Nat):EO D:=
 (cL m__law_count (zA (gv 0) zC))
abbrev zhW(m__law_count:Lo2)(n:Nat):EO Fl:=
 (zG (ifM (upT (cT (c1 (kW "str") (gb 0)))) (zR (cst (.int 1))) nxM) (zR (c2 qE (cst (.int 1)) (cL sumD (zA (jC [none] (cI (cS kB (gb 0) (jU (cst (.int 1))) kG)) (gN 0) qW (zcD m__law_count n)) zC)))))
def zap:Nat->Lo2
 |0=>λ_=>none
 |n+1=>qO (zhW (zap n) zJ) 1 1
def zca:Lo2:=zap 100
abbrev zgn(n:Nat):EO Fl:=
 (zR (c1 (kW "str") (gb 0)))
def zao:Lo2:=qO (zgn zJ) 1 1
abbrev zdA(n:Nat):EO Fl:=
 (zG (ifM (upT (cT (cL zao (zA (gv 0) zC)))) (zR (cL qT zC)) nxM) (zR (cS kB (gb 0) (jU (cst (.int 1))) kG)))
def zam:Lo2:=qO (zdA zJ) 1 1
abbrev zcu(n:Nat):EO D:=
 (cL qT (zA (c2 qE (gb 2) (cL qT (zA (gv 0) zC))) (zA (gv 1) zC)))
abbrev zaH(n:Nat):EO Fl:=
 (zG (yK (wJ 2) (kC (qV (gN 3) (qV (gN 4) jV)))) (zG (xP (vE 1 (cL qT (zA (gv 3) (zA (gv 4) zC))))) (zG (zN 5 (jC [none,none,some 3] (wX (cL zam (zA (gv 4) zC))) (kC (qV (gN 0) (qV (gN 1) jV))) qW (zcu n))) (xP (wU 2 (c2 wE (gb 5) (c1 wO (cst (.int 1)))))))))
abbrev zdd(n:Nat):EO Fl:=
 (zG (setO 1 (cL qC zC)) (zG (setO 2 (cL qC (zA (cL qT (zA (cL qT zC) (zA (gv 0) zC))) zC))) (zG (vI (upT (cTr (gb 2))) (zaH n) n) (yO 1))))
def zad:Lo2:=qO (zdd zJ) 1 6
theorem zhr{g:D->EO En}{b:EO Fl}(I:Nat->En->Prop):∀(xs:List D) (k:Nat) (ρ:En),I k ρ->
  (∀(i:Nat) x ρ,xs[i]?=some x->I (k+i) ρ->∃ρ1 ρ2,g x ρ=some ρ1/\(b ρ1=some (.nx ρ2)\/b ρ1=some (.ct ρ2))/\I (k+i+1) ρ2)->∃ρ',kY g b xs ρ=some (.nx ρ')/\I (k+xs.length) ρ'
 |[],k,ρ,h,_=>⟨ρ,rfl,h⟩
 |x::xs,k,ρ,h,hs=>by
  obtain⟨ρ1,ρ2,e1,e2,h2⟩:=hs 0 x ρ rfl h;obtain⟨ρ',e3,h3⟩:=zhr I xs (k+1) ρ2 h2 λi y σ hy hi=>by have:=hs (i+1) y σ (by simpa using hy) (by rw[show k+(i+1)=k+1+i by omega];exact hi);rw[show k+(i+1)+1=k+1+i+1 by omega]at this;exact this
  refine⟨ρ',?_,by rw[List.length_cons,show k+(xs.length+1)=k+1+xs.length by omega];exact h3⟩;simp only[kY,e1];rcases e2 with e2|e2<;>(rw[e2];exact e3)
theorem znK{g:D->EO En}{b:EO Fl}{xs:List D}{ρ:En}(I:Nat->En->Prop)(h0:I 0 ρ)(hs:∀(i:Nat) x ρ,xs[i]?=some x->I i ρ->∃ρ1 ρ2,g x ρ=some ρ1/\(b ρ1=some (.nx ρ2)\/b ρ1=some (.ct ρ2))/\I (i+1) ρ2):∃ρ',kY g b xs ρ=some (.nx ρ')/\I xs.length ρ':=by
 have:=zhr (g:=g) (b:=b) I xs 0 ρ h0 λi x σ hx hi=>by rw[Nat.zero_add]at hi ⊢;exact hs i x σ hx hi
 rw[Nat.zero_add]at this;exact this
theorem xO{g:D->EO En}{b:EO Fl}{xs:List D}{ρ:En}(I:Nat->En->Prop)(h0:I 0 ρ)(hs:∀(i:Nat) x ρ,xs[i]?=some x->I i ρ->∃ρ2,((g x ρ).bind b=some (.nx ρ2)\/(g x ρ).bind b=some (.ct ρ2))/\I (i+1) ρ2):∃ρ',kY g b xs ρ=some (.nx ρ')/\I xs.length ρ':=
 znK I h0 λi x ρ hx hi=>by
  obtain⟨ρ2,e,h⟩:=hs i x ρ hx hi;cases e1:g x ρ with
  |none=>rw[e1]at e;rcases e with e|e<;>cases e
  |some ρ1=>rw[e1]at e;exact⟨ρ1,ρ2,rfl,e,h⟩
theorem zeT{t:EO (Bool×En)}{b:EO Fl}(I:Nat->En->Prop)(Post:En->Prop)(hs:∀m ρ,I m ρ->(∃ρ1,t ρ=some (false,ρ1)/\Post ρ1)\/(∃ρ1 ρ2 m',t ρ=some (true,ρ1)/\(b ρ1=some (.nx ρ2)\/b ρ1=some (.ct ρ2))/\m'<m/\I m' ρ2)):
  ∀(n m:Nat) (ρ:En),I m ρ->m<n->∃ρ',vI t b n ρ=some (.nx ρ')/\Post ρ'
 |0,_,_,_,h=>absurd h (Nat.not_lt_zero _)
 |n+1,m,ρ,h,hn=>by
  rcases hs m ρ h with⟨ρ1,e,p⟩|⟨ρ1,ρ2,m',e,e2,hm,h2⟩
  ·exact⟨ρ1,by simp only[vI,e],p⟩
  ·obtain⟨ρ',e3,p⟩:=zeT I Post hs n m' ρ2 h2 (by omega);refine⟨ρ',?_,p⟩;simp only[vI,e];rcases e2 with e2|e2<;>(rw[e2];exact e3)
theorem nV{g:D->EO En}{t:EO Bool}{f:EO D}{ρ:En}:∀{xs ys:List D},xs.length=ys.length->(∀(i:Nat) x y,xs[i]?=some x->ys[i]?=some y->∃ρ1,g x ρ=some ρ1/\t ρ1=some true/\f ρ1=some y)->qM g t f ρ xs=some ys
 |[],[],_,_=>rfl
 |[],_::_,h,_=>by simp at h
 |_::_,[],h,_=>by simp at h
 |x::xs,y::ys,h,k=>by
  obtain⟨ρ1,e1,e2,e3⟩:=k 0 x y rfl rfl
  have:=nV (g:=g) (t:=t) (f:=f) (ρ:=ρ) (xs:=xs) (ys:=ys) (by simpa using h) λi a b ha hb=>k (i+1) a b (by simpa using ha) (by simpa using hb)
  simp[qM,e1,e2,e3,this]
theorem zds{g:D->EO En}{t:EO Bool}{f:EO D}{ρ:En}{φ:D->D}{p:D->Bool}:∀{xs:List D},(∀x∈xs,∃ρ1,g x ρ=some ρ1/\t ρ1=some (p x)/\(p x=true->f ρ1=some (φ x)))->qM g t f ρ xs=some ((xs.filter p).map φ)
 |[],_=>rfl
 |x::xs,k=>by
  obtain⟨ρ1,e1,e2,e3⟩:=k x List.mem_cons_self
  have:=zds (g:=g) (t:=t) (f:=f) (ρ:=ρ) (xs:=xs) λy hy=>k y (List.mem_cons_of_mem _ hy)
  cases hp:p x with
  |true=>simp[qM,e1,e2,hp,e3 hp,this,List.filter_cons]
  |false=>simp[qM,e1,e2,hp,this,List.filter_cons]
theorem wH{lo:Int}{n i:Nat}{d:D}(h:(jJ lo n)[i]?=some d):i<n/\d=.int (lo+(i:Int)):=by
 unfold jJ at h;rw[List.getElem?_map]at h;cases e:(List.range n)[i]? with
 |none=>rw[e]at h;cases h
 |some k=>
  rw[e]at h;have h1:=List.getElem?_eq_some_iff.mp e;have h2:=h1.2;simp at h2;subst h2;exact⟨by simpa using h1.1,(Option.some.inj h).symm⟩
theorem jZ(lo:Int)(n:Nat):(jJ lo n).length=n:=by simp[jJ]
variable{α:Type}
theorem at0(a:α)(l:List α):atI (a::l) 0=some a:=vD (j:=0) rfl
theorem at1(a b:α)(l:List α):atI (a::b::l) 1=some b:=vD (j:=1) rfl
theorem at2(a b c:α)(l:List α):atI (a::b::c::l) 2=some c:=vD (j:=2) rfl
theorem at3(a b c d:α)(l:List α):atI (a::b::c::d::l) 3=some d:=vD (j:=3) rfl
local macro_rules|`(tactic|simp! [$xs,*]$[$loc]?)=>`(tactic|simp[$xs,*,qO,qX,zG,zN,setO,vO,xR,yK,wV,xP,zR,yO,retN,ifM,upT,cT,cTr,vZ,xE,orP,yQ,wZ,orV,notV,c1,c2,cL,cS,zA,zC,cst,gv,gb,gN,jV,qV,kC,kG,jU,jC,qW,cI,cR1,cR2,wX,jQ,itS,wD,nJ,vE,wU,wJ,zcV,qT,qC,nxM,kW,tyN,wS,lim,kZ,qQ,wO,wE,gG,vY,vS,jB,zS,kB,zcP,qE,vC,xG,kQ,jI,qI,wI,xQ,geD,isB,vU,isNon,gA,wT,xV,xU,kK,wG,yD,zgd,yR,frzM,c3,zgz,zgB,zgA,cSg,vV,itS,Sl.inn,Sl.own,wP,eqB,neB,inB,yF,wN,zbO,zaW,zaV,zaU,xI,at0,at1,at2,at3]$[$loc]?)
local macro_rules|`(tactic|dsimp! [$xs,*]$[$loc]?)=>`(tactic|simp[$xs,*,qO,qX,zG,zN,setO,xR,yK,wV,xP,zR,yO,retN,ifM,upT,cT,cTr,vZ,xE,orP,yQ,wZ,orV,notV,c1,c2,cL,cS,zA,zC,cst,gv,gb,gN,jV,qV,kC,kG,jU,jC,qW,cI,cR1,cR2,wX,jQ,itS,wD,nJ,vE,wU,wJ,zcV,qT,qC,nxM,kW,tyN,wS,lim,kZ,qQ,wO,wE,gG,vY,vS,jB,zS,kB,zcP,qE,vC,xG,kQ,jI,qI,wI,xQ,geD,isB,vU,isNon,gA,wT,xV,xU,kK,wG,yD,zgd,yR,frzM,c3,zgz,zgB,zgA,cSg,vV,itS,Sl.inn,Sl.own,wP,inB,yF,wN,zbO,zaW,zaV,zaU,xI,at0,at1,at2,at3]$[$loc]?)
inductive T where
 |bl (x:Str)|nd (s:Str) (ts:List T)
mutual
def T.d:T->D
 | .bl x=>.str x
 | .nd s ts=>.tup (.str s::T.ds ts)
def T.ds:List T->List D
 |[]=>[]
 |t::r=>t.d::T.ds r
end
theorem zpX:∀ts:List T,T.ds ts=ts.map T.d
 |[]=>by simp[T.ds]
 |t::r=>by rw[T.ds,zpX r,List.map_cons]
theorem jE(s:Str)(ts:List T):(T.nd s ts).d=.tup (.str s::ts.map T.d):=by rw[T.d,zpX]
theorem kA(x:Str):(T.bl x).d=.str x:=by rw[T.d]
mutual
def T.size:T->Nat
 | .bl _=>1
 | .nd _ ts=>1+T.sizes ts
def T.sizes:List T->Nat
 |[]=>0
 |t::r=>t.size+T.sizes r
end
mutual
def T.depth:T->Nat
 | .bl _=>1
 | .nd _ ts=>1+T.depths ts
def T.depths:List T->Nat
 |[]=>0
 |t::r=>max t.depth (T.depths r)
end
def T.isBl:T->Bool
 | .bl _=>true
 | .nd _ _=>false
def T.kids:T->List T
 | .bl _=>[]
 | .nd _ ts=>ts
theorem zfc(t:T):t.size=1+T.sizes t.kids:=by cases t<;>simp[T.size,T.kids,T.sizes]
theorem nH(t:T):0<t.size:=by rw[zfc];omega
theorem xH:∀a b:List T,T.sizes (a++b)=T.sizes a+T.sizes b
 |[],b=>by simp[T.sizes]
 |t::a,b=>by simp only[List.cons_append,T.sizes,xH a b];omega
theorem gD:∀a:List T,a.length<=T.sizes a
 |[]=>by simp
 |t::a=>by have:=nH t;have:=gD a;simp only[List.length_cons,T.sizes];omega
theorem nU:∀{ts:List T}{t:T},t∈ts->t.depth<=T.depths ts
 |_::_,_,h=>by
  rcases List.mem_cons.mp h with rfl|h
  ·rw[T.depths];exact Nat.le_max_left _ _
  ·rw[T.depths];exact Nat.le_trans (nU h) (Nat.le_max_right _ _)
theorem gE:∀{ts:List T}{t:T},t∈ts->t.size<=T.sizes ts
 |_::_,_,h=>by
  rcases List.mem_cons.mp h with rfl|h
  ·rw[T.sizes];omega
  ·rw[T.sizes];have:=gE h;omega
theorem zce(t:T):0<t.depth:=by cases t<;>simp[T.depth]<;>omega
mutual
theorem zgC:∀t:T,dep t.d<=t.depth+1
 | .bl x=>by simp[T.d,dep]
 | .nd s ts=>by have:=zko ts;simp only[T.d,dep,zU,T.depth];omega
theorem zko:∀ts:List T,zU (T.ds ts)<=T.depths ts+1
 |[]=>by simp[T.ds,zU]
 |t::r=>by have h1:=zgC t;have h2:=zko r;simp only[T.ds,zU,T.depths];omega
end
def idx(p:List Int):Nat->List T->List (List Int×T)
 |_,[]=>[]
 |k,t::r=>(p++[(k:Int)],t)::idx p (k+1) r
mutual
def qG(p:List Int):T->List (List Int×T)
 | .bl x=>[(p,.bl x)]
 | .nd s ts=>(p,.nd s ts)::jL p 0 ts
def jL(p:List Int)(k:Nat):List T->List (List Int×T)
 |[]=>[]
 |t::r=>qG (p++[(k:Int)]) t++jL p (k+1) r
end
theorem zcZ(p:List Int)(t:T):qG p t=(p,t)::jL p 0 t.kids:=by cases t<;>simp[qG,T.kids,jL]
def jR(ws:List (List Int×T)):List (List Int×T):=ws.flatMap λq=>qG q.1 q.2
theorem zhu(p:List Int):∀(k:Nat) (ts:List T),jR (idx p k ts)=jL p k ts
 |_,[]=>by simp[idx,jR,jL]
 |k,t::r=>by have:=zhu p (k+1) r;unfold jR at this;simp only[idx,jR,jL,List.flatMap_cons,this]
theorem zdo(a b:List (List Int×T)):jR (a++b)=jR a++jR b:=by simp[jR]
theorem zeE(p:List Int):∀(k:Nat) (ts:List T),(idx p k ts).length=ts.length
 |_,[]=>rfl
 |k,t::r=>by simp[idx,zeE p (k+1) r]
def kN(ws:List (List Int×T)):Nat:=T.sizes (ws.map (·.2))
theorem zjQ(p:List Int):∀(k:Nat) (ts:List T),(idx p k ts).map (·.2)=ts
 |_,[]=>rfl
 |k,t::r=>by simp[idx,zjQ p (k+1) r]
theorem zbW:∀a:List T,T.sizes a.reverse=T.sizes a
 |[]=>rfl
 |t::a=>by rw[List.reverse_cons,xH,zbW a];simp only[T.sizes];omega
mutual
theorem zaF(p:List Int):∀t:T,(qG p t).length=t.size
 | .bl x=>by simp[qG,T.size]
 | .nd s ts=>by simp[qG,T.size,zda p 0 ts];omega
theorem zda(p:List Int):∀(k:Nat) (ts:List T),(jL p k ts).length=T.sizes ts
 |_,[]=>by simp[jL,T.sizes]
 |k,t::r=>by simp[jL,T.sizes,zaF (p++[(k:Int)]) t,zda p (k+1) r]
end
noncomputable def qB:T->List Int->Option T
 |t,[]=>some t
 | .bl _,_::_=>none
 | .nd _ ts,k::r=>if 0<=k then(match ts[k.toNat]? with|some t=>qB t r|none=>none)else none
theorem zbZ:∀(p q:List Int) (t u:T),qB t p=some u->qB t (p++q)=qB u q
 |[],q,t,u,h=>by simp[qB]at h;subst h;rfl
 |k::p,q,.bl _,u,h=>by simp[qB]at h
 |k::p,q,.nd s ts,u,h=>by
  simp only[List.cons_append,qB]at h ⊢;split at h
  ·rename_i h0;rw[if_pos h0];cases e:ts[k.toNat]? with
   |none=>rw[e]at h;cases h
   |some t'=>rw[e]at h;simp only at h ⊢;exact zbZ p q t' u h
  ·cases h
mutual
theorem zfl(t0:T)(p:List Int):∀t:T,qB t0 p=some t->∀q∈qG p t,qB t0 q.1=some q.2
 | .bl x,h,q,hq=>by simp only[qG,List.mem_singleton]at hq;subst hq;exact h
 | .nd s ts,h,q,hq=>by
  simp only[qG,List.mem_cons]at hq;rcases hq with rfl|hq
  ·exact h
  ·refine zdP t0 p 0 ts (λi t hi=>?_) q hq;rw[zbZ p _ t0 _ h]
   have:(0:Int)<=((0+i:Nat):Int):=by omega
   simp only[qB,if_pos this];rw[Int.toNat_natCast,Nat.zero_add,hi]
theorem zdP(t0:T)(p:List Int):∀(k:Nat) (ts:List T),(∀i t,ts[i]?=some t->qB t0 (p++[((k+i:Nat):Int)])=some t)->∀q∈jL p k ts,qB t0 q.1=some q.2
 |_,[],_,q,hq=>by simp[jL]at hq
 |k,t::r,h,q,hq=>by
  simp only[jL,List.mem_append]at hq;rcases hq with hq|hq
  ·exact zfl t0 (p++[(k:Int)]) t (by have:=h 0 t rfl;simpa using this) q hq
  ·refine zdP t0 p (k+1) r (λi t' hi=>?_) q hq
   have:=h (i+1) t' (by simpa using hi);rw[show k+1+i=k+(i+1) by omega];exact this
end
mutual
theorem zcX(p:List Int):∀t:T,∀q∈qG p t,q.1.length<p.length+t.size
 | .bl x,q,hq=>by simp only[qG,List.mem_singleton]at hq;subst hq;simp[T.size]
 | .nd s ts,q,hq=>by
  simp only[qG,List.mem_cons]at hq;rcases hq with rfl|hq
  ·have:=nH (.nd s ts);simp only;omega
  ·have:=zcA p 0 ts q hq;simp only[T.size];omega
theorem zcA(p:List Int):∀(k:Nat) (ts:List T),∀q∈jL p k ts,q.1.length<p.length+1+T.sizes ts
 |_,[],q,hq=>by simp[jL]at hq
 |k,t::r,q,hq=>by
  simp only[jL,List.mem_append]at hq;rcases hq with hq|hq
  ·have:=zcX (p++[(k:Int)]) t q hq;rw[List.length_append,List.length_singleton]at this;simp only[T.sizes];omega
  ·have:=zcA p (k+1) r q hq;simp only[T.sizes];omega
end
def pd(q:List Int×T):D:=.tup [.tup (q.1.map D.int),q.2.d]
theorem zaK(t:T):zao [t.d]=some (.bl t.isBl):=by cases t<;>simp! [zao,T.d,T.isBl]
theorem cut1{α:Type}(a:α)(l:List α):jG (a::l) (some 1) none=l:=by simp[jG,HT.sIx]
theorem zcd(t:T):zam [t.d]=some (.tup (t.kids.map T.d)):=by
 cases t with
 |bl x=>simp! [zam,zaK,T.isBl,T.kids]
 |nd s ts=>
  simp! [zam,zaK,T.isBl,T.kids]
  simp[jE,cut1]
theorem zbf(a b:List (List Int×T)):kN (a++b)=kN a+kN b:=by simp[kN,xH]
theorem zbS(a:List (List Int×T)):kN a.reverse=kN a:=by unfold kN;rw[List.map_reverse,zbW]
theorem zix(p:List Int)(k:Nat)(ts:List T):kN (idx p k ts)=T.sizes ts:=by unfold kN;rw[zjQ]
theorem zht:∀l:List (List Int×T),l.length<=(jR l).length
 |[]=>by simp[jR]
 |a::l=>by
  have:=nH a.2
  have:=zht l;have e5:jR (a::l)=qG a.1 a.2++jR l:=by simp[jR]
  rw[e5,List.length_append,zaF,List.length_cons];omega
theorem zdn:∀l:List (List Int×T),(jR l).length=kN l
 |[]=>by simp[jR,kN,T.sizes]
 |a::l=>by
  have e5:jR (a::l)=qG a.1 a.2++jR l:=by simp[jR]
  have:=zdn l;rw[e5,List.length_append,zaF,this];simp[kN,T.sizes]
theorem zjR(p:List Int):∀(k:Nat) (ts:List T) (i:Nat) (q:List Int×T),(idx p k ts)[i]?=some q->∃t,ts[i]?=some t/\q=(p++[((k+i:Nat):Int)],t)
 |_,[],i,q,h=>by simp[idx]at h
 |k,t::r,0,q,h=>by simp[idx]at h;exact⟨t,rfl,by rw[←h];simp⟩
 |k,t::r,i+1,q,h=>by obtain⟨u,h1,h2⟩:=zjR p (k+1) r i q (by simpa[idx]using h);exact⟨u,by simpa using h1,by rw[h2,show k+1+i=k+(i+1) by omega]⟩
theorem zii(p:List Int)(t x:D)(y z u:Option Sl)(ks:List T)(hp:p.length<=999999):
  qM (kC (qV (gN 0) (qV (gN 1) jV))) qW (cL qT (zA (c2 qE (gb 2) (cL qT (zA (gv 0) zC))) (zA (gv 1) zC))) [none,none,some (.dat (.tup (p.map D.int)))] (gX 0 (ks.map T.d))=some ((idx p 0 ks).map pd):=by
 refine nV (by simp[zaJ,zeE]) λi a b ha hb=>?_
 obtain⟨d0,h1,rfl⟩:=zdp 0 _ i a ha;rw[List.getElem?_map]at h1 hb;cases e1:(idx p 0 ks)[i]? with
 |none=>rw[e1]at hb;cases hb
 |some q=>
  rw[e1]at hb;obtain⟨t0,h2,rfl⟩:=zjR p 0 ks i q e1;rw[h2]at h1;cases h1
  cases hb
  have:p.length+1<=1000000:=by omega
  refine⟨[some (.dat (.int ((0+i:Nat):Int))),some (.dat t0.d),some (.dat (.tup (p.map D.int)))],?_,rfl,?_⟩
  ·simp[qO,qX,zG,zN,setO,vO,xR,yK,wV,xP,zR,yO,retN,ifM,upT,cT,cTr,vZ,xE,orP,yQ,wZ,orV,notV,c1,c2,cL,cS,zA,zC,cst,gv,gb,gN,jV,qV,kC,kG,jU,jC,qW,cI,cR1,cR2,wX,jQ,itS,wD,nJ,vE,wU,wJ,zcV,qT,qC,nxM,kW,tyN,wS,lim,kZ,qQ,wO,wE,gG,vY,vS,jB,zS,kB,zcP,qE,vC,xG,kQ,jI,qI,wI,xQ,geD,isB,vU,isNon,gA,wT,xV,xU,kK,wG,yD,zgd,yR,frzM,c3,zgz,zgB,zgA,cSg,vV,itS,Sl.inn,Sl.own,wP,eqB,neB,inB,yF,wN,zbO,zaW,zaV,zaU,xI,at0,at1,at2,at3]
  ·simp! [pd,this]
theorem zbL(t:T)(hz:t.size<=900000):zad [t.d]=some (.lst ((qG [] t).map pd)):=by
 have W:=zeT (t:=upT (cTr (gb 2)))
  (b:=zaH zJ)
  (λm ρ=>∃(fs ws:List (List Int×T)) (x3 x4 x5:Option Sl),ρ=[some (.dat t.d),some (.own (.lst (fs.map pd))),some (.own (.lst (ws.map pd))),x3,x4,x5]/\m=kN ws/\fs++jR ws.reverse=qG [] t)
  (λρ=>∃x2 x3 x4 x5,ρ=[some (.dat t.d),some (.own (.lst ((qG [] t).map pd))),x2,x3,x4,x5]) ?_ zJ t.size
  [some (.dat t.d),some (.own (.lst [])),some (.own (.lst [pd ([],t)])),none,none,none] ⟨[],[([],t)],none,none,none,rfl,by simp[kN,T.sizes],by simp[jR]⟩ (by unfold zJ;omega)
 ·obtain⟨ρ',e,x2,x3,x4,x5,rfl⟩:=W;have e0:pd ([],t)=.tup [.tup [],t.d]:=rfl;rw[e0]at e
  simp! [zad]at e ⊢
  rw[e];simp
 ·rintro m ρ ⟨fs,ws,x3,x4,x5,rfl,rfl,inv⟩;rcases List.eq_nil_or_concat ws with rfl|⟨ws',⟨p,t1⟩,rfl⟩
  ·refine .inl ⟨_,by simp[qO,qX,zG,zN,setO,vO,xR,yK,wV,xP,zR,yO,retN,ifM,upT,cT,cTr,vZ,xE,orP,yQ,wZ,orV,notV,c1,c2,cL,cS,zA,zC,cst,gv,gb,gN,jV,qV,kC,kG,jU,jC,qW,cI,cR1,cR2,wX,jQ,itS,wD,nJ,vE,wU,wJ,zcV,qT,qC,nxM,kW,tyN,wS,lim,kZ,qQ,wO,wE,gG,vY,vS,jB,zS,kB,zcP,qE,vC,xG,kQ,jI,qI,wI,xQ,geD,isB,vU,isNon,gA,wT,xV,xU,kK,wG,yD,zgd,yR,frzM,c3,zgz,zgB,zgA,cSg,vV,itS,Sl.inn,Sl.own,wP,eqB,neB,inB,yF,wN,zbO,zaW,zaV,zaU,xI,at0,at1,at2,at3];rfl,?_⟩;have e:fs=qG [] t:=by simpa[jR]using inv
   rw[e];exact⟨_,_,_,_,rfl⟩
  ·rw[List.concat_eq_append]at inv ⊢;have el:fs.length+kN (ws'++[(p,t1)])=t.size:=by rw[←zaF [] t,←inv,List.length_append,zdn,zbS]
   have ew:kN [(p,t1)]=t1.size:=by simp[kN,T.sizes]
   have ek:=zfc t1;rw[zbf,ew]at el;have hm:(p,t1)∈qG [] t:=by rw[←inv];refine List.mem_append_right _ ?_;rw[List.reverse_append,zdo];refine List.mem_append_left _ ?_;show(p,t1)∈jR [(p,t1)];unfold jR;rw[List.flatMap_cons,List.flatMap_nil,List.append_nil,zcZ];exact List.mem_cons_self
   have pl:=zcX [] t _ hm;simp only[List.length_nil]at pl;have kl:=gD t1.kids;have wl:ws'.length<=kN ws':=by rw[←zdn];exact zht _
   refine .inr ⟨_,[some (.dat t.d),some (.own (.lst ((fs++[(p,t1)]).map pd))),some (.own (.lst ((ws'++(idx p 0 t1.kids).reverse).map pd))),some (.dat (.tup (p.map D.int))),some (.dat t1.d),some (.dat (.lst ((idx p 0 t1.kids).map pd)))],kN (ws'++(idx p 0 t1.kids).reverse),by simp[qO,qX,zG,zN,setO,vO,xR,yK,wV,xP,zR,yO,retN,ifM,upT,cT,cTr,vZ,xE,orP,yQ,wZ,orV,notV,c1,c2,cL,cS,zA,zC,cst,gv,gb,gN,jV,qV,kC,kG,jU,jC,qW,cI,cR1,cR2,wX,jQ,itS,wD,nJ,vE,wU,wJ,zcV,qT,qC,nxM,kW,tyN,wS,lim,kZ,qQ,wO,wE,gG,vY,vS,jB,zS,kB,zcP,qE,vC,xG,kQ,jI,qI,wI,xQ,geD,isB,vU,isNon,gA,wT,xV,xU,kK,wG,yD,zgd,yR,frzM,c3,zgz,zgB,zgA,cSg,vV,itS,Sl.inn,Sl.own,wP,eqB,neB,inB,yF,wN,zbO,zaW,zaV,zaU,xI,at0,at1,at2,at3];rfl,.inl ?_,?_,fs++[(p,t1)],ws'++(idx p 0 t1.kids).reverse,_,_,_,rfl,rfl,?_⟩
   ·have c:=zii p t.d t.d none none none t1.kids (by omega);have h1:fs.length<1000000:=by omega
    have h2:t1.kids.length<=1000000:=by omega
    have h3:ws'.length+t1.kids.length<=1000000:=by omega
    simp! [pd,zcd,zaJ,zeE,h1,h2,h3]at c ⊢
    rw[c]
    simp! [pd,zcd,zaJ,zeE,h1,h2,h3]
   ·rw[zbf,zbf,zbS,zix,ew];omega
   ·rw[←inv];simp only[List.reverse_append,List.reverse_reverse,zdo,List.append_assoc,List.reverse_cons,List.reverse_nil,List.nil_append];rw[zhu];have e5:jR [(p,t1)]=(p,t1)::jL p 0 t1.kids:=by unfold jR;rw[List.flatMap_cons,List.flatMap_nil,List.append_nil,zcZ]
    rw[e5];simp
def cellOf(ns:List Int)(k:Int):Int:=ns.getD k.toNat 0
theorem wY{α:Type}{l:List α}{k:Int}(h0:0<=k)(h1:k<(l.length:Int)):atI l k=l[k.toNat]?:=by unfold atI ixN;rw[if_pos h0,if_pos h1];rfl
theorem zhx(ns:List Int)(k:Int)(h0:0<=k):gQ [.scr ns,.int k]=some (.int (cellOf ns k)):=by
 by_cases h:k<(ns.length:Int)
 ·have e:ns[k.toNat]?=some (cellOf ns k):=by unfold cellOf;rw[List.getD_eq_getElem?_getD,List.getElem?_eq_getElem (by omega)];rfl
  simp! [gQ,h,wY h0 h,e]
 ·have e:cellOf ns k=0:=by unfold cellOf;rw[List.getD_eq_getElem?_getD,List.getElem?_eq_none (by omega)];rfl
  simp! [gQ,h,e]
theorem zhm{z:Str}(h:z.cps.toList.length=26)(n:Int):∃c,atI z.cps.toList (n%26)=some c:=by have h0:0<=n%26:=Int.emod_nonneg _ (by decide);have h1:n%26<26:=Int.emod_lt_of_pos _ (by decide);refine⟨z.cps.toList[(n%26).toNat]'(by omega),?_⟩;rw[wY h0 (by rw[h];exact_mod_cast h1),List.getElem?_eq_getElem (by omega)]
theorem len1(c:Nat):(⟨#[c]⟩:Str).length=1:=rfl
theorem zdR(a b:Str):(a++b).length=a.length+b.length:=by simp[Str.length,PySem.Str.cps_append]
theorem alen:(Str.ofString "abcdefghijklmnopqrstuvwxyz").cps.toList.length=26:=by decide+kernel
theorem zoa:(Str.ofString "abcdefghijklmnopqrstuvwxyz").length=26:=by decide+kernel
theorem ALEN:(Str.ofString "ABCDEFGHIJKLMNOPQRSTUVWXYZ").cps.toList.length=26:=by decide+kernel
theorem zrt:(Str.ofString "ABCDEFGHIJKLMNOPQRSTUVWXYZ").length=26:=by decide+kernel
theorem elen:(Str.ofString "").length=0:=by decide+kernel
def nle(m:Nat)(ys:List Str):Prop:=∀y∈ys,y.length<=m
theorem zeZ(z:Str)(lo hi:Option Int):(Txt.slice z lo hi).length<=z.length:=Txt.slice_le z lo hi
theorem zlw(ys:List Str):(Txt.join (Str.ofString "") ys).length=(ys.map (·.length)).sum:=by show(PySem.Builtin.Str.glued _ ys).length=_;rw[PySem.size_glued,elen];omega
def sd(p:Str×Int):D:=.tup [.str p.1,.int p.2]
theorem kL{α β:Type}(f:α->β)(l:List α)(i:Int):atI (l.map f) i=(atI l i).map f:=by unfold atI;rw[List.length_map];cases ixN l.length i<;>simp
theorem zaY{α:Type}(h:α->D)(P:Nat->α->Prop){g:D->EO En}{f:EO D}{ρ:En}:∀{xs:List D}(k:Nat),(∀(i:Nat) x,xs[i]?=some x->∃ρ1 y,g x ρ=some ρ1/\f ρ1=some (h y)/\P (k+i) y)->∃ys:List α,qM g qW f ρ xs=some (ys.map h)/\ys.length=xs.length/\∀(i:Nat) y,ys[i]?=some y->P (k+i) y
 |[],_,_=>⟨[],rfl,rfl,λ_ _ h=>by simp at h⟩
 |x::xs,k,q=>by
  obtain⟨ρ1,y,e1,e2,e3⟩:=q 0 x rfl;obtain⟨ys,h1,h2,h3⟩:=zaY h P (g:=g) (f:=f) (ρ:=ρ) (xs:=xs) (k+1) λi z hz=>by have:=q (i+1) z (by simpa using hz);rw[show k+1+i=k+(i+1) by omega];exact this
  refine⟨y::ys,by simp[qM,e1,e2,h1,qW],by simp[h2],λi z hz=>?_⟩;cases i with
  |zero=>simp at hz;subst hz;exact e3
  |succ i=>
   have:=h3 i z (by simpa using hz);rw[show k+(i+1)=k+1+i by omega];exact this
structure nW(ps:SI):Prop where
 lo:2<=ps.length
 hi:ps.length<=5
 cnt:∀p∈ps,0<=p.2/\p.2<=3
 fst:∀p,ps[0]?=some p->p.2=0
 wd:∀p∈ps,p.1.length<=16
def ent(t:T):D:=.lst [t.d,.int t.depth]
inductive nZ(ps:SI)(bs:List Str)(most:Int)(ts:List T):List T->Prop
 |sign (w:Str) (m:Int) (h:ps[0]?=some (w,m)):nZ ps bs most ts (ts++[.nd w []])
 |blank (b:Str) (h:b∈bs):nZ ps bs most ts (ts++[.bl b])
 |take (k:Nat) (s:Str) (m:Int) (h:(s,m)∈ps) (hk:k<ts.length) (hm:m=((ts.length - k:Nat):Int)) (hd:((T.nd s (ts.drop k)).depth:Int)<=most):nZ ps bs most ts (ts.take k++[.nd s (ts.drop k)])
theorem zhA{α:Type}(us:List α)(i:Int):jG us (some i) none=us.drop (HT.sIx us.length 0 (some i)):=by unfold jG;show List.take (us.length - _) _=_;exact List.take_of_length_le (by rw[List.length_drop];exact Nat.le_refl _)
theorem zmF{α:Type}(us:List α)(k:Nat)(hk:k<=us.length):jG us none (some (k:Int))=us.take k:=by unfold jG;rw[HT.sIx_nat,HT.sIx_none,List.drop_zero,Nat.sub_zero,Nat.min_eq_left hk]
theorem zdZ:∀(ts:List T) (a:Int),0<=a->(ts.map λt=>(t.depth:Int)).foldl max a=max a (T.depths ts)
 |[],a,h=>by simp[T.depths];omega
 |t::ts,a,h=>by rw[List.map_cons,List.foldl_cons,zdZ ts _ (by omega),T.depths];omega
def zjx(ts:List T):List Int:=ts.map λt=>(t.depth:Int)
theorem xK(ts:List T):maxD (zjx ts) 0=(T.depths ts:Int):=by
 unfold zjx;cases ts with
 |nil=>rfl
 |cons t ts=>
  show(ts.map λt=>(t.depth:Int)).foldl max (t.depth:Int)=_;rw[zdZ ts _ (by omega),T.depths];omega
theorem zkf(ts:List T)(n:Nat):qM (gN 0) qW (zbv n) [none] (ts.map ent)=some ((zjx ts).map D.int):=by
 unfold zjx;refine nV (by simp) λi x y hx hy=>?_
 rw[List.getElem?_map]at hx;rw[List.map_map,List.getElem?_map]at hy;cases e:ts[i]? with
 |none=>rw[e]at hx;cases hx
 |some t=>
  rw[e]at hx hy;cases hx;cases hy
  exact⟨_,rfl,rfl,by simp! [ent,atI,ixN]⟩
theorem zke(ts:List T)(n:Nat):qM (gN 0) qW (zbu n) [none] (ts.map ent)=some (ts.map T.d):=by
 refine nV (by simp) λi x y hx hy=>?_
 rw[List.getElem?_map]at hx hy;cases e:ts[i]? with
 |none=>rw[e]at hx;cases hx
 |some t=>
  rw[e]at hx hy;cases hx;cases hy
  exact⟨_,rfl,rfl,by simp! [ent,atI,ixN]⟩
theorem zlU(ts:List T)(n most:Int)(ps:SI)(bs:List Str)(S:nW ps)(hb2:bs.length<=1000)(ht:ts.length<=1000):
  ∃ts',yH [.lst (ts.map ent),.int n,.lst (ps.map sd),.lst (bs.map D.str),.int most]=some (.lst (ts'.map ent))/\nZ ps bs most ts ts':=by
 have lo:=S.lo;have hi:=S.hi;have h0:0<=n%(ps.length:Int):=Int.emod_nonneg _ (by omega);have h1:n%(ps.length:Int)<(ps.length:Int):=Int.emod_lt_of_pos _ (by omega);have hpl:(0:Int)<(ps.length:Int):=by omega
 obtain⟨⟨wd,mn⟩,ej,mj⟩:∃q,atI ps (n%(ps.length:Int))=some q/\q∈ps:=
  ⟨ps[(n%(ps.length:Int)).toNat]'(by omega),by rw[wY h0 h1,List.getElem?_eq_getElem (by omega)],List.getElem_mem _⟩
 have hmod:vN (ps.length:Int):=hpl;obtain⟨hm0,hm3⟩:=S.cnt _ mj;have hm0:0<=mn:=hm0;generalize hk0:HT.sIx ts.length 0 (some ((ts.length:Int) - mn))=k0;have cutL:jG (ts.map ent) (some ((ts.length:Int) - mn)) none=(ts.drop k0).map ent:=by rw[zhA,List.length_map,hk0,List.map_drop]
 have ll:(ts.drop k0).length=ts.length - k0:=List.length_drop;generalize hls:ts.drop k0=ls at cutL ll;have en:=zkf ls zJ;have et:=zke ls zJ;have dl:ls.length<=1000000:=by omega
 have io:=zbC (zjx ls);by_cases cc:0<mn/\mn<=(ts.length:Int)/\(T.depths ls:Int)<most/\0<n/20%4
 ·obtain⟨a1,a2,a3,a4⟩:=cc;have ek:k0=ts.length - mn.toNat:=by
   rw[←hk0];have e4:(ts.length:Int) - mn=((ts.length - mn.toNat:Nat):Int):=by omega
   rw[e4,HT.sIx_nat];omega
  have e5:(ts.length:Int) - mn=(k0:Int):=by omega
  have cutR:jG (ts.map ent) none (some ((ts.length:Int) - mn))=(ts.take k0).map ent:=by rw[e5,zmF _ _ (by rw[List.length_map];omega),List.map_take]
  have rl:(ts.take k0).length<=ts.length:=by rw[List.length_take];omega
  refine⟨ts.take k0++[.nd wd (ts.drop k0)],?_,.take k0 wd mn mj (by omega) (by omega) (by rw[T.depth,hls];omega)⟩;rw[hls];generalize ts.take k0=rs at cutR rl ⊢;have z1:rs.length+1<=1000000:=by omega
  have z2:1+ls.length<=1000000:=by omega
  have z3:ls.length+1<=1000000:=by omega
  have de:((T.depth (T.nd wd ls):Nat):Int)=(T.depths ls:Int)+1:=by rw[T.depth];omega
  simp! [yH,kL,ej,sd,hmod,cutL,cutR,en,et,io,xK,a1,a2,a3,a4,dl,z1,z2,z3]
  simp[ent,jE,de]
 ·have w0:∃w m,ps[0]?=some (w,m)/\atI ps 0=some (w,m):=by refine⟨(ps[0]'(by omega)).1,(ps[0]'(by omega)).2,List.getElem?_eq_getElem (by omega),?_⟩;exact vD (j:=0) (List.getElem?_eq_getElem (by omega))
  obtain⟨w0,m0,g0,g1⟩:=w0;have z1:ts.length+1<=1000000:=by omega
  have hnc:¬0<mn\/(0<mn/\¬mn<=(ts.length:Int))\/(0<mn/\mn<=(ts.length:Int)/\¬(T.depths ls:Int)<most)\/(0<mn/\mn<=(ts.length:Int)/\(T.depths ls:Int)<most/\¬0<n/20%4):=by omega
  by_cases hbn:bs=[]
  ·subst hbn;refine⟨ts++[.nd w0 []],?_,.sign w0 m0 g0⟩;have fin:ent (.nd w0 [])=.lst [.tup [.str w0],.int 1]:=by simp[ent,jE,T.depth,T.depths]
   rcases hnc with x1|⟨x1,x2⟩|⟨x1,x2,x3⟩|⟨x1,x2,x3,x4⟩
   ·simp! [yH,kL,ej,sd,hmod,cutL,en,io,xK,dl,z1,zU,eqL,g1,fin,eqD,dep,x1]
   ·simp! [yH,kL,ej,sd,hmod,cutL,en,io,xK,dl,z1,zU,eqL,g1,fin,eqD,dep,x1,x2]
   ·simp! [yH,kL,ej,sd,hmod,cutL,en,io,xK,dl,z1,zU,eqL,g1,fin,eqD,dep,x1,x2,x3]
   ·simp! [yH,kL,ej,sd,hmod,cutL,en,io,xK,dl,z1,zU,eqL,g1,fin,eqD,dep,x1,x2,x3,x4]
  have hb:1<=bs.length:=by cases bs with|nil=>exact absurd rfl hbn|cons x l=>simp
  have hbm:vN (bs.length:Int):=by show(0:Int)<(bs.length:Int);omega
  obtain⟨b,eb,mb⟩:∃b,atI bs (n/20/12%(bs.length:Int))=some b/\b∈bs:=by have q0:0<=n/20/12%(bs.length:Int):=Int.emod_nonneg _ (by omega);have q1:n/20/12%(bs.length:Int)<(bs.length:Int):=Int.emod_lt_of_pos _ (by omega);exact⟨bs[(n/20/12%(bs.length:Int)).toNat]'(by omega),by rw[wY q0 q1,List.getElem?_eq_getElem (by omega)],List.getElem_mem _⟩
  have dq:zU (bs.map D.str)<=99:=by
   have:∀l:List Str,zU (l.map D.str)<=1:=by
    intro l;induction l with
    |nil=>simp[zU]
    |cons x l ih=>simp only[List.map_cons,zU,dep];omega
   have:=this bs;omega
  have eq0:eqL (bs.map D.str) []=some false:=by
   cases bs with
   |nil=>simp at hb
   |cons x l=>simp[eqL]
  by_cases h3:n/20/4%3=0
  ·refine⟨ts++[.nd w0 []],?_,.sign w0 m0 g0⟩;have fin:ent (.nd w0 [])=.lst [.tup [.str w0],.int 1]:=by simp[ent,jE,T.depth,T.depths]
   rcases hnc with x1|⟨x1,x2⟩|⟨x1,x2,x3⟩|⟨x1,x2,x3,x4⟩
   ·simp! [yH,kL,ej,sd,hmod,cutL,en,io,xK,dl,z1,dq,eq0,h3,g1,fin,eqD,dep,x1]
   ·simp! [yH,kL,ej,sd,hmod,cutL,en,io,xK,dl,z1,dq,eq0,h3,g1,fin,eqD,dep,x1,x2]
   ·simp! [yH,kL,ej,sd,hmod,cutL,en,io,xK,dl,z1,dq,eq0,h3,g1,fin,eqD,dep,x1,x2,x3]
   ·simp! [yH,kL,ej,sd,hmod,cutL,en,io,xK,dl,z1,dq,eq0,h3,g1,fin,eqD,dep,x1,x2,x3,x4]
  ·refine⟨ts++[.bl b],?_,.blank b mb⟩;have fin:ent (.bl b)=.lst [.str b,.int 1]:=by simp[ent,kA,T.depth]
   rcases hnc with x1|⟨x1,x2⟩|⟨x1,x2,x3⟩|⟨x1,x2,x3,x4⟩
   ·simp! [yH,kL,ej,sd,hmod,cutL,en,io,xK,dl,z1,dq,eq0,h3,hbm,eb,fin,eqD,dep,x1]
   ·simp! [yH,kL,ej,sd,hmod,cutL,en,io,xK,dl,z1,dq,eq0,h3,hbm,eb,fin,eqD,dep,x1,x2]
   ·simp! [yH,kL,ej,sd,hmod,cutL,en,io,xK,dl,z1,dq,eq0,h3,hbm,eb,fin,eqD,dep,x1,x2,x3]
   ·simp! [yH,kL,ej,sd,hmod,cutL,en,io,xK,dl,z1,dq,eq0,h3,hbm,eb,fin,eqD,dep,x1,x2,x3,x4]
def szs(ts:List T):List Int:=ts.map λt=>(t.size:Int)
theorem zfT:∀ts:List T,(szs ts).sum=(T.sizes ts:Int)
 |[]=>rfl
 |t::r=>by have:=zfT r;unfold szs at this ⊢;rw[List.map_cons,List.sum_cons,this,T.sizes];omega
theorem zop(ts:List T)(h:T.sizes ts<=1000000):zpk (szs ts):=by
 refine⟨λn hn=>?_,?_⟩
 ·unfold szs at hn;obtain⟨t,_,rfl⟩:=List.mem_map.mp hn;omega
 ·rw[zfT];show(T.sizes ts:Int)<4611686018427387904;omega
theorem zkl:∀(n:Nat) (t:T),t.depth<=n->t.size<=1000000->zap n [t.d]=some (.int t.size)
 |0,t,h,_=>by have:=zce t;omega
 |n+1,.bl x,h,_=>by simp! [zap,kA,T.size]
 |n+1,.nd s ts,h,hz=>by
  rw[T.depth]at h;rw[T.size]at hz;have kl:=gD ts;have hl:ts.length<=1000000:=by omega
  have w1:qM (gN 0) qW (zcD (zap n) zJ) [none] (ts.map T.d)=some ((szs ts).map D.int):=by
   refine nV (by simp[szs]) λi x y hx hy=>?_
   unfold szs at hy;rw[List.getElem?_map]at hx;rw[List.map_map,List.getElem?_map]at hy;cases e:ts[i]? with
   |none=>rw[e]at hx;cases hx
   |some t=>
    rw[e]at hx hy;cases hx;cases hy
    have hm:=List.mem_of_getElem? e;have d1:=nU hm;have d2:=gE hm;exact⟨_,rfl,rfl,by simp! [zkl n t (by omega) (by omega)]⟩
  have io:=zbC (szs ts);have ok:=zop ts (by omega)
  simp! [zap,jE,cut1,w1,hl,io,ok,sumD,zfT,T.size]
theorem zgy{ps:SI}{bs:List Str}{most:Int}{ts ts':List T}(h:nZ ps bs most ts ts'):T.sizes ts'<=T.sizes ts+1:=by
 cases h with
 |sign w m h=>rw[xH];simp[T.sizes,T.size]
 |blank b h=>rw[xH];simp[T.sizes,T.size]
 |take k s m h hk hm hd=>
  have e:T.sizes ts=T.sizes (ts.take k)+T.sizes (ts.drop k):=by rw[←xH,List.take_append_drop]
  rw[xH];simp only[T.sizes,T.size];omega
theorem zij{ps:SI}{bs:List Str}{most:Int}{ts ts':List T}(h:nZ ps bs most ts ts')(hm:1<=most):∃r t,ts'=r++[t]/\(t.depth:Int)<=most:=by
 cases h with
 |sign w m h=>exact⟨_,_,rfl,by simp[T.depth,T.depths];omega⟩
 |blank b h=>exact⟨_,_,rfl,by simp[T.depth];omega⟩
 |take k s m h hk hm hd=>exact⟨_,_,rfl,hd⟩
abbrev zbJ(n:Nat):EO Fl:=
 (zN 4 (cL yH (zA (gv 4) (zA (gv 5) (zA (gv 1) (zA (gv 2) (zA (gv 3) zC)))))))
abbrev zbI(n:Nat):EO Fl:=
 (ifM (upT (cT (c2 geD (cL zca (zA (c2 zS (gb 7) (cst (.int 0))) zC)) (cL zca (zA (gv 6) zC))))) (zN 6 (c2 zS (gb 7) (cst (.int 0)))) nxM)
abbrev zfs(n:Nat):EO Fl:=
 (zG (zN 4 (cL qC zC)) (zG (jQ (cI (gv 0)) (gN 5) (zbJ n)) (zG (zN 6 (c2 zS (c2 zS (gb 4) (cst (.int 0))) (cst (.int 0)))) (zG (jQ (cI (cS kB (gb 4) (jU (cst (.int 1))) kG)) (gN 7) (zbI n)) (zR (gv 6))))))
def gO:Lo2:=qO (zfs zJ) 4 8
abbrev zbd(xL:Lo2)(n:Nat):EO D:=
 (c2 qE (cL qT (zA (gv 1) zC)) (gb 0))
abbrev zba(xL:Lo2)(n:Nat):EO Fl:=
 (zN 1 (c2 qE (gb 1) (jC [none,some 2] (cI (cL xL (zA (c2 zS (gb 0) (c2 qE (cst (.int 1)) (gb 2))) zC))) (gN 0) qW (zbd xL n))))
abbrev zdC(xL:Lo2)(n:Nat):EO Fl:=
 (zG (zN 1 (cL qC (zA (cL qT zC) zC))) (zG (ifM (upT (cT (c1 (kW "tuple") (gb 0)))) (jQ (cR1 (c2 xG (cL jB (zA (gb 0) zC)) (cst (.int 1)))) (gN 2) (zba xL n)) nxM) (zR (gv 1))))
def zab:Nat->Lo2
 |0=>λ_=>none
 |n+1=>qO (zdC (zab n) zJ) 1 3
def xL:Lo2:=zab 100
abbrev zbj(n:Nat):EO Fl:=
 (zG (zN 1 (c2 qI (c2 qE (c2 qE (c2 qE (c2 kQ (gb 1) (gb 1)) (c2 kQ (c2 kQ (cst (.int 48271)) (gb 3)) (gb 3))) (gb 3)) (cst (.int 3))) (cst (.int 2147483629)))) (zN 2 (c2 qE (c2 kQ (gb 2) (cst (.int 2147483587))) (c2 qI (c2 kQ (gb 1) (gb 1)) (cst (.int 2147483587))))))
abbrev zez(n:Nat):EO Fl:=
 (zG (zN 1 (c2 qI (gb 0) (cst (.int 2147483647)))) (zG (zN 2 (cst (.int 1))) (zG (jQ (cR1 (cst (.int 16))) (gN 3) (zbj n)) (zG (ifM (upT (cT (c2 eqB (c2 qI (gb 0) (cst (.int 2))) (cst (.int 0))))) (zR (cL qC (zA (c2 jI (cL gA (zA (gb 0) zC)) (cst (.int 2))) (zA (gv 2) zC)))) nxM) (zR (cL qC (zA (cst (.int 0)) (zA (gv 2) zC))))))))
def zak:Lo2:=qO (zez zJ) 1 4
abbrev zft(n:Nat):EO Fl:=
 (zG (zN 2 (cL wT (zA (c2 eqB (c2 zS (gb 0) (cst (.int 0))) (cst (.int 0))) zC))) (zG (zN 3 (c2 qI (c2 zS (gb 0) (gb 2)) (gb 1))) (zG (yD 0 (gv 2) (c2 jI (c2 zS (gb 0) (gb 2)) (gb 1))) (zR (gv 3)))))
def yG:D->List D->Option (D×D):=xV (zft zJ) 2 4 0
abbrev zbc(n:Nat):EO (D×En):=
 (kK yG 1 (zA (cst (.int 4800)) zC))
abbrev zdB(n:Nat):EO Fl:=
 (zG (setO 2 (cL zak (zA (gv 0) zC))) (wG (vA 2 1 [none,some 2] (cR1 (gv 1)) (gN 0) (zbc n))))
def zan:Lo2:=qO (zdB zJ) 2 3
abbrev zbK(n:Nat):EO Fl:=
 (zN 0 (c2 zS (gb 0) (c2 qE (cst (.int 1)) (gb 2))))
abbrev zfu(n:Nat):EO Fl:=
 (zG (jQ (cI (gv 1)) (gN 2) (zbK n)) (zR (gv 0)))
def xX:Lo2:=qO (zfu zJ) 2 3
abbrev zgp(vQ:Lo2)(n:Nat):EO Fl:=
 (zG (ifM (upT (cT (c2 eqB (gb 1) (cL qT zC)))) (zR (gv 2)) nxM) (zG (zN 3 (c2 qE (cst (.int 1)) (c2 zS (gb 1) (cst (.int 0))))) (zR (c2 qE (c2 qE (cS kB (gb 0) kG (jU (gv 3))) (cL qT (zA (cL vQ (zA (c2 zS (gb 0) (gb 3)) (zA (cS kB (gb 1) (jU (cst (.int 1))) kG) (zA (gv 2) zC)))) zC))) (cS kB (gb 0) (jU (c2 qE (gb 3) (cst (.int 1)))) kG)))))
def zas:Nat->Lo2
 |0=>λ_=>none
 |n+1=>qO (zgp (zas n) zJ) 3 4
def vQ:Lo2:=zas 100
def jN(a b:Int):D:=.lst [.int a,.int b]
theorem zkj(c:Int):∃a b,zak [.int c]=some (jN a b):=by
 obtain⟨ρ',e1,x,y,k,rfl,_,_⟩:=xO (g:=gN 3) (b:=zbj zJ) (xs:=jJ 0 16) (ρ:=[some (.dat (.int c)),some (.dat (.int (c%2147483647))),some (.dat (.int 1)),none])
  (λi ρ=>∃(x y:Int) (k:Option Sl),ρ=[some (.dat (.int c)),some (.dat (.int x)),some (.dat (.int y)),k]/\0<=x/\x<2147483648) ⟨_,_,_,rfl,by omega,by omega⟩ (by
   rintro i v ρ hv ⟨x,y,k,rfl,h0,h1⟩;obtain⟨hi,rfl⟩:=wH hv;have o1:zhS x x:=wN (by omega) (by omega);generalize hz:(x*x+48271*(0+(i:Int))*(0+(i:Int))+(0+(i:Int))+3)%2147483629=z;have z0:0<=z:=by rw[←hz];exact Int.emod_nonneg _ (by decide)
   have z1:z<2147483629:=by rw[←hz];exact Int.emod_lt_of_pos _ (by decide)
   have o2:zhS (48271*(0+(i:Int))) (0+(i:Int)):=wN (by omega) (by omega);have o3:zhS z z:=wN (by omega) (by omega);refine⟨[some (.dat (.int c)),some (.dat (.int z)),some (.dat (.int (y*2147483587+z*z%2147483587))),some (.dat (.int (0+(i:Int))))],.inl ?_,_,_,_,rfl,z0,by omega⟩;subst hz;rw[Int.zero_add]at*
   simp! [o1,o2,o3])
 by_cases h:c%2=0
 ·exact⟨(if c<0 then -c else c)/2,y,by simp! [zak,e1,h,jN,eqD,dep]⟩
 ·exact⟨0,y,by simp! [zak,e1,h,jN,eqD,dep]⟩
theorem zfF(a b m:Int)(h0:0<m)(h1:m<1073741824):∃r a' b',yG (jN a b) [.int m]=some (.int r,jN a' b')/\0<=r/\r<m:=by
 have o1:vN m:=h0;have o2:znw m:=⟨h0,h1⟩;by_cases h:a=0
 ·refine⟨b%m,a,b/m,?_,Int.emod_nonneg _ (by omega),Int.emod_lt_of_pos _ h0⟩;subst h
  simp! [yG,jN,o1,o2,eqD,dep,ixN]
 ·refine⟨a%m,a/m,b,?_,Int.emod_nonneg _ (by omega),Int.emod_lt_of_pos _ h0⟩
  simp! [yG,jN,o1,o2,h,eqD,dep,ixN]
theorem zbV(n:Nat)(s:Option Sl):∀(xs:List D) (a b:Int),∃(rs:List Int) (a' b':Int),vB (gN 0) (zbc n) [none,s] 1 (jN a b) xs=some (rs.map D.int,jN a' b')/\rs.length=xs.length
 |[],a,b=>⟨[],a,b,rfl,rfl⟩
 |x::xs,a,b=>by
  obtain⟨r,a',b',e,_⟩:=zfF a b 4800 (by decide) (by decide);obtain⟨rs,a2,b2,e2,e3⟩:=zbV n s xs a' b';refine⟨r::rs,a2,b2,?_,by simp[e3]⟩
  simp! [vB,e,e2]
theorem zlQ(c:Int)(k:Nat)(hk:k<=1000):∃rs:List Int,zan [.int c,.int k]=some (.lst (rs.map D.int))/\rs.length=k:=by
 obtain⟨a,b,e1⟩:=zkj c;have o1:wM (k:Int):=xI (by omega) (by omega);obtain⟨rs,a',b',e2,e3⟩:=zbV zJ (some (.bor (jN a b))) (jJ 0 (k:Int).toNat) a b;rw[jZ]at e3;have e3:rs.length=k:=by omega
 have hz:k<=1000000:=by omega
 refine⟨rs,?_,e3⟩;rw[Int.toNat_natCast]at e2
 simp! [zan,e1,vA,o1,jZ,hz,e2]
theorem zfB{ps:SI}{bs:List Str}{most:Int}{ts ts':List T}(h:nZ ps bs most ts ts')(hm:1<=most)(hd:∀t∈ts,(t.depth:Int)<=most):∀t∈ts',(t.depth:Int)<=most:=by
 cases h with
 |sign w m h=>
  intro t ht;rcases List.mem_append.mp ht with ht|ht
  ·exact hd t ht
  ·rw[List.mem_singleton.mp ht];simp[T.depth,T.depths];omega
 |blank b h=>
  intro t ht;rcases List.mem_append.mp ht with ht|ht
  ·exact hd t ht
  ·rw[List.mem_singleton.mp ht];simp[T.depth];omega
 |take k s m h hk hm hd'=>
  intro t ht;rcases List.mem_append.mp ht with ht|ht
  ·exact hd t (List.mem_of_mem_take ht)
  ·rw[List.mem_singleton.mp ht];exact hd'
inductive WT(ps:SI)(bs:List Str):T->Prop
 |bl {x:Str}(h:x∈bs):WT ps bs (.bl x)
 |nd {s:Str}{ts:List T} (h:(s,(ts.length:Int))∈ps) (hs:∀t∈ts,WT ps bs t):WT ps bs (.nd s ts)
theorem zlD{ps:SI}{bs:List Str}{most:Int}{ts ts':List T}(S:nW ps)(h:nZ ps bs most ts ts')(hd:∀t∈ts,WT ps bs t):∀t∈ts',WT ps bs t:=by
 cases h with
 |sign w m h=>
  intro t ht;rcases List.mem_append.mp ht with ht|ht
  ·exact hd t ht
  ·rw[List.mem_singleton.mp ht]
   have:=S.fst _ h;simp only at this;subst this;exact .nd (by simpa using List.mem_of_getElem? h) (by simp)
 |blank b h=>
  intro t ht;rcases List.mem_append.mp ht with ht|ht
  ·exact hd t ht
  ·rw[List.mem_singleton.mp ht];exact .bl h
 |take k s m h hk hm hd'=>
  intro t ht;rcases List.mem_append.mp ht with ht|ht
  ·exact hd t (List.mem_of_mem_take ht)
  ·rw[List.mem_singleton.mp ht];refine .nd (by rw[List.length_drop,←hm];exact h) λt ht=>hd t (List.mem_of_mem_drop ht)
theorem zki(ns:List Int)(ps:SI)(bs:List Str)(most:Int)(S:nW ps)(hb2:bs.length<=1000)(hm:1<=most)(hm2:most<=90)(h0:1<=ns.length)(h1:ns.length<=900):
  ∃t:T,gO [.lst (ns.map D.int),.lst (ps.map sd),.lst (bs.map D.str),.int most]=some t.d/\(t.depth:Int)<=most/\t.size<=ns.length/\WT ps bs t:=by
 obtain⟨ρ',f1,ts,k,rfl,hs,hd,hW,hne⟩:=xO (g:=gN 5) (b:=zbJ zJ) (xs:=ns.map D.int) (ρ:=[some (.dat (.lst (ns.map D.int))),some (.dat (.lst (ps.map sd))),some (.dat (.lst (bs.map D.str))),some (.dat (.int most)),some (.dat (.lst [])),none,none,none])
  (λi ρ=>∃(ts:List T) (k:Option Sl),ρ=[some (.dat (.lst (ns.map D.int))),some (.dat (.lst (ps.map sd))),some (.dat (.lst (bs.map D.str))),some (.dat (.int most)),some (.dat (.lst (ts.map ent))),k,none,none]/\T.sizes ts<=i/\(∀t∈ts,(t.depth:Int)<=most)/\(∀t∈ts,WT ps bs t)/\(0<i->ts≠[])) ⟨[],none,rfl,by simp[T.sizes],by simp,by simp,by simp⟩ (by
   rintro i x ρ hx ⟨ts,k,rfl,hs,hd,hW,_⟩;have hi:i<ns.length:=by have:=(List.getElem?_eq_some_iff.mp hx).1;simpa using this
   obtain⟨c,_,rfl⟩:=List.mem_map.mp (List.mem_of_getElem? hx);have tl:=gD ts;obtain⟨ts',g1,g2⟩:=zlU ts c most ps bs S hb2 (by omega);have g3:=zgy g2;refine⟨[some (.dat (.lst (ns.map D.int))),some (.dat (.lst (ps.map sd))),some (.dat (.lst (bs.map D.str))),some (.dat (.int most)),some (.dat (.lst (ts'.map ent))),some (.dat (.int c)),none,none],.inl ?_,ts',_,rfl,by omega,zfB g2 hm hd,zlD S g2 hW,λ_ z=>?_⟩
   ·simp! [g1]
   ·obtain⟨r,t,e,_⟩:=zij g2 hm;rw[e]at z;simp at z)
 rw[List.length_map]at hs hne;cases ts with
 |nil=>exact absurd rfl (hne (by omega))
 |cons t0 tr=>
  have cnt:∀t:T,t∈t0::tr->zca [t.d]=some (.int t.size):=λt ht=>zkl 100 t (by have:=hd t ht;omega) (by have:=gE ht;omega)
  have sz:∀t:T,t∈t0::tr->t.size<=ns.length:=λt ht=>by have:=gE ht;omega
  obtain⟨ρ',f2,t,k2,rfl,ht⟩:=xO (g:=gN 7) (b:=zbI zJ) (xs:=tr.map ent) (ρ:=[some (.dat (.lst (ns.map D.int))),some (.dat (.lst (ps.map sd))),some (.dat (.lst (bs.map D.str))),some (.dat (.int most)),some (.dat (.lst ((t0::tr).map ent))),k,some (.dat t0.d),none])
   (λi ρ=>∃(t:T) (k2:Option Sl),ρ=[some (.dat (.lst (ns.map D.int))),some (.dat (.lst (ps.map sd))),some (.dat (.lst (bs.map D.str))),some (.dat (.int most)),some (.dat (.lst ((t0::tr).map ent))),k,some (.dat t.d),k2]/\t∈t0::tr) ⟨t0,none,rfl,by simp⟩ (by
    rintro i x ρ hx ⟨t,k2,rfl,ht⟩;obtain⟨u,hu,rfl⟩:=List.mem_map.mp (List.mem_of_getElem? hx);have hu':u∈t0::tr:=List.mem_cons_of_mem _ hu;have c1':=cnt t ht;have c2':=cnt u hu';by_cases hc:(t.size:Int)<=u.size
    ·refine⟨[some (.dat (.lst (ns.map D.int))),some (.dat (.lst (ps.map sd))),some (.dat (.lst (bs.map D.str))),some (.dat (.int most)),some (.dat (.lst ((t0::tr).map ent))),k,some (.dat u.d),some (.dat (ent u))],.inl ?_,u,_,rfl,hu'⟩;have hc':t.size<=u.size:=by omega
     simp! [ent,c1',c2',hc']
    ·refine⟨[some (.dat (.lst (ns.map D.int))),some (.dat (.lst (ps.map sd))),some (.dat (.lst (bs.map D.str))),some (.dat (.int most)),some (.dat (.lst ((t0::tr).map ent))),k,some (.dat t.d),some (.dat (ent u))],.inl ?_,t,_,rfl,ht⟩;have hc':¬t.size<=u.size:=by omega
     simp! [ent,c1',c2',hc'])
  refine⟨t,?_,hd t ht,sz t ht,hW t ht⟩;have en:ent t0=.lst [t0.d,.int t0.depth]:=rfl;simp only[List.map_cons]at f1 f2 ⊢
  simp! [gO,f1,cut1,en,f2]
  rw[en]at f2;simp[f2]
theorem zkh(ns:List Int)(ps:SI)(bs:List Str)(most:Int)(S:nW ps)(hb:1<=bs.length)(hb2:bs.length<=1000)(hm:1<=most)(hm2:most<=90)(h0:1<=ns.length)(h1:ns.length<=900):
  ∃t:T,gO [.lst (ns.map D.int),.lst (ps.map sd),.lst (bs.map D.str),.int most]=some t.d/\(t.depth:Int)<=most/\t.size<=ns.length/\WT ps bs t:=zki ns ps bs most S hb2 hm hm2 h0 h1
mutual
def plc:T->List (List Int)
 | .bl _=>[[]]
 | .nd _ ts=>[]::jH 0 ts
def jH(k:Nat):List T->List (List Int)
 |[]=>[]
 |t::r=>(plc t).map ((k:Int)::·)++jH (k+1) r
end
theorem zcW:∀(k:Nat) (a b:List T),jH k (a++b)=jH k a++jH (k+a.length) b
 |k,[],b=>by simp[jH]
 |k,t::a,b=>by rw[List.cons_append,jH,jH,zcW (k+1) a b,List.append_assoc,List.length_cons,show k+1+a.length=k+(a.length+1) by omega]
mutual
theorem gJ:∀t:T,(plc t).length=t.size
 | .bl x=>by simp[plc,T.size]
 | .nd s ts=>by simp[plc,T.size,zeq 0 ts];omega
theorem zeq:∀(k:Nat) (ts:List T),(jH k ts).length=T.sizes ts
 |_,[]=>by simp[jH,T.sizes]
 |k,t::r=>by simp[jH,T.sizes,gJ t,zeq (k+1) r]
end
mutual
theorem zhe:∀(t:T) (p:List Int),p∈plc t->∃u,qB t p=some u
 | .bl x,p,h=>by simp only[plc,List.mem_singleton]at h;subst h;exact⟨_,rfl⟩
 | .nd s ts,p,h=>by
  simp only[plc,List.mem_cons]at h;rcases h with rfl|h
  ·exact⟨_,rfl⟩
  ·obtain⟨i,q,t,u,rfl,e,hu⟩:=zjd 0 ts p h;refine⟨u,?_⟩
   have:(0:Int)<=((0+i:Nat):Int):=by omega
   simp only[qB,if_pos this];rw[Int.toNat_natCast,Nat.zero_add,e];exact hu
theorem zjd:∀(k:Nat) (ts:List T) (p:List Int),p∈jH k ts->∃(i:Nat) (q:List Int) (t u:T),p=((k+i:Nat):Int)::q/\ts[i]?=some t/\qB t q=some u
 |_,[],p,h=>by simp[jH]at h
 |k,t::r,p,h=>by
  simp only[jH,List.mem_append]at h;rcases h with h|h
  ·obtain⟨q,hq,rfl⟩:=List.mem_map.mp h;obtain⟨u,hu⟩:=zhe t q hq;exact⟨0,q,t,u,by simp,rfl,hu⟩
  ·obtain⟨i,q,t',u,rfl,e,hu⟩:=zjd (k+1) r p h;exact⟨i+1,q,t',u,by rw[show k+1+i=k+(i+1) by omega],by simpa using e,hu⟩
end
def pD(p:List Int):D:=.tup (p.map D.int)
mutual
theorem zhd:∀(t:T) (p:List Int),p∈plc t->p.length<=t.depth
 | .bl x,p,h=>by simp only[plc,List.mem_singleton]at h;subst h;simp
 | .nd s ts,p,h=>by
  simp only[plc,List.mem_cons]at h;rcases h with rfl|h
  ·simp
  ·rw[T.depth];exact zfk 0 ts p h
theorem zfk:∀(k:Nat) (ts:List T) (p:List Int),p∈jH k ts->p.length<=1+T.depths ts
 |_,[],p,h=>by simp[jH]at h
 |k,t::r,p,h=>by
  simp only[jH,List.mem_append]at h;rw[T.depths];rcases h with h|h
  ·obtain⟨q,hq,rfl⟩:=List.mem_map.mp h
   have:=zhd t q hq;rw[List.length_cons];omega
  ·have:=zfk (k+1) r p h;omega
end
theorem zcK:∀(n:Nat) (t:T),t.depth<=n->t.depth<=100->t.size<=1000->zab n [t.d]=some (.lst ((plc t).map pD))
 |0,t,h,_,_=>by have:=zce t;omega
 |n+1,.bl x,h,_,_=>by simp! [zab,kA,plc,pD]
 |n+1,.nd s ts,h,hd,hz=>by
  rw[T.depth]at h hd;rw[T.size]at hz;have kl:=gD ts;obtain⟨ρ',f1,k,rfl⟩:=xO (g:=gN 2) (b:=zba (zab n) zJ) (xs:=jJ 0 ts.length) (ρ:=[some (.dat (.tup (.str s::ts.map T.d))),some (.dat (.lst [.tup []])),none])
   (λi ρ=>∃(k:Option Sl),ρ=[some (.dat (.tup (.str s::ts.map T.d))),some (.dat (.lst (([]::jH 0 (ts.take i)).map pD))),k]) ⟨none,by simp[jH,pD]⟩ (by
    rintro i x ρ hx ⟨k,rfl⟩;obtain⟨hi,rfl⟩:=wH hx;have hm:ts[i]∈ts:=List.getElem_mem hi;have d1:=nU hm;have d2:=gE hm;have e1:=zcK n ts[i] (by omega) (by omega) (by omega);have e2:atI (D.str s::ts.map T.d) (1+(i:Int))=some ts[i].d:=by rw[show(1:Int)+(i:Int)=((i+1:Nat):Int) by omega];exact vD (by simp[hi])
    have pl1:((plc ts[i]).map pD).length<=1000000:=by rw[List.length_map,gJ];omega
    have w1:qM (gN 0) qW (zbd (zab n) zJ) [none,some (.dat (.int (i:Int)))] ((plc ts[i]).map pD)=some (((plc ts[i]).map ((i:Int)::·)).map pD):=by
     refine nV (by simp) λj x y hx hy=>?_
     rw[List.getElem?_map]at hx;rw[List.map_map,List.getElem?_map]at hy;cases e:(plc ts[i])[j]? with
     |none=>rw[e]at hx;cases hx
     |some q=>
      rw[e]at hx hy;cases hx;cases hy
      have ql:=zhd ts[i] q (List.mem_of_getElem? e);have z1:1+q.length<=1000000:=by omega
      exact⟨_,rfl,rfl,by simp! [pD,z1]⟩
    generalize hL:(plc ts[i]).map pD=L at e1 w1 pl1;have tk:ts.take (i+1)=ts.take i++[ts[i]]:=by rw[List.take_succ_eq_append_getElem hi]
    have e5:jH 0 (ts.take (i+1))=jH 0 (ts.take i)++(plc ts[i]).map ((i:Int)::·):=by rw[tk,zcW];simp only[jH,List.append_nil,List.length_take];rw[show 0+min i ts.length=i by omega]
    have e6:T.sizes (ts.take i)<=T.sizes ts:=by
     have:T.sizes ts=T.sizes (ts.take i)+T.sizes (ts.drop i):=by rw[←xH,List.take_append_drop]
     omega
    have e7:=zeq 0 (ts.take i);have e8:=gJ ts[i];have z2:(jH 0 (ts.take i)).length+1+(plc ts[i]).length<=1000000:=by omega
    refine⟨[some (.dat (.tup (.str s::ts.map T.d))),some (.dat (.lst (([]::jH 0 (ts.take (i+1))).map pD))),some (.dat (.int (0+(i:Int))))],.inl ?_,_,rfl⟩;rw[e5];generalize jH 0 (ts.take i)=A at z2;have z3:A.length+1+(plc ts[i]).length<=1000000:=z2;have z4:(A.length:Nat)+1+((plc ts[i]).map ((i:Int)::·)).length<=1000000:=by simpa using z2
    generalize hB:(plc ts[i]).map ((i:Int)::·)=B at w1 z4 ⊢
    simp! [e2,e1,w1,pl1,z4])
  rw[jZ,List.take_length]at f1;have hr2:wM (ts.length:Int):=xI (by omega) (by omega)
  simp! [zab,jE,f1,plc,hr2]
theorem gK{t u:T}{k:Int}{p:List Int}(h:qB t (k::p)=some u):∃s ts c,t=.nd s ts/\0<=k/\ts[k.toNat]?=some c/\qB c p=some u:=by
 cases t with
 |bl x=>simp[qB]at h
 |nd s ts=>
  simp only[qB]at h;split at h
  ·rename_i h0;cases e:ts[k.toNat]? with
   |none=>rw[e]at h;cases h
   |some c=>rw[e]at h;exact⟨s,ts,c,rfl,h0,e,h⟩
  ·cases h
theorem zkk(t u:T)(p:List Int)(h:qB t p=some u):xX [t.d,pD p]=some u.d:=by
 obtain⟨ρ',e1,c,k,rfl,hc⟩:=xO (g:=gN 2) (b:=zbK zJ) (xs:=p.map D.int) (ρ:=[some (.dat t.d),some (.dat (.tup (p.map D.int))),none])
  (λi ρ=>∃(c:T) (k:Option Sl),ρ=[some (.dat c.d),some (.dat (.tup (p.map D.int))),k]/\qB c (p.drop i)=some u) ⟨t,none,rfl,h⟩ (by
   rintro i x ρ hx ⟨c,k,rfl,hc⟩;rw[List.getElem?_map]at hx;cases e:p[i]? with
   |none=>rw[e]at hx;cases hx
   |some a=>
    rw[e]at hx;cases hx
    have hi:i<p.length:=(List.getElem?_eq_some_iff.mp e).1;have ea:p[i]=a:=by rw[List.getElem?_eq_getElem hi]at e;exact Option.some.inj e
    rw[List.drop_eq_getElem_cons hi,ea]at hc;obtain⟨s,ts,c',rfl,h0,e2,hc2⟩:=gK hc;have g3:atI (D.str s::ts.map T.d) (1+a)=some c'.d:=by
     have e3:(1:Int)+a=((a.toNat+1:Nat):Int):=by omega
     rw[e3];exact vD (by simp[e2])
    refine⟨[some (.dat c'.d),some (.dat (.tup (p.map D.int))),some (.dat (.int a))],.inl ?_,c',_,rfl,hc2⟩
    simp! [jE,g3])
 rw[List.length_map,List.drop_length]at hc;have hc:some c=some u:=by cases c<;>simpa[qB]using hc
 cases hc
 simp! [xX,pD,e1]
def jK:T->List Int->T->T
 |_,[],n=>n
 | .bl x,_::_,_=>.bl x
 | .nd s ts,k::p,n=>match ts[k.toNat]? with
  |some c=>.nd s (ts.set k.toNat (jK c p n))
  |none=>.nd s ts
theorem zbY(t n:T):jK t [] n=n:=by cases t<;>rfl
theorem ziZ{s:Str}{ts:List T}{c n:T}{k:Int}{p:List Int}(e:ts[k.toNat]?=some c):jK (.nd s ts) (k::p) n=.nd s (ts.set k.toNat (jK c p n)):=by simp only[jK,e]
mutual
theorem zaS:∀(p:List Int) (t u:T),qB t p=some u->u.size<=t.size
 |[],t,u,h=>by
  have:some t=some u:=by cases t<;>simpa[qB]using h
  rw[Option.some.inj this];exact Nat.le_refl _
 |k::p,t,u,h=>by
  obtain⟨s,ts,c,rfl,h0,e,h2⟩:=gK h
  have:=zaS p c u h2
  have:=gE (List.mem_of_getElem? e);rw[T.size];omega
end
theorem zfb:∀(ts:List T) (i:Nat) (c x:T),ts[i]?=some c->T.sizes (ts.set i x)+c.size=T.sizes ts+x.size
 |[],i,c,x,h=>by simp at h
 |t::r,0,c,x,h=>by simp at h;subst h;simp only[List.set_cons_zero,T.sizes];omega
 |t::r,i+1,c,x,h=>by have:=zfb r i c x (by simpa using h);simp only[List.set_cons_succ,T.sizes];omega
theorem zdY:∀(ts:List T) (i:Nat) (x:T),T.depths (ts.set i x)<=max (T.depths ts) x.depth
 |[],i,x=>by simp[T.depths]
 |t::r,0,x=>by simp only[List.set_cons_zero,T.depths];omega
 |t::r,i+1,x=>by have:=zdY r i x;simp only[List.set_cons_succ,T.depths];omega
theorem zbX:∀(p:List Int) (t n:T),(jK t p n).size<=t.size+n.size
 |[],t,n=>by rw[zbY];omega
 |k::p,.bl x,n=>by simp[jK,T.size]
 |k::p,.nd s ts,n=>by
  simp only[jK];cases e:ts[k.toNat]? with
  |none=>simp
  |some c=>
   have h1:=zbX p c n;have h2:=zfb ts k.toNat c (jK c p n) e;simp only[T.size];omega
theorem zdM:∀(p:List Int) (t n:T),(jK t p n).depth<=t.depth+n.depth
 |[],t,n=>by rw[zbY];omega
 |k::p,.bl x,n=>by simp[jK,T.depth]
 |k::p,.nd s ts,n=>by
  simp only[jK];cases e:ts[k.toNat]? with
  |none=>simp
  |some c=>
   have h1:=zdM p c n;have h2:=zdY ts k.toNat (jK c p n);have h3:=nU (List.mem_of_getElem? e);simp only[T.depth];omega
theorem zaT:∀(p:List Int) (t u:T),qB t p=some u->p.length<=t.depth
 |[],t,u,h=>by simp
 |k::p,t,u,h=>by obtain⟨s,ts,c,rfl,h0,e,h2⟩:=gK h;have h1:=zaT p c u h2;have h3:=nU (List.mem_of_getElem? e);rw[T.depth,List.length_cons];omega
theorem ziO{α:Type}(l:List α)(i:Nat)(x:α)(h:i<l.length):l.take i++x::l.drop (i+1)=l.set i x:=by rw[List.set_eq_take_append_cons_drop,if_pos h]
theorem zqa{α:Type}(l:List α)(i:Int)(h0:0<=i)(h:i.toNat<=l.length):jG l none (some i)=l.take i.toNat:=by
 have:i=((i.toNat:Nat):Int):=by omega
 rw[this,zmF l _ (by omega),Int.toNat_natCast]
theorem zqb{α:Type}(l:List α)(i:Int)(h0:0<=i)(h:i.toNat<=l.length):jG l (some i) none=l.drop i.toNat:=by
 have e:i=((i.toNat:Nat):Int):=by omega
 rw[zhA,e,HT.sIx_nat,Int.toNat_natCast,Nat.min_eq_left h]
theorem zqU{s:Str}{ts:List T}{k:Nat}(hk:k<ts.length)(x:T):(D.str s::ts.map T.d).take (k+1)++x.d::(D.str s::ts.map T.d).drop (k+2)=D.str s::(ts.set k x).map T.d:=by rw[List.take_succ_cons,List.cons_append,List.drop_succ_cons,ziO _ k _ (by simpa using hk),List.map_set]
theorem zhw:∀(m:Nat) (p:List Int) (t u n:T),p.length<m->p.length<=90->qB t p=some u->t.size<=1000->zas m [t.d,pD p,n.d]=some (jK t p n).d
 |0,p,t,u,n,h,_,_,_=>by omega
 |m+1,[],t,u,n,h,_,_,_=>by
  rw[zbY]
  simp! [zas,pD,eqD,eqL,dep,zU]
 |m+1,k::p,t,u,n,h,h9,hp,hz=>by
  obtain⟨s,ts,c,rfl,h0,e,h2⟩:=gK hp;have hl:k.toNat<ts.length:=(List.getElem?_eq_some_iff.mp e).1;have h3:=gE (List.mem_of_getElem? e);rw[T.size]at hz;have tl:=gD ts;rw[List.length_cons]at h h9;have ih:=zhw m p c u n (by omega) (by omega) h2 (by omega);have a1:atI (D.str s::ts.map T.d) (1+k)=some c.d:=by
   have e3:(1:Int)+k=((k.toNat+1:Nat):Int):=by omega
   rw[e3];exact vD (by simp[e])
  have k1:(1+k).toNat=k.toNat+1:=by omega
  have k2:(1+k+1).toNat=k.toNat+2:=by omega
  have c1':jG (D.str s::ts.map T.d) none (some (1+k))=(D.str s::ts.map T.d).take (k.toNat+1):=by rw[zqa _ _ (by omega) (by simp;omega),k1]
  have c2':jG (D.str s::ts.map T.d) (some (1+k+1)) none=(D.str s::ts.map T.d).drop (k.toNat+2):=by rw[zqb _ _ (by omega) (by simp;omega),k2]
  have md:=zqU (s:=s) hl (jK c p n);rw[ziZ e,jE,jE,←md];have l1:((D.str s::ts.map T.d).take (k.toNat+1)).length<=1001:=by rw[List.length_take];simp;omega
  have l2:((D.str s::ts.map T.d).drop (k.toNat+2)).length<=1001:=by rw[List.length_drop];simp;omega
  have dp:zU (p.map D.int)<=1:=by
   have:∀l:List Int,zU (l.map D.int)<=1:=by
    intro l;induction l with
    |nil=>simp[zU]
    |cons x l ih=>simp only[List.map_cons,zU,dep];omega
   exact this p
  generalize (D.str s::ts.map T.d)=L at a1 c1' c2' l1 l2 ⊢;generalize L.take (k.toNat+1)=A at c1' l1 ⊢;generalize L.drop (k.toNat+2)=B at c2' l2 ⊢;have z1:A.length+1<=1000000:=by omega
  have z2:A.length+1+B.length<=1000000:=by omega
  have z2':A.length+(B.length+1)<=1000000:=by omega
  have dz:max 1 (zU (p.map D.int))+1<=100:=by omega
  unfold pD at ih
  simp! [zas,pD,a1,c1',c2',ih,z1,z2,cut1,eqL,eqD,dep,zU,dz]
mutual
theorem zkc:∀t:T,eqD t.d t.d=some true
 | .bl x=>by simp[kA,eqD]
 | .nd s ts=>by simp[jE,eqD,eqL,zmD ts]
theorem zmD:∀ts:List T,eqL (ts.map T.d) (ts.map T.d)=some true
 |[]=>by simp[eqL]
 |t::ts=>by simp[eqL,zkc t,zmD ts]
end
theorem zlZ(p:List Int):zU (p.map D.int)<=1:=by
 induction p with
 |nil=>simp[zU]
 |cons x l ih=>simp only[List.map_cons,zU,dep];omega
theorem zcB:∀(p:List Int) (t u:T),qB t p=some u->u.depth<=t.depth
 |[],t,u,h=>by
  have:some t=some u:=by cases t<;>simpa[qB]using h
  rw[Option.some.inj this];exact Nat.le_refl _
 |k::p,t,u,h=>by obtain⟨s,ts,c,rfl,h0,e,h2⟩:=gK h;have h1:=zcB p c u h2;have h3:=nU (List.mem_of_getElem? e);rw[T.depth];omega
theorem zgs:∀(l b:List Str),l.Nodup->(∀x∈l,x∈b)->l.length<=b.length
 |[],b,_,_=>Nat.zero_le _
 |x::l,b,h,hs=>by
  rw[List.nodup_cons]at h;have hx:=hs x (by simp)
  have:=zgs l (b.erase x) h.2 λy hy=>(List.mem_erase_of_ne λz=>h.1 (by rw[←z];exact hy)).mpr (hs y (List.mem_cons_of_mem _ hy))
  rw[List.length_erase_of_mem hx]at this
  have:=List.length_pos_of_mem hx;rw[List.length_cons];omega
theorem zcp(x:Str):∀bs:List Str,inL (.str x) (bs.map D.str)=some (decide (x∈bs))
 |[]=>by simp[inL]
 |b::bs=>by
  simp only[List.map_cons,inL,eqD,zcp x bs];by_cases h:b=x
  ·subst h;simp
  ·have h2:(b==x)=false:=by simpa using h
   have h3:¬x=b:=λz=>h z.symm
   simp[h2,h3]
theorem zbD(l:List Str):zU (l.map D.str)<=1:=by
 induction l with
 |nil=>simp[zU]
 |cons x l ih=>simp only[List.map_cons,zU,dep];omega
noncomputable def nb(s:Option Sl):Bool:=match s with
 |some (.bor _)=>false
 |_=>true
theorem zoc(s:Option Sl)(ρ:En):vO (s::ρ)=(nb s&&vO ρ):=rfl
theorem zpm:vO []=true:=rfl
theorem zrv(d:D):nb (some (.dat d))=true:=rfl
theorem zru(q:Bool)(d:D):nb (some (.ow q d))=true:=rfl
theorem zqT:nb none=true:=rfl
abbrev zah(kR:Lo2)(n:Nat):EO Bool:=
 (cT (c2 yF (gv 0) (gb 1)))
abbrev zai(kR:Lo2)(n:Nat):EO D:=
 (gv 0)
abbrev zaB(kR:Lo2)(n:Nat):EO Fl:=
 (zN 1 (c2 qE (gb 1) (jC [none,some 1] (cI (cL kR (zA (gv 2) zC))) (gN 0) (zah kR n) (zai kR n))))
abbrev zco(kR:Lo2)(n:Nat):EO Fl:=
 (zG (ifM (upT (cT (c1 (kW "str") (gb 0)))) (zR (cL qC (zA (gv 0) zC))) nxM) (zG (zN 1 (cL qC zC)) (zG (jQ (cI (cS kB (gb 0) (jU (cst (.int 1))) kG)) (gN 2) (zaB kR n)) (zR (gv 1)))))
def zaa:Nat->Lo2
 |0=>λ_=>none
 |n+1=>qO (zco (zaa n) zJ) 1 3
def kR:Lo2:=zaa 100
theorem zjy(x y:Int):neB (.int x) (.int y)=some (.bl (!decide (x=y))):=by
 by_cases h:x=y
 ·subst h;simp[neB,eqD,dep]
 ·have h2:(x==y)=false:=by simpa using h
  simp[neB,eqD,dep,h,h2]
mutual
def bks:T->List Str
 | .bl x=>[x]
 | .nd _ ts=>jS [] ts
def jS(acc:List Str):List T->List Str
 |[]=>acc
 |t::ts=>jS (acc++(bks t).filter λx=>!decide (x∈acc)) ts
end
theorem zks{acc:List Str}(n:Nat)(hd:zU (acc.map D.str)<=100)(m:Lo2)(l:List Str):
  qM (gN 0) (zah m n) (zai m n) [none,some (.dat (.lst (acc.map D.str)))] (l.map D.str)=some ((l.filter λx=>!decide (x∈acc)).map D.str):=by
 have:=zds (g:=gN 0) (t:=zah m n) (f:=zai m n) (ρ:=[none,some (.dat (.lst (acc.map D.str)))]) (xs:=l.map D.str) (φ:=id)
  (p:=λx=>match x with| .str z=>!decide (z∈acc)|_=>false) (by intro x hx;obtain⟨z,_,rfl⟩:=List.mem_map.mp hx;have i1:=zcp z acc;exact⟨_,rfl,by simp! [i1,hd],λ_=>by simp[qO,qX,zG,zN,setO,vO,xR,yK,wV,xP,zR,yO,retN,ifM,upT,cT,cTr,vZ,xE,orP,yQ,wZ,orV,notV,c1,c2,cL,cS,zA,zC,cst,gv,gb,gN,jV,qV,kC,kG,jU,jC,qW,cI,cR1,cR2,wX,jQ,itS,wD,nJ,vE,wU,wJ,zcV,qT,qC,nxM,kW,tyN,wS,lim,kZ,qQ,wO,wE,gG,vY,vS,jB,zS,kB,zcP,qE,vC,xG,kQ,jI,qI,wI,xQ,geD,isB,vU,isNon,gA,wT,xV,xU,kK,wG,yD,zgd,yR,frzM,c3,zgz,zgB,zgA,cSg,vV,itS,Sl.inn,Sl.own,wP,eqB,neB,inB,yF,wN,zbO,zaW,zaV,zaU,xI,at0,at1,at2,at3]⟩)
 rw[this]
 congr 1
 rw[List.filter_map,List.map_id];rfl
mutual
theorem zeN:∀t:T,(bks t).length<=t.size
 | .bl x=>by simp[bks,T.size]
 | .nd s ts=>by have:=zeO ts [];simp[bks,T.size]at this ⊢;omega
theorem zeO:∀(ts:List T) (l:List Str),(jS l ts).length<=l.length+T.sizes ts
 |[],l=>by simp[jS]
 |t::ts,l=>by have h1:=zeO ts (l++(bks t).filter λx=>!decide (x∈l));have h2:=zeN t;have h3:=List.length_filter_le (λx=>!decide (x∈l)) (bks t);rw[List.length_append]at h1;rw[jS,T.sizes];omega
end
theorem zbl:∀(n:Nat) (t:T),t.depth<=n->t.size<=900000->zaa n [t.d]=some (.lst ((bks t).map D.str))
 |0,t,h,_=>by have:=zce t;omega
 |n+1,.bl x,h,_=>by simp! [zaa,kA,bks]
 |n+1,.nd s ts,h,hz=>by
  rw[T.depth]at h;rw[T.size]at hz;obtain⟨ρ',f1,k,rfl⟩:=xO (g:=gN 2) (b:=zaB (zaa n) zJ) (xs:=ts.map T.d) (ρ:=[some (.dat (.tup (.str s::ts.map T.d))),some (.dat (.lst [])),none])
   (λi ρ=>∃(k:Option Sl),ρ=[some (.dat (.tup (.str s::ts.map T.d))),some (.dat (.lst ((jS [] (ts.take i)).map D.str))),k]) ⟨none,by simp[jS]⟩ (by
    rintro i x ρ hx ⟨k,rfl⟩;rw[List.getElem?_map]at hx;cases e:ts[i]? with
    |none=>rw[e]at hx;cases hx
    |some t=>
     rw[e]at hx;cases hx
     have hi:i<ts.length:=(List.getElem?_eq_some_iff.mp e).1;have et:ts[i]=t:=by rw[List.getElem?_eq_getElem hi]at e;exact Option.some.inj e
     have hm:=List.mem_of_getElem? e;have d1:=nU hm;have d2:=gE hm;have e1:=zbl n t (by omega) (by omega);have tk:ts.take (i+1)=ts.take i++[t]:=by rw[List.take_succ_eq_append_getElem hi,et]
     have e5:jS [] (ts.take (i+1))=jS [] (ts.take i)++(bks t).filter λx=>!decide (x∈jS [] (ts.take i)):=by
      have app:∀(a b:List T) (l:List Str),jS l (a++b)=jS (jS l a) b:=by
       intro a;induction a with
       |nil=>intro b l;simp[jS]
       |cons c a ih=>intro b l;rw[List.cons_append,jS,jS,ih]
      rw[tk,app,jS,jS]
     have l1:=zeO (ts.take i) [];have e6:T.sizes (ts.take i)+t.size<=T.sizes ts:=by
      have:T.sizes ts=T.sizes (ts.take (i+1))+T.sizes (ts.drop (i+1)):=by rw[←xH,List.take_append_drop]
      rw[tk,xH]at this;simp only[T.sizes]at this;omega
     have l2:=zeN t;rw[e5];generalize jS [] (ts.take i)=acc at l1 ⊢;have dd:=zbD acc;have cf:=zks (acc:=acc) zJ (by omega) (zaa n) (bks t);have l3:=List.length_filter_le (λx=>!decide (x∈acc)) (bks t);simp only[List.length_nil,Nat.zero_add]at l1;have z0:(bks t).length<=1000000:=by omega
     generalize hB:((bks t).filter λx=>!decide (x∈acc))=B at cf l3 ⊢;have z1:acc.length+B.length<=1000000:=by omega
     refine⟨[some (.dat (.tup (.str s::ts.map T.d))),some (.dat (.lst ((acc++B).map D.str))),some (.dat t.d)],.inl ?_,_,rfl⟩
     simp! [e1,cf,z0,z1])
  rw[List.length_map,List.take_length]at f1
  simp! [zaa,jE,cut1,f1,bks]
mutual
theorem zmJ{ps:SI}{bs:List Str}:∀t:T,WT ps bs t->∀x∈bks t,x∈bs
 | .bl y,h,x,hx=>by simp[bks]at hx;subst hx;cases h with|bl h=>exact h
 | .nd s ts,h,x,hx=>by
  cases h with
  |nd h hs=>
   rw[bks]at hx;rcases zkK ts hs [] x hx with h|h
   ·cases h
   ·exact h
theorem zkK{ps:SI}{bs:List Str}:∀ts:List T,(∀t∈ts,WT ps bs t)->∀(l:List Str) (x:Str),x∈jS l ts->x∈l\/x∈bs
 |[],h,l,x,hx=>by rw[jS]at hx;exact .inl hx
 |t::ts,h,l,x,hx=>by
  rw[jS]at hx;rcases zkK ts (λu hu=>h u (List.mem_cons_of_mem _ hu)) _ x hx with h1|h1
  ·rcases List.mem_append.mp h1 with h2|h2
   ·exact .inl h2
   ·exact .inr (zmJ t (h t (by simp)) x (List.mem_filter.mp h2).1)
  ·exact .inr h1
end
abbrev zbH(n:Nat):EO Fl:=
 (ifM (upT (xE (cT (cL zao (zA (gv 3) zC))) (cT (c2 yF (gv 3) (gb 1))))) (xP (vE 1 (gv 3))) nxM)
abbrev zfr(n:Nat):EO Fl:=
 (zG (setO 1 (cL qC zC)) (zG (jQ (cI (cL zad (zA (gv 0) zC))) (kC (qV (gN 2) (qV (gN 3) jV))) (zbH n)) (yO 1)))
def zaA:Lo2:=qO (zfr zJ) 1 4
mutual
def vs:T->List Str
 | .bl x=>[x]
 | .nd _ ts=>vsL ts
def vsL:List T->List Str
 |[]=>[]
 |t::r=>vs t++vsL r
end
theorem zcl{x:Str}:∀{ts:List T},x∈vsL ts↔∃t∈ts,x∈vs t
 |[]=>by simp[vsL]
 |t::r=>by simp[vsL,List.mem_append,zcl (ts:=r)]
mutual
theorem zcv{x:Str}:∀t:T,x∈bks t↔x∈vs t
 | .bl y=>by simp[bks,vs]
 | .nd s ts=>by rw[bks,vs,zhD ts];simp
theorem zhD{x:Str}:∀(ts:List T) (l:List Str),x∈jS l ts↔x∈l\/x∈vsL ts
 |[],l=>by simp[jS,vsL]
 |t::r,l=>by rw[jS,zhD r,List.mem_append,List.mem_filter,zcv t,vsL,List.mem_append];by_cases h:x∈l<;>simp[h]
end
section
variable{a b:T}{φ:Fil}{W:List (T×T)}{w:T×T}
end
def ded(l:List Str):List Str:=l.foldl (λacc x=>if x∈acc then acc else acc++[x]) []
def kJ(acc l:List Str):List Str:=l.foldl (λacc x=>if x∈acc then acc else acc++[x]) acc
theorem zhz{x:Str}:∀(l acc:List Str),x∈kJ acc l↔x∈acc\/x∈l
 |[],acc=>by simp[kJ]
 |y::l,acc=>by
  have ih:=zhz (x:=x) l (if y∈acc then acc else acc++[y]);unfold kJ at ih ⊢;rw[List.foldl_cons,ih];by_cases h:y∈acc
  ·rw[if_pos h];constructor
   ·rintro(h1|h1)
    ·exact .inl h1
    ·exact .inr (List.mem_cons_of_mem _ h1)
   ·rintro(h1|h1)
    ·exact .inl h1
    ·rcases List.mem_cons.mp h1 with rfl|h1
     ·exact .inl h
     ·exact .inr h1
  ·rw[if_neg h];simp[or_assoc]
theorem zeG:∀(l acc:List Str),(kJ acc l).length<=acc.length+l.length
 |[],acc=>by simp[kJ]
 |y::l,acc=>by
  have ih:=zeG l (if y∈acc then acc else acc++[y]);unfold kJ at ih ⊢;rw[List.foldl_cons,List.length_cons];by_cases h:y∈acc
  ·rw[if_pos h]at ih ⊢;omega
  ·rw[if_neg h]at ih ⊢;rw[List.length_append,List.length_singleton]at ih;omega
def blp:List (List Int×T)->List Str
 |[]=>[]
 |(_,.bl x)::r=>x::blp r
 |(_,.nd _ _)::r=>blp r
theorem zeM:∀a b:List (List Int×T),blp (a++b)=blp a++blp b
 |[],b=>by simp[blp]
 |(_,.bl x)::r,b=>by rw[List.cons_append,blp,blp,zeM r b,List.cons_append]
 |(_,.nd _ _)::r,b=>by rw[List.cons_append,blp,blp,zeM r b]
mutual
theorem zee(p:List Int):∀t:T,blp (qG p t)=vs t
 | .bl x=>by simp[qG,blp,vs]
 | .nd s ts=>by rw[qG,blp,zdx p 0 ts,vs]
theorem zdx(p:List Int):∀(k:Nat) (ts:List T),blp (jL p k ts)=vsL ts
 |_,[]=>by simp[jL,blp,vsL]
 |k,t::r=>by rw[jL,zeM,zee (p++[(k:Int)]) t,zdx p (k+1) r,vsL]
end
theorem zgL:∀l:List (List Int×T),(blp l).length<=l.length
 |[]=>by simp[blp]
 |(_,.bl x)::r=>by have:=zgL r;simp[blp];exact this
 |(_,.nd _ _)::r=>by have:=zgL r;simp[blp];omega
theorem zdq(t:T)(hz:t.size<=900000):zaA [t.d]=some (.lst ((ded (vs t)).map D.str)):=by
 have pp:=zbL t hz;have hl:=zaF [] t;obtain⟨ρ',f1,k2,k3,rfl⟩:=xO (g:=kC (qV (gN 2) (qV (gN 3) jV))) (b:=zbH zJ) (xs:=(qG [] t).map pd) (ρ:=[some (.dat t.d),some (.own (.lst [])),none,none])
  (λi ρ=>∃k2 k3:Option Sl,ρ=[some (.dat t.d),some (.own (.lst ((kJ [] (blp ((qG [] t).take i))).map D.str))),k2,k3]) ⟨none,none,by simp[kJ,blp]⟩ (by
   rintro i x ρ hx ⟨k2,k3,rfl⟩;rw[List.getElem?_map]at hx;cases e:(qG [] t)[i]? with
   |none=>rw[e]at hx;cases hx
   |some q=>
    rw[e]at hx;cases hx
    have hi:i<(qG [] t).length:=(List.getElem?_eq_some_iff.mp e).1;have eq:(qG [] t)[i]=q:=by rw[List.getElem?_eq_getElem hi]at e;exact Option.some.inj e
    have tk:(qG [] t).take (i+1)=(qG [] t).take i++[q]:=by rw[List.take_succ_eq_append_getElem hi,eq]
    have l1:=zeG (blp ((qG [] t).take i)) [];have l2:=zgL ((qG [] t).take i);rw[List.length_take]at l2;simp only[List.length_nil,Nat.zero_add]at l1;obtain⟨p,u⟩:=q;have ib:=zaK u;rw[tk,zeM];generalize hacc:kJ [] (blp ((qG [] t).take i))=acc at l1;have da:kJ [] (blp ((qG [] t).take i)++blp [(p,u)])=kJ acc (blp [(p,u)]):=by rw[←hacc];unfold kJ;rw[List.foldl_append]
    rw[da];cases u with
    |nd s ts=>
     simp only[T.isBl]at ib;refine⟨[some (.dat t.d),some (.own (.lst ((kJ acc (blp [(p,T.nd s ts)])).map D.str))),some (.dat (.tup (p.map D.int))),some (.dat (T.nd s ts).d)],.inl ?_,_,_,rfl⟩
     simp! [pd,ib,blp,kJ]
    |bl y=>
     simp only[T.isBl]at ib;have i1:=zcp y acc;have dd:=zbD acc;have dz:zU (acc.map D.str)<=100:=by omega
     rw[kA]at ib;refine⟨[some (.dat t.d),some (.own (.lst ((kJ acc (blp [(p,T.bl y)])).map D.str))),some (.dat (.tup (p.map D.int))),some (.dat (.str y))],.inl ?_,_,_,rfl⟩;by_cases hy:y∈acc
     ·simp! [pd,kA,ib,blp,kJ,i1,dz,hy]
     ·have z1:acc.length<1000000:=by omega
      simp! [pd,kA,ib,blp,kJ,i1,dz,hy,z1])
 rw[List.length_map,List.take_length,zee]at f1;have e0:kJ [] (vs t)=ded (vs t):=rfl;rw[e0]at f1
 simp! [zaA,pp,f1]
theorem znQ{x:Str}(l:List Str):x∈ded l↔x∈l:=by have e:ded l=kJ [] l:=rfl;rw[e,zhz];simp
theorem zob{ps:SI}{bs:List Str}{t:T}(h:WT ps bs t):∀x∈vs t,x∈bs:=λx hx=>zmJ t h x ((zcv t).mpr hx)
theorem zof{ts:List T}{i:Nat}{n:T}{x:Str}(h:x∈vsL (ts.set i n)):x∈vsL ts\/x∈vs n:=by
 rw[zcl]at h;obtain⟨t,ht,hx⟩:=h;rcases List.mem_or_eq_of_mem_set ht with h1|h1
 ·exact .inl (zcl.mpr ⟨t,h1,hx⟩)
 ·subst h1;exact .inr hx
theorem zgQ:∀(p:List Int) (t n:T) (x:Str),x∈vs (jK t p n)->x∈vs t\/x∈vs n
 |[],t,n,x,h=>by rw[zbY]at h;exact .inr h
 |k::p,.bl y,n,x,h=>by simp only[jK]at h;exact .inl h
 |k::p,.nd s ts,n,x,h=>by
  simp only[jK]at h;cases e:ts[k.toNat]? with
  |none=>rw[e]at h;exact .inl h
  |some c=>
   rw[e]at h;simp only[vs]at h ⊢;rcases zof h with h1|h1
   ·exact .inl h1
   ·rcases zgQ p c n x h1 with h2|h2
    ·exact .inl (zcl.mpr ⟨c,List.mem_of_getElem? e,h2⟩)
    ·exact .inr h2
theorem zha(b:Str):∀k:Nat,T.sizes (List.replicate k (T.bl b))=k/\T.depths (List.replicate k (T.bl b))<=1
 |0=>by simp[T.sizes,T.depths]
 |k+1=>by have:=zha b k;rw[List.replicate_succ,T.sizes,T.depths];simp only[T.size,T.depth];omega
abbrev zaE(n:Nat):EO Fl:=
 (ifM (andM (upT (yQ (cT (cL zao (zA (gv 5) zC))))) (cmpX neB (sdfM 1 (c2 zS (gb 5) (cst (.int 0))) (cL jB (zA (gb 5) zC))) (cL jB (zA (gb 5) zC)))) (xP (vE 2 (c2 zS (gb 5) (cst (.int 0))))) nxM)
abbrev zaD(n:Nat):EO Fl:=
 (jQ (cI (cL zad (zA (gv 3) zC))) (kC (qV (gN 4) (qV (gN 5) jV))) (zaE n))
abbrev zcF(n:Nat):EO Fl:=
 (zG (setO 1 (cst (.dic [] []))) (zG (setO 2 (cL qC zC)) (zG (jQ (cI (gv 0)) (gN 3) (zaD n)) (yO 2))))
def gL:Lo2:=qO (zcF zJ) 1 6
abbrev zcC(n:Nat):EO D:=
 (c2 inB (gv 0) (gb 1))
abbrev zhV(n:Nat):EO Fl:=
 (zG (ifM (upT (cT (cL zao (zA (gv 0) zC)))) (zR (cst (.bl false))) nxM) (zG (zN 2 (cL zaA (zA (gv 0) zC))) (zR (cL allD (zA (jC [none,some 2] (cI (cL zaA (zA (gv 1) zC))) (gN 0) qW (zcC n)) zC)))))
def wR:Lo2:=qO (zhV zJ) 2 3
abbrev zch(n:Nat):EO D:=
 (gv 1)
abbrev zgm(n:Nat):EO Fl:=
 (zR (zfH [none,none] (cI (gv 0)) (gN 0) (cI (gv 0)) (gN 1) (zch n)))
def wQ:Lo2:=qO (zgm zJ) 1 1
def rD(r:T×T):D:=.tup [r.1.d,r.2.d]
mutual
theorem zdO:∀(t:T) (p:List Int),(qG p t).map (·.1)=(plc t).map (p++·)
 | .bl x,p=>by simp[qG,plc]
 | .nd s ts,p=>by rw[qG,plc,List.map_cons,List.map_cons,zcY ts p 0,List.append_nil]
theorem zcY:∀(ts:List T) (p:List Int) (k:Nat),(jL p k ts).map (·.1)=(jH k ts).map (p++·)
 |[],p,k=>by simp[jL,jH]
 |t::r,p,k=>by
  rw[jL,jH,List.map_append,List.map_append,zdO t,zcY r p (k+1),List.map_map]
  congr 1
  apply List.map_congr_left;intro q _;simp
end
theorem zoK(t:T):plc t=(qG [] t).map (·.1):=by rw[zdO t []];simp
theorem zgh(t:T):(qG [] t).length=t.size:=by rw[←gJ t,zoK t,List.length_map]
theorem zgg{t:T}{q:List Int×T}(h:q∈qG [] t):qB t q.1=some q.2:=zfl t [] t (by cases t<;>rfl) q h
theorem zgO{ps:SI}{bs:List Str}:∀(p:List Int) (t u:T),qB t p=some u->WT ps bs t->WT ps bs u
 |[],t,u,h,w=>by
  have:some t=some u:=by cases t<;>simpa[qB]using h
  cases this;exact w
 |k::p,t,u,h,w=>by
  obtain⟨s,ts,c,rfl,h0,e,h2⟩:=gK h;cases w with
  |nd hs hk=>exact zgO p c u h2 (hk c (List.mem_of_getElem? e))
mutual
theorem zmq:∀t:T,(vs t).length<=t.size
 | .bl x=>by simp[vs,T.size]
 | .nd s ts=>by rw[vs,T.size];have:=ziy ts;omega
theorem ziy:∀ts:List T,(vsL ts).length<=T.sizes ts
 |[]=>by simp[vsL,T.sizes]
 |t::r=>by rw[vsL,T.sizes,List.length_append];have:=zmq t;have:=ziy r;omega
end
theorem znM(rs:List (T×T))(hr:rs.length<=100):wQ [.lst (rs.map rD)]=some (.lst ((rs.flatMap λr=>[r.1,r.2]).map T.d)):=by
 have key:∀rs:List (T×T),vM (gN 0) (cI (gv 0)) (gN 1) (zch zJ) [none,none] (rs.map rD)=some ((rs.flatMap λr=>[r.1,r.2]).map T.d):=by
  intro rs;induction rs with
  |nil=>rfl
  |cons r rs ih=>
   rw[List.map_cons,vM,ih]
   simp! [rD,gZ,nP]
 have k:=key rs;have ln:((rs.flatMap λr=>[r.1,r.2]).map T.d).length<=1000000:=by
  have:∀rs:List (T×T),(rs.flatMap λr=>[r.1,r.2]).length=2*rs.length:=by
   intro rs;induction rs with
   |nil=>rfl
   |cons r rs ih=>rw[List.flatMap_cons,List.length_append,ih];simp;omega
  rw[List.length_map,this];omega
 generalize ((rs.flatMap λr=>[r.1,r.2]).map T.d)=SS at k ln ⊢;have k':vM (gN 0) (cI (gv 0)) (gN 1) (gv 1) [none,none] (rs.map rD)=some SS:=k
 simp! [wQ,zfH,k',ln]
abbrev Cnt:=SI
def cks(C:Cnt):List KD:=C.map λp=>KD.str p.1
def cds(C:Cnt):List D:=C.map λp=>D.int p.2
noncomputable def jW(C:Cnt)(x:Str):Option Int:=(C.find? λp=>decide (p.1=x)).map (·.2)
theorem zqc(C:Cnt):kOk (cks C)=true:=by unfold kOk cks;rw[List.all_map];exact List.all_eq_true.mpr λp _=>rfl
theorem zmE(x:Str):∀C:Cnt,yX (cks C) (cds C) (.str x)=(jW C x).map D.int
 |[]=>by simp[yX,cks,jW]
 |(y,t)::C=>by
  have ih:=zmE x C;by_cases h:y=x
  ·subst h;simp[yX,cks,cds,jW]
  ·have h':¬KD.str y=KD.str x:=λz=>h (by cases z;rfl)
   simp only[yX,cks,cds,jW,List.map_cons,List.zip_cons_cons,List.find?_cons,h,h',decide_false]at ih ⊢;exact ih
theorem zmb{C:Cnt}{x:Str}{k:Int}(h:jW C x=some k):(x,k)∈C:=by
 unfold jW at h;cases e:C.find? λp=>decide (p.1=x)with
 |none=>rw[e]at h;cases h
 |some q=>
  rw[e]at h;cases h
  have h1:=List.find?_some e;have h2:=List.mem_of_find?_eq_some e;simp at h1;rw[←h1];exact h2
theorem zkq{C:Cnt}{x:Str}(h:jW C x=none):x∉C.map (·.1):=by intro hx;obtain⟨q,hq,rfl⟩:=List.mem_map.mp hx;unfold jW at h;rw[Option.map_eq_none_iff,List.find?_eq_none]at h;exact h q hq (by simp)
theorem cput{C:Cnt}{x:Str}(h:jW C x=none)(k:Int):vL (cks C) (cds C) (.str x) (.int k)=(cks (C++[(x,k)]),cds (C++[(x,k)])):=by
 have hn:=zkq h;have ha:((cks C).any λy=>decide (y=KD.str x))=false:=by rw[List.any_eq_false];intro y hy;obtain⟨q,hq,rfl⟩:=List.mem_map.mp hy;simp only[decide_eq_true_eq,KD.str.injEq];intro z;exact hn (List.mem_map.mpr ⟨q,hq,z⟩)
 unfold vL;rw[ha];simp[cks,cds]
theorem WT.put{ps:SI}{bs:List Str}{n:T}(hn:WT ps bs n):∀(p:List Int) (t u:T),qB t p=some u->WT ps bs t->WT ps bs (jK t p n)
 |[],t,u,_,_=>by rw[zbY];exact hn
 |k::p,t,u,h,w=>by
  obtain⟨s,ts,c,rfl,h0,e,h2⟩:=gK h;rw[ziZ e];cases w with
  |nd hs hk=>
   have ih:=WT.put hn p c u h2 (hk c (List.mem_of_getElem? e));refine .nd (by rw[List.length_set];exact hs) λt ht=>?_
   rcases List.mem_or_eq_of_mem_set ht with h1|h1
   ·exact hk t h1
   ·rw[h1];exact ih
theorem WT.mono{ps:SI}{bs cs:List Str}(hb:∀x∈bs,x∈cs){t:T}(h:WT ps bs t):WT ps cs t:=by
 induction h with
 |bl hx=>exact .bl (hb _ hx)
 |nd hs _ ih=>exact .nd hs ih
theorem zhj{α β:Type}{l:List α}(f:α->β)(h:∀(i j:Nat) x y,l[i]?=some x->l[j]?=some y->f x=f y->i=j):l.Nodup:=by
 rw[List.nodup_iff_pairwise_ne,List.pairwise_iff_getElem];intro i j hi hj hij e
 have:=h i j l[i] l[j] (List.getElem?_eq_getElem hi) (List.getElem?_eq_getElem hj) (by rw[e]);omega
theorem zkR(z:Str)(k:Nat)(hk:k<=z.length):(Txt.slice z none (some (k:Int))).length=k:=by
 have hz:Builtin.Str.strSliceIndices none (some (k:Int)) 1 z.length=List.range k:=by
  unfold Builtin.Str.strSliceIndices sliceRange;simp only[show(1:Int)>0 by decide,if_true];have e1:¬((k:Int)<0):=by omega
  simp only[e1,if_false];have e2:max 0 (min (k:Int) (z.length:Int))=(k:Int):=by omega
  rw[e2];by_cases h0:(0:Int)<(k:Int)
  ·rw[if_pos h0];have e3:(((k:Int) - 0+1 - 1)/1).toNat=k:=by omega
   rw[e3]
   conv=>rhs;rw[←List.map_id (List.range k)]
   apply List.map_congr_left;intro a _;simp
  ·have:k=0:=by omega
   subst this;simp
 unfold Txt.slice;rw[hz];split
 ·rename_i h;simp at h;exact h.symm
 ·show(List.filterMap _ (List.range k)).toArray.size=k;rw[List.size_toArray];have key:∀l:List Nat,(∀a∈l,a<z.cps.size)->(l.filterMap λx=>z.cps[x]?).length=l.length:=by
   intro l;induction l with
   |nil=>intro _;rfl
   |cons a l ih=>
    intro h;have ha:=h a (by simp);rw[List.filterMap_cons,Array.getElem?_eq_getElem ha,List.length_cons,List.length_cons,ih λb hb=>h b (List.mem_cons_of_mem _ hb)]
  rw[key _ λa ha=>by have:=List.mem_range.mp ha;have:z.length=z.cps.size:=rfl;omega,List.length_range]
theorem zgV:∀(ys:List Str),(∀y∈ys,y.length=1)->(ys.map (·.length)).sum=ys.length
 |[],_=>rfl
 |y::ys,h=>by rw[List.map_cons,List.sum_cons,h y (by simp),zgV ys λz hz=>h z (List.mem_cons_of_mem _ hz),List.length_cons];omega
theorem zgN:(Str.ofString "abcdefghijklmnopqrstuvwxyz").cps.toList.Nodup:=by decide+kernel
theorem zid{a b:Int}{c:Nat}(h1:atI (Str.ofString "abcdefghijklmnopqrstuvwxyz").cps.toList (a%26)=some c)(h2:atI (Str.ofString "abcdefghijklmnopqrstuvwxyz").cps.toList (b%26)=some c):a%26=b%26:=by
 have a0:0<=a%26:=Int.emod_nonneg _ (by decide);have a1:a%26<26:=Int.emod_lt_of_pos _ (by decide);have b0:0<=b%26:=Int.emod_nonneg _ (by decide);have b1:b%26<26:=Int.emod_lt_of_pos _ (by decide);rw[wY a0 (by rw[alen];exact_mod_cast a1)]at h1;rw[wY b0 (by rw[alen];exact_mod_cast b1)]at h2
 have:=(List.getElem?_inj (by rw[alen];omega) zgN).mp (h1.trans h2.symm);omega
theorem zmU{A B:Str}{c c':Nat}(h:A++⟨#[c]⟩++B=A++⟨#[c']⟩++B):c=c':=by
 have h1:=congrArg (λz:Str=>z.cps.toList) h;have e:∀a b:Str,(a++b).cps.toList=a.cps.toList++b.cps.toList:=λa b=>by show(a.cps++b.cps).toList=_;simp
 simp only[e]at h1;simpa using h1
theorem zqe{ps:SI}{bs:List Str}{w x:Str}{k:Int}(h:(w,k)∈ps)(h0:0<=k)(hx:x∈bs):WT ps bs (.nd w (List.replicate k.toNat (.bl x))):=by
 have e:((k.toNat:Nat):Int)=k:=by omega
 refine .nd (by rw[List.length_replicate,e];exact h) λt ht=>?_
 rw[(List.mem_replicate.mp ht).2];exact .bl hx
theorem znN(ps:SI)(bs:List Str)(S:nW ps)(l:T)(hl:l.isBl=false)(hw:WT ps bs l)(hz:l.size<=7)(hd:l.depth<=5)(kd sp a b:Int)(k0:0<=kd)(k3:kd<3)(s0:0<=sp):
  ∃(r:T) (p:List Int),atI ((plc l).map pD) (sp%(l.size:Int))=some (pD p)/\(∀x∈vs r,x∈vs l)/\WT ps bs r/\r.size<=40/\r.depth<=12/\
   ((kd=0/\xX [l.d,pD p]=some r.d)\/
    (∃(z a' b' a2 b2:Int) (ns:List Int) (q:T),yG (jN a b) [.int 4]=some (.int z,jN a' b')/\0<=z/\z<4/\vB (gN 0) (kK yG 1 (zA (cst (.int 4800)) zC)) [none,some (.bor (jN a' b'))] 1 (jN a' b') (jJ 0 (1+z).toNat)=some (ns.map D.int,jN a2 b2)/\gO [.lst (ns.map D.int),.lst (ps.map sd),.lst ((bks l).map D.str),.int 2]=some q.d/\((kd=1/\r=q)\/(kd=2/\vQ [l.d,pD p,q.d]=some r.d)))):=by
 have lp:=gJ l;have sz:=nH l;have q0:0<=sp%(l.size:Int):=Int.emod_nonneg _ (by omega);have q1:sp%(l.size:Int)<(l.size:Int):=Int.emod_lt_of_pos _ (by omega);obtain⟨p,hp⟩:∃p,(plc l)[(sp%(l.size:Int)).toNat]?=some p:=⟨_,List.getElem?_eq_getElem (by omega)⟩;have ap:atI ((plc l).map pD) (sp%(l.size:Int))=some (pD p):=by rw[wY q0 (by rw[List.length_map,lp];exact q1),List.getElem?_map,hp];rfl
 obtain⟨u,hu⟩:=zhe l p (List.mem_of_getElem? hp);have uz:=zaS p l u hu;have ud:=zcB p l u hu;have pl:=zaT p l u hu;by_cases h0:kd=0
 ·refine⟨u,p,ap,λx hx=>?_,zgO p l u hu hw,by omega,by omega,.inl ⟨h0,zkk l u p hu⟩⟩
  have:=zgQ p l u x;have hs:∀(p:List Int) (t u:T),qB t p=some u->∀x∈vs u,x∈vs t:=by
   intro p;induction p with
   |nil=>
    intro t u h x hx
    have:some t=some u:=by cases t<;>simpa[qB]using h
    cases this;exact hx
   |cons k p ih=>
    intro t u h x hx;obtain⟨s,ts,c,rfl,h0,e,h2⟩:=gK h;rw[vs,zcl];exact⟨c,List.mem_of_getElem? e,ih c u h2 x hx⟩
  exact hs p l u hu x hx
 ·obtain⟨z,a',b',t1,z0,z4⟩:=zfF a b 4 (by decide) (by decide);obtain⟨ns,a2,b2,g1,g2⟩:=zbV zJ (some (.bor (jN a' b'))) (jJ 0 (1+z).toNat) a' b';rw[jZ]at g2;have bl:=zeN l;obtain⟨q,m1,m2,m3,mW⟩:=zki ns ps (bks l) 2 S (by omega) (by decide) (by decide) (by omega) (by omega);have bm:∀x∈bks l,x∈bs:=λx hx=>zob hw x ((zcv l).mp hx)
  have mW':WT ps bs q:=mW.mono bm;have vq:∀x∈vs q,x∈vs l:=λx hx=>(zcv l).mp (zob mW x hx)
  by_cases h1:kd=1
  ·exact⟨q,p,ap,vq,mW',by omega,by omega,.inr ⟨z,a',b',a2,b2,ns,q,t1,z0,z4,g1,m1,.inl ⟨h1,rfl⟩⟩⟩
  ·have pt:vQ [l.d,pD p,q.d]=some (jK l p q).d:=zhw 100 p l u q (by omega) (by omega) hu (by omega)
   have:=zbX p l q
   have:=zdM p l q;refine⟨jK l p q,p,ap,λx hx=>?_,WT.put mW' p l u hu hw,by omega,by omega,.inr ⟨z,a',b',a2,b2,ns,q,t1,z0,z4,g1,m1,.inr ⟨by omega,pt⟩⟩⟩;rcases zgQ p l q x hx with h|h
   ·exact h
   ·exact vq x h
theorem zhv:∀rs:List (T×T),eqL (rs.map rD) (rs.map rD)=some true
 |[]=>by simp[eqL]
 |r::rs=>by simp[eqL,rD,eqD,zkc r.1,zkc r.2,zhv rs]
theorem yT(t:T):t.depth<=t.size:=by
 have key:∀n (t:T),t.size<=n->t.depth<=t.size:=by
  intro n;induction n with
  |zero=>intro t h;have:=nH t;omega
  |succ n ih=>
   intro t h;cases t with
   |bl x=>simp[T.depth,T.size]
   |nd s ts=>
    rw[T.size]at h
    have:∀l:List T,T.sizes l<=n->T.depths l<=T.sizes l:=by
     intro l;induction l with
     |nil=>intro _;simp[T.depths]
     |cons t l ihl=>intro h;rw[T.sizes]at h;have:=ih t (by omega);have:=ihl (by omega);rw[T.depths,T.sizes];omega
    have:=this ts (by omega);rw[T.depth,T.size];omega
 exact key _ t (Nat.le_refl _)
def lows:List Nat:=(Str.ofString "abcdefghijklmnopqrstuvwxyz").cps.toList
def ups:List Nat:=(Str.ofString "ABCDEFGHIJKLMNOPQRSTUVWXYZ").cps.toList
def xT(x:Str):Prop:=∀c∈x.cps.toList,c∈lows
def Lo(x:Str):Prop:=1<=x.length/\xT x
def Up(x:Str):Prop:=∃c,x=⟨#[c]⟩/\c∈ups
theorem zjG{a b:Str}(h:xT a)(k:xT b):xT (a++b):=λc hc=>by
 have e:(a++b).cps.toList=a.cps.toList++b.cps.toList:=by show(a.cps++b.cps).toList=_;simp
 rw[e]at hc;rcases List.mem_append.mp hc with z|z
 ·exact h c z
 ·exact k c z
theorem zeB{z:Str}(h:xT z)(a b:Option Int):xT (Txt.slice z a b):=λc hc=>by
 unfold Txt.slice at hc;split at hc
 ·exact h c hc
 ·have hc':c∈((Builtin.Str.strSliceIndices a b 1 z.length).filterMap (z.cps[·]?)):=by simpa using hc
  obtain⟨i,_,e⟩:=List.mem_filterMap.mp hc';exact h c (by rw[Array.mem_toList_iff];exact Array.mem_of_getElem? e)
theorem zjE{n:Int}{c:Nat}(h:atI (Str.ofString "abcdefghijklmnopqrstuvwxyz").cps.toList n=some c):xT ⟨#[c]⟩:=λb hb=>by
 have:b=c:=by simpa using hb
 subst this;unfold atI at h;cases e:ixN (Str.ofString "abcdefghijklmnopqrstuvwxyz").cps.toList.length n with
 |none=>rw[e]at h;cases h
 |some j=>rw[e]at h;exact List.mem_of_getElem? h
theorem zjF:∀(l:List Str) (acc:Array Nat),(∀c∈acc,c∈lows)->(∀y∈l,xT y)->∀c∈l.foldl (λacc p=>acc++(Str.ofString "").cps++p.cps) acc,c∈lows
 |[],acc,h,_,c,hc=>h c hc
 |y::l,acc,h,k,c,hc=>by
  rw[List.foldl_cons]at hc;refine zjF l _ (λd hd=>?_) (λz hz=>k z (List.mem_cons_of_mem _ hz)) c hc;have e0:(Str.ofString "").cps=#[]:=by decide+kernel
  rw[e0]at hd;rcases Array.mem_append.mp hd with z|z
  ·exact h d (by simpa using z)
  ·exact k y (by simp) d (by rw[Array.mem_toList_iff];exact z)
theorem znB{ys:List Str}(h:∀y∈ys,xT y):xT (Txt.join (Str.ofString "") ys):=λc hc=>by
 have hc':c∈(ys.drop 1).foldl (λacc p=>acc++(Str.ofString "").cps++p.cps) (ys.headD Str.empty).cps:=by rw[←Array.mem_toList_iff];exact hc
 refine zjF _ _ (λd hd=>?_) (λy hy=>h y (List.mem_of_mem_drop hy)) c hc';cases ys with
 |nil=>simp[Str.empty]at hd
 |cons y r=>exact h y (by simp) d (by rw[Array.mem_toList_iff];exact hd)
def LoS(m:Nat)(y:Str):Prop:=y.length<=m/\Lo y
theorem zkm(c:Int):∃bs:List Str,zat [.int c]=some (.lst (bs.map D.str))/\1<=bs.length/\bs.length<=4/\∀x∈bs,Up x:=by
 have h0:0<=c/26%4:=Int.emod_nonneg _ (by decide);have h4:c/26%4<4:=Int.emod_lt_of_pos _ (by decide);have hr:-4611686018427387904<=1+c/26%4/\1+c/26%4<4611686018427387904:=by omega
 obtain⟨bs,p1,p2,p3⟩:=zaY D.str (λ_ y=>Up y) (g:=gN 0) (f:=zbe zJ) (ρ:=[none,some (.dat (.str "ABCDEFGHIJKLMNOPQRSTUVWXYZ")),some (.dat (.int c))]) (xs:=jJ 0 (1+c/26%4).toNat) 0 (by
  intro i x hx;obtain⟨hi,rfl⟩:=wH hx;obtain⟨cc,hcc⟩:=zhm ALEN (c+7*(i:Int));have hu:cc∈ups:=by
   have h:=hcc;unfold atI at h;cases e:ixN (Str.ofString "ABCDEFGHIJKLMNOPQRSTUVWXYZ").cps.toList.length ((c+7*(i:Int))%26)with
   |none=>rw[e]at h;cases h
   |some j=>rw[e]at h;exact List.mem_of_getElem? h
  refine⟨_,⟨#[cc]⟩,rfl,?_,cc,rfl,hu⟩
  simp! [zrt,hcc])
 rw[jZ]at p2;refine⟨bs,?_,by omega,by omega,λy hy=>by obtain⟨i,hi⟩:=List.mem_iff_getElem?.mp hy;exact p3 i y hi⟩;have hz:(1+c/26%4).toNat<=1000000:=by omega
 simp! [zat,hr,p1,hz,jZ]
def OkW(x:Str):Prop:=x.length<=16/\∀c∈x.cps.toList,c<16^8
theorem zmy{x:Str}(h:Lo x)(hl:x.length<=16):OkW x:=⟨hl,λc hc=>by
 have k:∀c∈lows,c<16^8:=by decide+kernel
 exact k c (h.2 c hc)⟩
theorem zpj{x:Str}(h:Up x):OkW x:=by
 obtain⟨c,rfl,hc⟩:=h;have k:∀c∈ups,c<16^8:=by decide+kernel
 exact⟨by show 1<=16;decide,λb hb=>by
  have:b=c:=by simpa using hb
  rw[this];exact k c hc⟩
theorem zcH{x:Str}(h:OkW x):PyData.leavesShort 8 (.str x)=true:=by simp only[PyData.leavesShort,List.all_eq_true,decide_eq_true_eq];exact h.2
mutual
theorem ziN{ps:SI}{bs:List Str}(hp:∀p∈ps,OkW p.1)(hb:∀x∈bs,OkW x):∀t:T,WT ps bs t->plD t.d=true/\(pyD t.d).showable=true/\(pyD t.d).depth<=t.depth/\(pyD t.d).leavesShort 8=true/\(pyD t.d).weight+1<=18*t.size
 | .bl x,h=>by
  cases h with
  |bl h=>
   have k:=hb x h;have k2:x.cps.size<=16:=k.1;simp only[kA,plD,pyD,PyData.showable,PyData.depth,PyData.weight,zcH k,T.size,T.depth,true_and];omega
 | .nd s ts,h=>by
  cases h with
  |nd h hs=>
   have k:=hp _ h;have k2:s.cps.size<=16:=k.1;obtain⟨h1,h2,h3,h4,h5⟩:=ziM hp hb ts hs;simp only[jE,plD,wK,pyD,kH,PyData.showable,PyData.showableAll,PyData.depth,PyData.depthAll,PyData.weight,PyData.weightAll,PyData.leavesShortAll,zcH k,h1,h2,h4,T.size,T.depth,Bool.and_true,true_and];refine⟨by omega,?_,by omega⟩;rw[PyData.leavesShort,PyData.leavesShortAll,zcH k,h4];rfl
theorem ziM{ps:SI}{bs:List Str}(hp:∀p∈ps,OkW p.1)(hb:∀x∈bs,OkW x):∀ts:List T,(∀t∈ts,WT ps bs t)->wK (ts.map T.d)=true/\PyData.showableAll (kH (ts.map T.d))=true/\PyData.depthAll (kH (ts.map T.d))<=T.depths ts/\PyData.leavesShortAll 8 (kH (ts.map T.d))=true/\PyData.weightAll (kH (ts.map T.d))<=18*T.sizes ts
 |[],_=>by simp[wK,kH,PyData.showableAll,PyData.depthAll,PyData.leavesShortAll,PyData.weightAll,T.depths,T.sizes]
 |t::r,h=>by
  obtain⟨a1,a2,a3,a4,a5⟩:=ziN hp hb t (h t (by simp));obtain⟨h1,h2,h3,h4,h5⟩:=ziM hp hb r λu hu=>h u (by simp[hu])
  simp only[List.map_cons,wK,kH,PyData.showableAll,PyData.depthAll,PyData.leavesShortAll,PyData.weightAll,a1,a2,a4,h1,h2,h4,T.depths,T.sizes,Bool.and_true,true_and];exact⟨by omega,by omega⟩
end
theorem zox{d:D}{B:Nat}(h1:plD d=true)(h2:(pyD d).showable=true)(h3:(pyD d).depth<=100)(h4:(pyD d).leavesShort 8=true)(h5:(pyD d).weight<=B)(hB:B<=300000)(k:(∃x,d=.str x)\/(∃l,d=.tup l)\/∃l,d=.lst l):shD d=true:=by
 have h6:=PyData.shown_le 8 (by decide) (pyD d) h4;have h8:(pyD d).shown.length<=4000000:=by omega
 unfold shD;rw[h1,h2,decide_eq_true h3];rcases k with⟨x,rfl⟩|⟨l,rfl⟩|⟨l,rfl⟩
 ·simp only[pyD,PyData.weight]at h5
  have:x.length<=4000000:=by show x.cps.size<=4000000;omega
  simp[this]
 ·simp[h8]
 ·simp[h8]
theorem zlP(c:Int):∃ws:List Str,zar [.int c]=some (.lst (ws.map D.str))/\ws.length=5/\nle 16 ws/\ws.Nodup/\∀x∈ws,Lo x:=by
 obtain⟨n0,e0⟩:∃n0:Int,c*1000000007%1000000000000000000=n0:=⟨_,rfl⟩;have h7:0<=n0%7:=Int.emod_nonneg _ (by decide);have h7':n0%7<7:=Int.emod_lt_of_pos _ (by decide);obtain⟨ρ',e1,nb,bs,k,rfl,hb,hbl⟩:=xO (g:=gN 4) (b:=zbi zJ) (xs:=jJ 0 (n0%7).toNat) (ρ:=[some (.dat (.int c)),some (.dat (.str "abcdefghijklmnopqrstuvwxyz")),some (.dat (.int n0)),some (.dat (.str "")),none,none])
  (λi ρ=>∃(nb:Int) (bs:Str) (k:Option Sl),ρ=[some (.dat (.int c)),some (.dat (.str "abcdefghijklmnopqrstuvwxyz")),some (.dat (.int nb)),some (.dat (.str bs)),k,none]/\bs.length<=min i 7/\xT bs)
  ⟨n0,"",none,rfl,by rw[elen];omega,by intro c hc;exact absurd hc (by decide+revert+kernel)⟩ (by
   rintro i x ρ hx ⟨nb,bs,k,rfl,hb,hbl⟩;obtain⟨hi,rfl⟩:=wH hx;obtain⟨cc,hcc⟩:=zhm alen (nb/7);have hl:bs.length+1<=1000000:=by omega
   refine⟨[some (.dat (.int c)),some (.dat (.str "abcdefghijklmnopqrstuvwxyz")),some (.dat (.int (nb/11))),some (.dat (.str (bs++⟨#[cc]⟩))),some (.dat (.int (0+(i:Int)))),none],.inl ?_,_,_,_,rfl,?_,zjG hbl (zjE hcc)⟩
   ·simp! [zoa,hcc,len1,hl]
   ·rw[zdR,len1];omega)
 have hb6:bs.length<=7:=by omega
 have hz:bs.length<=1000000:=by omega
 have hp:(0:Int)<(bs.length:Int)+1:=by omega
 have hr7:-4611686018427387904<=n0%7/\n0%7<4611686018427387904:=by omega
 by_cases h3:nb%3=0
 ·obtain⟨ys,w1,w2,w3⟩:=zaY D.str (λ_ y=>y.length=1/\xT y) (g:=gN 0) (f:=zbq zJ) (ρ:=[none,some (.dat (.str "abcdefghijklmnopqrstuvwxyz")),some (.dat (.int nb))]) (xs:=jJ 0 6) 0 (by
   intro i x hx;obtain⟨hi,rfl⟩:=wH hx;rw[Int.zero_add];have hd:0<(3:Int)+(i:Int)*(i:Int):=by have:0<=(i:Int)*(i:Int):=Int.mul_nonneg (by omega) (by omega);omega
   have hd2:(3:Int)+(i:Int)*(i:Int)<1073741824:=by have:(i:Int)*(i:Int)<=6*6:=Int.mul_le_mul (by omega) (by omega) (by omega) (by decide);omega
   have hm:(-18446744073709551616<(i:Int)/\(i:Int)<18446744073709551616):=by omega
   obtain⟨cc,hcc⟩:=zhm alen (nb/(3+(i:Int)*(i:Int)));refine⟨_,⟨#[cc]⟩,rfl,?_,len1 cc,zjE hcc⟩
   simp! [zoa,hcc,hd,hd2,hm])
  rw[jZ]at w2;have w3':∀y∈ys,y.length=1/\xT y:=λy hy=>by obtain⟨i,hi⟩:=List.mem_iff_getElem?.mp hy;exact w3 i y hi
  have js6:(ys.map (·.length)).sum=6:=by rw[zgV ys λy hy=>(w3' y hy).1];exact w2
  have js:(ys.map (·.length)).sum<=6:=by omega
  have jl6:(Txt.join (Str.ofString "") ys).length=6:=by rw[zlw];exact js6
  have jall:=znB λy hy=>(w3' y hy).2
  have jo:jY (ys.map D.str)=some ys:=zbw ys;have jz:(ys.map (·.length)).sum+ys.length*(Str.ofString "").length<=16777216:=by rw[elen];omega
  obtain⟨zs,d1,d2,d4⟩:=zaY D.str (λi y=>LoS 16 y/\y.length=i+1) (g:=gN 0) (f:=zbp zJ) (ρ:=[none,some (.dat (.str (Txt.join (Str.ofString "") ys)))]) (xs:=jJ 0 5) 0 (by
   intro i x hx;obtain⟨hi,rfl⟩:=wH hx;have sl:=zkR (Txt.join (Str.ofString "") ys) (i+1) (by omega);rw[Int.natCast_add,Int.natCast_one]at sl;have hz2:(Txt.join (Str.ofString "") ys).length<=1000000:=by omega
   rw[Int.zero_add];refine⟨_,Txt.slice (Txt.join (Str.ofString "") ys) none (some ((i:Int)+1)),rfl,?_,⟨by omega,by omega,zeB jall _ _⟩,by rw[sl];omega⟩
   simp! [hz2])
  rw[jZ]at d2;have d5:∀y∈zs,LoS 16 y:=λy hy=>by obtain⟨i,hi⟩:=List.mem_iff_getElem?.mp hy;exact(d4 i y hi).1
  refine⟨zs,?_,d2,λy hy=>(d5 y hy).1,zhj (λy=>y.length) λi j x y hx hy e=>?_,λy hy=>(d5 y hy).2⟩
  rotate_left
  ·have h1:=(d4 i x hx).2;have h2:=(d4 j y hy).2;omega
  simp! [zar,e0,e1,h3,w1,d1,hz,hp,hr7,jZ,zlx,jo,jz,dep,eqD]
 ·obtain⟨zs,d1,d2,d4⟩:=zaY D.str (λi y=>LoS 16 y/\∃cc,atI (Str.ofString "abcdefghijklmnopqrstuvwxyz").cps.toList ((nb/5+5*(i:Int))%26)=some cc/\y=Txt.slice bs none (some (nb/7%((bs.length:Int)+1)))++⟨#[cc]⟩++Txt.slice bs (some (nb/7%((bs.length:Int)+1))) none) (g:=gN 0) (f:=zbo zJ) (ρ:=[none,some (.dat (.str bs)),some (.dat (.str "abcdefghijklmnopqrstuvwxyz")),some (.dat (.int (nb/7%((bs.length:Int)+1)))),some (.dat (.int nb))]) (xs:=jJ 0 5) 0 (by
   intro i x hx;obtain⟨hi,rfl⟩:=wH hx;rw[Int.zero_add,Nat.zero_add];obtain⟨cc,hcc⟩:=zhm alen (nb/5+5*(i:Int));have s1:=zeZ bs none (some (nb/7%((bs.length:Int)+1)));have s2:=zeZ bs (some (nb/7%((bs.length:Int)+1))) none;have l1:(Txt.slice bs none (some (nb/7%((bs.length:Int)+1)))).length+1<=1000000:=by omega
   have l2:(Txt.slice bs none (some (nb/7%((bs.length:Int)+1)))).length+1+(Txt.slice bs (some (nb/7%((bs.length:Int)+1))) none).length<=1000000:=by omega
   refine⟨_,Txt.slice bs none (some (nb/7%((bs.length:Int)+1)))++⟨#[cc]⟩++Txt.slice bs (some (nb/7%((bs.length:Int)+1))) none,rfl,?_,⟨by rw[zdR,zdR,len1];omega,by rw[zdR,zdR,len1];omega,zjG (zjG (zeB hbl _ _) (zjE hcc)) (zeB hbl _ _)⟩,cc,hcc,rfl⟩
   simp! [hz,zoa,hcc,len1,zdR,l1,l2])
  rw[jZ]at d2;have d5:∀y∈zs,LoS 16 y:=λy hy=>by obtain⟨i,hi⟩:=List.mem_iff_getElem?.mp hy;exact(d4 i y hi).1
  refine⟨zs,?_,d2,λy hy=>(d5 y hy).1,zhj id λi j x y hx hy e=>?_,λy hy=>(d5 y hy).2⟩
  rotate_left
  ·obtain⟨_,c1',a1,rfl⟩:=d4 i x hx;obtain⟨_,c2',a2,rfl⟩:=d4 j y hy;have i5:i<5:=by have:=(List.getElem?_eq_some_iff.mp hx).1;omega
   have j5:j<5:=by have:=(List.getElem?_eq_some_iff.mp hy).1;omega
   have ec:=zmU (show _++_++_=_++_++_ from e);subst ec
   have:=zid a1 a2;omega
  simp! [zar,e0,e1,h3,d1,hz,hp,hr7,jZ,dep,eqD]
theorem zlR(c:Int):∃ps:SI,zaC [.int c]=some (.lst (ps.map sd))/\nW ps/\(∀s k k',(s,k)∈ps->(s,k')∈ps->k=k')/\∀p∈ps,Lo p.1:=by
 obtain⟨ws,ew,wl,wn,wnd,wlo⟩:=zlP c;have h0:0<=c/3%4:=Int.emod_nonneg _ (by decide);have h4':c/3%4<4:=Int.emod_lt_of_pos _ (by decide);have h12:0<=c/12%4:=Int.emod_nonneg _ (by decide);have h12':c/12%4<4:=Int.emod_lt_of_pos _ (by decide);have hr:-4611686018427387904<=2+c/12%4/\2+c/12%4<4611686018427387904:=by omega
 obtain⟨cs,ecs,cl,cb,cf⟩:∃cs:List Int,atI [D.lst [.int 0,.int 2,.int 1,.int 0,.int 3],.lst [.int 0,.int 1,.int 2,.int 2,.int 0],.lst [.int 0,.int 3,.int 1,.int 1,.int 0],.lst [.int 0,.int 2,.int 0,.int 1,.int 1]] (c/3%4)=some (.lst (cs.map D.int))/\cs.length=5/\(∀n∈cs,0<=n/\n<=3)/\cs[0]?=some 0:=by
  rcases(by omega:c/3%4=0\/c/3%4=1\/c/3%4=2\/c/3%4=3)with e|e|e|e
  ·exact⟨[0,2,1,0,3],by rw[e];rfl,rfl,by decide,rfl⟩
  ·exact⟨[0,1,2,2,0],by rw[e];rfl,rfl,by decide,rfl⟩
  ·exact⟨[0,3,1,1,0],by rw[e];rfl,rfl,by decide,rfl⟩
  ·exact⟨[0,2,0,1,1],by rw[e];rfl,rfl,by decide,rfl⟩
 obtain⟨ps,p1,p2,p3⟩:=zaY sd (λi p=>(p.1∈ws/\cs[i]?=some p.2)/\ws[i]?=some p.1) (g:=gN 0) (f:=zbt zJ) (ρ:=[none,some (.dat (.lst (ws.map D.str))),some (.dat (.lst (cs.map D.int)))]) (xs:=jJ 0 (2+c/12%4).toNat) 0 (by
  intro i x hx;obtain⟨hi,rfl⟩:=wH hx;have i1:i<ws.length:=by omega
  have i2:i<cs.length:=by omega
  have a1:atI ws (i:Int)=some ws[i]:=vD (List.getElem?_eq_getElem i1);have a2:atI cs (i:Int)=some cs[i]:=vD (List.getElem?_eq_getElem i2);refine⟨_,(ws[i],cs[i]),rfl,?_,⟨List.getElem_mem _,?_⟩,by rw[Nat.zero_add];exact List.getElem?_eq_getElem i1⟩
  ·simp! [kL,a1,a2,sd]
  ·rw[Nat.zero_add];exact List.getElem?_eq_getElem i2)
 rw[jZ]at p2;have pm:∀p∈ps,p.1∈ws/\p.2∈cs:=λp hp=>by
  obtain⟨i,hi⟩:=List.mem_iff_getElem?.mp hp
  have:=(p3 i p hi).1;exact⟨this.1,List.mem_of_getElem? this.2⟩
 refine⟨ps,?_,⟨by omega,by omega,λp hp=>cb _ (pm p hp).2,λp hp=>?_,λp hp=>wn _ (pm p hp).1⟩,λs k k' h1 h2=>?_,λp hp=>wlo _ (pm p hp).1⟩
 ·have hz:(2+c/12%4).toNat<=1000000:=by omega
  simp! [zaC,ew,ecs,hr,p1,hz,jZ]
 ·have:=(p3 0 p hp).1.2;rw[Nat.add_zero,cf]at this;exact(Option.some.inj this).symm
 ·obtain⟨i,hi⟩:=List.mem_iff_getElem?.mp h1;obtain⟨j,hj⟩:=List.mem_iff_getElem?.mp h2;have a1:=p3 i _ hi;have a2:=p3 j _ hj;rw[Nat.zero_add]at a1 a2;have il:i<ws.length:=(List.getElem?_eq_some_iff.mp a1.2).1;have ij:i=j:=(List.getElem?_inj il wnd).mp (a1.2.trans a2.2.symm);subst ij;exact Option.some.inj (a1.1.2.symm.trans a2.1.2)
abbrev zbb(vR:Lo2)(n:Nat):EO Fl:=
 (zN 1 (c2 qE (gb 1) (cL vR (zA (gv 2) zC))))
abbrev zdD(vR:Lo2)(n:Nat):EO Fl:=
 (zG (ifM (upT (cT (c1 (kW "str") (gb 0)))) (zR (cL qC zC)) nxM) (zG (zN 1 (cL qC (zA (cL qT (zA (c2 zS (gb 0) (cst (.int 0))) (zA (c2 xG (cL jB (zA (gb 0) zC)) (cst (.int 1))) zC))) zC))) (zG (jQ (cI (cS kB (gb 0) (jU (cst (.int 1))) kG)) (gN 2) (zbb vR n)) (zR (gv 1)))))
def zac:Nat->Lo2
 |0=>λ_=>none
 |n+1=>qO (zdD (zac n) zJ) 1 3
def vR:Lo2:=zac 100
abbrev zcg(n:Nat):EO Bool:=
 (cT (c2 yF (gv 0) (cL kR (zA (c2 zS (gb 1) (cst (.int 0))) zC))))
abbrev zck(n:Nat):EO D:=
 (gv 0)
abbrev zav(n:Nat):EO Fl:=
 (zG (zN 4 (jC [none,some 3] (cI (cL kR (zA (c2 zS (gb 3) (cst (.int 1))) zC))) (gN 0) (zcg n) (zck n))) (zG (ifM (upT (orP (cT (c1 (kW "str") (c2 zS (gb 3) (cst (.int 0))))) (cT (c2 neB (gb 4) (cL qC zC))))) (zR (cL qC (zA (cst (.str "rule")) (zA (gv 3) zC)))) nxM) (zN 2 (c2 qE (c2 qE (gb 2) (cL vR (zA (c2 zS (gb 3) (cst (.int 0))) zC))) (cL vR (zA (c2 zS (gb 3) (cst (.int 1))) zC))))))
abbrev zcj(n:Nat):EO D:=
 (c2 zS (gb 0) (cst (.int 0)))
abbrev zcf(n:Nat):EO Bool:=
 (cT (c2 eqB (c2 zS (gb 0) (cst (.int 0))) (gb 1)))
abbrev zci(n:Nat):EO D:=
 (c2 zS (gb 0) (cst (.int 1)))
abbrev zau(n:Nat):EO Fl:=
 (ifM (upT (cT (c2 gtD (c1 lenI (jC [none,some 5] (cI (gv 2)) (gN 0) (zcf n) (zci n))) (cst (.int 1))))) (zR (cL qC (zA (cst (.str "sign")) (zA (gv 5) zC)))) nxM)
abbrev zgq(n:Nat):EO Fl:=
 (zG (zN 2 (cL vR (zA (gv 1) zC))) (zG (jQ (cI (gv 0)) (gN 3) (zav n)) (zG (jQ (cI (cL ziK (zA (cL setD (zA (jC [none] (cI (gv 2)) (gN 0) qW (zcj n)) zC)) zC))) (gN 5) (zau n)) (zR (cL qC zC)))))
def gP:Lo2:=qO (zgq zJ) 2 6
abbrev zfq(n:Nat):EO Fl:=
 (zG (ifM (upT (orP (yQ (cT (c1 isiV (gb 0)))) (cT (c1 (isiT ["NoPlace","NoRank","TooLong"]) (gb 0))))) (zR (cst (.bl false))) nxM) (zG (ifM (upT (cT (c2 eqB (c1 (nO "NoRule") (gb 0)) (c1 (nO "TwoCounts") (gb 0))))) (zR (cst (.bl false))) nxM) (zG (ifM (upT (cT (c1 (nO "NoRule") (gb 0)))) (zR (c2 eqB (gb 1) (cL qC (zA (cst (.str "rule")) (zA (c1 (fldX "rule") (gb 0)) zC))))) nxM) (zR (c2 eqB (gb 1) (cL qC (zA (cst (.str "sign")) (zA (c1 (fldX "sign") (gb 0)) zC))))))))
def zag:Lo2:=qO (zfq zJ) 2 2
abbrev zdk(gL wR wQ:Lo2)(n:Nat):EO Fl:=
 (zG (xR (gv 2) (kC (qV (gN 3) (qV (gN 4) jV)))) (ifM (upT (yQ (cT (cL wR (zA (gv 3) (zA (gv 4) zC)))))) (rsM "NoRule" (gv 2)) nxM))
abbrev zjC(gL wR wQ:Lo2)(n:Nat):EO Fl:=
 (zG (jQ (cI (gv 0)) (gN 2) (zdk gL wR wQ n)) (zG (zN 5 (cL gL (zA (c2 qE (cL wQ (zA (gv 0) zC)) (gb 1)) zC))) (ifM (upT (cTr (gb 5))) (rsM "TwoCounts" (cL minD (zA (gb 5) zC))) nxM)))
def kI:List D->Option Rs:=zfX (zjC gL wR wQ zJ) 2 6
abbrev zhU(n:Nat):EO Fl:=
 (zG (orR (cL (okm kI) (zA (gv 0) (zA (cL qC (zA (gv 1) zC)) zC))) (rL kI (zA (gv 0) (zA (cL qC (zA (gv 1) zC)) zC))) λ_ ρ=>some (.nx ρ)) (zG (λ_=>none) (zG (λ_=>none) λ_=>none)))
def zbh:List D->Option Rs:=gF (zhU zJ) 2 5
abbrev zhX(n:Nat):EO Fl:=
 (zG (orR (cL (okm kI) (zA (gv 0) (zA (cL qC (zA (gv 1) zC)) zC))) (rL kI (zA (gv 0) (zA (cL qC (zA (gv 1) zC)) zC))) λ_ ρ=>some (.nx ρ)) λ_=>none)
def zaG:List D->Option Rs:=gF (zhX zJ) 2 2
def zlt:Lo2:=λ_=>none
abbrev zls(n:Nat):EO Fl:=
 (orR (λ_=>none) (rAft (gv 1) (rL zaG (zA (gv 0) (zA (gv 1) zC)))) λd ρ=>some (.rt d ρ))
def zdf:List D->Option Rs:=gF (zls zJ) 2 2
abbrev zeD(n:Nat):EO Fl:=
 (zG (ifM (upT (cT (c2 eqB (gb 0) (cst (.int 0))))) (orR (cL (okm kI) (zA (gv 1) (zA (cL qC (zA (cst (.str "X")) (zA (gv 2) zC))) zC))) (rL kI (zA (gv 1) (zA (cL qC (zA (cst (.str "X")) (zA (gv 2) zC))) zC))) λ_ ρ=>some (.nx ρ)) nxM) (zG (ifM (upT (cT (c2 eqB (gb 0) (cst (.int 1))))) (orR (cL (okm zbh) (zA (gv 1) (zA (gv 2) zC))) (rL zbh (zA (gv 1) (zA (gv 2) zC))) λ_ ρ=>some (.nx ρ)) nxM) (zG (ifM (upT (cT (c2 eqB (gb 0) (cst (.int 2))))) (orR (cL (okm zaG) (zA (gv 1) (zA (gv 2) zC))) (rL zaG (zA (gv 1) (zA (gv 2) zC))) λ_ ρ=>some (.nx ρ)) nxM) (ifM (upT (cT (c2 eqB (gb 0) (cst (.int 3))))) (orR (cL (okm zdf) (zA (gv 1) (zA (gv 2) zC))) (rL zdf (zA (gv 1) (zA (gv 2) zC))) λ_ ρ=>some (.nx ρ)) nxM))))
abbrev zgo(n:Nat):EO Fl:=
 (zG (zN 3 (cst .non)) (zG (nF 3 4 (zeD n)) (zR (gv 3))))
def nK:Lo2:=qO (zgo zJ) 3 5
abbrev zdl(n:Nat):EO Fl:=
 (ifM (upT (yQ (cT (cL zag (zA (cL nK (zA (c2 qI (c2 qE (gb 5) (gb 2)) (cst (.int 4))) (zA (gv 0) (zA (gv 1) zC)))) (zA (gv 4) zC)))))) (zR (cst (.bl false))) nxM)
abbrev zjD(n:Nat):EO Fl:=
 (zG (zN 3 (cL vS (zA (gb 0) zC))) (zG (zN 4 (cL gP (zA (gv 0) (zA (gv 1) zC)))) (zG (ifM (upT (cT (c2 eqB (gb 4) (cL qC zC)))) (zG (ifM (upT (orP (cT (c2 vU (cL (okm kI) (zA (gv 0) (zA (cL qC (zA (gv 1) (zA (cst (.str "X")) zC))) zC))) (cst .non))) (cT (c2 vU (cL (okm kI) (zA (gv 0) (zA (cL qC zC) zC))) (cst .non))))) (zR (cst (.bl false))) nxM) (zR (wZ (c2 isB (cL (okm kI) (zA (gv 0) (zA (cL qC (zA (cst (.str "X")) (zA (gv 1) zC))) zC))) (cst .non)) (c2 eqB (gb 0) (gb 3))))) nxM) (zG (jQ (cR1 (cst (.int 4))) (gN 5) (zdl n)) (zR (c2 eqB (gb 0) (gb 3)))))))
def gM:Lo2:=qO (zjD zJ) 3 6
abbrev zgI(n:Nat):EO (D×En):=
 (kK yG 1 (zA (cst (.int 4800)) zC))
abbrev zgH(n:Nat):EO (D×En):=
 (kK yG 1 (zA (cst (.int 4800)) zC))
abbrev zjB(n:Nat):EO Fl:=
 (zG (setO 3 (cL zak (zA (gv 0) zC))) (zG (yK (kK yG 3 (zA (cst (.int 3)) zC)) (gN 4)) (zG (yK (kK yG 3 (zA (cst (.int 5040)) zC)) (gN 5)) (zG (yK (opX qE (cst (.int 3)) (kK yG 3 (zA (cst (.int 5)) zC))) (gN 6)) (zG (yK (cLX gO (wW (vA 3 1 [none,some 3] (cR1 (gv 6)) (gN 0) (zgI n)) (zA (gv 1) (zA (gv 2) (zA (cst (.int 4)) zC))))) (gN 7)) (zG (ifM (upT (cT (c1 (kW "str") (gb 7)))) (zG (xR (c2 zS (gb 1) (c2 qI (gb 5) (cL jB (zA (gb 1) zC)))) (kC (qV (gN 8) (qV (gN 9) jV)))) (zN 7 (c2 qE (cL qT (zA (gv 8) zC)) (c2 repD (cL qT (zA (gv 7) zC)) (gb 9))))) nxM) (zG (zN 10 (cL kR (zA (gv 7) zC))) (zG (zN 11 (cL xL (zA (gv 7) zC))) (zG (zN 12 (c2 zS (gb 11) (c2 qI (gb 5) (cL jB (zA (gb 11) zC))))) (zG (ifM (upT (cT (c2 eqB (gb 4) (cst (.int 0))))) (zR (cL qT (zA (gv 7) (zA (cL xX (zA (gv 7) (zA (gv 12) zC))) zC)))) nxM) (zG (yK (opX qE (cst (.int 1)) (kK yG 3 (zA (cst (.int 4)) zC))) (gN 6)) (zG (yK (cLX gO (wW (vA 3 1 [none,some 3] (cR1 (gv 6)) (gN 0) (zgH n)) (zA (gv 1) (zA (gv 10) (zA (cst (.int 2)) zC))))) (gN 13)) (zG (ifM (upT (cT (c2 eqB (gb 4) (cst (.int 1))))) (zR (cL qT (zA (gv 7) (zA (gv 13) zC)))) nxM) (zR (cL qT (zA (gv 7) (zA (cL vQ (zA (gv 7) (zA (gv 12) (zA (gv 13) zC)))) zC)))))))))))))))))
def vP:Lo2:=qO (zjB zJ) 3 14
abbrev zbn(n:Nat):EO Bool:=
 (cT (c2 ltD (cL jB (zA (cL xX (zA (gv 1) (zA (gv 0) zC))) zC)) (cst (.int 4))))
abbrev zbs(n:Nat):EO D:=
 (gv 0)
abbrev zbm(n:Nat):EO Bool:=
 (cT (c1 (kW "tuple") (cL xX (zA (gv 1) (zA (gv 0) zC)))))
abbrev zbr(n:Nat):EO D:=
 (gv 0)
abbrev zex(n:Nat):EO Fl:=
 (zG (zN 3 (jC [none,some 0] (cI (cL xL (zA (gv 0) zC))) (gN 0) (zbn n) (zbs n))) (zG (zN 3 (jC [none,some 0] (cI (gv 3)) (gN 0) (zbm n) (zbr n))) (zG (ifM (upT (cT (c2 eqB (gb 3) (cL qC zC)))) (zR (gv 0)) nxM) (zG (zN 4 (c2 zS (gb 3) (c2 qI (gb 1) (cL jB (zA (gb 3) zC))))) (zR (cL vQ (zA (gv 0) (zA (gv 4) (zA (c2 qE (cL xX (zA (gv 0) (zA (gv 4) zC))) (cL qT (zA (gv 2) zC))) zC)))))))))
def zaj:Lo2:=qO (zex zJ) 3 5
abbrev zaL(n:Nat):EO Bool:=
 (cT (c2 yF (gv 0) (cL kR (zA (gv 1) zC))))
abbrev zaM(n:Nat):EO D:=
 (gv 0)
abbrev zde(n:Nat):EO Fl:=
 (zG (setO 4 (cL vS (zA (gb 0) zC))) (zG (zN 5 (c2 qI (gb 2) (cL jB (zA (gb 0) zC)))) (zG (xR (c2 zS (gb 0) (gb 5)) (kC (qV (gN 6) (qV (gN 7) jV)))) (zG (ifM (upT (cT (c2 eqB (c2 qI (gb 1) (cst (.int 4))) (cst (.int 1))))) (yD 4 (gv 5) (cL qT (zA (cst (.str "Q")) (zA (gv 7) zC)))) nxM) (zG (ifM (upT (cT (c2 eqB (c2 qI (gb 1) (cst (.int 4))) (cst (.int 2))))) (zG (zN 8 (cL xL (zA (gv 7) zC))) (zG (zN 9 (c2 zS (jC [none,some 6] (cSg (cst (.str "QJXZK"))) (gN 0) (zaL n) (zaM n)) (cst (.int 0)))) (yD 4 (gv 5) (cL qT (zA (gv 6) (zA (cL vQ (zA (gv 7) (zA (c2 zS (gb 8) (c2 qI (c2 jI (gb 2) (cst (.int 4))) (cL jB (zA (gb 8) zC)))) (zA (gv 9) zC)))) zC)))))) nxM) (zG (ifM (upT (cT (c2 eqB (c2 qI (gb 1) (cst (.int 4))) (cst (.int 3))))) (yD 4 (gv 5) (cL qT (zA (cL zaj (zA (gv 6) (zA (c2 jI (gb 2) (cst (.int 4))) (zA (cL qT (zA (c2 zS (c2 zS (gb 3) (cst (.int 0))) (cst (.int 0))) zC)) zC)))) (zA (gv 7) zC)))) nxM) (yO 4)))))))
def nL:Lo2:=qO (zde zJ) 4 10
abbrev zed(n:Nat):EO D:=
 (cL vP (zA (cL gQ (zA (gv 3) (zA (c2 qE (cst (.int 3)) (gb 0)) zC))) (zA (gv 1) (zA (gv 2) zC))))
abbrev zdS(n:Nat):EO Fl:=
 (zG (zN 7 (c2 qI (c2 kQ (c2 jI (gb 6) (cst (.int 8))) (cst (.int 1000000007))) (cst (.int 2147483647)))) (zG (zN 8 (cL nL (zA (gv 4) (zA (gv 6) (zA (gv 7) (zA (gv 1) zC)))))) (zG (ifM (upT (yQ (cT (cL gM (zA (gv 8) (zA (gv 5) (zA (gv 6) zC))))))) (zR (cst (.bl false))) nxM) (ifM (upT (cT (c2 eqB (c2 qI (c2 jI (gb 6) (cst (.int 4))) (cst (.int 2))) (cst (.int 1))))) (zG (zN 8 (cL nL (zA (gv 8) (zA (gv 7) (zA (c2 jI (gb 7) (cst (.int 7))) (zA (gv 1) zC)))))) (ifM (upT (yQ (cT (cL gM (zA (gv 8) (zA (cL zaj (zA (gv 5) (zA (gv 7) (zA (cL qT (zA (c2 zS (c2 zS (gb 1) (cst (.int 0))) (cst (.int 0))) zC)) zC)))) (zA (gv 6) zC))))))) (zR (cst (.bl false))) nxM)) nxM))))
abbrev zhk(n:Nat):EO Fl:=
 (zG (zN 1 (cL zaC (zA (cL gQ (zA (gv 0) (zA (cst (.int 0)) zC))) zC))) (zG (zN 2 (cL zat (zA (cL gQ (zA (gv 0) (zA (cst (.int 1)) zC))) zC))) (zG (zN 3 (c2 qE (cst (.int 1)) (c2 qI (cL gQ (zA (gv 0) (zA (cst (.int 2)) zC))) (cst (.int 4))))) (zG (zN 4 (jC [none,some 1,some 2,some 0] (cR1 (gv 3)) (gN 0) qW (zed n))) (zG (zN 5 (cL gO (zA (cL zan (zA (c2 jI (cL gQ (zA (gv 0) (zA (cst (.int 2)) zC))) (cst (.int 4))) (zA (cst (.int 10)) zC))) (zA (gv 1) (zA (gv 2) (zA (cst (.int 6)) zC)))))) (zG (jQ (cI (c2 qE (cL qC (zA (cst (.int 0)) (zA (cst (.int 1)) (zA (cst (.int 2)) (zA (cst (.int 3)) zC))))) (cS kB (gb 0) (jU (cst (.int 7))) (jU (cst (.int 20)))))) (gN 6) (zdS n)) (zR (cL gM (zA (gv 4) (zA (gv 5) (zA (cst (.int 0)) zC)))))))))))
def m_law23:Lo2:=qO (zhk zJ) 1 9
theorem zlS(c:Int)(ps:SI)(bs:List Str)(S:nW ps)(hb:1<=bs.length)(hb2:bs.length<=4):
  ∃l r:T,vP [.int c,.lst (ps.map sd),.lst (bs.map D.str)]=some (rD (l,r))/\l.isBl=false/\(∀x∈vs r,x∈vs l)/\WT ps bs l/\WT ps bs r/\l.size<=7/\l.depth<=5/\r.size<=40/\r.depth<=12:=by
 obtain⟨a,b,pu⟩:=zkj c;obtain⟨kd,a1,b1,tk1,k0,k3⟩:=zfF a b 3 (by decide) (by decide);obtain⟨sp,a2,b2,tk2,s0,s1⟩:=zfF a1 b1 5040 (by decide) (by decide);obtain⟨z,a3,b3,tk3,z0,z5⟩:=zfF a2 b2 5 (by decide) (by decide);obtain⟨ns,a4,b4,g1,g2⟩:=zbV zJ (some (.bor (jN a3 b3))) (jJ 0 (3+z).toNat) a3 b3;rw[jZ]at g2;have g1:vB (gN 0) (kK yG 1 (zA (cst (.int 4800)) zC)) [none,some (.bor (jN a3 b3))] 1 (jN a3 b3) (jJ 0 (3+z).toNat)=some (ns.map D.int,jN a4 b4):=g1;have o1:wM (3+z):=xI (by omega) (by omega);have l1:(3+z).toNat<=1000000:=by omega
 obtain⟨l0,m1,m2,m3,mW⟩:=zkh ns ps bs 4 S hb (by omega) (by decide) (by decide) (by omega) (by omega);have lo:=S.lo;have hi:=S.hi;have fin:∀l:T,l.isBl=false->WT ps bs l->l.size<=7->l.depth<=5->(∀r:T,∀p:List Int,kR [l.d]=some (.lst ((bks l).map D.str))->xL [l.d]=some (.lst ((plc l).map pD))->atI ((plc l).map pD) (sp%(l.size:Int))=some (pD p)->
   ((kd=0/\xX [l.d,pD p]=some r.d)\/
    (∃(z a' b' a2 b2:Int) (ns:List Int) (q:T),yG (jN a4 b4) [.int 4]=some (.int z,jN a' b')/\0<=z/\z<4/\vB (gN 0) (kK yG 1 (zA (cst (.int 4800)) zC)) [none,some (.bor (jN a' b'))] 1 (jN a' b') (jJ 0 (1+z).toNat)=some (ns.map D.int,jN a2 b2)/\gO [.lst (ns.map D.int),.lst (ps.map sd),.lst ((bks l).map D.str),.int 2]=some q.d/\((kd=1/\r=q)\/(kd=2/\vQ [l.d,pD p,q.d]=some r.d))))->vP [.int c,.lst (ps.map sd),.lst (bs.map D.str)]=some (rD (l,r)))->
   ∃l r:T,vP [.int c,.lst (ps.map sd),.lst (bs.map D.str)]=some (rD (l,r))/\l.isBl=false/\(∀x∈vs r,x∈vs l)/\WT ps bs l/\WT ps bs r/\l.size<=7/\l.depth<=5/\r.size<=40/\r.depth<=12:=by
  intro l hl hw hz hd hev;obtain⟨r,p,c1',c2',c3',c4',c5',c6'⟩:=znN ps bs S l hl hw hz hd kd sp a4 b4 k0 k3 s0;exact⟨l,r,hev r p (zbl 100 l (by omega) (by omega)) (zcK 100 l (by omega) (by omega) (by omega)) c1' c6',hl,c2',hw,c3',hz,hd,c4',c5'⟩
 cases l0 with
 |bl x=>
  rw[kA]at m1;have h0:0<=sp%(ps.length:Int):=Int.emod_nonneg _ (by omega);have h1:sp%(ps.length:Int)<(ps.length:Int):=Int.emod_lt_of_pos _ (by omega);obtain⟨⟨w,k⟩,ej,mj⟩:∃q,atI ps (sp%(ps.length:Int))=some q/\q∈ps:=
   ⟨ps[(sp%(ps.length:Int)).toNat]'(by omega),by rw[wY h0 h1,List.getElem?_eq_getElem (by omega)],List.getElem_mem _⟩
  have hmod:vN (ps.length:Int):=by show(0:Int)<_;omega
  obtain⟨hk0,hk3⟩:=S.cnt _ mj;have hk0:0<=k:=hk0;have hk3:k<=3:=hk3;have xb:x∈bs:=by cases mW with|bl h=>exact h
  have rsz:=zha x k.toNat;refine fin (.nd w (List.replicate k.toNat (.bl x))) rfl (zqe mj hk0 xb) (by rw[T.size,rsz.1];omega) (by rw[T.depth];omega) λr p bo pc ap alt=>?_
  have lp:=gJ (.nd w (List.replicate k.toNat (.bl x)));have sz:=nH (.nd w (List.replicate k.toNat (.bl x)));have sz2:(T.nd w (List.replicate k.toNat (.bl x))).size<=7:=by rw[T.size,rsz.1];omega
  have om:vN ((T.nd w (List.replicate k.toNat (.bl x))).size:Int):=by show(0:Int)<_;omega
  generalize hPL:(plc (.nd w (List.replicate k.toNat (.bl x)))).map pD=PL at pc ap;have ll:PL.length=(T.nd w (List.replicate k.toNat (.bl x))).size:=by rw[←hPL,List.length_map,lp]
  have zl:(T.nd w (List.replicate k.toNat (.bl x))).size<=1000000:=by omega
  generalize (T.nd w (List.replicate k.toNat (.bl x))).size=SZ at om ll zl ap;have z1:1+k.toNat<=1000000:=by omega
  generalize hBK:(bks (.nd w (List.replicate k.toNat (.bl x)))).map D.str=BK at bo alt;simp only[jE,List.map_replicate,kA]at bo pc alt;have hk':0<=k/\k<=3:=⟨hk0,hk3⟩;have lsd:(ps.map sd).length=ps.length:=List.length_map _;have zp:ps.length<=1000000:=by omega
  rcases alt with⟨e,pa⟩|⟨y,a',b',a5,b5,ms,q,t1,y0,y4,h1',h2',alt⟩
  ·subst e
   simp! [vP,pu,tk1,tk2,opX,tk3,cLX,wW,vA,o1,jZ,l1,g1,m1,hmod,kL,ej,sd,repD,hk',z1,bo,pc,ll,om,zl,ap,pa,rD,jE,kA,eqD,dep]
  ·have o2:wM (1+y):=xI (by omega) (by omega);have l2:(1+y).toNat<=1000000:=by omega
   rcases alt with⟨e,rfl⟩|⟨e,pa⟩
   ·subst e
    simp! [vP,pu,tk1,tk2,opX,tk3,cLX,wW,vA,o1,o2,jZ,l1,l2,g1,m1,hmod,kL,ej,sd,repD,hk',z1,bo,pc,ll,om,zl,ap,t1,h1',h2',rD,jE,kA,eqD,dep]
   ·subst e
    simp! [vP,pu,tk1,tk2,opX,tk3,cLX,wW,vA,o1,o2,jZ,l1,l2,g1,m1,hmod,kL,ej,sd,repD,hk',z1,bo,pc,ll,om,zl,ap,t1,h1',h2',pa,rD,jE,kA,eqD,dep]
 |nd s ts=>
  refine fin (.nd s ts) rfl mW (by omega) (by omega) λr p bo pc ap alt=>?_
  have lp:=gJ (.nd s ts);have sz:=nH (.nd s ts);have om:vN ((T.nd s ts).size:Int):=by show(0:Int)<_;omega
  generalize hPL:(plc (.nd s ts)).map pD=PL at pc ap;have ll:PL.length=(T.nd s ts).size:=by rw[←hPL,List.length_map,lp]
  have zl:(T.nd s ts).size<=1000000:=by omega
  generalize (T.nd s ts).size=SZ at om ll zl ap;generalize hBK:(bks (.nd s ts)).map D.str=BK at bo alt;simp only[jE]at bo pc alt m1;rcases alt with⟨e,pa⟩|⟨y,a',b',a5,b5,ms,q,t1,y0,y4,h1',h2',alt⟩
  ·subst e
   simp! [vP,pu,tk1,tk2,opX,tk3,cLX,wW,vA,o1,jZ,l1,g1,m1,bo,pc,ll,om,zl,ap,pa,rD,jE,eqD,dep]
  ·have o2:wM (1+y):=xI (by omega) (by omega);have l2:(1+y).toNat<=1000000:=by omega
   rcases alt with⟨e,rfl⟩|⟨e,pa⟩
   ·subst e
    simp! [vP,pu,tk1,tk2,opX,tk3,cLX,wW,vA,o1,o2,jZ,l1,l2,g1,m1,bo,pc,ll,om,zl,ap,t1,h1',h2',rD,jE,eqD,dep]
   ·subst e
    simp! [vP,pu,tk1,tk2,opX,tk3,cLX,wW,vA,o1,o2,jZ,l1,l2,g1,m1,bo,pc,ll,om,zl,ap,t1,h1',h2',pa,rD,jE,eqD,dep]
theorem zal{α:Type}{h k:α->D}{P:α->Bool}{g:D->EO En}{t:EO Bool}{f:EO D}{ρ:En}:∀{L:List α},(∀x∈L,∃ρ1,g (h x) ρ=some ρ1/\t ρ1=some (P x)/\(P x=true->f ρ1=some (k x)))->qM g t f ρ (L.map h)=some ((L.filter P).map k)
 |[],_=>by simp[qM]
 |x::L,H=>by
  obtain⟨ρ1,e1,e2,e3⟩:=H x (by simp);have ih:=zal (L:=L) λy hy=>H y (List.mem_cons_of_mem _ hy)
  rw[List.map_cons,List.filter_cons];cases e:P x with
  |true=>rw[e]at e2;simp[qM,e1,e2,e3 e,ih]
  |false=>rw[e]at e2;simp[qM,e1,e2,ih]
mutual
def cn:T->SI
 | .bl _=>[]
 | .nd s ts=>(s,(ts.length:Int))::cnL ts
def cnL:List T->SI
 |[]=>[]
 |t::r=>cn t++cnL r
end
noncomputable def cq(q:List Int×T):Option (Str×Int):=match q.2 with
 | .nd s ts=>some (s,(ts.length:Int))
 | .bl _=>none
mutual
theorem zdu:∀(p:List Int) (t:T),(qG p t).filterMap cq=cn t
 |p,.bl x=>by simp[qG,cq,cn]
 |p,.nd s ts=>by rw[qG,List.filterMap_cons];simp[cq,cn,zeb]
theorem zeb:∀(p:List Int) (k:Nat) (ts:List T),(jL p k ts).filterMap cq=cnL ts
 |p,_,[]=>by simp[jL,cnL]
 |p,k,t::r=>by rw[jL,List.filterMap_append,zdu,zeb,cnL]
end
def Two(P:SI)(s:Str):Prop:=∃k k',(s,k)∈P/\(s,k')∈P/\k≠k'
theorem zeI(C E:Cnt)(x:Str):jW (C++E) x=(jW C x).or (jW E x):=by unfold jW;rw[List.find?_append];cases C.find? (λp=>decide (p.1=x))<;>simp
structure TF(P:SI)(n:Nat)(C:Cnt)(F:List Str):Prop where
 c:∀s k,jW C s=some k->(s,k - 1)∈P
 f:∀s∈F,Two P s
 cl:C.length<=n
 fl:F.length<=n
def Dn(C:Cnt)(F:List Str)(q:Str×Int):Prop:=∃k,jW C q.1=some k/\(k=q.2+1\/q.1∈F)
theorem Dn.ext{C C':Cnt}{F F':List Str}{q:Str×Int}(h:Dn C F q)(hc:∀s k,jW C s=some k->jW C' s=some k)(hf:∀s∈F,s∈F'):Dn C' F' q:=by obtain⟨k,h1,h2⟩:=h;exact⟨k,hc _ _ h1,h2.imp id (hf _)⟩
theorem zbU{α:Type}{l:List α}{i:Nat}{x:α}(h:l[i]?=some x){y:α}(hy:y∈l.take (i+1)):y∈l.take i\/y=x:=by rw[List.take_add_one,h]at hy;simpa using hy
theorem zim(us:List T)(hu:∀u∈us,u.size<=1000)(hl:us.length<=100):∃F:List Str,gL [.lst (us.map T.d)]=some (.lst (F.map D.str))/\∀s,s∈F↔Two (us.flatMap cn) s:=by
 have key:=xO (g:=gN 3) (b:=zaD zJ) (xs:=us.map T.d) (ρ:=[some (.dat (.lst (us.map T.d))),some (.own (.dic [] [])),some (.own (.lst [])),none,none,none])
  (λi ρ=>∃(C:Cnt) (F:List Str) (k3 k4 k5:Option Sl),ρ=[some (.dat (.lst (us.map T.d))),some (.own (.dic (cks C) (cds C))),some (.own (.lst (F.map D.str))),k3,k4,k5]/\TF (us.flatMap cn) (1000*i) C F/\∀u∈us.take i,∀q∈cn u,Dn C F q)
  ⟨[],[],none,none,none,rfl,⟨λs k h=>(by cases h),λs h=>(by cases h),by simp,by simp⟩,λu h=>by simp at h⟩ (by
   rintro i x ρ hx ⟨C,F,k3,k4,k5,rfl,hC,hD⟩;rw[List.getElem?_map]at hx;cases eu:us[i]? with
   |none=>rw[eu]at hx;cases hx
   |some u=>
   rw[eu]at hx;cases hx
   have hum:=List.mem_of_getElem? eu;have hz:=hu u hum;have il:i<us.length:=(List.getElem?_eq_some_iff.mp eu).1;have pp:=zbL u (by omega);have pL:=zgh u;obtain⟨ρ2,f2,C2,F2,k4',k5',rfl,hC2,hD2,hQ2⟩:=xO (g:=kC (qV (gN 4) (qV (gN 5) jV))) (b:=zaE zJ) (xs:=(qG [] u).map pd) (ρ:=[some (.dat (.lst (us.map T.d))),some (.own (.dic (cks C) (cds C))),some (.own (.lst (F.map D.str))),some (.dat u.d),k4,k5])
    (λj ρ=>∃(C:Cnt) (F:List Str) (k4 k5:Option Sl),ρ=[some (.dat (.lst (us.map T.d))),some (.own (.dic (cks C) (cds C))),some (.own (.lst (F.map D.str))),some (.dat u.d),k4,k5]/\TF (us.flatMap cn) (1000*i+j) C F/\(∀u∈us.take i,∀q∈cn u,Dn C F q)/\∀q∈(qG [] u).take j,∀c,cq q=some c->Dn C F c) ⟨C,F,k4,k5,rfl,hC,hD,λq h=>by simp at h⟩ (by
     rintro j y ρ hy ⟨C,F,k4,k5,rfl,hC,hD,hQ⟩;rw[List.getElem?_map]at hy;cases eq:(qG [] u)[j]? with
     |none=>rw[eq]at hy;cases hy
     |some q=>
     rw[eq]at hy;cases hy
     have hq:=List.mem_of_getElem? eq;have jl:j<(qG [] u).length:=(List.getElem?_eq_some_iff.mp eq).1;have hp:=zgg hq;have zq:=zaS _ _ _ hp;have ib:=zaK q.2;obtain⟨qp,qt⟩:=q;simp only at zq ib hp;cases qt with
     |bl x=>
      refine⟨[some (.dat (.lst (us.map T.d))),some (.own (.dic (cks C) (cds C))),some (.own (.lst (F.map D.str))),some (.dat u.d),some (.dat (.tup (qp.map D.int))),some (.dat (.str x))],.inl ?_,C,F,_,_,rfl,⟨hC.c,hC.f,by have:=hC.cl;omega,by have:=hC.fl;omega⟩,hD,λz hz c hc=>?_⟩
      ·simp only[T.isBl,kA]at ib
       simp! [pd,kA,ib,andM]
      ·rcases zbU eq hz with h|rfl
       ·exact hQ z h c hc
       ·cases hc
     |nd s ts=>
      simp only[T.isBl,jE]at ib;have cv:=zmE s C;have ok:=zqc C;have cl:=hC.cl;have fl:=hC.fl;have kl:(cks C).length<1000000:=by simp[cks];omega
      have fl':F.length<1000000:=by omega
      have tl:ts.length+1<=1000000:=by rw[T.size]at zq;have:=gD ts;omega
      have mP:(s,(ts.length:Int))∈us.flatMap cn:=List.mem_flatMap.mpr ⟨u,hum,by rw[←zdu []];exact List.mem_filterMap.mpr ⟨_,hq,rfl⟩⟩;cases e:jW C s with
      |some k=>
       rw[e]at cv;by_cases ek:k=(ts.length:Int)+1
       ·subst ek;have ne:neB (.int ((ts.length:Int)+1)) (.int ((ts.length:Int)+1))=some (.bl false):=by simpa using zjy ((ts.length:Int)+1) ((ts.length:Int)+1)
        refine⟨[some (.dat (.lst (us.map T.d))),some (.own (.dic (cks C) (cds C))),some (.own (.lst (F.map D.str))),some (.dat u.d),some (.dat (.tup (qp.map D.int))),some (.dat (.tup (.str s::ts.map T.d)))],.inl ?_,C,F,_,_,rfl,⟨hC.c,hC.f,by omega,by omega⟩,hD,λz hz c hc=>?_⟩
        ·dsimp! [pd,jE,ib,andM,cmpX,sdfM,cv,ok,kl,kdK,ne,tl,atI,ixN]
        ·rcases zbU eq hz with h|rfl
         ·exact hQ z h c hc
         ·cases hc;exact⟨_,e,.inl rfl⟩
       ·have ne:neB (.int k) (.int ((ts.length:Int)+1))=some (.bl true):=by simpa[ek]using zjy k ((ts.length:Int)+1)
        refine⟨[some (.dat (.lst (us.map T.d))),some (.own (.dic (cks C) (cds C))),some (.own (.lst ((F++[s]).map D.str))),some (.dat u.d),some (.dat (.tup (qp.map D.int))),some (.dat (.tup (.str s::ts.map T.d)))],.inl ?_,C,F++[s],_,_,rfl,⟨hC.c,λz hz=>?_,by omega,by simp;omega⟩,λv hv q hq=>(hD v hv q hq).ext (λ_ _ h=>h) (λ_ h=>by simp[h]),λz hz c hc=>?_⟩
        ·dsimp! [pd,jE,ib,andM,cmpX,sdfM,cv,ok,kl,kdK,ne,tl,fl',atI,ixN]
        ·rcases List.mem_append.mp hz with h|h
         ·exact hC.f z h
         ·rw[List.mem_singleton.mp h];exact⟨_,_,hC.c s k e,mP,by omega⟩
        ·rcases zbU eq hz with h|rfl
         ·exact(hQ z h c hc).ext (λ_ _ h=>h) (λ_ h=>by simp[h])
         ·cases hc;exact⟨_,e,.inr (by simp)⟩
      |none=>
       rw[e]at cv;have cp:=cput e ((ts.length:Int)+1);have ne:neB (.int ((ts.length:Int)+1)) (.int ((ts.length:Int)+1))=some (.bl false):=by simpa using zjy ((ts.length:Int)+1) ((ts.length:Int)+1)
       have cx:∀z k,jW C z=some k->jW (C++[(s,(ts.length:Int)+1)]) z=some k:=λz k h=>by rw[zeI,h];rfl
       have cs:jW (C++[(s,(ts.length:Int)+1)]) s=some ((ts.length:Int)+1):=by rw[zeI,e];simp[jW]
       refine⟨[some (.dat (.lst (us.map T.d))),some (.own (.dic (cks (C++[(s,(ts.length:Int)+1)])) (cds (C++[(s,(ts.length:Int)+1)])))),some (.own (.lst (F.map D.str))),some (.dat u.d),some (.dat (.tup (qp.map D.int))),some (.dat (.tup (.str s::ts.map T.d)))],.inl ?_,C++[(s,(ts.length:Int)+1)],F,_,_,rfl,⟨λz k h=>?_,hC.f,by simp;omega,by omega⟩,λv hv q hq=>(hD v hv q hq).ext cx λ_ h=>h,λz hz c hc=>?_⟩
       ·dsimp! [pd,jE,ib,andM,cmpX,sdfM,cv,ok,kl,kdK,cp,ne,tl,atI,ixN]
       ·rw[zeI]at h;cases e2:jW C z with
        |some k2=>rw[e2]at h;cases h;exact hC.c z _ e2
        |none=>
         rw[e2]at h
         have:=zmb (show jW [(s,(ts.length:Int)+1)] z=some k by simpa using h);simp at this;rw[this.1,this.2];simpa using mP
       ·rcases zbU eq hz with h|rfl
        ·exact(hQ z h c hc).ext cx (λ_ h=>h)
        ·cases hc;exact⟨_,cs,.inl rfl⟩)
   refine⟨[some (.dat (.lst (us.map T.d))),some (.own (.dic (cks C2) (cds C2))),some (.own (.lst (F2.map D.str))),some (.dat u.d),k4',k5'],.inl ?_,C2,F2,_,_,_,rfl,⟨hC2.c,hC2.f,?_,?_⟩,λv hv q hq=>?_⟩
   ·simp only[Sl.own]at f2
    simp! [pp,f2]
   ·have:=hC2.cl;rw[List.length_map]at this;omega
   ·have:=hC2.fl;rw[List.length_map]at this;omega
   ·rcases zbU eu hv with h|rfl
    ·exact hD2 v h q hq
    ·rw[←zdu []]at hq;obtain⟨z,hz,hc⟩:=List.mem_filterMap.mp hq;exact hQ2 z (by rw[List.length_map,List.take_length];exact hz) q hc)
 obtain⟨ρ',f1,C,F,k3,k4,k5,rfl,hC,hD⟩:=key;refine⟨F,?_,λs=>⟨hC.f s,λ⟨k,k',h1,h2,ne⟩=>?_⟩⟩
 ·simp only[Sl.own]at f1
  simp! [gL,f1]
 ·rw[List.length_map,List.take_length]at hD;obtain⟨u1,a1,b1⟩:=List.mem_flatMap.mp h1;obtain⟨u2,a2,b2⟩:=List.mem_flatMap.mp h2;obtain⟨c1,d1,e1⟩:=hD u1 a1 _ b1;obtain⟨c2,d2,e2⟩:=hD u2 a2 _ b2;simp only at d1 d2 e1 e2;rw[d1]at d2;cases d2
  rcases e1 with e1|e1
  ·rcases e2 with e2|e2
   ·omega
   ·exact e2
  ·exact e1
def Out(fl:Fl):Prop:=(∃d ρ',fl=.rt d ρ')\/∃c d ρ',fl=.rs c d ρ'
theorem zcJ{α:Type}{h:α->D}{p:α->Bool}{g:D->EO En}{b:EO Fl}(W:List α)(R:α->Fl->Prop)(I:List α->En->Prop)(hs:∀K x M ρ,W=K++x::M->I K ρ->if p x=true then∃fl,(g (h x) ρ).bind b=some fl/\R x fl/\Out fl else∃ρ',(g (h x) ρ).bind b=some (.nx ρ')/\I (K++[x]) ρ'):∀(L K:List α) (ρ:En),W=K++L->I K ρ->
  match L.find? p with
  |some x=>∃fl,kY g b (L.map h) ρ=some fl/\R x fl/\Out fl
  |none=>∃ρ',kY g b (L.map h) ρ=some (.nx ρ')/\I W ρ'
 |[],K,ρ,hw,i=>by rw[List.append_nil]at hw;subst hw;simp only[List.find?_nil];exact⟨ρ,rfl,i⟩
 |x::L,K,ρ,hw,i=>by
  have h1:=hs K x L ρ hw i;by_cases hp:p x=true
  ·rw[if_pos hp]at h1;obtain⟨fl,e1,r1,o⟩:=h1;simp only[List.find?_cons,hp];refine⟨fl,?_,r1,o⟩;cases e:g (h x) ρ with
   |none=>rw[e]at e1;cases e1
   |some ρ1=>
    rw[e]at e1;have e1:b ρ1=some fl:=e1;rcases o with⟨d,ρ',rfl⟩|⟨c,d,ρ',rfl⟩<;>simp only[List.map_cons,kY,e,e1]
  ·rw[if_neg hp]at h1;obtain⟨ρ',e1,i1⟩:=h1;have hp':p x=false:=by simpa using hp
   simp only[List.find?_cons,hp'];have ih:=zcJ W R I hs L (K++[x]) ρ' (by rw[hw,List.append_assoc];rfl) i1;have ef:kY g b ((x::L).map h) ρ=kY g b (L.map h) ρ':=by
    cases e:g (h x) ρ with
    |none=>rw[e]at e1;cases e1
    |some ρ1=>
     rw[e]at e1;have e1:b ρ1=some (.nx ρ'):=e1;simp only[List.map_cons,kY,e,e1]
   rw[ef];exact ih
theorem zdg{a b:Str}:ltS a b=false↔leS b a:=by rw[xY];unfold ltS;simp
theorem zpp{a b:Str}(h:ltS a b=true):leS a b:=by rw[xY];unfold ltS at h;exact List.le_of_lt (by simpa using h)
theorem zfy(ss:List Str):∀k:Nat,k<ss.length->argBest (λi j=>ltS (ss.getD i ⟨#[]⟩) (ss.getD j ⟨#[]⟩)) k<=k/\∀i,i<=k->leS (ss.getD (argBest (λi j=>ltS (ss.getD i ⟨#[]⟩) (ss.getD j ⟨#[]⟩)) k) ⟨#[]⟩) (ss.getD i ⟨#[]⟩)
 |0,_=>by
  refine⟨Nat.le_refl _,λi hi=>?_⟩
  have:i=0:=by omega
  subst this;exact xY.mpr (List.le_refl _)
 |k+1,hk=>by
  obtain⟨h1,h2⟩:=zfy ss k (by omega);unfold argBest;split
  ·rename_i hb;refine⟨Nat.le_refl _,λi hi=>?_⟩;by_cases e:i=k+1
   ·subst e;exact xY.mpr (List.le_refl _)
   ·exact zdi (zpp hb) (h2 i (by omega))
  ·rename_i hb;refine⟨by omega,λi hi=>?_⟩;by_cases e:i=k+1
   ·subst e;exact zdg.mp (by simpa using hb)
   ·exact h2 i (by omega)
theorem zhn(ss:List Str)(h:0<ss.length):ss.getD (gR ss) ⟨#[]⟩∈ss/\∀y∈ss,leS (ss.getD (gR ss) ⟨#[]⟩) y:=by
 obtain⟨h1,h2⟩:=zfy ss (ss.length - 1) (by omega);refine⟨?_,λy hy=>?_⟩
 ·unfold gR;rw[List.getD_eq_getElem?_getD,List.getElem?_eq_getElem (by omega)];exact List.getElem_mem _
 ·obtain⟨i,hi⟩:=List.mem_iff_getElem?.mp hy;have il:=(List.getElem?_eq_some_iff.mp hi).1
  have:=h2 i (by omega);rw[List.getD_eq_getElem?_getD (i:=i),hi]at this;exact this
theorem ziW:∀{l:List Str},l.Pairwise leS->sortedS l=true
 |[],_=>rfl
 |x::r,h=>by
  show risingS x r=true;induction r generalizing x with
  |nil=>rfl
  |cons y r ih=>
   rw[List.pairwise_cons]at h;show(!ltCps y.cps.toList x.cps.toList&&risingS y r)=true;have e:ltCps y.cps.toList x.cps.toList=false:=h.1 y (by simp);rw[e,ih y h.2];rfl
theorem zjH(a b:Str):leS a b\/leS b a:=by rw[xY,xY];exact List.le_total _ _
theorem zhL(L:List Str):(gC L).Perm L/\(gC L).Pairwise leS:=by
 have ex:∃ss:List Str,ss.Perm L/\ss.Pairwise leS:=by
  refine⟨L.mergeSort λa b=>!ltS b a,List.mergeSort_perm _ _,?_⟩
  have:=List.pairwise_mergeSort (le:=λa b=>!ltS b a) (λa b c h1 h2=>by
   simp only[Bool.not_eq_true']at h1 h2 ⊢;exact zdg.mpr (zdi (zdg.mp h1) (zdg.mp h2))) (λa b=>by
   rcases zjH a b with h|h
   ·simp[zdg.mpr h]
   ·simp[zdg.mpr h]) L
  exact this.imp λh=>zdg.mp (by simpa using h)
 obtain⟨ss,h1,h2⟩:=ex;rw[zgW h1 (ziW h2)];exact⟨h1,h2⟩
theorem zhM(l:List Str):(TS.setOf l).Nodup/\∀x,x∈TS.setOf l↔x∈l:=by
 have key:∀(l L:List Str),L.Nodup->(l.foldl TS.addT L).Nodup/\∀x,x∈l.foldl TS.addT L↔x∈L\/x∈l:=by
  intro l;induction l with
  |nil=>intro L h;exact⟨h,λx=>by simp⟩
  |cons y l ih=>
   intro L h;obtain⟨a,b⟩:=ih (TS.addT L y) (TS.addT_nodup h);refine⟨a,λx=>(b x).trans ?_⟩;unfold TS.addT;split
   ·rename_i hy;simp only[List.mem_cons];constructor
    ·rintro(h|h)
     ·exact .inl h
     ·exact .inr (.inr h)
    ·rintro(h|rfl|h)
     ·exact .inl h
     ·exact .inl hy
     ·exact .inr h
   ·simp only[List.mem_append,List.mem_singleton,List.mem_cons,List.not_mem_nil,or_false];constructor
    ·rintro((h|h)|h)
     ·exact .inl h
     ·exact .inr (.inl h)
     ·exact .inr (.inr h)
    ·rintro(h|h|h)
     ·exact .inl (.inl h)
     ·exact .inl (.inr h)
     ·exact .inr h
 obtain⟨a,b⟩:=key l [] .nil;exact⟨a,λx=>by rw[show TS.setOf l=l.foldl TS.addT []from rfl,b];simp⟩
theorem zkp(ns:List Int):1<(ns.foldl step_dedup []).length↔∃k k',k∈ns/\k'∈ns/\k≠k':=by
 have key:∀(l σ:List Int),σ.Nodup->(l.foldl step_dedup σ).Nodup/\∀x,x∈l.foldl step_dedup σ↔x∈σ\/x∈l:=by
  intro l;induction l with
  |nil=>intro L h;exact⟨h,λx=>by simp⟩
  |cons y l ih=>
   intro L h;have e:step_dedup L y=if y∈L then L else L++[y]:=by unfold step_dedup;simp
   have nd:(step_dedup L y).Nodup:=by
    rw[e];split
    ·exact h
    ·rename_i hy;rw[List.nodup_append];exact⟨h,by simp,λa ha b hb=>by simp at hb;subst hb;rintro rfl;exact hy ha⟩
   obtain⟨a,b⟩:=ih _ nd;refine⟨a,λx=>(b x).trans ?_⟩;rw[e];split
   ·rename_i hy;simp only[List.mem_cons];constructor
    ·rintro(h|h)
     ·exact .inl h
     ·exact .inr (.inr h)
    ·rintro(h|rfl|h)
     ·exact .inl h
     ·exact .inl hy
     ·exact .inr h
   ·simp only[List.mem_append,List.mem_singleton,List.mem_cons,List.not_mem_nil,or_false,or_assoc]
 obtain⟨nd,mem⟩:=key ns [] .nil;have mem:∀x,x∈ns.foldl step_dedup []↔x∈ns:=λx=>by rw[mem];simp
 generalize ns.foldl step_dedup []=L at nd mem;constructor
 ·intro h
  match L,nd,h,mem with
  |a::b::r,nd,_,mem=>
   refine⟨a,b,(mem a).mp (by simp),(mem b).mp (by simp),?_⟩;rintro rfl;simp at nd
 ·rintro⟨k,k',h1,h2,ne⟩;have a:=(mem k).mpr h1;have b:=(mem k').mpr h2
  match L,a,b with
  |[x],a,b=>simp at a b;exact absurd (a.trans b.symm) ne
  |x::y::r,_,_=>simp
theorem zec:∀a b:List T,cnL (a++b)=cnL a++cnL b
 |[],b=>by simp[cnL]
 |t::a,b=>by rw[List.cons_append,cnL,cnL,zec a b,List.append_assoc]
mutual
theorem zdv:∀t:T,(cn t).length<=t.size
 | .bl x=>by simp[cn]
 | .nd s ts=>by rw[cn,T.size,List.length_cons];have:=zgG ts;omega
theorem zgG:∀ts:List T,(cnL ts).length<=T.sizes ts
 |[]=>by simp[cnL]
 |t::r=>by rw[cnL,T.sizes,List.length_append];have:=zdv t;have:=zgG r;omega
end
theorem zcL:∀(n:Nat) (t:T),t.depth<=n->t.size<=10000->zac n [t.d]=some (.lst ((cn t).map sd))
 |0,t,h,_=>by have:=zce t;omega
 |n+1,.bl x,h,_=>by simp! [zac,kA,cn]
 |n+1,.nd s ts,h,hz=>by
  rw[T.depth]at h;rw[T.size]at hz;have tl:=gD ts;obtain⟨ρ',f1,k,rfl⟩:=xO (g:=gN 2) (b:=zbb (zac n) zJ) (xs:=ts.map T.d) (ρ:=[some (.dat (.tup (.str s::ts.map T.d))),some (.dat (.lst [.tup [.str s,.int (ts.length:Int)]])),none])
   (λi ρ=>∃(k:Option Sl),ρ=[some (.dat (.tup (.str s::ts.map T.d))),some (.dat (.lst (.tup [.str s,.int (ts.length:Int)]::(cnL (ts.take i)).map sd))),k]) ⟨none,by simp[cnL]⟩ (by
    rintro i x ρ hx ⟨k,rfl⟩;rw[List.getElem?_map]at hx;cases e:ts[i]? with
    |none=>rw[e]at hx;cases hx
    |some t=>
     rw[e]at hx;cases hx
     have hi:i<ts.length:=(List.getElem?_eq_some_iff.mp e).1;have et:ts[i]=t:=by rw[List.getElem?_eq_getElem hi]at e;exact Option.some.inj e
     have hm:=List.mem_of_getElem? e;have d1:=nU hm;have d2:=gE hm;have e1:=zcL n t (by omega) (by omega);have tk:ts.take (i+1)=ts.take i++[t]:=by rw[List.take_succ_eq_append_getElem hi,et]
     have e5:cnL (ts.take (i+1))=cnL (ts.take i)++cn t:=by rw[tk,zec,cnL,cnL,List.append_nil]
     have e6:T.sizes (ts.take i)+t.size<=T.sizes ts:=by
      have:T.sizes ts=T.sizes (ts.take (i+1))+T.sizes (ts.drop (i+1)):=by rw[←xH,List.take_append_drop]
      rw[tk,xH]at this;simp only[T.sizes]at this;omega
     have l1:=zgG (ts.take i);have l2:=zdv t;rw[e5];generalize cnL (ts.take i)=acc at l1 ⊢;generalize cn t=B at l2 e1 ⊢;have z1:acc.length+1+B.length<=1000000:=by omega
     refine⟨[some (.dat (.tup (.str s::ts.map T.d))),some (.dat (.lst (.tup [.str s,.int (ts.length:Int)]::(acc++B).map sd))),some (.dat t.d)],.inl ?_,_,rfl⟩
     simp! [e1,z1])
  rw[List.length_map,List.take_length]at f1;have z2:ts.length+1<=1000000:=by omega
  simp! [zac,jE,cut1,f1,cn,sd,atI,ixN,z2]
def isR(l r:T):Bool:=!l.isBl&&(vs r).all λx=>decide (x∈vs l)
theorem zin(l r:T)(zl:l.size<=1000)(zr:r.size<=1000):wR [l.d,r.d]=some (.bl (isR l r)):=by
 have ib:=zaK l;cases hl:l.isBl with
 |true=>
  rw[hl]at ib
  simp! [wR,ib,isR,hl]
 |false=>
 rw[hl]at ib;have b1:=zdq l (by omega);have b2:=zdq r (by omega);have ln:(ded (vs r)).length<=1000000:=by
  have:=zeG (vs r) [];have h2:=zmq r
  have:(ded (vs r)).length<=(vs r).length:=by simpa[ded,kJ]using this
  omega
 have cm:qM (gN 0) qW (zcC zJ) [none,some (.dat (.lst ((ded (vs l)).map D.str)))] ((ded (vs r)).map D.str)=some (((ded (vs r)).map λz=>decide (z∈ded (vs l))).map D.bl):=by
  refine nV (by simp) λi x y hx hy=>?_
  rw[List.getElem?_map]at hx;rw[List.map_map,List.getElem?_map]at hy;cases e:(ded (vs r))[i]? with
  |none=>rw[e]at hx;cases hx
  |some z=>
   rw[e]at hx hy;cases hx;cases hy
   have i1:=zcp z (ded (vs l));have dz:zU ((ded (vs l)).map D.str)<=100:=by have:=zbD (ded (vs l));omega
   exact⟨_,rfl,rfl,by simp! [i1,dz]⟩
 have bo:=zfL ((ded (vs r)).map λz=>decide (z∈ded (vs l)));have al:((ded (vs r)).map λz=>decide (z∈ded (vs l))).all id=isR l r:=by rw[isR,hl,List.all_map,Bool.not_false,Bool.true_and,Bool.eq_iff_iff,List.all_eq_true,List.all_eq_true];simp only[Function.comp,id,decide_eq_true_eq,znQ]
 generalize ((ded (vs r)).map λz=>decide (z∈ded (vs l)))=BB at cm bo al;generalize ded (vs r)=RR at b2 ln cm;have cm':qM (gN 0) qW (c2 inB (gv 0) (gb 1)) [none,some (.dat (.lst ((ded (vs l)).map D.str)))] (RR.map D.str)=some (BB.map D.bl):=cm
 simp! [wR,ib,b1,b2,ln,cm',allD,bo,al]
structure R23(rs:List (T×T)):Prop where
 len:rs.length<=9
 z:∀r∈rs,r.1.size<=60/\r.2.size<=60
 sh:∀r∈rs,shD (rD r)=true
def vK(rs:List (T×T)):List T:=rs.flatMap λr=>[r.1,r.2]
theorem zfd:∀rs:List (T×T),(vK rs).length=2*rs.length
 |[]=>rfl
 |r::rs=>by unfold vK;rw[List.flatMap_cons,List.length_append];have:=zfd rs;unfold vK at this;rw[this];simp;omega
def bad(r:T×T):Bool:=!isR r.1 r.2
theorem zlT(rs:List (T×T))(R:R23 rs)(us:List T)(hl:us.length<=9)(hu:∀u∈us,u.size<=1000)(hsg:∀s,Two ((vK rs++us).flatMap cn) s->shD (.str s)=true):
  match rs.find? bad with
  |some r=>kI [.lst (rs.map rD),.lst (us.map T.d)]=some (.ex "NoRule" (rD r))
  |none=>∃F:List Str,(∀s,s∈F↔Two ((vK rs++us).flatMap cn) s)/\kI [.lst (rs.map rD),.lst (us.map T.d)]=some (if F=[]then .ok .non else .ex "TwoCounts" (.str (F.getD (gR F) ⟨#[]⟩))):=by
 have F1:=zcJ (h:=rD) (p:=bad) (g:=gN 2) (b:=zdk gL wR wQ zJ) rs (λr fl=>∃ρ',fl=.rs "NoRule" (rD r) ρ') (λK ρ=>∃k2 k3 k4:Option Sl,ρ=[some (.dat (.lst (rs.map rD))),some (.dat (.lst (us.map T.d))),k2,k3,k4,none]) (by
  rintro K r M ρ hw ⟨k2,k3,k4,rfl⟩;have hr:r∈rs:=by rw[hw];simp
  have z:=R.z r hr;have ir:=zin r.1 r.2 (by omega) (by omega);have sh:=R.sh r hr;split
  ·rename_i hb;have hb:isR r.1 r.2=false:=by simpa[bad]using hb
   rw[hb]at ir;refine⟨.rs "NoRule" (rD r) [some (.dat (.lst (rs.map rD))),some (.dat (.lst (us.map T.d))),some (.dat (rD r)),some (.dat r.1.d),some (.dat r.2.d),none],?_,⟨_,rfl⟩,.inr ⟨_,_,_,rfl⟩⟩;simp only[rD]at sh
   simp! [rD,ir,rsM,sh]
  ·rename_i hb;have hb:isR r.1 r.2=true:=by simpa[bad]using hb
   rw[hb]at ir;refine⟨[some (.dat (.lst (rs.map rD))),some (.dat (.lst (us.map T.d))),some (.dat (rD r)),some (.dat r.1.d),some (.dat r.2.d),none],?_,_,_,_,rfl⟩
   simp! [rD,ir]) rs [] [some (.dat (.lst (rs.map rD))),some (.dat (.lst (us.map T.d))),none,none,none,none] (by simp) ⟨none,none,none,rfl⟩
 cases e:rs.find? bad with
 |some r=>
  rw[e]at F1;obtain⟨fl,f1,⟨ρ',rfl⟩,_⟩:=F1
  simp! [kI,zfX,f1]
 |none=>
  rw[e]at F1;obtain⟨ρ',f1,k2,k3,k4,rfl⟩:=F1;have sd:=znM rs (by have:=R.len;omega);have sl:=zfd rs;have rl:=R.len;obtain⟨F,tw,hF⟩:=zim (vK rs++us) (λu hu'=>by
   rcases List.mem_append.mp hu' with h|h
   ·obtain⟨r,hr,h⟩:=List.mem_flatMap.mp h;have z:=R.z r hr;simp at h;rcases h with rfl|rfl<;>omega
   ·exact hu u h) (by rw[List.length_append];omega)
  refine⟨F,hF,?_⟩;have sd:wQ [.lst (rs.map rD)]=some (.lst ((vK rs).map T.d)):=sd;rw[List.map_append]at tw;have l2:((vK rs).map T.d).length+(us.map T.d).length<=1000000:=by rw[List.length_map,List.length_map];omega
  generalize (vK rs).map T.d=SS at sd tw l2;generalize us.map T.d=UU at tw l2 f1;by_cases hn:F=[]
  ·subst hn;rw[List.map_nil]at tw
   simp! [kI,zfX,f1,sd,l2,tw]
  ·have f0:0<F.length:=List.length_pos_iff.mpr hn;have sh:=hsg _ ((hF _).mp (zhn F f0).1);have so:=zbw F;have mn:minD [.lst (F.map D.str)]=some (.str (F.getD (gR F) ⟨#[]⟩)):=by simp[minD,so,f0]
   rw[if_neg hn];generalize F.getD (gR F) ⟨#[]⟩=mm at sh mn ⊢;have ne:¬F.map D.str=[]:=by simpa using hn
   generalize F.map D.str=FF at tw mn ne
   simp! [kI,zfX,f1,sd,l2,tw,mn,rsM,sh,ne]
def row(t:T)(K:List (T×T)):SI:=cn t++K.flatMap λr=>cn r.1++cn r.2
theorem zkV(t:T)(K:List (T×T))(r:T×T):row t (K++[r])=row t K++cn r.1++cn r.2:=by unfold row;rw[List.flatMap_append];simp
theorem ziS(t:T)(K:List (T×T))(h:∀r∈K,r.1.size<=60/\r.2.size<=60):(row t K).length<=t.size+120*K.length:=by
 unfold row;rw[List.length_append];have h1:=zdv t
 have:(K.flatMap λr=>cn r.1++cn r.2).length<=120*K.length:=by
  induction K with
  |nil=>simp
  |cons r K ih=>
   have:=ih λx hx=>h x (List.mem_cons_of_mem _ hx)
   have z:=h r (by simp);have a:=zdv r.1;have b:=zdv r.2;rw[List.flatMap_cons,List.length_append,List.length_append,List.length_cons];omega
 omega
def zie(r:T×T):List Str:=(bks r.2).filter λx=>!decide (x∈bks r.1)
theorem zkF(r:T×T):bad r=(r.1.isBl|| !(zie r).isEmpty):=by
 unfold bad isR zie;cases r.1.isBl with
 |true=>simp
 |false=>
  simp only[Bool.not_false,Bool.true_and,Bool.false_or]
  congr 1
  rw[Bool.eq_iff_iff,List.all_eq_true,List.isEmpty_iff,List.filter_eq_nil_iff];simp only[decide_eq_true_eq,Bool.not_eq_true',decide_eq_false_iff_not,Decidable.not_not,zcv]
theorem zpn(l:List Str):neB (.lst (l.map D.str)) (.lst [])=some (.bl (!l.isEmpty)):=by
 have d:=zbD l;have d:dep (.lst (l.map D.str))<=100:=by simp only[dep];omega
 cases l with
 |nil=>simp[neB,eqD,eqL,dep,zU]
 |cons a l=>simp only[List.map_cons]at d;simp[neB,eqD,eqL,d]
theorem zlW(r:T×T)(h1:r.1.size<=60):qM (gN 0) (zcg zJ) (zck zJ) [none,some (.dat (rD r))] ((bks r.2).map D.str)=some ((zie r).map D.str):=by
 have d1:=yT r.1;have b1:kR [r.1.d]=some (.lst ((bks r.1).map D.str)):=zbl 100 r.1 (by omega) (by omega);refine zal λx hx=>⟨[some (.dat (.str x)),some (.dat (rD r))],rfl,?_,λ_=>rfl⟩
 have i1:=zcp x (bks r.1);have dz:zU ((bks r.1).map D.str)<=100:=by have:=zbD (bks r.1);omega
 simp! [rD,b1,i1,dz]
theorem znP(rs:List (T×T))(R:R23 rs)(t:T):∀K r M ρ,rs=K++r::M->(∃k3 k4:Option Sl,ρ=[some (.dat (.lst (rs.map rD))),some (.dat t.d),some (.dat (.lst ((row t K).map sd))),k3,k4,none])->t.size<=60->
  if bad r=true then∃fl,(gN 3 (rD r) ρ).bind (zav zJ)=some fl/\(∃ρ',fl=.rt (.lst [.str "rule",rD r]) ρ')/\Out fl
  else∃ρ',(gN 3 (rD r) ρ).bind (zav zJ)=some (.nx ρ')/\∃k3 k4:Option Sl,ρ'=[some (.dat (.lst (rs.map rD))),some (.dat t.d),some (.dat (.lst ((row t (K++[r])).map sd))),k3,k4,none]:=by
 rintro K r M ρ hw ⟨k3,k4,rfl⟩ ht;have hr:r∈rs:=by rw[hw];simp
 have z:=R.z r hr;have d1:=yT r.1;have d2:=yT r.2;have b2:kR [r.2.d]=some (.lst ((bks r.2).map D.str)):=zbl 100 r.2 (by omega) (by omega);have cc1:vR [r.1.d]=some (.lst ((cn r.1).map sd)):=zcL 100 r.1 (by omega) (by omega);have cc2:vR [r.2.d]=some (.lst ((cn r.2).map sd)):=zcL 100 r.2 (by omega) (by omega);have cm:=zlW r z.1;have cm':qM (gN 0) (cT (c2 yF (gv 0) (cL kR (zA (c2 zS (gb 1) (cst (.int 0))) zC)))) (gv 0) [none,some (.dat (rD r))] ((bks r.2).map D.str)=some ((zie r).map D.str):=cm;have ne:=zpn (zie r);have bl:=zeN r.2;have zb:(bks r.2).length<=1000000:=by omega
 have hb:=zkF r;have kl:K.length<=9:=by have:=R.len;rw[hw]at this;simp at this;omega
 have rw1:=ziS t K λx hx=>R.z x (by rw[hw];simp[hx])
 have n1:=zdv r.1;have n2:=zdv r.2;rw[zkV];generalize row t K=ROW at rw1 ⊢;generalize cn r.1=C1 at cc1 n1 ⊢;generalize cn r.2=C2 at cc2 n2 ⊢;have z1:ROW.length+C1.length<=1000000:=by omega
 have z2:ROW.length+C1.length+C2.length<=1000000:=by omega
 generalize zie r=LA at cm' ne hb;generalize bks r.2=BB at b2 cm' zb;obtain⟨l,rr⟩:=r;simp only[rD]at*;cases l with
 |bl x=>
  rw[hb];simp only[T.isBl,Bool.true_or,if_true];refine⟨.rt (.lst [.str "rule",.tup [(T.bl x).d,rr.d]]) [some (.dat (.lst (rs.map rD))),some (.dat t.d),some (.dat (.lst (ROW.map sd))),some (.dat (.tup [(T.bl x).d,rr.d])),some (.dat (.lst (LA.map D.str))),none],?_,⟨_,rfl⟩,.inl ⟨_,_,rfl⟩⟩;simp only[kA]at cm' b2 ⊢
  simp! [b2,cm',zb]
 |nd s ts=>
  rw[hb];simp only[T.isBl,Bool.false_or];simp only[jE]at cm' cc1 ⊢;cases LA with
  |nil=>
   simp only[List.isEmpty_nil,Bool.not_true,Bool.false_eq_true,if_false]at ne ⊢;refine⟨[some (.dat (.lst (rs.map rD))),some (.dat t.d),some (.dat (.lst ((ROW++C1++C2).map sd))),some (.dat (.tup [.tup (.str s::ts.map T.d),rr.d])),some (.dat (.lst [])),none],?_,_,_,rfl⟩;rw[List.map_nil]at ne cm'
   dsimp! [b2,cm',zb,cc1,cc2,z1,z2,ne]
  |cons a LA=>
   simp only[List.isEmpty_cons,Bool.not_false,if_true]at ne ⊢;refine⟨.rt (.lst [.str "rule",.tup [.tup (.str s::ts.map T.d),rr.d]]) [some (.dat (.lst (rs.map rD))),some (.dat t.d),some (.dat (.lst (ROW.map sd))),some (.dat (.tup [.tup (.str s::ts.map T.d),rr.d])),some (.dat (.lst ((a::LA).map D.str))),none],?_,⟨_,rfl⟩,.inl ⟨_,_,rfl⟩⟩;simp only[List.map_cons]at ne cm'
   dsimp! [b2,cm',zb,ne]
def cof(R:SI)(w:Str):List Int:=(R.filter λq=>decide (q.1=w)).map (·.2)
theorem zgF(R:SI)(w:Str):1<((cof R w).foldl step_dedup []).length↔Two R w:=by
 rw[zkp];have m:∀k,k∈cof R w↔(w,k)∈R:=λk=>by
  unfold cof;simp only[List.mem_map,List.mem_filter,decide_eq_true_eq];constructor
  ·rintro⟨⟨a,b⟩,⟨h1,h2⟩,h3⟩;simp only at h2 h3;subst h2 h3;exact h1
  ·intro h;exact⟨_,⟨h,rfl⟩,rfl⟩
 simp only[m,Two]
theorem znO(rs:List (T×T))(t:T)(ROW:SI)(hz:ROW.length<=3000)(W:List Str):∀K w M ρ,W=K++w::M->(∃k3 k4 k5:Option Sl,ρ=[some (.dat (.lst (rs.map rD))),some (.dat t.d),some (.dat (.lst (ROW.map sd))),k3,k4,k5])->
  if(decide (1<((cof ROW w).foldl step_dedup []).length))=true then∃fl,(gN 5 (.str w) ρ).bind (zau zJ)=some fl/\(∃ρ',fl=.rt (.lst [.str "sign",.str w]) ρ')/\Out fl
  else∃ρ',(gN 5 (.str w) ρ).bind (zau zJ)=some (.nx ρ')/\∃k3 k4 k5:Option Sl,ρ'=[some (.dat (.lst (rs.map rD))),some (.dat t.d),some (.dat (.lst (ROW.map sd))),k3,k4,k5]:=by
 rintro K w M ρ hw ⟨k3,k4,k5,rfl⟩;have cm:qM (gN 0) (zcf zJ) (zci zJ) [none,some (.dat (.str w))] (ROW.map sd)=some ((ROW.filter λq=>decide (q.1=w)).map λq=>D.int q.2):=by
  refine zal λq hq=>⟨[some (.dat (sd q)),some (.dat (.str w))],rfl,?_,λ_=>?_⟩
  ·have e:eqB (.str q.1) (.str w)=some (.bl (decide (q.1=w))):=by
    have d:dep (.str q.1)<=100:=by simp[dep]
    have b:(q.1==w)=decide (q.1=w):=by by_cases h:q.1=w<;>simp[h]
    unfold eqB;rw[if_pos d,eqD,b];rfl
   dsimp! [sd,e,atI,ixN]
  ·dsimp! [sd,atI,ixN]
 have cm':qM (gN 0) (cT (c2 eqB (c2 zS (gb 0) (cst (.int 0))) (gb 1))) (c2 zS (gb 0) (cst (.int 1))) [none,some (.dat (.str w))] (ROW.map sd)=some ((cof ROW w).map D.int):=by unfold cof;rw[List.map_map];exact cm
 have zr:ROW.length<=1000000:=by omega
 have cl:(cof ROW w).length<=3000:=by unfold cof;rw[List.length_map];exact Nat.le_trans (List.length_filter_le _ _) hz
 have io:=zbC (cof ROW w);have li:lenI (.lst ((cof ROW w).map D.int))=some (.int ((cof ROW w).foldl step_dedup []).length):=by
  have:(cof ROW w).length+1<scanBound:=by unfold scanBound;omega
  simp[lenI,io,this]
 generalize ((cof ROW w).foldl step_dedup []).length=N at li ⊢;generalize (cof ROW w).map D.int=CC at cm' li;by_cases h:1<N
 ·rw[if_pos (by simpa using h)];refine⟨.rt (.lst [.str "sign",.str w]) [some (.dat (.lst (rs.map rD))),some (.dat t.d),some (.dat (.lst (ROW.map sd))),k3,k4,some (.dat (.str w))],?_,⟨_,rfl⟩,.inl ⟨_,_,rfl⟩⟩
  simp! [cm',zr,li,gtD]
  omega
 ·rw[if_neg (by simpa using h)];refine⟨[some (.dat (.lst (rs.map rD))),some (.dat t.d),some (.dat (.lst (ROW.map sd))),k3,k4,some (.dat (.str w))],?_,_,_,_,rfl⟩
  simp! [cm',zr,li,gtD]
  omega
theorem zri(rs:List (T×T))(R:R23 rs)(t:T)(ht:t.size<=60)(Ws:List Str)(hW:Ws.length<=60)(hws:∀q∈row t rs,q.1∈Ws):
  match rs.find? bad with
  |some r=>gP [.lst (rs.map rD),t.d]=some (.lst [.str "rule",rD r])
  |none=>(∃w,gP [.lst (rs.map rD),t.d]=some (.lst [.str "sign",.str w])/\Two (row t rs) w/\∀y,Two (row t rs) y->leS w y)\/(gP [.lst (rs.map rD),t.d]=some (.lst [])/\∀y,¬Two (row t rs) y):=by
 have dt:=yT t;have ct:vR [t.d]=some (.lst ((cn t).map sd)):=zcL 100 t (by omega) (by omega);have F1:=zcJ (h:=rD) (p:=bad) (g:=gN 3) (b:=zav zJ) rs (λr fl=>∃ρ',fl=.rt (.lst [.str "rule",rD r]) ρ') (λK ρ=>∃k3 k4:Option Sl,ρ=[some (.dat (.lst (rs.map rD))),some (.dat t.d),some (.dat (.lst ((row t K).map sd))),k3,k4,none])
  (λK r M ρ hw i=>znP rs R t K r M ρ hw i ht) rs [] [some (.dat (.lst (rs.map rD))),some (.dat t.d),some (.dat (.lst ((cn t).map sd))),none,none,none] (by simp) ⟨none,none,by simp[row]⟩
 cases e:rs.find? bad with
 |some r=>
  rw[e]at F1;obtain⟨fl,f1,⟨ρ',rfl⟩,_⟩:=F1
  simp! [gP,ct,f1]
 |none=>
  rw[e]at F1;obtain⟨ρ',f1,k3,k4,rfl⟩:=F1;have rl:=R.len;have zr:=ziS t rs R.z;generalize row t rs=ROW at*;have cm:qM (gN 0) qW (zcj zJ) [none] (ROW.map sd)=some ((ROW.map (·.1)).map D.str):=by
   refine nV (by simp) λi x y hx hy=>?_
   rw[List.getElem?_map]at hx;rw[List.map_map,List.getElem?_map]at hy;cases e:ROW[i]? with
   |none=>rw[e]at hx;cases hx
   |some q=>
    rw[e]at hx hy;cases hx;cases hy
    exact⟨_,rfl,rfl,by simp! [sd,atI,ixN]⟩
  have cm':qM (gN 0) qW (c2 zS (gb 0) (cst (.int 0))) [none] (ROW.map sd)=some ((ROW.map (·.1)).map D.str):=cm;obtain⟨snd,smem⟩:=zhM (ROW.map (·.1));have sD1:setD [.lst ((ROW.map (·.1)).map D.str)]=some (.set ((TS.setOf (ROW.map (·.1))).map KD.str)):=by
   have so:=zbw (ROW.map (·.1));have l:(ROW.map (·.1)).length+1<scanBound:=by unfold scanBound;rw[List.length_map];omega
   simp only[setD,so,Option.bind_some,if_pos l]
  have sl:(TS.setOf (ROW.map (·.1))).length<64:=by
   have:=zgs _ Ws snd λx hx=>by obtain⟨q,hq,rfl⟩:=List.mem_map.mp ((smem x).mp hx);exact hws q hq
   omega
  have sD2:ziK [.set ((TS.setOf (ROW.map (·.1))).map KD.str)]=some (.lst ((gC (TS.setOf (ROW.map (·.1)))).map D.str)):=by have k:=zhp (TS.setOf (ROW.map (·.1)));simp only[ziK,k,Option.bind_some,if_pos sl]
  obtain⟨sp,spw⟩:=zhL (TS.setOf (ROW.map (·.1)));have inS:∀y,Two ROW y->y∈gC (TS.setOf (ROW.map (·.1))):=λy ⟨k,_,h,_⟩=>sp.mem_iff.mpr ((smem y).mpr (List.mem_map.mpr ⟨_,h,rfl⟩))
  have zs:(gC (TS.setOf (ROW.map (·.1)))).length<=1000000:=by rw[sp.length_eq];omega
  have zm:ROW.length<=1000000:=by omega
  generalize gC (TS.setOf (ROW.map (·.1)))=S at*;generalize TS.setOf (ROW.map (·.1))=SO at*;have F2:=zcJ (h:=D.str) (p:=λw=>decide (1<((cof ROW w).foldl step_dedup []).length)) (g:=gN 5) (b:=zau zJ) S (λw fl=>∃ρ',fl=.rt (.lst [.str "sign",.str w]) ρ') (λ_ ρ=>∃k3 k4 k5:Option Sl,ρ=[some (.dat (.lst (rs.map rD))),some (.dat t.d),some (.dat (.lst (ROW.map sd))),k3,k4,k5])
   (λK w M ρ hw i=>znO rs t ROW (by omega) S K w M ρ hw i) S [] [some (.dat (.lst (rs.map rD))),some (.dat t.d),some (.dat (.lst (ROW.map sd))),k3,k4,none] (by simp) ⟨_,_,_,rfl⟩
  cases e2:S.find? (λw=>decide (1<((cof ROW w).foldl step_dedup []).length))with
  |some w=>
   rw[e2]at F2;obtain⟨fl,f2,⟨ρ',rfl⟩,_⟩:=F2;obtain⟨hp,A,B,rfl,hA⟩:=List.find?_eq_some_iff_append.mp e2;refine .inl ⟨w,?_,(zgF ROW w).mp (by simpa using hp),λy hy=>?_⟩
   ·generalize (ROW.map (·.1)).map D.str=WW at cm' sD1;generalize (A++w::B).map D.str=SS at sD2 f2
    simp! [gP,ct,f1,cm',zm,sD1,sD2,f2]
   ·rcases List.mem_append.mp (inS y hy)with h|h
    ·have:=hA y h;rw[decide_eq_true ((zgF ROW y).mpr hy)]at this;cases this
    ·rcases List.mem_cons.mp h with rfl|h
     ·exact xY.mpr (List.le_refl _)
     ·exact(List.pairwise_cons.mp (List.pairwise_append.mp spw).2.1).1 y h
  |none=>
   rw[e2]at F2;obtain⟨ρ',f2,k3',k4',k5',rfl⟩:=F2;refine .inr ⟨?_,λy hy=>?_⟩
   ·generalize (ROW.map (·.1)).map D.str=WW at cm' sD1;generalize S.map D.str=SS at sD2 f2
    simp! [gP,ct,f1,cm',zm,sD1,sD2,f2]
   ·have:=List.find?_eq_none.mp e2 y (inS y hy);rw[decide_eq_true ((zgF ROW y).mpr hy)]at this;exact this rfl
theorem zhy:∀rs:List (T×T),(∀r∈rs,r.1.size<=60/\r.2.size<=60)->zU (rs.map rD)<=70
 |[],_=>by simp[zU]
 |r::rs,h=>by
  have h1:=zhy rs λy hy=>h y (List.mem_cons_of_mem _ hy)
  have h2:=h r (by simp);have h3:=zgC r.1;have h4:=zgC r.2;have h5:=yT r.1;have h6:=yT r.2;simp only[List.map_cons,zU,rD,dep];omega
theorem Two.imp{P Q:SI}{s:Str}(h:Two P s)(k:∀q∈P,q∈Q):Two Q s:=by obtain⟨a,b,h1,h2,n⟩:=h;exact⟨a,b,k _ h1,k _ h2,n⟩
theorem zfY{t:T}{rs:List (T×T)}{us:List T}(h:∀u∈us,u=t\/cn u=[]):∀q∈(vK rs++us).flatMap cn,q∈row t rs:=by
 intro q hq;obtain⟨u,hu,hq⟩:=List.mem_flatMap.mp hq;unfold row;rcases List.mem_append.mp hu with hu|hu
 ·obtain⟨r,hr,hu⟩:=List.mem_flatMap.mp hu;refine List.mem_append_right _ (List.mem_flatMap.mpr ⟨r,hr,?_⟩);simp at hu;rcases hu with rfl|rfl
  ·exact List.mem_append_left _ hq
  ·exact List.mem_append_right _ hq
 ·rcases h u hu with rfl|e
  ·exact List.mem_append_left _ hq
  ·rw[e]at hq;cases hq
theorem znA{t:T}{rs:List (T×T)}{us:List T}(h:t∈us):∀q∈row t rs,q∈(vK rs++us).flatMap cn:=by
 intro q hq;unfold row at hq;rcases List.mem_append.mp hq with hq|hq
 ·exact List.mem_flatMap.mpr ⟨t,List.mem_append_right _ h,hq⟩
 ·obtain⟨r,hr,hq⟩:=List.mem_flatMap.mp hq;rcases List.mem_append.mp hq with hq|hq
  ·exact List.mem_flatMap.mpr ⟨r.1,List.mem_append_left _ (List.mem_flatMap.mpr ⟨r,hr,by simp⟩),hq⟩
  ·exact List.mem_flatMap.mpr ⟨r.2,List.mem_append_left _ (List.mem_flatMap.mpr ⟨r,hr,by simp⟩),hq⟩
theorem zeu(rs:List (T×T))(R:R23 rs)(t:T)(ht:t.size<=60)(hsg:∀q∈row t rs,shD (.str q.1)=true)(us:List T)(hl:us.length<=9)(h:∀u∈us,u=t\/cn u=[])(hz:∀u∈us,u.size<=60):
  (∀r,rs.find? bad=some r->kI [.lst (rs.map rD),.lst (us.map T.d)]=some (.ex "NoRule" (rD r)))/\
  (rs.find? bad=none->(∀y,¬Two (row t rs) y)->kI [.lst (rs.map rD),.lst (us.map T.d)]=some (.ok .non))/\
  (rs.find? bad=none->t∈us->∀w,Two (row t rs) w->(∀y,Two (row t rs) y->leS w y)->kI [.lst (rs.map rD),.lst (us.map T.d)]=some (.ex "TwoCounts" (.str w))):=by
 have M:=zlT rs R us hl (λu hu=>by have:=hz u hu;omega) (λs hs=>by obtain⟨k,_,h1,_⟩:=hs.imp (zfY h);exact hsg _ h1)
 refine⟨λr e=>by rw[e]at M;exact M,λe hn=>?_,λe htu w hw hm=>?_⟩
 ·rw[e]at M;obtain⟨F,hF,M⟩:=M
  have:F=[]:=List.eq_nil_iff_forall_not_mem.mpr λs hs=>hn s (((hF s).mp hs).imp (zfY h))
  rw[if_pos this]at M;exact M
 ·rw[e]at M;obtain⟨F,hF,M⟩:=M;have wF:w∈F:=(hF w).mpr (hw.imp (znA htu));have ne:F≠[]:=by rintro rfl;cases wF
  rw[if_neg ne]at M;obtain⟨l1,l2⟩:=zhn F (List.length_pos_iff.mpr ne)
  have:F.getD (gR F) ⟨#[]⟩=w:=zho (l2 w wF) (hm _ (((hF _).mp l1).imp (zfY h)));rw[this]at M;exact M
theorem zdX{rs:List (T×T)}{t:T}{c:Str}{d:D}(hc:c∈xcs)(h1:kI [.lst (rs.map rD),.lst [t.d]]=some (.ex c d))(h2:kI [.lst (rs.map rD),.lst [.str "X",t.d]]=some (.ex c d))(k:Int)(k0:0<=k)(k4:k<4):nK [.int k,.lst (rs.map rD),t.d]=some (.exc c d):=by
 have s1:zbh [.lst (rs.map rD),t.d]=some (.ex c d):=by simp! [zbh,gF,orR,okm,exm,rL,h1]
 have c1':zaG [.lst (rs.map rD),t.d]=some (.ex c d):=by simp! [zaG,gF,orR,okm,exm,rL,h1]
 have e1:zdf [.lst (rs.map rD),t.d]=some (.ex c d):=by simp! [zdf,gF,orR,okm,exm,rL,rAft,c1']
 rcases(by omega:k=0\/k=1\/k=2\/k=3)with rfl|rfl|rfl|rfl
 ·simp! [nK,nF,orR,okm,exm,rL,h2,hc,eqD,dep]
 ·simp! [nK,nF,orR,okm,exm,rL,s1,hc,eqD,dep]
 ·simp! [nK,nF,orR,okm,exm,rL,c1',hc,eqD,dep]
 ·simp! [nK,nF,orR,okm,exm,rL,e1,hc,eqD,dep]
theorem zpW(r:T×T)(h:r.1.size<=60/\r.2.size<=60):zag [.exc "NoRule" (rD r),.lst [.str "rule",rD r]]=some (.bl true):=by
 have h3:=zgC r.1;have h4:=zgC r.2;have h5:=yT r.1;have h6:=yT r.2;have e:eqB (.lst [.str "rule",rD r]) (.lst [.str "rule",rD r])=some (.bl true):=by
  have d:dep (.lst [.str "rule",rD r])<=100:=by simp only[dep,zU,rD];omega
  unfold eqB;rw[if_pos d];simp[eqD,eqL,rD,zkc r.1,zkc r.2]
 have n1:((Str.ofString "NoRule")==(Str.ofString "NoPlace"))=false:=by decide+kernel
 have n2:((Str.ofString "NoRule")==(Str.ofString "NoRank"))=false:=by decide+kernel
 have n3:((Str.ofString "NoRule")==(Str.ofString "TooLong"))=false:=by decide+kernel
 have n4:((Str.ofString "NoRule")==(Str.ofString "TwoCounts"))=false:=by decide+kernel
 have f4:kD "NoRule"="rule":=by decide+kernel
 have b1:eqB (.bl true) (.bl false)=some (.bl false):=by simp[eqB,eqD,dep]
 dsimp! [n1,n2,n3,n4,f4,zag,nO,isiV,isiT,fldX,xcs,b1,e]
theorem zpV(w:Str):zag [.exc "TwoCounts" (.str w),.lst [.str "sign",.str w]]=some (.bl true):=by
 have e:eqB (.lst [.str "sign",.str w]) (.lst [.str "sign",.str w])=some (.bl true):=by
  have d:dep (.lst [.str "sign",.str w])<=100:=by simp[dep,zU]
  unfold eqB;rw[if_pos d];simp[eqD,eqL]
 have n1:((Str.ofString "TwoCounts")==(Str.ofString "NoPlace"))=false:=by decide+kernel
 have n2:((Str.ofString "TwoCounts")==(Str.ofString "NoRank"))=false:=by decide+kernel
 have n3:((Str.ofString "TwoCounts")==(Str.ofString "TooLong"))=false:=by decide+kernel
 have n4:((Str.ofString "TwoCounts")==(Str.ofString "NoRule"))=false:=by decide+kernel
 have f4:kD "TwoCounts"="sign":=by decide+kernel
 have b1:eqB (.bl false) (.bl true)=some (.bl false):=by simp[eqB,eqD,dep]
 dsimp! [n1,n2,n3,n4,f4,zag,nO,isiV,isiT,fldX,xcs,b1,e]
theorem zpS{rs:List (T×T)}(R:R23 rs):eqB (.lst (rs.map rD)) (.lst (rs.map rD))=some (.bl true):=by
 have d:=zhy rs R.z;have d:dep (.lst (rs.map rD))<=100:=by simp only[dep];omega
 unfold eqB;rw[if_pos d];simp[eqD,zhv rs]
theorem zjV{rs:List (T×T)}(R:R23 rs){t:T}{DUE:D}{c:Str}{d:D}(cl:Int)(hd:gP [.lst (rs.map rD),t.d]=some DUE)(ne:eqB DUE (.lst [])=some (.bl false))(hc:∀k:Int,0<=k->k<4->nK [.int k,.lst (rs.map rD),t.d]=some (.exc c d))(hr:zag [.exc c d,DUE]=some (.bl true)):
  gM [.lst (rs.map rD),t.d,.int cl]=some (.bl true):=by
 have eq:=zpS R;have rl:(rs.map rD).length<=1000000:=by rw[List.length_map];have:=R.len;omega
 generalize rs.map rD=RS at*;obtain⟨ρ',f1,k5,rfl⟩:=xO (g:=gN 5) (b:=zdl zJ) (xs:=jJ 0 4) (ρ:=[some (.dat (.lst RS)),some (.dat t.d),some (.dat (.int cl)),some (.dat (.lst RS)),some (.dat DUE),none])
  (λi ρ=>∃k5:Option Sl,ρ=[some (.dat (.lst RS)),some (.dat t.d),some (.dat (.int cl)),some (.dat (.lst RS)),some (.dat DUE),k5]) ⟨none,rfl⟩ (by
   rintro i x ρ hx ⟨k5,rfl⟩;obtain⟨hi,rfl⟩:=wH hx;have k:=hc ((0+(i:Int)+cl)%4) (Int.emod_nonneg _ (by decide)) (Int.emod_lt_of_pos _ (by decide));generalize (0+(i:Int))=I at k ⊢;refine⟨[some (.dat (.lst RS)),some (.dat t.d),some (.dat (.int cl)),some (.dat (.lst RS)),some (.dat DUE),some (.dat (.int I))],.inl ?_,_,rfl⟩
   simp! [k,hr])
 dsimp! [gM,hd,ne,f1,eq,rl,jZ]
theorem zlV(rs:List (T×T))(R:R23 rs)(t:T)(ht:t.size<=60)(Ws:List Str)(hW:Ws.length<=60)(hws:∀q∈row t rs,q.1∈Ws)(hsg:∀x∈Ws,shD (.str x)=true)(cl:Int):
  gM [.lst (rs.map rD),t.d,.int cl]=some (.bl true):=by
 have du:=zri rs R t ht Ws hW hws;have hsg':∀q∈row t rs,shD (.str q.1)=true:=λq hq=>hsg _ (hws q hq)
 have bX:cn (.bl "X")=[]:=by simp[cn]
 have zX:(T.bl "X").size<=60:=by simp[T.size]
 obtain⟨a1,a2,a3⟩:=zeu rs R t ht hsg' [t] (by simp) (by simp) (by simp[ht]);obtain⟨b1,b2,b3⟩:=zeu rs R t ht hsg' [.bl "X",t] (by simp) (by simp[bX]) (by simp[ht,zX]);obtain⟨d1,d2,d3⟩:=zeu rs R t ht hsg' [t,.bl "X"] (by simp) (by simp[bX]) (by simp[ht,zX]);obtain⟨e1,e2,e3⟩:=zeu rs R t ht hsg' [] (by simp) (by simp) (by simp);simp only[List.map_cons,List.map_nil,kA]at a1 a2 a3 b1 b2 b3 d1 d2 d3 e1 e2 e3;cases e:rs.find? bad with
 |some r=>
  rw[e]at du;have hr:=List.mem_of_find?_eq_some e;refine zjV R cl du ?_ (zdX (by decide+kernel) (a1 r e) (b1 r e)) (zpW r (R.z r hr));have z:=R.z r hr;have h3:=zgC r.1;have h4:=zgC r.2;have h5:=yT r.1;have h6:=yT r.2;have d:dep (.lst [.str "rule",rD r])<=100:=by simp only[dep,zU,rD];omega
  unfold eqB;rw[if_pos d];simp[eqD,eqL]
 |none=>
  rw[e]at du;rcases du with⟨w,du,hw,hm⟩|⟨du,hn⟩
  ·refine zjV R cl du ?_ (zdX (by decide+kernel) (a3 e (by simp) w hw hm) (b3 e (by simp) w hw hm)) (zpV w);have d:dep (.lst [.str "sign",.str w])<=100:=by simp[dep,zU]
   unfold eqB;rw[if_pos d];simp[eqD,eqL]
  ·have k1:=b2 e hn;have k2:=d2 e hn;have k3:=e2 e hn;have eq:=zpS R;have rl:(rs.map rD).length<=1000000:=by rw[List.length_map];have:=R.len;omega
   have ne:eqB (.lst []) (.lst [])=some (.bl true):=by simp[eqB,eqD,eqL,dep,zU]
   generalize rs.map rD=RS at*
   dsimp! [gM,du,ne,k1,k2,k3,okm,eq,rl]
def anyC(ps:SI):SI:=ps.flatMap λp=>[(p.1,0),(p.1,1),(p.1,2),(p.1,3),(p.1,4)]
theorem zev{ps:SI}{s:Str}{k:Int}(h:∃j,(s,j)∈ps)(h0:0<=k)(h4:k<=4):(s,k)∈anyC ps:=by obtain⟨j,h⟩:=h;refine List.mem_flatMap.mpr ⟨_,h,?_⟩;rcases(by omega:k=0\/k=1\/k=2\/k=3\/k=4)with rfl|rfl|rfl|rfl|rfl<;>simp
theorem zeQ{ps:SI}{q:Str×Int}(h:q∈anyC ps):∃j,(q.1,j)∈ps:=by obtain⟨p,hp,h⟩:=List.mem_flatMap.mp h;simp at h;rcases h with rfl|rfl|rfl|rfl|rfl<;>exact⟨_,hp⟩
theorem WT.anyC{ps:SI}{bs cs:List Str}(S:nW ps)(hb:∀x∈bs,x∈cs){t:T}(h:WT ps bs t):WT (anyC ps) cs t:=by
 induction h with
 |bl h=>exact .bl (hb _ h)
 |nd h hs ih=>
  have:=S.cnt _ h;exact .nd (zev ⟨_,h⟩ this.1 (by have:=this.2;omega)) ih
mutual
theorem zmg{ps:SI}{bs:List Str}:∀t:T,WT ps bs t->∀q∈cn t,q∈ps
 | .bl x,_,q,hq=>by simp[cn]at hq
 | .nd s ts,h,q,hq=>by
  cases h with
  |nd h hs=>
   rw[cn]at hq;rcases List.mem_cons.mp hq with rfl|hq
   ·exact h
   ·exact zmG ts hs q hq
theorem zmG{ps:SI}{bs:List Str}:∀ts:List T,(∀t∈ts,WT ps bs t)->∀q∈cnL ts,q∈ps
 |[],_,q,hq=>by simp[cnL]at hq
 |t::r,h,q,hq=>by
  rw[cnL]at hq;rcases List.mem_append.mp hq with hq|hq
  ·exact zmg t (h t (by simp)) q hq
  ·exact zmG r (λu hu=>h u (by simp[hu])) q hq
end
def kU:T->Nat
 | .bl x=>x.length
 | .nd _ ts=>ts.length+1
theorem zpq(u:T)(h:kU u<=1000000):jB [u.d]=some (.int (kU u)):=by
 cases u with
 |bl x=>simp only[kU]at h;simp[kA,jB,kU,lim,h]
 |nd s ts=>simp[jE,jB,kU]
theorem zkb(L:List (List Int)):eqB (.lst (L.map pD)) (.lst [])=some (.bl L.isEmpty):=by
 have d:∀L:List (List Int),zU (L.map pD)<=3:=by
  intro L;induction L with
  |nil=>simp[zU]
  |cons p L ih=>
   have:=zlZ p;simp only[List.map_cons,zU,pD,dep];omega
 have d:=d L;have d:dep (.lst (L.map pD))<=100:=by simp only[dep];omega
 unfold eqB;rw[if_pos d];cases L with
 |nil=>simp[eqD,eqL]
 |cons a l=>simp[eqD,eqL]
theorem zdI:∀a b:List T,vsL (a++b)=vsL a++vsL b
 |[],b=>by simp[vsL]
 |t::a,b=>by rw[List.cons_append,vsL,vsL,zdI a b,List.append_assoc]
theorem zkg{qs:SI}{bs:List Str}(hb:∀x∈bs,x.length<=16)(t:T)(n:Int)(w:Str)(hw:WT qs bs t)(hz:t.size<=60)(hq:∀s k,(s,k)∈qs->0<=k/\(k<=2->(s,k+1)∈qs))(hw0:(w,0)∈qs):
  ∃t':T,zaj [t.d,.int n,.tup [.str w]]=some t'.d/\WT qs bs t'/\t'.size<=2*t.size+1/\∀x∈vs t',x∈vs t:=by
 have dt:=yT t;have pc:xL [t.d]=some (.lst ((plc t).map pD)):=zcK 100 t (by omega) (by omega) (by omega);have pl:=gJ t;have pa:∀p∈plc t,∃u,qB t p=some u/\xX [t.d,pD p]=some u.d/\WT qs bs u/\u.size<=t.size:=λp hp=>by obtain⟨u,hu⟩:=zhe t p hp;exact⟨u,hu,zkk t u p hu,zgO p t u hu hw,zaS p t u hu⟩
 have ln:∀u:T,WT qs bs u->u.size<=t.size->kU u<=1000000:=λu h z=>by
  cases h with
  |bl h=>have:=hb _ h;simp only[kU];omega
  |nd h hs=>rename_i s ts;rw[T.size]at z;have:=gD ts;simp only[kU];omega
 have m1c:qM (gN 0) (zbn zJ) (zbs zJ) [none,some (.dat t.d)] ((plc t).map pD)=some (((plc t).filter λp=>(qB t p).any λu=>decide (kU u<4)).map pD):=by
  refine zal λp hp=>⟨[some (.dat (pD p)),some (.dat t.d)],rfl,?_,λ_=>rfl⟩
  obtain⟨u,hu,lp,wu,zu⟩:=pa p hp;have l:=zpq u (ln u wu zu);have e:((kU u:Int)<4:Prop)↔kU u<4:=by omega
  rw[hu];simp[lp,l,ltD,xQ,qO,qX,zG,zN,setO,vO,xR,yK,wV,xP,zR,yO,retN,ifM,upT,cT,cTr,vZ,xE,orP,yQ,wZ,orV,notV,c1,c2,cL,cS,zA,zC,cst,gv,gb,gN,jV,qV,kC,kG,jU,jC,qW,cI,cR1,cR2,wX,jQ,itS,wD,nJ,vE,wU,wJ,zcV,qT,qC,nxM,kW,tyN,wS,lim,kZ,qQ,wO,wE,gG,vY,vS,zS,zcP,qE,vC,xG,kQ,jI,qI,wI,xQ,geD,isB,vU,isNon,gA,wT,xV,xU,kK,wG,yD,zgd,yR,frzM,c3,zgz,zgB,zgA,cSg,vV,itS,Sl.inn,Sl.own,wP,inB,yF,wN,zbO,zaW,zaV,zaU,xI,at0,at1,at2,at3];simp only[e]
 have c1':qM (gN 0) (cT (c2 ltD (cL jB (zA (cL xX (zA (gv 1) (zA (gv 0) zC))) zC)) (cst (.int 4)))) (gv 0) [none,some (.dat t.d)] ((plc t).map pD)=some (((plc t).filter λp=>(qB t p).any λu=>decide (kU u<4)).map pD):=m1c;have l1:((plc t).filter λp=>(qB t p).any λu=>decide (kU u<4)).length<=60:=by have:=List.length_filter_le (λp=>(qB t p).any λu=>decide (kU u<4)) (plc t);omega
 have m1:∀p∈(plc t).filter λp=>(qB t p).any λu=>decide (kU u<4),p∈plc t/\(qB t p).any (λu=>decide (kU u<4))=true:=λp hp=>List.mem_filter.mp hp
 generalize ((plc t).filter λp=>(qB t p).any λu=>decide (kU u<4))=L1 at c1' l1 m1;have m3c:qM (gN 0) (zbm zJ) (zbr zJ) [none,some (.dat t.d)] (L1.map pD)=some ((L1.filter λp=>(qB t p).any λu=>!u.isBl).map pD):=by
  refine zal λp hp=>⟨[some (.dat (pD p)),some (.dat t.d)],rfl,?_,λ_=>rfl⟩
  obtain⟨u,hu,lp,wu,zu⟩:=pa p (m1 p hp).1;rw[hu];cases u with
  |bl x=>simp only[kA]at lp;simp! [lp,T.isBl]
  |nd s ts=>simp only[jE]at lp;simp! [lp,T.isBl]
 have c3':qM (gN 0) (cT (c1 (kW "tuple") (cL xX (zA (gv 1) (zA (gv 0) zC))))) (gv 0) [none,some (.dat t.d)] (L1.map pD)=some ((L1.filter λp=>(qB t p).any λu=>!u.isBl).map pD):=m3c;have l2:(L1.filter λp=>(qB t p).any λu=>!u.isBl).length<=60:=by have:=List.length_filter_le (λp=>(qB t p).any λu=>!u.isBl) L1;omega
 have m2:∀p∈L1.filter λp=>(qB t p).any λu=>!u.isBl,p∈L1/\(qB t p).any (λu=>!u.isBl)=true:=λp hp=>List.mem_filter.mp hp
 generalize (L1.filter λp=>(qB t p).any λu=>!u.isBl)=L2 at c3' l2 m2;have zp:((plc t).map pD).length<=1000000:=by rw[List.length_map];omega
 have z1:L1.length<=1000000:=by omega
 have z2:L2.length<=1000000:=by omega
 have eq:=zkb L2;cases L2 with
 |nil=>
  refine⟨t,?_,hw,by omega,λx hx=>hx⟩;simp only[List.map_nil,List.isEmpty_nil]at eq c3';generalize (plc t).map pD=PP at pc c1' zp
  dsimp! [zaj,pc,c1',c3',zp,z1,eq]
 |cons p0 L2=>
  have h0:0<=n%((p0::L2).length:Int):=Int.emod_nonneg _ (by simp<;>omega);have h1:n%((p0::L2).length:Int)<((p0::L2).length:Int):=Int.emod_lt_of_pos _ (by simp<;>omega);obtain⟨p,ep,hp⟩:∃p,atI (p0::L2) (n%((p0::L2).length:Int))=some p/\p∈p0::L2:=
   ⟨(p0::L2)[(n%((p0::L2).length:Int)).toNat]'(by omega),by rw[wY h0 h1,List.getElem?_eq_getElem (by omega)],List.getElem_mem _⟩
  obtain⟨hp1,hp2⟩:=m2 p hp;obtain⟨hp3,hp4⟩:=m1 p hp1;obtain⟨u,hu,lp,wu,zu⟩:=pa p hp3;rw[hu]at hp2 hp4;cases u with
  |bl x=>simp[T.isBl]at hp2
  |nd s ts=>
   have tl:ts.length+1<4:=by simp only[kU,Option.any_some]at hp4;exact of_decide_eq_true hp4
   have ppl:=zaT p t _ hu;have wn:WT qs bs (.nd s (ts++[.nd w []])):=by
    cases wu with
    |nd hs hk=>
     have:=(hq s _ hs).2 (by omega);refine .nd (by rw[List.length_append];simpa using this) λv hv=>?_
     rcases List.mem_append.mp hv with hv|hv
     ·exact hk v hv
     ·rw[List.mem_singleton.mp hv];exact .nd (by simpa using hw0) (λ_ h=>by cases h)
   have pt:vQ [t.d,pD p,(T.nd s (ts++[.nd w []])).d]=some (jK t p (.nd s (ts++[.nd w []]))).d:=zhw 100 p t _ _ (by omega) (by omega) hu (by omega);have ps:=zbX p t (.nd s (ts++[.nd w []]));have zn:(T.nd s (ts++[.nd w []])).size<=t.size+1:=by rw[T.size,xH]at*;simp only[T.sizes,T.size]at*;omega
   refine⟨jK t p (.nd s (ts++[.nd w []])),?_,WT.put wn p t _ hu hw,by omega,λx hx=>?_⟩
   ·simp only[List.isEmpty_cons]at eq;rw[jE]at lp pt;rw[List.map_append,List.map_cons,List.map_nil,jE,List.map_nil]at pt;have am:atI ((p0::L2).map pD) (n%((p0::L2).length:Int))=some (pD p):=by rw[kL,ep];rfl
    have hm:vN ((p0::L2).length:Int):=by show(0:Int)<_;simp<;>omega
    have z3:ts.length+1+1<=1000000:=by omega
    generalize (plc t).map pD=PP at pc c1' zp;have lL:((p0::L2).map pD).length=(p0::L2).length:=List.length_map _;generalize (p0::L2).map pD=QQ at c3' eq am lL;generalize (p0::L2).length=NN at am hm z2 lL
    dsimp! [zaj,pc,c1',c3',zp,z1,eq,lL,z2,am,hm,lp,pt,z3]
   ·rcases zgQ p t _ x hx with h|h
    ·exact h
    ·have hs:∀(p:List Int) (t u:T),qB t p=some u->∀x∈vs u,x∈vs t:=by
      intro p;induction p with
      |nil=>
       intro t u h x hx
       have:some t=some u:=by cases t<;>simpa[qB]using h
       cases this;exact hx
      |cons k p ih=>
       intro t u h x hx;obtain⟨s,ts,c,rfl,h0,e,h2⟩:=gK h;rw[vs,zcl];exact⟨c,List.mem_of_getElem? e,ih c u h2 x hx⟩
     refine hs p t _ hu x ?_;rw[vs,zdI]at h;rw[vs];simpa[vs,vsL]using h
def L5:List Str:=(Str.ofString "QJXZK").cps.toList.map λc=>⟨#[c]⟩
theorem zmL:L5.length=5:=by decide+kernel
theorem zrs:L5.Nodup:=by decide+kernel
structure Rk(qs:SI)(bs:List Str)(a b:Nat)(r:T×T):Prop where
 w1:WT qs bs r.1
 w2:WT qs bs r.2
 z1:r.1.size<=a
 z2:r.2.size<=b
 b4:∃B:List Str,B.length<=4/\∀x∈vs r.1,x∈B
theorem Rk.mono{qs:SI}{bs:List Str}{a b a' b':Nat}{r:T×T}(h:Rk qs bs a b r)(ha:a<=a')(hb:b<=b'):Rk qs bs a' b' r:=⟨h.w1,h.w2,Nat.le_trans h.z1 ha,Nat.le_trans h.z2 hb,h.b4⟩
theorem zqt(l:T)(h:∃B:List Str,B.length<=4/\∀x∈vs l,x∈B):∃x r,(L5.filter λx=>!decide (x∈bks l))=x::r/\x∈L5:=by
 obtain⟨B,hB,hv⟩:=h;cases e:L5.filter λx=>!decide (x∈bks l)with
 |cons x r=>exact⟨x,r,rfl,(List.mem_filter.mp (by rw[e];simp:x∈L5.filter λx=>!decide (x∈bks l))).1⟩
 |nil=>
  have:=zgs L5 B zrs λx hx=>by have h:=List.filter_eq_nil_iff.mp e x hx;simp only[Bool.not_eq_true',decide_eq_false_iff_not,Decidable.not_not]at h;exact hv x ((zcv l).mp h)
  rw[zmL]at this;omega
theorem zfG{qs:SI}{bs:List Str}(hb:∀x∈bs,x.length<=16)(hq:∀s k,(s,k)∈qs->0<=k/\(k<=2->(s,k+1)∈qs)){w:Str}(hw0:(w,0)∈qs)(hL:∀x∈L5,x∈bs)(hQ:Str.ofString "Q"∈bs){ps:SI}(hp:atI (ps.map sd) 0=some (.tup [.str w,.int 0])){a b:Nat}(ha:a<=29)(hbb:b<=59)(rs:List (T×T))(h1:1<=rs.length)(h9:rs.length<=9)(hr:∀r∈rs,Rk qs bs a b r)(c n:Int):
  ∃rs':List (T×T),nL [.lst (rs.map rD),.int c,.int n,.lst (ps.map sd)]=some (.lst (rs'.map rD))/\rs'.length=rs.length/\∀r∈rs',Rk qs bs (2*a+1) (b+1) r:=by
 have i0:0<=n%(rs.length:Int):=Int.emod_nonneg _ (by omega);have i1:n%(rs.length:Int)<(rs.length:Int):=Int.emod_lt_of_pos _ (by omega);obtain⟨j,hj⟩:∃j:Nat,n%(rs.length:Int)=(j:Int):=⟨(n%(rs.length:Int)).toNat,by omega⟩;have jl:j<rs.length:=by omega
 obtain⟨⟨l,r⟩,er⟩:∃r,rs[j]?=some r:=⟨_,List.getElem?_eq_getElem jl⟩;have hm:=List.mem_of_getElem? er;have R:=hr _ hm;have at':atI (rs.map rD) (j:Int)=some (rD (l,r)):=by rw[kL,vD er];rfl
 have ix:ixN rs.length (j:Int)=some j:=by unfold ixN;simp[jl]
 have om:vN (rs.length:Int):=by show(0:Int)<_;omega
 have zr:rs.length<=1000000:=by omega
 have lr:(rs.map rD).length=rs.length:=List.length_map _;have up:∀q:T×T,Rk qs bs (2*a+1) (b+1) q->∀x∈rs.set j q,Rk qs bs (2*a+1) (b+1) x:=λq hq' x hx=>by
  rcases List.mem_or_eq_of_mem_set hx with h|rfl
  ·exact(hr x h).mono (by omega) (by omega)
  ·exact hq'
 have st:∀q:T×T,(rs.map rD).set j (rD q)=(rs.set j q).map rD:=λq=>by rw[List.map_set]
 have R1:=R.w1;have R2:=R.w2;have Rz1:l.size<=a:=R.z1;have Rz2:r.size<=b:=R.z2;have dl:=yT l;have dr:=yT r;simp only[rD]at at';rcases(by omega:c%4=0\/c%4=1\/c%4=2\/c%4=3)with e|e|e|e
 ·refine⟨rs,?_,rfl,λx hx=>(hr x hx).mono (by omega) (by omega)⟩;generalize rs.map rD=RS at at' lr
  simp! [nL,lr,zr,om,hj,at',e,eqD,dep]
 ·refine⟨rs.set j (.bl "Q",r),?_,by simp,up _ ⟨.bl hQ,R2,by simp[T.size],by simp only;omega,[Str.ofString "Q"],by simp,by simp[vs]⟩⟩;have s:=st (.bl "Q",r);simp only[rD,kA]at s;rw[←s];generalize rs.map rD=RS at at' lr
  simp! [nL,lr,zr,om,hj,at',e,eqD,dep,yD,ix]
 ·have pc:xL [r.d]=some (.lst ((plc r).map pD)):=zcK 100 r (by omega) (by omega) (by omega);have bo:kR [l.d]=some (.lst ((bks l).map D.str)):=zbl 100 l (by omega) (by omega);have sz:=nH r;have pl:=gJ r;have q0:0<=n/4%(r.size:Int):=Int.emod_nonneg _ (by omega);have q1:n/4%(r.size:Int)<(r.size:Int):=Int.emod_lt_of_pos _ (by omega);obtain⟨p,hp'⟩:∃p,(plc r)[(n/4%(r.size:Int)).toNat]?=some p:=⟨_,List.getElem?_eq_getElem (by omega)⟩;have ap:atI ((plc r).map pD) (n/4%(r.size:Int))=some (pD p):=by rw[wY q0 (by rw[List.length_map,pl];exact q1),List.getElem?_map,hp'];rfl
  obtain⟨u,hu⟩:=zhe r p (List.mem_of_getElem? hp');have ppl:=zaT p r u hu;obtain⟨x,rest,ex,hx5⟩:=zqt l R.b4;have pt:vQ [r.d,pD p,(T.bl x).d]=some (jK r p (.bl x)).d:=zhw 100 p r u (.bl x) (by omega) (by omega) hu (by omega);have psz:=zbX p r (.bl x);have cm:qM (gN 0) (zaL zJ) (zaM zJ) [none,some (.dat l.d)] (L5.map D.str)=some ((L5.filter λx=>!decide (x∈bks l)).map D.str):=by
   refine zal λx hx=>⟨[some (.dat (.str x)),some (.dat l.d)],rfl,?_,λ_=>rfl⟩
   have i1:=zcp x (bks l);have dz:zU ((bks l).map D.str)<=100:=by have:=zbD (bks l);omega
   simp! [bo,i1,dz]
  rw[ex]at cm;have sg:zdK (Str.ofString "QJXZK")=L5.map D.str:=by unfold zdK L5;rw[List.map_map];rfl
  have cm':qM (gN 0) (cT (c2 yF (gv 0) (cL kR (zA (gv 1) zC)))) (gv 0) [none,some (.dat l.d)] (L5.map D.str)=some (D.str x::rest.map D.str):=cm;have z5:(L5.map D.str).length<=1000000:=by rw[List.length_map,zmL];decide
  refine⟨rs.set j (l,jK r p (.bl x)),?_,by simp,up _ ⟨R1,WT.put (.bl (hL x hx5)) p r u hu R2,by simp only;omega,by simp only[T.size]at psz;simp only;omega,R.b4⟩⟩;have s:=st (l,jK r p (.bl x));simp only[rD]at s;rw[←s];have lp:((plc r).map pD).length=r.size:=by rw[List.length_map,pl]
  have om2:vN (r.size:Int):=by show(0:Int)<_;omega
  have zs:r.size<=1000000:=by omega
  rw[kA]at pt;generalize rs.map rD=RS at at' lr;generalize (plc r).map pD=PP at pc ap lp;generalize L5.map D.str=LL at sg cm' z5;generalize r.size=SZ at*
  simp! [nL,lr,zr,om,hj,at',e,eqD,dep,yD,ix,pc,sg,cm',z5,lp,zs,om2,ap,pt]
 ·obtain⟨t',e1,e2,e3,e4⟩:=zkg hb l (n/4) w R1 (by omega) hq hw0;obtain⟨B,b1,b2⟩:=R.b4;refine⟨rs.set j (t',r),?_,by simp,up _ ⟨e2,R2,by simp only;omega,by simp only;omega,B,b1,λx hx=>b2 x (e4 x hx)⟩⟩;have s:=st (t',r);simp only[rD]at s;rw[←s];generalize rs.map rD=RS at at' lr;generalize ps.map sd=PS at hp ⊢
  simp! [nL,lr,zr,om,hj,at',e,eqD,dep,yD,ix,hp,e1]
theorem zqu{ps:SI}{bs:List Str}(hp:∀p∈ps,OkW p.1)(hb:∀x∈bs,OkW x)(r:T×T)(h1:WT ps bs r.1)(h2:WT ps bs r.2)(z1:r.1.size<=60)(z2:r.2.size<=60):shD (rD r)=true:=by
 obtain⟨a1,a2,a3,a4,a5⟩:=ziN hp hb r.1 h1;obtain⟨b1,b2,b3,b4,b5⟩:=ziN hp hb r.2 h2;have d1:=yT r.1;have d2:=yT r.2;refine zox (B:=100000) ?_ ?_ ?_ ?_ ?_ (by decide) (.inr (.inl ⟨_,rfl⟩))
 ·simp[rD,plD,wK,a1,b1]
 ·simp[rD,pyD,kH,PyData.showable,PyData.showableAll,a2,b2]
 ·simp only[rD,pyD,kH,PyData.depth,PyData.depthAll];omega
 ·simp only[rD,pyD,kH,PyData.leavesShort,PyData.leavesShortAll,a4,b4];rfl
 ·simp only[rD,pyD,kH,PyData.weight,PyData.weightAll];omega
theorem sh_w{x:Str}(h:OkW x):shD (.str x)=true:=by have k:x.cps.size<=16:=h.1;exact zox (B:=100) (by rfl) (by rfl) (by simp[pyD,PyData.depth]) (zcH h) (by simp only[pyD,PyData.weight];omega) (by decide) (.inl ⟨_,rfl⟩)
theorem FACT23:∀ns:List Int,ns.length<=63->m_law23 [.scr ns]=some (.bl true):=by
 intro ns hn;have c0:=zhx ns 0 (by omega);have c1':=zhx ns 1 (by omega);have c2':=zhx ns 2 (by omega);obtain⟨ps,s1,S,_,sL⟩:=zlR (cellOf ns 0);obtain⟨bs,b1,b2,b3,bU⟩:=zkm (cellOf ns 1);have hi:=S.hi;have lo:=S.lo;obtain⟨⟨w,k0⟩,ew⟩:∃p,ps[0]?=some p:=⟨_,List.getElem?_eq_getElem (by omega)⟩;have hk0:=S.fst _ ew;simp only at hk0;subst hk0;have wm:=List.mem_of_getElem? ew;have hp0:atI (ps.map sd) 0=some (.tup [.str w,.int 0]):=by rw[kL,show atI ps 0=atI ps ((0:Nat):Int)from rfl,vD ew];rfl
 have hok:∀p∈anyC ps,OkW p.1:=λp hp=>by obtain⟨j,hj⟩:=zeQ hp;exact zmy (x:=p.1) (sL (p.1,j) hj) (S.wd (p.1,j) hj)
 have l5:∀x∈L5,OkW x:=by
  intro x hx;refine⟨?_,?_⟩
  ·have:∀x∈L5,x.length<=16:=by decide+kernel
   exact this x hx
  ·have:∀x∈L5,∀c∈x.cps.toList,c<16^8:=by decide+kernel
   exact this x hx
 have okQ:OkW (Str.ofString "Q"):=⟨by decide+kernel,by decide+kernel⟩;obtain⟨cs,hcs⟩:∃cs:List Str,cs=bs++Str.ofString "Q"::L5:=⟨_,rfl⟩;have hbo:∀x∈cs,OkW x:=λx hx=>by
  rw[hcs]at hx;rcases List.mem_append.mp hx with h|h
  ·exact zpj (bU x h)
  ·rcases List.mem_cons.mp h with rfl|h
   ·exact okQ
   ·exact l5 x h
 have hbc:∀x∈bs,x∈cs:=λx hx=>by rw[hcs];exact List.mem_append_left _ hx
 have hL:∀x∈L5,x∈cs:=λx hx=>by rw[hcs];exact List.mem_append_right _ (List.mem_cons_of_mem _ hx)
 have hQ:Str.ofString "Q"∈cs:=by rw[hcs];exact List.mem_append_right _ (List.mem_cons_self)
 have hb16:∀x∈cs,x.length<=16:=λx hx=>(hbo x hx).1
 have hq:∀s k,(s,k)∈anyC ps->0<=k/\(k<=2->(s,k+1)∈anyC ps):=λs k h=>by
  have h':=zeQ h;have k0:0<=k:=by obtain⟨p,_,h⟩:=List.mem_flatMap.mp h;simp at h;omega
  exact⟨k0,λk2=>zev h' (by omega) (by omega)⟩
 have hw0:(w,(0:Int))∈anyC ps:=zev ⟨_,wm⟩ (by omega) (by omega);have good:∀(rs:List (T×T)) (t:T) (cl:Int),rs.length<=9->(∀r∈rs,Rk (anyC ps) cs 60 60 r)->WT (anyC ps) cs t->t.size<=60->gM [.lst (rs.map rD),t.d,.int cl]=some (.bl true):=λrs t cl h9 hr ht hz=>by
  refine zlV rs ⟨h9,λr h=>⟨(hr r h).z1,(hr r h).z2⟩,λr h=>zqu hok hbo r (hr r h).w1 (hr r h).w2 (hr r h).z1 (hr r h).z2⟩ t hz (ps.map (·.1)) (by rw[List.length_map];omega) (λq h=>?_) (λx hx=>?_) cl
  ·have:q∈anyC ps:=by
    unfold row at h;rcases List.mem_append.mp h with h|h
    ·exact zmg t ht q h
    ·obtain⟨r,h1,h⟩:=List.mem_flatMap.mp h;rcases List.mem_append.mp h with h|h
     ·exact zmg _ (hr r h1).w1 q h
     ·exact zmg _ (hr r h1).w2 q h
   obtain⟨j,hj⟩:=zeQ this;exact List.mem_map.mpr ⟨_,hj,rfl⟩
  ·obtain⟨p,hp,rfl⟩:=List.mem_map.mp hx;exact sh_w (zmy (sL p hp) (S.wd p hp))
 have h0:0<=cellOf ns 2%4:=Int.emod_nonneg _ (by decide);have h4:cellOf ns 2%4<4:=Int.emod_lt_of_pos _ (by decide);obtain⟨m,hm⟩:∃m:Nat,1+cellOf ns 2%4=(m:Int):=⟨(1+cellOf ns 2%4).toNat,by omega⟩;have om:wM (m:Int):=xI (by omega) (by omega);have zm:m<=1000000:=by omega
 obtain⟨rs,r1,r2,r3⟩:=zaY rD (λ_ r=>Rk (anyC ps) cs 7 40 r) (g:=gN 0) (f:=zed zJ) (ρ:=[none,some (.dat (.lst (ps.map sd))),some (.dat (.lst (bs.map D.str))),some (.dat (.scr ns))]) (xs:=jJ 0 m) 0 (by intro i x hx;obtain⟨hi,rfl⟩:=wH hx;rw[Int.zero_add];have ci:=zhx ns (3+(i:Int)) (by omega);obtain⟨l,r,e,q1,q2,q3,q4,q5,q6,q7,q8⟩:=zlS (cellOf ns (3+(i:Int))) ps bs S b2 b3;exact⟨_,(l,r),rfl,by simp! [ci,e],q3.anyC S hbc,q4.anyC S hbc,q5,q7,bs,b3,λx hx=>zob q3 x hx⟩)
 rw[jZ]at r2;have rm:∀r∈rs,Rk (anyC ps) cs 7 40 r:=λr hr=>by obtain⟨i,hi⟩:=List.mem_iff_getElem?.mp hr;exact r3 i r hi
 obtain⟨us,q1,q2⟩:=zlQ (cellOf ns 2/4) 10 (by omega);obtain⟨t,t1,t2,t3,tW⟩:=zkh us ps bs 6 S b2 (by omega) (by decide) (by decide) (by omega) (by omega);have q1:zan [.int (cellOf ns 2/4),.int 10]=some (.lst (us.map D.int)):=q1;have tW':=tW.anyC S hbc;have tz:t.size<=10:=by omega
 have cl:(jG ns (some 7) (some 20)).length<=63:=by unfold jG;rw[List.length_take,List.length_drop];omega
 generalize hds:jG ns (some 7) (some 20)=ds at cl;obtain⟨ρ3,f3,k6,k7,k8,rfl⟩:=xO (g:=gN 6) (b:=zdS zJ) (xs:=(0::1::2::3::ds).map D.int) (ρ:=[some (.dat (.scr ns)),some (.dat (.lst (ps.map sd))),some (.dat (.lst (bs.map D.str))),some (.dat (.int m)),some (.dat (.lst (rs.map rD))),some (.dat t.d),none,none,none])
  (λi ρ=>∃k6 k7 k8:Option Sl,ρ=[some (.dat (.scr ns)),some (.dat (.lst (ps.map sd))),some (.dat (.lst (bs.map D.str))),some (.dat (.int m)),some (.dat (.lst (rs.map rD))),some (.dat t.d),k6,k7,k8]) ⟨_,_,_,rfl⟩ (by
   rintro i x ρ hx ⟨k6,k7,k8,rfl⟩;obtain⟨c,_,rfl⟩:=List.mem_map.mp (List.mem_of_getElem? hx);obtain⟨n,en⟩:∃n:Int,c/8*1000000007%2147483647=n:=⟨_,rfl⟩;obtain⟨ra,a1,a2,a3⟩:=zfG hb16 hq hw0 hL hQ hp0 (a:=7) (b:=40) (by omega) (by omega) rs (by omega) (by omega) rm c n;have g1:=good ra t c (by omega) (λr h=>(a3 r h).mono (by omega) (by omega)) tW' (by omega);by_cases h2:c/4%2=1
   ·obtain⟨rb,d1,d2,d3⟩:=zfG hb16 hq hw0 hL hQ hp0 (a:=15) (b:=41) (by omega) (by omega) ra (by omega) (by omega) a3 n (n/7);obtain⟨t',w1,w2,w3,_⟩:=zkg hb16 t n w tW' (by omega) hq hw0;have g2:=good rb t' c (by omega) (λr h=>(d3 r h).mono (by omega) (by omega)) w2 (by omega);refine⟨[some (.dat (.scr ns)),some (.dat (.lst (ps.map sd))),some (.dat (.lst (bs.map D.str))),some (.dat (.int m)),some (.dat (.lst (rs.map rD))),some (.dat t.d),some (.dat (.int c)),some (.dat (.int n)),some (.dat (.lst (rb.map rD)))],.inl ?_,_,_,_,rfl⟩;generalize ps.map sd=PS at*;generalize rs.map rD=RS at*;generalize ra.map rD=RA at*;generalize rb.map rD=RB at*
    simp! [en,a1,g1,h2,d1,w1,g2,hp0,eqD,dep]
   ·refine⟨[some (.dat (.scr ns)),some (.dat (.lst (ps.map sd))),some (.dat (.lst (bs.map D.str))),some (.dat (.int m)),some (.dat (.lst (rs.map rD))),some (.dat t.d),some (.dat (.int c)),some (.dat (.int n)),some (.dat (.lst (ra.map rD)))],.inl ?_,_,_,_,rfl⟩;generalize ps.map sd=PS at*;generalize rs.map rD=RS at*;generalize ra.map rD=RA at*
    simp! [en,a1,g1,h2,eqD,dep])
 have g0:=good rs t 0 (by omega) (λr h=>(rm r h).mono (by omega) (by omega)) tW' (by omega);have hy:4+ds.length<=1000000:=by omega
 have hy':ds.length+4<=1000000:=by omega
 simp only[List.map_cons]at f3
 simp! [m_law23,c0,c1',c2',s1,b1,hm,om,zm,jZ,r1,q1,t1,hds,hy,hy',f3,g0]
abbrev pwk:Program:=PySem.Challenge.pw_endmeet_k23_rules_refused
abbrev rwk:PySem.W.OpenLaw:=PySem.Challenge.rw_endmeet_k23_rules_refused
def fnI:List Nat:=[8,9,10,12,22,23,24,25,27,30,31,32,34,35,36,37,38,39,40,41,42,43,44,45,46,47,48,51,52,53,54,55,56,57,58]
def qwk:Program:={pwk with main:={pwk.main with body:=[zZ pwk 58]}}
def lzk:List Str:=pwk.main.body.dropLast.filterMap λst=>match st with
 | .FunctionDef n ..=>some n
 | .ClassDef n ..=>some n
 | .Assign [.Name n _] _ _=>if n=="__name__"then none else some n
 |_=>none
def clI:List Nat:=[1,2,3,4,5,6]
def xcl:List Str:=["NoPlace","NoRule","TwoCounts","TooLong","NoRank"]
structure YZ(Z:ZZ):Prop where
 B:Glb Z.mg
 F:FNs pwk fnI Z
 XS:Exs Z.P Z.w Z.K Z.mg Z.base xcl
variable{Z:ZZ}
theorem zfh(Y:YZ Z):Fq Z "_law_words" ["_law_cell_here"] .ow 1 zar:=
 mkF Y.F 35 ["_law_cell_here","_law_letters","_law_number","_law_base","_law_k","_law_at"] λnd _ n _ _ _ _ _ _ hr=>zH (zY 1 nd xB) (zH (zY 2 nd (fop qY (bop wL (fb 0) bi) (bop zqN bi bi))) (zH (zY 3 nd xB) (zH (yC PassesOwn.never rfl (xM (fop qY (fb 2) bi) rfl Y.B.range) (qU 4 nd) (zH (zY 3 nd (fop qP (fb 3) (biz (fb 1) (bop qY (bop kP (fb 2) bi) bi)))) (zK (zY 2 nd (fop kP (fb 2) bi))))) (zH (zY 5 nd (fop qY (bop kP (fb 2) bi) (bop qP (bln Y.B (fb 3)) bi))) (zH (sif (FTp.up (tcq (peq hr) (bop qY (fb 2) bi) bi)) (zH (zY 3 nd (zrb xB (FP.ob (xD ["_law_k","_law_letters","_law_number"] [none,some 1,some 2] (.own (.cap (.cap .nil))) rfl (xM zP rfl Y.B.range) (λ_ _ _ _=>gnm 0) (λ_ _ _ _=>yY) λ_ _ _ _=>fiz (fb 1) (bop qY (bop kP (fb 2) (bop qP bi (bop wL (fb 0) (fb 0)))) bi))))) (zK (wB (xD ["_law_k","_law_base"] [none,some 3] (.own (.cap .nil)) rfl (xM zP rfl Y.B.range) (λ_ _ _ _=>gnm 0) (λ_ _ _ _=>yY) λ_ _ _ _=>xC yZ (fb 1) xJ (yP (fop qP (fb 0) bi)))))) qN) (zK (wB (xD ["_law_k","_law_base","_law_letters","_law_at","_law_number"] [none,some 3,some 1,some 5,some 2] (.own (.cap (.cap (.cap (.cap .nil))))) rfl (xM zP rfl Y.B.range) (λ_ _ _ _=>gnm 0) (λ_ _ _ _=>yY) λ_ _ _ _=>fop qP (bop qP (FP.br (xC yZ (fb 1) xJ (yP (fv 3)))) (biz (fb 2) (bop qY (bop qP (bop kP (fb 4) bi) (bop wL bi (fb 0))) bi))) (FP.br (xC yZ (fb 1) (yP (fv 3)) xJ))))))))))
theorem zfi(Y:YZ Z):Fq Z "_law_sorts" ["_law_cell_here"] .ow 2 zaC:=
 mkF Y.F 36 ["_law_cell_here","_law_words_here","_law_counts_here","_law_many"] λnd _ n _ _ _ _ _ _ hr=>zH (zY 1 nd (FP.fz (fk (zfh Y) hr (zB (fv 0) zE)))) (zH (zY 2 nd (fiz (FP.ob (qJ (zB (FP.fz (qJ (zB zP (zB zP (zB zP (zB zP (zB zP zE))))))) (zB (FP.fz (qJ (zB zP (zB zP (zB zP (zB zP (zB zP zE))))))) (zB (FP.fz (qJ (zB zP (zB zP (zB zP (zB zP (zB zP zE))))))) (zB (FP.fz (qJ (zB zP (zB zP (zB zP (zB zP (zB zP zE))))))) zE)))))) (bop qY (bop kP (fb 0) bi) bi))) (zH (zY 3 nd (fop qP bi (bop qY (bop kP (fb 0) bi) bi))) (zK (wB (xD ["_law_k","_law_words_here","_law_counts_here"] [none,some 1,some 2] (.own (.cap (.cap .nil))) rfl (xM (fv 3) rfl Y.B.range) (λ_ _ _ _=>gnm 0) (λ_ _ _ _=>yY) λ_ _ _ _=>jP (zB (fiz (fb 1) (fb 0)) (zB (fiz (fb 2) (fb 0)) zE)))))))
theorem zen(Y:YZ Z):Fq Z "_law_blanks" ["_law_cell_here"] .ow 1 zat:=
 mkF Y.F 37 ["_law_cell_here","_law_letters"] λnd _ n _ _ _ _ _ _ hr=>zH (zY 1 nd xB) (zK (wB (xD ["_law_k","_law_letters","_law_cell_here"] [none,some 1,some 0] (.own (.cap (.cap .nil))) rfl (xM (fop qP bi (bop qY (bop kP (fb 0) bi) bi)) rfl Y.B.range) (λ_ _ _ _=>gnm 0) (λ_ _ _ _=>yY) λ_ _ _ _=>fiz (fb 1) (bop qY (bop qP (bop qY (fb 2) bi) (bop wL bi (fb 0))) bi))))
theorem zfj(Y:YZ Z):Fq Z "_law_grown" ["_law_row","_law_number","_law_sorts_here","_law_blanks_here","_law_most"] .ow 1 yH:=
 mkF Y.F 38 ["_law_row","_law_number","_law_sorts_here","_law_blanks_here","_law_most","_law_word","_law_many","_law_last","_law_nest"] λnd _ n _ _ _ _ _ _ hr=>zH (sasg (fiz (fb 2) (bop qY (fb 1) (bln Y.B (fb 2)))) (nQ rfl (yJ (qU 5 nd) (yJ (qU 6 nd) nR)) (yI (yI nM)))) (zH (zY 1 nd (fop kP (fb 1) bi)) (zH (zY 7 nd (xC yZ (fb 0) (yP (fop zlj (bln Y.B (fb 0)) (fb 6))) xJ)) (zH (zY 8 nd (zqZ rfl rfl Y.B.max (FP.ob (xD ["_law_one"] [none] (.own .nil) rfl (jO (fv 7)) (λ_ _ _ _=>gnm 0) (λ_ _ _ _=>yY) λ_ _ _ _=>fiz (fb 0) bi)) zP)) (zH (sif (FTp.up (FWp.pt (tand (tcq p_gt (fb 6) bi) (tand (tcq p_le (fb 6) (bln Y.B (fb 0))) (tand (tcq p_lt (fb 8) (fb 4)) (zok (tcq p_gt (bop qY (fb 1) bi) bi))))))) (zK (wB (fop znp (FP.br (xC yZ (fb 0) xJ (yP (fop zlj (bln Y.B (fb 0)) (fb 6))))) (FP.ob (qJ (zB (FP.fz (qJ (zB (fop qP (FP.br (jP (zB (fv 5) zE))) (FP.br (zfD znV rfl Y.B.tuple PyProof.Rows.boot_tuple (vW (FP.ob (xD ["_law_one"] [none] (.own .nil) rfl (jO (fv 7)) (λ_ _ _ _=>gnm 0) (λ_ _ _ _=>yY) λ_ _ _ _=>fiz (fb 0) bi)) zE)))) (zB (fop qP (fb 8) bi) zE)))) zE)))))) qN) (zH (sif (FTp.up (FWp.pt (tor (tcq (peq hr) (fb 3) (FP.ob (qJ zE))) (tor1 (tcq (peq hr) (bop qY (bop kP (fb 1) bi) bi) bi))))) (zK (wB (fop znp (fb 0) (FP.ob (qJ (zB (FP.fz (qJ (zB (jP (zB (fiz (biz (fb 2) bi) bi) zE)) (zB zP zE)))) zE)))))) qN) (zK (wB (fop znp (fb 0) (FP.ob (qJ (zB (FP.fz (qJ (zB (fiz (fb 3) (bop qY (bop kP (fb 1) bi) (bln Y.B (fb 3)))) (zB zP zE)))) zE)))))))))))
theorem zcz(Y:YZ Z):Fq Z "_law_count" ["_law_term_here"] .fz 100 zca:=
 recF Y.F 42 0 100 λ_ ih=>mkF Y.F 42 ["_law_term_here"] λnd _ n _ _ _ _ _ _ hr=>zH (sif (FTp.up (kT (nS (fb 0) rfl Y.B.isi rfl Y.B.str PyProof.Rows.boot_str))) (zK (qL zP)) qN) (zK (qL (fop qP bi (FP.br (zdV (zrm rfl) rfl Y.B.sum PyProof.Rows.boot_sum (vW (FP.ob (xD ["_law_part_here"] [none] (.own .nil) rfl (jO (xC yZ (fb 0) (yP zP) xJ)) (λ_ _ _ _=>gnm 0) (λ_ _ _ _=>yY) λ_ _ _ _=>fk ih hr (zB (fv 0) zE))) zE))))))
theorem zbM(Y:YZ Z):Fq Z "_law_term" ["_law_numbers","_law_sorts_here","_law_blanks_here","_law_most"] .fz 101 gO:=
 mkF Y.F 43 ["_law_numbers","_law_sorts_here","_law_blanks_here","_law_most","_law_row","_law_number","_law_found","_law_one"] λnd _ n _ _ _ _ _ _ hr=>zH (zY 4 nd (FP.fz (qJ zE))) (zH (yC PassesOwn.never rfl (jO (fv 0)) (qU 5 nd) (zK (zY 4 nd (FP.fz (fk (zfj Y) hr (zB (fv 4) (zB (fv 5) (zB (fv 1) (zB (fv 2) (zB (fv 3) zE)))))))))) (zH (zY 6 nd (fiz (biz (fb 4) bi) bi)) (zH (yC PassesOwn.never rfl (jO (xC yZ (fb 4) (yP zP) xJ)) (qU 7 nd) (zK (sif (FTp.up (tcq (p_ge (u100 hr)) (FP.br (fk (zcz Y) hr (zB (fiz (fb 7) bi) zE))) (FP.br (fk (zcz Y) hr (zB (fv 6) zE))))) (zK (zY 6 nd (fiz (fb 7) bi))) qN))) (zK (qL (fv 6))))))
theorem zaR(Y:YZ Z):Fq Z "_law_counts" ["_law_term_here"] .fz 100 vR:=
 recF Y.F 53 0 100 λ_ ih=>mkF Y.F 53 ["_law_term_here","_law_found","_law_part_here"] λnd _ n _ _ _ _ _ _ hr=>zH (sif (FTp.up (kT (nS (fb 0) rfl Y.B.isi rfl Y.B.str PyProof.Rows.boot_str))) (zK (qL (FP.fz (qJ zE)))) qN) (zH (zY 1 nd (FP.fz (qJ (zB (jP (zB (fiz (fb 0) bi) (zB (fop zlj (bln Y.B (fb 0)) bi) zE))) zE)))) (zH (yC PassesOwn.never rfl (jO (xC yZ (fb 0) (yP zP) xJ)) (qU 2 nd) (zK (zY 1 nd (fop qP (fb 1) (FP.br (fk ih hr (zB (fv 2) zE))))))) (zK (qL (fv 1)))))
theorem zae(Y:YZ Z):Fq Z "_law_blanks_of" ["_law_term_here"] .fz 100 kR:=
 recF Y.F 44 0 100 λ_ ih=>mkF Y.F 44 ["_law_term_here","_law_found","_law_part_here"] λnd _ n _ _ _ _ _ _ hr=>zH (sif (FTp.up (kT (nS (fb 0) rfl Y.B.isi rfl Y.B.str PyProof.Rows.boot_str))) (zK (qL (FP.fz (qJ (zB (fv 0) zE))))) qN) (zH (zY 1 nd (FP.fz (qJ zE))) (zH (yC PassesOwn.never rfl (jO (xC yZ (fb 0) (yP zP) xJ)) (qU 2 nd) (zK (zY 1 nd (fop qP (fb 1) (FP.ob (xD ["_law_blank","_law_found"] [none,some 1] (.own (.cap .nil)) rfl (jO (fk ih hr (zB (fv 2) zE))) (λ_ _ _ _=>gnm 0) (λ_ _ _ _=>pif1 (tcf (pnin hr) (fv 0) (fb 1))) λ_ _ _ _=>fv 0)))))) (zK (qL (fv 1)))))
theorem zhO(Y:YZ Z):Fq Z "_law_due" ["_law_rules","_law_term_here"] .fz 101 gP:=
 mkF Y.F 54 ["_law_rules","_law_term_here","_law_row","_law_one","_law_lacks","_law_word"] λnd _ n _ _ _ _ _ _ hr=>zH (zY 2 nd (fk (zaR Y) hr (zB (fv 1) zE))) (zH (yC PassesOwn.never rfl (jO (fv 0)) (qU 3 nd) (zH (ziI 4 ["_law_blank","_law_one"] [none,some 3] (.own (.cap .nil)) rfl nd (jO (fk (zae Y) hr (zB (fiz (fb 3) bi) zE))) (λ_ _ _ _=>gnm 0) (λ_ _ _ _=>pif1 (tcf (pnin hr) (fv 0) (FP.br (fk (zae Y) hr (zB (fiz (fb 1) bi) zE))))) λ_ _ _ _=>fv 0) (zH (sif (FTp.up (FWp.pt (tor (kT (nS (biz (fb 3) bi) rfl Y.B.isi rfl Y.B.str PyProof.Rows.boot_str)) (tor1 (tcq (pne hr) (fb 4) (FP.ob (qJ zE))))))) (zK (qL (FP.fz (qJ (zB xB (zB (fv 3) zE)))))) qN) (zK (zY 2 nd (fop qP (bop qP (fb 2) (FP.br (fk (zaR Y) hr (zB (fiz (fb 3) bi) zE)))) (FP.br (fk (zaR Y) hr (zB (fiz (fb 3) bi) zE))))))))) (zH (yC PassesOwn.never rfl (jO (FP.fz (zdV (zml rfl) rfl Y.B.sorted PyProof.Rows.boot_sorted (vW (FP.ob (zfD (zrn rfl) rfl Y.B.set boot_set (vW (FP.ob (xD ["_law_one"] [none] (.own .nil) rfl (jO (fv 2)) (λ_ _ _ _=>gnm 0) (λ_ _ _ _=>yY) λ_ _ _ _=>fiz (fb 0) bi)) zE))) zE)))) (qU 5 nd) (zK (sif (FTp.up (tcq p_gt (FP.br (zra rfl rfl Y.B.len rfl Y.B.set (FP.ob (xD ["_law_one","_law_word"] [none,some 5] (.own (.cap .nil)) rfl (jO (fv 2)) (λ_ _ _ _=>gnm 0) (λ_ _ _ _=>pif1 (tcq (peq hr) (biz (fb 0) bi) (fb 1))) λ_ _ _ _=>fiz (fb 0) bi)))) bi)) (zK (qL (FP.fz (qJ (zB xB (zB (fv 5) zE)))))) qN))) (zK (qL (FP.fz (qJ zE))))))
theorem zdz(Y:YZ Z):Fq Z "_law_refused" ["_law_e","_law_due_here"] .fz 4 zag:=
 mkF Y.F 56 ["_law_e","_law_due_here"] λnd _ n _ _ _ _ _ _ hr=>zH (sif (FTp.up (FWp.pt (tor (tnot (kT (xisV Y.XS Y.B (fb 0)))) (tor1 (kT (xisT Y.XS Y.B (.cons (.cons (.cons .nil))) (fb 0))))))) (zK (qL fbl)) qN) (zH (sif (FTp.up (tcq (peq hr) (FP.br (xisC Y.XS Y.B (fb 0))) (FP.br (xisC Y.XS Y.B (fb 0))))) (zK (qL fbl)) qN) (zH (sif (FTp.up (kT (xisC Y.XS Y.B (fb 0)))) (zK (qL (fcq (peq hr) (fb 1) (FP.ob (qJ (zB xB (zB (xfld Y.XS (fb 0)) zE))))))) qN) (zK (qL (fcq (peq hr) (fb 1) (FP.ob (qJ (zB xB (zB (xfld Y.XS (fb 0)) zE)))))))))
theorem zbz(Y:YZ Z):Fq Z "is_blank" ["term"] .fz 1 zao:=
 mkF Y.F 8 ["term"] λnd _ n _ _ _ _ _ _ hr=>zK (qL (nS (fb 0) rfl Y.B.isi rfl Y.B.str PyProof.Rows.boot_str))
theorem zek(Y:YZ Z):Fq Z "inner_parts" ["term"] .fz 2 zam:=
 mkF Y.F 9 ["term"] λnd _ n _ _ _ _ _ _ hr=>zH (sif (FTp.up (kT (fk (zbz Y) hr (zB (fv 0) zE)))) (zK (qL (jP zE))) qN) (zK (qL (xC yZ (fb 0) (yP zP) xJ)))
theorem zbF(Y:YZ Z):Fq Z "placed_parts" ["term"] .fz 3 zad:=
 mkF Y.F 10 ["term","found","waiting","place","part","inner"] λnd _ n _ _ _ _ _ _ hr=>zH (nG 1 nd (qJ zE)) (zH (nG 2 nd (qJ (zB (jP (zB (jP zE) (zB (fv 0) zE))) zE))) (zH (zoq n PassesOwn.never (FTp.up (ttru (fb 2))) (zH (zfW (xpop 2) (nQ rfl (yJ (qU 3 nd) (yJ (qU 4 nd) nR)) (yI (yI nM)))) (zH (zgY (zfR 1 (jP (zB (fv 3) (zB (fv 4) zE))))) (zH (ziI 5 ["at","held","place"] [none,none,some 3] (.own (.own (.cap .nil))) rfl nd (zpD (fk (zek Y) hr (zB (fv 4) zE)) rfl Y.B.enum) (λ_ _ _ _=>nQ rfl (yJ (gnm 0) (yJ (gnm 1) nR)) (yI (yI nM))) (λ_ _ _ _=>yY) λ_ _ _ _=>jP (zB (fop qP (fb 2) (FP.br (jP (zB (fv 0) zE)))) (zB (fv 1) zE))) (zK (zgY (zmO 2 (FP.fz (frev (fb 5) (fneg zP)))))))))) (zK (zot 1))))
theorem zcR(Y:YZ Z):Fq Z "twofold_signs" ["terms"] .ow 4 gL:=
 mkF Y.F 24 ["terms","counts","found","term","place","part"] λnd _ n _ _ _ _ _ _ hr=>zH (nG 1 nd zrf) (zH (nG 2 nd (qJ zE)) (zH (yC PassesOwn.never rfl (jO (fv 0)) (qU 3 nd) (zK (yC PassesOwn.never rfl (jO (fk (zbF Y) hr (zB (fv 3) zE))) (nQ rfl (yJ (qU 4 nd) (yJ (qU 5 nd) nR)) (yI (yI nM))) (zK (sif (FW.pt (mand (FTp.up (tnot (kT (fk (zbz Y) hr (zB (fv 5) zE))))) (zqW (zqV (pne hr) (zmN 1 (u100 hr) (fiz (fb 5) bi) (fln Y.B (fb 5))) (bln Y.B (fb 5)) (zju _))))) (zK (zgY (zfR 2 (fiz (fb 5) bi)))) qN))))) (zK (zos 2))))
theorem zcS(Y:YZ Z):Fq Z "blanks_of" ["term"] .fz 4 zaA:=
 mkF Y.F 12 ["term","found","place","part"] λnd _ n _ _ _ _ _ _ hr=>zH (nG 1 nd (qJ zE)) (zH (yC PassesOwn.never rfl (jO (fk (zbF Y) hr (zB (fv 0) zE))) (nQ rfl (yJ (qU 2 nd) (yJ (qU 3 nd) nR)) (yI (yI nM))) (zK (sif (FTp.up (FWp.pt (tand (kT (fk (zbz Y) hr (zB (fv 3) zE))) (zok (tcf (pnin hr) (fv 3) (fb 1)))))) (zK (zgY (zfR 1 (fv 3)))) qN))) (zK (zot 1)))
theorem ziV(Y:YZ Z):Fq Z "is_rule" ["left","right"] .fz 5 wR:=
 mkF Y.F 22 ["left","right","known"] λnd _ n _ _ _ _ _ _ hr=>zH (sif (FTp.up (kT (fk (zbz Y) hr (zB (fv 0) zE)))) (zK (qL fbl)) qN) (zH (zY 2 nd (fk (zcS Y) hr (zB (fv 0) zE))) (zK (qL (zdV (zrq rfl) rfl Y.B.all PyProof.Rows.boot_all (vW (FP.ob (xD ["blank","known"] [none,some 2] (.own (.cap .nil)) rfl (jO (fk (zcS Y) hr (zB (fv 1) zE))) (λ_ _ _ _=>gnm 0) (λ_ _ _ _=>yY) λ_ _ _ _=>zrg (pinn hr) (fv 0) (fb 1) (by with_unfolding_all rfl))) zE)))))
theorem zhN(Y:YZ Z):Fq Z "sides_of" ["rules"] .ow 1 wQ:=
 mkF Y.F 23 ["rules"] λnd _ n _ _ _ _ _ _ hr=>zK (wB (zpM ["rule","side"] [none,none] (.own (.own .nil)) rfl (jO (fv 0)) (λ_ _ _ _=>gnm 0) (λ_ _ _ _=>jO (fv 0)) (λ_ _ _ _=>gnm 1) λ_ _ _ _=>fv 1))
theorem gH(Y:YZ Z):FqE Z "must_rules" ["rules","terms"] .fz 6 kI:=
 mkRN Y.F 25 ["rules","terms","rule","left","right","twofold"] λnd _ n _ _ _ _ _ _ hr=>zH (yC PassesOwn.leaving rfl (jO (fv 0)) (qU 2 nd) (zH (sasg (fv 2) (nQ rfl (yJ (qU 3 nd) (yJ (qU 4 nd) nR)) (yI (yI nM)))) (zK (sif (FTp.up (tnot (kT (fk (ziV Y) hr (zB (fv 3) (zB (fv 4) zE)))))) (zK (zmp Y.XS hr (fv 2))) qN)))) (zH (zY 5 nd (FP.fz (fk (zcR Y) hr (zB (fop qP (FP.ob (fk (zhN Y) hr (zB (fv 0) zE))) (fb 1)) zE)))) (zK (sif (FTp.up (ttru (fb 5))) (zK (zmp Y.XS hr (zdV (zqd rfl) rfl Y.B.min PyProof.Rows.boot_min (vW (fb 5) zE)))) qN)))
theorem ziU(Y:YZ Z):FqE Z "steps" ["rules","term"] .fz 7 zbh:=
 mkR Y.F 27 ["rules","term","found","place","part"] λnd _ n _ _ _ _ _ _ hr=>zH (zdL (fk (gH Y).fk hr (zB (fv 0) (zB (FP.fz (qJ (zB (fv 1) zE))) zE))) (zfZ (gH Y) hr (zB (fv 0) (zB (FP.fz (qJ (zB (fv 1) zE))) zE)))) (zH zgX (zH zgX (zK zgX)))
theorem zgb(Y:YZ Z):FqE Z "chain" ["rules","term"] .fz 7 zaG:=
 mkR Y.F 31 ["rules","term"] λnd _ n _ _ _ _ _ _ hr=>zH (zdL (fk (gH Y).fk hr (zB (fv 0) (zB (FP.fz (qJ (zB (fv 1) zE))) zE))) (zfZ (gH Y) hr (zB (fv 0) (zB (FP.fz (qJ (zB (fv 1) zE))) zE)))) (zK zgX)
theorem zga(Y:YZ Z):Fq Z "last_term" ["term","walked"] .fz 0 zlt:=nevF Y.F 30
theorem zoD(Y:YZ Z):FqE Z "end" ["rules","term"] .fz 8 zdf:=
 mkR Y.F 32 ["rules","term"] λnd _ n _ _ _ _ _ _ hr=>zK (zqs zpI (zqx (zga Y) (fv 1) (zfZ (zgb Y) hr (zB (fv 0) (zB (fv 1) zE)))))
theorem zem(Y:YZ Z):Fq Z "_law_caught" ["_law_way","_law_rules","_law_term_here"] .fz 9 nK:=
 mkF Y.F 55 ["_law_way","_law_rules","_law_term_here","_law_caught_here","_law_e"] λnd _ n _ _ _ _ _ _ hr=>zH (zY 3 nd fnon) (zH (xtry 3 4 Y.XS nd λ_ _=>zH (sif (FTp.up (tcq (peq hr) (fb 0) bi)) (zK (zdL (fk (gH Y).fk hr (zB (fv 1) (zB (FP.fz (qJ (zB xB (zB (fv 2) zE)))) zE))) (zfZ (gH Y) hr (zB (fv 1) (zB (FP.fz (qJ (zB xB (zB (fv 2) zE)))) zE))))) qN) (zH (sif (FTp.up (tcq (peq hr) (fb 0) bi)) (zK (zdL (fk (ziU Y).fk hr (zB (fv 1) (zB (fv 2) zE))) (zfZ (ziU Y) hr (zB (fv 1) (zB (fv 2) zE))))) qN) (zH (sif (FTp.up (tcq (peq hr) (fb 0) bi)) (zK (zdL (fk (zgb Y).fk hr (zB (fv 1) (zB (fv 2) zE))) (zfZ (zgb Y) hr (zB (fv 1) (zB (fv 2) zE))))) qN) (zK (sif (FTp.up (tcq (peq hr) (fb 0) bi)) (zK (zdL (fk (zoD Y).fk hr (zB (fv 1) (zB (fv 2) zE))) (zfZ (zoD Y) hr (zB (fv 1) (zB (fv 2) zE))))) qN))))) (zK (qL (fv 3))))
theorem zbN(Y:YZ Z):Fq Z "_law_good" ["_law_rules","_law_term_here","_law_cell_here"] .fz 102 gM:=
 mkF Y.F 57 ["_law_rules","_law_term_here","_law_cell_here","_law_kept","_law_due_here","_law_way"] λnd _ n _ _ _ _ _ _ hr=>zH (zY 3 nd (FP.fz (zfD zmH rfl Y.B.list PyProof.Rows.boot_list (vW (fb 0) zE)))) (zH (zY 4 nd (fk (zhO Y) hr (zB (fv 0) (zB (fv 1) zE)))) (zH (sif (FTp.up (tcq (peq hr) (fb 4) (FP.ob (qJ zE)))) (zH (sif (FTp.up (FWp.pt (tor (tcq zjq (FP.br (fk (gH Y).fk hr (zB (fv 0) (zB (FP.fz (qJ (zB (fv 1) (zB xB zE)))) zE)))) (FP.br fnon)) (tor1 (tcq zjq (FP.br (fk (gH Y).fk hr (zB (fv 0) (zB (FP.fz (qJ zE)) zE)))) (FP.br fnon)))))) (zK (qL fbl)) qN) (zK (qL (vand (fcq p_is (FP.br (fk (gH Y).fk hr (zB (fv 0) (zB (FP.fz (qJ (zB xB (zB (fv 1) zE)))) zE)))) (FP.br fnon)) (vone (fcq (peq hr) (fb 0) (fb 3))))))) qN) (zH (yC PassesOwn.never rfl (xM zP rfl Y.B.range) (qU 5 nd) (zK (sif (FTp.up (tnot (kT (fk (zdz Y) hr (zB (fk (zem Y) hr (zB (fop qY (bop qP (fb 5) (fb 2)) bi) (zB (fv 0) (zB (fv 1) zE)))) (zB (fv 4) zE)))))) (zK (qL fbl)) qN))) (zK (qL (fcq (peq hr) (fb 0) (fb 3)))))))
theorem zaz(Y:YZ Z):Fq Z "_law_cell" ["_law_script","_law_k"] .fz 1 gQ:=
 mkF Y.F 34 ["_law_script","_law_k"] λnd _ n _ _ _ _ _ _ hr=>zH (sif (FTp.up (tcq p_lt (fb 1) (bln Y.B (fb 0)))) (zK (qL (fiz (fb 0) (fb 1)))) qN) (zK (qL zP))
theorem zcy(Y:YZ Z):Fq Z "_law_purse" ["_law_cell_here"] .ow 1 zak:=
 mkF Y.F 39 ["_law_cell_here","_law_number","_law_found","_law_k"] λnd _ n _ _ _ _ _ _ hr=>zH (zY 1 nd (fop qY (fb 0) bi)) (zH (zY 2 nd zP) (zH (yC PassesOwn.never rfl (xM zP rfl Y.B.range) (qU 3 nd) (zH (zY 1 nd (fop qY (bop qP (bop qP (bop qP (bop wL (fb 1) (fb 1)) (bop wL (bop wL bi (fb 3)) (fb 3))) (fb 3)) bi) bi)) (zK (zY 2 nd (fop qP (bop wL (fb 2) bi) (bop qY (bop wL (fb 1) (fb 1)) bi)))))) (zH (sif (FTp.up (tcq (peq hr) (bop qY (fb 0) bi) bi)) (zK (wB (qJ (zB (fop kP (FP.br (zdV zrr rfl Y.B.abs PyProof.Rows.boot_abs (vW (fb 0) zE))) bi) (zB (fv 2) zE))))) qN) (zK (wB (qJ (zB zP (zB (fv 2) zE))))))))
theorem zaf(Y:YZ Z):FqX Z "_law_take" ["_law_purse_here","_law_many"] 0 1 yG:=
 mkX Y.F 40 ["_law_purse_here","_law_many","_law_at","_law_found"] λnd _ n _ _ _ _ _ _ hr=>zH (zY 2 nd (zfD zrp rfl Y.B.int PyProof.Rows.boot_int (vW (FP.br (fcq (peq hr) (biz (fb 0) bi) bi)) zE))) (zH (zY 3 nd (fop qY (biz (fb 0) (fb 2)) (fb 1))) (zH (sput 0 (fop kP (biz (fb 0) (fb 2)) (fb 1)) (fv 2)) (zK (qL (fv 3)))))
theorem zaP(Y:YZ Z):Fq Z "_law_places" ["_law_term_here"] .fz 100 xL:=
 recF Y.F 46 0 100 λ_ ih=>mkF Y.F 46 ["_law_term_here","_law_found","_law_k"] λnd _ n _ _ _ _ _ _ hr=>zH (zY 1 nd (FP.fz (qJ (zB (jP zE) zE)))) (zH (sif (FTp.up (kT (nS (fb 0) rfl Y.B.isi rfl Y.B.tuple PyProof.Rows.boot_tuple))) (zK (yC PassesOwn.never rfl (xM (fop zlj (bln Y.B (fb 0)) bi) rfl Y.B.range) (qU 2 nd) (zK (zY 1 nd (fop qP (fb 1) (FP.ob (xD ["_law_place","_law_k"] [none,some 2] (.own (.cap .nil)) rfl (jO (fk ih hr (zB (fiz (fb 0) (bop qP bi (fb 2))) zE))) (λ_ _ _ _=>gnm 0) (λ_ _ _ _=>yY) λ_ _ _ _=>fop qP (FP.br (jP (zB (fv 1) zE))) (fb 0)))))))) qN) (zK (qL (fv 1))))
theorem zcm(Y:YZ Z):Fq Z "_law_put" ["_law_term_here","_law_place","_law_new"] .fz 100 vQ:=
 recF Y.F 47 0 100 λ_ ih=>mkF Y.F 47 ["_law_term_here","_law_place","_law_new","_law_k"] λnd _ n _ _ _ _ _ _ hr=>zH (sif (FTp.up (tcq (peq hr) (fb 1) (FP.br (jP zE)))) (zK (qL (fv 2))) qN) (zH (zY 3 nd (fop qP bi (biz (fb 1) bi))) (zK (qL (fop qP (bop qP (FP.br (xC yZ (fb 0) xJ (yP (fv 3)))) (FP.br (jP (zB (fk ih hr (zB (fiz (fb 0) (fb 3)) (zB (xC yZ (fb 1) (yP zP) xJ) (zB (fv 2) zE)))) zE)))) (FP.br (xC yZ (fb 0) (yP (fop qP (fb 3) bi)) xJ))))))
theorem zaQ(Y:YZ Z):Fq Z "_law_part" ["_law_term_here","_law_place"] .fz 1 xX:=
 mkF Y.F 45 ["_law_term_here","_law_place","_law_k"] λnd _ n _ _ _ _ _ _ hr=>zH (yC PassesOwn.never rfl (jO (fv 1)) (qU 2 nd) (zK (zY 0 nd (fiz (fb 0) (bop qP bi (fb 2)))))) (zK (qL (fv 0)))
theorem zgc(Y:YZ Z):Fq Z "_law_rule" ["_law_cell_here","_law_sorts_here","_law_blanks_here"] .fz 102 vP:=
 mkF Y.F 48 ["_law_cell_here","_law_sorts_here","_law_blanks_here","_law_purse_here","_law_kind","_law_spot","_law_size","_law_left","_law_word","_law_many","_law_kept","_law_places_here","_law_place","_law_right"] λnd _ n _ _ _ _ _ _ hr=>zH (nG 3 nd (fk (zcy Y) hr (zB (fv 0) zE))) (zH (zfW (zcN 3 (zaf Y) hr zP) (qU 4 nd)) (zH (zfW (zcN 3 (zaf Y) hr zP) (qU 5 nd)) (zH (zfW (xopR qP zP (zcN 3 (zaf Y) hr zP)) (qU 6 nd)) (zH (zfW (xk (zbM Y) hr (zod (zmP 3 1 ["_law_k","_law_purse_here"] [none,some 3] (.own (.cap .nil)) rfl (xM (fv 6) rfl Y.B.range) (λ_ _ _ _=>gnm 0) λ_ _ _ _=>zcN 1 (zaf Y) hr zP) (zB (fv 1) (zB (fv 2) (zB zP zE))))) (qU 7 nd)) (zH (sif (FTp.up (kT (nS (fb 7) rfl Y.B.isi rfl Y.B.str PyProof.Rows.boot_str))) (zH (sasg (fiz (fb 1) (bop qY (fb 5) (bln Y.B (fb 1)))) (nQ rfl (yJ (qU 8 nd) (yJ (qU 9 nd) nR)) (yI (yI nM)))) (zK (zY 7 nd (fop qP (FP.br (jP (zB (fv 8) zE))) (bop zqM (FP.br (jP (zB (fv 7) zE))) (fb 9)))))) qN) (zH (zY 10 nd (fk (zae Y) hr (zB (fv 7) zE))) (zH (zY 11 nd (fk (zaP Y) hr (zB (fv 7) zE))) (zH (zY 12 nd (fiz (fb 11) (bop qY (fb 5) (bln Y.B (fb 11))))) (zH (sif (FTp.up (tcq (peq hr) (fb 4) bi)) (zK (qL (jP (zB (fv 7) (zB (fk (zaQ Y) hr (zB (fv 7) (zB (fv 12) zE))) zE))))) qN) (zH (zfW (xopR qP zP (zcN 3 (zaf Y) hr zP)) (qU 6 nd)) (zH (zfW (xk (zbM Y) hr (zod (zmP 3 1 ["_law_k","_law_purse_here"] [none,some 3] (.own (.cap .nil)) rfl (xM (fv 6) rfl Y.B.range) (λ_ _ _ _=>gnm 0) λ_ _ _ _=>zcN 1 (zaf Y) hr zP) (zB (fv 1) (zB (fv 10) (zB zP zE))))) (qU 13 nd)) (zH (sif (FTp.up (tcq (peq hr) (fb 4) bi)) (zK (qL (jP (zB (fv 7) (zB (fv 13) zE))))) qN) (zK (qL (jP (zB (fv 7) (zB (fk (zcm Y) hr (zB (fv 7) (zB (fv 12) (zB (fv 13) zE)))) zE)))))))))))))))))
theorem zel(Y:YZ Z):Fq Z "_law_stream" ["_law_cell_here","_law_many"] .fz 2 zan:=
 mkF Y.F 41 ["_law_cell_here","_law_many","_law_purse_here"] λnd _ n _ _ _ _ _ _ hr=>zH (nG 2 nd (fk (zcy Y) hr (zB (fv 0) zE))) (zK (zqr (zmP 2 1 ["_law_k","_law_purse_here"] [none,some 2] (.own (.cap .nil)) rfl (xM (fv 1) rfl Y.B.range) (λ_ _ _ _=>gnm 0) λ_ _ _ _=>zcN 1 (zaf Y) hr zP)))
theorem zcx(Y:YZ Z):Fq Z "_law_wider" ["_law_term_here","_law_number","_law_new"] .fz 101 zaj:=
 mkF Y.F 51 ["_law_term_here","_law_number","_law_new","_law_places_here","_law_place"] λnd _ n _ _ _ _ _ _ hr=>zH (ziI 3 ["_law_place","_law_term_here"] [none,some 0] (.own (.cap .nil)) rfl nd (jO (fk (zaP Y) hr (zB (fv 0) zE))) (λ_ _ _ _=>gnm 0) (λ_ _ _ _=>pif1 (tcq p_lt (bln Y.B (FP.br (fk (zaQ Y) hr (zB (fv 1) (zB (fv 0) zE))))) bi)) λ_ _ _ _=>fv 0) (zH (ziI 3 ["_law_place","_law_term_here"] [none,some 0] (.own (.cap .nil)) rfl nd (jO (fv 3)) (λ_ _ _ _=>gnm 0) (λ_ _ _ _=>pif1 (kT (nS (FP.br (fk (zaQ Y) hr (zB (fv 1) (zB (fv 0) zE)))) rfl Y.B.isi rfl Y.B.tuple PyProof.Rows.boot_tuple))) λ_ _ _ _=>fv 0) (zH (sif (FTp.up (tcq (peq hr) (fb 3) (FP.ob (qJ zE)))) (zK (qL (fv 0))) qN) (zH (zY 4 nd (fiz (fb 3) (bop qY (fb 1) (bln Y.B (fb 3))))) (zK (qL (fk (zcm Y) hr (zB (fv 0) (zB (fv 4) (zB (fop qP (FP.br (fk (zaQ Y) hr (zB (fv 0) (zB (fv 4) zE)))) (FP.br (jP (zB (fv 2) zE)))) zE)))))))))
theorem zbG(Y:YZ Z):Fq Z "_law_spoiled" ["_law_rules","_law_cell_here","_law_number","_law_sorts_here"] .ow 102 nL:=
 mkF Y.F 52 ["_law_rules","_law_cell_here","_law_number","_law_sorts_here","_law_found","_law_at","_law_left","_law_right","_law_places_here","_law_spare"] λnd _ n _ _ _ _ _ _ hr=>zH (nG 4 nd (zfD zmH rfl Y.B.list PyProof.Rows.boot_list (vW (fb 0) zE))) (zH (zY 5 nd (fop qY (fb 2) (bln Y.B (fb 0)))) (zH (sasg (fiz (fb 0) (fb 5)) (nQ rfl (yJ (qU 6 nd) (yJ (qU 7 nd) nR)) (yI (yI nM)))) (zH (sif (FTp.up (tcq (peq hr) (bop qY (fb 1) bi) bi)) (zK (sput 4 (jP (zB xB (zB (fv 7) zE))) (fv 5))) qN) (zH (sif (FTp.up (tcq (peq hr) (bop qY (fb 1) bi) bi)) (zH (zY 8 nd (fk (zaP Y) hr (zB (fv 7) zE))) (zH (zY 9 nd (fiz (FP.ob (xD ["_law_letter","_law_left"] [none,some 6] (.own (.cap .nil)) rfl (istr xB) (λ_ _ _ _=>gnm 0) (λ_ _ _ _=>pif1 (tcf (pnin hr) (fv 0) (FP.br (fk (zae Y) hr (zB (fv 1) zE))))) λ_ _ _ _=>fv 0)) bi)) (zK (sput 4 (jP (zB (fv 6) (zB (fk (zcm Y) hr (zB (fv 7) (zB (fiz (fb 8) (bop qY (bop kP (fb 2) bi) (bln Y.B (fb 8)))) (zB (fv 9) zE)))) zE))) (fv 5))))) qN) (zH (sif (FTp.up (tcq (peq hr) (bop qY (fb 1) bi) bi)) (zK (sput 4 (jP (zB (fk (zcx Y) hr (zB (fv 6) (zB (fop kP (fb 2) bi) (zB (jP (zB (fiz (biz (fb 3) bi) bi) zE)) zE)))) (zB (fv 7) zE))) (fv 5))) qN) (zK (zos 4)))))))
theorem zqG(Y:YZ Z){f:Addr}{fd:FuncData}(Fn:Fun Z.K "law" "law" (zZ pwk 58) f fd):jA Z.P Z.w Z.K Z.mg Z.base CX0 103 f fd ["_law_script"] (SpD Z.K .fz m_law23):=
 have S:yL ["_law_script","_law_sorts_here","_law_blanks_here","_law_many","_law_rules","_law_term_here","_law_cell_here","_law_number","_law_made"] ["_law_script"] (qH (zZ pwk 58)):=⟨rfl,rfl,rfl,by decide+kernel,rfl,by decide+kernel,by decide+kernel⟩;have nd:=S.nd
 zpL Fn S (mb:=zhk) (λn _ _ _ _ _ _ hr=>zH (zY 1 nd (FP.fz (fk (zfi Y) hr (zB (fk (zaz Y) hr (zB (fv 0) (zB zP zE))) zE)))) (zH (zY 2 nd (FP.fz (fk (zen Y) hr (zB (fk (zaz Y) hr (zB (fv 0) (zB zP zE))) zE)))) (zH (zY 3 nd (fop qP bi (bop qY (FP.br (fk (zaz Y) hr (zB (fv 0) (zB zP zE)))) bi))) (zH (ziI 4 ["_law_k","_law_sorts_here","_law_blanks_here","_law_script"] [none,some 1,some 2,some 0] (.own (.cap (.cap (.cap .nil)))) rfl nd (xM (fv 3) rfl Y.B.range) (λ_ _ _ _=>gnm 0) (λ_ _ _ _=>yY) λ_ _ _ _=>fk (zgc Y) hr (zB (fk (zaz Y) hr (zB (fv 3) (zB (fop qP bi (fb 0)) zE))) (zB (fv 1) (zB (fv 2) zE)))) (zH (zY 5 nd (fk (zbM Y) hr (zB (fk (zel Y) hr (zB (fop kP (FP.br (fk (zaz Y) hr (zB (fv 0) (zB zP zE)))) bi) (zB zP zE))) (zB (fv 1) (zB (fv 2) (zB zP zE)))))) (zH (yC PassesOwn.never rfl (jO (fop qP (FP.ob (qJ (zB zP (zB zP (zB zP (zB zP zE)))))) (FP.br (xC yZ (fb 0) (yP zP) (yP zP))))) (qU 6 nd) (zH (zY 7 nd (fop qY (bop wL (bop kP (fb 6) bi) bi) bi)) (zH (zY 8 nd (FP.fz (fk (zbG Y) hr (zB (fv 4) (zB (fv 6) (zB (fv 7) (zB (fv 1) zE))))))) (zH (sif (FTp.up (tnot (kT (fk (zbN Y) hr (zB (fv 8) (zB (fv 5) (zB (fv 6) zE))))))) (zK (qL fbl)) qN) (zK (sif (FTp.up (tcq (peq hr) (bop qY (bop kP (fb 6) bi) bi) bi)) (zH (zY 8 nd (FP.fz (fk (zbG Y) hr (zB (fv 8) (zB (fv 7) (zB (fop kP (fb 7) bi) (zB (fv 1) zE))))))) (zK (sif (FTp.up (tnot (kT (fk (zbN Y) hr (zB (fv 8) (zB (fk (zcx Y) hr (zB (fv 5) (zB (fv 7) (zB (jP (zB (fiz (biz (fb 1) bi) bi) zE)) zE)))) (zB (fv 6) zE))))))) (zK (qL fbl)) qN))) qN)))))) (zK (qL (fk (zbN Y) hr (zB (fv 4) (zB (fv 5) (zB zP zE)))))))))))) ziR
theorem all_mk{l:PySem.W.OpenLaw}{w:World}{K:Fg}{h:Heap}{mg:SV}{fa:Addr}(X:K.In h)(G:h.Ns mainGlobals mg)(hfa:mg "law"=some (.ref fa))(A0:fcV pwk fnI clI K=fcX pwk fnI clI):∃fd:FuncData,(∀(s:Shared) (v:Value),BindsTo s fd ⟨[v],[]⟩ [("_law_script",v)])/\∀base:Heap,K.In base->base.Ns mainGlobals mg->jA l.prog w K mg base CX0 103 fa fd ["_law_script"] (SpD K .fz m_law23):=by
 have A:faV pwk fnI K=faX pwk fnI:=congrArg (λq=>q.1.1) A0;obtain⟨f,fd,a,F⟩:=zpQ A 58 (by decide) (n:="law") rfl;cases hfa.symm.trans (PySem.W.mg_of X G a)
 refine⟨fd,?_,λbase _ _=>zqG (Z:=⟨l.prog,w,K,mg,base⟩) ⟨zpP A X G,zpH A X G,?_⟩ F⟩
 ·obtain⟨oc,od,kV,doc,pm,an,cdv,ct,osl,rfl,lk,cd⟩:=F.ex;exact λs v=>.of_eq rfl
 ·exact zpR A0 X G 1 "text" λ_ _ _ E=>by simp only[xcl,List.forall_mem_cons];exact⟨ziw E A0 X G 2 "place" "place",ziw E A0 X G 3 "rule" "rule",ziw E A0 X G 4 "sign" "sign",ziw E A0 X G 5 "term" "term",ziw E A0 X G 6 "rules" "rules",nofun⟩
open PySem.W
theorem bigk:∀w:World,(λos:OsState=>(HD.bal (Fast.tw10156331382660048174 (Fast.tw11892475500146522536 Fast.tw14364793385576792824) pwk w) (Fast.tw6613529449190102663 11 (some (.ref 6))) 12 (HD.bootS w os) (topStub pwk)).map (HD.looks pwk qwk lzk (λs=>recOk rwk.row.toRowW.records s) (λs=>fcV pwk fnI clI (zmm s.heap)) Fast.tw4187177175401517315 Fast.tw5923862056798008813 w))=λ_=>some (true,true,openGood qwk lzk,fcX pwk fnI clI):=by
 intro w
 kernel_rfl
theorem saidk:rwk.wellSaid=true:=by kernel_rfl
theorem leftk:LeftO pwk qwk lzk (λs=>recOk rwk.row.toRowW.records s) (λs=>fcV pwk fnI clI (zmm s.heap)) (λ_=>fcX pwk fnI clI) 4796:=by refine HD.left_of (d:=12) (by kernel_rfl) (by decide) (by decide) (λs=>by kernel_rfl) ?_;rw[Fast.te10156331382660048174,Fast.te11892475500146522536,Fast.te14364793385576792824,Fast.te6613529449190102663,Fast.te4187177175401517315,Fast.te5923862056798008813];exact bigk
end FL
end
end
open PySem PySem.W PyProof.Rows
set_option maxRecDepth 100000 in
set_option maxHeartbeats 0 in
theorem PySem.Challenge.cw_endmeet_k23_rules_refused_holds : PySem.Challenge.rw_endmeet_k23_rules_refused.Holds := by
  refine holds_law FL.saidk fun said => ?_
  refine holds_open (q := FL.qwk) (loose := FL.lzk) (XP := fun _ _ => True) (YP := FL.YP3 FL.pwk FL.fnI FL.clI) FL.leftk (fun w s e => ⟨_, FL.allIn_in s.heap, e⟩) FL.YP3.keeps (fun _ _ => trivial) (fun _ _ _ _ _ => trivial) (by rfl) (by rfl) (by rfl) (fun s e => recFacts_of e) (by rfl) said (by decide +kernel) ⟨rfl, rfl, rfl, rfl, rfl, by decide +kernel⟩ ?hw ?hc
  case hw => w_witness2
  case hc =>
    refine FL.walkE3 (l := PySem.Challenge.rw_endmeet_k23_rules_refused) (k := 103) (x := "_law_script") (m := FL.m_law23) rfl rfl ⟨rfl, by decide, by decide, rfl⟩ ?F FL.FACT23
    intro K w mg fa h A KX G hmg
    exact FL.all_mk KX G hmg A
