import PyProof.Rows.All
import Wide.All
import OpenK.AllK
import Wide.FinOn
import PyProof.Rows.SortStr
import Lean
import PyProof.EqAt
import PyProof.EqKinds
import PyProof.TupleCall
import PyProof.NeKinds
import PyProof.ZipIter
import PyProof.Draws
import KE.KRevIter
import PyProof.ListNew
import KE.KEqDict
import PyProof.EnumMake
import PyProof.StrWalks
import KE.KDictLaws
import PyProof.DictItemsLoops
import PyProof.DictWalks
import PyProof.DictCompW
import PyProof.ListMulAny
import PyProof.FactsAll.tuple_2
import PyProof.ConsumeWalk
import PyProof.ReprRoads
import PyProof.ExcInit
import PyProof.ExcBaseAll.ValueError
import PyProof.InstStoreFacts
import PyProof.RulesAs
import PyProof.NsDelKeeps
import PyProof.ExcAttrAll.ValueError
import PyProof.ListStr
import PyProof.Rows.SetFrom
import PyProof.MinMaxWalk
import PyProof.StrLawsIn
import KE.IntBitsLaws
import PySem.Challenge.RW_endmeet_k32_whole_an_order
section
local macro_rules | `(tactic| omega) => `(tactic| lia)
set_option Elab.async false
set_option linter.all false
set_option maxRecDepth 100000
set_option maxHeartbeats 0
open PySem PySem.Spec PyProof.Rows
noncomputable section
abbrev Fg:=PySem.W.Frag
abbrev Vs:=Value→Shared→Prop
abbrev AO:=List (Addr×Obj)
abbrev SV:=Str→Option Value
abbrev SI:=List (Str×Int)
abbrev ON:=List (Option Nat)
namespace TS
structure SK(κ:Type)[DecidableEq κ]where
 vl:κ->Tok->Value
 of:Value->κ
 hash:World->κ->Int
 knd:(P:Program)->(w:World)->PySem.KeyKind P w κ
 of_mk:∀k t,of (vl k t)=k
 is:∀P w k v,(knd P w).is k v=true↔∃t,v=vl k t
 hsh:∀P w k,(knd P w).hash k=hash w k
 scan:∀k t,(vl k t).scannable=true
def strS:SK Str:=⟨.str,strOf,hashStr,PySem.strKind,λ_ _=>rfl,λP w k v=>⟨Value.isStrOf_shape,λ⟨t,e⟩=>by subst e;exact strKind_is _ _ _ _⟩,λ_ _ _=>rfl,λ_ _=>rfl⟩
def zjC:Value->Int
 | .int i _=>i
 |_=>0
def intS:SK Int:=⟨.int,zjC,λ_=>hashInt,PySem.intKind,λ_ _=>rfl,λP w k v=>⟨Value.isInt_shape,λ⟨t,e⟩=>by subst e;show Value.isInt k (.int k t)=true;simp[Value.isInt]⟩,λ_ _ _=>rfl,λ_ _=>rfl⟩
section
variable{κ:Type}[DecidableEq κ](S:SK κ)
def El(w:World)(l:List (Int×Value)):Prop:=∀e∈l,∃k t,e=(S.hash w k,S.vl k t)
def txt(l:List (Int×Value)):List κ:=l.map λe=>S.of e.2
end
def Ri(t:SetTable):Prop:=t.place.toList.Pairwise (·<·)
structure Good(t t':SetTable):Prop where
 led:t'.led=t.led
 ri:(t.plain=true->Ri t)->t'.plain=true->Ri t'
variable{κ:Type}
def StG[DecidableEq κ](S:SK κ)(w:World)(h:Heap)(a:Addr)(L:List κ):Prop:=
 ∃o es ep t,h.get? a=some o/\o.ExactSet/\o.data=.set es ep t/\El S w es.toList/\(txt S es.toList).Perm L/\L.Nodup/\es.size<scanBound/\t.fits es.size=true/\
  (t.plain=true->Ri t)/\(w.params.followText "set-order"=false->t.led=true)
abbrev St(w:World)(h:Heap)(a:Addr)(L:List Str):Prop:=StG strS w h a L
def addT[DecidableEq κ](L:List κ)(x:κ):List κ:=if x∈L then L else L++[x]
theorem zdV(xs:Array Nat)(j:Nat)(hs:xs.toList.Pairwise (·<·)):∀(fuel lo hi:Nat),lo<=hi->hi<=xs.size->hi - lo<=fuel->(∀i (h:i<xs.size),i<lo->xs[i]<j)->(∀i (h:i<xs.size),hi<=i->j<=xs[i])->
  (∀i (h:i<xs.size),i<SetTable.below.go xs j fuel lo hi->xs[i]<j)/\(∀i (h:i<xs.size),SetTable.below.go xs j fuel lo hi<=i->j<=xs[i])/\SetTable.below.go xs j fuel lo hi<=xs.size
 |0,lo,hi,h1,h2,h3,h4,h5=>by
  have:lo=hi:=by omega
  subst this;unfold SetTable.below.go;exact⟨h4,h5,h2⟩
 |fuel+1,lo,hi,h1,h2,h3,h4,h5=>by
  have mono:∀i k (hi:i<xs.size) (hk:k<xs.size),i<k->xs[i]<xs[k]:=λi k hi hk l=>by have:=List.pairwise_iff_getElem.mp hs i k (by simpa using hi) (by simpa using hk) l;simpa using this
  unfold SetTable.below.go;by_cases hl:lo<hi
  ·rw[if_pos hl];dsimp only;have hm:(lo+hi)/2<xs.size:=by omega
   have eg:xs.getD ((lo+hi)/2) j=xs[(lo+hi)/2]:=by simp[Array.getD,hm]
   rw[eg];by_cases hc:xs[(lo+hi)/2]<j
   ·rw[if_pos hc];refine zdV xs j hs fuel _ hi (by omega) h2 (by omega) (λi hi' l=>?_) h5;by_cases e:i=(lo+hi)/2
    ·subst e;exact hc
    ·exact Nat.lt_trans (mono i _ hi' hm (by omega)) hc
   ·rw[if_neg hc];refine zdV xs j hs fuel lo _ (by omega) (by omega) (by omega) h4 λi hi' l=>?_
    by_cases e:(lo+hi)/2=i
    ·subst e;omega
    ·have:=mono _ i hm hi' (by omega);omega
  ·rw[if_neg hl]
   have:lo=hi:=by omega
   subst this;exact⟨h4,h5,h2⟩
variable{xs:Array Nat}
theorem zbQ{j:Nat}(hs:xs.toList.Pairwise (·<·)):(∀i (h:i<xs.size),i<SetTable.below xs j->xs[i]<j)/\(∀i (h:i<xs.size),SetTable.below xs j<=i->j<=xs[i])/\SetTable.below xs j<=xs.size:=
 zdV xs j hs xs.size 0 xs.size (Nat.zero_le _) (Nat.le_refl _) (by omega) (λi h l=>absurd l (Nat.not_lt_zero _)) λi h l=>absurd h (by omega)
variable{j:Nat}
theorem zhj(hs:xs.toList.Pairwise (·<·))(hj:xs[SetTable.below xs j]?≠some j):(SetTable.insertAt xs (SetTable.below xs j) j).toList.Pairwise (·<·):=by
 obtain⟨b1,b2,b3⟩:=zbQ (j:=j) hs;generalize SetTable.below xs j=p at*;have e:(SetTable.insertAt xs p j).toList=xs.toList.take p++j::xs.toList.drop p:=by unfold SetTable.insertAt;simp[List.take_of_length_le]
 rw[e,List.pairwise_append,List.pairwise_cons];have lt2:∀y∈xs.toList.drop p,j<y:=λy hy=>by
  obtain⟨i,hi,rfl⟩:=List.mem_iff_getElem.mp hy;rw[List.length_drop,Array.length_toList]at hi;rw[List.getElem_drop,Array.getElem_toList];have h1:=b2 (p+i) (by omega) (by omega);rcases Nat.lt_or_ge j xs[p+i]with z|z
  ·exact z
  ·have e1:xs[p+i]=j:=by omega
   rcases Nat.eq_zero_or_pos i with rfl|hp
   ·exact absurd (by rw[Array.getElem?_eq_getElem (by omega)];simpa using e1) hj
   ·have h2:=b2 p (by omega) (Nat.le_refl _);have h3:=List.pairwise_iff_getElem.mp hs p (p+i) (by simpa using(by omega:p<xs.size)) (by simpa using(by omega:p+i<xs.size)) (by omega);simp only[Array.getElem_toList]at h3;omega
 refine⟨hs.sublist (List.take_sublist _ _),⟨lt2,hs.sublist (List.drop_sublist _ _)⟩,λx hx y hy=>?_⟩;have hxj:x<j:=by obtain⟨i,hi,rfl⟩:=List.mem_iff_getElem.mp hx;rw[List.length_take,Array.length_toList]at hi;rw[List.getElem_take,Array.getElem_toList];exact b1 i (by omega) (by omega)
 rcases List.mem_cons.mp hy with rfl|hy
 ·exact hxj
 ·exact Nat.lt_trans hxj (lt2 y hy)
variable{t:SetTable}
theorem zhe(h:∀i,t.slot j≠.live i):t.place[SetTable.below t.place j]?≠some j:=λe=>by refine h (SetTable.below t.place j) ?_;unfold SetTable.slot;simp[e]
theorem zbD{ha:Nat->Int}{h:Int}:∀(fuel:Nat) (p:SetTable.Probe) {j:Nat}{d:Option Nat},(∀k,p.dummy=some k->∀i,t.slot k≠.live i)->SetTable.probe.go t ha h fuel p=some (.empty j d)->∀i,t.slot (d.getD j)≠.live i
 |0,p,j,d,_,e=>by simp[SetTable.probe.go]at e
 |fuel+1,p,j,d,hp,e=>by
  unfold SetTable.probe.go at e;have adv:∀q:SetTable.Probe,(t.advance q).dummy=q.dummy:=λq=>by unfold SetTable.advance;split<;>rfl
  cases es:t.slot p.j with
  |empty=>
   rw[es]at e;simp only[Option.some.injEq,SetTable.Met.empty.injEq]at e;obtain⟨rfl,rfl⟩:=e;cases ed:p.dummy with
   |none=>intro i;simp[es]
   |some k=>exact hp k ed
  |dummy=>
   rw[es]at e;refine zbD fuel _ (λk hk i=>?_) e;rw[adv]at hk;simp only[Option.some.injEq]at hk;subst hk;simp[es]
  |live i=>
   rw[es]at e;dsimp only at e;split at e
   ·cases e
   ·exact zbD fuel _ (λk hk=>hp k (by rw[adv]at hk;exact hk)) e
section
variable{t:SetTable}{es:Array (Int×Value)}{h:Int}{x:Value}
theorem zaE(n:Nat):Good t (t.standIn n):=⟨rfl,λ_ z=>by cases z⟩
theorem zfb:Good t (layNew t es h x).2.1:=by
 unfold layNew;split
 ·rename_i slot wd hf;dsimp only;have free:∀i,t.slot slot≠.live i:=by
   unfold SetTable.freeSlot at hf;split at hf
   ·rename_i j d hp;cases hf
    exact zbD _ _ (λk hk=>by simp[SetTable.probeStart]at hk) hp
   ·cases hf
  have ri:(t.plain=true->Ri t)->t.plain=true->Ri (t.put slot).1:=λz zz=>zhj (z zz) (zhe free)
  unfold SetTable.orStandIn;split
  ·exact⟨rfl,ri⟩
  ·exact⟨rfl,λ_ z=>by cases z⟩
 ·exact zaE _
theorem zdE(wanted:Nat):Good t (relayAll t es wanted).2.1:=by
 unfold relayAll;split
 ·rename_i t' order hr;dsimp only;split
  ·unfold SetTable.relaid SetTable.laid at hr;cases q:SetTable.layClean (SetTable.sizeAbove wanted - 1) (es.map (·.1))with
   |none=>rw[q]at hr;cases hr
   |some ow=>
    rw[q]at hr;cases hr
    refine⟨rfl,λ_ _=>?_⟩;show(List.map _ _).toArray.toList.Pairwise _;rw[List.toList_toArray,List.map_filterMap];have e:(List.range (SetTable.sizeAbove wanted - 1+1)).filterMap (λx=>Option.map (λx=>x.1) (Option.map (λk=>(x,k)) (ow.getD x none)))=(List.range (SetTable.sizeAbove wanted - 1+1)).filter (λx=>(ow.getD x none).isSome):=by
     rw[←List.filterMap_eq_filter]
     congr 1
     funext x
     cases eo:ow.getD x none<;>simp only[Option.guard,eo,Option.map_none,Option.map_some,Option.isSome_none,Option.isSome_some]<;>rfl
    rw[e];exact List.pairwise_lt_range.sublist List.filter_sublist
  ·exact zaE _
 ·exact zaE _
end
section
variable{P:Program}{w:World}{A:Around}{E:Vs}{s:Shared}{a:Addr}
theorem ziC{g:Bool->Sem Unit}(hg:∀(b:Bool) (s₁:Shared) (Q':Unit->Shared->Prop),Q' () s₁->wpAny (model P w) A (g b) Q' E s₁){o:Obj}{es:Array (Int×Value)}{ep:Nat}(ho:s.heap.get? a=some o)(hd:o.data=.set es ep t){es1:Array (Int×Value)}{t2:SetTable}(hb1:es1.size<scanBound)(hf2:t2.fits es1.size=true){wasDummy:Bool}{R:Option Bool->Shared->Prop}(h:∀h' es2 ep2 t3,Heap.SameBut a s.heap h'->h'.get? a=some {o with data:=.set es2 ep2 t3}->es2.toList.Perm es1.toList->t3.fits es2.size=true->Good t2 t3->R (some true) {s with heap:=h'}):
  wpAny (model P w) A (do
    storeSet a es1 t2
    if(!wasDummy&&t2.tooFull)=true then do
      g (relayAll t2 es1 (SetTable.grown es1.size)).2.2
      storeSet a (relayAll t2 es1 (SetTable.grown es1.size)).1 (relayAll t2 es1 (SetTable.grown es1.size)).2.1
      pure (some true)
     else pure (some true)) R E s:=by
 refine wpAny_bind (wpAny_storeSet_of ho hd ?_ (fits_of_scanBound hb1));have wR:(s.heap.update a (Obj.putSet es1 t2)).get? a=some {o with data:=.set es1 (ep+1) t2}:=by have:=Heap.get?_update_self (Obj.putSet es1 t2) ho (by rw[putSet_of es1 t2 hd];rfl);rw[putSet_of es1 t2 hd]at this;exact this
 have hsb1:=Heap.SameBut.update s.heap a (Obj.putSet es1 t2);split
 ·have hp:=relayAll_perm t2 es1 (SetTable.grown es1.size);have hfr:=relayAll_fits t2 es1 (SetTable.grown es1.size);have hgd:=zdE (t:=t2) (es:=es1) (SetTable.grown es1.size);generalize relayAll t2 es1 (SetTable.grown es1.size)=Rl at hp hfr hgd ⊢;obtain⟨es2,t3,gave2⟩:=Rl;dsimp only at hp hfr hgd ⊢;have hsz:es2.size=es1.size:=by rw[←Array.length_toList,hp.length_eq,Array.length_toList]
  refine wpAny_bind (hg _ _ _ ?_);refine wpAny_bind (wpAny_storeSet_of wR rfl ?_ (fits_of_scanBound (by rw[hsz];exact hb1)));have put2:((s.heap.update a (Obj.putSet es1 t2)).update a (Obj.putSet es2 t3)).get? a=some {o with data:=.set es2 (ep+1+1) t3}:=by have:=Heap.get?_update_self (Obj.putSet es2 t3) wR (by rw[putSet_of es2 t3 rfl];rfl);rw[putSet_of es2 t3 rfl]at this;exact this
  exact wpAny_pure (h _ es2 _ t3 (hsb1.trans (Heap.SameBut.update _ a _)) put2 hp hfr hgd)
 ·exact wpAny_pure (h _ es1 _ t2 hsb1 wR (List.Perm.refl _) hf2 ⟨rfl,λz=>z⟩)
variable{κ:Type}[DecidableEq κ]{S:SK κ}
theorem El.of(P:Program){l:List (Int×Value)}(h:El S w l):ElemsOf (S.knd P w) l:=λe he=>by obtain⟨k,t,rfl⟩:=h e he;exact⟨⟨k,(S.is P w k _).mpr ⟨t,rfl⟩,(S.hsh P w k).symm⟩,S.scan k t⟩
theorem zgV(P:Program){es:List (Int×Value)}(he:El S w es){x:κ}:x∈txt S es↔∃e∈es,(S.knd P w).is x e.2=true:=by
 unfold txt;rw[List.mem_map];constructor
 ·rintro⟨e,h1,h2⟩;obtain⟨k,t,rfl⟩:=he e h1;refine⟨_,h1,(S.is P w _ _).mpr ⟨t,?_⟩⟩;rw[←h2,S.of_mk]
 ·rintro⟨e,h1,h2⟩;obtain⟨k,t,rfl⟩:=he e h1;obtain⟨t',e'⟩:=(S.is P w _ _).mp h2;refine⟨_,h1,?_⟩;show S.of (S.vl k t)=x;have e':S.vl k t=S.vl x t':=e';rw[e',S.of_mk]
theorem addT_nodup{L:List κ}{x:κ}(h:L.Nodup):(addT L x).Nodup:=by
 unfold addT;split
 ·exact h
 ·rename_i hx;exact List.nodup_append.mpr ⟨h,by simp,λa ha b hb=>by simp at hb;subst hb;exact λe=>hx (e▸ha)⟩
theorem add{L:List κ}{x:κ}{tk:Tok}{Q:Bool->Shared->Prop}(hS:StG S w s.heap a L)(hroom:L.length+1<scanBound)(h:∀h' b,Heap.SameBut a s.heap h'->StG S w h' a (addT L x)->Q b {s with heap:=h'}):
  wpAny (model P w) A (setAddHashed a (S.vl x tk) (S.hash w x)) Q E s:=by
 obtain⟨o,es,ep,t,ho,hex,hd,hel,hpm,hnd,hb,hf,hpl,hld⟩:=hS;have hsz:es.size=L.length:=by rw[←hpm.length_eq];simp[txt]
 have hb1:es.size+1<scanBound:=by rw[hsz];exact hroom
 have hkey:(S.knd P w).is x (S.vl x tk)=true:=(S.is P w x _).mpr ⟨tk,rfl⟩;have hE:ElemsOf (S.knd P w) es.toList:=hel.of P;rw[←S.hsh P w x];unfold setAddHashed setAddHashedIn;refine wpAny_holding (wpAny_bind (wpAny_setState_of ho hd hf ?_));dsimp only;rw[byScan_of (S.scan x tk) hb hE];simp only[↓reduceIte];unfold setAddByScan;refine wpAny_bind ?_;refine wpAny_bind (wpAny_rule ?_);refine wpAny_bind (wpAny_setScan_of (knd:=S.knd P w) (k:=x) hkey ho hd hf hE ?_);cases hr:List.findIdx? (λe=>(S.knd P w).is x e.2) es.toList with
 |some j=>
  dsimp only;obtain⟨hj,hpj,_⟩:=List.findIdx?_eq_some_iff_getElem.mp hr;have hx:x∈L:=hpm.mem_iff.mp ((zgV P hel).mpr ⟨es.toList[j],List.getElem_mem hj,hpj⟩);refine wpAny_pure (wpAny_pure ?_);have e:s={s with heap:=s.heap}:=by cases s;rfl
  rw[e];exact h s.heap _ (Heap.SameBut.refl a s.heap) (by unfold addT;rw[if_pos hx];exact⟨o,es,ep,t,ho,hex,hd,hel,hpm,hnd,hb,hf,hpl,hld⟩)
 |none=>
  dsimp only;have hx:x∉L:=λz=>by
   obtain⟨e,he,hp⟩:=(zgV P hel).mp (hpm.mem_iff.mpr z)
   have:=List.findIdx?_eq_none_iff.mp hr e he;have hp':(S.knd P w).is x e.2=true:=hp;rw[hp']at this;exact Bool.noConfusion this
  have hgw:∀(b:Bool) {s₁:Shared}{Q':Unit->Shared->Prop},Q' () s₁->wpAny (model P w) A (match b with|true=>rule "set.scan.the-table-gave-way"|false=>pure ()) Q' E s₁:=
   λb s₁ Q' hq=>by cases b<;>first|exact wpAny_pure hq|exact wpAny_rule hq
  have hperm:=layNew_perm t es ((S.knd P w).hash x) (S.vl x tk);have hfits:=layNew_fits t es ((S.knd P w).hash x) (S.vl x tk);have hgood:=zfb (t:=t) (es:=es) (h:=(S.knd P w).hash x) (x:=S.vl x tk);generalize layNew t es ((S.knd P w).hash x) (S.vl x tk)=L1 at hperm hfits hgood ⊢;obtain⟨es1,t1,wasDummy,gave⟩:=L1;dsimp only at hperm hfits hgood ⊢;rw[Array.toList_push]at hperm;have hel1:El S w es1.toList:=λe he=>by
   rcases List.mem_append.mp (hperm.mem_iff.mp he)with z|z
   ·exact hel e z
   ·exact⟨x,tk,by rw[←S.hsh P w x];exact List.mem_singleton.mp z⟩
  have hpm1:(txt S es1.toList).Perm (addT L x):=by unfold addT;rw[if_neg hx];refine(hperm.map _).trans ?_;rw[List.map_append];refine hpm.append (List.Perm.of_eq ?_);show[S.of (S.vl x tk)]=[x];rw[S.of_mk]
  have hb1':es1.size<scanBound:=by rw[←Array.length_toList,hperm.length_eq,List.length_append,Array.length_toList];simpa using hb1
  refine wpAny_bind (hgw _ ?_);have fin:∀(t2:SetTable),t2.led=t.led->(t2.plain=true->Ri t2)->∀h' es2 ep2 t3,Heap.SameBut a s.heap h'->h'.get? a=some {o with data:=.set es2 ep2 t3}->es2.toList.Perm es1.toList->t3.fits es2.size=true->Good t2 t3->StG S w h' a (addT L x):=by
   intro t2 e1 e2 h' es2 ep2 t3 _ g1 g2 g3 g4;have z2:es2.size=es1.size:=by rw[←Array.length_toList,g2.length_eq,Array.length_toList]
   exact⟨_,es2,ep2,t3,g1,hex,rfl,λe he=>hel1 e (g2.mem_iff.mp he),(g2.map _).trans hpm1,addT_nodup hnd,by rw[z2];exact hb1',g3,g4.ri e2,λz=>by rw[g4.led,e1];exact hld z⟩
  split
  ·refine wpAny_bind ?_;rw[hashByValue_scannable 8 (S.scan x tk)];refine wpAny_pure ?_;refine ziC ?_ ho hd hb1' ?_ ?_
   ·intro b s₁ Q' hq;cases b<;>first|exact wpAny_pure hq|exact wpAny_rule hq
   ·split
    ·exact hfits
    ·exact SetTable.fits_plain_off hfits
   ·intro h' es2 ep2 t3 g0 g1 g2 g3 g4;dsimp only;refine wpAny_pure (h h' _ g0 (fin _ ?_ ?_ h' es2 ep2 t3 g0 g1 g2 g3 g4))
    ·split
     ·exact hgood.led
     ·exact hgood.led
    ·split
     ·exact hgood.ri hpl
     ·exact λz=>by cases z
  ·rename_i hnp;refine wpAny_bind (wpAny_pure ?_);simp only[↓reduceIte];refine ziC ?_ ho hd hb1' hfits ?_
   ·intro b s₁ Q' hq;cases b<;>first|exact wpAny_pure hq|exact wpAny_rule hq
   ·intro h' es2 ep2 t3 g0 g1 g2 g3 g4;dsimp only;exact wpAny_pure (h h' _ g0 (fin t1 hgood.led (hgood.ri hpl) h' es2 ep2 t3 g0 g1 g2 g3 g4))
end
end TS
namespace L2
abbrev Key:=Sum Int Str
def zgB:Key->Value->Bool
 | .inl k,v=>Value.isInt k v
 | .inr x,v=>Value.isStrOf x v
def keyH(w:World):Key->Int
 | .inl k=>hashInt k
 | .inr x=>hashStr w x
theorem vQ:∀{k:Key}{v:Value},zgB k v=true->(∃i t,k=Sum.inl i/\v=Value.int i t)\/(∃x t,k=Sum.inr x/\v=Value.str x t)
 | .inl i,v,h=>by obtain⟨t,e⟩:=Value.isInt_shape (k:=i) (v:=v) h;exact .inl ⟨i,t,rfl,e⟩
 | .inr x,v,h=>by obtain⟨t,e⟩:=Value.isStrOf_shape (x:=x) (v:=v) h;exact .inr ⟨x,t,rfl,e⟩
theorem zhS(i:Int)(t:Tok):zgB (.inl i) (.int i t)=true:=by simp[zgB,Value.isInt]
theorem zhR(x:Str)(t:Tok):zgB (.inr x) (.str x t)=true:=by simp[zgB,Value.isStrOf]
theorem zng(a b:Int):decide ((Sum.inl a:Key)=Sum.inl b)=(a==b):=by
 by_cases e:a=b
 ·subst e;simp
 ·have h:¬(Sum.inl a:Key)=Sum.inl b:=λq=>e (Sum.inl.inj q)
  rw[decide_eq_false h];exact(beq_eq_false_iff_ne.mpr e).symm
theorem znc(a b:Str):decide ((Sum.inr a:Key)=Sum.inr b)=decide (a=b):=by
 by_cases e:a=b
 ·subst e;simp
 ·have h:¬(Sum.inr a:Key)=Sum.inr b:=λq=>e (Sum.inr.inj q)
  rw[decide_eq_false h,decide_eq_false e]
theorem znf(a:Int)(b:Str):decide ((Sum.inl a:Key)=Sum.inr b)=false:=decide_eq_false (λq=>nomatch q)
theorem znd(a:Str)(b:Int):decide ((Sum.inr a:Key)=Sum.inl b)=false:=decide_eq_false (λq=>nomatch q)
def qU(prog:Program)(w:World):PySem.KeyKind prog w Key where
 is:=zgB
 hash:=keyH w
 inj:=λv a b ha hb=>by
  rcases vQ ha with⟨i,t,rfl,rfl⟩|⟨x,t,rfl,rfl⟩
  ·rcases vQ hb with⟨j,u,rfl,e⟩|⟨y,u,rfl,e⟩
   ·injection e with e1 _;rw[e1]
   ·exact nomatch e
  ·rcases vQ hb with⟨j,u,rfl,e⟩|⟨y,u,rfl,e⟩
   ·exact nomatch e
   ·injection e with e1 _;rw[e1]
 byValue:=λk v h=>by rcases vQ h with⟨i,t,rfl,rfl⟩|⟨x,t,rfl,rfl⟩<;>rfl
 pyHash:=λhv h=>by
  rcases vQ hv with⟨i,t,rfl,rfl⟩|⟨x,t,rfl,rfl⟩
  ·exact wpAny_pyHash_int h
  ·exact wpAny_pyHash_str h
 eqBool:=λhu hv h=>by
  rcases vQ hu with⟨i,t,rfl,rfl⟩|⟨x,t,rfl,rfl⟩
  ·rcases vQ hv with⟨j,u,rfl,rfl⟩|⟨y,u,rfl,rfl⟩
   ·rw[zng]at h;exact wpAny_eqBool_int h
   ·rw[znf]at h;exact SeqAt.EqAt.int_str i t y u _ _ _ _ h
  ·rcases vQ hv with⟨j,u,rfl,rfl⟩|⟨y,u,rfl,rfl⟩
   ·rw[znd]at h;exact SeqAt.EqAt.str_int x t j u _ _ _ _ h
   ·rw[znc]at h;exact wpAny_eqBool_str h
 «strs»:=λk x t v h=>by
  rcases vQ h with⟨i,u,rfl,e⟩|⟨y,u,rfl,e⟩
  ·exact nomatch e
  ·injection e with e1 _;subst e1;cases v<;>rfl
theorem zeV(prog:Program)(w:World)(i:Int)(t:Tok):(qU prog w).is (.inl i) (.int i t)=true:=zhS i t
theorem zeU(prog:Program)(w:World)(x:Str)(t:Tok):(qU prog w).is (.inr x) (.str x t)=true:=zhR x t
inductive V where
 |non|bl (b:Bool)|int (i:Int)|str (x:Str)|byt (b:Array UInt8)|flt (b:UInt64)|ref (a:Addr)|ty (n:String)
 deriving DecidableEq
def zJ:V->Value->Prop
 | .non,u=>u=Value.none
 | .bl b,u=>u=Value.bool b
 | .int i,u=>∃t,u=Value.int i t
 | .str x,u=>∃t,u=Value.str x t
 | .byt b,u=>∃t,u=Value.bytes b t
 | .flt b,u=>∃t,u=Value.float b t
 | .ref a,u=>u=Value.ref a
 | .ty n,u=>u=Value.type n
abbrev zK:List V->List Value->Prop:=Paired zJ
variable{xs:List V}{us:List Value}
theorem zK.length(r:zK xs us):xs.length=us.length:=Paired.length r
theorem zK.get:∀{xs:List V}{us:List Value} {i:Nat}{x:V},zK xs us->xs[i]?=some x->∃u,us[i]?=some u/\zJ x u
 |_,_,_,_,.nil,e=>by simp at e
 |_,_,0,_,.cons r _,e=>by simp at e;subst e;exact⟨_,rfl,r⟩
 |_,_,i+1,x,.cons _ t,e=>by obtain⟨u,h1,h2⟩:=zK.get (i:=i) (x:=x) t (by simpa using e);exact⟨u,by simpa using h1,h2⟩
theorem zK.append:∀{xs ys:List V}{us ws:List Value},zK xs us->zK ys ws->zK (xs++ys) (us++ws)
 |_,_,_,_,.nil,s=>s
 |_,_,_,_,.cons r t,s=>.cons r (zK.append t s)
theorem zK.take:∀{xs:List V}{us:List Value} (n:Nat),zK xs us->zK (xs.take n) (us.take n)
 |_,_,0,_=>.nil
 |_,_,_+1,.nil=>.nil
 |_,_,n+1,.cons r t=>.cons r (zK.take n t)
theorem zK.drop:∀{xs:List V}{us:List Value} (n:Nat),zK xs us->zK (xs.drop n) (us.drop n)
 |_,_,0,r=>r
 |_,_,_+1,.nil=>.nil
 |_,_,n+1,.cons _ t=>zK.drop n t
def vT:Option V->Option Value->Prop
 |some v,some u=>zJ v u
 |none,none=>True
 |_,_=>False
variable{κ:Type}
def KV:List (κ×V)->List (κ×Value)->Prop:=Paired λ(p:κ×V) (q:κ×Value)=>p.1=q.1/\zJ p.2 q.2
def kV:Key->V
 | .inl i=>.int i
 | .inr x=>.str x
inductive HO where
 |lst (xs:List V)
 |tup (xs:List V)
 |dK (kvs:List (Key×V))|dT (kvs:List ((Key ⊕ List Key)×V)) (ys:List V)
 |set (S:List Str)
 |sei (S:List Int)
 |ins (C dx:Addr) (fs:List (Str×V))
 |own (x:Addr)
 |xd (fs:List (Str×V))
 |met (f x:Addr)
 |rng (lo hi:Int)
 |frz (o:Obj) (u:HO)
 |tbl (ps:Array Value)
 |ext (φ:Heap->Prop)
abbrev Hp:=Addr->Option HO
def upd(H:Hp)(a:Addr)(o:HO):Hp:=λb=>if b=a then some o else H b
theorem qK{H:Hp}{a:Addr}{o:HO}:upd H a o a=some o:=by unfold upd;rw[if_pos rfl]
variable{H:Hp}{a:Addr}
theorem zT{b:Addr}{o:HO}(h:b≠a):upd H a o b=H b:=by unfold upd;rw[if_neg h]
theorem zmT{b:Addr}{o u:HO}(h:H a=some o)(h':H b=some u)(d:o≠u):a≠b:=by intro e;subst e;rw[h]at h';exact d (Option.some.inj h')
theorem qS{b:Addr}{o:HO}(h:H a=some o)(h':H b=none):a≠b:=by intro e;subst e;rw[h]at h';cases h'
abbrev zH:=Key ⊕ List Key
def KAt(H:Hp):zH->Value->Prop
 | .inl k,u=>zJ (kV k) u
 | .inr l,u=>∃b,u=.ref b/\H b=some (.tup (l.map kV))
variable{H':Hp}
theorem KAt.mono(ht:∀b xs,H b=some (.tup xs)->H' b=some (.tup xs)):∀{k:zH}{u:Value},KAt H k u->KAt H' k u
 | .inl _,_,h=>h
 | .inr _,_,⟨b,e,h⟩=>⟨b,e,ht _ _ h⟩
def zic(P:Program)(w:World):zH->Int
 | .inl k=>(qU P w).hash k
 | .inr l=>tupleKeyHash (qU P w) l
noncomputable def vR(P:Program)(w:World)(x:zH×Value×Value):DictEntry:=⟨zic P w x.1,x.2.1,x.2.2⟩
abbrev KT(H:Hp):List (zH×V)->List (zH×Value×Value)->Prop:=Paired λp q=>p.1=q.1/\KAt H p.1 q.2.1/\zJ p.2 q.2.2
section
variable(P:Program)(w:World)
def qV(H:Hp)(h:Heap)(a:Addr):HO->Prop
 | .lst xs=>xs.length<=sizeLine/\∃(its:List Value) (n:Nat),zK xs its/\h.get? a=some {cls:=.type "list",data:=.seq its.toArray n}
 | .tup xs=>xs.length<=sizeLine/\∃its:List Value,zK xs its/\IsTup h a its.toArray
 | .dK kvs=>kvs.length<=sizeLine/\(a==sysModules)=false/\∃vs,KV kvs vs/\h.DictOf (qU P w) a vs
 | .dT kvs ys=>kvs.length<=sizeLine/\(a==sysModules)=false/\∃xs:List (zH×Value×Value),(KT H kvs xs/\zK ys (xs.map (·.2.1)))/\
   ∃o es ep,h.get? a=some o/\o.ExactDict/\o.data=.dict es ep/\es.toList=xs.map (vR P w)/\(xs.map (·.1)).Nodup
 | .set S=>TS.St w h a S
 | .sei S=>TS.StG TS.intS w h a S
 | .ins C dx fs=>H dx=some (.own a)/\fs.length<=1000/\dx≠a/\h.get? a=some (PySem.W.instObj C dx)/\
   ∃mA,h.Ns1 dx mA/\(∀f,vT (fs.lookup f) (mA f))/\PySem.Within mA (fs.map (·.1))
 | .own _=>∃o,h.get? a=some o
 | .xd fs=>∃mA,h.Ns1 a mA/\∀f,vT (fs.lookup f) (mA f)
 | .rng lo hi=>∃t u v,h.get? a=some {cls:=.type "range",data:=.fields #[.int lo t,.int hi u,.int 1 v]}
 | .frz o u=>h.get? a=some o/\qV H h a u
 | .tbl ps=>h.get? a=some {cls:=.none,data:=.fields ps}
 | .met f x=>h.get? a=some (PySem.W.methodObj (.ref f) (.ref x))
 | .ext φ=>φ h/\(∃o,h.get? a=some o)/\∀h1 h2:Heap,φ h1->(∀o,h1.get? a=some o->h2.get? a=some o)->φ h2
def HOk(H:Hp)(h:Heap):Prop:=∀a o,H a=some o->qV P w H h a o
end
variable{α:Type}
section
variable{P:Program}{w:World}{H H':Hp}{h h':Heap}{a:Addr}{o:HO}
theorem qV.lt(x:qV P w H h a o):a<h.objs.size:=by
 cases o with
 |lst xs=>obtain⟨_,_,_,_,e⟩:=x;exact Heap.lt_size e
 |tup xs=>obtain⟨_,_,_,p⟩:=x;exact p.lt
 |dK kvs=>obtain⟨_,_,_,_,o,_,_,e,_⟩:=x;exact Heap.lt_size e
 |dT kvs ys=>obtain⟨_,_,_,_,o,_,_,e,_⟩:=x;exact Heap.lt_size e
 |set S=>obtain⟨o,_,_,_,e,_⟩:=x;exact Heap.lt_size e
 |sei S=>obtain⟨o,_,_,_,e,_⟩:=x;exact Heap.lt_size e
 |ins C dx fs=>obtain⟨_,_,_,e,_⟩:=x;exact Heap.lt_size e
 |own y=>obtain⟨_,e⟩:=x;exact Heap.lt_size e
 |xd fs=>obtain⟨_,⟨_,_,_,e,_⟩,_⟩:=x;exact Heap.lt_size e
 |rng lo hi=>obtain⟨_,_,_,e⟩:=x;exact Heap.lt_size e
 |frz ob u=>obtain⟨e,_⟩:=x;exact Heap.lt_size e
 |tbl ps=>exact Heap.lt_size (show h.get? a=some _ from x)
 |met f y=>exact Heap.lt_size (show h.get? a=some _ from x)
 |ext φ=>obtain⟨_,⟨_,e⟩,_⟩:=x;exact Heap.lt_size e
theorem Paired.mapP{β:Type}{F G:α->β->Prop}:∀{l₁:List α}{l₂:List β},Paired F l₁ l₂->(∀a b,F a b->G a b)->Paired G l₁ l₂
 |_,_,.nil,_=>.nil
 |_,_,.cons r t,f=>.cons (f _ _ r) (Paired.mapP t f)
theorem qV.stay(x:qV P w H h a o)(k:∀b u,(b=a\/H b=some (.own a))->h.get? b=some u->h'.get? b=some u)(ho:∀b,H b=some (.own a)->H' b=some (.own a))(ht:∀b xs,H b=some (.tup xs)->H' b=some (.tup xs)):qV P w H' h' a o:=by
 induction o with
 |lst xs=>obtain⟨z,its,n,r,e⟩:=x;exact⟨z,its,n,r,k _ _ (.inl rfl) e⟩
 |tup xs=>obtain⟨z,its,r,ob,e,c⟩:=x;exact⟨z,its,r,ob,k _ _ (.inl rfl) e,c⟩
 |dK kvs=>obtain⟨z,y,vs,r,ob,es,ep,e,c⟩:=x;exact⟨z,y,vs,r,ob,es,ep,k _ _ (.inl rfl) e,c⟩
 |dT kvs ys=>
  obtain⟨z,y,xs,r,ob,es,ep,e,c⟩:=x;exact⟨z,y,xs,⟨Paired.mapP r.1 λp q z=>⟨z.1,KAt.mono ht z.2.1,z.2.2⟩,r.2⟩,ob,es,ep,k _ _ (.inl rfl) e,c⟩
 |sei S=>obtain⟨ob,es,ep,t,e,c⟩:=x;exact⟨ob,es,ep,t,k _ _ (.inl rfl) e,c⟩
 |set S=>obtain⟨ob,es,ep,t,e,c⟩:=x;exact⟨ob,es,ep,t,k _ _ (.inl rfl) e,c⟩
 |ins C dx fs=>
  obtain⟨d,z,ne,e,mA,⟨od,es,ep,e2,c⟩,r⟩:=x;exact⟨ho _ d,z,ne,k _ _ (.inl rfl) e,mA,⟨od,es,ep,k _ _ (.inr d) e2,c⟩,r⟩
 |own y=>obtain⟨ob,e⟩:=x;exact⟨ob,k _ _ (.inl rfl) e⟩
 |xd fs=>obtain⟨mA,⟨od,es,ep,e,c⟩,r⟩:=x;exact⟨mA,⟨od,es,ep,k _ _ (.inl rfl) e,c⟩,r⟩
 |rng lo hi=>obtain⟨t,u,v,e⟩:=x;exact⟨t,u,v,k _ _ (.inl rfl) e⟩
 |frz ob u ih=>obtain⟨e,q⟩:=x;exact⟨k _ _ (.inl rfl) e,ih q⟩
 |tbl ps=>
  have e:h.get? a=some {cls:=.none,data:=.fields ps}:=x;show h'.get? a=some {cls:=.none,data:=.fields ps};exact k a _ (.inl rfl) e
 |met f y=>
  have e:h.get? a=some (PySem.W.methodObj (.ref f) (.ref y)):=x;show h'.get? a=some (PySem.W.methodObj (.ref f) (.ref y));exact k a _ (.inl rfl) e
 |ext φ=>obtain⟨p,⟨o,e⟩,st⟩:=x;exact⟨st _ _ p λo q=>k _ _ (.inl rfl) q,⟨o,k _ _ (.inl rfl) e⟩,st⟩
theorem HOk.lt(x:HOk P w H h)(e:H a=some o):a<h.objs.size:=(x a o e).lt
theorem HOk.fresh(x:HOk P w H h)(e:h.objs.size<=a):H a=none:=by
 cases q:H a with
 |none=>rfl
 |some u=>exact absurd (Nat.lt_of_lt_of_le (x.lt q) e) (Nat.lt_irrefl _)
theorem HOk.kept(x:HOk P w H h)(k:∀b u,h.get? b=some u->h'.get? b=some u):HOk P w H h':=λa o e=>
 (x a o e).stay (λb u _ q=>k b u q) (λ_ q=>q) λ_ _ q=>q
theorem HOk.laid(x:HOk P w H h)(k:∀b u,h.get? b=some u->h'.get? b=some u)(hp:h.objs.size<=a)(new:qV P w (upd H a o) h' a o):HOk P w (upd H a o) h':=λb u e=>by
 have hn:=x.fresh hp;by_cases hb:b=a
 ·subst hb;rw[qK]at e;cases e;exact new
 ·rw[zT hb]at e;exact(x b u e).stay (λc v _ q=>k c v q) (λc q=>by rw[zT (qS q hn)];exact q) λc xs q=>by rw[zT (qS q hn)];exact q
end
def Rd(H:Hp)(a:Addr)(u:HO):Prop:=H a=some u\/∃o,H a=some (.frz o u)
variable{P:Program}{w:World}{h:Heap}
theorem Rd.ok{u:HO}(r:Rd H a u)(x:HOk P w H h):qV P w H h a u:=by
 rcases r with r|⟨o,r⟩
 ·exact x a u r
 ·obtain⟨_,q⟩:=x a _ r;exact q
def Mut:Option HO->Prop
 |some (.lst _)=>True
 |some (.dK _)=>True
 |some (.dT _ _)=>True
 |some (.set _)=>True
 |some (.sei _)=>True
 |some (.ins _ _ _)=>True
 |some (.ext _)=>True
 |_=>False
section
variable{P:Program}{w:World}{H:Hp}{h h':Heap}{x e:Addr}{o':HO}
theorem HOk.write(ok:HOk P w H h)(mu:Mut (H x))(he:e=x\/H e=some (.own x))(k:∀b u,b≠e->h.get? b=some u->h'.get? b=some u)(heo:∃u,h'.get? e=some u)(new:qV P w (upd H x o') h' x o'):HOk P w (upd H x o') h':=λb u q=>by
 have nown:∀c y,H c=some (.own y)->c≠x:=λc y r z=>by subst z;rw[r]at mu;exact mu
 have ntup:∀c xs,H c=some (.tup xs)->c≠x:=λc xs r z=>by subst z;rw[r]at mu;exact mu
 by_cases hb:b=x
 ·subst hb;rw[qK]at q;cases q;exact new
 ·rw[zT hb]at q;by_cases hbe:b=e
  ·have q':H b=some (.own x):=by
    rcases he with z|z
    ·exact absurd (hbe.trans z) hb
    ·rw[hbe];exact z
   rw[q]at q';cases q'
   obtain⟨v,hv⟩:=heo;exact⟨v,by rw[hbe];exact hv⟩
  ·refine(ok b u q).stay (λc v hc r=>k c v ?_ r) (λc r=>by rw[zT (nown c b r)];exact r) λc xs r=>by rw[zT (ntup c xs r)];exact r
   rcases hc with rfl|hc
   ·exact hbe
   ·rintro rfl;rcases he with z|z
    ·exact nown c b hc z
    ·rw[hc]at z;cases z;exact hb rfl
end
structure Un(fs ex:List Addr)(H H':Hp)(h h':Heap):Prop where
 keep:∀b o,h.get? b=some o->H b=none->b∉fs->b∉ex->h'.get? b=some o
 slot:∀b o,h.get? b=some o->H b=none->b∈fs->b∉ex->∃sl,h'.get? b=some {o with slots:=sl}
 free:∀b o,h.get? b=some o->H b=none->b∉ex->H' b=none
 there:∀b o,h.get? b=some o->b∉ex->∃o',h'.get? b=some o'
 tups:∀b xs,H b=some (.tup xs)->H' b=some (.tup xs)
 frzs:∀b o u,H b=some (.frz o u)->H' b=some (.frz o u)
 tbls:∀b ps,H b=some (.tbl ps)->∃more,H' b=some (.tbl (ps++more))
section
variable{fs fs' ex ex':List Addr}{H H1 H2:Hp}{h h1 h2 h':Heap}{a x e:Addr}{o:HO}
theorem Un.any(u:Un fs ex H H1 h h1){b:Addr}{ob:Obj}(q:h.get? b=some ob)(n:H b=none)(hx:b∉ex):∃sl,h1.get? b=some {ob with slots:=sl}:=by
 by_cases hb:b∈fs
 ·exact u.slot b ob q n hb hx
 ·exact⟨ob.slots,u.keep b ob q n hb hx⟩
theorem Un.kept(k:∀b u,h.get? b=some u->h'.get? b=some u):Un fs ex H H h h':=
 ⟨λb ob q _ _ _=>k b ob q,λb ob q _ _ _=>⟨ob.slots,k b ob q⟩,λ_ _ _ n _=>n,λb ob q _=>⟨ob,k b ob q⟩,λ_ _ q=>q,λ_ _ _ q=>q,λ_ ps q=>⟨#[],by rw[q];simp⟩⟩
theorem Un.refl:Un fs ex H H h h:=Un.kept λ_ _ q=>q
theorem Un.laid(k:∀b u,h.get? b=some u->h'.get? b=some u)(hp:h.objs.size<=a)(hn:H a=none):Un fs ex H (upd H a o) h h' where
 keep:=λb u q _ _ _=>k b u q
 slot:=λb u q _ _ _=>⟨u.slots,k b u q⟩
 free:=λb u q n _=>by rw[zT (Nat.ne_of_lt (Nat.lt_of_lt_of_le (Heap.lt_size q) hp))];exact n
 there:=λb u q _=>⟨u,k b u q⟩
 tups:=λb xs q=>by rw[zT (qS q hn)];exact q
 frzs:=λb u xs q=>by rw[zT (qS q hn)];exact q
 tbls:=λb ps q=>⟨#[],by rw[zT (qS q hn),q];simp⟩
theorem Un.write(mu:Mut (H x))(he:e=x\/H e=some (.own x))(k:∀b u,b≠e->h.get? b=some u->h'.get? b=some u)(heo:∃u,h'.get? e=some u):Un fs ex H (upd H x o) h h':=by
 have hx:∀b,H b=none->b≠x:=λb n z=>by subst z;rw[n]at mu;exact mu
 have hb:∀b,H b=none->b≠e:=λb n z=>by
  subst z;rcases he with r|r
  ·exact hx b n r
  ·rw[n]at r;cases r
 have hm:∀b u,H b=some u->¬Mut (some u)->b≠x:=λb u q nm z=>by subst z;rw[q]at mu;exact nm mu
 refine⟨λb u q n _ _=>k b u (hb b n) q,λb u q n _ _=>⟨u.slots,k b u (hb b n) q⟩,λb u q n _=>by rw[zT (hx b n)];exact n,λb u q _=>?_,
  λb xs q=>by rw[zT (hm b _ q λz=>z)];exact q,λb u xs q=>by rw[zT (hm b _ q λz=>z)];exact q,λb ps q=>⟨#[],by rw[zT (hm b _ q λz=>z),q];simp⟩⟩
 by_cases hbe:b=e
 ·subst hbe;exact heo
 ·exact⟨u,k b u hbe q⟩
end
def trk(h:Heap)(H:Hp):List Addr:=(List.range h.objs.size).filter λa=>(H a).isSome
def gH(h:Heap)(H:Hp):Heap:=PySem.W.hideAll h (trk h H)
theorem zhY(h:Heap)(H:Hp):(gH h H).objs.size=h.objs.size:=PySem.W.hideAll_size _ _
variable{o:Obj}
theorem zjE{b:Addr}(e:h.get? b=some o)(n:H b=none):(gH h H).get? b=some o:=
 PySem.W.hideAll_get _ e λhm=>by have q:(H b).isSome=true:=(List.mem_filter.mp hm).2;rw[n]at q;simp at q
theorem zlf{b:Addr}(e:(gH h H).get? b=some o):h.get? b=some o/\H b=none:=by
 have e':h.get? b=some o:=PySem.W.of_hideAll (trk h H) e;refine⟨e',?_⟩;cases q:H b with
 |none=>rfl
 |some x=>
  have hm:b∈trk h H:=List.mem_filter.mpr ⟨List.mem_range.mpr (Heap.lt_size e'),by simp[q]⟩;have z:(gH h H).get? b=none:=PySem.W.hideAll_none (trk h H) hm;rw[z]at e;cases e
structure Mod(K:Fg)(mg:SV)(base:Heap):Prop where
 kin:K.In base
 glob:base.Ns mainGlobals mg
 blt:∃mb,base.Ns builtinsNs mb/\∀x:Str,x≠"__name__"->mb x=bootBuiltins x
 nolimit:base.NoLimit
structure Cx where
 prog:Program
 w:World
 K:Fg
 mg:SV
 base:Heap
 A:Around
 N:List Str
 s₀:Shared
 H₀:Hp
 env:Env
 outer:List Env
 stack:List Env
 ex:List Addr
 fn:Str->Bool
 calm:Bool
 pn:AO
 xe:Vs
noncomputable def frs(l:List Env):List Addr:=l.filterMap (·.frame)
abbrev Cx.fs(X:Cx):List Addr:=frs X.outer
def Vis(sc:Scope)(x:Str):Prop:=sc.names.lookup x=some .local\/sc.names.lookup x=some .cell\/sc.names.lookup x=some .free
def Loc(sc:Scope)(x:Str):Prop:=sc.names.lookup x=some .local\/sc.names.lookup x=some .cell
def Look(env:Env)(h:Heap)(m:SV)(x:Str)(u:Value):Prop:=
 (env.kindOf x=some .local/\m x=some u)\/((env.kindOf x=some .cell\/env.kindOf x=some .free)/\∃c,env.cells.lookup x=some c/\h.IsCell c (some u))
structure Cx.Ok(X:Cx):Prop where
 mod:Mod X.K X.mg X.base
 kind:X.env.scope.kind=.function
 glob:X.env.globals=mainGlobals
 blt:X.env.builtins=builtinsNs
 above:X.s₀.heap.objs.size<=X.env.locals
 inj:∀x y c,X.env.cells.lookup x=some c->X.env.cells.lookup y=some c->x=y
 has:∀x,(X.env.kindOf x=some .cell\/X.env.kindOf x=some .free)->∃c,X.env.cells.lookup x=some c
 cab:∀x c,X.fn x=true->X.env.cells.lookup x=some c->X.s₀.heap.objs.size<=c
 hd:X.calm=true->X.A.handled=none
 frames:X.A.frames=some X.stack
 stk:X.stack=X.outer\/(X.stack=X.env::X.outer/\X.env.frame=some X.env.locals)
 exf:∀b∈X.ex,b≠X.env.locals/\∀x c,X.env.cells.lookup x=some c->c≠b
 bs:∀b o,X.base.get? b=some o->X.s₀.heap.get? b=some o/\X.H₀ b=none
 bsz:X.base.objs.size<=X.s₀.heap.objs.size
 noex:∀b o,X.base.get? b=some o->b∉X.ex
 exfs:∀b∈X.ex,b∉X.fs
 funs:X.s₀.heap.FunFrames X.base X.outer
 frf:∀b∈X.fs,X.H₀ b=none
structure Inv(X:Cx)(pins:AO)(σ:List (Option V))(H:Hp)(s:Shared):Prop where
 ok:X.Ok
 os:s.os=X.s₀.os
 bare:AllBare s.gens
 base:Un X.fs X.ex X.H₀ H X.s₀.heap s.heap
 loc:∃m,s.heap.Ns X.env.locals m/\∀(i:Nat) (x:Str) (v:V),X.N[i]?=some x->σ[i]?=some (some v)->Vis X.env.scope x->∃u,zJ v u/\Look X.env s.heap m x u
 cell:∀x c,X.env.cells.lookup x=some c->∃v,s.heap.IsCell c v
 free:H X.env.locals=none
 freeC:∀x c,X.env.cells.lookup x=some c->H c=none
 pin:∀p∈X.pn++pins,s.heap.get? p.1=some p.2/\H p.1=none/\p.1≠X.env.locals/\p.1∉X.fs/\∀v,p.2.data≠.cell v
 hok:HOk X.prog X.w H s.heap
 len:σ.length=X.N.length
variable{u:Value}{N:List Str}{i j:Nat}{x:Str}{M:Model}{A:Around}{E:Vs}{Q:Unit->Shared->Prop}{s':Shared}
section
variable{X:Cx}{pins:AO}{σ:List (Option V)}{H H':Hp}{s:Shared}{h':Heap}
theorem Cx.Ok.nofr(ok:X.Ok){b:Addr}(e:X.base.get? b=some o):b∉X.fs:=λhb=>by have:=(ok.funs.mem hb).1;rw[e]at this;cases this
theorem Inv.bs(I:Inv X pins σ H s):∀b o,X.base.get? b=some o->s.heap.get? b=some o/\H b=none:=λb o e=>
 ⟨I.base.keep b o (I.ok.bs b o e).1 (I.ok.bs b o e).2 (I.ok.nofr e) (I.ok.noex b o e),I.base.free b o (I.ok.bs b o e).1 (I.ok.bs b o e).2 (I.ok.noex b o e)⟩
theorem Inv.bk(I:Inv X pins σ H s):∀b o,X.base.get? b=some o->s.heap.get? b=some o:=λb o e=>(I.bs b o e).1
theorem Inv.mod(I:Inv X pins σ H s):Mod X.K X.mg X.base:=I.ok.mod
theorem Inv.kIn(I:Inv X pins σ H s):X.K.In s.heap:=I.ok.mod.kin.keeps I.bk
theorem Inv.lt(I:Inv X pins σ H s):X.env.locals<s.heap.objs.size:=let⟨_,hn,_⟩:=I.loc;hn.lt
theorem Inv.sz(I:Inv X pins σ H s):X.s₀.heap.objs.size<=s.heap.objs.size:=Nat.le_trans I.ok.above (Nat.le_of_lt I.lt)
theorem Inv.nofs(I:Inv X pins σ H s)(h:s.heap.objs.size<=a):a∉X.fs:=λhb=>by obtain⟨_,o,ho,_⟩:=I.ok.funs.mem hb;exact absurd (Nat.lt_of_lt_of_le (Heap.lt_size ho) (Nat.le_trans I.sz h)) (Nat.lt_irrefl _)
theorem Inv.cne(I:Inv X pins σ H s):∀x c,X.env.cells.lookup x=some c->c≠X.env.locals:=λx c e z=>by obtain⟨v,o,ho,hd⟩:=I.cell x c e;obtain⟨m,⟨o',es,ep,ho',hd',_⟩,_⟩:=I.loc;rw[z,ho']at ho;cases ho;rw[hd']at hd;cases hd
theorem Inv.funs(I:Inv X pins σ H s):s.heap.FunFrames X.base X.outer:=by
 have all:∀(l:List Env),(∀b∈frs l,b∈X.fs)->X.s₀.heap.FunFrames X.base l->s.heap.FunFrames X.base l:=by
  intro l;induction l with
  |nil=>intro _ _;trivial
  |cons env r ih=>
   intro hs hl;obtain⟨hk,⟨L,o,hf,hn,ho,hd⟩,hr⟩:=hl;have hL:L∈X.fs:=hs L (by unfold frs;rw[List.filterMap_cons,hf];exact List.mem_cons_self);obtain⟨sl,e⟩:=I.base.slot L o ho (I.ok.frf L hL) hL λz=>I.ok.exfs L z hL
   exact⟨hk,⟨L,_,hf,hn,e,hd⟩,ih (λb hb=>hs b (by unfold frs;rw[List.filterMap_cons,hf];exact List.mem_cons_of_mem _ hb)) hr⟩
 exact all X.outer (λ_ hb=>hb) I.ok.funs
theorem Inv.stack(I:Inv X pins σ H s):s.heap.FunFrames X.base X.stack:=by
 rcases I.ok.stk with e|⟨e,hf⟩
 ·rw[e];exact I.funs
 ·rw[e];obtain⟨m,hn,_⟩:=I.loc;refine .cons (by rw[I.ok.kind];decide) hf hn ?_ I.funs;exact Heap.get?_none_of_le (Nat.le_trans I.ok.bsz I.ok.above)
theorem Inv.stkSub(I:Inv X pins σ H s):∀b∈frs X.stack,b∈X.env.locals::X.fs:=λb hb=>by
 rcases I.ok.stk with e|⟨e,hf⟩
 ·rw[e]at hb;exact List.mem_cons_of_mem _ hb
 ·rw[e]at hb;unfold frs at hb;rw[List.filterMap_cons,hf]at hb;exact hb
theorem Inv.stkFree(I:Inv X pins σ H s):∀b∈frs X.stack,H b=none:=λb hb=>by
 rcases List.mem_cons.mp (I.stkSub b hb)with e|hb
 ·rw[e];exact I.free
 ·obtain⟨_,o,ho,_⟩:=I.ok.funs.mem hb;exact I.base.free b o ho (I.ok.frf b hb) λz=>I.ok.exfs b z hb
theorem Inv.step{g':Array GenState}{t':Nat}{d':Drawn}{ch:List Addr}(I:Inv X pins σ H s)(hch:∀b∈ch,(b∈X.ex\/X.s₀.heap.objs.size<=b)/\b≠X.env.locals/\(∀x c,X.env.cells.lookup x=some c->c≠b)/\∀p∈X.pn++pins,p.1≠b)(keep:∀b o,b≠X.env.locals->b∉X.fs->b∉ch->s.heap.get? b=some o->H b=none->h'.get? b=some o)(slot:∀b o,b≠X.env.locals->b∈X.fs->b∉ch->s.heap.get? b=some o->H b=none->∃sl,h'.get? b=some {o with slots:=sl})(free:∀b o,b∉ch->s.heap.get? b=some o->H b=none->H' b=none)(there:∀b o,b∉ch->s.heap.get? b=some o->∃o',h'.get? b=some o')(tups:∀b xs,H b=some (.tup xs)->H' b=some (.tup xs))(frzs:∀b o u,H b=some (.frz o u)->H' b=some (.frz o u))(tbls:∀b ps,H b=some (.tbl ps)->∃more,H' b=some (.tbl (ps++more)))(ns:∀m,s.heap.Ns X.env.locals m->h'.Ns X.env.locals m)(hok:HOk X.prog X.w H' h')(hg:AllBare g'):
  Inv X pins σ H' {s with heap:=h',gens:=g',drawn:=d',toks:=t'}:=by
 have neL:∀b o,X.s₀.heap.get? b=some o->b≠X.env.locals:=λb o e=>Nat.ne_of_lt (Nat.lt_of_lt_of_le (Heap.lt_size e) I.ok.above)
 have neC:∀b o,X.s₀.heap.get? b=some o->b∉X.ex->b∉ch:=λb o e hx hb=>by
  rcases(hch b hb).1 with z|z
  ·exact hx z
  ·exact absurd (Nat.lt_of_lt_of_le (Heap.lt_size e) z) (Nat.lt_irrefl _)
 have cellK:∀x c,X.env.cells.lookup x=some c->∀v,s.heap.IsCell c v->h'.IsCell c v:=λx c e v ⟨o,ho,hd⟩=>by
  have nch:c∉ch:=λz=>(hch c z).2.2.1 x c e rfl
  by_cases hc:c∈X.fs
  ·obtain⟨sl,q⟩:=slot c o (I.cne x c e) hc nch ho (I.freeC x c e);exact⟨_,q,hd⟩
  ·exact⟨o,keep c o (I.cne x c e) hc nch ho (I.freeC x c e),hd⟩
 refine⟨I.ok,I.os,hg,⟨λb o e n hb hx=>?_,λb o e n hb hx=>?_,λb o e n hx=>?_,λb o e hx=>?_,λb xs e=>tups b xs (I.base.tups b xs e),λb o xs e=>frzs b o xs (I.base.frzs b o xs e),λb ps e=>?_⟩,?_,λx c e=>?_,?_,λx c e=>?_,λp hp=>?_,hok,I.len⟩
 ·exact keep b o (neL b o e) hb (neC b o e hx) (I.base.keep b o e n hb hx) (I.base.free b o e n hx)
 ·obtain⟨sl,e1⟩:=I.base.slot b o e n hb hx;obtain⟨sl',e2⟩:=slot b _ (neL b o e) hb (neC b o e hx) e1 (I.base.free b o e n hx);exact⟨sl',e2⟩
 ·obtain⟨o',e1⟩:=I.base.there b o e hx;exact free b o' (neC b o e hx) e1 (I.base.free b o e n hx)
 ·obtain⟨o',e1⟩:=I.base.there b o e hx;exact there b o' (neC b o e hx) e1
 ·obtain⟨m1,e1⟩:=I.base.tbls b ps e;obtain⟨m2,e2⟩:=tbls b _ e1;exact⟨m1++m2,by rw[e2,Array.append_assoc]⟩
 ·obtain⟨m,hn,hl⟩:=I.loc;refine⟨m,ns m hn,λi x v e1 e2 e3=>?_⟩;obtain⟨u,r,l⟩:=hl i x v e1 e2 e3;refine⟨u,r,?_⟩;rcases l with l|⟨k,c,e,z⟩
  ·exact .inl l
  ·exact .inr ⟨k,c,e,cellK x c e _ z⟩
 ·obtain⟨v,z⟩:=I.cell x c e;exact⟨v,cellK x c e v z⟩
 ·obtain⟨m,⟨o,_,_,ho,_⟩,_⟩:=I.loc;exact free _ o (λz=>(hch _ z).2.1 rfl) ho I.free
 ·obtain⟨v,o,ho,hd⟩:=I.cell x c e;exact free c o (λz=>(hch c z).2.2.1 x c e rfl) ho (I.freeC x c e)
 ·obtain⟨e,n,ne,nf,d⟩:=I.pin p hp;have nch:p.1∉ch:=λz=>(hch p.1 z).2.2.2 p hp rfl
  exact⟨keep p.1 p.2 ne nf nch e n,free p.1 p.2 nch e n,ne,nf,d⟩
theorem Inv.un{t':Nat}(I:Inv X pins σ H s)(u:Un X.fs [] H H' s.heap h')(hok:HOk X.prog X.w H' h'):Inv X pins σ H' {s with heap:=h',toks:=t'}:=by
 obtain⟨m,⟨o,es,ep,ho,r⟩,_⟩:=id I.loc;obtain⟨sl,hL⟩:=u.any ho I.free (by simp);exact I.step (g':=s.gens) (d':=s.drawn) (ch:=[]) (λ_ z=>nomatch z) (λb o _ hb _ e n=>u.keep b o e n hb (by simp)) (λb o _ hb _ e n=>u.slot b o e n hb (by simp)) (λb o _ e n=>u.free b o e n (by simp)) (λb o _ e=>u.there b o e (by simp)) u.tups u.frzs u.tbls (λm' hm=>by
  obtain⟨o',es',ep',ho',r'⟩:=hm;rw[ho]at ho';cases ho'
  exact⟨_,es',ep',hL,r'⟩) hok I.bare
theorem Inv.call{g':Array GenState}{t':Nat}{d':Drawn}{ch:List Addr}(I:Inv X pins σ H s)(u:Un (frs X.stack) ch H H' s.heap h')(hok:HOk X.prog X.w H' h')(hg:AllBare g')(hch:∀b∈ch,(b∈X.ex\/X.s₀.heap.objs.size<=b)/\b≠X.env.locals/\(∀x c,X.env.cells.lookup x=some c->c≠b)/\∀p∈X.pn++pins,p.1≠b):
  Inv X pins σ H' {s with heap:=h',gens:=g',drawn:=d',toks:=t'}:=by
 obtain⟨m,⟨o,es,ep,ho,r⟩,_⟩:=id I.loc;obtain⟨sl,hL⟩:=u.any ho I.free λz=>(hch _ z).2.1 rfl
 exact I.step (ch:=ch) hch (λb o hL hb hc e n=>u.keep b o e n (λz=>(List.mem_cons.mp (I.stkSub b z)).elim hL hb) hc) (λb o _ _ hc e n=>u.any e n hc) (λb o hc e n=>u.free b o e n hc) (λb o hc e=>u.there b o e hc) u.tups u.frzs u.tbls (λm' hm=>by
  obtain⟨o',es',ep',ho',r'⟩:=hm;rw[ho]at ho';cases ho'
  exact⟨_,es',ep',hL,r'⟩) hok hg
theorem Inv.turned{t':Nat}{it:Addr}(I:Inv X pins σ H s)(k:∀b o,b≠it->s.heap.get? b=some o->h'.get? b=some o)(hn:H it=none)(hL:it≠X.env.locals)(h1:it∈X.ex\/X.s₀.heap.objs.size<=it)(h2:∀x c,X.env.cells.lookup x=some c->c≠it)(h3:∀p∈X.pn++pins,p.1≠it):Inv X pins σ H {s with heap:=h',toks:=t'}:=by
 have nit:∀b u,H b=some u->b≠it:=λb u e z=>by rw[z,hn]at e;cases e
 refine I.step (g':=s.gens) (d':=s.drawn) (ch:=[it]) (λb hb=>?_) (λb o _ _ hc e _=>k b o (λz=>hc (by simp[z])) e) (λb o _ _ hc e _=>⟨o.slots,k b o (λz=>hc (by simp[z])) e⟩) (λ_ _ _ _ n=>n)
  (λb o hc e=>⟨o,k b o (λz=>hc (by simp[z])) e⟩) (λ_ _ e=>e) (λ_ _ _ e=>e) (λb ps e=>⟨#[],by rw[e];simp⟩) (λm hm=>?_) (λb u e=>?_) I.bare
 ·have e:b=it:=by simpa using hb
  subst e;exact⟨h1,hL,h2,h3⟩
 ·obtain⟨o,es,ep,ho,r⟩:=hm;exact⟨o,es,ep,k _ o (Ne.symm hL) ho,r⟩
 ·refine(I.hok b u e).stay (λc v hc q=>k c v ?_ q) (λ_ q=>q) λ_ _ q=>q
  rcases hc with z|z
  ·rw[z];exact nit b u e
  ·exact nit c _ z
theorem Inv.tok(I:Inv X pins σ H s)(t:Nat):Inv X pins σ H {s with toks:=t}:=I.un (h':=s.heap) (t':=t) Un.refl I.hok
theorem Inv.kept{t':Nat}(I:Inv X pins σ H s)(k:∀b u,s.heap.get? b=some u->h'.get? b=some u):Inv X pins σ H {s with heap:=h',toks:=t'}:=I.un (Un.kept k) (I.hok.kept k)
theorem Inv.laid{a:Addr}{o:HO}{t':Nat}(I:Inv X pins σ H s)(k:∀b u,s.heap.get? b=some u->h'.get? b=some u)(hp:s.heap.objs.size<=a)(new:qV X.prog X.w (upd H a o) h' a o):
  Inv X pins σ (upd H a o) {s with heap:=h',toks:=t'}:=I.un (Un.laid k hp (I.hok.fresh hp)) (I.hok.laid k hp new)
theorem Inv.write{x e:Addr}{o:HO}{t':Nat}(I:Inv X pins σ H s)(mu:Mut (H x))(he:e=x\/H e=some (.own x))(k:∀b u,b≠e->s.heap.get? b=some u->h'.get? b=some u)(heo:∃u,h'.get? e=some u)(new:qV X.prog X.w (upd H x o) h' x o):Inv X pins σ (upd H x o) {s with heap:=h',toks:=t'}:=I.un (Un.write mu he k heo) (I.hok.write mu he k heo new)
theorem Inv.pins_of{pins':AO}(I:Inv X pins σ H s)(h:∀p∈pins',s.heap.get? p.1=some p.2/\H p.1=none/\p.1≠X.env.locals/\p.1∉X.fs/\∀v,p.2.data≠.cell v):Inv X pins' σ H s:=
 ⟨I.ok,I.os,I.bare,I.base,I.loc,I.cell,I.free,I.freeC,λp hp=>(List.mem_append.mp hp).elim (λz=>I.pin p (List.mem_append_left _ z)) (h p),I.hok,I.len⟩
theorem zfM(hN:N.Nodup)(a:N[i]?=some x)(b:N[j]?=some x):i=j:=by obtain⟨h1,e1⟩:=List.getElem?_eq_some_iff.mp a;obtain⟨h2,e2⟩:=List.getElem?_eq_some_iff.mp b;exact(List.getElem_inj hN).mp (e1.trans e2.symm)
theorem zed{v:V}(I:Inv X pins σ H s)(hN:X.N.Nodup)(hi:X.N[i]?=some x)(hx:Loc X.env.scope x)(r:zJ v u)(h:∀s',Inv X pins (σ.set i (some v)) H s'->(∃a,Heap.SameBut a s.heap s'.heap/\(a=X.env.locals\/X.env.cells.lookup x=some a))->Q () s')(hf:X.fn x=true\/X.env.scope.names.lookup x=some .local:=by first|exact .inl rfl|exact .inr rfl|assumption):wpAny M A (storeName X.env x u) Q E s:=by
 obtain⟨m,hn,hl⟩:=id I.loc;have hcls:(X.env.scope.kind== .class||(X.env.scope.kind== .module&&X.env.locals !=X.env.globals))=false:=by rw[I.ok.kind];rfl
 have hiσ:i<σ.length:=by rw[I.len];exact(List.getElem?_eq_some_iff.mp hi).1
 have cne:=I.cne;have tracked:∀{a:Addr}{h':Heap},(∃o,s.heap.get? a=some o/\H a=none)->Heap.SameBut a s.heap h'->HOk X.prog X.w H h':=λ{a h'} ha hs b ob e=>by
  obtain⟨_,_,hfree⟩:=ha;refine(I.hok b ob e).stay (λc w' hc q=>(hs.2 c ?_).trans q) (λ_ q=>q) λ_ _ q=>q
  rintro rfl;rcases hc with rfl|hc
  ·rw[hfree]at e;cases e
  ·rw[hfree]at hc;cases hc
 rcases hx with hk|hk
 ·refine wpAny_storeName_local hk hn (λh' hn' hs=>?_) hcls;obtain⟨oL,_,_,hoL,_⟩:=id hn;refine h _ ⟨I.ok,I.os,I.bare,⟨λb o e n hb hx=>?_,λb o e n hb hx=>?_,I.base.free,λb o e hx=>?_,I.base.tups,I.base.frzs,I.base.tbls⟩,⟨_,hn',λj y v' e1 e2 e3=>?_⟩,λy c e=>?_,I.free,I.freeC,λp hp=>?_,tracked ⟨oL,hoL,I.free⟩ hs,by simpa using I.len⟩ ⟨_,hs,.inl rfl⟩
  ·exact(hs.2 b (Nat.ne_of_lt (Nat.lt_of_lt_of_le (Heap.lt_size e) I.ok.above))).trans (I.base.keep b o e n hb hx)
  ·obtain⟨sl,e1⟩:=I.base.slot b o e n hb hx;exact⟨sl,(hs.2 b (Nat.ne_of_lt (Nat.lt_of_lt_of_le (Heap.lt_size e) I.ok.above))).trans e1⟩
  ·obtain⟨o',e1⟩:=I.base.there b o e hx;exact⟨o',(hs.2 b (Nat.ne_of_lt (Nat.lt_of_lt_of_le (Heap.lt_size e) I.ok.above))).trans e1⟩
  ·by_cases hj:j=i
   ·subst hj;rw[hi]at e1;cases e1
    rw[List.getElem?_set_self hiσ]at e2;cases e2
    exact⟨u,r,.inl ⟨hk,by simp⟩⟩
   ·rw[List.getElem?_set_ne (Ne.symm hj)]at e2;obtain⟨u',r',q⟩:=hl j y v' e1 e2 e3;refine⟨u',r',?_⟩;rcases q with⟨k,e⟩|⟨k,c,e,z⟩
    ·refine .inl ⟨k,?_⟩
     have:y≠x:=λe=>hj (zfM hN e1 (e▸hi))
     simp[this,e]
    ·exact .inr ⟨k,c,e,z.sameBut hs (cne y c e)⟩
  ·obtain⟨w',z⟩:=I.cell y c e;exact⟨w',z.sameBut hs (cne y c e)⟩
  ·obtain⟨e,n,ne,nf,d⟩:=I.pin p hp;exact⟨(hs.2 p.1 ne).trans e,n,ne,nf,d⟩
 ·have hfn:X.fn x=true:=by
   rcases hf with z|z
   ·exact z
   ·rw[z]at hk;cases hk
  obtain⟨c,hc⟩:=I.ok.has x (.inl hk);obtain⟨w',z⟩:=I.cell x c hc;refine wpAny_storeName_cell I.ok.kind hk hc z (λh' hc' hs=>?_);obtain⟨oc,hoc,hocd⟩:=id z;refine h {s with heap:=h'} ⟨I.ok,I.os,I.bare,⟨λb o e n hb hx=>?_,λb o e n hb hx=>?_,I.base.free,λb o e hx=>?_,I.base.tups,I.base.frzs,I.base.tbls⟩,⟨m,hn.sameBut hs (Ne.symm (cne x c hc)),λj y v' e1 e2 e3=>?_⟩,λy c' e=>?_,I.free,I.freeC,λp hp=>?_,tracked ⟨oc,hoc,I.freeC x c hc⟩ hs,by simpa using I.len⟩ ⟨c,hs,.inr hc⟩
  ·exact(hs.2 b (Nat.ne_of_lt (Nat.lt_of_lt_of_le (Heap.lt_size e) (I.ok.cab x c hfn hc)))).trans (I.base.keep b o e n hb hx)
  ·obtain⟨sl,e1⟩:=I.base.slot b o e n hb hx;exact⟨sl,(hs.2 b (Nat.ne_of_lt (Nat.lt_of_lt_of_le (Heap.lt_size e) (I.ok.cab x c hfn hc)))).trans e1⟩
  ·obtain⟨o',e1⟩:=I.base.there b o e hx;exact⟨o',(hs.2 b (Nat.ne_of_lt (Nat.lt_of_lt_of_le (Heap.lt_size e) (I.ok.cab x c hfn hc)))).trans e1⟩
  ·by_cases hj:j=i
   ·subst hj;rw[hi]at e1;cases e1
    rw[List.getElem?_set_self hiσ]at e2;cases e2
    exact⟨u,r,.inr ⟨.inl hk,c,hc,hc'⟩⟩
   ·rw[List.getElem?_set_ne (Ne.symm hj)]at e2;obtain⟨u',r',q⟩:=hl j y v' e1 e2 e3;refine⟨u',r',?_⟩;rcases q with q|⟨k,c',e,z'⟩
    ·exact .inl q
    ·refine .inr ⟨k,c',e,z'.sameBut hs ?_⟩;rintro rfl;exact hj (zfM hN e1 (I.ok.inj _ _ _ e hc▸hi))
  ·by_cases hcc:c'=c
   ·subst hcc;exact⟨_,hc'⟩
   ·obtain⟨w2,z2⟩:=I.cell y c' e;exact⟨w2,z2.sameBut hs hcc⟩
  ·obtain⟨e,n,ne,nf,d⟩:=I.pin p hp;refine⟨(hs.2 p.1 ?_).trans e,n,ne,nf,d⟩;intro q;rw[q,hoc]at e;have q':oc=p.2:=Option.some.inj e;exact d w' (by rw[←q'];exact hocd)
theorem zfx{v:V}(I:Inv X pins σ H s)(hN:X.N.Nodup)(hi:X.N[i]?=some x)(hx:Loc X.env.scope x)(r:zJ v u)(h:∀s',Inv X pins (σ.set i (some v)) H s'->Q () s')(hf:X.fn x=true\/X.env.scope.names.lookup x=some .local:=by first|exact .inl rfl|exact .inr rfl|assumption):wpAny M A (storeName X.env x u) Q E s:=
 zed I hN hi hx r (λs' I' _=>h s' I') hf
theorem Inv.call'{ch:List Addr}(I:Inv X pins σ H s)(ho:s'.os=s.os)(u:Un (frs X.stack) ch H H' s.heap s'.heap)(hok:HOk X.prog X.w H' s'.heap)(hg:AllBare s'.gens)(hch:∀b∈ch,(b∈X.ex\/X.s₀.heap.objs.size<=b)/\b≠X.env.locals/\(∀x c,X.env.cells.lookup x=some c->c≠b)/\∀p∈X.pn++pins,p.1≠b):Inv X pins σ H' s':=by obtain⟨h',g',d',t',o'⟩:=s';have e:o'=s.os:=ho;subst e;exact I.call (g':=g') (t':=t') (d':=d') u hok hg hch
end
abbrev XK:=Value->Option Addr->Hp->Prop
abbrev St:=List (Option V)
abbrev VK:=V->Hp->Prop
abbrev TE:=St->Hp->VK->Prop
abbrev TT:=St->Hp->(Bool->Hp->Prop)->Prop
abbrev TA:=St->Hp->(List V->Hp->Prop)->Prop
structure Ends where
 nx:St->Hp->Prop
 rt:VK
 bk:St->Hp->Prop:=λ_ _=>False
 ct:St->Hp->Prop:=λ_ _=>False
abbrev TS:=Ends->St->Hp->Prop
def EP(X:Cx)(pins:AO)(σ:St)(Q:VK)(u:Value)(s':Shared):Prop:=∃v H',Inv X pins σ H' s'/\zJ v u/\Q v H'
def TP(X:Cx)(pins:AO)(σ:St)(Q:Bool->Hp->Prop)(b:Bool)(s':Shared):Prop:=∃H',Inv X pins σ H' s'/\Q b H'
def AP(X:Cx)(pins:AO)(σ:St)(Q:List V->Hp->Prop)(us:List Value)(s':Shared):Prop:=∃vs H',Inv X pins σ H' s'/\zK vs us/\Q vs H'
def SP(X:Cx)(pins:AO)(D:Ends)(f:Flow)(s':Shared):Prop:=
 match f with
 | .next=>∃σ' H',Inv X pins σ' H' s'/\D.nx σ' H'
 | .brk=>∃σ' H',Inv X pins σ' H' s'/\D.bk σ' H'
 | .cont=>∃σ' H',Inv X pins σ' H' s'/\D.ct σ' H'
 | .ret u=>∃v σ' H',Inv X pins σ' H' s'/\zJ v u/\D.rt v H'
def PE(X:Cx)(e:Expr)(t:TE):Prop:=
 ∀(pins:AO) (s:Shared) (σ:St) (H:Hp) (Q:VK),Inv X pins σ H s->t σ H Q->wpAny (model X.prog X.w) X.A (eval e X.env) (EP X pins σ Q) X.xe s
def PT(X:Cx)(e:Expr)(t:TT):Prop:=
 ∀(pins:AO) (s:Shared) (σ:St) (H:Hp) (Q:Bool->Hp->Prop),Inv X pins σ H s->t σ H Q->wpAny (model X.prog X.w) X.A (isTrue e X.env (eval e X.env)) (TP X pins σ Q) X.xe s
def PW(X:Cx)(e:Expr)(t:TT):Prop:=
 ∀(whole:Sem Value) (pins:AO) (s:Shared) (σ:St) (H:Hp) (Q:Bool->Hp->Prop),Inv X pins σ H s->t σ H Q->wpAny (model X.prog X.w) X.A (isTrue e X.env whole) (TP X pins σ Q) X.xe s
variable{X:Cx}{e:Expr}
theorem PW.pt{t:TT}(h:PW X e t):PT X e t:=h _
def PA(X:Cx)(es:List Expr)(t:TA):Prop:=
 ∀(pos:Pos) (pins:AO) (s:Shared) (σ:St) (H:Hp) (Q:List V->Hp->Prop),Inv X pins σ H s->t σ H Q->wpAny (model X.prog X.w) X.A (spliced (backTo pos (starEach es X.env))) (AP X pins σ Q) X.xe s
def PS(X:Cx)(st:Stmt)(t:TS):Prop:=
 ∀(pins:AO) (s:Shared) (σ:St) (H:Hp) (D:Ends),Inv X pins σ H s->t D σ H->wpAny (model X.prog X.w) X.A (exec st X.env) (SP X pins D) X.xe s
def PSs(X:Cx)(st:List Stmt)(t:TS):Prop:=
 ∀(pins:AO) (s:Shared) (σ:St) (H:Hp) (D:Ends),Inv X pins σ H s->t D σ H->wpAny (model X.prog X.w) X.A (execs st X.env) (SP X pins D) X.xe s
variable{s:Shared}
theorem thn{t:Sem α}{Q Q':α->Shared->Prop}(h:wpAny M A t Q E s)(hQ:∀a s,Q a s->Q' a s):wpAny M A t Q' E s:=wpAny_mono h hQ λ_ _ x=>x
variable{t:TE}{pos:Pos}{pins:AO}{σ:St}
section
variable{X:Cx}
def tVar(i:Nat):TE:=λσ H Q=>∃v,σ[i]?=some (some v)/\Q v H
def tC(v:V):TE:=λ_ H Q=>Q v H
theorem wE(hN:X.N[i]?=some x)(hv:Vis X.env.scope x)(hd:(x==("__debug__":Str))=false:=by decide)(hcd:(x==("__classdict__":Str))=false:=by decide):PE X (.Name x pos) (tVar i):=by
 intro pins s σ H Q I h;obtain⟨v,e,h⟩:=h;obtain⟨m,hn,hl⟩:=I.loc;obtain⟨u,r,l⟩:=hl i x v hN e hv;have fin:EP X pins σ Q u s:=⟨v,H,I,r,h⟩;rcases l with⟨hk,hm⟩|⟨hk,c,hc,hcell⟩
 ·exact wpAny_Name (wpAny_loadName_local I.ok.kind hk hn hm fin) hd
 ·rcases hk with hk|hk
  ·exact wpAny_Name (wpAny_loadName_cell I.ok.kind hk hc hcell fin) hd
  ·exact wpAny_Name (wpAny_loadName_free I.ok.kind hk hc hcell fin hcd) hd
theorem zmG{i j pos}:PE X (.Constant (.int i) j pos) (tC (.int i)):=λ_ _ _ H _ I h=>wpAny_Constant_int ⟨.int i,H,I.tok _,⟨_,rfl⟩,h⟩
theorem zok{b j pos}:PE X (.Constant (.bool b) j pos) (tC (.bl b)):=λ_ _ _ H _ I h=>Constant_bool ⟨.bl b,H,I,rfl,h⟩
theorem zmA{x j pos}:PE X (.Constant (.str x) j pos) (tC (.str x)):=λ_ _ _ H _ I h=>Calls.Constant_str ⟨.str x,H,I.tok _,⟨_,rfl⟩,h⟩
def Gl(X:Cx)(x:Str):Prop:=X.env.kindOf x=some .globalImplicit
theorem zlh{Q:Vs}(I:Inv X pins σ H s)(hg:Gl X x)(hm:X.mg x=some u)(h:Q u s)(hd:(x==("__debug__":Str))=false:=by decide):wpAny (model X.prog X.w) X.A (eval (.Name x pos) X.env) Q E s:=
 Calls.Name_function_global I.ok.kind hg (Calls.loadGlobal_global (by rw[I.ok.glob];exact I.mod.glob.keeps I.bk) hm h) hd
theorem nC{Q:Vs}(I:Inv X pins σ H s)(hg:Gl X x)(hm:X.mg x=none)(hv:bootBuiltins x=some u)(h:Q u s)(hn:x≠"__name__":=by decide)(hd:(x==("__debug__":Str))=false:=by decide):wpAny (model X.prog X.w) X.A (eval (.Name x pos) X.env) Q E s:=by obtain⟨mb,h1,h2⟩:=I.mod.blt;exact Calls.Name_function_global I.ok.kind hg (Calls.loadGlobal_builtin (by rw[I.ok.glob];exact I.mod.glob.keeps I.bk) hm (by rw[I.ok.blt];exact h1.keeps I.bk) ((h2 x hn).trans hv) h) hd
theorem zkW{v:V}(hg:Gl X x)(hm:X.mg x=none)(hv:bootBuiltins x=some u)(r:zJ v u)(hn:x≠"__name__":=by decide)(hd:(x==("__debug__":Str))=false:=by decide):PE X (.Name x pos) (tC v):=
 λ_ _ _ H _ I h=>nC I hg hm hv ⟨v,H,I,r,h⟩ hn hd
variable{a b:Expr}{ta tb:TE}{pos:Pos}
def tB(t:TE):TT:=λσ H Q=>t σ H λx H1=>∃c,x=.bl c/\Q c H1
theorem zmo(h:PE X e t)(he:∀whole,isTrue e X.env whole=(do let v ←whole;standAt e.pos;holding [v] (truthy v)):=by intro _;rfl):PT X e (tB t):=by
 intro pins s σ H Q I hw;refine isTrue_plain (thn (h pins s σ H _ I hw) λv s1 ⟨x,H1,I1,r1,q1⟩=>?_) (he _);obtain⟨d,rfl,q⟩:=q1;cases r1
 exact wpAny_truthy_bool ⟨H1,I1,q⟩
variable{tA tB':TT}{rest:List Expr}
def tAnd(t u:TT):TT:=λσ H Q=>t σ H λc H1=>if c=true then u σ H1 Q else Q false H1
def tOr(t u:TT):TT:=λσ H Q=>t σ H λc H1=>if c=true then Q true H1 else u σ H1 Q
def tNot(t:TT):TT:=λσ H Q=>t σ H λc H1=>Q (!c) H1
theorem zkG(ha:PT X a tA):PW X (.BoolOp .And [a] pos) tA:=by
 intro wh pins s σ H Q I h;refine isTrue_and (thn (ha pins s σ H Q I h) λc s1 e=>?_);cases c with
 |true=>exact isTrue_and_nil e
 |false=>exact e
theorem zmm(ha:PT X a tA):PW X (.BoolOp .Or [a] pos) tA:=by
 intro wh pins s σ H Q I h;refine isTrue_or (thn (ha pins s σ H Q I h) λc s1 e=>?_);cases c with
 |false=>exact isTrue_or_nil e
 |true=>exact e
theorem zkd(ha:PT X a tA)(hb:PW X (.BoolOp .And (b::rest) pos) tB'):PW X (.BoolOp .And (a::b::rest) pos) (tAnd tA tB'):=by
 intro wh pins s σ H Q I h;refine isTrue_and (thn (ha pins s σ H _ I h) λc s1 ⟨H1,I1,q1⟩=>?_);cases c with
 |true=>exact hb wh pins s1 σ H1 Q I1 q1
 |false=>exact⟨H1,I1,q1⟩
theorem zmn(ha:PT X a tA)(hb:PW X (.BoolOp .Or (b::rest) pos) tB'):PW X (.BoolOp .Or (a::b::rest) pos) (tOr tA tB'):=by
 intro wh pins s σ H Q I h;refine isTrue_or (thn (ha pins s σ H _ I h) λc s1 ⟨H1,I1,q1⟩=>?_);cases c with
 |true=>exact⟨H1,I1,q1⟩
 |false=>exact hb wh pins s1 σ H1 Q I1 q1
theorem zmp(ha:PT X a tA):PT X (.UnaryOp .Not a pos) (tNot tA):=by intro pins s σ H Q I h;exact isTrue_not (ha pins s σ H (λc H1=>Q (!c) H1) I h)
def znU(ta tb:TE):TE:=λσ H Q=>ta σ H λx H1=>∃c,x=.bl c/\if c=true then tb σ H1 Q else Q (.bl false) H1
def tOrV(ta tb:TE):TE:=λσ H Q=>ta σ H λx H1=>∃c,x=.bl c/\if c=true then Q (.bl true) H1 else tb σ H1 Q
def znM(ta:TE):TE:=λσ H Q=>ta σ H λx H1=>∃c,x=.bl c/\Q (.bl (!c)) H1
theorem zmD{op}(h:PE X a t):PE X (.BoolOp op [a] pos) t:=λpins s σ H Q I hw=>BoolOp_one (h pins s σ H Q I hw)
theorem zkg(ha:PE X a ta)(hb:PE X (.BoolOp .And (b::rest) pos) tb):PE X (.BoolOp .And (a::b::rest) pos) (znU ta tb):=by
 intro pins s σ H Q I h;refine BoolOp_and (thn (ha pins s σ H _ I h) λv s1 ⟨x,H1,I1,r1,q1⟩=>?_);obtain⟨c,rfl,q1⟩:=q1;cases r1
 refine wpAny_truthy_bool ?_;cases c with
 |true=>exact hb pins s1 σ H1 Q I1 q1
 |false=>exact⟨.bl false,H1,I1,rfl,q1⟩
theorem zmC(ha:PE X a ta)(hb:PE X (.BoolOp .Or (b::rest) pos) tb):PE X (.BoolOp .Or (a::b::rest) pos) (tOrV ta tb):=by
 intro pins s σ H Q I h;refine BoolOp_or (thn (ha pins s σ H _ I h) λv s1 ⟨x,H1,I1,r1,q1⟩=>?_);obtain⟨c,rfl,q1⟩:=q1;cases r1
 refine wpAny_truthy_bool ?_;cases c with
 |false=>exact hb pins s1 σ H1 Q I1 q1
 |true=>exact⟨.bl true,H1,I1,rfl,q1⟩
theorem zmE(ha:PE X a ta):PE X (.UnaryOp .Not a pos) (znM ta):=by
 intro pins s σ H Q I h;refine UnaryOp_ (thn (ha pins s σ H _ I h) λv s1 ⟨x,H1,I1,r1,q1⟩=>?_);obtain⟨c,rfl,q1⟩:=q1;cases r1
 exact not_of (wpAny_truthy_bool ⟨.bl (!c),H1,I1,rfl,q1⟩)
end
def SqL(K:Fg)(H:Hp)(a:Addr)(xs:List V):Prop:=
 Rd H a (.lst xs)\/
  ∃(o:Obj) (its:Array Value) (n:Nat),K.lookup a=some o/\o.cls=.type "list"/\o.dict=none/\o.data=.seq its n/\its.size<=sizeLine/\zK xs its.toList
def SqT(K:Fg)(H:Hp)(a:Addr)(xs:List V):Prop:=
 Rd H a (.tup xs)\/
  ∃(o:Obj) (its:Array Value) (n:Nat),K.lookup a=some o/\o.cls=.type "tuple"/\o.data=.seq its n/\its.size<=sizeLine/\zK xs its.toList
noncomputable def absV:Value->Option V
 | .none=>some .non
 | .bool b=>some (.bl b)
 | .int i _=>some (.int i)
 | .str x _=>some (.str x)
 | .bytes b _=>some (.byt b)
 | .float b _=>some (.flt b)
 | .ref a=>some (.ref a)
 | .type n=>some (.ty n)
 |_=>none
theorem zJ.abs{x:V}(r:zJ x u):absV u=some x:=by
 cases x with
 |non=>cases r;rfl
 |bl _=>cases r;rfl
 |int _=>obtain⟨t,rfl⟩:=r;rfl
 |str _=>obtain⟨t,rfl⟩:=r;rfl
 |byt _=>obtain⟨t,rfl⟩:=r;rfl
 |flt _=>obtain⟨t,rfl⟩:=r;rfl
 |ref _=>cases r;rfl
 |ty _=>cases r;rfl
theorem zJ.inj{x y:V}(r:zJ x u)(q:zJ y u):x=y:=Option.some.inj (r.abs.symm.trans q.abs)
theorem zK.inj:∀{xs ys:List V}{us:List Value},zK xs us->zK ys us->xs=ys
 |_,_,_,.nil,.nil=>rfl
 |_,_,_,.cons r t,.cons r' t'=>by rw[r.inj r',zK.inj t t']
variable{K:Fg}
section
variable{X:Cx}{pins:AO}{σ:St}{H:Hp}{s:Shared}{a:Addr}{xs ys:List V}
theorem SqL.of(h:H a=some (.lst xs)):SqL K H a xs:=.inl (.inl h)
theorem SqT.of(h:H a=some (.tup xs)):SqT K H a xs:=.inl (.inl h)
theorem Inv.list(I:Inv X pins σ H s)(h:SqL X.K H a xs):∃its:List Value,zK xs its/\PlainL s.heap a its.toArray/\xs.length<=sizeLine:=by
 rcases h with h|⟨o,its,n,hk,hc,hd,hs,hz,r⟩
 ·obtain⟨z,its,n,r,e⟩:=h.ok I.hok;exact⟨its,r,⟨_,n,e,rfl,rfl,rfl⟩,z⟩
 ·refine⟨its.toList,r,⟨o,n,I.kIn a o hk,hc,hd,by simpa using hs⟩,?_⟩;have e:=r.length;simp only[Array.length_toList]at e;omega
theorem Inv.tuple(I:Inv X pins σ H s)(h:SqT X.K H a xs):∃its:List Value,zK xs its/\IsTup s.heap a its.toArray/\xs.length<=sizeLine:=by
 rcases h with h|⟨o,its,n,hk,hc,hs,hz,r⟩
 ·obtain⟨z,its,r,p⟩:=h.ok I.hok;exact⟨its,r,p,z⟩
 ·refine⟨its.toList,r,⟨o,I.kIn a o hk,hc,n,by simpa using hs⟩,?_⟩;have e:=r.length;simp only[Array.length_toList]at e;omega
theorem Inv.list_inj(I:Inv X pins σ H s)(h:SqL X.K H a xs)(h':SqL X.K H a ys):xs=ys:=by
 obtain⟨its,r,⟨o,n,e,_,_,d⟩,_⟩:=I.list h;obtain⟨its',r',⟨o',n',e',_,_,d'⟩,_⟩:=I.list h';rw[e]at e';cases e'
 rw[d]at d';injection d' with d1 _
 have:its=its':=by simpa using congrArg Array.toList d1
 subst this;exact r.inj r'
theorem Inv.tuple_inj(I:Inv X pins σ H s)(h:SqT X.K H a xs)(h':SqT X.K H a ys):xs=ys:=by
 obtain⟨its,r,⟨o,e,_,n,d⟩,_⟩:=I.tuple h;obtain⟨its',r',⟨o',e',_,n',d'⟩,_⟩:=I.tuple h';rw[e]at e';cases e'
 rw[d]at d';injection d' with d1 _
 have:its=its':=by simpa using congrArg Array.toList d1
 subst this;exact r.inj r'
end
abbrev Cx.wish(X:Cx)(E:Vs):Cx:={X with xe:=E}
abbrev Cx.nox(X:Cx):Cx:=X.wish λ_ _=>False
theorem Cx.Ok.wish(ok:X.Ok)(E:Vs):(X.wish E).Ok:=
 ⟨ok.mod,ok.kind,ok.glob,ok.blt,ok.above,ok.inj,ok.has,ok.cab,ok.hd,ok.frames,ok.stk,ok.exf,ok.bs,ok.bsz,ok.noex,ok.exfs,ok.funs,ok.frf⟩
theorem Cx.Ok.unwish(ok:(X.wish E).Ok):X.Ok:=
 ⟨ok.mod,ok.kind,ok.glob,ok.blt,ok.above,ok.inj,ok.has,ok.cab,ok.hd,ok.frames,ok.stk,ok.exf,ok.bs,ok.bsz,ok.noex,ok.exfs,ok.funs,ok.frf⟩
section
variable{X:Cx}{pins:AO}{σ:St}{H:Hp}{s:Shared}{E:Vs}
theorem Inv.wish(I:Inv X pins σ H s)(E:Vs):Inv (X.wish E) pins σ H s:=⟨I.ok.wish E,I.os,I.bare,I.base,I.loc,I.cell,I.free,I.freeC,I.pin,I.hok,I.len⟩
theorem Inv.unwish(I:Inv (X.wish E) pins σ H s):Inv X pins σ H s:=⟨I.ok.unwish,I.os,I.bare,I.base,I.loc,I.cell,I.free,I.freeC,I.pin,I.hok,I.len⟩
theorem SP.unwish{D:Ends}{f:Flow}(h:SP (X.wish E) pins D f s'):SP X pins D f s':=by
 cases f with
 |next=>obtain⟨σ',H',I,q⟩:=h;exact⟨σ',H',I.unwish,q⟩
 |brk=>obtain⟨σ',H',I,q⟩:=h;exact⟨σ',H',I.unwish,q⟩
 |cont=>obtain⟨σ',H',I,q⟩:=h;exact⟨σ',H',I.unwish,q⟩
 |ret u=>obtain⟨v,σ',H',I,r,q⟩:=h;exact⟨v,σ',H',I.unwish,r,q⟩
theorem PSs.nox{st:List Stmt}{t:TS}(h:PSs X.nox st t):PSs X st t:=λpins s σ H D I hw=>
 wpAny_mono (h pins s σ H D (I.wish _) hw) (λ_ _ q=>q.unwish) λ_ _ z=>False.elim z
end
variable{c:Expr}{tc:TT}
section
variable{X:Cx}{st:Stmt}{rest:List Stmt}{t u:TS}{e:Expr}{te:TE}{pos:Pos}
def znN:TS:=λD σ H=>D.nx σ H
def tSeq(t u:TS):TS:=λD σ H=>t {D with nx:=u D} σ H
theorem zkI:PSs X [] znN:=λ_ _ σ H _ I h=>wpAny_execs_nil ⟨σ,H,I,h⟩
theorem zfD(h1:PS X st t)(h2:PSs X rest u):PSs X (st::rest) (tSeq t u):=by
 intro pins s σ H D I h;refine wpAny_execs_cons (thn (h1 pins s σ H {D with nx:=u D} I h) λf s1 q=>?_);cases f with
 |next=>
  obtain⟨σ',H',I',q⟩:=q;exact h2 pins s1 σ' H' D I' q
 |ret v=>exact q
 |brk=>exact q
 |cont=>exact q
theorem zkH(h1:PS X st t):PSs X [st] t:=by
 intro pins s σ H D I h;refine wpAny_execs_cons (thn (h1 pins s σ H D I h) λf s1 q=>?_);cases f with
 |next=>exact wpAny_execs_nil q
 |ret v=>exact q
 |brk=>exact q
 |cont=>exact q
theorem Inv.quiet(I:Inv X pins σ H s):interactive X.env=false:=by simp[interactive,I.ok.kind]
def znQ(te:TE):TS:=λD σ H=>te σ H λ_ H1=>D.nx σ H1
theorem zkJ(he:PE X e te)(hs:swapsWith e none pos.line X.env=pure false:=by rfl):PS X (.Expr e pos) (znQ te):=by intro pins s σ H D I h;exact wpAny_Expr_any (thn (he pins s σ H _ I h) λv s1 ⟨x,H1,I1,r1,q1⟩=>⟨σ,H1,I1,q1⟩) I.quiet hs
def tRet(te:TE):TS:=λD σ H=>te σ H D.rt
theorem zfE(he:PE X e te):PS X (.Return (some e) pos) (tRet te):=by intro pins s σ H D I h;exact wpAny_Return_some (thn (he pins s σ H _ I h) λv s1 ⟨x,H1,I1,r1,q1⟩=>⟨x,σ,H1,I1,r1,q1⟩)
def tIfS(c:TT)(t u:TS):TS:=λD σ H=>c σ H λb H1=>if b=true then t D σ H1 else u D σ H1
theorem zmr{a b:List Stmt}(hc:PT X c tc)(ha:PSs X a t)(hb:PSs X b u):PS X (.If c a b pos) (tIfS tc t u):=by
 intro pins s σ H D I h;refine wpAny_If (thn (hc pins s σ H _ I h) λd s1 ⟨H1,I1,q1⟩=>?_);cases d with
 |true=>exact ha pins s1 σ H1 D I1 q1
 |false=>exact hb pins s1 σ H1 D I1 q1
def zlR:TS:=λ_ _ _=>False
theorem zcp{sts:List Stmt}:PSs X sts zlR:=λ_ _ _ _ _ _ h=>h.elim
end
abbrev TG:=V->St->Hp->(St->Hp->Prop)->Prop
abbrev TGs:=List V->St->Hp->(St->Hp->Prop)->Prop
def PG(X:Cx)(target:Expr)(t:TG):Prop:=
 ∀(pins:AO) (s:Shared) (σ:St) (H:Hp) (v:V) (u:Value) (Q:St->Hp->Prop),Inv X pins σ H s->zJ v u->t v σ H Q->
  wpAny (model X.prog X.w) X.A (assign target X.env u) (λ_ s'=>∃σ' H',Inv X pins σ' H' s'/\Q σ' H') X.xe s
def PGs(X:Cx)(ts:List Expr)(t:TGs):Prop:=
 ∀(pins:AO) (s:Shared) (σ:St) (H:Hp) (vs:List V) (us:List Value) (Q:St->Hp->Prop),Inv X pins σ H s->zK vs us->t vs σ H Q->
  wpAny (model X.prog X.w) X.A (assignInOrder ((assignEach ts X.env).map (·.2)) us) (λ_ s'=>∃σ' H',Inv X pins σ' H' s'/\Q σ' H') X.xe s
abbrev TSet:=V->V->V->Hp->(Hp->Prop)->Prop
def PSet(X:Cx)(t:TSet):Prop:=
 ∀(pins:AO) (s:Shared) (σ:St) (H:Hp) (o i v:V) (ov iv u:Value) (Q:Hp->Prop),Inv X pins σ H s->zJ o ov->zJ i iv->zJ v u->t o i v H Q->
  wpAny (model X.prog X.w) X.A (setItem ov iv u) (λ_ s'=>∃H',Inv X pins σ H' s'/\Q H') X.xe s
variable{es:List Expr}{tg:Expr}{te:TE}
section
variable{X:Cx}{pos:Pos}
def zjF(i:Nat):TG:=λv σ H Q=>Q (σ.set i (some v)) H
theorem zkP(hN:X.N.Nodup)(hi:X.N[i]?=some x)(hx:Loc X.env.scope x)(hf:X.fn x=true\/X.env.scope.names.lookup x=some .local:=by first|exact .inl rfl|exact .inr rfl|assumption):PG X (.Name x pos) (zjF i):=by intro pins s σ H v u Q I r h;exact wpAny_assign_Name (zfx I hN hi hx r (λs' I'=>⟨_,H,I',h⟩) hf)
def qC:TGs:=λvs σ H Q=>vs=[]/\Q σ H
def zS(t:TG)(u:TGs):TGs:=λvs σ H Q=>∃v r,vs=v::r/\t v σ H λσ' H'=>u r σ' H' Q
theorem zkO:PGs X [] qC:=by
 intro pins s σ H vs us Q I r h;obtain⟨e,h⟩:=h;subst e;cases r
 exact assignInOrder_nil ⟨σ,H,I,h⟩
theorem zjg{t:TG}{u:TGs}(h1:PG X e t)(h2:PGs X es u)(hs:(assignEach (e::es) X.env).map (·.2)=assign e X.env::(assignEach es X.env).map (·.2):=by rfl):PGs X (e::es) (zS t u):=by
 intro pins s σ H vs us Q I r h;obtain⟨v,vr,e1,h⟩:=h;subst e1;cases r with
 |cons r rr=>
  rw[hs];refine assignInOrder_cons (thn (h1 pins s σ H _ _ _ I r h) λ_ s1 ⟨σ1,H1,I1,q1⟩=>?_);exact h2 pins s1 σ1 H1 _ _ Q I1 rr q1
def qQ(K:Fg)(n:Nat)(t:TGs):TG:=λv σ H Q=>∃a xs,v=.ref a/\SqT K H a xs/\xs.length=n/\t xs σ H Q
theorem zmw{k:Nat}{t:TGs}{n:Nat}(hc:X.calm=true)(h:PGs X es t)(hn:(assignEach es X.env).length=n:=by rfl)(hst:(assignEach es X.env).findIdx? (·.1)=none:=by rfl):PG X (.Tuple es k pos) (qQ X.K n t):=by
 intro pins s σ H v u Q I r hw;obtain⟨a,xs,e1,hq,hl,hw⟩:=hw;subst e1;cases r
 obtain⟨its,rv,ht,hz⟩:=I.tuple hq;refine assign_Tuple_tuple (I.ok.hd hc) ht (by simp[hn,←hl,rv.length]) hst λh' hx=>?_
 have I1:Inv X pins σ H {s with heap:=h'}:=I.kept (t':=s.toks) λb o e=>hx b o (Nat.ne_of_lt (Heap.lt_size e)) e
 exact h pins _ σ H xs _ Q I1 (by simpa using rv) hw
def gSub(to ti:TE)(t:TSet):TG:=λv σ H Q=>to σ H λo H1=>ti σ H1 λi H2=>t o i v H2 λH3=>Q σ H3
theorem zmx{o i:Expr}{to ti:TE}{t:TSet}(ho:PE X o to)(hi:PE X i ti)(hs:PSet X t)(ha:∀v,assign (.Subscript o i pos) X.env v=(do
   let ov ←holding [v] (eval o X.env);let iv ←holding [v,ov] (eval i X.env)
   standAt pos
   holding [v,ov,iv] (setItem ov iv v)
   release [v,ov,iv] []):=by intro _;rfl):PG X (.Subscript o i pos) (gSub to ti t):=by
 intro pins s σ H v u Q I r h;rw[ha];refine wpAny_bind (wpAny_holding (thn (ho pins s σ H _ I h) λov s1 ⟨x,H1,I1,r1,q1⟩=>?_));refine wpAny_bind (wpAny_holding (thn (hi pins s1 σ H1 _ I1 q1) λiv s2 ⟨y,H2,I2,r2,q2⟩=>?_));refine wpAny_bind (wpAny_standAt (wpAny_bind (wpAny_holding (thn (hs pins s2 σ H2 x y v ov iv u _ I2 r1 r2 r q2) λ_ s3 ⟨H3,I3,q3⟩=>?_))));exact wpAny_release ⟨σ,H3,I3,q3⟩
def tAsg(te:TE)(g:TG):TS:=λD σ H=>te σ H λx H1=>g x σ H1 D.nx
theorem zhq{g:TG}(he:PE X e te)(hg:PG X tg g)(hs:swapsWithSole [tg] e pos.line X.env=pure false:=by rfl)(hw:swappedStores [tg] e X.env=pure none:=by rfl)(h1:(assignEach [tg] X.env).map (·.2)=[assign tg X.env]:=by rfl):PS X (.Assign [tg] e pos) (tAsg te g):=by intro pins s σ H D I h;refine wpAny_Assign_stores (thn (he pins s σ H _ I h) λv s1 ⟨x,H1,I1,r1,q1⟩=>?_) hs hw;rw[h1];exact thn (hg pins s1 σ H1 x v _ I1 r1 q1) λ_ s2 q=>q
theorem zke{pos':Pos}(hN:X.N.Nodup)(hi:X.N[i]?=some x)(hx:Loc X.env.scope x)(he:PE X e te)(hs:swapsWith e (some (.Name x pos')) pos.line X.env=pure false:=by rfl)(hf:X.fn x=true\/X.env.scope.names.lookup x=some .local:=by first|exact .inl rfl|exact .inr rfl|assumption):
  PS X (.Assign [.Name x pos'] e pos) (tAsg te (zjF i)):=by
 intro pins s σ H D I h;refine wpAny_Assign_Name (thn (he pins s σ H _ I h) λv s1 ⟨y,H1,I1,r1,q1⟩=>?_) hs;exact zfx I1 hN hi hx r1 (λs2 I2=>⟨_,H1,I2,q1⟩) hf
end
variable{body:List Stmt}{tb:TS}
section
variable{X:Cx}{pos:Pos}
def zlQ(c:TT)(tb:TS):TS:=λD σ H=>∃W:Nat->St->Hp->Prop,(∃m,W m σ H)/\∀m σ H,W m σ H->
 c σ H λb H1=>if b=true then∃N:St->Hp->Prop,(∀σ' H',N σ' H'->∃m',m'<m/\W m' σ' H')/\tb {D with nx:=N,ct:=N,bk:=D.nx} σ H1 else D.nx σ H1
theorem zja(hp:PassesOwn (model X.prog X.w) X.A X.env X.xe)(hc:PT X c tc)(hb:PSs X body tb):PS X (.While c body [] pos) (zlQ tc tb):=by
 intro pins s σ H D I h;obtain⟨W,⟨m0,w0⟩,turn⟩:=h;refine wpAny_While (codeAny_whileLoop (λn s'=>∃σ' H',Inv X pins σ' H' s'/\W n σ' H') ?_ m0 ⟨σ,H,I,w0⟩);rintro n s1 ⟨σ1,H1,I1,w1⟩;refine wpAny_passesOwn hp (thn (hc pins s1 σ1 H1 _ I1 (turn n σ1 H1 w1)) λb s2 ⟨H2,I2,q2⟩=>?_);cases b with
 |true=>
  obtain⟨N,hN,q2⟩:=q2;rw[if_pos rfl];refine wpAny_passesOwn hp (thn (hb pins s2 σ1 H2 _ I2 q2) λf s3 q3=>?_);cases f with
  |next=>
   obtain⟨σ3,H3,I3,n3⟩:=q3;obtain⟨m',hm,w3⟩:=hN σ3 H3 n3;exact⟨m',hm,σ3,H3,I3,w3⟩
  |cont=>
   obtain⟨σ3,H3,I3,n3⟩:=q3;obtain⟨m',hm,w3⟩:=hN σ3 H3 n3;exact⟨m',hm,σ3,H3,I3,w3⟩
  |brk=>exact q3
  |ret v=>exact q3
 |false=>
  rw[if_neg Bool.false_ne_true];exact wpAny_execs_nil ⟨σ1,H2,I2,q2⟩
end
structure It where
 go:Nat->Hp->Prop
 yld:Nat->Hp->V->Hp->Prop
 stop:Nat->Hp->Prop
def yF(X:Cx)(pins:AO)(H:Hp)(b:Addr):Prop:=
 H b=none/\b≠X.env.locals/\b∉X.fs/\(b∈X.ex\/X.s₀.heap.objs.size<=b)/\(∀x c,X.env.cells.lookup x=some c->c≠b)/\∀p∈X.pn++pins,p.1≠b
theorem Inv.fpOk{b:Addr}(I:Inv X pins σ H s)(hb:s.heap.objs.size<=b)(hn:H' b=none):yF X pins H' b:=by
 refine⟨hn,Nat.ne_of_gt (Nat.lt_of_lt_of_le I.lt hb),I.nofs hb,.inr (Nat.le_trans I.sz hb),λx c e z=>?_,λp hp z=>?_⟩
 ·obtain⟨v,q⟩:=I.cell x c e;exact absurd (Nat.lt_of_lt_of_le q.lt (by rw[z];exact hb)) (Nat.lt_irrefl _)
 ·exact absurd (Nat.lt_of_lt_of_le (Heap.lt_size (I.pin p hp).1) (by rw[z];exact hb)) (Nat.lt_irrefl _)
structure wY(P:Program)(w:World)(K:Fg)(tg:Expr)(J:It)(fp:List Addr)(it:Addr)(tn:Nat->Heap->Prop):Prop where
 mem:it∈fp
 obj:∀i h,tn i h->∀b∈fp,∃o,h.get? b=some o/\∀v,o.data≠.cell v
 keep:∀i h h',tn i h->(∀b∈fp,∀o,h.get? b=some o->h'.get? b=some o)->tn i h'
 item:∀(X:Cx),X.prog=P->X.w=w->X.K=K->X.calm=true->∀(i:Nat) (pins:AO) (s:Shared) (σ:St) (H:Hp) (E:Vs),Inv X pins σ H s->(∀b∈fp,yF X pins H b)->tn i s.heap->J.go i H->
  wpAny (model P w) X.A (pyNext (.ref it)) (λr s1=>∃u,r=some u/\
   wpAny (model P w) X.A (letOwnedTupleGo tg (.ref it) u) (λ_ s2=>∃x H',Inv X pins σ H' s2/\zJ x u/\J.yld i H x H'/\tn (i+1) s2.heap/\∀b∈fp,H' b=none) E s1) E s
 done:∀(X:Cx),X.prog=P->X.w=w->X.K=K->X.calm=true->∀(i:Nat) (pins:AO) (s:Shared) (σ:St) (H:Hp) (E:Vs),Inv X pins σ H s->(∀b∈fp,yF X pins H b)->tn i s.heap->J.stop i H->
  wpAny (model P w) X.A (pyNext (.ref it)) (λr s1=>r=none/\Inv X pins σ H s1) E s
 self:∀(A:Around) (i:Nat) (s:Shared) (Q:Vs) (E:Vs),tn i s.heap->Q (.ref it) s->wpAny (model P w) A (pyIter (.ref it)) Q E s
abbrev TI:=St->Hp->(It->Hp->Prop)->Prop
def PIE(X:Cx)(pins:AO)(σ:St)(tg:Expr)(R:It->Hp->Prop)(itv:Value)(s2:Shared):Prop:=
 ∃(it:Addr) (fp:List Addr) (tn:Nat->Heap->Prop) (J:It) (H':Hp),itv=.ref it/\Inv X pins σ H' s2/\wY X.prog X.w X.K tg J fp it tn/\tn 0 s2.heap/\(∀b∈fp,yF X pins H' b)/\R J H'
def PI(X:Cx)(tg zM:Expr)(wi:TI):Prop:=
 ∀(pins:AO) (s:Shared) (σ:St) (H:Hp) (R:It->Hp->Prop),Inv X pins σ H s->wi σ H R->
  wpAny (model X.prog X.w) X.A (eval zM X.env) (λv s1=>wpAny (model X.prog X.w) X.A (pyIter v) (PIE X pins σ tg R) X.xe s1) X.xe s
theorem zhZ{s:Shared}{it:Addr}{n:String}{vs:Array Value}(ho:s.heap.get? it=some o)(hc:o.cls=.type n)(hd:o.data=.fields vs)(hn:["enumerate","zip","dict_itemiterator","dict_reverseitemiterator","odict_iterator","itertools.zip_longest","itertools.pairwise"].contains n=false)(hQ:Q () s):wpAny M A (letOwnedTupleGo tg (.ref it) u) Q E s:=by
 unfold letOwnedTupleGo;cases tg<;>first
  |exact wpAny_pure hQ
  |(cases u<;>first
    |exact wpAny_pure hQ
    | (refine wpAny_bind (wpAny_load ho ?_)
       rw[hc,hd];show wpAny M A (if(["enumerate","zip","dict_itemiterator","dict_reverseitemiterator","odict_iterator","itertools.zip_longest","itertools.pairwise"].contains n&&vs[0]? ==some (rawInt _))=true then _ else _) Q E s;rw[if_neg (by intro h;rw[hn,Bool.false_and]at h;cases h)];exact wpAny_pure hQ))
def Itl(K:Fg)(a:Addr):It:=
 ⟨λi H=>∃xs x,SqL K H a xs/\xs[i]?=some x,λi H x H'=>H'=H/\∀xs,SqL K H a xs->xs[i]?=some x,λi H=>∃xs,SqL K H a xs/\xs.length<=i⟩
def Itt(K:Fg)(a:Addr):It:=
 ⟨λi H=>∃xs x,SqT K H a xs/\xs[i]?=some x,λi H x H'=>H'=H/\∀xs,SqT K H a xs->xs[i]?=some x,λi H=>∃xs,SqT K H a xs/\xs.length<=i⟩
def Itr(lo:Int)(n:Nat):It:=⟨λi _=>i<n,λi H x H'=>H'=H/\x=.int (lo+i),λi _=>n<=i⟩
theorem zgW(a it:Addr):wY P w K tg (Itl K a) [it] it (λi h=>h.IsListIter it a i)where
 mem:=by simp
 obj:=λi h st b hb=>by
  have e:b=it:=by simpa using hb
  subst e;obtain⟨o,e,c,d⟩:=st;exact⟨o,e,λv z=>by rw[d]at z;cases z⟩
 keep:=λi h h' st k=>st.at λo e=>k it (by simp) o e
 item:=by
  intro X hP hw hK hc i pins s σ H E I hf st hg;subst hP hw hK;obtain⟨xs,x,hq,hx⟩:=hg;obtain⟨its,rv,p,hz⟩:=I.list hq;obtain⟨u,hu,ru⟩:=rv.get hx;obtain⟨f0,f1,f2,f3,f4,f5⟩:=hf it (by simp);refine wpAny_pyNext_list_item st p.isList (x:=u) (by simpa using hu) λh' st' sb=>?_
  have I1:Inv X pins σ H {s with heap:=h'}:=I.turned (t':=s.toks) (λb o hb e=>(sb.2 b hb).trans e) f0 f1 f3 f4 f5;obtain⟨o,e,c,d⟩:=id st';exact⟨u,rfl,zhZ (s:={s with heap:=h'}) e c d (by decide) ⟨x,H,I1,ru,⟨rfl,λys hy=>by rw[I.list_inj hy hq];exact hx⟩,st',λb hb=>(hf b hb).1⟩⟩
 done:=by intro X hP hw hK hc i pins s σ H E I hf st hg;subst hP hw hK;obtain⟨xs,hq,hx⟩:=hg;obtain⟨its,rv,p,hz⟩:=I.list hq;obtain⟨f0,f1,f2,f3,f4,f5⟩:=hf it (by simp);have hl:=rv.length;exact wpAny_pyNext_list_end (I.ok.hd hc) st p.isList (by simp;omega) λh' eb=>⟨rfl,I.turned (t':=s.toks) (λb o hb e=>eb b o hb e) f0 f1 f3 f4 f5⟩
 self:=λ_ _ _ _ _ st h=>wpAny_pyIter_listiter st h
theorem zgk(a it:Addr):wY P w K tg (Itt K a) [it] it (λi h=>h.IsTupleIter it a i)where
 mem:=by simp
 obj:=λi h st b hb=>by
  have e:b=it:=by simpa using hb
  subst e;obtain⟨o,e,c,d⟩:=st;exact⟨o,e,λv z=>by rw[d]at z;cases z⟩
 keep:=λi h h' st k=>st.at λo e=>k it (by simp) o e
 item:=by
  intro X hP hw hK hc i pins s σ H E I hf st hg;subst hP hw hK;obtain⟨xs,x,hq,hx⟩:=hg;obtain⟨its,rv,p,hz⟩:=I.tuple hq;obtain⟨u,hu,ru⟩:=rv.get hx;obtain⟨f0,f1,f2,f3,f4,f5⟩:=hf it (by simp);refine wpAny_pyNext_tuple_item st (show s.heap.IsTuple a its.toArray from p) (x:=u) (by simpa using hu) λh' st' sb=>?_
  have I1:Inv X pins σ H {s with heap:=h'}:=I.turned (t':=s.toks) (λb o hb e=>(sb.2 b hb).trans e) f0 f1 f3 f4 f5;obtain⟨o,e,c,d⟩:=id st';exact⟨u,rfl,zhZ (s:={s with heap:=h'}) e c d (by decide) ⟨x,H,I1,ru,⟨rfl,λys hy=>by rw[I.tuple_inj hy hq];exact hx⟩,st',λb hb=>(hf b hb).1⟩⟩
 done:=by intro X hP hw hK hc i pins s σ H E I hf st hg;subst hP hw hK;obtain⟨xs,hq,hx⟩:=hg;obtain⟨its,rv,p,hz⟩:=I.tuple hq;obtain⟨f0,f1,f2,f3,f4,f5⟩:=hf it (by simp);have hl:=rv.length;exact wpAny_pyNext_tuple_end (I.ok.hd hc) st (show s.heap.IsTuple a its.toArray from p) (by simp;omega) λh' eb=>⟨rfl,I.turned (t':=s.toks) (λb o hb e=>eb b o hb e) f0 f1 f3 f4 f5⟩
 self:=λ_ _ _ _ _ st h=>wpAny_pyIter_tupleiter st h
theorem zgl(it:Addr)(lo:Int)(n:Nat):wY P w K tg (Itr lo n) [it] it (λi h=>IsRangeIter h it (lo+(i:Nat)*1) ((n:Int) - (i:Nat)) 1)where
 mem:=by simp
 obj:=λi h st b hb=>by
  have e:b=it:=by simpa using hb
  subst e;exact⟨_,st,λv z=>by have z':Data.fields _=Data.cell v:=z;cases z'⟩
 keep:=λi h h' st k=>k it (by simp) _ st
 item:=by
  intro X hP hw hK hc i pins s σ H E I hf st hg;subst hP hw hK;obtain⟨f0,f1,f2,f3,f4,f5⟩:=hf it (by simp);have W:=Walks.range (prog:=X.prog) (w:=X.w) (I.ok.hd hc) it lo 1 n;refine W.item i s _ _ hg st λv h' tk hv st' kk=>?_
  obtain⟨t,rfl⟩:=hv;have I1:Inv X pins σ H {s with heap:=h',toks:=tk}:=I.turned (λb o hb e=>kk b o (by simpa using hb) e) f0 f1 f3 f4 f5;refine⟨_,rfl,zhZ (s:={s with heap:=h',toks:=tk}) (n:="range_iterator") st' rfl rfl (by decide) ⟨.int (lo+i),H,I1,⟨t,?_⟩,⟨rfl,rfl⟩,st',λb hb=>(hf b hb).1⟩⟩;rw[Int.mul_one]
 done:=by intro X hP hw hK hc i pins s σ H E I hf st hg;subst hP hw hK;obtain⟨f0,f1,f2,f3,f4,f5⟩:=hf it (by simp);exact wpAny_pyNext_range_end (I.ok.hd hc) st (by have:n<=i:=hg;omega) λh' eb=>⟨rfl,I.turned (t':=s.toks) (λb o hb e=>eb b o hb e) f0 f1 f3 f4 f5⟩
 self:=λ_ _ _ _ _ st h=>wpAny_pyIter_rangeiter st h
variable{l:Expr}{tl:TE}{fp:List Addr}
section
variable{X:Cx}{tg:Expr}
def zor(K:Fg)(tl:TE):TI:=λσ H R=>tl σ H λx H1=>∃a,x=.ref a/\(∃xs,SqL K H1 a xs)/\R (Itl K a) H1
def iTup(K:Fg)(tl:TE):TI:=λσ H R=>tl σ H λx H1=>∃a,x=.ref a/\(∃xs,SqT K H1 a xs)/\R (Itt K a) H1
theorem zhv(hl:PE X l tl):PI X tg l (zor X.K tl):=by
 intro pins s σ H R I h;refine thn (hl pins s σ H _ I h) λv s1 h_=>?_
 obtain⟨x,H1,I1,r1,q1⟩:=h_;obtain⟨a,e,⟨xs,hq⟩,q⟩:=q1;subst e;cases r1
 obtain⟨its,rv,p,hz⟩:=I1.list hq;refine wpAny_pyIter_list p.isList ?_;refine⟨s1.heap.objs.size,[s1.heap.objs.size],_,_,H1,rfl,I1.kept (t':=s1.toks) λb o e=>Heap.get?_push_of_some _ e,zgW a _,⟨_,Heap.get?_push_size _ rfl,rfl,rfl⟩,λb hb=>?_,q⟩;have e:b=s1.heap.objs.size:=by simpa using hb
 subst e;exact I1.fpOk (Nat.le_refl _) (I1.hok.fresh (Nat.le_refl _))
theorem zmv(hl:PE X l tl):PI X tg l (iTup X.K tl):=by
 intro pins s σ H R I h;refine thn (hl pins s σ H _ I h) λv s1 h_=>?_
 obtain⟨x,H1,I1,r1,q1⟩:=h_;obtain⟨a,e,⟨xs,hq⟩,q⟩:=q1;subst e;cases r1
 obtain⟨its,rv,p,hz⟩:=I1.tuple hq;refine wpAny_pyIter_tuple (show s1.heap.IsTuple a its.toArray from p) ?_;refine⟨s1.heap.objs.size,[s1.heap.objs.size],_,_,H1,rfl,I1.kept (t':=s1.toks) λb o e=>Heap.get?_push_of_some _ e,zgk a _,⟨_,Heap.get?_push_size _ rfl,rfl,rfl⟩,λb hb=>?_,q⟩;have e:b=s1.heap.objs.size:=by simpa using hb
 subst e;exact I1.fpOk (Nat.le_refl _) (I1.hok.fresh (Nat.le_refl _))
theorem ziV{R:It->Hp->Prop}{lo hi:Int}{t u v:Tok}{tk:Nat}(I:Inv X pins σ H s)(h1:-(2^62)<=lo)(h2:lo<2^62)(h3:-(2^62)<=hi)(h4:hi<2^62)(q:R (Itr lo (hi - lo).toNat) H):wpAny (model X.prog X.w) X.A (pyIter (.ref s.heap.objs.size)) (PIE X pins σ tg R) E {s with heap:=s.heap.push {cls:=.type "range",data:=.fields #[.int lo t,.int hi u,.int 1 v]},toks:=tk}:=by
 refine wpAny_pyIter_range (IsRange.new ..) (small_one h1 h2 h3 h4) ?_;have I1:Inv X pins σ H {s with heap:=s.heap.push {cls:=.type "range",data:=.fields #[.int lo t,.int hi u,.int 1 v]},toks:=tk}:=I.kept λb o e=>Heap.get?_push_of_some _ e
 refine⟨(s.heap.push {cls:=.type "range",data:=.fields #[.int lo t,.int hi u,.int 1 v]}).objs.size,[(s.heap.push {cls:=.type "range",data:=.fields #[.int lo t,.int hi u,.int 1 v]}).objs.size],_,_,H,rfl,
  I1.kept (t':=tk) λb o e=>Heap.get?_push_of_some _ e,zgl _ lo (hi - lo).toNat,?_,λb hb=>?_,q⟩
 ·have e1:lo+((0:Nat):Int)*1=lo:=by simp
  have e2:(((hi - lo).toNat:Nat):Int) - ((0:Nat):Int)=Builtin.Range.rangeSize lo hi 1:=by rw[rangeSize_one];split<;>omega
  show IsRangeIter _ _ (lo+((0:Nat):Int)*1) ((((hi - lo).toNat:Nat):Int) - ((0:Nat):Int)) 1;rw[e1,e2];exact Heap.get?_push_size _ rfl
 ·have e:b=(s.heap.push {cls:=.type "range",data:=.fields #[.int lo t,.int hi u,.int 1 v]}).objs.size:=by simpa using hb
  subst e;exact I1.fpOk (Nat.le_refl _) (I1.hok.fresh (Nat.le_refl _))
def zoq(ta:TA):TI:=λσ H R=>ta σ H λvs H1=>∃j:Int,vs=[.int j]/\ -(2^62)<=j/\j<2^62/\R (Itr 0 j.toNat) H1
theorem zhu{a:Expr}{ta:TA}{p:Pos}(hg:Gl X "range")(hm:X.mg "range"=none)(ha:PA X [a] ta)(hs:starEach [a] X.env=[(false,eval a X.env)]:=by rfl):PI X tg (.Call (.Name "range" p) [a] [] pos) (zoq ta):=by
 intro pins s σ H R I h;refine Call_ (nC I hg hm boot_range (PyProof.Rows.callWith_type1 (thn (ha pos pins s σ H _ I h) λus s1 ⟨vs,H1,I1,r1,q1⟩=>?_) hs rfl));obtain⟨j,e,q1,q2,q⟩:=q1;subst e;cases r1 with
 |cons r rr=>
  cases rr
  obtain⟨t,rfl⟩:=r;exact call_range_1 (ziV I1 (by omega) (by omega) q1 q2 (by simpa using q))
def tFor(wi:TI)(g:TG)(tb:TS):TS:=λD σ H=>wi σ H λJ H1=>∃W:Nat->Nat->St->Hp->Prop,(∃m,W 0 m σ H1)/\∀i m σ H,W i m σ H->
 (J.stop i H/\D.nx σ H)\/(J.go i H/\∃N:St->Hp->Prop,(∀σ' H',N σ' H'->∃m',m'<m/\W (i+1) m' σ' H')/\∀x H',J.yld i H x H'->g x σ H' λσ2 H2=>tb {D with nx:=N,ct:=N,bk:=D.nx} σ2 H2)
def zek(fp:List Addr)(h:Heap):AO:=fp.filterMap λb=>(h.get? b).map λo=>(b,o)
theorem zaO{b:Addr}(hb:b∈fp)(e:h.get? b=some o):(b,o)∈zek fp h:=List.mem_filterMap.mpr ⟨b,hb,by rw[e];rfl⟩
theorem zhD{p:Addr×Obj}(hp:p∈zek fp h):p.1∈fp/\h.get? p.1=some p.2:=by
 obtain⟨b,hb,e⟩:=List.mem_filterMap.mp hp;cases q:h.get? b with
 |none=>rw[q]at e;cases e
 |some o=>
  rw[q]at e;have e':(b,o)=p:=Option.some.inj e;subst e';exact⟨hb,q⟩
theorem Inv.pinned(I:Inv X pins σ H s)(hf:∀b∈fp,yF X pins H b)(ho:∀b∈fp,∃o,s.heap.get? b=some o/\∀v,o.data≠.cell v):Inv X (pins++zek fp s.heap) σ H s:=
 I.pins_of λp hp=>(List.mem_append.mp hp).elim (λz=>I.pin p (List.mem_append_right _ z)) λz=>by
  obtain⟨hb,e⟩:=zhD z;obtain⟨f0,f1,f2,_⟩:=hf p.1 hb;obtain⟨o,e',d⟩:=ho p.1 hb;rw[e]at e';cases e'
  exact⟨e,f0,f1,f2,d⟩
theorem Inv.unpinned{pl:AO}(I:Inv X (pins++pl) σ H s):Inv X pins σ H s:=I.pins_of λp hp=>I.pin p (List.mem_append_right _ (List.mem_append_left _ hp))
theorem zmt{zM:Expr}{wi:TI}{g:TG}(hp:PassesOwn (model X.prog X.w) X.A X.env X.xe)(hc:X.calm=true)(hi:PI X tg zM wi)(hg:PG X tg g)(hb:PSs X body tb)(hs:∀x,foldedSetIterable zM X.env x=pure x:=by intro _;rfl):PS X (.For tg zM body [] pos) (tFor wi g tb):=by
 intro pins s σ H D I h;refine wpAny_For (thn (hi pins s σ H _ I h) λv s1 h1=>thn h1 λitv s2 h2=>?_) hs;obtain⟨it,fp,tn,J,H2,e,I2,T,st2,f2,W,⟨m0,w0⟩,turn⟩:=h2;subst e;have stat:∀{H':Hp},(∀b∈fp,H' b=none)->∀b∈fp,yF X pins H' b:=λhn b hb=>⟨hn b hb,(f2 b hb).2⟩
 refine codeAny_forLoop_any (λn s'=>∃i σ' H',Inv X pins σ' H' s'/\tn i s'.heap/\(∀b∈fp,H' b=none)/\W i n σ' H') ?_ m0 ⟨0,σ,H2,I2,st2,λb hb=>(f2 b hb).1,w0⟩;rintro n s3 ⟨i,σ3,H3,I3,st3,fr3,w3⟩;rcases turn i n σ3 H3 w3 with⟨stop,qn⟩|⟨go,N,hN,step⟩
 ·refine wpAny_passesOwn hp (thn (T.done X rfl rfl rfl hc i pins s3 σ3 H3 X.xe I3 (stat fr3) st3 stop) λr s4 ⟨hr,I4⟩=>?_);subst hr;exact wpAny_execs_nil ⟨σ3,H3,I4,qn⟩
 ·refine wpAny_passesOwn hp (thn (T.item X rfl rfl rfl hc i pins s3 σ3 H3 X.xe I3 (stat fr3) st3 go) λr s4 ⟨u,hr,h4⟩=>?_);subst hr;refine wpAny_passesOwn hp (thn h4 λ_ s5 ⟨x,H5,I5,r5,y5,st5,fr5⟩=>?_);have I5':=I5.pinned (stat fr5) (T.obj _ _ st5);refine wpAny_passesOwn hp (thn (hg _ s5 σ3 H5 x u _ I5' r5 (step x H5 y5)) λ_ s6 ⟨σ6,H6,I6,q6⟩=>?_);refine wpAny_passesOwn hp (thn (hb _ s6 σ6 H6 _ I6 q6) λf s7 q7=>?_);have again:∀{σ7:St}{H7:Hp},Inv X (pins++zek fp s5.heap) σ7 H7 s7->N σ7 H7->∃m,m<n/\∃i σ' H',Inv X pins σ' H' s7/\tn i s7.heap/\(∀b∈fp,H' b=none)/\W i m σ' H':=λ{σ7 H7} I7 n7=>by obtain⟨m',hm,w7⟩:=hN σ7 H7 n7;refine⟨m',hm,i+1,σ7,H7,I7.unpinned,T.keep _ _ _ st5 λb hb o e=>(I7.pin (b,o) (List.mem_append_right _ (List.mem_append_right _ (zaO hb e)))).1,λb hb=>?_,w7⟩;obtain⟨o,e,d⟩:=T.obj _ _ st5 b hb;exact(I7.pin (b,o) (List.mem_append_right _ (List.mem_append_right _ (zaO hb e)))).2.1
  cases f with
  |next=>obtain⟨σ7,H7,I7,n7⟩:=q7;exact again I7 n7
  |cont=>obtain⟨σ7,H7,I7,n7⟩:=q7;exact again I7 n7
  |brk=>obtain⟨σ7,H7,I7,q7⟩:=q7;exact⟨σ7,H7,I7.unpinned,q7⟩
  |ret v=>obtain⟨x7,σ7,H7,I7,r7,q7⟩:=q7;exact⟨x7,σ7,H7,I7.unpinned,r7,q7⟩
end
abbrev R2:=V->V->Hp->VK->Prop
def OpR(X:Cx)(f:Value->Value->Sem Value)(r:R2):Prop:=
 ∀(pins:AO) (s:Shared) (σ:St) (H:Hp) (x y:V) (v u:Value) (Q:VK),Inv X pins σ H s->zJ x v->zJ y u->r x y H Q->
  wpAny (model X.prog X.w) X.A (f v u) (EP X pins σ Q) X.xe s
def UnR(X:Cx)(f:Value->Sem Value)(r:V->Hp->VK->Prop):Prop:=
 ∀(pins:AO) (s:Shared) (σ:St) (H:Hp) (x:V) (v:Value) (Q:VK),Inv X pins σ H s->zJ x v->r x H Q->
  wpAny (model X.prog X.w) X.A (f v) (EP X pins σ Q) X.xe s
def yH(X:Cx)(f:Value)(r:List V->Hp->VK->Prop):Prop:=
 ∀(pins:AO) (s:Shared) (σ:St) (H:Hp) (xs:List V) (us:List Value) (Q:VK),Inv X pins σ H s->zK xs us->r xs H Q->
  wpAny (model X.prog X.w) X.A (call f us) (EP X pins σ Q) X.xe s
def TruR(X:Cx)(r:V->Hp->(Bool->Hp->Prop)->Prop):Prop:=
 ∀(pins:AO) (s:Shared) (σ:St) (H:Hp) (x:V) (v:Value) (Q:Bool->Hp->Prop),Inv X pins σ H s->zJ x v->r x H Q->
  wpAny (model X.prog X.w) X.A (truthy v) (TP X pins σ Q) X.xe s
def tOp(r:R2)(ta tb:TE):TE:=λσ H Q=>ta σ H λx H1=>tb σ H1 λy H2=>r x y H2 Q
def tUn(r:V->Hp->VK->Prop)(ta:TE):TE:=λσ H Q=>ta σ H λx H1=>r x H1 Q
def rI(C:Int->Int->Prop)(g:Int->Int->V):R2:=λx y H Q=>∃i j,x=.int i/\y=.int j/\C i j/\Q (g i j) H
def rI0(g:Int->Int->V):R2:=λx y H Q=>∃i j,x=.int i/\y=.int j/\Q (g i j) H
def rU(g:Int->V):V->Hp->VK->Prop:=λx H Q=>∃i,x=.int i/\Q (g i) H
variable{f:Value->Value->Sem Value}{g:Int->Int->Int}{r:R2}
section
variable{X:Cx}{a b c:Expr}{ta tb tc:TE}{pos:Pos}
theorem binT(ha:PE X a ta)(hb:PE X b tb){R:V->V->Hp->Prop}(I:Inv X pins σ H s)(h:ta σ H λx H1=>tb σ H1 λy H2=>R x y H2){Q:Vs}(hf:∀v u s2 x y H2,Inv X pins σ H2 s2->zJ x v->zJ y u->R x y H2->wpAny (model X.prog X.w) X.A (f v u) Q X.xe s2):
  wpAny (model X.prog X.w) X.A (eval a X.env) (λv s₁=>wpAny (model X.prog X.w) X.A (eval b X.env) (λu s₂=>wpAny (model X.prog X.w) X.A (f v u) Q X.xe s₂) X.xe s₁) X.xe s:=by
 refine thn (ha pins s σ H _ I h) λv s1 h_=>?_
 obtain⟨x,H1,I1,r1,q1⟩:=h_;refine thn (hb pins s1 σ H1 _ I1 q1) λu s2 h_=>?_
 obtain⟨y,H2,I2,r2,q2⟩:=h_;exact hf v u s2 x y H2 I2 r1 r2 q2
theorem zoi{op:Operator}(ho:OpR X (binaryOp op) r)(ha:PE X a ta)(hb:PE X b tb):PE X (.BinOp a op b pos) (tOp r ta tb):=by intro pins s σ H Q I h;exact wpAny_BinOp (binT ha hb I h λv u s2 x y H2 I2 rx ry q=>ho pins s2 σ H2 x y v u Q I2 rx ry q)
theorem zoh{op:UnaryOp}{r:V->Hp->VK->Prop}(ho:UnR X (unaryOp op) r)(ha:PE X a ta):PE X (.UnaryOp op a pos) (tUn r ta):=by intro pins s σ H Q I h;exact UnaryOp_ (thn (ha pins s σ H _ I h) λv s1 ⟨x,H1,I1,r1,q1⟩=>ho pins s1 σ H1 x v Q I1 r1 q1)
theorem opI{C:Int->Int->Prop}(rule:∀(i j:Int) (t u:Tok) (s:Shared) (Q:Vs) (E:Vs),C i j->Q (.int (g i j) s.toks) {s with toks:=s.toks+1}->wpAny (model X.prog X.w) X.A (f (.int i t) (.int j u)) Q E s):
  OpR X f (rI C λi j=>.int (g i j)):=by
 intro pins s σ H x y v u Q I rx ry h;obtain⟨i,j,rfl,rfl,hc,q⟩:=h;obtain⟨t,rfl⟩:=rx;obtain⟨t',rfl⟩:=ry;exact rule i j t t' s _ _ hc ⟨.int (g i j),H,I.tok _,⟨_,rfl⟩,q⟩
theorem opI0(rule:∀(i j:Int) (t u:Tok) (s:Shared) (Q:Vs) (E:Vs),Q (.int (g i j) s.toks) {s with toks:=s.toks+1}->wpAny (model X.prog X.w) X.A (f (.int i t) (.int j u)) Q E s):
  OpR X f (rI0 λi j=>.int (g i j)):=by
 intro pins s σ H x y v u Q I rx ry h;obtain⟨i,j,rfl,rfl,q⟩:=h;obtain⟨t,rfl⟩:=rx;obtain⟨t',rfl⟩:=ry;exact rule i j t t' s _ _ ⟨.int (g i j),H,I.tok _,⟨_,rfl⟩,q⟩
theorem opB0{g:Int->Int->Bool}(rule:∀(i j:Int) (t u:Tok) (s:Shared) (Q:Vs) (E:Vs),Q (.bool (g i j)) s->wpAny (model X.prog X.w) X.A (f (.int i t) (.int j u)) Q E s):
  OpR X f (rI0 λi j=>.bl (g i j)):=by
 intro pins s σ H x y v u Q I rx ry h;obtain⟨i,j,rfl,rfl,q⟩:=h;obtain⟨t,rfl⟩:=rx;obtain⟨t',rfl⟩:=ry;exact rule i j t t' s _ _ ⟨.bl (g i j),H,I,rfl,q⟩
def CDiv(i j:Int):Prop:=0<j/\j<1073741824
def CPow(i j:Int):Prop:=0<=j/\j<=1000000/\i.natAbs<2^64
def CMul(i j:Int):Prop:=(-(2^64)<i/\i<2^64)\/(-(2^64)<j/\j<2^64)
theorem CMul.ok{i j:Int}(h:CMul i j):IntMulOk i j:=by
 rcases h with⟨h1,h2⟩|⟨h1,h2⟩
 ·exact .of_left (intBits_le_64 h1 h2)
 ·exact .of_right (intBits_le_64 h1 h2)
theorem zmP:OpR X (binaryOp .Add) (rI0 λi j=>.int (i+j)):=opI0 λ_ _ _ _ _ _ _ q=>add_int q
theorem zmJ:OpR X (binaryOp .Sub) (rI0 λi j=>.int (i - j)):=opI0 λ_ _ _ _ _ _ _ q=>sub_int q
theorem zlc:OpR X (binaryOp .FloorDiv) (rI CDiv λi j=>.int (i/j)):=opI λi j _ _ _ _ _ hc q=>by have h1:(0:Int)<j:=hc.1;have h2:j<1073741824:=hc.2;exact floordiv_int (by omega) (by rw[Int.fdiv_eq_ediv_of_nonneg i (by omega)];exact q) (.inl (PyProof.noPylong_small (by omega)))
theorem zmM:OpR X (binaryOp .Mod) (rI (λ_ j=>0<j) λi j=>.int (i%j)):=opI λi j _ _ _ _ _ hc q=>by have h1:(0:Int)<j:=hc;exact mod_int' (by omega) (by rw[Int.fmod_eq_emod_of_nonneg i (by omega)];exact q)
theorem zmK:OpR X (binaryOp .Pow) (rI CPow λi j=>.int (i^j.toNat)):=opI λ_ _ _ _ _ _ _ hc q=>pow_int_small hc.1 hc.2.1 hc.2.2 q
theorem unI{f:Value->Sem Value}{g:Int->Int}(rule:∀(i:Int) (t:Tok) (s:Shared) (Q:Vs) (E:Vs),Q (.int (g i) s.toks) {s with toks:=s.toks+1}->wpAny (model X.prog X.w) X.A (f (.int i t)) Q E s):
  UnR X f (rU λi=>.int (g i)):=by
 intro pins s σ H x v Q I rx h;obtain⟨i,rfl,q⟩:=h;obtain⟨t,rfl⟩:=rx;exact rule i t s _ _ ⟨.int (g i),H,I.tok _,⟨_,rfl⟩,q⟩
theorem zlN:UnR X (unaryOp .USub) (rU λi=>.int (-i)):=unI λ_ _ _ _ _ q=>neg_int q
end
variable{op:CmpOp}
section
variable{X:Cx}{a b c:Expr}{ta tb tc:TE}{pos:Pos}
theorem zom:OpR X (compareOp .Lt) (rI0 λi j=>.bl (decide (i<j))):=opB0 λ_ _ _ _ _ _ _ q=>lt_int q
theorem zon:OpR X (compareOp .Gt) (rI0 λi j=>.bl (decide (j<i))):=opB0 λ_ _ _ _ _ _ _ q=>gt_int q
theorem OpR.or{r':R2}(h:OpR X f r)(h':OpR X f r'):OpR X f (λx y H Q=>r x y H Q\/r' x y H Q):=by
 intro pins s σ H x y v u Q I rx ry q;rcases q with q|q
 ·exact h pins s σ H x y v u Q I rx ry q
 ·exact h' pins s σ H x y v u Q I rx ry q
theorem zkk(b:Expr)(h:op≠.In:=by decide)(h2:op≠.NotIn:=by decide):behindInMarks op b=false:=by
 have e1:(op==CmpOp.In)=false:=by cases op<;>first|rfl|exact absurd rfl h
 have e2:(op==CmpOp.NotIn)=false:=by cases op<;>first|rfl|exact absurd rfl h2
 cases b<;>simp[behindInMarks,e1,e2]
theorem zkV(ho:OpR X (compareOp op) r)(ha:PE X a ta)(hb:PE X b tb)(hm:behindInMarks op b=false):PE X (.Compare a [op] [b] pos) (tOp r ta tb):=by intro pins s σ H Q I h;exact wpAny_Compare1 (binT ha hb I h λv u s2 x y H2 I2 rx ry q=>ho pins s2 σ H2 x y v u Q I2 rx ry q) hm
def znK(t:TE):TT:=λσ H Q=>t σ H λx H'=>∃k,x=.bl k/\Q k H'
theorem zhp(ho:OpR X (compareOp op) r)(ha:PE X a ta)(hb:PE X b tb)(hm:behindInMarks op b=false):PT X (.Compare a [op] [b] pos) (znK (tOp r ta tb)):=by
 intro pins s σ H Q I h;refine wpAny_isTrue_Compare1 (thn (ha pins s σ H _ I h) λv s1 ⟨x,H1,I1,r1,q1⟩=>thn (hb pins s1 σ H1 _ I1 q1) λu s2 ⟨y,H2,I2,r2,q2⟩=>
  thn (ho pins s2 σ H2 x y v u _ I2 r1 r2 q2) λc s3 ⟨z,H3,I3,r3,k,e,q3⟩=>?_) hm
 subst e;cases r3
 exact wpAny_truthy_bool ⟨H3,I3,q3⟩
def TruV(K:Fg)(x:V)(H:Hp)(k:Bool):Prop:=
 match x with
 | .non=>k=false
 | .bl b=>k=b
 | .int i=>k=(i !=0)
 | .str y=>y.length<=sizeLine/\k=((y.length:Int)!=0)
 | .byt y=>y.size<=sizeLine/\k=((y.size:Int)!=0)
 | .ref p=>(∃xs,SqL K H p xs/\k=!xs.isEmpty)\/(∃xs,SqT K H p xs/\k=!xs.isEmpty)\/∃kvs,H p=some (.dK kvs)/\k=!kvs.isEmpty
 |_=>False
theorem zgD{kvs:List (κ×V)}{vs:List (κ×Value)}(r:KV kvs vs):(!vs.isEmpty)=!kvs.isEmpty:=by cases r<;>rfl
theorem zdp{its:List Value}(r:zK xs its):(!its.toArray.isEmpty)=!xs.isEmpty:=by cases r<;>simp
theorem zdk:(sizeLine:Nat)<2^63:=by rw[sizeLine_eq];decide
theorem zlP:TruR X (λx H Q=>∃k,TruV X.K x H k/\Q k H):=by
 intro pins s σ H x v Q I rx h;obtain⟨k,e,q⟩:=h;have hl:=zdk;have hs:sizeLine=16777216:=sizeLine_eq;cases x with
 |non=>
  cases rx
  have e':k=false:=e;subst e';exact truthy_none ⟨H,I,q⟩
 |bl b=>
  cases rx
  have e':k=b:=e;subst e';exact wpAny_truthy_bool ⟨H,I,q⟩
 |int i=>
  obtain⟨t,rfl⟩:=rx;have e':k=(i !=0):=e;subst e';exact PySem.P.truthy_int ⟨H,I,q⟩
 |str y=>
  obtain⟨t,rfl⟩:=rx;obtain⟨hy,e'⟩:y.length<=sizeLine/\k=((y.length:Int)!=0):=e;subst e';exact PySem.P.truthy_str (by omega) ⟨H,I.tok _,q⟩
 |byt y=>
  obtain⟨t,rfl⟩:=rx;obtain⟨hy,e'⟩:y.size<=sizeLine/\k=((y.size:Int)!=0):=e;subst e';exact PySem.W.truthy_bytes (by omega) ⟨H,I.tok _,q⟩
 |ref p=>
  cases rx
  have e':(∃xs,SqL X.K H p xs/\k=!xs.isEmpty)\/(∃xs,SqT X.K H p xs/\k=!xs.isEmpty)\/∃kvs,H p=some (.dK kvs)/\k=!kvs.isEmpty:=e;rcases e' with⟨xs,hx,e'⟩|⟨xs,hx,e'⟩|⟨kvs,hx,e'⟩
  ·subst e';obtain⟨its,r,pl,hz⟩:=I.list hx;have hlen:=r.length;exact wpAny_truthy_list pl.isList (by simp only[List.size_toArray];omega) ⟨H,I.tok _,by rw[zdp r];exact q⟩
  ·subst e';obtain⟨its,r,pl,hz⟩:=I.tuple hx;have hlen:=r.length;exact truthy_tuple pl (by simp only[List.size_toArray];omega) ⟨H,I.tok _,by rw[zdp r];exact q⟩
  ·subst e';obtain⟨hz,hS,vs,r,m⟩:kvs.length<=sizeLine/\(p==sysModules)=false/\∃vs,KV kvs vs/\s.heap.DictOf (qU X.prog X.w) p vs:=I.hok p _ hx;have hlen:kvs.length=vs.length:=Paired.length r;exact wpAny_truthy_dict hS m (by omega) ⟨H,I.tok _,by rw[zgD r];exact q⟩
 |_=>exact(show False from e).elim
theorem ziZ(ha:PE X a ta)(he:∀whole,isTrue a X.env whole=(do let v ←whole;standAt a.pos;holding [v] (truthy v))):
  PT X a (λσ H Q=>ta σ H λx H'=>∃k,TruV X.K x H' k/\Q k H'):=by
 intro pins s σ H Q I h;exact isTrue_plain (thn (ha pins s σ H _ I h) λv s1 ⟨x,H1,I1,r1,q1⟩=>zlP pins s1 σ H1 x v Q I1 r1 q1) (he _)
theorem zgt:OpR X (binaryOp .Add) (λx y H Q=>∃i j,x=.str i/\y=.str j/\i.length+j.length<=sizeLine/\Q (.str (i++j)) H):=by intro pins s σ H x y v u Q I rx ry h;obtain⟨i,j,rfl,rfl,hz,q⟩:=h;obtain⟨t,rfl⟩:=rx;obtain⟨t',rfl⟩:=ry;exact add_str (λt' tk=>⟨.str (i++j),H,I.tok _,⟨_,rfl⟩,q⟩) hz
theorem wB{x:V}(r:zK [x] us):∃u,us=[u]/\zJ x u:=by
 cases r with
 |cons r1 r2=>cases r2;exact⟨_,rfl,r1⟩
theorem zlM{x y:V}(r:zK [x,y] us):∃u w',us=[u,w']/\zJ x u/\zJ y w':=by
 cases r with
 |cons r1 r2=>
  cases r2 with
  |cons r3 r4=>cases r4;exact⟨_,_,rfl,r1,r3⟩
theorem zir:yH X (.type "int") (λxs H Q=>(∃i,xs=[.int i]/\Q (.int i) H)\/∃k,xs=[.bl k]/\Q (.int (if k then 1 else 0)) H):=by
 intro pins s σ H xs us Q I r h;rcases h with⟨i,rfl,q⟩|⟨k,rfl,q⟩
 ·obtain⟨u,rfl,t,rfl⟩:=wB r;exact call_int_int ⟨.int i,H,I,⟨_,rfl⟩,q⟩
 ·obtain⟨u,rfl,r1⟩:=wB r;cases r1
  exact call_int_bool ⟨.int (if k then 1 else 0),H,I.tok _,⟨_,rfl⟩,q⟩
end
structure ObjM(h:Heap)(x dx C:Addr)(mA:SV):Prop where
 obj:h.get? x=some (PySem.W.instObj C dx)
 ns:h.Ns1 dx mA
 ne:dx≠x
variable{dx:Addr}{mA:SV}
theorem zhN(n:h.Ns1 dx mA):∃od,h.get? dx=some od/\∀name,PySem.W.lookIn name od=some (mA name):=by
 obtain⟨o,es,ep,ho,hd,hk,_,hm⟩:=n;refine⟨o,ho,λname=>?_⟩;have e:=hm name;unfold nsFind findBy at e;rw[←Array.find?_toList]at e;unfold PySem.W.lookIn;rw[hd];dsimp only;split
 ·rename_i y q;rw[q]at e;exact congrArg some e
 ·rename_i q;rw[q]at e;have a:es.toList.any (·.refKey)=false:=by rw[List.any_eq_false];intro y hy;obtain⟨z,t,hkey⟩:=hk y (Array.mem_toList_iff.mp hy);simp[DictEntry.refKey,hkey]
  have a':¬es.toList.any (·.refKey)=true:=by rw[a];exact Bool.false_ne_true
  rw[if_neg a'];exact congrArg some e
variable{C:Addr}
theorem ObjM.look{x:Addr}(I:ObjM h x dx C mA):∃od,PySem.W.InstAt h x (PySem.W.instObj C dx) C (some od)/\∀name,PySem.W.lookIn name od=some (mA name):=
 let⟨od,ho,hl⟩:=zhN I.ns
 ⟨od,⟨I.obj,rfl,rfl,ho⟩,hl⟩
section
variable{prog:Program}{w:World}{A:Around}{E:Vs}{s:Shared}{K:Fg}{x dx C f:Addr}{mA:SV}{name:Str}{v:Value}
end
theorem vT.some_of{v:V}{o:Option Value}(r:vT (some v) o):∃u,o=some u/\zJ v u:=by
 cases o with
 |none=>exact(show False from r).elim
 |some u=>exact⟨u,rfl,r⟩
section
variable{P:Program}{w:World}{H H':Hp}{h h':Heap}{a C dx:Addr}{fs fs':List (Str×V)}
theorem zlo(hok:HOk P w H h)(e:H a=some (.ins C dx fs)):∃mA,ObjM h a dx C mA/\(∀f,vT (fs.lookup f) (mA f))/\PySem.Within mA (fs.map (·.1))/\fs.length<=1000/\H dx=some (.own a):=by obtain⟨d,z,ne,ob,mA,n,r,q⟩:=(show qV P w H h a (.ins C dx fs)from hok a _ e);exact⟨mA,⟨ob,n,ne⟩,r,q,z,d⟩
end
structure Cls(K:Fg)(C:Addr):Prop where
 pg:PySem.W.plainGet K C Str.empty=true
 hd:PySem.W.hasDictIn K C=true
 po:PySem.W.plainOver K C=true
 sa:PySem.W.findIn K (.ref C) "__setattr__"=some (some (.builtin "object.__setattr__"))
theorem Cls.get(c:Cls K C)(f:Str):PySem.W.plainGet K C f=true:=c.pg
section
variable{X:Cx}{pins:AO}{σ:St}{H:Hp}{s:Shared}{a C dx:Addr}{fs:List (Str×V)}{f:Str}{v:V}{A:Around}{E:Vs}
end
section
variable{X:Cx}{o e value:Expr}{f:Str}{pos pos' tpos:Pos}{ta tv:TE}
end
section
variable{X:Cx}{pins:AO}{σ:St}{H:Hp}{s:Shared}{A:Around}{E:Vs}{Q:Vs}{c:Value}{b:Bool}
inductive vK(K:Fg)(H:Hp):V->Value->Prop where
 |non:vK K H .non (.type "NoneType")
 |bl (x:Bool):vK K H (.bl x) (.type "bool")
 |int (i:Int):vK K H (.int i) (.type "int")
 |str (x:Str):vK K H (.str x) (.type "str")
 |flt (x:UInt64):vK K H (.flt x) (.type "float")
 |lst {a:Addr}{xs:List V} (e:H a=some (.lst xs)):vK K H (.ref a) (.type "list")
 |frz {a:Addr}{o:Obj} {xs:List V}(e:H a=some (.frz o (.lst xs))):vK K H (.ref a) (.type "list")
 |tup {a:Addr}{xs:List V} (e:H a=some (.tup xs)):vK K H (.ref a) (.type "tuple")
 |dK {a:Addr}{kvs:List (Key×V)} (e:Rd H a (.dK kvs)):vK K H (.ref a) (.type "dict")
 |dT {a:Addr}{kvs:List (zH×V)} {ys:List V}(e:Rd H a (.dT kvs ys)):vK K H (.ref a) (.type "dict")
 |ins {a C dx:Addr}{fs:List (Str×V)} (e:H a=some (.ins C dx fs)) (cl:Cls K C) (ha:PySem.W.findIn K (.ref C) "__class__"=some (some (.builtin "object.__class__")))
   (hn:PySem.W.specialIn K (.builtin "object.__class__") "__get__"=some (some (.builtin "getset_descriptor.__get__"))) (htk:PySem.W.takesIn K (.builtin "object.__class__")=some true)
   (hm:PySem.W.mroIn K C (.type "object")=some true):vK K H (.ref a) (.ref C)
theorem zhT{x:V}{t:Value}(I:Inv X pins σ H s)(rx:zJ x u)(ty:vK X.K H x t)(e:PySem.W.kitOne X.K t c=some b)(h:∀tk,Q (.bool b) {s with toks:=tk}):
  wpAny (model X.prog X.w) A (call (.builtin "isinstance") [u,c]) Q E s:=by
 cases ty with
 |non=>cases(show u=Value.none from rx);exact PySem.W.kia_one PySem.W.kitx_none I.kIn True.intro e (λz=>nomatch z) h
 |bl y=>cases(show u=Value.bool y from rx);exact PySem.W.kia_one PySem.W.kitx_bool I.kIn True.intro e (λz=>nomatch z) h
 |int i=>obtain⟨t,q⟩:=(show∃t,u=Value.int i t from rx);cases q;exact PySem.W.kia_one PySem.W.kitx_int I.kIn True.intro e (λz=>nomatch z) h
 |str y=>obtain⟨t,q⟩:=(show∃t,u=Value.str y t from rx);cases q;exact PySem.W.kia_one PySem.W.kitx_str I.kIn True.intro e (λz=>nomatch z) h
 |flt y=>obtain⟨t,q⟩:=(show∃t,u=Value.float y t from rx);cases q;exact PySem.W.kia_one PySem.W.kitx_float I.kIn True.intro e (λz=>nomatch z) h
 |@lst a xs ea=>
  cases(show u=Value.ref a from rx)
  obtain⟨_,_,n,_,h1⟩:=(show qV X.prog X.w H s.heap a (.lst xs)from I.hok a _ ea);exact PySem.W.kia_one PySem.W.kitx_list I.kIn ⟨_,h1,rfl⟩ e (λz=>nomatch z) h
 |@frz a ob xs ea=>
  cases(show u=Value.ref a from rx)
  obtain⟨_,_,_,n,_,h1⟩:=(show qV X.prog X.w H s.heap a (.frz ob (.lst xs))from I.hok a _ ea);exact PySem.W.kia_one PySem.W.kitx_list I.kIn ⟨_,h1,rfl⟩ e (λz=>nomatch z) h
 |@tup a xs ea=>
  cases(show u=Value.ref a from rx)
  obtain⟨_,_,_,p⟩:=(show qV X.prog X.w H s.heap a (.tup xs)from I.hok a _ ea);obtain⟨o,h1,h2,_⟩:=p;exact PySem.W.kia_one PySem.W.kitx_tuple I.kIn ⟨o,h1,h2⟩ e (λz=>nomatch z) h
 |@dK a kvs ea=>
  cases(show u=Value.ref a from rx)
  obtain⟨_,_,vs,_,p⟩:=(show qV X.prog X.w H s.heap a (.dK kvs)from ea.ok I.hok);obtain⟨o,es,ep,h1,h2,_⟩:=p;exact PySem.W.kia_one PySem.W.kitx_dict I.kIn ⟨o,h1,h2.1⟩ e (λz=>nomatch z) h
 |@dT a kvs ys ea=>
  cases(show u=Value.ref a from rx)
  obtain⟨_,_,xs,_,o,es,ep,h1,h2,_⟩:=(show qV X.prog X.w H s.heap a (.dT kvs ys)from ea.ok I.hok);exact PySem.W.kia_one PySem.W.kitx_dict I.kIn ⟨o,h1,h2.1⟩ e (λz=>nomatch z) h
 |@ins a C dx fs ea cl ha hn htk hm=>
  cases(show u=Value.ref a from rx)
  obtain⟨mA,O,_⟩:=zlo I.hok ea;obtain⟨od,J,_⟩:=O.look;exact PySem.W.kia_one (PySem.W.kitx_own (cl.get _) cl.hd ha hn htk hm) I.kIn J e (λz=>nomatch z) h
end
structure qR(k:Nat)(A:Around):Prop where
 hd:A.handled=none
 dp:A.depth+3*k+5<recursionLimit
 un:A.units+16*k+200<cLine
 gd:A.guards=some []
theorem qR.mono{k:Nat}(r:qR k A)(h:j<=k):qR j A:=⟨r.hd,by have:=r.dp;omega,by have:=r.un;omega,r.gd⟩
theorem qR.deeper{k:Nat}(r:qR (k+1) A)(env:Env):qR k (A.deeper env):=
 ⟨r.hd,by have:=r.dp;show A.depth+1+3*k+5<_;omega,by have:=r.un;show A.units+3+16*k+200<_;omega,r.gd⟩
theorem qR.in1{k:Nat}{A:Around}(r:qR (k+1) A):qR k A.in1:=
 ⟨r.hd,by have:=r.dp;show A.depth+3*k+5<_;omega,by have:=r.un;show A.units+1+16*k+200<_;omega,r.gd⟩
theorem qR.depth{k:Nat}(r:qR k A):A.depth<recursionLimit:=by have:=r.dp;omega
def tNil:TA:=λ_ H Q=>Q [] H
def znT(ta:TE)(tr:TA):TA:=λσ H Q=>ta σ H λx H1=>tr σ H1 λxs H2=>Q (x::xs) H2
section
variable{X:Cx}{e:Expr}{es:List Expr}{te:TE}{t:TA}{pos:Pos}
theorem vN:PA X [] tNil:=λ_ _ _ _ H Q I h=>Calls.spliced_nil ⟨[],H,I,.nil,h⟩
theorem yY(ha:PE X e te)(hr:PA X es t)(hs:starEach (e::es) X.env=(false,eval e X.env)::starEach es X.env:=by rfl):PA X (e::es) (znT te t):=by intro pos pins s σ H Q I h;rw[hs];show wpAny _ _ (spliced ((false,eval e X.env)::backTo pos (starEach es X.env))) _ _ s;refine Calls.spliced_cons (thn (ha pins s σ H _ I h) λu s1 ⟨x,H1,I1,r1,q1⟩=>?_);exact thn (hr pos pins s1 σ H1 _ I1 q1) λus s2 ⟨xs,H2,I2,r2,q2⟩=>⟨x::xs,H2,I2,.cons r1 r2,q2⟩
def tTup(t:TA):TE:=λσ H Q=>t σ H λxs H1=>xs.length<=sizeLine/\∀p,H1 p=none->Q (.ref p) (upd H1 p (.tup xs))
def tLst(t:TA):TE:=λσ H Q=>t σ H λxs H1=>xs.length<=sizeLine/\∀p,H1 p=none->Q (.ref p) (upd H1 p (.lst xs))
theorem zmz{x1}(h:PA X es t):PE X (.Tuple es x1 pos) (tTup t):=by intro pins s σ H Q I hq;refine wpAny_Tuple_spliced (thn (h pos pins s σ H _ I hq) λus s1 ⟨xs,H1,I1,r,z,q⟩=>⟨by rw[←r.length];exact z,?_⟩);have hf:H1 s1.heap.objs.size=none:=I1.hok.fresh (Nat.le_refl _);refine⟨.ref s1.heap.objs.size,upd H1 s1.heap.objs.size (.tup xs),I1.laid (t':=s1.toks) (λb u e=>Heap.get?_push_of_some _ e) (Nat.le_refl _) ?_,rfl,q _ hf⟩;exact⟨z,us,r,⟨_,Heap.get?_push_size _ rfl,rfl,_,rfl⟩⟩
theorem zmF(h:PA X es t):PE X (.List es pos) (tLst t):=by intro pins s σ H Q I hq;refine wpAny_List_spliced (thn (h pos pins s σ H _ I hq) λus s1 ⟨xs,H1,I1,r,z,q⟩=>⟨by rw[←r.length];exact z,?_⟩);have hf:H1 s1.heap.objs.size=none:=I1.hok.fresh (Nat.le_refl _);refine⟨.ref s1.heap.objs.size,upd H1 s1.heap.objs.size (.lst xs),I1.laid (t':=s1.toks) (λb u e=>Heap.get?_push_of_some _ e) (Nat.le_refl _) ?_,rfl,q _ hf⟩;exact⟨z,us,0,r,Heap.get?_push_size _ rfl⟩
end
abbrev Sp:=List V->Hp->VK->XK->Prop
abbrev CXT:=List Env->Hp->Shared->XK->Vs
structure Env0(P:Program)(w:World)(K:Fg)(mg:SV)(base:Heap)(A:Around)(outer:List Env)(s:Shared)(H:Hp):Prop where
 frames:A.frames=some outer
 mod:Mod K mg base
 bs:∀b o,base.get? b=some o->s.heap.get? b=some o/\H b=none
 bsz:base.objs.size<=s.heap.objs.size
 funs:s.heap.FunFrames base outer
 frf:∀b∈frs outer,H b=none
 hok:HOk P w H s.heap
 bare:AllBare s.gens
def CE(outer:List Env)(P:Program)(w:World)(H:Hp)(s:Shared)(Q:VK)(u:Value)(s':Shared):Prop:=
 ∃v H',s'.os=s.os/\AllBare s'.gens/\Un (frs outer) [] H H' s.heap s'.heap/\HOk P w H' s'.heap/\zJ v u/\Q v H'
def CR(CX:CXT)(outer:List Env)(P:Program)(w:World)(H:Hp)(s:Shared)(Q:VK)(E:XK)(r:Result)(s':Shared):Prop:=
 match r with
 | .ok (.ret u)=>CE outer P w H s Q u s'
 | .ok _=>False
 | .error e=>CX outer H s E e s'
structure yG(P:Program)(w:World)(K:Fg)(mg:SV)(base:Heap)(CX:CXT)(k:Nat)(f:Addr)(fd:FuncData)(ps:List Str)(sp:Sp):Prop where
 len:∀vs H Q E,sp vs H Q E->vs.length=ps.length
 run:∀(A:Around) (outer:List Env) (s:Shared) (H:Hp) (args:Args) (us:List Value) (vs:List V) (Q:VK) (E:XK),qR k A->Env0 P w K mg base A outer s H->BindsTo s fd args (ps.zip us)->zK vs us->sp vs H Q E->
  codeAny (model P w) A (.call (.ref f) args) (CR CX outer P w H s Q E) s
variable{mg:SV}{base:Heap}{CX:CXT}{fd:FuncData}{ps:List Str}{sp:Sp}
theorem yG.mono{k:Nat}{f:Addr}(F:yG P w K mg base CX j f fd ps sp)(h:j<=k):
  yG P w K mg base CX k f fd ps sp:=⟨F.len,λA outer s H args us vs Q E hr=>F.run A outer s H args us vs Q E (hr.mono h)⟩
section
variable{X:Cx}{pins:AO}{σ:St}{H:Hp}{s s':Shared}
theorem Inv.env0(I:Inv X pins σ H s):Env0 X.prog X.w X.K X.mg X.base X.A X.stack s H:=
 ⟨I.ok.frames,I.ok.mod,I.bs,Nat.le_trans I.ok.bsz I.sz,I.stack,I.stkFree,I.hok,I.bare⟩
theorem Inv.after{Q:VK}(I:Inv X pins σ H s)(h:CE X.stack X.prog X.w H s Q u s'):EP X pins σ Q u s':=by obtain⟨v,H',os,bare,un,hok,r,q⟩:=h;obtain⟨hh,g,d,t,os'⟩:=s';obtain rfl:os'=s.os:=os;exact⟨v,H',I.call (h':=hh) (g':=g) (d':=d) (t':=t) (ch:=[]) un hok bare (λb z=>absurd z (by simp)),r,q⟩
end
def ziR(sp:Sp)(dvs:List V)(E:XK)(t:TA):TE:=λσ H Q=>t σ H λvs H1=>sp (vs++dvs) H1 Q E
def wP(K:Fg)(fd:FuncData)(ps:List Str)(ds:List Value):Prop:=
 ∀(s:Shared) (us:List Value),K.In s.heap->(us++ds).length=ps.length->BindsTo s fd ⟨us,[]⟩ (ps.zip (us++ds))
theorem wP.all(h:∀us:List Value,us.length=ps.length->bindArgs fd ⟨us,[]⟩=pure (ps.zip us)):wP K fd ps []:=λs us _ hl=>by rw[List.append_nil]at hl ⊢;exact .of_eq (h us hl)
def ziF(CX:CXT)(X:Cx)(E:XK):Prop:=∀(pins:AO) (σ:St) (H:Hp) (s:Shared) (e:Value) (s':Shared),Inv X pins σ H s->CX X.stack H s E e s'->X.xe e s'
section
variable{X:Cx}{CX:CXT}{k:Nat}{f C:Addr}{fd:FuncData}{ps:List Str}{sp:Sp}{dvs:List V}{ds:List Value}{E:XK}{x m:Str}{p pos apos:Pos}{e o:Expr}{es:List Expr}{ta:TE}{t:TA}
theorem zmg{Q:VK}{vs:List V}(F:yG X.prog X.w X.K X.mg X.base CX k f fd ps sp)(hr:qR k X.A)(hb:wP X.K fd ps ds)(hd:zK dvs ds)(hx:ziF CX X E)(I:Inv X pins σ H s)(r:zK vs us)(h:sp (vs++dvs) H Q E):wpAny (model X.prog X.w) X.A (call (.ref f) us) (EP X pins σ Q) X.xe s:=by
 have r2:zK (vs++dvs) (us++ds):=r.append hd;have hl:(us++ds).length=ps.length:=by rw[←r2.length];exact F.len _ _ _ _ h
 refine wpAny_call (codeAny_mono (F.run X.A X.stack s H ⟨us,[]⟩ (us++ds) (vs++dvs) Q E hr I.env0 (hb s us I.kIn hl) r2 h) λr s' hq=>?_);cases r with
 |error e=>exact hx pins σ H s e s' I hq
 |ok fl=>
  cases fl with
  |ret u=>exact I.after hq
  |next=>exact False.elim hq
  |brk=>exact False.elim hq
  |cont=>exact False.elim hq
theorem zeQ(F:yG X.prog X.w X.K X.mg X.base CX k f fd ps sp)(hr:qR k X.A)(hg:Gl X x)(hm:X.mg x=some (.ref f))(hk:PySem.W.keepIn X.K (.ref f)=true)(hb:wP X.K fd ps ds)(hd:zK dvs ds)(hx:ziF CX X E)(ha:PA X (e::es) t)(hdb:(x==("__debug__":Str))=false:=by decide)(he:starEach (e::es) X.env=(false,eval e X.env)::starEach es X.env:=by rfl)(hpl:(backTo pos (starEach es X.env)).any (·.1)=false:=by rfl):
  PE X (.Call (.Name x p) (e::es) [] pos) (ziR sp dvs E t):=by
 intro pins s σ H Q I h;refine wpAny_Call_Name_kw (zlh I hg hm ?_ hdb);refine PySem.W.callWith_K (h₀:=X.base) I.ok.mod.kin hk (thn (ha pos pins s σ H _ I h) λus s1 ⟨vs,H1,I1,r,q⟩=>⟨I1.kIn,?_⟩) he hpl;exact zmg F hr hb hd hx I1 r q
end
section
variable{X:Cx}{CX:CXT}{k:Nat}{f C:Addr}{fd:FuncData}{ps ks:List Str}{sp:Sp}{E:XK}{x m:Str}{p pos apos kpos:Pos}{e o:Expr}{es:List Expr}{kws:List Keyword}{te ta:TE}{t tk:TA}{nm:Option Str}
variable{g:List Value->List Value->List Value}{gV:List V->List V->List V}
end
structure nQ(N P:List Str)(sc:Scope):Prop where
 kind:sc.kind=.function
 co:sc.isCoroutine=false
 gen:sc.isGenerator=false
 nd:N.Nodup
 pre:N.take P.length=P
 par:∀x∈P,sc.names.lookup x=some .local\/sc.names.lookup x=some .cell
 nofree:∀y∈sc.names,y.2≠.free
variable{kindOf:Str->Option NameKind}
theorem zeC:∀{binds:List (Str×Value)}{m:SV},(∀v,(x,v)∉binds)->bindL kindOf binds m x=m x
 |[],_,_=>rfl
 |(n,v)::r,m,h=>by
  unfold bindL;rw[zeC λw hw=>h w (List.mem_cons_of_mem _ hw)];split
  ·have:x≠n:=by rintro rfl;exact h v List.mem_cons_self
   simp[this]
  ·rfl
theorem zeE:∀{binds:List (Str×Value)}{m:SV},(∀v,(x,v)∉binds)->bindC kindOf binds m x=m x
 |[],_,_=>rfl
 |(n,v)::r,m,h=>by
  unfold bindC;rw[zeE λw hw=>h w (List.mem_cons_of_mem _ hw)];split
  ·rfl
  ·have:x≠n:=by rintro rfl;exact h v List.mem_cons_self
   simp[this]
variable{v:Value}
theorem zeD:∀{P:List Str}{vs:List Value} {i:Nat}{m:SV},P.Nodup->P[i]?=some x->vs[i]?=some v->kindOf x=some .local->
  bindL kindOf (P.zip vs) m x=some v
 |[],_,_,_,_,h,_,_=>by simp at h
 |_::_,[],_,_,_,_,h,_=>by simp at h
 |p::P,w::vs,0,m,nd,h1,h2,hk=>by simp at h1 h2;subst h1;subst h2;show bindL kindOf ((p,w)::P.zip vs) m p=_;unfold bindL;rw[zeC λv hv=>(List.nodup_cons.mp nd).1 (List.of_mem_zip hv).1,if_pos hk];simp
 |p::P,w::vs,i+1,m,nd,h1,h2,hk=>by show bindL kindOf ((p,w)::P.zip vs) m x=_;unfold bindL;exact zeD (i:=i) (List.nodup_cons.mp nd).2 (by simpa using h1) (by simpa using h2) hk
theorem zeF:∀{P:List Str}{vs:List Value} {i:Nat}{m:SV},P.Nodup->P[i]?=some x->vs[i]?=some v->kindOf x≠some .local->
  bindC kindOf (P.zip vs) m x=some v
 |[],_,_,_,_,h,_,_=>by simp at h
 |_::_,[],_,_,_,_,h,_=>by simp at h
 |p::P,w::vs,0,m,nd,h1,h2,hk=>by simp at h1 h2;subst h1;subst h2;show bindC kindOf ((p,w)::P.zip vs) m p=_;unfold bindC;rw[zeE λv hv=>(List.nodup_cons.mp nd).1 (List.of_mem_zip hv).1,if_neg hk];simp
 |p::P,w::vs,i+1,m,nd,h1,h2,hk=>by show bindC kindOf ((p,w)::P.zip vs) m x=_;unfold bindC;exact zeF (i:=i) (List.nodup_cons.mp nd).2 (by simpa using h1) (by simpa using h2) hk
def start(N:List Str)(vs:List V):St:=vs.map some++List.replicate (N.length - vs.length) none
noncomputable def wX(CX:CXT)(P:Program)(w:World)(K:Fg)(mg:SV)(base:Heap)(N:List Str)(qual:Str)(scope:Scope)(f:Addr)(cd:Value)(A:Around)(outer:List Env)(s:Shared)(H:Hp)(E:XK):Cx where
 prog:=P
 w:=w
 K:=K
 mg:=mg
 base:=base
 A:=A.deeper (envOfC qual scope s.heap.objs.size f cd)
 N:=N
 s₀:=s
 H₀:=H
 env:=envOfC qual scope s.heap.objs.size f cd
 outer:=outer
 stack:=envOfC qual scope s.heap.objs.size f cd::outer
 ex:=[]
 calm:=true
 fn:=λ_=>true
 pn:=[]
 xe:=λe s'=>wpAny (model P w) (A.deeper (envOfC qual scope s.heap.objs.size f cd)) (leaving (envOfC qual scope s.heap.objs.size f cd) e) (λ_ s''=>CX outer H s E e s'') (λe' s''=>CX outer H s E e' s'') s'
theorem zgc{sc:Scope}{n:Nat}(h:sc.names.lookup x=some .cell):∃c,(cellsFrom n sc.names []).lookup x=some c:=by have q:=PySem.W.cellsFrom_some sc.names n [] (.inl h);exact Option.isSome_iff_exists.mp q
variable{qual:Str}{scope:Scope}
theorem zhU{f:Addr}{cd:Value}{outer:List Env}{s1:Shared}{E:XK}{vs:List V}(S:nQ N ps scope)(hd:A.handled=none)(e0:Env0 P w K mg base A outer s H)(hl:vs.length=ps.length)(r:zK vs us)(x:InCallC s s.heap.objs.size (bindL (envOfC qual scope s.heap.objs.size f cd).kindOf (ps.zip us) λ_=>none) (cellsFrom (s.heap.objs.size+1) scope.names []) (bindC (envOfC qual scope s.heap.objs.size f cd).kindOf (ps.zip us) λ_=>none) s1):
  Inv (wX CX P w K mg base N qual scope f cd A outer s H E) [] (start N vs) H s1:=by
 have hpl:ps.length<=N.length:=by have:=congrArg List.length S.pre;rw[List.length_take]at this;omega
 obtain⟨h1,tk,rfl,hk⟩:=x.done;have noA:∀b:Addr,b∉(wX CX P w K mg base N qual scope f cd A outer s H E).ex:=λb z=>absurd (show b∈([]:List Addr)from z) (by simp)
 refine⟨⟨e0.mod,S.kind,rfl,rfl,Nat.le_refl _,λy z c h1 h2=>?_,λy hy=>?_,λy c _ h=>?_,λ_=>hd,Around.frames_deeper e0.frames,.inr ⟨rfl,rfl⟩,λb z=>absurd z (noA b),e0.bs,e0.bsz,λb _ _=>noA b,λb z=>absurd z (noA b),e0.funs,e0.frf⟩,
  rfl,e0.bare,Un.kept hk,⟨_,x.toInCall.ns,λi y v h1 h2 h3=>?_⟩,λy c h=>⟨_,x.cell y c h⟩,e0.hok.fresh (Nat.le_refl _),λy c h=>?_,λp hp=>absurd (show p∈([]:AO)from hp) (by simp),e0.hok.kept hk,?_⟩
 ·exact name_of_addr x.apart (PySem.mem_of_lookup h1) (PySem.mem_of_lookup h2)
 ·have hy:scope.names.lookup y=some .cell\/scope.names.lookup y=some .free:=hy;rcases hy with hy|hy
  ·exact zgc hy
  ·exact absurd rfl (S.nofree _ (PySem.mem_of_lookup hy))
 ·exact Nat.le_of_lt (x.above y c (PySem.mem_of_lookup h))
 ·have hi:i<vs.length:=by
   unfold start at h2;by_cases hi:i<vs.length
   ·exact hi
   ·rw[List.getElem?_append_right (by simpa using hi)]at h2;rw[List.getElem?_replicate]at h2;split at h2<;>cases h2
  have ha:vs[i]?=some v:=by
   unfold start at h2;rw[List.getElem?_append_left (by simpa using hi),List.getElem?_map]at h2;cases e:vs[i]? with
   |none=>rw[e]at h2;cases h2
   |some a=>rw[e]at h2;cases h2;rfl
  obtain⟨u,hu,rv⟩:=r.get ha;have hp:ps[i]?=some y:=by rw[←S.pre,List.getElem?_take_of_lt (by omega)];exact h1
  have ndP:ps.Nodup:=by rw[←S.pre];exact S.nd.sublist (List.take_sublist _ _)
  refine⟨u,rv,?_⟩;rcases S.par y (List.mem_of_getElem? hp)with k|k
  ·exact .inl ⟨k,zeD ndP hp hu k⟩
  ·obtain⟨c,e⟩:=zgc (n:=s.heap.objs.size+1) k;refine .inr ⟨.inl k,c,e,?_⟩;have q:=x.cell y c e;rw[zeF ndP hp hu (by show scope.names.lookup y≠_;rw[k];decide)]at q;exact q
 ·exact e0.hok.fresh (Nat.le_of_lt (x.above y c (PySem.mem_of_lookup h)))
 ·unfold start;show _=N.length;rw[List.length_append,List.length_map,List.length_replicate];omega
theorem zow{k:Nat}{f:Addr}{name:Str}{params:Arguments}{dV kV doc pm cdv ct oc:Value}{an od:Option Addr}{osl:Array (Option Value)}(lk:K.lookup f=some ⟨oc,od,.func (PySem.W.fnOf name qual params body scope dV kV doc pm an cdv ct),osl⟩)(hcd:PySem.W.codeIn K cdv qual=true)(S:nQ N ps scope)(len:∀vs H Q E,sp vs H Q E->vs.length=ps.length)(hbody:∀(A:Around) (outer:List Env) (s:Shared) (H:Hp) (vs:List V) (Q:VK) (E:XK),qR k (A.deeper (envOfC qual scope s.heap.objs.size f cdv))->sp vs H Q E->
   ∃t,PSs (wX CX P w K mg base N qual scope f cdv A outer s H E) body t/\t {nx:=λ_ H'=>Q .non H',rt:=Q} (start N vs) H):
  yG P w K mg base CX (k+1) f (PySem.W.fnOf name qual params body scope dV kV doc pm an cdv ct) ps sp:=by
 refine⟨len,λA outer s H args us vs Q E hr e0 hb r hsp=>?_⟩;have hl:=len _ _ _ _ hsp;have KX:K.In s.heap:=e0.mod.kin.keeps λb o e=>(e0.bs b o e).1
 have lim:s.heap.NoLimit:=e0.mod.nolimit.keeps λb o e=>(e0.bs b o e).1
 have hkind:∀y∈ps.zip us,scope.names.lookup y.1=some .local\/(scope.names.lookup y.1=some .cell/\((cellsFrom (s.heap.objs.size+1) scope.names []).lookup y.1).isSome=true):=λ⟨n,v⟩ hy=>by
  rcases S.par n (List.of_mem_zip hy).1 with q|q
  ·exact .inl q
  ·exact .inr ⟨q,PySem.W.cellsFrom_some _ _ _ (.inl q)⟩
 refine codeAny_call_function hr.depth (KX _ _ lk) rfl S.co S.gen rfl (PySem.W.codeRec_of KX hcd) (hb _ _ _ _ ?_);refine wpAny_newFunctionEnv_cells S.kind hkind λenv he s1 x=>?_
 subst he;refine⟨lim.keeps x.toInCall.keep,codeAny_func ?_⟩;obtain⟨t,ht,hq⟩:=hbody A outer s H vs Q E (hr.deeper _) hsp;have I:Inv (wX CX P w K mg base N qual scope f cdv A outer s H E) [] (start N vs) H s1:=zhU S hr.hd e0 hl r x;refine wpAny_mono (ht [] s1 (start N vs) H _ I hq) (λfl s' hs=>?_) λe s' hs=>hs
 have fin:∀{σ':St}{H':Hp} {v:V}{u:Value},Inv (wX CX P w K mg base N qual scope f cdv A outer s H E) [] σ' H' s'->zJ v u->Q v H'->CE outer P w H s Q u s':=
  λ{σ' H' v u} J rv q=>⟨v,H',J.os,J.bare,J.base,J.hok,rv,q⟩
 cases fl with
 |ret u=>
  obtain⟨v,σ',H',J,rv,q⟩:=hs;exact fin J rv q
 |next=>
  obtain⟨σ',H',J,q⟩:=hs;exact fin (v:=V.non) (u:=Value.none) J rfl q
 |brk=>
  obtain⟨_,_,_,q⟩:=hs;exact False.elim q
 |cont=>
  obtain⟨_,_,_,q⟩:=hs;exact False.elim q
section
variable{X:Cx}{x:Str}{p pos:Pos}{e:Expr}{es:List Expr}{t:TA}{id T:String}{r:List V->Hp->VK->Prop}
def tCB(r:List V->Hp->VK->Prop)(t:TA):TE:=λσ H Q=>t σ H λvs H1=>r vs H1 Q
theorem zdH(hc:yH X (.builtin id) r)(hg:Gl X x)(hm:X.mg x=none)(hv:bootBuiltins x=some (.builtin id))(ha:PA X (e::es) t)(hn:x≠"__name__":=by decide)(hdb:(x==("__debug__":Str))=false:=by decide)(he:starEach (e::es) X.env=(false,eval e X.env)::starEach es X.env:=by rfl)(hpl:(backTo pos (starEach es X.env)).any (·.1)=false:=by rfl):PE X (.Call (.Name x p) (e::es) [] pos) (tCB r t):=by intro pins s σ H Q I h;refine wpAny_Call_Name_kw (nC I hg hm hv ?_ hn hdb);exact PyProof.Rows.callWith_builtin1 (thn (ha pos pins s σ H _ I h) λus s1 ⟨vs,H1,I1,r1,q1⟩=>hc pins s1 σ H1 vs us Q I1 r1 q1) he hpl
theorem zhw(hc:yH X (.type T) r)(hg:Gl X x)(hm:X.mg x=none)(hv:bootBuiltins x=some (.type T))(ha:PA X (e::es) t)(hn:x≠"__name__":=by decide)(hdb:(x==("__debug__":Str))=false:=by decide)(he:starEach (e::es) X.env=(false,eval e X.env)::starEach es X.env:=by rfl)(hpl:(backTo pos (starEach es X.env)).any (·.1)=false:=by rfl):PE X (.Call (.Name x p) (e::es) [] pos) (tCB r t):=by intro pins s σ H Q I h;refine wpAny_Call_Name_kw (nC I hg hm hv ?_ hn hdb);exact PyProof.Rows.callWith_type1 (thn (ha pos pins s σ H _ I h) λus s1 ⟨vs,H1,I1,r1,q1⟩=>hc pins s1 σ H1 vs us Q I1 r1 q1) he hpl
end
end L2
namespace HT
def lexLt:List Int->List Int->Bool
 |[],[]=>false
 |[],_::_=>true
 |_::_,[]=>false
 |x::xs,y::ys=>if x=y then lexLt xs ys else decide (x<y)
theorem lexLt_cons(x y:Int)(xs ys:List Int):lexLt (x::xs) (y::ys)=if x=y then lexLt xs ys else decide (x<y):=rfl
section
open PySem.SeqAt
open PySem.AutoSeq1 (wpAny_loadPart')
open PySem.MeetsSeq PySem.MeetsSeq2 PySem.MeetsSeq3
end
variable{t sl:Addr}{Q:Vs}{vl vu:Value}{lo hi:Option Int}
section
variable{prog:Program}{w:World}{A:Around}{E:Vs}{s:Shared}
theorem cat_tup{b:Addr}{vs ws:List Value}(ht:IsTup s.heap t vs.toArray)(hb:IsTup s.heap b ws.toArray)(hv:vs≠[])(h1:ws=[]->Q (.ref t) s)(h2:ws≠[]->Q (.ref s.heap.objs.size) {s with heap:=s.heap.push {cls:=.type "tuple",data:=.seq (vs++ws).toArray}})(hsz:vs.length+ws.length<=sizeLine):wpAny (model prog w) A (binaryOp .Add (.ref t) (.ref b)) Q E s:=by
 obtain⟨⟨cls,dd,data,sl⟩,ho,hc,n,hd⟩:=id ht;obtain⟨⟨cls2,dd2,data2,sl2⟩,ho2,hc2,n2,hd2⟩:=id hb;simp only at hc hd hc2 hd2;subst hc hd hc2 hd2;have e:vs.toArray++ws.toArray=(vs++ws).toArray:=by simp
 by_cases hw:ws=[]
 ·exact concat_meets ⟨_,ho,rfl⟩ ⟨_,ho2,rfl⟩ noFill_tuple_add seq_tuple_add PySem.F.slot_tuple_add PySem.F.entry_tuple_add (PySem.F.args_tuple_add_2 _ _)
   (tuple_addW1 t b vs.toArray ws.toArray n n2 dd dd2 sl sl2 (by simpa using hv) (by simp[hw])) ⟨ho,ho2,h1 hw⟩
 ·refine concat_meets ⟨_,ho,rfl⟩ ⟨_,ho2,rfl⟩ noFill_tuple_add seq_tuple_add PySem.F.slot_tuple_add PySem.F.entry_tuple_add (PySem.F.args_tuple_add_2 _ _)
   (tuple_addW2 t b vs.toArray ws.toArray n n2 dd dd2 sl sl2 (by simpa using hv) (by simpa using hw) (by rw[List.size_toArray,List.size_toArray];exact hsz)) ⟨ho,ho2,?_⟩
  rw[e];exact h2 hw
noncomputable def sIx(n d:Nat):Option Int->Nat
 |none=>d
 |some v=>if v<0 then(v+(n:Int)).toNat else min v.toNat n
theorem zmf(n d:Nat)(hd:d<=n)(o:Option Int):sIx n d o<=n:=by
 cases o with
 |none=>exact hd
 |some v=>
  show(if v<0 then(v+(n:Int)).toNat else min v.toNat n)<=n;by_cases hv:v<0
  ·rw[if_pos hv];omega
  ·rw[if_neg hv];exact Nat.min_le_right _ _
theorem zin(v:Int)(n d:Nat):(if v<0 then max (v+(n:Int)) 0 else min v (n:Int))=((sIx n d (some v):Nat):Int):=by
 show(if v<0 then max (v+(n:Int)) 0 else min v (n:Int))=(((if v<0 then(v+(n:Int)).toNat else min v.toNat n):Nat):Int);by_cases hv:v<0
 ·simp only[if_pos hv];omega
 ·simp only[if_neg hv];omega
theorem zgP(lo hi:Option Int)(n:Nat):Builtin.Slice.sliceAdjust lo hi 1 (n:Int)=(((sIx n 0 lo:Nat):Int),((sIx n n hi:Nat):Int)):=by
 have h1:¬((1:Int)<0):=by omega
 unfold Builtin.Slice.sliceAdjust;simp only[h1,if_false];refine Prod.ext ?_ ?_
 ·cases lo with
  |none=>rfl
  |some v=>exact zin v n 0
 ·cases hi with
  |none=>rfl
  |some v=>exact zin v n n
theorem zgs(i j:Nat):Builtin.Slice.slicePlaces (i:Int) (j:Int) 1=j - i:=by
 unfold Builtin.Slice.slicePlaces;have h1:(1:Int)>0:=by omega
 simp only[h1,if_true,Int.ediv_one]
 split<;>omega
theorem zdc{v:Value}{o:Option Int}{Q:Option Int->Shared->Prop}(p:IsPart v o)(h:Q o s):wpAny (model prog w) A (Builtin.Slice.slicePartIndex v) Q E s:=by
 cases p with
 |none=>exact slicePart_none h
 |int i t=>exact slicePart_int h
theorem zaC{n:Nat}{Q:Int×Int×Nat->Shared->Prop}(hs:s.heap.IsSliceOf sl vl vu .none)(pl:IsPart vl lo)(pu:IsPart vu hi)(h:Q (((sIx n 0 lo:Nat):Int),1,sIx n n hi - sIx n 0 lo) s):wpAny (model prog w) A (Builtin.Slice.sliceApplied (.ref sl) (pure (n:Int))) Q E s:=by obtain⟨os,hos,hcs,hds⟩:=id hs;unfold Builtin.Slice.sliceApplied Builtin.Slice.sliceFields;refine wpAny_bind (wpAny_bind (wpAny_field hos hds (x:=vl) rfl (wpAny_bind (wpAny_field hos hds (x:=vu) rfl (wpAny_bind (wpAny_field hos hds (x:=.none) rfl (wpAny_pure ?_)))))));refine wpAny_bind (slicePart_none ?_);show wpAny _ _ (if((1:Int)==0)=true then _ else _) _ _ s;rw[if_neg (by decide)];refine wpAny_bind (zdc pl (wpAny_bind (zdc pu (wpAny_bind (wpAny_pure ?_)))));show wpAny _ _ (match Builtin.Slice.sliceAdjust lo hi 1 (n:Int)with|(lo,hi)=>pure (lo,(1:Int),Builtin.Slice.slicePlaces lo hi 1)) _ _ s;rw[zgP lo hi n];show wpAny _ _ (pure (((sIx n 0 lo:Nat):Int),(1:Int),Builtin.Slice.slicePlaces ((sIx n 0 lo:Nat):Int) ((sIx n n hi:Nat):Int) 1)) _ _ s;rw[zgs];exact wpAny_pure h
theorem zjc(xs:Array Value)(i k:Nat):((List.range k).filterMap λ(m:Nat)=>xs[((i:Int)+(m:Int)*1).toNat]?).toArray=((xs.toList.drop i).take k).toArray:=by
 have e:(λ(m:Nat)=>xs[((i:Int)+(m:Int)*1).toNat]?)=λm=>xs[i+m]?:=by
  funext m
  have:((i:Int)+(m:Int)*1).toNat=i+m:=by omega
  rw[this]
 rw[e]
 have:=pick_run xs i k;rw[List.filterMap_map]at this;have e2:((λx=>xs[x]?)∘λx=>i+x)=λm=>xs[i+m]?:=rfl
 rw[e2]at this;rw[this]
theorem getItem_tuple_cut{items:Array Value}(ht:IsTup s.heap t items)(hs:s.heap.IsSliceOf sl vl vu .none)(pl:IsPart vl lo)(pu:IsPart vu hi)(hw:¬(sIx items.size 0 lo=0/\sIx items.size items.size hi=items.size))(h:Q (.ref s.heap.objs.size) {s with heap:=s.heap.push {cls:=.type "tuple",data:=.seq ((items.toList.drop (sIx items.size 0 lo)).take (sIx items.size items.size hi - sIx items.size 0 lo)).toArray}})(hsz:items.size<=sizeLine):wpAny (model prog w) A (getItem (.ref t) (.ref sl)) Q E s:=by
 have htake:sizeOk (.seq ((items.toList.drop (sIx items.size 0 lo)).take (sIx items.size items.size hi - sIx items.size 0 lo)).toArray):=by show((items.toList.drop (sIx items.size 0 lo)).take (sIx items.size items.size hi - sIx items.size 0 lo)).toArray.size<=sizeLine;rw[List.size_toArray,List.length_take,List.length_drop,Array.length_toList];omega
 have hj:sIx items.size items.size hi<=items.size:=zmf _ _ (Nat.le_refl _) hi;obtain⟨os,hos,hcs,hds⟩:=id hs;have hTs:s.TypeIs (.ref sl) "slice":=⟨os,hos,hcs⟩;unfold getItem
 try with_reducible refine wpAny_holding ?_
 first|refine wpAny_bind (wpAny_pure ?_)|skip
 refine wpAny_bind (wpAny_sequenceKey ht.typeIs (by decide) ?_);refine wpAny_bind (wpAny_callSpecial?_slot (name:=Str.ofString "__getitem__") ht.typeIs PyProof.Rows.slot_tuple_getitem
  (wpAny_call_entry PyProof.Rows.slot_tuple_getitem ht.typeIs entry_tuple_getitem ?_ (args_tuple_getitem _ _)))
 show wpAny _ _ (Builtin.Tuple.tupleItemsOf (.ref t)>>=_) _ _ s;refine wpAny_bind (tupleItemsOf_ ht ?_);refine wpAny_bind (wpAny_typeOf hTs ?_);rw[if_pos (by decide)];refine wpAny_bind (zaC hs pl pu ?_);have hno:¬((((sIx items.size 0 lo:Nat):Int)==0&&(1:Int)==1&&(sIx items.size items.size hi - sIx items.size 0 lo)==items.size)=true):=by intro q;rw[Bool.and_eq_true,Bool.and_eq_true]at q;have q1:((sIx items.size 0 lo:Nat):Int)=0:=eq_of_beq q.1.1;have q2:sIx items.size items.size hi - sIx items.size 0 lo=items.size:=eq_of_beq q.2;exact hw ⟨by omega,by omega⟩
 show wpAny _ _ (if(((sIx items.size 0 lo:Nat):Int)==0&&(1:Int)==1&&(sIx items.size items.size hi - sIx items.size 0 lo)==items.size)=true then _ else _) _ _ s;rw[if_neg hno,zjc];first
  |exact wpAny_bind (m:=Builtin.Tuple.tupleExact _) (wpAny_newObj_type (wpAny_pure ⟨_,rfl,wpAny_pure h⟩) htake)
  |exact wpAny_bind (m:=Builtin.Tuple.tupleExact _) (wpAny_newObj_type (wpAny_bind (wpAny_pure (wpAny_pure ⟨_,rfl,wpAny_pure h⟩))) htake)
  |exact wpAny_bind (wpAny_bind (m:=Builtin.Tuple.tupleExact _) (wpAny_newObj_type (wpAny_pure (wpAny_pure ⟨_,rfl,wpAny_pure h⟩)) htake))
  |exact wpAny_bind (wpAny_bind (m:=Builtin.Tuple.tupleExact _) (wpAny_newObj_type (wpAny_pure ⟨_,rfl,wpAny_pure h⟩) htake))
end
end HT
namespace L2
abbrev TO:=St->Hp->(Option Int->Hp->Prop)->Prop
def PO(X:Cx)(e:Option Expr)(t:TO):Prop:=
 ∀(pins:AO) (s:Shared) (σ:St) (H:Hp) (Q:Option Int->Hp->Prop),Inv X pins σ H s->t σ H Q->
  wpAny (model X.prog X.w) X.A (evalPart e X.env) (λu s'=>∃o H',Inv X pins σ H' s'/\IsPart u o/\Q o H') X.xe s
def zkA:TO:=λ_ H Q=>Q none H
def znL(t:TE):TO:=λσ H Q=>t σ H λx H1=>∃i,x=.int i/\Q (some i) H1
theorem zgE{ns:List Int}:∀{us:List Value},zK (ns.map V.int) us->IntsAre us ns:=by
 induction ns with
 |nil=>intro us r;rw[List.map_nil]at r;cases r;exact .nil
 |cons n ns ih=>
  intro us r;rw[List.map_cons]at r;cases r with
  |cons r1 r2=>
   obtain⟨t,e⟩:=r1;subst e;exact .cons n t (ih r2)
variable{r:V->Option Int->Option Int->Hp->VK->Prop}{xs:List V}{us:List Value}
section
variable{X:Cx}{e:Expr}{te:TE}{lo hi:Option Expr}{tl th:TO}{pos p2:Pos}
theorem zkM:PO X none zkA:=by intro pins s σ H Q I h;rw[evalPart_none];exact wpAny_pure ⟨none,H,I,.none,h⟩
theorem zkL(h:PE X e te):PO X (some e) (znL te):=by
 intro pins s σ H Q I hw;rw[evalPart_some];refine thn (h pins s σ H _ I hw) λu s1 h_=>?_
 obtain⟨x,H1,I1,r1,q1⟩:=h_;obtain⟨i,rfl,q⟩:=q1;obtain⟨t,rfl⟩:=r1;exact⟨some i,H1,I1,.int i t,q⟩
def SlR(X:Cx)(r:V->Option Int->Option Int->Hp->VK->Prop):Prop:=
 ∀(pins:AO) (s:Shared) (σ:St) (H:Hp) (x:V) (v vl vu:Value) (lo hi:Option Int) (sl:Addr) (Q:VK),Inv X pins σ H s->zJ x v->s.heap.IsSliceOf sl vl vu .none->IsPart vl lo->IsPart vu hi->r x lo hi H Q->
  ∃T id,typeLookup (.type T) "__getitem__"=pure (some (.builtin id))/\s.TypeIs v T/\wpAny (model X.prog X.w) X.A (getItem v (.ref sl)) (EP X pins σ Q) X.xe s
theorem SlR.or{r':V->Option Int->Option Int->Hp->VK->Prop}(h:SlR X r)(h':SlR X r'):SlR X (λx lo hi H Q=>r x lo hi H Q\/r' x lo hi H Q):=by
 intro pins s σ H x v vl vu lo hi sl Q I rx hs pl pu q;rcases q with q|q
 ·exact h pins s σ H x v vl vu lo hi sl Q I rx hs pl pu q
 ·exact h' pins s σ H x v vl vu lo hi sl Q I rx hs pl pu q
def tSl(r:V->Option Int->Option Int->Hp->VK->Prop)(te:TE)(tl th:TO):TE:=λσ H Q=>te σ H λx H1=>tl σ H1 λl H2=>th σ H2 λu H3=>r x l u H3 Q
theorem zjh(hr:SlR X r)(he:PE X e te)(hl:PO X lo tl)(hu:PO X hi th):PE X (.Subscript e (.Slice lo hi none p2) pos) (tSl r te tl th):=by
 intro pins s σ H Q I h;refine Subscript_ (thn (he pins s σ H _ I h) λv s1 ⟨x,H1,I1,r1,q1⟩=>?_);refine wpAny_Slice (thn (hl pins s1 σ H1 _ I1 q1) λvl s2 ⟨l,H2,I2,pl,q2⟩=>thn (hu pins s2 σ H2 _ I2 q2) λvu s3 ⟨u,H3,I3,pu,q3⟩=>?_);rw[evalPart_none];refine wpAny_pure ?_;have I4:Inv X pins σ H3 {s3 with heap:=s3.heap.push {cls:=.type "slice",data:=.fields #[vl,vu,.none]}}:=I3.kept (t':=s3.toks) λb ob q=>Heap.get?_push_of_some _ q
 obtain⟨T,id,hT,ht,hg⟩:=hr pins {s3 with heap:=s3.heap.push {cls:=.type "slice",data:=.fields #[vl,vu,.none]}} σ H3 x v vl vu l u s3.heap.objs.size Q I4 r1 (Heap.IsSliceOf.new ..) pl pu q3;show wpAny (model X.prog X.w) X.A (subscriptTail e (.Slice lo hi none p2) v (.ref s3.heap.objs.size)) (EP X pins σ Q) X.xe {s3 with heap:=s3.heap.push {cls:=.type "slice",data:=.fields #[vl,vu,.none]}};exact tail_any (ops:=[.ref s3.heap.objs.size,v]) ht hT hg (by with_unfolding_all rfl)
noncomputable def wA(xs:List V)(lo hi:Option Int):List V:=(xs.drop (HT.sIx xs.length 0 lo)).take (HT.sIx xs.length xs.length hi - HT.sIx xs.length 0 lo)
theorem zcP(xs:List V)(lo hi:Option Int):(wA xs lo hi).length<=xs.length:=by unfold wA;rw[List.length_take,List.length_drop];omega
def rSlT(K:Fg):V->Option Int->Option Int->Hp->VK->Prop:=λx lo hi H Q=>∃a xs,x=.ref a/\SqT K H a xs/\
 ¬(HT.sIx xs.length 0 lo=0/\HT.sIx xs.length xs.length hi=xs.length)/\∀p,H p=none->Q (.ref p) (upd H p (.tup (wA xs lo hi)))
theorem zmb:SlR X (rSlT X.K):=by
 intro pins s σ H x v vl vu lo hi sl Q I rx hs pl pu h;obtain⟨a,xs,rfl,hx,hw,q⟩:=h;cases rx
 obtain⟨its,r,ht,hz⟩:=I.tuple hx;have hlen:its.toArray.size=xs.length:=by rw[List.size_toArray];exact r.length.symm
 refine⟨"tuple",_,PyProof.Rows.slot_tuple_getitem.lookup,ht.typeIs,?_⟩;refine HT.getItem_tuple_cut ht hs pl pu (by rw[hlen];exact hw) ?_ (by rw[hlen];exact hz);rw[hlen];refine⟨.ref s.heap.objs.size,_,I.laid (t':=s.toks) (o:=.tup (wA xs lo hi)) (λb ob q=>Heap.get?_push_of_some _ q) (Nat.le_refl _) ?_,rfl,q _ (I.hok.fresh (Nat.le_refl _))⟩;exact⟨Nat.le_trans (zcP xs lo hi) hz,_,(r.drop (HT.sIx xs.length 0 lo)).take (HT.sIx xs.length xs.length hi - HT.sIx xs.length 0 lo),IsTup.new _ _⟩
def zoe(K:Fg):R2:=λx y H Q=>∃a b xs ys,x=.ref a/\y=.ref b/\SqT K H a xs/\SqT K H b ys/\xs≠[]/\xs.length+ys.length<=sizeLine/\
 (ys=[]->Q (.ref a) H)/\(ys≠[]->∀p,H p=none->Q (.ref p) (upd H p (.tup (xs++ys))))
theorem zK.nil_iff(r:zK xs us):us=[]↔xs=[]:=by
 cases r with
 |nil=>simp
 |cons _ _=>simp
theorem zld:OpR X (binaryOp .Add) (zoe X.K):=by
 intro pins s σ H x y v u Q I rx ry h;obtain⟨a,b,xs,ys,rfl,rfl,ha,hb,hx,hz,q1,q2⟩:=h;cases rx
 cases ry
 obtain⟨its,r1,p1,_⟩:=I.tuple ha;obtain⟨its2,r2,p2,_⟩:=I.tuple hb;refine HT.cat_tup p1 p2 (λz=>hx (r1.nil_iff.mp z)) (λz=>⟨.ref a,H,I,rfl,q1 (r2.nil_iff.mp z)⟩) (λz=>?_) (by rw[←r1.length,←r2.length];exact hz);refine⟨.ref s.heap.objs.size,_,I.laid (t':=s.toks) (o:=.tup (xs++ys)) (λb ob q=>Heap.get?_push_of_some _ q) (Nat.le_refl _) ?_,rfl,q2 (λw=>z (r2.nil_iff.mpr w)) _ (I.hok.fresh (Nat.le_refl _))⟩;exact⟨by rw[List.length_append];exact hz,_,r1.append r2,IsTup.new _ _⟩
end
noncomputable def ixN(n:Nat)(i:Int):Option Nat:=if 0<=i then(if i<n then some i.toNat else none)else if -(n:Int)<=i then some (i+n).toNat else none
variable{α:Type}
noncomputable def atI(xs:List α)(i:Int):Option α:=(ixN xs.length i).bind λj=>xs[j]?
variable{n:Nat}{i:Int}
theorem zlm{j:Nat}(h:ixN n i=some j):seqIndex? i n=some j/\j<n/\ -(n:Int)<=i/\i<n:=by
 unfold ixN at h;by_cases h0:0<=i
 ·rw[if_pos h0]at h;by_cases h1:i<n
  ·rw[if_pos h1]at h;have e:i.toNat=j:=Option.some.inj h;exact⟨by rw[seqIndex_of h0 h1,e],by omega,by omega,h1⟩
  ·rw[if_neg h1]at h;cases h
 ·rw[if_neg h0]at h;by_cases h1:-(n:Int)<=i
  ·rw[if_pos h1]at h;have e:(i+n).toNat=j:=Option.some.inj h;exact⟨by rw[seqIndex_neg (by omega) h1,e],by omega,h1,by omega⟩
  ·rw[if_neg h1]at h;cases h
theorem zfq{xs:List α}{v:α}(h:atI xs i=some v):∃j,seqIndex? i xs.length=some j/\xs[j]?=some v/\j<xs.length/\ -(xs.length:Int)<=i/\i<xs.length:=by
 unfold atI at h;cases e:ixN xs.length i with
 |none=>rw[e]at h;cases h
 |some j=>
  rw[e]at h;obtain⟨h1,h2,h3,h4⟩:=zlm e;exact⟨j,h1,h,h2,h3,h4⟩
theorem nN{xs:List α}{j:Nat}{v:α}(h:xs[j]?=some v):atI xs (j:Int)=some v:=by
 have hj:j<xs.length:=(List.getElem?_eq_some_iff.mp h).1;have e:ixN xs.length (j:Int)=some j:=by unfold ixN;rw[if_pos (by omega),if_pos (by omega)];simp
 unfold atI;rw[e];exact h
theorem zgg(xs:List α)(v:α):atI (xs++[v]) (-1)=some v:=by
 have hl:(xs++[v]).length=xs.length+1:=by simp
 have e:ixN (xs++[v]).length (-1)=some xs.length:=by
  unfold ixN;rw[hl,if_neg (by decide),if_pos (by omega)]
  congr 1
  omega
 unfold atI;rw[e];show(xs++[v])[xs.length]?=some v;simp
def zdY(b:Expr):Prop:=∀o i,subscripted b false o i=operate [o,i] (getItem o i)
def IxR(X:Cx)(r:R2):Prop:=
 ∀(value slice:Expr) (pins:AO) (s:Shared) (σ:St) (H:Hp) (x y:V) (v u:Value) (Q:VK),Inv X pins σ H s->zJ x v->zJ y u->r x y H Q->
  subscripted slice false v u=operate [v,u] (getItem v u)->wpAny (model X.prog X.w) X.A (subscriptTail value slice v u) (EP X pins σ Q) X.xe s
def MtR(X:Cx)(id:String)(r:V->List V->Hp->VK->Prop):Prop:=
 ∀(pins:AO) (s:Shared) (σ:St) (H:Hp) (x:V) (xs:List V) (v:Value) (us:List Value) (Q:VK),Inv X pins σ H s->zJ x v->zK xs us->r x xs H Q->
  wpAny (model X.prog X.w) X.A (call (.builtin id) (v::us)) (EP X pins σ Q) X.xe s
section
variable{X:Cx}{a b:Expr}{ta tb:TE}{pos:Pos}
theorem IxR.or{r r':R2}(h:IxR X r)(h':IxR X r'):IxR X (λx y H Q=>r x y H Q\/r' x y H Q):=by
 intro value slice pins s σ H x y v u Q I rx ry q hs;rcases q with q|q
 ·exact h value slice pins s σ H x y v u Q I rx ry q hs
 ·exact h' value slice pins s σ H x y v u Q I rx ry q hs
theorem zoj{r:R2}(hr:IxR X r)(ha:PE X a ta)(hb:PE X b tb)(hs:zdY b):PE X (.Subscript a b pos) (tOp r ta tb):=by intro pins s σ H Q I h;exact Subscript_ (binT ha hb I h λv u s2 x y H2 I2 rx ry q=>hr a b pins s2 σ H2 x y v u Q I2 rx ry q (hs _ _))
def rIxL(K:Fg):R2:=λx y H Q=>∃p xs i v,x=.ref p/\y=.int i/\SqL K H p xs/\atI xs i=some v/\Q v H
def rIxT(K:Fg):R2:=λx y H Q=>∃p xs i v,x=.ref p/\y=.int i/\SqT K H p xs/\atI xs i=some v/\Q v H
def rIxS:R2:=λx y H Q=>∃z i c,x=.str z/\y=.int i/\z.length<=sizeLine/\atI z.cps.toList i=some c/\Q (.str ⟨#[c]⟩) H
theorem zll:IxR X (rIxL X.K):=by
 intro value slice pins s σ H x y v u Q I rx ry h hs;obtain⟨p,xs,i,z,rfl,rfl,hq,he,q⟩:=h;cases rx
 obtain⟨t,rfl⟩:=ry;obtain⟨its,r,pl,hz⟩:=I.list hq;obtain⟨j,h1,h2,h3,h4,h5⟩:=zfq he;obtain⟨w,ew,rw'⟩:=r.get h2;have hl:=r.length;have hn:=zdk;have fin:EP X pins σ Q w s:=⟨z,H,I,rw',q⟩;by_cases h0:0<=i
 ·have hj:i.toNat=j:=by rw[seqIndex_of h0 h5]at h1;exact Option.some.inj h1
  exact item_listR pl.isList h0 (by omega) (by rw[hj];simpa using ew) fin hs
 ·have hj:(i+(its.toArray.size:Int)).toNat=j:=by rw[seqIndex_neg (by omega) h4]at h1;rw[List.size_toArray,←hl];exact Option.some.inj h1
  exact subscriptTail_builtinR (x:=w) pl.isList.typeIs slot_list_getitem.lookup
   (wpAny_getItem_list_neg (Q:=λr s'=>r=w/\EP X pins σ Q r s') pl.isList (by omega) (by rw[List.size_toArray]<;>omega) (by omega) (by rw[hj];simpa using ew) ⟨rfl,fin⟩) hs
theorem znh:IxR X (rIxT X.K):=by
 intro value slice pins s σ H x y v u Q I rx ry h hs;obtain⟨p,xs,i,z,rfl,rfl,hq,he,q⟩:=h;cases rx
 obtain⟨t,rfl⟩:=ry;obtain⟨its,r,pl,hz⟩:=I.tuple hq;obtain⟨j,h1,h2,h3,h4,h5⟩:=zfq he;obtain⟨w,ew,rw'⟩:=r.get h2;have hl:=r.length;have hn:=zdk;have fin:EP X pins σ Q w s:=⟨z,H,I,rw',q⟩;exact subscriptTail_builtinR (x:=w) pl.typeIs slot_tuple_getitem.lookup
  (getItem_tuple (j:=j) (Q:=λr s'=>r=w/\EP X pins σ Q r s') pl (by omega) (by omega) (by rw[List.size_toArray,←hl];exact h1) (by simpa using ew) ⟨rfl,fin⟩) hs
theorem zni:IxR X rIxS:=by
 intro value slice pins s σ H x y v u Q I rx ry h hs;obtain⟨z,i,c,rfl,rfl,hz,he,q⟩:=h;obtain⟨t,rfl⟩:=rx;obtain⟨t',rfl⟩:=ry;obtain⟨j,h1,h2,h3,h4,h5⟩:=zfq he;have hl:z.cps.toList.length=z.length:=by simp[Str.length]
 rw[hl]at h1 h4 h5;have hn:=zdk;exact tail_any (typeIs_str s z t) slot_str_getitem.lookup (getItem_str (c:=c) (by have e1:decide (i< -(2^63:Int))=false:=decide_eq_false (by omega);have e2:decide (i≥2^63)=false:=decide_eq_false (by omega);rw[e1,e2,Bool.or_false]) (by rw[h1];simpa using h2) ⟨.str ⟨#[c]⟩,H,I.tok _,⟨_,rfl⟩,q⟩) hs
theorem zee(lo hi:Option Int)(n:Nat):(sliceBounds lo hi none n).1=((HT.sIx n 0 lo:Nat):Int)/\(sliceBounds lo hi none n).2.1=((HT.sIx n n hi:Nat):Int)/\(sliceBounds lo hi none n).2.2=1:=by
 refine⟨?_,?_,rfl⟩
 ·cases lo with
  |none=>simp[sliceBounds,HT.sIx]
  |some i=>
   simp only[sliceBounds,HT.sIx,Option.getD_none,show(1:Int)>0 by decide,if_true];by_cases h:i<0
   ·simp only[h,if_true]<;>omega
   ·simp only[h,if_false]<;>omega
 ·cases hi with
  |none=>simp[sliceBounds,HT.sIx]
  |some i=>
   simp only[sliceBounds,HT.sIx,Option.getD_none,show(1:Int)>0 by decide,if_true];by_cases h:i<0
   ·simp only[h,if_true]<;>omega
   ·simp only[h,if_false]<;>omega
theorem zdD(its:List Value)(lo hi:Option Int):slicePick its.toArray lo hi none=((its.drop (HT.sIx its.length 0 lo)).take (HT.sIx its.length its.length hi - HT.sIx its.length 0 lo)).toArray:=by obtain⟨h1,h2,h3⟩:=zee lo hi its.toArray.size;unfold slicePick;rw[h1,h2,h3];simp only[sliceRange_one,pick_run,List.size_toArray]<;>rfl
def rSlL(K:Fg):V->Option Int->Option Int->Hp->VK->Prop:=λx lo hi H Q=>∃a xs,x=.ref a/\SqL K H a xs/\∀p,H p=none->Q (.ref p) (upd H p (.lst (wA xs lo hi)))
theorem zkD:SlR X (rSlL X.K):=by
 intro pins s σ H x v vl vu lo hi sl Q I rx hs pl pu h;obtain⟨a,xs,rfl,hx,q⟩:=h;cases rx
 obtain⟨its,r,ht,hz⟩:=I.list hx;have hlen:=r.length;refine⟨"list",_,slot_list_getitem.lookup,ht.isList.typeIs,?_⟩;refine wpAny_getItem_list_slice ht.isList hs pl pu .none (by simp) ?_ (by rw[List.size_toArray]<;>omega);rw[zdD,←hlen];refine⟨.ref s.heap.objs.size,_,I.laid (t':=s.toks) (o:=.lst (wA xs lo hi)) (λb ob q=>Heap.get?_push_of_some _ q) (Nat.le_refl _) ?_,rfl,q _ (I.hok.fresh (Nat.le_refl _))⟩;exact⟨Nat.le_trans (zcP xs lo hi) hz,_,0,(r.drop (HT.sIx xs.length 0 lo)).take (HT.sIx xs.length xs.length hi - HT.sIx xs.length 0 lo),Heap.get?_push_size _ rfl⟩
theorem zeB:yH X (.builtin "len") (λxs H Q=>∃p ys,xs=[.ref p]/\(SqL X.K H p ys\/SqT X.K H p ys)/\Q (.int ys.length) H):=by
 intro pins s σ H xs us Q I r h;obtain⟨p,ys,rfl,hq,q⟩:=h;obtain⟨u,rfl,rx⟩:=wB r;cases rx
 have hn:=zdk;rcases hq with hq|hq
 ·obtain⟨its,r',pl,hz⟩:=I.list hq;have hlen:=r'.length;exact Calls.call_len_list pl.isList (by simp only[List.size_toArray]<;>omega) ⟨.int ys.length,H,I.tok _,⟨s.toks+1,by rw[List.size_toArray,hlen]⟩,q⟩
 ·obtain⟨its,r',pl,hz⟩:=I.tuple hq;have hlen:=r'.length;exact len_tuple pl (by simp only[List.size_toArray]<;>omega) ⟨.int ys.length,H,I.tok _,⟨s.toks+1,by rw[List.size_toArray,hlen]⟩,q⟩
theorem zeA:yH X (.builtin "len") (λxs H Q=>∃z,xs=[.str z]/\z.length<=sizeLine/\Q (.int z.length) H):=by intro pins s σ H xs us Q I r h;obtain⟨z,rfl,hz,q⟩:=h;obtain⟨u,rfl,t,rfl⟩:=wB r;have hn:=zdk;exact len_str (by omega) ⟨.int z.length,H,I.tok _,⟨_,rfl⟩,q⟩
theorem yH.or{f:Value}{r r':List V->Hp->VK->Prop}(h:yH X f r)(h':yH X f r'):yH X f (λxs H Q=>r xs H Q\/r' xs H Q):=by
 intro pins s σ H xs us Q I rs q;rcases q with q|q
 ·exact h pins s σ H xs us Q I rs q
 ·exact h' pins s σ H xs us Q I rs q
theorem zdT:yH X (.type "tuple") (λxs H Q=>∃p ys,xs=[.ref p]/\((SqL X.K H p ys/\∀l,H l=none->Q (.ref l) (upd H l (.tup ys)))\/(SqT X.K H p ys/\Q (.ref p) H))):=by
 intro pins s σ H xs us Q I r h;obtain⟨p,ys,rfl,h⟩:=h;obtain⟨u,rfl,rx⟩:=wB r;cases rx
 rcases h with⟨hq,q⟩|⟨hq,q⟩
 ·obtain⟨its,r',pl,hz⟩:=I.list hq;have hlen:=r'.length;refine call_tuple_list pl.isList (λh' kp=>?_) (by simp only[List.size_toArray]<;>omega);have I1:Inv X pins σ H {s with heap:=h'}:=I.kept (t':=s.toks) kp;have I2:Inv X pins σ (upd H h'.objs.size (.tup ys)) {s with heap:=h'.push {cls:=.type "tuple",data:=.seq its.toArray}}:=
   I1.laid (t':=s.toks) (λb o e=>Heap.get?_push_of_some _ e) (Nat.le_refl _) (show qV X.prog X.w _ _ _ (.tup ys)from⟨hz,its,r',IsTup.new _ _⟩)
  exact⟨.ref h'.objs.size,_,I2,rfl,q _ (I1.hok.fresh (Nat.le_refl _))⟩
 ·obtain⟨its,r',pl,hz⟩:=I.tuple hq;exact call_tuple_same pl ⟨.ref p,H,I,rfl,q⟩
def tyV(K:Fg)(T:String)(x:V)(H:Hp):Prop:=match x with
 | .str _=>T="str"
 | .int _=>T="int"
 | .ref p=>(T="list"/\∃xs,SqL K H p xs)\/(T="tuple"/\∃o,K.lookup p=some o/\o.cls=.type "tuple"/\o.dict=none)\/
   (T="dict"/\((∃kvs,H p=some (.dK kvs))\/∃kvs ys,H p=some (.dT kvs ys)))\/(T="set"/\∃S,H p=some (.set S))
 |_=>False
theorem zjX{pins:AO}{σ:St}{H:Hp}{s:Shared}{T:String}{x:V}{v:Value}(I:Inv X pins σ H s)(r:zJ x v)(ty:tyV X.K T x H):
  s.TypeIs v T/\∀a,v=.ref a->∃ob,s.heap.get? a=some ob/\ob.dict=none:=by
 cases x with
 |str z=>
  obtain⟨t,rfl⟩:=r;cases(show T="str"from ty)
  exact⟨typeIs_str s z t,λ_ e=>nomatch e⟩
 |int i=>
  obtain⟨t,rfl⟩:=r;cases(show T="int"from ty)
  exact⟨typeIs_int s i t,λ_ e=>nomatch e⟩
 |ref p=>
  cases r
  rcases ty with⟨rfl,xs,hq⟩|⟨rfl,o,hk,hc,hd⟩|⟨rfl,hk⟩|⟨rfl,S,hk⟩
  ·obtain⟨its,_,pl,_⟩:=I.list hq;refine⟨pl.isList.typeIs,λa e=>?_⟩;cases e
   obtain⟨o,n,e,c,hd,_⟩:=pl;exact⟨o,e,hd⟩
  ·refine⟨⟨o,I.kIn p o hk,hc⟩,λa e=>?_⟩;cases e
   exact⟨o,I.kIn _ o hk,hd⟩
  ·have z:∃o,s.heap.get? p=some o/\o.ExactDict:=by
    rcases hk with⟨kvs,hk⟩|⟨kvs,ys,hk⟩
    ·obtain⟨_,_,_,_,o,_,_,e,ex,_⟩:=I.hok p _ hk;exact⟨o,e,ex⟩
    ·obtain⟨_,_,_,_,o,_,_,e,ex,_⟩:=I.hok p _ hk;exact⟨o,e,ex⟩
   obtain⟨o,e,ex⟩:=z;refine⟨⟨o,e,ex.1⟩,λa e2=>?_⟩;cases e2
   exact⟨o,e,ex.2.1⟩
  ·obtain⟨o,_,_,_,e,ex,_⟩:=I.hok p _ hk;refine⟨⟨o,e,ex.1⟩,λa e2=>?_⟩;cases e2
   exact⟨o,e,ex.2.1⟩
 |_=>exact False.elim ty
def tBM0(K:Fg)(T:String)(r:V->List V->Hp->VK->Prop)(to:TE):TE:=λσ H Q=>to σ H λx H1=>tyV K T x H1/\r x [] H1 Q
def tBM(K:Fg)(T:String)(r:V->List V->Hp->VK->Prop)(to:TE)(t:TA):TE:=λσ H Q=>to σ H λx H1=>tyV K T x H1/\t σ H1 λxs H2=>r x xs H2 Q
variable{o e:Expr}{es:List Expr}{to:TE}{t:TA}{name:Str}{apos cpos:Pos}{T id:String}{r:V->List V->Hp->VK->Prop}
theorem zmH(pa:PlainAttrs T)(slot:Slot T name id)(hty:typeOf (.builtin id)=pure (.type "method_descriptor"))(hm:MtR X id r)(ho:PE X o to)(hbase:attributeBase o name X.env (eval o X.env)=eval o X.env:=by rfl)(hline:(apos.endLine==cpos.line)=true:=by rfl):PE X (.Call (.Attribute o name apos) [] [] cpos) (tBM0 X.K T r to):=by intro pins s σ H Q I h;refine wpAny_Call_method0_late hbase hline (thn (ho pins s σ H _ I h) λv s1 ⟨x,H1,I1,r1,ty,q1⟩=>?_);obtain⟨h1,h2⟩:=zjX I1 r1 ty;exact⟨T,id,pa,slot,hty,h1,h2,Calls.callWith_builtin rfl (PySem.evalArgs_none (hm pins s1 σ H1 x [] v [] Q I1 r1 .nil q1))⟩
theorem zjk(pa:PlainAttrs T)(slot:Slot T name id)(hty:typeOf (.builtin id)=pure (.type "method_descriptor"))(hm:MtR X id r)(ho:PE X o to)(ha:PA X (e::es) t)(hbase:attributeBase o name X.env (eval o X.env)=eval o X.env:=by rfl)(hfew:((backTo cpos (starEach (e::es) X.env)).all (λx=>!x.1)&&(backToKw cpos (keywordEach [] X.env)).all (λx=>x.1.isSome)
   &&decide ((e::es).length+([]:List Keyword).length+(if([]:List Keyword).isEmpty then 0 else 1)<30))=true:=by rfl)(hline:(apos.endLine==cpos.line)=true:=by rfl)(hs:starEach (e::es) X.env=(false,eval e X.env)::starEach es X.env:=by rfl)(hplain:(backTo cpos (starEach es X.env)).any (·.1)=false:=by rfl):
  PE X (.Call (.Attribute o name apos) (e::es) [] cpos) (tBM X.K T r to t):=by
 intro pins s σ H Q I h;refine wpAny_Call_method_late hbase hfew hline rfl (thn (ho pins s σ H _ I h) λv s1 ⟨x,H1,I1,r1,ty,q1⟩=>?_);obtain⟨h1,h2⟩:=zjX I1 r1 ty;refine⟨T,id,pa,slot,hty,h1,h2,?_⟩;have hA:=ha cpos pins s1 σ H1 _ I1 q1;rw[hs]at hA ⊢;refine Calls.callWith_builtin (by show(false||(backTo cpos (starEach es X.env)).any (·.1))=false;rw[hplain]<;>rfl) (Calls.evalArgs_plain ?_);exact thn hA λus s2 ⟨vs,H2,I2,r2,q2⟩=>hm pins s2 σ H2 x vs v us Q I2 r1 r2 q2
/- xs.append(e),list.index on a module's tuple .. are MtR facts of 06m -/
end
def MtM(X:Cx)(id:String)(r:V->List V->Hp->VK->Prop):Prop:=
 ∀(pins:AO) (s:Shared) (σ:St) (H:Hp) (x:V) (xs:List V) (v:Value) (us:List Value) (Q:VK),Inv X pins σ H s->zJ x v->zK xs us->r x xs H Q->
  wpAny (model X.prog X.w) X.A (call (.builtin id) (v::us)) (EP X pins σ Q) X.xe s
theorem zK.one:∀{x:V}{us:List Value},zK [x] us->∃u,us=[u]/\zJ x u
 |_,_,.cons r .nil=>⟨_,rfl,r⟩
theorem zK.zero:∀{us:List Value},zK [] us->us=[]
 |_,.nil=>rfl
theorem zK.dropLast(h:zK xs us):zK xs.dropLast us.dropLast:=by
 induction h with
 |nil=>exact .nil
 |cons r t ih=>
  cases t with
  |nil=>exact .nil
  |cons q t'=>exact .cons r ih
theorem zK.eraseIdx:∀{xs:List V}{us:List Value} (i:Nat),zK xs us->zK (xs.eraseIdx i) (us.eraseIdx i)
 |_,_,_,.nil=>.nil
 |_,_,0,.cons _ t=>t
 |_,_,i+1,.cons r t=>.cons r (zK.eraseIdx i t)
theorem zK.reverse(h:zK xs us):zK xs.reverse us.reverse:=by
 induction h with
 |nil=>exact .nil
 |cons r t ih=>rw[List.reverse_cons,List.reverse_cons];exact zK.append ih (.cons r .nil)
theorem zgH(l:List α):l.eraseIdx (l.length - 1)=l.dropLast:=by
 induction l with
 |nil=>rfl
 |cons a r ih=>
  cases r with
  |nil=>rfl
  |cons b r=>
   have e:(a::b::r).length - 1=((b::r).length - 1)+1:=by have h1:(a::b::r).length=r.length+2:=rfl;have h2:(b::r).length=r.length+1:=rfl;omega
   rw[e,List.eraseIdx_cons_succ,ih];all_goals rfl
theorem zep:∀(l:List α) (i:Nat),(l.eraseIdx i).length<=l.length
 |[],_=>Nat.le_refl _
 |_::_,0=>Nat.le_succ _
 |_::r,i+1=>Nat.succ_le_succ (zep r i)
variable{its:List Value}
section
variable{X:Cx}{pins:AO}{σ:St}{H:Hp}{s:Shared}{l b:Addr}{xs ys zs:List V}
theorem Inv.lset{its':List Value}{f:Array Value->Array Value}{t':Nat}(I:Inv X pins σ H s)(hH:H l=some (.lst xs))(e:s.heap.get? l=some {cls:=.type "list",data:=.seq its.toArray n})(hf:f its.toArray=its'.toArray)(hv:zK ys its')(hz:ys.length<=sizeLine):
  Inv X pins σ (upd H l (.lst ys)) {s with heap:=s.heap.update l (Obj.mapSeq f),toks:=t'}:=by
 have q:=PySem.IsL.update e f;rw[hf]at q;refine I.write (x:=l) (e:=l) (by rw[hH];exact trivial) (.inl rfl) (λb' u hb hu=>(Heap.get?_update_other s.heap (Obj.mapSeq f) (Ne.symm hb)).trans hu) ⟨_,q⟩ ?_;exact⟨hz,its',_,hv,q⟩
theorem Inv.lnew{t':Nat}(I:Inv X pins σ H s)(hv:zK ys its)(hz:ys.length<=sizeLine):
  Inv X pins σ (upd H s.heap.objs.size (.lst ys)) {s with heap:=s.heap.push {cls:=.type "list",data:=.seq its.toArray},toks:=t'}:=
 I.laid (λ_ _ q=>Heap.get?_push_of_some _ q) (Nat.le_refl _) ⟨hz,its,0,hv,Heap.get?_push_size _ rfl⟩
theorem Inv.fresh(I:Inv X pins σ H s):H s.heap.objs.size=none:=I.hok.fresh (Nat.le_refl _)
theorem Inv.lstM(I:Inv X pins σ H s)(hH:H l=some (.lst xs)):xs.length<=sizeLine/\∃(its:List Value) (n:Nat),zK xs its/\xs.length=its.length/\s.heap.get? l=some {cls:=.type "list",data:=.seq its.toArray n}:=by obtain⟨z,its,n,r,e⟩:=I.hok l _ hH;exact⟨z,its,n,r,r.length,e⟩
theorem zjs(h:n<=sizeLine):Builtin.List.listTooLong n=false:=by unfold Builtin.List.listTooLong;exact decide_eq_false (by omega)
end
section
variable{X:Cx}
def zkF:V->List V->Hp->VK->Prop:=λx vs H Q=>∃l xs y,x=.ref l/\vs=[y]/\H l=some (.lst xs)/\xs.length<sizeLine/\Q .non (upd H l (.lst (xs++[y])))
theorem zcz:MtM X "list.append" zkF:=by
 intro pins s σ H x vs v us Q I rx rv h;obtain⟨l,xs,y,rfl,rfl,hH,hz,q⟩:=h;cases rx
 obtain⟨u,rfl,ru⟩:=rv.one;obtain⟨z,its,n,r,hl,e⟩:=I.lstM hH;refine call_meets F.slot_list_append ⟨_,e,rfl⟩ F.entry_list_append (F.args_list_append_2 _ _) (PySem.list_append l its.toArray n u (by rw[List.size_toArray];omega)) ⟨e,?_⟩;refine⟨.non,_,I.lset (its':=its++[u]) hH e (by simp) (r.append (.cons ru .nil)) ?_,rfl,q⟩;rw[List.length_append,List.length_singleton];omega
def zkE:V->List V->Hp->VK->Prop:=λx vs H Q=>∃l b xs zs,x=.ref l/\vs=[.ref b]/\H l=some (.lst xs)/\H b=some (.lst zs)/\xs.length+zs.length<=sizeLine/\Q .non (upd H l (.lst (xs++zs)))
theorem zhE:MtM X "list.extend" zkE:=by
 intro pins s σ H x vs v us Q I rx rv h;obtain⟨l,b,xs,zs,rfl,rfl,hH,hB,hz,q⟩:=h;cases rx
 obtain⟨u,rfl,ru⟩:=rv.one;cases ru
 obtain⟨z,its,n,r,hl,e⟩:=I.lstM hH;obtain⟨z2,its2,n2,r2,hl2,e2⟩:=I.lstM hB;have hsz:its.toArray.size+its2.toArray.size<=sizeLine:=by rw[List.size_toArray,List.size_toArray];omega
 have hlong:¬(!its.toArray.isEmpty&&Builtin.List.listTooLong (its.toArray.size+its2.toArray.size))=true:=by rw[zjs hsz,Bool.and_false];exact Bool.false_ne_true
 refine call_meets F.slot_list_extend ⟨_,e,rfl⟩ F.entry_list_extend (F.args_list_extend_2 _ _)
  (AutoSeq1.list_extend_list_list_0 l its.toArray n b its2.toArray n2 hlong (by rw[List.size_toArray];omega) (by omega)) ⟨e,e2,?_⟩
 refine⟨.non,_,I.lset (its':=its++its2) hH e (by simp) (r.append r2) ?_,rfl,q⟩;rw[List.length_append];omega
def rPop:V->List V->Hp->VK->Prop:=λx vs H Q=>∃l xs y,x=.ref l/\vs=[]/\H l=some (.lst xs)/\xs[xs.length - 1]?=some y/\Q y (upd H l (.lst xs.dropLast))
theorem zmU:MtM X "list.pop" rPop:=by
 intro pins s σ H x vs v us Q I rx rv h;obtain⟨l,xs,y,rfl,rfl,hH,hy,q⟩:=h;cases rx
 have hus:=rv.zero;subst hus;obtain⟨z,its,n,r,hl,e⟩:=I.lstM hH;obtain⟨u,hu,ru⟩:=r.get hy;have hy':its.toArray[its.toArray.size - 1]?=some u:=by show its.toArray[its.length - 1]?=some u;rw[←Array.getElem?_toList,←hl];exact hu
 refine call_meets F.slot_list_pop ⟨_,e,rfl⟩ F.entry_list_pop (F.args_list_pop_1 _) (MeetsSeq.list_pop_last l its.toArray n u hy' (by rw[List.size_toArray];omega)) ⟨e,?_⟩;refine⟨y,_,I.lset (its':=its.dropLast) hH e ?_ r.dropLast ?_,ru,q⟩
 ·show its.toArray.eraseIdxIfInBounds (its.toArray.size - 1)=its.dropLast.toArray;rw[List.size_toArray,List.eraseIdxIfInBounds_toArray,zgH]
 ·rw[List.length_dropLast];omega
def zmi:V->List V->Hp->VK->Prop:=λx vs H Q=>∃l xs i k y,x=.ref l/\vs=[.int i]/\H l=some (.lst xs)/\ -(2^63)<=i/\i<2^63/\seqIndex? i xs.length=some k/\xs[k]?=some y/\Q y (upd H l (.lst (xs.eraseIdx k)))
theorem zju:MtM X "list.pop" zmi:=by
 intro pins s σ H x vs v us Q I rx rv h;obtain⟨l,xs,i,k,y,rfl,rfl,hH,h1,h2,hk,hy,q⟩:=h;cases rx
 obtain⟨u,rfl,ru⟩:=rv.one;obtain⟨t,rfl⟩:=ru;obtain⟨z,its,n,r,hl,e⟩:=I.lstM hH;obtain⟨w,hw,rw'⟩:=r.get hy;refine call_meets F.slot_list_pop ⟨_,e,rfl⟩ F.entry_list_pop (F.args_list_pop_2 _ _)
  (MeetsSeq.list_pop_at l its.toArray n i t k w (fitsIndex_both h1 h2) (by rw[List.size_toArray,←hl];exact hk) (by rw[←Array.getElem?_toList];exact hw) (by rw[List.size_toArray];omega)) ⟨e,?_⟩
 refine⟨y,_,I.lset (its':=its.eraseIdx k) hH e ?_ (r.eraseIdx k) ?_,rw',q⟩
 ·show its.toArray.eraseIdxIfInBounds k=(its.eraseIdx k).toArray;rw[List.eraseIdxIfInBounds_toArray]
 ·have:=zep xs k;omega
def rCat:R2:=λx y H Q=>∃l b xs zs,x=.ref l/\y=.ref b/\H l=some (.lst xs)/\H b=some (.lst zs)/\xs.length+zs.length<=sizeLine/\∀p,H p=none->Q (.ref p) (upd H p (.lst (xs++zs)))
theorem zmO:OpR X (binaryOp .Add) rCat:=by
 intro pins s σ H x y v u Q I rx ry h;obtain⟨l,b,xs,zs,rfl,rfl,hH,hB,hz,q⟩:=h;cases rx
 cases ry
 obtain⟨z,its,n,r,hl,e⟩:=I.lstM hH;obtain⟨z2,its2,n2,r2,hl2,e2⟩:=I.lstM hB;refine PySem.P.add_list e e2 ?_ (by rw[List.size_toArray,List.size_toArray];omega);have ea:its.toArray++its2.toArray=(its++its2).toArray:=by simp
 rw[ea];exact⟨.ref _,_,I.lnew (t':=s.toks) (r.append r2) (by rw[List.length_append];omega),rfl,q _ I.fresh⟩
end
section
variable{prog:Program}{w:World}{A:Around}{E:Vs}{s:Shared}
end
section
variable{X:Cx}
end
end L2
namespace Att
open PySem PySem.W PySem.Calls PyProof.Rows
variable{P:Params}{h:Heap}
theorem zcG:∀(ns:List Int) (vs:List Value),WellAll P h vs (ns.map WData.int)->IntsAre vs ns:=by
 intro ns;induction ns with
 |nil=>
  intro vs w;rw[List.map_nil]at w;cases w
  exact .nil
 |cons n ns ih=>
  intro vs w;rw[List.map_cons]at w;cases w with
  |cons a b=>
   cases a
   exact .cons _ _ (ih _ b)
variable{l:OpenLaw}{n:Nat}
theorem zhg(hn:l.most=some n){args:List WData}{vals:List Value}(hpre:l.row.toRowW.claim.pre args=true)(hwl:WellAll P h vals args):
  ∃a vs ns,vals=[Value.ref a]/\args=[WData.list (ns.map WData.int)]/\h.get? a=some {cls:=.type "list",data:=.seq vs.toArray}/\IntsAre vs ns/\ns.length<=n:=by
 have hsh:WShape.hasAll [] args [.list .int]=true:=(pre_splitW hpre).1;have hc:l.pre.holds [] {args:=args}=true:=(pre_splitW hpre).2;obtain⟨d,r,rfl,h1,h2⟩:=hasAllW_cons hsh;obtain rfl:=hasAllW_nil h2;obtain⟨xs,rfl,h3⟩:=hasW_list h1;obtain⟨ns,rfl⟩:=items_int h3;have hlen:ns.length<=n:=by
  unfold OpenLaw.pre at hc;have h4:(WTm.not (.lt (.lit (.int (n:Int))) (.len (.arg 0)))).holds [] {args:=[.list (ns.map .int)]}=true:=by have h4:=(holds_andW hc).1;rw[hn]at h4;exact h4
  have h5:=condW_of h4 (w_not (w_lt w_lit (w_len_list (w_arg rfl))));rw[List.length_map]at h5;refine Nat.le_of_not_lt λq=>?_
  have q':(n:Int)<((ns.length:Nat):Int):=by omega
  first
   |(rw[decide_eq_true q']at h5;exact absurd h5 (by decide))
   |(simp at h5;omega)
 cases hwl with
 |cons w1 w2=>
  cases w2
  cases w1 with
  |list ho hall=>exact⟨_,_,ns,rfl,rfl,ho,zcG ns _ hall,hlen⟩
theorem zhr(l:OpenLaw)(args:List WData):l.row.toRowW.claim.post args (.bool true) args=true:=
 postW_of (r:=l.row.toRowW) (X:=(true==true))
  (show WShape.has [] (.bool true) .bool=true by first|rfl|decide|simp[WShape.has,WShape.arms,WShape.armsAll])
  (show(WTm.eq .res (.lit (.bool true))).value [] {args:=args,res:=some (.bool true),after:=args}=some (.bool (true==true))from w_eq_bool (w_res rfl) w_lit) rfl
theorem attach_call{q:Program}{loose:List Str}{XP:(SV)->Heap->Prop}{YP:World->Heap->Prop}{d:DefRec}(hn:l.most=some n)(hdf:d.params.defaults=[])(call:∀(w:World) (s₀ s₁:Shared) (mg mb:SV) (fa:Addr) (o:Obj) (pm cd doc:Value) (a:Addr) (vs:List Value) (ns:List Int),
   Ground q loose [] XP w s₀ mg mb s₁.heap->YP w s₁.heap->
   s₁.heap.get? fa=some o->o.data=.func (docDef d.name d.params d.body d.scope pm cd doc)->s₁.heap.CodeRec cd d.name->mg d.name=some (.ref fa)->
   s₁.heap.get? a=some {cls:=.type "list",data:=.seq vs.toArray}->IntsAre vs ns->ns.length<=n->PySem.W.WData.layableAll [PySem.W.WData.list (ns.map PySem.W.WData.int)]=true->s₁.gens=#[]->
   codeAny (model l.prog w) callerA (.call (.ref fa) ⟨[.ref a],[]⟩) (λr s'=>r=.ok (.ret (.bool true))/\OldK s₁.heap s'.heap/\s'.os=s₁.os/\AllBare s'.gens) s₁):
  WalkO q loose XP YP l.row.toRowW d [] (λf vs=>PySem.call f vs):=by
 intro w s₀ s₁ mg mb G Y fa o pm cd doc dV kV ho hd hcd hD hmg hg args vals as hpre hlay hrd hwl hlo;obtain rfl:dV=.none:=Dflts.none hD hdf;obtain rfl:kV=.none:=Dflts.noKw hD;obtain⟨a,vs,ns,rfl,rfl,hobj,hints,hlen⟩:=zhg hn hpre hwl;refine enter_call (codeAny_mono (call w s₀ s₁ mg mb fa o pm cd doc a vs ns G Y ho (fd_plain hd) hcd hmg hobj hints hlen hlay hg) λr s' hq=>?_);obtain⟨rfl,h2,h3,h4⟩:=hq;exact⟨.inl ⟨.bool true,.bool true,[],rfl,λ_=>rfl,.bool true,zhr l _,λ_=>⟨List.Pairwise.nil,λ_ hm=>(nomatch hm)⟩⟩,h2,h3,h4⟩
section
variable{prog:Program}{w:World}{A:Around}{E:Vs}{s:Shared}{K:Frag}
end
end Att
namespace L2
theorem zeb:∀{vs:List Value}{ns:List Int},IntsAre vs ns->zK (ns.map V.int) vs
 |_,_,.nil=>.nil
 |_,_,.cons n t h=>.cons ⟨t,rfl⟩ (zeb h)
def Only(H:Hp):Prop:=∀b,H b=none\/∃o xs,H b=some (.frz o (.lst xs))
theorem zjz{P:Program}{w:World}{K:Fg}{mg mb:SV}{CX:CXT}{k:Nat}{fa a:Addr}{fd:FuncData}{x:Str}{sp:Sp}{s₁:Shared}{vs:List Value}{ns:List Int}(KX:K.In s₁.heap)(hns:s₁.heap.Ns mainGlobals mg)(hb:s₁.heap.Ns builtinsNs mb)(hbb:∀x:Str,x≠"__name__"->mb x=bootBuiltins x)(hlim:s₁.heap.NoLimit)(hg:s₁.gens=#[])(ha:s₁.heap.get? a=some {cls:=.type "list",data:=.seq vs.toArray})(hi:IntsAre vs ns)(hl:ns.length<=sizeLine)(hr:qR k callerA)(F:∀base:Heap,K.In base->base.Ns mainGlobals mg->yG P w K mg base CX k fa fd [x] sp)(hbind:∀(s:Shared) (u:Value),BindsTo s fd ⟨[u],[]⟩ [(x,u)])(hsp:∀H:Hp,Only H->SqL K H a (ns.map V.int)->sp [.ref a] H (λv _=>v=.bl true) λ_ _ _=>False)(hCX:∀H e s',CX [] H s₁ (λ_ _ _=>False) e s'->False):
  codeAny (model P w) callerA (.call (.ref fa) ⟨[.ref a],[]⟩) (λr s'=>r=.ok (.ret (.bool true))/\OldK s₁.heap s'.heap/\s'.os=s₁.os/\AllBare s'.gens) s₁:=by
 have rv:=zeb hi;have lenV:=hi.length;have core:∀H:Hp,Only H->SqL K H a (ns.map V.int)->HOk P w H s₁.heap->(∀b,H b≠none->b=a)->(H a≠none->K.lookup a=none)->
   codeAny (model P w) callerA (.call (.ref fa) ⟨[.ref a],[]⟩) (λr s'=>r=.ok (.ret (.bool true))/\OldK s₁.heap s'.heap/\s'.os=s₁.os/\AllBare s'.gens) s₁:=by
  intro H hO hS hok hA hK;have base_of:∀{b:Addr}{o:Obj},s₁.heap.get? b=some o->H b=none->(gH s₁.heap H).get? b=some o:=λe n=>zjE e n
  have noA:∀{b:Addr}{o:Obj} {es:Array DictEntry}{ep:Nat},s₁.heap.get? b=some o->o.data=.dict es ep->H b=none:=λ{b o es ep} e d=>by
   cases q:H b with
   |none=>rfl
   |some u=>
    have e':b=a:=hA b (by rw[q];simp);subst e';rw[ha]at e;cases e
    have d':Data.seq vs.toArray _=Data.dict es ep:=d;cases d'
  have nsK:∀{b:Addr}{m:SV},s₁.heap.Ns b m->(gH s₁.heap H).Ns b m:=λ{b m} ⟨o,es,ep,e,d,r⟩=>⟨o,es,ep,base_of e (noA e d),d,r⟩
  have hKb:K.In (gH s₁.heap H):=λb o e=>base_of (KX b o e) (by
   cases q:H b with
   |none=>rfl
   |some u=>
    have e':b=a:=hA b (by rw[q];simp);subst e';rw[hK (by rw[q];simp)]at e;cases e)
  have hM:Mod K mg (gH s₁.heap H):=⟨hKb,nsK hns,⟨mb,nsK hb,hbb⟩,let⟨mc,h1,h2⟩:=hlim;⟨mc,nsK h1,h2⟩⟩;have e0:Env0 P w K mg (gH s₁.heap H) callerA [] s₁ H:=⟨rfl,hM,λb o e=>zlf e,Nat.le_of_eq (zhY _ _),trivial,λb hb=>absurd (show b∈([]:List Addr)from hb) (by simp),hok,.of_eq hg⟩;refine codeAny_mono ((F _ hKb (nsK hns)).run callerA [] s₁ H ⟨[.ref a],[]⟩ [.ref a] [.ref a] _ _ hr e0 (hbind s₁ (.ref a)) (.cons rfl .nil) (hsp H hO hS)) λr s' h=>?_
  cases r with
  |error e=>exact(hCX H e s' h).elim
  |ok fl=>
   cases fl with
   |next=>exact False.elim h
   |brk=>exact False.elim h
   |cont=>exact False.elim h
   |ret u=>
    obtain⟨v,H',os,bare,un,hok',r',q⟩:=h;have q':v=.bl true:=q;subst q';obtain rfl:u=Value.bool true:=r';refine⟨rfl,OldK.of_keep λb o e=>?_,os,bare⟩;cases q:H b with
    |none=>exact un.keep b o e q (by intro z;exact absurd (show b∈([]:List Addr)from z) (by simp)) (by simp)
    |some u=>
     rcases hO b with z|⟨ob,xs,z⟩
     ·rw[q]at z;cases z
     ·have z2:=un.frzs b ob _ z;obtain⟨e1,_⟩:=hok b _ z;obtain⟨e2,_⟩:=hok' b _ z2;rw[e]at e1;cases e1
      exact e2
 cases hk:K.lookup a with
 |some o=>
  have e:=KX a o hk;rw[ha]at e;cases e
  refine core (λ_=>none) (λ_=>.inl rfl) (.inr ⟨_,vs.toArray,_,hk,rfl,rfl,rfl,by rw[List.size_toArray,lenV];exact hl,by simpa using rv⟩) (λb u z=>by have z':(none:Option HO)=some u:=z;cases z') (λb z=>absurd rfl z) λz=>absurd rfl z
 |none=>
  refine core (λb=>if b=a then some (.frz {cls:=.type "list",data:=.seq vs.toArray} (.lst (ns.map V.int)))else none) (λb=>?_) (.inl (.inr ⟨{cls:=.type "list",data:=.seq vs.toArray},if_pos rfl⟩)) (λb u z=>?_) (λb z=>?_) λ_=>hk
  ·by_cases hb:b=a
   ·exact .inr ⟨_,_,if_pos hb⟩
   ·exact .inl (if_neg hb)
  ·by_cases hb:b=a
   ·have z':=(if_pos hb).symm.trans z;cases z'
    subst hb;exact⟨ha,by rw[List.length_map];exact hl,vs,_,rv,ha⟩
   ·have z':=(if_neg hb).symm.trans z;cases z'
  ·by_cases hb:b=a
   ·exact hb
   ·exact absurd (if_neg hb) z
theorem walk_of{l:PySem.W.OpenLaw}{n k:Nat}{q:Program}{loose:List Str}{XP:(SV)->Heap->Prop}{YP:World->Heap->Prop}{d:DefRec}{K:Params->Fg}{CX:World->CXT}{sp:World->Sp}{x:Str}(hn:l.most=some n)(hn2:n<=sizeLine)(hdf:d.params.defaults=[])(hr:qR k callerA)(hY:∀(w:World) (h:Heap),YP w h->(K w.params).In h)(F:∀(w:World) (mg:SV) (fa:Addr) (h:Heap),(K w.params).In h->h.Ns mainGlobals mg->mg d.name=some (.ref fa)->
   ∃fd:FuncData,(∀(s:Shared) (u:Value),BindsTo s fd ⟨[u],[]⟩ [(x,u)])/\
    ∀base:Heap,(K w.params).In base->base.Ns mainGlobals mg->yG l.prog w (K w.params) mg base (CX w) k fa fd [x] (sp w))(hsp:∀(w:World) (H:Hp) (a:Addr) (ns:List Int),ns.length<=n->PySem.W.WData.layableAll [PySem.W.WData.list (ns.map PySem.W.WData.int)]=true->Only H->SqL (K w.params) H a (ns.map V.int)->sp w [.ref a] H (λv _=>v=.bl true) λ_ _ _=>False)(hCX:∀(w:World) (H:Hp) (s:Shared) (e:Value) (s':Shared),CX w [] H s (λ_ _ _=>False) e s'->False):
  PySem.W.WalkO q loose XP YP l.row.toRowW d [] (λf vs=>PySem.call f vs):=by
 refine Att.attach_call hn hdf λw s₀ s₁ mg mb fa o pm cd doc a vs ns G Y ho hd hcd hmg hobj hints hlen hlay hg=>?_
 have KX:=hY w _ Y;obtain⟨fd,hb,hF⟩:=F w mg fa _ KX G.T.g hmg;exact zjz KX G.T.g G.T.b G.T.builtins G.T.nolimit hg hobj hints (Nat.le_trans hlen hn2) hr hF hb (λH hO hS=>hsp w H a ns hlen hlay hO hS) λH e s'=>hCX w H s₁ e s'
end L2
/- THE LAST THEOREM (shape;LID,My.*are yours):
  My.Adr:a structure of the addresses that your layer names (classes,functions);My.Txt K t:a structure (Prop) of the equations over K;
  My.txt_mk:{K} {implicit addresses ..} (e1:nsIn K mainGlobals "law"=some (some (.ref f))) (e2:K.lookup f=some ⟨oc,od,.func (fnOf "law" "law" params body scope dV kV doc pm an cdv ct),sl⟩) (e3:codeIn K cdv "law"=true) ..:∃t,My.Txt K t
theorem PySem.Challenge.cw_LID_holds:PySem.Challenge.rw_LID.Holds:=by
 w_on;o_law;k_head;(case hw=>w_witness2)
 k_fill
 refine L2.walk_of (l:=PySem.Challenge.rw_LID) (n:=63) (k:=40) (x:="script") (CX:=λw=>..) (sp:=λ_=>My.sp_law) rfl (by decide) rfl ⟨rfl,by decide,by decide⟩ (λw h Y=>PySem.W.kIn_of Y) ?F ?S ?C
 case F=>
  intro w mg fa h KX G hmg;have T:∃t,My.Txt (L2.KOf KX) t:=by
   dsimp only[L2.KOf] -- K must stand as «<heap const> w.params» for k_is
   refine' My.txt_mk ?e1 ?e2 ?e3 ..
   (case e1=>PySem.W.k_is) -- in the order:a name->its address->its object->its parts
   (case e2=>PySem.W.k_is)
   ..
  obtain⟨t,T⟩:=T;have e0:=hmg.symm.trans (PySem.W.mg_of KX G T.law);cases e0 -- fa is the law's own address
  exact⟨_,λs u=>.of_eq rfl,λbase kb nb=>My.law_fn T kb nb⟩ -- if «.of_eq rfl» comes too early:refine' ⟨_,?b,λbase kb nb=>My.law_fn T kb nb⟩;exact λs u=>.of_eq rfl
 case S=>exact λw H a ns hl hO hS=>..
 case C=>exact ..
(the tactic k_is has no namespace:write k_is) -/
namespace L2
def zdQ(s:Stmt):Arguments:=match s with
 | .FunctionDef _ a _ _ _ _ _ _ _ _=>a
 |_=>{posonlyargs:=[],args:=[],vararg:=none,kwonlyargs:=[],kw_defaults:=[],kwarg:=none,defaults:=[]}
def gJ(s:Stmt):List Stmt:=match s with
 | .FunctionDef _ _ b _ _ _ _ _ _ _=>b
 |_=>[]
def kT(s:Stmt):Scope:=match s with
 | .FunctionDef _ _ _ _ _ _ sc _ _ _=>sc
 |_=>{kind:=.function,names:=[],isGenerator:=false,isCoroutine:=false}
abbrev CX0:CXT:=λ_ _ _ _ _ _=>False
abbrev E0:XK:=λ_ _ _=>False
variable{X:Cx}
theorem zkX:ziF CX0 X E0:=λ_ _ _ _ _ _ _ h=>h.elim
structure Fun(K:Fg)(x qual:Str)(st:Stmt)(f:Addr)(fd:FuncData):Prop where
 ex:∃(oc:Value) (od:Option Addr) (kV doc pm:Value) (an:Option Addr) (cdv ct:Value) (osl:Array (Option Value)),
  fd=PySem.W.fnOf x qual (zdQ st) (gJ st) (kT st) .none kV doc pm an cdv ct/\K.lookup f=some ⟨oc,od,.func fd,osl⟩/\PySem.W.codeIn K cdv qual=true
 kp:PySem.W.keepIn K (.ref f)=true
variable{x qual:Str}{f:Addr}{fd:FuncData}{N ps:List Str}
section
variable{P:Program}{w:World}{K:Fg}{mg:SV}{base:Heap}
theorem Fun.ok{st:Stmt}{k:Nat}{sp:Sp}(F:Fun K x qual st f fd)(S:nQ N ps (kT st))(len:∀vs H Q E,sp vs H Q E->vs.length=ps.length)(hbody:∀(cdv:Value) (A:Around) (outer:List Env) (s:Shared) (H:Hp) (vs:List V) (Q:VK) (E:XK),qR k (A.deeper (envOfC qual (kT st) s.heap.objs.size f cdv))->sp vs H Q E->
   ∃t,PSs (wX CX0 P w K mg base N qual (kT st) f cdv A outer s H E).nox (gJ st) t/\t {nx:=λ_ H'=>Q .non H',rt:=Q} (start N vs) H):yG P w K mg base CX0 (k+1) f fd ps sp:=by
 obtain⟨oc,od,kV,doc,pm,an,cdv,ct,osl,rfl,lk,hcd⟩:=F.ex;refine zow lk hcd S len λA outer s H vs Q E hr hsp=>?_
 obtain⟨t,h,q⟩:=hbody cdv A outer s H vs Q E hr hsp;exact⟨t,h.nox,q⟩
theorem Fun.binds{st:Stmt}(F:Fun K x qual st f fd)(h:∀(kV doc pm:Value) (an:Option Addr) (cdv ct:Value) (us:List Value),us.length=ps.length->bindArgs (PySem.W.fnOf x qual (zdQ st) (gJ st) (kT st) .none kV doc pm an cdv ct) ⟨us,[]⟩=pure (ps.zip us)):wP K fd ps []:=by obtain⟨oc,od,kV,doc,pm,an,cdv,ct,osl,rfl,lk,hcd⟩:=F.ex;exact .all (h kV doc pm an cdv ct)
end
section
variable{X:Cx}
end
variable{A B:Prop}
theorem nJ(h:B):if false=true then A else B:=by rw[if_neg Bool.false_ne_true];exact h
theorem nH(h:A):if true=true then A else B:=by rw[if_pos rfl];exact h
def zG(H H':Hp):Prop:=∀b o,H b=some o->H' b=some o
theorem zG.refl(H:Hp):zG H H:=λ_ _ h=>h
variable{H H2:Hp}
theorem zG.trans{H1:Hp}(a:zG H H1)(b:zG H1 H2):zG H H2:=λc o h=>b c o (a c o h)
variable{H':Hp}
theorem zG.free(e:zG H H'){l:Addr}(h:H' l=Option.none):H l=Option.none:=by
 cases q:H l with
 |none=>rfl
 |some o=>
  rw[e l o q]at h;cases h
theorem zG.seq{K:Fg}{a:Addr}{xs:List V}(e:zG H H')(h:SqL K H a xs):SqL K H' a xs:=by
 rcases h with(h|⟨o,h⟩)|h
 ·exact .inl (.inl (e _ _ h))
 ·exact .inl (.inr ⟨o,e _ _ h⟩)
 ·exact .inr h
noncomputable def zY(env:Env):List (Str×NameKind)->List (Str×Addr)->List (Str×Addr)
 |[],acc=>acc
 |(n,k)::r,acc=>zY env r (if k=.free then(n,(env.cells.lookup n).getD 0)::acc else acc)
variable{env:Env}{scope:Scope}
theorem zdu(h:∀y∈scope.names,y.2=.free->∃c,env.cells.lookup y.1=some c):closureFor scope env=pure (zY env scope.names []):=by
 unfold closureFor;have go:∀(l:List (Str×NameKind)) (acc:List (Str×Addr)),(∀y∈l,y.2=.free->∃c,env.cells.lookup y.1=some c)->
   (forIn l acc (λ(x:Str×NameKind) (r:List (Str×Addr))=>(match x with|(name,kind)=>if(kind== .free)=true then(do let c ←cellOf env name;pure (ForInStep.yield ((name,c)::r)))else(pure (ForInStep.yield r)):Sem (ForInStep (List (Str×Addr))))):Sem (List (Str×Addr)))=pure (zY env l acc):=by
  intro l;induction l with
  |nil=>intro acc _;rfl
  |cons a r ih=>
   intro acc hl;obtain⟨n,k⟩:=a;have hr:∀y∈r,y.2=.free->∃c,env.cells.lookup y.1=some c:=λy hy=>hl y (List.mem_cons_of_mem _ hy)
   rw[List.forIn_cons];by_cases hk:k=.free
   ·subst hk;obtain⟨c,hc⟩:=hl (n,.free) List.mem_cons_self rfl;simp only[zY,if_true];have e:cellOf env n=pure c:=by unfold cellOf;rw[show env.cells.lookup n=some c from hc]
    simp only[e,beq_self_eq_true,if_true,pure_bind];rw[show env.cells.lookup n=some c from hc];exact ih _ hr
   ·have hb:(k==NameKind.free)=false:=by simpa using hk
    simp only[zY,if_neg hk,hb,Bool.false_eq_true,if_false,pure_bind];exact ih _ hr
 have:=go scope.names [] h;simpa using this
theorem zdR{env:Env}:∀(l:List (Str×NameKind)) (acc:List (Str×Addr)),(∀y∈l,y.2=.free->∃c,env.cells.lookup y.1=some c)->(∀x c,acc.lookup x=some c->env.cells.lookup x=some c)->
  ∀x c,(zY env l acc).lookup x=some c->env.cells.lookup x=some c
 |[],_,_,ha=>ha
 |(n,k)::r,acc,hl,ha=>by
  refine zdR r _ (λy hy=>hl y (List.mem_cons_of_mem _ hy)) ?_;intro x c hx;by_cases hk:k=.free
  ·rw[if_pos hk,List.lookup_cons]at hx;obtain⟨c',hc⟩:=hl (n,k) List.mem_cons_self hk;cases e:x==n with
   |true=>
    rw[e]at hx;have ex:x=n:=eq_of_beq e;subst ex;have hc':env.cells.lookup x=some c':=hc;rw[hc']at hx ⊢;exact hx
   |false=>rw[e]at hx;exact ha x c hx
  ·rw[if_neg hk]at hx;exact ha x c hx
theorem zdS{env:Env}:∀(l:List (Str×NameKind)) (acc:List (Str×Addr)) (x:Str),((x,NameKind.free)∈l\/∃c,acc.lookup x=some c)->∃c,(zY env l acc).lookup x=some c
 |[],_,x,h=>by
  rcases h with h|h
  ·cases h
  ·exact h
 |(n,k)::r,acc,x,h=>by
  refine zdS r _ x ?_;rcases h with h|⟨c,h⟩
  ·rcases List.mem_cons.mp h with h|h
   ·cases h
    refine .inr ⟨(env.cells.lookup n).getD 0,?_⟩;rw[if_pos rfl,List.lookup_cons];simp
   ·exact .inl h
  ·by_cases hk:k=.free
   ·rw[if_pos hk];cases e:x==n with
    |true=>exact .inr ⟨(env.cells.lookup n).getD 0,by rw[List.lookup_cons,e]⟩
    |false=>exact .inr ⟨c,by rw[List.lookup_cons,e];exact h⟩
   ·rw[if_neg hk];exact .inr ⟨c,h⟩
theorem zbR{names:List (Str×NameKind)}(hc:∀y∈names,y.2≠.cell){k:NameKind}(hk:k=.cell\/k=.free)(h:(names.map λ(p:Str×NameKind)=>if(p.2==NameKind.free&&env.scope.kind== .function&&env.kindOf p.1==some .cell)then(p.1,NameKind.cell)else(p.1,p.2)).lookup x=some k):(x,NameKind.free)∈names:=by
 obtain⟨⟨n,k0⟩,hm,e⟩:=List.mem_map.mp (PySem.mem_of_lookup h);have n0:=hc _ hm;simp only at e n0;by_cases hq:(k0==NameKind.free&&env.scope.kind== .function&&env.kindOf n==some .cell)=true
 ·rw[if_pos hq]at e;simp only[Bool.and_eq_true]at hq
  have:k0=.free:=eq_of_beq hq.1.1;subst this;cases e
  exact hm
 ·rw[if_neg hq]at e;cases e
  rcases hk with rfl|rfl
  ·exact absurd rfl n0
  ·exact hm
def qN(X:Cx)(N:List Str)(scope:Scope)(cl:List (Str×Addr))(C:Addr)(s0:Shared)(H0:Hp)(fp:List Addr):Cx:=
 {prog:=X.prog,w:=X.w,K:=X.K,mg:=X.mg,base:=X.base,A:=X.A,N:=N,s₀:=s0,H₀:=H0,env:=compEnvC scope cl C X.env,outer:=X.stack,stack:=X.stack,ex:=fp,fn:=λ_=>false,calm:=X.calm,pn:=[],xe:=λ_ _=>False}
inductive Cap(X:Cx)(scope:Scope):List Str->ON->Prop
 |nil:Cap X scope [] []
 |own {x N c}:Cap X scope N c->Cap X scope (x::N) (none::c)
 |cap {x j N c} (h:Cap X scope N c) (h1:X.N[j]?=some x:=by rfl) (h2:scope.names.lookup x=some .free:=by rfl) (h3:X.env.kindOf x=some .cell\/X.env.kindOf x=some .free:=by first|exact Or.inl rfl|exact Or.inr rfl):
   Cap X scope (x::N) (some j::c)
variable{c:ON}
theorem Cap.len(h:Cap X scope N c):c.length=N.length:=by
 induction h with
 |nil=>rfl
 |own _ ih=>simp[ih]
 |cap _ _ _ _ ih=>simp[ih]
theorem Cap.get(h:Cap X scope N c):∀{i j:Nat}{x:Str},c[i]?=some (some j)->N[i]?=some x->
  X.N[j]?=some x/\scope.names.lookup x=some .free/\(X.env.kindOf x=some .cell\/X.env.kindOf x=some .free):=by
 induction h with
 |nil=>intro i j x h;simp at h
 |own _ ih=>
  intro i j x h1 h2;cases i with
  |zero=>simp at h1
  |succ i=>exact ih (by simpa using h1) (by simpa using h2)
 |cap _ a b d ih=>
  intro i j x h1 h2;cases i with
  |zero=>simp at h1 h2;subst h1 h2;exact⟨a,b,d⟩
  |succ i=>exact ih (by simpa using h1) (by simpa using h2)
noncomputable def st0(cap:ON)(σ:St):St:=cap.map λo=>match o with
 |some j=>(σ[j]?).getD none
 |none=>none
structure kA(X:Cx)(scope:Scope):Prop where
 kind:scope.kind=.function
 cells:∀y∈scope.names,y.2≠.cell
 names:∀y∈scope.names,y.2=.local->scope.names.lookup y.1=some .local
 free:∀y∈scope.names,y.2=.free->X.env.kindOf y.1=some .cell\/X.env.kindOf y.1=some .free
theorem kA.mk'(h1:scope.kind=.function:=by rfl)(h2:(scope.names.all λy=>decide (y.2≠.cell))=true:=by rfl)(h3:(scope.names.all λy=>decide (y.2≠.local)||decide (scope.names.lookup y.1=some .local))=true:=by rfl)(h4:(scope.names.all λy=>decide (y.2≠.free)||(decide (X.env.kindOf y.1=some .cell)||decide (X.env.kindOf y.1=some .free)))=true:=by rfl):kA X scope where
 kind:=h1
 cells:=λy hy=>of_decide_eq_true (List.all_eq_true.mp h2 y hy)
 names:=λy hy hl=>by
  have:=List.all_eq_true.mp h3 y hy;rw[Bool.or_eq_true]at this;rcases this with z|z
  ·exact absurd hl (of_decide_eq_true z)
  ·exact of_decide_eq_true z
 free:=λy hy hl=>by
  have:=List.all_eq_true.mp h4 y hy;rw[Bool.or_eq_true,Bool.or_eq_true]at this;rcases this with z|z|z
  ·exact absurd hl (of_decide_eq_true z)
  ·exact .inl (of_decide_eq_true z)
  ·exact .inr (of_decide_eq_true z)
section
variable{X:Cx}{pins:AO}{σ:St}{H H3:Hp}{s s3:Shared}{N:List Str}{cap:ON}{scope:Scope}{fp:List Addr}{C:Addr}
theorem kA.cellsOf(S:kA X scope)(ok:X.Ok):∀y∈scope.names,y.2=.free->∃c,X.env.cells.lookup y.1=some c:=λy hy hf=>ok.has y.1 (S.free y hy hf)
theorem zlB(S:kA X scope)(I3:Inv X pins σ H3 s3)(f3:∀b∈fp,yF X pins H3 b)(hfp:∀b∈fp,b<s3.heap.objs.size)(hC:s3.heap.objs.size<=C):
  (qN X N scope (zY X.env scope.names []) C s3 H3 fp).Ok:=by
 have sub:=zdR (env:=X.env) scope.names [] (S.cellsOf I3.ok) (λx c h=>by simp at h);refine⟨I3.ok.mod,S.kind,I3.ok.glob,I3.ok.blt,hC,λx y c h1 h2=>I3.ok.inj x y c (sub x c h1) (sub y c h2),λx hx=>?_,λx c h=>absurd (show false=true from h) Bool.false_ne_true,I3.ok.hd,I3.ok.frames,.inl rfl,λb hb=>⟨?_,λx c h=>?_⟩,
  I3.bs,Nat.le_trans I3.ok.bsz I3.sz,λb o e hb=>?_,λb hb=>?_,I3.stack,I3.stkFree⟩
 ·refine zdS scope.names [] x (.inl ?_);rcases hx with hx|hx
  ·exact zbR S.cells (.inl rfl) hx
  ·exact zbR S.cells (.inr rfl) hx
 ·exact Nat.ne_of_lt (Nat.lt_of_lt_of_le (hfp b hb) hC)
 ·exact(f3 b hb).2.2.2.2.1 x c (sub x c h)
 ·obtain⟨_,_,_,h,_⟩:=f3 b hb;rcases h with h|h
  ·exact I3.ok.noex b o e h
  ·exact absurd (Nat.lt_of_lt_of_le (Heap.lt_size e) (Nat.le_trans I3.ok.bsz h)) (Nat.lt_irrefl _)
 ·intro hz;obtain⟨_,h1,h2,_⟩:=f3 b hb;rcases List.mem_cons.mp (I3.stkSub b hz)with z|z
  ·exact h1 z
  ·exact h2 z
theorem zjB(S:kA X scope)(cp:Cap X scope N cap)(I3:Inv X pins σ H3 s3)(f3:∀b∈fp,yF X pins H3 b)(hfp:∀b∈fp,b<s3.heap.objs.size)(hC:s3.heap.objs.size<=C)(os:s.os=s3.os)(bare:AllBare s.gens)(un:Un (frs X.stack) fp H3 H s3.heap s.heap)(ns:∃m,s.heap.Ns C m)(fC:H C=none)(hok:HOk X.prog X.w H s.heap):
  Inv (qN X N scope (zY X.env scope.names []) C s3 H3 fp) [] (st0 cap σ) H s:=by
 have sub:=zdR (env:=X.env) scope.names [] (S.cellsOf I3.ok) (λx c h=>by simp at h);have cellK:∀x c,X.env.cells.lookup x=some c->∀v,s3.heap.IsCell c v->s.heap.IsCell c v:=λx c e v ⟨o,ho,hd⟩=>by
  obtain⟨sl,q⟩:=un.any ho (I3.freeC x c e) λz=>(f3 c z).2.2.2.2.1 x c e rfl
  exact⟨_,q,hd⟩
 obtain⟨m,hm⟩:=ns;refine⟨zlB S I3 f3 hfp hC,os,bare,un,⟨m,hm,λi x v h1 h2 h3=>?_⟩,λx c h=>?_,fC,λx c h=>?_,λp hp=>absurd (show p∈([]:AO)from hp) (by simp),hok,?_⟩
 ·unfold st0 at h2;rw[List.getElem?_map]at h2;cases e:cap[i]? with
  |none=>rw[e]at h2;cases h2
  |some o=>
   rw[e]at h2;cases o with
   |none=>simp at h2
   |some j=>
    obtain⟨a1,a2,a3⟩:=cp.get e h1;simp only[Option.map_some]at h2;have h2':(σ[j]?).getD none=some v:=Option.some.inj h2;have h2'':σ[j]?=some (some v):=by
     cases q:σ[j]? with
     |none=>rw[q]at h2';cases h2'
     |some z=>rw[q]at h2';simp at h2';rw[h2']
    obtain⟨m0,_,hl⟩:=I3.loc;have vis:Vis X.env.scope x:=by
     rcases a3 with z|z
     ·exact .inr (.inl z)
     ·exact .inr (.inr z)
    obtain⟨u,r,l⟩:=hl j x v a1 h2'' vis;refine⟨u,r,?_⟩;rcases l with⟨k,_⟩|⟨_,c,e1,z⟩
    ·rcases a3 with q|q
     ·rw[q]at k;cases k
     ·rw[q]at k;cases k
    ·obtain⟨c',hc'⟩:=zdS (env:=X.env) scope.names [] x (.inl (PySem.mem_of_lookup a2))
     have:=sub x c' hc';rw[e1]at this;cases this
     refine .inr ⟨?_,c,hc',cellK x c e1 _ z⟩;have vis2:(qN X N scope (zY X.env scope.names []) C s3 H3 fp).env.kindOf x=some .local\/(qN X N scope (zY X.env scope.names []) C s3 H3 fp).env.kindOf x=some .cell\/(qN X N scope (zY X.env scope.names []) C s3 H3 fp).env.kindOf x=some .free:=h3;rcases vis2 with z1|z1
     ·-- a local name of the block is not free there
      exfalso;have z2:(scope.names.map λ(p:Str×NameKind)=>if(p.2==NameKind.free&&X.env.scope.kind== .function&&X.env.kindOf p.1==some .cell)then(p.1,NameKind.cell)else(p.1,p.2)).lookup x=some .local:=z1;have key:∀l:List (Str×NameKind),l.lookup x=some .free->(l.map λ(p:Str×NameKind)=>if(p.2==NameKind.free&&X.env.scope.kind== .function&&X.env.kindOf p.1==some .cell)then(p.1,NameKind.cell)else(p.1,p.2)).lookup x≠some .local:=by
       intro l;induction l with
       |nil=>intro h;simp at h
       |cons p l ih=>
        obtain⟨n,k⟩:=p;intro h;rw[List.map_cons];cases ex:x==n with
        |true=>
         rw[List.lookup_cons,ex]at h;cases h
         intro q;by_cases hq:((NameKind.free==NameKind.free)&&X.env.scope.kind== .function&&X.env.kindOf n==some .cell)=true
         ·rw[if_pos hq,List.lookup_cons,ex]at q;cases q
         ·rw[if_neg hq,List.lookup_cons,ex]at q;cases q
        |false=>
         rw[List.lookup_cons,ex]at h;intro q;by_cases hq:((k==NameKind.free)&&X.env.scope.kind== .function&&X.env.kindOf n==some .cell)=true
         ·rw[if_pos hq,List.lookup_cons,ex]at q;exact ih h q
         ·rw[if_neg hq,List.lookup_cons,ex]at q;exact ih h q
      exact key _ a2 z2
     ·exact z1
 ·obtain⟨v,z⟩:=I3.cell x c (sub x c h);exact⟨v,cellK x c (sub x c h) v z⟩
 ·obtain⟨v,o,ho,_⟩:=I3.cell x c (sub x c h);exact un.free c o ho (I3.freeC x c (sub x c h)) λz=>(f3 c z).2.2.2.2.1 x c (sub x c h) rfl
 ·show(st0 cap σ).length=N.length;unfold st0;rw[List.length_map];exact cp.len
end
def PIf(Y:Cx)(ifs:List Expr)(t:TT):Prop:=
 ∀(pins:AO) (s:Shared) (σ:St) (H:Hp) (Q:Bool->Hp->Prop),Inv Y pins σ H s->t σ H Q->
  wpAny (model Y.prog Y.w) Y.A (forIn ifs true λc r=>if r=true then do let ok ←isTrue c Y.env (eval c Y.env);pure (ForInStep.yield ok)else pure (ForInStep.yield r)) (TP Y pins σ Q) Y.xe s
def tYes:TT:=λ_ H Q=>Q true H
variable{Y:Cx}
theorem zhs:PIf Y [] tYes:=λ_ _ _ H _ I h=>wpAny_tests_nil ⟨H,I,h⟩
theorem zkN{c:Expr}{t:TT}(h:PT Y c t):PIf Y [c] t:=λpins s σ H Q I hw=>wpAny_tests_one (h pins s σ H Q I hw)
variable{e:Expr}{newAcc:Sem Value}{act:Value->Env->Sem Unit}{ho:HO}{wi:TI}{p py spos:Pos}{y:Str}
section
variable{X:Cx}{pins:AO}{σ:St}{N:List Str}{cap:ON}{scope:Scope}{tg zM elt:Expr}{ifs:List Expr}{pos:Pos}{g:TG}{tt:TT}{te:TE}
abbrev gM:=St->Hp->(Hp->Prop)->Prop
def PAct(Y:Cx)(act:Value->Env->Sem Unit)(D:Addr)(t:gM):Prop:=
 ∀(pins:AO) (s:Shared) (σ:St) (H:Hp) (Q:Hp->Prop),Inv Y pins σ H s->t σ H Q->wpAny (model Y.prog Y.w) Y.A (act (.ref D) Y.env) (λ_ s'=>∃σ' H',Inv Y pins σ' H' s'/\Q H') Y.xe s
def zea(J:It)(g:TG)(tt:TT)(ta:Addr->gM)(ho:HO)(cap:ON)(σ:St)(H1:Hp)(Q:VK):Prop:=
 ∀D,H1 D=none->∃W:Nat->Nat->Hp->Prop,(∃m,W 0 m (upd H1 D ho))/\∀i m H,W i m H->
  ((J.stop i H/\Q (.ref D) H)\/(J.go i H/\∀x H',J.yld i H x H'->g x (st0 cap σ) H' λσ2 H2=>tt σ2 H2 λb H3=>
   if b=true then ta D σ2 H3 λH4=>∃m',m'<m/\W (i+1) m' H4 else∃m',m'<m/\W (i+1) m' H3))
structure zaW(X:Cx)(e tg zM:Expr)(ifs:List Expr)(newAcc:Sem Value)(act:Value->Env->Sem Unit)(ho:HO):Prop where
 new:∀(pins:AO) (σ:St) (H:Hp) (s:Shared) (Q:Vs) (E:Vs),Inv X pins σ H s->
  (∀ob:Obj,Inv X pins σ (upd H s.heap.objs.size ho) {s with heap:=s.heap.push ob}->Q (.ref s.heap.objs.size) {s with heap:=s.heap.push ob})->wpAny (model X.prog X.w) X.A newAcc Q E s
 turn:∀(it:Value) (D:Addr) (env:Env),compTurn e 0 it (.ref D) env=(do
   standAt zM.pos
   match←pyNext it with
   |none=>pure (.done .next)
   |some v=>
    letOwnedTupleGo tg it v
    assign tg env v
    let mut ok:=true
    for c in ifs do
     if ok then ok ←isTrue c env (eval c env)
    if ok then act (.ref D) env
    again (.compLoop e 0 it (.ref D) env))
 loop:∀(A:Around) (it:Value) (D:Addr) (env:Env) (Q:Fin->Shared->Prop) (E:Vs) (s:Shared),wpAny (model X.prog X.w) A ((compTurn e 0 it (.ref D) env).onRaise λx=>do noteFrame x env;theTreesLotGoes x) Q E s->
  wpAny (model X.prog X.w) (A.under (.compLoop e 0 it (.ref D) env)) ((model X.prog X.w).den (.compLoop e 0 it (.ref D) env)) Q E s
 start:∀{it acc:Value}{env:Env} {A:Around}{R:Result->Shared->Prop} {s:Shared},codeAny (model X.prog X.w) A (.compLoop e 0 it acc env) R s->
  wpAny (model X.prog X.w) A (pyIter it) (λit' s'=>codeAny (model X.prog X.w) A (.compLoop e 0 it' acc env) R s') (notedBy (model X.prog X.w) A env λx s'=>R (.error x) s') s->codeAny (model X.prog X.w) A (.compStart e 0 it acc env) R s
theorem zez{ta:Addr->gM}{s2:Shared}{J:It}{fp:List Addr}{it:Addr}{tn:Nat->Heap->Prop}{Q:VK}{RR:Value->Addr->Result->Shared->Prop}{E:Vs}(ck:zaW X e tg zM ifs newAcc act ho)(hc:X.calm=true)(S:kA X scope)(cp:Cap X scope N cap)(hg:∀C s0 H0 fp,PG (qN X N scope (zY X.env scope.names []) C s0 H0 fp) tg g)(ht:∀C s0 H0 fp,PIf (qN X N scope (zY X.env scope.names []) C s0 H0 fp) ifs tt)(he:∀C s0 H0 fp D,PAct (qN X N scope (zY X.env scope.names []) C s0 H0 fp) act D (ta D))(I2:Inv X pins σ H2 s2)(T:wY X.prog X.w X.K tg J fp it tn)(st2:tn 0 s2.heap)(f2:∀b∈fp,yF X pins H2 b)(hw:zea J g tt ta ho cap σ H2 Q)(hRR:∀D C H' s' m',Inv X pins σ H' s'->s'.heap.Ns C m'->H' C=none->C≠X.env.locals->X.s₀.heap.objs.size<=C->(∀x c,X.env.cells.lookup x=some c->c≠C)->(∀p∈X.pn++pins,p.1≠C)->Q (.ref D) H'->RR (.ref D) C (.ok .next) s'):
  wpAny (model X.prog X.w) X.A newAcc (λacc s3=>wpAny (model X.prog X.w) X.A (newFunctionEnv scope X.env.globals (zY X.env scope.names []) [] X.env.qual none .none (some X.env)) (λcenv s4=>
   codeAny (model X.prog X.w) X.A (.compStart e 0 (.ref it) acc {cenv with scope:=relabel scope X.env}) (RR acc cenv.locals) s4) E s3) E s2:=by
 refine ck.new pins σ H2 s2 _ _ I2 λob I3=>wpAny_newFunctionEnv S.cells (by intro y hy;simp at hy) (λh1 hns1 hsb1=>?_) S.kind
 dsimp only at hns1 hsb1 ⊢;have D0:H2 s2.heap.objs.size=none:=I2.fresh;obtain⟨W,⟨m0,w0⟩,turn⟩:=hw s2.heap.objs.size D0;generalize hs3:({s2 with heap:=s2.heap.push ob}:Shared)=s3 at I3;have e3:s3.heap=s2.heap.push ob:=by rw[←hs3]
 have z3:s3.heap.objs.size=s2.heap.objs.size+1:=by rw[e3,Heap.size_push]
 rw[←e3]at hns1 hsb1 ⊢;generalize hD:s2.heap.objs.size=D at*;generalize hC:s3.heap.objs.size=C at*;have fp2:∀b∈fp,b<D:=λb hb=>by obtain⟨o,e,_⟩:=T.obj 0 _ st2 b hb;rw[←hD];exact Heap.lt_size e
 have f3:∀b∈fp,yF X pins (upd H2 D ho) b:=λb hb=>by obtain⟨a1,a2⟩:=f2 b hb;exact⟨by rw[zT (Nat.ne_of_lt (fp2 b hb))];exact a1,a2⟩
 have hfp:∀b∈fp,b<s3.heap.objs.size:=λb hb=>by rw[hC,z3];exact Nat.lt_succ_of_lt (fp2 b hb)
 have old:∀b o,s3.heap.get? b=some o->h1.get? b=some o:=λb o e=>
  hsb1.extBut b o (Nat.ne_of_lt (by rw[←hC];exact Heap.lt_size e)) (Heap.get?_push_of_some _ e)
 have old2:∀b o,s2.heap.get? b=some o->s3.heap.get? b=some o:=λb o e=>by rw[e3];exact Heap.get?_push_of_some _ e
 have ds4:∀s4:Shared,s4={s2 with heap:=h1,toks:=s2.toks+([]:List (Str×Value)).length}->
   codeAny (model X.prog X.w) X.A (.compLoop e 0 (.ref it) (.ref D) (compEnvC scope (zY X.env scope.names []) C X.env)) (RR (.ref D) C) s4:=by
  intro s4 es4;have os4:s4.os=s3.os:=by rw[es4,←hs3]
  have bare4:AllBare s4.gens:=by rw[es4];exact I2.bare
  have heap4:s4.heap=h1:=by rw[es4]
  have st4:tn 0 s4.heap:=by rw[heap4];exact T.keep _ _ _ st2 λb _ o e=>old b o (old2 b o e)
  refine codeAny_loop rfl (λn s=>∃i H,s.os=s3.os/\AllBare s.gens/\Un (frs X.stack) fp (upd H2 D ho) H s3.heap s.heap/\(∃m,s.heap.Ns C m)/\H C=none/\HOk X.prog X.w H s.heap/\tn i s.heap/\(∀b∈fp,H b=none)/\W i n H)
   (λn s hI=>?_) m0 ⟨0,_,os4,bare4,by rw[heap4];exact Un.kept old,by rw[heap4];exact⟨_,hns1⟩,I3.hok.fresh (Nat.le_of_eq hC),by rw[heap4];exact I3.hok.kept old,st4,λb hb=>(f3 b hb).1,w0⟩
  obtain⟨i,H,os,bare,un,ns,fC,hok,st,fr,wi⟩:=hI;refine ck.loop _ _ _ _ _ _ _ ?_;refine wpAny_noted ?_;rw[ck.turn];have hCge:s3.heap.objs.size<=C:=Nat.le_of_eq hC;have IY:=zjB S cp I3 f3 hfp hCge os bare un ns fC hok;generalize hYd:qN X N scope (zY X.env scope.names []) C s3 (upd H2 D ho) fp=Y at IY;have hYA:Y.A=X.A:=by rw[←hYd];rfl
  have hYenv:Y.env=compEnvC scope (zY X.env scope.names []) C X.env:=by rw[←hYd];rfl
  have hYp:Y.prog=X.prog:=by rw[←hYd];rfl
  have hYw:Y.w=X.w:=by rw[←hYd];rfl
  have hYK:Y.K=X.K:=by rw[←hYd];rfl
  have hYc:Y.calm=true:=by rw[←hYd];exact hc
  have hYxe:∀e s,¬Y.xe e s:=λe s z=>by rw[←hYd]at z;exact z
  have gY:PG Y tg g:=by rw[←hYd];exact hg _ _ _ _
  have tY:PIf Y ifs tt:=by rw[←hYd];exact ht _ _ _ _
  have eY:PAct Y act D (ta D):=by rw[←hYd];exact he _ _ _ _ _
  have stat:∀{H':Hp},(∀b∈fp,H' b=none)->∀b∈fp,yF Y [] H' b:=λ{H'} hn b hb=>by have okY:=IY.ok;refine⟨hn b hb,(okY.exf b (by rw[←hYd];exact hb)).1,okY.exfs b (by rw[←hYd];exact hb),.inl (by rw[←hYd];exact hb),λx c e=>(okY.exf b (by rw[←hYd];exact hb)).2 x c e,λp hp=>?_⟩;rw[←hYd]at hp;exact absurd (show p∈([]:AO)from hp) (by simp)
  have alt:=turn i n H wi;have base_of:∀{σ':St}{pins':AO} {H':Hp}{s':Shared},Inv Y pins' σ' H' s'->s'.os=s3.os/\AllBare s'.gens/\Un (frs X.stack) fp (upd H2 D ho) H' s3.heap s'.heap/\(∃m,s'.heap.Ns C m)/\H' C=none/\HOk X.prog X.w H' s'.heap:=λ{σ' pins' H' s'} I'=>by have b1:=I'.os;have b2:=I'.base;have b3:=I'.loc;have b4:=I'.free;have b5:=I'.hok;rw[←hYd]at b1 b2 b3 b4 b5;obtain⟨m,hm,_⟩:=b3;exact⟨b1,I'.bare,b2,⟨m,hm⟩,b4,b5⟩
  refine wpAny_bind (wpAny_standAt (wpAny_bind ?_));rcases alt with⟨stop,qn⟩|⟨go,step⟩
  ·have h1:=T.done Y hYp hYw hYK hYc i [] s _ H (notedBy (model X.prog X.w) X.A (compEnvC scope (zY X.env scope.names []) C X.env) λe s'=>RR (.ref D) C (.error e) s') IY (stat fr) st stop;rw[hYA]at h1;refine wpAny_mono h1 (λr s5 h5=>?_) λ_ _ z=>z
   obtain⟨hr,I5⟩:=h5;subst hr;refine wpAny_pure ?_;obtain⟨os5,bare5,un5,⟨m5,ns5⟩,fC5,hok5⟩:=base_of I5;have IX:Inv X pins σ H s5:=I3.call' (ch:=fp) (by rw[os5]) un5 hok5 bare5 λb hb=>by obtain⟨_,a2,a3,a4,a5,a6⟩:=f3 b hb;exact⟨a4,a2,a5,a6⟩
   refine hRR D C H s5 m5 IX ns5 fC5 ?_ ?_ ?_ ?_ qn
   ·exact Nat.ne_of_gt (Nat.lt_of_lt_of_le I3.lt hCge)
   ·exact Nat.le_trans I3.sz hCge
   ·intro x c e z;obtain⟨v,q⟩:=I3.cell x c e;exact absurd (Nat.lt_of_lt_of_le q.lt hCge) (by rw[z];exact Nat.lt_irrefl _)
   ·intro p hp z;exact absurd (Nat.lt_of_lt_of_le (Heap.lt_size (I3.pin p hp).1) hCge) (by rw[z];exact Nat.lt_irrefl _)
  ·have h1:=T.item Y hYp hYw hYK hYc i [] s _ H Y.xe IY (stat fr) st go;rw[hYA]at h1;refine wpAny_mono h1 (λr s5 h5=>?_) λe s' z=>absurd z (hYxe e s')
   obtain⟨u,hr,h5⟩:=h5;subst hr;refine wpAny_bind (wpAny_mono h5 (λ_ s6 h6=>?_) λe s' z=>absurd z (hYxe e s'));obtain⟨x,H6,I6,r6,y6,st6,fr6⟩:=h6;have I6':=I6.pinned (stat fr6) (T.obj _ _ st6);have h7:=gY _ s6 _ H6 x u _ I6' r6 (step x H6 y6);rw[hYA,hYenv,hYp,hYw]at h7;refine wpAny_bind (wpAny_mono h7 (λ_ s7 h7=>?_) λe s' z=>absurd z (hYxe e s'));obtain⟨σ7,H7,I7,q7⟩:=h7;have h8:=tY _ s7 σ7 H7 _ I7 q7;rw[hYA,hYenv,hYp,hYw]at h8;refine wpAny_bind (wpAny_mono h8 (λb s8 h8=>?_) λe s' z=>absurd z (hYxe e s'));obtain⟨H8,I8,q8⟩:=h8;have again:∀{σ9:St}{H9:Hp} {s9:Shared},Inv Y ([]++zek fp s6.heap) σ9 H9 s9->(∃m',m'<n/\W (i+1) m' H9)->
     ∃m,m<n/\∃i H,s9.os=s3.os/\AllBare s9.gens/\Un (frs X.stack) fp (upd H2 D ho) H s3.heap s9.heap/\(∃m,s9.heap.Ns C m)/\H C=none/\HOk X.prog X.w H s9.heap/\tn i s9.heap/\(∀b∈fp,H b=none)/\W i m H:=λ{σ9 H9 s9} I9 ⟨m',hm,w9⟩=>by
    obtain⟨b1,b2,b3,b4,b5,b6⟩:=base_of I9;refine⟨m',hm,i+1,H9,b1,b2,b3,b4,b5,b6,T.keep _ _ _ st6 λb hb o e=>(I9.pin (b,o) (List.mem_append_right _ (List.mem_append_right _ (zaO hb e)))).1,λb hb=>?_,w9⟩;obtain⟨o,e,d⟩:=T.obj _ _ st6 b hb;exact(I9.pin (b,o) (List.mem_append_right _ (List.mem_append_right _ (zaO hb e)))).2.1
   cases b with
   |false=>
    simp only[Bool.false_eq_true,if_false]at q8 ⊢;exact wpAny_pure ⟨rfl,again I8 q8⟩
   |true=>
    simp only[if_true]at q8 ⊢;have h9:=eY _ s8 σ7 H8 _ I8 q8;rw[hYA,hYenv,hYp,hYw]at h9;refine wpAny_bind (wpAny_mono h9 (λ_ s9 h9=>?_) λe s' z=>absurd z (hYxe e s'));obtain⟨σ9,H9,I9,q9⟩:=h9;exact wpAny_pure ⟨rfl,again I9 q9⟩
 have st1:tn 0 h1:=T.keep _ _ _ st2 λb _ o e=>old b o (old2 b o e)
 exact ck.start (ds4 _ rfl) (T.self X.A 0 _ _ _ st1 (ds4 _ rfl))
noncomputable def actL(elt:Expr):Value->Env->Sem Unit:=λacc env=>do let _ ←call (.builtin "list.append") [acc,←eval elt env]
theorem zio:zaW X (.ListComp elt [⟨tg,zM,ifs,0⟩] scope pos) tg zM ifs (newList []) (actL elt) (.lst [])where
 new:=λpins σ H s Q E I h=>wpAny_newObj_type (h _ (I.lnew (t':=s.toks) .nil (Nat.zero_le _)))
 turn:=λit D env=>by rw[compTurn_list];rfl
 loop:=λA it D env Q E s h=>h
 start:=λh0 h=>codeAny_compStart_list h0 h
def taL(te:TE)(D:Addr):gM:=λσ H Q=>te σ H λv H4=>∃acc,H4 D=some (.lst acc)/\acc.length<sizeLine/\Q (upd H4 D (.lst (acc++[v])))
theorem zem(he:PE Y elt te)(D:Addr):PAct Y (actL elt) D (taL te D):=by intro pins s σ H Q I h;unfold actL;refine wpAny_bind (thn (he pins s σ H _ I h) λv s9 ⟨v9,H9,I9,r9,acc,hD9,hlen,q9⟩=>?_);refine wpAny_bind (thn (zcz (X:=Y) _ s9 σ H9 (.ref D) [v9] (.ref D) [v] (λz Hz=>z=.non/\Hz=upd H9 D (.lst (acc++[v9]))) I9 rfl (.cons r9 .nil) ⟨D,acc,v9,rfl,rfl,hD9,hlen,rfl,rfl⟩) λ_ s10 h10=>?_);obtain⟨_,H10,I10,_,_,e10⟩:=h10;subst e10;exact wpAny_pure ⟨_,_,I10,q9⟩
def znH(K:Fg)(J:It)(g:TG)(tt:TT)(te:TE)(cap:ON)(σ:St)(H1:Hp)(Q:VK):Prop:=zea J g tt (taL te) (.lst []) cap σ H1 Q
noncomputable def zha(wi:TI)(g:TG)(tt:TT)(ta:Addr->gM)(ho:HO)(cap:ON):TE:=λσ H Q=>wi σ H λJ H1=>zea J g tt ta ho cap σ H1 Q
noncomputable def zlU(K:Fg)(wi:TI)(g:TG)(tt:TT)(te:TE)(cap:ON):TE:=zha wi g tt (taL te) (.lst []) cap
theorem zfI{ta:Addr->gM}(ck:zaW X e tg zM ifs newAcc act ho)(N:List Str)(cap:ON)(cp:Cap X scope N cap)(hc:X.calm=true)(hi:PI X tg zM wi)(hg:∀C s0 H0 fp,PG (qN X N scope (zY X.env scope.names []) C s0 H0 fp) tg g)(ht:∀C s0 H0 fp,PIf (qN X N scope (zY X.env scope.names []) C s0 H0 fp) ifs tt)(he:∀C s0 H0 fp D,PAct (qN X N scope (zY X.env scope.names []) C s0 H0 fp) act D (ta D))(S:kA X scope)(hs:∀x,foldedSetIterable zM X.env x=pure x)(hcl:clausesOf e=[⟨tg,zM,ifs,0⟩])(hev:eval e X.env=comprehension e scope X.env p newAcc false (eval zM X.env)):
  PE X e (zha wi g tt ta ho cap):=by
 intro pins s σ H Q I h;rw[hev];refine wpAny_comprehension_free (use:=none) hcl hs (zdu (S.cellsOf I.ok)) S.kind S.names (thn (hi pins s σ H _ I h) λv s1 h1=>thn h1 λitv s2 h2=>?_);obtain⟨it,fp,tn,J,H2,e,I2,T,st2,f2,hw⟩:=h2;subst e;refine zez (RR:=λacc C=>compPost (model X.prog X.w) X.A X.xe none (EP X pins σ Q) acc C) ck hc S cp hg ht he I2 T st2 f2 hw ?_;intro D C H' s' m' I' ns fC c1 c2 c3 c4 q;exact⟨m',ns,λh' hs'=>⟨.ref D,H',I'.turned (t':=s'.toks) (λb o hb e=>(hs'.2 b hb).trans e) fC c1 (.inr c2) c3 c4,rfl,q⟩⟩
theorem zcq{ta:Addr->gM}{k:Nat}(ck:zaW X e tg zM ifs newAcc act ho)(N:List Str)(cap:ON)(cp:Cap X scope N cap)(hc:X.calm=true)(hN:X.N.Nodup)(hk:X.N[k]?=some y)(hy:Loc X.env.scope y)(hi:PI X tg zM wi)(hg:∀C s0 H0 fp,PG (qN X N scope (zY X.env scope.names []) C s0 H0 fp) tg g)(ht:∀C s0 H0 fp,PIf (qN X N scope (zY X.env scope.names []) C s0 H0 fp) ifs tt)(he:∀C s0 H0 fp D,PAct (qN X N scope (zY X.env scope.names []) C s0 H0 fp) act D (ta D))(S:kA X scope)(hs:∀x,foldedSetIterable zM X.env x=pure x)(hcl:clausesOf e=[⟨tg,zM,ifs,0⟩])(hev:∀use,evalThenUse e X.env use=(do let _ ←comprehension e scope X.env p newAcc false (eval zM X.env) (some use)))(hsw:swapsWith e (some (.Name y py)) spos.line X.env=pure true)(hf:X.fn y=true\/X.env.scope.names.lookup y=some .local):
  PS X (.Assign [.Name y py] e spos) (tAsg (zha wi g tt ta ho cap) (zjF k)):=by
 intro pins s σ H D0 I h;rw[exec_Assign_Name_used _ _ _ _ hsw];refine wpAny_bind (wpAny_standAt (wpAny_bind ?_));rw[hev];refine wpAny_bind (wpAny_mono (wpAny_comprehension_free (use:=some (assign (.Name y py) X.env)) (Q:=λ_ s'=>SP X pins D0 .next s') hcl hs (zdu (S.cellsOf I.ok)) S.kind S.names
  (thn (hi pins s σ H _ I h) λv s1 h1=>thn h1 λitv s2 h2=>?_)) (λ_ s' hq=>wpAny_pure (wpAny_pure hq)) λ_ _ e=>e)
 obtain⟨it,fp,tn,J,H2,e,I2,T,st2,f2,hw⟩:=h2;subst e;refine zez (RR:=λacc C=>compPost (model X.prog X.w) X.A X.xe (some (assign (.Name y py) X.env)) (λ_ s'=>SP X pins D0 .next s') acc C) ck hc S cp hg ht he I2 T st2 f2 hw ?_;intro D C H' s' m' I' ns fC c1 c2 c3 c4 q;show wpAny _ X.A (assign (.Name y py) X.env (.ref D)) _ _ _;refine wpAny_assign_Name (zed I' hN hk hy (v:=.ref D) rfl (λs'' I'' ⟨a,hsb,ha⟩=>?_) hf);have hCa:C≠a:=by
  rcases ha with z|z
  ·rw[z];exact c1
  ·exact λw=>c3 y a z w.symm
 refine⟨m',ns.sameBut hsb hCa,λh' hs'=>⟨_,H',I''.turned (t':=s''.toks) (λb o hb e=>(hs'.2 b hb).trans e) fC c1 (.inr c2) c3 c4,q⟩⟩
theorem zkU(N:List Str)(cap:ON)(cp:Cap X scope N cap)(hc:X.calm=true)(hi:PI X tg zM wi)(hg:∀C s0 H0 fp,PG (qN X N scope (zY X.env scope.names []) C s0 H0 fp) tg g)(ht:∀C s0 H0 fp,PIf (qN X N scope (zY X.env scope.names []) C s0 H0 fp) ifs tt)(he:∀C s0 H0 fp,PE (qN X N scope (zY X.env scope.names []) C s0 H0 fp) elt te)(S:kA X scope:=by exact kA.mk')(hs:∀x,foldedSetIterable zM X.env x=pure x:=by intro _;rfl):
  PE X (.ListComp elt [⟨tg,zM,ifs,0⟩] scope pos) (zlU X.K wi g tt te cap):=
 zfI zio N cap cp hc hi hg ht (λC s0 H0 fp D=>zem (he C s0 H0 fp) D) S hs rfl (eval_ListComp ..)
theorem zde{k:Nat}(N:List Str)(cap:ON)(cp:Cap X scope N cap)(hc:X.calm=true)(hN:X.N.Nodup)(hk:X.N[k]?=some y)(hy:Loc X.env.scope y)(hi:PI X tg zM wi)(hg:∀C s0 H0 fp,PG (qN X N scope (zY X.env scope.names []) C s0 H0 fp) tg g)(ht:∀C s0 H0 fp,PIf (qN X N scope (zY X.env scope.names []) C s0 H0 fp) ifs tt)(he:∀C s0 H0 fp,PE (qN X N scope (zY X.env scope.names []) C s0 H0 fp) elt te)(S:kA X scope:=by exact kA.mk')(hs:∀x,foldedSetIterable zM X.env x=pure x:=by intro _;rfl)(hsw:swapsWith (.ListComp elt [⟨tg,zM,ifs,0⟩] scope pos) (some (.Name y py)) spos.line X.env=pure true:=by rfl)(hf:X.fn y=true\/X.env.scope.names.lookup y=some .local:=by first|exact .inl rfl|exact .inr rfl|assumption):
  PS X (.Assign [.Name y py] (.ListComp elt [⟨tg,zM,ifs,0⟩] scope pos) spos) (tAsg (zlU X.K wi g tt te cap) (zjF k)):=
 zcq zio N cap cp hc hN hk hy hi hg ht (λC s0 H0 fp D=>zem (he C s0 H0 fp) D) S hs rfl (λ_=>rfl) hsw hf
end
section
variable{X:Cx}{a b:Expr}{ta tb:TE}{pos:Pos}
def rIsi(K:Fg):List V->Hp->VK->Prop:=λxs H Q=>∃x T t k,xs=[x,.ty T]/\vK K H x t/\PySem.W.kitOne K t (.type T)=some k/\Q (.bl k) H
theorem zjR:yH X (.builtin "isinstance") (rIsi X.K):=by
 intro pins s σ H xs us Q I r h;obtain⟨x,T,t,k,rfl,ty,e,q⟩:=h;obtain⟨u,c,rfl,r1,r2⟩:=zlM r;cases(show c=Value.type T from r2)
 exact zhT I r1 ty e λtk=>⟨.bl k,H,I.tok _,rfl,q⟩
def zml(K:Fg):R2:=λx y H Q=>∃a b ys,x=.ref a/\y=.ref b/\SqT K H a []/\SqT K H b ys/\Q (.ref b) H
theorem zjp:OpR X (binaryOp .Add) (zml X.K):=by
 intro pins s σ H x y v u Q I rx ry h;obtain⟨a,b,ys,rfl,rfl,ha,hb,q⟩:=h;cases rx
 cases ry
 obtain⟨its,r1,p1,_⟩:=I.tuple ha;obtain⟨its2,r2,p2,_⟩:=I.tuple hb;have e:its=[]:=by cases r1;rfl
 subst e;obtain⟨⟨cls,dd,data,sl⟩,ho,hc,n,hd⟩:=id p1;obtain⟨⟨cls2,dd2,data2,sl2⟩,ho2,hc2,n2,hd2⟩:=id p2;simp only at hc hd hc2 hd2;subst hc hd hc2 hd2;exact concat_meets ⟨_,ho,rfl⟩ ⟨_,ho2,rfl⟩ noFill_tuple_add seq_tuple_add PySem.F.slot_tuple_add PySem.F.entry_tuple_add (PySem.F.args_tuple_add_2 _ _)
   (tuple_addW0 a b _ its2.toArray n n2 dd dd2 sl sl2 (by simp)) ⟨ho,ho2,⟨.ref b,H,I.tok _,rfl,q⟩⟩
def zof(K:Fg):R2:=λx y H Q=>∃a b xs ys,x=.ref a/\y=.ref b/\SqT K H a xs/\SqT K H b ys/\xs.length+ys.length<=sizeLine/\
 (xs=[]->Q (.ref b) H)/\(xs≠[]->ys=[]->Q (.ref a) H)/\(xs≠[]->ys≠[]->∀p,H p=none->Q (.ref p) (upd H p (.tup (xs++ys))))
theorem zle:OpR X (binaryOp .Add) (zof X.K):=by
 intro pins s σ H x y v u Q I rx ry h;obtain⟨a,b,xs,ys,rfl,rfl,ha,hb,hz,q0,q1,q2⟩:=h;by_cases e:xs=[]
 ·subst e;exact zjp pins s σ H _ _ v u Q I rx ry ⟨a,b,ys,rfl,rfl,ha,hb,q0 rfl⟩
 ·exact zld pins s σ H _ _ v u Q I rx ry ⟨a,b,xs,ys,rfl,rfl,ha,hb,e,hz,q1 e,q2 e⟩
theorem zhb:∀l:List Int,(∀n∈l,0<=n)->0<=l.sum
 |[],_=>by simp
 |a::l,h=>by
  have h1:=zhb l λn hn=>h n (List.mem_cons_of_mem _ hn)
  have h2:=h a List.mem_cons_self;rw[List.sum_cons];omega
theorem zfw:∀(j:Nat) (l:List Int),(∀n∈l,0<=n)->0<=(l.take j).sum/\(l.take j).sum<=l.sum
 |0,l,h=>by have:=zhb l h;simp;exact this
 |j+1,[],_=>by simp
 |j+1,a::l,h=>by
  have h1:=zfw j l λn hn=>h n (List.mem_cons_of_mem _ hn)
  have h2:=h a List.mem_cons_self;rw[List.take_succ_cons,List.sum_cons,List.sum_cons];omega
theorem zia:∀(j:Nat) (l:List Int),(∀n∈l,0<=n)->0<=l.getD j 0/\l.getD j 0<=l.sum
 |j,[],_=>by simp
 |0,a::l,h=>by
  have h1:=zhb l λn hn=>h n (List.mem_cons_of_mem _ hn)
  have h2:=h a List.mem_cons_self;rw[List.sum_cons];simp;omega
 |j+1,a::l,h=>by
  have h1:=zia j l λn hn=>h n (List.mem_cons_of_mem _ hn)
  have h2:=h a List.mem_cons_self;rw[List.sum_cons];simp only[List.getD_cons_succ];omega
theorem zgp{l:List Int}(h:∀n∈l,0<=n)(hz:l.sum<2^62):PySem.SumFits l:=λj _=>by have h1:=zfw (j+1) l h;have h2:=zia j l h;unfold InLong;refine⟨⟨?_,?_⟩,⟨?_,?_⟩⟩<;>omega
theorem ziq(hc:X.calm=true):yH X (.builtin "sum") (λxs H Q=>∃(p:Addr) (ns:List Int),xs=[.ref p]/\SqL X.K H p (ns.map V.int)/\PySem.SumFits ns/\Q (.int ns.sum) H):=by
 intro pins s σ H xs us Q I r h;obtain⟨p,ns,rfl,hq,hz,q⟩:=h;obtain⟨u,rfl,rx⟩:=wB r;cases rx
 obtain⟨its,r',pl,_⟩:=I.list hq;have hi:IntsAre its ns:=zgE r';have hall:AllInts its.toArray:=hi.allInts;have nn:numsOf its.toArray.toList=ns:=by rw[show its.toArray.toList=its from rfl,hi.numsOf]
 obtain⟨xs,hx⟩:=hall.items;rw[hx,nums_intItems]at nn;have hl2:s.heap.IsList p (intItems xs):=by rw[←hx];exact pl.isList
 refine sum_intList (I.ok.hd hc) hl2 (λj hj=>?_) λh' tk t' hk=>?_
 ·rw[numAt_eq,preSum_eq,nn];exact hz j (by rw[←nn];simpa using hj)
 ·refine⟨.int ns.sum,H,I.kept hk,⟨t',?_⟩,q⟩;rw[preSum_eq,nn,List.take_of_length_le (by rw[←nn];simp)]
end
section
variable{prog:Program}{w:World}{A:Around}
def maxD(ns:List Int)(d:Int):Int:=match ns with
 |[]=>d
 |n::r=>r.foldl max n
end
section
variable{X:Cx}{a b e:Expr}{es:List Expr}{ta tb:TE}{pos p kpos:Pos}{t tk:TA}
def rSlS:V->Option Int->Option Int->Hp->VK->Prop:=λx lo hi H Q=>∃z,x=.str z/\z.length<=sizeLine/\∀y:Str,y.length<=z.length->y=Txt.slice z lo hi->Q (.str y) H
theorem zmc:SlR X rSlS:=by
 intro pins s σ H x v vl vu lo hi sl Q I rx hs pl pu h;obtain⟨z,rfl,hz,q⟩:=h;obtain⟨t,rfl⟩:=rx;refine⟨"str",_,PySem.F.slot_str_getitem.lookup,typeIs_str s z t,?_⟩;obtain⟨o,ho,hc,hd⟩:=hs;have fin:∀(lo hi:Option Int),(∀y:Str,y.length<=z.length->y=Txt.slice z lo hi->Q (.str y) H)->(Txt.slice z lo hi).length<=sizeLine/\∀t' k,EP X pins σ Q (.str (Txt.slice z lo hi) t') {s with toks:=k}:=λlo hi q=>
  ⟨Nat.le_trans (Txt.slice_le z lo hi) hz,λt' k=>⟨.str _,H,I.tok _,⟨_,rfl⟩,q _ (Txt.slice_le z lo hi) rfl⟩⟩
 cases pl with
 |none=>
  cases pu with
  |none=>exact wpAny_getItem_str_slice (l:=none) (u:=none) (st:=none) ⟨o,ho,hc,hd⟩ rfl (post_val_or_str (fin none none q))
  |int j uj=>exact wpAny_getItem_str_slice (l:=none) (u:=some (j,uj)) (st:=none) ⟨o,ho,hc,hd⟩ rfl (post_val_or_str (fin none (some j) q))
 |int i ui=>
  cases pu with
  |none=>exact wpAny_getItem_str_slice (l:=some (i,ui)) (u:=none) (st:=none) ⟨o,ho,hc,hd⟩ rfl (post_val_or_str (fin (some i) none q))
  |int j uj=>exact wpAny_getItem_str_slice (l:=some (i,ui)) (u:=some (j,uj)) (st:=none) ⟨o,ho,hc,hd⟩ rfl (post_val_or_str (fin (some i) (some j) q))
end
section
variable{X:Cx}{e st:Expr}{te ts:TE}{pos p2:Pos}
theorem zfU{α β:Type}{f g:α->Option β}:∀{l:List α},(∀k∈l,f k=g k)->l.filterMap f=l.filterMap g
 |[],_=>rfl
 |a::l,h=>by rw[List.filterMap_cons,List.filterMap_cons,h a List.mem_cons_self,zfU λk hk=>h k (List.mem_cons_of_mem _ hk)]
theorem zhk(l:List Value):((List.range l.length).map λ(k:Nat)=>(((l.length:Int) - 1)+(-1)*(k:Int)).toNat).filterMap (λi=>l[i]?)=l.reverse:=by
 apply List.ext_getElem?;intro i;rw[List.filterMap_map];have e:((List.range l.length).filterMap ((λi=>l[i]?)∘λ(k:Nat)=>(((l.length:Int) - 1)+(-1)*(k:Int)).toNat))=(List.range l.length).filterMap λk=>l.reverse[k]?:=by
  refine zfU λk hk=>?_
  have hk':k<l.length:=List.mem_range.mp hk;show l[(((l.length:Int) - 1)+(-1)*(k:Int)).toNat]?=l.reverse[k]?;rw[List.getElem?_reverse hk']
  congr 1
  omega
 rw[e];have e2:∀r:List Value,(List.range r.length).filterMap (λk=>r[k]?)=r:=by
  intro r;induction r with
  |nil=>rfl
  |cons a r ih=>
   rw[List.length_cons,List.range_succ_eq_map,List.filterMap_cons];simp only[List.getElem?_cons_zero,List.filterMap_map]
   congr 1
 have e3:=e2 l.reverse;rw[List.length_reverse]at e3;rw[e3]
theorem zjb(its:List Value):slicePick its.toArray none none (some (-1))=its.reverse.toArray:=by
 unfold slicePick;have h1:sliceBounds none none (some (-1)) its.toArray.size=((its.length:Int) - 1,-1,-1):=by simp[sliceBounds]
 rw[h1];unfold sliceRange;simp only[show¬((-1:Int)>0) by decide,if_false];have hc:(if(its.length:Int) - 1> -1 then((its.length:Int) - 1 - -1 - -1 - 1)/(- -1)else 0).toNat=its.length:=by
  have e1:(- -1:Int)=1:=by decide
  rw[e1,Int.ediv_one]
  split<;>omega
 rw[hc]
 have:=zhk its;simp only[List.getElem?_toArray];rw[this]
def rRev(K:Fg):V->Hp->VK->Prop:=λx H Q=>∃a xs,x=.ref a/\SqL K H a xs/\∀p,H p=none->Q (.ref p) (upd H p (.lst xs.reverse))
def tRev(K:Fg)(te ts:TE):TE:=λσ H Q=>te σ H λx H1=>ts σ H1 λy H2=>y=.int (-1)/\rRev K x H2 Q
theorem zmB(he:PE X e te)(hs:PE X st ts):PE X (.Subscript e (.Slice none none (some st) p2) pos) (tRev X.K te ts):=by
 intro pins s σ H Q I h;refine Subscript_ (thn (he pins s σ H _ I h) λv s1 ⟨x,H1,I1,r1,q1⟩=>?_);refine wpAny_Slice ?_;rw[evalPart_none,evalPart_some];refine wpAny_pure (wpAny_pure (thn (hs pins s1 σ H1 _ I1 q1) λvs s3 ⟨y,H3,I3,r3,ey,q3⟩=>?_));subst ey;obtain⟨t,rfl⟩:=r3;have I4:Inv X pins σ H3 {s3 with heap:=s3.heap.push {cls:=.type "slice",data:=.fields #[.none,.none,.int (-1) t]}}:=I3.kept (t':=s3.toks) λb ob q=>Heap.get?_push_of_some _ q
 obtain⟨a,xs,rfl,hx,q⟩:=q3;cases r1
 obtain⟨its,r,ht,hz⟩:=I4.list hx;have hlen:=r.length;show wpAny (model X.prog X.w) X.A (subscriptTail e (.Slice none none (some st) p2) (.ref a) (.ref s3.heap.objs.size)) (EP X pins σ Q) X.xe {s3 with heap:=s3.heap.push {cls:=.type "slice",data:=.fields #[.none,.none,.int (-1) t]}};refine tail_any (ops:=[.ref a,.ref s3.heap.objs.size]) ht.isList.typeIs slot_list_getitem.lookup ?_ (by with_unfolding_all rfl);refine wpAny_getItem_list_slice ht.isList (Heap.IsSliceOf.new ..) .none .none (.int (-1) t) (by simp) ?_ (by rw[List.size_toArray]<;>omega);rw[zjb];exact⟨.ref _,_,I4.lnew (t':=s3.toks) r.reverse (by rw[List.length_reverse];exact hz),rfl,q _ I4.fresh⟩
end
end L2
namespace HT
section
open PySem.SeqAt
open PySem.AutoSeq1 (wpAny_loadPart')
open PySem.MeetsSeq PySem.MeetsSeq2 PySem.MeetsSeq3
end
variable{l:Addr}{i:Nat}{Q:Vs}
section
variable{prog:Program}{w:World}{A:Around}{E:Vs}{s:Shared}
theorem zbG{it:Addr}{items}{x:Value}(hit:s.heap.IsTupleIter it l i)(hl:s.heap.IsTuple l items)(hx:items[i]?=some x)(hQ:∀h',h'.IsTupleIter it l (i+1)->Heap.SameBut it s.heap h'->Q x {s with heap:=h'}):
  wpAny (model prog w) A (Builtin.SmallTypes.nextOf (.ref it)) Q E s:=by
 obtain⟨o,ho,hc,hd⟩:=id hit;obtain⟨ol,hol,_,nl,hdl⟩:=hl;unfold Builtin.SmallTypes.nextOf;refine wpAny_bind (wpAny_callSpecial?_slot (name:=Str.ofString "__next__") hit.typeIs PySem.F.slot_tuple_iterator_next
  (wpAny_call_entry PySem.F.slot_tuple_iterator_next hit.typeIs PySem.F.entry_tuple_iterator_next ?_ (PySem.F.args_tuple_iterator_next_1 _)))
 show wpAny _ _ (field (.ref it) 0>>=_) _ _ s;refine wpAny_bind (wpAny_field ho hd (x:=.ref l) rfl ?_);show wpAny _ _ (if(Value.ref l==Value.none)=true then _ else _) _ _ s;rw[if_neg (show¬((Value.ref l==Value.none)=true)from Bool.false_ne_true)];show wpAny _ _ (field (.ref it) 1>>=_) _ _ s;refine wpAny_bind (wpAny_field ho hd (x:=.int i 0) rfl ?_);show wpAny _ _ (seqItems? (.ref l)>>=_) _ _ s;refine wpAny_bind (wpAny_seqItems hol hdl ?_);simp only[Int.toNat_natCast,hx];refine wpAny_bind (wpAny_setField ho hd (by simp) (wpAny_pure ⟨x,rfl,wpAny_pure (hQ _ ?_ (Heap.SameBut.update ..))⟩));exact⟨_,Heap.get?_update_self _ ho (Obj.isFreed_of_fields (Obj.data_mapFields hd _)),(Obj.cls_mapFields ..).trans hc,by rw[Obj.data_mapFields hd];simp[rawInt]⟩
theorem zcc{it:Addr}{items}(hh:A.handled=none)(hit:s.heap.IsTupleIter it l i)(hl:s.heap.IsTuple l items)(hx:items[i]?=none)(hE:∀h' e,Heap.ExtBut it s.heap h'->(∃o,h'.get? e=some o/\o.cls=.type "StopIteration")->E (.ref e) {s with heap:=h'}):
  wpAny (model prog w) A (Builtin.SmallTypes.nextOf (.ref it)) Q E s:=by
 obtain⟨o,ho,hc,hd⟩:=id hit;obtain⟨ol,hol,_,nl,hdl⟩:=hl;unfold Builtin.SmallTypes.nextOf;refine wpAny_bind (wpAny_callSpecial?_slot (name:=Str.ofString "__next__") hit.typeIs PySem.F.slot_tuple_iterator_next
  (wpAny_call_entry PySem.F.slot_tuple_iterator_next hit.typeIs PySem.F.entry_tuple_iterator_next ?_ (PySem.F.args_tuple_iterator_next_1 _)))
 show wpAny _ _ (field (.ref it) 0>>=_) _ _ s;refine wpAny_bind (wpAny_field ho hd (x:=.ref l) rfl ?_);show wpAny _ _ (if(Value.ref l==Value.none)=true then _ else _) _ _ s;rw[if_neg (show¬((Value.ref l==Value.none)=true)from Bool.false_ne_true)];show wpAny _ _ (field (.ref it) 1>>=_) _ _ s;refine wpAny_bind (wpAny_field ho hd (x:=.int i 0) rfl ?_);show wpAny _ _ (seqItems? (.ref l)>>=_) _ _ s;refine wpAny_bind (wpAny_seqItems hol hdl ?_);simp only[Int.toNat_natCast,hx];refine wpAny_bind (wpAny_rule (wpAny_bind (wpAny_setField ho hd (by simp) ?_)));show wpAny _ _ (newExc (.type "StopIteration") []>>=_) _ _ _;refine wpAny_bind ?_;simp only[newExc,newTuple];refine wpAny_bind (wpAny_newObj_type ?_ (by size_fits));refine wpAny_bind (m:=firstArgMember _ _) (wpAny_of_eq (a:=Value.none) (by first|rfl|(simp only[firstArgMember];rfl)) ?_);refine wpAny_newObj_type ?_ (by size_fits);simp only[raiseNew];refine wpAny_bind (wpAny_handled ?_)
 first|rw[show A.in1.handled=none from hh]|rw[hh]
 refine wpAny_bind (wpAny_pure (wpAny_throw ?_));exact hE _ _ (((Heap.SameBut.update ..).extBut.push _).push _) ⟨_,Heap.get?_push_size _ rfl,rfl⟩
end
theorem drawsT{prog:Program}{w:World}{A:Around}(hh:A.handled=none)(it l:Addr)(hne:l≠it)(items:Array Value):
  Draws prog w A it [it,l] items.size (λi v=>items[i]?=some v) (λi h=>h.IsTupleIter it l i/\h.IsTuple l items)where
 live:=λ_ _ st=>let⟨o,ho,_⟩:=st.1;⟨o,ho⟩
 frame:=λ_ _ _ st hk=>⟨st.1.at λo e=>hk it (by simp) o e,let⟨o,ho,r⟩:=st.2;⟨o,hk l (by simp) o ho,r⟩⟩
 item:=λi s Q E hi st hQ=>by
  refine zbG st.1 st.2 (x:=items[i]) (by simp[hi]) λh' hit' hs'=>?_
  exact hQ _ h' s.toks (by simp[hi]) ⟨hit',let⟨o,ho,r⟩:=st.2;⟨o,hs'.extBut _ _ hne ho,r⟩⟩ hs'
 done:=λs Q E st hE=>zcc hh st.1 st.2 (by simp) hE
theorem zcY(l:Addr)(items:Array Value)(n:Nat)(dct:Option Addr)(sl:Array (Option Value)):
  Meets (Builtin.«enumerate.__new__» ⟨[.type "enumerate",.ref l],[]⟩) (λ_ R s=>s.heap.get? l=some {cls:=.type "tuple",dict:=dct,data:=.seq items n,slots:=sl}/\
   R (.ok (.ret (.ref (s.heap.push {cls:=.type "tuple_iterator",data:=.fields #[.ref l,.int 0 0]}).objs.size)))
    {s with heap:=(s.heap.push {cls:=.type "tuple_iterator",data:=.fields #[.ref l,.int 0 0]}).push {cls:=.type "enumerate",data:=.fields #[.none,.bool false,.ref s.heap.objs.size,rawInt 0,.none,.none]}}):=
 .of_wp λprog w A R s h=>by
  obtain⟨hp,g,d,tk,os⟩:=s;obtain⟨hl,h⟩:=h;have hsub:=sub_enumerate;have hL:Heap.IsTuple (Shared.heap ⟨hp,g,d,tk,os⟩) l items:=⟨_,hl,rfl,n,rfl⟩
  wp_walk using AutoSeq1.wpAny_loadPart' hl
  refine wpAny_stack_any λst=>wpAny_pure ?_
  split
  ·rename_i c _ _ _ _ _;cases(c==Value.type "enumerate")
   ·wp_walk using AutoSeq1.wpAny_loadPart' hl,wpAny_pyIter_tuple hL
    exact⟨_,rfl,h⟩
   ·wp_walk using AutoSeq1.wpAny_loadPart' hl,wpAny_pyIter_tuple hL
    exact⟨_,rfl,h⟩
  ·wp_walk using AutoSeq1.wpAny_loadPart' hl,wpAny_pyIter_tuple hL
   exact⟨_,rfl,h⟩
section
variable{prog:Program}{w:World}{A:Around}{E:Vs}{s:Shared}
theorem call_enumerate_tuple{items:Array Value}(hL:s.heap.IsTuple l items)(h:∀h',IsEnum h' (s.heap.objs.size+1) s.heap.objs.size 0 .none->h'.IsTupleIter s.heap.objs.size l 0->h'.objs.size=s.heap.objs.size+2->
   (∀b o,s.heap.get? b=some o->h'.get? b=some o)->Q (.ref (s.heap.objs.size+1)) {s with heap:=h'}):
  wpAny (model prog w) A (call (.type "enumerate") [.ref l]) Q E s:=by
 obtain⟨⟨c,dct,dt,sl⟩,hl,hc,n,hd⟩:=hL
 replace hc:c=.type "tuple":=hc
 replace hd:dt=.seq items n:=hd
 subst hc hd;refine callType_new PySem.F.called_enumerate (by decide) (PySem.F.typeCall_enumerate_1 _) (PySem.F.newCall_enumerate_1 _) (λobj=>PySem.F.args_object_init_2 obj _) PySem.F.entry_enumerate_new
  (zcY l items n dct sl) ⟨hl,?_⟩
 have hz:(s.heap.push {cls:=.type "tuple_iterator",data:=.fields #[.ref l,.int 0 0]}).objs.size=s.heap.objs.size+1:=Heap.size_push ..;show _/\_;rw[hz];have he:IsEnum ((s.heap.push {cls:=.type "tuple_iterator",data:=.fields #[.ref l,.int 0 0]}).push
   {cls:=.type "enumerate",data:=.fields #[.none,.bool false,.ref s.heap.objs.size,rawInt 0,.none,.none]}) (s.heap.objs.size+1) s.heap.objs.size 0 .none:=by
  have:=Heap.get?_push_size (s.heap.push {cls:=.type "tuple_iterator",data:=.fields #[.ref l,.int 0 0]})
   (o:={cls:=.type "enumerate",data:=.fields #[.none,.bool false,.ref s.heap.objs.size,rawInt 0,.none,.none]}) rfl
  rw[hz]at this;exact this
 refine⟨⟨_,he,rfl⟩,h _ he ⟨_,Heap.get?_push_of_some _ (Heap.get?_push_size _ rfl),rfl,rfl⟩ (by rw[Heap.size_push,hz]) λb o x=>Heap.get?_push_of_some _ (Heap.get?_push_of_some _ x)⟩
end
end HT
namespace L2
variable{elts:List Expr}{tpos:Pos}
section
variable{X:Cx}
def Ite(K:Fg)(a:Addr):It:=
 ⟨λi H=>∃xs x,SqT K H a xs/\xs[i]?=some x,λi H x H'=>∃p v,H p=none/\x=.ref p/\H'=upd H p (.tup [.int i,v])/\∀xs,SqT K H a xs->xs[i]?=some v,λi H=>∃xs,SqT K H a xs/\xs.length=i⟩
theorem zfX{X:Cx}{pins:AO}{σ:St}{H:Hp}{s:Shared}{h2:Heap}{i tk:Nat}{x:V}{x':Value}{e it:Addr}(I:Inv X pins σ H s)(fe:yF X pins H e)(fi:yF X pins H it)(ru:zJ x x')(hTn:h2.get? s.heap.objs.size=some {cls:=.type "tuple",data:=.seq #[.int i tk,x']})(kk:∀b o,b≠e->b≠it->s.heap.get? b=some o->h2.get? b=some o):Inv X pins σ (upd H s.heap.objs.size (.tup [.int i,x])) {s with heap:=h2,toks:=tk+1}:=by
 have fr:H s.heap.objs.size=none:=I.fresh;have nE:∀b u,H b=some u->b≠e:=λb u q z=>by rw[z,fe.1]at q;cases q
 have nI:∀b u,H b=some u->b≠it:=λb u q z=>by rw[z,fi.1]at q;cases q
 have hok0:HOk X.prog X.w H h2:=λb u q=>by
  refine(I.hok b u q).stay (λc v hc q'=>kk c v ?_ ?_ q') (λ_ z=>z) λ_ _ z=>z
  ·rcases hc with z|z
   ·rw[z];exact nE b u q
   ·exact nE c _ z
  ·rcases hc with z|z
   ·rw[z];exact nI b u q
   ·exact nI c _ z
 have new:qV X.prog X.w (upd H s.heap.objs.size (.tup [.int i,x])) h2 s.heap.objs.size (.tup [.int i,x]):=
  ⟨by show 2<=sizeLine;rw[sizeLine_eq];decide,[.int i tk,x'],.cons ⟨_,rfl⟩ (.cons ru .nil),⟨_,hTn,rfl,_,rfl⟩⟩
 have hok1:HOk X.prog X.w (upd H s.heap.objs.size (.tup [.int i,x])) h2:=λb u q=>by
  by_cases hb:b=s.heap.objs.size
  ·subst hb;rw[qK]at q;cases q;exact new
  ·rw[zT hb]at q;exact(hok0 b u q).stay (λ_ _ _ z=>z) (λc z=>by rw[zT (qS z fr)];exact z) λc xs z=>by rw[zT (qS z fr)];exact z
 refine I.step (g':=s.gens) (d':=s.drawn) (ch:=[e,it]) (λb hb=>?_) (λb o _ _ hcc q _=>kk b o (λz=>hcc (by simp[z])) (λz=>hcc (by simp[z])) q) (λb o _ _ hcc q _=>⟨o.slots,kk b o (λz=>hcc (by simp[z])) (λz=>hcc (by simp[z])) q⟩)
  (λb o _ q n=>by rw[zT (Nat.ne_of_lt (Heap.lt_size q))];exact n) (λb o hcc q=>⟨o,kk b o (λz=>hcc (by simp[z])) (λz=>hcc (by simp[z])) q⟩) (λb xs q=>by rw[zT (qS q fr)];exact q) (λb o xs q=>by rw[zT (qS q fr)];exact q)
  (λb ps q=>⟨#[],by rw[zT (qS q fr),q];simp⟩) (λm hm=>?_) hok1 I.bare
 ·rcases List.mem_cons.mp hb with rfl|hb
  ·exact⟨fe.2.2.2.1,fe.2.1,fe.2.2.2.2.1,fe.2.2.2.2.2⟩
  ·rw[List.mem_singleton.mp hb];exact⟨fi.2.2.2.1,fi.2.1,fi.2.2.2.2.1,fi.2.2.2.2.2⟩
 ·obtain⟨o,es,ep,ho',r⟩:=hm;exact⟨o,es,ep,kk _ o (Ne.symm fe.2.1) (Ne.symm fi.2.1) ho',r⟩
theorem zgn{P:Program}{w:World}{K:Fg}{k:Nat}(a e it:Addr)(hei:e≠it):wY P w K (.Tuple elts k tpos) (Ite K a) [e,it] e (λi h=>(∃old,IsEnum h e it i old)/\h.IsTupleIter it a i)where
 mem:=by simp
 obj:=λi h st b hb=>by
  obtain⟨⟨old,he⟩,o,e2,c,d⟩:=st;rcases List.mem_cons.mp hb with rfl|hb
  ·exact⟨_,he,λv z=>by cases(show Data.fields _=Data.cell v from z)⟩
  ·rw[List.mem_singleton.mp hb];exact⟨o,e2,λv z=>by rw[d]at z;cases z⟩
 keep:=λi h h' st k=>⟨let⟨old,he⟩:=st.1;⟨old,k e (by simp) _ he⟩,st.2.at λo e=>k it (by simp) o e⟩
 item:=by
  intro X hP hw hK hc i pins s σ H E I hf st hg;subst hP hw hK;obtain⟨xs,x,hq,hx⟩:=hg;obtain⟨its,rv,p,hz⟩:=I.tuple hq;obtain⟨u,hu,ru⟩:=rv.get hx;obtain⟨⟨old,he⟩,hit⟩:=st;have fe:=hf e (by simp);have fi:=hf it (by simp);have hai:a≠it:=by
   rintro rfl;obtain⟨o,e1,c1,_⟩:=id hit;obtain⟨o',e2,c2,_⟩:=id p;rw[e1]at e2;cases e2;rw[c1]at c2
   exact absurd c2 (by decide)
  have hae:a≠e:=by
   rintro rfl;obtain⟨o',e2,c2,_⟩:=id p;rw[he]at e2;cases e2
   exact absurd (show Value.type "enumerate"=Value.type "tuple"from c2) (by decide)
  have hilt:i<its.toArray.size:=by have:=(List.getElem?_eq_some_iff.mp hu).1;simpa using this
  refine wpAny_pyNext_enum_itemD (HT.drawsT (A:=X.A.in1) (I.ok.hd hc) it a hai its.toArray) he ⟨hit,p⟩ hilt hei (by simp[hei,Ne.symm hae]) λx' h' tk hP ho hs' hT hsz hk=>?_
  have ex:x'=u:=by
   have:its[i]?=some x':=by simpa using hP
   rw[hu]at this;exact(Option.some.inj this).symm
  subst ex;refine⟨_,rfl,?_⟩;refine wpAny_letOwnedTupleGo_enum ho λh2 he2 hs2=>?_
  have hTe:s.heap.objs.size≠e:=Nat.ne_of_gt (Heap.lt_size he);have hTn:h2.get? s.heap.objs.size=some {cls:=.type "tuple",data:=.seq #[.int i tk,x']}:=(hs2.2 _ hTe).trans hT;have kk:∀b o,b≠e->b≠it->s.heap.get? b=some o->h2.get? b=some o:=λb o h1 h3 e=>(hs2.2 b h1).trans (hk b o h1 h3 e)
  have hit2:h2.IsTupleIter it a (i+1):=hs'.1.at λo e=>(hs2.2 it (Ne.symm hei)).trans e
  have fr:H s.heap.objs.size=none:=I.fresh;have I1:=zfX (i:=i) I fe fi ru hTn kk;refine⟨.ref s.heap.objs.size,_,I1,rfl,⟨s.heap.objs.size,x,fr,rfl,rfl,λys hy=>by rw[I.tuple_inj hy hq];exact hx⟩,⟨⟨x',by simpa using he2⟩,hit2⟩,λb hb=>?_⟩;have hbl:b≠s.heap.objs.size:=by
   rcases List.mem_cons.mp hb with rfl|hb
   ·exact Ne.symm hTe
   ·rw[List.mem_singleton.mp hb];obtain⟨o,e1,_⟩:=hit;exact Nat.ne_of_lt (Heap.lt_size e1)
  rw[zT hbl];exact(hf b hb).1
 done:=by
  intro X hP hw hK hc i pins s σ H E I hf st hg;subst hP hw hK;obtain⟨xs,hq,hx⟩:=hg;obtain⟨its,rv,p,hz⟩:=I.tuple hq;obtain⟨⟨old,he⟩,hit⟩:=st;have fi:=hf it (by simp);have hai:a≠it:=by
   rintro rfl;obtain⟨o,e1,c1,_⟩:=id hit;obtain⟨o',e2,c2,_⟩:=id p;rw[e1]at e2;cases e2;rw[c1]at c2
   exact absurd c2 (by decide)
  have hn:its.toArray.size=i:=by rw[List.size_toArray,←rv.length];exact hx
  refine wpAny_pyNext_enum_endD (HT.drawsT (A:=X.A.in1) (I.ok.hd hc) it a hai its.toArray) he (by rw[hn];exact⟨hit,p⟩) λh' hx'=>⟨rfl,?_⟩
  obtain⟨f0,f1,f2,f3,f4,f5⟩:=fi;exact I.turned (t':=s.toks) (λb o hb e=>hx' b o hb e) f0 f1 f3 f4 f5
 self:=λA i s Q E st h=>by obtain⟨⟨old,he⟩,_⟩:=st;exact wpAny_pyIter_enum he h
noncomputable def znq(K:Fg)(ta:TA):TI:=λσ H R=>ta σ H λvs H1=>∃a xs,vs=[.ref a]/\SqT K H1 a xs/\R (Ite K a) H1
theorem zje{k:Nat}{p pos:Pos}{a:Expr}{ta:TA}(hg:Gl X "enumerate")(hm:X.mg "enumerate"=none)(ha:PA X [a] ta)(hs:starEach [a] X.env=[(false,eval a X.env)]:=by rfl):PI X (.Tuple elts k tpos) (.Call (.Name "enumerate" p) [a] [] pos) (znq X.K ta):=by
 intro pins s σ H R I h;refine Call_ (nC I hg hm boot_enumerate (PyProof.Rows.callWith_type1 (thn (ha pos pins s σ H _ I h) λus s1 ⟨vs,H1,I1,r1,q1⟩=>?_) hs rfl));obtain⟨a,xs,e,hq,q⟩:=q1;subst e;obtain⟨u,rfl,ru⟩:=wB r1;cases ru
 obtain⟨its,rv,p,hz⟩:=I1.tuple hq;refine HT.call_enumerate_tuple p λh' he hit hsz hk=>?_
 have I2:Inv X pins σ H1 {s1 with heap:=h'}:=I1.kept (t':=s1.toks) hk;refine wpAny_pyIter_enum he ?_;refine⟨s1.heap.objs.size+1,[s1.heap.objs.size+1,s1.heap.objs.size],_,_,H1,rfl,I2,zgn a (s1.heap.objs.size+1) s1.heap.objs.size (Nat.succ_ne_self _),⟨⟨_,he⟩,hit⟩,λb hb=>?_,q⟩;rcases List.mem_cons.mp hb with rfl|hb
 ·exact I1.fpOk (Nat.le_succ _) (I1.hok.fresh (Nat.le_succ _))
 ·rw[List.mem_singleton.mp hb];exact I1.fpOk (Nat.le_refl _) (I1.hok.fresh (Nat.le_refl _))
end
section
variable{X:Cx}(K:Fg)
end
end L2
namespace FX
def Fly(h:Heap)(e:Addr)(cls:Value)(d:Option Addr)(tb:Option Addr)(fl:Value):Prop:=
 ∃oe vs,h.get? e=some oe/\oe.cls=cls/\oe.dict=d/\oe.data=.fields vs/\1<vs.size/\match tb with
  |none=>vs[1]?=some .none
  |some T=>vs[1]?=some (.ref T)/\T≠e/\∃oT ts,h.get? T=some oT/\oT.data=.fields ts/\ts[3]?=some fl
section
variable{M:Model}{A:Around}{E:Vs}{s:Shared}
end
end FX
namespace FL
open L2
inductive KD where
 |int (i:Int)|str (x:Str)|tup (l:List Key)
 deriving DecidableEq
inductive D where
 |non|bl (b:Bool)|int (i:Int)|str (x:Str)|tup (l:List D)|lst (l:List D)|scr (ns:List Int)|dic (ks:List KD) (ds:List D)|set (l:List KD)|exc (c:Str) (d:D)
def kdK:Key->KD
 | .inl i=>.int i
 | .inr x=>.str x
def gkD:zH->KD
 | .inl k=>kdK k
 | .inr l=>.tup l
def kL(F:Hp):KD->V->Prop
 | .int i,v=>v=.int i
 | .str x,v=>v=.str x
 | .tup l,v=>∃b,v=.ref b/\F b=some (.tup (l.map kV))
def gQ(F H:Hp)(a:Addr)(ks:List KD)(vs:List V):Prop:=
 (∃kvs:List (Key×V),H a=some (.dK kvs)/\ks=kvs.map (λp=>kdK p.1)/\vs=kvs.map (·.2))\/
 (∃(kvs:List (zH×V)) (ys:List V),H a=some (.dT kvs ys)/\(ks=kvs.map (λp=>gkD p.1)/\∃l,KD.tup l∈ks)/\vs=kvs.map (·.2)/\Paired (kL F) ks ys)
def gP(F H:Hp)(a:Addr)(ks:List KD)(vs:List V):Prop:=∃o,
 (∃kvs:List (Key×V),H a=some (.frz o (.dK kvs))/\ks=kvs.map (λp=>kdK p.1)/\vs=kvs.map (·.2))\/
 (∃(kvs:List (zH×V)) (ys:List V),H a=some (.frz o (.dT kvs ys))/\(ks=kvs.map (λp=>gkD p.1)/\∃l,KD.tup l∈ks)/\vs=kvs.map (·.2)/\Paired (kL F) ks ys)
def DicB(F H:Hp)(a:Addr)(ks:List KD)(vs:List V):Prop:=gQ F H a ks vs\/gP F H a ks vs
def xC(F:Hp)(a:Addr)(l:List KD):Prop:=∃L,F a=some (.set L)/\l=L.map KD.str
def zjI(c:Str):Str:=if c="NoPlace"then "place"else if c="NoRule"then "rule"else if c="TwoCounts"then "sign"else if c="TooLong"then "term"else "rules"
def ExcO(a C da:Addr):HO:=.ext λh=>∃oe vs,h.get? a=some oe/\oe.cls=.ref C/\oe.dict=some da/\oe.data=.fields vs
mutual
def Dat(K:Fg)(F:Hp):D->V->Prop
 | .non,v=>v=.non
 | .bl b,v=>v=.bl b
 | .int i,v=>v=.int i
 | .str x,v=>v=.str x
 | .tup l,v=>∃a vs,v=.ref a/\F a=some (.tup vs)/\zC K F l vs
 | .lst l,v=>∃a vs,v=.ref a/\F a=some (.lst vs)/\zC K F l vs
 | .scr ns,v=>∃a,v=.ref a/\SqL K F a (ns.map V.int)
 | .dic ks ds,v=>∃a vs,v=.ref a/\gP F F a ks vs/\zC K F ds vs
 | .set l,v=>∃a,v=.ref a/\xC F a l
 | .exc c d,v=>∃a C da u,v=.ref a/\F a=some (ExcO a C da)/\PySem.W.nsIn K mainGlobals c=some (some (.ref C))/\F da=some (.xd [(zjI c,u)])/\Dat K F d u
def zC(K:Fg)(F:Hp):List D->List V->Prop
 |[],vs=>vs=[]
 |d::l,vs=>∃v r,vs=v::r/\Dat K F d v/\zC K F l r
end
section
variable{K:Fg}{F F' H H':Hp}
theorem kL.mono(s:zG F F'):∀{k:KD}{v:V},kL F k v->kL F' k v
 | .int _,_,h=>h
 | .str _,_,h=>h
 | .tup _,_,⟨b,e,h⟩=>⟨b,e,s _ _ h⟩
theorem KeysF.mono(s:zG F F'){ks:List KD}{ys:List V}(h:Paired (kL F) ks ys):Paired (kL F') ks ys:=Paired.mapP h λ_ _=>kL.mono s
theorem gQ.at{a:Addr}(s:zG F F')(e:∀o,H a=some o->H' a=some o){ks:List KD}{vs:List V}(h:gQ F H a ks vs):gQ F' H' a ks vs:=by
 rcases h with⟨kvs,h,r⟩|⟨kvs,ys,h,r1,r2,r3⟩
 ·exact .inl ⟨kvs,e _ h,r⟩
 ·exact .inr ⟨kvs,ys,e _ h,r1,r2,KeysF.mono s r3⟩
theorem gP.at{a:Addr}(s:zG F F')(e:∀o,H a=some o->H' a=some o){ks:List KD}{vs:List V}(h:gP F H a ks vs):gP F' H' a ks vs:=by
 obtain⟨o,⟨kvs,h,r⟩|⟨kvs,ys,h,r1,r2,r3⟩⟩:=h
 ·exact⟨o,.inl ⟨kvs,e _ h,r⟩⟩
 ·exact⟨o,.inr ⟨kvs,ys,e _ h,r1,r2,KeysF.mono s r3⟩⟩
theorem DicB.at{a:Addr}(s:zG F F')(e:∀o,H a=some o->H' a=some o){ks:List KD}{vs:List V}(h:DicB F H a ks vs):DicB F' H' a ks vs:=h.imp (gQ.at s e) (gP.at s e)
theorem xC.mono(s:zG F F'){a:Addr}{l:List KD}(h:xC F a l):xC F' a l:=by obtain⟨o,h,z⟩:=h;exact⟨o,s _ _ h,z⟩
theorem gQ.some{a:Addr}{ks:List KD}{vs:List V}(h:gQ F H a ks vs):∃o,H a=some o:=by
 rcases h with⟨kvs,h,r⟩|⟨kvs,ys,h,r⟩
 ·exact⟨_,h⟩
 ·exact⟨_,h⟩
theorem xC.some{a:Addr}{l:List KD}(h:xC F a l):∃o,F a=some o:=let⟨_,h,_⟩:=h;⟨_,h⟩
theorem xC.at{a:Addr}(e:F' a=F a){l:List KD}(h:xC F a l):xC F' a l:=by unfold xC at h ⊢;rw[e];exact h
mutual
theorem Dat.mono(t:zG F F'):∀{d:D}{v:V},Dat K F d v->Dat K F' d v
 | .non,_,h=>by simp only[Dat]at h ⊢;exact h
 | .bl _,_,h=>by simp only[Dat]at h ⊢;exact h
 | .int _,_,h=>by simp only[Dat]at h ⊢;exact h
 | .str _,_,h=>by simp only[Dat]at h ⊢;exact h
 | .tup l,_,h=>by simp only[Dat]at h ⊢;obtain⟨a,vs,e,h1,h2⟩:=h;exact⟨a,vs,e,t _ _ h1,zC.mono t h2⟩
 | .lst l,_,h=>by simp only[Dat]at h ⊢;obtain⟨a,vs,e,h1,h2⟩:=h;exact⟨a,vs,e,t _ _ h1,zC.mono t h2⟩
 | .scr l,_,h=>by simp only[Dat]at h ⊢;obtain⟨a,e,h1⟩:=h;exact⟨a,e,zG.seq t h1⟩
 | .dic _ l,_,h=>by simp only[Dat]at h ⊢;obtain⟨a,vs,e,h1,h2⟩:=h;exact⟨a,vs,e,h1.at t λo e=>t _ _ e,zC.mono t h2⟩
 | .set l,_,h=>by simp only[Dat]at h ⊢;obtain⟨a,e,h1⟩:=h;exact⟨a,e,h1.mono t⟩
 | .exc c d,_,h=>by simp only[Dat]at h ⊢;obtain⟨a,C,da,u,e,h1,h2,h3,h4⟩:=h;exact⟨a,C,da,u,e,t _ _ h1,h2,t _ _ h3,Dat.mono t h4⟩
theorem zC.mono(t:zG F F'):∀{l:List D}{vs:List V},zC K F l vs->zC K F' l vs
 |[],_,h=>by simp only[zC]at h ⊢;exact h
 |d::l,_,h=>by simp only[zC]at h ⊢;obtain⟨v,r,e,h1,h2⟩:=h;exact⟨v,r,e,Dat.mono t h1,zC.mono t h2⟩
end
theorem zC.nil:zC K F [] []:=by simp only[zC]
theorem zC.cons{d:D}{l:List D}{v:V}{vs:List V}(h:Dat K F d v)(r:zC K F l vs):zC K F (d::l) (v::vs):=by simp only[zC];exact⟨v,vs,rfl,h,r⟩
theorem zC.nil_inv{vs:List V}(h:zC K F [] vs):vs=[]:=by simp only[zC]at h;exact h
theorem zC.cons_inv{d:D}{l:List D}{vs:List V}(h:zC K F (d::l) vs):∃v r,vs=v::r/\Dat K F d v/\zC K F l r:=by simp only[zC]at h;exact h
theorem Dat.non_inv{v:V}(h:Dat K F .non v):v=.non:=by simp only[Dat]at h;exact h
theorem Dat.bl_inv{b:Bool}{v:V}(h:Dat K F (.bl b) v):v=.bl b:=by simp only[Dat]at h;exact h
theorem Dat.int_inv{i:Int}{v:V}(h:Dat K F (.int i) v):v=.int i:=by simp only[Dat]at h;exact h
theorem Dat.str_inv{x:Str}{v:V}(h:Dat K F (.str x) v):v=.str x:=by simp only[Dat]at h;exact h
theorem Dat.tup_inv{l:List D}{v:V}(h:Dat K F (.tup l) v):∃a vs,v=.ref a/\F a=some (.tup vs)/\zC K F l vs:=by simp only[Dat]at h;exact h
theorem Dat.lst_inv{l:List D}{v:V}(h:Dat K F (.lst l) v):∃a vs,v=.ref a/\F a=some (.lst vs)/\zC K F l vs:=by simp only[Dat]at h;exact h
theorem Dat.scr_inv{l:List Int}{v:V}(h:Dat K F (.scr l) v):∃a,v=.ref a/\SqL K F a (l.map V.int):=by simp only[Dat]at h;exact h
theorem Dat.dic_inv{ks:List KD}{l:List D}{v:V}(h:Dat K F (.dic ks l) v):∃a vs,v=.ref a/\gP F F a ks vs/\zC K F l vs:=by simp only[Dat]at h;exact h
theorem Dat.set_inv{l:List KD}{v:V}(h:Dat K F (.set l) v):∃a,v=.ref a/\xC F a l:=by simp only[Dat]at h;exact h
theorem Dat.exc_inv{c:Str}{d:D}{v:V}(h:Dat K F (.exc c d) v):∃a C da u,v=.ref a/\F a=some (ExcO a C da)/\PySem.W.nsIn K mainGlobals c=some (some (.ref C))/\F da=some (.xd [(zjI c,u)])/\Dat K F d u:=by simp only[Dat]at h;exact h
theorem Dat.non:Dat K F .non .non:=by simp only[Dat]
theorem Dat.bl(b:Bool):Dat K F (.bl b) (.bl b):=by simp only[Dat]
theorem Dat.int(i:Int):Dat K F (.int i) (.int i):=by simp only[Dat]
theorem Dat.str(x:Str):Dat K F (.str x) (.str x):=by simp only[Dat]
theorem Dat.tup{l:List D}{a:Addr}{vs:List V}(h:F a=some (.tup vs))(r:zC K F l vs):Dat K F (.tup l) (.ref a):=by simp only[Dat];exact⟨a,vs,rfl,h,r⟩
theorem Dat.lst{l:List D}{a:Addr}{vs:List V}(h:F a=some (.lst vs))(r:zC K F l vs):Dat K F (.lst l) (.ref a):=by simp only[Dat];exact⟨a,vs,rfl,h,r⟩
theorem Dat.scr{l:List Int}{a:Addr}(h:SqL K F a (l.map V.int)):Dat K F (.scr l) (.ref a):=by simp only[Dat];exact⟨a,rfl,h⟩
theorem Dat.dic{ks:List KD}{l:List D}{a:Addr}{vs:List V}(h:gP F F a ks vs)(r:zC K F l vs):Dat K F (.dic ks l) (.ref a):=by simp only[Dat];exact⟨a,vs,rfl,h,r⟩
theorem zC.length:∀{l:List D}{vs:List V},zC K F l vs->vs.length=l.length
 |[],_,h=>by rw[h.nil_inv];rfl
 |_::l,_,h=>by obtain⟨v,r,rfl,_,h2⟩:=h.cons_inv;simp[zC.length h2]
theorem zC.get:∀{l:List D}{vs:List V} {i:Nat}{d:D},zC K F l vs->l[i]?=some d->∃v,vs[i]?=some v/\Dat K F d v
 |[],_,_,_,_,e=>by simp at e
 |_::l,_,i,d,h,e=>by
  obtain⟨v,r,rfl,h1,h2⟩:=h.cons_inv;cases i with
  |zero=>simp at e;subst e;exact⟨v,rfl,h1⟩
  |succ i=>
   obtain⟨u,e1,h3⟩:=zC.get (i:=i) h2 (by simpa using e);exact⟨u,by simpa using e1,h3⟩
theorem zC.get'{l:List D}{vs:List V}{i:Nat}{v:V}(h:zC K F l vs)(e:vs[i]?=some v):∃d,l[i]?=some d/\Dat K F d v:=by
 have hl:=h.length;have hi:i<l.length:=by rw[←hl];exact(List.getElem?_eq_some_iff.mp e).1
 obtain⟨u,e1,h1⟩:=h.get (List.getElem?_eq_getElem hi);rw[e]at e1;cases e1
 exact⟨_,List.getElem?_eq_getElem hi,h1⟩
theorem zC.append:∀{l m:List D}{vs us:List V},zC K F l vs->zC K F m us->zC K F (l++m) (vs++us)
 |[],_,_,_,h,k=>by rw[h.nil_inv];exact k
 |_::l,_,_,_,h,k=>by obtain⟨v,r,rfl,h1,h2⟩:=h.cons_inv;exact zC.cons h1 (zC.append h2 k)
theorem zC.snoc{l:List D}{vs:List V}{d:D}{v:V}(h:zC K F l vs)(k:Dat K F d v):zC K F (l++[d]) (vs++[v]):=h.append (zC.cons k zC.nil)
theorem zC.reverse:∀{l:List D}{vs:List V},zC K F l vs->zC K F l.reverse vs.reverse
 |[],_,h=>by rw[h.nil_inv];exact zC.nil
 |_::l,_,h=>by obtain⟨v,r,rfl,h1,h2⟩:=h.cons_inv;rw[List.reverse_cons,List.reverse_cons];exact(zC.reverse h2).snoc h1
theorem zC.take:∀{l:List D}{vs:List V} (n:Nat),zC K F l vs->zC K F (l.take n) (vs.take n)
 |_,_,0,_=>by simp;exact zC.nil
 |[],_,n+1,h=>by rw[h.nil_inv];simp;exact zC.nil
 |_::l,_,n+1,h=>by obtain⟨v,r,rfl,h1,h2⟩:=h.cons_inv;rw[List.take_succ_cons,List.take_succ_cons];exact zC.cons h1 (zC.take n h2)
theorem zC.drop:∀{l:List D}{vs:List V} (n:Nat),zC K F l vs->zC K F (l.drop n) (vs.drop n)
 |_,_,0,h=>by simpa using h
 |[],_,n+1,h=>by rw[h.nil_inv];simp;exact zC.nil
 |_::l,_,n+1,h=>by obtain⟨v,r,rfl,h1,h2⟩:=h.cons_inv;rw[List.drop_succ_cons,List.drop_succ_cons];exact zC.drop n h2
theorem zC.eraseIdx:∀{l:List D}{vs:List V} (n:Nat),zC K F l vs->zC K F (l.eraseIdx n) (vs.eraseIdx n)
 |[],_,_,h=>by rw[h.nil_inv];simp;exact zC.nil
 |_::l,_,n,h=>by
  obtain⟨v,r,rfl,h1,h2⟩:=h.cons_inv;cases n with
  |zero=>exact h2
  |succ n=>exact zC.cons h1 (zC.eraseIdx n h2)
theorem zC.dropLast{l:List D}{vs:List V}(h:zC K F l vs):zC K F l.dropLast vs.dropLast:=by rw[List.dropLast_eq_take,List.dropLast_eq_take,h.length];exact h.take _
theorem zC.ints:∀{ns:List Int}{vs:List V},zC K F (ns.map D.int) vs->vs=ns.map V.int
 |[],_,h=>h.nil_inv
 |n::ns,_,h=>by obtain⟨v,r,rfl,h1,h2⟩:=h.cons_inv;rw[h1.int_inv,zC.ints h2];rfl
theorem zC.ofInts:∀(ns:List Int),zC K F (ns.map D.int) (ns.map V.int)
 |[]=>zC.nil
 |n::ns=>zC.cons (Dat.int n) (zC.ofInts ns)
def zO(K:Fg)(F H:Hp):D->V->Prop
 | .lst l,v=>∃a vs,v=.ref a/\H a=some (.lst vs)/\zC K F l vs
 | .dic ks ds,v=>∃a vs,v=.ref a/\DicB F H a ks vs/\zC K F ds vs
 | .set l,v=>∃a,v=.ref a/\xC H a l
 |d,v=>Dat K F d v
theorem Dat.b(s:zG F H){d:D}{v:V}(h:Dat K F d v):zO K F H d v:=by
 cases d with
 |lst l=>obtain⟨a,vs,e,h1,h2⟩:=h.lst_inv;exact⟨a,vs,e,s _ _ h1,h2⟩
 |dic ks l=>obtain⟨a,vs,e,h1,h2⟩:=h.dic_inv;exact⟨a,vs,e,.inr (h1.at (zG.refl _) λo e=>s _ _ e),h2⟩
 |set l=>obtain⟨a,e,h1⟩:=h.set_inv;exact⟨a,e,h1.mono s⟩
 |_=>exact h
theorem zO.mono(f:zG F F')(g:zG H H'){d:D}{v:V}(h:zO K F H d v):zO K F' H' d v:=by
 cases d with
 |lst l=>obtain⟨a,vs,e,h1,h2⟩:=h;exact⟨a,vs,e,g _ _ h1,h2.mono f⟩
 |dic ks l=>obtain⟨a,vs,e,h1,h2⟩:=h;exact⟨a,vs,e,h1.at f λo e=>g _ _ e,h2.mono f⟩
 |set l=>obtain⟨a,e,h1⟩:=h;exact⟨a,e,h1.mono g⟩
 |_=>exact Dat.mono f h
def Own(K:Fg)(F H:Hp):D->Addr->Prop
 | .lst l,a=>∃vs,H a=some (.lst vs)/\zC K F l vs
 | .dic ks ds,a=>∃vs,gQ F H a ks vs/\zC K F ds vs
 | .set l,a=>xC H a l
 |_,_=>False
theorem Own.mono(f:zG F F'){d:D}{a:Addr}(g:∀o,H a=some o->H' a=some o)(h:Own K F H d a):Own K F' H' d a:=by
 cases d with
 |lst l=>obtain⟨vs,h1,h2⟩:=h;exact⟨vs,g _ h1,h2.mono f⟩
 |dic ks l=>
  obtain⟨vs,h1,h2⟩:=h;exact⟨vs,h1.at f g,h2.mono f⟩
 |set l=>
  have h:xC H a l:=h;obtain⟨o,e⟩:=h.some;exact h.at (by rw[e];exact g _ e)
 |_=>exact h.elim
theorem Own.some{d:D}{a:Addr}(h:Own K F H d a):∃o,H a=some o:=by
 cases d with
 |lst l=>obtain⟨vs,h1,h2⟩:=h;exact⟨_,h1⟩
 |dic ks l=>obtain⟨vs,h1,h2⟩:=h;exact h1.some
 |set l=>exact xC.some (l:=l) h
 |_=>exact h.elim
theorem Own.b{d:D}{a:Addr}(h:Own K F H d a):zO K F H d (.ref a):=by
 cases d with
 |lst l=>obtain⟨vs,h1,h2⟩:=h;exact⟨a,vs,rfl,h1,h2⟩
 |dic ks l=>obtain⟨vs,h1,h2⟩:=h;exact⟨a,vs,rfl,.inl h1,h2⟩
 |set l=>exact⟨a,rfl,h⟩
 |_=>exact h.elim
def vS(F H:Hp)(a:Addr):Hp:=λb=>if b=a then H a else F b
theorem zaI{a:Addr}:vS F H a a=H a:=by unfold vS;rw[if_pos rfl]
theorem zbc{a b:Addr}(h:b≠a):vS F H a b=F b:=by unfold vS;rw[if_neg h]
theorem zaB{a:Addr}(h:F a=none):zG F (vS F H a):=λb o e=>by rw[zbc (qS e h)];exact e
theorem zbs{a:Addr}(s:zG F H):zG (vS F H a) H:=λb o e=>by
 by_cases hb:b=a
 ·subst hb;rw[zaI]at e;exact e
 ·rw[zbc hb]at e;exact s _ _ e
noncomputable def zln:Option HO->Bool
 |some (.dK _)=>true
 |some (.dT _ _)=>true
 |_=>false
def vU(H:Hp)(a:Addr)(H2:Hp):Prop:=(H2=H/\zln (H a)=false)\/∃o u,H a=some u/\zln (some u)=true/\H2=upd H a (.frz o u)
theorem vU.ne{H2:Hp}{a b:Addr}(f:vU H a H2)(h:b≠a):H2 b=H b:=by
 rcases f with⟨rfl,_⟩|⟨o,u,_,_,rfl⟩
 ·rfl
 ·exact zT h
theorem vU.same{H2:Hp}{a:Addr}(f:vU H a H2)(s:zG F H)(h:F a=none):zG F H2:=λb o e=>by rw[f.ne (qS e h)];exact s _ _ e
theorem Own.freeze{H2:Hp}{d:D}{a:Addr}(h:Own K F H d a)(hn:F a=none)(f:vU H a H2):Dat K (vS F H2 a) d (.ref a):=by
 have x:zG F (vS F H2 a):=zaB hn;cases d with
 |lst l=>
  obtain⟨vs,h1,h2⟩:=h;rcases f with⟨rfl,_⟩|⟨o,u,e,z,_⟩
  ·exact Dat.lst (by rw[zaI];exact h1) (h2.mono x)
  ·rw[h1]at e;cases e;cases z
 |dic ks l=>
  obtain⟨vs,h1,h2⟩:=h;refine Dat.dic ?_ (h2.mono x);rcases h1 with⟨kvs,h1,r⟩|⟨kvs,ys,h1,r1,r2,r3⟩
  ·rcases f with⟨_,z⟩|⟨o,u,e,z,rfl⟩
   ·rw[h1]at z;cases z
   ·rw[h1]at e;cases e
    exact⟨o,.inl ⟨kvs,by rw[zaI];exact qK,r⟩⟩
  ·rcases f with⟨_,z⟩|⟨o,u,e,z,rfl⟩
   ·rw[h1]at z;cases z
   ·rw[h1]at e;cases e
    exact⟨o,.inr ⟨kvs,ys,by rw[zaI];exact qK,r1,r2,KeysF.mono x r3⟩⟩
 |set l=>
  have h:xC H a l:=h;obtain⟨L,h1,e0⟩:=h;rcases f with⟨rfl,_⟩|⟨o,u,e,z,_⟩
  ·simp only[Dat];exact⟨a,rfl,L,by rw[zaI];exact h1,e0⟩
  ·rw[h1]at e;cases e;cases z
 |_=>exact h.elim
theorem zO.frz{H2:Hp}{a:Addr}{d:D}{v:V}(h:zO K F H d v)(x:zG F F')(f:vU H a H2)(hv:v≠.ref a):zO K F' H2 d v:=by
 cases d with
 |lst l=>obtain⟨b,vs,e,h1,h2⟩:=h;exact⟨b,vs,e,by rw[f.ne λz=>hv (by rw[e,z])];exact h1,h2.mono x⟩
 |dic ks l=>obtain⟨b,vs,e,h1,h2⟩:=h;exact⟨b,vs,e,h1.at x (λo q=>by rw[f.ne λz=>hv (by rw[e,z])];exact q),h2.mono x⟩
 |set l=>obtain⟨b,e,h1⟩:=h;exact⟨b,e,h1.at (f.ne λz=>hv (by rw[e,z]))⟩
 |_=>exact Dat.mono x h
theorem Own.fl{l:List D}{a:Addr}(h:Own K F H (.lst l) a):vU H a H:=by obtain⟨vs,h1,_⟩:=h;exact .inl ⟨rfl,by rw[h1];rfl⟩
end
inductive Sl where
 |dat (d:D)|ow (p:Bool) (d:D)|bor (d:D)
abbrev Sl.own(d:D):Sl:=.ow false d
abbrev Sl.inn(d:D):Sl:=.ow true d
def Sl.isDat:Sl->Bool
 | .dat _=>true
 |_=>false
abbrev St:=L2.St
abbrev En:=List (Option Sl)
abbrev EO(α:Type):=En->Option α
abbrev LO:=List D->Option D
def xH(ρ:En)(σ:St)(b:Addr):Prop:=∃(i:Nat) (p:Bool) (d:D),ρ[i]?=some (some (.ow p d))/\σ[i]?=some (some (.ref b))
structure Rel(K:Fg)(F H:Hp)(ρ:En)(σ:St):Prop where
 sub:zG F H
 dat:∀(i:Nat) (d:D),ρ[i]?=some (some (.dat d))->∃v,σ[i]?=some (some v)/\Dat K F d v
 bor:∀(i:Nat) (d:D),ρ[i]?=some (some (.bor d))->∃v,σ[i]?=some (some v)/\zO K F H d v
 own:∀(i:Nat) (p:Bool) (d:D),ρ[i]?=some (some (.ow p d))->∃a,σ[i]?=some (some (.ref a))/\F a=none/\Own K F H d a
 inj:∀(i j:Nat) (p:Bool) (d:D) (s:Sl) (a:Addr),i≠j->ρ[i]?=some (some (.ow p d))->σ[i]?=some (some (.ref a))->ρ[j]?=some (some s)->s.isDat=false->σ[j]?≠some (some (.ref a))
 len:ρ.length=σ.length
structure zE(F H F' H':Hp):Prop where
 ff:zG F F'
 hh:zG H H'
 fh:zG F' H'
 nw:∀b o,H b=some o->F b=none->F' b=none
section
variable{K:Fg}{F F' F2 H H' H2:Hp}{ρ ρ' ρ2:En}{σ σ' σ2:St}
theorem zE.refl(s:zG F H):zE F H F H:=⟨zG.refl _,zG.refl _,s,λ_ _ _ n=>n⟩
theorem zE.trans(a:zE F H F' H')(b:zE F' H' F2 H2):zE F H F2 H2:=
 ⟨a.ff.trans b.ff,a.hh.trans b.hh,b.fh,λc o e n=>b.nw c o (a.hh _ _ e) (a.nw c o e n)⟩
theorem vM{p:Addr}(h:H p=none)(o:HO):zG H (upd H p o):=λb u q=>by rw[zT (qS q h)];exact q
theorem zE.frozen{p:Addr}{o:HO}(s:zG F H)(h:H p=none):zE F H (upd F p o) (upd H p o):=by
 refine⟨vM (s.free h) o,vM h o,λb u e=>?_,λb u e n=>?_⟩
 ·by_cases hb:b=p
  ·subst hb;rw[qK]at e ⊢;exact e
  ·rw[zT hb]at e ⊢;exact s _ _ e
 ·have hb:b≠p:=qS e h;rw[zT hb];exact n
theorem zE.fresh{p:Addr}{o:HO}(s:zG F H)(h:H p=none):zE F H F (upd H p o):=
 ⟨zG.refl _,vM h o,s.trans (vM h o),λb u e n=>n⟩
theorem zE.freeze{a:Addr}{H3:Hp}(g:zE F H F' H')(h:H a=none)(hn:F' a=none)(f:vU H' a H3):zE F H (vS F' H3 a) H3:=by
 refine⟨g.ff.trans (zaB hn),λb o e=>?_,zbs (f.same g.fh hn),λb o e n=>?_⟩
 ·rw[f.ne (qS e h)];exact g.hh _ _ e
 ·have hb:b≠a:=qS e h;rw[zbc hb];exact g.nw b o e n
theorem Rel.grow(r:Rel K F H ρ σ)(g:zE F H F' H'):Rel K F' H' ρ σ where
 sub:=g.fh
 dat:=λi d e=>let⟨v,h1,h2⟩:=r.dat i d e;⟨v,h1,h2.mono g.ff⟩
 bor:=λi d e=>let⟨v,h1,h2⟩:=r.bor i d e;⟨v,h1,h2.mono g.ff g.hh⟩
 own:=λi p d e=>by obtain⟨a,h1,h2,h3⟩:=r.own i p d e;obtain⟨o,ho⟩:=h3.some;exact⟨a,h1,g.nw a o ho h2,h3.mono g.ff λo e=>g.hh _ _ e⟩
 inj:=r.inj
 len:=r.len
structure qI(ρ:En)(σ:St)(F H:Hp)(ρ':En)(σ':St)(F' H':Hp):Prop where
 ff:zG F F'
 rest:∀b o,H b=some o->F b=none->¬xH ρ σ b->H' b=some o/\F' b=none
 own:∀b,xH ρ' σ' b->H b=none\/xH ρ σ b
 pin:∀(i:Nat) (d':D),ρ'[i]?=some (some (.ow true d'))->∃d,ρ[i]?=some (some (.ow true d))/\σ'[i]?=σ[i]?
 fh:zG F' H'
theorem zE.step(g:zE F H F' H'):qI ρ σ F H ρ σ F' H':=⟨g.ff,λb o e n _=>⟨g.hh _ _ e,g.nw b o e n⟩,λ_ h=>.inr h,λ_ d e=>⟨d,e,rfl⟩,g.fh⟩
theorem qI.back(a:qI ρ σ F H ρ' σ' F' H')(s:zG F H){b:Addr}(h:H' b=none\/xH ρ' σ' b):H b=none\/xH ρ σ b:=by
 rcases h with h|h
 ·cases e:H b with
  |none=>exact .inl rfl
  |some o=>
   cases f:F b with
   |some u=>have:=a.fh _ _ (a.ff _ _ f);rw[h]at this;cases this
   |none=>
    by_cases q:xH ρ σ b
    ·exact .inr q
    ·have:=(a.rest b o e f q).1;rw[h]at this;cases this
 ·exact a.own b h
theorem qI.trans(a:qI ρ σ F H ρ' σ' F' H')(b:qI ρ' σ' F' H' ρ2 σ2 F2 H2)(s:zG F H):qI ρ σ F H ρ2 σ2 F2 H2:=by
 refine⟨a.ff.trans b.ff,λc o e n q=>?_,λc h=>a.back s (b.own c h),λi d e=>?_,b.fh⟩
 rotate_left
 ·obtain⟨d1,e1,e2⟩:=b.pin i d e;obtain⟨d2,e3,e4⟩:=a.pin i d1 e1;exact⟨d2,e3,e2.trans e4⟩
 obtain⟨h1,h2⟩:=a.rest c o e n q;refine b.rest c o h1 h2 λz=>?_
 rcases a.own c z with y|y
 ·rw[e]at y;cases y
 ·exact q y
end
inductive Md where
 |fz|ow|br
def Res(K:Fg)(md:Md)(H F' H':Hp)(d:D)(v:V):Prop:=match md with
 | .fz=>Dat K F' d v
 | .ow=>∃a,v=.ref a/\H a=none/\F' a=none/\Own K F' H' d a
 | .br=>zO K F' H' d v
noncomputable def rdE(K:Fg)(md:Md)(ρ:En)(d:D):TE:=λσ H Q=>∃F,Rel K F H ρ σ/\∀v F' H',zE F H F' H'->Res K md H F' H' d v->Q v H'
structure FP(K:Fg)(md:Md)(X:Cx)(e:Expr)(f:EO D):Prop where
 h:∀ρ d,f ρ=some d->PE X e (rdE K md ρ d)
theorem PE.imp{X:Cx}{e:Expr}{t t':TE}(h:PE X e t)(w:∀σ H Q,t' σ H Q->t σ H Q):PE X e t':=λpins s σ H Q I ht=>h pins s σ H Q I (w σ H Q ht)
theorem PT.imp{X:Cx}{e:Expr}{t t':TT}(h:PT X e t)(w:∀σ H Q,t' σ H Q->t σ H Q):PT X e t':=λpins s σ H Q I ht=>h pins s σ H Q I (w σ H Q ht)
theorem PW.imp{X:Cx}{e:Expr}{t t':TT}(h:PW X e t)(w:∀σ H Q,t' σ H Q->t σ H Q):PW X e t':=λwh pins s σ H Q I ht=>h wh pins s σ H Q I (w σ H Q ht)
theorem PA.imp{X:Cx}{e:List Expr}{t t':TA}(h:PA X e t)(w:∀σ H Q,t' σ H Q->t σ H Q):PA X e t':=λpos pins s σ H Q I ht=>h pos pins s σ H Q I (w σ H Q ht)
theorem PS.imp{X:Cx}{e:Stmt}{t t':TS}(h:PS X e t)(w:∀D σ H,t' D σ H->t D σ H):PS X e t':=λpins s σ H D I ht=>h pins s σ H D I (w D σ H ht)
theorem PSs.imp{X:Cx}{e:List Stmt}{t t':TS}(h:PSs X e t)(w:∀D σ H,t' D σ H->t D σ H):PSs X e t':=λpins s σ H D I ht=>h pins s σ H D I (w D σ H ht)
section
variable{K:Fg}{X:Cx}{e:Expr}{f:EO D}
theorem Res.fz_of_ow{H F' H' H3:Hp}{d:D}{v:V}{F:Hp}{a:Addr}(g:zE F H F' H')(h:Res K .ow H F' H' d v)(e:v=.ref a)(f:vU H' a H3):∃F2,zE F H F2 H3/\Dat K F2 d v:=by
 subst e;obtain⟨b,e,h1,h2,h3⟩:=h;cases e
 exact⟨_,g.freeze h1 h2 f,h3.freeze h2 f⟩
theorem Res.ow_ref{H F' H':Hp}{d:D}{v:V}(h:Res K .ow H F' H' d v):∃a,v=.ref a:=let⟨a,e,_⟩:=h;⟨a,e⟩
theorem Inv.frzTo{pins:AO}{σ:St}{H:Hp}{s:Shared}(I:Inv X pins σ H s)(a:Addr):∃H2,vU H a H2/\Inv X pins σ H2 s:=by
 cases h:zln (H a)with
 |false=>exact⟨H,.inl ⟨rfl,h⟩,I⟩
 |true=>
  cases e:H a with
  |none=>rw[e]at h;cases h
  |some u=>
   rw[e]at h;have ok:=I.hok a u e;have mu:Mut (H a):=by rw[e];cases u<;>first|exact True.intro|cases h
   obtain⟨o,ho⟩:∃o,s.heap.get? a=some o:=by
    cases u<;>first
     |cases h;done
     |(obtain⟨_,_,_,_,o,_,_,q,_⟩:=ok;exact⟨o,q⟩)
   refine⟨_,.inr ⟨o,u,e,h,rfl⟩,?_⟩
   have:=I.write (o:=.frz o u) (t':=s.toks) (h':=s.heap) mu (.inl rfl) (λb u _ q=>q) ⟨o,ho⟩ ⟨ho,ok.stay (λb u _ q=>q) (λb q=>?_) λb xs q=>?_⟩
   ·exact this
   ·rw[zT λz=>by subst z;rw[e]at q;cases q;cases h];exact q
   ·rw[zT λz=>by subst z;rw[e]at q;cases q;cases h];exact q
theorem zkf{t:TE}(h:PE X e t):PE X e (λσ H Q=>t σ H λv H'=>∃a,v=.ref a/\∀H2,vU H' a H2->Q v H2):=λpins s σ H Q I ht=>
 thn (h pins s σ H _ I ht) λv s1 ⟨x,H1,I1,r1,a,ea,q⟩=>by obtain⟨H2,f,I2⟩:=Inv.frzTo I1 a;exact⟨x,H2,I2,r1,q H2 f⟩
theorem FP.fz(h:FP K .ow X e f):FP K .fz X e f:=FP.mk λρ d hf=>PE.imp (zkf (h.h ρ d hf)) λσ H Q ⟨F,r,q⟩=>⟨F,r,λv F' H' g hr=>by obtain⟨a,ea⟩:=hr.ow_ref;refine⟨a,ea,λH2 fz=>?_⟩;obtain⟨F2,g2,h2⟩:=Res.fz_of_ow g hr ea fz;exact q v F2 H2 g2 h2⟩
theorem FP.br(h:FP K .fz X e f):FP K .br X e f:=FP.mk λρ d hf=>PE.imp (h.h ρ d hf) λσ H Q ⟨F,r,q⟩=>⟨F,r,λv F' H' g hr=>q v F' H' g (Dat.b g.fh hr)⟩
theorem FP.ob(h:FP K .ow X e f):FP K .br X e f:=h.fz.br
end
noncomputable def gv(i:Nat)(ρ:En):Option D:=match ρ[i]? with
 |some (some (.dat d))=>some d
 |_=>none
noncomputable def gb(i:Nat)(ρ:En):Option D:=match ρ[i]? with
 |some (some (.dat d))=>some d
 |some (some (.ow _ d))=>some d
 |some (some (.bor d))=>some d
 |_=>none
theorem zlq{i:Nat}{ρ:En}{d:D}(h:gv i ρ=some d):ρ[i]?=some (some (.dat d)):=by unfold gv at h;split at h<;>first|(cases h;assumption)|cases h
theorem zlr{K:Fg}{F H:Hp}{i:Nat}{ρ:En}{σ:St}{d:D}(r:Rel K F H ρ σ)(h:gb i ρ=some d):∃v,σ[i]?=some (some v)/\zO K F H d v:=by
 unfold gb at h;split at h
 ·rename_i e;cases h
  obtain⟨v,h1,h2⟩:=r.dat i _ e;exact⟨v,h1,h2.b r.sub⟩
 ·rename_i e;cases h
  obtain⟨a,h1,h2,h3⟩:=r.own i _ _ e;exact⟨_,h1,h3.b⟩
 ·rename_i e;cases h
  exact r.bor i _ e
 ·cases h
noncomputable def cst(d:D):EO D:=λ_=>some d
section
variable{K:Fg}{X:Cx}
theorem fv(i:Nat){x:Str}{pos:Pos}(hN:X.N[i]?=some x:=by rfl)(hv:Vis X.env.scope x:=by first|exact Or.inl rfl|exact Or.inr (Or.inl rfl)|exact Or.inr (Or.inr rfl))(hd:(x==("__debug__":Str))=false:=by decide)(hcd:(x==("__classdict__":Str))=false:=by decide):FP K .fz X (.Name x pos) (gv i):=FP.mk λρ d hf=>
 PE.imp (wE hN hv hd hcd) λσ H Q ⟨F,r,q⟩=>by obtain⟨v,h1,h2⟩:=r.dat i d (zlq hf);exact⟨v,h1,q v F H (zE.refl r.sub) h2⟩
theorem fb(i:Nat){x:Str}{pos:Pos}(hN:X.N[i]?=some x:=by rfl)(hv:Vis X.env.scope x:=by first|exact Or.inl rfl|exact Or.inr (Or.inl rfl)|exact Or.inr (Or.inr rfl))(hd:(x==("__debug__":Str))=false:=by decide)(hcd:(x==("__classdict__":Str))=false:=by decide):FP K .br X (.Name x pos) (gb i):=FP.mk λρ d hf=>
 PE.imp (wE hN hv hd hcd) λσ H Q ⟨F,r,q⟩=>by obtain⟨v,h1,h2⟩:=zlr r hf;exact⟨v,h1,q v F H (zE.refl r.sub) h2⟩
theorem kK{i j pos}:FP K .fz X (.Constant (.int i) j pos) (cst (.int i)):=FP.mk λρ d hf=>PE.imp zmG λσ H Q ⟨F,r,q⟩=>by cases hf;exact q (.int i) F H (zE.refl r.sub) (Dat.int (K:=K) (F:=F) i)
theorem fbl{i j pos}:FP K .fz X (.Constant (.bool i) j pos) (cst (.bl i)):=FP.mk λρ d hf=>PE.imp zok λσ H Q ⟨F,r,q⟩=>by cases hf;exact q (.bl i) F H (zE.refl r.sub) (Dat.bl (K:=K) (F:=F) i)
theorem xZ{i j pos}:FP K .fz X (.Constant (.str i) j pos) (cst (.str i)):=FP.mk λρ d hf=>PE.imp zmA λσ H Q ⟨F,r,q⟩=>by cases hf;exact q (.str i) F H (zE.refl r.sub) (Dat.str (K:=K) (F:=F) i)
end
def Op2(K:Fg)(X:Cx)(f:Value->Value->Sem Value)(md:Md)(p:D->D->Option D):Prop:=
 ∃r:R2,OpR X f r/\∀x y d F H v u Q,p x y=some d->zG F H->zO K F H x v->zO K F H y u->(∀w F' H',zE F H F' H'->Res K md H F' H' d w->Q w H')->r v u H Q
def Ix2(K:Fg)(X:Cx)(md:Md)(p:D->D->Option D):Prop:=
 ∃r:R2,IxR X r/\∀x y d F H v u Q,p x y=some d->zG F H->zO K F H x v->zO K F H y u->(∀w F' H',zE F H F' H'->Res K md H F' H' d w->Q w H')->r v u H Q
noncomputable def c2(p:D->D->Option D)(fa fb:EO D):EO D:=λρ=>(fa ρ).bind λx=>(fb ρ).bind λy=>p x y
noncomputable def c1(p:D->Option D)(fa:EO D):EO D:=λρ=>(fa ρ).bind p
theorem nM{p:D->D->Option D}{fa fb:EO D}{ρ:En}{d:D}(h:c2 p fa fb ρ=some d):∃x y,fa ρ=some x/\fb ρ=some y/\p x y=some d:=by
 unfold c2 at h;cases e1:fa ρ with
 |none=>rw[e1]at h;cases h
 |some x=>
  cases e2:fb ρ with
  |none=>rw[e1,e2]at h;cases h
  |some y=>rw[e1,e2]at h;exact⟨x,y,rfl,rfl,h⟩
theorem zfp{p:D->Option D}{fa:EO D}{ρ:En}{d:D}(h:c1 p fa ρ=some d):∃x,fa ρ=some x/\p x=some d:=by
 unfold c1 at h;cases e1:fa ρ with
 |none=>rw[e1]at h;cases h
 |some x=>rw[e1]at h;exact⟨x,rfl,h⟩
section
variable{K:Fg}{X:Cx}{a b:Expr}{fa fb:EO D}{pos:Pos}{md:Md}{p:D->D->Option D}
theorem two{ta tb:TE}{ρ:En}{x y d:D}{r:R2}(ha:PE X a (rdE K .br ρ x))(hb:PE X b (rdE K .br ρ y))(hr:∀F H v u Q,zG F H->zO K F H x v->zO K F H y u->(∀w F' H',zE F H F' H'->Res K md H F' H' d w->Q w H')->r v u H Q)(σ:St)(H:Hp)(Q:VK)(h:rdE K md ρ d σ H Q):tOp r (rdE K .br ρ x) (rdE K .br ρ y) σ H Q:=by
 obtain⟨F,rl,q⟩:=h;refine⟨F,rl,λv F1 H1 g1 r1=>⟨F1,rl.grow g1,λu F2 H2 g2 r2=>?_⟩⟩;refine hr F2 H2 v u Q g2.fh (zO.mono g2.ff g2.hh r1) r2 λw F3 H3 g3 r3=>?_
 have g:=g1.trans (g2.trans g3);refine q w F3 H3 g ?_;cases md with
 |fz=>exact r3
 |br=>exact r3
 |ow=>
  obtain⟨a,e,h1,h2,h3⟩:=r3;exact⟨a,e,(g1.hh.trans g2.hh).free h1,h2,h3⟩
theorem fop{op:Operator}(o:Op2 K X (binaryOp op) md p)(ha:FP K .br X a fa)(hb:FP K .br X b fb):FP K md X (.BinOp a op b pos) (c2 p fa fb):=FP.mk λρ d hf=>by obtain⟨x,y,e1,e2,e3⟩:=nM hf;obtain⟨r,ho,hr⟩:=o;exact PE.imp (zoi ho (ha.h ρ x e1) (hb.h ρ y e2)) (two (ta:=λ_ _ _=>True) (tb:=λ_ _ _=>True) (ha.h ρ x e1) (hb.h ρ y e2) λF H v u Q s h1 h2 k=>hr x y d F H v u Q e3 s h1 h2 k)
theorem fcmp{op:CmpOp}(o:Op2 K X (compareOp op) md p)(ha:FP K .br X a fa)(hb:FP K .br X b fb)(hm:behindInMarks op b=false):FP K md X (.Compare a [op] [b] pos) (c2 p fa fb):=FP.mk λρ d hf=>by obtain⟨x,y,e1,e2,e3⟩:=nM hf;obtain⟨r,ho,hr⟩:=o;exact PE.imp (zkV ho (ha.h ρ x e1) (hb.h ρ y e2) hm) (two (ta:=λ_ _ _=>True) (tb:=λ_ _ _=>True) (ha.h ρ x e1) (hb.h ρ y e2) λF H v u Q s h1 h2 k=>hr x y d F H v u Q e3 s h1 h2 k)
theorem fix(o:Ix2 K X md p)(ha:FP K .br X a fa)(hb:FP K .br X b fb)(hs:zdY b):FP K md X (.Subscript a b pos) (c2 p fa fb):=FP.mk λρ d hf=>by obtain⟨x,y,e1,e2,e3⟩:=nM hf;obtain⟨r,ho,hr⟩:=o;exact PE.imp (zoj ho (ha.h ρ x e1) (hb.h ρ y e2) hs) (two (ta:=λ_ _ _=>True) (tb:=λ_ _ _=>True) (ha.h ρ x e1) (hb.h ρ y e2) λF H v u Q s h1 h2 k=>hr x y d F H v u Q e3 s h1 h2 k)
end
mutual
noncomputable def eqD:D->D->Option Bool
 | .non,y=>match y with
  | .non=>some true
  | .bl _=>some false
  | .int _=>some false
  | .str _=>some false
  | .tup _=>some false
  | .lst _=>some false
  |_=>none
 | .bl a,y=>match y with
  | .bl b=>some (a==b)
  | .non=>some false
  |_=>none
 | .int a,y=>match y with
  | .int b=>some (a==b)
  | .non=>some false
  | .str _=>some false
  | .tup _=>some false
  |_=>none
 | .str a,y=>match y with
  | .str b=>some (a==b)
  | .non=>some false
  | .int _=>some false
  | .tup _=>some false
  | .lst _=>some false
  |_=>none
 | .tup l,y=>match y with
  | .tup m=>eqL l m
  | .non=>some false
  | .int _=>some false
  | .str _=>some false
  | .lst _=>some false
  |_=>none
 | .lst l,y=>match y with
  | .lst m=>eqL l m
  | .non=>some false
  | .str _=>some false
  | .tup _=>some false
  |_=>none
 | .scr _,_=>none
 | .dic _ _,_=>none
 | .set _,_=>none
 | .exc _ _,_=>none
noncomputable def eqL:List D->List D->Option Bool
 |[],[]=>some true
 |a::l,b::m=>(eqD a b).bind λx=>(eqL l m).map λy=>x&&y
 |[],_::_=>some false
 |_::_,[]=>some false
end
mutual
def dep:D->Nat
 | .tup l=>qY l+1
 | .lst l=>qY l+1
 |_=>1
def qY:List D->Nat
 |[]=>0
 |a::l=>max (dep a) (qY l)
end
theorem zbN:∀{l:List D}{d:D},d∈l->dep d<=qY l
 |_::_,_,h=>by
  rcases List.mem_cons.mp h with rfl|h
  ·rw[qY];exact Nat.le_max_left _ _
  ·rw[qY];exact Nat.le_trans (zbN h) (Nat.le_max_right _ _)
def eAt(l m:List D)(j:Nat):Bool:=match l[j]?,m[j]? with
 |some a,some b=>(eqD a b).getD false
 |_,_=>false
theorem zbt:∀{l m:List D}{b:Bool},eqL l m=some b->
  (∀(j:Nat) (x y:D),l[j]?=some x->m[j]?=some y->eqD x y=some (eAt l m j))/\b=((List.range (min l.length m.length)).all (eAt l m)&&l.length==m.length)
 |[],[],b,h=>by simp[eqL]at h;subst h;simp
 |[],_::_,b,h=>by simp[eqL]at h;subst h;simp
 |_::_,[],b,h=>by simp[eqL]at h;subst h;simp
 |a::l,c::m,b,h=>by
  simp only[eqL]at h;cases e1:eqD a c with
  |none=>rw[e1]at h;cases h
  |some x=>
   cases e2:eqL l m with
   |none=>rw[e1,e2]at h;cases h
   |some y=>
    rw[e1,e2]at h;have hb:(x&&y)=b:=by simpa using h
    obtain⟨h1,h2⟩:=zbt e2;have s0:eAt (a::l) (c::m) 0=x:=by simp[eAt,e1]
    have sS:∀j,eAt (a::l) (c::m) (j+1)=eAt l m j:=λj=>by simp[eAt]
    refine⟨λj p q hp hq=>?_,?_⟩
    ·cases j with
     |zero=>simp at hp hq;subst hp hq;rw[s0];exact e1
     |succ j=>rw[sS];exact h1 j p q (by simpa using hp) (by simpa using hq)
    ·rw[←hb,h2];simp only[List.length_cons];rw[Nat.succ_min_succ,List.range_succ_eq_map,List.all_cons,List.all_map,s0];have e3:(List.range (min l.length m.length)).all (eAt (a::l) (c::m)∘Nat.succ)=(List.range (min l.length m.length)).all (eAt l m):=by congr 1
     rw[e3,Bool.and_assoc]
     congr 2
     simp
section
variable{K:Fg}{F:Hp}
def comp:D->Bool
 | .tup _=>true
 | .lst _=>true
 | .scr _=>true
 | .dic _ _=>true
 | .set _=>true
 |_=>false
theorem Dat.ref{d:D}{v:V}(h:Dat K F d v)(hc:comp d=true):∃a,v=.ref a:=by
 cases d with
 |tup l=>obtain⟨a,_,e,_⟩:=h.tup_inv;exact⟨a,e⟩
 |lst l=>obtain⟨a,_,e,_⟩:=h.lst_inv;exact⟨a,e⟩
 |scr l=>obtain⟨a,e,_⟩:=h.scr_inv;exact⟨a,e⟩
 |dic k l=>obtain⟨a,_,e,_⟩:=h.dic_inv;exact⟨a,e⟩
 |set l=>obtain⟨a,e,_⟩:=h.set_inv;exact⟨a,e⟩
 |_=>cases hc
theorem znz:∀(n:Nat) (d1 d2 dx:D) (b1 b2:Bool) (v:V),dep d1<=n->Dat K F d1 v->Dat K F d2 v->eqD d1 dx=some b1->eqD d2 dx=some b2->b1=b2:=by
 intro n;induction n with
 |zero=>intro d1 d2 dx b1 b2 v h;cases d1<;>simp[dep]at h
 |succ n ih=>
  have L:∀(l1 l2 lx:List D) (b1 b2:Bool) (vs:List V),qY l1<=n->zC K F l1 vs->zC K F l2 vs->eqL l1 lx=some b1->eqL l2 lx=some b2->b1=b2:=by
   intro l1;induction l1 with
   |nil=>
    intro l2 lx b1 b2 vs _ h1 h2 e1 e2;rw[h1.nil_inv]at h2;cases l2 with
    |nil=>rw[e1]at e2;exact Option.some.inj e2
    |cons _ _=>obtain⟨_,_,e,_⟩:=h2.cons_inv;cases e
   |cons a l1 ih2=>
    intro l2 lx b1 b2 vs hn h1 h2 e1 e2;obtain⟨v,r,rfl,q1,q2⟩:=h1.cons_inv;cases l2 with
    |nil=>have:=h2.nil_inv;cases this
    |cons c l2=>
     obtain⟨v',r',ee,p1,p2⟩:=h2.cons_inv;cases ee
     cases lx with
     |nil=>simp[eqL]at e1 e2;rw[e1,e2]
     |cons x lx=>
      simp only[eqL]at e1 e2;simp only[qY]at hn;cases f1:eqD a x with
      |none=>rw[f1]at e1;cases e1
      |some y1=>
       cases f2:eqD c x with
       |none=>rw[f2]at e2;cases e2
       |some y2=>
        cases g1:eqL l1 lx with
        |none=>rw[f1,g1]at e1;cases e1
        |some z1=>
         cases g2:eqL l2 lx with
         |none=>rw[f2,g2]at e2;cases e2
         |some z2=>
          rw[f1,g1]at e1;rw[f2,g2]at e2;have k1:=ih a c x y1 y2 v (by omega) q1 p1 f1 f2;have k2:=ih2 l2 lx z1 z2 r (by omega) q2 p2 g1 g2;subst k1 k2;rw[e1]at e2;exact Option.some.inj e2
  intro d1 d2 dx b1 b2 v hn h1 h2 e1 e2;cases d1 with
  |non=>rw[h1.non_inv]at h2;cases d2<;>first|(obtain⟨_,_,_,_,z,_⟩:=Dat.exc_inv h2;cases z;done)|(obtain⟨_,z⟩:=Dat.ref h2 rfl;cases z;done)|(simp only[Dat]at h2;cases h2;done)|(simp only[Dat]at h2;(first|cases h2|skip);rw[e1]at e2;exact Option.some.inj e2)|(rw[e1]at e2;exact Option.some.inj e2)
  |bl b=>rw[h1.bl_inv]at h2;cases d2<;>first|(obtain⟨_,_,_,_,z,_⟩:=Dat.exc_inv h2;cases z;done)|(obtain⟨_,z⟩:=Dat.ref h2 rfl;cases z;done)|(simp only[Dat]at h2;cases h2;done)|(simp only[Dat]at h2;(first|cases h2|skip);rw[e1]at e2;exact Option.some.inj e2)|(rw[e1]at e2;exact Option.some.inj e2)
  |int b=>rw[h1.int_inv]at h2;cases d2<;>first|(obtain⟨_,_,_,_,z,_⟩:=Dat.exc_inv h2;cases z;done)|(obtain⟨_,z⟩:=Dat.ref h2 rfl;cases z;done)|(simp only[Dat]at h2;cases h2;done)|(simp only[Dat]at h2;(first|cases h2|skip);rw[e1]at e2;exact Option.some.inj e2)|(rw[e1]at e2;exact Option.some.inj e2)
  |str b=>rw[h1.str_inv]at h2;cases d2<;>first|(obtain⟨_,_,_,_,z,_⟩:=Dat.exc_inv h2;cases z;done)|(obtain⟨_,z⟩:=Dat.ref h2 rfl;cases z;done)|(simp only[Dat]at h2;cases h2;done)|(simp only[Dat]at h2;(first|cases h2|skip);rw[e1]at e2;exact Option.some.inj e2)|(rw[e1]at e2;exact Option.some.inj e2)
  |tup l1=>
   obtain⟨a,vs,rfl,f1,q1⟩:=h1.tup_inv;cases d2 with
   |tup l2=>
    obtain⟨a',vs',z,f2,q2⟩:=h2.tup_inv;cases z
    rw[f1]at f2;cases f2
    simp only[dep]at hn;cases dx<;>first|(simp only[eqD]at e1 e2;exact L l1 l2 _ b1 b2 vs (by omega) q1 q2 e1 e2)|(simp only[eqD]at e1 e2;cases e1;cases e2;rfl)|(simp only[eqD]at e1;cases e1)
   |lst l2=>obtain⟨a',vs',z,f2,q2⟩:=h2.lst_inv;cases z;rw[f1]at f2;cases f2
   |scr l2=>simp[eqD]at e2
   |dic k l2=>simp[eqD]at e2
   |set l2=>simp[eqD]at e2
   |exc c d=>simp[eqD]at e2
   |_=>simp only[Dat]at h2;cases h2
  |lst l1=>
   obtain⟨a,vs,rfl,f1,q1⟩:=h1.lst_inv;cases d2 with
   |lst l2=>
    obtain⟨a',vs',z,f2,q2⟩:=h2.lst_inv;cases z
    rw[f1]at f2;cases f2
    simp only[dep]at hn;cases dx<;>first|(simp only[eqD]at e1 e2;exact L l1 l2 _ b1 b2 vs (by omega) q1 q2 e1 e2)|(simp only[eqD]at e1 e2;cases e1;cases e2;rfl)|(simp only[eqD]at e1;cases e1)
   |tup l2=>obtain⟨a',vs',z,f2,q2⟩:=h2.tup_inv;cases z;rw[f1]at f2;cases f2
   |scr l2=>simp[eqD]at e2
   |dic k l2=>simp[eqD]at e2
   |set l2=>simp[eqD]at e2
   |exc c d=>simp[eqD]at e2
   |_=>simp only[Dat]at h2;cases h2
  |scr l=>simp[eqD]at e1
  |dic k l=>simp[eqD]at e1
  |set l=>simp[eqD]at e1
  |exc c d=>simp[eqD]at e1
end
section
variable{X:Cx}{pins:AO}{σ:St}{H F:Hp}{s:Shared}{K:Fg}
theorem zef{d1 d2:D}{b:Bool}{v:V}(h1:Dat K F d1 v)(h2:Dat K F d2 v)(e:eqD d1 d2=some b):b=true:=by
 have key:∀(n:Nat) (d1 d2:D) (b:Bool) (v:V),dep d1<=n->Dat K F d1 v->Dat K F d2 v->eqD d1 d2=some b->b=true:=by
  intro n;induction n with
  |zero=>intro d1 d2 b v h;cases d1<;>simp[dep]at h
  |succ n ih=>
   have L:∀(l1 l2:List D) (b:Bool) (vs:List V),qY l1<=n->zC K F l1 vs->zC K F l2 vs->eqL l1 l2=some b->b=true:=by
    intro l1;induction l1 with
    |nil=>
     intro l2 b vs _ h1 h2 e;rw[h1.nil_inv]at h2;cases l2 with
     |nil=>simp[eqL]at e;exact e
     |cons _ _=>obtain⟨_,_,z,_⟩:=h2.cons_inv;cases z
    |cons a l1 ih2=>
     intro l2 b vs hn h1 h2 e;obtain⟨v,r,rfl,q1,q2⟩:=h1.cons_inv;cases l2 with
     |nil=>have:=h2.nil_inv;cases this
     |cons c l2=>
      obtain⟨v',r',ee,p1,p2⟩:=h2.cons_inv;cases ee
      simp only[eqL]at e;simp only[qY]at hn;cases f1:eqD a c with
      |none=>rw[f1]at e;cases e
      |some y1=>
       cases g1:eqL l1 l2 with
       |none=>rw[f1,g1]at e;cases e
       |some z1=>
        rw[f1,g1]at e;have e':(y1&&z1)=b:=by simpa using e
        rw[←e',ih a c y1 v (by omega) q1 p1 f1,ih2 l2 z1 r (by omega) q2 p2 g1];rfl
   intro d1 d2 b v hn h1 h2 e;cases d1 with
   |tup l1=>
    obtain⟨a,vs,rfl,f1,q1⟩:=h1.tup_inv;cases d2 with
    |tup l2=>
     obtain⟨a',vs',z,f2,q2⟩:=h2.tup_inv;cases z
     rw[f1]at f2;cases f2
     simp only[dep]at hn;simp only[eqD]at e;exact L l1 l2 b vs (by omega) q1 q2 e
    |lst l2=>obtain⟨a',vs',z,f2,q2⟩:=h2.lst_inv;cases z;rw[f1]at f2;cases f2
    |non=>have:=h2.non_inv;cases this
    |int _=>have:=h2.int_inv;cases this
    |str _=>have:=h2.str_inv;cases this
    |_=>simp[eqD]at e
   |lst l1=>
    obtain⟨a,vs,rfl,f1,q1⟩:=h1.lst_inv;cases d2 with
    |lst l2=>
     obtain⟨a',vs',z,f2,q2⟩:=h2.lst_inv;cases z
     rw[f1]at f2;cases f2
     simp only[dep]at hn;simp only[eqD]at e;exact L l1 l2 b vs (by omega) q1 q2 e
    |tup l2=>obtain⟨a',vs',z,f2,q2⟩:=h2.tup_inv;cases z;rw[f1]at f2;cases f2
    |non=>have:=h2.non_inv;cases this
    |int _=>have:=h2.int_inv;cases this
    |str _=>have:=h2.str_inv;cases this
    |_=>simp[eqD]at e
   |non=>
    have z:=h1.non_inv;subst z;cases d2<;>first|(obtain⟨_,_,_,_,z,_⟩:=Dat.exc_inv h2;cases z;done)|(simp[eqD]at e;exact e)|(obtain⟨_,z⟩:=Dat.ref h2 rfl;cases z;done)|(simp only[Dat]at h2;cases h2;done)
   |bl x=>
    have z:=h1.bl_inv;subst z;cases d2 with
    |bl y=>have z:=h2.bl_inv;cases z;simp[eqD]at e;exact e
    |non=>have z:=h2.non_inv;cases z
    |_=>simp[eqD]at e
   |int x=>
    have z:=h1.int_inv;subst z;cases d2 with
    |int y=>have z:=h2.int_inv;cases z;simp[eqD]at e;exact e
    |non=>have z:=h2.non_inv;cases z
    |str _=>have z:=h2.str_inv;cases z
    |tup _=>obtain⟨_,z⟩:=Dat.ref h2 rfl;cases z
    |_=>simp[eqD]at e
   |str x=>
    have z:=h1.str_inv;subst z;cases d2 with
    |str y=>have z:=h2.str_inv;cases z;simp[eqD]at e;exact e
    |non=>have z:=h2.non_inv;cases z
    |int _=>have z:=h2.int_inv;cases z
    |tup _=>obtain⟨_,z⟩:=Dat.ref h2 rfl;cases z
    |lst _=>obtain⟨_,z⟩:=Dat.ref h2 rfl;cases z
    |_=>simp[eqD]at e
   |_=>simp[eqD]at e
 exact key _ d1 d2 b v (Nat.le_refl _) h1 h2 e
theorem Inv.tupAt(I:Inv X pins σ H s){a:Addr}{vs:List V}(h:H a=some (.tup vs)):∃its:List Value,zK vs its/\s.heap.IsTuple a its.toArray:=by obtain⟨its,r,p,_⟩:=I.tuple (SqT.of h);exact⟨its,r,p⟩
theorem Inv.lstAt(I:Inv X pins σ H s){a:Addr}{vs:List V}(h:H a=some (.lst vs)):∃its:List Value,zK vs its/\s.heap.IsList a its.toArray:=by obtain⟨its,r,p,_⟩:=I.list (SqL.of h);exact⟨its,r,p.isList⟩
theorem gG{l:List D}{vs:List V}{its:List Value}(h:zC K F l vs)(r:zK vs its){j:Nat}(hj:j<its.toArray.size):∃d v,l[j]?=some d/\vs[j]?=some v/\Dat K F d v/\zJ v its.toArray[j]:=by
 have hl:=r.length;have hj':j<vs.length:=by rw[hl];simpa using hj
 obtain⟨u,hu,ru⟩:=r.get (List.getElem?_eq_getElem hj');obtain⟨d,hd,hD⟩:=h.get' (List.getElem?_eq_getElem hj');refine⟨d,vs[j],hd,List.getElem?_eq_getElem hj',hD,?_⟩;have e:its.toArray[j]=u:=by have:its[j]?=some u:=hu;rw[List.getElem?_eq_getElem (by simpa using hj)]at this;simpa using Option.some.inj this
 rw[e];exact ru
theorem zcI(A:Around):A.in1.units<=A.units+1:=by have:=(qR.in1 (k:=0) (A:=A));exact Nat.le_refl _
theorem zie(I:Inv X pins σ H s)(sub:zG F H):∀(n:Nat) (d1 d2:D) (b:Bool) (v1 v2:V) (u1 u2:Value) (A:Around),dep d1<=n->eqD d1 d2=some b->Dat K F d1 v1->Dat K F d2 v2->zJ v1 u1->zJ v2 u2->A.units+n<cLine->SeqAt.EqAt A s u1 u2 b:=by
 intro n;induction n with
 |zero=>intro d1 d2 b v1 v2 u1 u2 A h;cases d1<;>simp[dep]at h
 |succ n ih=>
  intro d1 d2 b v1 v2 u1 u2 A hn e h1 h2 r1 r2 hu;have hu0:A.units<cLine:=by omega
  have hin:A.in1.units+n<cLine:=by have:=zcI A;omega
  cases d1 with
  |non=>
   rw[h1.non_inv]at r1;cases r1
   cases d2 with
   |non=>simp[eqD]at e;subst e;rw[h2.non_inv]at r2;cases r2;exact SeqAt.EqAt.same _
   |bl x=>simp[eqD]at e;subst e;rw[h2.bl_inv]at r2;cases r2;exact SeqAt.EqAt.none_bool x
   |int x=>simp[eqD]at e;subst e;rw[h2.int_inv]at r2;obtain⟨t,rfl⟩:=r2;exact SeqAt.EqAt.none_int x t
   |str x=>simp[eqD]at e;subst e;rw[h2.str_inv]at r2;obtain⟨t,rfl⟩:=r2;exact SeqAt.EqAt.none_str x t
   |tup l=>simp[eqD]at e;subst e;obtain⟨a,vs,rfl,f,_⟩:=h2.tup_inv;cases r2;obtain⟨its,_,p⟩:=Inv.tupAt I (sub _ _ f);exact SeqAt.EqAt.none_tuple p hu0
   |lst l=>simp[eqD]at e;subst e;obtain⟨a,vs,rfl,f,_⟩:=h2.lst_inv;cases r2;obtain⟨its,_,p⟩:=Inv.lstAt I (sub _ _ f);exact SeqAt.EqAt.none_list p hu0
   |_=>simp[eqD]at e
  |bl y=>
   rw[h1.bl_inv]at r1;cases r1
   cases d2 with
   |non=>simp[eqD]at e;subst e;rw[h2.non_inv]at r2;cases r2;exact SeqAt.EqAt.bool_none y
   |bl x=>simp only[eqD,Option.some.injEq]at e;subst e;rw[h2.bl_inv]at r2;cases r2;exact SeqAt.EqAt.bool_bool y x
   |_=>simp[eqD]at e
  |int y=>
   rw[h1.int_inv]at r1;obtain⟨t',rfl⟩:=r1;cases d2 with
   |non=>simp[eqD]at e;subst e;rw[h2.non_inv]at r2;cases r2;exact SeqAt.EqAt.int_none y t'
   |int x=>simp only[eqD,Option.some.injEq]at e;subst e;rw[h2.int_inv]at r2;obtain⟨t,rfl⟩:=r2;exact SeqAt.EqAt.int_int y t' x t
   |str x=>simp[eqD]at e;subst e;rw[h2.str_inv]at r2;obtain⟨t,rfl⟩:=r2;exact SeqAt.EqAt.int_str y t' x t
   |tup l=>simp[eqD]at e;subst e;obtain⟨a,vs,rfl,f,_⟩:=h2.tup_inv;cases r2;obtain⟨its,_,p⟩:=Inv.tupAt I (sub _ _ f);exact SeqAt.EqAt.int_tuple y t' p hu0
   |_=>simp[eqD]at e
  |str y=>
   rw[h1.str_inv]at r1;obtain⟨t',rfl⟩:=r1;cases d2 with
   |non=>simp[eqD]at e;subst e;rw[h2.non_inv]at r2;cases r2;exact SeqAt.EqAt.str_none y t'
   |int x=>simp[eqD]at e;subst e;rw[h2.int_inv]at r2;obtain⟨t,rfl⟩:=r2;exact SeqAt.EqAt.str_int y t' x t
   |str x=>simp only[eqD,Option.some.injEq]at e;subst e;rw[h2.str_inv]at r2;obtain⟨t,rfl⟩:=r2;exact SeqAt.EqAt.str_str y t' x t
   |tup l=>simp[eqD]at e;subst e;obtain⟨a,vs,rfl,f,_⟩:=h2.tup_inv;cases r2;obtain⟨its,_,p⟩:=Inv.tupAt I (sub _ _ f);exact SeqAt.EqAt.str_tuple y t' p hu0
   |lst l=>simp[eqD]at e;subst e;obtain⟨a,vs,rfl,f,_⟩:=h2.lst_inv;cases r2;obtain⟨its,_,p⟩:=Inv.lstAt I (sub _ _ f);exact SeqAt.EqAt.str_list y t' p hu0
   |_=>simp[eqD]at e
  |tup l1=>
   obtain⟨a,vs,rfl,f1,q1⟩:=id h1.tup_inv;cases r1
   obtain⟨its,rv,p⟩:=Inv.tupAt I (sub _ _ f1);cases d2 with
   |non=>simp[eqD]at e;subst e;rw[h2.non_inv]at r2;cases r2;exact SeqAt.EqAt.tuple_none p hu0
   |int x=>simp[eqD]at e;subst e;rw[h2.int_inv]at r2;obtain⟨t,rfl⟩:=r2;exact SeqAt.EqAt.tuple_int x t p hu0
   |str x=>simp[eqD]at e;subst e;rw[h2.str_inv]at r2;obtain⟨t,rfl⟩:=r2;exact SeqAt.EqAt.tuple_str x t p hu0
   |tup l2=>
    obtain⟨a2,vs2,rfl,f2,q2⟩:=id h2.tup_inv;cases r2
    by_cases ha:a=a2
    ·subst ha;rw[zef h1 h2 e];exact SeqAt.EqAt.same _
    obtain⟨its2,rv2,p2⟩:=Inv.tupAt I (sub _ _ f2);simp only[eqD]at e;obtain⟨hp,hb⟩:=zbt e;simp only[dep]at hn;have he:∀(j:Nat) (h1:j<its.toArray.size) (h2:j<its2.toArray.size),SeqAt.EqAt A.in1 s its.toArray[j] its2.toArray[j] (eAt l1 l2 j):=λj k1 k2=>by
     obtain⟨x,v,hx,_,dx,rx⟩:=gG q1 rv k1;obtain⟨y,w,hy,_,dy,ry⟩:=gG q2 rv2 k2
     have:=zbN (List.mem_of_getElem? hx);exact ih x y _ v w _ _ A.in1 (by omega) (hp j x y hx hy) dx dy rx ry hin
    have z:=SeqAt.RcAt.tuples p p2 hu0 he;have e1:its.toArray.size=l1.length:=by rw[List.size_toArray,←rv.length,q1.length]
    have e2:its2.toArray.size=l2.length:=by rw[List.size_toArray,←rv2.length,q2.length]
    rw[e1,e2]at z;rw[hb];exact SeqAt.EqAt.of_refs ha z
   |lst l2=>simp[eqD]at e;subst e;obtain⟨a2,vs2,rfl,f2,_⟩:=h2.lst_inv;cases r2;obtain⟨its2,_,p2⟩:=Inv.lstAt I (sub _ _ f2);exact SeqAt.EqAt.tuple_list p p2 hu0
   |_=>simp[eqD]at e
  |lst l1=>
   obtain⟨a,vs,rfl,f1,q1⟩:=id h1.lst_inv;cases r1
   obtain⟨its,rv,p⟩:=Inv.lstAt I (sub _ _ f1);cases d2 with
   |non=>simp[eqD]at e;subst e;rw[h2.non_inv]at r2;cases r2;exact SeqAt.EqAt.list_none p hu0
   |str x=>simp[eqD]at e;subst e;rw[h2.str_inv]at r2;obtain⟨t,rfl⟩:=r2;exact SeqAt.EqAt.list_str x t p hu0
   |tup l2=>simp[eqD]at e;subst e;obtain⟨a2,vs2,rfl,f2,_⟩:=h2.tup_inv;cases r2;obtain⟨its2,_,p2⟩:=Inv.tupAt I (sub _ _ f2);exact SeqAt.EqAt.list_tuple p p2 hu0
   |lst l2=>
    obtain⟨a2,vs2,rfl,f2,q2⟩:=id h2.lst_inv;cases r2
    by_cases ha:a=a2
    ·subst ha;rw[zef h1 h2 e];exact SeqAt.EqAt.same _
    obtain⟨its2,rv2,p2⟩:=Inv.lstAt I (sub _ _ f2);simp only[eqD]at e;obtain⟨hp,hb⟩:=zbt e;simp only[dep]at hn;have he:∀(j:Nat) (h1:j<its.toArray.size) (h2:j<its2.toArray.size),SeqAt.EqAt A.in1 s its.toArray[j] its2.toArray[j] (eAt l1 l2 j):=λj k1 k2=>by
     obtain⟨x,v,hx,_,dx,rx⟩:=gG q1 rv k1;obtain⟨y,w,hy,_,dy,ry⟩:=gG q2 rv2 k2
     have:=zbN (List.mem_of_getElem? hx);exact ih x y _ v w _ _ A.in1 (by omega) (hp j x y hx hy) dx dy rx ry hin
    have e1:its.toArray.size=l1.length:=by rw[List.size_toArray,←rv.length,q1.length]
    have e2:its2.toArray.size=l2.length:=by rw[List.size_toArray,←rv2.length,q2.length]
    by_cases hsz:l1.length=l2.length
    ·have z:=SeqAt.RcAt.lists p p2 (by rw[e1,e2,hsz]) hu0 he;rw[e1]at z;rw[hb,hsz,Nat.min_self,beq_self_eq_true,Bool.and_true,←hsz];exact SeqAt.EqAt.of_refs ha z
    ·have z:=SeqAt.RcAt.lists_lengths p p2 (by rw[e1,e2];simpa using hsz) hu0;have hb0:b=false:=by
      rw[hb]
      have:(l1.length==l2.length)=false:=by simpa using hsz
      rw[this,Bool.and_false]
     rw[hb0];exact SeqAt.EqAt.of_refs ha z
   |_=>simp[eqD]at e
  |_=>simp[eqD]at e
end
abbrev lim:Nat:=1000000
theorem wU{n:Nat}(h:n<=lim):n<=sizeLine:=by rw[sizeLine_eq];unfold lim at h;omega
theorem zdl{n:Nat}(h:n<=lim):n<sizeLine:=by rw[sizeLine_eq];unfold lim at h;omega
section
variable{K:Fg}{F H F' H':Hp}{v:V}
theorem zO.non_inv(h:zO K F H .non v):v=.non:=Dat.non_inv (K:=K) (F:=F) h
theorem zO.bl_inv{i:Bool}(h:zO K F H (.bl i) v):v=.bl i:=Dat.bl_inv (K:=K) (F:=F) h
theorem zO.int_inv{i:Int}(h:zO K F H (.int i) v):v=.int i:=Dat.int_inv (K:=K) (F:=F) h
theorem zO.str_inv{i:Str}(h:zO K F H (.str i) v):v=.str i:=Dat.str_inv (K:=K) (F:=F) h
theorem zO.tup_inv{l:List D}(h:zO K F H (.tup l) v):∃a vs,v=.ref a/\F a=some (.tup vs)/\zC K F l vs:=Dat.tup_inv (K:=K) (F:=F) h
theorem zO.scr_inv{l:List Int}(h:zO K F H (.scr l) v):∃a,v=.ref a/\SqL K F a (l.map V.int):=Dat.scr_inv (K:=K) (F:=F) h
theorem zO.lst_inv{l:List D}(h:zO K F H (.lst l) v):∃a vs,v=.ref a/\H a=some (.lst vs)/\zC K F l vs:=h
theorem zO.dic_inv{ks:List KD}{l:List D}(h:zO K F H (.dic ks l) v):∃a vs,v=.ref a/\DicB F H a ks vs/\zC K F l vs:=h
theorem zO.exc_inv{c:Str}{d:D}(h:zO K F H (.exc c d) v):∃a C da u,v=.ref a/\F a=some (ExcO a C da)/\PySem.W.nsIn K mainGlobals c=some (some (.ref C))/\F da=some (.xd [(zjI c,u)])/\Dat K F d u:=Dat.exc_inv (K:=K) (F:=F) (c:=c) (d:=d) (v:=v) h
theorem Res.bl(b:Bool):Res K .fz H F' H' (.bl b) (.bl b):=Dat.bl (K:=K) (F:=F') b
theorem Res.int(b:Int):Res K .fz H F' H' (.int b) (.int b):=Dat.int (K:=K) (F:=F') b
theorem Res.str(b:Str):Res K .fz H F' H' (.str b) (.str b):=Dat.str (K:=K) (F:=F') b
end
noncomputable def jA:D->D->Option D
 | .int a,.int b=>some (.int (a+b))
 | .str a,.str b=>if a.length+b.length<=lim then some (.str (a++b))else none
 | .tup a,.tup b=>if a.length+b.length<=lim then some (.tup (a++b))else none
 | .lst a,.lst b=>if a.length+b.length<=lim then some (.lst (a++b))else none
 |_,_=>none
noncomputable def vD:D->D->Option D
 | .lst a,.lst b=>if a.length+b.length<=lim then some (.lst (a++b))else none
 |_,_=>none
noncomputable def kN:D->D->Option D
 | .int a,.int b=>some (.int (a - b))
 |_,_=>none
def zeS(a b:Int):Prop:=((-(2^64)<a/\a<2^64)\/(-(2^64)<b/\b<2^64))\/(Builtin.Int.intBits a<=2^20/\Builtin.Int.intBits b<=2^20)
def zgu(b:Int):Prop:=0<b/\b<1073741824
def zeT(b:Int):Prop:=0<b
def zmR(a b:Int):Prop:=0<=b/\b<=1000000/\a.natAbs<2^64
theorem yZ{a b:Int}(h1:-18446744073709551616<b)(h2:b<18446744073709551616):zeS a b:=.inl (.inr ⟨h1,h2⟩)
theorem xS{a b:Int}(h1:-18446744073709551616<a)(h2:a<18446744073709551616):zeS a b:=.inl (.inl ⟨h1,h2⟩)
theorem xA{b:Int}(h1:0<b)(h2:b<1073741824):zgu b:=⟨h1,h2⟩
theorem xT{b:Int}(h1:0<b):zeT b:=h1
theorem xR{a b:Int}(h1:0<=b)(h2:b<=1000000)(h3:a.natAbs<18446744073709551616):zmR a b:=⟨h1,h2,h3⟩
open Classical in
noncomputable def kP:D->D->Option D
 | .int a,.int b=>if zeS a b then some (.int (a*b))else none
 |_,_=>none
open Classical in
noncomputable def jM:D->D->Option D
 | .int a,.int b=>if zgu b then some (.int (a/b))else none
 |_,_=>none
open Classical in
noncomputable def jC:D->D->Option D
 | .int a,.int b=>if zeT b then some (.int (a%b))else none
 |_,_=>none
open Classical in
noncomputable def kY:D->D->Option D
 | .int a,.int b=>if zmR a b then some (.int (a^b.toNat))else none
 |_,_=>none
section
variable{K:Fg}{X:Cx}
theorem kQ{α:Type}{c:Prop}{_:Decidable c}{x y:α}(h:(if c then some x else none)=some y):c/\x=y:=by
 by_cases hc:c
 ·rw[if_pos hc]at h;exact⟨hc,Option.some.inj h⟩
 ·rw[if_neg hc]at h;cases h
theorem vP(hK:X.K=K:=by rfl):Op2 K X (binaryOp .Add) .fz jA:=by
 subst hK;refine⟨_,zmP.or (zgt.or (zle.or zmO)),λx y d F H v u Q e s h1 h2 k=>?_⟩;unfold jA at e;split at e
 ·cases e
  refine .inl ⟨_,_,h1.int_inv,h2.int_inv,k _ F H (zE.refl s) (Res.int _)⟩
 ·obtain⟨hz,rfl⟩:=kQ e;exact .inr (.inl ⟨_,_,h1.str_inv,h2.str_inv,wU hz,k _ F H (zE.refl s) (Res.str _)⟩)
 ·obtain⟨hz,rfl⟩:=kQ e;obtain⟨a,xs,rfl,f1,q1⟩:=h1.tup_inv;obtain⟨b,ys,rfl,f2,q2⟩:=h2.tup_inv;refine .inr (.inr (.inl ⟨a,b,xs,ys,rfl,rfl,SqT.of (s _ _ f1),SqT.of (s _ _ f2),by rw[q1.length,q2.length];exact wU hz,λz=>?_,λ_ z=>?_,λ_ _ p hp=>?_⟩))
  ·subst z;refine k _ F H (zE.refl s) ?_
   have:_=([]:List D):=List.eq_nil_of_length_eq_zero (by rw[←q1.length];rfl);rw[this];exact h2
  ·subst z;refine k _ F H (zE.refl s) ?_
   have:_=([]:List D):=List.eq_nil_of_length_eq_zero (by rw[←q2.length];rfl);rw[this,List.append_nil];exact h1
  ·have g:=zE.frozen (o:=.tup (xs++ys)) s hp;exact k _ _ _ g (Dat.tup (K:=X.K) qK ((q1.mono g.ff).append (q2.mono g.ff)))
 ·obtain⟨hz,rfl⟩:=kQ e;obtain⟨a,xs,rfl,f1,q1⟩:=h1;obtain⟨b,ys,rfl,f2,q2⟩:=h2;refine .inr (.inr (.inr ⟨a,b,xs,ys,rfl,rfl,f1,f2,by rw[q1.length,q2.length];exact wU hz,λp hp=>?_⟩));have g:=zE.frozen (o:=.lst (xs++ys)) s hp;exact k _ _ _ g (Dat.lst (K:=X.K) qK ((q1.mono g.ff).append (q2.mono g.ff)))
 ·cases e
theorem zjn{f:Value->Value->Sem Value}{C:Int->Int->Prop}{g:Int->Int->Int}{p:D->D->Option D}(o:OpR X f (rI C λi j=>.int (g i j)))(h:∀x y d,p x y=some d->∃i j,x=.int i/\y=.int j/\C i j/\d=.int (g i j)):Op2 K X f .fz p:=by refine⟨_,o,λx y d F H v u Q e s h1 h2 k=>?_⟩;obtain⟨i,j,rfl,rfl,c,rfl⟩:=h x y d e;exact⟨i,j,h1.int_inv,h2.int_inv,c,k _ F H (zE.refl s) (Res.int _)⟩
theorem zkY:Op2 K X (binaryOp .Sub) .fz kN:=by
 refine⟨_,zmJ,λx y d F H v u Q e s h1 h2 k=>?_⟩;unfold kN at e;split at e
 ·cases e
  exact⟨_,_,h1.int_inv,h2.int_inv,k _ F H (zE.refl s) (Res.int _)⟩
 ·cases e
theorem zlb:OpR X (binaryOp .Mult) (rI zeS λi j=>.int (i*j)):=opI λ_ _ _ _ _ _ _ hc q=>mul_int q (hc.elim (λh=>CMul.ok h) λh=>IntMulOk.of_bits h.1 h.2)
theorem zla:Op2 K X (binaryOp .Mult) .fz kP:=zjn zlb λx y d e=>by
 unfold kP at e;split at e
 ·obtain⟨hz,rfl⟩:=kQ e;exact⟨_,_,rfl,rfl,hz,rfl⟩
 ·cases e
theorem gD:Op2 K X (binaryOp .FloorDiv) .fz jM:=zjn zlc λx y d e=>by
 unfold jM at e;split at e
 ·obtain⟨hz,rfl⟩:=kQ e;exact⟨_,_,rfl,rfl,hz,rfl⟩
 ·cases e
theorem vO:Op2 K X (binaryOp .Mod) .fz jC:=zjn zmM λx y d e=>by
 unfold jC at e;split at e
 ·obtain⟨hz,rfl⟩:=kQ e;exact⟨_,_,rfl,rfl,hz,rfl⟩
 ·cases e
theorem zmI:Op2 K X (binaryOp .Pow) .fz kY:=zjn zmK λx y d e=>by
 unfold kY at e;split at e
 ·obtain⟨hz,rfl⟩:=kQ e;exact⟨_,_,rfl,rfl,hz,rfl⟩
 ·cases e
end
section
variable{X:Cx}{pins:AO}{σ:St}{H F:Hp}{s:Shared}{K:Fg}
theorem zkw(I:Inv X pins σ H s)(sub:zG F H)(d1 d2:D)(b:Bool)(v1 v2:V)(u1 u2:Value)(n:Nat)(hn:dep d1<=n)(e:eqD d1 d2=some b)(h1:zO K F H d1 v1)(h2:zO K F H d2 v2)(r1:zJ v1 u1)(r2:zJ v2 u2)(hu:X.A.units+n<cLine):SeqAt.RcAt X.A s u1 u2 b/\SeqAt.RcNeAt X.A s u1 u2 (!b):=by
 have d0:0<dep d1:=by cases d1<;>simp[dep]
 have hu0:X.A.units<cLine:=by omega
 have hin:X.A.in1.units+(n - 1)<cLine:=by have:=zcI X.A;omega
 cases d1 with
 |non=>
  rw[h1.non_inv]at r1;cases r1
  cases d2 with
  |non=>simp[eqD]at e;subst e;rw[h2.non_inv]at r2;cases r2;exact⟨SeqAt.RcAt.none_none,SeqAt.RcNeAt.none_none⟩
  |bl x=>simp[eqD]at e;subst e;rw[h2.bl_inv]at r2;cases r2;exact⟨SeqAt.RcAt.none_bool x,SeqAt.RcNeAt.none_bool x⟩
  |int x=>simp[eqD]at e;subst e;rw[h2.int_inv]at r2;obtain⟨t,rfl⟩:=r2;exact⟨SeqAt.RcAt.none_int x t,SeqAt.RcNeAt.none_int x t⟩
  |str x=>simp[eqD]at e;subst e;rw[h2.str_inv]at r2;obtain⟨t,rfl⟩:=r2;exact⟨SeqAt.RcAt.none_str x t,SeqAt.RcNeAt.none_str x t⟩
  |tup l=>simp[eqD]at e;subst e;obtain⟨a,vs,rfl,f,_⟩:=h2.tup_inv;cases r2;obtain⟨its,_,p⟩:=Inv.tupAt I (sub _ _ f);exact⟨SeqAt.RcAt.none_tuple p hu0,SeqAt.RcNeAt.none_tuple p hu0⟩
  |lst l=>simp[eqD]at e;subst e;obtain⟨a,vs,rfl,f,_⟩:=h2.lst_inv;cases r2;obtain⟨its,_,p⟩:=Inv.lstAt I f;exact⟨SeqAt.RcAt.none_list p hu0,SeqAt.RcNeAt.none_list p hu0⟩
  |_=>simp[eqD]at e
 |bl y=>
  rw[h1.bl_inv]at r1;cases r1
  cases d2 with
  |non=>simp[eqD]at e;subst e;rw[h2.non_inv]at r2;cases r2;exact⟨SeqAt.RcAt.bool_none y,SeqAt.RcNeAt.bool_none y⟩
  |bl x=>simp only[eqD,Option.some.injEq]at e;subst e;rw[h2.bl_inv]at r2;cases r2;exact⟨SeqAt.RcAt.bool_bool y x,SeqAt.RcNeAt.bool_bool y x⟩
  |_=>simp[eqD]at e
 |int y=>
  rw[h1.int_inv]at r1;obtain⟨t',rfl⟩:=r1;cases d2 with
  |non=>simp[eqD]at e;subst e;rw[h2.non_inv]at r2;cases r2;exact⟨SeqAt.RcAt.int_none y t',SeqAt.RcNeAt.int_none y t'⟩
  |int x=>simp only[eqD,Option.some.injEq]at e;subst e;rw[h2.int_inv]at r2;obtain⟨t,rfl⟩:=r2;exact⟨SeqAt.RcAt.int_int y t' x t,SeqAt.RcNeAt.int_int y t' x t⟩
  |str x=>simp[eqD]at e;subst e;rw[h2.str_inv]at r2;obtain⟨t,rfl⟩:=r2;exact⟨SeqAt.RcAt.int_str y t' x t,SeqAt.RcNeAt.int_str y t' x t⟩
  |tup l=>simp[eqD]at e;subst e;obtain⟨a,vs,rfl,f,_⟩:=h2.tup_inv;cases r2;obtain⟨its,_,p⟩:=Inv.tupAt I (sub _ _ f);exact⟨SeqAt.RcAt.int_tuple y t' p hu0,SeqAt.RcNeAt.int_tuple y t' p hu0⟩
  |_=>simp[eqD]at e
 |str y=>
  rw[h1.str_inv]at r1;obtain⟨t',rfl⟩:=r1;cases d2 with
  |non=>simp[eqD]at e;subst e;rw[h2.non_inv]at r2;cases r2;exact⟨SeqAt.RcAt.str_none y t',SeqAt.RcNeAt.str_none y t'⟩
  |int x=>simp[eqD]at e;subst e;rw[h2.int_inv]at r2;obtain⟨t,rfl⟩:=r2;exact⟨SeqAt.RcAt.str_int y t' x t,SeqAt.RcNeAt.str_int y t' x t⟩
  |str x=>simp only[eqD,Option.some.injEq]at e;subst e;rw[h2.str_inv]at r2;obtain⟨t,rfl⟩:=r2;exact⟨SeqAt.RcAt.str_str y t' x t,SeqAt.RcNeAt.str_str y t' x t⟩
  |tup l=>simp[eqD]at e;subst e;obtain⟨a,vs,rfl,f,_⟩:=h2.tup_inv;cases r2;obtain⟨its,_,p⟩:=Inv.tupAt I (sub _ _ f);exact⟨SeqAt.RcAt.str_tuple y t' p hu0,SeqAt.RcNeAt.str_tuple y t' p hu0⟩
  |lst l=>simp[eqD]at e;subst e;obtain⟨a,vs,rfl,f,_⟩:=h2.lst_inv;cases r2;obtain⟨its,_,p⟩:=Inv.lstAt I f;exact⟨SeqAt.RcAt.str_list y t' p hu0,SeqAt.RcNeAt.str_list y t' p hu0⟩
  |_=>simp[eqD]at e
 |tup l1=>
  obtain⟨a,vs,rfl,f1,q1⟩:=h1.tup_inv;cases r1
  obtain⟨its,rv,p⟩:=Inv.tupAt I (sub _ _ f1);cases d2 with
  |non=>simp[eqD]at e;subst e;rw[h2.non_inv]at r2;cases r2;exact⟨SeqAt.RcAt.tuple_none p hu0,SeqAt.RcNeAt.tuple_none p hu0⟩
  |int x=>simp[eqD]at e;subst e;rw[h2.int_inv]at r2;obtain⟨t,rfl⟩:=r2;exact⟨SeqAt.RcAt.tuple_int x t p hu0,SeqAt.RcNeAt.tuple_int x t p hu0⟩
  |str x=>simp[eqD]at e;subst e;rw[h2.str_inv]at r2;obtain⟨t,rfl⟩:=r2;exact⟨SeqAt.RcAt.tuple_str x t p hu0,SeqAt.RcNeAt.tuple_str x t p hu0⟩
  |tup l2=>
   obtain⟨a2,vs2,rfl,f2,q2⟩:=h2.tup_inv;cases r2
   obtain⟨its2,rv2,p2⟩:=Inv.tupAt I (sub _ _ f2);simp only[eqD]at e;obtain⟨hp,hb⟩:=zbt e;simp only[dep]at hn;have he:∀(j:Nat) (h1:j<its.toArray.size) (h2:j<its2.toArray.size),SeqAt.EqAt X.A.in1 s its.toArray[j] its2.toArray[j] (eAt l1 l2 j):=λj k1 k2=>by
    obtain⟨x,v,hx,_,dx,rx⟩:=gG q1 rv k1;obtain⟨y,w,hy,_,dy,ry⟩:=gG q2 rv2 k2
    have:=zbN (List.mem_of_getElem? hx);exact zie I sub (n - 1) x y _ v w _ _ X.A.in1 (by omega) (hp j x y hx hy) dx dy rx ry hin
   have z:=And.intro (SeqAt.RcAt.tuples p p2 hu0 he) (SeqAt.RcNeAt.tuples p p2 hu0 he);have e1:its.toArray.size=l1.length:=by rw[List.size_toArray,←rv.length,q1.length]
   have e2:its2.toArray.size=l2.length:=by rw[List.size_toArray,←rv2.length,q2.length]
   rw[e1,e2]at z;rw[hb];exact z
  |lst l2=>simp[eqD]at e;subst e;obtain⟨a2,vs2,rfl,f2,_⟩:=h2.lst_inv;cases r2;obtain⟨its2,_,p2⟩:=Inv.lstAt I f2;exact⟨SeqAt.RcAt.tuple_list p p2 hu0,SeqAt.RcNeAt.tuple_list p p2 hu0⟩
  |_=>simp[eqD]at e
 |lst l1=>
  obtain⟨a,vs,rfl,f1,q1⟩:=h1.lst_inv;cases r1
  obtain⟨its,rv,p⟩:=Inv.lstAt I f1;cases d2 with
  |non=>simp[eqD]at e;subst e;rw[h2.non_inv]at r2;cases r2;exact⟨SeqAt.RcAt.list_none p hu0,SeqAt.RcNeAt.list_none p hu0⟩
  |str x=>simp[eqD]at e;subst e;rw[h2.str_inv]at r2;obtain⟨t,rfl⟩:=r2;exact⟨SeqAt.RcAt.list_str x t p hu0,SeqAt.RcNeAt.list_str x t p hu0⟩
  |tup l2=>simp[eqD]at e;subst e;obtain⟨a2,vs2,rfl,f2,_⟩:=h2.tup_inv;cases r2;obtain⟨its2,_,p2⟩:=Inv.tupAt I (sub _ _ f2);exact⟨SeqAt.RcAt.list_tuple p p2 hu0,SeqAt.RcNeAt.list_tuple p p2 hu0⟩
  |lst l2=>
   obtain⟨a2,vs2,rfl,f2,q2⟩:=h2.lst_inv;cases r2
   obtain⟨its2,rv2,p2⟩:=Inv.lstAt I f2;simp only[eqD]at e;obtain⟨hp,hb⟩:=zbt e;simp only[dep]at hn;have he:∀(j:Nat) (h1:j<its.toArray.size) (h2:j<its2.toArray.size),SeqAt.EqAt X.A.in1 s its.toArray[j] its2.toArray[j] (eAt l1 l2 j):=λj k1 k2=>by
    obtain⟨x,v,hx,_,dx,rx⟩:=gG q1 rv k1;obtain⟨y,w,hy,_,dy,ry⟩:=gG q2 rv2 k2
    have:=zbN (List.mem_of_getElem? hx);exact zie I sub (n - 1) x y _ v w _ _ X.A.in1 (by omega) (hp j x y hx hy) dx dy rx ry hin
   have e1:its.toArray.size=l1.length:=by rw[List.size_toArray,←rv.length,q1.length]
   have e2:its2.toArray.size=l2.length:=by rw[List.size_toArray,←rv2.length,q2.length]
   by_cases hsz:l1.length=l2.length
   ·have z:=And.intro (SeqAt.RcAt.lists p p2 (by rw[e1,e2,hsz]) hu0 he) (SeqAt.RcNeAt.lists p p2 (by rw[e1,e2,hsz]) hu0 he);rw[e1]at z;rw[hb,hsz,Nat.min_self,beq_self_eq_true,Bool.and_true,←hsz];exact z
   ·have z:=And.intro (SeqAt.RcAt.lists_lengths p p2 (by rw[e1,e2];simpa using hsz) hu0) (SeqAt.RcNeAt.lists_lengths p p2 (by rw[e1,e2];simpa using hsz) hu0);have hb0:b=false:=by
     rw[hb]
     have:(l1.length==l2.length)=false:=by simpa using hsz
     rw[this,Bool.and_false]
    rw[hb0];exact z
  |_=>simp[eqD]at e
 |_=>simp[eqD]at e
end
noncomputable def eqB(x y:D):Option D:=if dep x<=100 then(eqD x y).map D.bl else none
noncomputable def neB(x y:D):Option D:=if dep x<=100 then(eqD x y).map λb=>D.bl (!b)else none
def rEqD(K:Fg)(f:Bool->Bool):R2:=λx y H Q=>∃F d1 d2 b,zG F H/\zO K F H d1 x/\zO K F H d2 y/\dep d1<=100/\eqD d1 d2=some b/\Q (.bl (f b)) H
section
variable{K:Fg}{X:Cx}
theorem zmN(hu:X.A.units+100<cLine):OpR X (compareOp .Eq) (rEqD K id):=by intro pins s σ H x y v u Q I rx ry h;obtain⟨F,d1,d2,b,sub,h1,h2,hn,e,q⟩:=h;exact(zkw I sub d1 d2 b x y v u 100 hn e h1 h2 rx ry hu).1 _ _ _ _ ⟨.bl b,H,I,rfl,q⟩
theorem zmL(hu:X.A.units+100<cLine):OpR X (compareOp .NotEq) (rEqD K not):=by intro pins s σ H x y v u Q I rx ry h;obtain⟨F,d1,d2,b,sub,h1,h2,hn,e,q⟩:=h;exact(zkw I sub d1 d2 b x y v u 100 hn e h1 h2 rx ry hu).2 _ _ _ _ ⟨.bl (!b),H,I,rfl,q⟩
theorem p_eq(hu:X.A.units+100<cLine):Op2 K X (compareOp .Eq) .fz eqB:=by
 refine⟨_,zmN (K:=K) hu,λx y d F H v u Q e s h1 h2 k=>?_⟩;unfold eqB at e;by_cases hc:dep x<=100
 ·rw[if_pos hc]at e;cases e1:eqD x y with
  |none=>rw[e1]at e;cases e
  |some b=>
   rw[e1]at e;cases e
   exact⟨F,x,y,b,s,h1,h2,hc,e1,k _ F H (zE.refl s) (Res.bl b)⟩
 ·rw[if_neg hc]at e;cases e
theorem p_ne(hu:X.A.units+100<cLine):Op2 K X (compareOp .NotEq) .fz neB:=by
 refine⟨_,zmL (K:=K) hu,λx y d F H v u Q e s h1 h2 k=>?_⟩;unfold neB at e;by_cases hc:dep x<=100
 ·rw[if_pos hc]at e;cases e1:eqD x y with
  |none=>rw[e1]at e;cases e
  |some b=>
   rw[e1]at e;cases e
   exact⟨F,x,y,b,s,h1,h2,hc,e1,k _ F H (zE.refl s) (Res.bl _)⟩
 ·rw[if_neg hc]at e;cases e
end
noncomputable def inL(x:D):List D->Option Bool
 |[]=>some false
 |d::l=>(eqD d x).bind λb=>(inL x l).map λc=>b||c
theorem zfR{x:D}:∀{l:List D}{b:Bool},inL x l=some b->(∀d∈l,∃c,eqD d x=some c)/\b=l.any λd=>(eqD d x).getD false
 |[],b,h=>by simp[inL]at h;subst h;simp
 |d::l,b,h=>by
  simp only[inL]at h;cases e1:eqD d x with
  |none=>rw[e1]at h;cases h
  |some c=>
   cases e2:inL x l with
   |none=>rw[e1,e2]at h;cases h
   |some c2=>
    rw[e1,e2]at h;have hb:(c||c2)=b:=by simpa using h
    obtain⟨h1,h2⟩:=zfR e2;refine⟨λy hy=>?_,?_⟩
    ·rcases List.mem_cons.mp hy with rfl|hy
     ·exact⟨c,e1⟩
     ·exact h1 y hy
    ·rw[←hb,h2,List.any_cons,e1];rfl
theorem ziA{α β:Type}{e:α->Bool}{g:β->Bool}:∀{xs:List α}{ys:List β},xs.length=ys.length->(∀(k:Nat) x y,xs[k]?=some x->ys[k]?=some y->e x=g y)->xs.any e=ys.any g
 |[],[],_,_=>rfl
 |[],_::_,h,_=>by simp at h
 |_::_,[],h,_=>by simp at h
 |x::xs,y::ys,h,k=>by rw[List.any_cons,List.any_cons,k 0 x y rfl rfl,ziA (xs:=xs) (ys:=ys) (by simpa using h) λj a b ha hb=>k (j+1) a b (by simpa using ha) (by simpa using hb)]
section
variable{X:Cx}{pins:AO}{σ:St}{H F:Hp}{s:Shared}{K:Fg}
theorem zmW(I:Inv X pins σ H s)(sub:zG F H){l:List D}{vs:List V}{its:List Value}{x:D}{v:V}{u:Value}{b:Bool}(q:zC K F l vs)(r:zK vs its)(hx:Dat K F x v)(ru:zJ v u)(hd:qY l<=100)(e:inL x l=some b)(hu:X.A.in1.units+100<cLine):
  ∃f:Value->Bool,(∀y,y∈its.toArray->SeqAt.EqAt X.A.in1 s y u (f y))/\its.toArray.any f=b:=by
 obtain⟨h1,h2⟩:=zfR e;have hl:its.length=l.length:=by rw[←r.length,q.length]
 have at_:∀(k:Nat) (y:Value),its[k]?=some y->∃d w,l[k]?=some d/\Dat K F d w/\zJ w y:=λk y hk=>by
  have hk':k<its.toArray.size:=by simpa using(List.getElem?_eq_some_iff.mp hk).1
  obtain⟨d,w,e1,_,e3,e4⟩:=gG q r hk';refine⟨d,w,e1,e3,?_⟩
  have:its.toArray[k]=y:=by rw[List.getElem?_eq_getElem (by simpa using hk')]at hk;simpa using Option.some.inj hk
  rw[←this];exact e4
 refine⟨λy=>match(its.zip l).find? (λp=>p.1==y)with
  |some p=>(eqD p.2 x).getD false
  |none=>false,λy hy=>?_,?_⟩
 ·have hy':y∈its:=by simpa using hy
  obtain⟨k,hk⟩:=List.mem_iff_getElem?.mp hy';cases f:(its.zip l).find? (λp=>p.1==y)with
  |none=>
   exfalso;have hk2:k<its.length:=(List.getElem?_eq_some_iff.mp hk).1
   have:=List.find?_eq_none.mp f (its[k],l[k]'(by omega)) (by
    have:(its.zip l)[k]?=some (its[k],l[k]'(by omega)):=by simp[List.getElem?_zip_eq_some,hk2]
    exact List.mem_of_getElem? this)
   rw[List.getElem?_eq_getElem hk2]at hk;have e0:=Option.some.inj hk;simp[e0]at this
  |some p=>
   have hp:=List.find?_some f;have hm:=List.mem_of_find?_eq_some f;obtain⟨j,hj⟩:=List.mem_iff_getElem?.mp hm;obtain⟨j1,j2⟩:=List.getElem?_zip_eq_some.mp hj;have e1:p.1=y:=by simpa using hp
   obtain⟨d,w,e2,e3,e4⟩:=at_ j p.1 j1;rw[j2]at e2;cases e2
   obtain⟨c,hc⟩:=h1 p.2 (List.mem_of_getElem? j2)
   have:=zbN (List.mem_of_getElem? j2);simp only[f,hc,Option.getD_some];exact zie I sub 100 p.2 x c w v y u X.A.in1 (by omega) hc e3 hx (e1▸e4) ru hu
 ·rw[h2,List.any_toArray];refine ziA hl λk y d hk hd'=>?_
  cases f:(its.zip l).find? (λp=>p.1==y)with
  |none=>
   exfalso
   have:=List.find?_eq_none.mp f (y,d) (List.mem_of_getElem? (i:=k) (List.getElem?_zip_eq_some.mpr ⟨hk,hd'⟩));simp at this
  |some p=>
   have hp:=List.find?_some f;have hm:=List.mem_of_find?_eq_some f;obtain⟨j,hj⟩:=List.mem_iff_getElem?.mp hm;obtain⟨j1,j2⟩:=List.getElem?_zip_eq_some.mp hj;have e1:p.1=y:=by simpa using hp
   obtain⟨d1,w1,e2,e3,e4⟩:=at_ j p.1 j1;rw[j2]at e2;cases e2
   obtain⟨d2,w2,f2,f3,f4⟩:=at_ k y hk;rw[hd']at f2;cases f2
   obtain⟨c1,hc1⟩:=h1 p.2 (List.mem_of_getElem? j2);obtain⟨c2,hc2⟩:=h1 d (List.mem_of_getElem? hd');rw[e1]at e4;have ew:=e4.inj f4;subst ew;simp only[f,hc1,hc2,Option.getD_some];exact znz _ p.2 d x c1 c2 w1 (Nat.le_refl _) e3 f3 hc1 hc2
end
noncomputable def inB(x y:D):Option D:=match y with
 | .lst l=>if qY l<=100 then(inL x l).map D.bl else none
 | .tup l=>if qY l<=100 then(inL x l).map D.bl else none
 |_=>none
noncomputable def yB(x y:D):Option D:=match y with
 | .lst l=>if qY l<=100 then(inL x l).map λb=>D.bl (!b)else none
 | .tup l=>if qY l<=100 then(inL x l).map λb=>D.bl (!b)else none
 |_=>none
def rInD(K:Fg)(f:Bool->Bool):R2:=λx y H Q=>∃F d l b a vs,zG F H/\Dat K F d x/\y=.ref a/\(H a=some (.lst vs)\/H a=some (.tup vs))/\zC K F l vs/\qY l<=100/\inL d l=some b/\Q (.bl (f b)) H
section
variable{K:Fg}{X:Cx}
theorem zhA(hu:X.A.units+101<cLine):OpR X (compareOp .NotIn) (rInD K not):=by
 intro pins s σ H x y v u Q I rx ry h;obtain⟨F,d,l,b,a,vs,sub,h1,rfl,ho,q,hd,e,k⟩:=h;cases ry
 have hu':X.A.in1.units+100<cLine:=by have:=zcI X.A;omega
 rcases ho with ho|ho
 ·obtain⟨its,r,p⟩:=Inv.lstAt I ho;obtain⟨f,h3,h4⟩:=zmW I sub q r h1 rx hd e hu';exact SeqAt.notIn_listAt f p h3 (by rw[h4];exact⟨.bl (!b),H,I,rfl,k⟩)
 ·obtain⟨its,r,p⟩:=Inv.tupAt I ho;obtain⟨f,h3,h4⟩:=zmW I sub q r h1 rx hd e hu';exact SeqAt.notIn_tupleAt f p h3 (by rw[h4];exact⟨.bl (!b),H,I,rfl,k⟩)
end
def Op2f(K:Fg)(X:Cx)(f:Value->Value->Sem Value)(p:D->D->Option D):Prop:=
 ∃r:R2,OpR X f r/\∀x y d F H v u Q,p x y=some d->zG F H->Dat K F x v->zO K F H y u->(∀w F' H',zE F H F' H'->Res K .fz H F' H' d w->Q w H')->r v u H Q
section
variable{K:Fg}{X:Cx}{a b:Expr}{fa fb:EO D}{pos:Pos}{p:D->D->Option D}
theorem zol{f:Value->Value->Sem Value}{n:Bool->Bool}{p:D->D->Option D}(o:OpR X f (rInD K n))(h:∀x y d,p x y=some d->∃l b,(y=.lst l\/y=.tup l)/\qY l<=100/\inL x l=some b/\d=.bl (n b)):Op2f K X f p:=by
 refine⟨_,o,λx y d F H v u Q e s h1 h2 k=>?_⟩;obtain⟨l,b,hy,hd,e1,rfl⟩:=h x y d e;rcases hy with rfl|rfl
 ·obtain⟨a,vs,rfl,f,q⟩:=h2.lst_inv;exact⟨F,x,l,b,a,vs,s,h1,rfl,.inl f,q,hd,e1,k _ F H (zE.refl s) (Res.bl _)⟩
 ·obtain⟨a,vs,rfl,f,q⟩:=h2.tup_inv;exact⟨F,x,l,b,a,vs,s,h1,rfl,.inr (s _ _ f),q,hd,e1,k _ F H (zE.refl s) (Res.bl _)⟩
theorem zkZ(hu:X.A.units+101<cLine):Op2f K X (compareOp .NotIn) yB:=zol (zhA hu) λx y d e=>by
 unfold yB at e;split at e
 ·split at e
  ·rename_i l hd;cases e1:inL x l with
   |none=>rw[e1]at e;cases e
   |some b=>rw[e1]at e;cases e;exact⟨l,b,.inl rfl,hd,e1,rfl⟩
  ·cases e
 ·split at e
  ·rename_i l hd;cases e1:inL x l with
   |none=>rw[e1]at e;cases e
   |some b=>rw[e1]at e;cases e;exact⟨l,b,.inr rfl,hd,e1,rfl⟩
  ·cases e
 ·cases e
theorem znI{ρ:En}{x y d:D}{r:R2}(ha:PE X a (rdE K .fz ρ x))(hb:PE X b (rdE K .br ρ y))(hr:∀F H v u Q,zG F H->Dat K F x v->zO K F H y u->(∀w F' H',zE F H F' H'->Res K .fz H F' H' d w->Q w H')->r v u H Q)(σ:St)(H:Hp)(Q:VK)(h:rdE K .fz ρ d σ H Q):tOp r (rdE K .fz ρ x) (rdE K .br ρ y) σ H Q:=by
 obtain⟨F,rl,q⟩:=h;refine⟨F,rl,λv F1 H1 g1 r1=>⟨F1,rl.grow g1,λu F2 H2 g2 r2=>?_⟩⟩;refine hr F2 H2 v u Q g2.fh (Dat.mono g2.ff r1) r2 λw F3 H3 g3 r3=>?_
 exact q w F3 H3 (g1.trans (g2.trans g3)) r3
end
end FL
namespace HT
section
variable{prog:Program}{w:World}{A:Around}{E:Vs}{s:Shared}
theorem getItem_tuple_whole{t sl:Addr}{items:Array Value}{vl vu:Value}{lo hi:Option Int}{Q:Vs}(ht:IsTup s.heap t items)(hs:s.heap.IsSliceOf sl vl vu .none)(pl:IsPart vl lo)(pu:IsPart vu hi)(hw:sIx items.size 0 lo=0/\sIx items.size items.size hi=items.size)(h:Q (.ref t) s):wpAny (model prog w) A (getItem (.ref t) (.ref sl)) Q E s:=by
 obtain⟨os,hos,hcs,hds⟩:=id hs;have hTs:s.TypeIs (.ref sl) "slice":=⟨os,hos,hcs⟩;unfold getItem
 try with_reducible refine wpAny_holding ?_
 first|refine wpAny_bind (wpAny_pure ?_)|skip
 refine wpAny_bind (wpAny_sequenceKey ht.typeIs (by decide) ?_);refine wpAny_bind (wpAny_callSpecial?_slot (name:=Str.ofString "__getitem__") ht.typeIs PyProof.Rows.slot_tuple_getitem
  (wpAny_call_entry PyProof.Rows.slot_tuple_getitem ht.typeIs entry_tuple_getitem ?_ (args_tuple_getitem _ _)))
 show wpAny _ _ (Builtin.Tuple.tupleItemsOf (.ref t)>>=_) _ _ s;refine wpAny_bind (tupleItemsOf_ ht ?_);refine wpAny_bind (wpAny_typeOf hTs ?_);rw[if_pos (by decide)];refine wpAny_bind (zaC hs pl pu ?_);have hyes:(((sIx items.size 0 lo:Nat):Int)==0&&(1:Int)==1&&(sIx items.size items.size hi - sIx items.size 0 lo)==items.size)=true:=by rw[hw.1,hw.2];simp
 show wpAny _ _ (if(((sIx items.size 0 lo:Nat):Int)==0&&(1:Int)==1&&(sIx items.size items.size hi - sIx items.size 0 lo)==items.size)=true then _ else _) _ _ s;rw[if_pos hyes];unfold Builtin.Tuple.tupleIsExact;refine wpAny_bind (wpAny_bind (wpAny_typeOf ht.typeIs (wpAny_pure ?_)));rw[if_pos (by decide)];refine wpAny_bind (wpAny_rule ?_);exact wpAny_pure ⟨_,rfl,wpAny_pure h⟩
end
end HT
namespace L2
section
variable{X:Cx}{K:Fg}
def znY(K:Fg):V->Option Int->Option Int->Hp->VK->Prop:=λx lo hi H Q=>∃a xs,x=.ref a/\SqT K H a xs/\
 ((HT.sIx xs.length 0 lo=0/\HT.sIx xs.length xs.length hi=xs.length)->Q (.ref a) H)/\∀p,H p=none->Q (.ref p) (upd H p (.tup (wA xs lo hi)))
theorem zkB:SlR X (λx lo hi H Q=>∃a xs,x=.ref a/\SqT X.K H a xs/\(HT.sIx xs.length 0 lo=0/\HT.sIx xs.length xs.length hi=xs.length)/\Q (.ref a) H):=by
 intro pins s σ H x v vl vu lo hi sl Q I rx hs pl pu h;obtain⟨a,xs,rfl,hx,hw,q⟩:=h;cases rx
 obtain⟨its,r,ht,hz⟩:=I.tuple hx;have hlen:its.toArray.size=xs.length:=by rw[List.size_toArray];exact r.length.symm
 refine⟨"tuple",_,PyProof.Rows.slot_tuple_getitem.lookup,ht.typeIs,?_⟩;exact HT.getItem_tuple_whole ht hs pl pu (by rw[hlen];exact hw) ⟨.ref a,H,I,rfl,q⟩
theorem zkC(hK:X.K=K:=by rfl):SlR X (znY K):=by
 subst hK;intro pins s σ H x v vl vu lo hi sl Q I rx hs pl pu h;obtain⟨a,xs,rfl,hx,h1,h2⟩:=h;by_cases hw:HT.sIx xs.length 0 lo=0/\HT.sIx xs.length xs.length hi=xs.length
 ·exact zkB pins s σ H _ v vl vu lo hi sl Q I rx hs pl pu ⟨a,xs,rfl,hx,hw,h1 hw⟩
 ·exact zmb pins s σ H _ v vl vu lo hi sl Q I rx hs pl pu ⟨a,xs,rfl,hx,hw,h2⟩
end
end L2
namespace FL
open L2
noncomputable def yD(f:Int->Int->Bool):D->D->Option D
 | .int a,.int b=>some (.bl (f a b))
 |_,_=>none
abbrev ltD:=yD λi j=>decide (i<j)
abbrev gtD:=yD λi j=>decide (j<i)
noncomputable def jY:List D->Option (List Int)
 |[]=>some []
 | .int i::l=>(jY l).map (i::·)
 |_::_=>none
theorem zbb:∀{l:List D}{ns:List Int},jY l=some ns->l=ns.map D.int
 |[],ns,h=>by simp[jY]at h;subst h;rfl
 | .int i::l,ns,h=>by
  simp only[jY]at h;cases e:jY l with
  |none=>rw[e]at h;cases h
  |some ms=>rw[e]at h;cases h;rw[zbb e];rfl
 | .non::_,_,h=>by simp[jY]at h
 | .bl _::_,_,h=>by simp[jY]at h
 | .str _::_,_,h=>by simp[jY]at h
 | .tup _::_,_,h=>by simp[jY]at h
 | .lst _::_,_,h=>by simp[jY]at h
 | .scr _::_,_,h=>by simp[jY]at h
 | .dic _ _::_,_,h=>by simp[jY]at h
 | .set _::_,_,h=>by simp[jY]at h
 | .exc _ _::_,_,h=>by simp[jY]at h
theorem zbJ:∀(ns:List Int),jY (ns.map D.int)=some ns
 |[]=>rfl
 |n::ns=>by rw[List.map_cons,jY,zbJ ns];rfl
noncomputable def geD:D->D->Option D
 | .int a,.int b=>some (.bl (decide (b<=a)))
 | .tup a,.tup b=>(jY a).bind λns=>(jY b).map λms=>.bl (!HT.lexLt ns ms)
 |_,_=>none
def isNon:D->Bool
 | .non=>true
 |_=>false
noncomputable def isB(x y:D):Option D:=match y with
 | .non=>some (.bl (isNon x))
 |_=>none
noncomputable def xX(x y:D):Option D:=match y with
 | .non=>some (.bl (!isNon x))
 |_=>none
variable{F H:Hp}{v:V}{l:List D}
section
variable{K:Fg}{X:Cx}
theorem zkh{f:Value->Value->Sem Value}{g:Int->Int->Bool}(o:OpR X f (rI0 λi j=>.bl (g i j))):Op2 K X f .fz (yD g):=by
 refine⟨_,o,λx y d F H v u Q e s h1 h2 k=>?_⟩;unfold yD at e;split at e
 ·cases e
  exact⟨_,_,h1.int_inv,h2.int_inv,k _ F H (zE.refl s) (Res.bl _)⟩
 ·cases e
theorem p_lt:Op2 K X (compareOp .Lt) .fz ltD:=zkh zom
theorem p_gt:Op2 K X (compareOp .Gt) .fz gtD:=zkh zon
theorem zO.isNon{d:D}(h:zO K F H d v):decide (v=.non)=FL.isNon d:=by
 cases d with
 |non=>rw[h.non_inv];rfl
 |bl b=>rw[h.bl_inv];rfl
 |int b=>rw[h.int_inv];rfl
 |str b=>rw[h.str_inv];rfl
 |tup l=>obtain⟨a,vs,rfl,_⟩:=h.tup_inv;rfl
 |lst l=>obtain⟨a,vs,rfl,_⟩:=h.lst_inv;rfl
 |scr l=>obtain⟨a,rfl,_⟩:=h.scr_inv;rfl
 |dic k l=>obtain⟨a,vs,rfl,_⟩:=h.dic_inv;rfl
 |set l=>obtain⟨a,rfl,_⟩:=h;rfl
 |exc c d=>obtain⟨a,_,_,_,rfl,_⟩:=h.exc_inv;rfl
theorem zC.atI{vs:List V}(q:zC K F l vs){i:Int}{d:D}(h:L2.atI l i=some d):∃v,L2.atI vs i=some v/\Dat K F d v:=by
 unfold L2.atI at h ⊢;rw[q.length];cases e:ixN l.length i with
 |none=>rw[e]at h;cases h
 |some j=>
  rw[e]at h;exact q.get h
noncomputable def zR:D->D->Option D
 | .lst l,.int i=>L2.atI l i
 | .tup l,.int i=>L2.atI l i
 | .scr l,.int i=>(L2.atI l i).map D.int
 | .str z,.int i=>if z.length<=lim then(L2.atI z.cps.toList i).map λc=>.str ⟨#[c]⟩else none
 |_,_=>none
theorem p_ix(hK:X.K=K:=by rfl):Ix2 K X .fz zR:=by
 subst hK;refine⟨_,zll.or (znh.or zni),λx y d F H v u Q e s h1 h2 k=>?_⟩;unfold zR at e;split at e
 ·obtain⟨a,vs,rfl,f,q⟩:=h1.lst_inv;obtain⟨w,hw,dw⟩:=q.atI e;exact .inl ⟨a,vs,_,w,rfl,h2.int_inv,SqL.of f,hw,k _ F H (zE.refl s) dw⟩
 ·obtain⟨a,vs,rfl,f,q⟩:=h1.tup_inv;obtain⟨w,hw,dw⟩:=q.atI e;exact .inr (.inl ⟨a,vs,_,w,rfl,h2.int_inv,SqT.of (s _ _ f),hw,k _ F H (zE.refl s) dw⟩)
 ·rename_i ns i;obtain⟨a,rfl,f⟩:=h1.scr_inv;cases e1:L2.atI ns i with
  |none=>rw[e1]at e;cases e
  |some c=>
   rw[e1]at e;cases e
   refine .inl ⟨a,_,i,.int c,rfl,h2.int_inv,zG.seq s f,?_,k _ F H (zE.refl s) (Res.int _)⟩;unfold L2.atI at e1 ⊢;rw[List.length_map];cases e2:ixN ns.length i with
   |none=>rw[e2]at e1;cases e1
   |some j=>
    rw[e2]at e1;have e1':ns[j]?=some c:=e1;show(ns.map V.int)[j]?=_;rw[List.getElem?_map,e1'];rfl
 ·obtain⟨hz,e⟩:_/\_:=by
   split at e
   ·rename_i hz;exact⟨hz,e⟩
   ·cases e
  rename_i z i _;cases e1:L2.atI z.cps.toList i with
  |none=>rw[e1]at e;cases e
  |some c=>
   rw[e1]at e;cases e
   exact .inr (.inr ⟨z,i,c,h1.str_inv,h2.int_inv,wU hz,e1,k _ F H (zE.refl s) (Res.str _)⟩)
 ·cases e
end
variable{α:Type}
noncomputable def yC(xs:List α)(lo hi:Option Int):List α:=(xs.drop (HT.sIx xs.length 0 lo)).take (HT.sIx xs.length xs.length hi - HT.sIx xs.length 0 lo)
variable{K:Fg}
theorem zC.cut{vs:List V}(q:zC K F l vs)(lo hi:Option Int):zC K F (yC l lo hi) (wA vs lo hi):=by unfold yC wA;rw[q.length];exact(q.drop _).take _
noncomputable def jS(x:D)(lo hi:Option Int):Option D:=match x with
 | .tup l=>some (.tup (yC l lo hi))
 | .lst l=>some (.lst (yC l lo hi))
 | .scr l=>some (.lst ((yC l lo hi).map D.int))
 | .str z=>if z.length<=lim then some (.str (Txt.slice z lo hi))else none
 |_=>none
noncomputable def xJ(x:D)(lo hi:Option Int):Option D:=match x with
 | .lst l=>some (.lst (yC l lo hi))
 | .scr l=>some (.lst ((yC l lo hi).map D.int))
 |_=>none
theorem zlA{β:Type}(f:α->β)(l:List α)(lo hi:Option Int):yC (l.map f) lo hi=(yC l lo hi).map f:=by unfold yC;rw[List.length_map,List.map_take,List.map_drop]
theorem zjO(l:List Int)(lo hi:Option Int):wA (l.map V.int) lo hi=(yC l lo hi).map V.int:=zlA _ _ _ _
noncomputable def rdO(K:Fg)(ρ:En)(o:Option Int):TO:=λσ H Q=>∃F,Rel K F H ρ σ/\∀F' H',zE F H F' H'->Q o H'
structure FPO(K:Fg)(X:Cx)(e:Option Expr)(f:EO (Option Int)):Prop where
 h:∀ρ o,f ρ=some o->PO X e (rdO K ρ o)
variable{X:Cx}
theorem PO.imp{e:Option Expr}{t t':TO}(h:PO X e t)(w:∀σ H Q,t' σ H Q->t σ H Q):PO X e t':=λpins s σ H Q I ht=>h pins s σ H Q I (w σ H Q ht)
noncomputable def kB:EO (Option Int):=λ_=>some none
noncomputable def jP(f:EO D):EO (Option Int):=λρ=>match f ρ with
 |some (.int i)=>some (some i)
 |_=>none
noncomputable def cS(p:D->Option Int->Option Int->Option D)(fa:EO D)(fl fh:EO (Option Int)):EO D:=λρ=>(fa ρ).bind λx=>(fl ρ).bind λlo=>(fh ρ).bind λhi=>p x lo hi
variable{f:EO D}{e:Expr}{md:Md}
section
variable{K:Fg}{X:Cx}{a:Expr}{fa:EO D}{pos p2:Pos}{lo hi:Option Expr}{fl fh:EO (Option Int)}
theorem zdj:FPO K X none kB:=FPO.mk λρ o hf=>PO.imp zkM λσ H Q ⟨F,r,q⟩=>by cases hf;exact q F H (zE.refl r.sub)
theorem nA(h:FP K .fz X e f):FPO K X (some e) (jP f):=FPO.mk λρ o hf=>by
 unfold jP at hf;split at hf
 ·rename_i i e1;cases hf
  exact PO.imp (zkL (h.h ρ _ e1)) λσ H Q ⟨F,r,q⟩=>⟨F,r,λv F' H' g hr=>⟨i,Dat.int_inv (K:=K) (F:=F') hr,q F' H' g⟩⟩
 ·cases hf
def Sl3(K:Fg)(X:Cx)(md:Md)(p:D->Option Int->Option Int->Option D):Prop:=
 ∃r,SlR X r/\∀x lo hi d F H v Q,p x lo hi=some d->zG F H->zO K F H x v->(∀w F' H',zE F H F' H'->Res K md H F' H' d w->Q w H')->r v lo hi H Q
theorem zcJ{p:D->Option Int->Option Int->Option D}(o:Sl3 K X md p)(ha:FP K .br X a fa)(hl:FPO K X lo fl)(hh:FPO K X hi fh):FP K md X (.Subscript a (.Slice lo hi none p2) pos) (cS p fa fl fh):=FP.mk λρ d hf=>by
 unfold cS at hf;cases e1:fa ρ with
 |none=>rw[e1]at hf;cases hf
 |some x=>
  cases e2:fl ρ with
  |none=>rw[e1,e2]at hf;cases hf
  |some l=>
   cases e3:fh ρ with
   |none=>rw[e1,e2,e3]at hf;cases hf
   |some h=>
    rw[e1,e2,e3]at hf;obtain⟨r,ho,hr⟩:=o;refine PE.imp (zjh ho (ha.h ρ x e1) (hl.h ρ l e2) (hh.h ρ h e3)) λσ H Q h_=>?_
    obtain⟨F,rl,q⟩:=h_;refine⟨F,rl,λv F1 H1 g1 r1=>⟨F1,rl.grow g1,λF2 H2 g2=>⟨F2,(rl.grow g1).grow g2,λF3 H3 g3=>?_⟩⟩⟩;refine hr x l h d F3 H3 v Q hf g3.fh (zO.mono (g2.trans g3).ff (g2.trans g3).hh r1) λw F4 H4 g4 r4=>?_
    have g:=g1.trans (g2.trans (g3.trans g4));refine q w F4 H4 g ?_;cases md with
    |fz=>exact r4
    |br=>exact r4
    |ow=>
     obtain⟨a,e,h1,h2,h3⟩:=r4;exact⟨a,e,(g1.hh.trans (g2.hh.trans g3.hh)).free h1,h2,h3⟩
theorem nZ(hK:X.K=K:=by rfl):Sl3 K X .fz jS:=by
 subst hK;refine⟨_,SlR.or (zkC rfl) (SlR.or zkD zmc),λx lo hi d F H v Q e s h1 k=>?_⟩;cases x<;>simp only[jS]at e<;>try(cases e;done)
 ·obtain⟨hz,rfl⟩:=kQ e;exact .inr (.inr ⟨_,h1.str_inv,wU hz,λy _ ey=>by subst ey;exact k _ F H (zE.refl s) (Res.str _)⟩)
 ·rename_i l;cases e
  obtain⟨a,vs,rfl,f,q⟩:=h1.tup_inv;refine .inl ⟨a,vs,rfl,SqT.of (s _ _ f),λhw=>?_,λp hp=>?_⟩
  ·refine k _ F H (zE.refl s) ?_;have e:yC l lo hi=l:=by unfold yC;rw[q.length]at hw;rw[hw.1,hw.2,List.drop_zero,Nat.sub_zero,List.take_length]
   rw[e];exact h1
  ·have g:=zE.frozen (o:=.tup (wA vs lo hi)) s hp;exact k _ _ _ g (Dat.tup (K:=X.K) qK ((q.mono g.ff).cut lo hi))
 ·cases e
  obtain⟨a,vs,rfl,f,q⟩:=h1.lst_inv;refine .inr (.inl ⟨a,vs,rfl,SqL.of f,λp hp=>?_⟩);have g:=zE.frozen (o:=.lst (wA vs lo hi)) s hp;exact k _ _ _ g (Dat.lst (K:=X.K) qK ((q.mono g.ff).cut lo hi))
 ·rename_i ns;cases e
  obtain⟨a,rfl,f⟩:=h1.scr_inv;refine .inr (.inl ⟨a,_,rfl,zG.seq s f,λp hp=>?_⟩);rw[zjO];have g:=zE.frozen (o:=.lst ((yC ns lo hi).map V.int)) s hp;exact k _ _ _ g (Dat.lst (K:=X.K) qK (zC.ofInts _))
noncomputable def yX:D->Option D
 | .lst l=>some (.lst l.reverse)
 |_=>none
noncomputable def yK(x y:D):Option D:=match y with
 | .int (-1)=>yX x
 |_=>none
theorem frev{st:Expr}{fs:EO D}(ha:FP K .br X a fa)(hs:FP K .fz X st fs)(hK:X.K=K:=by rfl):FP K .ow X (.Subscript a (.Slice none none (some st) p2) pos) (c2 yK fa fs):=FP.mk λρ d hf=>by
 subst hK;obtain⟨x,y,e1,e2,e3⟩:=nM hf;unfold yK at e3;split at e3
 ·cases x<;>simp only[yX]at e3<;>try(cases e3;done)
  cases e3
  refine PE.imp (zmB (ha.h ρ _ e1) (hs.h ρ _ e2)) λσ H Q h_=>?_
  obtain⟨F,rl,q⟩:=h_;refine⟨F,rl,λv F1 H1 g1 r1=>⟨F1,rl.grow g1,λu F2 H2 g2 r2=>⟨Dat.int_inv (K:=X.K) (F:=F2) r2,?_⟩⟩⟩;obtain⟨a,vs,rfl,f,qq⟩:=zO.lst_inv (zO.mono g2.ff g2.hh r1);refine⟨a,vs,rfl,SqL.of f,λp hp=>?_⟩;have g:=g1.trans (g2.trans (zE.fresh (o:=.lst vs.reverse) g2.fh hp));exact q _ _ _ g ⟨p,rfl,(g1.hh.trans g2.hh).free hp,g2.fh.free hp,vs.reverse,qK,qq.reverse⟩
 ·cases e3
end
def zgQ(K:Fg)(F H:Hp):List D->List V->Prop
 |[],vs=>vs=[]
 |d::l,vs=>∃v r,vs=v::r/\zO K F H d v/\zgQ K F H l r
def ResL(K:Fg)(fz:Bool)(F' H':Hp)(ds:List D)(vs:List V):Prop:=if fz=true then zC K F' ds vs else zgQ K F' H' ds vs
noncomputable def rdA(K:Fg)(fz:Bool)(ρ:En)(ds:List D):TA:=λσ H Q=>∃F,Rel K F H ρ σ/\∀vs F' H',zE F H F' H'->ResL K fz F' H' ds vs->Q vs H'
structure FPs(K:Fg)(fz:Bool)(X:Cx)(es:List Expr)(f:EO (List D)):Prop where
 h:∀ρ ds,f ρ=some ds->PA X es (rdA K fz ρ ds)
noncomputable def zD:EO (List D):=λ_=>some []
noncomputable def zA(f:EO D)(fs:EO (List D)):EO (List D):=λρ=>(f ρ).bind λd=>(fs ρ).map λl=>d::l
noncomputable def cL(p:LO)(fs:EO (List D)):EO D:=λρ=>(fs ρ).bind p
noncomputable def zX(l:List D):Option D:=if l.length<=lim then some (.tup l)else none
noncomputable def qG(l:List D):Option D:=if l.length<=lim then some (.lst l)else none
variable{ρ:En}
section
variable{K:Fg}{X:Cx}{e:Expr}{es:List Expr}{f:EO D}{fs:EO (List D)}{pos:Pos}{fz:Bool}
theorem zF:FPs K fz X [] zD:=FPs.mk λρ ds hf=>PA.imp vN λσ H Q ⟨F,r,q⟩=>by
 cases hf
 refine q [] F H (zE.refl r.sub) ?_;unfold ResL;split
 ·exact zC.nil
 ·rfl
theorem zaU{ds:List D}(h:zA f fs ρ=some ds):∃d l,f ρ=some d/\fs ρ=some l/\ds=d::l:=by
 unfold zA at h;cases e1:f ρ with
 |none=>rw[e1]at h;cases h
 |some d=>
  cases e2:fs ρ with
  |none=>rw[e1,e2]at h;cases h
  |some l=>rw[e1,e2]at h;cases h;exact⟨d,l,rfl,rfl,rfl⟩
theorem zB(h1:FP K .fz X e f)(h2:FPs K true X es fs)(hs:starEach (e::es) X.env=(false,eval e X.env)::starEach es X.env:=by rfl):FPs K true X (e::es) (zA f fs):=FPs.mk λρ ds hf=>by
 obtain⟨d,l,e1,e2,rfl⟩:=zaU hf;refine PA.imp (yY (h1.h ρ d e1) (h2.h ρ l e2) hs) λσ H Q h_=>?_
 obtain⟨F,r,q⟩:=h_;refine⟨F,r,λv F1 H1 g1 r1=>⟨F1,r.grow g1,λvs F2 H2 g2 r2=>?_⟩⟩;exact q (v::vs) F2 H2 (g1.trans g2) (zC.cons (Dat.mono g2.ff r1) r2)
theorem wW(h1:FP K .br X e f)(h2:FPs K false X es fs)(hs:starEach (e::es) X.env=(false,eval e X.env)::starEach es X.env:=by rfl):FPs K false X (e::es) (zA f fs):=FPs.mk λρ ds hf=>by
 obtain⟨d,l,e1,e2,rfl⟩:=zaU hf;refine PA.imp (yY (h1.h ρ d e1) (h2.h ρ l e2) hs) λσ H Q h_=>?_
 obtain⟨F,r,q⟩:=h_;refine⟨F,r,λv F1 H1 g1 r1=>⟨F1,r.grow g1,λvs F2 H2 g2 r2=>?_⟩⟩;exact q (v::vs) F2 H2 (g1.trans g2) ⟨v,vs,rfl,zO.mono g2.ff g2.hh r1,r2⟩
theorem zbP{p:LO}{d:D}(h:cL p fs ρ=some d):∃l,fs ρ=some l/\p l=some d:=by
 unfold cL at h;cases e1:fs ρ with
 |none=>rw[e1]at h;cases h
 |some l=>rw[e1]at h;exact⟨l,rfl,h⟩
theorem qX{x1}(h:FPs K true X es fs):FP K .fz X (.Tuple es x1 pos) (cL zX fs):=FP.mk λρ d hf=>by
 obtain⟨l,e1,e2⟩:=zbP hf;obtain⟨hz,rfl⟩:=kQ e2;refine PE.imp (zmz (h.h ρ l e1)) λσ H Q ⟨F,r,q⟩=>⟨F,r,λvs F1 H1 g1 r1=>⟨?_,λp hp=>?_⟩⟩
 ·rw[zC.length (K:=K) (F:=F1) r1];exact wU hz
 ·have g:=zE.frozen (o:=.tup vs) g1.fh hp;exact q _ _ _ (g1.trans g) (Dat.tup (K:=K) qK (zC.mono g.ff r1))
theorem kE(h:FPs K true X es fs):FP K .ow X (.List es pos) (cL qG fs):=FP.mk λρ d hf=>by
 obtain⟨l,e1,e2⟩:=zbP hf;obtain⟨hz,rfl⟩:=kQ e2;refine PE.imp (zmF (h.h ρ l e1)) λσ H Q ⟨F,r,q⟩=>⟨F,r,λvs F1 H1 g1 r1=>⟨?_,λp hp=>?_⟩⟩
 ·rw[zC.length (K:=K) (F:=F1) r1];exact wU hz
 ·exact q _ _ _ (g1.trans (zE.fresh g1.fh hp)) ⟨p,rfl,g1.hh.free hp,g1.fh.free hp,vs,qK,r1⟩
end
def wZ(K:Fg)(X:Cx)(f:Value)(md:Md)(p:LO):Prop:=
 ∃r,yH X f r/\∀ds d F H vs Q,p ds=some d->zG F H->zgQ K F H ds vs->(∀w F' H',zE F H F' H'->Res K md H F' H' d w->Q w H')->r vs H Q
variable{y:Str}
section
variable{K:Fg}{X:Cx}{e:Expr}{es:List Expr}{f:EO D}{fs:EO (List D)}{pos p:Pos}{md:Md}{pf:LO}{x:Str}{id T:String}
theorem zfz{r:List V->Hp->VK->Prop}{d:D}(hr:∀F H vs Q,zG F H->zgQ K F H l vs->(∀w F' H',zE F H F' H'->Res K md H F' H' d w->Q w H')->r vs H Q)(σ:St)(H:Hp)(Q:VK)(h:rdE K md ρ d σ H Q):tCB r (rdA K false ρ l) σ H Q:=by
 obtain⟨F,rl,q⟩:=h;refine⟨F,rl,λvs F1 H1 g1 r1=>hr F1 H1 vs Q g1.fh r1 λw F2 H2 g2 r2=>?_⟩;refine q w F2 H2 (g1.trans g2) ?_;cases md with
 |fz=>exact r2
 |br=>exact r2
 |ow=>
  obtain⟨a,e,h1,h2,h3⟩:=r2;exact⟨a,e,g1.hh.free h1,h2,h3⟩
theorem zew(o:wZ K X (.builtin id) md pf)(hg:Gl X x)(hm:X.mg x=none)(hv:bootBuiltins x=some (.builtin id))(ha:FPs K false X (e::es) fs)(hn:x≠"__name__":=by decide)(hdb:(x==("__debug__":Str))=false:=by decide)(he:starEach (e::es) X.env=(false,eval e X.env)::starEach es X.env:=by rfl)(hpl:(backTo pos (starEach es X.env)).any (·.1)=false:=by rfl):FP K md X (.Call (.Name x p) (e::es) [] pos) (cL pf fs):=FP.mk λρ d hf=>by obtain⟨l,e1,e2⟩:=zbP hf;obtain⟨r,ho,hr⟩:=o;exact PE.imp (zdH ho hg hm hv (ha.h ρ l e1) hn hdb he hpl) (zfz λF H vs Q s h k=>hr l d F H vs Q e2 s h k)
theorem zev(o:wZ K X (.type T) md pf)(hg:Gl X x)(hm:X.mg x=none)(hv:bootBuiltins x=some (.type T))(ha:FPs K false X (e::es) fs)(hn:x≠"__name__":=by decide)(hdb:(x==("__debug__":Str))=false:=by decide)(he:starEach (e::es) X.env=(false,eval e X.env)::starEach es X.env:=by rfl)(hpl:(backTo pos (starEach es X.env)).any (·.1)=false:=by rfl):FP K md X (.Call (.Name x p) (e::es) [] pos) (cL pf fs):=FP.mk λρ d hf=>by obtain⟨l,e1,e2⟩:=zbP hf;obtain⟨r,ho,hr⟩:=o;exact PE.imp (zhw ho hg hm hv (ha.h ρ l e1) hn hdb he hpl) (zfz λF H vs Q s h k=>hr l d F H vs Q e2 s h k)
theorem zgQ.one{d:D}{vs:List V}(h:zgQ K F H [d] vs):∃v,vs=[v]/\zO K F H d v:=by obtain⟨v,r,rfl,h1,rfl⟩:=h;exact⟨v,rfl,h1⟩
noncomputable def jE:LO
 |[.lst l]=>some (.int l.length)
 |[.tup l]=>some (.int l.length)
 |[.scr l]=>some (.int l.length)
 |[.str z]=>if z.length<=lim then some (.int z.length)else none
 |_=>none
theorem zoE(hK:X.K=K:=by rfl):wZ K X (.builtin "len") .fz jE:=by
 subst hK;refine⟨_,yH.or zeB zeA,λds d F H vs Q e s h k=>?_⟩;unfold jE at e;split at e
 ·obtain⟨v,rfl,h1⟩:=h.one;cases e
  obtain⟨a,vs,rfl,f,q⟩:=h1.lst_inv;refine .inl ⟨a,vs,rfl,.inl (SqL.of f),?_⟩;rw[q.length];exact k _ F H (zE.refl s) (Res.int _)
 ·obtain⟨v,rfl,h1⟩:=h.one;cases e
  obtain⟨a,vs,rfl,f,q⟩:=h1.tup_inv;refine .inl ⟨a,vs,rfl,.inr (SqT.of (s _ _ f)),?_⟩;rw[q.length];exact k _ F H (zE.refl s) (Res.int _)
 ·obtain⟨v,rfl,h1⟩:=h.one;cases e
  obtain⟨a,rfl,f⟩:=h1.scr_inv;refine .inl ⟨a,_,rfl,.inl (zG.seq s f),?_⟩;rw[List.length_map];exact k _ F H (zE.refl s) (Res.int _)
 ·obtain⟨v,rfl,h1⟩:=h.one;obtain⟨hz,rfl⟩:=kQ e;rw[h1.str_inv];exact .inr ⟨_,rfl,wU hz,k _ F H (zE.refl s) (Res.int _)⟩
 ·cases e
noncomputable def kM:LO
 |[.lst l]=>some (.tup l)
 |[.tup l]=>some (.tup l)
 |_=>none
theorem zfn(hK:X.K=K:=by rfl):wZ K X (.type "tuple") .fz kM:=by
 subst hK;refine⟨_,zdT,λds d F H vs Q e s h k=>?_⟩;unfold kM at e;split at e
 ·obtain⟨v,rfl,h1⟩:=h.one;cases e
  obtain⟨a,vs,rfl,f,q⟩:=h1.lst_inv;refine⟨a,vs,rfl,.inl ⟨SqL.of f,λp hp=>?_⟩⟩;have g:=zE.frozen (o:=.tup vs) s hp;exact k _ _ _ g (Dat.tup (K:=X.K) qK (q.mono g.ff))
 ·obtain⟨v,rfl,h1⟩:=h.one;cases e
  obtain⟨a,vs,rfl,f,q⟩:=id h1.tup_inv;exact⟨a,vs,rfl,.inr ⟨SqT.of (s _ _ f),k _ F H (zE.refl s) h1⟩⟩
 ·cases e
noncomputable def xW:LO
 |[.lst l]=>some (.lst l)
 |[.tup l]=>some (.lst l)
 |_=>none
def zmQ(ns:List Int):Prop:=(∀n∈ns,0<=n)/\ns.sum<2^62
open Classical in
noncomputable def sumD:LO
 |[.lst l]=>(jY l).bind λns=>if zmQ ns then some (.int ns.sum)else none
 |_=>none
theorem zoD(hc:X.calm=true)(hK:X.K=K:=by rfl):wZ K X (.builtin "sum") .fz sumD:=by
 subst hK;refine⟨_,ziq hc,λds d F H vs Q e s h k=>?_⟩;unfold sumD at e;split at e
 ·rename_i l;cases e1:jY l with
  |none=>rw[e1]at e;cases e
  |some ns=>
   rw[e1]at e;obtain⟨hz,rfl⟩:=kQ e;obtain⟨v,rfl,h1⟩:=h.one;rw[zbb e1]at h1;obtain⟨a,vs,rfl,f,q⟩:=h1.lst_inv;rw[q.ints]at f;exact⟨a,ns,rfl,SqL.of f,zgp hz.1 hz.2,k _ F H (zE.refl s) (Res.int _)⟩
 ·cases e
noncomputable def vF:LO
 |[.int i]=>some (.int (if i<0 then -i else i))
 |_=>none
noncomputable def yR:LO
 |[.int i]=>some (.int i)
 |[.bl k]=>some (.int (if k then 1 else 0))
 |_=>none
theorem zoF:wZ K X (.type "int") .fz yR:=by
 refine⟨_,zir,λds d F H vs Q e s h k=>?_⟩;unfold yR at e;split at e
 ·obtain⟨v,rfl,h1⟩:=h.one;cases e
  rw[h1.int_inv];exact .inl ⟨_,rfl,k _ F H (zE.refl s) (Res.int _)⟩
 ·obtain⟨v,rfl,h1⟩:=h.one;cases e
  rw[h1.bl_inv];exact .inr ⟨_,rfl,k _ F H (zE.refl s) (Res.int _)⟩
 ·cases e
noncomputable def xU(x y:D):Option D:=match x,y with
 | .lst l,.int d=>(jY l).map λns=>.int (maxD ns d)
 |_,_=>none
noncomputable def tyN:D->Option String
 | .non=>some "NoneType"
 | .bl _=>some "bool"
 | .int _=>some "int"
 | .str _=>some "str"
 | .tup _=>some "tuple"
 | .lst _=>some "list"
 | .dic _ _=>some "dict"
 |_=>none
def yQ(k T:String):Bool:=k==T||(k=="bool"&&T=="int")
theorem zli(K:Fg):(["NoneType","bool","int","str","tuple","list","dict"].all λk=>["bool","int","str","tuple","list","dict"].all λT=>PySem.W.kitOne K (.type k) (.type T)==some (yQ k T))=true:=by kernel_rfl
theorem znb(K:Fg){k T:String}(hk:k∈["NoneType","bool","int","str","tuple","list","dict"])(hT:T∈["bool","int","str","tuple","list","dict"]):PySem.W.kitOne K (.type k) (.type T)=some (yQ k T):=by have h:=List.all_eq_true.mp (zli K) k hk;exact eq_of_beq (List.all_eq_true.mp h T hT)
noncomputable def kC(T:String)(x:D):Option D:=(tyN x).map λk=>.bl (yQ k T)
theorem zkz{d:D}{k:String}(h:tyN d=some k):k∈["NoneType","bool","int","str","tuple","list","dict"]:=by cases d<;>simp only[tyN]at h<;>cases h<;>decide
theorem zlO{d:D}{k:String}(s:zG F H)(h:zO K F H d v)(e:tyN d=some k):vK K H v (.type k):=by
 cases d<;>simp only[tyN]at e<;>cases e
 ·rw[h.non_inv];exact .non
 ·rw[h.bl_inv];exact .bl _
 ·rw[h.int_inv];exact .int _
 ·rw[h.str_inv];exact .str _
 ·obtain⟨a,vs,rfl,f,_⟩:=h.tup_inv;exact .tup (s _ _ f)
 ·obtain⟨a,vs,rfl,f,_⟩:=h.lst_inv;exact .lst f
 ·obtain⟨a,vs,rfl,f,_⟩:=h.dic_inv;rcases f with(⟨kvs,f,_⟩|⟨kvs,ys,f,_⟩)|⟨o,⟨kvs,f,_⟩|⟨kvs,ys,f,_⟩⟩
  ·exact .dK (.inl f)
  ·exact .dT (.inl f)
  ·exact .dK (.inr ⟨o,f⟩)
  ·exact .dT (.inr ⟨o,f⟩)
theorem fisi{a:Expr}{fa:EO D}{T:String}{p2:Pos}(ha:FP K .br X a fa)(hg:Gl X "isinstance")(hm:X.mg "isinstance"=none)(hgT:Gl X y)(hmT:X.mg y=none)(hv:bootBuiltins y=some (.type T))(hT:T∈["bool","int","str","tuple","list","dict"]:=by decide)(hn:y≠"__name__":=by decide)(hd:(y==("__debug__":Str))=false:=by decide)(he:starEach [a,.Name y p2] X.env=(false,eval a X.env)::starEach [.Name y p2] X.env:=by rfl)(he2:starEach [.Name y p2] X.env=[(false,eval (.Name y p2) X.env)]:=by rfl)(hpl:(backTo pos (starEach [.Name y p2] X.env)).any (·.1)=false:=by rfl)(hK:X.K=K:=by rfl):
  FP K .fz X (.Call (.Name "isinstance" p) [a,.Name y p2] [] pos) (c1 (kC T) fa):=FP.mk λρ d hf=>by
 subst hK;obtain⟨x,e1,e2⟩:=zfp hf;unfold kC at e2;cases e3:tyN x with
 |none=>rw[e3]at e2;cases e2
 |some k=>
  rw[e3]at e2;cases e2
  refine PE.imp (zdH zjR hg hm boot_isinstance (yY (ha.h ρ x e1) (yY (zkW (v:=.ty T) hgT hmT hv rfl hn hd) vN he2) he) (by decide) (by decide) he hpl) λσ H Q h_=>?_
  obtain⟨F,rl,q⟩:=h_;refine⟨F,rl,λv F1 H1 g1 r1=>⟨v,T,_,_,rfl,zlO g1.fh r1 e3,znb X.K (zkz e3) hT,q _ F1 H1 g1 (Res.bl _)⟩⟩
end
noncomputable def rdTp(K:Fg)(ρ:En)(b:Bool):TT:=λσ H Q=>∃F,Rel K F H ρ σ/\∀F' H',zE F H F' H'->Q b H'
structure FTp(K:Fg)(X:Cx)(e:Expr)(f:EO Bool):Prop where
 h:∀ρ b,f ρ=some b->PT X e (rdTp K ρ b)
structure FWp(K:Fg)(X:Cx)(e:Expr)(f:EO Bool):Prop where
 h:∀ρ b,f ρ=some b->PW X e (rdTp K ρ b)
noncomputable def rdT(K:Fg)(ρ:En)(b:Bool)(ρ':En):TT:=λσ H Q=>∃F,Rel K F H ρ σ/\∀F' H',Rel K F' H' ρ' σ->qI ρ σ F H ρ' σ F' H'->Q b H'
structure FT(K:Fg)(X:Cx)(e:Expr)(m:EO (Bool×En)):Prop where
 h:∀ρ b ρ',m ρ=some (b,ρ')->PT X e (rdT K ρ b ρ')
noncomputable def cT(f:EO D):EO Bool:=λρ=>match f ρ with
 |some (.bl b)=>some b
 |_=>none
noncomputable def jN(f g:EO Bool):EO Bool:=λρ=>(f ρ).bind λb=>if b=true then g ρ else some false
noncomputable def orP(f g:EO Bool):EO Bool:=λρ=>(f ρ).bind λb=>if b=true then some true else g ρ
noncomputable def jL(f:EO Bool):EO Bool:=λρ=>(f ρ).map λb=>!b
noncomputable def upT(f:EO Bool):EO (Bool×En):=λρ=>(f ρ).map λb=>(b,ρ)
theorem zfo{b:Bool}(h:cT f ρ=some b):f ρ=some (.bl b):=by
 unfold cT at h;split at h
 ·rename_i e;cases h;exact e
 ·cases h
theorem ziB{f g:EO Bool}{b:Bool}(h:jN f g ρ=some b):(f ρ=some true/\g ρ=some b)\/(f ρ=some false/\b=false):=by
 unfold jN at h;cases e:f ρ with
 |none=>rw[e]at h;cases h
 |some c=>
  rw[e]at h;cases c with
  |true=>exact .inl ⟨rfl,h⟩
  |false=>exact .inr ⟨rfl,(Option.some.inj h).symm⟩
theorem zjo{f g:EO Bool}{b:Bool}(h:orP f g ρ=some b):(f ρ=some false/\g ρ=some b)\/(f ρ=some true/\b=true):=by
 unfold orP at h;cases e:f ρ with
 |none=>rw[e]at h;cases h
 |some c=>
  rw[e]at h;cases c with
  |false=>exact .inl ⟨rfl,h⟩
  |true=>exact .inr ⟨rfl,(Option.some.inj h).symm⟩
theorem zfN:PW X e (λ_ _ _=>False):=λ_ _ _ _ _ _ _ h=>h.elim
theorem zfO:PE X e (λ_ _ _=>False):=λ_ _ _ _ _ _ h=>h.elim
variable{op:CmpOp}
section
variable{K:Fg}{X:Cx}{a b e:Expr}{rest:List Expr}{fa fb f:EO D}{pos:Pos}{p:D->D->Option D}{t u:EO Bool}{m n:EO (Bool×En)}
theorem tcmp(o:Op2 K X (compareOp op) .fz p)(ha:FP K .br X a fa)(hb:FP K .br X b fb)(hm:behindInMarks op b=false):FTp K X (.Compare a [op] [b] pos) (cT (c2 p fa fb)):=FTp.mk λρ c hf=>by
 obtain⟨x,y,e1,e2,e3⟩:=nM (zfo hf);obtain⟨r,ho,hr⟩:=o;refine PT.imp (zhp ho (ha.h ρ x e1) (hb.h ρ y e2) hm) λσ H Q h_=>?_
 obtain⟨F,rl,q⟩:=h_;refine two (md:=.fz) (d:=.bl c) (ta:=λ_ _ _=>True) (tb:=λ_ _ _=>True) (ha.h ρ x e1) (hb.h ρ y e2) (λF H v u Q s h1 h2 k=>hr x y _ F H v u Q e3 s h1 h2 k) σ H _ ⟨F,rl,λv F' H' g h=>⟨c,Dat.bl_inv (K:=K) (F:=F') h,q F' H' g⟩⟩
theorem znJ(o:Op2f K X (compareOp op) p)(ha:FP K .fz X a fa)(hb:FP K .br X b fb)(hm:behindInMarks op b=false):FTp K X (.Compare a [op] [b] pos) (cT (c2 p fa fb)):=FTp.mk λρ c hf=>by
 obtain⟨x,y,e1,e2,e3⟩:=nM (zfo hf);obtain⟨r,ho,hr⟩:=o;refine PT.imp (zhp ho (ha.h ρ x e1) (hb.h ρ y e2) hm) λσ H Q h_=>?_
 obtain⟨F,rl,q⟩:=h_;exact znI (d:=.bl c) (ha.h ρ x e1) (hb.h ρ y e2) (λF H v u Q s h1 h2 k=>hr x y _ F H v u Q e3 s h1 h2 k) σ H _ ⟨F,rl,λv F' H' g h=>⟨c,Dat.bl_inv (K:=K) (F:=F') h,q F' H' g⟩⟩
theorem yW(h:FP K .fz X e f)(he:∀whole,isTrue e X.env whole=(do let v ←whole;standAt e.pos;holding [v] (truthy v)):=by intro _;rfl):FTp K X e (cT f):=FTp.mk λρ c hf=>
 PT.imp (zmo (h.h ρ _ (zfo hf)) he) λσ H Q ⟨F,rl,q⟩=>⟨F,rl,λv F' H' g h=>⟨c,Dat.bl_inv (K:=K) (F:=F') h,q F' H' g⟩⟩
noncomputable def yI:D->Option Bool
 | .non=>some false
 | .bl b=>some b
 | .int i=>some (i !=0)
 | .str z=>if z.length<=lim then some ((z.length:Int)!=0)else none
 | .lst l=>some (!l.isEmpty)
 | .tup l=>some (!l.isEmpty)
 |_=>none
noncomputable def cTr(f:EO D):EO Bool:=λρ=>(f ρ).bind yI
theorem zC.empty{vs:List V}(q:zC K F l vs):vs.isEmpty=l.isEmpty:=by have:=q.length;cases l<;>cases vs<;>simp at this ⊢
theorem gA(h:FP K .br X e f)(he:∀whole,isTrue e X.env whole=(do let v ←whole;standAt e.pos;holding [v] (truthy v)):=by intro _;rfl)(hK:X.K=K:=by rfl):FTp K X e (cTr f):=FTp.mk λρ c hf=>by
 subst hK;unfold cTr at hf;cases e1:f ρ with
 |none=>rw[e1]at hf;cases hf
 |some d=>
  rw[e1]at hf;have hf:yI d=some c:=hf;refine PT.imp (ziZ (h.h ρ d e1) he) λσ H Q ⟨F,rl,q⟩=>⟨F,rl,λv F' H' g h=>⟨c,?_,q F' H' g⟩⟩
  have h:zO X.K F' H' d v:=h;cases d<;>simp only[yI]at hf<;>try(cases hf;done)
  ·cases hf;rw[h.non_inv];rfl
  ·cases hf;rw[h.bl_inv];rfl
  ·cases hf;rw[h.int_inv];rfl
  ·obtain⟨hz,rfl⟩:=kQ hf;rw[h.str_inv];exact⟨wU hz,rfl⟩
  ·cases hf
   obtain⟨a,vs,rfl,f,q⟩:=h.tup_inv;exact .inr (.inl ⟨vs,SqT.of (g.fh _ _ f),by rw[q.empty]⟩)
  ·cases hf
   obtain⟨a,vs,rfl,f,q⟩:=h.lst_inv;exact .inl ⟨vs,SqL.of f,by rw[q.empty]⟩
theorem zgY(h:FTp K X a t):FWp K X (.BoolOp .And [a] pos) t:=FWp.mk λρ c hf=>zkG (h.h ρ c hf)
theorem tor1(h:FTp K X a t):FWp K X (.BoolOp .Or [a] pos) t:=FWp.mk λρ c hf=>zmm (h.h ρ c hf)
theorem gR(h1:FTp K X a t)(h2:FWp K X (.BoolOp .And (b::rest) pos) u):FWp K X (.BoolOp .And (a::b::rest) pos) (jN t u):=FWp.mk λρ c hf=>by
 rcases ziB hf with⟨e1,e2⟩|⟨e1,rfl⟩
 ·exact PW.imp (zkd (h1.h ρ _ e1) (h2.h ρ c e2)) λσ H Q ⟨F,rl,q⟩=>⟨F,rl,λF1 H1 g1=>nH ⟨F1,rl.grow g1,λF2 H2 g2=>q F2 H2 (g1.trans g2)⟩⟩
 ·exact PW.imp (zkd (h1.h ρ _ e1) zfN) λσ H Q ⟨F,rl,q⟩=>⟨F,rl,λF1 H1 g1=>nJ (q F1 H1 g1)⟩
theorem tor(h1:FTp K X a t)(h2:FWp K X (.BoolOp .Or (b::rest) pos) u):FWp K X (.BoolOp .Or (a::b::rest) pos) (orP t u):=FWp.mk λρ c hf=>by
 rcases zjo hf with⟨e1,e2⟩|⟨e1,rfl⟩
 ·exact PW.imp (zmn (h1.h ρ _ e1) (h2.h ρ c e2)) λσ H Q ⟨F,rl,q⟩=>⟨F,rl,λF1 H1 g1=>nJ ⟨F1,rl.grow g1,λF2 H2 g2=>q F2 H2 (g1.trans g2)⟩⟩
 ·exact PW.imp (zmn (h1.h ρ _ e1) zfN) λσ H Q ⟨F,rl,q⟩=>⟨F,rl,λF1 H1 g1=>nH (q F1 H1 g1)⟩
theorem FWp.pt(h:FWp K X e t):FTp K X e t:=FTp.mk λρ c hf=>(h.h ρ c hf).pt
theorem gB(h:FTp K X a t):FTp K X (.UnaryOp .Not a pos) (jL t):=FTp.mk λρ c hf=>by
 unfold jL at hf;cases e1:t ρ with
 |none=>rw[e1]at hf;cases hf
 |some d=>
  rw[e1]at hf;cases hf
  exact PT.imp (zmp (h.h ρ d e1)) λσ H Q ⟨F,rl,q⟩=>⟨F,rl,λF1 H1 g1=>q F1 H1 g1⟩
theorem FTp.up(h:FTp K X e t):FT K X e (upT t):=FT.mk λρ c ρ' hf=>by
 unfold upT at hf;cases e1:t ρ with
 |none=>rw[e1]at hf;cases hf
 |some d=>
  rw[e1]at hf;cases hf
  exact PT.imp (h.h ρ c e1) λσ H Q ⟨F,rl,q⟩=>⟨F,rl,λF1 H1 g1=>q F1 H1 (rl.grow g1) g1.step⟩
noncomputable def yE(f g:EO D):EO D:=λρ=>match f ρ with
 |some (.bl true)=>g ρ
 |some (.bl false)=>some (.bl false)
 |_=>none
noncomputable def orV(f g:EO D):EO D:=λρ=>match f ρ with
 |some (.bl true)=>some (.bl true)
 |some (.bl false)=>g ρ
 |_=>none
noncomputable def yA(f:EO D):EO D:=λρ=>match f ρ with
 |some (.bl b)=>some (.bl (!b))
 |_=>none
theorem vone{op}(h:FP K .fz X a f):FP K .fz X (.BoolOp op [a] pos) f:=FP.mk λρ d hf=>zmD (h.h ρ d hf)
theorem vand(h1:FP K .fz X a fa)(h2:FP K .fz X (.BoolOp .And (b::rest) pos) fb):FP K .fz X (.BoolOp .And (a::b::rest) pos) (yE fa fb):=FP.mk λρ d hf=>by
 unfold yE at hf;split at hf
 ·rename_i e1;exact PE.imp (zkg (h1.h ρ _ e1) (h2.h ρ d hf)) λσ H Q ⟨F,rl,q⟩=>⟨F,rl,λv F1 H1 g1 r1=>⟨true,Dat.bl_inv (K:=K) (F:=F1) r1,nH ⟨F1,rl.grow g1,λu F2 H2 g2 r2=>q u F2 H2 (g1.trans g2) r2⟩⟩⟩
 ·rename_i e1;cases hf
  exact PE.imp (zkg (h1.h ρ _ e1) zfO) λσ H Q ⟨F,rl,q⟩=>⟨F,rl,λv F1 H1 g1 r1=>⟨false,Dat.bl_inv (K:=K) (F:=F1) r1,nJ (q _ F1 H1 g1 (Res.bl false))⟩⟩
 ·cases hf
theorem vor(h1:FP K .fz X a fa)(h2:FP K .fz X (.BoolOp .Or (b::rest) pos) fb):FP K .fz X (.BoolOp .Or (a::b::rest) pos) (orV fa fb):=FP.mk λρ d hf=>by
 unfold orV at hf;split at hf
 ·rename_i e1;cases hf
  exact PE.imp (zmC (h1.h ρ _ e1) zfO) λσ H Q ⟨F,rl,q⟩=>⟨F,rl,λv F1 H1 g1 r1=>⟨true,Dat.bl_inv (K:=K) (F:=F1) r1,nH (q _ F1 H1 g1 (Res.bl true))⟩⟩
 ·rename_i e1;exact PE.imp (zmC (h1.h ρ _ e1) (h2.h ρ d hf)) λσ H Q ⟨F,rl,q⟩=>⟨F,rl,λv F1 H1 g1 r1=>⟨false,Dat.bl_inv (K:=K) (F:=F1) r1,nJ ⟨F1,rl.grow g1,λu F2 H2 g2 r2=>q u F2 H2 (g1.trans g2) r2⟩⟩⟩
 ·cases hf
theorem vnot(h1:FP K .fz X a fa):FP K .fz X (.UnaryOp .Not a pos) (yA fa):=FP.mk λρ d hf=>by
 unfold yA at hf;split at hf
 ·rename_i e1;cases hf
  exact PE.imp (zmE (h1.h ρ _ e1)) λσ H Q ⟨F,rl,q⟩=>⟨F,rl,λv F1 H1 g1 r1=>⟨_,Dat.bl_inv (K:=K) (F:=F1) r1,q _ F1 H1 g1 (Res.bl _)⟩⟩
 ·cases hf
noncomputable def kO:D->Option D
 | .int i=>some (.int (-i))
 |_=>none
theorem fneg(h:FP K .fz X a fa):FP K .fz X (.UnaryOp .USub a pos) (c1 kO fa):=FP.mk λρ d hf=>by
 obtain⟨x,e1,e2⟩:=zfp hf;cases x<;>simp only[kO]at e2<;>try(cases e2;done)
 cases e2
 exact PE.imp (zoh zlN (h.h ρ _ e1)) λσ H Q ⟨F,rl,q⟩=>⟨F,rl,λv F1 H1 g1 r1=>⟨_,Dat.int_inv (K:=K) (F:=F1) r1,q _ F1 H1 g1 (Res.int _)⟩⟩
end
open L2 FX
def ExcD(K:Fg)(F:Hp)(c:Str)(d:D)(C da:Addr):Prop:=∃u,PySem.W.nsIn K mainGlobals c=some (some (.ref C))/\F da=some (.xd [(zjI c,u)])/\Dat K F d u
def Wish(X:Cx)(σ:St)(C da:Addr)(H:Hp):Prop:=∀(pins:AO) (a:Addr) (tb:Option Addr) (s:Shared),Inv X pins σ H s->Fly s.heap a (.ref C) (some da) tb .none->yF X pins H a->(∀T,tb=some T->yF X pins H T)->X.xe (.ref a) s
section
variable{X:Cx}{pins:AO}{σ:St}{H:Hp}{s:Shared}{h':Heap}
end
variable{a:Addr}{j:Nat}{sl:Option Sl}{ρ2:En}{σ2:St}
section
variable{K:Fg}{F H F' H':Hp}{ρ ρ':En}{σ σ':St}{i:Nat}
theorem qF{l:List α}{i:Nat}{x y:α}(h:(l.set i x)[j]?=some y):(j=i/\y=x)\/(j≠i/\l[j]?=some y):=by
 by_cases e:j=i
 ·subst e;rw[List.getElem?_set]at h;simp at h;exact .inl ⟨rfl,h.2.symm⟩
 ·rw[List.getElem?_set_ne (Ne.symm e)]at h;exact .inr ⟨e,h⟩
theorem zch{l:List α}{i:Nat}{x:α}(h:i<l.length):(l.set i x)[i]?=some x:=by simp[h]
theorem zfy{l:List α}{i:Nat}{x y:α}(h:(l.set i x)[i]?=some y):i<l.length:=by have:=(List.getElem?_eq_some_iff.mp h).1;simpa using this
theorem Rel.setD(r:Rel K F H ρ σ){d:D}(h:Dat K F d v):Rel K F H (ρ.set i (some (.dat d))) (σ.set i (some v)):=by
 refine⟨r.sub,λj x e=>?_,λj x e=>?_,λj q x e=>?_,λj k q x s a ne e1 e2 e3 e4=>?_,by simp[r.len]⟩
 ·rcases qF e with⟨rfl,e'⟩|⟨ne,e'⟩
  ·cases e'
   exact⟨v,zch (by rw[←r.len];exact zfy e),h⟩
  ·rw[List.getElem?_set_ne (Ne.symm ne)];exact r.dat j x e'
 ·rcases qF e with⟨rfl,e'⟩|⟨ne,e'⟩
  ·cases e'
  ·rw[List.getElem?_set_ne (Ne.symm ne)];exact r.bor j x e'
 ·rcases qF e with⟨rfl,e'⟩|⟨ne,e'⟩
  ·cases e'
  ·rw[List.getElem?_set_ne (Ne.symm ne)];exact r.own j q x e'
 ·rcases qF e1 with⟨rfl,e'⟩|⟨ne1,e1'⟩
  ·cases e'
  ·rcases qF e3 with⟨rfl,e'⟩|⟨ne3,e3'⟩
   ·cases e';cases e4
   ·rw[List.getElem?_set_ne (Ne.symm ne1)]at e2;rw[List.getElem?_set_ne (Ne.symm ne3)];exact r.inj j k q x s a ne e1' e2 e3' e4
theorem Rel.setN(r:Rel K F H ρ σ){v:Option V}:Rel K F H (ρ.set i none) (σ.set i v):=by
 refine⟨r.sub,λj x e=>?_,λj x e=>?_,λj q x e=>?_,λj k q x s a ne e1 e2 e3 e4=>?_,by simp[r.len]⟩
 ·rcases qF e with⟨rfl,e'⟩|⟨ne,e'⟩
  ·cases e'
  ·rw[List.getElem?_set_ne (Ne.symm ne)];exact r.dat j x e'
 ·rcases qF e with⟨rfl,e'⟩|⟨ne,e'⟩
  ·cases e'
  ·rw[List.getElem?_set_ne (Ne.symm ne)];exact r.bor j x e'
 ·rcases qF e with⟨rfl,e'⟩|⟨ne,e'⟩
  ·cases e'
  ·rw[List.getElem?_set_ne (Ne.symm ne)];exact r.own j q x e'
 ·rcases qF e1 with⟨rfl,e'⟩|⟨ne1,e1'⟩
  ·cases e'
  ·rcases qF e3 with⟨rfl,e'⟩|⟨ne3,e3'⟩
   ·cases e'
   ·rw[List.getElem?_set_ne (Ne.symm ne1)]at e2;rw[List.getElem?_set_ne (Ne.symm ne3)];exact r.inj j k q x s a ne e1' e2 e3' e4
theorem Rel.drop(r:Rel K F H ρ σ):Rel K F H (ρ.set i none) σ:=by
 by_cases hi:i<σ.length
 ·have h:=r.setN (i:=i) (v:=σ[i]);rw[List.set_getElem_self]at h;exact h
 ·have e:ρ.set i none=ρ:=List.set_eq_of_length_le (by rw[r.len];omega);rw[e];exact r
theorem Rel.setO(r0:Rel K F H ρ σ)(g:zE F H F' H'){d:D}(hn:H a=none)(hf:F' a=none)(ho:Own K F' H' d a)(nb:∀(j:Nat) (s:Sl),ρ[j]?=some (some s)->s.isDat=false->∃q x,s=.ow q x):
  Rel K F' H' (ρ.set i (some (.own d))) (σ.set i (some (.ref a))):=by
 have r:=r0.grow g;have nf:∀(j:Nat) s,ρ[j]?=some (some s)->s.isDat=false->σ[j]?≠some (some (.ref a)):=λj s e hs z=>by
  obtain⟨q,x,rfl⟩:=nb j s e hs;obtain⟨b,e1,_,e3⟩:=r0.own j q x e;rw[z]at e1;cases e1
  obtain⟨o,e4⟩:=e3.some;rw[hn]at e4;cases e4
 refine⟨r.sub,λj x e=>?_,λj x e=>?_,λj q x e=>?_,λj k q x s c ne e1 e2 e3 e4=>?_,by simp[r.len]⟩
 ·rcases qF e with⟨rfl,e'⟩|⟨ne,e'⟩
  ·cases e'
  ·rw[List.getElem?_set_ne (Ne.symm ne)];exact r.dat j x e'
 ·rcases qF e with⟨rfl,e'⟩|⟨ne,e'⟩
  ·cases e'
  ·rw[List.getElem?_set_ne (Ne.symm ne)];exact r.bor j x e'
 ·rcases qF e with⟨rfl,e'⟩|⟨ne,e'⟩
  ·cases e'
   exact⟨a,zch (by rw[←r.len];exact zfy e),hf,ho⟩
  ·rw[List.getElem?_set_ne (Ne.symm ne)];exact r.own j q x e'
 ·rcases qF e1 with⟨rfl,e1'⟩|⟨ne1,e1'⟩
  ·cases e1'
   rw[zch (by rw[←r.len];exact zfy e1)]at e2;cases e2
   rcases qF e3 with⟨rfl,e3'⟩|⟨ne3,e3'⟩
   ·exact absurd rfl ne
   ·rw[List.getElem?_set_ne (Ne.symm ne3)];exact nf k s e3' e4
  ·rw[List.getElem?_set_ne (Ne.symm ne1)]at e2;rcases qF e3 with⟨rfl,e3'⟩|⟨ne3,e3'⟩
   ·rw[zch (by rw[←r.len];exact zfy e3)];intro z;cases z
    exact nf j _ e1' rfl e2
   ·rw[List.getElem?_set_ne (Ne.symm ne3)];exact r.inj j k q x s c ne e1' e2 e3' e4
theorem zbm{v:Option V}{b:Addr}(h:xH (ρ.set i sl) (σ.set i v) b):(∃q d,sl=some (.ow q d)/\v=some (.ref b))\/xH ρ σ b:=by
 obtain⟨j,q,d,e1,e2⟩:=h;rcases qF e1 with⟨rfl,e1'⟩|⟨ne,e1'⟩
 ·rcases qF e2 with⟨_,e2'⟩|⟨ne,_⟩
  ·exact .inl ⟨q,d,e1'.symm,e2'.symm⟩
  ·exact absurd rfl ne
 ·rw[List.getElem?_set_ne (Ne.symm ne)]at e2;exact .inr ⟨j,q,d,e1',e2⟩
theorem zdi{b:Addr}(h:xH (ρ.set i none) σ b):xH ρ σ b:=by
 obtain⟨j,q,d,e1,e2⟩:=h;rcases qF e1 with⟨rfl,e1'⟩|⟨ne,e1'⟩
 ·cases e1'
 ·exact⟨j,q,d,e1',e2⟩
structure Kp(ρ:En)(σ:St)(ρ':En)(σ':St):Prop where
 own:∀b,xH ρ' σ' b->xH ρ σ b
 pin:∀(i:Nat) (d':D),ρ'[i]?=some (some (.ow true d'))->∃d,ρ[i]?=some (some (.ow true d))/\σ'[i]?=σ[i]?
theorem Kp.refl:Kp ρ σ ρ σ:=⟨λ_ h=>h,λ_ d e=>⟨d,e,rfl⟩⟩
theorem Kp.trans(a:Kp ρ σ ρ' σ')(b:Kp ρ' σ' ρ2 σ2):Kp ρ σ ρ2 σ2:=⟨λc h=>a.own c (b.own c h),λi d e=>by obtain⟨d1,e1,e2⟩:=b.pin i d e;obtain⟨d2,e3,e4⟩:=a.pin i d1 e1;exact⟨d2,e3,e2.trans e4⟩⟩
theorem zdG{v:Option V}(hs:∀d,sl≠some (.ow true d)):∀(j:Nat) (d':D),(ρ.set i sl)[j]?=some (some (.ow true d'))->∃d,ρ[j]?=some (some (.ow true d))/\(σ.set i v)[j]?=σ[j]?:=λj d' e=>by
 rcases qF e with⟨rfl,e'⟩|⟨ne,e'⟩
 ·exact absurd e'.symm (hs d')
 ·exact⟨d',e',List.getElem?_set_ne (Ne.symm ne)⟩
theorem zfH:∀(j:Nat) (d':D),(ρ.set i none)[j]?=some (some (.ow true d'))->∃d,ρ[j]?=some (some (.ow true d))/\σ[j]?=σ[j]?:=λj d' e=>by
 rcases qF e with⟨rfl,e'⟩|⟨ne,e'⟩
 ·cases e'
 ·exact⟨d',e',rfl⟩
theorem Kp.setD{d:D}{v:Option V}:Kp ρ σ (ρ.set i (some (.dat d))) (σ.set i v):=⟨λb z=>by
 rcases zbm z with⟨_,_,z,_⟩|z
 ·cases z
 ·exact z,zdG λd h=>by cases h⟩
theorem qI.kp(a:qI ρ σ F H ρ' σ' F' H')(k:Kp ρ' σ' ρ2 σ2):qI ρ σ F H ρ2 σ2 F' H':=⟨a.ff,a.rest,λb z=>a.own b (k.own b z),λi d e=>by obtain⟨d1,e1,e2⟩:=k.pin i d e;obtain⟨d2,e3,e4⟩:=a.pin i d1 e1;exact⟨d2,e3,e2.trans e4⟩,a.fh⟩
end
inductive Fl where
 |nx (ρ:En)|rt (d:D) (ρ:En)|bk (ρ:En)|ct (ρ:En)|rs (c:Str) (d:D) (ρ:En)
def nO(K:Fg)(md:Md)(ρ:En)(σ:St)(H F' H':Hp)(d:D)(v:V):Prop:=match md with
 | .fz=>Dat K F' d v
 | .ow=>∃a,v=.ref a/\(H a=none\/xH ρ σ a)/\F' a=none/\Own K F' H' d a
 | .br=>False
noncomputable def rdS(X:Cx)(K:Fg)(md:Md)(ρ:En)(fl:Fl):TS:=λD σ H=>∃F,Rel K F H ρ σ/\match fl with
 | .nx ρ'=>∀σ' F' H',Rel K F' H' ρ' σ'->qI ρ σ F H ρ' σ' F' H'->D.nx σ' H'
 | .bk ρ'=>∀σ' F' H',Rel K F' H' ρ' σ'->qI ρ σ F H ρ' σ' F' H'->D.bk σ' H'
 | .ct ρ'=>∀σ' F' H',Rel K F' H' ρ' σ'->qI ρ σ F H ρ' σ' F' H'->D.ct σ' H'
 | .rt d ρ'=>∀v σ' F' H',Rel K F' H' ρ' σ'->qI ρ σ F H ρ' σ' F' H'->nO K md ρ σ H F' H' d v->D.rt v H'
 | .rs c d ρ'=>∀σ' F' H' C da,Rel K F' H' ρ' σ'->qI ρ σ F H ρ' σ' F' H'->ExcD K F' c d C da->Wish X σ' C da H'
structure FS(K:Fg)(md:Md)(X:Cx)(st:Stmt)(m:EO Fl):Prop where
 h:∀ρ fl,m ρ=some fl->PS X st (rdS X K md ρ fl)
structure FSs(K:Fg)(md:Md)(X:Cx)(sts:List Stmt)(m:EO Fl):Prop where
 h:∀ρ fl,m ρ=some fl->PSs X sts (rdS X K md ρ fl)
noncomputable def nxM:EO Fl:=λρ=>some (.nx ρ)
noncomputable def zI(m n:EO Fl):EO Fl:=λρ=>match m ρ with
 |some (.nx ρ1)=>n ρ1
 |r=>r
variable{ρ':En}{σ σ':St}{F' H':Hp}
theorem nO.back{F2 H2:Hp}{d:D}(a:qI ρ σ F H ρ' σ' F' H')(s:zG F H)(h:nO K md ρ' σ' H' F2 H2 d v):nO K md ρ σ H F2 H2 d v:=by
 cases md with
 |fz=>exact h
 |br=>exact h
 |ow=>
  obtain⟨b,e,h1,h2,h3⟩:=h;exact⟨b,e,a.back s h1,h2,h3⟩
theorem rdS.after{fl:Fl}{D:Ends}(s:zG F H)(r:Rel K F' H' ρ' σ')(a:qI ρ σ F H ρ' σ' F' H')(h:match fl with
   | .nx ρ'=>∀σ' F' H',Rel K F' H' ρ' σ'->qI ρ σ F H ρ' σ' F' H'->D.nx σ' H'
   | .bk ρ'=>∀σ' F' H',Rel K F' H' ρ' σ'->qI ρ σ F H ρ' σ' F' H'->D.bk σ' H'
   | .ct ρ'=>∀σ' F' H',Rel K F' H' ρ' σ'->qI ρ σ F H ρ' σ' F' H'->D.ct σ' H'
   | .rt d ρ'=>∀v σ' F' H',Rel K F' H' ρ' σ'->qI ρ σ F H ρ' σ' F' H'->nO K md ρ σ H F' H' d v->D.rt v H'
   | .rs c d ρ'=>∀σ' F' H' C da,Rel K F' H' ρ' σ'->qI ρ σ F H ρ' σ' F' H'->ExcD K F' c d C da->Wish X σ' C da H'):rdS X K md ρ' fl D σ' H':=by
 refine⟨F',r,?_⟩;cases fl with
 |nx ρ2=>exact λσ2 F2 H2 r2 s2=>h σ2 F2 H2 r2 (a.trans s2 s)
 |bk ρ2=>exact λσ2 F2 H2 r2 s2=>h σ2 F2 H2 r2 (a.trans s2 s)
 |ct ρ2=>exact λσ2 F2 H2 r2 s2=>h σ2 F2 H2 r2 (a.trans s2 s)
 |rt d ρ2=>exact λv σ2 F2 H2 r2 s2 q=>h v σ2 F2 H2 r2 (a.trans s2 s) (nO.back a s q)
 |rs c d ρ2=>exact λσ2 F2 H2 C da r2 s2 x=>h σ2 F2 H2 C da r2 (a.trans s2 s) x
variable{g:D->EO En}{p pos':Pos}{x:Str}{c tg:Expr}{es:List Expr}{gs:List D->EO En}
section
variable{K:Fg}{md:Md}{X:Cx}{st:Stmt}{rest:List Stmt}{m n:EO Fl}{e:Expr}{f:EO D}{pos:Pos}
theorem jV:FSs K md X [] nxM:=FSs.mk λρ fl hf=>by
 cases hf
 exact PSs.imp zkI λD σ H ⟨F,r,q⟩=>q σ F H r (zE.refl r.sub).step
theorem zU(h:FS K md X st m):FSs K md X [st] m:=FSs.mk λρ fl hf=>zkH (h.h ρ fl hf)
theorem zN(h1:FS K md X st m)(h2:FSs K md X rest n):FSs K md X (st::rest) (zI m n):=FSs.mk λρ fl hf=>by
 unfold zI at hf;split at hf
 ·rename_i ρ1 e1;refine PSs.imp (zfD (h1.h ρ _ e1) (h2.h ρ1 fl hf)) λD σ H ⟨F,r,q⟩=>⟨F,r,λσ1 F1 H1 r1 s1=>?_⟩
  exact rdS.after r.sub r1 s1 q
 ·rename_i hno;refine PSs.imp (zfD (h1.h ρ fl hf) zcp) λD σ H ⟨F,r,q⟩=>⟨F,r,?_⟩
  cases fl with
  |nx ρ1=>exact absurd hf (hno ρ1)
  |bk ρ1=>exact q
  |ct ρ1=>exact q
  |rt d ρ1=>exact q
  |rs c d ρ1=>exact q
noncomputable def vA(f:EO D):EO Fl:=λρ=>(f ρ).map λ_=>.nx ρ
noncomputable def zV(f:EO D):EO Fl:=λρ=>(f ρ).map λd=>.rt d ρ
theorem qL(he:FP K .fz X e f):FS K .fz X (.Return (some e) pos) (zV f):=FS.mk λρ fl hf=>by
 unfold zV at hf;cases e1:f ρ with
 |none=>rw[e1]at hf;cases hf
 |some d=>
  rw[e1]at hf;cases hf
  exact PS.imp (zfE (he.h ρ d e1)) λD σ H ⟨F,r,q⟩=>⟨F,r,λv F1 H1 g1 h=>q v σ F1 H1 (r.grow g1) g1.step h⟩
theorem znV(he:FP K .ow X e f):FS K .ow X (.Return (some e) pos) (zV f):=FS.mk λρ fl hf=>by
 unfold zV at hf;cases e1:f ρ with
 |none=>rw[e1]at hf;cases hf
 |some d=>
  rw[e1]at hf;cases hf
  refine PS.imp (zfE (he.h ρ d e1)) λD σ H ⟨F,r,q⟩=>⟨F,r,λv F1 H1 g1 ⟨a,e,h1,h2,h3⟩=>q v σ F1 H1 (r.grow g1) g1.step ⟨a,e,.inl h1,h2,h3⟩⟩
noncomputable def jW(i:Nat):EO Fl:=λρ=>match ρ[i]? with
 |some (some (.ow _ d))=>some (.rt d (ρ.set i none))
 |_=>none
theorem zlZ(i:Nat)(hN:X.N[i]?=some x:=by rfl)(hv:Vis X.env.scope x:=by first|exact Or.inl rfl|exact Or.inr (Or.inl rfl)|exact Or.inr (Or.inr rfl))(hd:(x==("__debug__":Str))=false:=by decide)(hcd:(x==("__classdict__":Str))=false:=by decide):FS K .ow X (.Return (some (.Name x p)) pos) (jW i):=FS.mk λρ fl hf=>by
 unfold jW at hf;split at hf
 ·rename_i pp d e1;cases hf
  refine PS.imp (zfE (wE hN hv hd hcd)) λD σ H h_=>?_
  obtain⟨F,r,q⟩:=h_;obtain⟨a,e2,h1,h2⟩:=r.own i pp d e1;refine⟨_,e2,q _ σ F H r.drop ?_ ⟨a,rfl,.inr ⟨i,pp,d,e1,e2⟩,h1,h2⟩⟩;exact⟨zG.refl _,λb o e n _=>⟨e,n⟩,λb h=>.inr (zdi h),zfH,r.sub⟩
 ·cases hf
theorem zma(i:Nat)(hN:X.N[i]?=some x:=by rfl)(hv:Vis X.env.scope x:=by first|exact Or.inl rfl|exact Or.inr (Or.inl rfl)|exact Or.inr (Or.inr rfl))(hd:(x==("__debug__":Str))=false:=by decide)(hcd:(x==("__classdict__":Str))=false:=by decide):FS K .fz X (.Return (some (.Name x p)) pos) (jW i):=FS.mk λρ fl hf=>by
 unfold jW at hf;split at hf
 ·rename_i pp d e1;cases hf
  refine PS.imp (zfE (zkf (wE hN hv hd hcd))) λD σ H h_=>?_
  obtain⟨F,r,q⟩:=h_;obtain⟨a,e2,h1,h2⟩:=r.own i pp d e1;have rd:=r.drop (i:=i);have ne:∀b,xH (ρ.set i none) σ b->b≠a:=λb ⟨j,q,x,j1,j2⟩ z=>by
   subst z;rcases qF j1 with⟨rfl,j1'⟩|⟨hne,j1'⟩
   ·cases j1'
   ·exact r.inj j i q x (.ow pp d) b hne j1' j2 e1 rfl e2
  refine⟨_,e2,a,rfl,λH2 fz=>?_⟩;have g:qI ρ σ F H (ρ.set i none) σ (vS F H2 a) H2:=by
   refine⟨zaB h1,λb o e n ho=>?_,λb h=>.inr (zdi h),zfH,zbs (fz.same r.sub h1)⟩;have hb:b≠a:=λz=>ho (by subst z;exact⟨i,pp,d,e1,e2⟩)
   exact⟨by rw[fz.ne hb];exact e,by rw[zbc hb];exact n⟩
  have rf:Rel K (vS F H2 a) H2 (ρ.set i none) σ:=by
   refine⟨zbs (fz.same r.sub h1),λj x e=>?_,λj x e=>?_,λj q x e=>?_,rd.inj,rd.len⟩
   ·obtain⟨v,h3,h4⟩:=rd.dat j x e;exact⟨v,h3,h4.mono (zaB h1)⟩
   ·obtain⟨v,h3,h4⟩:=rd.bor j x e;exact⟨v,h3,zO.frz h4 (zaB h1) fz λz=>r.inj i j pp d (.bor x) a (λq=>by subst q;rcases qF e with⟨_,e'⟩|⟨hne,_⟩;cases e';exact hne rfl) e1 e2 (by rcases qF e with⟨_,e'⟩|⟨_,e'⟩;cases e';exact e') rfl (by rw[h3,z])⟩
   ·obtain⟨c,h3,h4,h5⟩:=rd.own j q x e;exact⟨c,h3,by rw[zbc (ne c ⟨j,q,x,e,h3⟩)];exact h4,h5.mono (zaB h1) λo e=>by rw[fz.ne (ne c ⟨j,q,x,by assumption,h3⟩)];exact e⟩
  exact q _ σ _ H2 rf g (h2.freeze h1 fz)
 ·cases hf
noncomputable def xM:EO Fl:=λρ=>some (.rt .non ρ)
noncomputable def ifM(t:EO (Bool×En))(m n:EO Fl):EO Fl:=λρ=>(t ρ).bind λp=>if p.1=true then m p.2 else n p.2
theorem sif{a b:List Stmt}{t:EO (Bool×En)}(hc:FT K X c t)(ha:FSs K md X a m)(hb:FSs K md X b n):FS K md X (.If c a b pos) (ifM t m n):=FS.mk λρ fl hf=>by
 unfold ifM at hf;cases e1:t ρ with
 |none=>rw[e1]at hf;cases hf
 |some p=>
  obtain⟨k,ρ1⟩:=p;rw[e1]at hf;cases k with
  |true=>
   refine PS.imp (zmr (hc.h ρ _ _ e1) (ha.h ρ1 fl hf) zcp) λD σ H ⟨F,r,q⟩=>⟨F,r,λF1 H1 r1 s1=>nH (rdS.after r.sub r1 s1 q)⟩
  |false=>
   refine PS.imp (zmr (hc.h ρ _ _ e1) zcp (hb.h ρ1 fl hf)) λD σ H ⟨F,r,q⟩=>⟨F,r,λF1 H1 r1 s1=>nJ (rdS.after r.sub r1 s1 q)⟩
noncomputable def rdG(K:Fg)(ρ:En)(d:D)(ρ':En):TG:=λv σ H Q=>∃F,Rel K F H ρ σ/\Dat K F d v/\∀σ',Rel K F H ρ' σ'->Kp ρ σ ρ' σ'->Q σ' H
structure FG(K:Fg)(X:Cx)(tg:Expr)(g:D->EO En):Prop where
 h:∀ρ d ρ',g d ρ=some ρ'->PG X tg (rdG K ρ d ρ')
noncomputable def rdGs(K:Fg)(ρ:En)(ds:List D)(ρ':En):TGs:=λvs σ H Q=>∃F,Rel K F H ρ σ/\zC K F ds vs/\∀σ',Rel K F H ρ' σ'->Kp ρ σ ρ' σ'->Q σ' H
structure FGs(K:Fg)(X:Cx)(ts:List Expr)(g:List D->EO En):Prop where
 h:∀ρ ds ρ',g ds ρ=some ρ'->PGs X ts (rdGs K ρ ds ρ')
theorem PG.imp{t t':TG}(h:PG X tg t)(w:∀v σ H Q,t' v σ H Q->t v σ H Q):PG X tg t':=λpins s σ H v u Q I r ht=>h pins s σ H v u Q I r (w v σ H Q ht)
theorem PGs.imp{tg:List Expr}{t t':TGs}(h:PGs X tg t)(w:∀v σ H Q,t' v σ H Q->t v σ H Q):PGs X tg t':=λpins s σ H v u Q I r ht=>h pins s σ H v u Q I r (w v σ H Q ht)
noncomputable def gN(i:Nat):D->EO En:=λd ρ=>some (ρ.set i (some (.dat d)))
theorem jI(i:Nat)(hN:X.N.Nodup)(hi:X.N[i]?=some x:=by rfl)(hx:Loc X.env.scope x:=by first|exact Or.inl rfl|exact Or.inr rfl)(hf:X.fn x=true\/X.env.scope.names.lookup x=some .local:=by first|exact .inl rfl|exact .inr rfl|assumption):FG K X (.Name x pos) (gN i):=FG.mk λρ d ρ' hg=>by
 cases hg
 refine PG.imp (zkP hN hi hx hf) λv σ H Q ⟨F,r,h,q⟩=>q _ (r.setD h) Kp.setD
noncomputable def qC:List D->EO En:=λds ρ=>match ds with
 |[]=>some ρ
 |_=>none
noncomputable def zS(g:D->EO En)(gs:List D->EO En):List D->EO En:=λds ρ=>match ds with
 |d::l=>(g d ρ).bind (gs l)
 |[]=>none
noncomputable def qQ(gs:List D->EO En):D->EO En:=λd ρ=>match d with
 | .tup l=>gs l ρ
 |_=>none
theorem wK:FGs K X [] qC:=FGs.mk λρ ds ρ' hg=>by
 unfold qC at hg;split at hg
 ·cases hg
  exact PGs.imp zkO λvs σ H Q ⟨F,r,h,q⟩=>⟨h.nil_inv,q σ r Kp.refl⟩
 ·cases hg
theorem jZ(h1:FG K X e g)(h2:FGs K X es gs)(hs:(assignEach (e::es) X.env).map (·.2)=assign e X.env::(assignEach es X.env).map (·.2):=by rfl):FGs K X (e::es) (zS g gs):=FGs.mk λρ ds ρ' hg=>by
 unfold zS at hg;split at hg
 ·rename_i d l;cases e1:g d ρ with
  |none=>rw[e1]at hg;cases hg
  |some ρ1=>
   rw[e1]at hg;refine PGs.imp (zjg (h1.h ρ d ρ1 e1) (h2.h ρ1 l ρ' hg) hs) λvs σ H Q h_=>?_
   obtain⟨F,r,h,q⟩:=h_;obtain⟨v,vr,e,d1,d2⟩:=h.cons_inv;exact⟨v,vr,e,F,r,d1,λσ1 r1 o1=>⟨F,r1,d2,λσ2 r2 o2=>q σ2 r2 (o1.trans o2)⟩⟩
 ·cases hg
theorem nK{k:Nat}{n:Nat}(hc:X.calm=true)(h:FGs K X es gs)(hl:∀ds ρ ρ',gs ds ρ=some ρ'->ds.length=n)(hn:(assignEach es X.env).length=n:=by rfl)(hst:(assignEach es X.env).findIdx? (·.1)=none:=by rfl)(hK:X.K=K:=by rfl):FG K X (.Tuple es k pos) (qQ gs):=FG.mk λρ d ρ' hg=>by
 subst hK;unfold qQ at hg;split at hg
 ·rename_i l;refine PG.imp (zmw hc (h.h ρ l ρ' hg) hn hst) λv σ H Q h_=>?_
  obtain⟨F,r,hd,q⟩:=h_;obtain⟨a,vs,rfl,f,qq⟩:=hd.tup_inv;exact⟨a,vs,rfl,SqT.of (r.sub _ _ f),by rw[qq.length];exact hl l ρ ρ' hg,F,r,qq,q⟩
 ·cases hg
theorem wG:∀ds ρ ρ',qC ds ρ=some ρ'->ds.length=0:=λds ρ ρ' h=>by
 unfold qC at h;split at h
 ·rfl
 ·cases h
theorem jX{n:Nat}(h:∀ds ρ ρ',gs ds ρ=some ρ'->ds.length=n):∀ds ρ ρ',zS g gs ds ρ=some ρ'->ds.length=n+1:=λds ρ ρ' hg=>by
 unfold zS at hg;split at hg
 ·rename_i d l;cases e1:g d ρ with
  |none=>rw[e1]at hg;cases hg
  |some ρ1=>rw[e1]at hg;rw[List.length_cons,h l ρ1 ρ' hg]
 ·cases hg
noncomputable def kH(f:EO D)(g:D->EO En):EO Fl:=λρ=>(f ρ).bind λd=>(g d ρ).map Fl.nx
theorem sasg(he:FP K .fz X e f)(hg:FG K X tg g)(hs:swapsWithSole [tg] e pos.line X.env=pure false:=by rfl)(hw:swappedStores [tg] e X.env=pure none:=by rfl)(h1:(assignEach [tg] X.env).map (·.2)=[assign tg X.env]:=by rfl):FS K md X (.Assign [tg] e pos) (kH f g):=FS.mk λρ fl hf=>by
 unfold kH at hf;cases e1:f ρ with
 |none=>rw[e1]at hf;cases hf
 |some d=>
  cases e2:g d ρ with
  |none=>rw[e1]at hf;simp[e2]at hf
  |some ρ1=>
   rw[e1]at hf;simp[e2]at hf;cases hf
   refine PS.imp (zhq (he.h ρ d e1) (hg.h ρ d ρ1 e2) hs hw h1) λD σ H ⟨F,r,q⟩=>⟨F,r,λv F1 H1 g1 h=>⟨F1,r.grow g1,h,λσ1 r1 o1=>?_⟩⟩
   have s1:=g1.step (ρ:=ρ) (σ:=σ);exact q σ1 F1 H1 r1 (s1.kp o1)
noncomputable def qB(i:Nat)(f:EO D):EO Fl:=λρ=>(f ρ).map λd=>.nx (ρ.set i (some (.dat d)))
theorem jU(i:Nat)(hN:X.N.Nodup)(he:FP K .fz X e f)(hi:X.N[i]?=some x:=by rfl)(hx:Loc X.env.scope x:=by first|exact Or.inl rfl|exact Or.inr rfl)(hs:swapsWith e (some (.Name x pos')) pos.line X.env=pure false:=by rfl)(hf:X.fn x=true\/X.env.scope.names.lookup x=some .local:=by first|exact .inl rfl|exact .inr rfl|assumption):
  FS K md X (.Assign [.Name x pos'] e pos) (qB i f):=FS.mk λρ fl hm=>by
 unfold qB at hm;cases e1:f ρ with
 |none=>rw[e1]at hm;cases hm
 |some d=>
  rw[e1]at hm;cases hm
  refine PS.imp (zke hN hi hx (he.h ρ d e1) hs hf) λD σ H ⟨F,r,q⟩=>⟨F,r,λv F1 H1 g1 h=>?_⟩
  have s1:=g1.step (ρ:=ρ) (σ:=σ);exact q _ F1 H1 ((r.grow g1).setD h) (s1.kp Kp.setD)
noncomputable def jJ(ρ:En):Bool:=ρ.all λs=>match s with
 |some (.bor _)=>false
 |_=>true
theorem zcy(h:jJ ρ=true):∀(j:Nat) s,ρ[j]?=some (some s)->s.isDat=false->∃q x,s=.ow q x:=λj s e hs=>by
 have:=List.all_eq_true.mp h (some s) (List.mem_of_getElem? e);cases s with
 |dat d=>cases hs
 |ow q d=>exact⟨q,d,rfl⟩
 |bor d=>cases this
noncomputable def setO(i:Nat)(f:EO D):EO Fl:=λρ=>if jJ ρ=true then(f ρ).map λd=>.nx (ρ.set i (some (.own d)))else none
theorem wQ(i:Nat)(hN:X.N.Nodup)(he:FP K .ow X e f)(hi:X.N[i]?=some x:=by rfl)(hx:Loc X.env.scope x:=by first|exact Or.inl rfl|exact Or.inr rfl)(hs:swapsWith e (some (.Name x pos')) pos.line X.env=pure false:=by rfl)(hf:X.fn x=true\/X.env.scope.names.lookup x=some .local:=by first|exact .inl rfl|exact .inr rfl|assumption):
  FS K md X (.Assign [.Name x pos'] e pos) (setO i f):=FS.mk λρ fl hm=>by
 unfold setO at hm;split at hm
 ·rename_i nb;cases e1:f ρ with
  |none=>rw[e1]at hm;cases hm
  |some d=>
   rw[e1]at hm;cases hm
   refine PS.imp (zke hN hi hx (he.h ρ d e1) hs hf) λD σ H ⟨F,r,q⟩=>⟨F,r,λv F1 H1 g1 ⟨a,ev,h1,h2,h3⟩=>?_⟩
   subst ev;have s1:=g1.step (ρ:=ρ) (σ:=σ);refine q _ F1 H1 (r.setO g1 h1 h2 h3 (zcy nb)) ⟨s1.ff,s1.rest,λb z=>?_,zdG (λd h=>by cases h),s1.fh⟩;rcases zbm z with⟨_,_,_,z⟩|z
   ·cases z;exact .inl h1
   ·exact .inr z
 ·cases hm
end
section
variable{K:Fg}{F H F' H':Hp}{ρ ρ':En}{σ σ':St}{i:Nat}
theorem zO.upd{d:D}{o:HO}(h:zO K F H d v)(hv:v≠.ref a):zO K F (upd H a o) d v:=by
 cases d with
 |lst l=>obtain⟨b,vs,rfl,f,q⟩:=h.lst_inv;exact⟨b,vs,rfl,by rw[zT λz=>hv (by rw[z])];exact f,q⟩
 |dic k l=>obtain⟨b,vs,rfl,f,q⟩:=h.dic_inv;exact⟨b,vs,rfl,f.at (zG.refl _) (λo e=>by rw[zT λz=>hv (by rw[z])];exact e),q⟩
 |set l=>obtain⟨b,rfl,f⟩:=h;exact⟨b,rfl,xC.at (F:=H) (zT λz=>hv (by rw[z])) f⟩
 |_=>exact h
theorem Rel.mut(r:Rel K F H ρ σ){pp:Bool}{d d':D}{o:HO}(e:ρ[i]?=some (some (.ow pp d)))(hσ:σ[i]?=some (some (.ref a)))(ho:Own K F (upd H a o) d' a):
  Rel K F (upd H a o) (ρ.set i (some (.ow pp d'))) σ/\qI ρ σ F H (ρ.set i (some (.ow pp d'))) σ F (upd H a o):=by
 obtain⟨a',e1,fa,_⟩:=r.own i pp d e;rw[hσ]at e1;cases e1
 have sub:zG F (L2.upd H a o):=λb u h=>by rw[zT (qS h fa)];exact r.sub _ _ h
 have hi:i<ρ.length:=(List.getElem?_eq_some_iff.mp e).1;refine⟨⟨sub,λj x q=>?_,λj x q=>?_,λj qq x q=>?_,λj k qq x s c ne e1 e2 e3 e4=>?_,by simp[r.len]⟩,⟨zG.refl _,λb u h n no=>⟨?_,n⟩,λb h=>.inr ?_,λj x e'=>?_,sub⟩⟩
 ·rcases qF q with⟨rfl,q'⟩|⟨ne,q'⟩
  ·cases q'
  ·exact r.dat j x q'
 ·rcases qF q with⟨rfl,q'⟩|⟨ne,q'⟩
  ·cases q'
  ·obtain⟨v,h1,h2⟩:=r.bor j x q';refine⟨v,h1,h2.upd λz=>?_⟩;subst z;exact r.inj i j pp d _ a (Ne.symm ne) e hσ q' rfl h1
 ·rcases qF q with⟨rfl,q'⟩|⟨ne,q'⟩
  ·cases q'
   exact⟨a,hσ,fa,ho⟩
  ·obtain⟨c,h1,h2,h3⟩:=r.own j qq x q';have hc:c≠a:=λz=>by subst z;exact r.inj i j pp d _ c (Ne.symm ne) e hσ q' rfl h1
   exact⟨c,h1,h2,h3.mono (zG.refl _) λu hu=>by rw[zT hc];exact hu⟩
 ·rcases qF e1 with⟨rfl,e1'⟩|⟨ne1,e1'⟩
  ·rcases qF e3 with⟨rfl,e3'⟩|⟨ne3,e3'⟩
   ·exact absurd rfl ne
   ·exact r.inj j k pp d s c ne e e2 e3' e4
  ·rcases qF e3 with⟨rfl,e3'⟩|⟨ne3,e3'⟩
   ·exact r.inj j k qq x (.ow pp d) c ne e1' e2 e rfl
   ·exact r.inj j k qq x s c ne e1' e2 e3' e4
 ·rw[zT λz=>no (by subst z;exact⟨i,pp,d,e,hσ⟩)];exact h
 ·obtain⟨j,qq,x,j1,j2⟩:=h;rcases qF j1 with⟨rfl,j1'⟩|⟨ne,j1'⟩
  ·exact⟨j,pp,d,e,j2⟩
  ·exact⟨j,qq,x,j1',j2⟩
 ·rcases qF e' with⟨rfl,e''⟩|⟨ne,e''⟩
  ·cases e''
   exact⟨d,e,rfl⟩
  ·exact⟨x,e'',rfl⟩
end
noncomputable def rdX(K:Fg)(ρ:En)(d:D)(ρ':En):TE:=λσ H Q=>∃F,Rel K F H ρ σ/\∀v F' H',Rel K F' H' ρ' σ->qI ρ σ F H ρ' σ F' H'->Dat K F' d v->Q v H'
structure FX(K:Fg)(X:Cx)(e:Expr)(m:EO (D×En)):Prop where
 h:∀ρ d ρ',m ρ=some (d,ρ')->PE X e (rdX K ρ d ρ')
noncomputable def kI(i:Nat)(f:EO D):EO (D×En):=λρ=>match ρ[i]?,f ρ with
 |some (some (.ow pp (.lst l))),some d=>if l.length<lim then some (.non,ρ.set i (some (.ow pp (.lst (l++[d])))))else none
 |_,_=>none
noncomputable def yT(i:Nat)(f:EO D):EO (D×En):=λρ=>match ρ[i]?,f ρ with
 |some (some (.ow pp (.lst l))),some (.lst m)=>if l.length+m.length<=lim then some (.non,ρ.set i (some (.ow pp (.lst (l++m)))))else none
 |_,_=>none
noncomputable def yL(i:Nat):EO (D×En):=λρ=>match ρ[i]? with
 |some (some (.ow pp (.lst l)))=>(l[l.length - 1]?).map λd=>(d,ρ.set i (some (.ow pp (.lst l.dropLast))))
 |_=>none
noncomputable def yM(i:Nat)(f:EO D):EO (D×En):=λρ=>match ρ[i]?,f ρ with
 |some (some (.ow pp (.lst l))),some (.int k)=>if -(2^63)<=k/\k<2^63 then(seqIndex? k l.length).bind λj=>(l[j]?).map λd=>(d,ρ.set i (some (.ow pp (.lst (l.eraseIdx j)))))else none
 |_,_=>none
variable{m:EO (D×En)}
section
variable{K:Fg}{md:Md}{X:Cx}{e:Expr}{f:EO D}{pos:Pos}{x:Str}{p apos cpos:Pos}
theorem zcj(i:Nat)(he:FP K .fz X e f)(hN:X.N[i]?=some x:=by rfl)(hv:Vis X.env.scope x:=by first|exact Or.inl rfl|exact Or.inr (Or.inl rfl)|exact Or.inr (Or.inr rfl))(hd:(x==("__debug__":Str))=false:=by decide)(hcd:(x==("__classdict__":Str))=false:=by decide)(hbase:attributeBase (.Name x p) "append" X.env (eval (.Name x p) X.env)=eval (.Name x p) X.env:=by rfl)(hfew:((backTo cpos (starEach [e] X.env)).all (λx=>!x.1)&&(backToKw cpos (keywordEach [] X.env)).all (λx=>x.1.isSome)&&decide (([e]:List Expr).length+([]:List Keyword).length+(if([]:List Keyword).isEmpty then 0 else 1)<30))=true:=by rfl)(hline:(apos.endLine==cpos.line)=true:=by rfl)(hs:starEach [e] X.env=(false,eval e X.env)::starEach [] X.env:=by rfl)(hplain:(backTo cpos (starEach [] X.env)).any (·.1)=false:=by rfl)(hK:X.K=K:=by rfl):
  FX K X (.Call (.Attribute (.Name x p) "append" apos) [e] [] cpos) (kI i f):=FX.mk λρ d ρ' hf=>by
 subst hK;unfold kI at hf;split at hf
 ·rename_i pp l dd e1 e2;obtain⟨hz,hf⟩:=kQ hf;cases hf
  refine PE.imp (zjk PySem.F.plainAttrs_list PySem.F.slot_list_append PySem.F.type_list_append zcz (wE hN hv hd hcd) (yY (he.h ρ dd e2) vN hs) hbase hfew hline hs hplain) λσ H Q h_=>?_
  obtain⟨F,r,q⟩:=h_;obtain⟨a,h1,h2,vs,h3,h4⟩:=r.own i _ _ e1;refine⟨_,h1,.inl ⟨rfl,vs,SqL.of h3⟩,F,r,λv F1 H1 g1 r1=>?_⟩;have rg:=r.grow g1;obtain⟨a',h1',h2',vs',h3',h4'⟩:=rg.own i _ _ e1;rw[h1]at h1';cases h1'
  have h3'':=g1.hh _ _ h3;rw[h3']at h3'';cases h3''
  refine⟨a,vs,v,rfl,rfl,h3',by rw[h4'.length];exact zdl (Nat.le_of_lt hz),?_⟩;obtain⟨m1,m2⟩:=rg.mut (i:=i) (o:=.lst (vs++[v])) (d':=.lst (l++[dd])) e1 h1 ⟨_,qK,h4'.snoc r1⟩;exact q _ _ _ m1 (g1.step.trans m2 r.sub) (Dat.non (K:=X.K))
 ·cases hf
theorem zkx(i:Nat)(he:FP K .fz X e f)(hN:X.N[i]?=some x:=by rfl)(hv:Vis X.env.scope x:=by first|exact Or.inl rfl|exact Or.inr (Or.inl rfl)|exact Or.inr (Or.inr rfl))(hd:(x==("__debug__":Str))=false:=by decide)(hcd:(x==("__classdict__":Str))=false:=by decide)(hbase:attributeBase (.Name x p) "extend" X.env (eval (.Name x p) X.env)=eval (.Name x p) X.env:=by rfl)(hfew:((backTo cpos (starEach [e] X.env)).all (λx=>!x.1)&&(backToKw cpos (keywordEach [] X.env)).all (λx=>x.1.isSome)&&decide (([e]:List Expr).length+([]:List Keyword).length+(if([]:List Keyword).isEmpty then 0 else 1)<30))=true:=by rfl)(hline:(apos.endLine==cpos.line)=true:=by rfl)(hs:starEach [e] X.env=(false,eval e X.env)::starEach [] X.env:=by rfl)(hplain:(backTo cpos (starEach [] X.env)).any (·.1)=false:=by rfl)(hK:X.K=K:=by rfl):
  FX K X (.Call (.Attribute (.Name x p) "extend" apos) [e] [] cpos) (yT i f):=FX.mk λρ d ρ' hf=>by
 subst hK;unfold yT at hf;split at hf
 ·rename_i pp l m e1 e2;obtain⟨hz,hf⟩:=kQ hf;cases hf
  refine PE.imp (zjk PySem.F.plainAttrs_list PySem.F.slot_list_extend PySem.F.type_list_extend zhE (wE hN hv hd hcd) (yY (he.h ρ _ e2) vN hs) hbase hfew hline hs hplain) λσ H Q h_=>?_
  obtain⟨F,r,q⟩:=h_;obtain⟨a,h1,h2,vs,h3,h4⟩:=r.own i _ _ e1;refine⟨_,h1,.inl ⟨rfl,vs,SqL.of h3⟩,F,r,λv F1 H1 g1 r1=>?_⟩;have rg:=r.grow g1;obtain⟨a',h1',h2',vs',h3',h4'⟩:=rg.own i _ _ e1;rw[h1]at h1';cases h1'
  have h3'':=g1.hh _ _ h3;rw[h3']at h3'';cases h3''
  obtain⟨b,us,rfl,f1,q1⟩:=Dat.lst_inv (K:=X.K) (F:=F1) r1;refine⟨a,b,vs,us,rfl,rfl,h3',g1.fh _ _ f1,by rw[h4'.length,q1.length];exact wU hz,?_⟩;obtain⟨m1,m2⟩:=rg.mut (i:=i) (o:=.lst (vs++us)) (d':=.lst (l++m)) e1 h1 ⟨_,qK,h4'.append q1⟩;exact q _ _ _ m1 (g1.step.trans m2 r.sub) (Dat.non (K:=X.K))
 ·cases hf
theorem xpop(i:Nat)(hN:X.N[i]?=some x:=by rfl)(hv:Vis X.env.scope x:=by first|exact Or.inl rfl|exact Or.inr (Or.inl rfl)|exact Or.inr (Or.inr rfl))(hd:(x==("__debug__":Str))=false:=by decide)(hcd:(x==("__classdict__":Str))=false:=by decide)(hbase:attributeBase (.Name x p) "pop" X.env (eval (.Name x p) X.env)=eval (.Name x p) X.env:=by rfl)(hline:(apos.endLine==cpos.line)=true:=by rfl)(hK:X.K=K:=by rfl):
  FX K X (.Call (.Attribute (.Name x p) "pop" apos) [] [] cpos) (yL i):=FX.mk λρ d ρ' hf=>by
 subst hK;unfold yL at hf;split at hf
 ·rename_i pp l e1;cases e2:l[l.length - 1]? with
  |none=>rw[e2]at hf;cases hf
  |some dd=>
   rw[e2]at hf;cases hf
   refine PE.imp (zmH PySem.F.plainAttrs_list PySem.F.slot_list_pop PySem.F.type_list_pop zmU (wE hN hv hd hcd) hbase hline) λσ H Q h_=>?_
   obtain⟨F,r,q⟩:=h_;obtain⟨a,h1,h2,vs,h3,h4⟩:=r.own i _ _ e1;obtain⟨v,h5,h6⟩:=h4.get e2;refine⟨_,h1,.inl ⟨rfl,vs,SqL.of h3⟩,a,vs,v,rfl,rfl,h3,by rw[h4.length];exact h5,?_⟩;obtain⟨m1,m2⟩:=r.mut (i:=i) (o:=.lst vs.dropLast) (d':=.lst l.dropLast) e1 h1 ⟨_,qK,h4.dropLast⟩;exact q _ _ _ m1 m2 h6
 ·cases hf
theorem zlJ(i:Nat)(he:FP K .fz X e f)(hN:X.N[i]?=some x:=by rfl)(hv:Vis X.env.scope x:=by first|exact Or.inl rfl|exact Or.inr (Or.inl rfl)|exact Or.inr (Or.inr rfl))(hd:(x==("__debug__":Str))=false:=by decide)(hcd:(x==("__classdict__":Str))=false:=by decide)(hbase:attributeBase (.Name x p) "pop" X.env (eval (.Name x p) X.env)=eval (.Name x p) X.env:=by rfl)(hfew:((backTo cpos (starEach [e] X.env)).all (λx=>!x.1)&&(backToKw cpos (keywordEach [] X.env)).all (λx=>x.1.isSome)&&decide (([e]:List Expr).length+([]:List Keyword).length+(if([]:List Keyword).isEmpty then 0 else 1)<30))=true:=by rfl)(hline:(apos.endLine==cpos.line)=true:=by rfl)(hs:starEach [e] X.env=(false,eval e X.env)::starEach [] X.env:=by rfl)(hplain:(backTo cpos (starEach [] X.env)).any (·.1)=false:=by rfl)(hK:X.K=K:=by rfl):
  FX K X (.Call (.Attribute (.Name x p) "pop" apos) [e] [] cpos) (yM i f):=FX.mk λρ d ρ' hf=>by
 subst hK;unfold yM at hf;split at hf
 ·rename_i pp l k e1 e2;split at hf
  ·rename_i hk;cases e3:seqIndex? k l.length with
   |none=>rw[e3]at hf;cases hf
   |some j=>
    cases e4:l[j]? with
    |none=>rw[e3]at hf;simp[e4]at hf
    |some dd=>
     rw[e3]at hf;simp[e4]at hf;obtain⟨hf1,hf2⟩:=hf;subst hf1 hf2;refine PE.imp (zjk PySem.F.plainAttrs_list PySem.F.slot_list_pop PySem.F.type_list_pop zju (wE hN hv hd hcd) (yY (he.h ρ _ e2) vN hs) hbase hfew hline hs hplain) λσ H Q h_=>?_
     obtain⟨F,r,q⟩:=h_;obtain⟨a,h1,h2,vs,h3,h4⟩:=r.own i _ _ e1;refine⟨_,h1,.inl ⟨rfl,vs,SqL.of h3⟩,F,r,λv F1 H1 g1 r1=>?_⟩;have rg:=r.grow g1;obtain⟨a',h1',h2',vs',h3',h4'⟩:=rg.own i _ _ e1;rw[h1]at h1';cases h1'
     have ev:=Dat.int_inv (K:=X.K) (F:=F1) r1;subst ev;obtain⟨w,h5,h6⟩:=h4'.get e4;refine⟨a,vs',k,j,w,rfl,rfl,h3',hk.1,hk.2,by rw[h4'.length];exact e3,h5,?_⟩;obtain⟨m1,m2⟩:=rg.mut (i:=i) (o:=.lst (vs'.eraseIdx j)) (d':=.lst (l.eraseIdx j)) e1 h1 ⟨_,qK,h4'.eraseIdx j⟩;exact q _ _ _ m1 (g1.step.trans m2 r.sub) h6
  ·cases hf
 ·cases hf
noncomputable def jT(m:EO (D×En)):EO Fl:=λρ=>(m ρ).map λp=>.nx p.2
theorem nX(he:FX K X e m)(hs:swapsWith e none pos.line X.env=pure false:=by rfl):FS K md X (.Expr e pos) (jT m):=FS.mk λρ fl hf=>by
 unfold jT at hf;cases e1:m ρ with
 |none=>rw[e1]at hf;cases hf
 |some q1=>
  obtain⟨d,ρ1⟩:=q1;rw[e1]at hf;cases hf
  exact PS.imp (zkJ (he.h ρ d ρ1 e1) hs) λD σ H ⟨F,r,q⟩=>⟨F,r,λv F1 H1 r1 s1 _=>q σ F1 H1 r1 s1⟩
noncomputable def yV(m:EO (D×En))(g:D->EO En):EO Fl:=λρ=>(m ρ).bind λp=>(g p.1 p.2).map Fl.nx
theorem znW(he:FX K X e m)(hg:FG K X tg g)(hs:swapsWithSole [tg] e pos.line X.env=pure false:=by rfl)(hw:swappedStores [tg] e X.env=pure none:=by rfl)(h1:(assignEach [tg] X.env).map (·.2)=[assign tg X.env]:=by rfl):FS K md X (.Assign [tg] e pos) (yV m g):=FS.mk λρ fl hf=>by
 unfold yV at hf;cases e1:m ρ with
 |none=>rw[e1]at hf;cases hf
 |some q1=>
  obtain⟨d,ρ1⟩:=q1;cases e2:g d ρ1 with
  |none=>rw[e1]at hf;simp[e2]at hf
  |some ρ2=>
   rw[e1]at hf;simp[e2]at hf;cases hf
   refine PS.imp (zhq (he.h ρ d ρ1 e1) (hg.h ρ1 d ρ2 e2) hs hw h1) λD σ H ⟨F,r,q⟩=>⟨F,r,λv F1 H1 r1 s1 h=>⟨F1,r1,h,λσ2 r2 o2=>?_⟩⟩
   exact q σ2 F1 H1 r2 (s1.kp o2)
end
noncomputable def vV(t:EO (Bool×En))(b:EO Fl):Nat->EO Fl
 |0,_=>none
 |n+1,ρ=>match t ρ with
  |some (true,ρ1)=>match b ρ1 with
   |some (.nx ρ2)=>vV t b n ρ2
   |some (.ct ρ2)=>vV t b n ρ2
   |some (.bk ρ2)=>some (.nx ρ2)
   |some (.rt d ρ2)=>some (.rt d ρ2)
   |some (.rs c d ρ2)=>some (.rs c d ρ2)
   |none=>none
  |some (false,ρ1)=>some (.nx ρ1)
  |none=>none
variable{ι:Type}{body:List Stmt}
section
variable{K:Fg}{md:Md}{X:Cx}{pos:Pos}
theorem PT.any{c:Expr}{t:ι->TT}(h:∀i,PT X c (t i)):PT X c (λσ H Q=>∃i,t i σ H Q):=λpins s σ H Q I ⟨i,hi⟩=>h i pins s σ H Q I hi
theorem PSs.any{c:List Stmt}{t:ι->TS}(h:∀i,PSs X c (t i)):PSs X c (λD σ H=>∃i,t i D σ H):=λpins s σ H D I ⟨i,hi⟩=>h i pins s σ H D I hi
theorem PE.any{c:Expr}{t:ι->TE}(h:∀i,PE X c (t i)):PE X c (λσ H Q=>∃i,t i σ H Q):=λpins s σ H Q I ⟨i,hi⟩=>h i pins s σ H Q I hi
theorem PG.any{c:Expr}{t:ι->TG}(h:∀i,PG X c (t i)):PG X c (λv σ H Q=>∃i,t i v σ H Q):=λpins s σ H v u Q I r ⟨i,hi⟩=>h i pins s σ H v u Q I r hi
theorem PIf.any{c:List Expr}{t:ι->TT}(h:∀i,PIf X c (t i)):PIf X c (λσ H Q=>∃i,t i σ H Q):=λpins s σ H Q I ⟨i,hi⟩=>h i pins s σ H Q I hi
theorem zjY{t:EO (Bool×En)}{b:EO Fl}(n:Nat)(hp:PassesOwn (model X.prog X.w) X.A X.env X.xe)(hc:FT K X c t)(hb:FSs K md X body b):FS K md X (.While c body [] pos) (vV t b n):=FS.mk λρ fl hf=>by
 have hc':=PT.any (X:=X) (c:=c) (t:=λi:{q:En×Bool×En//t q.1=some q.2}=>rdT K i.1.1 i.1.2.1 i.1.2.2) λi=>hc.h _ _ _ i.2
 have hb':=PSs.any (X:=X) (c:=body) (t:=λi:{q:En×Fl//b q.1=some q.2}=>rdS X K md i.1.1 i.1.2) λi=>hb.h _ _ i.2
 refine PS.imp (zja hp hc' hb') λD σ H h_=>?_
 obtain⟨F,r,q⟩:=h_;refine⟨λk σ1 H1=>∃ρ1 F1,Rel K F1 H1 ρ1 σ1/\qI ρ σ F H ρ1 σ1 F1 H1/\vV t b k ρ1=some fl,⟨n,ρ,F,r,(zE.refl r.sub).step,hf⟩,?_⟩;rintro k σ1 H1 ⟨ρ1,F1,r1,s1,e1⟩;cases k with
 |zero=>simp[vV]at e1
 |succ k=>
  simp only[vV]at e1;cases e2:t ρ1 with
  |none=>rw[e2]at e1;cases e1
  |some p=>
   obtain⟨c1,ρ2⟩:=p;rw[e2]at e1;refine⟨⟨(ρ1,c1,ρ2),e2⟩,F1,r1,λF2 H2 r2 s2=>?_⟩;have s12:=s1.trans s2 r.sub;cases c1 with
   |false=>
    have e1:some (Fl.nx ρ2)=some fl:=e1;cases e1
    exact nJ (q σ1 F2 H2 r2 s12)
   |true=>
    refine nH ?_;refine⟨λσ' H'=>∃ρ3 F3,Rel K F3 H' ρ3 σ'/\qI ρ σ F H ρ3 σ' F3 H'/\vV t b k ρ3=some fl,λσ' H' z=>⟨k,Nat.lt_succ_self k,z⟩,?_⟩;cases e3:b ρ2 with
    |none=>simp only[e3]at e1;cases e1
    |some fl2=>
     simp only[e3]at e1;refine⟨⟨(ρ2,fl2),e3⟩,F2,r2,?_⟩;cases fl2 with
     |nx ρ3=>exact λσ3 F3 H3 r3 s3=>⟨ρ3,F3,r3,s12.trans s3 r.sub,e1⟩
     |ct ρ3=>exact λσ3 F3 H3 r3 s3=>⟨ρ3,F3,r3,s12.trans s3 r.sub,e1⟩
     |bk ρ3=>cases e1;exact λσ3 F3 H3 r3 s3=>q σ3 F3 H3 r3 (s12.trans s3 r.sub)
     |rt d ρ3=>cases e1;exact λv σ3 F3 H3 r3 s3 h=>q v σ3 F3 H3 r3 (s12.trans s3 r.sub) (nO.back s12 r.sub h)
     |rs c d ρ3=>cases e1;exact λσ3 F3 H3 C da r3 s3 x=>q σ3 F3 H3 C da r3 (s12.trans s3 r.sub) x
end
def zcV(K:Fg)(J:It)(F:Hp)(ds:List D):Prop:=∀F2 H2,zG F F2->zG F2 H2->
 (∀i,i<ds.length->J.go i H2)/\(∀i x H3 d,ds[i]?=some d->J.yld i H2 x H3->∃F3,zE F2 H2 F3 H3/\Dat K F3 d x)/\J.stop ds.length H2
noncomputable def rdI(K:Fg)(ρ:En)(ds:List D):TI:=λσ H R=>∃F,Rel K F H ρ σ/\∀J F' H',zE F H F' H'->zcV K J F' ds->R J H'
structure FI(K:Fg)(X:Cx)(tg zM:Expr)(f:EO (List D)):Prop where
 h:∀ρ ds,f ρ=some ds->PI X tg zM (rdI K ρ ds)
theorem PI.imp{zM:Expr}{t t':TI}(h:PI X tg zM t)(w:∀σ H R,t' σ H R->t σ H R):PI X tg zM t':=λpins s σ H R I ht=>h pins s σ H R I (w σ H R ht)
noncomputable def itS:D->Option (List D)
 | .lst l=>some l
 | .tup l=>some l
 | .scr l=>some (l.map D.int)
 |_=>none
noncomputable def cI(f:EO D):EO (List D):=λρ=>(f ρ).bind itS
theorem zeq{vs:List V}{ds:List D}(h:∀F2 H2,zG F F2->zG F2 H2->SqL K H2 a vs)(q:zC K F ds vs):zcV K (Itl K a) F ds:=λF2 H2 f2 h2=>by
 have hs:=h F2 H2 f2 h2;have hl:=q.length;refine⟨λi hi=>⟨vs,vs[i]'(by omega),hs,by simp⟩,λi x H3 d hd y=>?_,⟨vs,hs,by omega⟩⟩;obtain⟨rfl,y⟩:=y;obtain⟨v,hv,dv⟩:=q.get hd;rw[y vs hs]at hv;cases hv
 exact⟨F2,zE.refl h2,dv.mono f2⟩
theorem zjA{vs:List V}{ds:List D}(h:F a=some (.tup vs))(q:zC K F ds vs):zcV K (Itt K a) F ds:=λF2 H2 f2 h2=>by
 have hs:SqT K H2 a vs:=SqT.of (h2 _ _ (f2 _ _ h));have hl:=q.length;refine⟨λi hi=>⟨vs,vs[i]'(by omega),hs,by simp⟩,λi x H3 d hd y=>?_,⟨vs,hs,by omega⟩⟩;obtain⟨rfl,y⟩:=y;obtain⟨v,hv,dv⟩:=q.get hd;rw[y vs hs]at hv;cases hv
 exact⟨F2,zE.refl h2,dv.mono f2⟩
variable{n:Nat}{fi:EO (List D)}
section
variable{K:Fg}{md:Md}{X:Cx}{pos:Pos}{tg l:Expr}{f:EO D}
theorem vI(h:FP K .fz X l f)(hK:X.K=K:=by rfl):FI K X tg l (cI f):=FI.mk λρ ds hf=>by
 subst hK;unfold cI at hf;cases e1:f ρ with
 |none=>rw[e1]at hf;cases hf
 |some d=>
  rw[e1]at hf;have hf:itS d=some ds:=hf;cases d<;>simp only[itS]at hf<;>try(cases hf;done)
  ·cases hf
   refine PI.imp (zmv (h.h ρ _ e1)) λσ H R ⟨F,r,q⟩=>⟨F,r,λv F1 H1 g1 r1=>?_⟩
   obtain⟨a,vs,rfl,f1,q1⟩:=Dat.tup_inv (K:=X.K) (F:=F1) r1;exact⟨a,rfl,⟨vs,SqT.of (g1.fh _ _ f1)⟩,q _ F1 H1 g1 (zjA f1 q1)⟩
  ·cases hf
   refine PI.imp (zhv (h.h ρ _ e1)) λσ H R ⟨F,r,q⟩=>⟨F,r,λv F1 H1 g1 r1=>?_⟩
   obtain⟨a,vs,rfl,f1,q1⟩:=Dat.lst_inv (K:=X.K) (F:=F1) r1;exact⟨a,rfl,⟨vs,SqL.of (g1.fh _ _ f1)⟩,q _ F1 H1 g1 (zeq (λF2 H2 a b=>SqL.of (b _ _ (a _ _ f1))) q1)⟩
  ·cases hf
   refine PI.imp (zhv (h.h ρ _ e1)) λσ H R ⟨F,r,q⟩=>⟨F,r,λv F1 H1 g1 r1=>?_⟩
   obtain⟨a,rfl,f1⟩:=Dat.scr_inv (K:=X.K) (F:=F1) r1;exact⟨a,rfl,⟨_,zG.seq g1.fh f1⟩,q _ F1 H1 g1 (zeq (λF2 H2 a b=>zG.seq b (zG.seq a f1)) (zC.ofInts _))⟩
def xN(lo:Int)(n:Nat):List D:=(List.range n).map λ(k:Nat)=>D.int (lo+(k:Int))
theorem zgC{lo:Int}:zcV K (Itr lo n) F (xN lo n):=λF2 H2 f2 h2=>by
 refine⟨λi hi=>(show i<n by simpa[xN]using hi),λi x H3 d hd y=>?_,by simp[xN,Itr]⟩;obtain⟨rfl,rfl⟩:=y
 have:d=D.int (lo+(i:Int)):=by
  unfold xN at hd;rw[List.getElem?_map]at hd;cases e:(List.range n)[i]? with
  |none=>rw[e]at hd;cases hd
  |some k=>
   rw[e]at hd
   have:=(List.getElem?_eq_some_iff.mp e).2;simp at this;subst this;exact(Option.some.inj hd).symm
 subst this;exact⟨F2,zE.refl h2,Dat.int (K:=K) (F:=F2) _⟩
def zeR(j:Int):Prop:=-(2^62)<=j/\j<2^62
theorem yN{j:Int}(h1:-4611686018427387904<=j)(h2:j<4611686018427387904):zeR j:=⟨h1,h2⟩
open Classical in
noncomputable def yJ:D->Option (List D)
 | .int j=>if zeR j then some (xN 0 j.toNat)else none
 |_=>none
open Classical in
noncomputable def xF:D->D->Option (List D)
 | .int i,.int j=>if zeR i/\zeR j then some (xN i (j - i).toNat)else none
 |_,_=>none
noncomputable def cR1(f:EO D):EO (List D):=λρ=>(f ρ).bind yJ
noncomputable def cR2(f g:EO D):EO (List D):=λρ=>(f ρ).bind λx=>(g ρ).bind λy=>xF x y
theorem zdL{a:Expr}(h:FP K .fz X a f)(hg:Gl X "range")(hm:X.mg "range"=none)(hs:starEach [a] X.env=[(false,eval a X.env)]:=by rfl):FI K X tg (.Call (.Name "range" p) [a] [] pos) (cR1 f):=FI.mk λρ ds hf=>by
 unfold cR1 at hf;cases e1:f ρ with
 |none=>rw[e1]at hf;cases hf
 |some d=>
  rw[e1]at hf;have hf:yJ d=some ds:=hf;cases d<;>simp only[yJ]at hf<;>try(cases hf;done)
  obtain⟨hz,rfl⟩:=kQ hf;refine PI.imp (zhu hg hm (yY (h.h ρ _ e1) vN hs) hs) λσ H R ⟨F,r,q⟩=>⟨F,r,λv F1 H1 g1 r1=>?_⟩
  have ev:=Dat.int_inv (K:=K) (F:=F1) r1;subst ev;exact⟨_,rfl,hz.1,hz.2,q _ F1 H1 g1 zgC⟩
def vJ:Nat->List D->List D
 |_,[]=>[]
 |k,d::l=>.tup [.int k,d]::vJ (k+1) l
theorem zbu:∀(k:Nat) (l:List D) (i:Nat) (d:D),(vJ k l)[i]?=some d->∃x,l[i]?=some x/\d=.tup [.int ((k+i:Nat):Int),x]
 |_,[],i,d,h=>by simp[vJ]at h
 |k,x::l,0,d,h=>by simp[vJ]at h;exact⟨x,rfl,by rw[←h];simp⟩
 |k,x::l,i+1,d,h=>by obtain⟨y,h1,h2⟩:=zbu (k+1) l i d (by simpa[vJ]using h);exact⟨y,by simpa using h1,by rw[h2,show k+1+i=k+(i+1) by omega]⟩
theorem gI:∀(k:Nat) (l:List D),(vJ k l).length=l.length
 |_,[]=>rfl
 |k,_::l=>by simp[vJ,gI (k+1) l]
noncomputable def yU(f:EO D):EO (List D):=λρ=>match f ρ with
 |some (.tup l)=>some (vJ 0 l)
 |_=>none
theorem znn{elts:List Expr}{k:Nat}{tpos:Pos}{a:Expr}(h:FP K .fz X a f)(hg:Gl X "enumerate")(hm:X.mg "enumerate"=none)(hs:starEach [a] X.env=[(false,eval a X.env)]:=by rfl)(hK:X.K=K:=by rfl):
  FI K X (.Tuple elts k tpos) (.Call (.Name "enumerate" p) [a] [] pos) (yU f):=FI.mk λρ ds hf=>by
 subst hK;unfold yU at hf;split at hf
 ·rename_i l e1;cases hf
  refine PI.imp (zje hg hm (yY (h.h ρ _ e1) vN hs) hs) λσ H R ⟨F,r,q⟩=>⟨F,r,λv F1 H1 g1 r1=>?_⟩
  obtain⟨a,vs,rfl,f1,q1⟩:=Dat.tup_inv (K:=X.K) (F:=F1) r1;refine⟨a,vs,rfl,SqT.of (g1.fh _ _ f1),q _ F1 H1 g1 λF2 H2 a2 b2=>?_⟩;have hs:SqT X.K H2 a vs:=SqT.of (b2 _ _ (a2 _ _ f1));have hl:=q1.length;refine⟨λi hi=>?_,λi x H3 d hd y=>?_,?_⟩
  ·rw[gI]at hi;exact⟨vs,vs[i]'(by omega),hs,by simp⟩
  ·obtain⟨x0,hx0,rfl⟩:=zbu 0 l i d hd;obtain⟨pp,vv,hpp,rfl,rfl,hv⟩:=y;obtain⟨w,hw,dw⟩:=q1.get hx0;rw[hv vs hs]at hw;cases hw
   have g:=zE.frozen (o:=.tup [.int (i:Int),vv]) b2 hpp;refine⟨_,g,Dat.tup (K:=X.K) qK ?_⟩;rw[Nat.zero_add];exact zC.cons (Dat.int (K:=X.K) _) (zC.cons ((dw.mono a2).mono g.ff) zC.nil)
  ·rw[gI];exact⟨vs,hs,by omega⟩
 ·cases hf
noncomputable def kR(g:D->EO En)(b:EO Fl):List D->EO Fl
 |[],ρ=>some (.nx ρ)
 |x::xs,ρ=>match g x ρ with
  |some ρ1=>match b ρ1 with
   |some (.nx ρ2)=>kR g b xs ρ2
   |some (.ct ρ2)=>kR g b xs ρ2
   |some (.bk ρ2)=>some (.nx ρ2)
   |some (.rt d ρ2)=>some (.rt d ρ2)
   |some (.rs c d ρ2)=>some (.rs c d ρ2)
   |none=>none
  |none=>none
noncomputable def jF(fi:EO (List D))(g:D->EO En)(b:EO Fl):EO Fl:=λρ=>(fi ρ).bind λds=>kR g b ds ρ
theorem vX{zM:Expr}{b:EO Fl}(hp:PassesOwn (model X.prog X.w) X.A X.env X.xe)(hc:X.calm=true)(hi:FI K X tg zM fi)(hg:FG K X tg g)(hb:FSs K md X body b)(hs:∀x,foldedSetIterable zM X.env x=pure x:=by intro _;rfl):FS K md X (.For tg zM body [] pos) (jF fi g b):=FS.mk λρ fl hf=>by
 unfold jF at hf;cases e1:fi ρ with
 |none=>rw[e1]at hf;cases hf
 |some ds=>
  rw[e1]at hf;have hf:kR g b ds ρ=some fl:=hf;have hg':=PG.any (X:=X) (c:=tg) (t:=λi:{q:En×D×En//g q.2.1 q.1=some q.2.2}=>rdG K i.1.1 i.1.2.1 i.1.2.2) λi=>hg.h _ _ _ i.2
  have hb':=PSs.any (X:=X) (c:=body) (t:=λi:{q:En×Fl//b q.1=some q.2}=>rdS X K md i.1.1 i.1.2) λi=>hb.h _ _ i.2
  refine PS.imp (zmt hp hc (hi.h ρ ds e1) hg' hb' hs) λD σ H ⟨F,r,q⟩=>⟨F,r,λJ F0 H0 g0 ok=>?_⟩
  refine⟨λi k σ1 H1=>i<=ds.length/\k=ds.length - i/\∃ρ1 F1,Rel K F1 H1 ρ1 σ1/\qI ρ σ F H ρ1 σ1 F1 H1/\zG F0 F1/\kR g b (ds.drop i) ρ1=some fl,
   ⟨ds.length,Nat.zero_le _,rfl,ρ,F0,r.grow g0,g0.step,zG.refl _,hf⟩,?_⟩
  rintro i k σ1 H1 ⟨hi,rfl,ρ1,F1,r1,s1,ff1,e2⟩;obtain⟨o1,o2,o3⟩:=ok F1 H1 ff1 r1.sub;by_cases hlt:i<ds.length
  ·rw[List.drop_eq_getElem_cons hlt]at e2;simp only[kR]at e2;refine .inr ⟨o1 i hlt,λσ' H'=>i+1<=ds.length/\∃ρ3 F3,Rel K F3 H' ρ3 σ'/\qI ρ σ F H ρ3 σ' F3 H'/\zG F0 F3/\kR g b (ds.drop (i+1)) ρ3=some fl,λσ' H' ⟨z1,z2⟩=>⟨ds.length - (i+1),by omega,z1,rfl,z2⟩,λx H2 y=>?_⟩;obtain⟨F2,g2,d2⟩:=o2 i x H2 _ (List.getElem?_eq_getElem hlt) y;have r2:=r1.grow g2;have s2:=s1.trans (g2.step (ρ:=ρ1) (σ:=σ1)) r.sub;cases e3:g ds[i] ρ1 with
   |none=>rw[e3]at e2;cases e2
   |some ρ2=>
    rw[e3]at e2;refine⟨⟨(ρ1,ds[i],ρ2),e3⟩,F2,r2,d2,λσ2 r2' ow=>?_⟩;have s2':qI ρ σ F H ρ2 σ2 F2 H2:=s2.kp ow;cases e4:b ρ2 with
    |none=>simp only[e4]at e2;cases e2
    |some fl2=>
     simp only[e4]at e2;refine⟨⟨(ρ2,fl2),e4⟩,F2,r2',?_⟩;cases fl2 with
     |nx ρ3=>exact λσ3 F3 H3 r3 s3=>⟨hlt,ρ3,F3,r3,s2'.trans s3 r.sub,ff1.trans (g2.ff.trans s3.ff),e2⟩
     |ct ρ3=>exact λσ3 F3 H3 r3 s3=>⟨hlt,ρ3,F3,r3,s2'.trans s3 r.sub,ff1.trans (g2.ff.trans s3.ff),e2⟩
     |bk ρ3=>cases e2;exact λσ3 F3 H3 r3 s3=>q σ3 F3 H3 r3 (s2'.trans s3 r.sub)
     |rt d ρ3=>cases e2;exact λv σ3 F3 H3 r3 s3 h=>q v σ3 F3 H3 r3 (s2'.trans s3 r.sub) (nO.back s2' r.sub h)
     |rs c d ρ3=>cases e2;exact λσ3 F3 H3 C da r3 s3 x=>q σ3 F3 H3 C da r3 (s2'.trans s3 r.sub) x
  ·have e:i=ds.length:=by omega
   subst e;rw[List.drop_length]at e2;have e2:some (Fl.nx ρ1)=some fl:=e2;cases e2
   exact .inl ⟨o3,q σ1 F1 H1 r1 s1⟩
end
noncomputable def kG:Option Sl->Option Sl
 |some (.ow _ d)=>some (.bor d)
 |s=>s
noncomputable def qE(cap:ON)(ρ:En):En:=cap.map λo=>match o with
 |some j=>kG ((ρ[j]?).getD none)
 |none=>none
variable{i:Nat}{cap:ON}
theorem zcg{s:Sl}(h:(qE cap ρ)[i]?=some (some s)):∃j s0,cap[i]?=some (some j)/\ρ[j]?=some (some s0)/\kG (some s0)=some s:=by
 unfold qE at h;rw[List.getElem?_map]at h;cases e:cap[i]? with
 |none=>rw[e]at h;cases h
 |some o=>
  rw[e]at h;cases o with
  |none=>cases h
  |some j=>
   have h:kG ((ρ[j]?).getD none)=some s:=Option.some.inj h;cases e2:ρ[j]? with
   |none=>rw[e2]at h;cases h
   |some o2=>
    rw[e2]at h;cases o2 with
    |none=>cases h
    |some s0=>exact⟨j,s0,rfl,e2,h⟩
theorem zeK(h:cap[i]?=some (some j))(e:σ[j]?=some (some v)):(st0 cap σ)[i]?=some (some v):=by unfold st0;rw[List.getElem?_map,h];simp[e]
theorem Rel.inner(r:Rel K F H ρ σ):Rel K F H (qE cap ρ) (st0 cap σ):=by
 refine⟨r.sub,λi d h=>?_,λi d h=>?_,λi q d h=>?_,λi j q d s a ne h1=>?_,by simp[qE,st0]⟩
 ·obtain⟨j,s0,e1,e2,e3⟩:=zcg h;cases s0<;>simp[kG]at e3
  subst e3;obtain⟨v,h1,h2⟩:=r.dat j _ e2;exact⟨v,zeK e1 h1,h2⟩
 ·obtain⟨j,s0,e1,e2,e3⟩:=zcg h;cases s0<;>simp[kG]at e3<;>subst e3
  ·obtain⟨a,h1,_,h2⟩:=r.own j _ _ e2;exact⟨_,zeK e1 h1,h2.b⟩
  ·obtain⟨v,h1,h2⟩:=r.bor j _ e2;exact⟨v,zeK e1 h1,h2⟩
 ·obtain⟨j,s0,e1,e2,e3⟩:=zcg h;cases s0<;>simp[kG]at e3
 ·obtain⟨j,s0,e1,e2,e3⟩:=zcg h1;cases s0<;>simp[kG]at e3
noncomputable def qZ(g:D->EO En)(t:EO Bool)(f:EO D)(ρi:En):List D->Option (List D)
 |[]=>some []
 |x::xs=>(g x ρi).bind λρ1=>(t ρ1).bind λb=>if b=true then(f ρ1).bind λd=>(qZ g t f ρi xs).map λl=>d::l else qZ g t f ρi xs
noncomputable def qT(cap:ON)(fi:EO (List D))(g:D->EO En)(t:EO Bool)(f:EO D):EO D:=λρ=>(fi ρ).bind λds=>if ds.length<=lim then(qZ g t f (qE cap ρ) ds).map D.lst else none
structure gW(K:Fg)(X:Cx)(ifs:List Expr)(t:EO Bool):Prop where
 h:∀ρ b,t ρ=some b->PIf X ifs (rdTp K ρ b)
noncomputable def qD:EO Bool:=λ_=>some true
theorem gZ:gW K X [] qD:=gW.mk λρ b h=>by
 cases h
 intro pins s σ H Q I ⟨F,r,q⟩;exact zhs pins s σ H Q I (q F H (zE.refl r.sub))
variable{t:EO Bool}
theorem pif1(h:FTp K X c t):gW K X [c] t:=gW.mk λρ b hf=>zkN (h.h ρ b hf)
section
variable{K:Fg}{md:Md}{X:Cx}{pos:Pos}{tg zM elt:Expr}{ifs:List Expr}{scope:Scope}
theorem zfk{ds rs:List D}{Q:VK}(hm:qZ g t f (qE cap ρ) ds=some rs)(hn:ds.length<=lim)(r:Rel K F H ρ σ)(q:∀v F' H',zE F H F' H'->Res K .ow H F' H' (.lst rs) v->Q v H'){J:It}{F1 H1:Hp}(g1:zE F H F1 H1)(ok:zcV K J F1 ds):
  znH K J (λv σ H Q=>∃i:{q:En×D×En//g q.2.1 q.1=some q.2.2},rdG K i.1.1 i.1.2.1 i.1.2.2 v σ H Q) (λσ H Q=>∃i:{q:En×Bool//t q.1=some q.2},rdTp K i.1.1 i.1.2 σ H Q) (λσ H Q=>∃i:{q:En×D//f q.1=some q.2},rdE K .fz i.1.1 i.1.2 σ H Q) cap σ H1 Q:=by
 intro a ha;refine⟨λi m H2=>∃acc,i<=ds.length/\m=ds.length - i/\∃F2 done left,zE F H F2 H2/\zG F1 F2/\(∀b o,H1 b=some o->H2 b=some o)/\F2 a=none/\H2 a=some (.lst acc)/\zC K F2 done acc/\acc.length<=i/\qZ g t f (qE cap ρ) (ds.drop i)=some left/\rs=done++left,
  ⟨ds.length,[],Nat.zero_le _,rfl,F1,[],rs,⟨g1.ff,g1.hh.trans (vM ha _),g1.fh.trans (vM ha _),g1.nw⟩,zG.refl _,λb o e=>vM ha _ _ _ e,g1.fh.free ha,qK,zC.nil,Nat.zero_le _,hm,rfl⟩,?_⟩
 rintro i m H2 ⟨acc,hi,rfl,F2,done,left,g2,ff,hh,fa,hd,da,al,e1,e2⟩;obtain⟨o1,o2,o3⟩:=ok F2 H2 ff g2.fh;by_cases hlt:i<ds.length
 ·refine .inr ⟨o1 i hlt,λx H3 y=>?_⟩;obtain⟨F3,g3,d3⟩:=o2 i x H3 _ (List.getElem?_eq_getElem hlt) y;rw[List.drop_eq_getElem_cons hlt]at e1;simp only[qZ]at e1;have g23:=g2.trans g3;have hd3:=g3.hh _ _ hd;have fa3:=g3.nw a _ hd fa;cases e3:g ds[i] (qE cap ρ)with
  |none=>rw[e3]at e1;cases e1
  |some ρ1=>
   simp only[e3,Option.bind_some]at e1;refine⟨⟨(qE cap ρ,ds[i],ρ1),e3⟩,F3,(r.grow g23).inner,d3,λσ2 r2 _=>?_⟩;cases e4:t ρ1 with
   |none=>rw[e4]at e1;cases e1
   |some b=>
    simp only[e4,Option.bind_some]at e1;refine⟨⟨(ρ1,b),e4⟩,F3,r2,λF4 H4 g4=>?_⟩;have g24:=g23.trans g4;have hd4:=g4.hh _ _ hd3;have fa4:=g4.nw a _ hd3 fa3;have ff4:zG F1 F4:=ff.trans (g3.ff.trans g4.ff);have hh4:∀c o,H1 c=some o->H4 c=some o:=λc o e=>g4.hh _ _ (g3.hh _ _ (hh c o e))
    cases b with
    |false=>
     rw[if_neg Bool.false_ne_true]at e1;exact nJ ⟨ds.length - (i+1),by omega,acc,hlt,rfl,F4,done,left,g24,ff4,hh4,fa4,hd4,da.mono (g3.ff.trans g4.ff),by omega,e1,e2⟩
    |true=>
     rw[if_pos rfl]at e1;refine nH ?_;cases e5:f ρ1 with
     |none=>rw[e5]at e1;cases e1
     |some d=>
      simp only[e5,Option.bind_some]at e1;cases e6:qZ g t f (qE cap ρ) (ds.drop (i+1))with
      |none=>rw[e6]at e1;cases e1
      |some l=>
       rw[e6]at e1;cases e1
       refine⟨⟨(ρ1,d),e5⟩,F4,r2.grow g4,λv F5 H5 g5 d5=>?_⟩;have g25:=g24.trans g5;have hd5:=g5.hh _ _ hd4;have fa5:=g5.nw a _ hd4 fa4;have haH:H a=none:=g1.hh.free ha;refine⟨acc,hd5,zdl (by omega),ds.length - (i+1),by omega,_,hlt,rfl,F5,done++[d],l,?_,ff4.trans g5.ff,λc o e=>?_,fa5,qK,?_,by rw[List.length_append,List.length_singleton];omega,e6,by rw[e2];simp⟩
       ·refine⟨g25.ff,λc o e=>?_,λc o e=>?_,g25.nw⟩
        ·rw[zT (qS e haH)];exact g25.hh _ _ e
        ·rw[zT (qS e fa5)];exact g25.fh _ _ e
       ·rw[zT (qS e ha)];exact g5.hh _ _ (hh4 c o e)
       ·exact(da.mono (g3.ff.trans (g4.ff.trans g5.ff))).snoc d5
 ·have e:i=ds.length:=by omega
  subst e;rw[List.drop_length]at e1;have e1:some []=some left:=e1;cases e1
  rw[List.append_nil]at e2;subst e2;exact .inl ⟨o3,q _ F2 H2 g2 ⟨a,rfl,g1.hh.free ha,fa,acc,hd,da⟩⟩
theorem zaV{d:D}(h:qT cap fi g t f ρ=some d):∃ds rs,fi ρ=some ds/\ds.length<=lim/\qZ g t f (qE cap ρ) ds=some rs/\d=.lst rs:=by
 unfold qT at h;cases e1:fi ρ with
 |none=>rw[e1]at h;cases h
 |some ds=>
  rw[e1]at h;simp only[Option.bind_some]at h;split at h
  ·rename_i hz;cases e2:qZ g t f (qE cap ρ) ds with
   |none=>rw[e2]at h;cases h
   |some rs=>rw[e2]at h;cases h;exact⟨ds,rs,rfl,hz,e2,rfl⟩
  ·cases h
theorem zgG(N:List Str)(cap:ON)(cp:Cap X scope N cap)(hc:X.calm=true)(hi:FI K X tg zM fi)(hg:∀C s0 H0 fp,FG K (qN X N scope (zY X.env scope.names []) C s0 H0 fp) tg g)(ht:∀C s0 H0 fp,gW K (qN X N scope (zY X.env scope.names []) C s0 H0 fp) ifs t)(he:∀C s0 H0 fp,FP K .fz (qN X N scope (zY X.env scope.names []) C s0 H0 fp) elt f)(S:kA X scope:=by exact kA.mk')(hs:∀x,foldedSetIterable zM X.env x=pure x:=by intro _;rfl)(hK:X.K=K:=by rfl):
  FP K .ow X (.ListComp elt [⟨tg,zM,ifs,0⟩] scope pos) (qT cap fi g t f):=FP.mk λρ d hf=>by
 subst hK;obtain⟨ds,rs,e1,hz,e2,rfl⟩:=zaV hf;refine PE.imp (zkU N cap cp hc (hi.h ρ ds e1) (λC s0 H0 fp=>PG.any λi:{q:En×D×En//g q.2.1 q.1=some q.2.2}=>(hg C s0 H0 fp).h _ _ _ i.2) (λC s0 H0 fp=>PIf.any λi:{q:En×Bool//t q.1=some q.2}=>(ht C s0 H0 fp).h _ _ i.2)
  (λC s0 H0 fp=>PE.any λi:{q:En×D//f q.1=some q.2}=>(he C s0 H0 fp).h _ _ i.2) S hs) λσ H Q ⟨F,r,q⟩=>?_
 exact⟨F,r,λJ F1 H1 g1 ok=>zfk e2 hz r q g1 ok⟩
theorem zlY(k:Nat){py spos:Pos}(N:List Str)(cap:ON)(cp:Cap X scope N cap)(hc:X.calm=true)(hN:X.N.Nodup)(hi:FI K X tg zM fi)(hg:∀C s0 H0 fp,FG K (qN X N scope (zY X.env scope.names []) C s0 H0 fp) tg g)(ht:∀C s0 H0 fp,gW K (qN X N scope (zY X.env scope.names []) C s0 H0 fp) ifs t)(he:∀C s0 H0 fp,FP K .fz (qN X N scope (zY X.env scope.names []) C s0 H0 fp) elt f)(hk:X.N[k]?=some y:=by rfl)(hy:Loc X.env.scope y:=by first|exact Or.inl rfl|exact Or.inr rfl)(S:kA X scope:=by exact kA.mk')(hs:∀x,foldedSetIterable zM X.env x=pure x:=by intro _;rfl)(hsw:swapsWith (.ListComp elt [⟨tg,zM,ifs,0⟩] scope pos) (some (.Name y py)) spos.line X.env=pure true:=by rfl)(hf:X.fn y=true\/X.env.scope.names.lookup y=some .local:=by first|exact .inl rfl|exact .inr rfl|assumption)(hK:X.K=K:=by rfl):
  FS K md X (.Assign [.Name y py] (.ListComp elt [⟨tg,zM,ifs,0⟩] scope pos) spos) (qB k (qT cap fi g t f)):=FS.mk λρ fl hm=>by
 subst hK;unfold qB at hm;cases e0:qT cap fi g t f ρ with
 |none=>rw[e0]at hm;cases hm
 |some d=>
  rw[e0]at hm;cases hm
  obtain⟨ds,rs,e1,hz,e2,rfl⟩:=zaV e0;refine PS.imp (zde N cap cp hc hN hk hy (hi.h ρ ds e1) (λC s0 H0 fp=>PG.any λi:{q:En×D×En//g q.2.1 q.1=some q.2.2}=>(hg C s0 H0 fp).h _ _ _ i.2) (λC s0 H0 fp=>PIf.any λi:{q:En×Bool//t q.1=some q.2}=>(ht C s0 H0 fp).h _ _ i.2)
   (λC s0 H0 fp=>PE.any λi:{q:En×D//f q.1=some q.2}=>(he C s0 H0 fp).h _ _ i.2) S hs hsw hf) λD σ H ⟨F,r,q⟩=>?_
  refine⟨F,r,λJ F1 H1 g1 ok=>zfk e2 hz r (λv F2 H2 g2 h=>?_) g1 ok⟩;obtain⟨a0,ea,z1,z2,z3⟩:=h;obtain⟨F3,g3,h3⟩:=Res.fz_of_ow g2 ⟨a0,ea,z1,z2,z3⟩ ea z3.fl;have s3:=g3.step (ρ:=ρ) (σ:=σ);exact q _ F3 H2 ((r.grow g3).setD h3) (s3.kp Kp.setD)
end
noncomputable def SpD(K:Fg)(md:Md)(m:LO):Sp:=λvs H Q _=>∃F ds d,zG F H/\zC K F ds vs/\m ds=some d/\∀v F' H',zE F H F' H'->Res K md H F' H' d v->Q v H'
variable{N:List Str}{mb:Nat->EO Fl}
section
variable{P:Program}{w:World}{K:Fg}{mg:SV}{base:Heap}{md:Md}{X:Cx}{k:Nat}{f:Addr}{fd:FuncData}{ps:List Str}{m:LO}{x:Str}{e:Expr}{es:List Expr}{fs:EO (List D)}{p pos:Pos}
theorem zox(F:yG X.prog X.w X.K X.mg X.base CX0 k f fd ps (SpD K md m))(hr:qR k X.A)(hg:Gl X x)(hm:X.mg x=some (.ref f))(hk:PySem.W.keepIn X.K (.ref f)=true)(hb:wP X.K fd ps [])(ha:FPs K true X (e::es) fs)(H1:∀{t:TA},PA X (e::es) t->PE X (.Call (.Name x p) (e::es) [] pos) (ziR (SpD K md m) [] E0 t):=by exact λha=>zeQ ‹_› ‹_› ‹_› ‹_› ‹_› ‹_› .nil zkX ha):
  FP K md X (.Call (.Name x p) (e::es) [] pos) (cL m fs):=FP.mk λρ d hf=>by
 obtain⟨l,e1,e2⟩:=zbP hf;refine PE.imp (H1 (ha.h ρ l e1)) λσ H Q ⟨F,r,q⟩=>⟨F,r,λvs F1 H1 g1 r1=>?_⟩
 refine⟨F1,l,d,g1.fh,by rw[List.append_nil];exact r1,e2,λv F2 H2 g2 h2=>q v F2 H2 (g1.trans g2) ?_⟩;cases md with
 |fz=>exact h2
 |br=>exact h2
 |ow=>
  obtain⟨a,e,h3,h4,h5⟩:=h2;exact⟨a,e,g1.hh.free h3,h4,h5⟩
noncomputable def jB(n:Nat)(ds:List D):En:=ds.map (λd=>some (.dat d))++List.replicate (n - ds.length) none
theorem Rel.start{ds:List D}{vs:List V}(s:zG F H)(q:zC K F ds vs):Rel K F H (jB N.length ds) (L2.start N vs):=by
 have hl:=q.length;have key:∀(i:Nat) s,(jB N.length ds)[i]?=some (some s)->∃d,s=.dat d/\ds[i]?=some d:=λi s h=>by
  unfold jB at h;by_cases hi:i<ds.length
  ·rw[List.getElem?_append_left (by simpa using hi),List.getElem?_map,List.getElem?_eq_getElem hi]at h;cases h
   exact⟨_,rfl,List.getElem?_eq_getElem hi⟩
  ·rw[List.getElem?_append_right (by simpa using hi)]at h;rw[List.getElem?_replicate]at h;split at h<;>cases h
 refine⟨s,λi d h=>?_,λi d h=>?_,λi q d h=>?_,λi j q d s a ne h1=>?_,?_⟩
 ·obtain⟨d',e,hd⟩:=key i _ h;cases e
  obtain⟨v,hv,dv⟩:=q.get hd;refine⟨v,?_,dv⟩;unfold L2.start;have hi:i<vs.length:=(List.getElem?_eq_some_iff.mp hv).1;rw[List.getElem?_append_left (by simpa using hi),List.getElem?_map,hv];rfl
 ·obtain⟨d',e,_⟩:=key i _ h;cases e
 ·obtain⟨d',e,_⟩:=key i _ h;cases e
 ·obtain⟨d',e,_⟩:=key i _ h1;cases e
 ·unfold jB L2.start;simp[hl]
theorem zaZ{ds:List D}{b:Addr}(h:xH (jB n ds) σ b):False:=by
 obtain⟨i,q,d,h,_⟩:=h;unfold jB at h;by_cases hi:i<ds.length
 ·rw[List.getElem?_append_left (by simpa using hi),List.getElem?_map,List.getElem?_eq_getElem hi]at h;cases h
 ·rw[List.getElem?_append_right (by simpa using hi)]at h;rw[List.getElem?_replicate]at h;split at h<;>cases h
theorem qI.grow{ds:List D}(a:qI (jB n ds) σ F H ρ' σ' F' H')(s:zG F H):zE F H F' H':=by
 refine⟨a.ff,λb o e=>?_,a.fh,λb o e n=>(a.rest b o e n zaZ).2⟩;cases q:F b with
 |some u=>
  have:=s _ _ q;rw[e]at this;cases this
  exact a.fh _ _ (a.ff _ _ q)
 |none=>exact(a.rest b o e q zaZ).1
theorem znu{qual:Str}{st:Stmt}(Fn:Fun K x qual st f fd)(S:nQ N ps (kT st))(hb:∀(n:Nat) (cdv:Value) (A:Around) (outer:List Env) (s:Shared) (H:Hp) (E:XK),qR k (A.deeper (envOfC qual (kT st) s.heap.objs.size f cdv))->FSs K md (wX CX0 P w K mg base N qual (kT st) f cdv A outer s H E).nox (gJ st) (mb n))(hm:∀ds d,m ds=some d->ds.length=ps.length/\∃n,(∃ρ',mb n (jB N.length ds)=some (.rt d ρ'))\/(d=.non/\md=.fz/\∃ρ',mb n (jB N.length ds)=some (.nx ρ'))):yG P w K mg base CX0 (k+1) f fd ps (SpD K md m):=by
 refine Fn.ok S (λvs H Q E h=>?_) (λcdv A outer s H vs Q E hr h=>?_)
 ·obtain⟨F,ds,d,_,q,e,_⟩:=h;rw[q.length];exact(hm ds d e).1
 obtain⟨F,ds,d,sub,qd,e,k⟩:=h;obtain⟨_,n,h⟩:=hm ds d e;rcases h with⟨ρ',h⟩|⟨rfl,rfl,ρ',h⟩
 ·refine⟨_,(hb n cdv A outer s H E hr).h _ _ h,F,Rel.start sub qd,λv σ' F' H' r' s' res=>?_⟩;refine k v F' H' (s'.grow sub) ?_;cases md with
  |fz=>exact res
  |br=>exact res.elim
  |ow=>
   obtain⟨a,ea,h1,h2,h3⟩:=res;refine⟨a,ea,?_,h2,h3⟩;rcases h1 with h1|h1
   ·exact h1
   ·exact(zaZ h1).elim
 ·refine⟨_,(hb n cdv A outer s H E hr).h _ _ h,F,Rel.start sub qd,λσ' F' H' r' s'=>?_⟩;exact k _ F' H' (s'.grow sub) (Dat.non (K:=K) (F:=F'))
end
variable{A:Around}
theorem vG{k:Nat}(hr:qR k A):A.units+100<cLine:=by have:=hr.un;omega
theorem u101{k:Nat}(hr:qR k A):A.units+101<cLine:=by have:=hr.un;omega
structure Glb(mg:SV):Prop where
 isi:mg "isinstance"=none
 str:mg "str"=none
 tuple:mg "tuple"=none
 list:mg "list"=none
 int:mg "int"=none
 bool:mg "bool"=none
 dict:mg "dict"=none
 len:mg "len"=none
 range:mg "range"=none
 enum:mg "enumerate"=none
 sum:mg "sum"=none
 max:mg "max"=none
 min:mg "min"=none
 abs:mg "abs"=none
 zip:mg "zip"=none
 reversed:mg "reversed"=none
 sorted:mg "sorted"=none
 set:mg "set"=none
 any:mg "any"=none
 all:mg "all"=none
structure Fk(P:Program)(w:World)(K:Fg)(mg:SV)(base:Heap)(x:Str)(ps:List Str)(md:Md)(k:Nat)(m:LO):Prop where
 ex:∃f fd,yG P w K mg base CX0 k f fd ps (SpD K md m)/\wP K fd ps []/\PySem.W.keepIn K (.ref f)=true/\mg x=some (.ref f)
section
variable{P:Program}{w:World}{K:Fg}{mg:SV}{base:Heap}{md:Md}{X:Cx}{k j:Nat}{ps:List Str}{m m':LO}{x:Str}{e:Expr}{es:List Expr}{fs:EO (List D)}{p pos:Pos}
theorem fk(G:Fk X.prog X.w X.K X.mg X.base x ps md k m)(hr:qR j X.A)(ha:FPs K true X (e::es) fs)(hle:k<=j:=by first|decide|omega)(hg:Gl X x:=by rfl)(hK:X.K=K:=by rfl)(H1:∀{f:Addr}{fd:FuncData} {t:TA},yG X.prog X.w X.K X.mg X.base CX0 k f fd ps (SpD K md m)->qR k X.A->Gl X x->X.mg x=some (.ref f)->PySem.W.keepIn X.K (.ref f)=true->wP X.K fd ps []->PA X (e::es) t->PE X (.Call (.Name x p) (e::es) [] pos) (ziR (SpD K md m) [] E0 t):=by exact λF hr hg hm hk hb ha=>zeQ F hr hg hm hk hb .nil zkX ha):
  FP K md X (.Call (.Name x p) (e::es) [] pos) (cL m fs):=by
 subst hK;obtain⟨f,fd,F,hb,hk,hm⟩:=G.ex;exact zox F (hr.mono hle) hg hm hk hb ha λha=>H1 F (hr.mono hle) hg hm hk hb ha
theorem Fk.mono(G:Fk P w K mg base x ps md k m)(h:k<=j):Fk P w K mg base x ps md j m:=by obtain⟨f,fd,F,r⟩:=G.ex;exact⟨f,fd,F.mono h,r⟩
theorem Fk.never{f:Addr}{fd:FuncData}(h:wP K fd ps []/\PySem.W.keepIn K (.ref f)=true/\mg x=some (.ref f))(hm:∀ds,m ds=none):Fk P w K mg base x ps md 0 m:=by
 refine⟨f,fd,⟨λvs H Q E h=>?_,λA outer s H args us vs Q E _ _ _ _ h=>?_⟩,h⟩
 ·obtain⟨F,ds,d,_,_,e,_⟩:=h;rw[hm]at e;cases e
 ·obtain⟨F,ds,d,_,_,e,_⟩:=h;rw[hm]at e;cases e
end
def zP:Nat:=1000000000
noncomputable def qM(mb:EO Fl)(np nn:Nat)(ds:List D):Option D:=if ds.length=np then(match mb (jB nn ds)with
 |some (.rt d _)=>some d
 |_=>none)else none
theorem zhi{np nn:Nat}:∀ds d,qM (mb zP) np nn ds=some d->ds.length=np/\∃n,(∃ρ',mb n (jB nn ds)=some (.rt d ρ'))\/(d=.non/\md=.fz/\∃ρ',mb n (jB nn ds)=some (.nx ρ')):=λds d h=>by
 unfold qM at h;split at h
 ·rename_i hl;refine⟨hl,zP,.inl ?_⟩;split at h
  ·rename_i d' ρ' e;cases h;exact⟨ρ',e⟩
  ·cases h
 ·cases h
def ziG(ns:List Int):Prop:=∀n∈ns,Builtin.Int.intBits n<=2^20
theorem zjy{ns:List Int}(h:PySem.W.WData.layableAll [PySem.W.WData.list (ns.map PySem.W.WData.int)]=true):ziG ns:=by
 have h1:=(PySem.W.layableW_iff.mp (List.all_eq_true.mp h (PySem.W.WData.list (ns.map PySem.W.WData.int)) (by simp))).2.2;rw[PySem.W.WData.weight]at h1;have key:∀l:List Int,PySem.W.WData.weightAll (l.map PySem.W.WData.int)<=2^20->ziG l:=by
  intro l;induction l with
  |nil=>intro _ n hn;cases hn
  |cons x l ih=>
   intro h n hn;rw[List.map_cons,PySem.W.WData.weightAll]at h;rcases List.mem_cons.mp hn with rfl|hn
   ·have:Builtin.Int.intBits n<=PySem.W.WData.weight (.int n):=by rw[PySem.W.WData.weight];exact Nat.le_refl _
    omega
   ·exact ih (by omega) n hn
 exact key ns h1
theorem zlL{l:PySem.W.OpenLaw}{k:Nat}{q:Program}{loose:List Str}{XP:(SV)->Heap->Prop}{YP:World->Heap->Prop}{d:DefRec}{K:Params->Fg}{m:LO}(hn:l.most=some 63)(hdf:d.params.defaults=[])(hr:qR k callerA)(hY:∀(w:World) (h:Heap),YP w h->(K w.params).In h)(F:∀(w:World) (mg:SV) (fa:Addr) (h:Heap),(K w.params).In h->h.Ns mainGlobals mg->mg d.name=some (.ref fa)->
   ∃fd:FuncData,(∀(s:Shared) (u:Value),BindsTo s fd ⟨[u],[]⟩ [(x,u)])/\∀base:Heap,(K w.params).In base->base.Ns mainGlobals mg->yG l.prog w (K w.params) mg base CX0 k fa fd [x] (SpD (K w.params) .fz m))(H:∀ns:List Int,ns.length<=63->ziG ns->m [.scr ns]=some (.bl true)):PySem.W.WalkO q loose XP YP l.row.toRowW d [] (λf vs=>PySem.call f vs):=
 L2.walk_of (n:=63) (k:=k) (x:=x) (CX:=λ_=>CX0) (sp:=λw=>SpD (K w.params) .fz m) hn (by decide) hdf hr hY F
  (λw H' a ns hl hw _ hS=>⟨H',[.scr ns],.bl true,zG.refl _,zC.cons (Dat.scr hS) zC.nil,H ns hl (zjy hw),λv F' H2 _ h=>Dat.bl_inv (K:=K w.params) (F:=F') h⟩) λ_ _ _ _ _ z=>z
section
variable{K:Fg}{F H F' H' F2 H2:Hp}{ρ ρ':En}{σ σ':St}{i:Nat}{a:Addr}
end
noncomputable def xD(nn j:Nat)(c:D)(ds:List D):En:=(jB nn (ds.take j++.non::ds.drop j)).set j (some (.inn c))
noncomputable def xK(mb:EO Fl)(np nn j:Nat)(c:D)(ds:List D):Option (D×D):=if ds.length+1=np/\j<=ds.length then(match mb (xD nn j c ds)with
 |some (.rt d ρ')=>(match ρ'[j]? with
  |some (some (.ow true c'))=>some (d,c')
  |_=>none)
 |_=>none)else none
section
variable{P:Program}{w:World}{K:Fg}{mg:SV}{base:Heap}{X:Cx}{k j:Nat}{f:Addr}{fd:FuncData}{ps:List Str}{x:Str}
noncomputable def vE(m:D->List D->Option (D×D))(i:Nat)(fs:EO (List D)):EO (D×En):=λρ=>match ρ[i]?,fs ρ with
 |some (some (.ow p c)),some ds=>(m c ds).map λq=>(q.1,ρ.set i (some (.ow p q.2)))
 |_,_=>none
noncomputable def xL(m:EO (D×En)):EO Fl:=λρ=>(m ρ).map λq=>.rt q.1 q.2
end
noncomputable def xY(jj:Nat)(ρ:En):Option D:=match ρ[jj]? with
 |some (some (.ow true c))=>some c
 |_=>none
section
variable{K:Fg}{X:Cx}{pos:Pos}{tg zM elt:Expr}{scope:Scope}
end
end FL
namespace HT
def ZS(h:Heap)(z TI TO:Addr):Prop:=∃f0 f1,h.get? z=some {cls:=.type "zip",dict:=none,data:=.fields #[f0,f1,.bool false,.ref TI,.ref TO],slots:=#[]}/\(f0=.none\/∃T:Nat,f0=rawInt T)
variable{Q:Option Value->Shared->Prop}{z i1 i2 l1 l2 l:Addr}{n1 n2 i:Nat}{P1 P2:Nat->Value->Prop}{S1 S2:Nat->Heap->Prop}{h:Heap}{items:Array Value}
section
variable{prog:Program}{w:World}{A:Around}{E:Vs}{s:Shared}
theorem zbB{a:Addr}{Q:Option Obj->Shared->Prop}(h:Q (s.heap.get? a) s):wpAny (model prog w) A (loadIfAlive a) Q E s:=by exact λ_ _ _=>h
theorem zkn{TI TO:Addr}{Q:Bool->Shared->Prop}(hz:ZS s.heap z TI TO)(h1:Q true s)(h2:∀h',ZS h' z TI TO->Heap.SameBut z s.heap h'->Q false {s with heap:=h'}):
  wpAny (model prog w) A (Builtin.SmallTypes.ownedTupleIsFree (.ref z)) Q E s:=by
 obtain⟨f0,f1,hz,hf⟩:=hz;unfold Builtin.SmallTypes.ownedTupleIsFree;rcases hf with rfl|⟨T,rfl⟩
 ·exact wpAny_bind (wpAny_field hz rfl (x:=.none) rfl (wpAny_pure h1))
 ·refine wpAny_bind (wpAny_field hz rfl (x:=rawInt T) rfl ?_);show wpAny _ _ (loadIfAlive _>>=_) _ _ _;refine wpAny_bind (zbB ?_);split
  ·exact wpAny_pure h1
  ·refine wpAny_bind (wpAny_field hz rfl (x:=f1) rfl ?_);split
   ·refine wpAny_bind (wpAny_setField_rec hz (by simp) λh' hz' hs'=>wpAny_pure (h2 h' ⟨_,_,hz',.inr ⟨T,rfl⟩⟩ hs'))
   ·exact wpAny_pure (h2 s.heap ⟨_,_,hz,.inr ⟨T,rfl⟩⟩ ⟨rfl,λ_ _=>rfl⟩)
theorem zgR{TI TO:Addr}{Q:Vs}(D:ZipApart z TI TO i1 i2 l1 l2)(D1:Draws prog w A i1 [i1,l1] n1 P1 S1)(D2:Draws prog w A i2 [i2,l2] n2 P2 S2)(hz:ZS s.heap z TI TO)(hTI:IsPair s.heap TI (.ref i1) (.ref i2))(hTO:∃a b,IsPair s.heap TO a b)(st1:S1 i s.heap)(st2:S2 i s.heap)(hi1:i<n1)(hi2:i<n2)(hQ:∀x y h' tk,P1 i x->P2 i y->ZS h' z TI TO->(∃a b,IsPair h' TO a b)->S1 (i+1) h'->S2 (i+1) h'->IsPair h' s.heap.objs.size x y->h'.objs.size=s.heap.objs.size+1->
   (∀c o,c≠z->c≠TO->c≠i1->c≠i2->s.heap.get? c=some o->h'.get? c=some o)->Q (.ref s.heap.objs.size) {s with heap:=h',toks:=tk}):
  wpAny (model prog w) A (Builtin.«zip.__next__» ⟨[.ref z],[]⟩) (λfin s'=>∃v,fin=.done (.ret v)/\Q v s') E s:=by
 obtain⟨f0,f1,hz0,hf⟩:=id hz;obtain⟨o1,live1⟩:=D1.live _ _ st1;obtain⟨o2,live2⟩:=D2.live _ _ st2;have F1:∀{k:Nat}{h h':Heap} {c:Addr},S1 k h->Heap.SameBut c h h'->i1≠c->l1≠c->S1 k h':=λst hs e1 e2=>D1.frame _ _ _ st λb hb o e=>by
  rcases List.mem_cons.mp hb with rfl|hb
  ·exact hs.extBut _ _ e1 e
  ·rw[List.mem_singleton.mp hb]at e ⊢;exact hs.extBut _ _ e2 e
 have F2:∀{k:Nat}{h h':Heap} {c:Addr},S2 k h->Heap.SameBut c h h'->i2≠c->l2≠c->S2 k h':=λst hs e1 e2=>D2.frame _ _ _ st λb hb o e=>by
  rcases List.mem_cons.mp hb with rfl|hb
  ·exact hs.extBut _ _ e1 e
  ·rw[List.mem_singleton.mp hb]at e ⊢;exact hs.extBut _ _ e2 e
 show wpAny _ _ (field (.ref z) 2>>=_) _ _ _;refine wpAny_bind (wpAny_field hz0 rfl (x:=.bool false) rfl ?_);show wpAny _ _ (field (.ref z) 3>>=_) _ _ _;refine wpAny_bind (wpAny_field hz0 rfl (x:=.ref TI) rfl ?_);refine wpAny_bind (wpAny_seqItems hTI rfl ?_);show wpAny _ _ (Builtin.SmallTypes.ownedTupleIsFree (.ref z)>>=_) _ _ _;refine wpAny_bind (zkn hz ?_ λh₁ hz₁ hs₁=>?_)
 ·simp only[if_true];obtain⟨a,b,hTO⟩:=hTO;refine wpAny_bind (wpAny_rule ?_);refine wpAny_bind (wpAny_field hz0 rfl (x:=.ref TO) rfl ?_);refine wpAny_bind (wpAny_setField_rec hz0 (by simp) λh₁ hz₁ hs₁=>?_);refine wpAny_bind ?_;simp only[List.zipIdx_cons,List.zipIdx_nil,List.forIn_cons,List.forIn_nil];refine wpAny_bind (wpAny_bind (wpAny_onRaise ?_));show wpAny _ _ (Builtin.SmallTypes.nextOf (.ref i1)>>=_) _ _ _;refine wpAny_bind (D1.item i {s with heap:=h₁} _ _ hi1 (F1 st1 hs₁ D.i1z D.l1z) λx h₂ tk₂ px st1' hs₂=>wpAny_pure ?_);have hTO₂:IsPair h₂ TO a b:=hs₂.extBut _ _ D.TOi1 (hs₁.extBut _ _ D.TOz hTO);refine wpAny_bind (wpAny_seqItems hTO₂ rfl ?_);refine wpAny_bind (wpAny_updateSeq_pair hTO₂ λh₃ hTO₃ hs₃=>?_)
  replace hTO₃:IsPair h₃ TO x b:=hTO₃
  refine wpAny_bind (wpAny_letGo (wpAny_pure ?_));refine wpAny_bind (wpAny_bind (wpAny_onRaise ?_));show wpAny _ _ (Builtin.SmallTypes.nextOf (.ref i2)>>=_) _ _ _;refine wpAny_bind (D2.item i {s with heap:=h₃,toks:=tk₂} _ _ hi2 (F2 (F2 (F2 st2 hs₁ D.i2z D.l2z) hs₂ D.i12.symm D.l2i1) hs₃ D.TOi2.symm D.l2TO) λy h₄ tk₄ py st2' hs₄=>wpAny_pure ?_);have hTO₄:IsPair h₄ TO x b:=hs₄.extBut _ _ D.TOi2 hTO₃;refine wpAny_bind (wpAny_seqItems hTO₄ rfl ?_);refine wpAny_bind (wpAny_updateSeq_pair hTO₄ λh₅ hTO₅ hs₅=>?_)
  replace hTO₅:IsPair h₅ TO x y:=hTO₅
  refine wpAny_bind (wpAny_letGo (wpAny_pure (wpAny_pure ?_)));refine wpAny_bind (wpAny_seqItems hTO₅ rfl ?_);refine wpAny_bind (wpAny_newTuple ?_);have hsz:h₅.objs.size=s.heap.objs.size:=by rw[hs₅.1,hs₄.1,hs₃.1,hs₂.1,hs₁.1]
  have hz₅:=hs₅.extBut _ _ D.TOz.symm (hs₄.extBut _ _ D.i2z.symm (hs₃.extBut _ _ D.TOz.symm (hs₂.extBut _ _ D.i1z.symm hz₁)));have hk₅:∀c o,c≠z->c≠TO->c≠i1->c≠i2->s.heap.get? c=some o->h₅.get? c=some o:=λc o c1 c2 c3 c4 e=>
   hs₅.extBut _ _ c2 (hs₄.extBut _ _ c4 (hs₃.extBut _ _ c2 (hs₂.extBut _ _ c3 (hs₁.extBut _ _ c1 e))))
  have h1₅:S1 (i+1) h₅:=F1 (F1 (F1 st1' hs₃ D.TOi1.symm D.l1TO) hs₄ D.i12 D.l1i2) hs₅ D.TOi1.symm D.l1TO;have h2₅:S2 (i+1) h₅:=F2 st2' hs₅ D.TOi2.symm D.l2TO;have hzlt:z<h₅.objs.size:=Heap.lt_size hz₅;show wpAny _ _ (Builtin.SmallTypes.ownedTupleHandOut (.ref z) (.ref h₅.objs.size)>>=_) _ _ _;refine wpAny_bind ?_;unfold Builtin.SmallTypes.ownedTupleHandOut;have hz₆:=Heap.get?_push_of_some {cls:=.type "tuple",data:=.seq #[x,y]} hz₅;refine wpAny_bind (wpAny_setField_rec hz₆ (by simp) λh₇ hz₇ hs₇=>?_);refine wpAny_setField_rec hz₇ (by simp) λh₈ hz₈ hs₈=>?_
  have up:∀c o,c≠z->h₅.get? c=some o->h₈.get? c=some o:=λc o c1 e=>hs₈.extBut _ _ c1 (hs₇.extBut _ _ c1 (Heap.get?_push_of_some _ e))
  have hT₈:IsPair h₈ h₅.objs.size x y:=hs₈.extBut _ _ (Nat.ne_of_gt hzlt) (hs₇.extBut _ _ (Nat.ne_of_gt hzlt) (Heap.get?_push_size _ rfl));have hz8:h₈.objs.size=h₅.objs.size+1:=by rw[hs₈.1,hs₇.1,Heap.size_push]
  rw[hsz]at hT₈ hz8;refine wpAny_pure ⟨_,rfl,?_⟩;show Q (.ref h₅.objs.size) _;rw[hsz];refine hQ x y h₈ tk₄ px py ⟨_,_,hz₈,.inr ⟨_,rfl⟩⟩ ⟨_,_,up _ _ D.TOz hTO₅⟩ (D1.frame _ _ _ h1₅ λb hb o e=>up b o ?_ e) (D2.frame _ _ _ h2₅ λb hb o e=>up b o ?_ e) hT₈ hz8 λc o c1 c2 c3 c4 e=>up c o c1 (hk₅ c o c1 c2 c3 c4 e)
  ·rcases List.mem_cons.mp hb with rfl|hb
   ·exact D.i1z
   ·rw[List.mem_singleton.mp hb];exact D.l1z
  ·rcases List.mem_cons.mp hb with rfl|hb
   ·exact D.i2z
   ·rw[List.mem_singleton.mp hb];exact D.l2z
 ·simp only[Bool.false_eq_true,if_false];obtain⟨a,b,hTO⟩:=hTO;rw[←Array.forIn_toList];refine wpAny_bind ?_;simp only[List.forIn_cons,List.forIn_nil];refine wpAny_bind (wpAny_bind (wpAny_holding ?_));show wpAny _ _ (Builtin.SmallTypes.nextOf (.ref i1)>>=_) _ _ _;refine wpAny_bind (D1.item i {s with heap:=h₁} _ _ hi1 (F1 st1 hs₁ D.i1z D.l1z) λx h₂ tk₂ px st1' hs₂=>wpAny_pure (wpAny_pure ?_));refine wpAny_bind (wpAny_bind (wpAny_holding ?_));show wpAny _ _ (Builtin.SmallTypes.nextOf (.ref i2)>>=_) _ _ _;refine wpAny_bind (D2.item i {s with heap:=h₂,toks:=tk₂} _ _ hi2 (F2 (F2 st2 hs₁ D.i2z D.l2z) hs₂ D.i12.symm D.l2i1) λy h₄ tk₄ py st2' hs₄=>wpAny_pure (wpAny_pure (wpAny_pure ?_)));show wpAny _ _ (newTuple [x,y]>>=_) _ _ _;refine wpAny_bind (wpAny_newTuple ?_);have hsz:h₄.objs.size=s.heap.objs.size:=by rw[hs₄.1,hs₂.1,hs₁.1]
  obtain⟨g0,g1,hz₁',hg⟩:=hz₁;have hz₄:=hs₄.extBut _ _ D.i2z.symm (hs₂.extBut _ _ D.i1z.symm hz₁');refine wpAny_pure ⟨_,rfl,?_⟩;show Q (.ref h₄.objs.size) _;have up:∀c o,h₄.get? c=some o->(h₄.push {cls:=.type "tuple",data:=.seq #[x,y]}).get? c=some o:=λc o e=>Heap.get?_push_of_some _ e
  have hT:IsPair (h₄.push {cls:=.type "tuple",data:=.seq #[x,y]}) h₄.objs.size x y:=Heap.get?_push_size _ rfl;have hz8:(h₄.push {cls:=.type "tuple",data:=.seq #[x,y]}).objs.size=h₄.objs.size+1:=Heap.size_push ..;rw[hsz]at hT hz8 ⊢;exact hQ x y _ tk₄ px py ⟨_,_,up _ _ hz₄,hg⟩ ⟨_,_,up _ _ (hs₄.extBut _ _ D.TOi2 (hs₂.extBut _ _ D.TOi1 (hs₁.extBut _ _ D.TOz hTO)))⟩ (D1.frame _ _ _ (F1 st1' hs₄ D.i12 D.l1i2) λb hb o e=>up b o e) (D2.frame _ _ _ st2' λb hb o e=>up b o e) hT hz8
   λc o c1 c2 c3 c4 e=>up c o (hs₄.extBut _ _ c4 (hs₂.extBut _ _ c3 (hs₁.extBut _ _ c1 e)))
theorem ziH{TI TO:Addr}{Q:Fin->Shared->Prop}(D:ZipApart z TI TO i1 i2 l1 l2)(D1:Draws prog w A i1 [i1,l1] n1 P1 S1)(D2:Draws prog w A i2 [i2,l2] n2 P2 S2)(hz:ZS s.heap z TI TO)(hTI:IsPair s.heap TI (.ref i1) (.ref i2))(hTO:∃a b,IsPair s.heap TO a b)(st1:S1 i s.heap)(st2:S2 i s.heap)(he:i=n1\/(i<n1/\i=n2))(hE:∀h' e tk,(∀c o,c≠z->c≠TO->c≠i1->c≠i2->s.heap.get? c=some o->h'.get? c=some o)->(∃o,h'.get? e=some o/\o.cls=.type "StopIteration")->E (.ref e) {s with heap:=h',toks:=tk}):
  wpAny (model prog w) A (Builtin.«zip.__next__» ⟨[.ref z],[]⟩) Q E s:=by
 obtain⟨f0,f1,hz0,hf⟩:=id hz;have F1:∀{k:Nat}{h h':Heap} {c:Addr},S1 k h->Heap.SameBut c h h'->i1≠c->l1≠c->S1 k h':=λst hs e1 e2=>D1.frame _ _ _ st λb hb o e=>by
  rcases List.mem_cons.mp hb with rfl|hb
  ·exact hs.extBut _ _ e1 e
  ·rw[List.mem_singleton.mp hb]at e ⊢;exact hs.extBut _ _ e2 e
 have F2:∀{k:Nat}{h h':Heap} {c:Addr},S2 k h->Heap.SameBut c h h'->i2≠c->l2≠c->S2 k h':=λst hs e1 e2=>D2.frame _ _ _ st λb hb o e=>by
  rcases List.mem_cons.mp hb with rfl|hb
  ·exact hs.extBut _ _ e1 e
  ·rw[List.mem_singleton.mp hb]at e ⊢;exact hs.extBut _ _ e2 e
 show wpAny _ _ (field (.ref z) 2>>=_) _ _ _;refine wpAny_bind (wpAny_field hz0 rfl (x:=.bool false) rfl ?_);show wpAny _ _ (field (.ref z) 3>>=_) _ _ _;refine wpAny_bind (wpAny_field hz0 rfl (x:=.ref TI) rfl ?_);refine wpAny_bind (wpAny_seqItems hTI rfl ?_);show wpAny _ _ (Builtin.SmallTypes.ownedTupleIsFree (.ref z)>>=_) _ _ _;refine wpAny_bind (zkn hz ?_ λh₁ hz₁ hs₁=>?_)
 ·simp only[if_true];obtain⟨a,b,hTO⟩:=hTO;refine wpAny_bind (wpAny_rule ?_);refine wpAny_bind (wpAny_field hz0 rfl (x:=.ref TO) rfl ?_);refine wpAny_bind (wpAny_setField_rec hz0 (by simp) λh₁ hz₁ hs₁=>?_);refine wpAny_bind ?_;simp only[List.zipIdx_cons,List.zipIdx_nil,List.forIn_cons,List.forIn_nil];refine wpAny_bind (wpAny_bind (wpAny_onRaise ?_));show wpAny _ _ (Builtin.SmallTypes.nextOf (.ref i1)>>=_) _ _ _;rcases he with rfl|⟨hlt,rfl⟩
  ·refine wpAny_bind (D1.done {s with heap:=h₁} _ _ (F1 st1 hs₁ D.i1z D.l1z) λh₂ e hs₂ he=>?_);obtain⟨oe,hoe,hce⟩:=he;have hz₂:=hs₂ _ _ D.i1z.symm hz₁;have hez:e≠z:=λx=>by subst x;rw[hz₂]at hoe;cases hoe;simp at hce
   exact wpAny_setField_rec hz₂ (by simp) λh₃ _ hs₃=>hE h₃ e s.toks (λc o c1 _ c3 _ x=>hs₃.extBut _ _ c1 (hs₂ _ _ c3 (hs₁.extBut _ _ c1 x))) ⟨oe,hs₃.extBut _ _ hez hoe,hce⟩
  ·refine wpAny_bind (D1.item i {s with heap:=h₁} _ _ hlt (F1 st1 hs₁ D.i1z D.l1z) λx h₂ tk₂ px st1' hs₂=>wpAny_pure ?_);have hTO₂:IsPair h₂ TO a b:=hs₂.extBut _ _ D.TOi1 (hs₁.extBut _ _ D.TOz hTO);refine wpAny_bind (wpAny_seqItems hTO₂ rfl ?_);refine wpAny_bind (wpAny_updateSeq_pair hTO₂ λh₃ hTO₃ hs₃=>?_);refine wpAny_bind (wpAny_letGo (wpAny_pure ?_));refine wpAny_bind (wpAny_bind (wpAny_onRaise ?_));show wpAny _ _ (Builtin.SmallTypes.nextOf (.ref i2)>>=_) _ _ _;refine wpAny_bind (D2.done {s with heap:=h₃,toks:=tk₂} _ _ (F2 (F2 (F2 st2 hs₁ D.i2z D.l2z) hs₂ D.i12.symm D.l2i1) hs₃ D.TOi2.symm D.l2TO) λh₄ e hs₄ he=>?_);obtain⟨oe,hoe,hce⟩:=he;have hz₄:=hs₄ _ _ D.i2z.symm (hs₃.extBut _ _ D.TOz.symm (hs₂.extBut _ _ D.i1z.symm hz₁));have hez:e≠z:=λx=>by subst x;rw[hz₄]at hoe;cases hoe;simp at hce
   exact wpAny_setField_rec hz₄ (by simp) λh₅ _ hs₅=>hE h₅ e tk₂ (λc o c1 c2 c3 c4 x=>hs₅.extBut _ _ c1 (hs₄ _ _ c4 (hs₃.extBut _ _ c2 (hs₂.extBut _ _ c3 (hs₁.extBut _ _ c1 x))))) ⟨oe,hs₅.extBut _ _ hez hoe,hce⟩
 ·simp only[Bool.false_eq_true,if_false];rw[←Array.forIn_toList];refine wpAny_bind ?_;simp only[List.forIn_cons,List.forIn_nil];refine wpAny_bind (wpAny_bind (wpAny_holding ?_));show wpAny _ _ (Builtin.SmallTypes.nextOf (.ref i1)>>=_) _ _ _;rcases he with rfl|⟨hlt,rfl⟩
  ·refine wpAny_bind (D1.done {s with heap:=h₁} _ _ (F1 st1 hs₁ D.i1z D.l1z) λh₂ e hs₂ he=>?_);exact hE h₂ e s.toks (λc o c1 _ c3 _ x=>hs₂ _ _ c3 (hs₁.extBut _ _ c1 x)) he
  ·refine wpAny_bind (D1.item i {s with heap:=h₁} _ _ hlt (F1 st1 hs₁ D.i1z D.l1z) λx h₂ tk₂ px st1' hs₂=>wpAny_pure (wpAny_pure ?_));refine wpAny_bind (wpAny_bind (wpAny_holding ?_));show wpAny _ _ (Builtin.SmallTypes.nextOf (.ref i2)>>=_) _ _ _;refine wpAny_bind (D2.done {s with heap:=h₂,toks:=tk₂} _ _ (F2 (F2 st2 hs₁ D.i2z D.l2z) hs₂ D.i12.symm D.l2i1) λh₄ e hs₄ he=>?_);exact hE h₄ e tk₂ (λc o c1 _ c3 c4 x=>hs₄ _ _ c4 (hs₂.extBut _ _ c3 (hs₁.extBut _ _ c1 x))) he
structure ZSt(z TI TO i1 i2:Addr)(S1 S2:Nat->Heap->Prop)(i:Nat)(h:Heap):Prop where
 zs:ZS h z TI TO
 ti:IsPair h TI (.ref i1) (.ref i2)
 to:∃a b,IsPair h TO a b
 s1:S1 i h
 s2:S2 i h
theorem next_zip{TI TO:Addr}(D:ZipApart z TI TO i1 i2 l1 l2)(D1:Draws prog w A.in1 i1 [i1,l1] n1 P1 S1)(D2:Draws prog w A.in1 i2 [i2,l2] n2 P2 S2)(st:ZSt z TI TO i1 i2 S1 S2 i s.heap)(hi1:i<n1)(hi2:i<n2)(hQ:∀x y h' tk,P1 i x->P2 i y->ZSt z TI TO i1 i2 S1 S2 (i+1) h'->IsPair h' s.heap.objs.size x y->h'.objs.size=s.heap.objs.size+1->
   (∀c o,c∉[z,TO,i1,i2]->s.heap.get? c=some o->h'.get? c=some o)->Q (some (.ref s.heap.objs.size)) {s with heap:=h',toks:=tk}):
  wpAny (model prog w) A (pyNext (.ref z)) Q E s:=by
 obtain⟨f0,f1,hz0,hf⟩:=id st.zs;have hT:s.TypeIs (.ref z) "zip":=⟨_,hz0,rfl⟩;unfold pyNext;exact wpAny_bind (wpAny_attempt (wpAny_callSpecial?_slot (name:=Str.ofString "__next__") hT PySem.F.slot_zip_next
  (wpAny_call_entry PySem.F.slot_zip_next hT PySem.F.entry_zip_next
   (zgR D D1 D2 st.zs st.ti st.to st.s1 st.s2 hi1 hi2 λx y h' tk a1 a2 a3 a4 a5 a6 a7 a8 a9=>wpAny_pure (hQ x y h' tk a1 a2 ⟨a3,a9 _ _ D.TIz D.TITO D.TIi1 D.TIi2 st.ti,a4,a5,a6⟩ a7 a8
    λc o hc e=>a9 c o (λz=>hc (by simp[z])) (λz=>hc (by simp[z])) (λz=>hc (by simp[z])) (λz=>hc (by simp[z])) e)) (PySem.F.args_zip_next_1 _))))
theorem end_zip{TI TO:Addr}(D:ZipApart z TI TO i1 i2 l1 l2)(D1:Draws prog w A.in1 i1 [i1,l1] n1 P1 S1)(D2:Draws prog w A.in1 i2 [i2,l2] n2 P2 S2)(st:ZSt z TI TO i1 i2 S1 S2 i s.heap)(he:i=n1\/(i<n1/\i=n2))(hQ:∀h' tk,(∀c o,c∉[z,TO,i1,i2]->s.heap.get? c=some o->h'.get? c=some o)->Q none {s with heap:=h',toks:=tk}):wpAny (model prog w) A (pyNext (.ref z)) Q E s:=by
 obtain⟨f0,f1,hz0,hf⟩:=id st.zs;have hT:s.TypeIs (.ref z) "zip":=⟨_,hz0,rfl⟩;unfold pyNext;refine wpAny_bind (wpAny_attempt (wpAny_callSpecial?_slot (name:=Str.ofString "__next__") hT PySem.F.slot_zip_next
  (wpAny_call_entry PySem.F.slot_zip_next hT PySem.F.entry_zip_next (ziH D D1 D2 st.zs st.ti st.to st.s1 st.s2 he λh' e tk hk he=>?_) (PySem.F.args_zip_next_1 _))))
 obtain⟨o,ho,hc⟩:=he;refine wpAny_bind (wpAny_isInstance (T:="StopIteration") (b:=true) ⟨o,ho,hc⟩ isSubtype_stop ?_);exact wpAny_pure (hQ _ _ λc o hc e=>hk c o (λz=>hc (by simp[z])) (λz=>hc (by simp[z])) (λz=>hc (by simp[z])) (λz=>hc (by simp[z])) e)
def SqI(b:Bool)(h:Heap)(l:Addr)(items:Array Value):Prop:=match b with
 |true=>h.IsList l items
 |false=>h.IsTuple l items
def itI(b:Bool)(l:Addr)(k:Nat):Obj:={cls:=.type (match b with|true=>"list_iterator"|false=>"tuple_iterator"),data:=.fields #[.ref l,.int k 0]}
def StI(b:Bool)(it l:Addr)(items:Array Value):Nat->Heap->Prop:=λi h=>match b with
 |true=>h.IsListIter it l i/\h.IsList l items
 |false=>h.IsTupleIter it l i/\h.IsTuple l items
theorem drawsI{prog:Program}{w:World}{A:Around}(hh:A.handled=none)(b:Bool)(it l:Addr)(hne:l≠it)(items:Array Value):
  Draws prog w A it [it,l] items.size (λi v=>items[i]?=some v) (StI b it l items):=by
 cases b
 ·exact drawsT hh it l hne items
 ·exact Draws.list hh it l hne items
theorem SqI.at{b:Bool}{h':Heap}(x:SqI b h l items)(k:∀o,h.get? l=some o->h'.get? l=some o):SqI b h' l items:=by
 cases b
 ·obtain⟨o,ho,r⟩:=x;exact⟨o,k o ho,r⟩
 ·exact Heap.IsList.at x k
theorem zhl{b:Bool}{Q:Vs}(hl:SqI b s.heap l items)(hQ:Q (.ref s.heap.objs.size) {s with heap:=s.heap.push (itI b l 0)}):wpAny (model prog w) A (pyIter (.ref l)) Q E s:=by
 cases b
 ·exact wpAny_pyIter_tuple hl hQ
 ·exact wpAny_pyIter_list hl hQ
theorem stI0{b:Bool}{it:Addr}(h1:h.get? it=some (itI b l 0))(h2:SqI b h l items):StI b it l items 0 h:=by
 cases b
 ·exact⟨⟨_,h1,rfl,rfl⟩,h2⟩
 ·exact⟨⟨_,h1,rfl,rfl⟩,h2⟩
def zH2(b1 b2:Bool)(h:Heap)(l1 l2:Addr):Heap:=(h.push (itI b1 l1 0)).push (itI b2 l2 0)
def zH4(b1 b2:Bool)(h:Heap)(l1 l2:Addr):Heap:=((zH2 b1 b2 h l1 l2).push {cls:=.type "tuple",data:=.seq #[.ref h.objs.size,.ref (h.push (itI b1 l1 0)).objs.size]}).push {cls:=.type "tuple",data:=.seq #[.none,.none]}
def zH5(b1 b2:Bool)(h:Heap)(l1 l2:Addr):Heap:=(zH4 b1 b2 h l1 l2).push {cls:=.type "zip",data:=.fields #[.none,.bool false,.bool false,.ref (zH2 b1 b2 h l1 l2).objs.size,.ref ((zH2 b1 b2 h l1 l2).push {cls:=.type "tuple",data:=.seq #[.ref h.objs.size,.ref (h.push (itI b1 l1 0)).objs.size]}).objs.size]}
theorem zhG(b1 b2:Bool)(l1 l2:Addr)(xs ys:Array Value):
  Meets (Builtin.«zip.__new__» ⟨[.type "zip",.ref l1,.ref l2],[]⟩) (λ_ R s=>SqI b1 s.heap l1 xs/\SqI b2 s.heap l2 ys/\
   R (.ok (.ret (.ref (zH4 b1 b2 s.heap l1 l2).objs.size))) {s with heap:=zH5 b1 b2 s.heap l1 l2}):=
 .of_wp λprog w A R s h=>by
  obtain⟨hp,g,d,tk,os⟩:=s;obtain⟨hl1,hl2,h⟩:=h;have hsub:=sub_zip;have hL1:SqI b1 (Shared.heap ⟨hp,g,d,tk,os⟩) l1 xs:=hl1;have hL2:SqI b2 (Shared.heap ⟨hp.push (itI b1 l1 0),g,d,tk,os⟩) l2 ys:=hl2.at λo e=>Heap.get?_push_of_some _ e
  wp_walk using zhl hL1,zhl hL2
  exact⟨_,rfl,h⟩
theorem call_zip{b1 b2:Bool}{xs ys:Array Value}{Q:Vs}(hl1:SqI b1 s.heap l1 xs)(hl2:SqI b2 s.heap l2 ys)(h:∀h',ZSt (s.heap.objs.size+4) (s.heap.objs.size+2) (s.heap.objs.size+3) s.heap.objs.size (s.heap.objs.size+1) (StI b1 s.heap.objs.size l1 xs) (StI b2 (s.heap.objs.size+1) l2 ys) 0 h'->h'.objs.size=s.heap.objs.size+5->
   (∀c o,s.heap.get? c=some o->h'.get? c=some o)->Q (.ref (s.heap.objs.size+4)) {s with heap:=h'}):
  wpAny (model prog w) A (call (.type "zip") [.ref l1,.ref l2]) Q E s:=by
 refine callType_new PySem.F.called_zip (by decide) (PySem.F.typeCall_zip_2 _ _) (PySem.F.newCall_zip_2 _ _) (λobj=>PySem.F.args_object_init_3 obj _ _) PySem.F.entry_zip_new
  (zhG b1 b2 l1 l2 xs ys) ⟨hl1,hl2,?_⟩
 have z1:(s.heap.push (itI b1 l1 0)).objs.size=s.heap.objs.size+1:=Heap.size_push ..;have z2:(zH2 b1 b2 s.heap l1 l2).objs.size=s.heap.objs.size+2:=by unfold zH2;rw[Heap.size_push,z1]
 have z3:((zH2 b1 b2 s.heap l1 l2).push {cls:=.type "tuple",data:=.seq #[.ref s.heap.objs.size,.ref (s.heap.push (itI b1 l1 0)).objs.size]}).objs.size=s.heap.objs.size+3:=by rw[Heap.size_push,z2]
 have z4:(zH4 b1 b2 s.heap l1 l2).objs.size=s.heap.objs.size+4:=by unfold zH4;rw[Heap.size_push,z3]
 have z5:(zH5 b1 b2 s.heap l1 l2).objs.size=s.heap.objs.size+5:=by unfold zH5;rw[Heap.size_push,z4]
 have fr:∀(b:Bool) (l:Addr) (k:Nat),(itI b l k).isFreed=false:=λb l k=>by cases b<;>rfl
 have g5:(zH5 b1 b2 s.heap l1 l2).get? (zH4 b1 b2 s.heap l1 l2).objs.size=some _:=Heap.get?_push_size _ rfl;have g4:(zH5 b1 b2 s.heap l1 l2).get? _=some _:=Heap.get?_push_of_some _ (Heap.get?_push_size (((zH2 b1 b2 s.heap l1 l2).push {cls:=.type "tuple",data:=.seq #[.ref s.heap.objs.size,.ref (s.heap.push (itI b1 l1 0)).objs.size]})) rfl);have g3:(zH5 b1 b2 s.heap l1 l2).get? _=some _:=Heap.get?_push_of_some _ (Heap.get?_push_of_some _ (Heap.get?_push_size (zH2 b1 b2 s.heap l1 l2) rfl));have g2:(zH5 b1 b2 s.heap l1 l2).get? _=some _:=Heap.get?_push_of_some _ (Heap.get?_push_of_some _ (Heap.get?_push_of_some _ (Heap.get?_push_size (s.heap.push (itI b1 l1 0)) (fr b2 l2 0))));have g1:(zH5 b1 b2 s.heap l1 l2).get? _=some _:=Heap.get?_push_of_some _ (Heap.get?_push_of_some _ (Heap.get?_push_of_some _ (Heap.get?_push_of_some _ (Heap.get?_push_size s.heap (fr b1 l1 0)))));have kp:∀c o,s.heap.get? c=some o->(zH5 b1 b2 s.heap l1 l2).get? c=some o:=λc o x=>Heap.get?_push_of_some _ (Heap.get?_push_of_some _ (Heap.get?_push_of_some _ (Heap.get?_push_of_some _ (Heap.get?_push_of_some _ x))))
 show _/\_;rw[z2,z3,z4]at g5;rw[z1,z2]at g3;rw[z3]at g4;rw[z1]at g2;rw[z4];exact⟨⟨_,g5,rfl⟩,h _ ⟨⟨_,_,g5,.inl rfl⟩,g3,⟨_,_,g4⟩,stI0 g1 (hl1.at λo e=>kp _ o e),stI0 g2 (hl2.at λo e=>kp _ o e)⟩ z5 kp⟩
end
end HT
namespace PySem.F
end PySem.F
namespace HT
theorem pyIter_zs{prog:Program}{w:World}{A:Around}{E:Vs}{s:Shared}{z TI TO:Addr}{Q:Vs}(hz:ZS s.heap z TI TO)(h:Q (.ref z) s):wpAny (model prog w) A (pyIter (.ref z)) Q E s:=by obtain⟨f0,f1,hz,_⟩:=hz;have hT:s.TypeIs (.ref z) "zip":=⟨_,hz,rfl⟩;refine wpAny_pyIter_slot hT PySem.F.slot_zip_iter (wpAny_call_entry PySem.F.slot_zip_iter hT PySem.F.entry_zip_iter ?_ (PySem.F.args_zip_iter_1 _));show wpAny _ _ (ret (.ref z)) _ _ s;exact wpAny_pure ⟨_,rfl,"zip",_,hT,PySem.F.slot_zip_next.lookup,h⟩
end HT
namespace L2
section
variable{X:Cx}{pins:AO}{σ:St}{H:Hp}{s:Shared}{h':Heap}{ch:List Addr}
theorem Inv.turnedL{t':Nat}(I:Inv X pins σ H s)(hf:∀b∈ch,yF X pins H b)(k:∀b o,b∉ch->s.heap.get? b=some o->h'.get? b=some o):Inv X pins σ H {s with heap:=h',toks:=t'}:=by
 have nch:∀b u,H b=some u->b∉ch:=λb u e z=>by rw[(hf b z).1]at e;cases e
 refine I.step (g':=s.gens) (d':=s.drawn) (ch:=ch) (λb hb=>?_) (λb o _ _ hc e _=>k b o hc e) (λb o _ _ hc e _=>⟨o.slots,k b o hc e⟩) (λ_ _ _ _ n=>n)
  (λb o hc e=>⟨o,k b o hc e⟩) (λ_ _ e=>e) (λ_ _ _ e=>e) (λb ps e=>⟨#[],by rw[e];simp⟩) (λm hm=>?_) (λb u e=>?_) I.bare
 ·obtain⟨f0,f1,f2,f3,f4,f5⟩:=hf b hb;exact⟨f3,f1,f4,f5⟩
 ·obtain⟨o,es,ep,ho,r⟩:=hm;exact⟨o,es,ep,k _ o (λz=>(hf _ z).2.1 rfl) ho,r⟩
 ·refine(I.hok b u e).stay (λc v hc q=>k c v ?_ q) (λ_ q=>q) λ_ _ q=>q
  rcases hc with z|z
  ·rw[z];exact nch b u e
  ·exact nch c _ z
theorem Inv.pairL{t':Nat}{x y:Value}{vx vy:V}(I:Inv X pins σ H s)(hf:∀b∈ch,yF X pins H b)(k:∀b o,b∉ch->s.heap.get? b=some o->h'.get? b=some o)(hT:IsPair h' s.heap.objs.size x y)(rx:zJ vx x)(ry:zJ vy y):
  Inv X pins σ (upd H s.heap.objs.size (.tup [vx,vy])) {s with heap:=h',toks:=t'}:=by
 have nch:∀b u,H b=some u->b∉ch:=λb u e z=>by rw[(hf b z).1]at e;cases e
 have fr:H s.heap.objs.size=none:=I.fresh;have hok0:HOk X.prog X.w H h':=λb u q=>by
  refine(I.hok b u q).stay (λc v hc q'=>k c v ?_ q') (λ_ z=>z) λ_ _ z=>z
  rcases hc with z|z
  ·rw[z];exact nch b u q
  ·exact nch c _ z
 have new:qV X.prog X.w (upd H s.heap.objs.size (.tup [vx,vy])) h' s.heap.objs.size (.tup [vx,vy]):=
  ⟨by show 2<=sizeLine;rw[sizeLine_eq];decide,[x,y],.cons rx (.cons ry .nil),⟨_,hT,rfl,_,rfl⟩⟩
 have hok1:HOk X.prog X.w (upd H s.heap.objs.size (.tup [vx,vy])) h':=λb u q=>by
  by_cases hb:b=s.heap.objs.size
  ·subst hb;rw[qK]at q;cases q;exact new
  ·rw[zT hb]at q;exact(hok0 b u q).stay (λ_ _ _ z=>z) (λc z=>by rw[zT (qS z fr)];exact z) λc xs z=>by rw[zT (qS z fr)];exact z
 refine I.step (g':=s.gens) (d':=s.drawn) (ch:=ch) (λb hb=>?_) (λb o _ _ hc e _=>k b o hc e) (λb o _ _ hc e _=>⟨o.slots,k b o hc e⟩)
  (λb o _ q n=>by rw[zT (Nat.ne_of_lt (Heap.lt_size q))];exact n) (λb o hc e=>⟨o,k b o hc e⟩) (λb xs q=>by rw[zT (qS q fr)];exact q) (λb o xs q=>by rw[zT (qS q fr)];exact q)
  (λb ps q=>⟨#[],by rw[zT (qS q fr),q];simp⟩) (λm hm=>?_) hok1 I.bare
 ·obtain⟨f0,f1,f2,f3,f4,f5⟩:=hf b hb;exact⟨f3,f1,f4,f5⟩
 ·obtain⟨o,es,ep,ho,r⟩:=hm;exact⟨o,es,ep,k _ o (λz=>(hf _ z).2.1 rfl) ho,r⟩
end
def SqB(b:Bool)(K:Fg)(H:Hp)(a:Addr)(xs:List V):Prop:=match b with
 |true=>SqL K H a xs
 |false=>SqT K H a xs
theorem Inv.sq{X:Cx}{pins:AO}{σ:St}{H:Hp}{s:Shared}{b:Bool}{a:Addr}{xs:List V}(I:Inv X pins σ H s)(h:SqB b X.K H a xs):∃its,zK xs its/\HT.SqI b s.heap a its.toArray/\xs.length<=sizeLine:=by
 cases b
 ·obtain⟨its,r,p,z⟩:=I.tuple h;exact⟨its,r,p,z⟩
 ·obtain⟨its,r,p,z⟩:=I.list h;exact⟨its,r,p.isList,z⟩
section
variable{X:Cx}{pins:AO}{σ:St}
end
end L2
namespace HT
def ItS(b:Bool)(it l:Addr):Nat->Heap->Prop:=λi h=>match b with
 |true=>h.IsListIter it l i
 |false=>h.IsTupleIter it l i
variable{l:Addr}{i:Nat}{h:Heap}
theorem ItS.at{b:Bool}{it:Addr}{h':Heap}(x:ItS b it l i h)(k:∀o,h.get? it=some o->h'.get? it=some o):ItS b it l i h':=by
 cases b
 ·exact Heap.IsTupleIter.at x k
 ·exact Heap.IsListIter.at x k
theorem ItS.some{b:Bool}{it l:Addr}(x:ItS b it l i h):∃o,h.get? it=some o/\∀v,o.data≠.cell v:=by
 cases b
 ·obtain⟨o,e,c,d⟩:=x;exact⟨o,e,λv z=>by rw[d]at z;cases z⟩
 ·obtain⟨o,e,c,d⟩:=x;exact⟨o,e,λv z=>by rw[d]at z;cases z⟩
variable{items:Array Value}
theorem ItS.st{b:Bool}{it:Addr}(x:ItS b it l i h)(y:SqI b h l items):StI b it l items i h:=by
 cases b
 ·exact⟨x,y⟩
 ·exact⟨x,y⟩
theorem StI.it{b:Bool}{it:Addr}(x:StI b it l items i h):ItS b it l i h:=by
 cases b
 ·exact x.1
 ·exact x.1
theorem go_zip{prog:Program}{w:World}{A:Around}{E:Vs}{s:Shared}{tg:Expr}{z TI TO T:Addr}{Q:Unit->Shared->Prop}(hz:ZS s.heap z TI TO)(hQ:∀h',ZS h' z TI TO->Heap.SameBut z s.heap h'->Q () {s with heap:=h'}):wpAny (model prog w) A (letOwnedTupleGo tg (.ref z) (.ref T)) Q E s:=by
 have h0:Q () s:=hQ s.heap hz ⟨rfl,λ_ _=>rfl⟩;obtain⟨f0,f1,hz0,hf⟩:=hz;unfold letOwnedTupleGo;cases tg<;>first
  |exact wpAny_pure h0
  | (refine wpAny_bind (wpAny_load hz0 ?_)
     show wpAny _ A (if(["enumerate","zip","dict_itemiterator","dict_reverseitemiterator","odict_iterator","itertools.zip_longest","itertools.pairwise"].contains "zip"&&(#[f0,f1,.bool false,.ref TI,.ref TO]:Array Value)[0]? ==some (rawInt T))=true then _ else _) Q E s;refine wpAny_ite_split (λ_=>wpAny_bind (wpAny_rule ?_)) (λ_=>wpAny_pure h0);show wpAny _ _ (setField (.ref z) 0 .none) Q E s;exact wpAny_setField_rec hz0 (by simp) λh' hz' hs'=>hQ h' ⟨_,_,hz',.inl rfl⟩ hs')
end HT
namespace L2
def Itz(K:Fg)(b1 b2:Bool)(a1 a2:Addr):It:=
 ⟨λi H=>∃xs ys x y,SqB b1 K H a1 xs/\SqB b2 K H a2 ys/\xs[i]?=some x/\ys[i]?=some y,
  λi H x H'=>∃p v u,H p=none/\x=.ref p/\H'=upd H p (.tup [v,u])/\(∀xs,SqB b1 K H a1 xs->xs[i]?=some v)/\∀ys,SqB b2 K H a2 ys->ys[i]?=some u,
  λi H=>∃xs ys,SqB b1 K H a1 xs/\SqB b2 K H a2 ys/\i=min xs.length ys.length⟩
theorem Inv.sq_inj{X:Cx}{pins:AO}{σ:St}{H:Hp}{s:Shared}{b:Bool}{a:Addr}{xs ys:List V}(I:Inv X pins σ H s)(h1:SqB b X.K H a xs)(h2:SqB b X.K H a ys):xs=ys:=by
 cases b
 ·exact I.tuple_inj h1 h2
 ·exact I.list_inj h1 h2
variable{P:Program}{w:World}{K:Fg}{tg:Expr}
theorem ziM{b1 b2:Bool}{z TI TO i1 i2 a1 a2:Addr}(D:ZipApart z TI TO i1 i2 a1 a2):
  wY P w K tg (Itz K b1 b2 a1 a2) [z,TI,TO,i1,i2] z (λi h=>HT.ZSt z TI TO i1 i2 (HT.ItS b1 i1 a1) (HT.ItS b2 i2 a2) i h)where
 mem:=by simp
 obj:=λi h st b hb=>by
  obtain⟨⟨f0,f1,hz,_⟩,ti,⟨p,q,to⟩,s1,s2⟩:=st;simp only[List.mem_cons,List.not_mem_nil,or_false]at hb;rcases hb with e|e|e|e|e<;>rw[e]
  ·exact⟨_,hz,λv y=>by cases(show Data.fields _=Data.cell v from y)⟩
  ·exact⟨_,ti,λv y=>by cases(show Data.seq _ _=Data.cell v from y)⟩
  ·exact⟨_,to,λv y=>by cases(show Data.seq _ _=Data.cell v from y)⟩
  ·exact s1.some
  ·exact s2.some
 keep:=λi h h' st k=>by obtain⟨⟨f0,f1,hz,hf⟩,ti,⟨p,q,to⟩,s1,s2⟩:=st;exact⟨⟨f0,f1,k z (by simp) _ hz,hf⟩,k TI (by simp) _ ti,⟨p,q,k TO (by simp) _ to⟩,s1.at λo e=>k i1 (by simp) o e,s2.at λo e=>k i2 (by simp) o e⟩
 item:=by
  intro X hP hw hK hc i pins s σ H E I hf st hg;subst hP hw hK;obtain⟨xs,ys,x,y,h1,h2,hx,hy⟩:=hg;obtain⟨its1,rx,p1,z1⟩:=I.sq h1;obtain⟨its2,ry,p2,z2⟩:=I.sq h2;obtain⟨u,hu,ru⟩:=rx.get hx;obtain⟨v,hv,rv⟩:=ry.get hy;have D1:=HT.drawsI (prog:=X.prog) (w:=X.w) (A:=X.A.in1) (I.ok.hd hc) b1 i1 a1 D.l1i1 its1.toArray;have D2:=HT.drawsI (prog:=X.prog) (w:=X.w) (A:=X.A.in1) (I.ok.hd hc) b2 i2 a2 D.l2i2 its2.toArray;have st':HT.ZSt z TI TO i1 i2 (HT.StI b1 i1 a1 its1.toArray) (HT.StI b2 i2 a2 its2.toArray) i s.heap:=⟨st.zs,st.ti,st.to,st.s1.st p1,st.s2.st p2⟩;have hl1:=(List.getElem?_eq_some_iff.mp hu).1;have hl2:=(List.getElem?_eq_some_iff.mp hv).1;have hf4:∀b∈[z,TO,i1,i2],yF X pins H b:=λb hb=>hf b (by simp only[List.mem_cons,List.not_mem_nil,or_false]at hb ⊢;rcases hb with e|e|e|e<;>simp[e])
  refine HT.next_zip D D1 D2 st' (by simpa using hl1) (by simpa using hl2) λx' y' h' tk px py st2 hT hsz hk=>⟨_,rfl,?_⟩
  have ex:x'=u:=by
   have:its1[i]?=some x':=by simpa using px
   rw[hu]at this;exact(Option.some.inj this).symm
  have ey:y'=v:=by
   have:its2[i]?=some y':=by simpa using py
   rw[hv]at this;exact(Option.some.inj this).symm
  subst ex ey;have I1:Inv X pins σ (upd H s.heap.objs.size (.tup [x,y])) {s with heap:=h',toks:=tk}:=I.pairL hf4 hk hT ru rv;have fr:H s.heap.objs.size=none:=I.fresh;have hlt:∀b∈[z,TI,TO,i1,i2],b≠s.heap.objs.size:=λb hb=>by obtain⟨⟨f0,f1,hz,_⟩,ti,⟨p,q,to⟩,s1,s2⟩:=st;obtain⟨o1,s1,_⟩:=s1.some;obtain⟨o2,s2,_⟩:=s2.some;simp only[List.mem_cons,List.not_mem_nil,or_false]at hb;rcases hb with e|e|e|e|e<;>rw[e]<;>apply Nat.ne_of_lt<;>first|exact Heap.lt_size hz|exact Heap.lt_size ti|exact Heap.lt_size to|exact Heap.lt_size s1|exact Heap.lt_size s2
  refine HT.go_zip st2.zs λhh zs2 hs2=>?_
  have I2:Inv X pins σ (upd H s.heap.objs.size (.tup [x,y])) {s with heap:=hh,toks:=tk}:=I1.turnedL (ch:=[z]) (t':=tk) (λb hb=>by rw[List.mem_singleton.mp hb];obtain⟨f0,f1⟩:=hf z (by simp);exact⟨by rw[zT (hlt z (by simp))];exact f0,f1⟩) λb o hb e=>hs2.extBut _ _ (λq=>hb (by simp[q])) e
  refine⟨.ref s.heap.objs.size,_,I2,rfl,⟨s.heap.objs.size,x,y,fr,rfl,rfl,λws hw=>by rw[I.sq_inj hw h1];exact hx,λws hw=>by rw[I.sq_inj hw h2];exact hy⟩,?_,λb hb=>?_⟩
  ·obtain⟨p,q,to⟩:=st2.to;exact⟨zs2,hs2.extBut _ _ D.TIz st2.ti,⟨p,q,hs2.extBut _ _ D.TOz to⟩,(HT.StI.it st2.s1).at λo e=>hs2.extBut _ _ D.i1z e,(HT.StI.it st2.s2).at λo e=>hs2.extBut _ _ D.i2z e⟩
  ·rw[zT (hlt b hb)];exact(hf b hb).1
 done:=by
  intro X hP hw hK hc i pins s σ H E I hf st hg;subst hP hw hK;obtain⟨xs,ys,h1,h2,he⟩:=hg;obtain⟨its1,rx,p1,z1⟩:=I.sq h1;obtain⟨its2,ry,p2,z2⟩:=I.sq h2;have e1:=rx.length;have e2:=ry.length;have D1:=HT.drawsI (prog:=X.prog) (w:=X.w) (A:=X.A.in1) (I.ok.hd hc) b1 i1 a1 D.l1i1 its1.toArray;have D2:=HT.drawsI (prog:=X.prog) (w:=X.w) (A:=X.A.in1) (I.ok.hd hc) b2 i2 a2 D.l2i2 its2.toArray;have st':HT.ZSt z TI TO i1 i2 (HT.StI b1 i1 a1 its1.toArray) (HT.StI b2 i2 a2 its2.toArray) i s.heap:=⟨st.zs,st.ti,st.to,st.s1.st p1,st.s2.st p2⟩;have hf4:∀b∈[z,TO,i1,i2],yF X pins H b:=λb hb=>hf b (by simp only[List.mem_cons,List.not_mem_nil,or_false]at hb ⊢;rcases hb with e|e|e|e<;>simp[e])
  exact HT.end_zip D D1 D2 st' (by simp only[List.size_toArray];omega) λh' tk hk=>⟨rfl,I.turnedL hf4 hk⟩
 self:=λA i s Q E st h=>HT.pyIter_zs st.zs h
variable{a:Expr}{ta:TA}{p pos:Pos}
section
variable{X:Cx}{pins:AO}{σ:St}
def iZip(K:Fg)(ta:TA):TI:=λσ H R=>ta σ H λvs H1=>∃b1 b2 a1 a2 xs ys,vs=[.ref a1,.ref a2]/\SqB b1 K H1 a1 xs/\SqB b2 K H1 a2 ys/\R (Itz K b1 b2 a1 a2) H1
theorem zmu{b:Expr}(hg:Gl X "zip")(hm:X.mg "zip"=none)(ha:PA X [a,b] ta)(hs:starEach [a,b] X.env=[(false,eval a X.env),(false,eval b X.env)]:=by rfl)(hs2:starEach [b] X.env=[(false,eval b X.env)]:=by rfl):PI X tg (.Call (.Name "zip" p) [a,b] [] pos) (iZip X.K ta):=by
 intro pins s σ H R I h;refine Call_ (nC I hg hm boot_zip (PyProof.Rows.callWith_type1 (thn (ha pos pins s σ H _ I h) λus s1 ⟨vs,H1,I1,r1,q1⟩=>?_) (by rw[hs,hs2]) (by rw[hs2];rfl)));obtain⟨b1,b2,a1,a2,xs,ys,rfl,e1,e2,q⟩:=q1;obtain⟨u1,u2,rfl,ru1,ru2⟩:=zlM r1;cases ru1
 cases ru2
 obtain⟨its1,rx,p1,z1⟩:=I1.sq e1;obtain⟨its2,ry,p2,z2⟩:=I1.sq e2;have lt:∀{b:Bool}{a:Addr} {its:Array Value},HT.SqI b s1.heap a its->a<s1.heap.objs.size:=λ{b a its} h=>by
  cases b
  ·obtain⟨o,e,_⟩:=h;exact Heap.lt_size e
  ·obtain⟨o,e,_⟩:=h;exact Heap.lt_size e
 refine HT.call_zip p1 p2 λh' st hsz hk=>?_
 have I2:Inv X pins σ H1 {s1 with heap:=h'}:=I1.kept (t':=s1.toks) hk;refine HT.pyIter_zs st.zs ?_;refine⟨_,_,_,_,H1,rfl,I2,ziM (b1:=b1) (b2:=b2) (zipApart_new (lt p1) (lt p2)),⟨st.zs,st.ti,st.to,HT.StI.it st.s1,HT.StI.it st.s2⟩,λb hb=>?_,q⟩;have hb':s1.heap.objs.size<=b:=by simp only[List.mem_cons,List.not_mem_nil,or_false]at hb;rcases hb with h|h|h|h|h<;>rw[h]<;>first|exact Nat.le_add_right _ _|exact Nat.le_refl _
 exact I1.fpOk hb' (I1.hok.fresh hb')
end
def Itrv(K:Fg)(a:Addr)(n:Nat):It:=
 ⟨λi H=>i<n/\∃xs,SqL K H a xs/\xs.length=n,λi H x H'=>H'=H/\∀xs,SqL K H a xs->xs[n - 1 - i]?=some x,λi H=>i=n⟩
theorem ziN(a it:Addr)(n:Nat):wY P w K tg (Itrv K a n) [it] it (λi h=>i<=n/\h.IsRevIter it a ((n:Int) - 1 - i))where
 mem:=by simp
 obj:=λi h st b hb=>by obtain⟨_,o,e,c,d⟩:=st;rw[List.mem_singleton.mp hb];exact⟨o,e,λv z=>by rw[d]at z;cases z⟩
 keep:=λi h h' st k=>⟨st.1,st.2.at λo e=>k it (by simp) o e⟩
 item:=by
  intro X hP hw hK hc i pins s σ H E I hf st hg;subst hP hw hK;obtain⟨hi,xs,hq,hn⟩:=hg;obtain⟨its,rv,p,hz⟩:=I.list hq;have hx:xs[n - 1 - i]?=some (xs[n - 1 - i]'(by omega)):=by simp
  obtain⟨u,hu,ru⟩:=rv.get hx;have fi:=hf it (by simp);have e:(n:Int) - 1 - i=((n - 1 - i:Nat):Int):=by omega
  have hit:=st.2;rw[e]at hit;refine wpAny_pyNext_rev_item hit p.isList (by simpa using hu) λh' hit' hs'=>⟨_,rfl,?_⟩
  obtain⟨o,ho,hc',hd⟩:=id hit';obtain⟨f0,f1,f2,f3,f4,f5⟩:=fi;refine zhZ ho hc' hd (by decide) ⟨_,H,I.turned (t':=s.toks) (λb o hb e=>hs'.extBut _ _ hb e) f0 f1 f3 f4 f5,ru,⟨rfl,λys hy=>by rw[I.list_inj hy hq];exact hx⟩,⟨by omega,?_⟩,λb hb=>(hf b hb).1⟩;have e2:(n:Int) - 1 - ((i+1:Nat):Int)=((n - 1 - i:Nat):Int) - 1:=by omega
  rw[e2];exact hit'
 done:=by
  intro X hP hw hK hc i pins s σ H E I hf st hg;subst hP hw hK;have hg:i=n:=hg;subst hg;have e:(i:Int) - 1 - i=-1:=by omega
  have hit:=st.2;rw[e]at hit;obtain⟨f0,f1,f2,f3,f4,f5⟩:=hf it (by simp);exact wpAny_pyNext_rev_end (I.ok.hd hc) hit λh' hx=>⟨rfl,I.turned (t':=s.toks) (λb o hb e=>hx b o hb e) f0 f1 f3 f4 f5⟩
 self:=λA i s Q E st h=>wpAny_pyIter_revIter st.2 h
section
variable{X:Cx}
def iRev(K:Fg)(ta:TA):TI:=λσ H R=>ta σ H λvs H1=>∃a xs,vs=[.ref a]/\SqL K H1 a xs/\R (Itrv K a xs.length) H1
theorem pi_rev(hg:Gl X "reversed")(hm:X.mg "reversed"=none)(ha:PA X [a] ta)(hs:starEach [a] X.env=[(false,eval a X.env)]:=by rfl):PI X tg (.Call (.Name "reversed" p) [a] [] pos) (iRev X.K ta):=by
 intro pins s σ H R I h;refine Call_ (nC I hg hm boot_reversed (PyProof.Rows.callWith_type1 (thn (ha pos pins s σ H _ I h) λus s1 ⟨vs,H1,I1,r1,q1⟩=>?_) hs rfl));obtain⟨a,xs,rfl,hq,q⟩:=q1;obtain⟨u,rfl,ru⟩:=wB r1;cases ru
 obtain⟨its,rv,p,hz⟩:=I1.list hq;refine call_reversed_list p.isList ?_;have hit:(s1.heap.push (revObj a ((its.toArray.size:Int) - 1))).IsRevIter s1.heap.objs.size a ((xs.length:Int) - 1 - (0:Nat)):=by refine⟨_,Heap.get?_push_size _ rfl,rfl,?_⟩;show Data.fields _=_;rw[List.size_toArray,←rv.length];simp
 have I2:Inv X pins σ H1 {s1 with heap:=s1.heap.push (revObj a ((its.toArray.size:Int) - 1))}:=I1.kept (t':=s1.toks) λb o e=>Heap.get?_push_of_some _ e
 refine wpAny_pyIter_revIter hit ?_;refine⟨_,_,_,_,H1,rfl,I2,ziN a _ xs.length,⟨Nat.zero_le _,hit⟩,λb hb=>?_,q⟩;rw[List.mem_singleton.mp hb];exact I1.fpOk (Nat.le_refl _) (I1.hok.fresh (Nat.le_refl _))
end
end L2
namespace FL
open L2
def wS(xs ys:List D):List D:=List.zipWith (λx y=>.tup [x,y]) xs ys
variable{a tg:Expr}{fa:EO D}{p:Pos}
section
variable{K:Fg}{X:Cx}{pos:Pos}
theorem Dat.seqB{F:Hp}{d:D}{v:V}{l:List D}(h:Dat K F d v)(e:itS d=some l):∃b a vs,v=.ref a/\(∀H,zG F H->SqB b K H a vs)/\zC K F l vs:=by
 cases d<;>simp only[itS]at e<;>try(cases e;done)
 ·cases e
  obtain⟨a,vs,rfl,f,q⟩:=h.tup_inv;exact⟨false,a,vs,rfl,λH s=>SqT.of (s _ _ f),q⟩
 ·cases e
  obtain⟨a,vs,rfl,f,q⟩:=h.lst_inv;exact⟨true,a,vs,rfl,λH s=>SqL.of (s _ _ f),q⟩
 ·cases e
  obtain⟨a,rfl,f⟩:=h.scr_inv;exact⟨true,a,_,rfl,λH s=>zG.seq s f,zC.ofInts _⟩
noncomputable def cZ(f g:EO D):EO (List D):=λρ=>(f ρ).bind λx=>(g ρ).bind λy=>(itS x).bind λa=>(itS y).map λb=>wS a b
theorem izip{b:Expr}{fb:EO D}(ha:FP K .fz X a fa)(hb:FP K .fz X b fb)(hg:Gl X "zip")(hm:X.mg "zip"=none)(hs:starEach [a,b] X.env=[(false,eval a X.env),(false,eval b X.env)]:=by rfl)(hs2:starEach [b] X.env=[(false,eval b X.env)]:=by rfl)(hK:X.K=K:=by rfl):
  FI K X tg (.Call (.Name "zip" p) [a,b] [] pos) (cZ fa fb):=FI.mk λρ ds hf=>by
 subst hK;unfold cZ at hf;cases e1:fa ρ with
 |none=>rw[e1]at hf;cases hf
 |some x=>
  cases e2:fb ρ with
  |none=>rw[e1]at hf;simp[e2]at hf
  |some y=>
   cases i1:itS x with
   |none=>rw[e1]at hf;simp[e2,i1]at hf
   |some xs=>
    cases i2:itS y with
    |none=>rw[e1]at hf;simp[e2,i1,i2]at hf
    |some ys=>
     rw[e1]at hf;simp[e2,i1,i2]at hf;subst hf;refine PI.imp (zmu hg hm (yY (ha.h ρ x e1) (yY (hb.h ρ y e2) vN hs2) (by rw[hs,hs2])) hs hs2) λσ H R h_=>?_
     obtain⟨F,rl,q⟩:=h_;refine⟨F,rl,λv F1 H1 g1 r1=>⟨F1,rl.grow g1,λu F2 H2 g2 r2=>?_⟩⟩;obtain⟨b1,a1,vs,rfl,s1,q1⟩:=Dat.seqB (K:=X.K) (F:=F1) r1 i1;obtain⟨b2,a2,us,rfl,s2,q2⟩:=Dat.seqB (K:=X.K) (F:=F2) r2 i2;refine⟨b1,b2,a1,a2,vs,us,rfl,s1 H2 (g2.ff.trans g2.fh),s2 H2 g2.fh,q _ F2 H2 (g1.trans g2) λF3 H3 f3 h3=>?_⟩;have t1:=s1 H3 (g2.ff.trans (f3.trans h3));have t2:=s2 H3 (f3.trans h3);have l1:=q1.length;have l2:=q2.length;refine⟨λi hi=>?_,λi x H4 d hd y=>?_,?_⟩
     ·have hi':i<xs.length/\i<ys.length:=by
       have:i<min xs.length ys.length:=by simpa[wS]using hi
       omega
      exact⟨vs,us,vs[i]'(by omega),us[i]'(by omega),t1,t2,by simp,by simp⟩
     ·obtain⟨pp,v,u,hp,rfl,rfl,k1,k2⟩:=y;have hi':i<xs.length/\i<ys.length:=by
       have:=(List.getElem?_eq_some_iff.mp hd).1
       have:i<min xs.length ys.length:=by simpa[wS]using this
       omega
      have hd':d=.tup [xs[i],ys[i]]:=by unfold wS at hd;rw[List.getElem?_eq_getElem (by rw[List.length_zipWith];omega)]at hd;simpa using hd.symm
      subst hd';obtain⟨w1,m1,n1⟩:=q1.get (List.getElem?_eq_getElem hi'.1);obtain⟨w2,m2,n2⟩:=q2.get (List.getElem?_eq_getElem hi'.2);rw[k1 vs t1]at m1;cases m1
      rw[k2 us t2]at m2;cases m2
      have g:=zE.frozen (o:=.tup [v,u]) h3 hp;exact⟨_,g,Dat.tup (K:=X.K) qK (zC.cons ((n1.mono (g2.ff.trans f3)).mono g.ff) (zC.cons ((n2.mono f3).mono g.ff) zC.nil))⟩
     ·exact⟨vs,us,t1,t2,by simp[wS];omega⟩
noncomputable def cRv(f:EO D):EO (List D):=λρ=>match f ρ with
 |some (.lst l)=>some l.reverse
 |_=>none
theorem irev(ha:FP K .fz X a fa)(hg:Gl X "reversed")(hm:X.mg "reversed"=none)(hs:starEach [a] X.env=[(false,eval a X.env)]:=by rfl)(hK:X.K=K:=by rfl):
  FI K X tg (.Call (.Name "reversed" p) [a] [] pos) (cRv fa):=FI.mk λρ ds hf=>by
 subst hK;unfold cRv at hf;split at hf
 ·rename_i l e1;cases hf
  refine PI.imp (L2.pi_rev hg hm (yY (ha.h ρ _ e1) vN hs) hs) λσ H R ⟨F,rl,q⟩=>⟨F,rl,λv F1 H1 g1 r1=>?_⟩
  obtain⟨a,vs,rfl,f1,q1⟩:=Dat.lst_inv (K:=X.K) (F:=F1) r1;have hl:=q1.length;refine⟨a,vs,rfl,SqL.of (g1.fh _ _ f1),q _ F1 H1 g1 λF2 H2 f2 h2=>?_⟩;have hs:SqL X.K H2 a vs:=SqL.of (h2 _ _ (f2 _ _ f1));refine⟨λi hi=>⟨by rw[List.length_reverse]at hi;omega,vs,hs,rfl⟩,λi x H3 d hd y=>?_,by show _=_;rw[List.length_reverse,hl]⟩;obtain⟨rfl,y⟩:=y;have hi:i<l.length:=by have:=(List.getElem?_eq_some_iff.mp hd).1;rwa[List.length_reverse]at this
  rw[List.getElem?_reverse hi]at hd;obtain⟨w,hw,dw⟩:=q1.get hd
  have:=y vs hs;rw[hl,hw]at this;cases this
  exact⟨F2,zE.refl h2,dw.mono f2⟩
 ·cases hf
noncomputable def xP(i:Nat)(fk fe:EO D):EO Fl:=λρ=>match ρ[i]?,fe ρ,fk ρ with
 |some (some (.ow pp (.lst l))),some d,some (.int k)=>(ixN l.length k).map λj=>.nx (ρ.set i (some (.ow pp (.lst (l.set j d)))))
 |_,_,_=>none
end
end FL
namespace L2
variable{o:Option V}{u:Value}{y:V}
section
variable{κ:Type}[DecidableEq κ]
noncomputable def qO(kvs:List (κ×V))(k:κ):Option V:=(kvs.find? λkv=>decide (kv.1=k)).map (·.2)
def zW(kvs:List (κ×V))(k:κ)(v:V):List (κ×V):=
 if(kvs.any λkv=>decide (kv.1=k))=true then kvs.map (λkv=>if kv.1=k then(kv.1,v)else kv)else kvs++[(k,v)]
theorem nS{p:κ×V}{r:List (κ×V)}{k:κ}(e:p.1=k):qO (p::r) k=some p.2:=by simp[qO,List.find?_cons,e]
theorem nT{p:κ×V}{r:List (κ×V)}{k:κ}(e:¬p.1=k):qO (p::r) k=qO r k:=by simp[qO,List.find?_cons,e]
theorem zce(k:κ):∀kvs:List (κ×V),(kvs.any λkv=>decide (kv.1=k))=(qO kvs k).isSome
 |[]=>rfl
 |p::r=>by
  rw[List.any_cons];by_cases e:p.1=k
  ·simp only[nS e,decide_eq_true e,Bool.true_or,Option.isSome_some]
  ·rw[nT e,decide_eq_false e,Bool.false_or];exact zce k r
theorem zac(kvs:List (κ×V))(k:κ)(v:V):(zW kvs k v).length<=kvs.length+1:=by
 unfold zW;split
 ·rw[List.length_map];omega
 ·rw[List.length_append,List.length_cons,List.length_nil];omega
theorem zfC{kvs:List (κ×V)}{k:κ}(v:V)(h:qO kvs k=none):zW kvs k v=kvs++[(k,v)]:=by unfold zW;rw[zce,h];exact if_neg (by decide)
theorem vT.isSome_eq{u:Option Value}(r:vT o u):o.isSome=u.isSome:=by
 cases o with
 |none=>cases u with
  |none=>rfl
  |some _=>exact(show False from r).elim
 |some _=>cases u with
  |none=>exact(show False from r).elim
  |some _=>rfl
theorem vT.getD{u:Option Value}{d:V}{d':Value}(r:vT o u)(rd:zJ d d'):zJ (o.getD d) (u.getD d'):=by
 cases o with
 |none=>cases u with
  |none=>exact rd
  |some _=>exact(show False from r).elim
 |some _=>cases u with
  |none=>exact(show False from r).elim
  |some _=>exact r
theorem KV.val{kvs:List (κ×V)}{vs:List (κ×Value)}(r:KV kvs vs)(k:κ):vT (qO kvs k) (valueAt vs k):=by
 unfold KV at r;induction r with
 |nil=>exact True.intro
 |@cons p q ps qs h t ih=>
  obtain⟨h1,h2⟩:=h;by_cases e:p.1=k
  ·have e':q.1=k:=h1.symm.trans e;have b:valueAt (q::qs) k=some q.2:=by simp[valueAt,List.find?_cons,e']
   rw[nS e,b];exact h2
  ·have e':¬q.1=k:=λz=>e (h1.trans z)
   have b:valueAt (q::qs) k=valueAt qs k:=by simp[valueAt,List.find?_cons,e']
   rw[nT e,b];exact ih
theorem KV.any{kvs:List (κ×V)}{vs:List (κ×Value)}(r:KV kvs vs)(k:κ):(kvs.any λkv=>decide (kv.1=k))=vs.any λkv=>decide (kv.1=k):=by
 unfold KV at r;induction r with
 |nil=>rfl
 |cons h t ih=>rw[List.any_cons,List.any_cons,ih,h.1]
theorem KV.repl{kvs:List (κ×V)}{vs:List (κ×Value)}(r:KV kvs vs)(k:κ)(ry:zJ y u):
  KV (kvs.map λkv=>if kv.1=k then(kv.1,y)else kv) (vs.map λkv=>if kv.1=k then(kv.1,u)else kv):=by
 unfold KV at r ⊢;induction r with
 |nil=>exact .nil
 |@cons p q ps qs h t ih=>
  rw[List.map_cons,List.map_cons];refine .cons ?_ ih;obtain⟨h1,h2⟩:=h;by_cases e:p.1=k
  ·rw[if_pos e,if_pos (h1.symm.trans e)];exact⟨h1,ry⟩
  ·rw[if_neg e,if_neg λz=>e (h1.trans z)];exact⟨h1,h2⟩
theorem KV.put{kvs:List (κ×V)}{vs:List (κ×Value)}(r:KV kvs vs)(k:κ)(ry:zJ y u):KV (zW kvs k y) (stored vs k u):=by
 unfold zW stored;rw[r.any k];by_cases e:(vs.any λkv=>decide (kv.1=k))=true
 ·rw[if_pos e,if_pos e];exact r.repl k ry
 ·rw[if_neg e,if_neg e];exact Paired.snoc r ⟨rfl,ry⟩
theorem KV.length{kvs:List (κ×V)}{vs:List (κ×Value)}(r:KV kvs vs):kvs.length=vs.length:=Paired.length r
end
variable{P:Program}{w:World}
theorem nG{k:Key}(r:zJ (kV k) u):(qU P w).is k u=true:=by
 cases k with
 |inl i=>obtain⟨t,e⟩:=(show∃t,u=Value.int i t from r);subst e;exact zeV P w i t
 |inr x=>obtain⟨t,e⟩:=(show∃t,u=Value.str x t from r);subst e;exact zeU P w x t
theorem zer:∀{ks:List Key}{us:List Value},zK (ks.map kV) us->ItemsAre (qU P w) ks us
 |[],_,r=>by rw[List.map_nil]at r;cases r;exact .nil
 |k::ks,_,r=>by
  rw[List.map_cons]at r;cases r with
  |cons h t=>exact .cons (nG h) (zer t)
variable{kvs:List (Key×V)}
section
variable{P:Program}{w:World}{H:Hp}{h:Heap}{a:Addr}
theorem znX{u:HO}(ok:HOk P w H h)(e:Rd H a u):qV P w H h a u:=e.ok ok
theorem zgL(ok:HOk P w H h)(e:Rd H a (.dK kvs)):kvs.length<=sizeLine/\(a==sysModules)=false/\∃vs,KV kvs vs/\h.DictOf (qU P w) a vs:=
 show qV P w H h a (.dK kvs)from znX ok e
theorem zjN(ok:HOk P w H h)(e:H a=some (.dK kvs)):kvs.length<=sizeLine/\(a==sysModules)=false/\∃vs,KV kvs vs/\h.DictOf (qU P w) a vs:=zgL ok (.inl e)
end
def DGet(H:Hp)(a:Addr)(y:V)(r:Option V):Prop:=∃kvs k,Rd H a (.dK kvs)/\y=kV k/\r=qO kvs k
def DPut(H:Hp)(a:Addr)(y v:V)(H':Hp):Prop:=∃kvs k,H a=some (.dK kvs)/\y=kV k/\kvs.length<sizeLine/\H'=upd H a (.dK (zW kvs k v))
variable{H:Hp}{a:Addr}
theorem DPut.k{k:Key}{v:V}(e:H a=some (.dK kvs))(hl:kvs.length<sizeLine):DPut H a (kV k) v (upd H a (.dK (zW kvs k v))):=⟨kvs,k,e,rfl,hl,rfl⟩
variable{Q:Vs}{h':Heap}{H':Hp}
section
variable{X:Cx}{pins:AO}{σ:St}{H:Hp}{s:Shared}{a:Addr}{y v:V}{u r:Value}{o:Option V}{A:Around}{E:Vs}
theorem Inv.big(I:Inv X pins σ H s):sysModules<s.heap.objs.size:=by have h:mainGlobals<s.heap.objs.size:=(I.mod.glob.keeps I.bk).lt;exact Nat.lt_trans (by decide) h
theorem zim(hu:A.units+1<cLine)(I:Inv X pins σ H s)(g:DGet H a y (some v))(ry:zJ y u)(h:∀w' s',Inv X pins σ H s'->zJ v w'->Q w' s'):
  wpAny (model X.prog X.w) A (getItem (.ref a) u) Q E s:=by
 obtain⟨kvs,k,e,ey,l⟩:=g;subst ey;obtain⟨z,hd,vs,rel,dd⟩:=zgL I.hok e;obtain⟨w',hw,rw'⟩:=vT.some_of (v:=v) (o:=valueAt vs k) (by rw[l];exact rel.val k);exact wpAny_getItem_of (nG ry) dd.mapOf hw (h w' _ (I.tok _) rw')
theorem zcO{t':Nat}{ob:HO}(I:Inv X pins σ H s)(mu:Mut (H a))(hs:Heap.SameBut a s.heap h')(he:∃q,h'.get? a=some q)(new:qV X.prog X.w (upd H a ob) h' a ob):
  Inv X pins σ (upd H a ob) {s with heap:=h',toks:=t'}:=
 I.write (x:=a) (e:=a) mu (.inl rfl) (λb q hb z=>(hs.2 b hb).trans z) he new
theorem zga{vs:List (Key×Value)}(z:kvs.length<=sizeLine)(hd:(a==sysModules)=false)(rel:KV kvs vs)(dd:h'.DictOf (qU P w) a vs):
  qV P w H' h' a (.dK kvs):=⟨z,hd,vs,rel,dd⟩
theorem zil{Q:Unit->Shared->Prop}(hu:A.units+1<cLine)(I:Inv X pins σ H s)(g:DPut H a y v H')(ry:zJ y u)(rv:zJ v r)(h:∀s',Inv X pins σ H' s'->Q () s'):
  wpAny (model X.prog X.w) A (setItem (.ref a) u r) Q E s:=by
 obtain⟨kvs,k,e,ey,l,eH⟩:=g;subst ey eH;obtain⟨z,hd,vs,rel,dd⟩:=zjN I.hok e;have hz:vs.length<=sizeLine:=by rw[←rel.length];exact z
 have hl:(zW kvs k v).length<=sizeLine:=by have:=zac kvs k v;omega
 refine wpAny_setItem_pairs (hsz:=hz) (nG ry) dd λh' dd' hs=>h _ ?_
 have he:∃q,h'.get? a=some q:=let⟨q,_,_,hq,_⟩:=dd';⟨q,hq⟩
 exact zcO I (by rw[e];exact True.intro) hs he (zga hl hd (rel.put k rv) dd')
end
section
variable{X:Cx}{pins:AO}{σ:St}{H:Hp}{s:Shared}{a:Addr}{kvs:List (Key×V)}{k:Key}{u:Value}{A:Around}{E:Vs}
end
def NoSl(i:Expr):Prop:=∀ov iv,subscripted i false ov iv=operate [ov,iv] (getItem ov iv)
variable{s:Shared}{pos:Pos}
theorem zhc{prog:Program}{A:Around}{E:Vs}{env:Env}{value slice:Expr}{T id:String}(hl:typeLookup (.type T) "__getitem__"=pure (some (.builtin id)))(hs:NoSl slice)(h:wpAny (model prog w) A (eval value env) (λo s₁=>wpAny (model prog w) A (eval slice env) (λi s₂=>s₂.TypeIs o T/\wpAny (model prog w) A (getItem o i) Q E s₂) E s₁) E s):
  wpAny (model prog w) A (eval (.Subscript value slice pos) env) Q E s:=by
 refine Subscript_ (wpAny_mono h (λo s₁ h₁=>wpAny_mono h₁ (λi s₂ h₂=>?_) λ_ _ x=>x) λ_ _ x=>x);obtain⟨hT,h₂⟩:=h₂;unfold subscriptTail;refine wpAny_bind ?_;rw[getitemInPython_of_ne hT.not_modules];refine wpAny_bind (wpAny_specialOf hT hl ?_);have fin:wpAny (model prog w) A (subscripted slice false o i) (λr s₃=>wpAny (model prog w) A (letTemporaryGo value o r>>=λ_=>pure r) Q E s₃) E s₂:=by rw[hs o i];exact wpAny_operating (wpAny_mono h₂ (λr s₃ h₃=>wpAny_bind (wpAny_letTemporaryGo (wpAny_pure h₃))) λ_ _ x=>x)
 first
  |exact wpAny_pure (wpAny_bind fin)
  |exact wpAny_bind (wpAny_pure (wpAny_bind fin))
  |exact wpAny_bind fin
variable{X:Cx}{pins:AO}{σ:St}
theorem zfj(I:Inv X pins σ H s)(g:DGet H a y o):s.TypeIs (.ref a) "dict":=by obtain⟨kvs,k,e,_,_⟩:=g;obtain⟨_,_,vs,_,dd⟩:=zgL I.hok e;exact dd.typeIs
def znS(td ty:TE):TE:=λσ H Q=>td σ H λx H1=>ty σ H1 λy H2=>∃a v,x=.ref a/\DGet H2 a y (some v)/\Q v H2
section
variable{X:Cx}{o i e value:Expr}{pos pos' tpos:Pos}{td ty tv:TE}
theorem zkT(hu:X.A.units+1<cLine)(ho:PE X o td)(hi:PE X i ty)(hs:NoSl i):PE X (.Subscript o i pos) (znS td ty):=by intro pins s σ H Q I h;refine zhc PySem.F.slot_dict_getitem.lookup hs (thn (ho pins s σ H _ I h) λu s1 ⟨x,H1,I1,rx,q1⟩=>thn (hi pins s1 σ H1 _ I1 q1) λiv s2 ⟨y,H2,I2,ry,a,v,ex,g,q2⟩=>?_);subst ex;obtain rfl:u=Value.ref a:=rx;exact⟨zfj I2 g,zim hu I2 g ry λw' s3 I3 rw'=>⟨v,H2,I3,rw',q2⟩⟩
end
theorem zdO(h:Heap)(hb:sysModules<h.objs.size):qV P w H (h.push {cls:=.type "dict",data:=.dict #[]}) h.objs.size (.dK []):=
 ⟨Nat.zero_le _,beq_eq_false_iff_ne.mpr (Ne.symm (Nat.ne_of_lt hb)),[],.nil,Heap.DictOf.new h⟩
def zlS:TE:=λ_ H Q=>∀p,H p=none->Q (.ref p) (upd H p (.dK []))
section
variable{X:Cx}{pos:Pos}
theorem zji:PE X (.Dict [] [] pos) zlS:=λpins s σ H Q I h=>
 wpAny_Dict_empty ⟨.ref s.heap.objs.size,_,I.laid (a:=s.heap.objs.size) (o:=.dK []) (t':=s.toks) (λ_ _ q=>Heap.get?_push_of_some _ q) (Nat.le_refl _) (zdO s.heap I.big),rfl,h _ (I.hok.fresh (Nat.le_refl _))⟩
end
def zgZ:List (TE×TE)->St->Hp->(List (V×V)->Hp->Prop)->Prop
 |[],_,H,Q=>Q [] H
 |(tk,tv)::r,σ,H,Q=>tk σ H λx H1=>tv σ H1 λy H2=>zgZ r σ H2 λps H3=>Q ((x,y)::ps) H3
abbrev VV:List (V×V)->List (Value×Value)->Prop:=Paired λp q=>zJ p.1 q.1/\zJ p.2 q.2
def PPs(X:Cx)(pos:Pos)(keys:List (Option Expr))(values:List Expr)(trs:List (TE×TE)):Prop:=
 ∀(pins:AO) (s:Shared) (σ:St) (H:Hp) (Q:List (V×V)->Hp->Prop),Inv X pins σ H s->zgZ trs σ H Q->
  wpAny (model X.prog X.w) X.A (evalPairs (pairTrees keys values X.env pos)) (λvs s'=>∃ps H',Inv X pins σ H' s'/\VV ps vs/\Q ps H') X.xe s
theorem zkK:PPs X pos [] [] []:=λpins s σ H Q I h=>pairTrees_nil_walk ⟨[],H,I,.nil,h⟩
variable{trs:List (TE×TE)}
theorem zfF{k v:Expr}{ks:List (Option Expr)}{vs:List Expr}{tk tv:TE}(hk:PE X k tk)(hv:PE X v tv)(hr:PPs X pos ks vs trs):
  PPs X pos (some k::ks) (v::vs) ((tk,tv)::trs):=λpins s σ H Q I h=>
 pairTrees_cons_walk (thn (hk pins s σ H _ I h) λu s1 ⟨x,H1,I1,rx,q1⟩=>thn (hv pins s1 σ H1 _ I1 q1) λw2 s2 ⟨y,H2,I2,ry,q2⟩=>
  thn (hr pins s2 σ H2 _ I2 q2) λws s3 ⟨ps,H3,I3,rel,q3⟩=>⟨(x,y)::ps,H3,I3,.cons ⟨rx,ry⟩ rel,q3⟩)
def zcA(kvs more:List (Key×V)):List (Key×V):=more.foldl (λacc kv=>zW acc kv.1 kv.2) kvs
theorem KV.merge:∀{more:List (Key×V)}{rs:List (Key×Value)} {kvs:List (Key×V)}{vs:List (Key×Value)},KV more rs->KV kvs vs->KV (zcA kvs more) (merged vs rs):=by
 intro more rs kvs vs r;unfold KV at r;induction r generalizing kvs vs with
 |nil=>intro q;exact q
 |@cons p q ps qs h t ih=>
  intro r0;have e:KV (zW kvs p.1 p.2) (stored vs q.1 q.2):=by have:=r0.put p.1 h.2;rw[←h.1];exact this
  exact ih e
theorem zbp:∀(more kvs:List (Key×V)),(zcA kvs more).length<=kvs.length+more.length
 |[],kvs=>by show kvs.length<=kvs.length+0;omega
 |p::r,kvs=>by have h1:=zbp r (zW kvs p.1 p.2);have h2:=zac kvs p.1 p.2;show(zcA (zW kvs p.1 p.2) r).length<=_;rw[List.length_cons];omega
theorem zdy{P:Program}{w:World}:∀{kvs:List (Key×V)}{ws:List (Value×Value)},VV (kvs.map λkv=>(kV kv.1,kv.2)) ws->∃rs,Carries (qU P w) ws rs/\KV kvs rs
 |[],_,r=>by rw[List.map_nil]at r;cases r;exact⟨[],True.intro,.nil⟩
 |p::kvs,_,r=>by
  rw[List.map_cons]at r;cases r with
  |@cons a b as bs h t=>
   obtain⟨rs,c,q⟩:=zdy (P:=P) (w:=w) t;obtain⟨b1,b2⟩:=b;exact⟨(p.1,b2)::rs,⟨nG h.1,rfl,c⟩,.cons ⟨rfl,h.2⟩ q⟩
def znR(trs:List (TE×TE)):TE:=λσ H Q=>∀p,H p=none->zgZ trs σ (upd H p (.dK [])) λps H2=>H2 p=some (.dK [])/\∃kvs:List (Key×V),ps=kvs.map (λkv=>(kV kv.1,kv.2))/\kvs.length<=15/\Q (.ref p) (upd H2 p (.dK (zcA [] kvs)))
theorem zkS{keys:List (Option Expr)}{values:List Expr}(h:PPs X pos keys values trs)(hall:keys.all (·.isSome)=true)(hl:keys.length=values.length)(h0:keys≠[])(h15:keys.length<=15):PE X (.Dict keys values pos) (znR trs):=by
 intro pins s σ H Q I q;have hn:=I.hok.fresh (Nat.le_refl s.heap.objs.size);have I1:=I.laid (a:=s.heap.objs.size) (o:=.dK []) (h':=s.heap.push {cls:=.type "dict",data:=.dict #[]}) (t':=s.toks) (λ_ _ q=>Heap.get?_push_of_some _ q) (Nat.le_refl _) (zdO s.heap I.big);refine wpAny_Dict_walk (knd:=qU X.prog X.w) hall hl h0 h15 (thn (h pins _ σ _ _ I1 (q _ hn)) λws s2 ⟨ps,H2,I2,rel,e,kvs,ep,lk,q2⟩=>?_);subst ep;obtain⟨rs,c,rk⟩:=zdy (P:=X.prog) (w:=X.w) rel;obtain⟨z,hd,vs0,r0,dd⟩:=zjN I2.hok e;cases r0
 refine⟨rs,c,dd,λh' dd' hs=>⟨.ref s.heap.objs.size,_,?_,rfl,q2⟩⟩;have hz:(zcA [] kvs).length<=sizeLine:=by have h1:=zbp kvs [];rw[List.length_nil]at h1;rw[sizeLine_eq];omega
 have he:∃q,h'.get? s.heap.objs.size=some q:=let⟨q,_,_,hq,_⟩:=dd';⟨q,hq⟩
 exact zcO I2 (by rw[e];exact True.intro) hs he (zga hz hd (rk.merge .nil) dd')
structure M2(X:Cx)(o:Expr)(m:Str)(apos:Pos)(e f:Expr)(cpos:Pos):Prop where
 base:attributeBase o m X.env (eval o X.env)=eval o X.env
 few:((backTo cpos (starEach [e,f] X.env)).all (λx=>!x.1)&&(backToKw cpos (keywordEach [] X.env)).all (λx=>x.1.isSome)
  &&decide (([e,f]:List Expr).length+([]:List Keyword).length+(if([]:List Keyword).isEmpty then 0 else 1)<30))=true
 line:(apos.endLine==cpos.line)=true
 trees:backTo cpos (starEach [e,f] X.env)=[(false,eval e X.env),(false,eval f X.env)]
def IsD(H:Hp)(a:Addr):Prop:=∃kvs,Rd H a (.dK kvs)
theorem znk(I:Inv X pins σ H s)(d:IsD H a):
  s.TypeIs (.ref a) "dict"/\(∀b,Value.ref a=.ref b->∃ob,s.heap.get? b=some ob/\ob.dict=none)/\(a==sysModules)=false:=by
 obtain⟨kvs,e⟩:=d;obtain⟨_,hd,vs,_,dd⟩:=zgL I.hok e;refine⟨dd.typeIs,λb q=>?_,hd⟩;cases q
 obtain⟨ob,_,_,h1,h2,_⟩:=dd;exact⟨ob,h1,h2.2.1⟩
section
variable{X:Cx}{pins:AO}{σ:St}{H:Hp}{s:Shared}{a:Addr}{y d:V}{u r:Value}{o:Option V}{A:Around}{E:Vs}
theorem znC(hu:A.units+1<cLine)(I:Inv X pins σ H s)(g:DGet H a y o)(ry:zJ y u)(rd:zJ d r)(h:∀w' s',Inv X pins σ H s'->zJ (o.getD d) w'->Q w' s'):
  wpAny (model X.prog X.w) A (call (.builtin "dict.get") [.ref a,u,r]) Q E s:=by
 obtain⟨kvs,k,e,ey,l⟩:=g;subst ey;obtain⟨z,hd,vs,rel,dd⟩:=zgL I.hok e;refine call_meetsIn PySem.F.slot_dict_get dd.typeIs PySem.F.entry_dict_get (PySem.F.args_dict_get_3 _ _ _) (meets_dict_get_default (qU X.prog X.w) a (nG ry) hd r) ⟨_,dd.mapOf,h _ _ (I.tok _) ?_⟩;rw[l];exact(rel.val k).getD rd
end
def zlT(td ty tx:TE):TE:=λσ H Q=>td σ H λx H1=>∃a,x=.ref a/\IsD H1 a/\ty σ H1 λy H2=>tx σ H2 λz H3=>∃o,DGet H3 a y o/\Q (o.getD z) H3
section
variable{X:Cx}{o e f:Expr}{apos cpos:Pos}{td ty tx:TE}
theorem zjj(hu:X.A.units+1<cLine)(ho:PE X o td)(he:PE X e ty)(hf:PE X f tx)(m:M2 X o "get" apos e f cpos):PE X (.Call (.Attribute o "get" apos) [e,f] [] cpos) (zlT td ty tx):=by
 intro pins s σ H Q I h;refine wpAny_Call_method m.base m.few m.line PySem.F.plainAttrs_dict PySem.F.slot_dict_get PySem.F.type_dict_get (thn (ho pins s σ H _ I h) λu s1 ⟨x,H1,I1,rx,a,ex,d,q1⟩=>?_);subst ex;obtain rfl:u=Value.ref a:=rx;obtain⟨t1,t2,_⟩:=znk I1 d;refine⟨t1,t2,?_⟩;rw[m.trees];refine Calls.callWith_builtin rfl (Calls.evalArgs_plain (Calls.spliced_cons (thn (he pins s1 σ H1 _ I1 q1) λiv s2 ⟨y,H2,I2,ry,q2⟩=>
  Calls.spliced_cons (thn (hf pins s2 σ H2 _ I2 q2) λfv s3 ⟨z,H3,I3,rz,ov,g,q3⟩=>Calls.spliced_nil ?_))))
 exact znC hu I3 g ry rz λw' s4 I4 rw'=>⟨_,H3,I4,rw',q3⟩
end
section
variable{X:Cx}{pins:AO}{σ:St}{H:Hp}{s:Shared}{a:Addr}{kvs:List (Key×V)}{A:Around}{E:Vs}
end
section
variable{X:Cx}{pins:AO}{σ:St}{H:Hp}{s:Shared}{a:Addr}{y:V}{u:Value}{A:Around}{E:Vs}
end
end L2
namespace FL
open L2
noncomputable def qH:D->Option Key
 | .int i=>some (.inl i)
 | .str x=>some (.inr x)
 |_=>none
theorem zdK{a b:Key}(h:kdK a=kdK b):a=b:=by cases a<;>cases b<;>simp[kdK]at h<;>rw[h]
def kds(kvs:List (Key×V)):List KD:=kvs.map λp=>kdK p.1
noncomputable def qJ(ks:List KD)(ds:List D)(k:KD):Option D:=((ks.zip ds).find? λp=>decide (p.1=k)).map (·.2)
def kX(ks:List KD)(ds:List D)(k:KD)(d:D):List KD×List D:=
 if(ks.any λx=>decide (x=k))=true then(ks,(ks.zip ds).map λp=>if p.1=k then d else p.2)else(ks++[k],ds++[d])
variable{a:Addr}{F H:Hp}{v:V}{ks:List KD}
section
variable{K:Fg}{X:Cx}{pos:Pos}
theorem nF{d:D}{k:Key}(h:qH d=some k)(r:Dat K F d v):v=kV k:=by
 cases d<;>simp only[qH]at h<;>cases h
 ·rw[r.int_inv];rfl
 ·rw[r.str_inv];rfl
theorem zeI{F:Hp}(k:Key):∀(kvs:List (Key×V)) (ds:List D),zC K F ds (kvs.map (·.2))->(qJ (kds kvs) ds (kdK k)=none/\qO kvs k=none)\/∃d v,qJ (kds kvs) ds (kdK k)=some d/\qO kvs k=some v/\Dat K F d v
 |[],ds,h=>.inl ⟨by simp[qJ,kds],rfl⟩
 |(a,v)::kvs,[],h=>by have:=h.nil_inv;simp at this
 |(a,v)::kvs,d::ds,h=>by
  obtain⟨v',r,e,h1,h2⟩:=h.cons_inv;simp at e;obtain⟨rfl,rfl⟩:=e;by_cases hk:a=k
  ·subst hk;exact .inr ⟨d,v,by simp[qJ,kds],nS rfl,h1⟩
  ·have hk':¬kdK a=kdK k:=λz=>hk (zdK z)
   have e1:qJ (kds ((a,v)::kvs)) (d::ds) (kdK k)=qJ (kds kvs) ds (kdK k):=by simp[qJ,kds,List.find?_cons,hk']
   rw[e1,nT (p:=(a,v)) hk];exact zeI k kvs ds h2
theorem ziz(k:Key):∀kvs:List (Key×V),((kds kvs).any λx=>decide (x=kdK k))=(kvs.any λkv=>decide (kv.1=k))
 |[]=>rfl
 |(a,v)::kvs=>by
  have ih:=ziz k kvs;by_cases hk:a=k
  ·subst hk;simp[kds]
  ·have hk':¬kdK a=kdK k:=λz=>hk (zdK z)
   simp only[kds,List.map_cons,List.any_cons,hk',hk,decide_false,Bool.false_or];exact ih
theorem zhn(k:Key){d:D}(hd:Dat K F d v):∀(kvs:List (Key×V)) (ds:List D),zC K F ds (kvs.map (·.2))->
  zC K F (((kds kvs).zip ds).map λp=>if p.1=kdK k then d else p.2) ((kvs.map λkv=>if kv.1=k then(kv.1,v)else kv).map (·.2))
 |[],ds,h=>by simp[kds];exact zC.nil
 |(a,u)::kvs,[],h=>by have:=h.nil_inv;simp at this
 |(a,u)::kvs,c::ds,h=>by
  obtain⟨v',r,e,h1,h2⟩:=h.cons_inv;simp at e;obtain⟨rfl,rfl⟩:=e;have ih:=zhn k hd kvs ds h2;simp only[kds,List.map_cons,List.zip_cons_cons];by_cases hk:a=k
  ·subst hk;rw[if_pos rfl,if_pos rfl];exact zC.cons hd ih
  ·have hk':¬kdK a=kdK k:=λz=>hk (zdK z)
   rw[if_neg hk',if_neg hk];exact zC.cons h1 ih
theorem zhm{F:Hp}(k:Key){d:D}(hd:Dat K F d v)(kvs:List (Key×V))(ds:List D)(h:zC K F ds (kvs.map (·.2))):
  (kX (kds kvs) ds (kdK k) d).1=kds (zW kvs k v)/\zC K F (kX (kds kvs) ds (kdK k) d).2 ((zW kvs k v).map (·.2)):=by
 unfold kX zW;rw[ziz];split
 ·refine⟨?_,zhn k hd kvs ds h⟩;unfold kds;rw[List.map_map];apply List.map_congr_left;intro p _;simp only[Function.comp]
  split<;>rfl
 ·exact⟨by simp[kds],by rw[List.map_append];exact h.snoc hd⟩
theorem zlx{vs:List V}(h:gQ F H a ks vs)(hk:∀l,KD.tup l∉ks):∃kvs,H a=some (.dK kvs)/\ks=kds kvs/\vs=kvs.map (·.2):=by
 rcases h with⟨kvs,h,e1,e2⟩|⟨kvs,ys,h,⟨e1,e3⟩,e2,_⟩
 ·exact⟨kvs,h,e1,e2⟩
 ·exact absurd e3.choose_spec (hk _)
theorem zkr{vs:List V}(h:DicB F H a ks vs)(hk:∀l,KD.tup l∉ks):∃kvs,Rd H a (.dK kvs)/\ks=kds kvs/\vs=kvs.map (·.2):=by
 rcases h with h|⟨o,⟨kvs,h,e1,e2⟩|⟨kvs,ys,h,⟨e1,e3⟩,e2,_⟩⟩
 ·obtain⟨kvs,h,r⟩:=zlx h hk;exact⟨kvs,.inl h,r⟩
 ·exact⟨kvs,.inr ⟨o,h⟩,e1,e2⟩
 ·exact absurd e3.choose_spec (hk _)
theorem Rd.mono{H':Hp}{u:HO}(s:zG H H')(h:Rd H a u):Rd H' a u:=h.imp (s _ _) λ⟨o,h⟩=>⟨o,s _ _ h⟩
def kOk(ks:List KD):Bool:=ks.all λx=>match x with
 | .tup _=>false
 |_=>true
theorem zkm(h:kOk ks=true):∀l,KD.tup l∉ks:=λl hl=>by have:=List.all_eq_true.mp h _ hl;cases this
theorem zlu:FP K .ow X (.Dict [] [] pos) (cst (.dic [] [])):=FP.mk λρ d hf=>by
 cases hf
 refine PE.imp zji λσ H Q ⟨F,r,q⟩ p hp=>?_
 exact q _ _ _ (zE.fresh r.sub hp) ⟨p,rfl,hp,r.sub.free hp,[],.inl ⟨[],qK,rfl,rfl⟩,zC.nil⟩
noncomputable def c3(p:D->D->D->Option D)(fa fb fc:EO D):EO D:=λρ=>(fa ρ).bind λx=>(fb ρ).bind λy=>(fc ρ).bind λz=>p x y z
theorem zlE{p:D->D->D->Option D}{fa fb fc:EO D}{ρ:En}{d:D}(h:c3 p fa fb fc ρ=some d):∃x y z,fa ρ=some x/\fb ρ=some y/\fc ρ=some z/\p x y z=some d:=by
 unfold c3 at h;cases e1:fa ρ with
 |none=>rw[e1]at h;cases h
 |some x=>
  cases e2:fb ρ with
  |none=>rw[e1]at h;simp[e2]at h
  |some y=>
   cases e3:fc ρ with
   |none=>rw[e1]at h;simp[e2,e3]at h
   |some z=>rw[e1]at h;simp[e2,e3]at h;exact⟨x,y,z,rfl,rfl,rfl,h⟩
noncomputable def yS(x y z:D):Option D:=match x,qH y with
 | .dic ks ds,some k=>if kOk ks=true then some ((qJ ks ds (kdK k)).getD z)else none
 |_,_=>none
theorem fget{o e f:Expr}{fo fe ff:EO D}{apos cpos:Pos}(hu:X.A.units+100<cLine)(ho:FP K .br X o fo)(he:FP K .fz X e fe)(hf:FP K .fz X f ff)(m1:attributeBase o "get" X.env (eval o X.env)=eval o X.env:=by rfl)(m2:((backTo cpos (starEach [e,f] X.env)).all (λx=>!x.1)&&(backToKw cpos (keywordEach [] X.env)).all (λx=>x.1.isSome)&&decide (([e,f]:List Expr).length+([]:List Keyword).length+(if([]:List Keyword).isEmpty then 0 else 1)<30))=true:=by rfl)(m3:(apos.endLine==cpos.line)=true:=by rfl)(m4:backTo cpos (starEach [e,f] X.env)=[(false,eval e X.env),(false,eval f X.env)]:=by rfl):
  FP K .fz X (.Call (.Attribute o "get" apos) [e,f] [] cpos) (c3 yS fo fe ff):=FP.mk λρ d hf'=>by
 obtain⟨x,y,z,e1,e2,e3,e4⟩:=zlE hf';refine PE.imp (zjj (by omega) (ho.h ρ x e1) (he.h ρ y e2) (hf.h ρ z e3) ⟨m1,m2,m3,m4⟩) λσ H Q h_=>?_
 obtain⟨F,rl,q⟩:=h_;unfold yS at e4;split at e4
 ·rename_i ks ds k ek;obtain⟨hk,rfl⟩:=kQ e4;refine⟨F,rl,λv F1 H1 g1 r1=>?_⟩;obtain⟨a,vs,rfl,f1,q1⟩:=zO.dic_inv r1;obtain⟨kvs,h1,rfl,rfl⟩:=zkr f1 (zkm hk);refine⟨a,rfl,⟨kvs,h1⟩,F1,rl.grow g1,λu F2 H2 g2 r2=>⟨F2,(rl.grow g1).grow g2,λw F3 H3 g3 r3=>?_⟩⟩;have eu:=nF (K:=K) ek r2;subst eu;refine⟨qO kvs k,⟨kvs,k,Rd.mono (g2.hh.trans g3.hh) h1,rfl,rfl⟩,q _ F3 H3 (g1.trans (g2.trans g3)) ?_⟩;rcases zeI (K:=K) (F:=F3) k kvs ds (q1.mono (g2.ff.trans g3.ff))with⟨n1,n2⟩|⟨d,v,n1,n2,n3⟩
  ·rw[n1,n2];exact r3
  ·rw[n1,n2];exact n3
 ·cases e4
noncomputable def vC:LO
 |[.dic ks ds]=>if kOk ks=true then some (.dic ks ds)else none
 |_=>none
noncomputable def xQ(i:Nat)(fk fe:EO D):EO Fl:=λρ=>match ρ[i]?,fe ρ,(fk ρ).bind qH with
 |some (some (.ow pp (.dic ks ds))),some d,some k=>if kOk ks=true/\ks.length<lim then some (.nx (ρ.set i (some (.ow pp (.dic (kX ks ds (kdK k) d).1 (kX ks ds (kdK k) d).2)))))else none
 |_,_,_=>none
noncomputable def kJ(i:Nat)(m:EO Fl):EO Fl:=λρ=>match ρ[i]? with
 |some (some (.ow false d))=>m (ρ.set i (some (.dat d)))
 |_=>none
theorem Rel.frz{F H:Hp}{ρ:En}{σ:St}{i:Nat}{d:D}(r:Rel K F H ρ σ)(e:ρ[i]?=some (some (.ow false d))):
  ∃a,∀H2,vU H a H2->∃F',Rel K F' H2 (ρ.set i (some (.dat d))) σ/\qI ρ σ F H (ρ.set i (some (.dat d))) σ F' H2:=by
 obtain⟨a,h1,h2,h3⟩:=r.own i false d e;refine⟨a,λH2 fz=>?_⟩;have x:zG F (vS F H2 a):=zaB h2;have hi:i<ρ.length:=(List.getElem?_eq_some_iff.mp e).1;refine⟨vS F H2 a,⟨zbs (fz.same r.sub h2),λj y q=>?_,λj y q=>?_,λj qq y q=>?_,λj k qq y s c ne e1 e2 e3 e4=>?_,by simp[r.len]⟩,⟨x,λb o hb n no=>?_,λb hb=>.inr ?_,λj y e'=>?_,zbs (fz.same r.sub h2)⟩⟩
 ·rcases qF q with⟨rfl,q'⟩|⟨ne,q'⟩
  ·cases q';exact⟨_,h1,h3.freeze h2 fz⟩
  ·obtain⟨v,g1,g2⟩:=r.dat j y q';exact⟨v,g1,g2.mono x⟩
 ·rcases qF q with⟨rfl,q'⟩|⟨ne,q'⟩
  ·cases q'
  ·obtain⟨v,g1,g2⟩:=r.bor j y q';exact⟨v,g1,g2.frz x fz λz=>r.inj i j false d _ a (Ne.symm ne) e h1 q' rfl (by rw[g1,z])⟩
 ·rcases qF q with⟨rfl,q'⟩|⟨ne,q'⟩
  ·cases q'
  ·obtain⟨b,g1,g2,g3⟩:=r.own j qq y q';have hb:b≠a:=λz=>by subst z;exact r.inj i j false d _ b (Ne.symm ne) e h1 q' rfl g1
   exact⟨b,g1,by rw[zbc hb];exact g2,g3.mono x λo e=>by rw[fz.ne hb];exact e⟩
 ·rcases qF e1 with⟨rfl,e1'⟩|⟨ne1,e1'⟩
  ·cases e1'
  ·rcases qF e3 with⟨rfl,e3'⟩|⟨ne3,e3'⟩
   ·cases e3';cases e4
   ·exact r.inj j k qq y s c ne e1' e2 e3' e4
 ·have hb':b≠a:=λz=>no (by subst z;exact⟨i,false,d,e,h1⟩)
  exact⟨by rw[fz.ne hb'];exact hb,by rw[zbc hb'];exact n⟩
 ·obtain⟨j,qq,y,j1,j2⟩:=hb;rcases qF j1 with⟨rfl,j1'⟩|⟨ne,j1'⟩
  ·cases j1'
  ·exact⟨j,qq,y,j1',j2⟩
 ·rcases qF e' with⟨rfl,e''⟩|⟨ne,e''⟩
  ·cases e''
  ·exact⟨y,e'',rfl⟩
end
end FL
namespace L2
end L2
namespace FL
open L2
section
variable{K:Fg}{X:Cx}{pos:Pos}
theorem zms{st:Stmt}{t:TS}(h:PS X st t):PS X st (λD σ H=>∃a,∀H2,vU H a H2->t D σ H2):=λpins s σ H D I ⟨a,ht⟩=>by obtain⟨H2,f,I2⟩:=Inv.frzTo I a;exact h pins s σ H2 D I2 (ht H2 f)
theorem sfrz{md:Md}(i:Nat){st:Stmt}{m:EO Fl}(h:FS K md X st m):FS K md X st (kJ i m):=FS.mk λρ fl hf=>by
 unfold kJ at hf;split at hf
 ·rename_i d e1;refine PS.imp (zms (h.h _ fl hf)) λD σ H h_=>?_
  obtain⟨F,r,q⟩:=h_;obtain⟨a,hf2⟩:=r.frz e1;refine⟨a,λH2 fz=>?_⟩;obtain⟨F',r',s'⟩:=hf2 H2 fz;exact rdS.after r.sub r' s' q
 ·cases hf
def zmd(z:Str):List D:=z.cps.toList.map λc=>D.str ⟨#[c]⟩
noncomputable def cSg(f:EO D):EO (List D):=λρ=>match f ρ with
 |some (.str z)=>some (zmd z)
 |_=>none
noncomputable def vB(y z:D):Option D:=(qH y).map λk=>.dic [kdK k] [z]
end
section
variable{K:Fg}{X:Cx}{pos:Pos}
noncomputable def inK(f:Bool->Bool)(y x:D):Option D:=match x,qH y with
 | .dic ks ds,some k=>if kOk ks=true then some (.bl (f (qJ ks ds (kdK k)).isSome))else none
 |_,_=>none
noncomputable def idxK(x y:D):Option D:=match x,qH y with
 | .dic ks ds,some k=>if kOk ks=true then qJ ks ds (kdK k)else none
 |_,_=>none
theorem fixK{a b:Expr}{fa fb:EO D}(hu:X.A.units+100<cLine)(ha:FP K .br X a fa)(hb:FP K .fz X b fb)(hs:NoSl b):FP K .fz X (.Subscript a b pos) (c2 idxK fa fb):=FP.mk λρ d hf=>by
 obtain⟨x,y,e1,e2,e3⟩:=nM hf;refine PE.imp (zkT (by omega) (ha.h ρ x e1) (hb.h ρ y e2) hs) λσ H Q h_=>?_
 obtain⟨F,rl,q⟩:=h_;unfold idxK at e3;split at e3
 ·rename_i ks ds k ek;obtain⟨hk,e3⟩:kOk ks=true/\_:=by
   split at e3
   ·rename_i hz;exact⟨hz,e3⟩
   ·cases e3
  refine⟨F,rl,λv F1 H1 g1 r1=>⟨F1,rl.grow g1,λu F2 H2 g2 r2=>?_⟩⟩;obtain⟨a,vs,rfl,f1,q1⟩:=zO.dic_inv (zO.mono g2.ff g2.hh r1);obtain⟨kvs,h1,rfl,rfl⟩:=zkr f1 (zkm hk);have ev:=nF (K:=K) ek r2;subst ev;rcases zeI (K:=K) (F:=F2) k kvs ds q1 with⟨n1,n2⟩|⟨d',v,n1,n2,n3⟩
  ·rw[n1]at e3;cases e3
  ·rw[n1]at e3;cases e3
   exact⟨a,v,rfl,by rw[←n2];exact⟨kvs,k,h1,rfl,rfl⟩,q _ F2 H2 (g1.trans g2) n3⟩
 ·cases e3
theorem d_setdef{pins:AO}{σ:St}{H:Hp}{s:Shared}{a:Addr}{kvs:List (Key×V)}{k:Key}{d:V}{u r:Value}{A:Around}{E:Vs}{Q:Vs}(I:Inv X pins σ H s)(e:H a=some (.dK kvs))(hl:kvs.length<sizeLine)(ry:zJ (kV k) u)(rr:zJ d r)(h1:∀v,qO kvs k=some v->∀w' s',Inv X pins σ H s'->zJ v w'->Q w' s')(h2:qO kvs k=none->∀s',Inv X pins σ (upd H a (.dK (zW kvs k d))) s'->Q r s'):
  wpAny (model X.prog X.w) A (call (.builtin "dict.setdefault") [.ref a,u,r]) Q E s:=by
 obtain⟨z,hd,vs,rel,dd⟩:=zjN I.hok e;refine call_meetsIn PySem.F.slot_dict_setdefault dd.typeIs PySem.F.entry_dict_setdefault (PySem.F.args_dict_setdefault_3 _ _ _) (PySem.kt_meets_setdefault (qU X.prog X.w) a (nG ry) hd r)
  ⟨vs,dd,by rw[←rel.length];exact z,λw' hw=>?_,λhn h' dd' hs=>?_⟩
 ·have vr:=rel.val k;rw[hw]at vr;cases e2:qO kvs k with
  |none=>rw[e2]at vr;exact vr.elim
  |some v=>rw[e2]at vr;exact h1 v e2 w' _ (I.tok _) vr
 ·have vr:=rel.val k;rw[hn]at vr;cases e2:qO kvs k with
  |some v=>rw[e2]at vr;exact vr.elim
  |none=>
   have he:∃q,h'.get? a=some q:=let⟨q,_,_,hq,_⟩:=dd';⟨q,hq⟩
   have hl':(zW kvs k d).length<=sizeLine:=by have:=zac kvs k d;omega
   exact h2 e2 _ (zcO I (by rw[e];exact True.intro) hs he (zga hl' hd (rel.put k rr) dd'))
end
end FL
namespace L2
end L2
namespace FL
open L2
def kdD:KD->D
 | .int i=>.int i
 | .str x=>.str x
 | .tup l=>.tup (l.map λk=>match k with| .inl i=>.int i| .inr x=>.str x)
section
variable{K:Fg}{X:Cx}{pos:Pos}{tg l:Expr}{f:EO D}
end
end FL
namespace L2
section
variable{X:Cx}{pins:AO}{σ:St}{N:List Str}{cap:ON}{scope:Scope}{tg zM kx vx:Expr}{ifs:List Expr}{pos:Pos}{g:TG}{tt:TT}{tk tv:TE}
noncomputable def actD(kx vx:Expr):Value->Env->Sem Unit:=λacc env=>match acc with
 | .ref D=>do
  let kv ←eval kx env;let vv ←holding [kv] (eval vx env)
  standAt {kx.pos with endLine:=vx.pos.endLine,endCol:=vx.pos.endCol}
  holding [kv,vv] (dictSet D kv vv)
 |_=>pure ()
theorem zlC:zaW X (.DictComp kx vx [⟨tg,zM,ifs,0⟩] scope pos) tg zM ifs newDict (actD kx vx) (.dK [])where
 new:=λpins σ H s Q E I h=>wpAny_newObj_type (h _ (I.laid (a:=s.heap.objs.size) (o:=.dK []) (t':=s.toks) (λ_ _ q=>Heap.get?_push_of_some _ q) (Nat.le_refl _) (zdO s.heap I.big)))
 turn:=λit D env=>by rw[compTurn_dict];rfl
 loop:=λA it D env Q E s h=>h
 start:=λh0 h=>codeAny_compStart_dict h0 h
def taD(tk tv:TE)(D:Addr):gM:=λσ H Q=>tk σ H λx H1=>tv σ H1 λv H2=>∃k kvs,x=kV k/\H2 D=some (.dK kvs)/\kvs.length<sizeLine/\Q (upd H2 D (.dK (zW kvs k v)))
theorem zhy{Y:Cx}(hk:PE Y kx tk)(hv:PE Y vx tv)(D:Addr):PAct Y (actD kx vx) D (taD tk tv D):=by
 intro pins s σ H Q I h;show wpAny _ _ (eval kx Y.env>>=_) _ _ _;refine wpAny_bind (thn (hk pins s σ H _ I h) λu s1 ⟨x,H1,I1,r1,q1⟩=>?_);refine wpAny_bind (wpAny_holding (thn (hv pins s1 σ H1 _ I1 q1) λw s2 ⟨v,H2,I2,r2,k,kvs,ex,e,hl,q⟩=>?_));subst ex;refine wpAny_bind (wpAny_standAt (wpAny_holding ?_));obtain⟨z,hd,vs,rel,dd⟩:=zjN I2.hok e;have hz:vs.length<=sizeLine:=by rw[←rel.length];exact z
 have hl':(zW kvs k v).length<=sizeLine:=by have:=zac kvs k v;omega
 refine wpAny_dictSet_pairs (hsz:=hz) (nG r1) dd λh' dd' hs=>⟨σ,_,?_,q⟩
 have he:∃q,h'.get? D=some q:=let⟨q,_,_,hq,_⟩:=dd';⟨q,hq⟩
 exact zcO I2 (by rw[e];exact True.intro) hs he (zga hl' hd (rel.put k r2) dd')
end
end L2
namespace FL
open L2
noncomputable def wM(g:D->EO En)(t:EO Bool)(fk fv:EO D)(ρi:En):List D->List KD×List D->Option (List KD×List D)
 |[],acc=>some acc
 |x::xs,acc=>(g x ρi).bind λρ1=>(t ρ1).bind λb=>if b=true then(fk ρ1).bind λy=>(qH y).bind λk=>(fv ρ1).bind λd=>wM g t fk fv ρi xs (kX acc.1 acc.2 (kdK k) d)else wM g t fk fv ρi xs acc
noncomputable def zdt(cap:ON)(fi:EO (List D))(g:D->EO En)(t:EO Bool)(fk fv:EO D):EO D:=λρ=>(fi ρ).bind λds=>if ds.length<=lim then(wM g t fk fv (qE cap ρ) ds ([],[])).map λp=>.dic p.1 p.2 else none
variable{cap:ON}{g:D->EO En}{t:EO Bool}{ρ:En}{fi:EO (List D)}
section
variable{K:Fg}{md:Md}{X:Cx}{pos:Pos}{tg zM kx vx:Expr}{ifs:List Expr}{scope:Scope}
theorem zjQ{fk fv:EO D}{ds:List D}{rs:List KD×List D}{σ:St}{H F:Hp}{Q:VK}(hm:wM g t fk fv (qE cap ρ) ds ([],[])=some rs)(hn:ds.length<=lim)(r:Rel K F H ρ σ)(q:∀v F' H',zE F H F' H'->Res K .ow H F' H' (.dic rs.1 rs.2) v->Q v H'){J:It}{F1 H1:Hp}(g1:zE F H F1 H1)(ok:zcV K J F1 ds):
  zea J (λv σ H Q=>∃i:{q:En×D×En//g q.2.1 q.1=some q.2.2},rdG K i.1.1 i.1.2.1 i.1.2.2 v σ H Q) (λσ H Q=>∃i:{q:En×Bool//t q.1=some q.2},rdTp K i.1.1 i.1.2 σ H Q)
   (taD (λσ H Q=>∃i:{q:En×D//fk q.1=some q.2},rdE K .fz i.1.1 i.1.2 σ H Q) λσ H Q=>∃i:{q:En×D//fv q.1=some q.2},rdE K .fz i.1.1 i.1.2 σ H Q) (.dK []) cap σ H1 Q:=by
 intro a ha;refine⟨λi m H2=>∃acc,i<=ds.length/\m=ds.length - i/\∃F2 done,zE F H F2 H2/\zG F1 F2/\(∀b o,H1 b=some o->H2 b=some o)/\F2 a=none/\H2 a=some (.dK acc)/\zC K F2 done (acc.map (·.2))/\acc.length<=i/\wM g t fk fv (qE cap ρ) (ds.drop i) (kds acc,done)=some rs,
  ⟨ds.length,[],Nat.zero_le _,rfl,F1,[],⟨g1.ff,g1.hh.trans (vM ha _),g1.fh.trans (vM ha _),g1.nw⟩,zG.refl _,λb o e=>vM ha _ _ _ e,g1.fh.free ha,qK,zC.nil,Nat.zero_le _,hm⟩,?_⟩
 rintro i m H2 ⟨acc,hi,rfl,F2,done,g2,ff,hh,fa,hd,da,al,e1⟩;obtain⟨o1,o2,o3⟩:=ok F2 H2 ff g2.fh;by_cases hlt:i<ds.length
 ·refine .inr ⟨o1 i hlt,λx H3 y=>?_⟩;obtain⟨F3,g3,d3⟩:=o2 i x H3 _ (List.getElem?_eq_getElem hlt) y;rw[List.drop_eq_getElem_cons hlt]at e1;simp only[wM]at e1;have g23:=g2.trans g3;have hd3:=g3.hh _ _ hd;have fa3:=g3.nw a _ hd fa;cases e3:g ds[i] (qE cap ρ)with
  |none=>rw[e3]at e1;cases e1
  |some ρ1=>
   simp only[e3,Option.bind_some]at e1;refine⟨⟨(qE cap ρ,ds[i],ρ1),e3⟩,F3,(r.grow g23).inner,d3,λσ2 r2 _=>?_⟩;cases e4:t ρ1 with
   |none=>rw[e4]at e1;cases e1
   |some b=>
    simp only[e4,Option.bind_some]at e1;refine⟨⟨(ρ1,b),e4⟩,F3,r2,λF4 H4 g4=>?_⟩;have g24:=g23.trans g4;have hd4:=g4.hh _ _ hd3;have fa4:=g4.nw a _ hd3 fa3;have ff4:zG F1 F4:=ff.trans (g3.ff.trans g4.ff);have hh4:∀c o,H1 c=some o->H4 c=some o:=λc o e=>g4.hh _ _ (g3.hh _ _ (hh c o e))
    cases b with
    |false=>
     rw[if_neg Bool.false_ne_true]at e1;exact nJ ⟨ds.length - (i+1),by omega,acc,hlt,rfl,F4,done,g24,ff4,hh4,fa4,hd4,da.mono (g3.ff.trans g4.ff),by omega,e1⟩
    |true=>
     rw[if_pos rfl]at e1;refine nH ?_;cases e5:fk ρ1 with
     |none=>rw[e5]at e1;cases e1
     |some y=>
      simp only[e5,Option.bind_some]at e1;cases e6:qH y with
      |none=>rw[e6]at e1;cases e1
      |some k=>
       simp only[e6,Option.bind_some]at e1;cases e7:fv ρ1 with
       |none=>rw[e7]at e1;cases e1
       |some d=>
        simp only[e7,Option.bind_some]at e1;refine⟨⟨(ρ1,y),e5⟩,F4,r2.grow g4,λu F5 H5 g5 d5=>⟨⟨(ρ1,d),e7⟩,F5,(r2.grow g4).grow g5,λv F6 H6 g6 d6=>?_⟩⟩;have eu:=nF (K:=K) e6 d5;subst eu;have g46:=g5.trans g6;have g26:=g24.trans g46;have hd6:=g46.hh _ _ hd4;have fa6:=g46.nw a _ hd4 fa4;have haH:H a=none:=g1.hh.free ha;obtain⟨p1,p2⟩:=zhm k d6 acc done (da.mono (g3.ff.trans (g4.ff.trans g46.ff)));have pl:=zac acc k v;refine⟨k,acc,rfl,hd6,zdl (by omega),ds.length - (i+1),by omega,_,hlt,rfl,F6,_,?_,ff4.trans g46.ff,λc o e=>?_,fa6,qK,p2,by omega,?_⟩
        ·refine⟨g26.ff,λc o e=>?_,λc o e=>?_,g26.nw⟩
         ·rw[zT (qS e haH)];exact g26.hh _ _ e
         ·rw[zT (qS e fa6)];exact g26.fh _ _ e
        ·rw[zT (qS e ha)];exact g46.hh _ _ (hh4 c o e)
        ·rw[←p1];exact e1
 ·have e:i=ds.length:=by omega
  subst e;rw[List.drop_length]at e1;have e1:some (kds acc,done)=some rs:=e1;cases e1
  exact .inl ⟨o3,q _ F2 H2 g2 ⟨a,rfl,g1.hh.free ha,fa,_,.inl ⟨acc,hd,rfl,rfl⟩,da⟩⟩
theorem zfl{fk fv:EO D}{d:D}(h:zdt cap fi g t fk fv ρ=some d):∃ds rs,fi ρ=some ds/\ds.length<=lim/\wM g t fk fv (qE cap ρ) ds ([],[])=some rs/\d=.dic rs.1 rs.2:=by
 unfold zdt at h;cases e1:fi ρ with
 |none=>rw[e1]at h;cases h
 |some ds=>
  rw[e1]at h;simp only[Option.bind_some]at h;split at h
  ·rename_i hz;cases e2:wM g t fk fv (qE cap ρ) ds ([],[])with
   |none=>rw[e2]at h;cases h
   |some rs=>rw[e2]at h;cases h;exact⟨ds,rs,rfl,hz,e2,rfl⟩
  ·cases h
theorem zlX(k:Nat){y:Str}{py spos:Pos}{fk fv:EO D}(N:List Str)(cap:ON)(cp:Cap X scope N cap)(hc:X.calm=true)(hN:X.N.Nodup)(hi:FI K X tg zM fi)(hg:∀C s0 H0 fp,FG K (qN X N scope (zY X.env scope.names []) C s0 H0 fp) tg g)(ht:∀C s0 H0 fp,gW K (qN X N scope (zY X.env scope.names []) C s0 H0 fp) ifs t)(hkx:∀C s0 H0 fp,FP K .fz (qN X N scope (zY X.env scope.names []) C s0 H0 fp) kx fk)(hv:∀C s0 H0 fp,FP K .fz (qN X N scope (zY X.env scope.names []) C s0 H0 fp) vx fv)(hk:X.N[k]?=some y:=by rfl)(hy:Loc X.env.scope y:=by first|exact Or.inl rfl|exact Or.inr rfl)(S:kA X scope:=by exact kA.mk')(hs:∀x,foldedSetIterable zM X.env x=pure x:=by intro _;rfl)(hsw:swapsWith (.DictComp kx vx [⟨tg,zM,ifs,0⟩] scope pos) (some (.Name y py)) spos.line X.env=pure true:=by rfl)(hf:X.fn y=true\/X.env.scope.names.lookup y=some .local:=by first|exact .inl rfl|exact .inr rfl|assumption):
  FS K md X (.Assign [.Name y py] (.DictComp kx vx [⟨tg,zM,ifs,0⟩] scope pos) spos) (setO k (zdt cap fi g t fk fv)):=FS.mk λρ fl hm=>by
 unfold setO at hm;split at hm
 ·rename_i nb;cases e0:zdt cap fi g t fk fv ρ with
  |none=>rw[e0]at hm;cases hm
  |some d=>
   rw[e0]at hm;cases hm
   obtain⟨ds,rs,e1,hz,e2,rfl⟩:=zfl e0;refine PS.imp (zcq zlC N cap cp hc hN hk hy (hi.h ρ ds e1) (λC s0 H0 fp=>PG.any λi:{q:En×D×En//g q.2.1 q.1=some q.2.2}=>(hg C s0 H0 fp).h _ _ _ i.2) (λC s0 H0 fp=>PIf.any λi:{q:En×Bool//t q.1=some q.2}=>(ht C s0 H0 fp).h _ _ i.2)
    (λC s0 H0 fp D0=>zhy (PE.any λi:{q:En×D//fk q.1=some q.2}=>(hkx C s0 H0 fp).h _ _ i.2) (PE.any λi:{q:En×D//fv q.1=some q.2}=>(hv C s0 H0 fp).h _ _ i.2) D0) S hs rfl (λ_=>rfl) hsw hf) λD σ H ⟨F,r,q⟩=>?_
   refine⟨F,r,λJ F1 H1 g1 ok=>zjQ e2 hz r (λv F2 H2 g2 ⟨a,ev,h1,h2,h3⟩=>?_) g1 ok⟩;subst ev;have s1:=g2.step (ρ:=ρ) (σ:=σ);refine q _ F2 H2 (r.setO g2 h1 h2 h3 (zcy nb)) ⟨s1.ff,s1.rest,λb z=>?_,zdG (λd h=>by cases h),s1.fh⟩;rcases zbm z with⟨_,_,_,z⟩|z
   ·cases z;exact .inl h1
   ·exact .inr z
 ·cases hm
end
end FL
namespace HT
open PySem.Calls
end HT
namespace L2
section
variable{X:Cx}
end
end L2
namespace FL
open L2
section
variable{K:Fg}{X:Cx}{md:Md}{pos:Pos}
end
section
variable{P:Program}{w:World}{K:Fg}{mg:SV}{base:Heap}{X:Cx}{k j:Nat}{ps:List Str}{x:Str}
end
section
variable{K:Fg}{md:Md}{X:Cx}{a b e:Expr}{fa fb:EO D}{m:EO (D×En)}{p:D->D->Option D}{pos:Pos}
end
section
variable{K:Fg}{X:Cx}{e:Expr}{es:List Expr}{m:EO (D×En)}{fs:EO (List D)}{gs:EO (List D×En)}{pos p:Pos}{x:Str}{ps:List Str}{k j:Nat}{mm:LO}
end
section
variable{K:Fg}{X:Cx}{pos:Pos}
end
end FL
namespace L2
section
variable{X:Cx}
theorem ziu(hc:X.calm=true):yH X (.builtin "all") (λxs H Q=>∃(p:Addr) (bs:List Bool),xs=[.ref p]/\SqL X.K H p (bs.map V.bl)/\Q (.bl (bs.all id)) H):=by
 intro pins s σ H xs us Q I r h;obtain⟨p,bs,rfl,hq,q⟩:=h;obtain⟨u,rfl,rx⟩:=wB r;cases rx
 obtain⟨its,r',pl,_⟩:=I.list hq;have hh:X.A.handled=none:=I.ok.hd hc;obtain⟨ol,hol,_⟩:=id pl.isList;have hll:p<s.heap.objs.size:=Heap.lt_size hol;have hlen:its.toArray.size=bs.length:=by rw[List.size_toArray,←r'.length,List.length_map]
 have hlI:p≠s.heap.objs.size:=Nat.ne_of_lt hll;have W:=Walks.list (prog:=X.prog) (w:=X.w) (A:=X.A.in1) hh s.heap.objs.size p hlI its.toArray;rw[hlen]at W;refine call_all_walk (wpAny_pyIter_list pl.isList ⟨s.heap.objs.size,_,_,bs.length,_,_,λi=>(bs[i]?).getD true,rfl,W,⟨⟨_,Heap.get?_push_size _ rfl,rfl,rfl⟩,pl.isList.at λo e=>Heap.get?_push_of_some _ e⟩,λi v s Q E hP hQ=>?_,λh' tk hk=>?_⟩)
 ·have hv:its[i]?=some v:=by simpa using hP
  have hi:i<bs.length:=by have:=(List.getElem?_eq_some_iff.mp hv).1;rw[List.size_toArray]at hlen;omega
  obtain⟨u,e1,r1⟩:=r'.get (i:=i) (x:=.bl bs[i]) (by simp[hi]);rw[hv]at e1;cases e1
  have r1:v=.bool bs[i]:=r1;subst r1;have hQ:Q ((bs[i]?).getD true) s:=hQ;rw[List.getElem?_eq_getElem hi]at hQ;exact wpAny_truthy_bool hQ
 ·refine⟨.bl (bs.all id),H,I.kept (λb o e=>hk b o (by have:b<s.heap.objs.size:=Heap.lt_size e;have n:b≠s.heap.objs.size:=Nat.ne_of_lt this;simpa using n) (Heap.get?_push_of_some _ e)),?_,q⟩
  show Value.bool _=Value.bool _
  congr 1
  rw[Bool.eq_iff_iff,List.all_eq_true,List.all_eq_true];constructor
  ·intro h x hx;obtain⟨i,hi,rfl⟩:=List.getElem_of_mem hx
   have:=h i (List.mem_range.mpr hi);simpa[hi]using this
  ·intro h i hi;have hi:=List.mem_range.mp hi;simpa[hi]using h _ (List.getElem_mem hi)
end
end L2
namespace FL
open L2
noncomputable def wN:List D->Option (List Bool)
 |[]=>some []
 | .bl b::l=>(wN l).map (b::·)
 |_::_=>none
theorem zdz:∀{l:List D}{ns:List Bool},wN l=some ns->l=ns.map D.bl:=by
 intro l;induction l with
 |nil=>intro ns h;simp[wN]at h;subst h;rfl
 |cons d l ih=>
  intro ns h;cases d<;>simp only[wN]at h<;>try(cases h;done)
  cases e:wN l with
  |none=>rw[e]at h;cases h
  |some ms=>rw[e]at h;cases h;rw[ih e];rfl
theorem zcS:∀(ns:List Bool),wN (ns.map D.bl)=some ns
 |[]=>rfl
 |b::l=>by rw[List.map_cons,wN,zcS l];rfl
noncomputable def allD:LO
 |[.lst l]=>(wN l).map λbs=>.bl (bs.all id)
 |_=>none
section
variable{K:Fg}{F H:Hp}{X:Cx}
theorem zC.bls:∀{bs:List Bool}{vs:List V},zC K F (bs.map D.bl) vs->vs=bs.map V.bl
 |[],vs,h=>h.nil_inv
 |b::l,vs,h=>by
  obtain⟨v,r,e,h1,h2⟩:=h.cons_inv
  have:=Dat.bl_inv (K:=K) (F:=F) h1;rw[e,this,zC.bls h2];rfl
theorem zoH(hc:X.calm=true)(hK:X.K=K:=by rfl):wZ K X (.builtin "all") .fz allD:=by
 subst hK;refine⟨_,ziu hc,λds d F H vs Q e s h k=>?_⟩;unfold allD at e;split at e
 ·rename_i l;cases e1:wN l with
  |none=>rw[e1]at e;cases e
  |some bs=>
   rw[e1]at e;cases e
   obtain⟨v,rfl,h1⟩:=h.one;rw[zdz e1]at h1;obtain⟨a,vs,rfl,f,q⟩:=h1.lst_inv;rw[q.bls]at f;exact⟨a,bs,rfl,SqL.of f,k _ F H (zE.refl s) (Res.bl _)⟩
 ·cases e
end
end FL
namespace L2
section
variable{X:Cx}{tg zM tg2 iter2 elt:Expr}{scope:Scope}{pos:Pos}{wi:TI}{g2:TG}{te:TE}
variable{pins:AO}{σ:St}{N:List Str}{cap:ON}{ifs:List Expr}{g:TG}{tt:TT}
end
end L2
namespace FL
open L2
section
variable{K:Fg}{md:Md}{X:Cx}{pos:Pos}{tg zM tg2 iter2 elt:Expr}{scope:Scope}
end
end FL
namespace L2
variable{elts:List Expr}{tpos:Pos}
section
variable{X:Cx}
def ItEl(K:Fg)(a:Addr):It:=
 ⟨λi H=>∃xs x,SqL K H a xs/\xs[i]?=some x,λi H x H'=>∃p v,H p=none/\x=.ref p/\H'=upd H p (.tup [.int i,v])/\∀xs,SqL K H a xs->xs[i]?=some v,λi H=>∃xs,SqL K H a xs/\xs.length=i⟩
theorem zgo{P:Program}{w:World}{K:Fg}{k:Nat}(a e it:Addr)(hei:e≠it):wY P w K (.Tuple elts k tpos) (ItEl K a) [e,it] e (λi h=>(∃old,IsEnum h e it i old)/\h.IsListIter it a i)where
 mem:=by simp
 obj:=λi h st b hb=>by
  obtain⟨⟨old,he⟩,o,e2,c,d⟩:=st;rcases List.mem_cons.mp hb with rfl|hb
  ·exact⟨_,he,λv z=>by cases(show Data.fields _=Data.cell v from z)⟩
  ·rw[List.mem_singleton.mp hb];exact⟨o,e2,λv z=>by rw[d]at z;cases z⟩
 keep:=λi h h' st k=>⟨let⟨old,he⟩:=st.1;⟨old,k e (by simp) _ he⟩,st.2.at λo e=>k it (by simp) o e⟩
 item:=by
  intro X hP hw hK hc i pins s σ H E I hf st hg;subst hP hw hK;obtain⟨xs,x,hq,hx⟩:=hg;obtain⟨its,rv,p,hz⟩:=I.list hq
  replace p:=p.isList
  obtain⟨u,hu,ru⟩:=rv.get hx;obtain⟨⟨old,he⟩,hit⟩:=st;have fe:=hf e (by simp);have fi:=hf it (by simp);have hai:a≠it:=by
   rintro rfl;obtain⟨o,e1,c1,_⟩:=id hit;obtain⟨o',e2,c2,_⟩:=id p;rw[e1]at e2;cases e2;rw[c1]at c2
   exact absurd c2 (by decide)
  have hae:a≠e:=by
   rintro rfl;obtain⟨o',e2,c2,_⟩:=id p;rw[he]at e2;cases e2
   exact absurd (show Value.type "enumerate"=Value.type "list"from c2) (by decide)
  have hilt:i<its.toArray.size:=by have:=(List.getElem?_eq_some_iff.mp hu).1;simpa using this
  refine wpAny_pyNext_enum_itemD (Draws.list (A:=X.A.in1) (I.ok.hd hc) it a hai its.toArray) he ⟨hit,p⟩ hilt hei (by simp[hei,Ne.symm hae]) λx' h' tk hP ho hs' hT hsz hk=>?_
  have ex:x'=u:=by
   have:its[i]?=some x':=by simpa using hP
   rw[hu]at this;exact(Option.some.inj this).symm
  subst ex;refine⟨_,rfl,?_⟩;refine wpAny_letOwnedTupleGo_enum ho λh2 he2 hs2=>?_
  have hTe:s.heap.objs.size≠e:=Nat.ne_of_gt (Heap.lt_size he);have hTn:h2.get? s.heap.objs.size=some {cls:=.type "tuple",data:=.seq #[.int i tk,x']}:=(hs2.2 _ hTe).trans hT;have kk:∀b o,b≠e->b≠it->s.heap.get? b=some o->h2.get? b=some o:=λb o h1 h3 e=>(hs2.2 b h1).trans (hk b o h1 h3 e)
  have hit2:h2.IsListIter it a (i+1):=hs'.1.at λo e=>(hs2.2 it (Ne.symm hei)).trans e
  have fr:H s.heap.objs.size=none:=I.fresh;have I1:=zfX (i:=i) I fe fi ru hTn kk;refine⟨.ref s.heap.objs.size,_,I1,rfl,⟨s.heap.objs.size,x,fr,rfl,rfl,λys hy=>by rw[I.list_inj hy hq];exact hx⟩,⟨⟨x',by simpa using he2⟩,hit2⟩,λb hb=>?_⟩;have hbl:b≠s.heap.objs.size:=by
   rcases List.mem_cons.mp hb with rfl|hb
   ·exact Ne.symm hTe
   ·rw[List.mem_singleton.mp hb];obtain⟨o,e1,_⟩:=hit;exact Nat.ne_of_lt (Heap.lt_size e1)
  rw[zT hbl];exact(hf b hb).1
 done:=by
  intro X hP hw hK hc i pins s σ H E I hf st hg;subst hP hw hK;obtain⟨xs,hq,hx⟩:=hg;obtain⟨its,rv,p,hz⟩:=I.list hq
  replace p:=p.isList
  obtain⟨⟨old,he⟩,hit⟩:=st;have fi:=hf it (by simp);have hai:a≠it:=by
   rintro rfl;obtain⟨o,e1,c1,_⟩:=id hit;obtain⟨o',e2,c2,_⟩:=id p;rw[e1]at e2;cases e2;rw[c1]at c2
   exact absurd c2 (by decide)
  have hn:its.toArray.size=i:=by rw[List.size_toArray,←rv.length];exact hx
  refine wpAny_pyNext_enum_endD (Draws.list (A:=X.A.in1) (I.ok.hd hc) it a hai its.toArray) he (by rw[hn];exact⟨hit,p⟩) λh' hx'=>⟨rfl,?_⟩
  obtain⟨f0,f1,f2,f3,f4,f5⟩:=fi;exact I.turned (t':=s.toks) (λb o hb e=>hx' b o hb e) f0 f1 f3 f4 f5
 self:=λA i s Q E st h=>by obtain⟨⟨old,he⟩,_⟩:=st;exact wpAny_pyIter_enum he h
noncomputable def znr(K:Fg)(ta:TA):TI:=λσ H R=>ta σ H λvs H1=>∃a xs,vs=[.ref a]/\SqL K H1 a xs/\R (ItEl K a) H1
theorem zjf{k:Nat}{p pos:Pos}{a:Expr}{ta:TA}(hg:Gl X "enumerate")(hm:X.mg "enumerate"=none)(ha:PA X [a] ta)(hs:starEach [a] X.env=[(false,eval a X.env)]:=by rfl):PI X (.Tuple elts k tpos) (.Call (.Name "enumerate" p) [a] [] pos) (znr X.K ta):=by
 intro pins s σ H R I h;refine Call_ (nC I hg hm boot_enumerate (PyProof.Rows.callWith_type1 (thn (ha pos pins s σ H _ I h) λus s1 ⟨vs,H1,I1,r1,q1⟩=>?_) hs rfl));obtain⟨a,xs,e,hq,q⟩:=q1;subst e;obtain⟨u,rfl,ru⟩:=wB r1;cases ru
 obtain⟨its,rv,p,hz⟩:=I1.list hq
 replace p:=p.isList
 refine call_enumerate_list p λh' he hit hsz hk=>?_
 have I2:Inv X pins σ H1 {s1 with heap:=h'}:=I1.kept (t':=s1.toks) hk;refine wpAny_pyIter_enum he ?_;refine⟨s1.heap.objs.size+1,[s1.heap.objs.size+1,s1.heap.objs.size],_,_,H1,rfl,I2,zgo a (s1.heap.objs.size+1) s1.heap.objs.size (Nat.succ_ne_self _),⟨⟨_,he⟩,hit⟩,λb hb=>?_,q⟩;rcases List.mem_cons.mp hb with rfl|hb
 ·exact I1.fpOk (Nat.le_succ _) (I1.hok.fresh (Nat.le_succ _))
 ·rw[List.mem_singleton.mp hb];exact I1.fpOk (Nat.le_refl _) (I1.hok.fresh (Nat.le_refl _))
end
end L2
namespace FL
open L2
section
variable{K:Fg}{md:Md}{X:Cx}{f:EO D}{pos:Pos}
noncomputable def cEnL(f:EO D):EO (List D):=λρ=>match f ρ with
 |some (.lst l)=>some (vJ 0 l)
 |_=>none
theorem zno{elts:List Expr}{k:Nat}{tpos p:Pos}{a:Expr}(h:FP K .fz X a f)(hg:Gl X "enumerate")(hm:X.mg "enumerate"=none)(hs:starEach [a] X.env=[(false,eval a X.env)]:=by rfl)(hK:X.K=K:=by rfl):
  FI K X (.Tuple elts k tpos) (.Call (.Name "enumerate" p) [a] [] pos) (cEnL f):=FI.mk λρ ds hf=>by
 subst hK;unfold cEnL at hf;split at hf
 ·rename_i l e1;cases hf
  refine PI.imp (zjf hg hm (yY (h.h ρ _ e1) vN hs) hs) λσ H R ⟨F,r,q⟩=>⟨F,r,λv F1 H1 g1 r1=>?_⟩
  obtain⟨a,vs,rfl,f1,q1⟩:=Dat.lst_inv (K:=X.K) (F:=F1) r1;refine⟨a,vs,rfl,SqL.of (g1.fh _ _ f1),q _ F1 H1 g1 λF2 H2 a2 b2=>?_⟩;have hs:SqL X.K H2 a vs:=SqL.of (b2 _ _ (a2 _ _ f1));have hl:=q1.length;refine⟨λi hi=>?_,λi x H3 d hd y=>?_,?_⟩
  ·rw[gI]at hi;exact⟨vs,vs[i]'(by omega),hs,by simp⟩
  ·obtain⟨x0,hx0,rfl⟩:=zbu 0 l i d hd;obtain⟨pp,vv,hpp,rfl,rfl,hv⟩:=y;obtain⟨w,hw,dw⟩:=q1.get hx0;rw[hv vs hs]at hw;cases hw
   have g:=zE.frozen (o:=.tup [.int (i:Int),vv]) b2 hpp;refine⟨_,g,Dat.tup (K:=X.K) qK ?_⟩;rw[Nat.zero_add];exact zC.cons (Dat.int (K:=X.K) _) (zC.cons ((dw.mono a2).mono g.ff) zC.nil)
  ·rw[gI];exact⟨vs,hs,by omega⟩
 ·cases hf
end
end FL
namespace HD
open PySem PySem.W PySem.Calls PyProof.Rows
noncomputable def bal(S:SharedT->Thread->Option (SharedT×Thread))(ok:Thread->Bool)(d:Nat):SharedT->Thread->Option (SharedT×Thread):=
 @Nat.rec (λ_=>SharedT->Thread->Option (SharedT×Thread)) (λs t=>match through t with
  |true=>some (s,t)
  |false=>match ok t with
   |false=>none
   |true=>S s t)
  (λ_ ih s t=>match ih s t with
   |none=>none
   |some (s',t')=>match through t' with
    |true=>some (s',t')
    |false=>ih s' t') d
section
variable{tb:String->Option Builtin}{p:Program}{w:World}{n₀:Nat}{ann:Option Value}
theorem zec:∀{n m:Nat}{s s' s2:Shared} {t t' t2:Thread},topGo tb p w n₀ ann n s t=some (s',t')->topGo tb p w n₀ ann m s' t'=some (s2,t2)->topGo tb p w n₀ ann (n+m) s t=some (s2,t2)
 |0,m,s,s',s2,t,t',t2,h,k=>by
  obtain⟨rfl,rfl⟩:s=s'/\t=t':=by simpa[topGo]using h
  rw[Nat.zero_add];exact k
 |n+1,m,s,s',s2,t,t',t2,h,k=>by
  rw[show n+1+m=n+m+1 by omega];unfold topGo at h ⊢;cases ht:through t with
  |true=>rw[ht]at h;cases h
  |false=>
   rw[ht]at h;cases hk:stepOk n₀ ann t with
   |false=>rw[hk]at h;cases h
   |true=>
    rw[hk]at h;cases hs:step (denote tb) p w s t with
    |halt o s₂=>rw[hs]at h;cases h
    |go s₂ t₂=>rw[hs]at h;exact zec h k
theorem ziy:∀(d:Nat) {s s':SharedT}{t t':Thread},bal (stepT (denote tb) p w) (stepOk n₀ ann) d s t=some (s',t')->∃n,n<=2^d/\topGo tb p w n₀ ann n s.abs t=some (s'.abs,t')
 |0,s,s',t,t',h=>by
  have h:(match through t with
   |true=>some (s,t)
   |false=>match stepOk n₀ ann t with
    |false=>none
    |true=>stepT (denote tb) p w s t)=some (s',t'):=h
  cases ht:through t with
  |true=>rw[ht]at h;cases h;exact⟨0,Nat.zero_le _,rfl⟩
  |false=>
   rw[ht]at h;cases hk:stepOk n₀ ann t with
   |false=>rw[hk]at h;cases h
   |true=>
    rw[hk]at h;refine⟨1,by simp,?_⟩;unfold topGo;rw[ht,hk,stepT_spec h];rfl
 |d+1,s,s',t,t',h=>by
  have h:(match bal (stepT (denote tb) p w) (stepOk n₀ ann) d s t with
   |none=>none
   |some (s',t')=>match through t' with
    |true=>some (s',t')
    |false=>bal (stepT (denote tb) p w) (stepOk n₀ ann) d s' t')=some (s',t'):=h
  cases e:bal (stepT (denote tb) p w) (stepOk n₀ ann) d s t with
  |none=>rw[e]at h;cases h
  |some r=>
   obtain⟨s1,t1⟩:=r;rw[e]at h;obtain⟨n,hn,g⟩:=ziy d e;cases ht:through t1 with
   |true=>simp only[ht]at h;cases h;exact⟨n,by rw[Nat.pow_succ];omega,g⟩
   |false=>
    simp only[ht]at h;obtain⟨m,hm,g2⟩:=ziy d h;exact⟨n+m,by rw[Nat.pow_succ];omega,zec g g2⟩
theorem zlG{d:Nat}{s s':SharedT}{t t':Thread}(h:bal (stepT (denote tb) p w) (stepOk n₀ ann) d s t=some (s',t'))(ht:through t'=true){N:Nat}(hN:2^d+1<=N):
  topRun tb p w n₀ ann N s.abs t=some s'.abs:=by
 obtain⟨n,hn,g⟩:=ziy d h;have k:topRun tb p w n₀ ann 1 s'.abs t'=some s'.abs:=by unfold topRun;rw[ht]
 have r:=topRun_mono (N - (n+1)) _ _ _ _ (go_top g k);rwa[show n+1+(N - (n+1))=N by omega]at r
end
def znl(l:List Obj):Nat->BT->BT:=@List.rec Obj (λ_=>Nat->BT->BT) (λ_ t=>t) (λo _ ih n t=>ih (n+1) (t.ins n o)) l
def zlF(P:Params):BT:=znl (boot_heap P).objs.toList 0 .nil
theorem zjS(P:Params):absHeap (zlF P) 11 {}=boot_heap P:=by kernel_rfl
theorem zgO(P:Params):((boot_heap P).isNs mainGlobals,(boot_heap P).objs.size,(boot_heap P).nsMap mainGlobals "__annotations__")=(true,11,some (.ref 6)):=by kernel_rfl
section
variable{p q:Program}{loose:List Str}{Xt:Shared->Bool}{α:Type}{Yf:Shared->α}{Ya:World->α}{N d:Nat}
def bootS(w:World)(os:OsState):SharedT:=⟨zlF w.params,11,{},⟨[]⟩,boot_drawn,boot_toks,os⟩
def looks(p q:Program)(loose:List Str)(Xt:Shared->Bool)(Yf:Shared->α)(sn:Program->List Str->List Str->(Shared->Bool)->Bool->Shared->β)(im:List Stmt->List Str)(w:World)(r:SharedT×Thread):Bool×Bool×β×α:=
 (through r.2,staticsOk (im p.main.body) (boot_heap w.params) r.1.abs.heap&&namesBound p r.1.abs.heap&&gensDone r.1.abs&&laidKept (boot_heap w.params) r.1.abs.heap,sn q loose (im p.main.body) Xt true r.1.abs,Yf r.1.abs)
theorem left_of(e:opening p=plainProg p.main.scope.names)(hN:Nat.ble 600 N=true)(hd:Nat.ble (2^d+1) N=true)(f:∀s,fenceModules? p s=some s)(h:∀w:World,(λos:OsState=>(bal (stepT (denote treeTable) p w) (stepOk 11 (some (.ref 6))) d (bootS w os) (topStub p)).map (looks p q loose Xt Yf openSeen importedModules w))=λ_=>some (true,true,openGood q loose,Ya w)):
  LeftO p q loose Xt Yf Ya N:=λw=>by
 obtain⟨⟨hp,gs,dr,k,os⟩,e1,e2⟩:=Option.map_eq_some_iff.mp (boot_open e hN f w);obtain⟨rfl,rfl,rfl,rfl⟩:hp=boot_heap w.params/\gs=⟨[]⟩/\dr=boot_drawn/\k=boot_toks:=by simpa using e2
 obtain⟨⟨s,t⟩,b1,b2⟩:=Option.map_eq_some_iff.mp (congrFun (h w) os);have l1:=congrArg (λx=>x.1) b2;have l2:=congrArg (λx=>x.2.1) b2;have l3:=congrArg (λx=>x.2.2.1) b2;have l4:=congrArg (λx=>x.2.2.2) b2;dsimp only[looks]at l1 l2 l3 l4;have r:=zlG b1 l1 (Nat.le_of_ble_eq_true hd);have ea:(bootS w os).abs=⟨boot_heap w.params,⟨[]⟩,boot_drawn,boot_toks,os⟩:=by show Shared.mk (absHeap (zlF w.params) 11 {}) _ _ _ _=_;rw[zjS];rfl
 rw[ea]at r;have z:=zgO w.params;simp only[Prod.mk.injEq]at z;obtain⟨z1,z2,z3⟩:=z;have t':topFrom treeTable p w N ⟨boot_heap w.params,⟨[]⟩,boot_drawn,boot_toks,os⟩=some s.abs:=by unfold topFrom;dsimp only;rw[z1,z2,z3,r];show(match staticsOk (importedModules p.main.body) (boot_heap w.params) s.abs.heap&&namesBound p s.abs.heap&&gensDone s.abs&&laidKept (boot_heap w.params) s.abs.heap with|true=>_|false=>_)=_;rw[l2]
 unfold openEnds;rw[e1];show(topFrom treeTable p w N _).map _=_;rw[t'];exact congrArg some (Prod.ext l3 l4)
end
end HD
namespace FL
open L2
def zjT(h:Heap):Fg:=(List.range h.objs.size).filterMap λa=>(h.get? a).map λo=>(a,o)
theorem allIn_in(h:Heap):(zjT h).In h:=by
 intro a o;unfold zjT;generalize List.range h.objs.size=l;induction l with
 |nil=>intro e;cases e
 |cons b l ih=>
  rw[List.filterMap_cons];cases e:h.get? b with
  |none=>exact ih
  |some u=>
   intro q;have q:List.lookup a ((b,u)::List.filterMap (λa=>Option.map (λo=>(a,o)) (h.get? a)) l)=some o:=q;rw[List.lookup_cons]at q;cases z:a==b with
   |true=>rw[z]at q;cases q;rw[beq_iff_eq.mp z];exact e
   |false=>rw[z]at q;exact ih q
abbrev FnT:=Str×Str×Arguments×FuncBody×Scope×Addr×List (Str×Addr)×Value×Addr
def fnT(fd:FuncData):FnT:=(fd.name,fd.qualname,fd.params,fd.body,fd.scope,fd.globals,fd.closure,fd.defaults,fd.builtins)
noncomputable def fnv(K:Fg)(n:Str):Option (FnT×Bool):=match PySem.W.nsIn K mainGlobals n with
 |some (some (.ref f))=>(match K.lookup f with
  |some ⟨_,_,.func fd,_⟩=>some (fnT fd,PySem.W.codeIn K fd.code n&&PySem.W.keepIn K (.ref f))
  |_=>none)
 |_=>none
def stN:Stmt->Str
 | .FunctionDef n ..=>n
 | .ClassDef n ..=>n
 |_=>⟨#[]⟩
noncomputable def fnx(p:Program)(i:Nat):Option (FnT×Bool):=
 let st:=p.main.body.getD i (.Pass ⟨0,0,0,0⟩)
 some (fnT (PySem.W.fnOf (stN st) (stN st) (zdQ st) (gJ st) (kT st) .none .none .none .none none .none .none),true)
variable{K:Fg}{p:Program}{n:Str}
theorem zid{i:Nat}(st:Stmt)(hst:p.main.body.getD i (.Pass ⟨0,0,0,0⟩)=st)(hn:stN st=n)(e:fnv K (stN (p.main.body.getD i (.Pass ⟨0,0,0,0⟩)))=fnx p i):
  ∃f fd,PySem.W.nsIn K mainGlobals n=some (some (.ref f))/\Fun K n n st f fd:=by
 subst hst;unfold fnx at e;dsimp only at e;rw[hn]at e;unfold fnv at e;split at e
 ·rename_i f e1;split at e
  ·rename_i oc od fd osl e2;have e3:=Option.some.inj e;have e4:=congrArg Prod.fst e3;have e5:=congrArg Prod.snd e3;dsimp only at e4 e5;obtain⟨c,k⟩:=Bool.and_eq_true_iff.mp e5;refine⟨f,fd,e1,⟨oc,od,fd.kwdefaults,fd.doc,fd.pyModule,fd.annotations,fd.code,fd.closureTuple,osl,?_,e2,c⟩,k⟩;obtain⟨a1,a2,a3,a4,a5,a6,a7,a8,a9,a10,a11,a12,a13,a14,a15⟩:=fd;unfold fnT at e4;simp only[Prod.mk.injEq]at e4;obtain⟨rfl,rfl,rfl,rfl,rfl,rfl,rfl,rfl,rfl⟩:=e4;rfl
  ·cases e
 ·cases e
def jO(p:Program)(i:Nat):Stmt:=p.main.body.getD i (.Pass ⟨0,0,0,0⟩)
def biN:List Str:=["isinstance","str","tuple","list","int","bool","dict","len","range","enumerate","sum","max","min","abs","zip","reversed","sorted","set","any","all"]
abbrev FaT:=List (Option (FnT×Bool))×List (Option (Option Value))
def faV(p:Program)(I:List Nat)(K:Fg):FaT:=(I.map λi=>fnv K (stN (p.main.body.getD i (.Pass ⟨0,0,0,0⟩))),biN.map λn=>PySem.W.nsIn K mainGlobals n)
def faX(p:Program)(I:List Nat):FaT:=(I.map λi=>fnx p i,biN.map λ_=>some none)
theorem zhL{α β:Type}{f g:α->β}:∀{l:List α},l.map f=l.map g->∀i∈l,f i=g i
 |[],_,_,h=>nomatch h
 |a::l,e,i,h=>by
  injection e with e1 e2;cases h with
  |head=>exact e1
  |tail _ h=>exact zhL e2 i h
variable{I:List Nat}
theorem zny(A:faV p I K=faX p I)(i:Nat)(hi:i∈I)(hn:stN (jO p i)=n):
  ∃f fd,PySem.W.nsIn K mainGlobals n=some (some (.ref f))/\Fun K n n (jO p i) f fd:=zid _ rfl hn (zhL (congrArg Prod.fst A) i hi)
theorem znx{h:Heap}{mg:SV}(A:faV p I K=faX p I)(X:K.In h)(G:h.Ns mainGlobals mg):Glb mg:=by
 have z:∀n∈biN,mg n=none:=λn hn=>PySem.W.mg_none_of X G (zhL (f:=λn=>PySem.W.nsIn K mainGlobals n) (g:=λ_=>some none) (congrArg Prod.snd A) n hn)
 simp only[biN,List.forall_mem_cons]at z;obtain⟨z1,z2,z3,z4,z5,z6,z7,z8,z9,z10,z11,z12,z13,z14,z15,z16,z17,z18,z19,z20,_⟩:=z;exact⟨z1,z2,z3,z4,z5,z6,z7,z8,z9,z10,z11,z12,z13,z14,z15,z16,z17,z18,z19,z20⟩
def YP(p:Program)(I:List Nat)(_:World)(h:Heap):Prop:=∃K:Fg,K.In h/\faV p I K=faX p I
theorem YP.keeps(w:World)(h h':Heap)(y:YP p I w h)(k:∀b o,h.get? b=some o->h'.get? b=some o):YP p I w h':=
 let⟨K,X,A⟩:=y;⟨K,λa o e=>k _ _ (X a o e),A⟩
section
variable{K:Fg}{F H:Hp}{P:Program}{w:World}{h:Heap}
end
section
variable{X:Cx}{k:Nat}{F H:Hp}{pins:AO}{σ:St}{s:Shared}
variable{e:Expr}{f:EO D}{ρ:En}{d:D}{x z:Str}{j j':Int}{p1 p2 p3 pos:Pos}
end
end FL
namespace FX
section
variable{prog:Program}{w:World}{A:Around}{E:Vs}{h:Heap}{g:Array GenState}{d:Drawn}{t:Nat}{os:OsState}
variable{nm q:Str}{C N:Addr}{bs bm:List Value}{hdct:Bool}{sn:List Str}{sub:List Value}{ab:Bool}{col:Option Bool}{dd:Option Addr}{k0 k1 k2 k3 k5:Option Value}
end
open PySem Builtin Builtin.ObjectAttr
section
variable{prog:Program}{w:World}{A:Around}{E:Vs}{h:Heap}{g:Array GenState}{d:Drawn}{t:Nat}{os:OsState}
variable{nm q:Str}{C N x:Addr}{bs bm:List Value}{hdct:Bool}{sn:List Str}{sub:List Value}{ab:Bool}{col:Option Bool}{dd:Option Addr}{k0 k1 k2 k3 k5:Option Value}{newId:String}{mN mA:SV}{name:Str}{v:Value}{ns:List Str}
end
end FX
namespace FL
open L2
section
variable{X:Cx}{pins:AO}{σ:St}{H:Hp}{s:Shared}{Q:VK}{C fI:Addr}{k:Nat}{fd:FuncData}{ps:List Str}{fld:Str}
variable{e1 e2:Expr}{t:TA}{p pos apos cpos:Pos}{x:Str}
end
section
variable{X:Cx}{pins:AO}{σ:St}{H:Hp}{s:Shared}{k:Nat}{fld:Str}{o value:Expr}{p pos:Pos}
end
section
variable{P:Program}{w:World}{K:Fg}{mg:SV}{base:Heap}{k:Nat}{C fI:Addr}{fd:FuncData}{qual pn fld:Str}{st:Stmt}
end
end FL
namespace FX
section
variable{M:Model}{A:Around}{E:Vs}{env:Env}
variable{nm q:Str}{C N:Addr}{bs bm:List Value}{hdct:Bool}{sn:List Str}{sub:List Value}{ab:Bool}{col:Option Bool}{dd:Option Addr}{k0 k1 k2 k3 k5:Option Value}{newId:String}
end
end FX
namespace FL
open L2
section
variable{X:Cx}{pins:AO}{σ:St}{F H:Hp}{s:Shared}{k j:Nat}{c:Str}{e:Expr}{f:EO D}{p pos rp:Pos}{K:Fg}{md:Md}
end
section
variable{P:Program}{w:World}{K:Fg}{mg:SV}{base:Heap}{md:Md}{X:Cx}{k j:Nat}{ps:List Str}{m:List D->Option Rs}{x:Str}{e:Expr}{es:List Expr}{fs:EO (List D)}{p pos:Pos}{f:Addr}{fd:FuncData}
end
section
variable{X:Cx}{pins pins':AO}{σ:St}{H:Hp}{s:Shared}{E:Vs}{a C CE fE da:Addr}{K:Fg}{md:Md}
end
end FL
namespace FX
open PySem.W
section
variable{prog:Program}{w:World}{A:Around}{E:Vs}{s:Shared}{K:Frag}{x C:Addr}{ox:Obj}{od:Option Obj}{name:Str}
end
end FX
namespace FL
open L2
section
variable{X:Cx}{pins:AO}{σ:St}{F H:Hp}{s:Shared}{K:Fg}{c:Str}{C a da:Addr}{e:Expr}{f:EO D}{p pos:Pos}
end
section
variable{X:Cx}{pins:AO}{σ:St}{F H:Hp}{s:Shared}{K:Fg}{c:Str}{C CE fE a da:Addr}{e:Expr}{f:EO D}{p pos:Pos}{k:Nat}{fd:FuncData}{pn:Str}
end
section
variable{X:Cx}{K:Fg}{md:Md}{j:Nat}{c:Str}{L:List Str}{e:Expr}{f:EO D}{p pos rp p2:Pos}
end
section
variable{X:Cx}{k j:Nat}{ps:List Str}{md:Md}{m:LO}{K:Fg}{x:Str}{a b:Expr}{f:EO D}{h:EO (Str×D)}{p pos:Pos}
end
end FL
namespace FX
variable{t:Addr}{items:Array Value}
section
variable{prog:Program}{w:World}{A:Around}{E:Vs}{s:Shared}
theorem zey{it:Addr}(hne:t≠it):∀(n i:Nat) (s:Shared) (Q:List Value->Shared->Prop),s.heap.IsListIter it t i->s.heap.IsList t items->i+n<=items.size->
  (∀h':Heap,h'.IsListIter it t (i+n)->Heap.SameBut it s.heap h'->Q ((items.toList.drop i).take n) {s with heap:=h'})->wpAny (model prog w) A (draw (.ref it) n) Q E s
 |0,i,s,Q,hit,_,_,hQ=>by show wpAny _ _ (pure []) Q E s;exact wpAny_pure (by simpa using hQ s.heap hit (Heap.SameBut.refl ..))
 |n+1,i,s,Q,hit,ht,hle,hQ=>by
  have hlt:i<items.size:=by omega
  show wpAny _ _ (pyNext (.ref it)>>=_) Q E s;refine wpAny_bind (wpAny_pyNext_list_item hit ht (x:=items[i]) (by simp[hlt]) λh₁ hit₁ hs₁=>?_);refine wpAny_bind (wpAny_holding (zey hne n (i+1) _ _ hit₁ (ht.extBut hs₁.extBut hne) (by omega) λh₂ hit₂ hs₂=>wpAny_pure ?_));have hd:items.toList.drop i=items[i]::items.toList.drop (i+1):=by simp[List.drop_eq_getElem_cons,hlt]
  have:=hQ h₂ (by rw[show i+(n+1)=i+1+n by omega];exact hit₂) (hs₁.trans hs₂);rw[hd,List.take_succ_cons]at this;exact this
theorem zcb{Q:List Value->Shared->Prop}(hh:A.handled=none)(ht:s.heap.IsList t items)(hQ:∀h',Heap.ExtBut s.heap.objs.size s.heap h'->Q items.toList {s with heap:=h'}):wpAny (model prog w) A (unpackItems (.ref t) items.size none) Q E s:=by
 have hlt:t≠s.heap.objs.size:=by obtain⟨o,ho,_⟩:=ht;exact Nat.ne_of_lt (Heap.lt_size ho)
 unfold unpackItems;refine wpAny_bind ?_;unfold notIterableAtAll;refine wpAny_bind (wpAny_specialOf ht.typeIs PySem.slot_list_iter.lookup ?_);refine wpAny_pure ?_;simp only[Bool.false_eq_true,if_false];refine wpAny_bind (wpAny_holding (wpAny_pyIter_list ht ?_));refine wpAny_bind (wpAny_holding (zey hlt items.size 0 _ _ ⟨_,Heap.get?_push_size _ rfl,rfl,rfl⟩ (ht.push _) (by omega) λh₁ hit₁ hs₁=>?_));have hall:List.take items.size (List.drop 0 items.toList)=items.toList:=by rw[List.drop_zero];exact List.take_of_length_le (by simp)
 rw[hall];rw[if_neg (by simp)];have ht₁:h₁.IsList t items:=(ht.push _).extBut hs₁.extBut hlt;refine wpAny_bind (wpAny_holding (wpAny_pyNext_list_end hh hit₁ ht₁ (by simp) λh₂ he₂=>?_));simp only[Option.isSome_none,Bool.false_eq_true,if_false];refine wpAny_pure (hQ h₂ λb o hb e=>he₂ b o hb (hs₁.extBut b o hb (Heap.get?_push_of_some _ e)))
theorem assign_Tuple_list{env:Env}{elts:List Expr}{x1}{pos:Pos}{Q:Unit->Shared->Prop}(hh:A.handled=none)(ht:s.heap.IsList t items)(hn:(assignEach elts env).length=items.size)(hstar:(assignEach elts env).findIdx? (·.1)=none)(h:∀h',Heap.ExtBut s.heap.objs.size s.heap h'->wpAny (model prog w) A (assignInOrder ((assignEach elts env).map (·.2)) items.toList) Q E {s with heap:=h'}):
  wpAny (model prog w) A (assign (.Tuple elts x1 pos) env (.ref t)) Q E s:=by
 rw[assign_Tuple];refine wpAny_bind (wpAny_standAt ?_);unfold unpack;rw[hn,hstar];exact wpAny_bind (wpAny_holding (zcb hh ht h))
end
end FX
namespace FL
open L2
variable{es:List Expr}{n:Nat}
section
variable{X:Cx}{K:Fg}{pos:Pos}
def zov(K:Fg)(n:Nat)(t:TGs):TG:=λv σ H Q=>∃a xs,v=.ref a/\SqL K H a xs/\xs.length=n/\t xs σ H Q
theorem zmy{k:Nat}{t:TGs}(hc:X.calm=true)(h:PGs X es t)(hn:(assignEach es X.env).length=n:=by rfl)(hst:(assignEach es X.env).findIdx? (·.1)=none:=by rfl):PG X (.Tuple es k pos) (zov X.K n t):=by
 intro pins s σ H v u Q I r hw;obtain⟨a,xs,e1,hq,hl,hw⟩:=hw;subst e1;cases r
 obtain⟨its,rv,ht,hz⟩:=I.list hq;refine FX.assign_Tuple_list (I.ok.hd hc) ht.isList (by simp[hn,←hl,rv.length]) hst λh' hx=>?_
 have I1:Inv X pins σ H {s with heap:=h'}:=I.kept (t':=s.toks) λb o e=>hx b o (Nat.ne_of_lt (Heap.lt_size e)) e
 exact h pins _ σ H xs _ Q I1 (by simpa using rv) hw
noncomputable def nL(gs:List D->EO En):D->EO En:=λd ρ=>match d with
 | .lst l=>gs l ρ
 |_=>none
theorem glst{k:Nat}{gs:List D->EO En}(hc:X.calm=true)(h:FGs K X es gs)(hl:∀ds ρ ρ',gs ds ρ=some ρ'->ds.length=n)(hn:(assignEach es X.env).length=n:=by rfl)(hst:(assignEach es X.env).findIdx? (·.1)=none:=by rfl)(hK:X.K=K:=by rfl):FG K X (.Tuple es k pos) (nL gs):=FG.mk λρ d ρ' hg=>by
 subst hK;unfold nL at hg;split at hg
 ·rename_i l;refine PG.imp (zmy hc (h.h ρ l ρ' hg) hn hst) λv σ H Q h_=>?_
  obtain⟨F,r,hd,q⟩:=h_;obtain⟨a,vs,rfl,f,qq⟩:=hd.lst_inv;exact⟨a,vs,rfl,SqL.of (r.sub _ _ f),by rw[qq.length];exact hl l ρ ρ' hg,F,r,qq,q⟩
 ·cases hg
end
structure ZZ where
 P:Program
 w:World
 K:Fg
 mg:SV
 base:Heap
variable{us:List Value}
theorem us1(h:us.length=1):∃a,us=[a]:=List.length_eq_one_iff.mp h
theorem us2(h:us.length=2):∃a b,us=[a,b]:=by
 cases us with
 |nil=>cases h
 |cons a l=>obtain⟨b,rfl⟩:=us1 (Nat.succ.inj h);exact⟨a,b,rfl⟩
theorem us3(h:us.length=3):∃a b c,us=[a,b,c]:=by
 cases us with
 |nil=>cases h
 |cons a l=>obtain⟨b,c,rfl⟩:=us2 (Nat.succ.inj h);exact⟨a,b,c,rfl⟩
theorem us4(h:us.length=4):∃a b c d,us=[a,b,c,d]:=by
 cases us with
 |nil=>cases h
 |cons a l=>obtain⟨b,c,d,rfl⟩:=us3 (Nat.succ.inj h);exact⟨a,b,c,d,rfl⟩
theorem us5(h:us.length=5):∃a b c d e,us=[a,b,c,d,e]:=by
 cases us with
 |nil=>cases h
 |cons a l=>obtain⟨b,c,d,e,rfl⟩:=us4 (Nat.succ.inj h);exact⟨a,b,c,d,e,rfl⟩
abbrev FNs(p:Program)(I:List Nat)(Z:ZZ):Prop:=∀i∈I,∀n,stN (jO p i)=n->∃f fd,Z.mg n=some (.ref f)/\Fun Z.K n n (jO p i) f fd
abbrev BQ(x:Str)(st:Stmt)(ps:List Str):Prop:=∀(kV doc pm:Value) (an:Option Addr) (cdv ct:Value) (us:List Value),us.length=ps.length->bindArgs (PySem.W.fnOf x x (zdQ st) (gJ st) (kT st) .none kV doc pm an cdv ct) ⟨us,[]⟩=pure (ps.zip us)
structure Df(p:Program)(I:List Nat)(i:Nat)(x:Str)(ps:List Str):Prop where
 hi:i∈I
 hn:stN (jO p i)=x
 hB:BQ x (jO p i) ps
variable{x:Str}
theorem dfo{p:Program}{I:List Nat}{i:Nat}{ps:List Str}(hi:i∈I:=by decide)(hn:stN (jO p i)=x:=by rfl)(hB:BQ x (jO p i) ps:=by
   intro _ _ _ _ _ _ us hl;first
    |(obtain⟨_,rfl⟩:=us1 hl;rfl)
    |(obtain⟨_,_,rfl⟩:=us2 hl;rfl)
    |(obtain⟨_,_,_,rfl⟩:=us3 hl;rfl)
    |(obtain⟨_,_,_,_,rfl⟩:=us4 hl;rfl)
    |(obtain⟨_,_,_,_,_,rfl⟩:=us5 hl;rfl)
    |(obtain⟨_,_,_,_,_,_,rfl⟩:=us6 hl;rfl)):Df p I i x ps:=⟨hi,hn,hB⟩
abbrev Fq(Z:ZZ):=Fk Z.P Z.w Z.K Z.mg Z.base
section
variable{p:Program}{I:List Nat}{Z:ZZ}{x:Str}{ps:List Str}{md:Md}{k np nn j:Nat}{mb:Nat->EO Fl}{m:LO}
theorem znt{h:Heap}(A:faV p I Z.K=faX p I)(X:Z.K.In h)(G:h.Ns mainGlobals Z.mg):FNs p I Z:=λi hi n hn=>by obtain⟨f,fd,a,F⟩:=zny A i hi hn;exact⟨f,fd,PySem.W.mg_of X G a,F⟩
theorem mkM(F:FNs p I Z)(i:Nat)(N:List Str)(hb:N.Nodup->∀(f:Addr) (n:Nat) (cdv:Value) (A:Around) (outer:List Env) (s:Shared) (H:Hp) (E:XK),qR k (A.deeper (envOfC x (kT (jO p i)) s.heap.objs.size f cdv))->FSs Z.K md (wX CX0 Z.P Z.w Z.K Z.mg Z.base N x (kT (jO p i)) f cdv A outer s H E).nox (gJ (jO p i)) (mb n))(S:nQ N ps (kT (jO p i)))(hi:i∈I)(hn:stN (jO p i)=x)(hB:BQ x (jO p i) ps)(hm:∀ds d,m ds=some d->ds.length=ps.length/\∃n,(∃ρ',mb n (jB N.length ds)=some (.rt d ρ'))\/(d=.non/\md=.fz/\∃ρ',mb n (jB N.length ds)=some (.nx ρ'))):
  Fq Z x ps md (k+1) m:=by
 obtain⟨f,fd,a,F⟩:=F i hi x hn;exact⟨_,_,znu F S (hb S.nd f) hm,F.binds hB,F.kp,a⟩
theorem mkF(F:FNs p I Z)(i:Nat)(N:List Str)(hb:N.Nodup->∀(f:Addr) (n:Nat) (cdv:Value) (A:Around) (outer:List Env) (s:Shared) (H:Hp) (E:XK),qR k (A.deeper (envOfC x (kT (jO p i)) s.heap.objs.size f cdv))->FSs Z.K md (wX CX0 Z.P Z.w Z.K Z.mg Z.base N x (kT (jO p i)) f cdv A outer s H E).nox (gJ (jO p i)) (mb n))(hnp:ps.length=np:=by rfl)(hnn:N.length=nn:=by rfl)(S:nQ N ps (kT (jO p i)):=by exact⟨rfl,rfl,rfl,by decide+kernel,rfl,by decide+kernel,by decide+kernel⟩)(T:Df p I i x ps:=by exact dfo):
  Fq Z x ps md (k+1) (qM (mb zP) np nn):=by
 subst hnp hnn;exact mkM F i N hb S T.hi T.hn T.hB zhi
theorem recF{mn:Nat->LO}(F:FNs p I Z)(i:Nat)(kb R:Nat)(hs:∀n,Fq Z x ps md (kb+n) (mn n)->Fq Z x ps md (kb+n+1) (mn (n+1)))(h0:∀ds,mn 0 ds=none:=by intro _;rfl)(T:Df p I i x ps:=by exact dfo):Fq Z x ps md (kb+R) (mn R):=by
 obtain⟨f,fd,a,F⟩:=F i T.hi x T.hn;induction R with
 |zero=>exact(Fk.never ⟨F.binds T.hB,F.kp,a⟩ h0).mono (Nat.zero_le _)
 |succ n ih=>exact hs n ih
end
section
variable{p:Program}{I J:List Nat}{Z:ZZ}{h:Heap}{CE fE:Addr}{fdE:FuncData}{pE c:Str}{L:List Str}
end
variable{op:CmpOp}
section
variable{K:Fg}{X:Cx}{a b:Expr}{fa fb:EO D}{p:D->D->Option D}{pos p2 p3:Pos}{md:Md}{k:Nat}
theorem bi{i j}{pos:Pos}:FP K .br X (.Constant (.int i) j pos) (cst (.int i)):=FP.br kK
theorem bop{op:Operator}(o:Op2 K X (binaryOp op) .fz p)(ha:FP K .br X a fa)(hb:FP K .br X b fb):FP K .br X (.BinOp a op b pos) (c2 p fa fb):=FP.br (fop o ha hb)
theorem fiz(ha:FP K .br X a fa)(hb:FP K .br X b fb)(hK:X.K=K:=by rfl)(hs:zdY b:=by exact λ_ _=>rfl):FP K .fz X (.Subscript a b pos) (c2 zR fa fb):=fix (p_ix hK) ha hb hs
theorem biz(ha:FP K .br X a fa)(hb:FP K .br X b fb)(hK:X.K=K:=by rfl)(hs:zdY b:=by exact λ_ _=>rfl):FP K .br X (.Subscript a b pos) (c2 zR fa fb):=FP.br (fix (p_ix hK) ha hb hs)
theorem fcq(o:Op2 K X (compareOp op) md p)(ha:FP K .br X a fa)(hb:FP K .br X b fb)(h:op≠.In:=by decide)(h2:op≠.NotIn:=by decide):FP K md X (.Compare a [op] [b] pos) (c2 p fa fb):=fcmp o ha hb (zkk _ h h2)
theorem tcq(o:Op2 K X (compareOp op) .fz p)(ha:FP K .br X a fa)(hb:FP K .br X b fb)(h:op≠.In:=by decide)(h2:op≠.NotIn:=by decide):FTp K X (.Compare a [op] [b] pos) (cT (c2 p fa fb)):=tcmp o ha hb (zkk _ h h2)
theorem tcf(o:Op2f K X (compareOp op) p)(ha:FP K .fz X a fa)(hb:FP K .br X b fb)(hm:behindInMarks op b=false:=by with_unfolding_all rfl):FTp K X (.Compare a [op] [b] pos) (cT (c2 p fa fb)):=znJ o ha hb hm
theorem peq(hr:qR k X.A):Op2 K X (compareOp .Eq) .fz eqB:=p_eq (vG hr)
theorem pne(hr:qR k X.A):Op2 K X (compareOp .NotEq) .fz neB:=p_ne (vG hr)
theorem pnin(hr:qR k X.A):Op2f K X (compareOp .NotIn) yB:=zkZ (u101 hr)
theorem fln(B:Glb X.mg)(ha:FP K .br X a fa)(hg:Gl X "len":=by rfl)(hK:X.K=K:=by rfl)(hs:starEach [a] X.env=(false,eval a X.env)::starEach [] X.env:=by rfl):FP K .fz X (.Call (.Name "len" p2) [a] [] pos) (cL jE (zA fa zD)):=zew (zoE hK) hg B.len PySem.boot_len (wW ha zF hs) (by decide) (by decide) hs
theorem bln(B:Glb X.mg)(ha:FP K .br X a fa)(hg:Gl X "len":=by rfl)(hK:X.K=K:=by rfl)(hs:starEach [a] X.env=(false,eval a X.env)::starEach [] X.env:=by rfl):FP K .br X (.Call (.Name "len" p2) [a] [] pos) (cL jE (zA fa zD)):=FP.br (fln B ha hg hK hs)
def ndb(l:List Str):Bool:=decide l.Nodup
theorem gnm(i:Nat)(hN:ndb X.N=true:=by kernel_rfl)(hi:X.N[i]?=some x:=by rfl)(hx:Loc X.env.scope x:=by first|exact Or.inl rfl|exact Or.inr rfl)(hf:X.fn x=true\/X.env.scope.names.lookup x=some .local:=by first|exact .inl rfl|exact .inr rfl|assumption):FG K X (.Name x pos) (gN i):=jI i (of_decide_eq_true hN) hi hx hf
end
end FL
namespace L2
section
variable{X:Cx}
end
end L2
namespace FL
open L2
section
variable{K:Fg}{X:Cx}{a b:Expr}{rest:List Expr}{fa:EO D}{m:EO (D×En)}{pos:Pos}
end
end FL
namespace TS
def fresh(w:World):Obj:={cls:=.type "set",dict:=none,data:=.set #[] 0 (.fresh 0 0 (!w.params.followText "set-order"))}
variable{κ:Type}{w:World}{h:Heap}{a:Addr}
theorem fresh_St[DecidableEq κ]{S:SK κ}(e:h.get? a=some (fresh w)):StG S w h a []:=
 ⟨_,_,_,_,e,⟨rfl,rfl,rfl⟩,rfl,λ_ he=>by simp at he,by simp[txt],List.nodup_nil,by unfold scanBound;simp,by rfl,λ_=>List.Pairwise.nil,λz=>by simp[SetTable.fresh,z]⟩
section
variable{P:Program}{w:World}{A:Around}{E:Vs}{s:Shared}{a:Addr}
end
theorem addT_len[DecidableEq κ](L:List κ)(x:κ):(addT L x).length<=L.length+1:=by unfold addT;split<;>simp
section
variable{P:Program}{w:World}{A:Around}{R:Result->Shared->Prop}{I:Addr}{fp wr:List Addr}{G:Array GenState->Array GenState->Prop}{n:Nat}{PP:Nat->Value->Prop}{Stt:Nat->Shared->Prop}
end
section
variable{P:Program}{w:World}{A:Around}{E:Vs}{s:Shared}{a:Addr}
end
theorem zgI:entryFor table "set.__iter__"=some Builtin.«frozenset.__iter__»:=
 entryFor_alias (id':="frozenset.__iter__") (by kernel_rfl) rfl (by decide+kernel) (by kernel_rfl)
theorem zfK:Manifest.owners.lookup (String.ofList ['r','o','t','a','r','e','t','i','_','t','e','s'].reverse)=some Manifest.sig_set_iterator:=by kernel_rfl
theorem nW:Slot "set_iterator" "__next__" "set_iterator.__next__":=
 .of (owner:="set_iterator") (n:="__next__") (by rw[typeLookup_type,builtinLookup_eq_fast];kernel_rfl) (by decide+kernel) (by decide+kernel) (by decide+kernel)
  (by first|exact .inl (by decide+kernel)|exact .inr (by decide+kernel)) (by rw[isSubtype_type];kernel_rfl)
theorem zds:entryFor table "set_iterator.__next__"=some Builtin.«set_iterator.__next__»:=entryFor_of_tree (by kernel_rfl)
theorem zeH(a:Value):argsOk "set_iterator.__next__" ⟨[a],[]⟩:=by unfold argsOk;rw[signature?_of (id:="set_iterator.__next__") (n:=['_','_','t','x','e','n','_','_']) (o:=['r','o','t','a','r','e','t','i','_','t','e','s']) (by kernel_rfl) zfK];kernel_rfl
theorem zhd:Slot "set_iterator" "__iter__" "set_iterator.__iter__":=
 .of (owner:="set_iterator") (n:="__iter__") (by rw[typeLookup_type,builtinLookup_eq_fast];kernel_rfl) (by decide+kernel) (by decide+kernel) (by decide+kernel)
  (by first|exact .inl (by decide+kernel)|exact .inr (by decide+kernel)) (by rw[isSubtype_type];kernel_rfl)
theorem zjJ:entryFor table "set_iterator.__iter__"=some Builtin.«dict_keyiterator.__iter__»:=
 entryFor_alias (id':="dict_keyiterator.__iter__") (by kernel_rfl) rfl (by decide+kernel) (by kernel_rfl)
theorem zlH(a:Value):argsOk "set_iterator.__iter__" ⟨[a],[]⟩:=by unfold argsOk;rw[signature?_of (id:="set_iterator.__iter__") (n:=['_','_','r','e','t','i','_','_']) (o:=['r','o','t','a','r','e','t','i','_','t','e','s']) (by kernel_rfl) zfK];kernel_rfl
variable{α:Type}
theorem zht(next:Nat->Nat):∀(n k:Nat) (l:List α) (out:Array α),l.length=n->(pickOrder.go next n k l out).toList.Perm (out.toList++l)
 |0,k,l,out,h=>by have:l=[]:=List.eq_nil_of_length_eq_zero h;subst this;unfold pickOrder.go;simp
 |n+1,k,l,out,h=>by
  unfold pickOrder.go;have hlt:next k%l.length<l.length:=Nat.mod_lt _ (by omega)
  rw[List.getElem?_eq_getElem hlt];dsimp only;refine(zht next n (k+1) _ _ (by rw[List.length_eraseIdx_of_lt hlt];omega)).trans ?_;rw[Array.toList_push,List.append_assoc];refine List.Perm.append_left _ ?_;have e:l.Perm (l[next k%l.length]::l.eraseIdx (next k%l.length)):=by
   have h2:l.eraseIdx (next k%l.length)=l.take (next k%l.length)++l.drop (next k%l.length+1):=List.eraseIdx_eq_take_drop_succ l _;have h1:l=l.take (next k%l.length)++l[next k%l.length]::l.drop (next k%l.length+1):=by rw[List.getElem_cons_drop,List.take_append_drop]
   rw[h2]
   conv=>lhs;rw[h1]
   exact List.perm_middle
  exact e.symm
theorem zel(next:Nat->Nat)(xs:Array α):(pickOrder next xs).toList.Perm xs.toList:=by
 unfold pickOrder
 have:=zht next xs.size 0 xs.toList #[] (by simp)
 simpa using this
variable{n:Nat}
section
variable{M:Model}{P:Program}{w:World}{A:Around}{E:Vs}{s:Shared}{a:Addr}
theorem zdZ{src:Source}{Q:Nat->Shared->Prop}(hn:n≠0)(h:∀i d,i<n->Q i {s with drawn:=d}):wpAny M A (choose src n) Q E s:=by intro _ _ _;exact⟨hn,h _ _ (Nat.mod_lt _ (Nat.pos_of_ne_zero hn))⟩
theorem draw:∀(n:Nat) (l:List α) {Q:List α->Shared->Prop}(s:Shared),l.length<=n->(∀ys d,ys.Perm l->Q ys {s with drawn:=d})->wpAny M A (drawOrder n l) Q E s
 |0,l,Q,s,hl,h=>by have:l=[]:=List.eq_nil_of_length_eq_zero (by omega);subst this;exact wpAny_pure (h [] s.drawn (List.Perm.refl _))
 |n+1,[],Q,s,hl,h=>wpAny_pure (h [] s.drawn (List.Perm.refl _))
 |n+1,x::l,Q,s,hl,h=>by
  show wpAny M A (choose .order (x::l).length>>=λi=>_) Q E s;refine wpAny_bind (zdZ (by simp) λi d hi=>?_);rw[List.getElem?_eq_getElem hi];dsimp only;refine wpAny_bind (draw n _ _ (by rw[List.length_eraseIdx_of_lt hi];simp at hl ⊢;omega) λys d' hp=>?_);refine wpAny_pure (h _ d' ?_);have h2:(x::l).eraseIdx i=(x::l).take i++(x::l).drop (i+1):=List.eraseIdx_eq_take_drop_succ _ _;have h1:x::l=(x::l).take i++(x::l)[i]::(x::l).drop (i+1):=by rw[List.getElem_cons_drop,List.take_append_drop]
  rw[h2]at hp
  conv=>rhs;rw[h1]
  exact(hp.cons _).trans List.perm_middle.symm
theorem zaL(a:Addr)(slot given epochThen:Nat):setNext a slot given epochThen=(do
 let(es,epoch,t) ←setState a
 if←setsByText then
  if epoch !=epochThen then unsupported "set_iterator.__next__:elements-changed"
  return((←setWalk a)[given]?).map λe=>(e.2,slot)
 if(!t.plain&&es.size>1)then unsupported "set_iterator.__next__:the-table-is-plain-no-more"
 (if(!t.led&& !es.isEmpty)=true then(unsupported "set:maker-not-led":Sem Unit)else pure ())
 let i:=SetTable.below t.place slot
 return match es[i]?,t.place[i]? with
  |some (_,x),some j=>some (x,j+1)
  |_,_=>none):=rfl
theorem zeL(a:Addr):setDrawn a=(do
 let(es,_,t) ←setState a;let byText ←setsByText
 return !byText&&(!t.plain&&es.size>1)):=rfl
theorem byText{Q:Bool->Shared->Prop}(h:Q (w.params.followText "set-order") s):wpAny (model P w) A setsByText Q E s:=
 wpAny_bind (wpAny_askSetting (wpAny_pure h))
end
def itO(first:Value)(i:Nat)(a:Addr)(n ep:Nat):Obj:={cls:=.type "set_iterator",data:=.fields #[first,.int i 0,.ref a,.int n 0,.int ep 0]}
def Go(w:World)(es:Array (Int×Value))(ep:Nat)(t:SetTable)(a:Addr)(ex:List Addr)(vs:List Value)(first:Value)(i:Nat)(h:Heap):Prop:=
 (w.params.followText "set-order"=true/\first=.int 0 0/\vs=(pickOrder (w.params.setOrder a ep) es).toList.map (·.2))\/
 (w.params.followText "set-order"=false/\((t.plain=true\/es.size<=1)/\Ri t)/\vs=es.toList.map (·.2)/\first=.int (if i=0 then 0 else((t.place.getD (i - 1) 0+1:Nat):Int)) 0)\/
 (∃(tp:Addr) (ps:List Nat),ex=[tp]/\first=.ref tp/\(∃o,h.get? tp=some o/\o.data=.seq (ps.map λ(j:Nat)=>rawInt j).toArray 0)/\ps.Perm (List.range es.size)/\vs=ps.map λj=>(es.getD j (0,.none)).2)
structure It(w:World)(o:Obj)(es:Array (Int×Value))(ep:Nat)(t:SetTable)(a it:Addr)(ex:List Addr)(vs:List Value)(i:Nat)(h:Heap):Prop where
 set:h.get? a=some o
 cur:∃first,h.get? it=some (itO first i a es.size ep)/\Go w es ep t a ex vs first i h
theorem It.len{o:Obj}{es:Array (Int×Value)}{ep:Nat}{t:SetTable}{it:Addr}{ex:List Addr}{vs:List Value}{i:Nat}(x:It w o es ep t a it ex vs i h):vs.length=es.size:=by
 obtain⟨first,_,⟨_,_,e⟩|⟨_,_,e,_⟩|⟨tp,ps,_,_,_,p,e⟩⟩:=x.cur
 ·rw[e,List.length_map,(zel _ es).length_eq,Array.length_toList]
 ·rw[e];simp
 ·rw[e,List.length_map,p.length_eq,List.length_range]
variable{Q:Option Value->Shared->Prop}{f v:Value}{h':Heap}
section
variable{P:Program}{w:World}{A:Around}{E:Vs}{s:Shared}{a it:Addr}{o:Obj}{es:Array (Int×Value)}{ep:Nat}{t:SetTable}{ex:List Addr}{vs:List Value}{i:Nat}
theorem zgf{xs:Array Nat}{i:Nat}(hs:xs.toList.Pairwise (·<·))(hi:i<=xs.size):SetTable.below xs (if i=0 then(0:Int)else((xs.getD (i - 1) 0+1:Nat):Int)).toNat=i:=by
 rcases Nat.eq_zero_or_pos i with rfl|hp
 ·obtain⟨b1,b2,b3⟩:=zbQ (j:=0) hs;rw[if_pos rfl,Int.toNat_zero];rcases Nat.eq_zero_or_pos (SetTable.below xs 0)with z|z
  ·exact z
  ·exact absurd (b1 0 (by omega) z) (Nat.not_lt_zero _)
 ·rw[if_neg (by omega),Int.toNat_natCast];have e:xs.getD (i - 1) 0=xs[i - 1]:=by simp[Array.getD,show i - 1<xs.size by omega]
  rw[e];obtain⟨b1,b2,b3⟩:=zbQ (j:=xs[i - 1]+1) hs;have h1:i<=SetTable.below xs (xs[i - 1]+1):=by
   rcases Nat.lt_or_ge (SetTable.below xs (xs[i - 1]+1)) i with z|z
   ·have:=b2 (i - 1) (by omega) (by omega);omega
   ·exact z
  rcases Nat.lt_or_ge i (SetTable.below xs (xs[i - 1]+1))with z|z
  ·have h2:=b1 i (by omega) z;have h3:=List.pairwise_iff_getElem.mp hs (i - 1) i (by simpa using(by omega:i - 1<xs.size)) (by simpa using(by omega:i<xs.size)) (by omega);simp only[Array.getElem_toList]at h3;omega
  ·omega
theorem zkb{nx:Int}{Q:Fin->Shared->Prop}(hi:s.heap.get? it=some (itO f i a n ep))(h:∀h',Heap.SameBut it s.heap h'->h'.get? it=some (itO (.int nx 0) (i+1) a n ep)->Q (.done (.ret v)) {s with heap:=h'}):
  wpAny (model P w) A (do setField (.ref it) 0 (rawInt nx);setField (.ref it) 1 (rawInt ((i:Int)+1));ret v) Q E s:=by
 refine wpAny_bind (wpAny_setField_rec (cls:=.type "set_iterator") hi (by simp) λh1 g1 k1=>?_);refine wpAny_bind (wpAny_setField_rec (cls:=.type "set_iterator") g1 (by simp) λh2 g2 k2=>?_);exact wpAny_pure (h h2 (k1.trans k2) (by rw[g2];simp[itO,rawInt]))
theorem zme{Q:Fin->Shared->Prop}(hi:s.heap.get? it=some (itO f i a n ep))(h:∀h',Heap.SameBut it s.heap h'->h'.get? it=some (itO f (i+1) a n ep)->Q (.done (.ret v)) {s with heap:=h'}):
  wpAny (model P w) A (do setField (.ref it) 1 (rawInt ((i:Int)+1));ret v) Q E s:=by
 refine wpAny_bind (wpAny_setField_rec (cls:=.type "set_iterator") hi (by simp) λh2 g2 k2=>?_);exact wpAny_pure (h h2 k2 (by rw[g2];simp[itO,rawInt]))
theorem zfd(k:Heap.SameBut it h h'){b:Addr}{u:Obj}(ne:b≠it)(e:h.get? b=some u):h'.get? b=some u:=by rw[k.2 b ne];exact e
theorem zlg(x:It w o es ep t a it ex vs i s.heap)(hex:o.ExactSet)(hd:o.data=.set es ep t)(hf:t.fits es.size=true)(hld:w.params.followText "set-order"=false->t.led=true)(ne:a≠it)(nx:it∉ex)(hv:vs[i]?=some v)(h:∀h',Heap.SameBut it s.heap h'->It w o es ep t a it ex vs (i+1) h'->Q (some v) {s with heap:=h'}):
  wpAny (model P w) A (pyNext (.ref it)) Q E s:=by
 obtain⟨first,hi,hg⟩:=x.cur;have hT:s.TypeIs (.ref it) "set_iterator":=⟨_,hi,rfl⟩;unfold pyNext;refine wpAny_bind (wpAny_attempt (wpAny_callSpecial?_slot (name:=Str.ofString "__next__") hT nW
  (wpAny_call_entry nW hT zds ?_ (zeH _))))
 unfold Builtin.«set_iterator.__next__»;refine wpAny_bind (wpAny_pure ?_);refine wpAny_bind (wpAny_fieldsOf hi rfl ?_);dsimp only;refine wpAny_bind (wpAny_setEntries_of x.set hd hf ?_);rw[if_neg (by simp)];rcases hg with⟨b1,rfl,ev⟩|⟨b1,b2,ev,rfl⟩|⟨tp,ps,rfl,rfl,⟨ot,hot,hdt⟩,pp,ev⟩
 ·dsimp only;rw[zaL];refine wpAny_bind (wpAny_bind (wpAny_setState_of x.set hd hf ?_));dsimp only;refine wpAny_bind (byText ?_);rw[b1];simp only[if_true,Int.toNat_natCast,bne_self_eq_false,Bool.false_eq_true,if_false];unfold setWalk;refine wpAny_bind (wpAny_bind (wpAny_setState_of x.set hd hf ?_));dsimp only;refine wpAny_bind (byText ?_);rw[b1];simp only[if_true];refine wpAny_bind (wpAny_askSetting (wpAny_pure (wpAny_pure ?_)));have hv0:=hv;rw[ev,List.getElem?_map,Array.getElem?_toList]at hv;cases hq:(pickOrder (w.params.setOrder a ep) es)[i]? with
  |none=>rw[hq]at hv;cases hv
  |some e=>
   rw[hq]at hv;cases hv
   have hm:(pickOrder ((Setting.mk (model P w).prog (model P w).w.params).params.setOrder a ep) es)[i]?=some e:=hq;rw[hm];simp only[Option.map_some];exact zkb hi λh' k g=>⟨_,rfl,wpAny_pure (h h' k ⟨zfd k ne x.set,_,g,.inl ⟨b1,rfl,ev⟩⟩)⟩
 ·have hv':=hv;rw[ev,List.getElem?_map,Array.getElem?_toList]at hv';cases hq:es[i]? with
  |none=>rw[hq]at hv';cases hv'
  |some e=>
   rw[hq]at hv';cases hv'
   have hlt:i<es.size:=(Array.getElem?_eq_some_iff.mp hq).1;have hps:t.place.size=es.size:=by simp only[SetTable.fits,Bool.and_eq_true,beq_iff_eq]at hf;exact hf.1
   dsimp only;rw[zaL];refine wpAny_bind (wpAny_bind (wpAny_setState_of x.set hd hf ?_));dsimp only;refine wpAny_bind (byText ?_);rw[b1];have hb:=zgf b2.2 (show i<=t.place.size by omega);have hpl:(!t.plain&&decide (es.size>1))=false:=by
    rcases b2.1 with z|z
    ·simp[z]
    ·simp;omega
   simp only[Bool.false_eq_true,if_false,hb,hq,hld b1,hpl,Bool.not_true,Bool.false_and,Array.getElem?_eq_getElem (show i<t.place.size by omega)];refine wpAny_bind (wpAny_pure (wpAny_pure ?_));dsimp only;refine zkb hi λh' k g=>⟨_,rfl,wpAny_pure (h h' k ⟨zfd k ne x.set,_,g,.inr (.inl ⟨b1,b2,ev,?_⟩)⟩)⟩
   simp[show i<t.place.size by omega]
 ·have hv':=hv;rw[ev,List.getElem?_map]at hv';cases hq:ps[i]? with
  |none=>rw[hq]at hv';cases hv'
  |some j=>
   rw[hq]at hv';cases hv'
   dsimp only;refine wpAny_bind (wpAny_seqItems hot hdt ?_);have e1:(ps.map λ(j:Nat)=>rawInt j).toArray[(i:Int).toNat]?=some (.int j 0):=by simp[hq,rawInt]
   dsimp only;rw[e1];dsimp only;unfold setNextDrawn;refine wpAny_bind (wpAny_bind (wpAny_setState_of x.set hd hf ?_));simp only[Int.toNat_natCast,bne_self_eq_false,Bool.false_eq_true,if_false];have hj:j<es.size:=by have:=pp.mem_iff.mp (List.mem_of_getElem? hq);simpa using this
   rw[Array.getElem?_eq_getElem hj];refine wpAny_pure ?_;have hv2:(es.getD j (0,Value.none)).2=es[j].2:=by simp[Array.getD,hj]
   show wpAny _ _ (do setField (.ref it) 1 (rawInt ((i:Int)+1));ret es[j].2) _ _ _;refine zme hi λh' k g=>⟨_,rfl,wpAny_pure ?_⟩
   dsimp only at h;rw[hv2]at h;exact h h' k ⟨zfd k ne x.set,_,g,.inr (.inr ⟨tp,ps,rfl,rfl,⟨ot,zfd k (λz=>nx (by simp[z])) hot,hdt⟩,pp,ev⟩)⟩
end
section
variable{P:Program}{w:World}{A:Around}{E:Vs}{s:Shared}{a it:Addr}{o:Obj}{es:Array (Int×Value)}{ep:Nat}{t:SetTable}{ex:List Addr}{vs:List Value}{i:Nat}
theorem stop{Qf:Fin->Shared->Prop}(hh:A.handled=none)(h:∀h',(∀b u,s.heap.get? b=some u->h'.get? b=some u)->Q none {s with heap:=h'}):
  wpAny (model P w) A.in1 (do raiseNew (←newExc (.type "StopIteration") [])) Qf
   (λe s'=>wpAny (model P w) A (do if←isInstance e (.type "StopIteration")then pure none else throw e) Q E s') s:=by
 refine wpAny_bind ?_;simp only[newExc,newTuple];refine wpAny_bind (wpAny_newObj_type ?_ (by size_fits));refine wpAny_bind (m:=firstArgMember _ _) (wpAny_of_eq (a:=Value.none) (by first|rfl|(simp only[firstArgMember];rfl)) ?_);refine wpAny_newObj_type ?_ (by size_fits);simp only[raiseNew];refine wpAny_bind (wpAny_handled ?_);rw[show A.in1.handled=none from hh];refine wpAny_bind (wpAny_pure (wpAny_throw ?_));refine wpAny_bind (wpAny_isInstance (T:="StopIteration") (b:=true) ⟨_,Heap.get?_push_size _ rfl,rfl⟩ isSubtype_stop ?_);exact wpAny_pure (h _ λb u e=>Heap.get?_push_of_some _ (Heap.get?_push_of_some _ e))
theorem zjt(hh:A.handled=none)(x:It w o es ep t a it ex vs i s.heap)(hd:o.data=.set es ep t)(hf:t.fits es.size=true)(hld:w.params.followText "set-order"=false->t.led=true)(hv0:i=es.size)(h:∀h',(∀b u,b≠it->s.heap.get? b=some u->h'.get? b=some u)->Q none {s with heap:=h'}):
  wpAny (model P w) A (pyNext (.ref it)) Q E s:=by
 have hv:vs[i]?=none:=by rw[List.getElem?_eq_none];rw[x.len,hv0];exact Nat.le_refl _
 obtain⟨first,hi,hg⟩:=x.cur;have hT:s.TypeIs (.ref it) "set_iterator":=⟨_,hi,rfl⟩;unfold pyNext;refine wpAny_bind (wpAny_attempt (wpAny_callSpecial?_slot (name:=Str.ofString "__next__") hT nW
  (wpAny_call_entry nW hT zds ?_ (zeH _))))
 unfold Builtin.«set_iterator.__next__»;refine wpAny_bind (wpAny_pure ?_);refine wpAny_bind (wpAny_fieldsOf hi rfl ?_);dsimp only;refine wpAny_bind (wpAny_setEntries_of x.set hd hf ?_);rw[if_neg (by simp)];have fin:∀{Qf:Fin->Shared->Prop}(h1:Heap) (f:Value),Heap.SameBut it s.heap h1->h1.get? it=some (itO f i a es.size ep)->
   wpAny (model P w) A.in1 (do setField (.ref it) 2 .none;raiseNew (←newExc (.type "StopIteration") [])) Qf
   (λe s'=>wpAny (model P w) A (do if←isInstance e (.type "StopIteration")then pure none else throw e) Q E s') {s with heap:=h1}:=λh1 f k1 g1=>by
  refine wpAny_bind (wpAny_setField_rec (cls:=.type "set_iterator") g1 (by simp) λh2 g2 k2=>?_);exact stop hh λh' kk=>h h' λb u ne e=>kk b u (zfd k2 ne (zfd k1 ne e))
 have hs0:s={s with heap:=s.heap}:=by cases s;rfl
 rcases hg with⟨b1,rfl,ev⟩|⟨b1,b2,ev,rfl⟩|⟨tp,ps,rfl,rfl,⟨ot,hot,hdt⟩,pp,ev⟩
 ·dsimp only;rw[zaL];refine wpAny_bind (wpAny_bind (wpAny_setState_of x.set hd hf ?_));dsimp only;refine wpAny_bind (byText ?_);rw[b1];simp only[if_true,Int.toNat_natCast,bne_self_eq_false,Bool.false_eq_true,if_false];unfold setWalk;refine wpAny_bind (wpAny_bind (wpAny_setState_of x.set hd hf ?_));dsimp only;refine wpAny_bind (byText ?_);rw[b1];simp only[if_true];refine wpAny_bind (wpAny_askSetting (wpAny_pure (wpAny_pure ?_)));rw[ev,List.getElem?_map,Array.getElem?_toList]at hv;have hm:(pickOrder ((Setting.mk (model P w).prog (model P w).w.params).params.setOrder a ep) es)[i]?=none:=by
   cases hq:(pickOrder (w.params.setOrder a ep) es)[i]? with
   |none=>exact hq
   |some e=>rw[hq]at hv;cases hv
  rw[hm];simp only[Option.map_none];exact fin s.heap _ (Heap.SameBut.refl _ _) hi
 ·have hge:es.size<=i:=by rw[ev]at hv;simpa using hv
  have hps:t.place.size=es.size:=by simp only[SetTable.fits,Bool.and_eq_true,beq_iff_eq]at hf;exact hf.1
  dsimp only;rw[zaL];refine wpAny_bind (wpAny_bind (wpAny_setState_of x.set hd hf ?_));dsimp only;refine wpAny_bind (byText ?_);rw[b1];have hb:=zgf b2.2 (show i<=t.place.size by omega);have hn:es[i]?=none:=Array.getElem?_eq_none hge;have hpl:(!t.plain&&decide (es.size>1))=false:=by
   rcases b2.1 with z|z
   ·simp[z]
   ·simp;omega
  simp only[Bool.false_eq_true,if_false,hb,hn,hld b1,hpl,Bool.not_true,Bool.false_and];refine wpAny_bind (wpAny_pure (wpAny_pure ?_));exact fin s.heap _ (Heap.SameBut.refl _ _) hi
 ·dsimp only;refine wpAny_bind (wpAny_seqItems hot hdt ?_);have hge:ps.length<=i:=by rw[ev]at hv;simpa using hv
  have e1:(ps.map λ(j:Nat)=>rawInt j).toArray[(i:Int).toNat]?=none:=by simp[hge]
  dsimp only;rw[e1];dsimp only;refine wpAny_bind (wpAny_setField_rec (cls:=.type "set_iterator") hi (by simp) λh1 g1 k1=>?_);exact fin h1 (.int 0 0) k1 (by rw[g1];simp[itO,rawInt])
theorem zM(ho:s.heap.get? a=some o)(hex:o.ExactSet)(hd:o.data=.set es ep t)(hf:t.fits es.size=true)(hsz:es.size<scanBound)(hri:t.plain=true->Ri t){Q:Vs}(h:∀h' d it ex vs,(∀b u,s.heap.get? b=some u->h'.get? b=some u)->it∉ex->s.heap.objs.size<=it->(∀b∈ex,s.heap.objs.size<=b)->(∀b∈ex,b<h'.objs.size)->it<h'.objs.size->It w o es ep t a it ex vs 0 h'->
   vs.Perm (es.toList.map (·.2))->Q (.ref it) {s with heap:=h',drawn:=d}):
  wpAny (model P w) A (pyIter (.ref a)) Q E s:=by
 have hT:s.TypeIs (.ref a) "set":=⟨o,ho,hex.1⟩;refine wpAny_pyIter_slot hT F.slot_set_iter (wpAny_call_entry F.slot_set_iter hT zgI ?_ (F.args_set_iter_1 _));unfold Builtin.«frozenset.__iter__»;refine wpAny_bind ?_;unfold Builtin.Frozenset.slot0;refine wpAny_bind (wpAny_pure ?_);show wpAny _ _ (pure a) _ _ _;refine wpAny_pure ?_;refine wpAny_bind ?_;unfold Builtin.Frozenset.sizeOf;refine wpAny_bind (wpAny_setEntries_of ho hd hf (wpAny_pure ?_));rw[zeL];refine wpAny_bind (wpAny_bind (wpAny_setState_of ho hd hf ?_));dsimp only;refine wpAny_bind (byText (wpAny_pure ?_));cases hb:(!w.params.followText "set-order"&&(!t.plain&&decide (es.size>1)))with
 |false=>
  simp only[Bool.false_eq_true,if_false];refine wpAny_bind (wpAny_pure ?_);refine wpAny_bind (wpAny_setEpoch_of ho hd hf ?_);refine wpAny_bind (wpAny_newObj_type ?_);refine wpAny_pure ⟨_,rfl,"set_iterator",_,⟨_,Heap.get?_push_size _ rfl,rfl⟩,nW.lookup,?_⟩;have hg:=Heap.get?_push_size s.heap (o:=itO (.int 0 0) 0 a es.size ep) rfl;have ha:(s.heap.push (itO (.int 0 0) 0 a es.size ep)).get? a=some o:=Heap.get?_push_of_some _ ho;cases hbt:w.params.followText "set-order"with
  |true=>
   exact h _ s.drawn _ [] ((pickOrder (w.params.setOrder a ep) es).toList.map (·.2)) (λb u e=>Heap.get?_push_of_some _ e) (by simp) (Nat.le_refl _) (λ_ z=>by simp at z) (λ_ z=>by simp at z) (Heap.lt_size hg) ⟨ha,_,hg,.inl ⟨hbt,rfl,rfl⟩⟩ ((zel _ _).map _)
  |false=>
   have hs1:t.plain=true\/es.size<=1:=by
    rw[hbt]at hb;cases hp:t.plain with
    |true=>exact .inl rfl
    |false=>rw[hp]at hb;simp at hb;exact .inr (by omega)
   have hps:t.place.size=es.size:=by simp only[SetTable.fits,Bool.and_eq_true,beq_iff_eq]at hf;exact hf.1
   have hr:Ri t:=by
    rcases hs1 with z|z
    ·exact hri z
    ·unfold Ri;have hl:t.place.toList.length<=1:=by rw[Array.length_toList];omega
     generalize t.place.toList=l at hl;rcases l with _|⟨a,_|⟨b,l⟩⟩
     ·exact List.Pairwise.nil
     ·exact List.pairwise_singleton _ _
     ·simp at hl
   exact h _ s.drawn _ [] (es.toList.map (·.2)) (λb u e=>Heap.get?_push_of_some _ e) (by simp) (Nat.le_refl _) (λ_ z=>by simp at z) (λ_ z=>by simp at z) (Heap.lt_size hg) ⟨ha,_,hg,.inr (.inl ⟨hbt,⟨hs1,hr⟩,rfl,by simp⟩)⟩ (List.Perm.refl _)
 |true=>
  simp only[if_true];refine wpAny_bind (draw es.size (List.range es.size) _ (by rw[List.length_range];exact Nat.le_refl _) λps d hp=>?_);refine wpAny_bind (wpAny_newTuple (items:=ps.map λ(j:Nat)=>rawInt j) ?_ (by rw[List.length_map,hp.length_eq,List.length_range];exact fits_of_scanBound hsz));have ho2:=Heap.get?_push_of_some ({cls:=.type "tuple",data:=.seq (ps.map λ(j:Nat)=>rawInt j).toArray}:Obj) ho;refine wpAny_bind (wpAny_setEpoch_of ho2 hd hf ?_);refine wpAny_bind (wpAny_newObj_type ?_);refine wpAny_pure ⟨_,rfl,"set_iterator",_,⟨_,Heap.get?_push_size _ rfl,rfl⟩,nW.lookup,?_⟩;have hgt:=Heap.get?_push_size s.heap (o:=({cls:=.type "tuple",data:=.seq (ps.map λ(j:Nat)=>rawInt j).toArray}:Obj)) rfl;have hg:=Heap.get?_push_size (s.heap.push ({cls:=.type "tuple",data:=.seq (ps.map λ(j:Nat)=>rawInt j).toArray}:Obj)) (o:=itO (.ref s.heap.objs.size) 0 a es.size ep) rfl;have hgt2:=Heap.get?_push_of_some (itO (.ref s.heap.objs.size) 0 a es.size ep) hgt;refine h _ d _ [s.heap.objs.size] (ps.map λj=>(es.getD j (0,.none)).2) (λb u e=>Heap.get?_push_of_some _ (Heap.get?_push_of_some _ e)) ?_ ?_ ?_ ?_ (Heap.lt_size hg) ⟨Heap.get?_push_of_some _ ho2,_,hg,.inr (.inr ⟨_,ps,rfl,rfl,⟨_,hgt2,rfl⟩,hp,rfl⟩)⟩ ?_
  ·simp only[List.mem_singleton];rw[Heap.size_push];exact Nat.succ_ne_self _
  ·rw[Heap.size_push];exact Nat.le_succ _
  ·intro b hb;rw[List.mem_singleton.mp hb];exact Nat.le_refl _
  ·intro b hb;rw[List.mem_singleton.mp hb];exact Heap.lt_size hgt2
  ·refine(hp.map _).trans (List.Perm.of_eq ?_);refine List.ext_getElem (by simp) λk h1 h2=>?_
   have hk:k<es.size:=by simpa using h1
   simp[Array.getD,hk]
end
section
variable{P:Program}{w:World}{A:Around}{E:Vs}{s:Shared}{a it:Addr}{o:Obj}{es:Array (Int×Value)}{ep:Nat}{t:SetTable}{ex:List Addr}{vs:List Value}{i:Nat}
theorem It.at(x:It w o es ep t a it ex vs i h)(k:∀b∈it::a::ex,∀u,h.get? b=some u->h'.get? b=some u):It w o es ep t a it ex vs i h':=by
 obtain⟨x1,first,x2,x3⟩:=x;refine⟨k a (by simp) _ x1,first,k it (by simp) _ x2,?_⟩;rcases x3 with x3|x3|⟨tp,ps,rfl,e2,⟨ot,e3,e4⟩,e5⟩
 ·exact .inl x3
 ·exact .inr (.inl x3)
 ·exact .inr (.inr ⟨tp,ps,rfl,e2,⟨ot,k tp (by simp) _ e3,e4⟩,e5⟩)
theorem znG(hh:A.handled=none)(hex:o.ExactSet)(hd:o.data=.set es ep t)(hf:t.fits es.size=true)(hld:w.params.followText "set-order"=false->t.led=true)(ne:a≠it)(nx:it∉ex):
  Walks P w A it (it::a::ex) [it] es.size (λi v=>vs[i]?=some v) (λi h=>It w o es ep t a it ex vs i h)where
 sub:=λb hb=>by simp at hb;simp[hb]
 frame:=λ_ _ _ st hk=>st.at hk
 item:=λi s Q E hi st hQ=>by have hl:=st.len;obtain⟨v,hv⟩:∃v,vs[i]?=some v:=⟨vs[i],by simp[hl,hi]⟩;exact zlg st hex hd hf hld ne nx hv λh' k st'=>hQ v h' s.toks hv st' λb u hb e=>zfd k (λz=>hb (by simp[z])) e
 done:=λs Q E st hQ=>zjt hh st hd hf hld rfl λh' k=>hQ h' s.toks λb u hb e=>k b u (λz=>hb (by simp[z])) e
 self:=λi s Q E st hQ=>by obtain⟨first,hi,_⟩:=st.cur;have hT:s.TypeIs (.ref it) "set_iterator":=⟨_,hi,rfl⟩;refine wpAny_pyIter_slot hT zhd (wpAny_call_entry zhd hT zjJ ?_ (zlH _));show wpAny _ _ (ret (.ref it)) _ _ s;exact wpAny_pure ⟨_,rfl,"set_iterator",_,hT,nW.lookup,hQ⟩
theorem zjD{Q:Bool->Shared->Prop}(hT:s.TypeIs (.ref a) "set")(h:Q false s):wpAny (model P w) A (Builtin.List.listLengthHint (.ref a)) Q E s:=by
 unfold Builtin.List.listLengthHint;refine wpAny_bind (wpAny_specialOf hT F.slot_set_len.lookup ?_);generalize hid:("set.__len__":String)=id0
 wp_delta
 rw[show splitId id0=some ("set","__len__")from by subst hid;decide+kernel];subst hid;refine wpAny_bind (wpAny_isInstance (T:="set") (b:=true) hT (by rw[isSubtype_type];kernel_rfl) ?_);refine wpAny_ite_split (λhab=>absurd hab (by decide)) (λ_=>?_);refine wpAny_ite_split (λ_=>?_) (λhab=>absurd (by decide+kernel) hab);refine wpAny_bind (wpAny_typeOf hT ?_);exact wpAny_pure h
theorem zfm[DecidableEq κ]{S:SK κ}{L:List κ}{R:List Value->Shared->Prop}(hh:A.handled=none)(hS:StG S w s.heap a L)(h:∀h' d tk (vs:List Value),(∀b u,s.heap.get? b=some u->h'.get? b=some u)->s.heap.objs.size<h'.objs.size->(∀v∈vs,∃k t,v=S.vl k t)->(vs.map S.of).Perm L->R vs {s with heap:=h',drawn:=d,toks:=tk}):
  wpAny (model P w) A (collect (.ref a)) R E s:=by
 obtain⟨o,es,ep,t,ho,hex,hd,hel,hpm,hnd,hb,hf,hpl,hld⟩:=hS;have haS:a<s.heap.objs.size:=Heap.lt_size ho;unfold collect;refine wpAny_bind (wpAny_runValue (codeAny_builtin entry_proto_collect' ?_));rw[Around.under_plainId PySem.F.plain_proto_collect _];show wpAny _ A.in1 (newList []>>=λl=>again (.builtin "list.__iadd__" ⟨[l,.ref a],[]⟩)) _ _ s;refine wpAny_bind (wpAny_newObj_type ?_);refine wpAny_pure ⟨plainId_quiet PySem.F.plain_list_iadd _,codeAny_builtin entry_list_iadd' ?_⟩;rw[Around.under_plainId PySem.F.plain_list_iadd _];have hS₁:(s.heap.push {cls:=.type "list",data:=.seq ([]:List Value).toArray}).get? s.heap.objs.size=some {cls:=.type "list",data:=.seq #[]}:=Heap.get?_push_size _ rfl;have ho1:(s.heap.push {cls:=.type "list",data:=.seq ([]:List Value).toArray}).get? a=some o:=Heap.get?_push_of_some _ ho;show wpAny _ A.in1 (Builtin.List.listExtendWith (.ref s.heap.objs.size) (.ref a) (.ref s.heap.objs.size)) _ _ _;unfold Builtin.List.listExtendWith;refine wpAny_bind (wpAny_typeOf (T:="set") ⟨o,ho1,hex.1⟩ ?_);have h1:Builtin.List.listSameRef (.ref s.heap.objs.size) (.ref a)=false:=by simp[Builtin.List.listSameRef];exact Nat.ne_of_gt haS
 rw[if_neg (by rw[h1];decide)];refine wpAny_bind (zM ho1 hex hd hf hb hpl λh2 d it ex vs k2 nx g1 g2 g2' g3 st pv=>?_);have hT2:Shared.TypeIs {s with heap:=h2,drawn:=d} (.ref a) "set":=⟨o,k2 _ _ ho1,hex.1⟩;refine wpAny_bind (wpAny_holding (zjD hT2 ?_));rw[Heap.size_push]at g1 g2;have nea:a≠it:=Nat.ne_of_lt (Nat.lt_of_lt_of_le (Nat.lt_succ_of_lt haS) g1);have hSf:s.heap.objs.size∉it::a::ex:=by simp only[List.mem_cons,not_or];exact⟨Nat.ne_of_lt (Nat.lt_of_lt_of_le (Nat.lt_succ_self _) g1),Nat.ne_of_gt haS,λz=>absurd (g2 _ z) (Nat.not_succ_le_self _)⟩
 have hn:es.size<=sizeLine:=fits_of_scanBound hb;have W:=znG (P:=P) (A:=A.in1) (vs:=vs) hh hex hd hf hld nea nx;have key:∀{R':Result->Shared->Prop}(h3:Heap) (c₁:Nat),It w o es ep t a it ex vs 0 h3->(∀b u,b≠s.heap.objs.size->s.heap.get? b=some u->h3.get? b=some u)->
   h3.get? s.heap.objs.size=some {cls:=.type "list",data:=.seq #[] c₁}->
   (∀s',wpAny (model P w) A (do
      match(←load s.heap.objs.size).data with
      | .seq xs _=>pure xs.toList
      |_=>unsupported "internal:collect") R E s'->R' (.ok (.ret (.ref s.heap.objs.size))) s')->
   codeAny (model P w) A (.builtin "list.extend.loop" ⟨[.ref s.heap.objs.size,.ref it,.ref s.heap.objs.size],[]⟩) R' {s with heap:=h3,drawn:=d}:=by
  intro R' h3 c₁ hst hk hS3 hR';refine codeAny_extend_loopS W.toS hn _ hSf _ es.size 0 _ #[] c₁ rfl (Nat.zero_le _) hst hS3 (ItemsOf.nil _) λs' acc' c' hm hS' hacc=>hR' s' ?_
  refine wpAny_bind (wpAny_load hS' ?_);refine wpAny_pure ?_;rw[Moved.eq_with hm];have ev:acc'.toList=vs:=by
   refine List.ext_getElem? λj=>?_
   rcases Nat.lt_or_ge j es.size with z|z
   ·have hlt:j<acc'.size:=by rw[hacc.1];exact z
    have:=hacc.2 j acc'[j] (by simp[hlt]);rw[this,Array.getElem?_toList];simp[hlt]
   ·rw[List.getElem?_eq_none (by rw[Array.length_toList,hacc.1];exact z),List.getElem?_eq_none (by rw[st.len];exact z)]
  rw[ev];have hstr:∀v∈vs,∃k t,v=S.vl k t:=λv hv=>by obtain⟨e,he,rfl⟩:=List.mem_map.mp (pv.mem_iff.mp hv);obtain⟨k,tk,rfl⟩:=hel e he;exact⟨k,tk,rfl⟩
  refine h s'.heap d s'.toks vs (λb u e=>?_) (Heap.lt_size hS') hstr ((pv.map S.of).trans ?_)
  ·have hlt:=Heap.lt_size e;exact hm.heap b u (by simp only[List.mem_cons,List.not_mem_nil,or_false,not_or];exact⟨Nat.ne_of_lt hlt,Nat.ne_of_lt (Nat.lt_of_lt_of_le (Nat.lt_succ_of_lt hlt) g1)⟩) (hk b u (Nat.ne_of_lt hlt) e)
  ·rw[List.map_map];exact hpm
 have hS2:=k2 _ _ hS₁;have kk:∀b u,b≠s.heap.objs.size->s.heap.get? b=some u->h2.get? b=some u:=λb u _ e=>k2 b u (Heap.get?_push_of_some _ e)
 refine wpAny_ite_split (λ_=>?_) (λ_=>wpAny_pure ⟨plainId_quiet PySem.F.plain_extend_loop _,key h2 0 st kk hS2 λs' z=>z⟩);refine wpAny_bind (wpAny_rule ?_);refine wpAny_bind ?_;show wpAny _ _ (updateSeq s.heap.objs.size (·.push .none)>>=λ_=>updateSeq s.heap.objs.size (·.pop)) _ _ _;refine wpAny_bind (wpAny_updateSeq hS2 rfl ?_);have hS3:=Heap.get?_update_self (Obj.mapSeq (·.push Value.none)) hS2 rfl;refine wpAny_updateSeq hS3 rfl ?_;have hS4:=Heap.get?_update_self (Obj.mapSeq (·.pop)) hS3 rfl;have oth:∀b u,b≠s.heap.objs.size->h2.get? b=some u->((h2.update s.heap.objs.size (Obj.mapSeq (·.push Value.none))).update s.heap.objs.size (Obj.mapSeq (·.pop))).get? b=some u:=
  λb u hb e=>(Heap.get?_update_other _ _ (Ne.symm hb)).trans ((Heap.get?_update_other _ _ (Ne.symm hb)).trans e)
 refine wpAny_pure ⟨plainId_quiet PySem.F.plain_extend_loop _,key _ _ (st.at λb hb u e=>oth b u (λz=>hSf (by rw[←z];exact hb)) e) (λb u ne e=>oth b u ne (kk b u ne e)) hS4 λs' z=>z⟩
theorem zcH:∀(vs:List Value),(∀v∈vs,∃k t,v=Value.int k t)->IntsAre vs (vs.map zjC)
 |[],_=>.nil
 |v::vs,h=>by obtain⟨k,t,rfl⟩:=h v (by simp);exact .cons k t (zcH vs λu hu=>h u (by simp[hu]))
theorem IntsAre.len:∀{vs:List Value}{ns:List Int},IntsAre vs ns->vs.length=ns.length
 |_,_,.nil=>rfl
 |_,_,.cons x t r=>by simp[IntsAre.len r]
theorem sorted_seti{L:List Int}{Q:Vs}(hh:A.handled=none)(hS:StG intS w s.heap a L)(h64:L.length<64)(h:∀h' d tk D (vs:List Value) ns e,(∀b u,s.heap.get? b=some u->h'.get? b=some u)->s.heap.objs.size<=D->h'.get? D=some {cls:=.type "list",data:=.seq vs.toArray e}->
   IntsAre vs ns->ns.Perm L->ns.Pairwise (·<=·)->Q (.ref D) {s with heap:=h',drawn:=d,toks:=tk}):
  wpAny (model P w) A (call (.builtin "sorted") [.ref a]) Q E s:=by
 refine Calls.call_function_entry kind_sorted plain_sorted entry_sorted (args_sorted1 _) ?_;unfold Builtin.«sorted»;refine wpAny_bind (m:=checkCount "sorted" 1 1 _) (wpAny_pure ?_);refine wpAny_bind (zfm (S:=intS) (s:=s) hh hS λh1 d tk vs k1 hz1 hs0 hp1=>?_);have hs1:IntsAre vs (vs.map zjC):=zcH vs λv hv=>hs0 v hv
 have hp1:(vs.map zjC).Perm L:=hp1;have hvl:vs.length<64:=by rw[IntsAre.len hs1,hp1.length_eq];exact h64
 refine wpAny_bind (wpAny_newList ?_ (by rw[sizeLine_eq];omega));have hoL:(h1.push (seqObj "list" vs.toArray 0)).get? h1.objs.size=some (seqObj "list" vs.toArray 0):=Heap.get?_push_size _ rfl;show wpAny _ _ _ _ _ {s with heap:=h1.push (seqObj "list" vs.toArray 0),drawn:=d,toks:=tk};refine wpAny_bind (wpAny_holding (wpAny_call_entry slot_list_sort ⟨_,hoL,rfl⟩ entry_list_sort (list_sort_tree hoL hs1 hvl λout ns b1 b2 b3=>⟨_,rfl,?_⟩) (args_list_sort _)));obtain⟨e,he⟩:=sortedHeap_at (h:=h1.push (seqObj "list" vs.toArray 0)) (a:=h1.objs.size) (vs:=vs) (out:=out) hoL;refine wpAny_pure ⟨_,rfl,h _ d tk h1.objs.size out.toList ns e (λb u eb=>?_) (Nat.le_of_lt hz1) ?_ b1 (b2.trans hp1) b3⟩
 ·have e1:=k1 _ _ eb;rw[sortedHeap_old (Nat.ne_of_lt (Heap.lt_size e1)) (by rw[size_push'];exact Nat.lt_succ_of_lt (Heap.lt_size e1))];exact Heap.get?_push_of_some _ e1
 ·rw[he]
end
end TS
namespace L2
section
variable{X:Cx}
theorem Inv.draw{pins:AO}{σ:St}{H:Hp}{s:Shared}{d:Drawn}(I:Inv X pins σ H s):Inv X pins σ H {s with drawn:=d}:=
 ⟨I.ok,I.os,I.bare,I.base,I.loc,I.cell,I.free,I.freeC,I.pin,I.hok,I.len⟩
end
end L2
namespace TS
theorem call_add{κ:Type}[DecidableEq κ]{S:SK κ}{P:Program}{w:World}{A:Around}{E:Vs}{s:Shared}{a:Addr}{L:List κ}{x:κ}{t:Tok}{Q:Vs}(hS:StG S w s.heap a L)(hroom:L.length+1<scanBound)(h:∀h',Heap.SameBut a s.heap h'->StG S w h' a (addT L x)->Q .none {s with heap:=h',toks:=s.toks+1}):
  wpAny (model P w) A (call (.builtin "set.add") [.ref a,S.vl x t]) Q E s:=by
 have hT:s.TypeIs (.ref a) "set":=by obtain⟨o,_,_,_,ho,hex,_⟩:=hS;exact⟨o,ho,hex.1⟩
 refine wpAny_call_entry F.slot_set_add hT F.entry_set_add ?_ (F.args_set_add_2 _ _);unfold Builtin.«set.add» Builtin.Frozenset.oneOther;simp only[List.isEmpty_nil,bind_assoc];unfold Builtin.Frozenset.addrOf setAdd;refine wpAny_bind (wpAny_pure ?_)
 try dsimp only
 refine wpAny_bind (wpAny_pure ?_)
 try dsimp only
 refine wpAny_bind ?_;refine wpAny_holding ?_;refine wpAny_bind ((S.knd P w).pyHash (k:=x) ((S.is P w x _).mpr ⟨t,rfl⟩) ?_);rw[S.hsh P w x];refine add (s:={s with toks:=s.toks+1}) hS hroom λh' b hsb hS'=>?_
 show wpAny _ _ (ret Value.none) _ _ _;exact wpAny_pure ⟨_,rfl,h h' hsb hS'⟩
end TS
namespace L2
section
variable{X:Cx}
end
end L2
namespace FL
open L2
section
variable{K:Fg}{X:Cx}{e:Expr}{f:EO D}{pos:Pos}{x:Str}{p apos cpos:Pos}
end
end FL
namespace L2
section
variable{X:Cx}
end
end L2
namespace FL
open L2
section
variable{K:Fg}{X:Cx}{a:Expr}{fa:EO D}{p p2 pos pos2:Pos}
end
section
variable{p:Program}{I:List Nat}{Z:ZZ}{x:Str}{ps:List Str}{k np nn:Nat}{mb:Nat->EO Fl}
end
def kU(K:Fg)(F H:Hp):List Bool->List D->List V->Prop
 |[],[],[]=>True
 |b::bs,d::ds,v::vs=>(b=true/\zO K F H d v\/b=false/\Dat K F d v)/\kU K F H bs ds vs
 |_,_,_=>False
noncomputable def yP:List Bool->List D->En
 |b::bs,d::ds=>(if b=true then some (.bor d)else some (.dat d))::yP bs ds
 |_,_=>[]
noncomputable def startB(n:Nat)(bs:List Bool)(ds:List D):En:=yP bs ds++List.replicate (n - ds.length) none
noncomputable def SpB(K:Fg)(bs:List Bool)(m:LO):Sp:=λvs H Q _=>∃F ds d,zG F H/\kU K F H bs ds vs/\m ds=some d/\∀v F' H',zE F H F' H'->Dat K F' d v->Q v H'
noncomputable def vH(mb:EO Fl)(np nn:Nat)(bs:List Bool)(ds:List D):Option D:=if ds.length=np then(match mb (startB nn bs ds)with
 |some (.rt d _)=>some d
 |_=>none)else none
structure FkB(P:Program)(w:World)(K:Fg)(mg:SV)(base:Heap)(x:Str)(ps:List Str)(bs:List Bool)(k:Nat)(m:LO):Prop where
 ex:∃f fd,yG P w K mg base CX0 k f fd ps (SpB K bs m)/\wP K fd ps []/\PySem.W.keepIn K (.ref f)=true/\mg x=some (.ref f)
variable{N:List Str}
section
variable{K:Fg}{F H F' H':Hp}
theorem kU.len:∀{bs:List Bool}{ds:List D} {vs:List V},kU K F H bs ds vs->vs.length=ds.length/\(yP bs ds).length=ds.length
 |[],[],[],_=>⟨rfl,rfl⟩
 |b::bs,d::ds,v::vs,h=>by obtain⟨h1,h2⟩:=kU.len h.2;exact⟨by simp[h1],by simp[yP,h2]⟩
 |[],_::_,_,h=>by simp[kU]at h
 |[],[],_::_,h=>by simp[kU]at h
 |_::_,[],_,h=>by simp[kU]at h
 |_::_,_::_,[],h=>by simp[kU]at h
theorem kU.get:∀{bs:List Bool}{ds:List D} {vs:List V}{i:Nat} {s:Sl},kU K F H bs ds vs->(yP bs ds)[i]?=some (some s)->∃d v,vs[i]?=some v/\(s=.bor d/\zO K F H d v\/s=.dat d/\Dat K F d v)
 |[],[],[],_,_,_,e=>by simp[yP]at e
 |b::bs,d::ds,v::vs,0,s,h,e=>by
  simp only[yP,List.getElem?_cons_zero,Option.some.injEq]at e;rcases h.1 with⟨rfl,z⟩|⟨rfl,z⟩
  ·rw[if_pos rfl]at e;cases e;exact⟨d,v,rfl,.inl ⟨rfl,z⟩⟩
  ·rw[if_neg (by decide)]at e;cases e;exact⟨d,v,rfl,.inr ⟨rfl,z⟩⟩
 |b::bs,d::ds,v::vs,i+1,s,h,e=>by obtain⟨d',v',h1,h2⟩:=kU.get (i:=i) (s:=s) h.2 (by simpa[yP]using e);exact⟨d',v',by simpa using h1,h2⟩
 |[],_::_,_,_,_,h,_=>by simp[kU]at h
 |[],[],_::_,_,_,h,_=>by simp[kU]at h
 |_::_,[],_,_,_,h,_=>by simp[kU]at h
 |_::_,_::_,[],_,_,h,_=>by simp[kU]at h
theorem zaq{bs:List Bool}{ds:List D}{vs:List V}(m:kU K F H bs ds vs){i:Nat}{s:Sl}(h:(startB N.length bs ds)[i]?=some (some s)):∃d v,(L2.start N vs)[i]?=some (some v)/\(s=.bor d/\zO K F H d v\/s=.dat d/\Dat K F d v):=by
 unfold startB at h;obtain⟨l1,l2⟩:=m.len;by_cases hi:i<(yP bs ds).length
 ·rw[List.getElem?_append_left hi]at h;obtain⟨d,v,h1,h2⟩:=m.get h;refine⟨d,v,?_,h2⟩;unfold L2.start;rw[List.getElem?_append_left (by rw[List.length_map];omega),List.getElem?_map,h1];rfl
 ·rw[List.getElem?_append_right (by omega),List.getElem?_replicate]at h;split at h<;>cases h
theorem Rel.startB{bs:List Bool}{ds:List D}{vs:List V}(s:zG F H)(m:kU K F H bs ds vs):Rel K F H (startB N.length bs ds) (L2.start N vs):=by
 refine⟨s,λi d h=>?_,λi d h=>?_,λi q d h=>?_,λi j q d s a ne h1=>?_,?_⟩
 ·obtain⟨d',v,h1,⟨h2,_⟩|⟨h2,h3⟩⟩:=zaq m h
  ·cases h2
  ·cases h2;exact⟨v,h1,h3⟩
 ·obtain⟨d',v,h1,⟨h2,h3⟩|⟨h2,_⟩⟩:=zaq m h
  ·cases h2;exact⟨v,h1,h3⟩
  ·cases h2
 ·obtain⟨d',v,_,⟨h2,_⟩|⟨h2,_⟩⟩:=zaq m h<;>cases h2
 ·obtain⟨d',v,_,⟨h2,_⟩|⟨h2,_⟩⟩:=zaq m h1<;>cases h2
 ·obtain⟨l1,l2⟩:=m.len;unfold FL.startB L2.start;simp[l1,l2]
theorem qI.growB{bs:List Bool}{ds:List D}{vs:List V}{ρ':En}{σ':St}(m:kU K F H bs ds vs)(a:qI (startB N.length bs ds) (L2.start N vs) F H ρ' σ' F' H')(s:zG F H):zE F H F' H':=by
 have no:∀b,¬xH (startB N.length bs ds) (L2.start N vs) b:=λb ⟨i,p,d,h,_⟩=>by obtain⟨d',v,_,⟨h2,_⟩|⟨h2,_⟩⟩:=zaq m h<;>cases h2
 refine⟨a.ff,λb o e=>?_,a.fh,λb o e n=>(a.rest b o e n (no b)).2⟩;cases q:F b with
 |some u=>
  have:=s _ _ q;rw[e]at this;cases this
  exact a.fh _ _ (a.ff _ _ q)
 |none=>exact(a.rest b o e q (no b)).1
end
noncomputable def rdAm(K:Fg)(bs:List Bool)(ρ:En)(ds:List D):TA:=λσ H Q=>∃F,Rel K F H ρ σ/\∀vs F' H',zE F H F' H'->kU K F' H' bs ds vs->Q vs H'
structure FAm(K:Fg)(bs:List Bool)(X:Cx)(es:List Expr)(f:EO (List D)):Prop where
 h:∀ρ ds,f ρ=some ds->PA X es (rdAm K bs ρ ds)
section
variable{K:Fg}{X:Cx}{e:Expr}{es:List Expr}{bs:List Bool}{f:EO D}{fs:EO (List D)}{pos p:Pos}{x:Str}{ps:List Str}{k j:Nat}{m:LO}
theorem mnil:FAm K [] X [] zD:=FAm.mk λρ ds hf=>PA.imp vN λσ H Q ⟨F,r,q⟩=>by
 cases hf
 exact q [] F H (zE.refl r.sub) trivial
theorem zgv(h1:FP K .fz X e f)(h2:FAm K bs X es fs)(hs:starEach (e::es) X.env=(false,eval e X.env)::starEach es X.env:=by rfl):FAm K (false::bs) X (e::es) (zA f fs):=FAm.mk λρ ds hf=>by
 obtain⟨d,l,e1,e2,rfl⟩:=zaU hf;refine PA.imp (yY (h1.h ρ d e1) (h2.h ρ l e2) hs) λσ H Q h_=>?_
 obtain⟨F,r,q⟩:=h_;refine⟨F,r,λv F1 H1 g1 r1=>⟨F1,r.grow g1,λvs F2 H2 g2 r2=>?_⟩⟩;exact q (v::vs) F2 H2 (g1.trans g2) ⟨.inr ⟨rfl,Dat.mono g2.ff r1⟩,r2⟩
theorem zmV(h1:FP K .br X e f)(h2:FAm K bs X es fs)(hs:starEach (e::es) X.env=(false,eval e X.env)::starEach es X.env:=by rfl):FAm K (true::bs) X (e::es) (zA f fs):=FAm.mk λρ ds hf=>by
 obtain⟨d,l,e1,e2,rfl⟩:=zaU hf;refine PA.imp (yY (h1.h ρ d e1) (h2.h ρ l e2) hs) λσ H Q h_=>?_
 obtain⟨F,r,q⟩:=h_;refine⟨F,r,λv F1 H1 g1 r1=>⟨F1,r.grow g1,λvs F2 H2 g2 r2=>?_⟩⟩;exact q (v::vs) F2 H2 (g1.trans g2) ⟨.inl ⟨rfl,zO.mono g2.ff g2.hh r1⟩,r2⟩
theorem fkB(G:FkB X.prog X.w X.K X.mg X.base x ps bs k m)(hr:qR j X.A)(ha:FAm K bs X (e::es) fs)(hle:k<=j:=by first|decide|omega)(hg:Gl X x:=by rfl)(hK:X.K=K:=by rfl)(H1:∀{f:Addr}{fd:FuncData} {t:TA},yG X.prog X.w X.K X.mg X.base CX0 k f fd ps (SpB K bs m)->qR k X.A->Gl X x->X.mg x=some (.ref f)->PySem.W.keepIn X.K (.ref f)=true->wP X.K fd ps []->PA X (e::es) t->PE X (.Call (.Name x p) (e::es) [] pos) (ziR (SpB K bs m) [] E0 t):=by exact λF hr hg hm hk hb ha=>zeQ F hr hg hm hk hb .nil zkX ha):
  FP K .fz X (.Call (.Name x p) (e::es) [] pos) (cL m fs):=FP.mk λρ d hf=>by
 subst hK;obtain⟨f,fd,Fk,hb,hk,hm⟩:=G.ex;obtain⟨l,e1,e2⟩:=zbP hf;refine PE.imp (H1 Fk (hr.mono hle) hg hm hk hb (ha.h ρ l e1)) λσ H Q ⟨F,r,q⟩=>⟨F,r,λvs F1 H1 g1 r1=>?_⟩
 exact⟨F1,l,d,g1.fh,by rw[List.append_nil];exact r1,e2,λv F2 H2 g2 h2=>q v F2 H2 (g1.trans g2) h2⟩
end
abbrev FqB(Z:ZZ):=FkB Z.P Z.w Z.K Z.mg Z.base
section
variable{p:Program}{I:List Nat}{Z:ZZ}{x:Str}{ps:List Str}{bs:List Bool}{k np nn j:Nat}{mb:Nat->EO Fl}{m:LO}
theorem mkB(F:FNs p I Z)(i:Nat)(N:List Str)(hb:N.Nodup->∀(f:Addr) (n:Nat) (cdv:Value) (A:Around) (outer:List Env) (s:Shared) (H:Hp) (E:XK),qR k (A.deeper (envOfC x (kT (jO p i)) s.heap.objs.size f cdv))->FSs Z.K .fz (wX CX0 Z.P Z.w Z.K Z.mg Z.base N x (kT (jO p i)) f cdv A outer s H E).nox (gJ (jO p i)) (mb n))(hnp:ps.length=np:=by rfl)(hnn:N.length=nn:=by rfl)(S:nQ N ps (kT (jO p i)):=by exact⟨rfl,rfl,rfl,by decide+kernel,rfl,by decide+kernel,by decide+kernel⟩)(T:Df p I i x ps:=by exact dfo):
  FqB Z x ps bs (k+1) (vH (mb zP) np nn bs):=by
 subst hnp hnn;obtain⟨f,fd,a,Fn⟩:=F i T.hi x T.hn;refine⟨_,_,?_,Fn.binds T.hB,Fn.kp,a⟩;have inv:∀{ds d},vH (mb zP) ps.length N.length bs ds=some d->ds.length=ps.length/\∃ρ',mb zP (startB N.length bs ds)=some (.rt d ρ'):=λ{ds d} h=>by
  unfold vH at h;split at h
  ·rename_i hl;split at h
   ·rename_i d' ρ' e;cases h;exact⟨hl,ρ',e⟩
   ·cases h
  ·cases h
 refine Fn.ok S (λvs H Q E h=>?_) (λcdv A outer s H vs Q E hr h=>?_)
 ·obtain⟨F,ds,d,_,q,e,_⟩:=h;rw[q.len.1];exact(inv e).1
 obtain⟨F,ds,d,sub,qd,e,k⟩:=h;obtain⟨_,ρ',h⟩:=inv e;exact⟨_,(hb S.nd f zP cdv A outer s H E hr).h _ _ h,F,Rel.startB sub qd,λv σ' F' H' r' s' res=>k v F' H' (s'.growB qd sub) res⟩
end
end FL
namespace L2
structure Fnd(P:Program)(w:World)(A:Around)(s:Shared)(key:Value)(hs:Int)(es:Array DictEntry)(f:Nat->Bool):Prop where
 eq:∀i (hi:i<es.size) {Q:Bool->Shared->Prop}{E:Vs},Q (f i) s->wpAny (model P w) A (eqBool es[i].key key) Q E s
 hash:∀i (hi:i<es.size),f i=true->es[i].hash=hs
 one:∀i j,i<es.size->j<es.size->f i=true->f j=true->i=j
 qk:∀{Q:Bool->Shared->Prop}{E:Vs},Q true s->wpAny (model P w) A (eqIsQuiet 8 key) Q E s
 qe:∀i (hi:i<es.size) {Q:Bool->Shared->Prop}{E:Vs},Q true s->wpAny (model P w) A (eqIsQuiet 8 es[i].key) Q E s
 same:∀i (hi:i<es.size),es[i].key=key->es[i].hash=hs
 kd:(∃i t,key=.int i t)\/(∃x t,key=.str x t)\/∃a,key=.ref a
 str:∀x t,key=.str x t->∀i (hi:i<es.size),es[i].key.isStr x=f i
variable{Q:Bool->Shared->Prop}{o:Obj}{ep:Nat}
section
variable{P:Program}{w:World}{A:Around}{E:Vs}{s:Shared}{key:Value}{hs:Int}{es:Array DictEntry}{f:Nat->Bool}
theorem Fnd.tell(L:Fnd P w A s key hs es f){st:List Value}(h:∀v∈st,∃i,∃hi:i<es.size,v=es[i].key)(q:Q false s):wpAny (model P w) A (tableMayTell key st) Q E s:=by
 unfold tableMayTell;split
 ·exact wpAny_pure q
 refine wpAny_bind (L.qk ?_);simp only[Bool.not_true,Bool.false_eq_true,if_false];refine wpAny_bind (wpAny_forIn_list _ (λrest r s'=>(s'=s/\r=(none,()))/\∀v∈rest,∃i,∃hi:i<es.size,v=es[i].key) _ ?_ ?_ _ _ ⟨⟨rfl,rfl⟩,h⟩)
 ·rintro x rest r s' ⟨⟨rfl,rfl⟩,hr⟩;obtain⟨i,hi,rfl⟩:=hr x (by simp);refine wpAny_bind (L.qe i hi ?_);simp only[Bool.not_true,Bool.false_eq_true,if_false];exact wpAny_pure ⟨⟨rfl,rfl⟩,λv hv=>hr v (by simp[hv])⟩
 ·rintro r s' ⟨⟨rfl,rfl⟩,_⟩;exact wpAny_pure q
theorem Fnd.find(L:Fnd P w A s key hs es f){d:Addr}(ho:s.heap.get? d=some o)(hd:o.data=.dict es ep){Q:Option Nat->Shared->Prop}(h0:(∀i,i<es.size->f i=false)->Q none s)(h1:∀i,i<es.size->f i=true->Q (some i) s):wpAny (model P w) A (dictFind d key hs) Q E s:=by
 have inPl:∀i,i<es.size->f i=true->i∈placesWithHash es.size (λi=>es[i]?.map (·.hash)) hs:=λi hi e=>by unfold placesWithHash;rw[List.mem_filter];exact⟨List.mem_range.mpr hi,by dsimp only;rw[Array.getElem?_eq_getElem hi];simp[L.hash i hi e]⟩
 have ofPl:∀i,i∈placesWithHash es.size (λi=>es[i]?.map (·.hash)) hs->∃hi:i<es.size,es[i].hash=hs:=λi hi=>by
  unfold placesWithHash at hi;rw[List.mem_filter]at hi;have h2:=List.mem_range.mp hi.1;refine⟨h2,?_⟩
  have:=hi.2;dsimp only at this;rw[Array.getElem?_eq_getElem h2]at this;simpa using this
 have ndP:(placesWithHash es.size (λi=>es[i]?.map (·.hash)) hs).Nodup:=List.nodup_range.sublist List.filter_sublist;unfold dictFind
 try with_reducible refine wpAny_holding ?_
 refine wpAny_bind (wpAny_dictEntries ho hd ?_);generalize hpl:placesWithHash es.size (λi=>es[i]?.map (·.hash)) hs=pl at*;have stOk:∀v∈pl.filterMap λi=>es[i]?.map (·.key),∃i,∃hi:i<es.size,v=es[i].key:=λv hv=>by obtain⟨i,hi,e⟩:=List.mem_filterMap.mp hv;obtain⟨h2,_⟩:=ofPl i hi;rw[Array.getElem?_eq_getElem h2]at e;exact⟨i,h2,(by simpa using e.symm)⟩
 have plain:wpAny (model P w) A (dictWalkPlain d key hs es pl) Q E s:=by
  unfold dictWalkPlain;refine wpAny_bind (wpAny_forIn_list _ (λrest b s'=>(s'=s/\b=(none,()))/\(∀i∈rest,∃hi:i<es.size,es[i].hash=hs)/\∀i,i<es.size->f i=true->i∈rest) _ ?_ ?_ _ _ ⟨⟨rfl,rfl⟩,ofPl,inPl⟩)
  ·rintro x rest b s' ⟨⟨rfl,rfl⟩,r1,r2⟩;obtain⟨hx,hh⟩:=r1 x (by simp);rw[Array.getElem?_eq_getElem hx];dsimp only;rw[if_pos (by simp[hh])];refine wpAny_bind (wpAny_dictEpoch ho hd (wpAny_bind (L.eq x hx (wpAny_bind (wpAny_dictEpoch ho hd ?_)))));rw[if_neg (by simp)];cases e:f x with
   |true=>exact wpAny_bind (wpAny_rule (wpAny_pure (wpAny_pure (h1 x hx e))))
   |false=>
    refine wpAny_bind (wpAny_rule (wpAny_pure ⟨⟨rfl,rfl⟩,λi hi=>r1 i (by simp[hi]),λi hi q=>?_⟩));rcases List.mem_cons.mp (r2 i hi q)with rfl|z
    ·rw[e]at q;cases q
    ·exact z
  ·rintro b s' ⟨⟨rfl,rfl⟩,_,r2⟩;refine wpAny_pure (h0 λi hi=>?_);cases e:f i with
   |false=>rfl
   |true=>exact absurd (r2 i hi e) (by simp)
 have byVal:∀x t,key=.str x t->wpAny (model P w) A (foundByValue d key es x) Q E s:=λx t ek=>by
  unfold foundByValue;cases e:es.findIdx? (·.key.isStr x)with
  |none=>
   refine wpAny_pure (h0 λi hi=>?_);rw[←L.str x t ek i hi]
   have:=Array.findIdx?_eq_none_iff.mp e es[i] (Array.getElem_mem hi);simpa using this
  |some i=>
   obtain⟨hi,e1,_⟩:=Array.findIdx?_eq_some_iff_getElem.mp e;have fi:f i=true:=by rw[←L.str x t ek i hi];exact e1
   dsimp only;rw[Array.getElem?_eq_getElem hi];dsimp only;refine wpAny_bind (wpAny_dictEpoch ho hd (wpAny_bind (L.eq i hi (wpAny_bind (wpAny_dictEpoch ho hd ?_)))));rw[if_neg (by simp),fi];exact wpAny_bind (wpAny_rule (wpAny_pure (h1 i hi fi)))
 clear hpl;obtain⟨x,t,rfl⟩|⟨x,t,rfl⟩|⟨a,rfl⟩:=L.kd;all_goals dsimp only
 all_goals generalize pl.filterMap (λi=>es[i]?.map (·.key))=stl at stOk ⊢
 by_cases c2:((Value.int x t::stl).all carriedByValue)=true
 ·rw[if_pos c2];exact plain
 rw[if_neg c2]
 rotate_left
 by_cases c1:(es.all λe=>isExactStrKey e.key)=true
 ·rw[if_pos c1];exact byVal x t rfl
 rw[if_neg c1];by_cases c2:((Value.str x t::stl).all carriedByValue)=true
 ·rw[if_pos c2];exact plain
 rw[if_neg c2]
 rotate_left
 rw[if_neg (by simp[carriedByValue]),if_neg (by rw[←Array.any_toList,List.any_eq_true];rintro⟨e,hin,hc⟩;obtain⟨i,hi,rfl⟩:=Array.mem_iff_getElem.mp (Array.mem_toList_iff.mp hin);simp only[Bool.and_eq_true,beq_iff_eq,bne_iff_ne,ne_eq]at hc;exact hc.2 (L.same i hi hc.1))]
 all_goals
  split;all_goals first|refine wpAny_bind (wpAny_pure ?_)|refine wpAny_bind (L.tell stOk ?_)
  all_goals
   rw[if_neg (by simp)];refine wpAny_bind (wpAny_forIn_list _ (λrest b s'=>(s'=s/\b.1=none)/\rest.Nodup/\(∀i∈rest,∃hi:i<es.size,es[i].hash=hs)/\
    ((b.2=none/\∀i,i<es.size->f i=true->i∈rest)\/∃j,b.2=some j/\j<es.size/\f j=true/\j∉rest)) _ ?_ ?_ _ _ ⟨⟨rfl,rfl⟩,ndP,ofPl,.inl ⟨rfl,inPl⟩⟩)
   ·rintro x rest ⟨b1,b2⟩ s' ⟨⟨rfl,rfl⟩,r0,r1,r2⟩;obtain⟨hx,hh⟩:=r1 x (by simp);obtain⟨r3,r4⟩:=List.nodup_cons.mp r0;rw[Array.getElem?_eq_getElem hx];dsimp only;rw[if_pos (by simp[hh])];refine wpAny_bind (wpAny_dictEpoch ho hd (wpAny_bind (L.eq x hx (wpAny_bind (wpAny_dictEpoch ho hd ?_)))));rw[if_neg (by simp)];cases e:f x with
    |true=>
     rcases r2 with⟨r5,_⟩|⟨j,r5,j1,j2,j3⟩
     ·have r5:b2=none:=r5;subst r5;simp only[if_true,Option.isSome_none,Bool.false_eq_true,if_false];refine wpAny_bind (wpAny_rule ?_);split
      ·exact wpAny_pure (wpAny_pure (h1 x hx e))
      ·exact wpAny_pure ⟨⟨rfl,rfl⟩,r4,λi hi=>r1 i (by simp[hi]),.inr ⟨x,rfl,hx,e,r3⟩⟩
     ·exact absurd (L.one j x j1 hx j2 e) (λz=>j3 (by simp[z]))
    |false=>
     simp only[Bool.false_eq_true,if_false,Bool.false_and];refine wpAny_bind (wpAny_rule (wpAny_pure ⟨⟨rfl,rfl⟩,r4,λi hi=>r1 i (by simp[hi]),?_⟩));rcases r2 with⟨r5,r2⟩|⟨j,r5,j1,j2,j3⟩
     ·refine .inl ⟨r5,λi hi q=>?_⟩;rcases List.mem_cons.mp (r2 i hi q)with rfl|z
      ·rw[e]at q;cases q
      ·exact z
     ·exact .inr ⟨j,r5,j1,j2,λz=>j3 (by simp[z])⟩
   ·rintro⟨b1,b2⟩ s' ⟨⟨rfl,rfl⟩,_,_,r2⟩;rcases r2 with⟨r5,r2⟩|⟨j,r5,j1,j2,_⟩
    ·have r5:b2=none:=r5;subst r5;refine wpAny_pure (h0 λi hi=>?_);cases e:f i with
     |false=>rfl
     |true=>exact absurd (r2 i hi e) (by simp)
    ·have r5:b2=some j:=r5;subst r5;exact wpAny_pure (h1 j j1 j2)
end
def gIs(P:Program)(w:World)(h:Heap):zH->Value->Prop
 | .inl k,u=>(qU P w).is k u=true
 | .inr l,u=>∃b,u=.ref b/\IsTupleKey (qU P w) h l b
section
variable{P:Program}{w:World}{H:Hp}{h:Heap}{a:Addr}
theorem zne{ks:List Key}(ok:HOk P w H h)(e:H a=some (.tup (ks.map kV))):IsTupleKey (qU P w) h ks a:=by obtain⟨_,its,r,o,h1,h2,n,h3⟩:=(show qV P w H h a (.tup (ks.map kV))from ok a _ e);exact⟨o,its.toArray,n,h1,h2,h3,by simpa using zer r⟩
theorem KAt.is(ok:HOk P w H h):∀{k:zH}{u:Value},KAt H k u->gIs P w h k u
 | .inl _,_,r=>nG r
 | .inr _,_,⟨b,e,q⟩=>⟨b,e,zne ok q⟩
theorem zhF{k:Key}{b:Addr}(h:(qU P w).is k (.ref b)=true):False:=by have:=(qU P w).byValue _ _ h;cases this
theorem gIs.inj:∀{k k':zH}{u:Value},gIs P w h k u->gIs P w h k' u->k=k'
 | .inl a,.inl b,u,x,y=>congrArg _ ((qU P w).inj u a b x y)
 | .inl a,.inr l,u,x,⟨b,e,_⟩=>by subst e;exact(zhF x).elim
 | .inr l,.inl a,u,⟨b,e,_⟩,y=>by subst e;exact(zhF y).elim
 | .inr l,.inr m,u,⟨b,e,x⟩,⟨c,e',y⟩=>by subst e;cases e';rw[x.inj y]
theorem tupK{l:List Key}{b:Addr}(x:IsTupleKey (qU P w) h l b):∃its,h.IsTuple b its:=by obtain⟨o,its,n,h1,h2,h3,_⟩:=x;exact⟨its,o,h1,h2,n,h3⟩
end
def gDr:zH->Nat
 | .inl _=>1
 | .inr l=>l.length+1
variable{es:Array DictEntry}{xs:List (zH×Value×Value)}
section
variable{P:Program}{w:World}{A:Around}{E:Vs}{s:Shared}{k k':zH}{u v:Value}
theorem gPy{Q:Int->Shared->Prop}(hu:A.units<cLine)(x:gIs P w s.heap k u)(q:Q (zic P w k) {s with toks:=s.toks+gDr k}):wpAny (model P w) A (pyHash u) Q E s:=by
 cases k with
 |inl k=>exact(qU P w).pyHash x q
 |inr l=>obtain⟨b,rfl,x⟩:=x;exact wpAny_pyHash_tuple hu x q
theorem gEq(hu:A.units<cLine)(x:gIs P w s.heap k u)(y:gIs P w s.heap k' v)(q:Q (decide (k=k')) s):wpAny (model P w) A (eqBool u v) Q E s:=by
 cases k with
 |inl k=>
  cases k' with
  |inl k'=>exact(qU P w).eqBool x y (by simpa using q)
  |inr l=>
   obtain⟨b,rfl,y⟩:=y;obtain⟨its,y⟩:=tupK y;rw[decide_eq_false (by simp)]at q;rcases vQ x with⟨i,t,rfl,rfl⟩|⟨i,t,rfl,rfl⟩
   ·exact SeqAt.EqAt.int_tuple i t y hu _ _ _ _ q
   ·exact SeqAt.EqAt.str_tuple i t y hu _ _ _ _ q
 |inr l=>
  obtain⟨b,rfl,x⟩:=x;cases k' with
  |inl k'=>
   obtain⟨its,x⟩:=tupK x;rw[decide_eq_false (by simp)]at q;rcases vQ y with⟨i,t,rfl,rfl⟩|⟨i,t,rfl,rfl⟩
   ·exact SeqAt.EqAt.tuple_int i t x hu _ _ _ _ q
   ·exact SeqAt.EqAt.tuple_str i t x hu _ _ _ _ q
  |inr m=>
   obtain⟨c,rfl,y⟩:=y;exact wpAny_eqBool_tuple hu x y (by simpa using q)
theorem gQt(x:gIs P w s.heap k u)(q:Q true s):wpAny (model P w) A (eqIsQuiet 8 u) Q E s:=by
 cases k with
 |inl k=>rw[eqIsQuiet_byValue 8 ((qU P w).byValue _ _ x)];exact wpAny_pure q
 |inr l=>obtain⟨b,rfl,x⟩:=x;exact wpAny_eqIsQuiet_tuple x q
theorem gFnd(hu:A.units<cLine)(he:es.toList=xs.map (vR P w))(hi:∀x∈xs,gIs P w s.heap x.1 x.2.1)(hn:(xs.map (·.1)).Nodup)(x:gIs P w s.heap k u):
  Fnd P w A s u (zic P w k) es (λi=>decide ((xs[i]?).map (·.1)=some k)):=by
 have hz:es.size=xs.length:=by rw[←Array.length_toList,he,List.length_map]
 have at':∀i (h:i<es.size),∃y,xs[i]?=some y/\es[i]=vR P w y/\gIs P w s.heap y.1 y.2.1:=λi h=>by
  refine⟨xs[i],List.getElem?_eq_getElem _,?_,hi _ (List.getElem_mem _)⟩
  have:es[i]=es.toList[i]'(by simpa using h):=by simp
  rw[this];simp[he]
 refine⟨λi h Q E q=>?_,λi h e=>?_,λi j h1 h2 e1 e2=>?_,gQt x,λi h Q E q=>?_,λi h e=>?_,?_,λz t ez i h=>?_⟩
 ·obtain⟨y,e1,e2,e3⟩:=at' i h;rw[e2];refine gEq hu e3 x ?_;rw[e1]at q;simpa using q
 ·obtain⟨y,e1,e2,e3⟩:=at' i h;rw[e1]at e;simp at e;rw[e2,←e];rfl
 ·have e1:=of_decide_eq_true e1;have e2:=of_decide_eq_true e2;rw[←List.getElem?_map]at e1 e2;exact(List.getElem?_inj (by rw[List.length_map,←hz];exact h1) hn).mp (e1.trans e2.symm)
 ·obtain⟨y,e1,e2,e3⟩:=at' i h;rw[e2];exact gQt e3 q
 ·obtain⟨y,e1,e2,e3⟩:=at' i h;rw[e2]at e ⊢;have e:y.2.1=u:=e;rw[e]at e3;rw[←gIs.inj e3 x];rfl
 ·cases k with
  |inl k=>
   rcases vQ x with⟨i,t,rfl,rfl⟩|⟨i,t,rfl,rfl⟩
   ·exact .inl ⟨_,_,rfl⟩
   ·exact .inr (.inl ⟨_,_,rfl⟩)
  |inr l=>obtain⟨b,rfl,x⟩:=x;exact .inr (.inr ⟨_,rfl⟩)
 ·subst ez;obtain⟨y,e1,e2,e3⟩:=at' i h;rw[e2,e1];show y.2.1.isStr z=_;obtain⟨k0,rfl⟩:∃k0,k=.inl k0:=by
   cases k with
   |inl k0=>exact⟨k0,rfl⟩
   |inr l=>obtain⟨b,e,_⟩:=x;cases e
  obtain⟨g,y1,y2⟩:=y;cases g with
  |inl g=>
   have:=(qU P w).strs k0 z t y1 x;rw[←this,KeyKind.is_eq_decide (knd:=qU P w) (k:=g) e3];simp[eq_comm]
  |inr m=>
   obtain⟨b,e,_⟩:=e3;have e:y1=.ref b:=e;subst e;simp[Value.isStr]
end
noncomputable def gAt(xs:List (zH×Value×Value))(k:zH):Option Value:=(xs.find? λx=>decide (x.1=k)).map (·.2.2)
def vY(k:zH)(v:Value)(x:zH×Value×Value):zH×Value×Value:=if x.1=k then(x.1,x.2.1,v)else x
def gSt(xs:List (zH×Value×Value))(k:zH)(u v:Value):List (zH×Value×Value):=if(gAt xs k).isSome then xs.map (vY k v)else xs++[(k,u,v)]
def gO(P:Program)(w:World)(h:Heap)(d:Addr)(xs:List (zH×Value×Value)):Prop:=
 ∃o es ep,h.get? d=some o/\o.ExactDict/\o.data=.dict es ep/\es.toList=xs.map (vR P w)/\(xs.map (·.1)).Nodup
theorem zdN:∀{xs:List (zH×Value×Value)}{i:Nat} {y:zH×Value×Value}{k:zH},(xs.map (·.1)).Nodup->xs[i]?=some y->y.1=k->gAt xs k=some y.2.2
 |[],_,_,_,_,e,_=>by simp at e
 |x::xs,0,y,k,_,e,q=>by simp at e;subst e;simp[gAt,q]
 |x::xs,i+1,y,k,hn,e,q=>by
  rw[List.map_cons,List.nodup_cons]at hn;simp only[List.getElem?_cons_succ]at e;have hx:¬x.1=k:=λz=>hn.1 (by rw[z,←q];exact List.mem_map.mpr ⟨y,List.mem_of_getElem? e,rfl⟩)
  have:=zdN hn.2 e q;simpa[gAt,List.find?_cons,hx]using this
theorem zjG{k:zH}(h:∀x∈xs,¬x.1=k):gAt xs k=none:=by
 have:xs.find? (λx=>decide (x.1=k))=none:=by rw[List.find?_eq_none];intro x hx;simp[h x hx]
 simp[gAt,this]
theorem zib(k:zH)(v:Value)(xs:List (zH×Value×Value)):(xs.map (vY k v)).map (·.1)=xs.map (·.1):=by rw[List.map_map];exact List.map_congr_left λx _=>by simp only[Function.comp,vY];split<;>rfl
section
variable{P:Program}{w:World}{A:Around}{E:Vs}{s:Shared}{d:Addr}{xs:List (zH×Value×Value)}{k:zH}{u v:Value}
theorem gO.ty(T:gO P w s.heap d xs):s.TypeIs (.ref d) "dict":=let⟨o,_,_,e,c,_⟩:=T;⟨o,e,c.1⟩
theorem gMod{f:zH×Value×Value->DictEntry}{g:DictEntry->DictEntry}(hg:∀x:zH×Value×Value,x.1=k->g (f x)=f (x.1,x.2.1,v)):
  ∀{xs:List (zH×Value×Value)}{j:Nat} {y:zH×Value×Value},(xs.map (·.1)).Nodup->xs[j]?=some y->y.1=k->(xs.map f).modify j g=(xs.map (vY k v)).map f
 |[],_,_,_,e,_=>by simp at e
 |x::xs,0,y,hn,e,q=>by
  rw[List.map_cons,List.nodup_cons]at hn;simp at e;subst e;have r:xs.map (vY k v)=xs:=by
   conv=>rhs;rw[←List.map_id xs]
   refine List.map_congr_left λz hz=>?_
   have:¬z.1=k:=λc=>hn.1 (by rw[q,←c];exact List.mem_map.mpr ⟨z,hz,rfl⟩)
   simp[vY,this]
  rw[List.map_cons,List.map_cons,List.map_cons,r,vY,if_pos q,List.modify_zero_cons,hg x q]
 |x::xs,j+1,y,hn,e,q=>by
  rw[List.map_cons,List.nodup_cons]at hn;simp only[List.getElem?_cons_succ]at e;have hx:¬x.1=k:=λz=>hn.1 (by rw[z,←q];exact List.mem_map.mpr ⟨y,List.mem_of_getElem? e,rfl⟩)
  rw[List.map_cons,List.map_cons,List.map_cons,vY,if_neg hx,List.modify_succ_cons,gMod hg hn.2 e q]
theorem gEs(he:es.toList=xs.map (vR P w))(i:Nat):es[i]?=(xs[i]?).map (vR P w):=by rw[←Array.getElem?_toList,he,List.getElem?_map]
theorem zls(hu:A.units<cLine)(ho:s.heap.get? d=some o)(hd:o.data=.dict es ep)(he:es.toList=xs.map (vR P w))(hi:∀x∈xs,gIs P w s.heap x.1 x.2.1)(hn:(xs.map (·.1)).Nodup)(x:gIs P w s.heap k u){Q:Option Nat->Shared->Prop}(h0:gAt xs k=none->Q none s)(h1:∀i y,xs[i]?=some y->y.1=k->gAt xs k=some y.2.2->Q (some i) s):wpAny (model P w) A (dictFind d u (zic P w k)) Q E s:=by
 have hz:es.size=xs.length:=by rw[←Array.length_toList,he,List.length_map]
 refine(gFnd hu he hi hn x).find ho hd (λh=>h0 (zjG λy hy e=>?_)) λi hi' e=>?_
 ·obtain⟨i,hl,rfl⟩:=List.mem_iff_getElem.mp hy
  have:=h i (by omega);rw[List.getElem?_eq_getElem hl]at this;simp[e]at this
 ·have e:=of_decide_eq_true e;rw[List.getElem?_eq_getElem (by omega)]at e;have e:(xs[i]'(by omega)).1=k:=by simpa using e
  exact h1 i _ (List.getElem?_eq_getElem (by omega)) e (zdN hn (List.getElem?_eq_getElem (by omega)) e)
theorem gGet(hu:A.units<cLine)(T:gO P w s.heap d xs)(hi:∀x∈xs,gIs P w s.heap x.1 x.2.1)(x:gIs P w s.heap k u){Q:Option Value->Shared->Prop}(q:Q (gAt xs k) {s with toks:=s.toks+gDr k}):
  wpAny (model P w) A (dictGet d u) Q E s:=by
 obtain⟨o,es,ep,ho,hc,hd,he,hn⟩:=T;unfold dictGet
 try with_reducible refine wpAny_holding ?_
 refine wpAny_bind (gPy hu x (wpAny_bind (zls (s:={s with toks:=s.toks+gDr k}) hu ho hd he hi hn x (λe=>?_) λi y e1 e2 e3=>?_)))
 ·rw[e]at q;exact wpAny_pure q
 ·rw[e3]at q;refine wpAny_bind (wpAny_dictEntries (s:={s with toks:=s.toks+gDr k}) ho hd ?_);rw[gEs he,e1];exact wpAny_pure q
theorem gNew(hx:gAt xs k=none)(hn:(xs.map (·.1)).Nodup):((xs++[(k,u,v)]).map (·.1)).Nodup:=by rw[List.map_append,List.nodup_append];refine⟨hn,by simp,λa ha b hb e=>?_⟩;simp at hb;subst hb e;obtain⟨y,hy,e⟩:=List.mem_map.mp ha;obtain⟨i,hl,rfl⟩:=List.mem_iff_getElem.mp hy;rw[zdN hn (List.getElem?_eq_getElem hl) e]at hx;cases hx
theorem gSet(hu:A.units<cLine)(T:gO P w s.heap d xs)(hi:∀x∈xs,gIs P w s.heap x.1 x.2.1)(x:gIs P w s.heap k u)(hz:xs.length<=sizeLine){Q:Unit->Shared->Prop}(q:∀h',gO P w h' d (gSt xs k u v)->Heap.SameBut d s.heap h'->Q () {s with heap:=h',toks:=s.toks+gDr k}):wpAny (model P w) A (dictSet d u v) Q E s:=by
 obtain⟨o,es,ep,ho,hc,hd,he,hn⟩:=T;have hsz:es.size=xs.length:=by rw[←Array.length_toList,he,List.length_map]
 unfold dictSet dictSetHashed
 try with_reducible refine wpAny_holding ?_
 refine wpAny_bind (gPy hu x ?_)
 try with_reducible refine wpAny_holding ?_
 refine wpAny_bind (zls (s:={s with toks:=s.toks+gDr k}) hu ho hd he hi hn x (λe=>?_) λi y e1 e2 e3=>?_)
 ·refine wpAny_bind (wpAny_rule (wpAny_updateDictKeys (hz:=by omega) (s:={s with toks:=s.toks+gDr k}) ho hd (q _ ⟨_,_,ep+1,Heap.get?_update_self _ ho (Obj.isFreed_of_dict (Obj.data_mapDictKeys hd _)),hc.mapDictKeys _,Obj.data_mapDictKeys hd _,?_,?_⟩ (Heap.SameBut.update ..))))
  ·unfold gSt;rw[e];simp[he,vR]
  ·unfold gSt;rw[e];exact gNew e hn
 ·refine wpAny_bind (wpAny_rule (wpAny_bind (wpAny_updateDict (s:={s with toks:=s.toks+gDr k}) ho hd (wpAny_point (q _ ⟨_,_,ep,Heap.get?_update_self _ ho (Obj.isFreed_of_dict (Obj.data_mapDict hd _)),hc.mapDict _,Obj.data_mapDict hd _,?_,?_⟩ (Heap.SameBut.update ..))))))
  ·unfold gSt;rw[e3,if_pos (show(some y.2.2).isSome=true from rfl)]
   have:=gMod (v:=v) (f:=vR P w) (g:=λe:DictEntry=>{e with val:=v}) (λz ez=>rfl) hn e1 e2;rw[←he]at this;obtain⟨l⟩:=es;simpa using this
  ·unfold gSt;rw[e3,if_pos (show(some y.2.2).isSome=true from rfl),zib];exact hn
theorem gSdf(hu:A.units<cLine)(T:gO P w s.heap d xs)(hi:∀x∈xs,gIs P w s.heap x.1 x.2.1)(x:gIs P w s.heap k u)(hz:xs.length<=sizeLine){Q:Vs}(q1:∀y,gAt xs k=some y->Q y {s with toks:=s.toks+gDr k})(q0:gAt xs k=none->∀h',gO P w h' d (xs++[(k,u,v)])->Heap.SameBut d s.heap h'->Q v {s with heap:=h',toks:=s.toks+gDr k}):wpAny (model P w) A (dictSetDefault d u v) Q E s:=by
 obtain⟨o,es,ep,ho,hc,hd,he,hn⟩:=T;have hsz:es.size=xs.length:=by rw[←Array.length_toList,he,List.length_map]
 unfold dictSetDefault
 try with_reducible refine wpAny_holding ?_
 refine wpAny_bind (gPy hu x (wpAny_bind (zls (s:={s with toks:=s.toks+gDr k}) hu ho hd he hi hn x (λe=>?_) λi y e1 e2 e3=>?_)))
 ·refine wpAny_bind (wpAny_rule (wpAny_bind (wpAny_updateDictKeys (hz:=by omega) (s:={s with toks:=s.toks+gDr k}) ho hd (wpAny_pure (q0 e _ ⟨_,_,ep+1,Heap.get?_update_self _ ho (Obj.isFreed_of_dict (Obj.data_mapDictKeys hd _)),hc.mapDictKeys _,Obj.data_mapDictKeys hd _,?_,?_⟩ (Heap.SameBut.update ..))))))
  ·simp[he,vR]
  ·exact gNew e hn
 ·refine wpAny_bind (wpAny_dictEntries (s:={s with toks:=s.toks+gDr k}) ho hd ?_);rw[gEs he,e1];exact wpAny_bind (wpAny_rule (wpAny_pure (q1 _ e3)))
end
def yO(ks:List (Key×V)):List (zH×V):=ks.map λp=>(.inl p.1,p.2)
def gE(ks:List (Key×V)):List V:=ks.map λp=>kV p.1
def GRd(H:Hp)(a:Addr)(kvs:List (zH×V))(ys:List V):Prop:=(∃ks,Rd H a (.dK ks)/\kvs=yO ks/\ys=gE ks)\/Rd H a (.dT kvs ys)
def GW(H:Hp)(a:Addr)(kvs:List (zH×V))(ys:List V):Prop:=(∃ks,H a=some (.dK ks)/\kvs=yO ks/\ys=gE ks)\/H a=some (.dT kvs ys)
def xO(kvs:List (zH×V))(ys:List V)(k:zH)(y:V):List V:=if(qO kvs k).isSome then ys else ys++[y]
variable{H:Hp}{kvs:List (zH×V)}{ys:List V}
theorem GW.rd{a:Addr}(h:GW H a kvs ys):GRd H a kvs ys:=h.imp (λ⟨ks,e,r⟩=>⟨ks,.inl e,r⟩) .inl
def wO(H:Hp):zH->V->Prop
 | .inl k,y=>y=kV k
 | .inr l,y=>∃b,y=.ref b/\H b=some (.tup (l.map kV))
variable{y:V}{u:Value}
theorem wO.at:∀{k:zH},wO H k y->zJ y u->KAt H k u
 | .inl k,e,r=>by have e:y=kV k:=e;subst e;exact r
 | .inr l,⟨b,e,h⟩,r=>by subst e;exact⟨b,r,h⟩
variable{P:Program}{w:World}
theorem znj{k:Key}(h:(qU P w).is k u=true):zJ (kV k) u:=by
 rcases vQ h with⟨i,t,rfl,rfl⟩|⟨x,t,rfl,rfl⟩
 ·exact⟨t,rfl⟩
 ·exact⟨t,rfl⟩
section
variable{P:Program}{w:World}{H:Hp}{h:Heap}{a:Addr}
theorem zjl{es:List DictEntry}{vs:List (Key×Value)}(p:Pairs (qU P w) es vs):(∀e∈es,∃k,(qU P w).is k e.key=true/\e.hash=(qU P w).hash k)->∀{kvs:List (Key×V)},KV kvs vs->
  ∃xs,es=xs.map (vR P w)/\(KT H (yO kvs) xs/\zK (gE kvs) (xs.map (·.2.1)))/\xs.map (·.1)=vs.map (λq=>Sum.inl q.1):=by
 induction p with
 |nil=>intro _ kvs r;cases r;exact⟨[],rfl,⟨.nil,.nil⟩,rfl⟩
 |@cons e kv es vs h1 h2 _ ih=>
  intro hk kvs r;cases r with
  |@cons q _ kvs _ hr t=>
   obtain⟨xs,e1,e2,e3⟩:=ih (λe he=>hk e (by simp[he])) t;obtain⟨k',g1,g2⟩:=hk e (by simp);have ek:k'=kv.1:=(qU P w).inj _ _ _ g1 h1;subst ek;refine⟨(.inl kv.1,e.key,e.val)::xs,?_,⟨.cons ⟨congrArg Sum.inl hr.1,?_,?_⟩ e2.1,.cons (show zJ (kV q.1) e.key by rw[hr.1];exact znj h1) e2.2⟩,?_⟩
   ·rw[List.map_cons,←e1]
    congr 1
    obtain⟨x1,x2,x3⟩:=e;simp only[vR,zic];simp only at g2;rw[g2]
   ·show zJ (kV q.1) e.key;rw[hr.1];exact znj h1
   ·show zJ q.2 e.val;rw[h2];exact hr.2
   ·rw[List.map_cons,e3];rfl
theorem KT.isg(ok:HOk P w H h)(r:KT H kvs xs):∀x∈xs,gIs P w h x.1 x.2.1:=by
 induction r with
 |nil=>intro x hx;cases hx
 |@cons p q _ _ hq _ ih=>
  intro x hx;rcases List.mem_cons.mp hx with e|hx
  ·subst e;rw[←hq.1];exact KAt.is ok hq.2.1
  ·exact ih x hx
theorem KT.val(r:KT H kvs xs)(k:zH):vT (qO kvs k) (gAt xs k):=by
 induction r with
 |nil=>exact True.intro
 |@cons p q ps qs hq _ ih=>
  by_cases e:p.1=k
  ·have e':q.1=k:=hq.1.symm.trans e;rw[nS e,show gAt (q::qs) k=some q.2.2 by simp[gAt,List.find?_cons,e']];exact hq.2.2
  ·have e':¬q.1=k:=λz=>e (hq.1.trans z)
   rw[nT e,show gAt (q::qs) k=gAt qs k by simp[gAt,List.find?_cons,e']];exact ih
theorem KT.repl(r:KT H kvs xs)(k:zH)(ry:zJ y u):KT H (kvs.map λkv=>if kv.1=k then(kv.1,y)else kv) (xs.map (vY k u)):=by
 induction r with
 |nil=>exact .nil
 |@cons p q _ _ hq _ ih=>
  rw[List.map_cons,List.map_cons];refine .cons ?_ ih;obtain⟨h1,h2,h3⟩:=hq;unfold vY;by_cases e:p.1=k
  ·rw[if_pos e,if_pos (h1.symm.trans e)];exact⟨h1,h2,ry⟩
  ·rw[if_neg e,if_neg λz=>e (h1.trans z)];exact⟨h1,h2,h3⟩
theorem KT.put(r:KT H kvs xs){k:zH}{v:Value}(hk:KAt H k u)(ry:zJ y v):KT H (zW kvs k y) (gSt xs k u v):=by
 have e:(kvs.any λkv=>decide (kv.1=k))=(gAt xs k).isSome:=by rw[zce,(r.val k).isSome_eq]
 unfold zW gSt;rw[e];by_cases q:(gAt xs k).isSome=true
 ·rw[if_pos q,if_pos q];exact r.repl k ry
 ·rw[if_neg q,if_neg q];exact Paired.snoc r ⟨rfl,hk,ry⟩
theorem zfg(ok:HOk P w H h)(e:GRd H a kvs ys):kvs.length<=sizeLine/\(a==sysModules)=false/\∃xs,(KT H kvs xs/\zK ys (xs.map (·.2.1)))/\gO P w h a xs/\∀x∈xs,gIs P w h x.1 x.2.1:=by
 rcases e with⟨ks,e,rfl,rfl⟩|e
 ·obtain⟨z,y,vs,rel,o,es,ep,h1,h2,h3,h4,h5,h6⟩:=zgL ok e;obtain⟨xs,e1,e2,e3⟩:=zjl (H:=H) h5 (λe he=>h4 e (Array.mem_toList_iff.mp he)) rel;refine⟨by unfold yO;rw[List.length_map];exact z,y,xs,e2,⟨o,es,ep,h1,h2,h3,e1,?_⟩,e2.1.isg ok⟩;rw[e3]
  have:vs.map (λq=>(Sum.inl q.1:zH))=(vs.map (·.1)).map Sum.inl:=by rw[List.map_map];rfl
  rw[this];exact List.Pairwise.map _ (λa b n c=>n (Sum.inl.inj c)) h6
 ·obtain⟨z,y,xs,r,o,es,ep,h1,h2,h3,h4,h5⟩:=(show qV P w H h a (.dT kvs ys)from e.ok ok);exact⟨z,y,xs,r,⟨o,es,ep,h1,h2,h3,h4,h5⟩,KT.isg ok r.1⟩
end
section
variable{X:Cx}{pins:AO}{σ:St}{H:Hp}{s:Shared}{a:Addr}{y v:V}{u r:Value}{A:Around}{E:Vs}{kvs:List (zH×V)}{k:zH}{ys:List V}
theorem zou{Q:Vs}(hu:A.units+1<cLine)(I:Inv X pins σ H s)(e:GRd H a kvs ys)(ky:wO H k y)(ry:zJ y u)(hv:qO kvs k=some v)(h:∀w' s',Inv X pins σ H s'->zJ v w'->Q w' s'):
  wpAny (model X.prog X.w) A (getItem (.ref a) u) Q E s:=by
 obtain⟨z,hd,xs,⟨rel,ry0⟩,T,hi⟩:=zfg I.hok e;obtain⟨w',hw,rw'⟩:=vT.some_of (v:=v) (o:=gAt xs k) (by rw[←hv];exact rel.val k);unfold getItem
 try with_reducible refine wpAny_holding ?_
 refine wpAny_bind (wpAny_sequenceKey T.ty (by decide) (wpAny_bind (wpAny_callSpecial?_slot (name:=Str.ofString "__getitem__") T.ty slot_dict_getitem (wpAny_call_entry slot_dict_getitem T.ty entry_dict_getitem ?_ (args_dict_getitem _ _)))));show wpAny _ _ (dictGet a u>>=_) _ _ s;refine wpAny_bind (gGet (A:=A.in1) hu T hi (KAt.is I.hok (ky.at ry)) ?_);rw[hw];exact wpAny_pure ⟨w',rfl,wpAny_pure (h w' _ (I.tok _) rw')⟩
theorem g_wr{h':Heap}{t':Nat}{kvs':List (zH×V)}{ys':List V}(I:Inv X pins σ H s)(e:GW H a kvs ys)(z:kvs'.length<=sizeLine)(hd:(a==sysModules)=false)(rel:KT H kvs' xs)(ry:zK ys' (xs.map (·.2.1)))(T:gO X.prog X.w h' a xs)(hs:Heap.SameBut a s.heap h'):
  Inv X pins σ (upd H a (.dT kvs' ys')) {s with heap:=h',toks:=t'}:=by
 obtain⟨q,es,ep,hq,h2,h3,h4,h5⟩:=T;refine zcO I (by rcases e with⟨_,e,_⟩|e<;>rw[e]<;>exact True.intro) hs ⟨q,hq⟩ ⟨z,hd,xs,⟨Paired.mapP rel λp q z=>⟨z.1,KAt.mono (λc ys ec=>?_) z.2.1,z.2.2⟩,ry⟩,q,es,ep,hq,h2,h3,h4,h5⟩;rcases e with⟨_,e,_⟩|e
 ·rw[zT (zmT ec e λz=>nomatch z)];exact ec
 ·rw[zT (zmT ec e λz=>nomatch z)];exact ec
theorem ziK(rel:KT H kvs xs)(ry0:zK ys (xs.map (·.2.1)))(ry:zJ y u):zK (xO kvs ys k y) ((gSt xs k u r).map (·.2.1)):=by
 unfold xO gSt;rw[(rel.val k).isSome_eq];split
 ·rw[List.map_map,show List.map ((λx=>x.2.1)∘vY k r) xs=xs.map (·.2.1)from List.map_congr_left λx _=>by simp only[Function.comp,vY];split<;>rfl];exact ry0
 ·rw[List.map_append];exact Paired.snoc ry0 ry
theorem zos{Q:Unit->Shared->Prop}(hu:A.units+1<cLine)(I:Inv X pins σ H s)(e:GW H a kvs ys)(hl:kvs.length<sizeLine)(ky:wO H k y)(ry:zJ y u)(rv:zJ v r)(h:∀s',Inv X pins σ (upd H a (.dT (zW kvs k v) (xO kvs ys k y))) s'->Q () s'):
  wpAny (model X.prog X.w) A (setItem (.ref a) u r) Q E s:=by
 obtain⟨z,hd,xs,⟨rel,ry0⟩,T,hi⟩:=zfg I.hok e.rd;have hz:xs.length<=sizeLine:=by rw[←Paired.length rel];exact z
 have hl':(zW kvs k v).length<=sizeLine:=by have:=zac kvs k v;omega
 unfold setItem
 try with_reducible refine wpAny_holding ?_
 refine wpAny_bind (wpAny_sequenceKey T.ty (by decide) (wpAny_bind (wpAny_callSpecial?_slot (name:=Str.ofString "__setitem__") T.ty slot_dict_setitem (wpAny_call_entry slot_dict_setitem T.ty entry_dict_setitem ?_ (args_dict_setitem _ _ _)))));show wpAny _ _ (Builtin.Dict.notOrdered "__setitem__" ⟨[.ref a,u,r],[]⟩>>=_) _ _ s;refine wpAny_bind (wpAny_notOrdered_dict T.ty ?_);show wpAny _ _ (dictSet a u r>>=_) _ _ s;exact wpAny_bind (gSet (A:=A.in1) hu T hi (KAt.is I.hok (ky.at ry)) hz λh' T' hs=>wpAny_pure ⟨.none,rfl,wpAny_pure (h _ (g_wr I e hl' hd (rel.put (ky.at ry) rv) (ziK rel ry0 ry) T' hs))⟩)
theorem zot{Q:Vs}(hu:A.units+1<cLine)(I:Inv X pins σ H s)(e:GW H a kvs ys)(hl:kvs.length<sizeLine)(ky:wO H k y)(ry:zJ y u)(rv:zJ v r)(h1:∀x,qO kvs k=some x->∀w' s',Inv X pins σ H s'->zJ x w'->Q w' s')(h2:qO kvs k=none->∀s',Inv X pins σ (upd H a (.dT (zW kvs k v) (xO kvs ys k y))) s'->Q r s'):
  wpAny (model X.prog X.w) A (call (.builtin "dict.setdefault") [.ref a,u,r]) Q E s:=by
 obtain⟨z,hd,xs,⟨rel,ry0⟩,T,hi⟩:=zfg I.hok e.rd;have hz:xs.length<=sizeLine:=by rw[←Paired.length rel];exact z
 have hl':(zW kvs k v).length<=sizeLine:=by have:=zac kvs k v;omega
 refine wpAny_call_entry PySem.F.slot_dict_setdefault T.ty PySem.F.entry_dict_setdefault ?_ (PySem.F.args_dict_setdefault_3 _ _ _);unfold Builtin.«dict.setdefault»;refine wpAny_bind ?_;unfold Builtin.Dict.keyAndDefault;refine wpAny_bind (wpAny_notOrdered_dict T.ty ?_);show wpAny _ _ (pure (a,u,some r)) _ _ s;refine wpAny_pure ?_;show wpAny _ _ (if(a==sysModules)=true then _ else(dictSetDefault a u r>>=_)) _ _ s;rw[if_neg (by rw[hd];exact Bool.false_ne_true)];have vr:=rel.val k;refine wpAny_bind (gSdf (A:=A.in1) hu T hi (KAt.is I.hok (ky.at ry)) hz (λy hy=>?_) λhn h' T' hs=>?_)
 ·rw[hy]at vr;cases e2:qO kvs k with
  |none=>rw[e2]at vr;exact vr.elim
  |some x=>rw[e2]at vr;exact wpAny_pure ⟨_,rfl,h1 x e2 _ _ (I.tok _) vr⟩
 ·rw[hn]at vr;cases e2:qO kvs k with
  |some x=>rw[e2]at vr;exact vr.elim
  |none=>
   refine wpAny_pure ⟨_,rfl,h2 e2 _ (g_wr I e hl' hd ?_ ?_ T' hs)⟩
   ·rw[zfC v e2];exact Paired.snoc rel ⟨rfl,ky.at ry,rv⟩
   ·unfold xO;rw[e2,List.map_append];exact Paired.snoc ry0 ry
theorem g_ty(I:Inv X pins σ H s)(e:GRd H a kvs ys):s.TypeIs (.ref a) "dict"/\(∀b,Value.ref a=.ref b->∃ob,s.heap.get? b=some ob/\ob.dict=none):=by
 obtain⟨z,hd,xs,⟨rel,ry0⟩,T,hi⟩:=zfg I.hok e;refine⟨T.ty,λb q=>?_⟩;cases q
 obtain⟨o,_,_,h1,h2,_⟩:=T;exact⟨o,h1,h2.2.1⟩
end
def znP(td ty:TE):TE:=λσ H Q=>td σ H λx H1=>ty σ H1 λy H2=>∃a kvs ys k v,x=.ref a/\GRd H2 a kvs ys/\wO H2 k y/\qO kvs k=some v/\Q v H2
section
variable{X:Cx}{o i e f:Expr}{td ty tx:TE}{pos apos cpos:Pos}
theorem zkR(hu:X.A.units+1<cLine)(ho:PE X o td)(hi:PE X i ty)(hs:NoSl i):PE X (.Subscript o i pos) (znP td ty):=by intro pins s σ H Q I h;refine zhc PySem.F.slot_dict_getitem.lookup hs (thn (ho pins s σ H _ I h) λu s1 ⟨x,H1,I1,rx,q1⟩=>thn (hi pins s1 σ H1 _ I1 q1) λiv s2 ⟨y,H2,I2,ry,a,kvs,ys,k,v,ex,g,ky,hv,q2⟩=>?_);subst ex;obtain rfl:u=Value.ref a:=rx;exact⟨(g_ty I2 g).1,zou hu I2 g ky ry hv λw' s3 I3 rw'=>⟨v,H2,I3,rw',q2⟩⟩
end
section
variable{P:Program}{w:World}{A:Around}{E:Vs}{s:Shared}{d it:Addr}{o:Obj}{es:Array DictEntry}{ep i:Nat}
theorem zmj(ho:s.heap.get? d=some o)(hc:o.ExactDict)(hd:o.data=.dict es ep)(hs:(d==sysModules)=false){Q:Vs}(q:Q (.ref s.heap.objs.size) {s with heap:=s.heap.push {cls:=.type "dict_keyiterator",data:=.fields #[.ref d,.int 0 0,.int es.size 0,.int ep 0]}}):wpAny (model P w) A (pyIter (.ref d)) Q E s:=by have hT:s.TypeIs (.ref d) "dict":=⟨o,ho,hc.1⟩;refine wpAny_pyIter_slot hT PySem.F.slot_dict_iter (wpAny_call_entry PySem.F.slot_dict_iter hT PySem.F.entry_dict_iter ?_ (PySem.F.args_dict_iter_1 _));unfold Builtin.«dict.__iter__»;refine wpAny_bind ?_;unfold Builtin.Dict.dictSlotNone;refine wpAny_bind (wpAny_notOrdered_dict hT ?_);show wpAny _ _ (pure (Value.ref d)) _ _ s;refine wpAny_pure ?_;show wpAny _ _ (Builtin.Dict.showsAll d>>=_) _ _ s;unfold Builtin.Dict.showsAll;rw[if_neg (by rw[hs];exact Bool.false_ne_true)];refine wpAny_bind (wpAny_pure (wpAny_bind (wpAny_dictEntries ho hd (wpAny_bind (wpAny_dictEpoch ho hd (wpAny_bind (wpAny_newObj_type (wpAny_pure ⟨_,rfl,"dict_keyiterator",_,⟨_,Heap.get?_push_size _ rfl,rfl⟩,PySem.F.slot_dict_keyiterator_next.lookup,?_⟩))))))));simpa[rawInt]using q
theorem ziW{Q:Option Value->Shared->Prop}(hit:s.heap.IsKeyIter it d i es.size ep)(ho:s.heap.get? d=some o)(hd:o.data=.dict es ep)(h1:∀e,es[i]?=some e->∀h',h'.IsKeyIter it d (i+1) es.size ep->Heap.SameBut it s.heap h'->Q (some e.key) {s with heap:=h'})(h0:es[i]?=none->A.handled=none/\∀h',Heap.ExtBut it s.heap h'->Q none {s with heap:=h'}):wpAny (model P w) A (pyNext (.ref it)) Q E s:=by
 obtain⟨oi,hi,hc,hf⟩:=id hit;unfold pyNext;refine wpAny_bind (wpAny_attempt (wpAny_callSpecial?_slot (name:=Str.ofString "__next__") hit.typeIs PySem.F.slot_dict_keyiterator_next (wpAny_call_entry PySem.F.slot_dict_keyiterator_next hit.typeIs PySem.F.entry_dict_keyiterator_next ?_ (PySem.F.args_dict_keyiterator_next_1 _))));refine wpAny_bind (wpAny_pure (wpAny_bind (wpAny_bind (wpAny_bind (wpAny_typeNameOfWhole_keyiter hit.typeIs (wpAny_pure (wpAny_bind (wpAny_fieldsOf hi hf ?_))))))));simp only[show Builtin.Dict_items.ownsTuple "dict_keyiterator"=false by decide,Bool.false_eq_true,if_false];show wpAny _ _ (if(Value.ref d==Value.none)=true then _ else _) _ _ s;rw[if_neg (show¬((Value.ref d==Value.none)=true)from Bool.false_ne_true)];refine wpAny_bind (wpAny_pure (wpAny_bind (wpAny_dictEntries ho hd ?_)));rw[if_neg (by simp)];refine wpAny_bind (wpAny_pure (wpAny_bind (wpAny_dictEpoch ho hd ?_)));rw[if_neg (by simp)];refine wpAny_pure ?_;cases e:es[i]? with
 |some x=>
  simp only[show¬((i:Int)<0)from by omega,if_false,Int.toNat_natCast,e];refine wpAny_bind (wpAny_bind (wpAny_typeNameOfWhole_keyiter hit.typeIs (wpAny_pure ?_)));refine wpAny_bind (wpAny_isOneOf_keyiter hit.typeIs ?_);show wpAny _ _ (setField (.ref it) 1 (rawInt ((i:Int)+1))>>=_) _ _ s;refine wpAny_bind (wpAny_setField hi hf (by simp) ?_);have hit':(s.heap.update it (Obj.mapFields (·.setIfInBounds 1 (rawInt ((i:Int)+1))))).IsKeyIter it d (i+1) es.size ep:=
   ⟨_,Heap.get?_update_self _ hi (Obj.isFreed_of_fields (Obj.data_mapFields hf _)),(Obj.cls_mapFields ..).trans hc,by rw[Obj.data_mapFields hf];simp[rawInt]⟩
  refine wpAny_bind (wpAny_holding (wpAny_bind (wpAny_isOneOf_keyiter (s:={s with heap:=s.heap.update it (Obj.mapFields (·.setIfInBounds 1 (rawInt ((i:Int)+1))))}) hit'.typeIs ?_)));show wpAny _ _ (pure x.key) _ _ _;exact wpAny_pure (wpAny_pure ⟨_,rfl,wpAny_pure (h1 x e _ hit' (Heap.SameBut.update ..))⟩)
 |none=>
  obtain⟨hh,hQ⟩:=h0 e;simp only[show¬((i:Int)<0)from by omega,if_false,Int.toNat_natCast,e];refine wpAny_bind (wpAny_bind (wpAny_typeNameOfWhole_keyiter hit.typeIs (wpAny_pure ?_)));show wpAny _ _ (setField (.ref it) 0 .none>>=_) _ _ s;refine wpAny_bind (wpAny_setField hi hf (by simp) ?_);show wpAny _ _ (newExc (.type "StopIteration") []>>=_) _ _ _;refine wpAny_bind ?_;simp only[newExc,newTuple];refine wpAny_bind (wpAny_newObj_type ?_ (by size_fits));refine wpAny_bind (m:=firstArgMember _ _) (wpAny_of_eq (a:=Value.none) (by first|rfl|(simp only[firstArgMember];rfl)) ?_);refine wpAny_newObj_type ?_ (by size_fits);simp only[raiseNew];refine wpAny_bind (wpAny_handled ?_);rw[show A.in1.handled=none from hh];refine wpAny_bind (wpAny_pure (wpAny_throw ?_));refine wpAny_bind (wpAny_isInstance (T:="StopIteration") (b:=true) ⟨_,Heap.get?_push_size _ rfl,rfl⟩ isSubtype_stop ?_);exact wpAny_pure (hQ _ (((Heap.SameBut.update ..).extBut.push _).push _))
theorem Walks.raw(hh:A.handled=none)(I d:Addr)(hne:d≠I)(o:Obj)(es:Array DictEntry)(ep:Nat)(hd:o.data=.dict es ep):
  Walks P w A I [I,d] [I] es.size (λi v=>es[i]?.map (·.key)=some v) (λi h=>h.IsKeyIter I d i es.size ep/\h.get? d=some o)where
 sub:=λb hb=>by simp at hb;simp[hb]
 frame:=λ_ _ _ st hk=>⟨st.1.at λo e=>hk I (by simp) o e,hk d (by simp) _ st.2⟩
 item:=λi s Q E hi st hQ=>ziW st.1 st.2 hd (λe he h' it' sb=>hQ e.key h' s.toks (by rw[he];rfl) ⟨it',(sb.2 d hne).trans st.2⟩ λb o hb e=>sb.extBut b o (λh=>hb (by simp[h])) e) (λe=>by rw[Array.getElem?_eq_getElem hi]at e;cases e)
 done:=λs Q E st hQ=>ziW st.1 st.2 hd (λe he=>by simp at he) (λ_=>⟨hh,λh' he'=>hQ h' s.toks λb o hb e=>he' b o (λh=>hb (by simp[h])) e⟩)
 self:=λ_ _ _ _ st hQ=>wpAny_pyIter_keyiter st.1 hQ
theorem zoa(ho:s.heap.get? d=some o)(hc:o.ExactDict)(hd:o.data=.dict es ep)(hs:(d==sysModules)=false)(hz:(es.size:Int)<2^63){Q:Vs}(q:∀t,Q (.int es.size t) {s with toks:=s.toks+1+1}):
  wpAny (model P w) A (call (.builtin "len") [.ref d]) Q E s:=by
 have hT:s.TypeIs (.ref d) "dict":=⟨o,ho,hc.1⟩;refine Calls.call_function_entry kind_len plain_len entry_len (args_len1 _) ?_;unfold Builtin.«len»;refine wpAny_bind (m:=oneArg "len" _) (wpAny_pure ?_);refine wpAny_bind (m:=callSpecial? (.ref d) (Str.ofString "__len__")) (wpAny_callSpecial?_slot (name:=Str.ofString "__len__") hT PySem.F.slot_dict_len (wpAny_call_entry PySem.F.slot_dict_len hT PySem.F.entry_dict_len ?_ (PySem.F.args_dict_len_1 _)));show wpAny _ _ (dictSize d>>=_) _ _ s;unfold dictSize;refine wpAny_bind (wpAny_bind (wpAny_dictEntries ho hd (wpAny_pure ?_)));show wpAny _ _ (Builtin.Dict.pendingCount d>>=_) _ _ s;refine wpAny_bind (wpAny_pendingCount_other hs (wpAny_ret_mkInt ?_));rw[show((es.size:Nat):Int)+((0:Nat):Int)=es.size by omega];refine wpAny_bind (wpAny_holding (wpAny_pure ?_));refine wpAny_bind (wpAny_letGo ?_);show wpAny _ _ (if((es.size:Nat):Int)<0 then _ else _) _ _ _;rw[if_neg (by omega)];show wpAny _ _ (if((es.size:Nat):Int)≥2^63 then _ else _) _ _ _;rw[if_neg (by omega)];exact wpAny_bind (wpAny_mkInt (wpAny_pure ⟨_,rfl,q _⟩))
theorem zob(ho:s.heap.get? d=some o)(hc:o.ExactDict)(q:Q false s):wpAny (model P w) A (Builtin.List.listLengthHint (.ref d)) Q E s:=by
 have hT:s.TypeIs (.ref d) "dict":=⟨o,ho,hc.1⟩;unfold Builtin.List.listLengthHint;refine wpAny_bind (wpAny_specialOf hT PySem.F.slot_dict_len.lookup ?_);generalize hid:("dict.__len__":String)=id0
 wp_delta
 rw[show splitId id0=some ("dict","__len__")from by subst hid;decide+kernel];subst hid;refine wpAny_bind (wpAny_isInstance (T:="dict") (b:=true) hT (by rw[isSubtype_type];kernel_rfl) ?_);refine wpAny_ite_split (λhab=>absurd hab (by decide)) (λ_=>?_);refine wpAny_ite_split (λ_=>?_) (λhab=>absurd (by decide+kernel) hab);refine wpAny_bind (wpAny_typeOf hT ?_);exact wpAny_pure q
theorem znZ(hh:A.handled=none)(ho:s.heap.get? d=some o)(hc:o.ExactDict)(hd:o.data=.dict es ep)(hs:(d==sysModules)=false)(hz:es.size<=sizeLine){Q:Vs}(q:∀h' tk c',(∀b u,s.heap.get? b=some u->h'.get? b=some u)->h'.get? s.heap.objs.size=some {cls:=.type "list",dict:=none,data:=.seq (es.map (·.key)) c',slots:=#[]}->Q (.ref s.heap.objs.size) {s with heap:=h',toks:=tk}):
  wpAny (model P w) A (call (.type "list") [.ref d]) Q E s:=by
 refine callType_codes (Q₁:=λobj s₁=>obj=.ref s.heap.objs.size/\s₁={s with heap:=s.heap.push {cls:=.type "list",data:=.seq #[]}}) PySem.F.called_list (PySem.F.typeCall_list_1 _) PySem.F.entry_list_init
  (code_list_new _ ⟨rfl,rfl⟩) λobj s₁ h₁=>?_
 obtain⟨rfl,rfl⟩:=h₁;have hlt:d<s.heap.objs.size:=Heap.lt_size ho;have hS:(s.heap.push {cls:=.type "list",data:=.seq #[]}).get? s.heap.objs.size=some {cls:=.type "list",data:=.seq #[]}:=Heap.get?_push_size _ rfl;refine⟨⟨_,hS,rfl⟩,PySem.F.args_list_init_2 _ _,?_⟩;show wpAny _ _ (do let old ←Builtin.List.listItems (.ref s.heap.objs.size);Builtin.List.listUpdate (.ref s.heap.objs.size) (λ_=>#[]);letGo old.toList.reverse;Builtin.List.listExtendWith (.ref s.heap.objs.size) (.ref d) .none) _ _ _;refine wpAny_bind ?_;unfold Builtin.List.listItems;refine wpAny_bind (wpAny_seqItems hS rfl (wpAny_pure ?_));show wpAny _ _ (updateSeq s.heap.objs.size (λ_=>#[])>>=λ_=>letGo (#[]:Array Value).toList.reverse>>=λ_=>Builtin.List.listExtendWith (.ref s.heap.objs.size) (.ref d) .none) _ _ _;refine wpAny_bind (wpAny_updateSeq hS rfl ?_);have hS2:=Heap.get?_update_self (Obj.mapSeq λ_=>(#[]:Array Value)) hS rfl;refine wpAny_bind (wpAny_letGo ?_);generalize hh2:(s.heap.push {cls:=.type "list",data:=.seq #[]}).update s.heap.objs.size (Obj.mapSeq λ_=>(#[]:Array Value))=h2 at hS2;have k2:∀b u,s.heap.get? b=some u->h2.get? b=some u:=λb u e=>by rw[←hh2];exact(Heap.get?_update_other _ _ (Nat.ne_of_gt (Heap.lt_size e))).trans (Heap.get?_push_of_some _ e)
 have z2:s.heap.objs.size<h2.objs.size:=Heap.lt_size hS2;unfold Builtin.List.listExtendWith;refine wpAny_bind (wpAny_typeOf (T:="dict") ⟨o,k2 _ _ ho,hc.1⟩ ?_);have n1:Builtin.List.listSameRef (.ref s.heap.objs.size) (.ref d)=false:=by simp[Builtin.List.listSameRef];exact Nat.ne_of_gt hlt
 rw[if_neg (by rw[n1];decide)];refine wpAny_bind (zmj (k2 _ _ ho) hc hd hs ?_);refine wpAny_bind (wpAny_holding (zob (Heap.get?_push_of_some _ (k2 _ _ ho)) hc ?_));have nd:d≠h2.objs.size:=Nat.ne_of_lt (Nat.lt_trans hlt z2);have W:=Walks.raw (P:=P) (w:=w) (A:=A.in1.in1) hh h2.objs.size d nd o es ep hd;have nf:s.heap.objs.size∉[h2.objs.size,d]:=by simp only[List.mem_cons,List.not_mem_nil,or_false,not_or];exact⟨Nat.ne_of_lt z2,Nat.ne_of_gt hlt⟩
 have fin:∀(h3:Heap) (c:Nat),(∀b u,b≠s.heap.objs.size->(h2.push {cls:=.type "dict_keyiterator",data:=.fields #[.ref d,.int 0 0,.int es.size 0,.int ep 0]}).get? b=some u->h3.get? b=some u)->h3.get? s.heap.objs.size=some {cls:=.type "list",data:=.seq #[] c}->
   codeAny (model P w) A.in1 (.builtin "list.extend.loop" ⟨[.ref s.heap.objs.size,.ref h2.objs.size,.none],[]⟩) (wants (λr s₂=>r=.none/\Q (.ref s.heap.objs.size) s₂) E) {s with heap:=h3}:=λh3 c k3 hS3=>by
  refine codeAny_extend_loopS W.toS hz _ nf _ es.size 0 _ _ _ rfl (Nat.zero_le _) ⟨⟨_,k3 _ _ (Nat.ne_of_gt z2) (Heap.get?_push_size _ rfl),rfl,rfl⟩,k3 _ _ (Nat.ne_of_lt hlt) (Heap.get?_push_of_some _ (k2 _ _ ho))⟩ hS3 (ItemsOf.nil _) λs' acc c' hm hS' ha=>⟨rfl,?_⟩
  rw[Moved.eq_with hm];have ea:acc=es.map (·.key):=by
   refine Array.ext (by rw[ha.1];simp) λj h1 h2=>?_
   have:=ha.2 j acc[j] (by simp[h1]);dsimp only at this;rw[Array.getElem?_eq_getElem (by simpa using h2)]at this;simpa using this.symm
  subst ea;refine q s'.heap s'.toks c' (λb u e=>hm.heap b u (λhb=>?_) (k3 _ _ (Nat.ne_of_lt (Heap.lt_size e)) (Heap.get?_push_of_some _ (k2 _ _ e)))) hS';rcases List.mem_cons.mp hb with z|z
  ·exact absurd (Heap.lt_size e) (by rw[z];exact Nat.lt_irrefl _)
  ·have:=Heap.lt_size e;rw[List.mem_singleton.mp z]at this;exact absurd (Nat.lt_trans this z2) (Nat.lt_irrefl _)
 have hS3:=Heap.get?_push_of_some ({cls:=.type "dict_keyiterator",data:=.fields #[.ref d,.int 0 0,.int es.size 0,.int ep 0]}:Obj) hS2;refine wpAny_ite_split (λ_=>?_) (λ_=>wpAny_pure ⟨plainId_quiet PySem.F.plain_extend_loop _,fin _ _ (λb u _ e=>e) hS3⟩);refine wpAny_bind (wpAny_rule (wpAny_bind ?_));show wpAny _ _ (updateSeq s.heap.objs.size (·.push .none)>>=λ_=>updateSeq s.heap.objs.size (·.pop)) _ _ _;refine wpAny_bind (wpAny_updateSeq hS3 rfl ?_);have hS4:=Heap.get?_update_self (Obj.mapSeq (·.push Value.none)) hS3 rfl;refine wpAny_updateSeq hS4 rfl ?_;have hS5:=Heap.get?_update_self (Obj.mapSeq (·.pop)) hS4 rfl;exact wpAny_pure ⟨plainId_quiet PySem.F.plain_extend_loop _,fin _ _ (λb u hb e=>(Heap.get?_update_other _ _ (Ne.symm hb)).trans ((Heap.get?_update_other _ _ (Ne.symm hb)).trans e)) hS5⟩
end
def nP(H:Hp)(d:Addr)(o:Obj)(kvs:List (zH×V))(ys:List V):Prop:=(∃ks,H d=some (.frz o (.dK ks))/\kvs=yO ks/\ys=gE ks)\/H d=some (.frz o (.dT kvs ys))
theorem nP.rd{d:Addr}(h:nP H d o kvs ys):GRd H d kvs ys:=h.imp (λ⟨ks,e,r⟩=>⟨ks,.inr ⟨o,e⟩,r⟩) λe=>.inr ⟨o,e⟩
section
variable{P:Program}{w:World}{H:Hp}{h:Heap}{d:Addr}{o:Obj}{kvs:List (zH×V)}{ys:List V}
theorem zfh(ok:HOk P w H h)(e:nP H d o kvs ys):h.get? d=some o/\(d==sysModules)=false/\kvs.length<=sizeLine/\∃(es:Array DictEntry) (ep:Nat) (xs:List (zH×Value×Value)),o.ExactDict/\o.data=.dict es ep/\es.toList=xs.map (vR P w)/\zK ys (xs.map (·.2.1))/\es.size=ys.length:=by
 have ho:h.get? d=some o:=by rcases e with⟨ks,e,_⟩|e<;>exact(ok d _ e).1
 obtain⟨z,hs,xs,⟨_,rel⟩,⟨o',es,ep,h1,h2,h3,h4,_⟩,_⟩:=zfg ok e.rd;rw[ho]at h1;cases h1
 exact⟨ho,hs,z,es,ep,xs,h2,h3,h4,rel,by rw[←Array.length_toList,h4,List.length_map,Paired.length rel,List.length_map]⟩
end
def Itg(d:Addr)(o:Obj)(kvs:List (zH×V))(ys:List V):It:=
 ⟨λi H=>nP H d o kvs ys/\i<ys.length,λi H x H'=>H'=H/\ys[i]?=some x,λi H=>nP H d o kvs ys/\i=ys.length⟩
variable{tg:Expr}
theorem zgm{K:Fg}{d it:Addr}(hd:o.data=.dict es ep):
  wY P w K tg (Itg d o kvs ys) [it] it (λi h=>h.IsKeyIter it d i ys.length ep)where
 mem:=by simp
 obj:=λi h st b hb=>by rw[List.mem_singleton.mp hb];obtain⟨o,e,c,d⟩:=st;exact⟨o,e,λv z=>by rw[d]at z;cases z⟩
 keep:=λi h h' st k=>st.at λo e=>k it (by simp) o e
 item:=by
  intro X hP hw hK hc i pins s σ H E I hf st hg;subst hP hw hK;obtain⟨e,hi⟩:=hg;obtain⟨ho,hs,z,es',ep',xs,h2,h3,h4,rel,hz⟩:=zfh I.hok e;rw[hd]at h3;cases h3
  obtain⟨u0,g1,g4⟩:=rel.get (List.getElem?_eq_getElem hi);obtain⟨f0,f1,f2,f3,f4,f5⟩:=hf it (by simp);rw[←hz]at st;refine ziW st ho hd (λe he h' st' sb=>?_) (λe=>by rw[Array.getElem?_eq_getElem (by omega)]at e;cases e);have I1:Inv X pins σ H {s with heap:=h'}:=I.turned (t':=s.toks) (λb o hb e=>(sb.2 b hb).trans e) f0 f1 f3 f4 f5;rw[hz]at st';obtain⟨o',e',c',d'⟩:=id st';have ek:e.key=u0:=by
   rw[gEs h4]at he;rw[List.getElem?_map]at g1;cases ex:xs[i]? with
   |none=>rw[ex]at he;cases he
   |some x0=>rw[ex]at he g1;cases he;cases g1;rfl
  exact⟨e.key,rfl,zhZ (s:={s with heap:=h'}) e' c' d' (by decide) ⟨_,H,I1,by rw[ek];exact g4,⟨rfl,List.getElem?_eq_getElem hi⟩,st',λb hb=>(hf b hb).1⟩⟩
 done:=by
  intro X hP hw hK hc i pins s σ H E I hf st hg;subst hP hw hK;obtain⟨e,hi⟩:=hg;obtain⟨ho,hs,z,es',ep',xs,h2,h3,h4,rel,hz⟩:=zfh I.hok e;rw[hd]at h3;cases h3
  obtain⟨f0,f1,f2,f3,f4,f5⟩:=hf it (by simp);rw[←hz]at st;refine ziW st ho hd (λe he=>?_) λ_=>⟨I.ok.hd hc,λh' eb=>⟨rfl,I.turned (t':=s.toks) (λb o hb e=>eb b o hb e) f0 f1 f3 f4 f5⟩⟩
  rw[Array.getElem?_eq_none (by omega)]at he;cases he
 self:=λ_ _ _ _ _ st h=>wpAny_pyIter_keyiter st h
def znp(tl:TE):TI:=λσ H R=>tl σ H λv H1=>∃d o kvs ys,v=.ref d/\nP H1 d o kvs ys/\R (Itg d o kvs ys) H1
theorem zjd{X:Cx}{l:Expr}{tl:TE}(hl:PE X l tl):PI X tg l (znp tl):=by
 intro pins s σ H R I h;refine thn (hl pins s σ H _ I h) λv s1 h_=>?_
 obtain⟨x,H1,I1,r1,d,o,kvs,ys,ex,e,q⟩:=h_;subst ex;cases r1
 obtain⟨ho,hs,z,es,ep,xs,h2,h3,h4,rel,hz⟩:=zfh I1.hok e;refine zmj ho h2 h3 hs ?_;refine⟨s1.heap.objs.size,[s1.heap.objs.size],_,_,H1,rfl,I1.kept (t':=s1.toks) λb o e=>Heap.get?_push_of_some _ e,zgm h3,⟨_,Heap.get?_push_size _ rfl,rfl,by rw[hz];rfl⟩,λb hb=>?_,q⟩;rw[List.mem_singleton.mp hb];exact I1.fpOk (Nat.le_refl _) (I1.hok.fresh (Nat.le_refl _))
section
variable{X:Cx}
def zod:List V->Hp->VK->Prop:=λxs H Q=>∃p kvs ys,xs=[.ref p]/\GRd H p kvs ys/\Q (.int kvs.length) H
theorem zis:yH X (.builtin "len") zod:=by
 intro pins s σ H xs us Q I rv h;obtain⟨p,kvs,ys,rfl,e,q⟩:=h;obtain⟨u,rfl,ru⟩:=rv.one;cases ru
 obtain⟨z,hs,xs,⟨rel,p2⟩,⟨o,es,ep,h1,h2,h3,h4,_⟩,_⟩:=zfg I.hok e;have hz:es.size=kvs.length:=by rw[←Array.length_toList,h4,List.length_map,Paired.length rel]
 exact zoa h1 h2 h3 hs (by rw[sizeLine_eq]at z;omega) λt=>⟨.int kvs.length,H,I.tok _,⟨t,by rw[hz]⟩,q⟩
def zmk:List V->Hp->VK->Prop:=λxs H Q=>∃p kvs ys,xs=[.ref p]/\GRd H p kvs ys/\∀l,H l=none->Q (.ref l) (upd H l (.lst ys))
theorem zgN(hc:X.calm=true):yH X (.type "list") zmk:=by
 intro pins s σ H xs us Q I rv h;obtain⟨p,kvs,ys,rfl,e,q⟩:=h;obtain⟨u,rfl,ru⟩:=rv.one;cases ru
 obtain⟨z,hs,xs,⟨rel,p2⟩,⟨o,es,ep,h1,h2,h3,h4,_⟩,_⟩:=zfg I.hok e;have hz:es.size=kvs.length:=by rw[←Array.length_toList,h4,List.length_map,Paired.length rel]
 refine znZ (I.ok.hd hc) h1 h2 h3 hs (by omega) λh' tk c' k hS=>?_
 have ek:es.map (·.key)=(xs.map (·.2.1)).toArray:=by apply Array.toList_inj.mp;rw[Array.toList_map,h4,List.map_map];rfl
 rw[ek]at hS;have I2:=I.laid (t':=tk) (a:=s.heap.objs.size) (o:=.lst ys) k (Nat.le_refl _) (show qV X.prog X.w _ _ _ (.lst ys)from⟨by have:=Paired.length p2;have:=Paired.length rel;rw[List.length_map]at*;omega,_,c',p2,hS⟩);exact⟨.ref _,_,I2,rfl,q _ I.fresh⟩
end
def zoc:V->V->V->Hp->(Hp->Prop)->Prop:=λo i v H Q=>(∃a H',o=.ref a/\DPut H a i v H'/\Q H')\/∃a kvs ys k,o=.ref a/\GW H a kvs ys/\kvs.length<sizeLine/\wO H k i/\Q (upd H a (.dT (zW kvs k v) (xO kvs ys k i)))
def znO(td ty tx:TE):TE:=λσ H Q=>td σ H λx H1=>∃a kv0 ys0,x=.ref a/\GRd H1 a kv0 ys0/\ty σ H1 λy H2=>tx σ H2 λz H3=>
 (∃kvs k,H3 a=some (.dK kvs)/\y=kV k/\kvs.length<sizeLine/\(∀v,qO kvs k=some v->Q v H3)/\(qO kvs k=none->Q z (upd H3 a (.dK (zW kvs k z)))))\/
 ∃kvs ys k,GW H3 a kvs ys/\wO H3 k y/\kvs.length<sizeLine/\(∀v,qO kvs k=some v->Q v H3)/\(qO kvs k=none->Q z (upd H3 a (.dT (zW kvs k z) (xO kvs ys k y))))
section
variable{X:Cx}{o e f:Expr}{td ty tx:TE}{apos cpos:Pos}
theorem zmq(hu:X.A.units+1<cLine):PSet X zoc:=by
 intro pins s σ H o i v ov iv u Q I ro ri rv h;rcases h with⟨a,H',rfl,g,q⟩|⟨a,kvs,ys,k,rfl,g,hl,ky,q⟩
 ·cases ro
  exact zil hu I g ri rv λs' I'=>⟨H',I',q⟩
 ·cases ro
  exact zos hu I g hl ky ri rv λs' I'=>⟨_,I',q⟩
theorem zkQ(hu:X.A.units+1<cLine)(ho:PE X o td)(he:PE X e ty)(hf:PE X f tx)(m:M2 X o "setdefault" apos e f cpos):PE X (.Call (.Attribute o "setdefault" apos) [e,f] [] cpos) (znO td ty tx):=by
 intro pins s σ H Q I h;refine wpAny_Call_method m.base m.few m.line PySem.F.plainAttrs_dict PySem.F.slot_dict_setdefault PySem.F.type_dict_setdefault (thn (ho pins s σ H _ I h) λu s1 ⟨x,H1,I1,rx,a,kv0,ys0,ex,d,q1⟩=>?_);subst ex;obtain rfl:u=Value.ref a:=rx;obtain⟨t1,t2⟩:=g_ty I1 d;refine⟨t1,t2,?_⟩;rw[m.trees];refine Calls.callWith_builtin rfl (Calls.evalArgs_plain (Calls.spliced_cons (thn (he pins s1 σ H1 _ I1 q1) λiv s2 ⟨y,H2,I2,ry,q2⟩=>
  Calls.spliced_cons (thn (hf pins s2 σ H2 _ I2 q2) λfv s3 ⟨z,H3,I3,rz,q3⟩=>Calls.spliced_nil ?_))))
 rcases q3 with⟨kvs,k,ea,ey,hl,q3,q4⟩|⟨kvs,ys,k,ea,ky,hl,q3,q4⟩
 ·subst ey;exact FL.d_setdef I3 ea hl ry rz (λv hv w' s4 I4 rw'=>⟨v,H3,I4,rw',q3 v hv⟩) λhn s4 I4=>⟨z,_,I4,rz,q4 hn⟩
 ·exact zot hu I3 ea hl ky ry rz (λv hv w' s4 I4 rw'=>⟨v,H3,I4,rw',q3 v hv⟩) λhn s4 I4=>⟨z,_,I4,rz,q4 hn⟩
end
end L2
namespace FL
open L2
noncomputable def gF:List D->Option (List Key)
 |[]=>some []
 |d::l=>(qH d).bind λk=>(gF l).map (k::·)
noncomputable def wH:D->Option zH
 | .tup l=>(gF l).map .inr
 |d=>(qH d).map .inl
def zZ(kvs:List (zH×V)):List KD:=kvs.map λp=>gkD p.1
variable{F H:Hp}{v y:V}{a:Addr}{ks:List KD}
section
variable{K:Fg}{X:Cx}{pos:Pos}
theorem zff:∀{a b:zH},gkD a=gkD b->a=b
 | .inl a,.inl b,h=>congrArg _ (zdK h)
 | .inl a,.inr b,h=>by cases a<;>cases h
 | .inr a,.inl b,h=>by cases b<;>cases h
 | .inr a,.inr b,h=>by cases h;rfl
theorem zdo:∀{l:List D}{ks:List Key} {F:Hp}{vs:List V},gF l=some ks->zC K F l vs->vs=ks.map kV
 |[],ks,F,vs,h,r=>by cases h;exact r.nil_inv
 |d::l,ks,F,vs,h,r=>by
  obtain⟨v,vs,rfl,r1,r2⟩:=r.cons_inv;simp only[gF]at h;cases e:qH d with
  |none=>rw[e]at h;cases h
  |some k=>
   cases e2:gF l with
   |none=>rw[e,e2]at h;cases h
   |some ks'=>
    rw[e,e2]at h;cases h
    rw[List.map_cons,←nF e r1,←zdo e2 r2]
theorem zcF{d:D}{k:zH}(h:wH d=some k)(r:Dat K F d v)(s:zG F H):wO H k v/\kL F (gkD k) v:=by
 have atom:(qH d).map (Sum.inl:Key->zH)=some k->wO H k v/\kL F (gkD k) v:=λh=>by
  cases e:qH d with
  |none=>rw[e]at h;cases h
  |some k'=>rw[e]at h;cases h;exact⟨nF e r,by rw[nF e r];cases k'<;>rfl⟩
 cases d with
 |tup l=>
  simp only[wH]at h;cases e:gF l with
  |none=>rw[e]at h;cases h
  |some ks=>
   rw[e]at h;cases h
   obtain⟨a,vs,rfl,f,q⟩:=r.tup_inv;rw[zdo e q]at f;exact⟨⟨a,rfl,s _ _ f⟩,a,rfl,f⟩
 |_=>exact atom h
theorem zcd{F:Hp}(k:zH):∀(kvs:List (zH×V)) (ds:List D),zC K F ds (kvs.map (·.2))->(qJ (zZ kvs) ds (gkD k)=none/\qO kvs k=none)\/∃d v,qJ (zZ kvs) ds (gkD k)=some d/\qO kvs k=some v/\Dat K F d v
 |[],ds,h=>.inl ⟨by simp[qJ,zZ],rfl⟩
 |(a,v)::kvs,[],h=>by have:=h.nil_inv;simp at this
 |(a,v)::kvs,d::ds,h=>by
  obtain⟨v',r,e,h1,h2⟩:=h.cons_inv;simp at e;obtain⟨rfl,rfl⟩:=e;by_cases hk:a=k
  ·subst hk;exact .inr ⟨d,v,by simp[qJ,zZ],nS rfl,h1⟩
  ·have hk':¬gkD a=gkD k:=λz=>hk (zff z)
   rw[show qJ (zZ ((a,v)::kvs)) (d::ds) (gkD k)=qJ (zZ kvs) ds (gkD k) by simp[qJ,zZ,List.find?_cons,hk'],nT (p:=(a,v)) hk];exact zcd k kvs ds h2
theorem zgh(k:zH):∀kvs:List (zH×V),((zZ kvs).any λx=>decide (x=gkD k))=(kvs.any λkv=>decide (kv.1=k))
 |[]=>rfl
 |(a,v)::kvs=>by
  have ih:=zgh k kvs;by_cases hk:a=k
  ·subst hk;simp[zZ]
  ·have hk':¬gkD a=gkD k:=λz=>hk (zff z)
   simp only[zZ,List.map_cons,List.any_cons,hk',hk,decide_false,Bool.false_or];exact ih
theorem zfB(k:zH){d:D}(hd:Dat K F d v):∀(kvs:List (zH×V)) (ds:List D),zC K F ds (kvs.map (·.2))->
  zC K F (((zZ kvs).zip ds).map λp=>if p.1=gkD k then d else p.2) ((kvs.map λkv=>if kv.1=k then(kv.1,v)else kv).map (·.2))
 |[],ds,h=>by simp[zZ];exact zC.nil
 |(a,u)::kvs,[],h=>by have:=h.nil_inv;simp at this
 |(a,u)::kvs,c::ds,h=>by
  obtain⟨v',r,e,h1,h2⟩:=h.cons_inv;simp at e;obtain⟨rfl,rfl⟩:=e;have ih:=zfB k hd kvs ds h2;simp only[zZ,List.map_cons,List.zip_cons_cons];by_cases hk:a=k
  ·subst hk;rw[if_pos rfl,if_pos rfl];exact zC.cons hd ih
  ·have hk':¬gkD a=gkD k:=λz=>hk (zff z)
   rw[if_neg hk',if_neg hk];exact zC.cons h1 ih
theorem ziY{F:Hp}(k:zH){d:D}(hd:Dat K F d v)(kvs:List (zH×V))(ds:List D)(h:zC K F ds (kvs.map (·.2))):
  (kX (zZ kvs) ds (gkD k) d).1=zZ (zW kvs k v)/\zC K F (kX (zZ kvs) ds (gkD k) d).2 ((zW kvs k v).map (·.2)):=by
 unfold kX zW;rw[zgh];split
 ·refine⟨?_,zfB k hd kvs ds h⟩;unfold zZ;rw[List.map_map];apply List.map_congr_left;intro p _;simp only[Function.comp]
  split<;>rfl
 ·exact⟨by simp[zZ],by rw[List.map_append];exact h.snoc hd⟩
theorem zaw(ks:List (Key×V)):zZ (yO ks)=kds ks:=by unfold zZ yO kds;rw[List.map_map];rfl
theorem zaG(ks:List (Key×V)):(yO ks).map (·.2)=ks.map (·.2):=by unfold yO;rw[List.map_map];rfl
theorem zak:∀ks:List (Key×V),Paired (kL F) (kds ks) (gE ks)
 |[]=>.nil
 |(.inl i,v)::ks=>.cons rfl (zak ks)
 |(.inr x,v)::ks=>.cons rfl (zak ks)
theorem zgb{vs:List V}(h:DicB F H a ks vs):∃kvs ys,GRd H a kvs ys/\ks=zZ kvs/\vs=kvs.map (·.2)/\Paired (kL F) ks ys:=by
 rcases h with(⟨kvs,h,rfl,e2⟩|⟨kvs,ys,h,⟨e1,e3⟩,e2,e4⟩)|⟨o,⟨kvs,h,rfl,e2⟩|⟨kvs,ys,h,⟨e1,e3⟩,e2,e4⟩⟩
 ·exact⟨yO kvs,gE kvs,.inl ⟨kvs,.inl h,rfl,rfl⟩,(zaw kvs).symm,by rw[zaG];exact e2,zak kvs⟩
 ·exact⟨kvs,ys,.inr (.inl h),e1,e2,e4⟩
 ·exact⟨yO kvs,gE kvs,.inl ⟨kvs,.inr ⟨o,h⟩,rfl,rfl⟩,(zaw kvs).symm,by rw[zaG];exact e2,zak kvs⟩
 ·exact⟨kvs,ys,.inr (.inr ⟨o,h⟩),e1,e2,e4⟩
theorem znB{vs:List V}(h:gP F H a ks vs):∃o kvs ys,nP H a o kvs ys/\ks=zZ kvs/\vs=kvs.map (·.2)/\Paired (kL F) ks ys:=by
 obtain⟨o,⟨kvs,h,rfl,e2⟩|⟨kvs,ys,h,⟨e1,e3⟩,e2,e4⟩⟩:=h
 ·exact⟨o,yO kvs,gE kvs,.inl ⟨kvs,h,rfl,rfl⟩,(zaw kvs).symm,by rw[zaG];exact e2,zak kvs⟩
 ·exact⟨o,kvs,ys,.inr h,e1,e2,e4⟩
noncomputable def wJ(x y:D):Option D:=match x,wH y with
 | .dic ks ds,some k=>qJ ks ds (gkD k)
 |_,_=>none
theorem fixG{a b:Expr}{fa fb:EO D}(hu:X.A.units+100<cLine)(ha:FP K .br X a fa)(hb:FP K .fz X b fb)(hs:NoSl b):FP K .fz X (.Subscript a b pos) (c2 wJ fa fb):=FP.mk λρ d hf=>by
 obtain⟨x,y,e1,e2,e3⟩:=nM hf;refine PE.imp (zkR (by omega) (ha.h ρ x e1) (hb.h ρ y e2) hs) λσ H Q h_=>?_
 obtain⟨F,rl,q⟩:=h_;unfold wJ at e3;split at e3
 ·rename_i ks ds k ek;refine⟨F,rl,λv F1 H1 g1 r1=>⟨F1,rl.grow g1,λu F2 H2 g2 r2=>?_⟩⟩;obtain⟨a,vs,rfl,f1,q1⟩:=zO.dic_inv (zO.mono g2.ff g2.hh r1);obtain⟨kvs,ys,h1,rfl,rfl,_⟩:=zgb f1;rcases zcd (K:=K) (F:=F2) k kvs ds q1 with⟨n1,n2⟩|⟨d',v,n1,n2,n3⟩
  ·rw[n1]at e3;cases e3
  ·rw[n1]at e3;cases e3
   exact⟨a,kvs,ys,k,v,rfl,h1,(zcF ek r2 g2.fh).1,n2,q _ F2 H2 (g1.trans g2) n3⟩
 ·cases e3
abbrev wR(ρ:En)(i:Nat)(pp:Bool)(ks:List KD)(ds:List D)(k:zH)(d:D):En:=ρ.set i (some (.ow pp (.dic (kX ks ds (gkD k) d).1 (kX ks ds (gkD k) d).2)))
theorem zhQ{kvs:List (zH×V)}{ys:List V}{k:zH}(h:Paired (kL F) (zZ kvs) ys)(hk:kL F (gkD k) y):Paired (kL F) (zZ (zW kvs k v)) (xO kvs ys k y):=by
 unfold xO;cases e:qO kvs k with
 |none=>rw[zfC v e];unfold zZ;rw[List.map_append];exact Paired.snoc h hk
 |some x=>
  have:zZ (zW kvs k v)=zZ kvs:=by unfold zW;rw[zce,e,if_pos (show(some x).isSome=true from rfl)];unfold zZ;rw[List.map_map];exact List.map_congr_left λp _=>by simp only[Function.comp];split<;>rfl
  rw[this];exact h
theorem zhz{ρ:En}{σ:St}{i:Nat}{pp:Bool}{ds:List D}{k:zH}{d:D}(rl:Rel K F H ρ σ)(e1:ρ[i]?=some (some (.ow pp (.dic ks ds))))(hσ:σ[i]?=some (some (.ref a)))(ky:wO H k y/\kL F (gkD k) y)(hl:ks.length<lim)(hd:Dat K F d v):
  (∃kvs ys,GW H a kvs ys/\kvs.length<sizeLine/\ks=zZ kvs/\zC K F ds (kvs.map (·.2))/\
   (Rel K F (upd H a (.dT (zW kvs k v) (xO kvs ys k y))) (wR ρ i pp ks ds k d) σ/\qI ρ σ F H (wR ρ i pp ks ds k d) σ F (upd H a (.dT (zW kvs k v) (xO kvs ys k y)))))\/
  ∃kv k0,k=.inl k0/\y=kV k0/\H a=some (.dK kv)/\kv.length<sizeLine/\ks=kds kv/\zC K F ds (kv.map (·.2))/\
   (Rel K F (upd H a (.dK (zW kv k0 v))) (wR ρ i pp ks ds k d) σ/\qI ρ σ F H (wR ρ i pp ks ds k d) σ F (upd H a (.dK (zW kv k0 v)))):=by
 obtain⟨a',g1,g2,vs,g3,g4⟩:=rl.own i pp _ e1;rw[hσ]at g1;cases g1
 have tupIn:∀{kvs:List (zH×V)},(∃l,KD.tup l∈zZ kvs)\/(∃l,k=.inr l)->∃l,KD.tup l∈zZ (zW kvs k v):=λ{kvs} h=>by
  unfold zW;split
  ·rename_i z;have e:zZ (kvs.map λkv=>if kv.1=k then(kv.1,v)else kv)=zZ kvs:=by unfold zZ;rw[List.map_map];exact List.map_congr_left λp _=>by simp only[Function.comp];split<;>rfl
   rw[e];rcases h with h|⟨l,rfl⟩
   ·exact h
   ·obtain⟨p,hp,e⟩:=List.any_eq_true.mp z;exact⟨l,List.mem_map.mpr ⟨p,hp,by rw[of_decide_eq_true e];rfl⟩⟩
  ·unfold zZ;rw[List.map_append];rcases h with⟨l,h⟩|⟨l,rfl⟩
   ·exact⟨l,List.mem_append.mpr (.inl h)⟩
   ·exact⟨l,List.mem_append.mpr (.inr (by simp[gkD]))⟩
 have gen:∀kvs ys,GW H a kvs ys->ks=zZ kvs->vs=kvs.map (·.2)->Paired (kL F) ks ys->((∃l,KD.tup l∈zZ kvs)\/∃l,k=.inr l)->kvs.length<sizeLine/\zC K F ds (kvs.map (·.2))/\
   (Rel K F (upd H a (.dT (zW kvs k v) (xO kvs ys k y))) (wR ρ i pp ks ds k d) σ/\qI ρ σ F H (wR ρ i pp ks ds k d) σ F (upd H a (.dT (zW kvs k v) (xO kvs ys k y)))):=by
  rintro kvs ys w rfl rfl kf ht;have hl':kvs.length<sizeLine:=by
   have:(zZ kvs).length=kvs.length:=by simp[zZ]
   exact zdl (by omega)
  obtain⟨m0,m00⟩:=ziY (K:=K) (F:=F) k hd kvs ds g4;exact⟨hl',g4,rl.mut (i:=i) (o:=.dT (zW kvs k v) (xO kvs ys k y)) e1 hσ ⟨_,.inr ⟨zW kvs k v,xO kvs ys k y,qK,⟨m0,by rw[m0];exact tupIn ht⟩,rfl,by rw[m0];exact zhQ kf ky.2⟩,m00⟩⟩
 rcases g3 with⟨kv,g,rfl,rfl⟩|⟨kvs,ys,g,⟨ek,et⟩,rfl,kf⟩
 ·cases k with
  |inl k0=>
   refine .inr ⟨kv,k0,rfl,ky.1,g,?_,rfl,g4,?_⟩
   ·have:(kds kv).length=kv.length:=by simp[kds]
    exact zdl (by rw[←this];exact Nat.le_of_lt hl)
   ·obtain⟨m0,m00⟩:=zhm (K:=K) (F:=F) k0 hd kv ds g4;exact rl.mut (i:=i) (o:=.dK (zW kv k0 v)) e1 hσ ⟨_,.inl ⟨zW kv k0 v,qK,m0,rfl⟩,m00⟩
  |inr l=>
   have w:GW H a (yO kv) (gE kv):=.inl ⟨kv,g,rfl,rfl⟩;obtain⟨x1,x2,x3⟩:=gen (yO kv) _ w (zaw kv).symm (zaG kv).symm (zak kv) (.inr ⟨l,rfl⟩);exact .inl ⟨yO kv,_,w,x1,(zaw kv).symm,x2,x3⟩
 ·have w:GW H a kvs ys:=.inr g;obtain⟨x1,x2,x3⟩:=gen kvs ys w ek rfl kf (.inl (by rw[show zZ kvs=ks from ek.symm];exact et));exact .inl ⟨kvs,ys,w,x1,ek,x2,x3⟩
end
section
variable{K:Fg}{X:Cx}
end
noncomputable def upX(f:EO D):EO (D×En):=λρ=>(f ρ).map λd=>(d,ρ)
noncomputable def zho(i:Nat)(k:zH)(d:D):EO Fl:=λρ=>match ρ[i]? with
 |some (some (.ow pp (.dic ks ds)))=>if ks.length<lim then some (.nx (ρ.set i (some (.ow pp (.dic (kX ks ds (gkD k) d).1 (kX ks ds (gkD k) d).2)))))else none
 |_=>none
noncomputable def nY(i:Nat)(fk:EO D)(m:EO (D×En)):EO Fl:=λρ=>(m ρ).bind λq=>((fk q.2).bind wH).bind λk=>zho i k q.1 q.2
noncomputable def sdfG(i:Nat)(fe ff:EO D):EO (D×En):=λρ=>match ρ[i]?,(fe ρ).bind wH,ff ρ with
 |some (some (.ow pp (.dic ks ds))),some k,some z=>if ks.length<lim then(match qJ ks ds (gkD k)with
  |some d=>some (d,ρ)
  |none=>some (z,ρ.set i (some (.ow pp (.dic (kX ks ds (gkD k) z).1 (kX ks ds (gkD k) z).2)))))else none
 |_,_,_=>none
variable{e:Expr}{f:EO D}{x:Str}{p:Pos}
section
variable{K:Fg}{X:Cx}{pos:Pos}
theorem xup(h:FP K .fz X e f):FX K X e (upX f):=FX.mk λρ d ρ' hf=>by
 unfold upX at hf;cases e1:f ρ with
 |none=>rw[e1]at hf;cases hf
 |some d'=>
  rw[e1]at hf;cases hf
  exact PE.imp (h.h ρ d e1) λσ H Q ⟨F,r,q⟩=>⟨F,r,λv F' H' g hr=>q v F' H' (r.grow g) g.step hr⟩
theorem zka{md:Md}(i:Nat){p2:Pos}{ke:Expr}{fk:EO D}{m:EO (D×En)}(hu:X.A.units+100<cLine)(he:FX K X e m)(hk:FP K .fz X ke fk)(hN:X.N[i]?=some x:=by rfl)(hv:Vis X.env.scope x:=by first|exact Or.inl rfl|exact Or.inr (Or.inl rfl)|exact Or.inr (Or.inr rfl))(hd:(x==("__debug__":Str))=false:=by decide)(hcd:(x==("__classdict__":Str))=false:=by decide)(H1:∀{to ti:TE}{t:TSet},PE X (.Name x p) to->PE X ke ti->PSet X t->PG X (.Subscript (.Name x p) ke p2) (gSub to ti t):=by exact λa b c=>zmx a b c)(hs:swapsWithSole [.Subscript (.Name x p) ke p2] e pos.line X.env=pure false:=by rfl)(hw:swappedStores [.Subscript (.Name x p) ke p2] e X.env=pure none:=by rfl)(h1:(assignEach [.Subscript (.Name x p) ke p2] X.env).map (·.2)=[assign (.Subscript (.Name x p) ke p2) X.env]:=by rfl)(hK:X.K=K:=by rfl):
  FS K md X (.Assign [.Subscript (.Name x p) ke p2] e pos) (nY i fk m):=FS.mk λρ0 fl hf=>by
 subst hK;unfold nY at hf;cases e0:m ρ0 with
 |none=>rw[e0]at hf;cases hf
 |some q0=>
 obtain⟨d,ρ⟩:=q0;rw[e0]at hf;simp only[Option.bind_some]at hf;cases e4:fk ρ with
 |none=>rw[e4]at hf;cases hf
 |some y=>
 rw[e4]at hf;simp only[Option.bind_some]at hf;cases e3:wH y with
 |none=>rw[e3]at hf;cases hf
 |some k=>
 rw[e3]at hf;simp only[Option.bind_some]at hf;unfold zho at hf;split at hf
 ·rename_i pp ks ds e1;obtain⟨hk2,hf⟩:=kQ hf;cases hf
  refine PS.imp (zhq (he.h ρ0 d ρ e0) (H1 (wE hN hv hd hcd) (hk.h ρ y e4) (zmq (by omega))) hs hw h1) λD σ H h_=>?_
  obtain⟨F,r,q⟩:=h_;refine⟨F,r,λv F1 H1 rl1 s1 r1=>?_⟩;obtain⟨a,h1,h2,h3⟩:=rl1.own i pp _ e1;refine⟨_,h1,F1,rl1,λu F2 H2 g2 r2=>?_⟩;have rg:=rl1.grow g2;have ky:=zcF (K:=X.K) e3 r2 g2.fh;rcases zhz rg e1 h1 ky hk2 (Dat.mono g2.ff r1)with⟨kvs,ys,w,hl,_,_,m1,m2⟩|⟨kv,k0,rfl,rfl,g,hl,_,_,m1,m2⟩
  ·exact .inr ⟨a,kvs,ys,k,rfl,w,hl,ky.1,q σ _ _ m1 ((s1.trans g2.step r.sub).trans m2 r.sub)⟩
  ·exact .inl ⟨a,_,rfl,DPut.k g hl,q σ _ _ m1 ((s1.trans g2.step r.sub).trans m2 r.sub)⟩
 ·cases hf
theorem ziI(i:Nat){apos cpos:Pos}{f:Expr}{fe ff:EO D}(hu:X.A.units+100<cLine)(he:FP K .fz X e fe)(hf:FP K .fz X f ff)(hN:X.N[i]?=some x:=by rfl)(hv:Vis X.env.scope x:=by first|exact Or.inl rfl|exact Or.inr (Or.inl rfl)|exact Or.inr (Or.inr rfl))(hd:(x==("__debug__":Str))=false:=by decide)(hcd:(x==("__classdict__":Str))=false:=by decide)(m1:attributeBase (.Name x p) "setdefault" X.env (eval (.Name x p) X.env)=eval (.Name x p) X.env:=by rfl)(m2:((backTo cpos (starEach [e,f] X.env)).all (λx=>!x.1)&&(backToKw cpos (keywordEach [] X.env)).all (λx=>x.1.isSome)&&decide (([e,f]:List Expr).length+([]:List Keyword).length+(if([]:List Keyword).isEmpty then 0 else 1)<30))=true:=by rfl)(m3:(apos.endLine==cpos.line)=true:=by rfl)(m4:backTo cpos (starEach [e,f] X.env)=[(false,eval e X.env),(false,eval f X.env)]:=by rfl)(hK:X.K=K:=by rfl):
  FX K X (.Call (.Attribute (.Name x p) "setdefault" apos) [e,f] [] cpos) (sdfG i fe ff):=FX.mk λρ d ρ' hm=>by
 subst hK;unfold sdfG at hm;split at hm
 ·rename_i pp ks ds k z e1 e2 e3;obtain⟨hk,hm⟩:ks.length<lim/\_:=by
   split at hm
   ·rename_i hz;exact⟨hz,hm⟩
   ·cases hm
  cases e4:fe ρ with
  |none=>rw[e4]at e2;cases e2
  |some y=>
   rw[e4]at e2;have e2:wH y=some k:=e2;refine PE.imp (zkQ (by omega) (wE hN hv hd hcd) (he.h ρ y e4) (hf.h ρ z e3) ⟨m1,m2,m3,m4⟩) λσ H Q h_=>?_
   obtain⟨F,r,q⟩:=h_;obtain⟨a,h1,h2,vs0,h3,h4⟩:=r.own i pp _ e1;obtain⟨kvs0,ys0,g0,_,_⟩:=zgb (.inl h3);refine⟨_,h1,a,kvs0,ys0,rfl,g0,F,r,λv F1 H1 g1 r1=>⟨F1,r.grow g1,λu F2 H2 g2 r2=>?_⟩⟩;have rg:=(r.grow g1).grow g2;have ky:=zcF (K:=X.K) e2 (Dat.mono g2.ff r1) g2.fh;have st:=(g1.trans g2).step (ρ:=ρ) (σ:=σ);have old:∀{kvs:List (zH×V)},ks=zZ kvs->zC X.K F2 ds (kvs.map (·.2))->∀v',qO kvs k=some v'->Q v' H2:=λ{kvs} ek dd v' hv'=>by
    subst ek;rcases zcd (K:=X.K) (F:=F2) k kvs ds dd with⟨n1,n2⟩|⟨d',w,n1,n2,n3⟩
    ·rw[n2]at hv';cases hv'
    ·rw[n2]at hv';cases hv'
     rw[n1]at hm;cases hm
     exact q _ F2 H2 rg st n3
   have new:∀{kvs:List (zH×V)},ks=zZ kvs->zC X.K F2 ds (kvs.map (·.2))->qO kvs k=none->some (z,ρ.set i (some (.ow pp (.dic (kX ks ds (gkD k) z).1 (kX ks ds (gkD k) z).2))))=some (d,ρ'):=λ{kvs} ek dd hn=>by
    subst ek;rcases zcd (K:=X.K) (F:=F2) k kvs ds dd with⟨n1,n2⟩|⟨d',w,n1,n2,n3⟩
    ·rw[n1]at hm;exact hm
    ·rw[n2]at hn;cases hn
   rcases zhz rg e1 h1 ky hk r2 with⟨kvs,ys,w,hl,ek,dd,m1,m2⟩|⟨kv,k0,rfl,ey,g,hl,ek,dd,m1,m2⟩
   ·refine .inr ⟨kvs,ys,k,w,ky.1,hl,old ek dd,λhn=>?_⟩;cases new ek dd hn
    exact q _ F2 _ m1 (st.trans m2 r.sub) r2
   ·have ek':ks=zZ (yO kv):=by rw[zaw];exact ek
    have dd':zC X.K F2 ds ((yO kv).map (·.2)):=by rw[zaG];exact dd
    have vl:qO (yO kv) (.inl k0)=qO kv k0:=by
     clear ek dd ek' dd' m1 m2 g hl;induction kv with
     |nil=>rfl
     |cons p r ih=>
      by_cases e:p.1=k0
      ·rw[nS e];exact nS (p:=((Sum.inl p.1:zH),p.2)) (congrArg _ e)
      ·rw[nT e,←ih];exact nT (p:=((Sum.inl p.1:zH),p.2)) λc=>e (Sum.inl.inj c)
    refine .inl ⟨kv,k0,g,ey,hl,λv' hv'=>old ek' dd' v' (by rw[vl];exact hv'),λhn=>?_⟩;cases new ek' dd' (by rw[vl];exact hn)
    exact q _ F2 _ m1 (st.trans m2 r.sub) r2
 ·cases hm
noncomputable def lenG:LO
 |[.dic ks _]=>some (.int ks.length)
 |_=>none
theorem znE:wZ K X (.builtin "len") .fz lenG:=by
 refine⟨_,zis,λds d F H vs Q e s h k=>?_⟩;unfold lenG at e;split at e
 ·cases e
  obtain⟨v,rfl,h1⟩:=h.one;obtain⟨a,vs,rfl,f1,q1⟩:=zO.dic_inv h1;obtain⟨kvs,ys,h2,rfl,rfl,_⟩:=zgb f1;refine⟨a,kvs,ys,rfl,h2,?_⟩
  have:=k (.int kvs.length) F H (zE.refl s);rw[show(zZ kvs).length=kvs.length by simp[zZ]]at this;exact this (Dat.int (K:=K) (F:=F) _)
 ·cases e
noncomputable def zjx:LO
 |[.dic ks _]=>some (.lst (ks.map kdD))
 |_=>none
theorem zlk{l:List Key}:zC K F (l.map λk=>match k with| .inl i=>D.int i| .inr x=>D.str x) (l.map kV):=by
 induction l with
 |nil=>exact zC.nil
 |cons k l ih=>
  cases k with
  |inl i=>exact zC.cons (Dat.int i) ih
  |inr x=>exact zC.cons (Dat.str x) ih
theorem kL.dat:∀{k:KD},kL F k y->Dat K F (kdD k) y
 | .int i,e=>by have e:y=.int i:=e;subst e;exact Dat.int i
 | .str x,e=>by have e:y=.str x:=e;subst e;exact Dat.str x
 | .tup l,⟨b,e,h⟩=>by subst e;exact Dat.tup h zlk
theorem KeysF.dat:∀{ks:List KD}{ys:List V},Paired (kL F) ks ys->zC K F (ks.map kdD) ys
 |_,_,.nil=>zC.nil
 |_,_,.cons r t=>zC.cons r.dat (KeysF.dat t)
theorem zlD(hc:X.calm=true):wZ K X (.type "list") .ow zjx:=by
 refine⟨_,zgN hc,λds d F H vs Q e s h k=>?_⟩;unfold zjx at e;split at e
 ·cases e
  obtain⟨v,rfl,h1⟩:=h.one;obtain⟨a,vs,rfl,f1,q1⟩:=zO.dic_inv h1;obtain⟨kvs,ys,h2,rfl,rfl,kf⟩:=zgb f1;exact⟨a,kvs,ys,rfl,h2,λl hl=>k _ _ _ (zE.fresh s hl) ⟨l,rfl,hl,s.free hl,ys,qK,KeysF.dat kf⟩⟩
 ·cases e
noncomputable def itKG:D->Option (List D)
 | .dic ks _=>some (ks.map kdD)
 |_=>none
noncomputable def cKG(f:EO D):EO (List D):=λρ=>(f ρ).bind itKG
theorem znm{tg l:Expr}(h:FP K .fz X l f):FI K X tg l (cKG f):=FI.mk λρ ds hf=>by
 unfold cKG at hf;cases e1:f ρ with
 |none=>rw[e1]at hf;cases hf
 |some d=>
  rw[e1]at hf;have hf:itKG d=some ds:=hf;cases d<;>simp only[itKG]at hf<;>try(cases hf;done)
  cases hf
  refine PI.imp (zjd (h.h ρ _ e1)) λσ H R ⟨F,r,q⟩=>⟨F,r,λv F1 H1 g1 r1=>?_⟩
  obtain⟨a,vs,rfl,f1,q1⟩:=Dat.dic_inv (K:=K) (F:=F1) r1;obtain⟨o,kvs,ys,f2,rfl,rfl,kf⟩:=znB f1;have up:∀{F2:Hp},zG F1 F2->nP F2 a o kvs ys:=λs=>f2.imp (λ⟨ks,e,r⟩=>⟨ks,s _ _ e,r⟩) λe=>s _ _ e
  have dl:=KeysF.dat (K:=K) kf;have hl:=dl.length;refine⟨a,o,kvs,ys,rfl,up g1.fh,q _ F1 H1 g1 λF2 H2 s2 h2=>⟨λi hi=>⟨up (s2.trans h2),by omega⟩,λi x H3 d hd y=>?_,⟨up (s2.trans h2),hl.symm⟩⟩⟩;obtain⟨rfl,e2⟩:=y;obtain⟨d',e3,e4⟩:=dl.get' e2;rw[hd]at e3;cases e3
  exact⟨F2,zE.refl h2,e4.mono s2⟩
end
end FL
namespace L2
section
variable{X:Cx}{pins:AO}{σ:St}{scope:Scope}{tg zM elt:Expr}{pos:Pos}{te:TE}
noncomputable def actS(elt:Expr):Value->Env->Sem Unit:=λacc env=>do
 let v ←eval elt env
 standAt elt.pos
 let _ ←call (.builtin "set.add") [acc,v]
theorem znD:zaW X (.SetComp elt [⟨tg,zM,[],0⟩] scope pos) tg zM [] (newSet (.type "set")) (actS elt) (.sei [])where
 new:=λpins σ H s Q E I h=>by unfold newSet;refine wpAny_bind (TS.byText (wpAny_newObj_type ?_));exact h (TS.fresh X.w) (I.laid (a:=s.heap.objs.size) (o:=.sei []) (t':=s.toks) (λ_ _ q=>Heap.get?_push_of_some _ q) (Nat.le_refl _) (show qV X.prog X.w _ _ _ (.sei [])from TS.fresh_St (Heap.get?_push_size _ rfl)))
 turn:=λit D env=>by rfl
 loop:=λA it D env Q E s h=>h
 start:=λ{it acc env A R s} h0 h=>by
  refine codeAny_of_tree ?_;show wpAny _ A ((compStart (.SetComp elt [⟨tg,zM,[],0⟩] scope pos) 0 it acc env).onRaise λx=>do noteFrame x env;standAt theWindowsPlace) _ _ s;refine wpAny_notedAt ?_;unfold compStart;show wpAny _ A (ask>>=_) _ _ s;refine wpAny_bind (wpAny_askSetting (wpAny_ite ?_));split
  ·first
    |exact wpAny_bind (wpAny_pure (wpAny_pure (And.intro rfl h0)))
    |exact wpAny_pure (And.intro rfl h0)
  ·refine wpAny_bind (wpAny_rule ?_);show wpAny _ _ (standAt zM.pos>>=_) _ _ s;exact wpAny_bind (wpAny_standAt (wpAny_bind (wpAny_mono h (λit' s' h'=>wpAny_pure (And.intro rfl h')) λ_ _ x=>x)))
def taS(te:TE)(D:Addr):gM:=λσ H Q=>te σ H λv H4=>∃acc i,v=.int i/\H4 D=some (.sei acc)/\acc.length+1<scanBound/\Q (upd H4 D (.sei (TS.addT acc i)))
theorem zjm{Y:Cx}(he:PE Y elt te)(D:Addr):PAct Y (actS elt) D (taS te D):=by
 intro pins s σ H Q I h;unfold actS;refine wpAny_bind (thn (he pins s σ H _ I h) λv s9 ⟨v9,H9,I9,r9,acc,i,ev,hD9,hlen,q9⟩=>?_);subst ev;obtain⟨t,rfl⟩:=r9;refine wpAny_bind (wpAny_standAt (wpAny_bind ?_));have hS:TS.StG TS.intS Y.w s9.heap D acc:=I9.hok D _ hD9;refine TS.call_add (S:=TS.intS) hS hlen λh' k hS'=>wpAny_pure ⟨σ,_,?_,q9⟩
 exact I9.write (t':=s9.toks+1) (x:=D) (e:=D) (o:=.sei (TS.addT acc i)) (by rw[hD9];trivial) (.inl rfl) (λb u ne e=>by rw[k.2 b ne];exact e) (by obtain⟨o,_,_,_,ho,_⟩:=hS';exact⟨o,ho⟩) (show qV Y.prog Y.w _ _ _ (.sei (TS.addT acc i))from hS')
def zmh:List V->Hp->VK->Prop:=λxs H Q=>∃p L,xs=[.ref p]/\H p=some (.sei L)/\L.length<64/\∀(l:Addr) (ns:List Int),H l=none->ns.Perm L->ns.Pairwise (·<=·)->Q (.ref l) (upd H l (.lst (ns.map V.int)))
theorem zda:∀{vs:List Value}{ns:List Int},IntsAre vs ns->zK (ns.map V.int) vs
 |_,_,.nil=>.nil
 |_,_,.cons x k t=>.cons ⟨k,rfl⟩ (zda t)
theorem zgM(hc:X.calm=true):yH X (.builtin "sorted") zmh:=by
 intro pins s σ H xs us Q I rv h;obtain⟨p,L,rfl,hp,hz,q⟩:=h;obtain⟨u,rfl,ru⟩:=rv.one;cases ru
 have hS:TS.StG TS.intS X.w s.heap p L:=I.hok p _ hp;refine TS.sorted_seti (I.ok.hd hc) hS hz λh' d tk D vs ns e k hD ho hs hpm hso=>?_
 have hn:(ns.map V.int).length<=sizeLine:=by rw[List.length_map,hpm.length_eq,sizeLine_eq];omega
 have I2:=(I.draw (d:=d)).laid (t':=tk) (a:=D) (o:=.lst (ns.map V.int)) k hD (show qV X.prog X.w _ _ _ (.lst (ns.map V.int))from⟨hn,vs,e,zda hs,ho⟩);exact⟨.ref D,_,I2,rfl,q D ns (I.hok.fresh hD) hpm hso⟩
end
end L2
namespace FL
open L2
def nV(L:List Int):List Int:=L.mergeSort (λa b=>decide (a<=b))
theorem zbC(L:List Int):(nV L).Perm L/\(nV L).Pairwise (·<=·):=by
 refine⟨List.mergeSort_perm _ _,?_⟩
 have:=List.pairwise_mergeSort (le:=λa b:Int=>decide (a<=b)) (λa b c h1 h2=>by simp at*;omega) (λa b=>by simp;omega) L;exact this.imp λh=>by simpa using h
variable{ns:List Int}
theorem ziU{L:List Int}(p:ns.Perm L)(h:ns.Pairwise (·<=·)):ns=nV L:=by obtain⟨h1,h2⟩:=zbC L;exact List.Perm.eq_of_pairwise (λa b _ _ h1 h2=>by omega) h h2 (p.trans h1.symm)
def vL(ns:List Int):List Int:=ns.foldl TS.addT []
noncomputable def ziT(x:D):Option D:=match x with
 | .lst l=>(jY l).bind λns=>if ns.length<64 then some (.lst ((nV (vL ns)).map D.int))else none
 |_=>none
variable{g:D->EO En}{f:EO D}
section
variable{K:Fg}{X:Cx}{pos:Pos}{tg zM elt:Expr}{scope:Scope}
theorem zcU(ns:List Int):∀L:List Int,(ns.foldl TS.addT L).length<=L.length+ns.length:=by
 induction ns with
 |nil=>intro L;simp
 |cons x l ih=>intro L;have:=ih (TS.addT L x);have:=TS.addT_len L x;simp only[List.foldl_cons,List.length_cons];omega
theorem zjP{cap:ON}{ρ:En}{ds:List D}{σ:St}{H F:Hp}{Q:VK}(hm:qZ g qD f (qE cap ρ) ds=some (ns.map D.int))(hn:ns.length<64)(r:Rel K F H ρ σ)(q:∀a F' H',zE F H F' H'->H' a=some (.sei (vL ns))->Q (.ref a) H'){J:It}{F1 H1:Hp}(g1:zE F H F1 H1)(ok:zcV K J F1 ds):
  zea J (λv σ H Q=>∃i:{q:En×D×En//g q.2.1 q.1=some q.2.2},rdG K i.1.1 i.1.2.1 i.1.2.2 v σ H Q) tYes (taS λσ H Q=>∃i:{q:En×D//f q.1=some q.2},rdE K .fz i.1.1 i.1.2 σ H Q) (.sei []) cap σ H1 Q:=by
 intro a ha;refine⟨λi m H2=>∃(dn left:List Int),i<=ds.length/\m=ds.length - i/\∃F2,zE F H F2 H2/\zG F1 F2/\(∀b o,H1 b=some o->H2 b=some o)/\F2 a=none/\H2 a=some (.sei (vL dn))/\ns=dn++left/\qZ g qD f (qE cap ρ) (ds.drop i)=some (left.map D.int),
  ⟨ds.length,[],ns,Nat.zero_le _,rfl,F1,⟨g1.ff,g1.hh.trans (vM ha _),g1.fh.trans (vM ha _),g1.nw⟩,zG.refl _,λb o e=>vM ha _ _ _ e,g1.fh.free ha,qK,rfl,hm⟩,?_⟩
 rintro i m H2 ⟨dn,left,hi,rfl,F2,g2,ff,hh,fa,hd,en,e1⟩;obtain⟨o1,o2,o3⟩:=ok F2 H2 ff g2.fh;by_cases hlt:i<ds.length
 ·refine .inr ⟨o1 i hlt,λx H3 y=>?_⟩;obtain⟨F3,g3,d3⟩:=o2 i x H3 _ (List.getElem?_eq_getElem hlt) y;rw[List.drop_eq_getElem_cons hlt]at e1;simp only[qZ,qD,Option.bind_some,if_true]at e1;have g23:=g2.trans g3;have hd3:=g3.hh _ _ hd;have fa3:=g3.nw a _ hd fa;cases e3:g ds[i] (qE cap ρ)with
  |none=>rw[e3]at e1;cases e1
  |some ρ1=>
   simp only[e3,Option.bind_some]at e1;refine⟨⟨(qE cap ρ,ds[i],ρ1),e3⟩,F3,(r.grow g23).inner,d3,λσ2 r2 _=>?_⟩;simp only[tYes,if_true];cases e5:f ρ1 with
   |none=>rw[e5]at e1;cases e1
   |some d=>
    simp only[e5,Option.bind_some]at e1;cases e6:qZ g qD f (qE cap ρ) (ds.drop (i+1))with
    |none=>rw[e6]at e1;cases e1
    |some l=>
     rw[e6]at e1;have e1:some (d::l)=some (left.map D.int):=e1;cases left with
     |nil=>cases e1
     |cons z left=>
      cases e1
      refine⟨⟨(ρ1,.int z),e5⟩,F3,r2,λu F6 H6 g6 d6=>?_⟩;have eu:u=.int z:=Dat.int_inv (K:=K) (F:=F6) d6;subst eu;have g26:=g23.trans g6;have hd6:=g6.hh _ _ hd3;have fa6:=g6.nw a _ hd3 fa3;have haH:H a=none:=g1.hh.free ha;have hl:=zcU dn [];have hz:dn.length<64:=by have:=congrArg List.length en;simp at this;omega
      refine⟨vL dn,z,rfl,hd6,by unfold vL scanBound;simp at hl;omega,ds.length - (i+1),by omega,dn++[z],left,hlt,rfl,F6,?_,ff.trans (g3.ff.trans g6.ff),λc o e=>?_,fa6,?_,by rw[en];simp,rfl⟩
      ·refine⟨g26.ff,λc o e=>?_,λc o e=>?_,g26.nw⟩
       ·rw[zT (qS e haH)];exact g26.hh _ _ e
       ·rw[zT (qS e fa6)];exact g26.fh _ _ e
      ·rw[zT (qS e ha)];exact g6.hh _ _ (g3.hh _ _ (hh c o e))
      ·rw[qK];unfold vL;rw[List.foldl_append];rfl
 ·have e:i=ds.length:=by omega
  subst e;rw[List.drop_length]at e1;have e1:some []=some (left.map D.int):=e1;cases left with
  |cons _ _=>cases e1
  |nil=>
   rw[List.append_nil]at en;subst en;exact .inl ⟨o3,q _ F2 H2 g2 hd⟩
theorem zns{p:Pos}{spos:Pos}{fi:EO (List D)}(hm:X.mg "sorted"=none)(N:List Str)(cap:ON)(cp:Cap X scope N cap)(hc:X.calm=true)(hi:FI K X tg zM fi)(hg:∀C s0 H0 fp,FG K (qN X N scope (zY X.env scope.names []) C s0 H0 fp) tg g)(he:∀C s0 H0 fp,FP K .fz (qN X N scope (zY X.env scope.names []) C s0 H0 fp) elt f)(S:kA X scope:=by exact kA.mk')(hs:∀x,foldedSetIterable zM X.env x=pure x:=by intro _;rfl)(hK:X.K=K:=by rfl)(hs1:starEach [.SetComp elt [⟨tg,zM,[],0⟩] scope pos] X.env=(false,eval (.SetComp elt [⟨tg,zM,[],0⟩] scope pos) X.env)::starEach [] X.env:=by rfl)(hp1:(backTo spos (starEach [] X.env)).any (·.1)=false:=by rfl)(hgl:Gl X "sorted":=by rfl):
  FP K .ow X (.Call (.Name "sorted" p) [.SetComp elt [⟨tg,zM,[],0⟩] scope pos] [] spos) (c1 ziT (qT cap fi g qD f)):=FP.mk λρ d hf=>by
 subst hK;obtain⟨x,h1,h2⟩:=zfp hf;obtain⟨ds,rs,e1,hz,e2,rfl⟩:=zaV h1;unfold ziT at h2;simp only at h2;cases e3:jY rs with
 |none=>rw[e3]at h2;cases h2
 |some ns=>
  rw[e3]at h2;obtain⟨h64,rfl⟩:=kQ h2;rw[zbb e3]at e2;have pc:=zfI (znD (X:=X) (elt:=elt) (tg:=tg) (zM:=zM) (scope:=scope) (pos:=pos)) N cap cp hc (hi.h ρ ds e1) (λC s0 H0 fp=>PG.any λi:{q:En×D×En//g q.2.1 q.1=some q.2.2}=>(hg C s0 H0 fp).h _ _ _ i.2) (λC s0 H0 fp=>zhs)
   (λC s0 H0 fp D0=>zjm (PE.any λi:{q:En×D//f q.1=some q.2}=>(he C s0 H0 fp).h _ _ i.2) D0) S hs rfl (arm_eval_SetComp ..)
  refine PE.imp (zdH (x:="sorted") (p:=p) (pos:=spos) (zgM hc) hgl hm PyProof.Rows.boot_sorted (yY pc vN hs1) (by decide) (by decide) hs1 hp1) λσ H Q h_=>?_
  obtain⟨F,r,q⟩:=h_;refine⟨F,r,λJ F1 H1 g1 ok=>zjP e2 h64 r (λa F' H' g' ha=>?_) g1 ok⟩;have hl:=zcU ns [];refine⟨a,_,rfl,ha,by unfold vL;simp at hl;omega,λl ms hl hp hs=>?_⟩;rw[ziU hp hs];exact q _ F' _ (g'.trans (zE.fresh g'.fh hl)) ⟨l,rfl,g'.hh.free hl,g'.fh.free hl,_,qK,zC.ofInts _⟩
end
end FL
namespace L2
section
variable{X:Cx}
theorem zit(hc:X.calm=true):yH X (.builtin "any") (λxs H Q=>∃(p:Addr) (bs:List Bool),xs=[.ref p]/\SqL X.K H p (bs.map V.bl)/\Q (.bl (bs.any id)) H):=by
 intro pins s σ H xs us Q I r h;obtain⟨p,bs,rfl,hq,q⟩:=h;obtain⟨u,rfl,rx⟩:=wB r;cases rx
 obtain⟨its,r',pl,_⟩:=I.list hq;have hh:X.A.handled=none:=I.ok.hd hc;obtain⟨ol,hol,_⟩:=id pl.isList;have hll:p<s.heap.objs.size:=Heap.lt_size hol;have hlen:its.toArray.size=bs.length:=by rw[List.size_toArray,←r'.length,List.length_map]
 have hlI:p≠s.heap.objs.size:=Nat.ne_of_lt hll;have W:=Walks.list (prog:=X.prog) (w:=X.w) (A:=X.A.in1) hh s.heap.objs.size p hlI its.toArray;rw[hlen]at W;refine call_any_walk (wpAny_pyIter_list pl.isList ⟨s.heap.objs.size,_,_,bs.length,_,_,λi=>(bs[i]?).getD false,rfl,W,⟨⟨_,Heap.get?_push_size _ rfl,rfl,rfl⟩,pl.isList.at λo e=>Heap.get?_push_of_some _ e⟩,λi v s Q E hP hQ=>?_,λh' tk hk=>?_⟩)
 ·have hv:its[i]?=some v:=by simpa using hP
  have hi:i<bs.length:=by have:=(List.getElem?_eq_some_iff.mp hv).1;rw[List.size_toArray]at hlen;omega
  obtain⟨u,e1,r1⟩:=r'.get (i:=i) (x:=.bl bs[i]) (by simp[hi]);rw[hv]at e1;cases e1
  have r1:v=.bool bs[i]:=r1;subst r1;have hQ:Q ((bs[i]?).getD false) s:=hQ;rw[List.getElem?_eq_getElem hi]at hQ;exact wpAny_truthy_bool hQ
 ·refine⟨.bl (bs.any id),H,I.kept (λb o e=>hk b o (by have:b<s.heap.objs.size:=Heap.lt_size e;have n:b≠s.heap.objs.size:=Nat.ne_of_lt this;simpa using n) (Heap.get?_push_of_some _ e)),?_,q⟩
  show Value.bool _=Value.bool _
  congr 1
  rw[Bool.eq_iff_iff,List.any_eq_true,List.any_eq_true];constructor
  ·rintro⟨i,hi,h⟩;have hi:=List.mem_range.mp hi;exact⟨bs[i],List.getElem_mem hi,by simpa[hi]using h⟩
  ·rintro⟨x,hx,h⟩;obtain⟨i,hi,rfl⟩:=List.getElem_of_mem hx;exact⟨i,List.mem_range.mpr hi,by simpa[hi]using h⟩
end
end L2
namespace FL
open L2
noncomputable def gL:LO
 |[.lst l]=>(wN l).map λbs=>.bl (bs.any id)
 |_=>none
variable{x:Str}{e:Expr}{g:D->EO En}
section
variable{K:Fg}{X:Cx}
theorem zoG(hc:X.calm=true)(hK:X.K=K:=by rfl):wZ K X (.builtin "any") .fz gL:=by
 subst hK;refine⟨_,zit hc,λds d F H vs Q e s h k=>?_⟩;unfold gL at e;split at e
 ·rename_i l;cases e1:wN l with
  |none=>rw[e1]at e;cases e
  |some bs=>
   rw[e1]at e;cases e
   obtain⟨v,rfl,h1⟩:=h.one;rw[zdz e1]at h1;obtain⟨a,vs,rfl,f,q⟩:=h1.lst_inv;rw[q.bls]at f;exact⟨a,bs,rfl,SqL.of f,k _ F H (zE.refl s) (Res.bl _)⟩
 ·cases e
noncomputable def appX(i:Nat)(m:EO (D×En)):EO (D×En):=λρ=>match ρ[i]? with
 |some (some (.ow _ (.lst _)))=>(m ρ).bind λq=>match q.2[i]? with
  |some (some (.ow pp (.lst l)))=>if l.length<lim then some (.non,q.2.set i (some (.ow pp (.lst (l++[q.1])))))else none
  |_=>none
 |_=>none
theorem ziJ(i:Nat){m:EO (D×En)}{p apos cpos:Pos}(he:FX K X e m)(hN:X.N[i]?=some x:=by rfl)(hv:Vis X.env.scope x:=by first|exact Or.inl rfl|exact Or.inr (Or.inl rfl)|exact Or.inr (Or.inr rfl))(hd:(x==("__debug__":Str))=false:=by decide)(hcd:(x==("__classdict__":Str))=false:=by decide)(hbase:attributeBase (.Name x p) "append" X.env (eval (.Name x p) X.env)=eval (.Name x p) X.env:=by rfl)(hfew:((backTo cpos (starEach [e] X.env)).all (λx=>!x.1)&&(backToKw cpos (keywordEach [] X.env)).all (λx=>x.1.isSome)&&decide (([e]:List Expr).length+([]:List Keyword).length+(if([]:List Keyword).isEmpty then 0 else 1)<30))=true:=by rfl)(hline:(apos.endLine==cpos.line)=true:=by rfl)(hs:starEach [e] X.env=(false,eval e X.env)::starEach [] X.env:=by rfl)(hplain:(backTo cpos (starEach [] X.env)).any (·.1)=false:=by rfl)(hK:X.K=K:=by rfl):
  FX K X (.Call (.Attribute (.Name x p) "append" apos) [e] [] cpos) (appX i m):=FX.mk λρ d ρ' hf=>by
 subst hK;unfold appX at hf;split at hf
 ·rename_i p0 l0 e0;cases e1:m ρ with
  |none=>rw[e1]at hf;cases hf
  |some q1=>
   obtain⟨dd,ρ1⟩:=q1;rw[e1]at hf;simp only[Option.bind_some]at hf;split at hf
   ·rename_i pp l e2;obtain⟨hz,hf⟩:=kQ hf;cases hf
    refine PE.imp (zjk PySem.F.plainAttrs_list PySem.F.slot_list_append PySem.F.type_list_append zcz (wE hN hv hd hcd) (yY (he.h ρ dd ρ1 e1) vN hs) hbase hfew hline hs hplain) λσ H Q h_=>?_
    obtain⟨F,r,q⟩:=h_;obtain⟨a,h1,h2,vs,h3,h4⟩:=r.own i _ _ e0;refine⟨_,h1,.inl ⟨rfl,vs,SqL.of h3⟩,F,r,λv F1 H1 r1 s1 d1=>?_⟩;obtain⟨a',h1',h2',vs',h3',h4'⟩:=r1.own i _ _ e2;rw[h1]at h1';cases h1'
    refine⟨a,vs',v,rfl,rfl,h3',by rw[h4'.length];exact zdl (Nat.le_of_lt hz),?_⟩;obtain⟨m1,m2⟩:=r1.mut (i:=i) (o:=.lst (vs'++[v])) (d':=.lst (l++[dd])) e2 h1 ⟨_,qK,h4'.snoc d1⟩;exact q _ _ _ m1 (s1.trans m2 r.sub) (Dat.non (K:=X.K))
   ·cases hf
 ·cases hf
theorem zlW{md:Md}{tg zM elt:Expr}{ifs:List Expr}{scope:Scope}{pos:Pos}(k:Nat){y:Str}{py spos:Pos}{fi:EO (List D)}{t:EO Bool}{f:EO D}(N:List Str)(cap:ON)(cp:Cap X scope N cap)(hc:X.calm=true)(hN:X.N.Nodup)(hi:FI K X tg zM fi)(hg:∀C s0 H0 fp,FG K (qN X N scope (zY X.env scope.names []) C s0 H0 fp) tg g)(ht:∀C s0 H0 fp,gW K (qN X N scope (zY X.env scope.names []) C s0 H0 fp) ifs t)(he:∀C s0 H0 fp,FP K .fz (qN X N scope (zY X.env scope.names []) C s0 H0 fp) elt f)(hk:X.N[k]?=some y:=by rfl)(hy:Loc X.env.scope y:=by first|exact Or.inl rfl|exact Or.inr rfl)(S:kA X scope:=by exact kA.mk')(hs:∀x,foldedSetIterable zM X.env x=pure x:=by intro _;rfl)(hsw:swapsWith (.ListComp elt [⟨tg,zM,ifs,0⟩] scope pos) (some (.Name y py)) spos.line X.env=pure true:=by rfl)(hf:X.fn y=true\/X.env.scope.names.lookup y=some .local:=by first|exact .inl rfl|exact .inr rfl|assumption)(hK:X.K=K:=by rfl):
  FS K md X (.Assign [.Name y py] (.ListComp elt [⟨tg,zM,ifs,0⟩] scope pos) spos) (setO k (qT cap fi g t f)):=FS.mk λρ fl hm=>by
 subst hK;unfold setO at hm;split at hm
 ·rename_i nb;cases e0:qT cap fi g t f ρ with
  |none=>rw[e0]at hm;cases hm
  |some d=>
   rw[e0]at hm;cases hm
   obtain⟨ds,rs,e1,hz,e2,rfl⟩:=zaV e0;refine PS.imp (zde N cap cp hc hN hk hy (hi.h ρ ds e1) (λC s0 H0 fp=>PG.any λi:{q:En×D×En//g q.2.1 q.1=some q.2.2}=>(hg C s0 H0 fp).h _ _ _ i.2) (λC s0 H0 fp=>PIf.any λi:{q:En×Bool//t q.1=some q.2}=>(ht C s0 H0 fp).h _ _ i.2)
    (λC s0 H0 fp=>PE.any λi:{q:En×D//f q.1=some q.2}=>(he C s0 H0 fp).h _ _ i.2) S hs hsw hf) λD σ H ⟨F,r,q⟩=>?_
   refine⟨F,r,λJ F1 H1 g1 ok=>zfk e2 hz r (λv F2 H2 g2 ⟨a,ev,h1,h2,h3⟩=>?_) g1 ok⟩;subst ev;have s1:=g2.step (ρ:=ρ) (σ:=σ);refine q _ F2 H2 (r.setO g2 h1 h2 h3 (zcy nb)) ⟨s1.ff,s1.rest,λb z=>?_,zdG (λd h=>by cases h),s1.fh⟩;rcases zbm z with⟨_,_,_,z⟩|z
   ·cases z;exact .inl h1
   ·exact .inr z
 ·cases hm
end
section
variable{K:Fg}{X:Cx}{pos:Pos}
noncomputable def zij(fk fe fl ff:EO D):EO D:=λρ=>match(fk ρ).bind qH,fe ρ,(fl ρ).bind qH,ff ρ with
 |some k,some d,some l,some e=>if k=l then none else some (.dic [kdK k,kdK l] [d,e])
 |_,_,_,_=>none
theorem znw{k l f:Expr}{fk fe fl ff:EO D}(hk:FP K .fz X k fk)(he:FP K .fz X e fe)(hl:FP K .fz X l fl)(hf':FP K .fz X f ff):FP K .ow X (.Dict [some k,some l] [e,f] pos) (zij fk fe fl ff):=FP.mk λρ d hf=>by
 unfold zij at hf;cases e1:fk ρ with
 |none=>rw[e1]at hf;cases hf
 |some y=>
 rw[e1]at hf;cases e4:qH y with
 |none=>simp only[Option.bind_some,e4]at hf;cases hf
 |some kk=>
 cases e2:fe ρ with
 |none=>simp only[Option.bind_some,e4,e2]at hf;cases hf
 |some z=>
 cases e5:fl ρ with
 |none=>simp only[Option.bind_some,e4,e2,e5]at hf;cases hf
 |some y2=>
 cases e6:qH y2 with
 |none=>simp only[Option.bind_some,e4,e2,e5,e6]at hf;cases hf
 |some ll=>
 cases e7:ff ρ with
 |none=>simp only[Option.bind_some,e4,e2,e5,e6,e7]at hf;cases hf
 |some z2=>
 simp only[Option.bind_some,e4,e2,e5,e6,e7]at hf;split at hf
 ·cases hf
 ·rename_i hne;cases hf
  refine PE.imp (zkS (zfF (hk.h ρ y e1) (he.h ρ z e2) (zfF (hl.h ρ y2 e5) (hf'.h ρ z2 e7) zkK)) rfl rfl (by simp) (by simp)) λσ H Q ⟨F,r,q⟩ p hp=>?_
  have g0:=zE.fresh (o:=.dK []) r.sub hp;have fp:F p=none:=r.sub.free hp;refine⟨F,r.grow g0,λv F1 H1 g1 r1=>⟨F1,(r.grow g0).grow g1,λu F2 H2 g2 r2=>⟨F2,((r.grow g0).grow g1).grow g2,λv3 F3 H3 g3 r3=>⟨F3,(((r.grow g0).grow g1).grow g2).grow g3,λu4 F4 H4 g4 r4=>?_⟩⟩⟩⟩;have ev:=nF (K:=K) e4 r1;subst ev;have ev3:=nF (K:=K) e6 r3;subst ev3;have hp1:=g1.hh _ _ (qK (H:=H) (a:=p) (o:=.dK []));have hp2:=g2.hh _ _ hp1;have hp3:=g3.hh _ _ hp2;have hp4:=g4.hh _ _ hp3;have fp1:=g1.nw _ _ qK fp;have fp2:=g2.nw _ _ hp1 fp1;have fp3:=g3.nw _ _ hp2 fp2;have fp4:=g4.nw _ _ hp3 fp3;refine⟨hp4,[(kk,u),(ll,u4)],rfl,by simp,?_⟩;have gg:=g0.trans (g1.trans (g2.trans (g3.trans g4)));have g5:zE F H F4 (upd H4 p (.dK (zcA [] [(kk,u),(ll,u4)]))):=⟨gg.ff,λb o e=>by rw[zT (qS e hp)];exact gg.hh _ _ e,λb o e=>by rw[zT (qS e fp4)];exact gg.fh _ _ e,gg.nw⟩;have em:zcA [] [(kk,u),(ll,u4)]=[(kk,u),(ll,u4)]:=by show zW [(kk,u)] ll u4=_;unfold zW;simp[hne]
  have g24:=g3.trans g4;exact q _ F4 _ g5 ⟨p,rfl,hp,fp4,[u,u4],.inl ⟨[(kk,u),(ll,u4)],by rw[em];exact qK,rfl,rfl⟩,zC.cons (r2.mono g24.ff) (zC.cons r4 zC.nil)⟩
end
theorem walkEB{l:PySem.W.OpenLaw}{k:Nat}{q:Program}{loose:List Str}{XP:(SV)->Heap->Prop}{d:DefRec}{m:LO}{p:Program}{I:List Nat}(hn:l.most=some 63)(hdf:d.params.defaults=[])(hr:qR k callerA)(F:∀(K:Fg) (w:World) (mg:SV) (fa:Addr) (h:Heap),faV p I K=faX p I->K.In h->h.Ns mainGlobals mg->mg d.name=some (.ref fa)->
   ∃fd:FuncData,(∀(s:Shared) (u:Value),BindsTo s fd ⟨[u],[]⟩ [(x,u)])/\∀base:Heap,K.In base->base.Ns mainGlobals mg->yG l.prog w K mg base CX0 k fa fd [x] (SpD K .fz m))(H:∀ns:List Int,ns.length<=63->ziG ns->m [.scr ns]=some (.bl true)):PySem.W.WalkO q loose XP (YP p I) l.row.toRowW d [] (λf vs=>PySem.call f vs):=by
 intro w s0 s1 mg mb G Y;obtain⟨K,hK,A⟩:=Y;exact zlL (K:=λ_=>K) (YP:=λ_ h'=>K.In h') hn hdf hr (λ_ _ z=>z) (λw mg fa h=>F K w mg fa h A) H w s0 s1 mg mb ⟨G.T,G.B,G.D,G.TE,G.TD,G.W,G.X,G.cls,G.has,G.apart,G.once,G.K⟩ hK
abbrev zeo(n:Nat):EO Fl:=
 (zI (ifM (upT (cT (c2 ltD (gb 1) (cL jE (zA (gb 0) zD))))) (zV (c2 zR (gb 0) (gb 1))) nxM) (zV (cst (.int 0))))
def zag:LO:=qM (zeo zP) 2 2
abbrev zca(m__law_count:LO)(n:Nat):EO D:=
 (cL m__law_count (zA (gv 0) zD))
abbrev zgz(m__law_count:LO)(n:Nat):EO Fl:=
 (zI (ifM (upT (cT (c1 (kC "str") (gb 0)))) (zV (cst (.int 1))) nxM) (zV (c2 jA (cst (.int 1)) (cL sumD (zA (qT [none] (cI (cS jS (gb 0) (jP (cst (.int 1))) kB)) (gN 0) qD (zca m__law_count n)) zD)))))
def zaf:Nat->LO
 |0=>λ_=>none
 |n+1=>qM (zgz (zaf n) zP) 1 1
def zcD:LO:=zaf 100
abbrev zeY(n:Nat):EO Fl:=
 (zV (c1 (kC "str") (gb 0)))
def qW:LO:=qM (zeY zP) 1 1
abbrev zcX(n:Nat):EO Fl:=
 (zI (ifM (upT (cT (cL qW (zA (gv 0) zD)))) (zV (cL zX zD)) nxM) (zV (cS jS (gb 0) (jP (cst (.int 1))) kB)))
def jH:LO:=qM (zcX zP) 1 1
abbrev zbO(n:Nat):EO D:=
 (cL zX (zA (c2 jA (gb 2) (cL zX (zA (gv 0) zD))) (zA (gv 1) zD)))
abbrev zav(n:Nat):EO Fl:=
 (zI (yV (yL 2) (qQ (zS (gN 3) (zS (gN 4) qC)))) (zI (jT (kI 1 (cL zX (zA (gv 3) (zA (gv 4) zD))))) (zI (qB 5 (qT [none,none,some 3] (yU (cL jH (zA (gv 4) zD))) (qQ (zS (gN 0) (zS (gN 1) qC))) qD (zbO n))) (jT (yT 2 (c2 yK (gb 5) (c1 kO (cst (.int 1)))))))))
abbrev zcB(n:Nat):EO Fl:=
 (zI (setO 1 (cL qG zD)) (zI (setO 2 (cL qG (zA (cL zX (zA (cL zX zD) (zA (gv 0) zD))) zD))) (zI (vV (upT (cTr (gb 2))) (zav n) n) (jW 1))))
def zah:LO:=qM (zcB zP) 1 6
abbrev zaH(n:Nat):EO Fl:=
 (zI (qB 9 (c2 jA (c2 jA (c2 jM (gb 2) (c2 jA (gb 8) (cst (.int 3)))) (c2 kP (gb 8) (gb 8))) (c2 kP (cL yR (zA (c2 eqB (gb 8) (gb 4)) zD)) (gb 6)))) (qB 7 (c2 jA (gb 7) (c2 zR (gb 1) (c2 jC (gb 9) (cst (.int 26)))))))
abbrev zbU(n:Nat):EO Fl:=
 (zI (qB 7 (cst (.str ""))) (zI (jF (cR1 (gv 3)) (gN 8) (zaH n)) (jT (kI 5 (cL zX (zA (gv 7) (zA (c2 zR (cL qG (zA (cst (.int 0)) (zA (cst (.int 1)) (zA (cst (.int 2)) (zA (c2 jC (c2 jM (gb 2) (cst (.int 64))) (cst (.int 4))) zD))))) (gb 6)) zD)))))))
abbrev zgw(n:Nat):EO Fl:=
 (zI (qB 1 (cst (.str "abcdefghijklmnopqrstuvwxyz"))) (zI (qB 2 (c2 jC (gb 0) (cst (.int 2147483629)))) (zI (qB 3 (c2 jA (cst (.int 1)) (c2 jC (gb 2) (cst (.int 8))))) (zI (qB 4 (c2 jC (c2 jM (gb 2) (cst (.int 8))) (gb 3))) (zI (setO 5 (cL qG zD)) (zI (jF (cR1 (cst (.int 4))) (gN 6) (zbU n)) (jW 5)))))))
def zbn:LO:=qM (zgw zP) 1 10
abbrev zeX(n:Nat):EO Fl:=
 (zI (ifM (upT (cT (c2 eqB (c2 jC (gb 0) (cst (.int 3))) (cst (.int 0))))) (zV (c2 jC (c2 jM (gb 0) (cst (.int 3))) (c2 kY (cst (.int 10)) (cst (.int 60))))) nxM) (zV (c2 jC (c2 kP (c2 jM (gb 0) (cst (.int 3))) (cst (.int 27182818284590452353602874713526624977572470936999595749669))) (c2 kY (cst (.int 10)) (cst (.int 60))))))
def zas:LO:=qM (zeX zP) 1 1
abbrev zcE(m__law_term:LO)(n:Nat):EO Fl:=
 (zI (kH (cL m__law_term (zA (gv 0) (zA (c2 kN (gb 1) (cst (.int 1))) (zA (gv 2) (zA (gv 3) zD))))) (nL (zS (gN 10) (zS (gN 0) qC)))) (jT (kI 8 (gv 10))))
abbrev zhH(m__law_term:LO)(n:Nat):EO Fl:=
 (zI (qB 4 (c2 jA (cL jE (zA (gb 2) zD)) (cL jE (zA (gb 3) zD)))) (zI (qB 5 (c2 jC (gb 0) (gb 4))) (zI (qB 0 (c2 jM (gb 0) (gb 4))) (zI (ifM (upT (cT (c2 ltD (gb 5) (cL jE (zA (gb 3) zD))))) (zV (cL qG (zA (c2 zR (gb 3) (gb 5)) (zA (gv 0) zD)))) nxM) (zI (kH (c2 zR (gb 2) (c2 kN (gb 5) (cL jE (zA (gb 3) zD)))) (qQ (zS (gN 6) (zS (gN 7) qC)))) (zI (ifM (upT (jN (cT (c2 eqB (gb 1) (cst (.int 0)))) (cT (c2 gtD (gb 7) (cst (.int 0)))))) (zV (cL qG (zA (cL zX (zA (c2 zR (c2 zR (gb 2) (cst (.int 0))) (cst (.int 0))) zD)) (zA (gv 0) zD)))) nxM) (zI (setO 8 (cL qG zD)) (zI (jF (cR1 (gv 7)) (gN 9) (zcE m__law_term n)) (zV (cL qG (zA (c2 jA (cL zX (zA (gv 6) zD)) (cL kM (zA (gb 8) zD))) (zA (gv 0) zD))))))))))))
def nB:Nat->LO
 |0=>λ_=>none
 |n+1=>qM (zhH (nB n) zP) 4 11
def zdJ:LO:=nB 100
abbrev zbr(m__law_blanks:LO)(n:Nat):EO Fl:=
 (ifM (upT (cT (c2 yB (gv 3) (gb 1)))) (jT (kI 1 (gv 3))) nxM)
abbrev zbq(m__law_blanks:LO)(n:Nat):EO Fl:=
 (jF (cI (cL m__law_blanks (zA (gv 2) zD))) (gN 3) (zbr m__law_blanks n))
abbrev zfa(m__law_blanks:LO)(n:Nat):EO Fl:=
 (zI (ifM (upT (cT (c1 (kC "str") (gb 0)))) (zV (cL qG (zA (gv 0) zD))) nxM) (zI (setO 1 (cL qG zD)) (zI (jF (cI (cS jS (gb 0) (jP (cst (.int 1))) kB)) (gN 2) (zbq m__law_blanks n)) (jW 1))))
def zaa:Nat->LO
 |0=>λ_=>none
 |n+1=>qM (zfa (zaa n) zP) 1 4
def zau:LO:=zaa 100
abbrev zbZ(n:Nat):EO D:=
 (gv 0)
abbrev zbV(n:Nat):EO Fl:=
 (zI (jT (appX 3 (yM 2 (c2 jC (gb 0) (cL jE (zA (gb 2) zD)))))) (qB 0 (c2 jM (gb 0) (c2 jA (cL jE (zA (gb 2) zD)) (cst (.int 1))))))
abbrev zgy(n:Nat):EO Fl:=
 (zI (setO 2 (qT [none,none] (cI (gv 1)) (qQ (zS (gN 0) (zS (gN 1) qC))) qD (zbZ n))) (zI (setO 3 (cL qG zD)) (zI (vV (upT (cT (c2 neB (gb 2) (cL qG zD)))) (zbV n) n) (jW 3))))
def zbo:LO:=qM (zgy zP) 2 4
abbrev zcR(qW:LO)(n:Nat):EO D:=
 (c2 wJ (gb 1) (c2 jA (gb 2) (cL zX (zA (gv 0) zD))))
abbrev zhI(qW:LO)(n:Nat):EO Fl:=
 (zI (ifM (upT (cT (cL qW (zA (gv 0) zD)))) (zV (gv 0)) nxM) (zV (c2 jA (cL zX (zA (c2 zR (gb 0) (cst (.int 0))) zD)) (cL kM (zA (qT [none,some 2,some 1] (cR1 (c2 kN (cL jE (zA (gb 0) zD)) (cst (.int 1)))) (gN 0) qD (zcR qW n)) zD)))))
def zaP:LO:=vH (zhI qW zP) 3 3 [false,false,true]
abbrev zaj(n:Nat):EO Fl:=
 (nY 4 (gv 5) (sdfG 1 (cL zaP (zA (gv 6) (zA (gv 5) (zA (gb 4) zD)))) (cL lenG (zA (gb 1) zD))))
abbrev zbw(n:Nat):EO D:=
 (c2 wJ (gb 1) (gv 0))
abbrev zaA(n:Nat):EO Fl:=
 (zI (setO 4 (cst (.dic [] []))) (zI (jF (cRv (cL zah (zA (gv 3) zD))) (qQ (zS (gN 5) (zS (gN 6) qC))) (zaj n)) (kJ 4 (jT (kI 2 (c1 ziT (qT [none,some 4] (cKG (gv 4)) (gN 0) qD (zbw n))))))))
abbrev zeW(n:Nat):EO Fl:=
 (zI (setO 1 (cst (.dic [] []))) (zI (setO 2 (cL qG zD)) (zI (jF (cI (gv 0)) (gN 3) (zaA n)) (kJ 2 (zV (cL zX (zA (cL zjx (zA (gb 1) zD)) (zA (gv 2) zD))))))))
def zaQ:LO:=qM (zeW zP) 1 7
abbrev zaY(qW jH:LO)(n:Nat):EO D:=
 (orV (c2 eqB (gb 0) (gb 1)) (c2 wJ (gb 2) (cL zX (zA (gv 0) (zA (gv 1) zD)))))
abbrev zaX(qW jH:LO)(n:Nat):EO D:=
 (c2 wJ (gb 1) (cL zX (zA (gv 2) (zA (gv 0) zD))))
abbrev zam(qW jH:LO)(n:Nat):EO Bool:=
 (cT (c2 neB (c2 zR (gb 0) (cst (.int 0))) (c2 zR (gb 0) (cst (.int 1)))))
abbrev zan(qW jH:LO)(n:Nat):EO D:=
 (gv 0)
abbrev zen(qW jH:LO)(n:Nat):EO Fl:=
 (zI (ifM (upT (cT (cL qW (zA (c2 zR (gb 1) (gb 3)) zD)))) (zV (cst (.bl false))) nxM) (zI (ifM (upT (cTr (cL gL (zA (qT [none,some 4,some 2] (cI (cL jH (zA (c2 zR (gb 1) (gb 3)) zD))) (gN 0) qD (zaY qW jH n)) zD)))) (zV (cst (.bl true))) nxM) (zI (ifM (upT (orP (cT (cL qW (zA (c2 zR (gb 1) (gb 4)) zD))) (jL (cTr (cL allD (zA (qT [none,some 2,some 3] (cI (cL jH (zA (c2 zR (gb 1) (gb 4)) zD))) (gN 0) qD (zaX qW jH n)) zD)))))) (zV (cst (.bl false))) nxM) (zI (ifM (upT (cT (c2 neB (c2 zR (c2 zR (gb 1) (gb 3)) (cst (.int 0))) (c2 zR (c2 zR (gb 1) (gb 4)) (cst (.int 0)))))) (zV (c2 gtD (c2 idxK (gb 0) (c2 zR (c2 zR (gb 1) (gb 3)) (cst (.int 0)))) (c2 idxK (gb 0) (c2 zR (c2 zR (gb 1) (gb 4)) (cst (.int 0)))))) nxM) (zI (qB 5 (qT [none] (cZ (cL jH (zA (c2 zR (gb 1) (gb 3)) zD)) (cL jH (zA (c2 zR (gb 1) (gb 4)) zD))) (gN 0) (zam qW jH n) (zan qW jH n))) (zV (yE (c2 gtD (cL jE (zA (gb 5) zD)) (cst (.int 0))) (c2 wJ (gb 2) (c2 zR (gb 5) (cst (.int 0)))))))))))
def wF:LO:=vH (zen qW jH zP) 5 6 [false,false,true,false,false]
abbrev zdv(n:Nat):EO D:=
 (gv 1)
abbrev zdx(n:Nat):EO D:=
 (gv 0)
abbrev zaS(n:Nat):EO Fl:=
 (nY 8 (cL zX (zA (gv 9) (zA (gv 10) zD))) (upX (cL wF (zA (gv 3) (zA (gv 4) (zA (gb 8) (zA (gv 9) (zA (gv 10) zD))))))))
abbrev zdn(n:Nat):EO Fl:=
 (jF (cI (gv 7)) (gN 10) (zaS n))
abbrev zjw(n:Nat):EO Fl:=
 (zI (setO 3 (zdt [none,none] (cEnL (gv 0)) (qQ (zS (gN 0) (zS (gN 1) qC))) qD (zdv n) (zdx n))) (zI (kH (cL zaQ (zA (cL qG (zA (gv 1) (zA (gv 2) zD))) zD)) (qQ (zS (gN 4) (zS (gN 5) qC)))) (zI (kH (gv 5) (nL (zS (gN 6) (zS (gN 7) qC)))) (zI (setO 8 (cst (.dic [] []))) (zI (kJ 3 (jF (cI (gv 6)) (gN 9) (zdn n))) (zV (c2 wJ (gb 8) (cL zX (zA (c2 zR (gb 6) (c1 kO (cst (.int 1)))) (zA (c2 zR (gb 7) (c1 kO (cst (.int 1)))) zD))))))))))
def xV:LO:=qM (zjw zP) 3 11
abbrev zjv(n:Nat):EO Fl:=
 (zI (qB 2 (c2 zR (cL zdJ (zA (cL zas (zA (gv 0) zD)) (zA (cst (.int 3)) (zA (gv 1) (zA (cL qG (zA (cst (.str "A")) (zA (cst (.str "B")) (zA (cst (.str "X")) zD)))) zD))))) (cst (.int 0)))) (zI (ifM (upT (cT (c2 gtD (cL zcD (zA (gv 2) zD)) (cst (.int 8))))) (zV (cL zX (zA (c2 zR (c2 zR (gb 1) (cst (.int 1))) (cst (.int 0))) (zA (cst (.str "A")) zD)))) nxM) (zV (gv 2))))
def zcC:LO:=qM (zjv zP) 2 3
abbrev zbW(n:Nat):EO Bool:=
 (jL (cT (cL xV (zA (gv 1) (zA (gv 2) (zA (gv 0) zD))))))
abbrev zbY(n:Nat):EO D:=
 (gv 0)
abbrev zgx(n:Nat):EO Fl:=
 (zI (ifM (upT (cT (c1 (kC "str") (gb 1)))) (zV (yA (cL xV (zA (gv 0) (zA (gv 1) (zA (gv 1) zD)))))) nxM) (zV (c2 eqB (cL jE (zA (qT [none,some 0,some 1] (cI (cS jS (gb 1) (jP (cst (.int 1))) kB)) (gN 0) (zbW n) (zbY n)) zD)) (cst (.int 0)))))
def zaF:LO:=qM (zgx zP) 2 2
abbrev zbx(m__law_filled:LO)(n:Nat):EO D:=
 (cL m__law_filled (zA (gv 0) (zA (gv 1) zD)))
abbrev zeZ(m__law_filled:LO)(n:Nat):EO Fl:=
 (zI (ifM (upT (cT (c1 (kC "str") (gb 0)))) (zV (c3 yS (gb 1) (gv 0) (gv 0))) nxM) (zV (c2 jA (cL zX (zA (c2 zR (gb 0) (cst (.int 0))) zD)) (cL kM (zA (qT [none,some 1] (cI (cS jS (gb 0) (jP (cst (.int 1))) kB)) (gN 0) qD (zbx m__law_filled n)) zD)))))
def zad:Nat->LO
 |0=>λ_=>none
 |n+1=>qM (zeZ (zad n) zP) 2 2
def zat:LO:=zad 100
abbrev zhK(n:Nat):EO Fl:=
 (zI (qB 5 (zij (cst (.str "A")) (cL zX (zA (c2 zR (c2 zR (gb 3) (cst (.int 1))) (cst (.int 0))) (zA (cst (.str "X")) zD))) (cst (.str "X")) (c2 zR (cL qG (zA (cL zX (zA (c2 zR (c2 zR (gb 3) (cst (.int 0))) (cst (.int 0))) zD)) (zA (cst (.str "B")) zD))) (c2 jC (gb 4) (cst (.int 2)))))) (zI (ifM (upT (jL (cT (cL xV (zA (gv 0) (zA (cL zat (zA (gv 1) (zA (gv 5) zD))) (zA (cL zat (zA (gv 2) (zA (gv 5) zD))) zD))))))) (zV (cst (.bl false))) nxM) (zI (qB 6 (c2 zR (c2 zR (gb 3) (cst (.int 2))) (cst (.int 0)))) (zI (qB 7 (c2 zR (cL qG (zA (cL zX (zA (c2 zR (c2 zR (gb 3) (cst (.int 0))) (cst (.int 0))) zD)) (zA (cst (.str "B")) zD))) (c2 jC (c2 jM (gb 4) (cst (.int 2))) (cst (.int 2))))) (zI (ifM (upT (cT (c2 eqB (c2 jC (c2 jM (gb 4) (cst (.int 4))) (cst (.int 2))) (cst (.int 0))))) (zV (cL xV (zA (gv 0) (zA (cL zX (zA (gv 6) (zA (gv 1) (zA (gv 7) zD)))) (zA (cL zX (zA (gv 6) (zA (gv 2) (zA (gv 7) zD)))) zD))))) nxM) (zV (cL xV (zA (gv 0) (zA (cL zX (zA (gv 6) (zA (gv 7) (zA (gv 1) zD)))) (zA (cL zX (zA (gv 6) (zA (gv 7) (zA (gv 2) zD)))) zD))))))))))
def zaR:LO:=qM (zhK zP) 5 8
abbrev zhJ(n:Nat):EO Fl:=
 (zI (qB 5 (cL xV (zA (gv 0) (zA (gv 1) (zA (gv 2) zD))))) (zI (qB 6 (cL xV (zA (gv 0) (zA (gv 2) (zA (gv 1) zD))))) (zI (ifM (upT (orP (jN (cTr (gb 5)) (cTr (gb 6))) (jN (cT (c2 eqB (gb 1) (gb 2))) (cTr (gb 5))))) (zV (cst (.bl false))) nxM) (zI (qB 7 (yE (c2 eqB (cL zau (zA (gv 1) zD)) (cL qG zD)) (c2 eqB (cL zau (zA (gv 2) zD)) (cL qG zD)))) (zI (ifM (upT (jN (cTr (gb 7)) (jN (cT (c2 neB (gb 1) (gb 2))) (jN (jL (cTr (gb 5))) (jL (cTr (gb 6))))))) (zV (cst (.bl false))) nxM) (zV (orV (yA (gv 5)) (cL zaR (zA (gv 0) (zA (gv 1) (zA (gv 2) (zA (gv 3) (zA (gv 4) zD)))))))))))))
def wT:LO:=qM (zhJ zP) 5 8
abbrev zbI(n:Nat):EO Fl:=
 (ifM (upT (orP (jL (cT (cL wT (zA (gv 2) (zA (gv 5) (zA (gv 6) (zA (gv 1) (zA (gv 4) zD)))))))) (jL (cT (cL wT (zA (gv 2) (zA (gv 6) (zA (gv 5) (zA (gv 1) (zA (gv 4) zD)))))))))) (zV (cst (.bl false))) nxM)
abbrev zbH(n:Nat):EO Fl:=
 (ifM (upT (jN (cT (cL xV (zA (gv 2) (zA (gv 9) (zA (gv 10) zD))))) (jN (cT (cL xV (zA (gv 2) (zA (gv 10) (zA (gv 11) zD))))) (jL (cT (cL xV (zA (gv 2) (zA (gv 9) (zA (gv 11) zD))))))))) (zV (cst (.bl false))) nxM)
abbrev zdm(n:Nat):EO Fl:=
 (zI (qB 5 (cL zcC (zA (gv 4) (zA (gv 1) zD)))) (zI (ifM (upT (orP (jL (cT (cL zaF (zA (gv 2) (zA (gv 5) zD))))) (cT (cL xV (zA (gv 2) (zA (gv 5) (zA (gv 5) zD))))))) (zV (cst (.bl false))) nxM) (zI (jF (cI (gv 3)) (gN 6) (zbI n)) (zI (kH (cS jS (gb 3) (jP (cst (.int 1))) kB) (nL (zS (gN 7) (zS (gN 8) qC)))) (zI (jF (cI (cL qG (zA (cL zX (zA (gv 7) (zA (gv 8) (zA (gv 5) zD)))) (zA (cL zX (zA (gv 5) (zA (gv 7) (zA (gv 8) zD)))) (zA (cL zX (zA (gv 8) (zA (gv 5) (zA (gv 7) zD)))) (zA (cL zX (zA (gv 7) (zA (gv 5) (zA (gv 8) zD)))) zD)))))) (qQ (zS (gN 9) (zS (gN 10) (zS (gN 11) qC)))) (zbH n)) (qB 3 (cL qG (zA (gv 7) (zA (gv 8) (zA (gv 5) zD))))))))))
abbrev zfP(n:Nat):EO Fl:=
 (zI (qB 1 (cL zbn (zA (cL zag (zA (gv 0) (zA (cst (.int 0)) zD))) zD))) (zI (qB 2 (cL zbo (zA (cL zag (zA (gv 0) (zA (cst (.int 1)) zD))) (zA (gv 1) zD)))) (zI (qB 3 (cL qG (zA (cL zX (zA (c2 zR (c2 zR (gb 1) (cst (.int 2))) (cst (.int 0))) (zA (cst (.str "A")) (zA (cst (.str "B")) zD)))) (zA (cL zX (zA (c2 zR (c2 zR (gb 1) (cst (.int 1))) (cst (.int 0))) (zA (cst (.str "A")) zD))) (zA (cst (.str "A")) zD))))) (zI (jF (cI (cS jS (gb 0) (jP (cst (.int 2))) (jP (cst (.int 26))))) (gN 4) (zdm n)) (zV (cst (.bl true)))))))
def m_law32:LO:=qM (zfP zP) 1 12
theorem zfT{g:D->EO En}{b:EO Fl}(I:Nat->En->Prop):∀(xs:List D) (k:Nat) (ρ:En),I k ρ->
  (∀(i:Nat) x ρ,xs[i]?=some x->I (k+i) ρ->∃ρ1 ρ2,g x ρ=some ρ1/\(b ρ1=some (.nx ρ2)\/b ρ1=some (.ct ρ2))/\I (k+i+1) ρ2)->∃ρ',kR g b xs ρ=some (.nx ρ')/\I (k+xs.length) ρ'
 |[],k,ρ,h,_=>⟨ρ,rfl,h⟩
 |x::xs,k,ρ,h,hs=>by
  obtain⟨ρ1,ρ2,e1,e2,h2⟩:=hs 0 x ρ rfl h;obtain⟨ρ',e3,h3⟩:=zfT I xs (k+1) ρ2 h2 λi y σ hy hi=>by have:=hs (i+1) y σ (by simpa using hy) (by rw[show k+(i+1)=k+1+i by omega];exact hi);rw[show k+(i+1)+1=k+1+i+1 by omega]at this;exact this
  refine⟨ρ',?_,by rw[List.length_cons,show k+(xs.length+1)=k+1+xs.length by omega];exact h3⟩;simp only[kR,e1];rcases e2 with e2|e2<;>(rw[e2];exact e3)
theorem zlt{b:EO Fl}{xs:List D}{ρ:En}(I:Nat->En->Prop)(h0:I 0 ρ)(hs:∀(i:Nat) x ρ,xs[i]?=some x->I i ρ->∃ρ1 ρ2,g x ρ=some ρ1/\(b ρ1=some (.nx ρ2)\/b ρ1=some (.ct ρ2))/\I (i+1) ρ2):∃ρ',kR g b xs ρ=some (.nx ρ')/\I xs.length ρ':=by
 have:=zfT (g:=g) (b:=b) I xs 0 ρ h0 λi x σ hx hi=>by rw[Nat.zero_add]at hi ⊢;exact hs i x σ hx hi
 rw[Nat.zero_add]at this;exact this
theorem wL{g:D->EO En}{b:EO Fl}{xs:List D}{ρ:En}(I:Nat->En->Prop)(h0:I 0 ρ)(hs:∀(i:Nat) x ρ,xs[i]?=some x->I i ρ->∃ρ2,((g x ρ).bind b=some (.nx ρ2)\/(g x ρ).bind b=some (.ct ρ2))/\I (i+1) ρ2):∃ρ',kR g b xs ρ=some (.nx ρ')/\I xs.length ρ':=
 zlt I h0 λi x ρ hx hi=>by
  obtain⟨ρ2,e,h⟩:=hs i x ρ hx hi;cases e1:g x ρ with
  |none=>rw[e1]at e;rcases e with e|e<;>cases e
  |some ρ1=>rw[e1]at e;exact⟨ρ1,ρ2,rfl,e,h⟩
theorem zck{t:EO (Bool×En)}{b:EO Fl}(I:Nat->En->Prop)(Post:En->Prop)(hs:∀m ρ,I m ρ->(∃ρ1,t ρ=some (false,ρ1)/\Post ρ1)\/(∃ρ1 ρ2 m',t ρ=some (true,ρ1)/\(b ρ1=some (.nx ρ2)\/b ρ1=some (.ct ρ2))/\m'<m/\I m' ρ2)):
  ∀(n m:Nat) (ρ:En),I m ρ->m<n->∃ρ',vV t b n ρ=some (.nx ρ')/\Post ρ'
 |0,_,_,_,h=>absurd h (Nat.not_lt_zero _)
 |n+1,m,ρ,h,hn=>by
  rcases hs m ρ h with⟨ρ1,e,p⟩|⟨ρ1,ρ2,m',e,e2,hm,h2⟩
  ·exact⟨ρ1,by simp only[vV,e],p⟩
  ·obtain⟨ρ',e3,p⟩:=zck I Post hs n m' ρ2 h2 (by omega);refine⟨ρ',?_,p⟩;simp only[vV,e];rcases e2 with e2|e2<;>(rw[e2];exact e3)
theorem gK{g:D->EO En}{t:EO Bool}{f:EO D}{ρ:En}:∀{xs ys:List D},xs.length=ys.length->(∀(i:Nat) x y,xs[i]?=some x->ys[i]?=some y->∃ρ1,g x ρ=some ρ1/\t ρ1=some true/\f ρ1=some y)->qZ g t f ρ xs=some ys
 |[],[],_,_=>rfl
 |[],_::_,h,_=>by simp at h
 |_::_,[],h,_=>by simp at h
 |x::xs,y::ys,h,k=>by
  obtain⟨ρ1,e1,e2,e3⟩:=k 0 x y rfl rfl
  have:=gK (g:=g) (t:=t) (f:=f) (ρ:=ρ) (xs:=xs) (ys:=ys) (by simpa using h) λi a b ha hb=>k (i+1) a b (by simpa using ha) (by simpa using hb)
  simp[qZ,e1,e2,e3,this]
theorem zcQ{g:D->EO En}{t:EO Bool}{f:EO D}{ρ:En}{φ:D->D}{p:D->Bool}:∀{xs:List D},(∀x∈xs,∃ρ1,g x ρ=some ρ1/\t ρ1=some (p x)/\(p x=true->f ρ1=some (φ x)))->qZ g t f ρ xs=some ((xs.filter p).map φ)
 |[],_=>rfl
 |x::xs,k=>by
  obtain⟨ρ1,e1,e2,e3⟩:=k x List.mem_cons_self
  have:=zcQ (g:=g) (t:=t) (f:=f) (ρ:=ρ) (xs:=xs) λy hy=>k y (List.mem_cons_of_mem _ hy)
  cases hp:p x with
  |true=>simp[qZ,e1,e2,hp,e3 hp,this,List.filter_cons]
  |false=>simp[qZ,e1,e2,hp,this,List.filter_cons]
theorem zaM{lo:Int}{n i:Nat}{d:D}(h:(xN lo n)[i]?=some d):i<n/\d=.int (lo+(i:Int)):=by
 unfold xN at h;rw[List.getElem?_map]at h;cases e:(List.range n)[i]? with
 |none=>rw[e]at h;cases h
 |some k=>
  rw[e]at h;have h1:=List.getElem?_eq_some_iff.mp e;have h2:=h1.2;simp at h2;subst h2;exact⟨by simpa using h1.1,(Option.some.inj h).symm⟩
theorem gX(lo:Int)(n:Nat):(xN lo n).length=n:=by simp[xN]
variable{α:Type}
theorem at0(a:α)(l:List α):atI (a::l) 0=some a:=nN (j:=0) rfl
theorem at1(a b:α)(l:List α):atI (a::b::l) 1=some b:=nN (j:=1) rfl
theorem at2(a b c:α)(l:List α):atI (a::b::c::l) 2=some c:=nN (j:=2) rfl
theorem at3(a b c d:α)(l:List α):atI (a::b::c::d::l) 3=some d:=nN (j:=3) rfl
local macro_rules|`(tactic|simp! [$xs,*]$[$loc]?)=>`(tactic|simp[$xs,*,qM,jB,zI,qB,setO,jJ,kH,yV,vA,jT,zV,jW,xM,ifM,upT,cT,cTr,yI,jN,orP,jL,yE,orV,yA,c1,c2,cL,cS,zA,zD,cst,gv,gb,gN,qC,zS,qQ,kB,jP,qT,qD,cI,cR1,cR2,yU,jF,itS,yJ,xF,kI,yT,yL,yM,zX,qG,nxM,kC,tyN,yQ,lim,kG,qE,kO,yK,yX,kM,xW,jE,zR,jS,xJ,jA,vD,kN,kP,jM,jC,kY,yD,geD,isB,xX,isNon,vF,yR,xK,xD,vE,xL,xP,xQ,qH,kJ,c3,yS,vC,vB,cSg,xY,itS,Sl.inn,Sl.own,xU,eqB,neB,inB,yB,yZ,xS,xA,xT,xR,yN,at0,at1,at2,at3]$[$loc]?)
local macro_rules|`(tactic|dsimp! [$xs,*]$[$loc]?)=>`(tactic|simp[$xs,*,qM,jB,zI,qB,setO,kH,yV,vA,jT,zV,jW,xM,ifM,upT,cT,cTr,yI,jN,orP,jL,yE,orV,yA,c1,c2,cL,cS,zA,zD,cst,gv,gb,gN,qC,zS,qQ,kB,jP,qT,qD,cI,cR1,cR2,yU,jF,itS,yJ,xF,kI,yT,yL,yM,zX,qG,nxM,kC,tyN,yQ,lim,kG,qE,kO,yK,yX,kM,xW,jE,zR,jS,xJ,jA,vD,kN,kP,jM,jC,kY,yD,geD,isB,xX,isNon,vF,yR,xK,xD,vE,xL,xP,xQ,qH,kJ,c3,yS,vC,vB,cSg,xY,itS,Sl.inn,Sl.own,xU,inB,yB,yZ,xS,xA,xT,xR,yN,at0,at1,at2,at3]$[$loc]?)
inductive T where
 |bl (x:Str)|nd (s:Str) (ts:List T)
mutual
def T.d:T->D
 | .bl x=>.str x
 | .nd s ts=>.tup (.str s::T.ds ts)
def T.ds:List T->List D
 |[]=>[]
 |t::r=>t.d::T.ds r
end
theorem znA:∀ts:List T,T.ds ts=ts.map T.d
 |[]=>by simp[T.ds]
 |t::r=>by rw[T.ds,znA r,List.map_cons]
theorem kF(s:Str)(ts:List T):(T.nd s ts).d=.tup (.str s::ts.map T.d):=by rw[T.d,znA]
theorem xG(x:Str):(T.bl x).d=.str x:=by rw[T.d]
mutual
def T.size:T->Nat
 | .bl _=>1
 | .nd _ ts=>1+T.sizes ts
def T.sizes:List T->Nat
 |[]=>0
 |t::r=>t.size+T.sizes r
end
mutual
def T.depth:T->Nat
 | .bl _=>1
 | .nd _ ts=>1+T.depths ts
def T.depths:List T->Nat
 |[]=>0
 |t::r=>max t.depth (T.depths r)
end
def T.isBl:T->Bool
 | .bl _=>true
 | .nd _ _=>false
def T.kids:T->List T
 | .bl _=>[]
 | .nd _ ts=>ts
theorem zbi(t:T):t.size=1+T.sizes t.kids:=by cases t<;>simp[T.size,T.kids,T.sizes]
theorem zbh(t:T):0<t.size:=by rw[zbi];omega
theorem zai:∀a b:List T,T.sizes (a++b)=T.sizes a+T.sizes b
 |[],b=>by simp[T.sizes]
 |t::a,b=>by simp only[List.cons_append,T.sizes,zai a b];omega
theorem gU:∀a:List T,a.length<=T.sizes a
 |[]=>by simp
 |t::a=>by have:=zbh t;have:=gU a;simp only[List.length_cons,T.sizes];omega
theorem zaK:∀{ts:List T}{t:T},t∈ts->t.depth<=T.depths ts
 |_::_,_,h=>by
  rcases List.mem_cons.mp h with rfl|h
  ·rw[T.depths];exact Nat.le_max_left _ _
  ·rw[T.depths];exact Nat.le_trans (zaK h) (Nat.le_max_right _ _)
theorem gC:∀{ts:List T}{t:T},t∈ts->t.size<=T.sizes ts
 |_::_,_,h=>by
  rcases List.mem_cons.mp h with rfl|h
  ·rw[T.sizes];omega
  ·rw[T.sizes];have:=gC h;omega
theorem zcN(t:T):0<t.depth:=by cases t<;>simp[T.depth]<;>omega
mutual
theorem zly:∀t:T,dep t.d<=t.depth+1
 | .bl x=>by simp[T.d,dep]
 | .nd s ts=>by have:=zik ts;simp only[T.d,dep,qY,T.depth];omega
theorem zik:∀ts:List T,qY (T.ds ts)<=T.depths ts+1
 |[]=>by simp[T.ds,qY]
 |t::r=>by have h1:=zly t;have h2:=zik r;simp only[T.ds,qY,T.depths];omega
end
def idx(p:List Int):Nat->List T->List (List Int×T)
 |_,[]=>[]
 |k,t::r=>(p++[(k:Int)],t)::idx p (k+1) r
mutual
def qP(p:List Int):T->List (List Int×T)
 | .bl x=>[(p,.bl x)]
 | .nd s ts=>(p,.nd s ts)::jD p 0 ts
def jD(p:List Int)(k:Nat):List T->List (List Int×T)
 |[]=>[]
 |t::r=>qP (p++[(k:Int)]) t++jD p (k+1) r
end
theorem zcs(p:List Int)(t:T):qP p t=(p,t)::jD p 0 t.kids:=by cases t<;>simp[qP,T.kids,jD]
def jQ(ws:List (List Int×T)):List (List Int×T):=ws.flatMap λq=>qP q.1 q.2
theorem zfW(p:List Int):∀(k:Nat) (ts:List T),jQ (idx p k ts)=jD p k ts
 |_,[]=>by simp[idx,jQ,jD]
 |k,t::r=>by have:=zfW p (k+1) r;unfold jQ at this;simp only[idx,jQ,jD,List.flatMap_cons,this]
theorem zcL(a b:List (List Int×T)):jQ (a++b)=jQ a++jQ b:=by simp[jQ]
theorem zdM(p:List Int):∀(k:Nat) (ts:List T),(idx p k ts).length=ts.length
 |_,[]=>rfl
 |k,t::r=>by simp[idx,zdM p (k+1) r]
def kW(ws:List (List Int×T)):Nat:=T.sizes (ws.map (·.2))
theorem zhW(p:List Int):∀(k:Nat) (ts:List T),(idx p k ts).map (·.2)=ts
 |_,[]=>rfl
 |k,t::r=>by simp[idx,zhW p (k+1) r]
theorem zbg:∀a:List T,T.sizes a.reverse=T.sizes a
 |[]=>rfl
 |t::a=>by rw[List.reverse_cons,zai,zbg a];simp only[T.sizes];omega
mutual
theorem zar(p:List Int):∀t:T,(qP p t).length=t.size
 | .bl x=>by simp[qP,T.size]
 | .nd s ts=>by simp[qP,T.size,zct p 0 ts];omega
theorem zct(p:List Int):∀(k:Nat) (ts:List T),(jD p k ts).length=T.sizes ts
 |_,[]=>by simp[jD,T.sizes]
 |k,t::r=>by simp[jD,T.sizes,zar (p++[(k:Int)]) t,zct p (k+1) r]
end
noncomputable def jG:T->List Int->Option T
 |t,[]=>some t
 | .bl _,_::_=>none
 | .nd _ ts,k::r=>if 0<=k then(match ts[k.toNat]? with|some t=>jG t r|none=>none)else none
theorem zaz:∀(p q:List Int) (t u:T),jG t p=some u->jG t (p++q)=jG u q
 |[],q,t,u,h=>by simp[jG]at h;subst h;rfl
 |k::p,q,.bl _,u,h=>by simp[jG]at h
 |k::p,q,.nd s ts,u,h=>by
  simp only[List.cons_append,jG]at h ⊢;split at h
  ·rename_i h0;rw[if_pos h0];cases e:ts[k.toNat]? with
   |none=>rw[e]at h;cases h
   |some t'=>rw[e]at h;simp only at h ⊢;exact zaz p q t' u h
  ·cases h
mutual
theorem zej(t0:T)(p:List Int):∀t:T,jG t0 p=some t->∀q∈qP p t,jG t0 q.1=some q.2
 | .bl x,h,q,hq=>by simp only[qP,List.mem_singleton]at hq;subst hq;exact h
 | .nd s ts,h,q,hq=>by
  simp only[qP,List.mem_cons]at hq;rcases hq with rfl|hq
  ·exact h
  ·refine zdh t0 p 0 ts (λi t hi=>?_) q hq;rw[zaz p _ t0 _ h]
   have:(0:Int)<=((0+i:Nat):Int):=by omega
   simp only[jG,if_pos this];rw[Int.toNat_natCast,Nat.zero_add,hi]
theorem zdh(t0:T)(p:List Int):∀(k:Nat) (ts:List T),(∀i t,ts[i]?=some t->jG t0 (p++[((k+i:Nat):Int)])=some t)->∀q∈jD p k ts,jG t0 q.1=some q.2
 |_,[],_,q,hq=>by simp[jD]at hq
 |k,t::r,h,q,hq=>by
  simp only[jD,List.mem_append]at hq;rcases hq with hq|hq
  ·exact zej t0 (p++[(k:Int)]) t (by have:=h 0 t rfl;simpa using this) q hq
  ·refine zdh t0 p (k+1) r (λi t' hi=>?_) q hq
   have:=h (i+1) t' (by simpa using hi);rw[show k+1+i=k+(i+1) by omega];exact this
end
theorem zhO:∀(p q:List Int) (k:Int),HT.lexLt p (p++k::q)=true
 |[],_,_=>rfl
 |a::p,q,k=>by rw[List.cons_append,HT.lexLt_cons,if_pos rfl];exact zhO p q k
theorem zhP:∀(p q r:List Int) (j k:Int),j<k->HT.lexLt (p++j::q) (p++k::r)=true
 |[],q,r,j,k,h=>by rw[List.nil_append,List.nil_append,HT.lexLt_cons,if_neg (by omega)];exact decide_eq_true h
 |a::p,q,r,j,k,h=>by rw[List.cons_append,List.cons_append,HT.lexLt_cons,if_pos rfl];exact zhP p q r j k h
mutual
theorem zdf(p:List Int):∀t:T,∀q∈qP p t,∃r,q.1=p++r
 | .bl x,q,hq=>by simp only[qP,List.mem_singleton]at hq;subst hq;exact⟨[],by simp⟩
 | .nd s ts,q,hq=>by
  simp only[qP,List.mem_cons]at hq;rcases hq with rfl|hq
  ·exact⟨[],by simp⟩
  ·obtain⟨j,r,_,e⟩:=zay p 0 ts q hq;exact⟨_,e⟩
theorem zay(p:List Int):∀(k:Nat) (ts:List T),∀q∈jD p k ts,∃(j:Int) (r:List Int),(k:Int)<=j/\q.1=p++j::r
 |_,[],q,hq=>by simp[jD]at hq
 |k,t::r,q,hq=>by
  simp only[jD,List.mem_append]at hq;rcases hq with hq|hq
  ·obtain⟨r,e⟩:=zdf (p++[(k:Int)]) t q hq;exact⟨k,r,by omega,by rw[e];simp⟩
  ·obtain⟨j,r,h,e⟩:=zay p (k+1) r q hq;exact⟨j,r,by omega,e⟩
end
mutual
theorem zcr(p:List Int):∀t:T,∀q∈qP p t,q.1.length<p.length+t.size
 | .bl x,q,hq=>by simp only[qP,List.mem_singleton]at hq;subst hq;simp[T.size]
 | .nd s ts,q,hq=>by
  simp only[qP,List.mem_cons]at hq;rcases hq with rfl|hq
  ·have:=zbh (.nd s ts);simp only;omega
  ·have:=zbT p 0 ts q hq;simp only[T.size];omega
theorem zbT(p:List Int):∀(k:Nat) (ts:List T),∀q∈jD p k ts,q.1.length<p.length+1+T.sizes ts
 |_,[],q,hq=>by simp[jD]at hq
 |k,t::r,q,hq=>by
  simp only[jD,List.mem_append]at hq;rcases hq with hq|hq
  ·have:=zcr (p++[(k:Int)]) t q hq;rw[List.length_append,List.length_singleton]at this;simp only[T.sizes];omega
  ·have:=zbT p (k+1) r q hq;simp only[T.sizes];omega
end
def Asc(l:List (List Int×T)):Prop:=l.Pairwise λa b=>HT.lexLt a.1 b.1=true
mutual
theorem zbE(p:List Int):∀t:T,Asc (qP p t)
 | .bl x=>by simp[qP,Asc]
 | .nd s ts=>by simp only[qP,Asc,List.pairwise_cons];refine⟨λq hq=>?_,zcu p 0 ts⟩;obtain⟨j,r,_,e⟩:=zay p 0 ts q hq;rw[e];exact zhO p r j
theorem zcu(p:List Int):∀(k:Nat) (ts:List T),Asc (jD p k ts)
 |_,[]=>by simp[jD,Asc]
 |k,t::r=>by simp only[jD,Asc,List.pairwise_append];refine⟨zbE (p++[(k:Int)]) t,zcu p (k+1) r,λa ha b hb=>?_⟩;obtain⟨r1,e1⟩:=zdf (p++[(k:Int)]) t a ha;obtain⟨j,r2,h,e2⟩:=zay p (k+1) r b hb;rw[e1,e2,List.append_assoc];exact zhP p r1 r2 k j (by omega)
end
def pd(q:List Int×T):D:=.tup [.tup (q.1.map D.int),q.2.d]
theorem zaT(t:T):qW [t.d]=some (.bl t.isBl):=by cases t<;>simp! [qW,T.d,T.isBl]
theorem cut1{α:Type}(a:α)(l:List α):yC (a::l) (some 1) none=l:=by simp[yC,HT.sIx]
theorem zbv(t:T):jH [t.d]=some (.tup (t.kids.map T.d)):=by
 cases t with
 |bl x=>simp! [jH,zaT,T.isBl,T.kids]
 |nd s ts=>
  simp! [jH,zaT,T.isBl,T.kids]
  simp[kF,cut1]
theorem zaD(a b:List (List Int×T)):kW (a++b)=kW a+kW b:=by simp[kW,zai]
theorem zbe(a:List (List Int×T)):kW a.reverse=kW a:=by unfold kW;rw[List.map_reverse,zbg]
theorem zgS(p:List Int)(k:Nat)(ts:List T):kW (idx p k ts)=T.sizes ts:=by unfold kW;rw[zhW]
theorem zfV:∀l:List (List Int×T),l.length<=(jQ l).length
 |[]=>by simp[jQ]
 |a::l=>by
  have:=zbh a.2
  have:=zfV l;have e5:jQ (a::l)=qP a.1 a.2++jQ l:=by simp[jQ]
  rw[e5,List.length_append,zar,List.length_cons];omega
theorem zcK:∀l:List (List Int×T),(jQ l).length=kW l
 |[]=>by simp[jQ,kW,T.sizes]
 |a::l=>by
  have e5:jQ (a::l)=qP a.1 a.2++jQ l:=by simp[jQ]
  have:=zcK l;rw[e5,List.length_append,zar,this];simp[kW,T.sizes]
theorem zhX(p:List Int):∀(k:Nat) (ts:List T) (i:Nat) (q:List Int×T),(idx p k ts)[i]?=some q->∃t,ts[i]?=some t/\q=(p++[((k+i:Nat):Int)],t)
 |_,[],i,q,h=>by simp[idx]at h
 |k,t::r,0,q,h=>by simp[idx]at h;exact⟨t,rfl,by rw[←h];simp⟩
 |k,t::r,i+1,q,h=>by obtain⟨u,h1,h2⟩:=zhX p (k+1) r i q (by simpa[idx]using h);exact⟨u,by simpa using h1,by rw[h2,show k+1+i=k+(i+1) by omega]⟩
theorem zgF(p:List Int)(t x:D)(y z u:Option Sl)(ks:List T)(hp:p.length<=999999):
  qZ (qQ (zS (gN 0) (zS (gN 1) qC))) qD (cL zX (zA (c2 jA (gb 2) (cL zX (zA (gv 0) zD))) (zA (gv 1) zD))) [none,none,some (.dat (.tup (p.map D.int)))] (vJ 0 (ks.map T.d))=some ((idx p 0 ks).map pd):=by
 refine gK (by simp[gI,zdM]) λi a b ha hb=>?_
 obtain⟨d0,h1,rfl⟩:=zbu 0 _ i a ha;rw[List.getElem?_map]at h1 hb;cases e1:(idx p 0 ks)[i]? with
 |none=>rw[e1]at hb;cases hb
 |some q=>
  rw[e1]at hb;obtain⟨t0,h2,rfl⟩:=zhX p 0 ks i q e1;rw[h2]at h1;cases h1
  cases hb
  have:p.length+1<=1000000:=by omega
  refine⟨[some (.dat (.int ((0+i:Nat):Int))),some (.dat t0.d),some (.dat (.tup (p.map D.int)))],?_,rfl,?_⟩
  ·simp[qM,jB,zI,qB,setO,jJ,kH,yV,vA,jT,zV,jW,xM,ifM,upT,cT,cTr,yI,jN,orP,jL,yE,orV,yA,c1,c2,cL,cS,zA,zD,cst,gv,gb,gN,qC,zS,qQ,kB,jP,qT,qD,cI,cR1,cR2,yU,jF,itS,yJ,xF,kI,yT,yL,yM,zX,qG,nxM,kC,tyN,yQ,lim,kG,qE,kO,yK,yX,kM,xW,jE,zR,jS,xJ,jA,vD,kN,kP,jM,jC,kY,yD,geD,isB,xX,isNon,vF,yR,xK,xD,vE,xL,xP,xQ,qH,kJ,c3,yS,vC,vB,cSg,xY,itS,Sl.inn,Sl.own,xU,eqB,neB,inB,yB,yZ,xS,xA,xT,xR,yN,at0,at1,at2,at3]
  ·simp! [pd,this]
theorem zcZ(t:T)(hz:t.size<=900000):zah [t.d]=some (.lst ((qP [] t).map pd)):=by
 have W:=zck (t:=upT (cTr (gb 2)))
  (b:=zav zP)
  (λm ρ=>∃(fs ws:List (List Int×T)) (x3 x4 x5:Option Sl),ρ=[some (.dat t.d),some (.own (.lst (fs.map pd))),some (.own (.lst (ws.map pd))),x3,x4,x5]/\m=kW ws/\fs++jQ ws.reverse=qP [] t)
  (λρ=>∃x2 x3 x4 x5,ρ=[some (.dat t.d),some (.own (.lst ((qP [] t).map pd))),x2,x3,x4,x5]) ?_ zP t.size
  [some (.dat t.d),some (.own (.lst [])),some (.own (.lst [pd ([],t)])),none,none,none] ⟨[],[([],t)],none,none,none,rfl,by simp[kW,T.sizes],by simp[jQ]⟩ (by unfold zP;omega)
 ·obtain⟨ρ',e,x2,x3,x4,x5,rfl⟩:=W;have e0:pd ([],t)=.tup [.tup [],t.d]:=rfl;rw[e0]at e
  simp! [zah]at e ⊢
  rw[e];simp
 ·rintro m ρ ⟨fs,ws,x3,x4,x5,rfl,rfl,inv⟩;rcases List.eq_nil_or_concat ws with rfl|⟨ws',⟨p,t1⟩,rfl⟩
  ·refine .inl ⟨_,by simp[qM,jB,zI,qB,setO,jJ,kH,yV,vA,jT,zV,jW,xM,ifM,upT,cT,cTr,yI,jN,orP,jL,yE,orV,yA,c1,c2,cL,cS,zA,zD,cst,gv,gb,gN,qC,zS,qQ,kB,jP,qT,qD,cI,cR1,cR2,yU,jF,itS,yJ,xF,kI,yT,yL,yM,zX,qG,nxM,kC,tyN,yQ,lim,kG,qE,kO,yK,yX,kM,xW,jE,zR,jS,xJ,jA,vD,kN,kP,jM,jC,kY,yD,geD,isB,xX,isNon,vF,yR,xK,xD,vE,xL,xP,xQ,qH,kJ,c3,yS,vC,vB,cSg,xY,itS,Sl.inn,Sl.own,xU,eqB,neB,inB,yB,yZ,xS,xA,xT,xR,yN,at0,at1,at2,at3];rfl,?_⟩;have e:fs=qP [] t:=by simpa[jQ]using inv
   rw[e];exact⟨_,_,_,_,rfl⟩
  ·rw[List.concat_eq_append]at inv ⊢;have el:fs.length+kW (ws'++[(p,t1)])=t.size:=by rw[←zar [] t,←inv,List.length_append,zcK,zbe]
   have ew:kW [(p,t1)]=t1.size:=by simp[kW,T.sizes]
   have ek:=zbi t1;rw[zaD,ew]at el;have hm:(p,t1)∈qP [] t:=by rw[←inv];refine List.mem_append_right _ ?_;rw[List.reverse_append,zcL];refine List.mem_append_left _ ?_;show(p,t1)∈jQ [(p,t1)];unfold jQ;rw[List.flatMap_cons,List.flatMap_nil,List.append_nil,zcs];exact List.mem_cons_self
   have pl:=zcr [] t _ hm;simp only[List.length_nil]at pl;have kl:=gU t1.kids;have wl:ws'.length<=kW ws':=by rw[←zcK];exact zfV _
   refine .inr ⟨_,[some (.dat t.d),some (.own (.lst ((fs++[(p,t1)]).map pd))),some (.own (.lst ((ws'++(idx p 0 t1.kids).reverse).map pd))),some (.dat (.tup (p.map D.int))),some (.dat t1.d),some (.dat (.lst ((idx p 0 t1.kids).map pd)))],kW (ws'++(idx p 0 t1.kids).reverse),by simp[qM,jB,zI,qB,setO,jJ,kH,yV,vA,jT,zV,jW,xM,ifM,upT,cT,cTr,yI,jN,orP,jL,yE,orV,yA,c1,c2,cL,cS,zA,zD,cst,gv,gb,gN,qC,zS,qQ,kB,jP,qT,qD,cI,cR1,cR2,yU,jF,itS,yJ,xF,kI,yT,yL,yM,zX,qG,nxM,kC,tyN,yQ,lim,kG,qE,kO,yK,yX,kM,xW,jE,zR,jS,xJ,jA,vD,kN,kP,jM,jC,kY,yD,geD,isB,xX,isNon,vF,yR,xK,xD,vE,xL,xP,xQ,qH,kJ,c3,yS,vC,vB,cSg,xY,itS,Sl.inn,Sl.own,xU,eqB,neB,inB,yB,yZ,xS,xA,xT,xR,yN,at0,at1,at2,at3];rfl,.inl ?_,?_,fs++[(p,t1)],ws'++(idx p 0 t1.kids).reverse,_,_,_,rfl,rfl,?_⟩
   ·have c:=zgF p t.d t.d none none none t1.kids (by omega);have h1:fs.length<1000000:=by omega
    have h2:t1.kids.length<=1000000:=by omega
    have h3:ws'.length+t1.kids.length<=1000000:=by omega
    simp! [pd,zbv,gI,zdM,h1,h2,h3]at c ⊢
    rw[c]
    simp! [pd,zbv,gI,zdM,h1,h2,h3]
   ·rw[zaD,zaD,zbe,zgS,ew];omega
   ·rw[←inv];simp only[List.reverse_append,List.reverse_reverse,zcL,List.append_assoc,List.reverse_cons,List.reverse_nil,List.nil_append];rw[zfW];have e5:jQ [(p,t1)]=(p,t1)::jD p 0 t1.kids:=by unfold jQ;rw[List.flatMap_cons,List.flatMap_nil,List.append_nil,zcs]
    rw[e5];simp
def cellOf(ns:List Int)(k:Int):Int:=ns.getD k.toNat 0
theorem zeG{α:Type}{l:List α}{k:Int}(h0:0<=k)(h1:k<(l.length:Int)):atI l k=l[k.toNat]?:=by unfold atI ixN;rw[if_pos h0,if_pos h1];rfl
theorem zkq(ns:List Int)(k:Int)(h0:0<=k):zag [.scr ns,.int k]=some (.int (cellOf ns k)):=by
 by_cases h:k<(ns.length:Int)
 ·have e:ns[k.toNat]?=some (cellOf ns k):=by unfold cellOf;rw[List.getD_eq_getElem?_getD,List.getElem?_eq_getElem (by omega)];rfl
  simp! [zag,h,zeG h0 h,e]
 ·have e:cellOf ns k=0:=by unfold cellOf;rw[List.getD_eq_getElem?_getD,List.getElem?_eq_none (by omega)];rfl
  simp! [zag,h,e]
theorem zmZ{z:Str}(h:z.cps.toList.length=26)(n:Int):∃c,atI z.cps.toList (n%26)=some c:=by have h0:0<=n%26:=Int.emod_nonneg _ (by decide);have h1:n%26<26:=Int.emod_lt_of_pos _ (by decide);refine⟨z.cps.toList[(n%26).toNat]'(by omega),?_⟩;rw[zeG h0 (by rw[h];exact_mod_cast h1),List.getElem?_eq_getElem (by omega)]
theorem len1(c:Nat):(⟨#[c]⟩:Str).length=1:=rfl
theorem zna(a b:Str):(a++b).length=a.length+b.length:=by simp[Str.length,PySem.Str.cps_append]
theorem alen:(Str.ofString "abcdefghijklmnopqrstuvwxyz").cps.toList.length=26:=by decide+kernel
theorem zoI:(Str.ofString "abcdefghijklmnopqrstuvwxyz").length=26:=by decide+kernel
theorem elen:(Str.ofString "").length=0:=by decide+kernel
def sd(p:Str×Int):D:=.tup [.str p.1,.int p.2]
theorem zdW{α β:Type}(f:α->β)(l:List α)(i:Int):atI (l.map f) i=(atI l i).map f:=by unfold atI;rw[List.length_map];cases ixN l.length i<;>simp
structure zfu(ps:SI):Prop where
 lo:2<=ps.length
 hi:ps.length<=5
 cnt:∀p∈ps,0<=p.2/\p.2<=3
 fst:∀p,ps[0]?=some p->p.2=0
 wd:∀p∈ps,p.1.length<=16
def szs(ts:List T):List Int:=ts.map λt=>(t.size:Int)
theorem zeJ:∀ts:List T,(szs ts).sum=(T.sizes ts:Int)
 |[]=>rfl
 |t::r=>by have:=zeJ r;unfold szs at this ⊢;rw[List.map_cons,List.sum_cons,this,T.sizes];omega
theorem zlV(ts:List T)(h:T.sizes ts<=1000000):zmQ (szs ts):=by
 refine⟨λn hn=>?_,?_⟩
 ·unfold szs at hn;obtain⟨t,_,rfl⟩:=List.mem_map.mp hn;omega
 ·rw[zeJ];show(T.sizes ts:Int)<4611686018427387904;omega
theorem zii:∀(n:Nat) (t:T),t.depth<=n->t.size<=1000000->zaf n [t.d]=some (.int t.size)
 |0,t,h,_=>by have:=zcN t;omega
 |n+1,.bl x,h,_=>by simp! [zaf,xG,T.size]
 |n+1,.nd s ts,h,hz=>by
  rw[T.depth]at h;rw[T.size]at hz;have kl:=gU ts;have hl:ts.length<=1000000:=by omega
  have w1:qZ (gN 0) qD (zca (zaf n) zP) [none] (ts.map T.d)=some ((szs ts).map D.int):=by
   refine gK (by simp[szs]) λi x y hx hy=>?_
   unfold szs at hy;rw[List.getElem?_map]at hx;rw[List.map_map,List.getElem?_map]at hy;cases e:ts[i]? with
   |none=>rw[e]at hx;cases hx
   |some t=>
    rw[e]at hx hy;cases hx;cases hy
    have hm:=List.mem_of_getElem? e;have d1:=zaK hm;have d2:=gC hm;exact⟨_,rfl,rfl,by simp! [zii n t (by omega) (by omega)]⟩
  have io:=zbJ (szs ts);have ok:=zlV ts (by omega)
  simp! [zaf,kF,cut1,w1,hl,io,ok,sumD,zeJ,T.size]
inductive WT(ps:SI)(bs:List Str):T->Prop
 |bl {x:Str}(h:x∈bs):WT ps bs (.bl x)
 |nd {s:Str}{ts:List T} (h:(s,(ts.length:Int))∈ps) (hs:∀t∈ts,WT ps bs t):WT ps bs (.nd s ts)
theorem zba{t u:T}{k:Int}{p:List Int}(h:jG t (k::p)=some u):∃s ts c,t=.nd s ts/\0<=k/\ts[k.toNat]?=some c/\jG c p=some u:=by
 cases t with
 |bl x=>simp[jG]at h
 |nd s ts=>
  simp only[jG]at h;split at h
  ·rename_i h0;cases e:ts[k.toNat]? with
   |none=>rw[e]at h;cases h
   |some c=>rw[e]at h;exact⟨s,ts,c,rfl,h0,e,h⟩
  ·cases h
mutual
theorem zcw:∀(p:List Int) (t u:T),jG t p=some u->u.size<=t.size
 |[],t,u,h=>by
  have:some t=some u:=by cases t<;>simpa[jG]using h
  rw[Option.some.inj this];exact Nat.le_refl _
 |k::p,t,u,h=>by
  obtain⟨s,ts,c,rfl,h0,e,h2⟩:=zba h
  have:=zcw p c u h2
  have:=gC (List.mem_of_getElem? e);rw[T.size];omega
end
theorem zcx:∀(p:List Int) (t u:T),jG t p=some u->p.length<=t.depth
 |[],t,u,h=>by simp
 |k::p,t,u,h=>by obtain⟨s,ts,c,rfl,h0,e,h2⟩:=zba h;have h1:=zcx p c u h2;have h3:=zaK (List.mem_of_getElem? e);rw[T.depth,List.length_cons];omega
abbrev Fil:=List (Str×T)
def fks(φ:Fil):List KD:=φ.map λp=>KD.str p.1
def fds(φ:Fil):List D:=φ.map λp=>p.2.d
def fdic(φ:Fil):D:=.dic (fks φ) (fds φ)
noncomputable def wV(φ:Fil)(x:Str):Option T:=(φ.find? λp=>decide (p.1=x)).map (·.2)
theorem znv(φ:Fil):kOk (fks φ)=true:=by unfold kOk fks;rw[List.all_map];exact List.all_eq_true.mpr λp _=>rfl
theorem zkp(x:Str):∀φ:Fil,qJ (fks φ) (fds φ) (.str x)=(wV φ x).map T.d
 |[]=>by simp[qJ,fks,wV]
 |(y,t)::φ=>by
  have ih:=zkp x φ;by_cases h:y=x
  ·subst h;simp[qJ,fks,fds,wV]
  ·have h':¬KD.str y=KD.str x:=λz=>h (by cases z;rfl)
   simp only[qJ,fks,fds,wV,List.map_cons,List.zip_cons_cons,List.find?_cons,h,h',decide_false]at ih ⊢;exact ih
mutual
def kS(φ:Fil):T->T
 | .bl x=>(wV φ x).getD (.bl x)
 | .nd s ts=>.nd s (vZ φ ts)
def vZ(φ:Fil):List T->List T
 |[]=>[]
 |t::r=>kS φ t::vZ φ r
end
theorem zbK(φ:Fil):∀ts:List T,vZ φ ts=ts.map (kS φ)
 |[]=>by simp[vZ]
 |t::r=>by simp[vZ,zbK φ r]
theorem zjH{φ:Fil}{x:Str}{t:T}(h:wV φ x=some t):∃p∈φ,p.1=x/\p.2=t:=by
 unfold wV at h;cases e:φ.find? λp=>decide (p.1=x)with
 |none=>rw[e]at h;cases h
 |some p=>
  rw[e]at h;cases h
  exact⟨p,List.mem_of_find?_eq_some e,by simpa using List.find?_some e,rfl⟩
theorem zhV(x:Str):∀bs:List Str,inL (.str x) (bs.map D.str)=some (decide (x∈bs))
 |[]=>by simp[inL]
 |b::bs=>by
  simp only[List.map_cons,inL,eqD,zhV x bs];by_cases h:b=x
  ·subst h;simp
  ·have h2:(b==x)=false:=by simpa using h
   have h3:¬x=b:=λz=>h z.symm
   simp[h2,h3]
theorem zdP(l:List Str):qY (l.map D.str)<=1:=by
 induction l with
 |nil=>simp[qY]
 |cons x l ih=>simp only[List.map_cons,qY,dep];omega
noncomputable def nb(s:Option Sl):Bool:=match s with
 |some (.bor _)=>false
 |_=>true
theorem zlI(s:Option Sl)(ρ:En):jJ (s::ρ)=(nb s&&jJ ρ):=rfl
theorem zmS:jJ []=true:=rfl
theorem zoK(d:D):nb (some (.dat d))=true:=rfl
theorem zoJ(q:Bool)(d:D):nb (some (.ow q d))=true:=rfl
theorem zoo:nb none=true:=rfl
open Classical in
mutual
theorem eqT:∀t u:T,eqD t.d u.d=some (decide (t=u))
 | .bl x,.bl y=>by
  simp only[xG,eqD];by_cases h:x=y
  ·subst h;simp
  ·have h2:(x==y)=false:=by simpa using h
   simp[h,h2]
 | .bl x,.nd s ts=>by simp[xG,kF,eqD]
 | .nd s ts,.bl x=>by simp[xG,kF,eqD]
 | .nd s ts,.nd r us=>by
  simp only[kF,eqD,eqL,eqTs ts us];by_cases h:s=r
  ·subst h;simp
  ·have h2:(s==r)=false:=by simpa using h
   simp[h,h2]
theorem eqTs:∀ts us:List T,eqL (ts.map T.d) (us.map T.d)=some (decide (ts=us))
 |[],[]=>by simp[eqL]
 |[],_::_=>by simp[eqL]
 |_::_,[]=>by simp[eqL]
 |t::ts,u::us=>by simp only[List.map_cons,eqL,eqT t u,eqTs ts us];simp[Bool.decide_and]
end
open Classical in
theorem ne_T(t u:T)(h:t.depth<=90):neB t.d u.d=some (.bl (!decide (t=u))):=by
 have e:=eqT t u;have d:=zly t;have d':dep t.d<=100:=by omega
 simp[neB,e,d']
theorem eq_T(t u:T)(h:t.depth<=90):eqB t.d u.d=some (.bl (@decide (t=u) (Classical.propDecidable _))):=by
 have e:=eqT t u;have d:=zly t;have d':dep t.d<=100:=by omega
 simp[eqB,e,d']
mutual
def bks:T->List Str
 | .bl x=>[x]
 | .nd _ ts=>jR [] ts
def jR(acc:List Str):List T->List Str
 |[]=>acc
 |t::ts=>jR (acc++(bks t).filter λx=>!decide (x∈acc)) ts
end
mutual
theorem ziw:∀t:T,(bks t).length<=t.size
 | .bl x=>by simp[bks,T.size]
 | .nd s ts=>by have:=zdU ts [];simp[bks,T.size]at this ⊢;omega
theorem zdU:∀(ts:List T) (l:List Str),(jR l ts).length<=l.length+T.sizes ts
 |[],l=>by simp[jR]
 |t::ts,l=>by have h1:=zdU ts (l++(bks t).filter λx=>!decide (x∈l));have h2:=ziw t;have h3:=List.length_filter_le (λx=>!decide (x∈l)) (bks t);rw[List.length_append]at h1;rw[jR,T.sizes];omega
end
mutual
theorem zcM{φ:Fil}{m:Nat}(h1:1<=m)(hm:∀p∈φ,p.2.size<=m):∀t:T,(kS φ t).size<=t.size*m
 | .bl x=>by
  rw[kS];cases e:wV φ x with
  |none=>simp[T.size];exact h1
  |some t=>
   obtain⟨p,hp,_,rfl⟩:=zjH e
   have:=hm p hp;simp[T.size];exact this
 | .nd s ts=>by have:=zdq h1 hm ts;rw[kS];simp only[T.size,Nat.add_mul];omega
theorem zdq{φ:Fil}{m:Nat}(h1:1<=m)(hm:∀p∈φ,p.2.size<=m):∀ts:List T,T.sizes (vZ φ ts)<=T.sizes ts*m
 |[]=>by simp[vZ,T.sizes]
 |t::r=>by have h2:=zcM h1 hm t;have h3:=zdq h1 hm r;rw[vZ];simp only[T.sizes,Nat.add_mul];omega
end
mutual
def vs:T->List Str
 | .bl x=>[x]
 | .nd _ ts=>vsL ts
def vsL:List T->List Str
 |[]=>[]
 |t::r=>vs t++vsL r
end
mutual
theorem ziv{x:Str}:∀t:T,x∈bks t↔x∈vs t
 | .bl y=>by simp[bks,vs]
 | .nd s ts=>by rw[bks,vs,zgd ts];simp
theorem zgd{x:Str}:∀(ts:List T) (l:List Str),x∈jR l ts↔x∈l\/x∈vsL ts
 |[],l=>by simp[jR,vsL]
 |t::r,l=>by rw[jR,zgd r,List.mem_append,List.mem_filter,ziv t,vsL,List.mem_append];by_cases h:x∈l<;>simp[h]
end
section
variable{a b:T}{φ:Fil}{W:List (T×T)}{w:T×T}
end
theorem zfr:(Str.ofString "abcdefghijklmnopqrstuvwxyz").cps.toList.Nodup:=by decide+kernel
theorem zgA{a b:Int}{c:Nat}(h1:atI (Str.ofString "abcdefghijklmnopqrstuvwxyz").cps.toList (a%26)=some c)(h2:atI (Str.ofString "abcdefghijklmnopqrstuvwxyz").cps.toList (b%26)=some c):a%26=b%26:=by
 have a0:0<=a%26:=Int.emod_nonneg _ (by decide);have a1:a%26<26:=Int.emod_lt_of_pos _ (by decide);have b0:0<=b%26:=Int.emod_nonneg _ (by decide);have b1:b%26<26:=Int.emod_lt_of_pos _ (by decide);rw[zeG a0 (by rw[alen];exact_mod_cast a1)]at h1;rw[zeG b0 (by rw[alen];exact_mod_cast b1)]at h2
 have:=(List.getElem?_inj (by rw[alen];omega) zfr).mp (h1.trans h2.symm);omega
def lows:List Nat:=(Str.ofString "abcdefghijklmnopqrstuvwxyz").cps.toList
def zfv(x:Str):Prop:=∀c∈x.cps.toList,c∈lows
def Lo(x:Str):Prop:=1<=x.length/\zfv x
theorem zmY{a b:Str}(h:zfv a)(k:zfv b):zfv (a++b):=λc hc=>by
 have e:(a++b).cps.toList=a.cps.toList++b.cps.toList:=by show(a.cps++b.cps).toList=_;simp
 rw[e]at hc;rcases List.mem_append.mp hc with z|z
 ·exact h c z
 ·exact k c z
theorem zmX{n:Int}{c:Nat}(h:atI (Str.ofString "abcdefghijklmnopqrstuvwxyz").cps.toList n=some c):zfv ⟨#[c]⟩:=λb hb=>by
 have:b=c:=by simpa using hb
 subst this;unfold atI at h;cases e:ixN (Str.ofString "abcdefghijklmnopqrstuvwxyz").cps.toList.length n with
 |none=>rw[e]at h;cases h
 |some j=>rw[e]at h;exact List.mem_of_getElem? h
def WP(n0:Int)(a k:Nat)(x:Str):Prop:=zfv x/\∃cc,atI (Str.ofString "abcdefghijklmnopqrstuvwxyz").cps.toList ((n0/((a:Int)+3)+(a:Int)*(a:Int)+(k:Int))%26)=some cc/\x.cps.toList[a]?=some cc
theorem zjZ{x:Str}{c:Nat}{i:Nat}:(x++⟨#[c]⟩).cps.toList[i]?=if i<x.length then x.cps.toList[i]? else if i=x.length then some c else none:=by
 have e:(x++⟨#[c]⟩).cps.toList=x.cps.toList++[c]:=by show(x.cps++#[c]).toList=_;simp
 have l:x.length=x.cps.toList.length:=by show x.cps.size=_;simp
 rw[e,l,List.getElem?_append];split
 ·rfl
 ·rename_i h;split
  ·rename_i h2;subst h2;simp
  ·rename_i h2;rw[List.getElem?_eq_none (by rw[List.length_singleton];omega)]
theorem zjK(c n0:Int)(F:List D)(L a k:Nat)(hL:L<=8)(ha:a<L)(hk:k<4)(h0:0<=n0)(k8 k9:Option Sl):
  ∃(x:Str) (k8' k9':Option Sl),kR (gN 8) (zaH zP) (xN 0 L) [some (.dat (.int c)),some (.dat (.str "abcdefghijklmnopqrstuvwxyz")),some (.dat (.int n0)),some (.dat (.int L)),some (.dat (.int a)),some (.own (.lst F)),some (.dat (.int k)),some (.dat (.str "")),k8,k9]=
   some (.nx [some (.dat (.int c)),some (.dat (.str "abcdefghijklmnopqrstuvwxyz")),some (.dat (.int n0)),some (.dat (.int L)),some (.dat (.int a)),some (.own (.lst F)),some (.dat (.int k)),some (.dat (.str x)),k8',k9'])/\x.length=L/\WP n0 a k x:=by
 obtain⟨ρ',f1,x,k8',k9',rfl,h1,h2,h3⟩:=wL (g:=gN 8) (b:=zaH zP) (xs:=xN 0 L) (ρ:=[some (.dat (.int c)),some (.dat (.str "abcdefghijklmnopqrstuvwxyz")),some (.dat (.int n0)),some (.dat (.int L)),some (.dat (.int a)),some (.own (.lst F)),some (.dat (.int k)),some (.dat (.str "")),k8,k9])
  (λi ρ=>∃(x:Str) (k8 k9:Option Sl),ρ=[some (.dat (.int c)),some (.dat (.str "abcdefghijklmnopqrstuvwxyz")),some (.dat (.int n0)),some (.dat (.int L)),some (.dat (.int a)),some (.own (.lst F)),some (.dat (.int k)),some (.dat (.str x)),k8,k9]/\x.length=min i L/\zfv x/\(a<i->∃cc,atI (Str.ofString "abcdefghijklmnopqrstuvwxyz").cps.toList ((n0/((a:Int)+3)+(a:Int)*(a:Int)+(k:Int))%26)=some cc/\x.cps.toList[a]?=some cc))
  ⟨"",k8,k9,rfl,by rw[elen];simp,by intro c hc;exact absurd hc (by decide+revert+kernel),λh=>by omega⟩ (by
   rintro i y ρ hy ⟨x,k8,k9,rfl,h1,h2,h3⟩;obtain⟨hi,rfl⟩:=zaM hy;have i8:i<8:=by omega
   obtain⟨bb,hbb⟩:∃bb,decide (i=a)=bb:=⟨_,rfl⟩;have o3:zgu (0+(i:Int)+3):=xA (by omega) (by omega);have o1:zeS (0+(i:Int)) (0+(i:Int)):=yZ (by omega) (by omega);have o2:zeS (if bb=true then 1 else 0) (k:Int):=yZ (by omega) (by omega);obtain⟨cc,hcc⟩:=zmZ alen (n0/(0+(i:Int)+3)+(0+(i:Int))*(0+(i:Int))+(if bb=true then 1 else 0)*(k:Int));have hl:x.length+1<=1000000:=by omega
   have eb:eqB (.int (0+(i:Int))) (.int (a:Int))=some (.bl bb):=by
    have e:((0+(i:Int))==(a:Int))=decide (i=a):=by
     by_cases h:i=a
     ·subst h;simp
     ·have:¬(0+(i:Int))=(a:Int):=by omega
      simp only[h,decide_false];exact beq_eq_false_iff_ne.mpr this
    have d:dep (.int (0+(i:Int)))<=100:=by simp[dep]
    unfold eqB;rw[if_pos d,eqD,e,hbb];rfl
   refine⟨[some (.dat (.int c)),some (.dat (.str "abcdefghijklmnopqrstuvwxyz")),some (.dat (.int n0)),some (.dat (.int L)),some (.dat (.int a)),some (.own (.lst F)),some (.dat (.int k)),some (.dat (.str (x++⟨#[cc]⟩))),some (.dat (.int (0+(i:Int)))),some (.dat (.int (n0/(0+(i:Int)+3)+(0+(i:Int))*(0+(i:Int))+(if bb=true then 1 else 0)*(k:Int))))],.inl ?_,x++⟨#[cc]⟩,_,_,rfl,by rw[zna,len1];omega,zmY h2 (zmX hcc),λh=>?_⟩
   ·generalize (0+(i:Int))=I0 at*;simp[eb,o3,o1,o2,zoI,hcc,len1,hl,qM,jB,zI,qB,setO,kH,yV,vA,jT,zV,jW,xM,ifM,upT,cT,cTr,yI,jN,orP,jL,yE,orV,yA,c1,c2,cL,cS,zA,zD,cst,gv,gb,gN,qC,zS,qQ,kB,jP,qT,qD,cI,cR1,cR2,yU,jF,itS,yJ,xF,kI,yT,yL,yM,zX,qG,nxM,kC,tyN,yQ,lim,kG,qE,kO,yK,yX,kM,xW,jE,zR,jS,xJ,jA,vD,kN,kP,jM,jC,kY,yD,geD,isB,xX,vF,yR,xK,xD,vE,xL,xP,xQ,qH,kJ,c3,yS,vC,vB,cSg,xY,itS,Sl.inn,Sl.own,xU,inB,yB,yZ,xS,xA,xT,xR,yN,at0,at1,at2,at3]
   ·by_cases e:a=i
    ·subst e;refine⟨cc,?_,?_⟩
     ·have:bb=true:=by rw[←hbb];simp
      subst this;simpa using hcc
     ·rw[zjZ,if_neg (by omega),if_pos (by omega)]
    ·obtain⟨c',e1,e2⟩:=h3 (by omega);refine⟨c',e1,?_⟩;rw[zjZ,if_pos (by omega)];exact e2)
 rw[gX]at h1 h3;exact⟨x,k8',k9',f1,by omega,h2,h3 ha⟩
theorem zif(c:Int):∃(w0 w1 w2 w3:Str) (d3:Int),zbn [.int c]=some (.lst ([(w0,0),(w1,1),(w2,2),(w3,d3)].map sd))/\0<=d3/\d3<=3/\[w0,w1,w2,w3].Nodup/\∀x∈[w0,w1,w2,w3],Lo x/\x.length<=8:=by
 obtain⟨n0,e0⟩:∃n0:Int,c%2147483629=n0:=⟨_,rfl⟩;have h0:0<=n0:=by rw[←e0];exact Int.emod_nonneg _ (by decide)
 have m0:0<=n0%8:=Int.emod_nonneg _ (by decide);have m1:n0%8<8:=Int.emod_lt_of_pos _ (by decide);obtain⟨L,eL⟩:∃L:Nat,1+n0%8=(L:Int):=⟨(1+n0%8).toNat,by omega⟩;have a0:0<=n0/8%(L:Int):=Int.emod_nonneg _ (by omega);have a1:n0/8%(L:Int)<(L:Int):=Int.emod_lt_of_pos _ (by omega);obtain⟨a,ea⟩:∃a:Nat,n0/8%(L:Int)=(a:Int):=⟨(n0/8%(L:Int)).toNat,by omega⟩;have q0:0<=n0/64%4:=Int.emod_nonneg _ (by decide);have q1:n0/64%4<4:=Int.emod_lt_of_pos _ (by decide);obtain⟨d3,e3⟩:∃d3:Int,n0/64%4=d3:=⟨_,rfl⟩;have omL:zeT (L:Int):=by show(0:Int)<_;omega
 have orL:zeR (L:Int):=yN (by omega) (by omega);have zL:L<=1000000:=by omega
 obtain⟨ρ',f1,F,k6,k7,k8,k9,rfl,hl,hF⟩:=wL (g:=gN 6) (b:=zbU zP) (xs:=xN 0 4) (ρ:=[some (.dat (.int c)),some (.dat (.str "abcdefghijklmnopqrstuvwxyz")),some (.dat (.int n0)),some (.dat (.int L)),some (.dat (.int a)),some (.own (.lst [])),none,none,none,none])
  (λi ρ=>∃(F:SI) (k6 k7 k8 k9:Option Sl),ρ=[some (.dat (.int c)),some (.dat (.str "abcdefghijklmnopqrstuvwxyz")),some (.dat (.int n0)),some (.dat (.int L)),some (.dat (.int a)),some (.own (.lst (F.map sd))),k6,k7,k8,k9]/\F.length=i/\∀j p,F[j]?=some p->(p.1.length=L/\WP n0 a j p.1)/\[0,1,2,d3][j]?=some p.2)
  ⟨[],none,none,none,none,rfl,rfl,λj p h=>by simp at h⟩ (by
   rintro i y ρ hy ⟨F,k6,k7,k8,k9,rfl,hl,hF⟩;obtain⟨hi,rfl⟩:=zaM hy;obtain⟨x,k8',k9',g1,g2,g3⟩:=zjK c n0 (F.map sd) L a i (by omega) (by omega) hi h0 k8 k9;obtain⟨v,ev⟩:∃v:Int,[0,1,2,d3][i]?=some v:=⟨_,List.getElem?_eq_getElem (by simpa using hi)⟩;have av:atI [D.int 0,.int 1,.int 2,.int d3] (i:Int)=some (.int v):=by have:[D.int 0,.int 1,.int 2,.int d3]=[0,1,2,d3].map D.int:=rfl;rw[this,zdW,nN ev];rfl
   have fl:F.length<1000000:=by omega
   rw[Int.zero_add];refine⟨[some (.dat (.int c)),some (.dat (.str "abcdefghijklmnopqrstuvwxyz")),some (.dat (.int n0)),some (.dat (.int L)),some (.dat (.int a)),some (.own (.lst ((F++[(x,v)]).map sd))),some (.dat (.int i)),some (.dat (.str x)),k8',k9'],.inl ?_,F++[(x,v)],_,_,_,_,rfl,by simp[hl],λj p h=>?_⟩
   ·simp only[Sl.own]at g1
    simp! [orL,zL,gX,g1,e3,av,fl,sd]
   ·rw[List.getElem?_append]at h;split at h
    ·exact hF j p h
    ·rename_i hj
     have:j=i:=by have:=(List.getElem?_eq_some_iff.mp h).1;simp at this;omega
     subst this;rw[hl,Nat.sub_self]at h;cases h
     exact⟨⟨g2,g3⟩,ev⟩)
 rw[gX]at hl
 match F,hl,hF,f1 with
 |[p0,p1,p2,p3],_,hF,f1=>
  obtain⟨⟨l0,u0⟩,v0⟩:=hF 0 p0 rfl;obtain⟨⟨l1,u1⟩,v1⟩:=hF 1 p1 rfl;obtain⟨⟨l2,u2⟩,v2⟩:=hF 2 p2 rfl;obtain⟨⟨l3,u3⟩,v3⟩:=hF 3 p3 rfl;obtain⟨w0,x0⟩:=p0;obtain⟨w1,x1⟩:=p1;obtain⟨w2,x2⟩:=p2;obtain⟨w3,x3⟩:=p3;simp only at*;cases v0;cases v1;cases v2;cases v3
  have ne:∀(i j:Nat) (x:Str),i<4->j<4->WP n0 a i x->WP n0 a j x->i=j:=by
   rintro i j x hi hj ⟨_,c1,a1,b1⟩ ⟨_,c2,a2,b2⟩;rw[b1]at b2;cases b2
   have:=zgA a1 a2;omega
  refine⟨w0,w1,w2,w3,d3,?_,by omega,by omega,?_,?_⟩
  ·simp only[Sl.own]at f1;have o8:zeT (8:Int):=by show(0:Int)<_;decide
   simp! [zbn,e0,eL,omL,ea,f1]
  ·simp only[List.nodup_cons,List.mem_cons,List.not_mem_nil,or_false,not_or,not_false_eq_true,List.nodup_nil,and_true];refine⟨⟨λe=>?_,λe=>?_,λe=>?_⟩,⟨λe=>?_,λe=>?_⟩,λe=>?_⟩
   ·subst e;have:=ne 0 1 _ (by omega) (by omega) u0 u1;omega
   ·subst e;have:=ne 0 2 _ (by omega) (by omega) u0 u2;omega
   ·subst e;have:=ne 0 3 _ (by omega) (by omega) u0 u3;omega
   ·subst e;have:=ne 1 2 _ (by omega) (by omega) u1 u2;omega
   ·subst e;have:=ne 1 3 _ (by omega) (by omega) u1 u3;omega
   ·subst e;have:=ne 2 3 _ (by omega) (by omega) u2 u3;omega
  ·intro x hx;simp at hx;rcases hx with rfl|rfl|rfl|rfl
   ·exact⟨⟨by omega,u0.1⟩,by omega⟩
   ·exact⟨⟨by omega,u1.1⟩,by omega⟩
   ·exact⟨⟨by omega,u2.1⟩,by omega⟩
   ·exact⟨⟨by omega,u3.1⟩,by omega⟩
theorem zgK(c:Int)(h:Builtin.Int.intBits c<=2^20):∃n:Int,zas [.int c]=some (.int n)/\0<=n:=by
 have om:zeT (10^60:Int):=by show(0:Int)<_;decide
 have ok:zeS (c/3) 27182818284590452353602874713526624977572470936999595749669:=.inr ⟨intBits_le_of_natAbs (by omega) h,by decide+kernel⟩;by_cases e:c%3=0
 ·exact⟨c/3%10^60,by simp! [zas,e,eqD,dep],Int.emod_nonneg _ (by decide)⟩
 ·exact⟨c/3*27182818284590452353602874713526624977572470936999595749669%10^60,by simp! [zas,e,ok,eqD,dep],Int.emod_nonneg _ (by decide)⟩
theorem zbX{α:Type}{h k:α->D}{P:α->Bool}{g:D->EO En}{t:EO Bool}{f:EO D}{ρ:En}:∀{L:List α},(∀x∈L,∃ρ1,g (h x) ρ=some ρ1/\t ρ1=some (P x)/\(P x=true->f ρ1=some (k x)))->qZ g t f ρ (L.map h)=some ((L.filter P).map k)
 |[],_=>by simp[qZ]
 |x::L,H=>by
  obtain⟨ρ1,e1,e2,e3⟩:=H x (by simp);have ih:=zbX (L:=L) λy hy=>H y (List.mem_cons_of_mem _ hy)
  rw[List.map_cons,List.filter_cons];cases e:P x with
  |true=>rw[e]at e2;simp[qZ,e1,e2,e3 e,ih]
  |false=>rw[e]at e2;simp[qZ,e1,e2,ih]
def xI:Nat->Nat
 |0=>1
 |k+1=>1+3*xI k
theorem ziS:∀k,1<=xI k
 |0=>by simp[xI]
 |k+1=>by rw[xI];omega
theorem zfY{ps:SI}(S:zfu ps)(bs:List Str)(hb:bs.length<=100):∀(f nest:Nat) (n:Int),nest<f->nest<=20->0<=n->
  ∃(t:T) (n':Int),nB f [.int n,.int nest,.lst (ps.map sd),.lst (bs.map D.str)]=some (.lst [t.d,.int n'])/\0<=n'/\WT ps bs t/\t.depth<=nest+1/\t.size<=xI nest
 |0,nest,n,h,_,_=>by omega
 |f+1,nest,n,hf,h20,hn=>by
  have lo:=S.lo;have hi:=S.hi;obtain⟨m,em⟩:∃m:Nat,m=ps.length+bs.length:=⟨_,rfl⟩;have em':(ps.length:Int)+(bs.length:Int)=(m:Int):=by omega
  have q0:0<=n%(m:Int):=Int.emod_nonneg _ (by omega);have q1:n%(m:Int)<(m:Int):=Int.emod_lt_of_pos _ (by omega);have d0:0<=n/(m:Int):=Int.ediv_nonneg hn (by omega);have om:zeT (m:Int):=by show(0:Int)<_;omega
  have od:zgu (m:Int):=xA (by omega) (by omega);obtain⟨k,ek⟩:∃k:Nat,n%(m:Int)=(k:Int):=⟨(n%(m:Int)).toNat,by omega⟩;have zp:ps.length<=1000000:=by omega
  have zb:bs.length<=1000000:=by omega
  obtain⟨n1,en1⟩:∃n1,n/(m:Int)=n1:=⟨_,rfl⟩;rw[en1]at d0;have lp:(ps.map sd).length=ps.length:=List.length_map _;have lb:(bs.map D.str).length=bs.length:=List.length_map _;by_cases hk:k<bs.length
  ·obtain⟨x,ex⟩:∃x,bs[k]?=some x:=⟨_,List.getElem?_eq_getElem hk⟩;have ax:atI (bs.map D.str) (k:Int)=some (.str x):=by rw[zdW,nN ex];rfl
   have lt:(k:Int)<(bs.length:Int):=by omega
   refine⟨.bl x,n1,?_,d0,.bl (List.mem_of_getElem? ex),by simp[T.depth],by rw[T.size];exact ziS _⟩;generalize ps.map sd=PS at lp ⊢;generalize bs.map D.str=BS at ax lb ⊢
   simp! [nB,lp,lb,zp,zb,em',om,od,ek,en1,lt,ltD,ax,xG]
  ·obtain⟨j,ej⟩:∃j:Nat,j=k - bs.length:=⟨_,rfl⟩;have jl:j<ps.length:=by omega
   have ej':(k:Int) - (bs.length:Int)=(j:Int):=by omega
   obtain⟨⟨w,c⟩,ew⟩:∃p,ps[j]?=some p:=⟨_,List.getElem?_eq_getElem jl⟩;have wm:=List.mem_of_getElem? ew;have aw:atI (ps.map sd) (j:Int)=some (.tup [.str w,.int c]):=by rw[zdW,nN ew];rfl
   obtain⟨hc0,hc3⟩:=S.cnt _ wm;simp only at hc0 hc3;have lt:¬(k:Int)<(bs.length:Int):=by omega
   obtain⟨⟨w0,c0⟩,ew0⟩:∃p,ps[0]?=some p:=⟨_,List.getElem?_eq_getElem (by omega)⟩;have hc00:=S.fst _ ew0;simp only at hc00;subst hc00;have aw0:atI (ps.map sd) 0=some (.tup [.str w0,.int 0]):=by rw[zdW,show atI ps 0=atI ps ((0:Nat):Int)from rfl,nN ew0];rfl
   by_cases hz:nest=0/\0<c
   ·obtain⟨rfl,hcp⟩:=hz;refine⟨.nd w0 [],n1,?_,d0,.nd (List.mem_of_getElem? ew0) (λ_ h=>by cases h),by simp[T.depth,T.depths],by simp[T.size,T.sizes,xI]⟩;generalize ps.map sd=PS at lp aw aw0 ⊢;generalize bs.map D.str=BS at lb ⊢
    simp! [nB,lp,lb,zp,zb,em',om,od,ek,en1,lt,ltD,gtD,ej',aw,hcp,aw0,kF,eqD,dep]
   ·obtain⟨cN,ec⟩:∃cN:Nat,c=(cN:Int):=⟨c.toNat,by omega⟩;subst ec;have orc:zeR (cN:Int):=yN (by omega) (by omega);have zc:cN<=1000000:=by omega
    have cd:¬((nest:Int)=0/\0<(cN:Int)):=λh=>hz ⟨by omega,h.2⟩
    obtain⟨ρ',f1,ts,n2,k9,k10,rfl,t1,t2,t3⟩:=wL (g:=gN 9) (b:=zcE (nB f) zP) (xs:=xN 0 cN) (ρ:=[some (.dat (.int n1)),some (.dat (.int nest)),some (.dat (.lst (ps.map sd))),some (.dat (.lst (bs.map D.str))),some (.dat (.int m)),some (.dat (.int k)),some (.dat (.str w)),some (.dat (.int cN)),some (.own (.lst [])),none,none])
     (λi ρ=>∃(ts:List T) (n2:Int) (k9 k10:Option Sl),ρ=[some (.dat (.int n2)),some (.dat (.int nest)),some (.dat (.lst (ps.map sd))),some (.dat (.lst (bs.map D.str))),some (.dat (.int m)),some (.dat (.int k)),some (.dat (.str w)),some (.dat (.int cN)),some (.own (.lst (ts.map T.d))),k9,k10]/\ts.length=i/\0<=n2/\∀t∈ts,WT ps bs t/\t.depth<=nest/\t.size<=xI (nest - 1)) ⟨[],n1,none,none,rfl,rfl,d0,λt h=>by cases h⟩ (by
      rintro i y ρ hy ⟨ts,n2,k9,k10,rfl,t1,t2,t3⟩;obtain⟨hi',rfl⟩:=zaM hy;have np:1<=nest:=by
       rcases Nat.eq_zero_or_pos nest with h|h
       ·exact absurd ⟨h,by omega⟩ hz
       ·exact h
      obtain⟨t,n',e1,e2,e3,e4,e5⟩:=zfY S bs hb f (nest - 1) n2 (by omega) (by omega) t2;have en:(nest:Int) - 1=((nest - 1:Nat):Int):=by omega
      have tl:ts.length<1000000:=by omega
      refine⟨[some (.dat (.int n')),some (.dat (.int nest)),some (.dat (.lst (ps.map sd))),some (.dat (.lst (bs.map D.str))),some (.dat (.int m)),some (.dat (.int k)),some (.dat (.str w)),some (.dat (.int cN)),some (.own (.lst ((ts++[t]).map T.d))),some (.dat (.int (0+(i:Int)))),some (.dat t.d)],.inl ?_,ts++[t],n',_,_,rfl,by simp[t1],e2,λu hu=>?_⟩
      ·simp! [en,e1,nL,tl]
      ·rcases List.mem_append.mp hu with h|h
       ·exact t3 u h
       ·rw[List.mem_singleton.mp h];exact⟨e3,by omega,e5⟩)
    rw[gX]at t1;have szs:T.sizes ts<=cN*xI (nest - 1):=by
     have:∀l:List T,(∀t∈l,t.size<=xI (nest - 1))->T.sizes l<=l.length*xI (nest - 1):=by
      intro l;induction l with
      |nil=>intro _;simp[T.sizes]
      |cons u l ih=>intro h;rw[T.sizes,List.length_cons,Nat.succ_mul];have:=ih λv hv=>h v (List.mem_cons_of_mem _ hv);have:=h u (by simp);omega
     have:=this ts λt h=>(t3 t h).2.2
     rwa[t1]at this
    have dps:T.depths ts<=nest:=by
     have:∀l:List T,(∀t∈l,t.depth<=nest)->T.depths l<=nest:=by
      intro l;induction l with
      |nil=>intro _;simp[T.depths]
      |cons u l ih=>intro h;rw[T.depths];have:=ih λv hv=>h v (List.mem_cons_of_mem _ hv);have:=h u (by simp);omega
     exact this ts λt h=>(t3 t h).2.1
    refine⟨.nd w ts,n2,?_,t2,.nd (by rw[t1];exact wm) λt h=>(t3 t h).1,by rw[T.depth];omega,?_⟩
    ·have zt:1+ts.length<=1000000:=by omega
     have tl2:(ts.map T.d).length=ts.length:=List.length_map _;simp only[Sl.own]at f1;rw[kF];generalize ps.map sd=PS at lp aw aw0 f1 ⊢;generalize bs.map D.str=BS at lb f1 ⊢;generalize ts.map T.d=TS at f1 tl2 ⊢;by_cases h0:(nest:Int)=0
     ·have h0':¬0<cN:=λh=>cd ⟨h0,by omega⟩
      rw[h0]at f1
      simp! [nB,lp,lb,zp,zb,em',om,od,ek,en1,lt,ltD,gtD,ej',aw,h0,h0',orc,zc,gX,f1,tl2,zt,eqD,dep]
     ·have h00:¬nest=0:=λh=>h0 (by omega)
      simp! [nB,lp,lb,zp,zb,em',om,od,ek,en1,lt,ltD,gtD,ej',aw,h0,h00,orc,zc,gX,f1,tl2,zt,eqD,dep]
    ·rw[T.size];rcases Nat.eq_zero_or_pos nest with h|h
     ·subst h
      have:cN=0:=by
       rcases Nat.eq_zero_or_pos cN with h|h
       ·exact h
       ·exact absurd ⟨by omega,by omega⟩ cd
      subst this;simp only[xI];omega
     ·obtain⟨q,rfl⟩:∃q,nest=q+1:=⟨nest - 1,by omega⟩;rw[xI]
      have:cN*xI (q+1 - 1)<=3*xI q:=Nat.mul_le_mul_right _ (by omega);omega
mutual
theorem zks:∀t:T,(bks t).Nodup
 | .bl x=>by simp[bks]
 | .nd s ts=>by rw[bks];exact zix ts [] (by simp)
theorem zix:∀(ts:List T) (acc:List Str),acc.Nodup->(jR acc ts).Nodup
 |[],acc,h=>by rw[jR];exact h
 |t::ts,acc,h=>by
  rw[jR];refine zix ts _ ?_;rw[List.nodup_append];refine⟨h,(zks t).sublist List.filter_sublist,λa ha b hb=>?_⟩;rintro rfl
  have:=(List.mem_filter.mp hb).2;simp[ha]at this
end
theorem zbM:∀(n:Nat) (t:T),t.depth<=n->t.size<=900000->zaa n [t.d]=some (.lst ((bks t).map D.str))
 |0,t,h,_=>by have:=zcN t;omega
 |n+1,.bl x,h,_=>by simp! [zaa,xG,bks]
 |n+1,.nd s ts,h,hz=>by
  rw[T.depth]at h;rw[T.size]at hz;obtain⟨ρ',f1,k2,k3,rfl⟩:=wL (g:=gN 2) (b:=zbq (zaa n) zP) (xs:=ts.map T.d) (ρ:=[some (.dat (.tup (.str s::ts.map T.d))),some (.own (.lst [])),none,none])
   (λi ρ=>∃(k2 k3:Option Sl),ρ=[some (.dat (.tup (.str s::ts.map T.d))),some (.own (.lst ((jR [] (ts.take i)).map D.str))),k2,k3]) ⟨none,none,by simp[jR]⟩ (by
    rintro i x ρ hx ⟨k2,k3,rfl⟩;rw[List.getElem?_map]at hx;cases e:ts[i]? with
    |none=>rw[e]at hx;cases hx
    |some t=>
     rw[e]at hx;cases hx
     have hi:i<ts.length:=(List.getElem?_eq_some_iff.mp e).1;have et:ts[i]=t:=by rw[List.getElem?_eq_getElem hi]at e;exact Option.some.inj e
     have hm:=List.mem_of_getElem? e;have d1:=zaK hm;have d2:=gC hm;have e1:=zbM n t (by omega) (by omega);have tk:ts.take (i+1)=ts.take i++[t]:=by rw[List.take_succ_eq_append_getElem hi,et]
     have e5:jR [] (ts.take (i+1))=jR [] (ts.take i)++(bks t).filter λx=>!decide (x∈jR [] (ts.take i)):=by
      have app:∀(a b:List T) (l:List Str),jR l (a++b)=jR (jR l a) b:=by
       intro a;induction a with
       |nil=>intro b l;simp[jR]
       |cons c a ih=>intro b l;rw[List.cons_append,jR,jR,ih]
      rw[tk,app,jR,jR]
     have l1:=zdU (ts.take i) [];have e6:T.sizes (ts.take i)+t.size<=T.sizes ts:=by
      have:T.sizes ts=T.sizes (ts.take (i+1))+T.sizes (ts.drop (i+1)):=by rw[←zai,List.take_append_drop]
      rw[tk,zai]at this;simp only[T.sizes]at this;omega
     have l2:=ziw t;have nd:=zks t;rw[e5];generalize jR [] (ts.take i)=acc at l1 ⊢;simp only[List.length_nil,Nat.zero_add]at l1;generalize bks t=B at*;obtain⟨ρ2,f2,k3',rfl⟩:=wL (g:=gN 3) (b:=zbr (zaa n) zP) (xs:=B.map D.str) (ρ:=[some (.dat (.tup (.str s::ts.map T.d))),some (.own (.lst (acc.map D.str))),some (.dat t.d),k3])
      (λj ρ=>∃(k3:Option Sl),ρ=[some (.dat (.tup (.str s::ts.map T.d))),some (.own (.lst ((acc++(B.take j).filter λx=>!decide (x∈acc)).map D.str))),some (.dat t.d),k3]) ⟨k3,by simp⟩ (by
       rintro j y ρ hy ⟨k3,rfl⟩;rw[List.getElem?_map]at hy;cases ey:B[j]? with
       |none=>rw[ey]at hy;cases hy
       |some y=>
        rw[ey]at hy;cases hy
        have hj:j<B.length:=(List.getElem?_eq_some_iff.mp ey).1;have eyj:B[j]=y:=by rw[List.getElem?_eq_getElem hj]at ey;exact Option.some.inj ey
        have tkB:B.take (j+1)=B.take j++[y]:=by rw[List.take_succ_eq_append_getElem hj,eyj]
        have fr:y∉B.take j:=by
         intro hm;obtain⟨q,hq⟩:=List.mem_iff_getElem?.mp hm;rw[List.getElem?_take]at hq;split at hq
         ·have:=(List.getElem?_inj hj nd).mp (ey.trans hq.symm);omega
         ·cases hq
        rw[tkB,List.filter_append];have fl:=List.length_filter_le (λx=>!decide (x∈acc)) (B.take j);have tlB:(B.take j).length<=B.length:=by rw[List.length_take];omega
        have mem:y∈acc++(B.take j).filter (λx=>!decide (x∈acc))↔y∈acc:=by
         rw[List.mem_append];constructor
         ·rintro(h|h)
          ·exact h
          ·exact absurd (List.mem_filter.mp h).1 fr
         ·exact .inl
        have i1:=zhV y (acc++(B.take j).filter λx=>!decide (x∈acc));have dz:qY ((acc++(B.take j).filter λx=>!decide (x∈acc)).map D.str)<=100:=by have:=zdP (acc++(B.take j).filter λx=>!decide (x∈acc));omega
        have zl:(acc++(B.take j).filter λx=>!decide (x∈acc)).length<1000000:=by rw[List.length_append];omega
        by_cases h:y∈acc
        ·have fe:[y].filter (λx=>!decide (x∈acc))=[]:=by simp[h]
         rw[fe,List.append_nil];rw[decide_eq_true (mem.mpr h)]at i1;generalize (acc++(B.take j).filter λx=>!decide (x∈acc))=AC at*;exact⟨[some (.dat (.tup (.str s::ts.map T.d))),some (.own (.lst (AC.map D.str))),some (.dat t.d),some (.dat (.str y))],.inl (by simp! [i1,dz]),_,rfl⟩
        ·have fe:[y].filter (λx=>!decide (x∈acc))=[y]:=by simp[h]
         rw[fe,←List.append_assoc];rw[decide_eq_false λz=>h (mem.mp z)]at i1;generalize (acc++(B.take j).filter λx=>!decide (x∈acc))=AC at*;exact⟨[some (.dat (.tup (.str s::ts.map T.d))),some (.own (.lst ((AC++[y]).map D.str))),some (.dat t.d),some (.dat (.str y))],.inl (by simp! [i1,dz,zl]),_,rfl⟩)
     rw[List.length_map,List.take_length]at f2;refine⟨[some (.dat (.tup (.str s::ts.map T.d))),some (.own (.lst ((acc++B.filter λx=>!decide (x∈acc)).map D.str))),some (.dat t.d),k3'],.inl ?_,_,_,rfl⟩;simp only[Sl.own]at f2
     simp! [e1,f2])
  rw[List.length_map,List.take_length]at f1;simp only[Sl.own]at f1
  simp! [zaa,kF,cut1,f1,bks]
mutual
theorem zdg(p:List Int):∀(t:T) (q:List Int) (u:T),jG t q=some u->(p++q,u)∈qP p t
 | .bl x,[],u,h=>by simp[jG]at h;subst h;simp[qP]
 | .bl x,_::_,u,h=>by simp[jG]at h
 | .nd s ts,[],u,h=>by simp[jG]at h;subst h;simp[qP]
 | .nd s ts,k::q,u,h=>by
  obtain⟨s',ts',c,e1,h0,e,h⟩:=zba h;cases e1
  rw[qP];refine List.mem_cons_of_mem _ ?_
  have:=zcv p 0 ts k.toNat c e q u h;rw[Nat.zero_add,Int.toNat_of_nonneg h0]at this;exact this
theorem zcv(p:List Int)(k:Nat):∀(ts:List T) (i:Nat) (c:T),ts[i]?=some c->∀(q:List Int) (u:T),jG c q=some u->(p++((k+i:Nat):Int)::q,u)∈jD p k ts
 |[],i,c,e,q,u,h=>by simp at e
 |t::r,0,c,e,q,u,h=>by
  simp at e;subst e;rw[jD];refine List.mem_append_left _ ?_
  have:=zdg (p++[(k:Int)]) t q u h;rwa[List.append_assoc]at this
 |t::r,i+1,c,e,q,u,h=>by
  rw[jD];refine List.mem_append_right _ ?_
  have:=zcv p (k+1) r i c (by simpa using e) q u h;rwa[show k+1+i=k+(i+1) by omega]at this
end
mutual
def rwK(ks:List KD):T->KD
 | .bl x=>.str x
 | .nd f ts=>.tup (.inr f::rws ks ts)
def rws(ks:List KD):List T->List Key
 |[]=>[]
 |t::r=>.inl ((ks.idxOf (rwK ks t):Nat):Int)::rws ks r
end
def num(ks:List KD)(t:T):Nat:=ks.idxOf (rwK ks t)
theorem zdd(ks:List KD):∀ts:List T,rws ks ts=ts.map λt=>.inl ((num ks t:Nat):Int)
 |[]=>by simp[rws]
 |t::r=>by rw[rws,zdd ks r];rfl
mutual
def qA:T->List T
 | .bl x=>[.bl x]
 | .nd f ts=>.nd f ts::vW ts
def vW:List T->List T
 |[]=>[]
 |t::r=>qA t++vW r
end
mutual
theorem zax(p:List Int):∀t:T,(qP p t).map (·.2)=qA t
 | .bl x=>by simp[qP,qA]
 | .nd f ts=>by simp[qP,qA,zbS p 0 ts]
theorem zbS(p:List Int):∀(k:Nat) (ts:List T),(jD p k ts).map (·.2)=vW ts
 |_,[]=>by simp[jD,vW]
 |k,t::r=>by simp[jD,vW,zax (p++[(k:Int)]) t,zbS p (k+1) r]
end
theorem gT:∀{ts:List T}{u:T},u∈vW ts↔∃c∈ts,u∈qA c
 |[],u=>by simp[vW]
 |t::r,u=>by simp[vW,gT (ts:=r)]
theorem gS(t:T):t∈qA t:=by cases t<;>simp[qA]
theorem zbf{f:Str}{ts:List T}{c u:T}(hc:c∈ts)(hu:u∈qA c):u∈qA (.nd f ts):=by rw[qA];exact List.mem_cons_of_mem _ (gT.mpr ⟨c,hc,hu⟩)
theorem zao:∀{t u v:T},u∈qA t->v∈qA u->v∈qA t
 | .bl x,u,v,h1,h2=>by simp[qA]at h1;subst h1;exact h2
 | .nd f ts,u,v,h1,h2=>by
  rw[qA]at h1;rcases List.mem_cons.mp h1 with rfl|h1
  ·exact h2
  ·obtain⟨c,hc,hu⟩:=gT.mp h1
   have:sizeOf c<sizeOf (T.nd f ts):=by have:=List.sizeOf_lt_of_mem hc;simp;omega
   exact zbf hc (zao hu h2)
theorem zap:∀{t u:T},u∈qA t->u=t\/u.size<t.size
 | .bl x,u,h=>by simp[qA]at h;exact .inl h
 | .nd f ts,u,h=>by
  rw[qA]at h;rcases List.mem_cons.mp h with rfl|h
  ·exact .inl rfl
  ·obtain⟨c,hc,hu⟩:=gT.mp h
   have:sizeOf c<sizeOf (T.nd f ts):=by have:=List.sizeOf_lt_of_mem hc;simp;omega
   have z:=gC hc;rw[T.size];rcases zap hu with rfl|hl
   ·exact .inr (by omega)
   ·exact .inr (by omega)
def Has(ks:List KD)(t:T):Prop:=∀u∈qA t,rwK ks u∈ks
theorem Has.self{ks:List KD}{t:T}(h:Has ks t):rwK ks t∈ks:=h t (gS t)
theorem Has.sub{ks:List KD}{t u:T}(h:Has ks t)(hu:u∈qA t):Has ks u:=λv hv=>h v (zao hu hv)
theorem Has.kid{ks:List KD}{f:Str}{ts:List T}{c:T}(h:Has ks (.nd f ts))(hc:c∈ts):Has ks c:=h.sub (zbf hc (gS c))
mutual
theorem rwK_ext(ks l:List KD):∀t:T,(∀u∈qA t,u≠t->rwK ks u∈ks)->rwK (ks++l) t=rwK ks t
 | .bl x,_=>by simp[rwK]
 | .nd f ts,h=>by
  have:rws (ks++l) ts=rws ks ts:=zhh ks l ts λu hu=>h u (by rw[qA];exact List.mem_cons_of_mem _ hu) λe=>by
   subst e;obtain⟨c,hc,hu⟩:=gT.mp hu;have z:=gC hc;rcases zap hu with e|e
   ·rw[←e,T.size]at z;omega
   ·rw[T.size]at e;omega
  rw[rwK,rwK,this]
theorem zhh(ks l:List KD):∀ts:List T,(∀u∈vW ts,rwK ks u∈ks)->rws (ks++l) ts=rws ks ts
 |[],_=>by simp[rws]
 |t::r,h=>by
  have h1:rwK (ks++l) t=rwK ks t:=rwK_ext ks l t λu hu _=>h u (by rw[vW];exact List.mem_append_left _ hu)
  have h2:rwK ks t∈ks:=h t (by rw[vW];exact List.mem_append_left _ (gS t));rw[rws,rws,h1,zhh ks l r λu hu=>h u (by rw[vW];exact List.mem_append_right _ hu),List.idxOf_append,if_pos h2]
end
theorem Has.rwK_ext{ks:List KD}{t:T}(h:Has ks t)(l:List KD):rwK (ks++l) t=rwK ks t:=FL.rwK_ext ks l t λu hu _=>h u hu
theorem Has.num_ext{ks:List KD}{t:T}(h:Has ks t)(l:List KD):num (ks++l) t=num ks t:=by unfold num;rw[h.rwK_ext,List.idxOf_append,if_pos h.self]
theorem Has.ext{ks:List KD}{t:T}(h:Has ks t)(l:List KD):Has (ks++l) t:=λu hu=>by rw[(h.sub hu).rwK_ext];exact List.mem_append_left _ (h u hu)
theorem zkj{ks:List KD}{t:T}(h:Has ks t):num ks t<ks.length:=List.idxOf_lt_length_of_mem h.self
theorem zdI{ks:List KD}{t:T}(h:Has ks t):ks[num ks t]?=some (rwK ks t):=by have hl:ks.idxOf (rwK ks t)<ks.length:=zkj h;show ks[ks.idxOf (rwK ks t)]?=_;rw[List.getElem?_eq_getElem hl,List.getElem_idxOf]
theorem zbF{ks:List KD}:∀{t u:T},Has ks t->Has ks u->num ks t=num ks u->t=u
 |t,u,ht,hu,e=>by
  have e1:=zdI ht;rw[e,zdI hu]at e1;have e1:rwK ks u=rwK ks t:=Option.some.inj e1
  match t,u with
  | .bl x,.bl y=>simp[rwK]at e1;rw[e1]
  | .bl x,.nd g us=>simp[rwK]at e1
  | .nd f ts,.bl y=>simp[rwK]at e1
  | .nd f ts,.nd g us=>
   simp only[rwK,KD.tup.injEq,List.cons.injEq,Sum.inr.injEq]at e1;obtain⟨rfl,e2⟩:=e1;rw[zdd,zdd]at e2;have hl:us.length=ts.length:=by have:=congrArg List.length e2;simpa using this
   have:ts=us:=List.ext_getElem hl.symm λi h1 h2=>by
    have hc1:ts[i]∈ts:=List.getElem_mem h1;have hc2:us[i]∈us:=List.getElem_mem h2
    have:sizeOf ts[i]<sizeOf (T.nd g ts):=by have:=List.sizeOf_lt_of_mem hc1;simp;omega
    refine zbF (ht.kid hc1) (hu.kid hc2) ?_;have e3:=congrArg (λl=>l[i]?) e2;simp only[List.getElem?_map,List.getElem?_eq_getElem h1,List.getElem?_eq_getElem h2,Option.map_some,Option.some.injEq,Sum.inl.injEq]at e3;omega
   rw[this]
termination_by t=>sizeOf t
def WF(ks:List KD):Prop:=ks.Nodup/\∀(i:Nat) (f:Str) (l:List Key),ks[i]?=some (.tup (.inr f::l))->∀n:Int,Sum.inl n∈l->n<i
theorem WF.lt{ks:List KD}(h:WF ks){f:Str}{ts:List T}(ht:Has ks (.nd f ts)){c:T}(hc:c∈ts):num ks c<num ks (.nd f ts):=by
 have e:=zdI ht;rw[rwK,zdd]at e
 have:=h.2 _ _ _ e (num ks c) (List.mem_map.mpr ⟨c,hc,rfl⟩);omega
theorem WF.le{ks:List KD}(h:WF ks):∀{t u:T},Has ks t->u∈qA t->u=t\/num ks u<num ks t
 | .bl x,u,ht,hu=>by simp[qA]at hu;exact .inl hu
 | .nd f ts,u,ht,hu=>by
  rw[qA]at hu;rcases List.mem_cons.mp hu with rfl|hu
  ·exact .inl rfl
  ·obtain⟨c,hc,hu⟩:=gT.mp hu
   have:sizeOf c<sizeOf (T.nd f ts):=by have:=List.sizeOf_lt_of_mem hc;simp;omega
   have z:=h.lt ht hc;rcases h.le (ht.kid hc) hu with rfl|hl
   ·exact .inr z
   ·exact .inr (by omega)
def xB(ks:List KD)(k:KD):List KD:=if k∈ks then ks else ks++[k]
theorem zgi(ks:List KD)(k:KD):∃l,xB ks k=ks++l:=by
 unfold xB;split
 ·exact⟨[],by simp⟩
 ·exact⟨[k],rfl⟩
theorem WF.add{ks:List KD}(h:WF ks){t:T}(hk:∀u∈qA t,u≠t->rwK ks u∈ks):WF (xB ks (rwK ks t))/\Has (xB ks (rwK ks t)) t:=by
 have has:Has (xB ks (rwK ks t)) t:=λu hu=>by
  obtain⟨l,e⟩:=zgi ks (rwK ks t);by_cases c:u=t
  ·subst c;rw[e,FL.rwK_ext ks l u hk,←e];unfold xB;split
   ·assumption
   ·simp
  ·have hs:Has ks u:=λv hv=>hk v (zao hu hv) λz=>by
    subst z;rcases zap hu with z|z
    ·exact c z
    ·rcases zap hv with z2|z2
     ·exact c z2.symm
     ·omega
   rw[e];exact hs.ext l u (gS u)
 refine⟨?_,has⟩;unfold xB;split
 ·exact h
 ·rename_i hn;refine⟨List.nodup_append.mpr ⟨h.1,by simp,λa ha b hb=>?_⟩,λi f l e n hm=>?_⟩
  ·simp at hb;subst hb;rintro rfl;exact hn ha
  ·by_cases hi:i<ks.length
   ·rw[List.getElem?_append_left hi]at e;exact h.2 i f l e n hm
   ·rw[List.getElem?_append_right (by omega)]at e;have hi':i=ks.length:=by have:=(List.getElem?_eq_some_iff.mp e).1;simp at this;omega
    subst hi';simp at e
    match t with
    | .bl x=>simp[rwK]at e
    | .nd g ts=>
     rw[rwK,zdd]at e;cases e
     obtain⟨c,hc,e⟩:=List.mem_map.mp hm;have hcs:c∈qA (.nd f ts):=zbf hc (gS c)
     have:rwK ks c∈ks:=hk c hcs λz=>by have:=gC hc;rw[z,T.size]at this;omega
     have:=List.idxOf_lt_length_of_mem this;have e:((num ks c:Nat):Int)=n:=by simpa using e
     unfold num at e;omega
theorem zcf{α:Type}(f:α->KD)(g:α->D)(q:α):∀(L:List α),q∈L->(∀a∈L,f a=f q->g a=g q)->qJ (L.map f) (L.map g) (f q)=some (g q)
 |[],h,_=>by simp at h
 |a::L,h,hi=>by
  by_cases e:f a=f q
  ·have:=hi a (by simp) e;simp[qJ,e,this]
  ·have hq:q∈L:=by
    rcases List.mem_cons.mp h with rfl|h
    ·exact absurd rfl e
    ·exact h
   have:=zcf f g q L hq λb hb=>hi b (by simp[hb])
   simpa[qJ,List.find?_cons,e]using this
theorem zbl{ks:List KD}{ds:List D}{k:KD}{d:D}(h:k∉ks):kX ks ds k d=(ks++[k],ds++[d]):=by unfold kX;rw[if_neg];simp only[List.any_eq_true,decide_eq_true_eq,not_exists,not_and];rintro x hx rfl;exact h hx
def VS(n:Nat):List D:=(List.range n).map λ(i:Nat)=>D.int (i:Int)
theorem ziE(n:Nat):VS (n+1)=VS n++[.int (n:Int)]:=by simp[VS,List.range_succ]
theorem zgT(k:KD):∀(ks:List KD) (a:Nat),qJ ks ((List.range' a ks.length).map λ(i:Nat)=>D.int (i:Int)) k=if k∈ks then some (.int ((a+ks.idxOf k:Nat):Int))else none
 |[],a=>by simp[qJ]
 |x::ks,a=>by
  have ih:=zgT k ks (a+1);rw[List.length_cons,List.range'_succ,List.map_cons];by_cases e:x=k
  ·subst e;simp[qJ]
  ·rw[show qJ (x::ks) (D.int (a:Int)::(List.range' (a+1) ks.length).map λ(i:Nat)=>D.int (i:Int)) k=qJ ks ((List.range' (a+1) ks.length).map λ(i:Nat)=>D.int (i:Int)) k by simp[qJ,List.find?_cons,e],ih];have e':(x==k)=false:=by simpa using e
   by_cases hk:k∈ks
   ·rw[if_pos hk,if_pos (by simp[hk]),List.idxOf_cons,e'];simp only[cond_false]
    congr 2
    omega
   ·rw[if_neg hk,if_neg];simp only[List.mem_cons,not_or];exact⟨λz=>e z.symm,hk⟩
theorem zgU(ks:List KD)(k:KD):qJ ks (VS ks.length) k=if k∈ks then some (.int ((ks.idxOf k:Nat):Int))else none:=by have:=zgT k ks 0;rw[←List.range_eq_range']at this;rw[Nat.zero_add]at this;exact this
theorem zci:∀l:List Key,gF (l.map λk=>match k with| .inl i=>D.int i| .inr x=>D.str x)=some l
 |[]=>rfl
 | .inl i::l=>by simp[gF,qH,zci l]
 | .inr x::l=>by simp[gF,qH,zci l]
theorem zlj(k:KD):∃g,wH (kdD k)=some g/\gkD g=k:=by
 cases k with
 |int i=>exact⟨_,rfl,rfl⟩
 |str x=>exact⟨_,rfl,rfl⟩
 |tup l=>exact⟨.inr l,congrArg (Option.map Sum.inr) (zci l),rfl⟩
def pk(p:List Int):KD:=.tup (p.map Sum.inl)
theorem pk_d(p:List Int):kdD (pk p)=.tup (p.map D.int):=by simp[kdD,pk,Function.comp_def]
theorem zfG{p q:List Int}(h:pk p=pk q):p=q:=by
 unfold pk at h;injection h with h
 have:=congrArg (List.map λk:Key=>match k with| .inl i=>i| .inr _=>0) h;simpa[Function.comp_def]using this
theorem zfc(p:List Int):wH (.tup (p.map D.int))=some (.inr (p.map Sum.inl)):=by have:=zci (p.map Sum.inl);simp only[List.map_map,Function.comp_def]at this;simp[wH,this]
theorem zfe(NK:List KD)(ND:List D)(p:List Int):wJ (.dic NK ND) (.tup (p.map D.int))=qJ NK ND (pk p):=by simp[wJ,zfc,gkD,pk]
def wC(ks:List KD)(t:T):D:=kdD (rwK ks t)
theorem zcm(ks:List KD)(x:Str):wC ks (.bl x)=.str x:=by simp[wC,rwK,kdD]
theorem zcl(ks:List KD)(f:Str)(ts:List T):wC ks (.nd f ts)=.tup (.str f::ts.map λt=>.int ((num ks t:Nat):Int)):=by simp[wC,rwK,kdD,zdd,Function.comp_def]
theorem zjL(ks:List KD)(p:List Int)(NK:List KD)(ND:List D):∀u:T,u.size<=1000->p.length<=1000->(∀(k:Nat) (c:T),u.kids[k]?=some c->qJ NK ND (pk (p++[(k:Int)]))=some (.int ((num ks c:Nat):Int)))->
  zaP [u.d,.tup (p.map D.int),.dic NK ND]=some (wC ks u)
 | .bl x,_,_,_=>by
  have:=zaT (.bl x);rw[xG,T.isBl]at this
  simp! [zaP,vH,startB,yP,xG,zcm,this]
 | .nd f ts,hz,hp,h=>by
  have e0:=zaT (.nd f ts);rw[kF,T.isBl]at e0;have c:qZ (gN 0) qD (zcR qW zP) [none,some (.bor (.dic NK ND)),some (.dat (.tup (p.map D.int)))] (xN 0 ts.length)=some (ts.map λt=>.int ((num ks t:Nat):Int)):=by
   refine gK (by simp[gX]) λi a b ha hb=>?_
   obtain⟨hi,rfl⟩:=zaM ha;rw[List.getElem?_map,List.getElem?_eq_getElem hi]at hb;cases hb
   have hv:=h i ts[i] (by rw[T.kids];exact List.getElem?_eq_getElem hi);refine⟨[some (.dat (.int (0+(i:Int)))),some (.bor (.dic NK ND)),some (.dat (.tup (p.map D.int)))],by simp[qM,jB,zI,qB,setO,jJ,kH,yV,vA,jT,zV,jW,xM,ifM,upT,cT,cTr,yI,jN,orP,jL,yE,orV,yA,c1,c2,cL,cS,zA,zD,cst,gv,gb,gN,qC,zS,qQ,kB,jP,qT,qD,cI,cR1,cR2,yU,jF,itS,yJ,xF,kI,yT,yL,yM,zX,qG,nxM,kC,tyN,yQ,lim,kG,qE,kO,yK,yX,kM,xW,jE,zR,jS,xJ,jA,vD,kN,kP,jM,jC,kY,yD,geD,isB,xX,isNon,vF,yR,xK,xD,vE,xL,xP,xQ,qH,kJ,c3,yS,vC,vB,cSg,xY,itS,Sl.inn,Sl.own,xU,eqB,neB,inB,yB,yZ,xS,xA,xT,xR,yN,at0,at1,at2,at3],rfl,?_⟩;have h1:p.length+1<=1000000:=by omega
   have h2:=zfe NK ND (p++[(i:Int)]);rw[hv,List.map_append]at h2
   simp! [h1]
   simpa using h2
  have hl:ts.length<=999:=by have:=gU ts;rw[T.size]at hz;omega
  have h3:ts.length<=1000000:=by omega
  have h4:1+ts.length<=1000000:=by omega
  have e1:((ts.length:Int)+1 - 1)=ts.length:=by omega
  have r1:zeR (ts.length:Int):=yN (by omega) (by omega);rw[zcl,kF]
  simp! [zaP,vH,startB,yP,e0]
  simp! [r1,c,gX,h3,h4,hl]
theorem zkl:∀(p q:List Int) (k:Int),HT.lexLt (p++k::q) p=false
 |[],q,k=>by rw[List.nil_append];rfl
 |a::p,q,k=>by rw[List.cons_append,HT.lexLt_cons,if_pos rfl];exact zkl p q k
def bk(t:T):List (List Int×T):=(qP [] t).reverse
theorem zge(t:T):(bk t).length=t.size:=by simp[bk,zar]
theorem zcT{t:T}{q:List Int×T}(h:q∈bk t):jG t q.1=some q.2:=zej t [] t (by cases t<;>rfl) q (List.mem_reverse.mp h)
theorem zku{t u:T}{p:List Int}(h:jG t p=some u):(p,u)∈bk t:=List.mem_reverse.mpr (by have:=zdg [] t p u h;simpa using this)
theorem zkt{t:T}{i:Nat}{p:List Int}{u c:T}{k:Nat}(h:(bk t)[i]?=some (p,u))(hc:u.kids[k]?=some c):(p++[(k:Int)],c)∈(bk t).take i:=by
 have hm:=zcT (List.mem_of_getElem? h);have hp:jG t (p++[(k:Int)])=some c:=by
  rw[zaz p _ t u hm];cases u with
  |bl x=>simp[T.kids]at hc
  |nd f ts=>
   have:(0:Int)<=(k:Int):=by omega
   simp only[jG,if_pos this];rw[Int.toNat_natCast];rw[T.kids]at hc;rw[hc]
 obtain⟨j,hj⟩:=List.mem_iff_getElem?.mp (zku hp);have hji:j<i:=by
  rcases Nat.lt_trichotomy j i with z|z|z
  ·exact z
  ·subst z;rw[h]at hj
   have:=congrArg List.length (congrArg Prod.fst (Option.some.inj hj));simp at this
  ·have asc:(bk t).Pairwise λa b=>HT.lexLt b.1 a.1=true:=List.pairwise_reverse.mpr (zbE [] t)
   obtain⟨h1,e1⟩:=List.getElem?_eq_some_iff.mp h;obtain⟨h2,e2⟩:=List.getElem?_eq_some_iff.mp hj
   have:=List.pairwise_iff_getElem.mp asc i j h1 h2 z;rw[e1,e2]at this;have no:=zkl p [] (k:Int);rw[no]at this;cases this
 refine List.mem_iff_getElem?.mpr ⟨j,?_⟩;rw[List.getElem?_take,if_pos hji];exact hj
theorem znF{t:T}{i:Nat}{q:List Int×T}(h:(bk t)[i]?=some q):∀a∈(bk t).take i,a.1≠q.1:=λa ha e=>by
 obtain⟨j,hj⟩:=List.mem_iff_getElem?.mp ha;rw[List.getElem?_take]at hj;split at hj
 ·rename_i hji;have asc:(bk t).Pairwise λa b=>HT.lexLt b.1 a.1=true:=List.pairwise_reverse.mpr (zbE [] t)
  obtain⟨h1,e1⟩:=List.getElem?_eq_some_iff.mp hj;obtain⟨h2,e2⟩:=List.getElem?_eq_some_iff.mp h
  have:=List.pairwise_iff_getElem.mp asc j i h1 h2 hji;rw[e1,e2,e]at this;have no:HT.lexLt q.1 q.1=false:=by
   generalize q.1=l;induction l with
   |nil=>rfl
   |cons a l ih=>rw[HT.lexLt_cons,if_pos rfl];exact ih
  rw[no]at this;cases this
 ·cases hj
def nk(l:List (List Int×T)):List KD:=l.map λq=>pk q.1
def nd'(ks:List KD)(l:List (List Int×T)):List D:=l.map λq=>.int ((num ks q.2:Nat):Int)
theorem zjq(ks NK:List KD)(ND:List D)(A H td:D)(x5 x6:Option Sl)(p:List Int)(u:T)(r:zaP [u.d,.tup (p.map D.int),.dic NK ND]=some (wC ks u))(hk:ks.length<1000)(hn:NK.length<1000)(hp:pk p∉NK):
  (qQ (zS (gN 5) (zS (gN 6) qC)) (pd (p,u)) [some (.dat A),some (.own (.dic ks (VS ks.length))),some (.own H),some (.dat td),some (.own (.dic NK ND)),x5,x6]).bind (zaj zP)=
   some (.nx [some (.dat A),some (.own (.dic (xB ks (rwK ks u)) (VS (xB ks (rwK ks u)).length))),some (.own H),some (.dat td),some (.own (.dic (NK++[pk p]) (ND++[.int (((xB ks (rwK ks u)).idxOf (rwK ks u):Nat):Int)]))),some (.dat (.tup (p.map D.int))),some (.dat u.d)]):=by
 obtain⟨g,e1,e2⟩:=zlj (rwK ks u);have e1:wH (wC ks u)=some g:=e1;have v:=zgU ks (rwK ks u);have kp:=zfc p;have gp:gkD (.inr (p.map Sum.inl))=pk p:=rfl;have hk':ks.length<1000000:=by omega
 have hn':NK.length<1000000:=by omega
 unfold xB;split
 ·rename_i hm;rw[if_pos hm]at v
  simp! [pd,nY,sdfG,zho,lenG,r,e1,e2,v,kp,gp,hk',hn',zbl hp]
 ·rename_i hm;rw[if_neg hm]at v;have io:(ks++[rwK ks u]).idxOf (rwK ks u)=ks.length:=by rw[List.idxOf_append,if_neg hm];simp
  simp! [pd,nY,sdfG,zho,lenG,r,e1,e2,v,kp,gp,hk',hn',zbl hp,zbl hm,io,ziE]
mutual
theorem zab:∀t:T,t.depth<=t.size
 | .bl x=>by simp[T.depth,T.size]
 | .nd f ts=>by have:=zaJ ts;simp only[T.depth,T.size];omega
theorem zaJ:∀ts:List T,T.depths ts<=T.sizes ts
 |[]=>by simp[T.depths,T.sizes]
 |t::r=>by have:=zab t;have:=zaJ r;simp only[T.depths,T.sizes];omega
end
theorem zjV(ks:List KD)(k:KD):(xB ks k).length<=ks.length+1:=by unfold xB;split<;>simp
theorem zjr(t:T)(ks:List KD)(hw:WF ks)(hk:ks.length<=500)(hz:t.size<=200)(A H:D)(x5 x6:Option Sl)(nb5:jJ [x5,x6]=true):
  ∃(ks':List KD) (y5 y6:Option Sl),jJ [y5,y6]=true/\(∃l,ks'=ks++l)/\WF ks'/\Has ks' t/\ks'.length<=ks.length+t.size/\
   kR (qQ (zS (gN 5) (zS (gN 6) qC))) (zaj zP) ((bk t).map pd) [some (.dat A),some (.own (.dic ks (VS ks.length))),some (.own H),some (.dat t.d),some (.own (.dic [] [])),x5,x6]=
    some (.nx [some (.dat A),some (.own (.dic ks' (VS ks'.length))),some (.own H),some (.dat t.d),some (.own (.dic (nk (bk t)) (nd' ks' (bk t)))),y5,y6]):=by
 obtain⟨ρ',f1,ks',x5',x6',e0,e1,e2,e3,e4,rfl⟩:=wL (g:=qQ (zS (gN 5) (zS (gN 6) qC))) (b:=zaj zP) (xs:=(bk t).map pd)
  (ρ:=[some (.dat A),some (.own (.dic ks (VS ks.length))),some (.own H),some (.dat t.d),some (.own (.dic [] [])),x5,x6])
  (λi ρ=>∃(ks':List KD) (x5 x6:Option Sl),jJ [x5,x6]=true/\(∃l,ks'=ks++l)/\WF ks'/\ks'.length<=ks.length+i/\(∀q∈(bk t).take i,Has ks' q.2)/\
   ρ=[some (.dat A),some (.own (.dic ks' (VS ks'.length))),some (.own H),some (.dat t.d),some (.own (.dic (nk ((bk t).take i)) (nd' ks' ((bk t).take i)))),x5,x6]) ⟨ks,x5,x6,nb5,⟨[],by simp⟩,hw,by omega,by simp,by simp[nk,nd']⟩ (by
   rintro i x ρ hx ⟨ks1,y5,y6,_,⟨l,el⟩,w1,hl,has,rfl⟩;rw[List.getElem?_map]at hx;cases e:(bk t)[i]? with
   |none=>rw[e]at hx;cases hx
   |some q=>
    rw[e]at hx;cases hx
    obtain⟨p,u⟩:=q;have hi:i<(bk t).length:=(List.getElem?_eq_some_iff.mp e).1;have hl2:=zge t;have hpa:=zcT (List.mem_of_getElem? e);have hus:=zcw p t u hpa;have tk:(bk t).take (i+1)=(bk t).take i++[(p,u)]:=by
     rw[List.take_succ_eq_append_getElem hi]
     have:=(List.getElem?_eq_some_iff.mp e).2;rw[this]
    have kid:∀(k:Nat) (c:T),u.kids[k]?=some c->qJ (nk ((bk t).take i)) (nd' ks1 ((bk t).take i)) (pk (p++[(k:Int)]))=some (.int ((num ks1 c:Nat):Int)):=λk c hc=>by
     have hm:=zkt e hc
     have:=zcf (λq:List Int×T=>pk q.1) (λq=>D.int ((num ks1 q.2:Nat):Int)) (p++[(k:Int)],c) ((bk t).take i) hm λa ha e=>by have e:=zfG e;have h1:=zcT (List.mem_of_mem_take ha);have h2:=zcT (List.mem_of_mem_take hm);rw[e]at h1;rw[h1]at h2;rw[Option.some.inj h2]
     exact this
    have pl:=zcx p t u hpa;have dl:=zab t;have r:=zjL ks1 p _ _ u (by omega) (by omega) kid;have hNl:(nk ((bk t).take i)).length<1000:=by unfold nk;rw[List.length_map,List.length_take];omega
    have tn:=zjq ks1 _ _ A H t.d y5 y6 p u r (by omega) hNl (λh=>by obtain⟨a,ha,e1⟩:=List.mem_map.mp h;exact znF e a ha (zfG e1))
    have below:∀v∈qA u,v≠u->rwK ks1 v∈ks1:=λv hv ne=>by
     cases u with
     |bl x=>simp[qA]at hv;exact absurd hv ne
     |nd f ts=>
      rw[qA]at hv;rcases List.mem_cons.mp hv with rfl|hv
      ·exact absurd rfl ne
      ·obtain⟨c,hc,hv⟩:=gT.mp hv;obtain⟨k,hk⟩:=List.mem_iff_getElem?.mp hc
       have:=has _ (zkt (k:=k) (c:=c) e (by rw[T.kids];exact hk));exact this v hv
    obtain⟨w2,h2⟩:=w1.add below;obtain⟨l2,ex⟩:=zgi ks1 (rwK ks1 u);have al:=zjV ks1 (rwK ks1 u);refine⟨_,.inl tn,xB ks1 (rwK ks1 u),some (.dat (.tup (p.map D.int))),some (.dat u.d),rfl,⟨l++l2,by rw[ex,el,List.append_assoc]⟩,w2,by omega,λq hq=>?_,?_⟩
    ·rw[tk]at hq;rcases List.mem_append.mp hq with hq|hq
     ·rw[ex];exact(has q hq).ext l2
     ·rw[List.mem_singleton.mp hq];exact h2
    ·have e5:nd' (xB ks1 (rwK ks1 u)) ((bk t).take i)=nd' ks1 ((bk t).take i):=by
      unfold nd';refine List.map_congr_left λq hq=>?_
      rw[ex,(has q hq).num_ext]
     have e6:(xB ks1 (rwK ks1 u)).idxOf (rwK ks1 u)=num (xB ks1 (rwK ks1 u)) u:=by unfold num;rw[ex,rwK_ext ks1 l2 u below]
     rw[e6,←e5,tk];simp[nk,nd'])
 rw[List.length_map,List.take_length]at f1 e4;rw[List.length_map,zge]at e3;exact⟨ks',x5',x6',e0,e1,e2,e4 ([],t) (zku (by cases t<;>rfl)),e3,f1⟩
def kZ(ks:List KD)(t:T):List Int:=nV (vL ((bk t).map λq=>((num ks q.2:Nat):Int)))
theorem zfL(t:T)(ks:List KD)(hw:WF ks)(hk:ks.length<=500)(hz:t.size<64)(A:D)(HL:List D)(hh:HL.length<100)(x3 x4 x5 x6:Option Sl)(nb4:jJ [x3,x4,x5,x6]=true):
  ∃(ks':List KD) (y4 y5 y6:Option Sl),(∃l,ks'=ks++l)/\WF ks'/\Has ks' t/\ks'.length<=ks.length+t.size/\jJ [some (.dat t.d),y4,y5,y6]=true/\
   (gN 3 t.d [some (.dat A),some (.own (.dic ks (VS ks.length))),some (.own (.lst HL)),x3,x4,x5,x6]).bind (zaA zP)=
    some (.nx [some (.dat A),some (.own (.dic ks' (VS ks'.length))),some (.own (.lst (HL++[.lst ((kZ ks' t).map D.int)]))),some (.dat t.d),y4,y5,y6]):=by
 simp only[jJ,List.all_cons,List.all_nil,Bool.and_true,Bool.and_eq_true]at nb4;obtain⟨n3,n4,n5,n6⟩:=nb4;obtain⟨ks',y5,y6,e0,e1,e2,e3,e4,f1⟩:=zjr t ks hw hk (by omega) A (.lst HL) x5 x6 (by simp only[jJ,List.all_cons,List.all_nil,Bool.and_true,Bool.and_eq_true];exact⟨n5,n6⟩);have pp:=zcZ t (by omega);have rv:((qP [] t).map pd).reverse=(bk t).map pd:=by rw[bk,List.map_reverse]
 have c:qZ (gN 0) qD (zbw zP) [none,some (.dat (.dic (nk (bk t)) (nd' ks' (bk t))))] ((nk (bk t)).map kdD)=some (((bk t).map λq=>((num ks' q.2:Nat):Int)).map D.int):=by
  refine gK (by simp[nk]) λi a b ha hb=>?_
  rw[nk,List.map_map,List.getElem?_map]at ha;rw[List.map_map,List.getElem?_map]at hb;cases e:(bk t)[i]? with
  |none=>rw[e]at ha;cases ha
  |some q=>
   rw[e]at ha hb;cases ha;cases hb
   have hm:=List.mem_of_getElem? e;have v:=zcf (λq:List Int×T=>pk q.1) (λq=>D.int ((num ks' q.2:Nat):Int)) q (bk t) hm λa ha e=>by have e:=zfG e;have h1:=zcT ha;have h2:=zcT hm;rw[e,h2]at h1;rw[Option.some.inj h1]
   have ig:=zfe (nk (bk t)) (nd' ks' (bk t)) q.1;rw[show qJ (nk (bk t)) (nd' ks' (bk t)) (pk q.1)=_ from v,←pk_d]at ig;refine⟨[some (.dat (kdD (pk q.1))),some (.dat (.dic (nk (bk t)) (nd' ks' (bk t))))],by simp[qM,jB,zI,qB,setO,jJ,kH,yV,vA,jT,zV,jW,xM,ifM,upT,cT,cTr,yI,jN,orP,jL,yE,orV,yA,c1,c2,cL,cS,zA,zD,cst,gv,gb,gN,qC,zS,qQ,kB,jP,qT,qD,cI,cR1,cR2,yU,jF,itS,yJ,xF,kI,yT,yL,yM,zX,qG,nxM,kC,tyN,yQ,lim,kG,qE,kO,yK,yX,kM,xW,jE,zR,jS,xJ,jA,vD,kN,kP,jM,jC,kY,yD,geD,isB,xX,isNon,vF,yR,xK,xD,vE,xL,xP,xQ,qH,kJ,c3,yS,vC,vB,cSg,xY,itS,Sl.inn,Sl.own,xU,eqB,neB,inB,yB,yZ,xS,xA,xT,xR,yN,at0,at1,at2,at3],rfl,?_⟩;simp only[Function.comp]
   simp! [ig]
 have hl:(bk t).length<64:=by rw[zge];exact hz
 have hl':(nk (bk t)).length<=1000000:=by unfold nk;rw[List.length_map];omega
 have io:=zbJ ((bk t).map λq=>((num ks' q.2:Nat):Int));have h1:HL.length<1000000:=by omega
 have nbS:jJ [some (.dat A),some (.own (.dic ks (VS ks.length))),some (.own (.lst HL)),some (.dat t.d),x4,x5,x6]=true:=by simp only[jJ,List.all_cons,List.all_nil,Bool.and_true,Bool.and_eq_true];exact⟨trivial,trivial,trivial,trivial,n4,n5,n6⟩
 simp only[Sl.own]at f1 nbS;have on:kZ ks' t=nV (vL ((bk t).map λq=>((num ks' q.2:Nat):Int))):=rfl;generalize hG:(bk t).map (λq=>((num ks' q.2:Nat):Int))=G at*;have hG':G.length<64:=by rw[←hG,List.length_map];exact hl
 refine⟨ks',some (.dat (.dic (nk (bk t)) (nd' ks' (bk t)))),y5,y6,e1,e2,e3,e4,?_,?_⟩
 ·simp only[jJ,List.all_cons,List.all_nil,Bool.and_true,Bool.and_eq_true]at e0 ⊢;exact⟨trivial,trivial,e0⟩
 ·simp[nbS,pp,cRv,rv,f1,cKG,itKG,ziT,c,hl',io,hG',on,h1,qM,jB,zI,qB,setO,kH,yV,vA,jT,zV,jW,xM,ifM,upT,cT,cTr,yI,jN,orP,jL,yE,orV,yA,c1,c2,cL,cS,zA,zD,cst,gv,gb,gN,qC,zS,qQ,kB,jP,qT,qD,cI,cR1,cR2,yU,jF,itS,yJ,xF,kI,yT,yL,yM,zX,qG,nxM,kC,tyN,yQ,lim,kG,qE,kO,yK,yX,kM,xW,jE,zR,jS,xJ,jA,vD,kN,kP,jM,jC,kY,yD,geD,isB,xX,isNon,vF,yR,xK,xD,vE,xL,xP,xQ,qH,kJ,c3,yS,vC,vB,cSg,xY,itS,Sl.inn,Sl.own,xU,eqB,neB,inB,yB,yZ,xS,xA,xT,xR,yN,at0,at1,at2,at3]
theorem zfS{g:D->EO En}{b:EO Fl}{x:D}{xs:List D}{ρ ρ1:En}(h:(g x ρ).bind b=some (.nx ρ1)):kR g b (x::xs) ρ=kR g b xs ρ1:=by
 cases e:g x ρ with
 |none=>rw[e]at h;cases h
 |some ρ0=>
  rw[e]at h;have h:b ρ0=some (.nx ρ1):=h;simp only[kR,e,h]
theorem zgJ(a b:T)(ha:a.size<64)(hb:b.size<64):∃ks:List KD,WF ks/\Has ks a/\Has ks b/\ks.length<=200/\
  zaQ [.lst [a.d,b.d]]=some (.tup [.lst (ks.map kdD),.lst [.lst ((kZ ks a).map D.int),.lst ((kZ ks b).map D.int)]]):=by
 obtain⟨k1,y4,y5,y6,_,w1,h1,l1,n1,f1⟩:=zfL a [] ⟨List.nodup_nil,λi f l e=>by simp at e⟩ (by simp) ha (.lst [a.d,b.d]) [] (by simp) none none none none rfl;simp only[List.length_nil,Nat.zero_add]at l1 f1;obtain⟨k2,z4,z5,z6,⟨l,rfl⟩,w2,h2,l2,n2,f2⟩:=zfL b k1 w1 (by omega) hb (.lst [a.d,b.d]) [.lst ((kZ k1 a).map D.int)] (by simp) (some (.dat a.d)) y4 y5 y6 n1;have eo:kZ (k1++l) a=kZ k1 a:=by
  unfold kZ
  congr 2
  refine List.map_congr_left λq hq=>?_
  have:=zcT hq;have hs:q.2∈qA a:=by rw[←zax [] a];exact List.mem_map.mpr ⟨q,List.mem_reverse.mp hq,rfl⟩
  rw[(h1.sub hs).num_ext]
 refine⟨k1++l,w2,h1.ext l,h2,by omega,?_⟩;rw[eo];have v0:VS 0=[]:=rfl;have kl:(k1++l).length<=1000000:=by omega
 simp only[Sl.own,v0]at f1 f2;have F:kR (gN 3) (zaA zP) [a.d,b.d] [some (.dat (.lst [a.d,b.d])),some (.own (.dic [] [])),some (.own (.lst [])),none,none,none,none]=some (.nx [some (.dat (.lst [a.d,b.d])),some (.own (.dic (k1++l) (VS (k1++l).length))),some (.own (.lst [.lst ((kZ k1 a).map D.int),.lst ((kZ (k1++l) b).map D.int)])),some (.dat b.d),z4,z5,z6]):=by rw[zfS f1,List.nil_append,zfS f2];rfl
 simp only[Sl.own]at F
 simp! [zaQ,zjx,F]
inductive Abv(r:Str->Nat):T->T->Prop
 |here {f:Str}{ss:List T} {t:T}:t∈ss->Abv r (.nd f ss) t
 |sub {f:Str}{ss:List T} {s t:T}:s∈ss->Abv r s t->Abv r (.nd f ss) t
 |prec {f g:Str}{ss ts:List T}:r g<r f->(∀t∈ts,Abv r (.nd f ss) t)->Abv r (.nd f ss) (.nd g ts)
 |lex {f:Str}{ss ts:List T} {i:Nat}{c d:T}:(∀t∈ts,Abv r (.nd f ss) t)->ss[i]?=some c->ts[i]?=some d->ss.take i=ts.take i->c≠d->Abv r c d->Abv r (.nd f ss) (.nd f ts)
open Classical in
def abB(r:Str->Nat)(s t:T):Bool:=decide (Abv r s t)
theorem jK{r:Str->Nat}{s t:T}:abB r s t=true↔Abv r s t:=by unfold abB;simp
theorem zdA{r:Str->Nat}{x:Str}{t:T}:¬Abv r (.bl x) t:=λh=>by cases h
def Unl(ss ts:List T)(c d:T):Prop:=∃i,ss[i]?=some c/\ts[i]?=some d/\ss.take i=ts.take i/\c≠d
theorem ziD{r:Str->Nat}{f:Str}{ss:List T}{y:Str}:Abv r (.nd f ss) (.bl y)↔∃s∈ss,s=.bl y\/Abv r s (.bl y):=by
 constructor
 ·intro h;cases h with
  |here h=>exact⟨_,h,.inl rfl⟩
  |sub h1 h2=>exact⟨_,h1,.inr h2⟩
 ·rintro⟨s,h1,rfl|h2⟩
  ·exact .here h1
  ·exact .sub h1 h2
theorem zbA{r:Str->Nat}{f g:Str}{ss ts:List T}:Abv r (.nd f ss) (.nd g ts)↔(∃s∈ss,s=.nd g ts\/Abv r s (.nd g ts))\/((∀t∈ts,Abv r (.nd f ss) t)/\(r g<r f\/f=g/\∃c d,Unl ss ts c d/\Abv r c d)):=by
 constructor
 ·intro h;cases h with
  |here h=>exact .inl ⟨_,h,.inl rfl⟩
  |sub h1 h2=>exact .inl ⟨_,h1,.inr h2⟩
  |prec h1 h2=>exact .inr ⟨h2,.inl h1⟩
  |lex h1 h2 h3 h4 h5 h6=>exact .inr ⟨h1,.inr ⟨rfl,_,_,⟨_,h2,h3,h4,h5⟩,h6⟩⟩
 ·rintro(⟨s,h1,rfl|h2⟩|⟨h1,h2|⟨rfl,c,d,⟨i,h3,h4,h5,h6⟩,h7⟩⟩)
  ·exact .here h1
  ·exact .sub h1 h2
  ·exact .prec h2 h1
  ·exact .lex h1 h3 h4 h5 h6 h7
theorem nU{a b c d:T}{as bs:List T}:Unl (a::as) (b::bs) c d↔(a≠b/\c=a/\d=b)\/(a=b/\Unl as bs c d):=by
 constructor
 ·rintro⟨i,h1,h2,h3,h4⟩;cases i with
  |zero=>simp at h1 h2;subst h1 h2;exact .inl ⟨h4,rfl,rfl⟩
  |succ i=>
   simp only[List.getElem?_cons_succ,List.take_succ_cons,List.cons.injEq]at h1 h2 h3;exact .inr ⟨h3.1,i,h1,h2,h3.2,h4⟩
 ·rintro(⟨h,rfl,rfl⟩|⟨rfl,i,h1,h2,h3,h4⟩)
  ·exact⟨0,rfl,rfl,rfl,h⟩
  ·exact⟨i+1,by simpa using h1,by simpa using h2,by simp[h3],h4⟩
theorem zky{c d:T}{bs:List T}:¬Unl [] bs c d:=λ⟨i,h,_⟩=>by simp at h
theorem ziL{c d:T}{as:List T}:¬Unl as [] c d:=λ⟨i,_,h,_⟩=>by simp at h
theorem zdb(n:T->Int):∀(as bs:List T),(∀a∈as,∀b∈bs,n a=n b->a=b)->
  ((as.map n).zip (bs.map n)).filter (λp=>!decide (p.1=p.2))=[]/\(∀c d,¬Unl as bs c d)\/∃c d rest,c∈as/\d∈bs/\Unl as bs c d/\(∀c' d',Unl as bs c' d'->c'=c/\d'=d)/\((as.map n).zip (bs.map n)).filter (λp=>!decide (p.1=p.2))=(n c,n d)::rest
 |[],bs,_=>.inl ⟨by simp,λc d=>zky⟩
 |a::as,[],_=>.inl ⟨by simp,λc d=>ziL⟩
 |a::as,b::bs,hi=>by
  by_cases e:a=b
  ·subst e;rcases zdb n as bs (λx hx y hy=>hi x (by simp[hx]) y (by simp[hy]))with⟨h1,h2⟩|⟨c,d,rest,h1,h2,h3,h4,h5⟩
   ·refine .inl ⟨by simpa using h1,λc d h=>?_⟩;rcases nU.mp h with⟨z,_⟩|⟨_,z⟩
    ·exact z rfl
    ·exact h2 c d z
   ·refine .inr ⟨c,d,rest,by simp[h1],by simp[h2],nU.mpr (.inr ⟨rfl,h3⟩),λc' d' h=>?_,by simpa using h5⟩;rcases nU.mp h with⟨z,_⟩|⟨_,z⟩
    ·exact absurd rfl z
    ·exact h4 c' d' z
  ·have en:¬n a=n b:=λz=>e (hi a (by simp) b (by simp) z)
   refine .inr ⟨a,b,_,by simp,by simp,nU.mpr (.inl ⟨e,rfl,rfl⟩),λc' d' h=>?_,by simp[en];rfl⟩;rcases nU.mp h with⟨_,z⟩|⟨z,_⟩
   ·exact z
   ·exact absurd z e
theorem zby(ks:List KD)(t:T):qW [wC ks t]=some (.bl t.isBl):=by
 cases t with
 |bl x=>rw[zcm];simp! [qW,T.isBl]
 |nd f ts=>rw[zcl];simp! [qW,T.isBl]
def zQ(ks:List KD)(ts:List T):List Int:=ts.map λt=>((num ks t:Nat):Int)
theorem zes(ks:List KD)(t:T):jH [wC ks t]=some (.tup ((zQ ks t.kids).map D.int)):=by
 cases t with
 |bl x=>
  have:=zby ks (.bl x);rw[zcm,T.isBl]at this;rw[zcm]
  simp! [jH,this,zQ,T.kids]
 |nd f ts=>
  have:=zby ks (.nd f ts);rw[zcl,T.isBl]at this;rw[zcl]
  simp! [jH,this,zQ,T.kids,cut1]
theorem zkc(ks:List KD)(t:T)(h:Has ks t):atI (ks.map kdD) ((num ks t:Nat):Int)=some (wC ks t):=by have hl:=zkj h;rw[zeG (by omega) (by rw[List.length_map];omega),Int.toNat_natCast,List.getElem?_map,zdI h];rfl
theorem zfA(ks:List KD)(f:Str)(ts:List T):wC ks (.nd f ts)=.tup (.str f::(zQ ks ts).map D.int):=by rw[zcl,zQ,List.map_map];rfl
theorem pk2(a b:Int):(.tup [.int a,.int b]:D)=.tup ([a,b].map D.int):=rfl
section
variable(r:Str->Nat)(ks TK:List KD)(TD:List D)
def zft(c v:T):Prop:=qJ TK TD (pk [((num ks c:Nat):Int),((num ks v:Nat):Int)])=some (.bl (abB r c v))
theorem zdC{c v:T}(h:zft r ks TK TD c v):wJ (.dic TK TD) (.tup [.int ((num ks c:Nat):Int),.int ((num ks v:Nat):Int)])=some (.bl (abB r c v)):=by rw[pk2,zfe];exact h
theorem zoC(u v:T)(hu:Has ks u)(hv:Has ks v)(h:∀c∈u.kids,zft r ks TK TD c v):
  qZ (gN 0) qD (zaY qW jH zP) [none,some (.dat (.int ((num ks v:Nat):Int))),some (.bor (.dic TK TD))] ((zQ ks u.kids).map D.int)=some ((u.kids.map λc=>decide (num ks c=num ks v)||abB r c v).map D.bl):=by
 refine gK (by simp[zQ]) λi a b ha hb=>?_
 rw[zQ,List.map_map,List.getElem?_map]at ha;rw[List.map_map,List.getElem?_map]at hb;cases e:u.kids[i]? with
 |none=>rw[e]at ha;cases ha
 |some c=>
  rw[e]at ha hb;cases ha;cases hb
  have ht:=zdC r ks TK TD (h c (List.mem_of_getElem? e));refine⟨[some (.dat (.int ((num ks c:Nat):Int))),some (.dat (.int ((num ks v:Nat):Int))),some (.bor (.dic TK TD))],by simp[qM,jB,zI,qB,setO,jJ,kH,yV,vA,jT,zV,jW,xM,ifM,upT,cT,cTr,yI,jN,orP,jL,yE,orV,yA,c1,c2,cL,cS,zA,zD,cst,gv,gb,gN,qC,zS,qQ,kB,jP,qT,qD,cI,cR1,cR2,yU,jF,itS,yJ,xF,kI,yT,yL,yM,zX,qG,nxM,kC,tyN,yQ,lim,kG,qE,kO,yK,yX,kM,xW,jE,zR,jS,xJ,jA,vD,kN,kP,jM,jC,kY,yD,geD,isB,xX,isNon,vF,yR,xK,xD,vE,xL,xP,xQ,qH,kJ,c3,yS,vC,vB,cSg,xY,itS,Sl.inn,Sl.own,xU,eqB,neB,inB,yB,yZ,xS,xA,xT,xR,yN,at0,at1,at2,at3],rfl,?_⟩;by_cases en:num ks c=num ks v
  ·simp! [en,eqD,dep]
  ·have en':(((num ks c:Nat):Int)==((num ks v:Nat):Int))=false:=by simp;omega
   simp! [en,en',ht,eqD,dep]
theorem zoB(u v:T)(h:∀d∈v.kids,zft r ks TK TD u d):
  qZ (gN 0) qD (zaX qW jH zP) [none,some (.bor (.dic TK TD)),some (.dat (.int ((num ks u:Nat):Int)))] ((zQ ks v.kids).map D.int)=some ((v.kids.map λd=>abB r u d).map D.bl):=by
 refine gK (by simp[zQ]) λi a b ha hb=>?_
 rw[zQ,List.map_map,List.getElem?_map]at ha;rw[List.map_map,List.getElem?_map]at hb;cases e:v.kids[i]? with
 |none=>rw[e]at ha;cases ha
 |some c=>
  rw[e]at ha hb;cases ha;cases hb
  have ht:=zdC r ks TK TD (h c (List.mem_of_getElem? e));refine⟨[some (.dat (.int ((num ks c:Nat):Int))),some (.bor (.dic TK TD)),some (.dat (.int ((num ks u:Nat):Int)))],by simp[qM,jB,zI,qB,setO,jJ,kH,yV,vA,jT,zV,jW,xM,ifM,upT,cT,cTr,yI,jN,orP,jL,yE,orV,yA,c1,c2,cL,cS,zA,zD,cst,gv,gb,gN,qC,zS,qQ,kB,jP,qT,qD,cI,cR1,cR2,yU,jF,itS,yJ,xF,kI,yT,yL,yM,zX,qG,nxM,kC,tyN,yQ,lim,kG,qE,kO,yK,yX,kM,xW,jE,zR,jS,xJ,jA,vD,kN,kP,jM,jC,kY,yD,geD,isB,xX,isNon,vF,yR,xK,xD,vE,xL,xP,xQ,qH,kJ,c3,yS,vC,vB,cSg,xY,itS,Sl.inn,Sl.own,xU,eqB,neB,inB,yB,yZ,xS,xA,xT,xR,yN,at0,at1,at2,at3],rfl,?_⟩
  simp! [ht]
end
def dd2(p:Int×Int):D:=.tup [.int p.1,.int p.2]
theorem zfJ:∀a b:List Int,wS (a.map D.int) (b.map D.int)=(a.zip b).map dd2
 |[],b=>by simp[wS]
 |x::a,[]=>by simp[wS]
 |x::a,y::b=>by have:=zfJ a b;unfold wS at this;simp[wS,this,dd2]
theorem zoA(L:List (Int×Int)):qZ (gN 0) (zam qW jH zP) (zan qW jH zP) [none] (L.map dd2)=some ((L.filter λp=>!decide (p.1=p.2)).map dd2):=by
 have:=zcQ (g:=gN 0) (t:=zam qW jH zP) (f:=zan qW jH zP) (ρ:=[none]) (φ:=id) (p:=λx=>match x with| .tup [.int a,.int b]=>!decide (a=b)|_=>false) (xs:=L.map dd2) (by
  intro x hx;obtain⟨p,hp,rfl⟩:=List.mem_map.mp hx;refine⟨[some (.dat (dd2 p))],by simp[qM,jB,zI,qB,setO,jJ,kH,yV,vA,jT,zV,jW,xM,ifM,upT,cT,cTr,yI,jN,orP,jL,yE,orV,yA,c1,c2,cL,cS,zA,zD,cst,gv,gb,gN,qC,zS,qQ,kB,jP,qT,qD,cI,cR1,cR2,yU,jF,itS,yJ,xF,kI,yT,yL,yM,zX,qG,nxM,kC,tyN,yQ,lim,kG,qE,kO,yK,yX,kM,xW,jE,zR,jS,xJ,jA,vD,kN,kP,jM,jC,kY,yD,geD,isB,xX,isNon,vF,yR,xK,xD,vE,xL,xP,xQ,qH,kJ,c3,yS,vC,vB,cSg,xY,itS,Sl.inn,Sl.own,xU,eqB,neB,inB,yB,yZ,xS,xA,xT,xR,yN,at0,at1,at2,at3],?_,λ_=>by simp[qM,jB,zI,qB,setO,jJ,kH,yV,vA,jT,zV,jW,xM,ifM,upT,cT,cTr,yI,jN,orP,jL,yE,orV,yA,c1,c2,cL,cS,zA,zD,cst,gv,gb,gN,qC,zS,qQ,kB,jP,qT,qD,cI,cR1,cR2,yU,jF,itS,yJ,xF,kI,yT,yL,yM,zX,qG,nxM,kC,tyN,yQ,lim,kG,qE,kO,yK,yX,kM,xW,jE,zR,jS,xJ,jA,vD,kN,kP,jM,jC,kY,yD,geD,isB,xX,isNon,vF,yR,xK,xD,vE,xL,xP,xQ,qH,kJ,c3,yS,vC,vB,cSg,xY,itS,Sl.inn,Sl.own,xU,eqB,neB,inB,yB,yZ,xS,xA,xT,xR,yN,at0,at1,at2,at3]⟩;by_cases e:p.1=p.2
  ·simp! [dd2,e,eqD,dep]
  ·simp! [dd2,e,eqD,dep])
 rw[this,List.map_id,List.filter_map];rfl
theorem zfi(r:Str->Nat)(ks TK:List KD)(TD:List D)(lv:D)(u v:T)(hu:Has ks u)(hv:Has ks v)(kl:ks.length<=1000)(su:u.size<=1000)(sv:v.size<=1000)(hA:∀c∈u.kids,zft r ks TK TD c v)(hB:∀d∈v.kids,zft r ks TK TD u d)(hC:∀c∈u.kids,∀d∈v.kids,zft r ks TK TD c d)(hl:∀f ss,u=.nd f ss\/v=.nd f ss->idxK lv (.str f)=some (.int ((r f:Nat):Int))):
  wF [lv,.lst (ks.map kdD),.dic TK TD,.int ((num ks u:Nat):Int),.int ((num ks v:Nat):Int)]=some (.bl (abB r u v)):=by
 have ru:=zkc ks u hu;have rv:=zkc ks v hv;have bu:=zby ks u;have bv:=zby ks v;have iu:=zes ks u;have iv:=zes ks v;have c1':=zoC r ks TK TD u v hu hv hA;have c2':=zoB r ks TK TD u v hB;have lu:(zQ ks u.kids).length<=1000000:=by unfold zQ;rw[List.length_map];have:=gU u.kids;have:=zbi u;omega
 have lv':(zQ ks v.kids).length<=1000000:=by unfold zQ;rw[List.length_map];have:=gU v.kids;have:=zbi v;omega
 have bb1:=zcS (u.kids.map λc=>decide (num ks c=num ks v)||abB r c v);have bb2:=zcS (v.kids.map λd=>abB r u d);cases u with
 |bl x=>
  have:abB r (.bl x) v=false:=by
   cases e:abB r (.bl x) v with
   |false=>rfl
   |true=>exact absurd (jK.mp e) zdA
  rw[T.isBl]at bu
  simp! [wF,vH,startB,yP,ru,bu,this]
 |nd f ss=>
  rw[T.isBl]at bu;rw[T.kids]at*;rw[zfA]at ru bu iu;by_cases hs:∃s∈ss,s=v\/Abv r s v
  ·have ab:abB r (.nd f ss) v=true:=by
    rw[jK];obtain⟨s,h1,rfl|h2⟩:=hs
    ·exact .here h1
    ·exact .sub h1 h2
   have an:(ss.map λc=>decide (num ks c=num ks v)||abB r c v).any id=true:=by
    rw[List.any_map,List.any_eq_true];obtain⟨s,h1,rfl|h2⟩:=hs
    ·exact⟨s,h1,by simp⟩
    ·exact⟨s,h1,by simp[jK.mpr h2]⟩
   generalize (ss.map λc=>decide (num ks c=num ks v)||abB r c v)=B1 at*;generalize zQ ks ss=N1 at*;rw[ab]
   simp! [wF,vH,startB,yP,ru,bu,iu,c1',lu,gL,bb1,an]
  ·have an:(ss.map λc=>decide (num ks c=num ks v)||abB r c v).any id=false:=by rw[List.any_map,List.any_eq_false];intro s h1;simp only[Function.comp,id,Bool.or_eq_true,decide_eq_true_eq,not_or];refine⟨λe=>hs ⟨s,h1,.inl (zbF (hu.kid h1) hv e)⟩,λe=>hs ⟨s,h1,.inr (jK.mp e)⟩⟩
   generalize (ss.map λc=>decide (num ks c=num ks v)||abB r c v)=B1 at*;cases v with
   |bl y=>
    have ab:abB r (.nd f ss) (.bl y)=false:=by
     cases e:abB r (.nd f ss) (.bl y)with
     |false=>rfl
     |true=>exact absurd (ziD.mp (jK.mp e)) hs
    rw[T.isBl]at bv;rw[zcm]at rv bv;rw[ab];generalize zQ ks ss=N1 at*
    simp! [wF,vH,startB,yP,ru,bu,iu,c1',lu,gL,bb1,an,rv,bv]
   |nd g ts=>
    rw[T.isBl]at bv;rw[T.kids]at*;rw[zfA]at rv bv iv;have hf:=hl f ss (.inl rfl);have hg:=hl g ts (.inr rfl);by_cases hall:∀t∈ts,Abv r (.nd f ss) t
    ·have al:(ts.map λd=>abB r (.nd f ss) d).all id=true:=by rw[List.all_map,List.all_eq_true];exact λt ht=>jK.mpr (hall t ht)
     generalize hB2:(ts.map λd=>abB r (.nd f ss) d)=B2 at*;by_cases hfg:f=g
     ·subst hfg;have zz:(zQ ks ss).zip (zQ ks ts)=(ss.map λt=>((num ks t:Nat):Int)).zip (ts.map λt=>((num ks t:Nat):Int)):=rfl;have c3':=zoA ((zQ ks ss).zip (zQ ks ts));have pz:=zfJ (zQ ks ss) (zQ ks ts);have zl:min (zQ ks ss).length (zQ ks ts).length<=1000000:=by omega
      have key:=zdb (λt=>((num ks t:Nat):Int)) ss ts λa ha b hb e=>zbF (hu.kid ha) (hv.kid hb) (by omega)
      rw[←zz]at key;have hne:(f==f)=true:=by simp
      rcases key with⟨k1,k2⟩|⟨c,d,rest,m1,m2,k1,k2,k3⟩
      ·have ab:abB r (.nd f ss) (.nd f ts)=false:=by
        cases e:abB r (.nd f ss) (.nd f ts)with
        |false=>rfl
        |true=>
         rcases zbA.mp (jK.mp e)with h|⟨_,h|⟨_,c,d,h,_⟩⟩
         ·exact absurd h hs
         ·exact absurd h (Nat.lt_irrefl _)
         ·exact absurd h (k2 c d)
       rw[k1]at c3';rw[ab];generalize zQ ks ss=N1 at*;generalize zQ ks ts=N2 at*
       simp! [wF,vH,startB,yP,ru,bu,iu,c1',lu,gL,bb1,an,rv,bv,iv,c2',lv',allD,bb2,al,eqD,dep,cZ,pz,zl,c3',gtD]
      ·have ab:abB r (.nd f ss) (.nd f ts)=abB r c d:=by
        rw[Bool.eq_iff_iff,jK,jK,zbA];constructor
        ·rintro(h|⟨_,h|⟨_,c',d',h1,h2⟩⟩)
         ·exact absurd h hs
         ·exact absurd h (Nat.lt_irrefl _)
         ·obtain⟨rfl,rfl⟩:=k2 c' d' h1;exact h2
        ·exact λh=>.inr ⟨hall,.inr ⟨rfl,c,d,k1,h⟩⟩
       rw[k3]at c3';have tc:=zdC r ks TK TD (hC c m1 d m2);have dd:dd2 (((num ks c:Nat):Int),((num ks d:Nat):Int))=.tup [.int ((num ks c:Nat):Int),.int ((num ks d:Nat):Int)]:=rfl;rw[List.map_cons,dd]at c3';rw[ab];generalize zQ ks ss=N1 at*;generalize zQ ks ts=N2 at*
       simp! [wF,vH,startB,yP,ru,bu,iu,c1',lu,gL,bb1,an,rv,bv,iv,c2',lv',allD,bb2,al,eqD,dep,cZ,pz,zl,c3',tc,gtD]
     ·have ab:abB r (.nd f ss) (.nd g ts)=decide (r g<r f):=by
       rw[Bool.eq_iff_iff,jK,zbA,decide_eq_true_eq];constructor
       ·rintro(h|⟨_,h|⟨h,_⟩⟩)
        ·exact absurd h hs
        ·exact h
        ·exact absurd h hfg
       ·exact λh=>.inr ⟨hall,.inl h⟩
      rw[ab];generalize zQ ks ss=N1 at*;generalize zQ ks ts=N2 at*
      simp! [wF,vH,startB,yP,ru,bu,iu,c1',lu,gL,bb1,an,rv,bv,iv,c2',lv',allD,bb2,al,hfg,eqD,dep,hf,hg]
    ·have al:(ts.map λd=>abB r (.nd f ss) d).all id=false:=by rw[List.all_map,List.all_eq_false];simp only[Classical.not_forall]at hall;obtain⟨t,ht,h⟩:=hall;exact⟨t,ht,λe=>h (jK.mp e)⟩
     have ab:abB r (.nd f ss) (.nd g ts)=false:=by
      cases e:abB r (.nd f ss) (.nd g ts)with
      |false=>rfl
      |true=>
       rcases zbA.mp (jK.mp e)with h|⟨h,_⟩
       ·exact absurd h hs
       ·exact absurd h hall
     rw[ab];generalize (ts.map λd=>abB r (.nd f ss) d)=B2 at*;generalize zQ ks ss=N1 at*;generalize zQ ks ts=N2 at*
     simp! [wF,vH,startB,yP,ru,bu,iu,c1',lu,gL,bb1,an,rv,bv,iv,c2',lv',allD,bb2,al]
theorem zjU{x y:Int}{L:List Int}:y∈TS.addT L x↔y=x\/y∈L:=by
 unfold TS.addT;split
 ·rename_i h;constructor
  ·exact .inr
  ·rintro(rfl|h')
   ·exact h
   ·exact h'
 ·simp[or_comm]
theorem zhf:∀(l L:List Int),L.Nodup->(l.foldl TS.addT L).Nodup/\∀y,y∈l.foldl TS.addT L↔y∈l\/y∈L
 |[],L,h=>⟨h,λy=>by simp⟩
 |x::l,L,h=>by
  obtain⟨h1,h2⟩:=zhf l (TS.addT L x) (TS.addT_nodup h);refine⟨h1,λy=>?_⟩;rw[List.foldl_cons,h2,zjU,List.mem_cons];constructor
  ·rintro(z|z|z)
   ·exact .inl (.inr z)
   ·exact .inl (.inl z)
   ·exact .inr z
  ·rintro((z|z)|z)
   ·exact .inr (.inl z)
   ·exact .inl z
   ·exact .inr (.inr z)
theorem zdw{P:T->Prop}(n:T->Int):∀l:List Int,(∀x∈l,∃u,P u/\n u=x)->∃us:List T,l=us.map n/\∀u∈us,P u
 |[],_=>⟨[],rfl,by simp⟩
 |x::l,h=>by
  obtain⟨u,h1,h2⟩:=h x (by simp);obtain⟨us,h3,h4⟩:=zdw n l λy hy=>h y (by simp[hy])
  exact⟨u::us,by rw[List.map_cons,h2,←h3],by simpa using⟨h1,h4⟩⟩
theorem zhB{ks:List KD}{t:T}(h:Has ks t):∃us:List T,kZ ks t=zQ ks us/\us.Pairwise (λa b=>num ks a<num ks b)/\∀u,u∈us↔u∈qA t:=by
 obtain⟨s1,s2⟩:=zhf ((bk t).map λq=>((num ks q.2:Nat):Int)) [] List.nodup_nil;have s1:(vL ((bk t).map λq=>((num ks q.2:Nat):Int))).Nodup:=s1;obtain⟨p1,p2⟩:=zbC (vL ((bk t).map λq=>((num ks q.2:Nat):Int)));have mem:∀y:Int,y∈kZ ks t↔∃u∈qA t,((num ks u:Nat):Int)=y:=λy=>by
  have:y∈kZ ks t↔y∈(bk t).map λq=>((num ks q.2:Nat):Int):=by
   rw[show kZ ks t=nV (vL ((bk t).map λq=>((num ks q.2:Nat):Int)))from rfl,p1.mem_iff]
   have:=s2 y;rw[List.mem_nil_iff,or_false]at this;exact this
  rw[this,List.mem_map];constructor
  ·rintro⟨q,hq,e⟩;refine⟨q.2,?_,e⟩;rw[←zax [] t];exact List.mem_map.mpr ⟨q,List.mem_reverse.mp hq,rfl⟩
  ·rintro⟨u,hu,e⟩;rw[←zax [] t]at hu;obtain⟨q,hq,rfl⟩:=List.mem_map.mp hu;exact⟨q,List.mem_reverse.mpr hq,e⟩
 obtain⟨us,e,hus⟩:=zdw (P:=λu=>u∈qA t) (λu=>((num ks u:Nat):Int)) (kZ ks t) λx hx=>(mem x).mp hx
 have nd:(kZ ks t).Nodup:=p1.nodup_iff.mpr s1;have p2:(kZ ks t).Pairwise (·<=·):=p2;refine⟨us,e,?_,λu=>⟨hus u,λhu=>?_⟩⟩
 ·rw[e]at nd p2
  have:=List.Pairwise.and p2 nd;rw[List.pairwise_map]at this;exact this.imp λ⟨h1,h2⟩=>by omega
 ·have:=(mem ((num ks u:Nat):Int)).mpr ⟨u,hu,rfl⟩;rw[e]at this;obtain⟨u',h1,h2⟩:=List.mem_map.mp this
  have:=zbF (h.sub (hus u' h1)) (h.sub hu) (by omega);rw[←this];exact h1
section
variable(r:Str->Nat)(ks:List KD)
def tkL(L:List (T×T)):List KD:=L.map λq=>pk [((num ks q.1:Nat):Int),((num ks q.2:Nat):Int)]
def tvL(L:List (T×T)):List D:=L.map λq=>.bl (abB r q.1 q.2)
def HasP(L:List (T×T)):Prop:=∀q∈L,Has ks q.1/\Has ks q.2
theorem zfQ{a b c d:T}(ha:Has ks a)(hb:Has ks b)(hc:Has ks c)(hd:Has ks d)(e:pk [((num ks a:Nat):Int),((num ks b:Nat):Int)]=pk [((num ks c:Nat):Int),((num ks d:Nat):Int)]):a=c/\b=d:=by have:=zfG e;simp only[List.cons.injEq,and_true]at this;exact⟨zbF ha hc (by omega),zbF hb hd (by omega)⟩
theorem zdB{L:List (T×T)}(hL:HasP ks L){c v:T}(h:(c,v)∈L):zft r ks (tkL ks L) (tvL r L) c v:=by
 refine zcf (λq:T×T=>pk [((num ks q.1:Nat):Int),((num ks q.2:Nat):Int)]) (λq=>D.bl (abB r q.1 q.2)) (c,v) L h λa ha e=>?_
 obtain⟨h1,h2⟩:=hL a ha;obtain⟨h3,h4⟩:=hL _ h;obtain⟨e1,e2⟩:=zfQ ks h1 h2 h3 h4 e;rw[e1,e2]
theorem ziQ{L:List (T×T)}(hL:HasP ks L){u v:T}(hu:Has ks u)(hv:Has ks v)(h:(u,v)∉L):pk [((num ks u:Nat):Int),((num ks v:Nat):Int)]∉tkL ks L:=λhm=>by obtain⟨q,hq,e⟩:=List.mem_map.mp hm;obtain⟨h1,h2⟩:=hL q hq;obtain⟨e1,e2⟩:=zfQ ks h1 h2 hu hv e;subst e1 e2;exact h hq
end
theorem zgX(r:Str->Nat)(ks:List KD)(L:List (T×T))(u v:T)(d0 d1 d2 lv rows hl on it:D)(x10:Option Sl)(hL:HasP ks L)(hu:Has ks u)(hv:Has ks v)(hn:(u,v)∉L)(ll:L.length<10000)(e:wF [lv,rows,.dic (tkL ks L) (tvL r L),.int ((num ks u:Nat):Int),.int ((num ks v:Nat):Int)]=some (.bl (abB r u v))):
  (gN 10 (.int ((num ks v:Nat):Int)) [some (.dat d0),some (.dat d1),some (.dat d2),some (.dat lv),some (.dat rows),some (.dat hl),some (.dat on),some (.dat it),some (.own (.dic (tkL ks L) (tvL r L))),some (.dat (.int ((num ks u:Nat):Int))),x10]).bind (zaS zP)=
   some (.nx [some (.dat d0),some (.dat d1),some (.dat d2),some (.dat lv),some (.dat rows),some (.dat hl),some (.dat on),some (.dat it),some (.own (.dic (tkL ks (L++[(u,v)])) (tvL r (L++[(u,v)])))),some (.dat (.int ((num ks u:Nat):Int))),some (.dat (.int ((num ks v:Nat):Int)))]):=by
 have kp:=zfc [((num ks u:Nat):Int),((num ks v:Nat):Int)];simp only[List.map_cons,List.map_nil]at kp;have gp:gkD (.inr [Sum.inl ((num ks u:Nat):Int),Sum.inl ((num ks v:Nat):Int)])=pk [((num ks u:Nat):Int),((num ks v:Nat):Int)]:=rfl;have pn:=zbl (ds:=tvL r L) (d:=.bl (abB r u v)) (ziQ ks hL hu hv hn);have z:(tkL ks L).length<1000000:=by unfold tkL;rw[List.length_map];omega
 have t1:tkL ks (L++[(u,v)])=tkL ks L++[pk [((num ks u:Nat):Int),((num ks v:Nat):Int)]]:=by simp[tkL]
 have t2:tvL r (L++[(u,v)])=tvL r L++[.bl (abB r u v)]:=by simp[tvL]
 rw[t1,t2];generalize tkL ks L=TK at*;generalize tvL r L=TV at*
 simp! [nY,zho,upX,e,kp,gp,pn,z]
def lvD(R:List Str):D:=.dic (R.map KD.str) (VS R.length)
theorem zet(f:Str):∀R:List Str,(R.map KD.str).idxOf (.str f)=R.idxOf f
 |[]=>rfl
 |x::R=>by
  rw[List.map_cons,List.idxOf_cons,List.idxOf_cons,zet f R];by_cases e:x=f
  ·subst e;simp
  ·have h1:(KD.str x==KD.str f)=false:=by simpa using e
   have h2:(x==f)=false:=by simpa using e
   rw[h1,h2]
theorem zop{R:List Str}{f:Str}(h:f∈R):idxK (lvD R) (.str f)=some (.int ((R.idxOf f:Nat):Int)):=by
 have k:kOk (R.map KD.str)=true:=by unfold kOk;rw[List.all_map];simp
 have v:=zgU (R.map KD.str) (.str f);rw[List.length_map,if_pos (List.mem_map.mpr ⟨f,h,rfl⟩),zet]at v;simp[lvD,idxK,qH,k,kdK,v]
theorem zhM(n:Nat):∀(R2 R1:List Str),(R1++R2).Nodup->wM (qQ (zS (gN 0) (zS (gN 1) qC))) qD (zdv n) (zdx n) [none,none] (vJ R1.length (R2.map D.str)) (R1.map KD.str,VS R1.length)=some ((R1++R2).map KD.str,VS (R1++R2).length)
 |[],R1,_=>by simp[vJ,wM]
 |x::R2,R1,h=>by
  have nx:KD.str x∉R1.map KD.str:=λhm=>by
   obtain⟨y,hy,e⟩:=List.mem_map.mp hm;cases e
   rw[List.nodup_append]at h;exact h.2.2 x hy x (by simp) rfl
  have ih:=zhM n R2 (R1++[x]) (by rw[List.append_assoc];exact h);rw[List.map_append,List.length_append,List.length_singleton,ziE,List.append_assoc]at ih;have pn:=zbl (ds:=VS R1.length) (d:=.int ((R1.length:Nat):Int)) nx;rw[List.map_cons,vJ,wM];simp only[List.map_cons,List.map_nil,List.singleton_append]at ih;rw[←ih]
  simp! [qH,kdK,pn]
theorem ziP(r:Str->Nat)(ks:List KD)(R:List Str)(hr:r=λx=>R.idxOf x)(a b u:T)(us vs:List T)(d0 d1 d2 hl on it:D)(x10:Option Sl)(wf:WF ks)(kl:ks.length<=1000)(ha:Has ks a)(hb:Has ks b)(sa:a.size<64)(sb:b.size<64)(hvs:vs.Pairwise λx y=>num ks x<num ks y)(mvs:∀v,v∈vs↔v∈qA b)(hu:u∈qA a)(D0:List (T×T))(hD:HasP ks D0)(nD:∀q∈D0,q.1≠u)(kD:∀c∈u.kids,∀v∈vs,(c,v)∈D0)(lD:D0.length+vs.length<10000)(hin:∀f ss,(.nd f ss∈qA a\/.nd f ss∈qA b)->f∈R):
  ∃y10,kR (gN 10) (zaS zP) ((zQ ks vs).map D.int) [some (.dat d0),some (.dat d1),some (.dat d2),some (.dat (lvD R)),some (.dat (.lst (ks.map kdD))),some (.dat hl),some (.dat on),some (.dat it),some (.own (.dic (tkL ks D0) (tvL r D0))),some (.dat (.int ((num ks u:Nat):Int))),x10]=
   some (.nx [some (.dat d0),some (.dat d1),some (.dat d2),some (.dat (lvD R)),some (.dat (.lst (ks.map kdD))),some (.dat hl),some (.dat on),some (.dat it),some (.own (.dic (tkL ks (D0++vs.map λv=>(u,v))) (tvL r (D0++vs.map λv=>(u,v))))),some (.dat (.int ((num ks u:Nat):Int))),y10]):=by
 have hasu:=ha.sub hu;obtain⟨ρ',f1,y10,rfl⟩:=wL (g:=gN 10) (b:=zaS zP) (xs:=(zQ ks vs).map D.int)
  (ρ:=[some (.dat d0),some (.dat d1),some (.dat d2),some (.dat (lvD R)),some (.dat (.lst (ks.map kdD))),some (.dat hl),some (.dat on),some (.dat it),some (.own (.dic (tkL ks D0) (tvL r D0))),some (.dat (.int ((num ks u:Nat):Int))),x10])
  (λi ρ=>∃y10,ρ=[some (.dat d0),some (.dat d1),some (.dat d2),some (.dat (lvD R)),some (.dat (.lst (ks.map kdD))),some (.dat hl),some (.dat on),some (.dat it),some (.own (.dic (tkL ks (D0++(vs.take i).map λv=>(u,v))) (tvL r (D0++(vs.take i).map λv=>(u,v))))),some (.dat (.int ((num ks u:Nat):Int))),y10])
  ⟨x10,by simp⟩ (by
   rintro i x ρ hx ⟨y10,rfl⟩;rw[zQ,List.map_map,List.getElem?_map]at hx;cases e:vs[i]? with
   |none=>rw[e]at hx;cases hx
   |some v=>
    rw[e]at hx;cases hx
    have hi:i<vs.length:=(List.getElem?_eq_some_iff.mp e).1;have ev:vs[i]=v:=(List.getElem?_eq_some_iff.mp e).2;have hv:=(mvs v).mp (List.mem_of_getElem? e);have hasv:=hb.sub hv;have before:∀w∈vs,num ks w<num ks v->w∈vs.take i:=λw hw lt=>by
     obtain⟨j,hj⟩:=List.mem_iff_getElem?.mp hw;obtain⟨h1,e1⟩:=List.getElem?_eq_some_iff.mp hj;have hji:j<i:=by
      rcases Nat.lt_trichotomy j i with z|z|z
      ·exact z
      ·subst z;rw[e]at hj;cases hj;omega
      ·have:=List.pairwise_iff_getElem.mp hvs i j hi h1 z;rw[ev,e1]at this;omega
     exact List.mem_iff_getElem?.mpr ⟨j,by rw[List.getElem?_take,if_pos hji];exact hj⟩
    have tk:vs.take (i+1)=vs.take i++[v]:=by rw[List.take_succ_eq_append_getElem hi,ev]
    have hL:HasP ks (D0++(vs.take i).map λv=>(u,v)):=λq hq=>by
     rcases List.mem_append.mp hq with hq|hq
     ·exact hD q hq
     ·obtain⟨w,hw,rfl⟩:=List.mem_map.mp hq;exact⟨hasu,hb.sub ((mvs w).mp (List.mem_of_mem_take hw))⟩
    have hn:(u,v)∉D0++(vs.take i).map λv=>(u,v):=λhq=>by
     rcases List.mem_append.mp hq with hq|hq
     ·exact nD _ hq rfl
     ·obtain⟨w,hw,e1⟩:=List.mem_map.mp hq;cases e1
      obtain⟨j,hj⟩:=List.mem_iff_getElem?.mp hw;rw[List.getElem?_take]at hj;split at hj
      ·rename_i hji;obtain⟨h1,e1⟩:=List.getElem?_eq_some_iff.mp hj
       have:=List.pairwise_iff_getElem.mp hvs j i h1 hi hji;rw[e1,ev]at this;omega
      ·cases hj
    have inner:∀d∈v.kids,d∈vs/\num ks d<num ks v:=λd hd=>by
     cases v with
     |bl x=>simp[T.kids]at hd
     |nd g ts=>
      rw[T.kids]at hd;exact⟨(mvs d).mpr (zao hv (zbf hd (gS d))),wf.lt hasv hd⟩
    have zu:=zap hu;have zv:=zap hv;have ra:=zfi r ks (tkL ks (D0++(vs.take i).map λv=>(u,v))) (tvL r (D0++(vs.take i).map λv=>(u,v))) (lvD R) u v hasu hasv kl (by rcases zu with rfl|z<;>omega) (by rcases zv with rfl|z<;>omega)
     (λc hc=>zdB r ks hL (List.mem_append_left _ (kD c hc v (List.mem_of_getElem? e))))
     (λd hd=>zdB r ks hL (List.mem_append_right _ (List.mem_map.mpr ⟨d,before d (inner d hd).1 (inner d hd).2,rfl⟩)))
     (λc hc d hd=>zdB r ks hL (List.mem_append_left _ (kD c hc d (inner d hd).1)))
     (λf ss h=>by
      have:=zop (R:=R) (hin f ss (by
       rcases h with rfl|rfl
       ·exact .inl hu
       ·exact .inr hv))
      rw[this,hr])
    have tt:=zgX r ks _ u v d0 d1 d2 (lvD R) (.lst (ks.map kdD)) hl on it y10 hL hasu hasv hn (by rw[List.length_append,List.length_map,List.length_take];omega) ra;refine⟨_,.inl tt,some (.dat (.int ((num ks v:Nat):Int))),?_⟩;rw[tk,List.map_append,←List.append_assoc]
    rfl)
 rw[zQ,List.length_map,List.length_map,List.take_length]at f1;exact⟨y10,f1⟩
theorem zhC{ks:List KD}{t:T}{us:List T}(wf:WF ks)(h:Has ks t)(hp:us.Pairwise λx y=>num ks x<num ks y)(hm:∀u,u∈us↔u∈qA t):∃us',us=us'++[t]:=by
 have ht:t∈us:=(hm t).mpr (gS t);obtain⟨A,B,rfl⟩:=List.append_of_mem ht;cases B with
 |nil=>exact⟨A,rfl⟩
 |cons b B=>
  rw[List.pairwise_append,List.pairwise_cons]at hp;have lt:=hp.2.1.1 b (by simp);rcases wf.le h ((hm b).mp (by simp))with rfl|z
  ·omega
  ·omega
theorem zki{ks:List KD}{t:T}{us:List T}(e:kZ ks t=zQ ks us):us.length<=t.size:=by have h1:=congrArg List.length e;rw[zQ,List.length_map,kZ,(zbC _).1.length_eq]at h1;have h2:=zcU ((bk t).map λq=>((num ks q.2:Nat):Int)) [];rw[List.length_map,zge,List.length_nil]at h2;unfold vL at h1;omega
theorem zeu(vs:List T):∀l:List T,(l.flatMap λu=>vs.map λv=>(u,v)).length=l.length*vs.length
 |[]=>by simp
 |x::l=>by rw[List.flatMap_cons,List.length_append,zeu vs l,List.length_map,List.length_cons,Nat.add_mul];omega
theorem zlw(R:List Str)(a b:T)(sa:a.size<64)(sb:b.size<64)(hR:R.Nodup)(lR:R.length<=1000)(hin:∀f ss,(.nd f ss∈qA a\/.nd f ss∈qA b)->f∈R):
  xV [.lst (R.map D.str),a.d,b.d]=some (.bl (abB (λx=>R.idxOf x) a b)):=by
 obtain⟨ks,wf,ha,hb,kl,en⟩:=zgJ a b sa sb;obtain⟨us,eu,pu,mu⟩:=zhB ha;obtain⟨vs,ev,pv,mv⟩:=zhB hb;have lc:=zhM zP R [] hR;simp only[List.map_nil,List.length_nil,List.nil_append,show VS 0=[]from rfl]at lc;have lu:=zki eu;have lv:=zki ev;generalize hr:(λx=>R.idxOf x)=r;obtain⟨ρ',f1,y9,y10,rfl⟩:=wL (g:=gN 9) (b:=zdn zP) (xs:=(zQ ks us).map D.int)
  (ρ:=[some (.dat (.lst (R.map D.str))),some (.dat a.d),some (.dat b.d),some (.dat (lvD R)),some (.dat (.lst (ks.map kdD))),some (.dat (.lst [.lst ((zQ ks us).map D.int),.lst ((zQ ks vs).map D.int)])),some (.dat (.lst ((zQ ks us).map D.int))),some (.dat (.lst ((zQ ks vs).map D.int))),some (.own (.dic [] [])),none,none])
  (λi ρ=>∃y9 y10,ρ=[some (.dat (.lst (R.map D.str))),some (.dat a.d),some (.dat b.d),some (.dat (lvD R)),some (.dat (.lst (ks.map kdD))),some (.dat (.lst [.lst ((zQ ks us).map D.int),.lst ((zQ ks vs).map D.int)])),some (.dat (.lst ((zQ ks us).map D.int))),some (.dat (.lst ((zQ ks vs).map D.int))),some (.own (.dic (tkL ks ((us.take i).flatMap λu=>vs.map λv=>(u,v))) (tvL r ((us.take i).flatMap λu=>vs.map λv=>(u,v))))),y9,y10])
  ⟨none,none,by simp[tkL,tvL]⟩ (by
   rintro i x ρ hx ⟨y9,y10,rfl⟩;rw[zQ,List.map_map,List.getElem?_map]at hx;cases e:us[i]? with
   |none=>rw[e]at hx;cases hx
   |some u=>
    rw[e]at hx;cases hx
    have hi:i<us.length:=(List.getElem?_eq_some_iff.mp e).1;have eui:us[i]=u:=(List.getElem?_eq_some_iff.mp e).2;have hu:=(mu u).mp (List.mem_of_getElem? e);have tk:us.take (i+1)=us.take i++[u]:=by rw[List.take_succ_eq_append_getElem hi,eui]
    have mem:∀q:T×T,q∈((us.take i).flatMap λu=>vs.map λv=>(u,v))↔q.1∈us.take i/\q.2∈vs:=λq=>by
     rw[List.mem_flatMap];constructor
     ·rintro⟨w,hw,hq⟩;obtain⟨v,hv,rfl⟩:=List.mem_map.mp hq;exact⟨hw,hv⟩
     ·rintro⟨h1,h2⟩;exact⟨q.1,h1,List.mem_map.mpr ⟨q.2,h2,rfl⟩⟩
    have before:∀w∈us,num ks w<num ks u->w∈us.take i:=λw hw lt=>by
     obtain⟨j,hj⟩:=List.mem_iff_getElem?.mp hw;obtain⟨h1,e1⟩:=List.getElem?_eq_some_iff.mp hj;have hji:j<i:=by
      rcases Nat.lt_trichotomy j i with z|z|z
      ·exact z
      ·subst z;rw[e]at hj;cases hj;omega
      ·have:=List.pairwise_iff_getElem.mp pu i j hi h1 z;rw[eui,e1]at this;omega
     exact List.mem_iff_getElem?.mpr ⟨j,by rw[List.getElem?_take,if_pos hji];exact hj⟩
    have flen:((us.take i).flatMap λu=>vs.map λv=>(u,v)).length=i*vs.length:=by rw[zeu,List.length_take,Nat.min_eq_left (Nat.le_of_lt hi)]
    have bnd:i*vs.length<=64*64:=Nat.mul_le_mul (by omega) (by omega);obtain⟨z10,f2⟩:=ziP r ks R hr.symm a b u us vs (.lst (R.map D.str)) a.d b.d (.lst [.lst ((zQ ks us).map D.int),.lst ((zQ ks vs).map D.int)]) (.lst ((zQ ks us).map D.int)) (.lst ((zQ ks vs).map D.int)) y10 wf (by omega) ha hb sa sb pv mv hu
     ((us.take i).flatMap λu=>vs.map λv=>(u,v)) (λq hq=>⟨ha.sub ((mu _).mp (List.mem_of_mem_take ((mem q).mp hq).1)),hb.sub ((mv _).mp ((mem q).mp hq).2)⟩)
     (λq hq z=>by
      have h1:=((mem q).mp hq).1;rw[z]at h1;obtain⟨j,hj⟩:=List.mem_iff_getElem?.mp h1;rw[List.getElem?_take]at hj;split at hj
      ·rename_i hji;obtain⟨h1,e1⟩:=List.getElem?_eq_some_iff.mp hj
       have:=List.pairwise_iff_getElem.mp pu j i h1 hi hji;rw[e1,eui]at this;omega
      ·cases hj)
     (λc hc v hv=>(mem (c,v)).mpr ⟨before c ((mu c).mpr (by
      cases u with
      |bl x=>simp[T.kids]at hc
      |nd f ts=>rw[T.kids]at hc;exact zao hu (zbf hc (gS c)))) (by
      cases u with
      |bl x=>simp[T.kids]at hc
      |nd f ts=>rw[T.kids]at hc;exact wf.lt (ha.sub hu) hc),hv⟩) (by rw[flen];omega) hin
    have fm:(us.take (i+1)).flatMap (λu=>vs.map λv=>(u,v))=((us.take i).flatMap λu=>vs.map λv=>(u,v))++vs.map λv=>(u,v):=by rw[tk,List.flatMap_append];simp
    rw[←fm]at f2;refine⟨_,.inl ?_,some (.dat (.int ((num ks u:Nat):Int))),z10,rfl⟩;generalize tkL ks ((us.take i).flatMap λu=>vs.map λv=>(u,v))=K1 at*;generalize tvL r ((us.take i).flatMap λu=>vs.map λv=>(u,v))=V1 at*;generalize tkL ks ((us.take (i+1)).flatMap λu=>vs.map λv=>(u,v))=K2 at*;generalize tvL r ((us.take (i+1)).flatMap λu=>vs.map λv=>(u,v))=V2 at*;generalize (zQ ks vs).map D.int=N2 at*;generalize (zQ ks us).map D.int=N1 at*;simp only[Sl.own]at f2
    simp! [f2])
 rw[show((zQ ks us).map D.int).length=us.length by simp[zQ],List.take_length]at f1;obtain⟨us',rfl⟩:=zhC wf ha pu mu;obtain⟨vs',rfl⟩:=zhC wf hb pv mv;have tl:=zdC r ks _ _ (zdB r ks (L:=(us'++[a]).flatMap λu=>(vs'++[b]).map λv=>(u,v)) (c:=a) (v:=b) (λq hq=>by obtain⟨w,hw,hq⟩:=List.mem_flatMap.mp hq;obtain⟨v,hv,rfl⟩:=List.mem_map.mp hq;exact⟨ha.sub ((mu w).mp hw),hb.sub ((mv v).mp hv)⟩) (List.mem_flatMap.mpr ⟨a,by simp,List.mem_map.mpr ⟨b,by simp,rfl⟩⟩))
 have la:atI ((zQ ks (us'++[a])).map D.int) (-1)=some (.int ((num ks a:Nat):Int)):=by rw[zQ,List.map_append,List.map_append];exact zgg _ _
 have lb:atI ((zQ ks (vs'++[b])).map D.int) (-1)=some (.int ((num ks b:Nat):Int)):=by rw[zQ,List.map_append,List.map_append];exact zgg _ _
 rw[eu,ev]at en;have rl:(vJ 0 (R.map D.str)).length<=1000000:=by rw[gI,List.length_map];omega
 have lvd:D.dic (R.map KD.str) (VS R.length)=lvD R:=rfl;generalize tkL ks ((us'++[a]).flatMap λu=>(vs'++[b]).map λv=>(u,v))=K2 at*;generalize tvL r ((us'++[a]).flatMap λu=>(vs'++[b]).map λv=>(u,v))=V2 at*;generalize (zQ ks (us'++[a])).map D.int=N1 at*;generalize (zQ ks (vs'++[b])).map D.int=N2 at*;simp only[Sl.own]at f1
 simp! [xV,zdt,cEnL,lc,rl,lvd,en,nL,kJ,f1,la,lb,tl]
def SgIn(R:List Str)(t:T):Prop:=∀f ss,.nd f ss∈qA t->f∈R
def eqb(s t:T):Bool:=@decide (s=t) (Classical.propDecidable _)
theorem zoy{s t:T}:eqb s t=true↔s=t:=by simp[eqb]
theorem zoz{s t:T}:eqb s t=false↔¬s=t:=by simp[eqb]
theorem eq_b(s t:T)(h:s.depth<=90):eqB s.d t.d=some (.bl (eqb s t)):=eq_T s t h
theorem ne_b(s t:T)(h:s.depth<=90):neB s.d t.d=some (.bl (!eqb s t)):=ne_T s t h
section
variable(R:List Str)(m:LO)(a b:T)
end
theorem zlp{R:List Str}{f g:Str}(h:f∈R)(e:R.idxOf f=R.idxOf g):f=g:=by have h1:=List.idxOf_lt_length_iff.mpr h;have h2:=List.getElem_idxOf h1;have h3:=List.getElem_idxOf (e▸h1:R.idxOf g<R.length);rw[←h2,←h3];simp[e]
theorem zlK{ps:SI}{bs R:List Str}(hR:∀p∈ps,p.1∈R){t:T}(h:WT ps bs t):SgIn R t:=by
 induction h with
 |bl hx=>intro f ss z;simp[qA]at z
 |nd hs hk ih=>
  intro f ss z;rw[qA]at z;rcases List.mem_cons.mp z with e|e
  ·cases e;exact hR _ hs
  ·obtain⟨c,hc,hu⟩:=gT.mp e;exact ih c hc f ss hu
theorem zdr{α:Type}:∀{l:List α}{k:Nat} {u:α},l[k]?=some u->(u::l.eraseIdx k).Perm l
 |[],k,u,h=>by simp at h
 |a::l,0,u,h=>by simp at h;subst h;exact .refl _
 |a::l,k+1,u,h=>by have:=zdr (l:=l) (k:=k) (u:=u) (by simpa using h);rw[List.eraseIdx_cons_succ];exact(List.Perm.swap _ _ _).trans (this.cons a)
theorem zex{α β:Type}(f:α->β):∀(l:List α) (k:Nat),(l.map f).eraseIdx k=(l.eraseIdx k).map f
 |[],k=>by simp
 |a::l,0=>by simp
 |a::l,k+1=>by simp[zex f l k]
theorem zih(c:Int)(ps:SI)(hl:ps.length<=100):∃R:List Str,zbo [.int c,.lst (ps.map sd)]=some (.lst (R.map D.str))/\R.Perm (ps.map (·.1)):=by
 have cp:qZ (qQ (zS (gN 0) (zS (gN 1) qC))) qD (zbZ zP) [none,none] (ps.map sd)=some ((ps.map (·.1)).map D.str):=by
  refine gK (by simp) λi a b ha hb=>?_
  rw[List.getElem?_map]at ha;rw[List.map_map,List.getElem?_map]at hb;cases e:ps[i]? with
  |none=>rw[e]at ha;cases ha
  |some p=>
   rw[e]at ha hb;cases ha;cases hb
   exact⟨[some (.dat (.str p.1)),some (.dat (.int p.2))],by simp! [sd],rfl,by simp[qM,jB,zI,qB,setO,jJ,kH,yV,vA,jT,zV,jW,xM,ifM,upT,cT,cTr,yI,jN,orP,jL,yE,orV,yA,c1,c2,cL,cS,zA,zD,cst,gv,gb,gN,qC,zS,qQ,kB,jP,qT,qD,cI,cR1,cR2,yU,jF,itS,yJ,xF,kI,yT,yL,yM,zX,qG,nxM,kC,tyN,yQ,lim,kG,qE,kO,yK,yX,kM,xW,jE,zR,jS,xJ,jA,vD,kN,kP,jM,jC,kY,yD,geD,isB,xX,isNon,vF,yR,xK,xD,vE,xL,xP,xQ,qH,kJ,c3,yS,vC,vB,cSg,xY,itS,Sl.inn,Sl.own,xU,eqB,neB,inB,yB,yZ,xS,xA,xT,xR,yN,at0,at1,at2,at3]⟩
 obtain⟨ρ',ew,f,c',z,rfl,pf⟩:=zck (t:=upT (cT (c2 neB (gb 2) (cL qG zD)))) (b:=zbV zP)
  (λm ρ=>∃(c:Int) (l f:List Str),ρ=[some (.dat (.int c)),some (.dat (.lst (ps.map sd))),some (.own (.lst (l.map D.str))),some (.own (.lst (f.map D.str)))]/\(f++l).Perm (ps.map (·.1))/\m=l.length)
  (λρ=>∃(f:List Str) (c:Int) (z:Option Sl),ρ=[some (.dat (.int c)),some (.dat (.lst (ps.map sd))),z,some (.own (.lst (f.map D.str)))]/\f.Perm (ps.map (·.1))) (by
   rintro m ρ ⟨c,l,f,rfl,pf,rfl⟩;cases l with
   |nil=>
    refine .inl ⟨[some (.dat (.int c)),some (.dat (.lst (ps.map sd))),some (.own (.lst [])),some (.own (.lst (f.map D.str)))],?_,f,c,some (.own (.lst [])),rfl,by simpa using pf⟩
    simp! [eqD,eqL,dep,qY]
   |cons w l=>
    right;have ll:(w::l).length+f.length<=100:=by have:=pf.length_eq;simp at this ⊢;omega
    obtain⟨n,en⟩:∃n:Nat,n=(w::l).length:=⟨_,rfl⟩;have n0:0<n:=by rw[en];simp
    have q0:0<=c%(n:Int):=Int.emod_nonneg _ (by omega);have q1:c%(n:Int)<n:=Int.emod_lt_of_pos _ (by omega);obtain⟨k,ek⟩:∃k:Nat,c%(n:Int)=k:=⟨(c%(n:Int)).toNat,by omega⟩;have kn:k<n:=by omega
    obtain⟨u,eu⟩:∃u,(w::l)[k]?=some u:=⟨_,List.getElem?_eq_getElem (by omega)⟩;have le:((w::l).eraseIdx k).length+1=n:=by rw[List.length_eraseIdx_of_lt (by omega)];omega
    have pe:=zdr eu;have eu':((w::l).map D.str)[k]?=some (.str u):=by rw[List.getElem?_map,eu];rfl
    have ee:((w::l).map D.str).eraseIdx k=((w::l).eraseIdx k).map D.str:=zex _ _ _;have lm:((w::l).map D.str).length=n:=by rw[List.length_map,←en]
    have nz:neB (.lst ((w::l).map D.str)) (.lst [])=some (.bl true):=by
     have:=zdP (w::l)
     have:qY ((w::l).map D.str)<=99:=by omega
     simp only[neB,dep,qY,eqD];simp only[List.map_cons]at this ⊢;rw[if_pos (by omega)];simp[eqL]
    have si:seqIndex? (k:Int) n=some k:=by unfold seqIndex?;simp;omega
    rw[←en]at ll;refine⟨[some (.dat (.int c)),some (.dat (.lst (ps.map sd))),some (.own (.lst ((w::l).map D.str))),some (.own (.lst (f.map D.str)))],[some (.dat (.int (c/(((((w::l).eraseIdx k).length:Nat):Int)+1)))),some (.dat (.lst (ps.map sd))),some (.own (.lst (((w::l).eraseIdx k).map D.str))),some (.own (.lst ((f++[u]).map D.str)))],((w::l).eraseIdx k).length,?_,.inl ?_,by rw[←en];omega,_,_,_,rfl,?_,rfl⟩
    ·generalize (w::l).map D.str=W at*
     dsimp! [nz]
    ·generalize (w::l).map D.str=W at*;generalize (w::l).eraseIdx k=V at*;have lf:f.length<1000000:=by omega
     have om:zeT (n:Int):=by show(0:Int)<_;omega
     have od:zgu ((V.length:Int)+1):=by unfold zgu;omega
     have k63:-9223372036854775808<=(k:Int)/\(k:Int)<9223372036854775808:=by omega
     dsimp! [om,od,k63,lm,ek,si,eu',ee,lf,appX]
    ·refine List.Perm.trans ?_ pf;rw[List.append_assoc];exact List.Perm.append_left _ pe) zP (ps.map (·.1)).length [some (.dat (.int c)),some (.dat (.lst (ps.map sd))),some (.own (.lst ((ps.map (·.1)).map D.str))),some (.own (.lst (([]:List Str).map D.str)))] ⟨c,_,[],rfl,.refl _,rfl⟩ (by rw[List.length_map];exact Nat.lt_of_lt_of_le (by omega:ps.length<1000) (by decide))
 refine⟨f,?_,pf⟩;have lz:ps.length<=1000000:=by omega
 simp only[List.map_nil,List.map_map]at ew cp
 simp! [zbo,cp,ew,lz]
theorem zlz{α:Type}{l:List α}{lo hi:Option Int}{x:α}(h:x∈yC l lo hi):x∈l:=List.mem_of_mem_drop (List.mem_of_mem_take h)
section
variable{r:Str->Nat}
theorem xE{f:Str}{ss:List T}{s:T}(h:s∈ss):s.size<(T.nd f ss).size:=by have:=gC h;rw[T.size];omega
theorem zfs:∀(s:T) {g:Str}{ts:List T} {t:T},Abv r s (.nd g ts)->t∈ts->Abv r s t
 | .bl x,_,_,_,h,_=>absurd h zdA
 | .nd f ss,g,ts,t,h,ht=>by
  cases h with
  |here h=>exact .sub h (.here ht)
  |sub h1 h2=>exact .sub h1 (zfs _ h2 ht)
  |prec _ h2=>exact h2 t ht
  |lex h1=>exact h1 t ht
termination_by s=>s.size
decreasing_by exact xE (by assumption)
theorem zdX:∀t:T,¬Abv r t t
 | .bl x,h=>zdA h
 | .nd f ss,h=>by
  cases h with
  |here h=>have:=xE (f:=f) h;omega
  |@sub _ _ s _ h1 h2=>exact zdX s (zfs _ h2 h1)
  |prec h1=>omega
  |lex _ h2 h3 _ h5=>rw[h2]at h3;cases h3;exact h5 rfl
termination_by t=>t.size
decreasing_by exact xE (by assumption)
theorem zgj{s t:T}(h:Abv r s t):s≠t:=λe=>by subst e;exact zdX _ h
theorem zal:∀(n:Nat) (s t u:T),s.size+t.size+u.size<=n->Abv r s t->Abv r t u->Abv r s u
 |0,s,t,u,h,_,_=>by have:=zbh s;omega
 |n+1,.bl x,t,u,h,h1,h2=>absurd h1 zdA
 |n+1,s,.bl x,u,h,h1,h2=>absurd h2 zdA
 |n+1,.nd f ss,.nd g ts,u,h,h1,h2=>by
  have kids:∀t'∈ts,Abv r (.nd f ss) t':=λt' ht=>zfs _ h1 ht
  cases h2 with
  |here h2=>exact kids u h2
  |@sub _ _ t' _ h2 h3=>exact zal n _ t' u (by have:=xE (f:=g) h2;omega) (kids t' h2) h3
  |@prec _ g' _ us p1 p2=>
   have ku:∀u'∈us,Abv r (.nd f ss) u':=λu' hu=>zal n _ (.nd g ts) u' (by have:=xE (f:=g') hu;omega) h1 (p2 u' hu)
   cases h1 with
   |here h1=>exact .sub h1 (.prec p1 p2)
   |@sub _ _ s' _ h1 h3=>exact .sub h1 (zal n s' (.nd g ts) _ (by have:=xE (f:=f) h1;omega) h3 (.prec p1 p2))
   |prec q1 _=>exact .prec (by omega) ku
   |lex=>exact .prec p1 ku
  |@lex _ _ us j c' d' p1 p2 p3 p4 p5 p6=>
   have ku:∀u'∈us,Abv r (.nd f ss) u':=λu' hu=>zal n _ (.nd g ts) u' (by have:=xE (f:=g) hu;omega) h1 (p1 u' hu)
   cases h1 with
   |here h1=>exact .sub h1 (.lex p1 p2 p3 p4 p5 p6)
   |@sub _ _ s' _ h1 h3=>exact .sub h1 (zal n s' (.nd g ts) _ (by have:=xE (f:=f) h1;omega) h3 (.lex p1 p2 p3 p4 p5 p6))
   |prec q1 _=>exact .prec q1 ku
   |@lex _ _ _ i c d q1 q2 q3 q4 q5 q6=>
    rcases Nat.lt_trichotomy i j with e|e|e
    ·have hd:us[i]?=some d:=by
      have:(ts.take j)[i]?=(us.take j)[i]?:=by rw[p4]
      rw[List.getElem?_take_of_lt e,List.getElem?_take_of_lt e,q3]at this;exact this.symm
     refine .lex ku q2 hd ?_ q5 q6
     have:(ts.take j).take i=(us.take j).take i:=by rw[p4]
     rw[List.take_take,List.take_take,Nat.min_eq_left (by omega)]at this;rw[q4,this]
    ·subst e;have dc:d=c':=Option.some.inj (q3.symm.trans p2);subst dc;have mc:=List.mem_of_getElem? q2;have md:=List.mem_of_getElem? q3;have me:=List.mem_of_getElem? p3;have ab:=zal n c d d' (by have:=xE (f:=f) mc;have:=xE (f:=f) md;have:=xE (f:=f) me;omega) q6 p6;exact .lex ku q2 p3 (q4.trans p4) (zgj ab) ab
    ·have hc:ss[j]?=some c':=by
      have:(ss.take i)[j]?=(ts.take i)[j]?:=by rw[q4]
      rw[List.getElem?_take_of_lt e,List.getElem?_take_of_lt e,p2]at this;exact this
     refine .lex ku hc p3 ?_ p5 p6
     have:(ss.take i).take j=(ts.take i).take j:=by rw[q4]
     rw[List.take_take,List.take_take,Nat.min_eq_left (by omega)]at this;rw[this,p4]
theorem Abv.trans{s t u:T}(h1:Abv r s t)(h2:Abv r t u):Abv r s u:=zal _ s t u (Nat.le_refl _) h1 h2
theorem Abv.asymm{s t:T}(h1:Abv r s t)(h2:Abv r t s):False:=zdX s (h1.trans h2)
theorem zkv{f:Str}{ss:List T}{i:Nat}{s t:T}(hi:i<ss.length)(h:Abv r s t):Abv r (.nd f (ss.set i s)) (.nd f (ss.set i t)):=by
 refine .lex (i:=i) (λu hu=>?_) (by simp[hi]) (by simp[hi]) ?_ (zgj h) h
 ·rcases List.mem_or_eq_of_mem_set hu with h1|h1
  ·obtain⟨j,hj,e⟩:=List.mem_iff_getElem.mp hu;by_cases ej:i=j
   ·subst ej;rw[List.getElem_set_self]at e;subst e;exact .sub (List.mem_iff_getElem.mpr ⟨i,by simpa using hi,by simp⟩) h
   ·rw[List.getElem_set_ne ej]at e;exact .here (List.mem_iff_getElem.mpr ⟨j,by simpa using hj,by rw[List.getElem_set_ne ej];exact e⟩)
  ·subst h1;exact .sub (List.mem_iff_getElem.mpr ⟨i,by simpa using hi,by simp⟩) h
 ·simp[List.take_set]
  try rw[List.set_eq_of_length_le (by simp;omega),List.set_eq_of_length_le (by simp;omega)]
theorem zbd(φ:Fil)(f:Str)(ts:List T):kS φ (.nd f ts)=.nd f (ts.map (kS φ)):=by rw[kS];congr 1;induction ts with
 |nil=>simp[vZ]
 |cons t ts ih=>simp[vZ,ih]
theorem Abv.fill(φ:Fil){s t:T}(h:Abv r s t):Abv r (kS φ s) (kS φ t):=by
 induction h with
 |here h=>rw[zbd];exact .here (List.mem_map_of_mem h)
 |sub h1 _ ih=>rw[zbd];exact .sub (List.mem_map_of_mem h1) ih
 |prec h1 _ ih=>
  rw[zbd]at*;rw[zbd];exact .prec h1 λu hu=>by obtain⟨t,ht,rfl⟩:=List.mem_map.mp hu;exact ih t ht
 |lex _ h2 h3 h4 h5 h6 ih ihc=>
  rw[zbd]at*;rw[zbd];refine .lex (λu hu=>by obtain⟨t,ht,rfl⟩:=List.mem_map.mp hu;exact ih t ht) (by rw[List.getElem?_map,h2];rfl) (by rw[List.getElem?_map,h3];rfl) (by rw[←List.map_take,←List.map_take,h4]) (zgj ihc) ihc
theorem zjW:∀{ss ts:List T},ss.length=ts.length->ss≠ts->∃c d,Unl ss ts c d
 |[],[],_,h=>absurd rfl h
 |[],t::ts,h,_=>by simp at h
 |s::ss,[],h,_=>by simp at h
 |s::ss,t::ts,h,hn=>by
  by_cases e:s=t
  ·subst e;obtain⟨c,d,hu⟩:=zjW (ss:=ss) (ts:=ts) (by simpa using h) (λz=>hn (by rw[z]));exact⟨c,d,nU.mpr (.inr ⟨rfl,hu⟩)⟩
  ·exact⟨s,t,nU.mpr (.inl ⟨e,rfl,rfl⟩)⟩
theorem zbz{ps:SI}(hf:∀s k k',(s,k)∈ps->(s,k')∈ps->k=k')(hr:∀p∈ps,∀q∈ps,r p.1=r q.1->p.1=q.1):∀(n:Nat) (s t:T),s.size+t.size<=n->WT ps [] s->WT ps [] t->s≠t->Abv r s t\/Abv r t s
 |0,s,t,h,_,_,_=>by have:=zbh s;omega
 |n+1,s,t,h,ws,wt,ne=>by
  cases ws with
  |bl hx=>cases hx
  |@nd f ss hs ks=>
   cases wt with
   |bl hx=>cases hx
   |@nd g ts ht kt=>
    by_cases h1:∃s∈ss,s=.nd g ts\/Abv r s (.nd g ts)
    ·obtain⟨s,h1,rfl|h2⟩:=h1
     ·exact .inl (.here h1)
     ·exact .inl (.sub h1 h2)
    by_cases h2:∃t∈ts,t=.nd f ss\/Abv r t (.nd f ss)
    ·obtain⟨t,h1,rfl|h2⟩:=h2
     ·exact .inr (.here h1)
     ·exact .inr (.sub h1 h2)
    have a1:∀s∈ss,Abv r (.nd g ts) s:=λs hs'=>by
     rcases zbz hf hr n s (.nd g ts) (by have:=xE (f:=f) hs';omega) (ks s hs') (.nd ht kt) (λe=>h1 ⟨s,hs',.inl e⟩)with z|z
     ·exact absurd ⟨s,hs',.inr z⟩ h1
     ·exact z
    have a2:∀t∈ts,Abv r (.nd f ss) t:=λt ht'=>by
     rcases zbz hf hr n t (.nd f ss) (by have:=xE (f:=g) ht';omega) (kt t ht') (.nd hs ks) (λe=>h2 ⟨t,ht',.inl e⟩)with z|z
     ·exact absurd ⟨t,ht',.inr z⟩ h2
     ·exact z
    rcases Nat.lt_trichotomy (r f) (r g)with e|e|e
    ·exact .inr (.prec e a1)
    ·have efg:f=g:=hr _ hs _ ht e;subst efg;have el:ss.length=ts.length:=by have:=hf _ _ _ hs ht;omega
     obtain⟨c,d,i,u1,u2,u3,u4⟩:=zjW el (λz=>ne (by rw[z]));have mc:=List.mem_of_getElem? u1;have md:=List.mem_of_getElem? u2;rcases zbz hf hr n c d (by have:=xE (f:=f) mc;have:=xE (f:=f) md;omega) (ks c mc) (kt d md) u4 with z|z
     ·exact .inl (.lex a2 u1 u2 u3 u4 z)
     ·exact .inr (.lex a1 u2 u1 u3.symm u4.symm z)
    ·exact .inl (.prec e a2)
end
theorem WT.fillW{ps:SI}{bs us:List Str}{φ:Fil}(hφ:∀x∈bs,WT ps us (kS φ (.bl x))){t:T}(h:WT ps bs t):WT ps us (kS φ t):=by
 induction h with
 |bl h=>exact hφ _ h
 |nd hs _ ih=>rw[zbd];exact .nd (by rw[List.length_map];exact hs) λu hu=>by obtain⟨t,ht,rfl⟩:=List.mem_map.mp hu;exact ih t ht
theorem zbL(φ:Fil):∀(n:Nat) (t:T),t.depth<=n->t.size<=1000->zad n [t.d,fdic φ]=some (kS φ t).d
 |0,t,h,_=>by have:=zcN t;omega
 |n+1,.bl x,h,_=>by
  have ok:=znv φ;have fv:=zkp x φ;have hd:((wV φ x).map T.d).getD (.str x)=(kS φ (.bl x)).d:=by rw[kS];cases wV φ x<;>simp[xG]
  rw[←hd]
  simp! [zad,fdic,xG,ok,fv,kdK]
 |n+1,.nd s ts,h,hz=>by
  rw[T.depth]at h;rw[T.size]at hz;have kl:=gU ts;have hl:ts.length<=1000000:=by omega
  have w1:qZ (gN 0) qD (zbx (zad n) zP) [none,some (.dat (fdic φ))] (ts.map T.d)=some ((vZ φ ts).map T.d):=by
   rw[zbK];refine gK (by simp) λi x y hx hy=>?_
   rw[List.getElem?_map]at hx;rw[List.map_map,List.getElem?_map]at hy;cases e:ts[i]? with
   |none=>rw[e]at hx;cases hx
   |some t=>
    rw[e]at hx hy;cases hx;cases hy
    have hm:=List.mem_of_getElem? e;have d1:=zaK hm;have d2:=gC hm;exact⟨_,rfl,rfl,by simp! [zbL φ n t (by omega) (by omega)]⟩
  have fl:(vZ φ ts).length=ts.length:=by rw[zbK];simp
  have z1:1+ts.length<=1000000:=by omega
  rw[kS,kF,kF]
  simp! [zad,cut1,w1,hl,fl,z1]
theorem zlv(c:Int)(w0 w1 w2 w3:Str)(d3:Int)(S:zfu [(w0,0),(w1,1),(w2,2),(w3,d3)])(hc:Builtin.Int.intBits c<=2^20):
  ∃t:T,zcC [.int c,.lst ([(w0,0),(w1,1),(w2,2),(w3,d3)].map sd)]=some t.d/\WT [(w0,0),(w1,1),(w2,2),(w3,d3)] ["A","B","X"] t/\t.size<=8:=by
 obtain⟨n,en,n0⟩:=zgK c hc;obtain⟨l,n1,e1,n10,wl,dl,zl⟩:=zfY S ["A","B","X"] (by simp) 100 3 n (by omega) (by omega) n0
 replace e1:zdJ [.int n,.int 3,.lst ([(w0,0),(w1,1),(w2,2),(w3,d3)].map sd),.lst [.str "A",.str "B",.str "X"]]=some (.lst [l.d,.int n1]):=e1
 replace zl:l.size<=40:=by simpa[xI]using zl
 have cn:zcD [l.d]=some (.int l.size):=zii 100 l (by omega) (by omega);have s1:atI ([(w0,(0:Int)),(w1,1),(w2,2),(w3,d3)].map sd) 1=some (.tup [.str w1,.int 1]):=rfl;generalize hp:[(w0,(0:Int)),(w1,1),(w2,2),(w3,d3)].map sd=PS at*;by_cases h:8<l.size
 ·have h':(8:Int)<(l.size:Int):=by omega
  refine⟨.nd w1 [.bl "A"],?_,.nd (by simp) (λu hu=>by rw[List.mem_singleton.mp hu];exact .bl (by simp)),by simp[T.size,T.sizes]⟩
  simp! [zcC,en,e1,cn,h,h',s1,gtD,kF,xG]
 ·have h':¬(8:Int)<(l.size:Int):=by omega
  exact⟨l,by simp! [zcC,en,e1,cn,h,h',gtD],wl,by omega⟩
section
variable{ps:SI}{bs R:List Str}{w0 w1 w2:Str}{d0 d1 d2:Int}
structure K32(ps:SI)(R:List Str)(w0 w1 w2:Str):Prop where
 m0:(w0,(0:Int))∈ps
 m1:(w1,(1:Int))∈ps
 m2:(w2,(2:Int))∈ps
 a0:atI (ps.map sd) 0=some (.tup [.str w0,.int 0])
 a1:atI (ps.map sd) 1=some (.tup [.str w1,.int 1])
 a2:atI (ps.map sd) 2=some (.tup [.str w2,.int 2])
 fn:∀s k k',(s,k)∈ps->(s,k')∈ps->k=k'
 nR:R.Nodup
 lR:R.length<=100
 iR:∀p∈ps,p.1∈R
def ABX:List Str:=["A","B","X"]
def G32(ps:SI)(t:T):Prop:=WT ps ABX t/\t.size<=8
variable(k:K32 ps R w0 w1 w2)
include k
theorem wI{a b:T}(ha:WT ps ABX a)(hb:WT ps ABX b)(sa:a.size<64)(sb:b.size<64):xV [.lst (R.map D.str),a.d,b.d]=some (.bl (abB (λx=>R.idxOf x) a b)):=
 zlw R a b sa sb k.nR (by have:=k.lR;omega) λf ss h=>by
  rcases h with h|h
  ·exact zlK k.iR ha f ss h
  ·exact zlK k.iR hb f ss h
theorem zjM{a b:T}(c:Int)(ga:G32 ps a)(gb':G32 ps b)(h:Abv (λx=>R.idxOf x) a b):zaR [.lst (R.map D.str),a.d,b.d,.lst (ps.map sd),.int c]=some (.bl true):=by
 have q0:0<=c%2:=Int.emod_nonneg _ (by decide);have q1:c%2<2:=Int.emod_lt_of_pos _ (by decide);have p0:0<=c/2%2:=Int.emod_nonneg _ (by decide);have p1:c/2%2<2:=Int.emod_lt_of_pos _ (by decide);have rest:∀i:Int,0<=i->i<2->∃u:T,atI [.tup [.str w0],.str "B"] i=some u.d/\WT ps ABX u/\u.size<=1:=λi h0 h1=>by
  rcases(by omega:i=0\/i=1)with e|e<;>rw[e]
  ·exact⟨.nd w0 [],by simp[kF,atI,ixN],.nd (by simpa using k.m0) (λ_ h=>by cases h),by simp[T.size,T.sizes]⟩
  ·exact⟨.bl "B",by simp[xG,atI,ixN],.bl (by simp[ABX]),by simp[T.size]⟩
 obtain⟨u,eu,wu,zu⟩:=rest _ q0 q1;obtain⟨v,ev,wv,zv⟩:=rest _ p0 p1;obtain⟨φ,eφ⟩:∃φ:Fil,φ=[(("A":Str),T.nd w1 [.bl "X"]),(("X":Str),u)]:=⟨_,rfl⟩;have fd:fdic φ=.dic [.str "A",.str "X"] [.tup [.str w1,.str "X"],u.d]:=by rw[eφ];simp[fdic,fks,fds,kF,xG]
 have da:=zab a;have db:=zab b;have za:=ga.2;have zb:=gb'.2;have fa:zat [a.d,fdic φ]=_:=zbL φ 100 a (by omega) (by omega);have fb:zat [b.d,fdic φ]=_:=zbL φ 100 b (by omega) (by omega);have wφ:∀x∈ABX,WT ps ABX (kS φ (.bl x)):=by
  intro x hx;simp only[ABX,List.mem_cons,List.not_mem_nil,or_false]at hx;rcases hx with rfl|rfl|rfl
  ·rw[eφ,kS];exact .nd (by simpa using k.m1) λz hz=>by rw[List.mem_singleton.mp hz];exact .bl (by simp[ABX])
  ·rw[eφ,kS];exact .bl (by simp[ABX])
  ·rw[eφ,kS];exact wu
 have zφ:∀p∈φ,p.2.size<=2:=by
  rw[eφ];intro p hp;simp only[List.mem_cons,List.not_mem_nil,or_false]at hp;rcases hp with rfl|rfl
  ·simp[T.size,T.sizes]
  ·simp only;omega
 have fza:=zcM (by omega) zφ a;have fzb:=zcM (by omega) zφ b;have A1:=wI k (ga.1.fillW wφ) (gb'.1.fillW wφ) (by omega) (by omega);rw[jK.mpr (h.fill φ)]at A1;have w2':∀x y:T,WT ps ABX x->WT ps ABX y->WT ps ABX (.nd w2 [x,y]):=λx y hx hy=>.nd (by simpa using k.m2) λz hz=>by
  simp only[List.mem_cons,List.not_mem_nil,or_false]at hz;rcases hz with rfl|rfl
  ·exact hx
  ·exact hy
 have A2:=wI k (w2' a v ga.1 wv) (w2' b v gb'.1 wv) (by simp only[T.size,T.sizes];omega) (by simp only[T.size,T.sizes];omega);have A3:=wI k (w2' v a wv ga.1) (w2' v b wv gb'.1) (by simp only[T.size,T.sizes];omega) (by simp only[T.size,T.sizes];omega);have B2:Abv (λx=>R.idxOf x) (.nd w2 [a,v]) (.nd w2 [b,v]):=zkv (ss:=[a,v]) (i:=0) (by simp) h;have B3:Abv (λx=>R.idxOf x) (.nd w2 [v,a]) (.nd w2 [v,b]):=zkv (ss:=[v,a]) (i:=1) (by simp) h;rw[jK.mpr B2,kF,kF]at A2;rw[jK.mpr B3,kF,kF]at A3;simp only[List.map_cons,List.map_nil]at A2 A3;have a0:=k.a0;have a1:=k.a1;have a2:=k.a2;generalize ps.map sd=PS at*;rw[fd]at fa fb;have ne:¬(("A":Str)="X"):=by decide
 by_cases e4:c/4%2=0
 ·simp! [zaR,zij,a0,a1,a2,qH,kdK,ne,eu,ev,fa,fb,A1,A2,e4,eqD,dep]
 ·simp! [zaR,zij,a0,a1,a2,qH,kdK,ne,eu,ev,fa,fb,A1,A3,e4,eqD,dep]
omit k in
theorem zko{t:T}(h:WT ps ABX t)(hv:vs t=[]):WT ps [] t:=by
 induction h with
 |bl hx=>rw[vs]at hv;cases hv
 |@nd f ts hs hk ih=>
  refine .nd hs λu hu=>ih u hu ?_
  rw[vs]at hv
  have:∀l:List T,vsL l=[]->∀u∈l,vs u=[]:=λl=>by
   induction l with
   |nil=>intro _ u hu;cases hu
   |cons t l ih2=>
    intro h u hu;rw[vsL,List.append_eq_nil_iff]at h;rcases List.mem_cons.mp hu with rfl|hu
    ·exact h.1
    ·exact ih2 h.2 u hu
  exact this ts hv u hu
omit k in
theorem bks0{t:T}(h:bks t=[]):vs t=[]:=by
 cases e:vs t with
 |nil=>rfl
 |cons x l=>
  have:x∈bks t:=(ziv t).mpr (by rw[e];simp);rw[h]at this;cases this
theorem zfZ{a b:T}(c:Int)(ga:G32 ps a)(gb':G32 ps b):wT [.lst (R.map D.str),a.d,b.d,.lst (ps.map sd),.int c]=some (.bl true):=by
 have za:=ga.2;have zb:=gb'.2;have da:=zab a;have db:=zab b;have e1:=wI k ga.1 gb'.1 (by omega) (by omega);have e2:=wI k gb'.1 ga.1 (by omega) (by omega);have eq:=eq_b a b (by omega);have ne:=ne_b a b (by omega);have b1:zau [a.d]=_:=zbM 100 a (by omega) (by omega);have b2:zau [b.d]=_:=zbM 100 b (by omega) (by omega);have qb:∀l:List Str,eqB (.lst (l.map D.str)) (.lst [])=some (.bl (decide (l=[]))):=λl=>by
  have:=zdP l;have h:qY (l.map D.str)<=99:=by omega
  cases l with
  |nil=>simp[eqB,eqD,eqL,dep,qY]
  |cons w l=>
   simp only[eqB,dep,qY,eqD];simp only[List.map_cons]at h ⊢;rw[if_pos (by omega)];simp[eqL]
 have q1:=qb (bks a);have q2:=qb (bks b);have asy:¬(abB (λx=>R.idxOf x) a b=true/\abB (λx=>R.idxOf x) b a=true):=λ⟨h1,h2⟩=>(jK.mp h1).asymm (jK.mp h2)
 have irr:eqb a b=true->abB (λx=>R.idxOf x) a b=false:=λh=>by rw[←Bool.not_eq_true,jK];exact λz=>zgj z (zoy.mp h)
 have tot:decide (bks a=[])=true->decide (bks b=[])=true->eqb a b=false->abB (λx=>R.idxOf x) a b=true\/abB (λx=>R.idxOf x) b a=true:=λh1 h2 h3=>by rw[decide_eq_true_eq]at h1 h2;rw[jK,jK];refine zbz k.fn (λp hp q _ e=>zlp (k.iR p hp) e) _ a b (Nat.le_refl _) (zko ga.1 (bks0 h1)) (zko gb'.1 (bks0 h2)) (zoz.mp h3)
 have kept:abB (λx=>R.idxOf x) a b=true->zaR [.lst (R.map D.str),a.d,b.d,.lst (ps.map sd),.int c]=some (.bl true):=λh=>zjM k c ga gb' (jK.mp h)
 generalize abB (λx=>R.idxOf x) a b=H at*;generalize abB (λx=>R.idxOf x) b a=Th at*;generalize eqb a b=E at*;generalize decide (bks a=[])=GA at*;generalize decide (bks b=[])=GB at*;generalize (bks a).map D.str=BA at*;generalize (bks b).map D.str=BB at*;generalize ps.map sd=PS at*;cases H with
 |true=>
  have kept:=kept rfl;cases Th with
  |true=>exact absurd ⟨rfl,rfl⟩ asy
  |false=>
   cases E with
   |true=>cases irr rfl
   |false=>cases GA<;>cases GB<;>dsimp! [wT,e1,e2,eq,ne,b1,b2,q1,q2,kept]
 |false=>
  cases Th with
  |true=>cases E<;>cases GA<;>cases GB<;>dsimp! [wT,e1,e2,eq,ne,b1,b2,q1,q2]
  |false=>
   cases E with
   |true=>cases GA<;>cases GB<;>dsimp! [wT,e1,e2,eq,ne,b1,b2,q1,q2]
   |false=>
    cases GA<;>cases GB
    ·dsimp! [wT,e1,e2,eq,ne,b1,b2,q1,q2]
    ·dsimp! [wT,e1,e2,eq,ne,b1,b2,q1,q2]
    ·dsimp! [wT,e1,e2,eq,ne,b1,b2,q1,q2]
    ·rcases tot rfl rfl rfl with z|z<;>cases z
theorem zig{t:T}(g:G32 ps t):zaF [.lst (R.map D.str),t.d]=some (.bl true):=by
 have zt:=g.2;cases t with
 |bl x=>
  have e1:=wI k g.1 g.1 (by omega) (by omega)
  have:abB (λx=>R.idxOf x) (.bl x) (.bl x)=false:=by rw[←Bool.not_eq_true,jK];exact zdA
  rw[this,xG]at e1
  simp! [zaF,e1,xG]
 |nd f ss=>
  have cf:=zbX (g:=gN 0) (t:=zbW zP) (f:=zbY zP) (ρ:=[none,some (.dat (.lst (R.map D.str))),some (.dat (T.nd f ss).d)]) (h:=T.d) (k:=T.d) (P:=λ_=>false) (L:=ss) (by
   intro s hs;cases hw:g.1 with
   |nd _ hk=>
    have e1:=wI k g.1 (hk s hs) (by omega) (by have:=xE (f:=f) hs;omega);rw[jK.mpr (.here hs)]at e1;exact⟨[some (.dat s.d),some (.dat (.lst (R.map D.str))),some (.dat (T.nd f ss).d)],by simp[qM,jB,zI,qB,setO,jJ,kH,yV,vA,jT,zV,jW,xM,ifM,upT,cT,cTr,yI,jN,orP,jL,yE,orV,yA,c1,c2,cL,cS,zA,zD,cst,gv,gb,gN,qC,zS,qQ,kB,jP,qT,qD,cI,cR1,cR2,yU,jF,itS,yJ,xF,kI,yT,yL,yM,zX,qG,nxM,kC,tyN,yQ,lim,kG,qE,kO,yK,yX,kM,xW,jE,zR,jS,xJ,jA,vD,kN,kP,jM,jC,kY,yD,geD,isB,xX,isNon,vF,yR,xK,xD,vE,xL,xP,xQ,qH,kJ,c3,yS,vC,vB,cSg,xY,itS,Sl.inn,Sl.own,xU,eqB,neB,inB,yB,yZ,xS,xA,xT,xR,yN,at0,at1,at2,at3],by simp! [e1],λz=>by cases z⟩)
  have l0:(ss.filter λ_=>false)=[]:=by simp
  rw[l0,kF]at cf;have ls:ss.length<=1000000:=by have:=gU ss;rw[T.size]at zt;omega
  simp! [zaF,kF,cut1,cf,ls,eqD,dep]
theorem zhx(s0 s3 s7 s8 s9 s10 s11 s6:Option Sl)(c:Int)(t:T)(gt:G32 ps t)(L:List T)(h:∀u∈L,G32 ps u):
  ∃s6',kR (gN 6) (zbI zP) (L.map T.d) [s0,some (.dat (.lst (ps.map sd))),some (.dat (.lst (R.map D.str))),s3,some (.dat (.int c)),some (.dat t.d),s6,s7,s8,s9,s10,s11]=some (.nx [s0,some (.dat (.lst (ps.map sd))),some (.dat (.lst (R.map D.str))),s3,some (.dat (.int c)),some (.dat t.d),s6',s7,s8,s9,s10,s11]):=by
 obtain⟨ρ',e,s9',rfl⟩:=wL (g:=gN 6) (b:=zbI zP) (xs:=L.map T.d) (ρ:=[s0,some (.dat (.lst (ps.map sd))),some (.dat (.lst (R.map D.str))),s3,some (.dat (.int c)),some (.dat t.d),s6,s7,s8,s9,s10,s11])
  (λ_ ρ=>∃s6',ρ=[s0,some (.dat (.lst (ps.map sd))),some (.dat (.lst (R.map D.str))),s3,some (.dat (.int c)),some (.dat t.d),s6',s7,s8,s9,s10,s11]) ⟨s6,rfl⟩ (by
   rintro i x ρ hx ⟨s6',rfl⟩;rw[List.getElem?_map]at hx;cases e:L[i]? with
   |none=>rw[e]at hx;cases hx
   |some u=>
    rw[e]at hx;cases hx
    have gu:=h u (List.mem_of_getElem? e);have g1:=zfZ k c gt gu;have g2:=zfZ k c gu gt;refine⟨[s0,some (.dat (.lst (ps.map sd))),some (.dat (.lst (R.map D.str))),s3,some (.dat (.int c)),some (.dat t.d),some (.dat u.d),s7,s8,s9,s10,s11],.inl ?_,_,rfl⟩
    simp! [g1,g2])
 exact⟨s9',e⟩
theorem ziO(s0 s1 s3 s4 s5 s6 s7 s8 s9 s10 s11:Option Sl)(L:List (T×T×T))(h:∀u∈L,G32 ps u.1/\G32 ps u.2.1/\G32 ps u.2.2):
  ∃s9' s10' s11',kR (qQ (zS (gN 9) (zS (gN 10) (zS (gN 11) qC)))) (zbH zP) (L.map λu=>.tup [u.1.d,u.2.1.d,u.2.2.d]) [s0,s1,some (.dat (.lst (R.map D.str))),s3,s4,s5,s6,s7,s8,s9,s10,s11]=some (.nx [s0,s1,some (.dat (.lst (R.map D.str))),s3,s4,s5,s6,s7,s8,s9',s10',s11']):=by
 obtain⟨ρ',e,s9',s10',s11',rfl⟩:=wL (g:=qQ (zS (gN 9) (zS (gN 10) (zS (gN 11) qC)))) (b:=zbH zP) (xs:=L.map λu=>.tup [u.1.d,u.2.1.d,u.2.2.d]) (ρ:=[s0,s1,some (.dat (.lst (R.map D.str))),s3,s4,s5,s6,s7,s8,s9,s10,s11])
  (λ_ ρ=>∃s9' s10' s11',ρ=[s0,s1,some (.dat (.lst (R.map D.str))),s3,s4,s5,s6,s7,s8,s9',s10',s11']) ⟨s9,s10,s11,rfl⟩ (by
   rintro i x ρ hx ⟨s9',s10',s11',rfl⟩;rw[List.getElem?_map]at hx;cases e:L[i]? with
   |none=>rw[e]at hx;cases hx
   |some u=>
    rw[e]at hx;cases hx
    obtain⟨g1,g2,g3⟩:=h u (List.mem_of_getElem? e);have z1:=g1.2;have z2:=g2.2;have z3:=g3.2;have a1:=wI k g1.1 g2.1 (by omega) (by omega);have a2:=wI k g2.1 g3.1 (by omega) (by omega);have a3:=wI k g1.1 g3.1 (by omega) (by omega);have tr:abB (λx=>R.idxOf x) u.1 u.2.1=true->abB (λx=>R.idxOf x) u.2.1 u.2.2=true->abB (λx=>R.idxOf x) u.1 u.2.2=true:=λh1 h2=>jK.mpr ((jK.mp h1).trans (jK.mp h2))
    refine⟨[s0,s1,some (.dat (.lst (R.map D.str))),s3,s4,s5,s6,s7,s8,some (.dat u.1.d),some (.dat u.2.1.d),some (.dat u.2.2.d)],.inl ?_,_,_,_,rfl⟩;generalize abB (λx=>R.idxOf x) u.1 u.2.1=b1 at*;generalize abB (λx=>R.idxOf x) u.2.1 u.2.2=b2 at*;generalize abB (λx=>R.idxOf x) u.1 u.2.2=b3 at*;cases b1 with
    |false=>simp! [a1]
    |true=>
     cases b2 with
     |false=>simp! [a1,a2]
     |true=>
      rw[tr rfl rfl]at a3
      simp! [a1,a2,a3])
 exact⟨s9',s10',s11',e⟩
end
theorem FACT32:∀ns:List Int,ns.length<=63->ziG ns->m_law32 [.scr ns]=some (.bl true):=by
 intro ns _ hL;obtain⟨w0,w1,w2,w3,d3,es,d0,d3',nd,wl⟩:=zif (cellOf ns 0);have S:zfu [(w0,0),(w1,1),(w2,2),(w3,d3)]:=by
  refine⟨by simp,by simp,?_,by simp,?_⟩
  ·intro p hp;simp only[List.mem_cons,List.not_mem_nil,or_false]at hp;rcases hp with rfl|rfl|rfl|rfl<;>simp<;>omega
  ·intro p hp;simp only[List.mem_cons,List.not_mem_nil,or_false]at hp;rcases hp with rfl|rfl|rfl|rfl
   ·have:=(wl w0 (by simp)).2;simp only;omega
   ·have:=(wl w1 (by simp)).2;simp only;omega
   ·have:=(wl w2 (by simp)).2;simp only;omega
   ·have:=(wl w3 (by simp)).2;simp only;omega
 obtain⟨R,eR,pR⟩:=zih (cellOf ns 1) [(w0,0),(w1,1),(w2,2),(w3,d3)] (by simp);have k:K32 [(w0,0),(w1,1),(w2,2),(w3,d3)] R w0 w1 w2:=by
  refine⟨by simp,by simp,by simp,rfl,rfl,rfl,?_,pR.nodup_iff.mpr (by simpa using nd),by rw[pR.length_eq];simp,λp hp=>pR.mem_iff.mpr (List.mem_map_of_mem hp)⟩;intro s k k' h1 h2;simp only[List.nodup_cons,List.mem_cons,List.not_mem_nil,or_false,not_or]at nd;simp only[List.mem_cons,List.not_mem_nil,or_false,Prod.mk.injEq]at h1 h2
  grind
 have c0:=zkq ns 0 (by omega);have c1':=zkq ns 1 (by omega);have one:=λc hc=>zlv c w0 w1 w2 w3 d3 S hc
 have s1:=k.a1;have s2:=k.a2;have m1:=k.m1;have m2:=k.m2;generalize hP:[(w0,(0:Int)),(w1,1),(w2,2),(w3,d3)]=ps at*;have ga:G32 ps (.nd w2 [.bl "A",.bl "B"]):=⟨.nd (by simpa using m2) (λu hu=>by simp only[List.mem_cons,List.not_mem_nil,or_false]at hu;rcases hu with rfl|rfl<;>exact .bl (by simp[ABX])),by simp[T.size,T.sizes]⟩
 have gb':G32 ps (.nd w1 [.bl "A"]):=⟨.nd (by simpa using m1) (λu hu=>by rw[List.mem_singleton.mp hu];exact .bl (by simp[ABX])),by simp[T.size,T.sizes]⟩;have gc:G32 ps (.bl "A"):=⟨.bl (by simp[ABX]),by simp[T.size]⟩;obtain⟨ρ',e,x,y,z,s4,s5,s6,s7,s8,s9,s10,s11,rfl,_⟩:=wL (g:=gN 4) (b:=zdm zP) (xs:=(yC ns (some 2) (some 26)).map D.int) (ρ:=[some (.dat (.scr ns)),some (.dat (.lst (ps.map sd))),some (.dat (.lst (R.map D.str))),some (.dat (.lst [(T.nd w2 [.bl "A",.bl "B"]).d,(T.nd w1 [.bl "A"]).d,(T.bl "A").d])),none,none,none,none,none,none,none,none])
  (λ_ ρ=>∃(x y z:T) (s4 s5 s6 s7 s8 s9 s10 s11:Option Sl),ρ=[some (.dat (.scr ns)),some (.dat (.lst (ps.map sd))),some (.dat (.lst (R.map D.str))),some (.dat (.lst [x.d,y.d,z.d])),s4,s5,s6,s7,s8,s9,s10,s11]/\G32 ps x/\G32 ps y/\G32 ps z) ⟨_,_,_,none,none,none,none,none,none,none,none,rfl,ga,gb',gc⟩ (by
   rintro i v ρ hx ⟨x,y,z,s4,s5,s6,s7,s8,s9,s10,s11,rfl,gx,gy,gz⟩;rw[List.getElem?_map]at hx;cases e:(yC ns (some 2) (some 26))[i]? with
   |none=>rw[e]at hx;cases hx
   |some c=>
    rw[e]at hx;cases hx
    obtain⟨t,et,wt,zt⟩:=one c (hL c (zlz (List.mem_of_getElem? e)));have gt:G32 ps t:=⟨wt,zt⟩;have ep:=zig k gt;have ea:=wI k gt.1 gt.1 (by omega) (by omega);have irr:abB (λx=>R.idxOf x) t t=false:=by rw[←Bool.not_eq_true,jK];exact zdX t
    rw[irr]at ea;obtain⟨s6',el⟩:=zhx k (some (.dat (.scr ns))) (some (.dat (.lst [x.d,y.d,z.d]))) s7 s8 s9 s10 s11 s6 c t gt [x,y,z] (by
     intro u hu;simp only[List.mem_cons,List.not_mem_nil,or_false]at hu;rcases hu with rfl|rfl|rfl
     ·exact gx
     ·exact gy
     ·exact gz)
    obtain⟨s9',s10',s11',et'⟩:=ziO k (some (.dat (.scr ns))) (some (.dat (.lst (ps.map sd)))) (some (.dat (.lst [x.d,y.d,z.d]))) (some (.dat (.int c))) (some (.dat t.d)) s6' (some (.dat y.d)) (some (.dat z.d)) s9 s10 s11 [(y,z,t),(t,y,z),(z,t,y),(y,t,z)] (by
     intro u hu;simp only[List.mem_cons,List.not_mem_nil,or_false]at hu;rcases hu with rfl|rfl|rfl|rfl
     ·exact⟨gy,gz,gt⟩
     ·exact⟨gt,gy,gz⟩
     ·exact⟨gz,gt,gy⟩
     ·exact⟨gy,gt,gz⟩)
    simp only[List.map_cons,List.map_nil]at el et';refine⟨[some (.dat (.scr ns)),some (.dat (.lst (ps.map sd))),some (.dat (.lst (R.map D.str))),some (.dat (.lst [y.d,z.d,t.d])),some (.dat (.int c)),some (.dat t.d),s6',some (.dat y.d),some (.dat z.d),s9',s10',s11'],.inl ?_,y,z,t,_,_,_,_,_,_,_,_,rfl,gy,gz,gt⟩;have cq:=cut1 x.d [y.d,z.d];generalize ps.map sd=PS at*
    simp! [et,ep,ea,el,et',cq,nL])
 simp only[kF,xG,List.map_cons,List.map_nil]at e;generalize ps.map sd=PS at*
 simp! [m_law32,c0,c1',es,eR,s1,s2,e]
abbrev pwk:Program:=PySem.Challenge.pw_endmeet_k32_whole_an_order
abbrev rwk:PySem.W.OpenLaw:=PySem.Challenge.rw_endmeet_k32_whole_an_order
def fnI:List Nat:=[1,2,3,5,6,7,8,10,11,12,13,14,15,16,17,18,19,20,21,22]
def qwk:Program:={pwk with main:={pwk.main with body:=[jO pwk 22]}}
def lzk:List Str:=pwk.main.body.dropLast.filterMap λst=>match st with
 | .FunctionDef n ..=>some n
 | .ClassDef n ..=>some n
 | .Assign [.Name n _] _ _=>if n=="__name__"then none else some n
 |_=>none
structure YZ(Z:ZZ):Prop where
 B:Glb Z.mg
 F:FNs pwk fnI Z
variable{Z:ZZ}
theorem zeg(Y:YZ Z):Fq Z "_law_signs" ["_law_cell_here"] .ow 1 zbn:=
 mkF Y.F 11 ["_law_cell_here","_law_letters","_law_number_here","_law_long","_law_at","_law_found","_law_k","_law_word","_law_j","_law_place"] λnd _ n _ _ _ _ _ _ hr=>zN (jU 1 nd xZ) (zN (jU 2 nd (fop vO (fb 0) bi)) (zN (jU 3 nd (fop vP bi (bop vO (fb 2) bi))) (zN (jU 4 nd (fop vO (bop gD (fb 2) bi) (fb 3))) (zN (wQ 5 nd (kE zF)) (zN (vX PassesOwn.never rfl (zdL kK rfl Y.B.range) (jI 6 nd) (zN (jU 7 nd xZ) (zN (vX PassesOwn.never rfl (zdL (fv 3) rfl Y.B.range) (jI 8 nd) (zN (jU 9 nd (fop vP (bop vP (bop gD (fb 2) (bop vP (fb 8) bi)) (bop zla (fb 8) (fb 8))) (bop zla (FP.br (zev zoF rfl Y.B.int PyProof.Rows.boot_int (wW (FP.br (fcq (peq hr) (fb 8) (fb 4))) zF))) (fb 6)))) (zU (jU 7 nd (fop vP (fb 7) (biz (fb 1) (bop vO (fb 9) bi))))))) (zU (nX (zcj 5 (qX (zB (fv 7) (zB (fiz (FP.ob (kE (zB kK (zB kK (zB kK (zB (fop vO (bop gD (fb 2) bi) bi) zF)))))) (fb 6)) zF))))))))) (zU (zlZ 5)))))))
theorem zei(Y:YZ Z):Fq Z "_law_order" ["_law_cell_here","_law_signs_here"] .fz 1 zbo:=
 mkF Y.F 17 ["_law_cell_here","_law_signs_here","_law_left","_law_found"] λnd _ n _ _ _ _ _ _ hr=>zN (zlW 2 ["_law_sign","_law_count"] [none,none] (.own (.own .nil)) rfl nd (vI (fv 1)) (λ_ _ _ _=>nK rfl (jZ (gnm 0) (jZ (gnm 1) wK)) (jX (jX wG))) (λ_ _ _ _=>gZ) λ_ _ _ _=>fv 0) (zN (wQ 3 nd (kE zF)) (zN (zjY n PassesOwn.never (FTp.up (tcq (pne hr) (fb 2) (FP.ob (kE zF)))) (zN (nX (ziJ 3 (zlJ 2 (fop vO (fb 0) (bln Y.B (fb 2)))))) (zU (jU 0 nd (fop gD (fb 0) (bop vP (bln Y.B (fb 2)) bi)))))) (zU (zma 3))))
theorem zco(Y:YZ Z):Fq Z "_law_cell" ["_law_script","_law_k"] .fz 1 zag:=
 mkF Y.F 10 ["_law_script","_law_k"] λnd _ n _ _ _ _ _ _ hr=>zN (sif (FTp.up (tcq p_lt (fb 1) (bln Y.B (fb 0)))) (zU (qL (fiz (fb 0) (fb 1)))) jV) (zU (qL kK))
theorem zeN(Y:YZ Z):Fq Z "_law_term" ["_law_number_here","_law_nest","_law_signs_here","_law_blanks_here"] .fz 100 zdJ:=
 recF Y.F 12 0 100 λ_ ih=>mkF Y.F 12 ["_law_number_here","_law_nest","_law_signs_here","_law_blanks_here","_law_many","_law_pick","_law_sign","_law_count","_law_parts_here","_law_k","_law_part"] λnd _ n _ _ _ _ _ _ hr=>zN (jU 4 nd (fop vP (bln Y.B (fb 2)) (bln Y.B (fb 3)))) (zN (jU 5 nd (fop vO (fb 0) (fb 4))) (zN (jU 0 nd (fop gD (fb 0) (fb 4))) (zN (sif (FTp.up (tcq p_lt (fb 5) (bln Y.B (fb 3)))) (zU (qL (FP.fz (kE (zB (fiz (fb 3) (fb 5)) (zB (fv 0) zF)))))) jV) (zN (sasg (fiz (fb 2) (bop zkY (fb 5) (bln Y.B (fb 3)))) (nK rfl (jZ (jI 6 nd) (jZ (jI 7 nd) wK)) (jX (jX wG)))) (zN (sif (FTp.up (FWp.pt (gR (tcq (peq hr) (fb 1) bi) (zgY (tcq p_gt (fb 7) bi))))) (zU (qL (FP.fz (kE (zB (qX (zB (fiz (biz (fb 2) bi) bi) zF)) (zB (fv 0) zF)))))) jV) (zN (wQ 8 nd (kE zF)) (zN (vX PassesOwn.never rfl (zdL (fv 7) rfl Y.B.range) (jI 9 nd) (zN (sasg (fk ih hr (zB (fv 0) (zB (fop zkY (fb 1) bi) (zB (fv 2) (zB (fv 3) zF))))) (glst rfl (jZ (jI 10 nd) (jZ (jI 0 nd) wK)) (jX (jX wG)))) (zU (nX (zcj 8 (fv 10)))))) (zU (qL (FP.fz (kE (zB (fop vP (FP.br (qX (zB (fv 6) zF))) (FP.br (zev zfn rfl Y.B.tuple PyProof.Rows.boot_tuple (wW (fb 8) zF)))) (zB (fv 0) zF)))))))))))))
theorem zeO(Y:YZ Z):Fq Z "_law_size" ["_law_term_here"] .fz 100 zcD:=
 recF Y.F 16 0 100 λ_ ih=>mkF Y.F 16 ["_law_term_here"] λnd _ n _ _ _ _ _ _ hr=>zN (sif (FTp.up (yW (fisi (fb 0) rfl Y.B.isi rfl Y.B.str PyProof.Rows.boot_str))) (zU (qL kK)) jV) (zU (qL (fop vP bi (FP.br (zew (zoD rfl) rfl Y.B.sum PyProof.Rows.boot_sum (wW (FP.ob (zgG ["_law_part"] [none] (.own .nil) rfl (vI (zcJ nZ (fb 0) (nA kK) zdj)) (λ_ _ _ _=>gnm 0) (λ_ _ _ _=>gZ) λ_ _ _ _=>fk ih hr (zB (fv 0) zF))) zF))))))
theorem zdF(Y:YZ Z):Fq Z "_law_number" ["_law_cell_here"] .fz 1 zas:=
 mkF Y.F 13 ["_law_cell_here"] λnd _ n _ _ _ _ _ _ hr=>zN (sif (FTp.up (tcq (peq hr) (bop vO (fb 0) bi) bi)) (zU (qL (fop vO (bop gD (fb 0) bi) (bop zmI bi bi)))) jV) (zU (qL (fop vO (bop zla (bop gD (fb 0) bi) bi) (bop zmI bi bi))))
theorem zgr(Y:YZ Z):Fq Z "_law_one" ["_law_cell_here","_law_signs_here"] .fz 101 zcC:=
 mkF Y.F 18 ["_law_cell_here","_law_signs_here","_law_found"] λnd _ n _ _ _ _ _ _ hr=>zN (jU 2 nd (fiz (FP.br (fk (zeN Y) hr (zB (fk (zdF Y) hr (zB (fv 0) zF)) (zB kK (zB (fv 1) (zB (FP.fz (kE (zB xZ (zB xZ (zB xZ zF))))) zF)))))) bi)) (zN (sif (FTp.up (tcq p_gt (FP.br (fk (zeO Y) hr (zB (fv 2) zF))) bi)) (zU (qL (qX (zB (fiz (biz (fb 1) bi) bi) (zB xZ zF))))) jV) (zU (qL (fv 2))))
theorem zaN(Y:YZ Z):Fq Z "is_blank" ["term"] .fz 1 qW:=
 mkF Y.F 1 ["term"] λnd _ n _ _ _ _ _ _ hr=>zU (qL (fisi (fb 0) rfl Y.B.isi rfl Y.B.str PyProof.Rows.boot_str))
theorem zae(Y:YZ Z):Fq Z "inner_parts" ["term"] .fz 2 jH:=
 mkF Y.F 2 ["term"] λnd _ n _ _ _ _ _ _ hr=>zN (sif (FTp.up (yW (fk (zaN Y) hr (zB (fv 0) zF)))) (zU (qL (qX zF))) jV) (zU (qL (zcJ nZ (fb 0) (nA kK) zdj)))
theorem zcW(Y:YZ Z):Fq Z "placed_parts" ["term"] .fz 3 zah:=
 mkF Y.F 3 ["term","found","waiting","place","part","inner"] λnd _ n _ _ _ _ _ _ hr=>zN (wQ 1 nd (kE zF)) (zN (wQ 2 nd (kE (zB (qX (zB (qX zF) (zB (fv 0) zF))) zF))) (zN (zjY n PassesOwn.never (FTp.up (gA (fb 2))) (zN (znW (xpop 2) (nK rfl (jZ (jI 3 nd) (jZ (jI 4 nd) wK)) (jX (jX wG)))) (zN (nX (zcj 1 (qX (zB (fv 3) (zB (fv 4) zF))))) (zN (zlY 5 ["at","held","place"] [none,none,some 3] (.own (.own (.cap .nil))) rfl nd (znn (fk (zae Y) hr (zB (fv 4) zF)) rfl Y.B.enum) (λ_ _ _ _=>nK rfl (jZ (gnm 0) (jZ (gnm 1) wK)) (jX (jX wG))) (λ_ _ _ _=>gZ) λ_ _ _ _=>qX (zB (fop vP (fb 2) (FP.br (qX (zB (fv 0) zF)))) (zB (fv 1) zF))) (zU (nX (zkx 2 (FP.fz (frev (fb 5) (fneg kK)))))))))) (zU (zma 1))))
theorem ziX(Y:YZ Z):FqB Z "row_of" ["part","place","numbers"] [false,false,true] 2 zaP:=
 mkB Y.F 5 ["part","place","numbers"] λnd _ n _ _ _ _ _ _ hr=>zN (sif (FTp.up (yW (fk (zaN Y) hr (zB (fv 0) zF)))) (zU (qL (fv 0))) jV) (zU (qL (fop vP (FP.br (qX (zB (fiz (fb 0) bi) zF))) (FP.br (zev zfn rfl Y.B.tuple PyProof.Rows.boot_tuple (wW (FP.ob (zgG ["at","numbers","place"] [none,some 2,some 1] (.own (.cap (.cap .nil))) rfl (zdL (fop zkY (bln Y.B (fb 0)) bi) rfl Y.B.range) (λ_ _ _ _=>gnm 0) (λ_ _ _ _=>gZ) λ_ _ _ _=>fixG (vG hr) (fb 1) (fop vP (fb 2) (FP.br (qX (zB (fv 0) zF)))) λ_ _=>rfl)) zF))))))
theorem zgq(Y:YZ Z):Fq Z "numbered" ["terms"] .fz 4 zaQ:=
 mkF Y.F 6 ["terms","rows","held","term","numbers","place","part"] λnd _ n _ _ _ _ _ _ hr=>zN (wQ 1 nd zlu) (zN (wQ 2 nd (kE zF)) (zN (vX PassesOwn.never rfl (vI (fv 0)) (jI 3 nd) (zN (wQ 4 nd zlu) (zN (vX PassesOwn.never rfl (irev (fk (zcW Y) hr (zB (fv 3) zF)) rfl Y.B.reversed) (nK rfl (jZ (jI 5 nd) (jZ (jI 6 nd) wK)) (jX (jX wG))) (zU (zka 4 (vG hr) (ziI 1 (vG hr) (fkB (ziX Y) hr (zgv (fv 6) (zgv (fv 5) (zmV (fb 4) mnil)))) (zew znE rfl Y.B.len PySem.boot_len (wW (fb 1) zF))) (fv 5)))) (zU (sfrz 4 (nX (zcj 2 (FP.fz (zns Y.B.sorted ["place","numbers"] [none,some 4] (.own (.cap .nil)) rfl (znm (fv 4)) (λ_ _ _ _=>gnm 0) λ_ _ _ _=>fixG (vG hr) (fb 1) (fv 0) λ_ _=>rfl))))))))) (zU (sfrz 2 (qL (qX (zB (FP.fz (zev (zlD rfl) rfl Y.B.list PyProof.Rows.boot_list (wW (fb 1) zF))) (zB (fv 2) zF))))))))
theorem zeM(Y:YZ Z):FqB Z "row_above" ["levels","rows","told","one","other"] [false,false,true,false,false] 3 wF:=
 mkB Y.F 7 ["levels","rows","told","one","other","unlike"] λnd _ n _ _ _ _ _ _ hr=>zN (sif (FTp.up (yW (fk (zaN Y) hr (zB (fiz (fb 1) (fb 3)) zF)))) (zU (qL fbl)) jV) (zN (sif (FTp.up (gA (FP.br (zew (zoG rfl) rfl Y.B.any PyProof.Rows.boot_any (wW (FP.ob (zgG ["inner","other","told"] [none,some 4,some 2] (.own (.cap (.cap .nil))) rfl (vI (fk (zae Y) hr (zB (fiz (fb 1) (fb 3)) zF))) (λ_ _ _ _=>gnm 0) (λ_ _ _ _=>gZ) λ_ _ _ _=>vor (fcq (peq hr) (fb 0) (fb 1)) (vone (fixG (vG hr) (fb 2) (qX (zB (fv 0) (zB (fv 1) zF))) λ_ _=>rfl)))) zF))))) (zU (qL fbl)) jV) (zN (sif (FTp.up (FWp.pt (tor (yW (fk (zaN Y) hr (zB (fiz (fb 1) (fb 4)) zF))) (tor1 (gB (gA (FP.br (zew (zoH rfl) rfl Y.B.all PyProof.Rows.boot_all (wW (FP.ob (zgG ["inner","told","one"] [none,some 2,some 3] (.own (.cap (.cap .nil))) rfl (vI (fk (zae Y) hr (zB (fiz (fb 1) (fb 4)) zF))) (λ_ _ _ _=>gnm 0) (λ_ _ _ _=>gZ) λ_ _ _ _=>fixG (vG hr) (fb 1) (qX (zB (fv 2) (zB (fv 0) zF))) λ_ _=>rfl)) zF))))))))) (zU (qL fbl)) jV) (zN (sif (FTp.up (tcq (pne hr) (biz (biz (fb 1) (fb 3)) bi) (biz (biz (fb 1) (fb 4)) bi))) (zU (qL (fcq p_gt (FP.br (fixK (vG hr) (fb 0) (fiz (biz (fb 1) (fb 3)) bi) λ_ _=>rfl)) (FP.br (fixK (vG hr) (fb 0) (fiz (biz (fb 1) (fb 4)) bi) λ_ _=>rfl))))) jV) (zN (zlY 5 ["pair"] [none] (.own .nil) rfl nd (izip (fk (zae Y) hr (zB (fiz (fb 1) (fb 3)) zF)) (fk (zae Y) hr (zB (fiz (fb 1) (fb 4)) zF)) rfl Y.B.zip) (λ_ _ _ _=>gnm 0) (λ_ _ _ _=>pif1 (tcq (pne hr) (biz (fb 0) bi) (biz (fb 0) bi))) λ_ _ _ _=>fv 0) (zU (qL (vand (fcq p_gt (bln Y.B (fb 5)) bi) (vone (fixG (vG hr) (fb 2) (fiz (fb 5) bi) λ_ _=>rfl)))))))))
theorem wD(Y:YZ Z):Fq Z "above" ["rank","one","other"] .fz 5 xV:=
 mkF Y.F 8 ["rank","one","other","levels","rows","held","ones","others","told","first","second"] λnd _ n _ _ _ _ _ _ hr=>zN (zlX 3 ["level","sign"] [none,none] (.own (.own .nil)) rfl nd (zno (fv 0) rfl Y.B.enum) (λ_ _ _ _=>nK rfl (jZ (gnm 0) (jZ (gnm 1) wK)) (jX (jX wG))) (λ_ _ _ _=>gZ) (λ_ _ _ _=>fv 1) λ_ _ _ _=>fv 0) (zN (sasg (fk (zgq Y) hr (zB (FP.fz (kE (zB (fv 1) (zB (fv 2) zF)))) zF)) (nK rfl (jZ (jI 4 nd) (jZ (jI 5 nd) wK)) (jX (jX wG)))) (zN (sasg (fv 5) (glst rfl (jZ (jI 6 nd) (jZ (jI 7 nd) wK)) (jX (jX wG)))) (zN (wQ 8 nd zlu) (zN (sfrz 3 (vX PassesOwn.never rfl (vI (fv 6)) (jI 9 nd) (zU (vX PassesOwn.never rfl (vI (fv 7)) (jI 10 nd) (zU (zka 8 (vG hr) (xup (fkB (zeM Y) hr (zgv (fv 3) (zgv (fv 4) (zmV (fb 8) (zgv (fv 9) (zgv (fv 10) mnil))))))) (qX (zB (fv 9) (zB (fv 10) zF))))))))) (zU (qL (fixG (vG hr) (fb 8) (qX (zB (fiz (fb 6) (FP.br (fneg kK))) (zB (fiz (fb 7) (FP.br (fneg kK))) zF))) λ_ _=>rfl)))))))
theorem zeh(Y:YZ Z):Fq Z "_law_parts" ["_law_rank","_law_term_here"] .fz 6 zaF:=
 mkF Y.F 21 ["_law_rank","_law_term_here"] λnd _ n _ _ _ _ _ _ hr=>zN (sif (FTp.up (yW (fisi (fb 1) rfl Y.B.isi rfl Y.B.str PyProof.Rows.boot_str))) (zU (qL (vnot (fk (wD Y) hr (zB (fv 0) (zB (fv 1) (zB (fv 1) zF))))))) jV) (zU (qL (fcq (peq hr) (bln Y.B (FP.ob (zgG ["_law_part","_law_rank","_law_term_here"] [none,some 0,some 1] (.own (.cap (.cap .nil))) rfl (vI (zcJ nZ (fb 1) (nA kK) zdj)) (λ_ _ _ _=>gnm 0) (λ_ _ _ _=>pif1 (gB (yW (fk (wD Y) hr (zB (fv 1) (zB (fv 2) (zB (fv 0) zF))))))) λ_ _ _ _=>fv 0))) bi)))
theorem zbj(Y:YZ Z):Fq Z "_law_filled" ["_law_term_here","_law_filling"] .fz 100 zat:=
 recF Y.F 15 0 100 λ_ ih=>mkF Y.F 15 ["_law_term_here","_law_filling"] λnd _ n _ _ _ _ _ _ hr=>zN (sif (FTp.up (yW (fisi (fb 0) rfl Y.B.isi rfl Y.B.str PyProof.Rows.boot_str))) (zU (qL (fget (vG hr) (fb 1) (fv 0) (fv 0)))) jV) (zU (qL (fop vP (FP.br (qX (zB (fiz (fb 0) bi) zF))) (FP.br (zev zfn rfl Y.B.tuple PyProof.Rows.boot_tuple (wW (FP.ob (zgG ["_law_part","_law_filling"] [none,some 1] (.own (.cap .nil)) rfl (vI (zcJ nZ (fb 0) (nA kK) zdj)) (λ_ _ _ _=>gnm 0) (λ_ _ _ _=>gZ) λ_ _ _ _=>fk ih hr (zB (fv 0) (zB (fv 1) zF)))) zF))))))
theorem zeP(Y:YZ Z):Fq Z "_law_kept" ["_law_rank","_law_one_here","_law_other","_law_signs_here","_law_cell_here"] .fz 101 zaR:=
 mkF Y.F 19 ["_law_rank","_law_one_here","_law_other","_law_signs_here","_law_cell_here","_law_filling","_law_sign","_law_rest"] λnd _ n _ _ _ _ _ _ hr=>zN (jU 5 nd (FP.fz (znw xZ (qX (zB (fiz (biz (fb 3) bi) bi) (zB xZ zF))) xZ (fiz (FP.ob (kE (zB (qX (zB (fiz (biz (fb 3) bi) bi) zF)) (zB xZ zF)))) (bop vO (fb 4) bi))))) (zN (sif (FTp.up (gB (yW (fk (wD Y) hr (zB (fv 0) (zB (fk (zbj Y) hr (zB (fv 1) (zB (fv 5) zF))) (zB (fk (zbj Y) hr (zB (fv 2) (zB (fv 5) zF))) zF))))))) (zU (qL fbl)) jV) (zN (jU 6 nd (fiz (biz (fb 3) bi) bi)) (zN (jU 7 nd (fiz (FP.ob (kE (zB (qX (zB (fiz (biz (fb 3) bi) bi) zF)) (zB xZ zF)))) (bop vO (bop gD (fb 4) bi) bi))) (zN (sif (FTp.up (tcq (peq hr) (bop vO (bop gD (fb 4) bi) bi) bi)) (zU (qL (fk (wD Y) hr (zB (fv 0) (zB (qX (zB (fv 6) (zB (fv 1) (zB (fv 7) zF)))) (zB (qX (zB (fv 6) (zB (fv 2) (zB (fv 7) zF)))) zF)))))) jV) (zU (qL (fk (wD Y) hr (zB (fv 0) (zB (qX (zB (fv 6) (zB (fv 7) (zB (fv 1) zF)))) (zB (qX (zB (fv 6) (zB (fv 7) (zB (fv 2) zF)))) zF))))))))))
theorem zbk(Y:YZ Z):Fq Z "_law_blanks" ["_law_term_here"] .ow 100 zau:=
 recF Y.F 14 0 100 λ_ ih=>mkF Y.F 14 ["_law_term_here","_law_found","_law_part","_law_blank"] λnd _ n _ _ _ _ _ _ hr=>zN (sif (FTp.up (yW (fisi (fb 0) rfl Y.B.isi rfl Y.B.str PyProof.Rows.boot_str))) (zU (znV (kE (zB (fv 0) zF)))) jV) (zN (wQ 1 nd (kE zF)) (zN (vX PassesOwn.never rfl (vI (zcJ nZ (fb 0) (nA kK) zdj)) (jI 2 nd) (zU (vX PassesOwn.never rfl (vI (FP.fz (fk ih hr (zB (fv 2) zF)))) (jI 3 nd) (zU (sif (FTp.up (tcf (pnin hr) (fv 3) (fb 1))) (zU (nX (zcj 1 (fv 3)))) jV))))) (zU (zlZ 1))))
theorem zcn(Y:YZ Z):Fq Z "_law_pair" ["_law_rank","_law_one_here","_law_other","_law_signs_here","_law_cell_here"] .fz 102 wT:=
 mkF Y.F 20 ["_law_rank","_law_one_here","_law_other","_law_signs_here","_law_cell_here","_law_here","_law_there","_law_ground"] λnd _ n _ _ _ _ _ _ hr=>zN (jU 5 nd (fk (wD Y) hr (zB (fv 0) (zB (fv 1) (zB (fv 2) zF))))) (zN (jU 6 nd (fk (wD Y) hr (zB (fv 0) (zB (fv 2) (zB (fv 1) zF))))) (zN (sif (FTp.up (FWp.pt (tor (FWp.pt (gR (gA (fb 5)) (zgY (gA (fb 6))))) (tor1 (FWp.pt (gR (tcq (peq hr) (fb 1) (fb 2)) (zgY (gA (fb 5))))))))) (zU (qL fbl)) jV) (zN (jU 7 nd (vand (fcq (peq hr) (FP.ob (fk (zbk Y) hr (zB (fv 1) zF))) (FP.ob (kE zF))) (vone (fcq (peq hr) (FP.ob (fk (zbk Y) hr (zB (fv 2) zF))) (FP.ob (kE zF)))))) (zN (sif (FTp.up (FWp.pt (gR (gA (fb 7)) (gR (tcq (pne hr) (fb 1) (fb 2)) (gR (gB (gA (fb 5))) (zgY (gB (gA (fb 6))))))))) (zU (qL fbl)) jV) (zU (qL (vor (vnot (fv 5)) (vone (fk (zeP Y) hr (zB (fv 0) (zB (fv 1) (zB (fv 2) (zB (fv 3) (zB (fv 4) zF))))))))))))))
theorem zog(Y:YZ Z){f:Addr}{fd:FuncData}(Fn:Fun Z.K "law" "law" (jO pwk 22) f fd):yG Z.P Z.w Z.K Z.mg Z.base CX0 103 f fd ["_law_script"] (SpD Z.K .fz m_law32):=
 have S:nQ ["_law_script","_law_signs_here","_law_rank","_law_last","_law_cell_here","_law_term_here","_law_other","_law_one_here","_law_two","_law_left","_law_amid","_law_right"] ["_law_script"] (kT (jO pwk 22)):=⟨rfl,rfl,rfl,by decide+kernel,rfl,by decide+kernel,by decide+kernel⟩;have nd:=S.nd
 znu Fn S (mb:=zfP) (λn _ _ _ _ _ _ hr=>zN (jU 1 nd (FP.fz (fk (zeg Y) hr (zB (fk (zco Y) hr (zB (fv 0) (zB kK zF))) zF)))) (zN (jU 2 nd (fk (zei Y) hr (zB (fk (zco Y) hr (zB (fv 0) (zB kK zF))) (zB (fv 1) zF)))) (zN (jU 3 nd (FP.fz (kE (zB (qX (zB (fiz (biz (fb 1) bi) bi) (zB xZ (zB xZ zF)))) (zB (qX (zB (fiz (biz (fb 1) bi) bi) (zB xZ zF))) (zB xZ zF)))))) (zN (vX PassesOwn.never rfl (vI (zcJ nZ (fb 0) (nA kK) (nA kK))) (jI 4 nd) (zN (jU 5 nd (fk (zgr Y) hr (zB (fv 4) (zB (fv 1) zF)))) (zN (sif (FTp.up (FWp.pt (tor (gB (yW (fk (zeh Y) hr (zB (fv 2) (zB (fv 5) zF))))) (tor1 (yW (fk (wD Y) hr (zB (fv 2) (zB (fv 5) (zB (fv 5) zF))))))))) (zU (qL fbl)) jV) (zN (vX PassesOwn.never rfl (vI (fv 3)) (jI 6 nd) (zU (sif (FTp.up (FWp.pt (tor (gB (yW (fk (zcn Y) hr (zB (fv 2) (zB (fv 5) (zB (fv 6) (zB (fv 1) (zB (fv 4) zF)))))))) (tor1 (gB (yW (fk (zcn Y) hr (zB (fv 2) (zB (fv 6) (zB (fv 5) (zB (fv 1) (zB (fv 4) zF)))))))))))) (zU (qL fbl)) jV))) (zN (sasg (zcJ nZ (fb 3) (nA kK) zdj) (glst rfl (jZ (jI 7 nd) (jZ (jI 8 nd) wK)) (jX (jX wG)))) (zN (vX PassesOwn.never rfl (vI (FP.fz (kE (zB (qX (zB (fv 7) (zB (fv 8) (zB (fv 5) zF)))) (zB (qX (zB (fv 5) (zB (fv 7) (zB (fv 8) zF)))) (zB (qX (zB (fv 8) (zB (fv 5) (zB (fv 7) zF)))) (zB (qX (zB (fv 7) (zB (fv 5) (zB (fv 8) zF)))) zF))))))) (nK rfl (jZ (jI 9 nd) (jZ (jI 10 nd) (jZ (jI 11 nd) wK))) (jX (jX (jX wG)))) (zU (sif (FTp.up (FWp.pt (gR (yW (fk (wD Y) hr (zB (fv 2) (zB (fv 9) (zB (fv 10) zF))))) (gR (yW (fk (wD Y) hr (zB (fv 2) (zB (fv 10) (zB (fv 11) zF))))) (zgY (gB (yW (fk (wD Y) hr (zB (fv 2) (zB (fv 9) (zB (fv 11) zF))))))))))) (zU (qL fbl)) jV))) (zU (jU 3 nd (FP.fz (kE (zB (fv 7) (zB (fv 8) (zB (fv 5) zF))))))))))))) (zU (qL fbl)))))) zhi
theorem all_mk{l:PySem.W.OpenLaw}{w:World}{K:Fg}{h:Heap}{mg:SV}{fa:Addr}(X:K.In h)(G:h.Ns mainGlobals mg)(hfa:mg "law"=some (.ref fa))(A:faV pwk fnI K=faX pwk fnI):∃fd:FuncData,(∀(s:Shared) (v:Value),BindsTo s fd ⟨[v],[]⟩ [("_law_script",v)])/\∀base:Heap,K.In base->base.Ns mainGlobals mg->yG l.prog w K mg base CX0 103 fa fd ["_law_script"] (SpD K .fz m_law32):=by
 obtain⟨f,fd,a,F⟩:=zny A 22 (by decide) (n:="law") rfl;cases hfa.symm.trans (PySem.W.mg_of X G a)
 refine⟨fd,?_,λbase _ _=>zog (Z:=⟨l.prog,w,K,mg,base⟩) ⟨znx A X G,znt A X G⟩ F⟩
 ·obtain⟨oc,od,kV,doc,pm,an,cdv,ct,osl,rfl,lk,cd⟩:=F.ex;exact λs v=>.of_eq rfl
open PySem.W
theorem bigk:∀w:World,(λos:OsState=>(HD.bal (Fast.tw10156331382660048174 (Fast.tw11892475500146522536 Fast.tw14364793385576792824) pwk w) (Fast.tw6613529449190102663 11 (some (.ref 6))) 12 (HD.bootS w os) (topStub pwk)).map (HD.looks pwk qwk lzk (λs=>recOk rwk.row.toRowW.records s) (λs=>faV pwk fnI (zjT s.heap)) Fast.tw4187177175401517315 Fast.tw5923862056798008813 w))=λ_=>some (true,true,openGood qwk lzk,faX pwk fnI):=by
 intro w
 kernel_rfl
theorem saidk:rwk.wellSaid=true:=by kernel_rfl
theorem leftk:LeftO pwk qwk lzk (λs=>recOk rwk.row.toRowW.records s) (λs=>faV pwk fnI (zjT s.heap)) (λ_=>faX pwk fnI) 4796:=by refine HD.left_of (d:=12) (by kernel_rfl) (by decide) (by decide) (λs=>by kernel_rfl) ?_;rw[Fast.te10156331382660048174,Fast.te11892475500146522536,Fast.te14364793385576792824,Fast.te6613529449190102663,Fast.te4187177175401517315,Fast.te5923862056798008813];exact bigk
end FL
end
end
open PySem PySem.W PyProof.Rows
set_option maxRecDepth 100000 in
set_option maxHeartbeats 0 in
theorem PySem.Challenge.cw_endmeet_k32_whole_an_order_holds : PySem.Challenge.rw_endmeet_k32_whole_an_order.Holds := by
  refine holds_law FL.saidk fun said => ?_
  refine holds_open (q := FL.qwk) (loose := FL.lzk) (XP := fun _ _ => True) (YP := FL.YP FL.pwk FL.fnI) FL.leftk (fun w s e => ⟨_, FL.allIn_in s.heap, e⟩) FL.YP.keeps (fun _ _ => trivial) (fun _ _ _ _ _ => trivial) (by rfl) (by rfl) (by rfl) (fun s e => recFacts_of e) (by rfl) said (by decide +kernel) ⟨rfl, rfl, rfl, rfl, rfl, by decide +kernel⟩ ?hw ?hc
  case hw => w_witness2
  case hc =>
    refine FL.walkEB (l := PySem.Challenge.rw_endmeet_k32_whole_an_order) (k := 103) (x := "_law_script") (m := FL.m_law32) rfl rfl ⟨rfl, by decide, by decide, rfl⟩ ?F FL.FACT32
    intro K w mg fa h A KX G hmg
    exact FL.all_mk KX G hmg A
