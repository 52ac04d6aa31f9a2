import PyProof.Rows.All
import Wide.All
import OpenK.AllK
import Wide.FinOn
import PyProof.Rows.SortStr
import Lean
import PyProof.EqAt
import PyProof.EqKinds
import PyProof.TupleCall
import PyProof.NeKinds
import PyProof.ZipIter
import PyProof.Draws
import KE.KRevIter
import PyProof.ListNew
import KE.KEqDict
import PyProof.EnumMake
import PyProof.StrWalks
import KE.KDictLaws
import PyProof.DictItemsLoops
import PyProof.DictWalks
import PyProof.DictCompW
import PyProof.ListMulAny
import PyProof.FactsAll.tuple_2
import PyProof.ConsumeWalk
import PyProof.ReprRoads
import PyProof.ExcInit
import PyProof.ExcBaseAll.ValueError
import PyProof.InstStoreFacts
import PyProof.RulesAs
import PyProof.NsDelKeeps
import PyProof.ExcAttrAll.ValueError
import PyProof.ListStr
import PyProof.Rows.SetFrom
import PyProof.MinMaxWalk
import PyProof.StrLawsIn
import KE.IntBitsLaws
import PySem.Challenge.RW_endmeet_k34_steps_go_down
section
set_option hygiene false in
local macro_rules|`(tactic|lia)=>`(tactic|first|exact Nat.le_add_left_of_le ‹_›|exact Nat.le_trans ‹_› ‹_›|exact Nat.sub_lt_sub_left ‹_› (Nat.lt_add_one _)|exact Nat.le_trans (Nat.le_of_lt ‹_›) ‹_›|exact Nat.le_succ_of_le ‹_›|exact Nat.add_right_comm _ _ _|exact (Int.toNat_of_nonneg ‹_›).symm|exact Nat.le_trans ‹_› (by simp;first|done|fail)|exact Nat.lt_of_le_of_lt ‹_› (by simp;first|done|fail)|lia -trace|omega)
set_option Elab.async false
set_option linter.all false
set_option compiler.extract_closed false
set_option bootstrap.genMatcherCode false
set_option backward.eqns.nonrecursive false
set_option maxRecDepth 100000
set_option maxHeartbeats 0
open PySem PySem.Spec PyProof.Rows
noncomputable section
set_option hygiene false
local macro_rules
|`(Y0 0)=>`(qQ X N scope (qC X.env scope.names []) C s0 H0 fp)
|`(Y0 1)=>`(model X.prog X.w)
|`(Y0 2)=>`((x==("__debug__":Str))=false)
|`(Y0 3)=>`(.ref s.heap.objs.size)
|`(Y0 4)=>`((x==("__classdict__":Str))=false)
|`(Y0 5)=>`(λx=>R.idxOf x)
|`(Y0 6)=>`(rs.flatMap λr=>[r.1,r.2])
|`(Y0 7)=>`(X.fn x=true\/X.env.scope.names.lookup x=some .local)
set_option hygiene true
theorem Z0(_:True:=by rfl):True:=⟨⟩
theorem Z1(_:True:=by decide):True:=⟨⟩
theorem Z2(_:True:=by intro _;rfl):True:=⟨⟩
theorem Z3(_:True:=by first|exact Or.inl rfl|exact Or.inr rfl|exact Or.inr (Or.inl rfl)|exact Or.inr (Or.inr rfl)|assumption):True:=⟨⟩
set_option hygiene false in
local macro_rules|`(B0 $x)=>`(autoParam $x Z0._auto_1)|`(C0 $x)=>`(autoParam $x Z1._auto_1)|`(G0 $x)=>`(autoParam $x Z2._auto_1)|`(K0 $x)=>`(autoParam $x Z3._auto_1)
def cv:Nat->Lean.Term->Lean.MacroM (Lean.TSyntax `rcasesPat)
 |0,_=>Lean.Macro.throwUnsupported
 |n+1,t=>do match t with
  |`(⟨$xs,*⟩)=>do
   let y←xs.getElems.mapM (cv n)
   `(rcasesPat|⟨$[$y:rcasesPat],*⟩)
  |`($x:ident)=>`(rcasesPat|$x:ident)
  |`(_)=>`(rcasesPat|_)
  |_=>Lean.Macro.throwUnsupported
set_option hygiene false in
local macro_rules|`(tactic|let $p:term:=$e:term)=>do
  let q←cv 9 p
  `(tactic|obtain $q:rcasesPat:=$e)
local macro_rules|`(U $x)=>`(List $x)
abbrev Ja:=@PySem.wpAny_pure
abbrev Jb:=@PySem.Heap.lt_size
abbrev Jc:=@List.length_map
abbrev Jd:=@List.map_cons
abbrev Jf:=@Nat.le_refl
abbrev Ji:=@List.mem_cons_of_mem
abbrev Jj:=@List.mem_append_right
abbrev Jk:=@PySem.wpAny_holding
abbrev Jl:=@List.take_succ_eq_append_getElem
abbrev Jm:=@List.size_toArray
abbrev Jn:=@Nat.lt_of_lt_of_le
abbrev Jo:=@Nat.ne_of_lt
abbrev Jp:=@Nat.le_trans
abbrev Jq:=@List.map_map
abbrev Jr:=@List.map_append
abbrev Jt:=@List.length_append
abbrev Ju:=@PySem.wpAny_call_entry
abbrev Jx:=@List.append_assoc
abbrev Jy:=@List.drop_eq_getElem_cons
abbrev Jz:=@Nat.zero_le
abbrev JA:=@List.length_cons
abbrev JB:=@Array.length_toList
abbrev JC:=@List.cons_append
abbrev JD:=@List.map_congr_left
abbrev JE:=@PySem.wpAny_newObj_type
abbrev JG:=@Bool.false_eq_true
abbrev JH:=@PySem.wpAny_rule
abbrev JI:=@Option.bind_some
abbrev JJ:=@List.mem_cons
abbrev JK:=@PyProof.Rows.callWith_type1
abbrev JL:=@List.append_nil
abbrev JM:=@Int.emod_nonneg
abbrev JO:=@Int.toNat_natCast
abbrev JP:=@List.mem_append_left
abbrev JQ:=@PySem.wpAny_mono
abbrev JT:=@congrArg
abbrev JV:=@Option.some.injEq
abbrev JW:=@Nat.lt_irrefl
abbrev JX:=@List.mem_cons_self
abbrev JY:=@PySem.wpAny_field
abbrev JZ:=@List.not_mem_nil
abbrev Qa:=@PySem.Heap.SameBut.update
abbrev Qb:=@PySem.wpAny_seqItems
abbrev Qc:=@PyProof.Rows.boot_str
abbrev Qd:=@PySem.W.kia_one
abbrev Qe:=@List.mem_append
abbrev Qh:=@List.getElem_mem
abbrev Qi:=@Nat.le_of_lt
abbrev Qj:=@PySem.wpAny_setState_of
abbrev Qk:=@PySem.F.plain_extend_loop
abbrev Ql:=@List.take_append_drop
abbrev Qm:=@Nat.lt_of_le_of_lt
abbrev Qn:=@PySem.Calls.spliced_cons
abbrev Qo:=@List.zip_cons_cons
abbrev Qp:=@Int.emod_lt_of_pos
abbrev Qq:=@if_true
abbrev Qr:=@PySem.F.plainAttrs_list
abbrev Qs:=@if_false
abbrev Qt:=@of_decide_eq_true
abbrev Qu:=@PySem.mem_of_lookup
abbrev Qv:=@Nat.ne_of_gt
abbrev Qw:=@Nat.zero_add
abbrev Qx:=@List.map_nil
abbrev Qy:=@PySem.wpAny_standAt
abbrev Qz:=@PySem.F.slot_tuple_iterator_next
abbrev QA:=@List.drop_length
abbrev QB:=@Bool.and_eq_true
abbrev QC:=@List.take_length
abbrev QD:=@Bool.false_ne_true
abbrev QE:=@List.length_singleton
abbrev QF:=@PyProof.Rows.slot_tuple_getitem
abbrev QG:=@List.eraseIdx_eq_take_drop_succ
abbrev QH:=@PySem.wpAny_dictEpoch
abbrev QI:=@List.idxOf_cons
abbrev QJ:=@PySem.wpAny_truthy_bool
abbrev QK:=@List.flatMap_cons
abbrev QL:=@List.eq_nil_of_length_eq_zero
abbrev QM:=@List.filterMap_cons
abbrev QN:=@List.length_take
abbrev QO:=@List.lookup_cons
abbrev QP:=@PySem.F.slot_dict_setdefault
abbrev QQ:=@List.take_of_length_le
abbrev QR:=@PySem.sizeLine_eq
abbrev QT:=@PySem.Calls.callWith_builtin
abbrev QU:=@PySem.wpAny_Call_Name_kw
abbrev QV:=@PySem.wpAny_passesOwn
abbrev QW:=@List.of_mem_zip
abbrev QX:=@List.length_nil
abbrev QY:=@List.reverse_cons
abbrev QZ:=@PySem.wpAny_dictEntries
abbrev Wa:=@List.mem_of_mem_take
abbrev Wb:=@PySem.AutoSeq1.wpAny_loadPart'
abbrev Wc:=@Nat.le_add_right
abbrev Wd:=@PySem.wpAny_askSetting
abbrev We:=@List.take_succ_cons
abbrev Wf:=@List.length_reverse
abbrev Wh:=@PyProof.Rows.boot_tuple
abbrev Wi:=@Bool.not_true
abbrev Wk:=@PySem.wpAny_pyIter_tuple
abbrev Wl:=@PySem.codeAny_builtin
abbrev Wm:=@PySem.wpAny_ite_split
abbrev Wn:=@Bool.eq_iff_iff
abbrev Wo:=@beq_false_of_ne
abbrev Wp:=@List.getElem_idxOf
abbrev Wq:=@or_false
abbrev Wr:=@PySem.wpAny_typeNameOfWhole_keyiter
abbrev Ws:=@PySem.wpAny_pyIter_list
abbrev Wt:=@PySem.Calls.spliced_nil
abbrev Wu:=@Int.ofNat_zero_le
abbrev Ww:=@PySem.Heap.size_push
abbrev Wx:=@PySem.F.slot_zip_next
abbrev Wy:=@Array.getElem_toList
abbrev Wz:=@PySem.Calls.evalArgs_plain
abbrev WA:=@PySem.Around.under_plainId
abbrev WB:=@PySem.Obj.data_mapDictKeys
abbrev WD:=@List.sum_cons
abbrev WE:=@List.any_cons
abbrev WG:=@List.map_take
abbrev WH:=@PySem.plainId_quiet
abbrev Je:=@List.mem_singleton
abbrev Jg:=@Option.bind_eq_some_iff
abbrev Jv:=@List.mem_map
abbrev Jw:=@List.mem_iff_getElem?
abbrev JF:=@List.pairwise_iff_getElem
abbrev JR:=@List.nodup_cons
abbrev JS:=@List.idxOf_lt_length_iff
abbrev JU:=@List.all_eq_true
abbrev Qg:=@List.mem_iff_getElem
abbrev Wg:=@List.mem_flatMap
abbrev Wj:=@List.mem_filter
abbrev Wv:=@List.nodup_append
abbrev Fg:=PySem.W.Frag
abbrev Vs:=Value→Shared→Prop
abbrev AO:=U (Addr×Obj)
abbrev SV:=Str→Option Value
abbrev SI:=U (Str×Int)
abbrev ON:=U (Option Nat)
namespace TS
set_option genInjectivity false in
structure SK(κ:Type)[DecidableEq κ]where
 vl:κ->Tok->Value
 of:Value->κ
 hash:World->κ->Int
 knd:(P:Program)->(w:World)->PySem.KeyKind P w κ
 of_mk:∀k t,of (vl k t)=k
 is:∀P w k v,(knd P w).is k v=true↔∃t,v=vl k t
 hsh:∀P w k,(knd P w).hash k=hash w k
 scan:∀k t,(vl k t).scannable=true
noncomputable def strS:SK Str:=⟨.str,strOf,hashStr,PySem.strKind,λ_ _=>rfl,λP w k v=>⟨Value.isStrOf_shape,λ⟨t,e⟩=>by subst e;exact strKind_is _ _ _ _⟩,λ_ _ _=>rfl,λ_ _=>rfl⟩
def zrb:Value->Int
 | .int i _=>i
 |_=>0
noncomputable def intS:SK Int:=⟨.int,zrb,λ_=>hashInt,PySem.intKind,λ_ _=>rfl,λP w k v=>⟨Value.isInt_shape,λ⟨t,e⟩=>by subst e;show Value.isInt k (.int k t)=true;simp[Value.isInt]⟩,λ_ _ _=>rfl,λ_ _=>rfl⟩
section
variable{κ:Type}[DecidableEq κ](S:SK κ)
def El(w:World)(l:U (Int×Value)):Prop:=∀e∈l,∃k t,e=(S.hash w k,S.vl k t)
noncomputable def txt(l:U (Int×Value)):List κ:=l.map λe=>S.of e.2
end
def Ri(t:SetTable):Prop:=t.place.toList.Pairwise (·<·)
structure Good(t t':SetTable):Prop where
 led:t'.led=t.led
 ri:(t.plain=true->Ri t)->t'.plain=true->Ri t'
variable{κ:Type}
def StG[DecidableEq κ](S:SK κ)(w:World)(h:Heap)(a:Addr)(L:List κ):Prop:=
 ∃o es ep t,h.get? a=some o/\o.ExactSet/\o.data=.set es ep t/\El S w es.toList/\(txt S es.toList).Perm L/\L.Nodup/\es.size<scanBound/\t.fits es.size=true/\
  (t.plain=true->Ri t)/\(w.params.followText "set-order"=false->t.led=true)
abbrev St(w:World)(h:Heap)(a:Addr)(L:U Str):Prop:=StG strS w h a L
noncomputable def addT[DecidableEq κ](L:List κ)(x:κ):List κ:=if x∈L then L else L++[x]
theorem zgo(xs:Array Nat)(j:Nat)(hs:xs.toList.Pairwise (·<·)):∀(fuel lo hi:Nat),lo<=hi->hi<=xs.size->hi - lo<=fuel->(∀i (h:i<xs.size),i<lo->xs[i]<j)->(∀i (h:i<xs.size),hi<=i->j<=xs[i])->
  (∀i (h:i<xs.size),i<SetTable.below.go xs j fuel lo hi->xs[i]<j)/\(∀i (h:i<xs.size),SetTable.below.go xs j fuel lo hi<=i->j<=xs[i])/\SetTable.below.go xs j fuel lo hi<=xs.size
 |0,lo,hi,h1,h2,h3,h4,h5=>by
  have:lo=hi:=by grind
  subst this;unfold SetTable.below.go;exact⟨h4,h5,h2⟩
 |fuel+1,lo,hi,h1,h2,h3,h4,h5=>by
  have mono:∀i k (hi:i<xs.size) (hk:k<xs.size),i<k->xs[i]<xs[k]:=λi k hi hk l=>by have:=JF.mp hs i k (by simpa using hi) (by simpa using hk) l;simpa using this
  unfold SetTable.below.go;by_cases hl:lo<hi
  ·rw[if_pos hl];dsimp only;have hm:(lo+hi)/2<xs.size:=by lia
   have eg:xs.getD ((lo+hi)/2) j=xs[(lo+hi)/2]:=by simp_all
   rw[eg];by_cases hc:xs[(lo+hi)/2]<j
   ·rw[if_pos hc];refine zgo xs j hs fuel _ hi (by lia) h2 (by(simp at*;lia)) (λi hi' l=>?_) h5;by_cases e:i=(lo+hi)/2
    ·subst e;exact hc
    ·exact Nat.lt_trans (mono i _ hi' hm (by lia)) hc
   ·rw[if_neg hc];refine zgo xs j hs fuel lo _ (by lia) (by exact Qi ‹_›) (by(simp at*;lia)) h4 λi hi' l=>?_
    by_cases e:(lo+hi)/2=i
    ·subst e;simp_all
    ·have:=mono _ i hm hi' (by exact Nat.lt_of_le_of_ne ‹_› ‹_›);lia
  ·rw[if_neg hl]
   have:lo=hi:=by(simp at*;lia)
   subst this;exact⟨h4,h5,h2⟩
variable{xs:Array Nat}
def zcT{j:Nat}(hs:xs.toList.Pairwise (·<·)):(∀i (h:i<xs.size),i<SetTable.below xs j->xs[i]<j)/\(∀i (h:i<xs.size),SetTable.below xs j<=i->j<=xs[i])/\SetTable.below xs j<=xs.size:=
 zgo xs j hs xs.size 0 xs.size (Jz _) (Jf _) (by simp) (λi h l=>absurd l (Nat.not_lt_zero _)) λi h l=>absurd h (by exact Nat.not_lt.mpr ‹_›)
variable{j:Nat}
def zlq(hs:xs.toList.Pairwise (·<·))(hj:xs[SetTable.below xs j]?≠some j):(SetTable.insertAt xs (SetTable.below xs j) j).toList.Pairwise (·<·):=by
 let⟨b1,b2,b3⟩:=zcT (j:=j) hs;generalize SetTable.below xs j=p at*;have e:(SetTable.insertAt xs p j).toList=xs.toList.take p++j::xs.toList.drop p:=by unfold SetTable.insertAt;simp[List.take_of_length_le]
 rw[e,List.pairwise_append,List.pairwise_cons];have lt2:∀y∈xs.toList.drop p,j<y:=λy hy=>by
  let⟨i,hi,rfl⟩:=Qg.mp hy;rw[List.length_drop,JB]at hi;rw[List.getElem_drop,Wy];have h1:=b2 (p+i) (by grind) (by simp);rcases Nat.lt_or_ge j xs[p+i]with z|z
  ·exact z
  ·have e1:xs[p+i]=j:=by lia
   rcases Nat.eq_zero_or_pos i with rfl|hp
   ·exact absurd (by rw[Array.getElem?_eq_getElem (by lia)];simpa using e1) hj
   ·have h2:=b2 p (by lia) (Jf _);have h3:=JF.mp hs p (p+i) (by simpa using(by lia:p<xs.size)) (by simpa using(by(simp only[*]at*;lia):p+i<xs.size)) (by simp[*]);simp only[Array.getElem_toList]at h3;exact Qm ‹_› ‹_›
 refine⟨hs.sublist (List.take_sublist _ _),⟨lt2,hs.sublist (List.drop_sublist _ _)⟩,λx hx y hy=>?_⟩;have hxj:x<j:=by let⟨i,hi,rfl⟩:=Qg.mp hx;rw[QN,JB]at hi;rw[List.getElem_take,Wy];exact b1 i (by exact Jp ‹_› (by simp[*])) (by simp_all)
 rcases JJ.mp hy with rfl|hy
 ·exact hxj
 ·exact Nat.lt_trans hxj (lt2 y hy)
variable{t:SetTable}
def zlf(h:∀i,t.slot j≠.live i):t.place[SetTable.below t.place j]?≠some j:=λe=>by refine h (SetTable.below t.place j) ?_;unfold SetTable.slot;simp[e]
theorem zcA{ha:Nat->Int}{h:Int}:∀(fuel:Nat) (p:SetTable.Probe) {j:Nat}{d:Option Nat},(∀k,p.dummy=some k->∀i,t.slot k≠.live i)->SetTable.probe.go t ha h fuel p=some (.empty j d)->∀i,t.slot (d.getD j)≠.live i
 |0,p,j,d,_,e=>by simp[SetTable.probe.go]at e
 |fuel+1,p,j,d,hp,e=>by
  unfold SetTable.probe.go at e;have adv:∀q:SetTable.Probe,(t.advance q).dummy=q.dummy:=λq=>by unfold SetTable.advance;split<;>rfl
  cases es:t.slot p.j with
  |empty=>
   rw[es]at e;simp only[Option.some.injEq,SetTable.Met.empty.injEq]at e;let⟨rfl,rfl⟩:=e;cases ed:p.dummy with
   |none=>intro i;simp[es]
   |some k=>exact hp k ed
  |dummy=>
   rw[es]at e;refine zcA fuel _ (λk hk i=>?_) e;rw[adv]at hk;simp only[Option.some.injEq]at hk;subst hk;simp[es]
  |live i=>
   rw[es]at e;dsimp only at e;split at e
   ·cases e
   ·exact zcA fuel _ (λk hk=>hp k (by rw[adv]at hk;exact hk)) e
section
variable{t:SetTable}{es:Array (Int×Value)}{h:Int}{x:Value}
def zbj(n:Nat):Good t (t.standIn n):=⟨rfl,λ_ z=>by cases z⟩
def zid:Good t (layNew t es h x).2.1:=by
 unfold layNew;split
 ·rename_i slot wd hf;dsimp only;have free:∀i,t.slot slot≠.live i:=by
   unfold SetTable.freeSlot at hf;split at hf
   ·rename_i j d hp;cases hf
    exact zcA _ _ (λk hk=>by simp[SetTable.probeStart]at hk) hp
   ·cases hf
  have ri:(t.plain=true->Ri t)->t.plain=true->Ri (t.put slot).1:=λz zz=>zlq (z zz) (zlf free)
  unfold SetTable.orStandIn;split
  ·exact⟨rfl,ri⟩
  ·exact⟨rfl,λ_ z=>by cases z⟩
 ·exact zbj _
def zfJ(wanted:Nat):Good t (relayAll t es wanted).2.1:=by
 unfold relayAll;split
 ·rename_i t' order hr;dsimp only;split
  ·unfold SetTable.relaid SetTable.laid at hr;cases q:SetTable.layClean (SetTable.sizeAbove wanted - 1) (es.map (·.1))with
   |none=>rw[q]at hr;cases hr
   |some ow=>
    rw[q]at hr;cases hr
    refine⟨rfl,λ_ _=>?_⟩;show(List.map _ _).toArray.toList.Pairwise _;rw[List.toList_toArray,List.map_filterMap];have e:(List.range (SetTable.sizeAbove wanted - 1+1)).filterMap (λx=>Option.map (λx=>x.1) (Option.map (λk=>(x,k)) (ow.getD x none)))=(List.range (SetTable.sizeAbove wanted - 1+1)).filter (λx=>(ow.getD x none).isSome):=by
     rw[←List.filterMap_eq_filter]
     congr 1
     funext x
     cases eo:ow.getD x none<;>simp only[Option.guard,eo,Option.map_none,Option.map_some,Option.isSome_none,Option.isSome_some]<;>rfl
    rw[e];exact List.pairwise_lt_range.sublist List.filter_sublist
  ·exact zbj _
 ·exact zbj _
end
section
variable{P:Program}{w:World}{A:Around}{E:Vs}{s:Shared}{a:Addr}
def znq{g:Bool->Sem Unit}(hg:∀(b:Bool) (s₁:Shared) (Q':Unit->Shared->Prop),Q' () s₁->wpAny (model P w) A (g b) Q' E s₁){o:Obj}{es:Array (Int×Value)}{ep:Nat}(ho:s.heap.get? a=some o)(hd:o.data=.set es ep t){es1:Array (Int×Value)}{t2:SetTable}(hb1:es1.size<scanBound)(hf2:t2.fits es1.size=true){wasDummy:Bool}{R:Option Bool->Shared->Prop}(h:∀h' es2 ep2 t3,Heap.SameBut a s.heap h'->h'.get? a=some {o with data:=.set es2 ep2 t3}->es2.toList.Perm es1.toList->t3.fits es2.size=true->Good t2 t3->R (some true) {s with heap:=h'}):
  wpAny (model P w) A (do
    storeSet a es1 t2
    if(!wasDummy&&t2.tooFull)=true then do
      g (relayAll t2 es1 (SetTable.grown es1.size)).2.2
      storeSet a (relayAll t2 es1 (SetTable.grown es1.size)).1 (relayAll t2 es1 (SetTable.grown es1.size)).2.1
      pure (some true)
     else pure (some true)) R E s:=by
 refine wpAny_bind (wpAny_storeSet_of ho hd ?_ (fits_of_scanBound hb1));have wJ:(s.heap.update a (Obj.putSet es1 t2)).get? a=some {o with data:=.set es1 (ep+1) t2}:=by have:=Heap.get?_update_self (Obj.putSet es1 t2) ho (by rw[putSet_of es1 t2 hd];rfl);rw[putSet_of es1 t2 hd]at this;exact this
 have hsb1:=Qa s.heap a (Obj.putSet es1 t2);split
 ·have hp:=relayAll_perm t2 es1 (SetTable.grown es1.size);have hfr:=relayAll_fits t2 es1 (SetTable.grown es1.size);have hgd:=zfJ (t:=t2) (es:=es1) (SetTable.grown es1.size);generalize relayAll t2 es1 (SetTable.grown es1.size)=Rl at hp hfr hgd ⊢;let⟨es2,t3,gave2⟩:=Rl;have hsz:es2.size=es1.size:=by grind [Array.length_toList,List.Perm.length_eq]
  refine wpAny_bind (hg _ _ _ ?_);refine wpAny_bind (wpAny_storeSet_of wJ rfl ?_ (fits_of_scanBound (by rw[hsz];exact hb1)));have put2:((s.heap.update a (Obj.putSet es1 t2)).update a (Obj.putSet es2 t3)).get? a=some {o with data:=.set es2 (ep+1+1) t3}:=by have:=Heap.get?_update_self (Obj.putSet es2 t3) wJ (by rfl);rw[putSet_of es2 t3 rfl]at this;exact this
  exact Ja (h _ es2 _ t3 (hsb1.trans (Qa _ a _)) put2 hp hfr hgd)
 ·exact Ja (h _ es1 _ t2 hsb1 wJ (List.Perm.refl _) hf2 ⟨rfl,λz=>z⟩)
variable{κ:Type}[DecidableEq κ]{S:SK κ}
def El.of(P:Program){l:U (Int×Value)}(h:El S w l):ElemsOf (S.knd P w) l:=λe he=>by let⟨k,t,rfl⟩:=h e he;exact⟨⟨k,(S.is P w k _).mpr ⟨t,rfl⟩,(S.hsh P w k).symm⟩,S.scan k t⟩
def zkQ(P:Program){es:U (Int×Value)}(he:El S w es){x:κ}:x∈txt S es↔∃e∈es,(S.knd P w).is x e.2=true:=by
 unfold txt;rw[Jv];constructor
 ·rintro⟨e,h1,h2⟩;let⟨k,t,rfl⟩:=he e h1;refine⟨_,h1,(S.is P w _ _).mpr ⟨t,?_⟩⟩;rw[←h2,S.of_mk]
 ·rintro⟨e,h1,h2⟩;let⟨k,t,rfl⟩:=he e h1;let⟨t',e'⟩:=(S.is P w _ _).mp h2;refine⟨_,h1,?_⟩;show S.of (S.vl k t)=x;have e':S.vl k t=S.vl x t':=e';rw[e',S.of_mk]
def addT_nodup{L:List κ}{x:κ}(h:L.Nodup):(addT L x).Nodup:=by
 unfold addT;split
 ·exact h
 ·rename_i hx;exact Wv.mpr ⟨h,by simp,λa ha b hb=>by simp at hb;subst hb;exact λe=>hx (e▸ha)⟩
def add{L:List κ}{x:κ}{tk:Tok}{Q:Bool->Shared->Prop}(hS:StG S w s.heap a L)(hroom:L.length+1<scanBound)(h:∀h' b,Heap.SameBut a s.heap h'->StG S w h' a (addT L x)->Q b {s with heap:=h'}):
  wpAny (model P w) A (setAddHashed a (S.vl x tk) (S.hash w x)) Q E s:=by
 let⟨o,es,ep,t,ho,hex,hd,hel,hpm,hnd,hb,hf,hpl,hld⟩:=hS;have hsz:es.size=L.length:=by rw[←hpm.length_eq];simp[txt]
 have hb1:es.size+1<scanBound:=by rw[hsz];exact hroom
 have hkey:(S.knd P w).is x (S.vl x tk)=true:=(S.is P w x _).mpr ⟨tk,rfl⟩;have hE:ElemsOf (S.knd P w) es.toList:=hel.of P;rw[←S.hsh P w x];unfold setAddHashed setAddHashedIn;refine Jk (wpAny_bind (Qj ho hd hf ?_));dsimp only;rw[byScan_of (S.scan x tk) hb hE];simp only[↓reduceIte];unfold setAddByScan;refine wpAny_bind ?_;refine wpAny_bind (JH ?_);refine wpAny_bind (wpAny_setScan_of (knd:=S.knd P w) (k:=x) hkey ho hd hf hE ?_);cases hr:List.findIdx? (λe=>(S.knd P w).is x e.2) es.toList with
 |some j=>
  dsimp only;let⟨hj,hpj,_⟩:=List.findIdx?_eq_some_iff_getElem.mp hr;have hx:x∈L:=hpm.mem_iff.mp ((zkQ P hel).mpr ⟨es.toList[j],Qh hj,hpj⟩);refine Ja (Ja ?_);have e:s={s with heap:=s.heap}:=by rfl
  rw[e];exact h s.heap _ (Heap.SameBut.refl a s.heap) (by unfold addT;rw[if_pos hx];exact⟨o,es,ep,t,ho,hex,hd,hel,hpm,hnd,hb,hf,hpl,hld⟩)
 |none=>
  dsimp only;have hx:x∉L:=λz=>by let⟨e,he,hp⟩:=(zkQ P hel).mp (hpm.mem_iff.mpr z);grind
  have hgw:∀(b:Bool) {s₁:Shared}{Q':Unit->Shared->Prop},Q' () s₁->wpAny (model P w) A (match b with|true=>rule "set.scan.the-table-gave-way"|false=>pure ()) Q' E s₁:=
   λb s₁ Q' hq=>by cases b<;>first|exact Ja hq|exact JH hq
  have hperm:=layNew_perm t es ((S.knd P w).hash x) (S.vl x tk);have hfits:=layNew_fits t es ((S.knd P w).hash x) (S.vl x tk);have hgood:=zid (t:=t) (es:=es) (h:=(S.knd P w).hash x) (x:=S.vl x tk);generalize layNew t es ((S.knd P w).hash x) (S.vl x tk)=L1 at hperm hfits hgood ⊢;let⟨es1,t1,wasDummy,gave⟩:=L1;dsimp only at hperm hfits hgood ⊢;rw[Array.toList_push]at hperm;have hel1:El S w es1.toList:=λe he=>by
   rcases Qe.mp (hperm.mem_iff.mp he)with z|z
   ·exact hel e z
   ·exact⟨x,tk,by rw[←S.hsh P w x];exact Je.mp z⟩
  have hpm1:(txt S es1.toList).Perm (addT L x):=by unfold addT;rw[if_neg hx];refine(hperm.map _).trans ?_;rw[Jr];refine hpm.append (List.Perm.of_eq ?_);show[S.of (S.vl x tk)]=[x];rw[S.of_mk]
  have hb1':es1.size<scanBound:=by rw[←JB,hperm.length_eq,Jt,JB];simpa using hb1
  refine wpAny_bind (hgw _ ?_);have fin:∀(t2:SetTable),t2.led=t.led->(t2.plain=true->Ri t2)->∀h' es2 ep2 t3,Heap.SameBut a s.heap h'->h'.get? a=some {o with data:=.set es2 ep2 t3}->es2.toList.Perm es1.toList->t3.fits es2.size=true->Good t2 t3->StG S w h' a (addT L x):=by
   intro t2 e1 e2 h' es2 ep2 t3 _ g1 g2 g3 g4;have z2:es2.size=es1.size:=by rw[←JB,g2.length_eq,JB]
   exact⟨_,es2,ep2,t3,g1,hex,rfl,λe he=>hel1 e (g2.mem_iff.mp he),(g2.map _).trans hpm1,addT_nodup hnd,by rw[z2];exact hb1',g3,g4.ri e2,λz=>by rw[g4.led,e1];exact hld z⟩
  split
  ·refine wpAny_bind ?_;rw[hashByValue_scannable 8 (S.scan x tk)];refine Ja ?_;refine znq ?_ ho hd hb1' ?_ ?_
   ·intro b s₁ Q' hq;cases b<;>first|exact Ja hq|exact JH hq
   ·split
    ·exact hfits
    ·exact SetTable.fits_plain_off hfits
   ·intro h' es2 ep2 t3 g0 g1 g2 g3 g4;dsimp only;refine Ja (h h' _ g0 (fin _ ?_ ?_ h' es2 ep2 t3 g0 g1 g2 g3 g4))
    ·split
     ·exact hgood.led
     ·exact hgood.led
    ·split
     ·exact hgood.ri hpl
     simp
  ·rename_i hnp;refine wpAny_bind (Ja ?_);simp only[↓reduceIte];refine znq ?_ ho hd hb1' hfits ?_
   ·intro b s₁ Q' hq;cases b<;>first|exact Ja hq|exact JH hq
   ·intro h' es2 ep2 t3 g0 g1 g2 g3 g4;dsimp only;exact Ja (h h' _ g0 (fin t1 hgood.led (hgood.ri hpl) h' es2 ep2 t3 g0 g1 g2 g3 g4))
end
end TS
namespace L2
abbrev Key:=Sum Int Str
def zkn:Key->Value->Bool
 | .inl k,v=>Value.isInt k v
 | .inr x,v=>Value.isStrOf x v
def keyH(w:World):Key->Int
 | .inl k=>hashInt k
 | .inr x=>hashStr w x
theorem vV:∀{k:Key}{v:Value},zkn k v=true->(∃i t,k=Sum.inl i/\v=Value.int i t)\/(∃x t,k=Sum.inr x/\v=Value.str x t)
 | .inl i,v,h=>by let⟨t,e⟩:=Value.isInt_shape (k:=i) (v:=v) h;exact .inl ⟨i,t,rfl,e⟩
 | .inr x,v,h=>by let⟨t,e⟩:=Value.isStrOf_shape (x:=x) (v:=v) h;exact .inr ⟨x,t,rfl,e⟩
def zmz(i:Int)(t:Tok):zkn (.inl i) (.int i t)=true:=by simp[zkn,Value.isInt]
def zmy(x:Str)(t:Tok):zkn (.inr x) (.str x t)=true:=by simp[zkn,Value.isStrOf]
def zte(a b:Int):decide ((Sum.inl a:Key)=Sum.inl b)=(a==b):=by (simp[*];lia)
def zta(a b:Str):decide ((Sum.inr a:Key)=Sum.inr b)=decide (a=b):=by simp
def ztd(a:Int)(b:Str):decide ((Sum.inl a:Key)=Sum.inr b)=false:=by rfl
def ztb(a:Str)(b:Int):decide ((Sum.inr a:Key)=Sum.inl b)=false:=by rfl
def jR(prog:Program)(w:World):PySem.KeyKind prog w Key where
 is:=zkn
 hash:=keyH w
 inj:=λv a b ha hb=>by grind [vV]
 byValue:=λk v h=>by rcases vV h with⟨i,t,rfl,rfl⟩|⟨x,t,rfl,rfl⟩<;>rfl
 pyHash:=λhv h=>by
  rcases vV hv with⟨i,t,rfl,rfl⟩|⟨x,t,rfl,rfl⟩
  ·exact wpAny_pyHash_int h
  ·exact wpAny_pyHash_str h
 eqBool:=λhu hv h=>by
  rcases vV hu with⟨i,t,rfl,rfl⟩|⟨x,t,rfl,rfl⟩
  ·rcases vV hv with⟨j,u,rfl,rfl⟩|⟨y,u,rfl,rfl⟩
   ·rw[zte]at h;exact wpAny_eqBool_int h
   ·rw[ztd]at h;exact SeqAt.EqAt.int_str i t y u _ _ _ _ h
  ·rcases vV hv with⟨j,u,rfl,rfl⟩|⟨y,u,rfl,rfl⟩
   ·rw[ztb]at h;exact SeqAt.EqAt.str_int x t j u _ _ _ _ h
   ·rw[zta]at h;exact wpAny_eqBool_str h
 «strs»:=λk x t v h=>by
  rcases vV h with⟨i,u,rfl,e⟩|⟨y,u,rfl,e⟩
  ·exact nomatch e
  ·injection e with e1 _;subst e1;cases v<;>rfl
def zhV(prog:Program)(w:World)(i:Int)(t:Tok):(jR prog w).is (.inl i) (.int i t)=true:=zmz i t
def zhU(prog:Program)(w:World)(x:Str)(t:Tok):(jR prog w).is (.inr x) (.str x t)=true:=zmy x t
inductive V where
 |non|bl (b:Bool)|int (i:Int)|str (x:Str)|byt (b:Array UInt8)|flt (b:UInt64)|ref (a:Addr)|ty (n:String)
 deriving DecidableEq
def zR:V->Value->Prop
 | .non,u=>u=Value.none
 | .bl b,u=>u=Value.bool b
 | .int i,u=>∃t,u=Value.int i t
 | .str x,u=>∃t,u=Value.str x t
 | .byt b,u=>∃t,u=Value.bytes b t
 | .flt b,u=>∃t,u=Value.float b t
 | .ref a,u=>u=Value.ref a
 | .ty n,u=>u=Value.type n
abbrev zN:U V->U Value->Prop:=Paired zR
variable{xs:U V}{us:U Value}
theorem zN.length(r:zN xs us):xs.length=us.length:=Paired.length r
theorem zN.get:∀{xs:U V}{us:U Value} {i:Nat}{x:V},zN xs us->xs[i]?=some x->∃u,us[i]?=some u/\zR x u
 |_,_,_,_,.nil,e=>by simp at e
 |_,_,0,_,.cons r _,e=>by simp at e;subst e;exact⟨_,rfl,r⟩
 |_,_,i+1,x,.cons _ t,e=>by let⟨u,h1,h2⟩:=zN.get (i:=i) (x:=x) t (by simpa using e);exact⟨u,by simpa using h1,h2⟩
theorem zN.append:∀{xs ys:U V}{us ws:U Value},zN xs us->zN ys ws->zN (xs++ys) (us++ws)
 |_,_,_,_,.nil,s=>s
 |_,_,_,_,.cons r t,s=>.cons r (zN.append t s)
theorem zN.take:∀{xs:U V}{us:U Value} (n:Nat),zN xs us->zN (xs.take n) (us.take n)
 |_,_,0,_=>.nil
 |_,_,_+1,.nil=>.nil
 |_,_,n+1,.cons r t=>.cons r (zN.take n t)
theorem zN.drop:∀{xs:U V}{us:U Value} (n:Nat),zN xs us->zN (xs.drop n) (us.drop n)
 |_,_,0,r=>r
 |_,_,_+1,.nil=>.nil
 |_,_,n+1,.cons _ t=>zN.drop n t
def vC:Option V->Option Value->Prop
 |some v,some u=>zR v u
 |none,none=>True
 |_,_=>False
variable{κ:Type}
def KV:U (κ×V)->U (κ×Value)->Prop:=Paired λ(p:κ×V) (q:κ×Value)=>p.1=q.1/\zR p.2 q.2
def kV:Key->V
 | .inl i=>.int i
 | .inr x=>.str x
inductive HO where
 |lst (xs:U V)
 |tup (xs:U V)
 |dK (p5:U (Key×V))|dT (p5:U ((Key ⊕ U Key)×V)) (ys:U V)
 |set (S:U Str)
 |sei (S:U Int)
 |ins (C dx:Addr) (fs:U (Str×V))
 |own (x:Addr)
 |xd (fs:U (Str×V))
 |met (f x:Addr)
 |rng (lo hi:Int)
 |frz (o:Obj) (u:HO)
 |tbl (ps:Array Value)
 |ext (φ:Heap->Prop)
abbrev Hp:=Addr->Option HO
def upd(H:Hp)(a:Addr)(o:HO):Hp:=λb=>if b=a then some o else H b
variable{H:Hp}{a:Addr}
def qG{o:HO}:upd H a o a=some o:=by unfold upd;simp
theorem zT{b:Addr}{o:HO}(h:b≠a):upd H a o b=H b:=by unfold upd;rw[if_neg h]
def zsM{b:Addr}{o u:HO}(h:H a=some o)(h':H b=some u)(d:o≠u):a≠b:=by grind
def jI{b:Addr}{o:HO}(h:H a=some o)(h':H b=none):a≠b:=by grind
abbrev zP:=Key ⊕ U Key
def KAt(H:Hp):zP->Value->Prop
 | .inl k,u=>zR (kV k) u
 | .inr l,u=>∃b,u=.ref b/\H b=some (.tup (l.map kV))
variable{H':Hp}
def KAt.mono(ht:∀b xs,H b=some (.tup xs)->H' b=some (.tup xs)):∀{k:zP}{u:Value},KAt H k u->KAt H' k u
 | .inl _,_,h=>h
 | .inr _,_,⟨b,e,h⟩=>⟨b,e,ht _ _ h⟩
noncomputable def zmK(P:Program)(w:World):zP->Int
 | .inl k=>(jR P w).hash k
 | .inr l=>tupleKeyHash (jR P w) l
noncomputable def xZ(P:Program)(w:World)(x:zP×Value×Value):DictEntry:=⟨zmK P w x.1,x.2.1,x.2.2⟩
abbrev KT(H:Hp):U (zP×V)->U (zP×Value×Value)->Prop:=Paired λp q=>p.1=q.1/\KAt H p.1 q.2.1/\zR p.2 q.2.2
section
variable(P:Program)(w:World)
def kX(H:Hp)(h:Heap)(a:Addr):HO->Prop
 | .lst xs=>xs.length<=sizeLine/\∃(p6:U Value) (n:Nat),zN xs p6/\h.get? a=some {cls:=.type "list",data:=.seq p6.toArray n}
 | .tup xs=>xs.length<=sizeLine/\∃p6:U Value,zN xs p6/\IsTup h a p6.toArray
 | .dK p5=>p5.length<=sizeLine/\(a==sysModules)=false/\∃vs,KV p5 vs/\h.DictOf (jR P w) a vs
 | .dT p5 ys=>p5.length<=sizeLine/\(a==sysModules)=false/\∃xs:U (zP×Value×Value),(KT H p5 xs/\zN ys (xs.map (·.2.1)))/\
   ∃o es ep,h.get? a=some o/\o.ExactDict/\o.data=.dict es ep/\es.toList=xs.map (xZ P w)/\(xs.map (·.1)).Nodup
 | .set S=>TS.St w h a S
 | .sei S=>TS.StG TS.intS w h a S
 | .ins C dx fs=>H dx=some (.own a)/\fs.length<=1000/\dx≠a/\h.get? a=some (PySem.W.instObj C dx)/\
   ∃mA,h.Ns1 dx mA/\(∀f,vC (fs.lookup f) (mA f))/\PySem.Within mA (fs.map (·.1))
 | .own _=>∃o,h.get? a=some o
 | .xd fs=>∃mA,h.Ns1 a mA/\∀f,vC (fs.lookup f) (mA f)
 | .rng lo hi=>∃t u v,h.get? a=some {cls:=.type "range",data:=.fields #[.int lo t,.int hi u,.int 1 v]}
 | .frz o u=>h.get? a=some o/\kX H h a u
 | .tbl ps=>h.get? a=some {cls:=.none,data:=.fields ps}
 | .met f x=>h.get? a=some (PySem.W.methodObj (.ref f) (.ref x))
 | .ext φ=>φ h/\(∃o,h.get? a=some o)/\∀h1 h2:Heap,φ h1->(∀o,h1.get? a=some o->h2.get? a=some o)->φ h2
def HOk(H:Hp)(h:Heap):Prop:=∀a o,H a=some o->kX P w H h a o
end
variable{α:Type}
section
variable{P:Program}{w:World}{H H':Hp}{h h':Heap}{a:Addr}{o:HO}
theorem kX.lt(x:kX P w H h a o):a<h.objs.size:=by
 cases o with
 |lst xs=>let⟨_,_,_,_,e⟩:=x;exact Jb e
 |tup xs=>let⟨_,_,_,p⟩:=x;exact p.lt
 |dK p5=>let⟨_,_,_,_,o,_,_,e,_⟩:=x;exact Jb e
 |dT p5 ys=>let⟨_,_,_,_,o,_,_,e,_⟩:=x;exact Jb e
 |set S=>let⟨o,_,_,_,e,_⟩:=x;exact Jb e
 |sei S=>let⟨o,_,_,_,e,_⟩:=x;exact Jb e
 |ins C dx fs=>let⟨_,_,_,e,_⟩:=x;exact Jb e
 |own y=>let⟨_,e⟩:=x;exact Jb e
 |xd fs=>let⟨_,⟨_,_,_,e,_⟩,_⟩:=x;exact Jb e
 |rng lo hi=>let⟨_,_,_,e⟩:=x;exact Jb e
 |frz ob u=>let⟨e,_⟩:=x;exact Jb e
 |tbl ps=>exact Jb ((x))
 |met f y=>exact Jb ((x))
 |ext φ=>let⟨_,⟨_,e⟩,_⟩:=x;exact Jb e
theorem Paired.mapP{β:Type}{F G:α->β->Prop}:∀{l₁:List α}{l₂:List β},Paired F l₁ l₂->(∀a b,F a b->G a b)->Paired G l₁ l₂
 |_,_,.nil,_=>.nil
 |_,_,.cons r t,f=>.cons (f _ _ r) (Paired.mapP t f)
def kX.stay(x:kX P w H h a o)(k:∀b u,(b=a\/H b=some (.own a))->h.get? b=some u->h'.get? b=some u)(ho:∀b,H b=some (.own a)->H' b=some (.own a))(ht:∀b xs,H b=some (.tup xs)->H' b=some (.tup xs)):kX P w H' h' a o:=by
 induction o with
 |lst xs=>let⟨z,p6,n,r,e⟩:=x;exact⟨z,p6,n,r,k _ _ (.inl rfl) e⟩
 |tup xs=>let⟨z,p6,r,ob,e,c⟩:=x;exact⟨z,p6,r,ob,k _ _ (.inl rfl) e,c⟩
 |dK p5=>let⟨z,y,vs,r,ob,es,ep,e,c⟩:=x;exact⟨z,y,vs,r,ob,es,ep,k _ _ (.inl rfl) e,c⟩
 |dT p5 ys=>
  let⟨z,y,xs,r,ob,es,ep,e,c⟩:=x;exact⟨z,y,xs,⟨Paired.mapP r.1 λp q z=>⟨z.1,KAt.mono ht z.2.1,z.2.2⟩,r.2⟩,ob,es,ep,k _ _ (.inl rfl) e,c⟩
 |sei S=>let⟨ob,es,ep,t,e,c⟩:=x;exact⟨ob,es,ep,t,k _ _ (.inl rfl) e,c⟩
 |set S=>let⟨ob,es,ep,t,e,c⟩:=x;exact⟨ob,es,ep,t,k _ _ (.inl rfl) e,c⟩
 |ins C dx fs=>
  let⟨d,z,ne,e,mA,⟨od,es,ep,e2,c⟩,r⟩:=x;exact⟨ho _ d,z,ne,k _ _ (.inl rfl) e,mA,⟨od,es,ep,k _ _ (.inr d) e2,c⟩,r⟩
 |own y=>let⟨ob,e⟩:=x;exact⟨ob,k _ _ (.inl rfl) e⟩
 |xd fs=>let⟨mA,⟨od,es,ep,e,c⟩,r⟩:=x;exact⟨mA,⟨od,es,ep,k _ _ (.inl rfl) e,c⟩,r⟩
 |rng lo hi=>let⟨t,u,v,e⟩:=x;exact⟨t,u,v,k _ _ (.inl rfl) e⟩
 |frz ob u ih=>let⟨e,q⟩:=x;exact⟨k _ _ (.inl rfl) e,ih q⟩
 |tbl ps=>
  have e:h.get? a=some {cls:=.none,data:=.fields ps}:=x;show h'.get? a=some {cls:=.none,data:=.fields ps};exact k a _ (.inl rfl) e
 |met f y=>
  have e:h.get? a=some (PySem.W.methodObj (.ref f) (.ref y)):=x;show h'.get? a=some (PySem.W.methodObj (.ref f) (.ref y));exact k a _ (.inl rfl) e
 |ext φ=>let⟨p,⟨o,e⟩,st⟩:=x;exact⟨st _ _ p λo q=>k _ _ (.inl rfl) q,⟨o,k _ _ (.inl rfl) e⟩,st⟩
theorem HOk.lt(x:HOk P w H h)(e:H a=some o):a<h.objs.size:=(x a o e).lt
def HOk.fresh(x:HOk P w H h)(e:h.objs.size<=a):H a=none:=by
 cases q:H a with
 |none=>rfl
 |some u=>exact absurd (Jn (x.lt q) e) (JW _)
def HOk.kept(x:HOk P w H h)(k:∀b u,h.get? b=some u->h'.get? b=some u):HOk P w H h':=λa o e=>
 (x a o e).stay (λb u _ q=>k b u q) (λ_ q=>q) λ_ _ q=>q
def HOk.laid(x:HOk P w H h)(k:∀b u,h.get? b=some u->h'.get? b=some u)(hp:h.objs.size<=a)(new:kX P w (upd H a o) h' a o):HOk P w (upd H a o) h':=λb u e=>by
 have hn:=x.fresh hp;by_cases hb:b=a
 ·simp_all[qG]
 ·rw[zT hb]at e;exact(x b u e).stay (λc v _ q=>k c v q) (λc q=>by grind [zT]) λc xs q=>by grind [zT]
end
def Rd(H:Hp)(a:Addr)(u:HO):Prop:=H a=some u\/∃o,H a=some (.frz o u)
variable{P:Program}{w:World}{h:Heap}
def Rd.ok{u:HO}(r:Rd H a u)(x:HOk P w H h):kX P w H h a u:=by
 rcases r with r|⟨o,r⟩
 ·exact x a u r
 ·let⟨_,q⟩:=x a _ r;exact q
def Mut:Option HO->Prop
 |some (.lst _)=>True
 |some (.dK _)=>True
 |some (.dT _ _)=>True
 |some (.set _)=>True
 |some (.sei _)=>True
 |some (.ins _ _ _)=>True
 |some (.ext _)=>True
 |_=>False
section
variable{P:Program}{w:World}{H:Hp}{h h':Heap}{x e:Addr}{o':HO}
def HOk.write(ok:HOk P w H h)(mu:Mut (H x))(he:e=x\/H e=some (.own x))(k:∀b u,b≠e->h.get? b=some u->h'.get? b=some u)(heo:∃u,h'.get? e=some u)(new:kX P w (upd H x o') h' x o'):HOk P w (upd H x o') h':=λb u q=>by
 have nown:∀c y,H c=some (.own y)->c≠x:=λc y r z=>by subst z;rw[r]at mu;exact mu
 have ntup:∀c xs,H c=some (.tup xs)->c≠x:=λc xs r z=>by subst z;rw[r]at mu;exact mu
 by_cases hb:b=x
 ·simp_all[qG]
 ·rw[zT hb]at q;by_cases hbe:b=e
  ·have q':H b=some (.own x):=by grind
   rw[q]at q';cases q'
   let⟨v,hv⟩:=heo;exact⟨v,by simp[*]⟩
  ·refine(ok b u q).stay (λc v hc r=>k c v ?_ r) (λc r=>by rw[zT (nown c b r)];exact r) λc xs r=>by simp[zT, *]
   grind
end
structure Un(fs ex:U Addr)(H H':Hp)(h h':Heap):Prop where
 keep:∀b o,h.get? b=some o->H b=none->b∉fs->b∉ex->h'.get? b=some o
 slot:∀b o,h.get? b=some o->H b=none->b∈fs->b∉ex->∃sl,h'.get? b=some {o with slots:=sl}
 free:∀b o,h.get? b=some o->H b=none->b∉ex->H' b=none
 there:∀b o,h.get? b=some o->b∉ex->∃o',h'.get? b=some o'
 tups:∀b xs,H b=some (.tup xs)->H' b=some (.tup xs)
 frzs:∀b o u,H b=some (.frz o u)->H' b=some (.frz o u)
 tbls:∀b ps,H b=some (.tbl ps)->∃more,H' b=some (.tbl (ps++more))
section
variable{fs fs' ex ex':U Addr}{H H1 H2:Hp}{h h1 h2 h':Heap}{a x e:Addr}{o:HO}
def Un.any(u:Un fs ex H H1 h h1){b:Addr}{ob:Obj}(q:h.get? b=some ob)(n:H b=none)(hx:b∉ex):∃sl,h1.get? b=some {ob with slots:=sl}:=by
 by_cases hb:b∈fs
 ·exact u.slot b ob q n hb hx
 ·exact⟨ob.slots,u.keep b ob q n hb hx⟩
def Un.kept(k:∀b u,h.get? b=some u->h'.get? b=some u):Un fs ex H H h h':=
 ⟨λb ob q _ _ _=>k b ob q,λb ob q _ _ _=>⟨ob.slots,k b ob q⟩,λ_ _ _ n _=>n,λb ob q _=>⟨ob,k b ob q⟩,λ_ _ q=>q,λ_ _ _ q=>q,λ_ ps q=>⟨#[],by rw[q];simp⟩⟩
def Un.refl:Un fs ex H H h h:=Un.kept λ_ _ q=>q
def Un.laid(k:∀b u,h.get? b=some u->h'.get? b=some u)(hp:h.objs.size<=a)(hn:H a=none):Un fs ex H (upd H a o) h h' where
 keep:=λb u q _ _ _=>k b u q
 slot:=λb u q _ _ _=>⟨u.slots,k b u q⟩
 free:=λb u q n _=>by rw[zT (Jo (Jn (Jb q) hp))];exact n
 there:=λb u q _=>⟨u,k b u q⟩
 tups:=λb xs q=>by rw[zT (jI q hn)];exact q
 frzs:=λb u xs q=>by rw[zT (jI q hn)];exact q
 tbls:=λb ps q=>⟨#[],by grind [zT]⟩
def Un.write(mu:Mut (H x))(he:e=x\/H e=some (.own x))(k:∀b u,b≠e->h.get? b=some u->h'.get? b=some u)(heo:∃u,h'.get? e=some u):Un fs ex H (upd H x o) h h':=by
 have hx:∀b,H b=none->b≠x:=λb n z=>by subst z;rw[n]at mu;exact mu
 have hb:∀b,H b=none->b≠e:=λb n z=>by simp_all
 have hm:∀b u,H b=some u->¬Mut (some u)->b≠x:=λb u q nm z=>by simp_all
 refine⟨λb u q n _ _=>k b u (hb b n) q,λb u q n _ _=>⟨u.slots,k b u (hb b n) q⟩,λb u q n _=>by simp[zT, *],λb u q _=>?_,
  λb xs q=>by rw[zT (hm b _ q λz=>z)];exact q,λb u xs q=>by rw[zT (hm b _ q λz=>z)];exact q,λb ps q=>⟨#[],by rw[zT (hm b _ q λz=>z),q];simp⟩⟩
 grind
end
def trk(h:Heap)(H:Hp):U Addr:=(List.range h.objs.size).filter λa=>(H a).isSome
def nY(h:Heap)(H:Hp):Heap:=PySem.W.hideAll h (trk h H)
def zmG(h:Heap)(H:Hp):(nY h H).objs.size=h.objs.size:=PySem.W.hideAll_size _ _
variable{o:Obj}
def zoM{b:Addr}(e:h.get? b=some o)(n:H b=none):(nY h H).get? b=some o:=
 PySem.W.hideAll_get _ e λhm=>by have q:=(Wj.mp hm).2;rw[n]at q;simp at q
def zqN{b:Addr}(e:(nY h H).get? b=some o):h.get? b=some o/\H b=none:=by
 have e':=PySem.W.of_hideAll (trk h H) e;refine⟨e',?_⟩;cases q:H b with
 |none=>rfl
 |some x=>
  simp_all[trk,Heap.lt_size,nY,W.hideAll_none]
structure Mod(K:Fg)(mg:SV)(base:Heap):Prop where
 kin:K.In base
 glob:base.Ns mainGlobals mg
 blt:∃mb,base.Ns builtinsNs mb/\∀x:Str,x≠"__name__"->mb x=bootBuiltins x
 nolimit:base.NoLimit
set_option genInjectivity false in
structure Cx where
 prog:Program
 w:World
 K:Fg
 mg:SV
 base:Heap
 A:Around
 N:U Str
 s₀:Shared
 H₀:Hp
 env:Env
 outer:U Env
 stack:U Env
 ex:U Addr
 fn:Str->Bool
 calm:Bool
 pn:AO
 xe:Vs
noncomputable def frs(l:U Env):U Addr:=l.filterMap (·.frame)
abbrev Cx.fs(X:Cx):U Addr:=frs X.outer
def Vis(sc:Scope)(x:Str):Prop:=sc.names.lookup x=some .local\/sc.names.lookup x=some .cell\/sc.names.lookup x=some .free
def Loc(sc:Scope)(x:Str):Prop:=sc.names.lookup x=some .local\/sc.names.lookup x=some .cell
def Look(env:Env)(h:Heap)(m:SV)(x:Str)(u:Value):Prop:=
 (env.kindOf x=some .local/\m x=some u)\/((env.kindOf x=some .cell\/env.kindOf x=some .free)/\∃c,env.cells.lookup x=some c/\h.IsCell c (some u))
structure Cx.Ok(X:Cx):Prop where
 mod:Mod X.K X.mg X.base
 kind:X.env.scope.kind=.function
 glob:X.env.globals=mainGlobals
 blt:X.env.builtins=builtinsNs
 above:X.s₀.heap.objs.size<=X.env.locals
 inj:∀x y c,X.env.cells.lookup x=some c->X.env.cells.lookup y=some c->x=y
 has:∀x,(X.env.kindOf x=some .cell\/X.env.kindOf x=some .free)->∃c,X.env.cells.lookup x=some c
 cab:∀x c,X.fn x=true->X.env.cells.lookup x=some c->X.s₀.heap.objs.size<=c
 hd:X.calm=true->X.A.handled=none
 frames:X.A.frames=some X.stack
 stk:X.stack=X.outer\/(X.stack=X.env::X.outer/\X.env.frame=some X.env.locals)
 exf:∀b∈X.ex,b≠X.env.locals/\∀x c,X.env.cells.lookup x=some c->c≠b
 bs:∀b o,X.base.get? b=some o->X.s₀.heap.get? b=some o/\X.H₀ b=none
 bsz:X.base.objs.size<=X.s₀.heap.objs.size
 noex:∀b o,X.base.get? b=some o->b∉X.ex
 exfs:∀b∈X.ex,b∉X.fs
 funs:X.s₀.heap.FunFrames X.base X.outer
 frf:∀b∈X.fs,X.H₀ b=none
structure Inv(X:Cx)(p4:AO)(σ:U (Option V))(H:Hp)(s:Shared):Prop where
 ok:X.Ok
 os:s.os=X.s₀.os
 bare:AllBare s.gens
 base:Un X.fs X.ex X.H₀ H X.s₀.heap s.heap
 loc:∃m,s.heap.Ns X.env.locals m/\∀(i:Nat) (x:Str) (v:V),X.N[i]?=some x->σ[i]?=some (some v)->Vis X.env.scope x->∃u,zR v u/\Look X.env s.heap m x u
 cell:∀x c,X.env.cells.lookup x=some c->∃v,s.heap.IsCell c v
 free:H X.env.locals=none
 freeC:∀x c,X.env.cells.lookup x=some c->H c=none
 pin:∀p∈X.pn++p4,s.heap.get? p.1=some p.2/\H p.1=none/\p.1≠X.env.locals/\p.1∉X.fs/\∀v,p.2.data≠.cell v
 hok:HOk X.prog X.w H s.heap
 len:σ.length=X.N.length
variable{u:Value}{t' i j:Nat}{N:U Str}{x:Str}{M:Model}{A:Around}{E:Vs}{Q:Unit->Shared->Prop}{s':Shared}
section
variable{X:Cx}{p4:AO}{σ:U (Option V)}{H H':Hp}{s:Shared}{h':Heap}
def Cx.Ok.nofr(ok:X.Ok){b:Addr}(e:X.base.get? b=some o):b∉X.fs:=λhb=>by have:=(ok.funs.mem hb).1;grind
theorem Inv.bs(I:Inv X p4 σ H s):∀b o,X.base.get? b=some o->s.heap.get? b=some o/\H b=none:=λb o e=>
 ⟨I.base.keep b o (I.ok.bs b o e).1 (I.ok.bs b o e).2 (I.ok.nofr e) (I.ok.noex b o e),I.base.free b o (I.ok.bs b o e).1 (I.ok.bs b o e).2 (I.ok.noex b o e)⟩
def Inv.bk(I:Inv X p4 σ H s):∀b o,X.base.get? b=some o->s.heap.get? b=some o:=λb o e=>(I.bs b o e).1
theorem Inv.mod(I:Inv X p4 σ H s):Mod X.K X.mg X.base:=I.ok.mod
def Inv.kIn(I:Inv X p4 σ H s):X.K.In s.heap:=I.ok.mod.kin.keeps I.bk
theorem Inv.lt(I:Inv X p4 σ H s):X.env.locals<s.heap.objs.size:=let⟨_,hn,_⟩:=I.loc;hn.lt
def Inv.sz(I:Inv X p4 σ H s):X.s₀.heap.objs.size<=s.heap.objs.size:=Jp I.ok.above (Qi I.lt)
def Inv.nofs(I:Inv X p4 σ H s)(h:s.heap.objs.size<=a):a∉X.fs:=λhb=>by let⟨_,o,ho,_⟩:=I.ok.funs.mem hb;exact absurd (Jn (Jb ho) (Jp I.sz h)) (JW _)
def Inv.cne(I:Inv X p4 σ H s):∀x c,X.env.cells.lookup x=some c->c≠X.env.locals:=λx c e z=>by let⟨v,o,ho,hd⟩:=I.cell x c e;let⟨m,⟨o',es,ep,ho',hd',_⟩,_⟩:=I.loc;simp_all
theorem Inv.funs(I:Inv X p4 σ H s):s.heap.FunFrames X.base X.outer:=by
 have all:∀(l:U Env),(∀b∈frs l,b∈X.fs)->X.s₀.heap.FunFrames X.base l->s.heap.FunFrames X.base l:=by
  intro l;induction l with
  |nil=>intro _ _;trivial
  |cons env r ih=>
   intro hs hl;let⟨hk,⟨L,o,hf,hn,ho,hd⟩,hr⟩:=hl;have hL:=hs L (by simp[frs, *]);let⟨sl,e⟩:=I.base.slot L o ho (I.ok.frf L hL) hL λz=>I.ok.exfs L z hL
   exact⟨hk,⟨L,_,hf,hn,e,hd⟩,ih (λb hb=>hs b (by unfold frs;rw[QM,hf];exact Ji _ hb)) hr⟩
 exact all X.outer (λ_ hb=>hb) I.ok.funs
theorem Inv.stack(I:Inv X p4 σ H s):s.heap.FunFrames X.base X.stack:=by
 rcases I.ok.stk with e|⟨e,hf⟩
 ·rw[e];exact I.funs
 ·rw[e];let⟨m,hn,_⟩:=I.loc;refine .cons (by rw[I.ok.kind];decide) hf hn ?_ I.funs;exact Heap.get?_none_of_le (Jp I.ok.bsz I.ok.above)
def Inv.stkSub(I:Inv X p4 σ H s):∀b∈frs X.stack,b∈X.env.locals::X.fs:=λb hb=>by
 rcases I.ok.stk with e|⟨e,hf⟩
 ·rw[e]at hb;exact Ji _ hb
 ·rw[e]at hb;unfold frs at hb;rw[QM,hf]at hb;exact hb
def Inv.stkFree(I:Inv X p4 σ H s):∀b∈frs X.stack,H b=none:=λb hb=>by
 rcases JJ.mp (I.stkSub b hb)with e|hb
 ·rw[e];exact I.free
 ·let⟨_,o,ho,_⟩:=I.ok.funs.mem hb;exact I.base.free b o ho (I.ok.frf b hb) λz=>I.ok.exfs b z hb
def Inv.step{g':Array GenState}{d':Drawn}{ch:U Addr}(I:Inv X p4 σ H s)(hch:∀b∈ch,(b∈X.ex\/X.s₀.heap.objs.size<=b)/\b≠X.env.locals/\(∀x c,X.env.cells.lookup x=some c->c≠b)/\∀p∈X.pn++p4,p.1≠b)(keep:∀b o,b≠X.env.locals->b∉X.fs->b∉ch->s.heap.get? b=some o->H b=none->h'.get? b=some o)(slot:∀b o,b≠X.env.locals->b∈X.fs->b∉ch->s.heap.get? b=some o->H b=none->∃sl,h'.get? b=some {o with slots:=sl})(free:∀b o,b∉ch->s.heap.get? b=some o->H b=none->H' b=none)(there:∀b o,b∉ch->s.heap.get? b=some o->∃o',h'.get? b=some o')(tups:∀b xs,H b=some (.tup xs)->H' b=some (.tup xs))(frzs:∀b o u,H b=some (.frz o u)->H' b=some (.frz o u))(tbls:∀b ps,H b=some (.tbl ps)->∃more,H' b=some (.tbl (ps++more)))(ns:∀m,s.heap.Ns X.env.locals m->h'.Ns X.env.locals m)(hok:HOk X.prog X.w H' h')(hg:AllBare g'):
  Inv X p4 σ H' {s with heap:=h',gens:=g',drawn:=d',toks:=t'}:=by
 have neL:∀b o,X.s₀.heap.get? b=some o->b≠X.env.locals:=λb o e=>Jo (Jn (Jb e) I.ok.above)
 have neC:∀b o,X.s₀.heap.get? b=some o->b∉X.ex->b∉ch:=λb o e hx hb=>by
  rcases(hch b hb).1 with z|z
  ·exact hx z
  ·exact absurd (Jn (Jb e) z) (JW _)
 have cellK:∀x c,X.env.cells.lookup x=some c->∀v,s.heap.IsCell c v->h'.IsCell c v:=λx c e v ⟨o,ho,hd⟩=>by
  have nch:=λz=>(hch c z).2.2.1 x c e rfl
  by_cases hc:c∈X.fs
  ·let⟨sl,q⟩:=slot c o (I.cne x c e) hc nch ho (I.freeC x c e);exact⟨_,q,hd⟩
  ·exact⟨o,keep c o (I.cne x c e) hc nch ho (I.freeC x c e),hd⟩
 refine⟨I.ok,I.os,hg,⟨λb o e n hb hx=>?_,λb o e n hb hx=>?_,λb o e n hx=>?_,λb o e hx=>?_,λb xs e=>tups b xs (I.base.tups b xs e),λb o xs e=>frzs b o xs (I.base.frzs b o xs e),λb ps e=>?_⟩,?_,λx c e=>?_,?_,λx c e=>?_,λp hp=>?_,hok,I.len⟩
 ·exact keep b o (neL b o e) hb (neC b o e hx) (I.base.keep b o e n hb hx) (I.base.free b o e n hx)
 ·let⟨sl,e1⟩:=I.base.slot b o e n hb hx;let⟨sl',e2⟩:=slot b _ (neL b o e) hb (neC b o e hx) e1 (I.base.free b o e n hx);exact⟨sl',e2⟩
 ·let⟨o',e1⟩:=I.base.there b o e hx;exact free b o' (neC b o e hx) e1 (I.base.free b o e n hx)
 ·let⟨o',e1⟩:=I.base.there b o e hx;exact there b o' (neC b o e hx) e1
 ·let⟨m1,e1⟩:=I.base.tbls b ps e;grind
 ·let⟨m,hn,hl⟩:=I.loc;refine⟨m,ns m hn,λi x v e1 e2 e3=>?_⟩;let⟨u,r,l⟩:=hl i x v e1 e2 e3;refine⟨u,r,?_⟩;rcases l with l|⟨k,c,e,z⟩
  ·exact .inl l
  ·exact .inr ⟨k,c,e,cellK x c e _ z⟩
 ·let⟨v,z⟩:=I.cell x c e;exact⟨v,cellK x c e v z⟩
 ·let⟨m,⟨o,_,_,ho,_⟩,_⟩:=I.loc;exact free _ o (λz=>(hch _ z).2.1 rfl) ho I.free
 ·let⟨v,o,ho,hd⟩:=I.cell x c e;exact free c o (λz=>(hch c z).2.2.1 x c e rfl) ho (I.freeC x c e)
 ·let⟨e,n,ne,nf,d⟩:=I.pin p hp;have nch:p.1∉ch:=λz=>(hch p.1 z).2.2.2 p hp rfl
  exact⟨keep p.1 p.2 ne nf nch e n,free p.1 p.2 nch e n,ne,nf,d⟩
theorem Inv.un(I:Inv X p4 σ H s)(u:Un X.fs [] H H' s.heap h')(hok:HOk X.prog X.w H' h'):Inv X p4 σ H' {s with heap:=h',toks:=t'}:=by
 let⟨m,⟨o,es,ep,ho,r⟩,_⟩:=id I.loc;let⟨sl,hL⟩:=u.any ho I.free (by simp);exact I.step (ch:=[]) (λ_ z=>nomatch z) (λb o _ hb _ e n=>u.keep b o e n hb (by simp)) (λb o _ hb _ e n=>u.slot b o e n hb (by simp)) (λb o _ e n=>u.free b o e n (by simp)) (λb o _ e=>u.there b o e (by simp)) u.tups u.frzs u.tbls (λm' hm=>by
  let⟨o',es',ep',ho',r'⟩:=hm;rw[ho]at ho';cases ho'
  exact⟨_,es',ep',hL,r'⟩) hok I.bare
theorem Inv.call{g':Array GenState}{d':Drawn}{ch:U Addr}(I:Inv X p4 σ H s)(u:Un (frs X.stack) ch H H' s.heap h')(hok:HOk X.prog X.w H' h')(hg:AllBare g')(hch:∀b∈ch,(b∈X.ex\/X.s₀.heap.objs.size<=b)/\b≠X.env.locals/\(∀x c,X.env.cells.lookup x=some c->c≠b)/\∀p∈X.pn++p4,p.1≠b):
  Inv X p4 σ H' {s with heap:=h',gens:=g',drawn:=d',toks:=t'}:=by
 let⟨m,⟨o,es,ep,ho,r⟩,_⟩:=id I.loc;let⟨sl,hL⟩:=u.any ho I.free λz=>(hch _ z).2.1 rfl
 exact I.step hch (λb o hL hb hc e n=>u.keep b o e n (λz=>(JJ.mp (I.stkSub b z)).elim hL hb) hc) (λb o _ _ hc e n=>u.any e n hc) (λb o hc e n=>u.free b o e n hc) (λb o hc e=>u.there b o e hc) u.tups u.frzs u.tbls (λm' hm=>by
  let⟨o',es',ep',ho',r'⟩:=hm;rw[ho]at ho';cases ho'
  exact⟨_,es',ep',hL,r'⟩) hok hg
def Inv.turned{t':Nat}{it:Addr}(I:Inv X p4 σ H s)(k:∀b o,b≠it->s.heap.get? b=some o->h'.get? b=some o)(hn:H it=none)(hL:it≠X.env.locals)(h1:it∈X.ex\/X.s₀.heap.objs.size<=it)(h2:∀x c,X.env.cells.lookup x=some c->c≠it)(h3:∀p∈X.pn++p4,p.1≠it):Inv X p4 σ H {s with heap:=h',toks:=t'}:=by
 have nit:∀b u,H b=some u->b≠it:=λb u e z=>by rw[z,hn]at e;cases e
 refine I.step (g':=s.gens) (d':=s.drawn) (ch:=[it]) (λb hb=>?_) (λb o _ _ hc e _=>k b o (λz=>hc (by simp[z])) e) (λb o _ _ hc e _=>⟨o.slots,k b o (λz=>hc (by simp[z])) e⟩) (λ_ _ _ _ n=>n)
  (λb o hc e=>⟨o,k b o (λz=>hc (by simp[z])) e⟩) (λ_ _ e=>e) (λ_ _ _ e=>e) (λb ps e=>⟨#[],by rw[e];simp⟩) (λm hm=>?_) (λb u e=>?_) I.bare
 ·have e:b=it:=by simpa using hb
  subst e;exact⟨h1,hL,h2,h3⟩
 ·let⟨o,es,ep,ho,r⟩:=hm;exact⟨o,es,ep,k _ o (Ne.symm hL) ho,r⟩
 ·refine(I.hok b u e).stay (λc v hc q=>k c v ?_ q) (λ_ q=>q) λ_ _ q=>q
  rcases hc with z|z
  ·rw[z];exact nit b u e
  ·exact nit c _ z
def Inv.tok(I:Inv X p4 σ H s)(t:Nat):Inv X p4 σ H {s with toks:=t}:=I.un Un.refl I.hok
theorem Inv.kept{t':Nat}(I:Inv X p4 σ H s)(k:∀b u,s.heap.get? b=some u->h'.get? b=some u):Inv X p4 σ H {s with heap:=h',toks:=t'}:=I.un (Un.kept k) (I.hok.kept k)
theorem Inv.laid{a:Addr}{o:HO}{t':Nat}(I:Inv X p4 σ H s)(k:∀b u,s.heap.get? b=some u->h'.get? b=some u)(hp:s.heap.objs.size<=a)(new:kX X.prog X.w (upd H a o) h' a o):
  Inv X p4 σ (upd H a o) {s with heap:=h',toks:=t'}:=I.un (Un.laid k hp (I.hok.fresh hp)) (I.hok.laid k hp new)
theorem Inv.write{x e:Addr}{o:HO}{t':Nat}(I:Inv X p4 σ H s)(mu:Mut (H x))(he:e=x\/H e=some (.own x))(k:∀b u,b≠e->s.heap.get? b=some u->h'.get? b=some u)(heo:∃u,h'.get? e=some u)(new:kX X.prog X.w (upd H x o) h' x o):Inv X p4 σ (upd H x o) {s with heap:=h',toks:=t'}:=I.un (Un.write mu he k heo) (I.hok.write mu he k heo new)
def Inv.pins_of{pins':AO}(I:Inv X p4 σ H s)(h:∀p∈pins',s.heap.get? p.1=some p.2/\H p.1=none/\p.1≠X.env.locals/\p.1∉X.fs/\∀v,p.2.data≠.cell v):Inv X pins' σ H s:=
 ⟨I.ok,I.os,I.bare,I.base,I.loc,I.cell,I.free,I.freeC,λp hp=>(Qe.mp hp).elim (λz=>I.pin p (JP _ z)) (h p),I.hok,I.len⟩
def zjd(hN:N.Nodup)(a:N[i]?=some x)(b:N[j]?=some x):i=j:=by let⟨h1,e1⟩:=List.getElem?_eq_some_iff.mp a;let⟨h2,e2⟩:=List.getElem?_eq_some_iff.mp b;exact(List.getElem_inj hN).mp (e1.trans e2.symm)
theorem zgy{v:V}(I:Inv X p4 σ H s)(hN:X.N.Nodup)(hi:X.N[i]?=some x)(hx:Loc X.env.scope x)(r:zR v u)(h:∀s',Inv X p4 (σ.set i (some v)) H s'->(∃a,Heap.SameBut a s.heap s'.heap/\(a=X.env.locals\/X.env.cells.lookup x=some a))->Q () s')(hf:K0 (Y0 7)):wpAny M A (storeName X.env x u) Q E s:=by
 let⟨m,hn,hl⟩:=id I.loc;have hcls:(X.env.scope.kind== .class||(X.env.scope.kind== .module&&X.env.locals !=X.env.globals))=false:=by rw[I.ok.kind];rfl
 have hiσ:i<σ.length:=by rw[I.len];exact(List.getElem?_eq_some_iff.mp hi).1
 have cne:=I.cne;have tracked:∀{a:Addr}{h':Heap},(∃o,s.heap.get? a=some o/\H a=none)->Heap.SameBut a s.heap h'->HOk X.prog X.w H h':=λ{a h'} ha hs b ob e=>by
  refine(I.hok b ob e).stay (λc w' hc q=>(hs.2 c ?_).trans q) (λ_ q=>q) λ_ _ q=>q
  grind
 rcases hx with hk|hk
 ·refine wpAny_storeName_local hk hn (λh' hn' hs=>?_) hcls;let⟨oL,_,_,hoL,_⟩:=id hn;refine h _ ⟨I.ok,I.os,I.bare,⟨λb o e n hb hx=>?_,λb o e n hb hx=>?_,I.base.free,λb o e hx=>?_,I.base.tups,I.base.frzs,I.base.tbls⟩,⟨_,hn',λj y v' e1 e2 e3=>?_⟩,λy c e=>?_,I.free,I.freeC,λp hp=>?_,tracked ⟨oL,hoL,I.free⟩ hs,by simpa using I.len⟩ ⟨_,hs,.inl rfl⟩
  ·exact(hs.2 b (Jo (Jn (Jb e) I.ok.above))).trans (I.base.keep b o e n hb hx)
  ·let⟨sl,e1⟩:=I.base.slot b o e n hb hx;exact⟨sl,(hs.2 b (Jo (Jn (Jb e) I.ok.above))).trans e1⟩
  ·let⟨o',e1⟩:=I.base.there b o e hx;exact⟨o',(hs.2 b (Jo (Jn (Jb e) I.ok.above))).trans e1⟩
  ·by_cases hj:j=i
   ·subst hj;rw[hi]at e1;cases e1
    rw[List.getElem?_set_self hiσ]at e2;cases e2
    exact⟨u,r,.inl ⟨hk,by simp⟩⟩
   ·rw[List.getElem?_set_ne (Ne.symm hj)]at e2;let⟨u',r',q⟩:=hl j y v' e1 e2 e3;refine⟨u',r',?_⟩;rcases q with⟨k,e⟩|⟨k,c,e,z⟩
    ·refine .inl ⟨k,?_⟩
     have:y≠x:=λe=>hj (zjd hN e1 (e▸hi))
     simp[this,e]
    ·exact .inr ⟨k,c,e,z.sameBut hs (cne y c e)⟩
  ·let⟨w',z⟩:=I.cell y c e;exact⟨w',z.sameBut hs (cne y c e)⟩
  ·let⟨e,n,ne,nf,d⟩:=I.pin p hp;exact⟨(hs.2 p.1 ne).trans e,n,ne,nf,d⟩
 ·have hfn:X.fn x=true:=by simp_all
  let⟨c,hc⟩:=I.ok.has x (.inl hk);let⟨w',z⟩:=I.cell x c hc;refine wpAny_storeName_cell I.ok.kind hk hc z (λh' hc' hs=>?_);let⟨oc,hoc,hocd⟩:=id z;refine h {s with heap:=h'} ⟨I.ok,I.os,I.bare,⟨λb o e n hb hx=>?_,λb o e n hb hx=>?_,I.base.free,λb o e hx=>?_,I.base.tups,I.base.frzs,I.base.tbls⟩,⟨m,hn.sameBut hs (Ne.symm (cne x c hc)),λj y v' e1 e2 e3=>?_⟩,λy c' e=>?_,I.free,I.freeC,λp hp=>?_,tracked ⟨oc,hoc,I.freeC x c hc⟩ hs,by simpa using I.len⟩ ⟨c,hs,.inr hc⟩
  ·exact(hs.2 b (Jo (Jn (Jb e) (I.ok.cab x c hfn hc)))).trans (I.base.keep b o e n hb hx)
  ·let⟨sl,e1⟩:=I.base.slot b o e n hb hx;exact⟨sl,(hs.2 b (Jo (Jn (Jb e) (I.ok.cab x c hfn hc)))).trans e1⟩
  ·let⟨o',e1⟩:=I.base.there b o e hx;exact⟨o',(hs.2 b (Jo (Jn (Jb e) (I.ok.cab x c hfn hc)))).trans e1⟩
  ·by_cases hj:j=i
   ·subst hj;rw[hi]at e1;cases e1
    rw[List.getElem?_set_self hiσ]at e2;cases e2
    exact⟨u,r,.inr ⟨.inl hk,c,hc,hc'⟩⟩
   ·rw[List.getElem?_set_ne (Ne.symm hj)]at e2;let⟨u',r',q⟩:=hl j y v' e1 e2 e3;refine⟨u',r',?_⟩;rcases q with q|⟨k,c',e,z'⟩
    ·exact .inl q
    ·refine .inr ⟨k,c',e,z'.sameBut hs ?_⟩;rintro rfl;exact hj (zjd hN e1 (I.ok.inj _ _ _ e hc▸hi))
  ·by_cases hcc:c'=c
   ·grind
   ·let⟨w2,z2⟩:=I.cell y c' e;exact⟨w2,z2.sameBut hs hcc⟩
  ·let⟨e,n,ne,nf,d⟩:=I.pin p hp;refine⟨(hs.2 p.1 ?_).trans e,n,ne,nf,d⟩;grind
def ziL{v:V}(I:Inv X p4 σ H s)(hN:X.N.Nodup)(hi:X.N[i]?=some x)(hx:Loc X.env.scope x)(r:zR v u)(h:∀s',Inv X p4 (σ.set i (some v)) H s'->Q () s')(hf:K0 (Y0 7)):wpAny M A (storeName X.env x u) Q E s:=
 zgy I hN hi hx r (λs' I' _=>h s' I') hf
def Inv.call'{ch:U Addr}(I:Inv X p4 σ H s)(ho:s'.os=s.os)(u:Un (frs X.stack) ch H H' s.heap s'.heap)(hok:HOk X.prog X.w H' s'.heap)(hg:AllBare s'.gens)(hch:∀b∈ch,(b∈X.ex\/X.s₀.heap.objs.size<=b)/\b≠X.env.locals/\(∀x c,X.env.cells.lookup x=some c->c≠b)/\∀p∈X.pn++p4,p.1≠b):Inv X p4 σ H' s':=by let⟨h',g',d',t',o'⟩:=s';have e:=ho;subst e;exact I.call u hok hg hch
end
abbrev XK:=Value->Option Addr->Hp->Prop
abbrev St:=U (Option V)
abbrev VK:=V->Hp->Prop
abbrev TE:=St->Hp->VK->Prop
abbrev TT:=St->Hp->(Bool->Hp->Prop)->Prop
abbrev TA:=St->Hp->(U V->Hp->Prop)->Prop
structure Ends where
 nx:St->Hp->Prop
 rt:VK
 bk:St->Hp->Prop:=λ_ _=>False
 ct:St->Hp->Prop:=λ_ _=>False
abbrev TS:=Ends->St->Hp->Prop
def EP(X:Cx)(p4:AO)(σ:St)(Q:VK)(u:Value)(s':Shared):Prop:=∃v H',Inv X p4 σ H' s'/\zR v u/\Q v H'
def TP(X:Cx)(p4:AO)(σ:St)(Q:Bool->Hp->Prop)(b:Bool)(s':Shared):Prop:=∃H',Inv X p4 σ H' s'/\Q b H'
def AP(X:Cx)(p4:AO)(σ:St)(Q:U V->Hp->Prop)(us:U Value)(s':Shared):Prop:=∃vs H',Inv X p4 σ H' s'/\zN vs us/\Q vs H'
def SP(X:Cx)(p4:AO)(D:Ends)(f:Flow)(s':Shared):Prop:=
 match f with
 | .next=>∃σ' H',Inv X p4 σ' H' s'/\D.nx σ' H'
 | .brk=>∃σ' H',Inv X p4 σ' H' s'/\D.bk σ' H'
 | .cont=>∃σ' H',Inv X p4 σ' H' s'/\D.ct σ' H'
 | .ret u=>∃v σ' H',Inv X p4 σ' H' s'/\zR v u/\D.rt v H'
def PE(X:Cx)(e:Expr)(t:TE):Prop:=
 ∀(p4:AO) (s:Shared) (σ:St) (H:Hp) (Q:VK),Inv X p4 σ H s->t σ H Q->wpAny (Y0 1) X.A (eval e X.env) (EP X p4 σ Q) X.xe s
def PT(X:Cx)(e:Expr)(t:TT):Prop:=
 ∀(p4:AO) (s:Shared) (σ:St) (H:Hp) (Q:Bool->Hp->Prop),Inv X p4 σ H s->t σ H Q->wpAny (Y0 1) X.A (isTrue e X.env (eval e X.env)) (TP X p4 σ Q) X.xe s
def PW(X:Cx)(e:Expr)(t:TT):Prop:=
 ∀(whole:Sem Value) (p4:AO) (s:Shared) (σ:St) (H:Hp) (Q:Bool->Hp->Prop),Inv X p4 σ H s->t σ H Q->wpAny (Y0 1) X.A (isTrue e X.env whole) (TP X p4 σ Q) X.xe s
variable{X:Cx}{e:Expr}
def PW.pt{t:TT}(h:PW X e t):PT X e t:=h _
def PA(X:Cx)(es:U Expr)(t:TA):Prop:=
 ∀(pos:Pos) (p4:AO) (s:Shared) (σ:St) (H:Hp) (Q:U V->Hp->Prop),Inv X p4 σ H s->t σ H Q->wpAny (Y0 1) X.A (spliced (backTo pos (starEach es X.env))) (AP X p4 σ Q) X.xe s
def PS(X:Cx)(st:Stmt)(t:TS):Prop:=
 ∀(p4:AO) (s:Shared) (σ:St) (H:Hp) (D:Ends),Inv X p4 σ H s->t D σ H->wpAny (Y0 1) X.A (exec st X.env) (SP X p4 D) X.xe s
def PSs(X:Cx)(st:U Stmt)(t:TS):Prop:=
 ∀(p4:AO) (s:Shared) (σ:St) (H:Hp) (D:Ends),Inv X p4 σ H s->t D σ H->wpAny (Y0 1) X.A (execs st X.env) (SP X p4 D) X.xe s
variable{s:Shared}
def thn{t:Sem α}{Q Q':α->Shared->Prop}(h:wpAny M A t Q E s)(hQ:∀a s,Q a s->Q' a s):wpAny M A t Q' E s:=JQ h hQ λ_ _ x=>x
variable{t:TE}{p4:AO}{σ:St}{pos:Pos}
section
variable{X:Cx}
def tVar(i:Nat):TE:=λσ H Q=>∃v,σ[i]?=some (some v)/\Q v H
def tC(v:V):TE:=λ_ H Q=>Q v H
def xQ{pos:Pos}(hN:X.N[i]?=some x)(hv:Vis X.env.scope x)(hd:C0 (Y0 2))(hcd:C0 (Y0 4)):PE X (.Name x pos) (tVar i):=by
 intro p4 s σ H Q I h;let⟨v,e,h⟩:=h;let⟨m,hn,hl⟩:=I.loc;let⟨u,r,l⟩:=hl i x v hN e hv;have fin:EP X p4 σ Q u s:=⟨v,H,I,r,h⟩;rcases l with⟨hk,hm⟩|⟨hk,c,hc,hcell⟩
 ·exact wpAny_Name (wpAny_loadName_local I.ok.kind hk hn hm fin) hd
 ·rcases hk with hk|hk
  ·exact wpAny_Name (wpAny_loadName_cell I.ok.kind hk hc hcell fin) hd
  ·exact wpAny_Name (wpAny_loadName_free I.ok.kind hk hc hcell fin hcd) hd
def zsw{i j pos}:PE X (.Constant (.int i) j pos) (tC (.int i)):=λ_ _ _ H _ I h=>wpAny_Constant_int ⟨.int i,H,I.tok _,⟨_,rfl⟩,h⟩
def zux{b j pos}:PE X (.Constant (.bool b) j pos) (tC (.bl b)):=λ_ _ _ H _ I h=>Constant_bool ⟨.bl b,H,I,rfl,h⟩
def zsu{j pos}:PE X (.Constant .none j pos) (tC .non):=λ_ _ _ H _ I h=>Constant_none ⟨.non,H,I,rfl,h⟩
def zsp{x j pos}:PE X (.Constant (.str x) j pos) (tC (.str x)):=λ_ _ _ H _ I h=>Calls.Constant_str ⟨.str x,H,I.tok _,⟨_,rfl⟩,h⟩
def Gl(X:Cx)(x:Str):Prop:=X.env.kindOf x=some .globalImplicit
def zqT{Q:Vs}(I:Inv X p4 σ H s)(hg:Gl X x)(hm:X.mg x=some u)(h:Q u s)(hd:C0 (Y0 2)):wpAny (Y0 1) X.A (eval (.Name x pos) X.env) Q E s:=
 Calls.Name_function_global I.ok.kind hg (Calls.loadGlobal_global (by rw[I.ok.glob];exact I.mod.glob.keeps I.bk) hm h) hd
def vU{Q:Vs}(I:Inv X p4 σ H s)(hg:Gl X x)(hm:X.mg x=none)(hv:bootBuiltins x=some u)(h:Q u s)(hn:C0 (x≠"__name__"))(hd:C0 (Y0 2)):wpAny (Y0 1) X.A (eval (.Name x pos) X.env) Q E s:=by let⟨mb,h1,h2⟩:=I.mod.blt;exact Calls.Name_function_global I.ok.kind hg (Calls.loadGlobal_builtin (by rw[I.ok.glob];exact I.mod.glob.keeps I.bk) hm (by rw[I.ok.blt];exact h1.keeps I.bk) ((h2 x hn).trans hv) h) hd
def zqE{v:V}(hg:Gl X x)(hm:X.mg x=none)(hv:bootBuiltins x=some u)(r:zR v u)(hn:C0 (x≠"__name__"))(hd:C0 (Y0 2)):PE X (.Name x pos) (tC v):=
 λ_ _ _ H _ I h=>vU I hg hm hv ⟨v,H,I,r,h⟩ hn hd
variable{a b:Expr}{ta tb:TE}{pos:Pos}
def tB(t:TE):TT:=λσ H Q=>t σ H λx H1=>∃c,x=.bl c/\Q c H1
def zse(h:PE X e t)(he:G0 (∀whole,isTrue e X.env whole=(do let v ←whole;standAt e.pos;holding [v] (truthy v)))):PT X e (tB t):=by
 intro p4 s σ H Q I hw;refine isTrue_plain (thn (h p4 s σ H _ I hw) λv s1 ⟨x,H1,I1,r1,q1⟩=>?_) (he _);let⟨d,rfl,q⟩:=q1;cases r1
 exact QJ ⟨H1,I1,q⟩
variable{tA tB':TT}{rest:U Expr}
def tAnd(t u:TT):TT:=λσ H Q=>t σ H λc H1=>if c=true then u σ H1 Q else Q false H1
def tOr(t u:TT):TT:=λσ H Q=>t σ H λc H1=>if c=true then Q true H1 else u σ H1 Q
def tNot(t:TT):TT:=λσ H Q=>t σ H λc H1=>Q (!c) H1
def zlz(ha:PT X a tA):PW X (.BoolOp .And [a] pos) tA:=by
 intro wh p4 s σ H Q I h;refine isTrue_and (thn (ha p4 s σ H Q I h) λc s1 e=>?_);cases c with
 |true=>exact isTrue_and_nil e
 |false=>exact e
def zsc(ha:PT X a tA):PW X (.BoolOp .Or [a] pos) tA:=by
 intro wh p4 s σ H Q I h;refine isTrue_or (thn (ha p4 s σ H Q I h) λc s1 e=>?_);cases c with
 |false=>exact isTrue_or_nil e
 |true=>exact e
def ziR(ha:PT X a tA)(hb:PW X (.BoolOp .And (b::rest) pos) tB'):PW X (.BoolOp .And (a::b::rest) pos) (tAnd tA tB'):=by
 intro wh p4 s σ H Q I h;refine isTrue_and (thn (ha p4 s σ H _ I h) λc s1 ⟨H1,I1,q1⟩=>?_);cases c with
 |true=>exact hb wh p4 s1 σ H1 Q I1 q1
 |false=>exact⟨H1,I1,q1⟩
def zsd(ha:PT X a tA)(hb:PW X (.BoolOp .Or (b::rest) pos) tB'):PW X (.BoolOp .Or (a::b::rest) pos) (tOr tA tB'):=by
 intro wh p4 s σ H Q I h;refine isTrue_or (thn (ha p4 s σ H _ I h) λc s1 ⟨H1,I1,q1⟩=>?_);cases c with
 |true=>exact⟨H1,I1,q1⟩
 |false=>exact hb wh p4 s1 σ H1 Q I1 q1
def zsf(ha:PT X a tA):PT X (.UnaryOp .Not a pos) (tNot tA):=by intro p4 s σ H Q I h;exact isTrue_not (ha p4 s σ H (λc H1=>Q (!c) H1) I h)
def zuf(ta tb:TE):TE:=λσ H Q=>ta σ H λx H1=>∃c,x=.bl c/\if c=true then tb σ H1 Q else Q (.bl false) H1
def tOrV(ta tb:TE):TE:=λσ H Q=>ta σ H λx H1=>∃c,x=.bl c/\if c=true then Q (.bl true) H1 else tb σ H1 Q
def zst{op}(h:PE X a t):PE X (.BoolOp op [a] pos) t:=λp4 s σ H Q I hw=>BoolOp_one (h p4 s σ H Q I hw)
def zpE(ha:PE X a ta)(hb:PE X (.BoolOp .And (b::rest) pos) tb):PE X (.BoolOp .And (a::b::rest) pos) (zuf ta tb):=by
 intro p4 s σ H Q I h;refine BoolOp_and (thn (ha p4 s σ H _ I h) λv s1 ⟨x,H1,I1,r1,q1⟩=>?_);let⟨c,rfl,q1⟩:=q1;cases r1
 refine QJ ?_;cases c with
 |true=>exact hb p4 s1 σ H1 Q I1 q1
 |false=>exact⟨.bl false,H1,I1,rfl,q1⟩
def zss(ha:PE X a ta)(hb:PE X (.BoolOp .Or (b::rest) pos) tb):PE X (.BoolOp .Or (a::b::rest) pos) (tOrV ta tb):=by
 intro p4 s σ H Q I h;refine BoolOp_or (thn (ha p4 s σ H _ I h) λv s1 ⟨x,H1,I1,r1,q1⟩=>?_);let⟨c,rfl,q1⟩:=q1;cases r1
 refine QJ ?_;cases c with
 |false=>exact hb p4 s1 σ H1 Q I1 q1
 |true=>exact⟨.bl true,H1,I1,rfl,q1⟩
end
def SqL(K:Fg)(H:Hp)(a:Addr)(xs:U V):Prop:=
 Rd H a (.lst xs)\/
  ∃(o:Obj) (p6:Array Value) (n:Nat),K.lookup a=some o/\o.cls=.type "list"/\o.dict=none/\o.data=.seq p6 n/\p6.size<=sizeLine/\zN xs p6.toList
def SqT(K:Fg)(H:Hp)(a:Addr)(xs:U V):Prop:=
 Rd H a (.tup xs)\/
  ∃(o:Obj) (p6:Array Value) (n:Nat),K.lookup a=some o/\o.cls=.type "tuple"/\o.data=.seq p6 n/\p6.size<=sizeLine/\zN xs p6.toList
noncomputable def absV:Value->Option V
 | .none=>some .non
 | .bool b=>some (.bl b)
 | .int i _=>some (.int i)
 | .str x _=>some (.str x)
 | .bytes b _=>some (.byt b)
 | .float b _=>some (.flt b)
 | .ref a=>some (.ref a)
 | .type n=>some (.ty n)
 |_=>none
def zR.abs{x:V}(r:zR x u):absV u=some x:=by
 cases x with
 |non=>cases r;rfl
 |bl _=>cases r;rfl
 |int _=>let⟨t,rfl⟩:=r;rfl
 |str _=>let⟨t,rfl⟩:=r;rfl
 |byt _=>let⟨t,rfl⟩:=r;rfl
 |flt _=>let⟨t,rfl⟩:=r;rfl
 |ref _=>cases r;rfl
 |ty _=>cases r;rfl
theorem zR.inj{x y:V}(r:zR x u)(q:zR y u):x=y:=Option.some.inj (r.abs.symm.trans q.abs)
theorem zN.inj:∀{xs ys:U V}{us:U Value},zN xs us->zN ys us->xs=ys
 |_,_,_,.nil,.nil=>rfl
 |_,_,_,.cons r t,.cons r' t'=>by rw[r.inj r',zN.inj t t']
variable{K:Fg}
section
variable{X:Cx}{p4:AO}{σ:St}{H:Hp}{s:Shared}{a:Addr}{xs ys:U V}
def SqL.of(h:H a=some (.lst xs)):SqL K H a xs:=.inl (.inl h)
def SqT.of(h:H a=some (.tup xs)):SqT K H a xs:=.inl (.inl h)
def Inv.list(I:Inv X p4 σ H s)(h:SqL X.K H a xs):∃p6:U Value,zN xs p6/\PlainL s.heap a p6.toArray/\xs.length<=sizeLine:=by
 rcases h with h|⟨o,p6,n,hk,hc,hd,hs,hz,r⟩
 ·let⟨z,p6,n,r,e⟩:=h.ok I.hok;exact⟨p6,r,⟨_,n,e,rfl,rfl,rfl⟩,z⟩
 ·refine⟨p6.toList,r,⟨o,n,I.kIn a o hk,hc,hd,by trivial⟩,?_⟩;have e:=r.length;simp only[Array.length_toList]at e;simp[*]
def Inv.tuple(I:Inv X p4 σ H s)(h:SqT X.K H a xs):∃p6:U Value,zN xs p6/\IsTup s.heap a p6.toArray/\xs.length<=sizeLine:=by
 rcases h with h|⟨o,p6,n,hk,hc,hs,hz,r⟩
 ·let⟨z,p6,r,p⟩:=h.ok I.hok;exact⟨p6,r,p,z⟩
 ·refine⟨p6.toList,r,⟨o,I.kIn a o hk,hc,n,by trivial⟩,?_⟩;grind [zN.length,Array.length_toList]
def Inv.list_inj(I:Inv X p4 σ H s)(h:SqL X.K H a xs)(h':SqL X.K H a ys):xs=ys:=by
 let⟨p6,r,⟨o,n,e,_,_,d⟩,_⟩:=I.list h;let⟨its',r',⟨o',n',e',_,_,d'⟩,_⟩:=I.list h';rw[e]at e';cases e'
 rw[d]at d';injection d' with d1 _
 have:p6=its':=by simpa using JT Array.toList d1
 subst this;exact r.inj r'
def Inv.tuple_inj(I:Inv X p4 σ H s)(h:SqT X.K H a xs)(h':SqT X.K H a ys):xs=ys:=by
 let⟨p6,r,⟨o,e,_,n,d⟩,_⟩:=I.tuple h;let⟨its',r',⟨o',e',_,n',d'⟩,_⟩:=I.tuple h';rw[e]at e';cases e'
 rw[d]at d';injection d' with d1 _
 have:p6=its':=by simpa using JT Array.toList d1
 subst this;exact r.inj r'
end
noncomputable abbrev Cx.wish(X:Cx)(E:Vs):Cx:={X with xe:=E}
noncomputable abbrev Cx.nox(X:Cx):Cx:=X.wish λ_ _=>False
theorem Cx.Ok.wish(ok:X.Ok)(E:Vs):(X.wish E).Ok:=
 ⟨ok.mod,ok.kind,ok.glob,ok.blt,ok.above,ok.inj,ok.has,ok.cab,ok.hd,ok.frames,ok.stk,ok.exf,ok.bs,ok.bsz,ok.noex,ok.exfs,ok.funs,ok.frf⟩
def Cx.Ok.unwish(ok:(X.wish E).Ok):X.Ok:=
 ⟨ok.mod,ok.kind,ok.glob,ok.blt,ok.above,ok.inj,ok.has,ok.cab,ok.hd,ok.frames,ok.stk,ok.exf,ok.bs,ok.bsz,ok.noex,ok.exfs,ok.funs,ok.frf⟩
section
variable{X:Cx}{p4:AO}{σ:St}{H:Hp}{s:Shared}{E:Vs}
theorem Inv.wish(I:Inv X p4 σ H s)(E:Vs):Inv (X.wish E) p4 σ H s:=⟨I.ok.wish E,I.os,I.bare,I.base,I.loc,I.cell,I.free,I.freeC,I.pin,I.hok,I.len⟩
theorem Inv.unwish(I:Inv (X.wish E) p4 σ H s):Inv X p4 σ H s:=⟨I.ok.unwish,I.os,I.bare,I.base,I.loc,I.cell,I.free,I.freeC,I.pin,I.hok,I.len⟩
theorem SP.unwish{D:Ends}{f:Flow}(h:SP (X.wish E) p4 D f s'):SP X p4 D f s':=by
 cases f with
 |next=>let⟨σ',H',I,q⟩:=h;exact⟨σ',H',I.unwish,q⟩
 |brk=>let⟨σ',H',I,q⟩:=h;exact⟨σ',H',I.unwish,q⟩
 |cont=>let⟨σ',H',I,q⟩:=h;exact⟨σ',H',I.unwish,q⟩
 |ret u=>let⟨v,σ',H',I,r,q⟩:=h;exact⟨v,σ',H',I.unwish,r,q⟩
theorem PSs.nox{st:U Stmt}{t:TS}(h:PSs X.nox st t):PSs X st t:=λp4 s σ H D I hw=>
 JQ (h p4 s σ H D (I.wish _) hw) (λ_ _ q=>q.unwish) λ_ _ z=>False.elim z
end
variable{c:Expr}{tc:TT}
section
variable{X:Cx}{st:Stmt}{rest:U Stmt}{t u:TS}{e:Expr}{te:TE}{pos:Pos}
def ztY:TS:=λD σ H=>D.nx σ H
def tSeq(t u:TS):TS:=λD σ H=>t {D with nx:=u D} σ H
def zqw:PSs X [] ztY:=λ_ _ σ H _ I h=>wpAny_execs_nil ⟨σ,H,I,h⟩
def zdt(h1:PS X st t)(h2:PSs X rest u):PSs X (st::rest) (tSeq t u):=by
 intro p4 s σ H D I h;refine wpAny_execs_cons (thn (h1 p4 s σ H {D with nx:=u D} I h) λf s1 q=>?_);cases f with
 |next=>
  let⟨σ',H',I',q⟩:=q;exact h2 p4 s1 σ' H' D I' q
 |ret v=>exact q
 |brk=>exact q
 |cont=>exact q
def zlD(h1:PS X st t):PSs X [st] t:=by
 intro p4 s σ H D I h;refine wpAny_execs_cons (thn (h1 p4 s σ H D I h) λf s1 q=>?_);cases f with
 |next=>exact wpAny_execs_nil q
 |ret v=>exact q
 |brk=>exact q
 |cont=>exact q
def zud:TS:=λD σ H=>D.ct σ H
def zhM:PS X (.Continue pos) zud:=λ_ _ σ H _ I h=>wpAny_Continue ⟨σ,H,I,h⟩
def Inv.quiet(I:Inv X p4 σ H s):interactive X.env=false:=by simp[interactive,I.ok.kind]
def zub(te:TE):TS:=λD σ H=>te σ H λ_ H1=>D.nx σ H1
def zhL(he:PE X e te)(hs:B0 (swapsWith e none pos.line X.env=pure false)):PS X (.Expr e pos) (zub te):=by intro p4 s σ H D I h;exact wpAny_Expr_any (thn (he p4 s σ H _ I h) λv s1 ⟨x,H1,I1,r1,q1⟩=>⟨σ,H1,I1,q1⟩) I.quiet hs
def tRet(te:TE):TS:=λD σ H=>te σ H D.rt
def ziU(he:PE X e te):PS X (.Return (some e) pos) (tRet te):=by intro p4 s σ H D I h;exact wpAny_Return_some (thn (he p4 s σ H _ I h) λv s1 ⟨x,H1,I1,r1,q1⟩=>⟨x,σ,H1,I1,r1,q1⟩)
def tIfS(c:TT)(t u:TS):TS:=λD σ H=>c σ H λb H1=>if b=true then t D σ H1 else u D σ H1
def zsh{a b:U Stmt}(hc:PT X c tc)(ha:PSs X a t)(hb:PSs X b u):PS X (.If c a b pos) (tIfS tc t u):=by
 intro p4 s σ H D I h;refine wpAny_If (thn (hc p4 s σ H _ I h) λd s1 ⟨H1,I1,q1⟩=>?_);cases d with
 |true=>exact ha p4 s1 σ H1 D I1 q1
 |false=>exact hb p4 s1 σ H1 D I1 q1
def zrF:TS:=λ_ _ _=>False
def zdS{sts:U Stmt}:PSs X sts zrF:=λ_ _ _ _ _ _ h=>h.elim
end
abbrev TG:=V->St->Hp->(St->Hp->Prop)->Prop
abbrev TGs:=U V->St->Hp->(St->Hp->Prop)->Prop
def PG(X:Cx)(target:Expr)(t:TG):Prop:=
 ∀(p4:AO) (s:Shared) (σ:St) (H:Hp) (v:V) (u:Value) (Q:St->Hp->Prop),Inv X p4 σ H s->zR v u->t v σ H Q->
  wpAny (Y0 1) X.A (assign target X.env u) (λ_ s'=>∃σ' H',Inv X p4 σ' H' s'/\Q σ' H') X.xe s
def PGs(X:Cx)(ts:U Expr)(t:TGs):Prop:=
 ∀(p4:AO) (s:Shared) (σ:St) (H:Hp) (vs:U V) (us:U Value) (Q:St->Hp->Prop),Inv X p4 σ H s->zN vs us->t vs σ H Q->
  wpAny (Y0 1) X.A (assignInOrder ((assignEach ts X.env).map (·.2)) us) (λ_ s'=>∃σ' H',Inv X p4 σ' H' s'/\Q σ' H') X.xe s
abbrev TSet:=V->V->V->Hp->(Hp->Prop)->Prop
def PSet(X:Cx)(t:TSet):Prop:=
 ∀(p4:AO) (s:Shared) (σ:St) (H:Hp) (o i v:V) (ov iv u:Value) (Q:Hp->Prop),Inv X p4 σ H s->zR o ov->zR i iv->zR v u->t o i v H Q->
  wpAny (Y0 1) X.A (setItem ov iv u) (λ_ s'=>∃H',Inv X p4 σ H' s'/\Q H') X.xe s
variable{es:U Expr}{n:Nat}{tg:Expr}{te:TE}
section
variable{X:Cx}{pos:Pos}
def zoN(i:Nat):TG:=λv σ H Q=>Q (σ.set i (some v)) H
def zlK(hN:X.N.Nodup)(hi:X.N[i]?=some x)(hx:Loc X.env.scope x)(hf:K0 (Y0 7)):PG X (.Name x pos) (zoN i):=by intro p4 s σ H v u Q I r h;exact wpAny_assign_Name (ziL I hN hi hx r (λs' I'=>⟨_,H,I',h⟩) hf)
def qH:TGs:=λvs σ H Q=>vs=[]/\Q σ H
def zM(t:TG)(u:TGs):TGs:=λvs σ H Q=>∃v r,vs=v::r/\t v σ H λσ' H'=>u r σ' H' Q
def zqA:PGs X [] qH:=by
 intro p4 s σ H vs us Q I r h;let⟨e,h⟩:=h;subst e;cases r
 exact assignInOrder_nil ⟨σ,H,I,h⟩
def zog{t:TG}{u:TGs}(h1:PG X e t)(h2:PGs X es u)(hs:B0 ((assignEach (e::es) X.env).map (·.2)=assign e X.env::(assignEach es X.env).map (·.2))):PGs X (e::es) (zM t u):=by
 intro p4 s σ H vs us Q I r h;let⟨v,vr,e1,h⟩:=h;subst e1;cases r with
 |cons r rr=>
  rw[hs];refine assignInOrder_cons (thn (h1 p4 s σ H _ _ _ I r h) λ_ s1 ⟨σ1,H1,I1,q1⟩=>?_);exact h2 p4 s1 σ1 H1 _ _ Q I1 rr q1
def qP(K:Fg)(n:Nat)(t:TGs):TG:=λv σ H Q=>∃a xs,v=.ref a/\SqT K H a xs/\xs.length=n/\t xs σ H Q
def zsm{k:Nat}{t:TGs}(hc:X.calm=true)(h:PGs X es t)(hn:B0 ((assignEach es X.env).length=n))(hst:B0 ((assignEach es X.env).findIdx? (·.1)=none)):PG X (.Tuple es k pos) (qP X.K n t):=by
 intro p4 s σ H v u Q I r hw;let⟨a,xs,e1,hq,hl,hw⟩:=hw;subst e1;cases r
 let⟨p6,rv,ht,hz⟩:=I.tuple hq;refine assign_Tuple_tuple (I.ok.hd hc) ht (by simp[hn,←hl,rv.length]) hst λh' hx=>?_
 have I1:=I.kept (t':=s.toks) λb o e=>hx b o (Jo (Jb e)) e
 exact h p4 _ σ H xs _ Q I1 (by simpa using rv) hw
def gSub(to ti:TE)(t:TSet):TG:=λv σ H Q=>to σ H λo H1=>ti σ H1 λi H2=>t o i v H2 λH3=>Q σ H3
def zpC{o i:Expr}{to ti:TE}{t:TSet}(ho:PE X o to)(hi:PE X i ti)(hs:PSet X t)(ha:G0 (∀v,assign (.Subscript o i pos) X.env v=(do
   let ov ←holding [v] (eval o X.env);let iv ←holding [v,ov] (eval i X.env)
   standAt pos
   holding [v,ov,iv] (setItem ov iv v)
   release [v,ov,iv] []))):PG X (.Subscript o i pos) (gSub to ti t):=by
 intro p4 s σ H v u Q I r h;rw[ha];refine wpAny_bind (Jk (thn (ho p4 s σ H _ I h) λov s1 ⟨x,H1,I1,r1,q1⟩=>?_));refine wpAny_bind (Jk (thn (hi p4 s1 σ H1 _ I1 q1) λiv s2 ⟨y,H2,I2,r2,q2⟩=>?_));refine wpAny_bind (Qy (wpAny_bind (Jk (thn (hs p4 s2 σ H2 x y v ov iv u _ I2 r1 r2 r q2) λ_ s3 ⟨H3,I3,q3⟩=>?_))));exact wpAny_release ⟨σ,H3,I3,q3⟩
def tAsg(te:TE)(g:TG):TS:=λD σ H=>te σ H λx H1=>g x σ H1 D.nx
def ziV{g:TG}(he:PE X e te)(hg:PG X tg g)(hs:B0 (swapsWithSole [tg] e pos.line X.env=pure false))(hw:B0 (swappedStores [tg] e X.env=pure none))(h1:B0 ((assignEach [tg] X.env).map (·.2)=[assign tg X.env])):PS X (.Assign [tg] e pos) (tAsg te g):=by intro p4 s σ H D I h;refine wpAny_Assign_stores (thn (he p4 s σ H _ I h) λv s1 ⟨x,H1,I1,r1,q1⟩=>?_) hs hw;rw[h1];exact thn (hg p4 s1 σ H1 x v _ I1 r1 q1) λ_ s2 q=>q
def zpA{pos':Pos}(hN:X.N.Nodup)(hi:X.N[i]?=some x)(hx:Loc X.env.scope x)(he:PE X e te)(hs:B0 (swapsWith e (some (.Name x pos')) pos.line X.env=pure false))(hf:K0 (Y0 7)):
  PS X (.Assign [.Name x pos'] e pos) (tAsg te (zoN i)):=by
 intro p4 s σ H D I h;refine wpAny_Assign_Name (thn (he p4 s σ H _ I h) λv s1 ⟨y,H1,I1,r1,q1⟩=>?_) hs;exact ziL I1 hN hi hx r1 (λs2 I2=>⟨_,H1,I2,q1⟩) hf
end
variable{body:U Stmt}{tb:TS}
section
variable{X:Cx}{pos:Pos}
def zrE(c:TT)(tb:TS):TS:=λD σ H=>∃W:Nat->St->Hp->Prop,(∃m,W m σ H)/\∀m σ H,W m σ H->
 c σ H λb H1=>if b=true then∃N:St->Hp->Prop,(∀σ' H',N σ' H'->∃m',m'<m/\W m' σ' H')/\tb {D with nx:=N,ct:=N,bk:=D.nx} σ H1 else D.nx σ H1
def zoa(hp:PassesOwn (Y0 1) X.A X.env X.xe)(hc:PT X c tc)(hb:PSs X body tb):PS X (.While c body [] pos) (zrE tc tb):=by
 intro p4 s σ H D I h;let⟨W,⟨m0,w0⟩,turn⟩:=h;refine wpAny_While (codeAny_whileLoop (λn s'=>∃σ' H',Inv X p4 σ' H' s'/\W n σ' H') ?_ m0 ⟨σ,H,I,w0⟩);rintro n s1 ⟨σ1,H1,I1,w1⟩;refine QV hp (thn (hc p4 s1 σ1 H1 _ I1 (turn n σ1 H1 w1)) λb s2 ⟨H2,I2,q2⟩=>?_);cases b with
 |true=>
  let⟨N,hN,q2⟩:=q2;refine QV hp (thn (hb p4 s2 σ1 H2 _ I2 q2) λf s3 q3=>?_);cases f with
  |next=>
   let⟨σ3,H3,I3,n3⟩:=q3;let⟨m',hm,w3⟩:=hN σ3 H3 n3;exact⟨m',hm,σ3,H3,I3,w3⟩
  |cont=>
   let⟨σ3,H3,I3,n3⟩:=q3;let⟨m',hm,w3⟩:=hN σ3 H3 n3;exact⟨m',hm,σ3,H3,I3,w3⟩
  |brk=>exact q3
  |ret v=>exact q3
 |false=>
  exact wpAny_execs_nil ⟨σ1,H2,I2,q2⟩
end
structure It where
 go:Nat->Hp->Prop
 yld:Nat->Hp->V->Hp->Prop
 stop:Nat->Hp->Prop
def kS(X:Cx)(p4:AO)(H:Hp)(b:Addr):Prop:=
 H b=none/\b≠X.env.locals/\b∉X.fs/\(b∈X.ex\/X.s₀.heap.objs.size<=b)/\(∀x c,X.env.cells.lookup x=some c->c≠b)/\∀p∈X.pn++p4,p.1≠b
def Inv.fpOk{b:Addr}(I:Inv X p4 σ H s)(hb:s.heap.objs.size<=b)(hn:H' b=none):kS X p4 H' b:=by
 refine⟨hn,Qv (Jn I.lt hb),I.nofs hb,.inr (Jp I.sz hb),λx c e z=>?_,λp hp z=>?_⟩
 ·let⟨v,q⟩:=I.cell x c e;exact absurd (Jn q.lt (by rw[z];exact hb)) (JW _)
 ·exact absurd (Jn (Jb (I.pin p hp).1) (by rw[z];exact hb)) (JW _)
structure gD(P:Program)(w:World)(K:Fg)(tg:Expr)(J:It)(fp:U Addr)(it:Addr)(tn:Nat->Heap->Prop):Prop where
 mem:it∈fp
 obj:∀i h,tn i h->∀b∈fp,∃o,h.get? b=some o/\∀v,o.data≠.cell v
 keep:∀i h h',tn i h->(∀b∈fp,∀o,h.get? b=some o->h'.get? b=some o)->tn i h'
 item:∀(X:Cx),X.prog=P->X.w=w->X.K=K->X.calm=true->∀(i:Nat) (p4:AO) (s:Shared) (σ:St) (H:Hp) (E:Vs),Inv X p4 σ H s->(∀b∈fp,kS X p4 H b)->tn i s.heap->J.go i H->
  wpAny (model P w) X.A (pyNext (.ref it)) (λr s1=>∃u,r=some u/\
   wpAny (model P w) X.A (letOwnedTupleGo tg (.ref it) u) (λ_ s2=>∃x H',Inv X p4 σ H' s2/\zR x u/\J.yld i H x H'/\tn (i+1) s2.heap/\∀b∈fp,H' b=none) E s1) E s
 done:∀(X:Cx),X.prog=P->X.w=w->X.K=K->X.calm=true->∀(i:Nat) (p4:AO) (s:Shared) (σ:St) (H:Hp) (E:Vs),Inv X p4 σ H s->(∀b∈fp,kS X p4 H b)->tn i s.heap->J.stop i H->
  wpAny (model P w) X.A (pyNext (.ref it)) (λr s1=>r=none/\Inv X p4 σ H s1) E s
 self:∀(A:Around) (i:Nat) (s:Shared) (Q:Vs) (E:Vs),tn i s.heap->Q (.ref it) s->wpAny (model P w) A (pyIter (.ref it)) Q E s
abbrev TI:=St->Hp->(It->Hp->Prop)->Prop
def PIE(X:Cx)(p4:AO)(σ:St)(tg:Expr)(R:It->Hp->Prop)(itv:Value)(s2:Shared):Prop:=
 ∃(it:Addr) (fp:U Addr) (tn:Nat->Heap->Prop) (J:It) (H':Hp),itv=.ref it/\Inv X p4 σ H' s2/\gD X.prog X.w X.K tg J fp it tn/\tn 0 s2.heap/\(∀b∈fp,kS X p4 H' b)/\R J H'
def PI(X:Cx)(tg zO:Expr)(wi:TI):Prop:=
 ∀(p4:AO) (s:Shared) (σ:St) (H:Hp) (R:It->Hp->Prop),Inv X p4 σ H s->wi σ H R->
  wpAny (Y0 1) X.A (eval zO X.env) (λv s1=>wpAny (Y0 1) X.A (pyIter v) (PIE X p4 σ tg R) X.xe s1) X.xe s
def zmH{s:Shared}{it:Addr}{n:String}{vs:Array Value}(ho:s.heap.get? it=some o)(hc:o.cls=.type n)(hd:o.data=.fields vs)(hn:["enumerate","zip","dict_itemiterator","dict_reverseitemiterator","odict_iterator","itertools.zip_longest","itertools.pairwise"].contains n=false)(hQ:Q () s):wpAny M A (letOwnedTupleGo tg (.ref it) u) Q E s:=by
 unfold letOwnedTupleGo;cases tg<;>first
  |exact Ja hQ
  |(cases u<;>first
    |exact Ja hQ
    | (refine wpAny_bind (wpAny_load ho ?_)
       rw[hc,hd];show wpAny M A (if(["enumerate","zip","dict_itemiterator","dict_reverseitemiterator","odict_iterator","itertools.zip_longest","itertools.pairwise"].contains n&&vs[0]? ==some (rawInt _))=true then _ else _) Q E s;rw[if_neg (by intro h;rw[hn,Bool.false_and]at h;cases h)];exact Ja hQ))
def Itl(K:Fg)(a:Addr):It:=
 ⟨λi H=>∃xs x,SqL K H a xs/\xs[i]?=some x,λi H x H'=>H'=H/\∀xs,SqL K H a xs->xs[i]?=some x,λi H=>∃xs,SqL K H a xs/\xs.length<=i⟩
def Itt(K:Fg)(a:Addr):It:=
 ⟨λi H=>∃xs x,SqT K H a xs/\xs[i]?=some x,λi H x H'=>H'=H/\∀xs,SqT K H a xs->xs[i]?=some x,λi H=>∃xs,SqT K H a xs/\xs.length<=i⟩
def Itr(lo:Int)(n:Nat):It:=⟨λi _=>i<n,λi H x H'=>H'=H/\x=.int (lo+i),λi _=>n<=i⟩
theorem zkS(a it:Addr):gD P w K tg (Itl K a) [it] it (λi h=>h.IsListIter it a i)where
 mem:=by simp
 obj:=λi h st b hb=>by
  have e:b=it:=by simpa using hb
  subst e;let⟨o,e,c,d⟩:=st;exact⟨o,e,λv z=>by rw[d]at z;cases z⟩
 keep:=λi h h' st k=>st.at λo e=>k it (by simp) o e
 item:=by
  intro X hP hw hK hc i p4 s σ H E I hf st hg;subst hP hw hK;let⟨xs,x,hq,hx⟩:=hg;let⟨p6,rv,p,hz⟩:=I.list hq;let⟨u,hu,ru⟩:=rv.get hx;let⟨f0,f1,f2,f3,f4,f5⟩:=hf it (by simp);refine wpAny_pyNext_list_item st p.isList (x:=u) (by simpa using hu) λh' st' sb=>?_
  have I1:=I.turned (t':=s.toks) (λb o hb e=>(sb.2 b hb).trans e) f0 f1 f3 f4 f5;let⟨o,e,c,d⟩:=id st';exact⟨u,rfl,zmH e c d (by decide) ⟨x,H,I1,ru,⟨rfl,λys hy=>by rw[I.list_inj hy hq];exact hx⟩,st',λb hb=>(hf b hb).1⟩⟩
 done:=by intro X hP hw hK hc i p4 s σ H E I hf st hg;subst hP hw hK;let⟨xs,hq,hx⟩:=hg;let⟨p6,rv,p,hz⟩:=I.list hq;let⟨f0,f1,f2,f3,f4,f5⟩:=hf it (by simp);have hl:=rv.length;exact wpAny_pyNext_list_end (I.ok.hd hc) st p.isList (by simp;simp_all) λh' eb=>⟨rfl,I.turned (λb o hb e=>eb b o hb e) f0 f1 f3 f4 f5⟩
 self:=λ_ _ _ _ _ st h=>wpAny_pyIter_listiter st h
theorem zjI(a it:Addr):gD P w K tg (Itt K a) [it] it (λi h=>h.IsTupleIter it a i)where
 mem:=by simp
 obj:=λi h st b hb=>by
  have e:b=it:=by simpa using hb
  subst e;let⟨o,e,c,d⟩:=st;exact⟨o,e,λv z=>by rw[d]at z;cases z⟩
 keep:=λi h h' st k=>st.at λo e=>k it (by simp) o e
 item:=by
  intro X hP hw hK hc i p4 s σ H E I hf st hg;subst hP hw hK;let⟨xs,x,hq,hx⟩:=hg;let⟨p6,rv,p,hz⟩:=I.tuple hq;let⟨u,hu,ru⟩:=rv.get hx;let⟨f0,f1,f2,f3,f4,f5⟩:=hf it (by simp);refine wpAny_pyNext_tuple_item st ((p)) (x:=u) (by simpa using hu) λh' st' sb=>?_
  have I1:=I.turned (t':=s.toks) (λb o hb e=>(sb.2 b hb).trans e) f0 f1 f3 f4 f5;let⟨o,e,c,d⟩:=id st';exact⟨u,rfl,zmH e c d (by decide) ⟨x,H,I1,ru,⟨rfl,λys hy=>by rw[I.tuple_inj hy hq];exact hx⟩,st',λb hb=>(hf b hb).1⟩⟩
 done:=by intro X hP hw hK hc i p4 s σ H E I hf st hg;subst hP hw hK;let⟨xs,hq,hx⟩:=hg;let⟨p6,rv,p,hz⟩:=I.tuple hq;let⟨f0,f1,f2,f3,f4,f5⟩:=hf it (by simp);have hl:=rv.length;exact wpAny_pyNext_tuple_end (I.ok.hd hc) st ((p)) (by simp;simp_all) λh' eb=>⟨rfl,I.turned (λb o hb e=>eb b o hb e) f0 f1 f3 f4 f5⟩
 self:=λ_ _ _ _ _ st h=>wpAny_pyIter_tupleiter st h
def zjJ(it:Addr)(lo:Int)(n:Nat):gD P w K tg (Itr lo n) [it] it (λi h=>IsRangeIter h it (lo+(i:Nat)*1) ((n:Int) - (i:Nat)) 1)where
 mem:=by simp
 obj:=λi h st b hb=>by simp_all
 keep:=λi h h' st k=>k it (by simp) _ st
 item:=by
  intro X hP hw hK hc i p4 s σ H E I hf st hg;subst hP hw hK;let⟨f0,f1,f2,f3,f4,f5⟩:=hf it (by simp);have W:=Walks.range (prog:=X.prog) (w:=X.w) (I.ok.hd hc) it lo 1 n;refine W.item i s _ _ hg st λv h' tk hv st' kk=>?_
  let⟨t,rfl⟩:=hv;have I1:Inv X p4 σ H {s with heap:=h',toks:=tk}:=I.turned (λb o hb e=>kk b o (by simpa using hb) e) f0 f1 f3 f4 f5;refine⟨_,rfl,zmH st' rfl rfl (by decide) ⟨.int (lo+i),H,I1,⟨t,?_⟩,⟨rfl,rfl⟩,st',λb hb=>(hf b hb).1⟩⟩;rw[Int.mul_one]
 done:=by intro X hP hw hK hc i p4 s σ H E I hf st hg;let⟨f0,f1,f2,f3,f4,f5⟩:=hf it (by simp);exact wpAny_pyNext_range_end (I.ok.hd hc) st (by have:n<=i:=hg;lia) λh' eb=>⟨rfl,I.turned (λb o hb e=>eb b o hb e) f0 f1 f3 f4 f5⟩
 self:=λ_ _ _ _ _ st h=>wpAny_pyIter_rangeiter st h
variable{l:Expr}{tl:TE}{fp:U Addr}
section
variable{X:Cx}{tg:Expr}
def zuJ(K:Fg)(tl:TE):TI:=λσ H R=>tl σ H λx H1=>∃a,x=.ref a/\(∃xs,SqL K H1 a xs)/\R (Itl K a) H1
def iTup(K:Fg)(tl:TE):TI:=λσ H R=>tl σ H λx H1=>∃a,x=.ref a/\(∃xs,SqT K H1 a xs)/\R (Itt K a) H1
def zlJ(hl:PE X l tl):PI X tg l (zuJ X.K tl):=by
 intro p4 s σ H R I h;refine thn (hl p4 s σ H _ I h) λv s1 h_=>?_
 let⟨x,H1,I1,r1,q1⟩:=h_;let⟨a,e,⟨xs,hq⟩,q⟩:=q1;subst e;cases r1
 let⟨p6,rv,p,hz⟩:=I1.list hq;refine Ws p.isList ?_;refine⟨s1.heap.objs.size,[s1.heap.objs.size],_,_,H1,rfl,I1.kept λb o e=>Heap.get?_push_of_some _ e,zkS a _,⟨_,Heap.get?_push_size _ rfl,rfl,rfl⟩,λb hb=>?_,q⟩;have e:b=s1.heap.objs.size:=by simpa using hb
 subst e;exact I1.fpOk (Jf _) (I1.hok.fresh (Jf _))
def zsl(hl:PE X l tl):PI X tg l (iTup X.K tl):=by
 intro p4 s σ H R I h;refine thn (hl p4 s σ H _ I h) λv s1 h_=>?_
 let⟨x,H1,I1,r1,q1⟩:=h_;let⟨a,e,⟨xs,hq⟩,q⟩:=q1;subst e;cases r1
 let⟨p6,rv,p,hz⟩:=I1.tuple hq;refine Wk ((p)) ?_;refine⟨s1.heap.objs.size,[s1.heap.objs.size],_,_,H1,rfl,I1.kept λb o e=>Heap.get?_push_of_some _ e,zjI a _,⟨_,Heap.get?_push_size _ rfl,rfl,rfl⟩,λb hb=>?_,q⟩;have e:b=s1.heap.objs.size:=by simpa using hb
 subst e;exact I1.fpOk (Jf _) (I1.hok.fresh (Jf _))
def znQ{R:It->Hp->Prop}{lo hi:Int}{t u v:Tok}{tk:Nat}(I:Inv X p4 σ H s)(h1:-(2^62)<=lo)(h2:lo<2^62)(h3:-(2^62)<=hi)(h4:hi<2^62)(q:R (Itr lo (hi - lo).toNat) H):wpAny (Y0 1) X.A (pyIter (Y0 3)) (PIE X p4 σ tg R) E {s with heap:=s.heap.push {cls:=.type "range",data:=.fields #[.int lo t,.int hi u,.int 1 v]},toks:=tk}:=by
 refine wpAny_pyIter_range (IsRange.new ..) (small_one h1 h2 h3 h4) ?_;have I1:Inv X p4 σ H {s with heap:=s.heap.push {cls:=.type "range",data:=.fields #[.int lo t,.int hi u,.int 1 v]},toks:=tk}:=I.kept λb o e=>Heap.get?_push_of_some _ e
 refine⟨(s.heap.push {cls:=.type "range",data:=.fields #[.int lo t,.int hi u,.int 1 v]}).objs.size,[(s.heap.push {cls:=.type "range",data:=.fields #[.int lo t,.int hi u,.int 1 v]}).objs.size],_,_,H,rfl,
  I1.kept λb o e=>Heap.get?_push_of_some _ e,zjJ _ lo (hi - lo).toNat,?_,λb hb=>?_,q⟩
 ·have e1:lo+((0:Nat):Int)*1=lo:=by simp
  have e2:(((hi - lo).toNat:Nat):Int) - ((0:Nat):Int)=Builtin.Range.rangeSize lo hi 1:=by grind [rangeSize_one]
  rw[e1,e2];exact Heap.get?_push_size _ rfl
 ·have e:b=(s.heap.push {cls:=.type "range",data:=.fields #[.int lo t,.int hi u,.int 1 v]}).objs.size:=by simpa using hb
  subst e;exact I1.fpOk (Jf _) (I1.hok.fresh (Jf _))
def zuI(ta:TA):TI:=λσ H R=>ta σ H λvs H1=>∃j:Int,vs=[.int j]/\ -(2^62)<=j/\j<2^62/\R (Itr 0 j.toNat) H1
def zlI{a:Expr}{ta:TA}{p:Pos}(hg:Gl X "range")(hm:X.mg "range"=none)(ha:PA X [a] ta)(hs:B0 (starEach [a] X.env=[(false,eval a X.env)])):PI X tg (.Call (.Name "range" p) [a] [] pos) (zuI ta):=by
 intro p4 s σ H R I h;refine Call_ (vU I hg hm boot_range (JK (thn (ha pos p4 s σ H _ I h) λus s1 ⟨vs,H1,I1,r1,q1⟩=>?_) hs rfl));let⟨j,e,q1,q2,q⟩:=q1;subst e;cases r1 with
 |cons r rr=>
  cases rr
  let⟨t,rfl⟩:=r;exact call_range_1 (znQ I1 (by simp) (by simp) q1 q2 (by simpa using q))
def tFor(wi:TI)(g:TG)(tb:TS):TS:=λD σ H=>wi σ H λJ H1=>∃W:Nat->Nat->St->Hp->Prop,(∃m,W 0 m σ H1)/\∀i m σ H,W i m σ H->
 (J.stop i H/\D.nx σ H)\/(J.go i H/\∃N:St->Hp->Prop,(∀σ' H',N σ' H'->∃m',m'<m/\W (i+1) m' σ' H')/\∀x H',J.yld i H x H'->g x σ H' λσ2 H2=>tb {D with nx:=N,ct:=N,bk:=D.nx} σ2 H2)
noncomputable def zgI(fp:U Addr)(h:Heap):AO:=fp.filterMap λb=>(h.get? b).map λo=>(b,o)
def zar{b:Addr}(hb:b∈fp)(e:h.get? b=some o):(b,o)∈zgI fp h:=List.mem_filterMap.mpr ⟨b,hb,by rw[e];rfl⟩
def zlW{p:Addr×Obj}(hp:p∈zgI fp h):p.1∈fp/\h.get? p.1=some p.2:=by
 let⟨b,hb,e⟩:=List.mem_filterMap.mp hp;cases q:h.get? b with
 |none=>rw[q]at e;cases e
 |some o=>
  grind
def Inv.pinned(I:Inv X p4 σ H s)(hf:∀b∈fp,kS X p4 H b)(ho:∀b∈fp,∃o,s.heap.get? b=some o/\∀v,o.data≠.cell v):Inv X (p4++zgI fp s.heap) σ H s:=
 I.pins_of λp hp=>(Qe.mp hp).elim (λz=>I.pin p (Jj _ z)) λz=>by
  let⟨hb,e⟩:=zlW z;let⟨f0,f1,f2,_⟩:=hf p.1 hb;let⟨o,e',d⟩:=ho p.1 hb;rw[e]at e';cases e'
  exact⟨e,f0,f1,f2,d⟩
def Inv.unpinned{pl:AO}(I:Inv X (p4++pl) σ H s):Inv X p4 σ H s:=I.pins_of λp hp=>I.pin p (Jj _ (JP _ hp))
def zpB{zO:Expr}{wi:TI}{g:TG}{pos:Pos}(hp:PassesOwn (Y0 1) X.A X.env X.xe)(hc:X.calm=true)(hi:PI X tg zO wi)(hg:PG X tg g)(hb:PSs X body tb)(hs:G0 (∀x,foldedSetIterable zO X.env x=pure x)):PS X (.For tg zO body [] pos) (tFor wi g tb):=by
 intro p4 s σ H D I h;refine wpAny_For (thn (hi p4 s σ H _ I h) λv s1 h1=>thn h1 λitv s2 h2=>?_) hs;let⟨it,fp,tn,J,H2,e,I2,T,st2,f2,W,⟨m0,w0⟩,turn⟩:=h2;subst e;have stat:∀{H':Hp},(∀b∈fp,H' b=none)->∀b∈fp,kS X p4 H' b:=λhn b hb=>⟨hn b hb,(f2 b hb).2⟩
 refine codeAny_forLoop_any (λn s'=>∃i σ' H',Inv X p4 σ' H' s'/\tn i s'.heap/\(∀b∈fp,H' b=none)/\W i n σ' H') ?_ m0 ⟨0,σ,H2,I2,st2,λb hb=>(f2 b hb).1,w0⟩;rintro n s3 ⟨i,σ3,H3,I3,st3,fr3,w3⟩;rcases turn i n σ3 H3 w3 with⟨stop,qn⟩|⟨go,N,hN,step⟩
 ·refine QV hp (thn (T.done X rfl rfl rfl hc i p4 s3 σ3 H3 X.xe I3 (stat fr3) st3 stop) λr s4 ⟨hr,I4⟩=>?_);subst hr;exact wpAny_execs_nil ⟨σ3,H3,I4,qn⟩
 ·refine QV hp (thn (T.item X rfl rfl rfl hc i p4 s3 σ3 H3 X.xe I3 (stat fr3) st3 go) λr s4 ⟨u,hr,h4⟩=>?_);subst hr;refine QV hp (thn h4 λ_ s5 ⟨x,H5,I5,r5,y5,st5,fr5⟩=>?_);have I5':=I5.pinned (stat fr5) (T.obj _ _ st5);refine QV hp (thn (hg _ s5 σ3 H5 x u _ I5' r5 (step x H5 y5)) λ_ s6 ⟨σ6,H6,I6,q6⟩=>?_);refine QV hp (thn (hb _ s6 σ6 H6 _ I6 q6) λf s7 q7=>?_);have again:∀{σ7:St}{H7:Hp},Inv X (p4++zgI fp s5.heap) σ7 H7 s7->N σ7 H7->∃m,m<n/\∃i σ' H',Inv X p4 σ' H' s7/\tn i s7.heap/\(∀b∈fp,H' b=none)/\W i m σ' H':=λ{σ7 H7} I7 n7=>by let⟨m',hm,w7⟩:=hN σ7 H7 n7;refine⟨m',hm,i+1,σ7,H7,I7.unpinned,T.keep _ _ _ st5 λb hb o e=>(I7.pin (b,o) (Jj _ (Jj _ (zar hb e)))).1,λb hb=>?_,w7⟩;let⟨o,e,d⟩:=T.obj _ _ st5 b hb;exact(I7.pin (b,o) (Jj _ (Jj _ (zar hb e)))).2.1
  cases f with
  |next=>let⟨σ7,H7,I7,n7⟩:=q7;exact again I7 n7
  |cont=>let⟨σ7,H7,I7,n7⟩:=q7;exact again I7 n7
  |brk=>let⟨σ7,H7,I7,q7⟩:=q7;exact⟨σ7,H7,I7.unpinned,q7⟩
  |ret v=>let⟨x7,σ7,H7,I7,r7,q7⟩:=q7;exact⟨x7,σ7,H7,I7.unpinned,r7,q7⟩
end
abbrev R2:=V->V->Hp->VK->Prop
def OpR(X:Cx)(f:Value->Value->Sem Value)(r:R2):Prop:=
 ∀(p4:AO) (s:Shared) (σ:St) (H:Hp) (x y:V) (v u:Value) (Q:VK),Inv X p4 σ H s->zR x v->zR y u->r x y H Q->
  wpAny (Y0 1) X.A (f v u) (EP X p4 σ Q) X.xe s
def UnR(X:Cx)(f:Value->Sem Value)(r:V->Hp->VK->Prop):Prop:=
 ∀(p4:AO) (s:Shared) (σ:St) (H:Hp) (x:V) (v:Value) (Q:VK),Inv X p4 σ H s->zR x v->r x H Q->
  wpAny (Y0 1) X.A (f v) (EP X p4 σ Q) X.xe s
def kM(X:Cx)(f:Value)(r:U V->Hp->VK->Prop):Prop:=
 ∀(p4:AO) (s:Shared) (σ:St) (H:Hp) (xs:U V) (us:U Value) (Q:VK),Inv X p4 σ H s->zN xs us->r xs H Q->
  wpAny (Y0 1) X.A (call f us) (EP X p4 σ Q) X.xe s
def TruR(X:Cx)(r:V->Hp->(Bool->Hp->Prop)->Prop):Prop:=
 ∀(p4:AO) (s:Shared) (σ:St) (H:Hp) (x:V) (v:Value) (Q:Bool->Hp->Prop),Inv X p4 σ H s->zR x v->r x H Q->
  wpAny (Y0 1) X.A (truthy v) (TP X p4 σ Q) X.xe s
def tOp(r:R2)(ta tb:TE):TE:=λσ H Q=>ta σ H λx H1=>tb σ H1 λy H2=>r x y H2 Q
def tUn(r:V->Hp->VK->Prop)(ta:TE):TE:=λσ H Q=>ta σ H λx H1=>r x H1 Q
def rI(C:Int->Int->Prop)(g:Int->Int->V):R2:=λx y H Q=>∃i j,x=.int i/\y=.int j/\C i j/\Q (g i j) H
def rI0(g:Int->Int->V):R2:=λx y H Q=>∃i j,x=.int i/\y=.int j/\Q (g i j) H
def rU(g:Int->V):V->Hp->VK->Prop:=λx H Q=>∃i,x=.int i/\Q (g i) H
variable{f:Value->Value->Sem Value}{g:Int->Int->Int}{r:R2}
section
variable{X:Cx}{a b c:Expr}{ta tb tc:TE}{pos:Pos}
def binT(ha:PE X a ta)(hb:PE X b tb){R:V->V->Hp->Prop}(I:Inv X p4 σ H s)(h:ta σ H λx H1=>tb σ H1 λy H2=>R x y H2){Q:Vs}(hf:∀v u s2 x y H2,Inv X p4 σ H2 s2->zR x v->zR y u->R x y H2->wpAny (Y0 1) X.A (f v u) Q X.xe s2):
  wpAny (Y0 1) X.A (eval a X.env) (λv s₁=>wpAny (Y0 1) X.A (eval b X.env) (λu s₂=>wpAny (Y0 1) X.A (f v u) Q X.xe s₂) X.xe s₁) X.xe s:=by
 refine thn (ha p4 s σ H _ I h) λv s1 h_=>?_
 let⟨x,H1,I1,r1,q1⟩:=h_;refine thn (hb p4 s1 σ H1 _ I1 q1) λu s2 h_=>?_
 let⟨y,H2,I2,r2,q2⟩:=h_;exact hf v u s2 x y H2 I2 r1 r2 q2
def zuv{op:Operator}(ho:OpR X (binaryOp op) r)(ha:PE X a ta)(hb:PE X b tb):PE X (.BinOp a op b pos) (tOp r ta tb):=by intro p4 s σ H Q I h;exact wpAny_BinOp (binT ha hb I h λv u s2 x y H2 I2 rx ry q=>ho p4 s2 σ H2 x y v u Q I2 rx ry q)
def zuu{op:UnaryOp}{r:V->Hp->VK->Prop}(ho:UnR X (unaryOp op) r)(ha:PE X a ta):PE X (.UnaryOp op a pos) (tUn r ta):=by intro p4 s σ H Q I h;exact UnaryOp_ (thn (ha p4 s σ H _ I h) λv s1 ⟨x,H1,I1,r1,q1⟩=>ho p4 s1 σ H1 x v Q I1 r1 q1)
def opI{C:Int->Int->Prop}(rule:∀(i j:Int) (t u:Tok) (s:Shared) (Q:Vs) (E:Vs),C i j->Q (.int (g i j) s.toks) {s with toks:=s.toks+1}->wpAny (Y0 1) X.A (f (.int i t) (.int j u)) Q E s):
  OpR X f (rI C λi j=>.int (g i j)):=by
 intro p4 s σ H x y v u Q I rx ry h;let⟨i,j,rfl,rfl,hc,q⟩:=h;let⟨t,rfl⟩:=rx;let⟨t',rfl⟩:=ry;exact rule i j t t' s _ _ hc ⟨.int (g i j),H,I.tok _,⟨_,rfl⟩,q⟩
def opI0(rule:∀(i j:Int) (t u:Tok) (s:Shared) (Q:Vs) (E:Vs),Q (.int (g i j) s.toks) {s with toks:=s.toks+1}->wpAny (Y0 1) X.A (f (.int i t) (.int j u)) Q E s):
  OpR X f (rI0 λi j=>.int (g i j)):=by
 intro p4 s σ H x y v u Q I rx ry h;let⟨i,j,rfl,rfl,q⟩:=h;let⟨t,rfl⟩:=rx;let⟨t',rfl⟩:=ry;exact rule i j t t' s _ _ ⟨.int (g i j),H,I.tok _,⟨_,rfl⟩,q⟩
def opB0{g:Int->Int->Bool}(rule:∀(i j:Int) (t u:Tok) (s:Shared) (Q:Vs) (E:Vs),Q (.bool (g i j)) s->wpAny (Y0 1) X.A (f (.int i t) (.int j u)) Q E s):
  OpR X f (rI0 λi j=>.bl (g i j)):=by
 intro p4 s σ H x y v u Q I rx ry h;let⟨i,j,rfl,rfl,q⟩:=h;let⟨t,rfl⟩:=rx;let⟨t',rfl⟩:=ry;exact rule i j t t' s _ _ ⟨.bl (g i j),H,I,rfl,q⟩
def CDiv(i j:Int):Prop:=0<j/\j<1073741824
def CPow(i j:Int):Prop:=0<=j/\j<=1000000/\i.natAbs<2^64
def CMul(i j:Int):Prop:=(-(2^64)<i/\i<2^64)\/(-(2^64)<j/\j<2^64)
def CMul.ok{i j:Int}(h:CMul i j):IntMulOk i j:=by
 rcases h with⟨h1,h2⟩|⟨h1,h2⟩
 ·exact .of_left (intBits_le_64 h1 h2)
 ·exact .of_right (intBits_le_64 h1 h2)
def zsI:OpR X (binaryOp .Add) (rI0 λi j=>.int (i+j)):=opI0 λ_ _ _ _ _ _ _ q=>add_int q
def zsA:OpR X (binaryOp .Sub) (rI0 λi j=>.int (i - j)):=opI0 λ_ _ _ _ _ _ _ q=>sub_int q
def zqK:OpR X (binaryOp .FloorDiv) (rI CDiv λi j=>.int (i/j)):=opI λi j _ _ _ _ _ hc q=>by have h1:=hc.1;have h2:=hc.2;grind [floordiv_int,PyProof.noPylong_small]
def zsD:OpR X (binaryOp .Mod) (rI (λ_ j=>0<j) λi j=>.int (i%j)):=opI λi j _ _ _ _ _ hc q=>by have h1:(0:Int)<j:=hc;exact mod_int' (by lia) (by rw[Int.fmod_eq_emod_of_nonneg i (by lia)];exact q)
def zsB:OpR X (binaryOp .Pow) (rI CPow λi j=>.int (i^j.toNat)):=opI λ_ _ _ _ _ _ _ hc q=>pow_int_small hc.1 hc.2.1 hc.2.2 q
def unI{f:Value->Sem Value}{g:Int->Int}(rule:∀(i:Int) (t:Tok) (s:Shared) (Q:Vs) (E:Vs),Q (.int (g i) s.toks) {s with toks:=s.toks+1}->wpAny (Y0 1) X.A (f (.int i t)) Q E s):
  UnR X f (rU λi=>.int (g i)):=by
 intro p4 s σ H x v Q I rx h;let⟨i,rfl,q⟩:=h;let⟨t,rfl⟩:=rx;exact rule i t s _ _ ⟨.int (g i),H,I.tok _,⟨_,rfl⟩,q⟩
def zrz:UnR X (unaryOp .USub) (rU λi=>.int (-i)):=unI λ_ _ _ _ _ q=>neg_int q
end
variable{op:CmpOp}
section
variable{X:Cx}{a b c:Expr}{ta tb tc:TE}{pos:Pos}
theorem zmM{Q:VK}{k k':Bool}(I:Inv X p4 σ H s)(q:Q (.bl k) H)(e:k=k'):EP X p4 σ Q (.bool k') s:=by subst e;exact⟨.bl k,H,I,rfl,q⟩
def zuz:OpR X (compareOp .Lt) (rI0 λi j=>.bl (decide (i<j))):=opB0 λ_ _ _ _ _ _ _ q=>lt_int q
def zuA:OpR X (compareOp .LtE) (rI0 λi j=>.bl (decide (i<=j))):=opB0 λ_ _ _ _ _ _ _ q=>le_int q
def zuB:OpR X (compareOp .Gt) (rI0 λi j=>.bl (decide (j<i))):=opB0 λ_ _ _ _ _ _ _ q=>gt_int q
def zuC:OpR X (compareOp .GtE) (rI0 λi j=>.bl (decide (j<=i))):=opB0 λ_ _ _ _ _ _ _ q=>ge_int q
def zsE:OpR X (compareOp .Is) (λx y H Q=>y=.non/\Q (.bl (decide (x=.non))) H):=by
 intro p4 s σ H x y v u Q I rx ry h;let⟨rfl,q⟩:=h;cases ry
 refine is_none_gen (zmM I q ?_);cases x<;>first
  |(rfl)
  |(let⟨t,rfl⟩:=rx;rfl)
def zqI:OpR X (compareOp .IsNot) (λx y H Q=>y=.non/\Q (.bl (!decide (x=.non))) H):=by
 intro p4 s σ H x y v u Q I rx ry h;let⟨rfl,q⟩:=h;cases ry
 refine isnot_none_gen (zmM I q ?_);cases x<;>first
  |(rfl)
  |(let⟨t,rfl⟩:=rx;rfl)
def OpR.or{r':R2}(h:OpR X f r)(h':OpR X f r'):OpR X f (λx y H Q=>r x y H Q\/r' x y H Q):=by
 intro p4 s σ H x y v u Q I rx ry q;rcases q with q|q
 ·exact h p4 s σ H x y v u Q I rx ry q
 ·exact h' p4 s σ H x y v u Q I rx ry q
def zjc(b:Expr)(h:C0 (op≠.In))(h2:C0 (op≠.NotIn)):behindInMarks op b=false:=by
 have e1:(op==CmpOp.In)=false:=by simp[*]
 have e2:(op==CmpOp.NotIn)=false:=by simp[*]
 cases b<;>simp[behindInMarks,e1,e2]
def zlN(ho:OpR X (compareOp op) r)(ha:PE X a ta)(hb:PE X b tb)(hm:behindInMarks op b=false):PE X (.Compare a [op] [b] pos) (tOp r ta tb):=by intro p4 s σ H Q I h;exact wpAny_Compare1 (binT ha hb I h λv u s2 x y H2 I2 rx ry q=>ho p4 s2 σ H2 x y v u Q I2 rx ry q) hm
def ztW(t:TE):TT:=λσ H Q=>t σ H λx H'=>∃k,x=.bl k/\Q k H'
def zhK(ho:OpR X (compareOp op) r)(ha:PE X a ta)(hb:PE X b tb)(hm:behindInMarks op b=false):PT X (.Compare a [op] [b] pos) (ztW (tOp r ta tb)):=by
 intro p4 s σ H Q I h;refine wpAny_isTrue_Compare1 (thn (ha p4 s σ H _ I h) λv s1 ⟨x,H1,I1,r1,q1⟩=>thn (hb p4 s1 σ H1 _ I1 q1) λu s2 ⟨y,H2,I2,r2,q2⟩=>
  thn (ho p4 s2 σ H2 x y v u _ I2 r1 r2 q2) λc s3 ⟨z,H3,I3,r3,k,e,q3⟩=>?_) hm
 subst e;cases r3
 exact QJ ⟨H3,I3,q3⟩
def TruV(K:Fg)(x:V)(H:Hp)(k:Bool):Prop:=
 match x with
 | .non=>k=false
 | .bl b=>k=b
 | .int i=>k=(i !=0)
 | .str y=>y.length<=sizeLine/\k=((y.length:Int)!=0)
 | .byt y=>y.size<=sizeLine/\k=((y.size:Int)!=0)
 | .ref p=>(∃xs,SqL K H p xs/\k=!xs.isEmpty)\/(∃xs,SqT K H p xs/\k=!xs.isEmpty)\/∃p5,H p=some (.dK p5)/\k=!p5.isEmpty
 |_=>False
def zkp{p5:U (κ×V)}{vs:U (κ×Value)}(r:KV p5 vs):(!vs.isEmpty)=!p5.isEmpty:=by cases r<;>rfl
def zfk{p6:U Value}(r:zN xs p6):(!p6.toArray.isEmpty)=!xs.isEmpty:=by cases r<;>simp
def zfe:(sizeLine:Nat)<2^63:=by decide
def zrC:TruR X (λx H Q=>∃k,TruV X.K x H k/\Q k H):=by
 intro p4 s σ H x v Q I rx h;let⟨k,e,q⟩:=h;have hl:=zfe;have hs:sizeLine=16777216:=QR;cases x with
 |non=>
  cases rx
  have e':k=false:=e;subst e';exact truthy_none ⟨H,I,q⟩
 |bl b=>
  cases rx
  have e':k=b:=e;subst e';exact QJ ⟨H,I,q⟩
 |int i=>
  let⟨t,rfl⟩:=rx;have e':k=(i !=0):=e;subst e';exact PySem.P.truthy_int ⟨H,I,q⟩
 |str y=>
  let⟨t,rfl⟩:=rx;obtain⟨hy,e'⟩:y.length<=sizeLine/\k=((y.length:Int)!=0):=e;subst e';exact PySem.P.truthy_str (by lia) ⟨H,I.tok _,q⟩
 |byt y=>
  let⟨t,rfl⟩:=rx;obtain⟨hy,e'⟩:y.size<=sizeLine/\k=((y.size:Int)!=0):=e;subst e';exact PySem.W.truthy_bytes (by lia) ⟨H,I.tok _,q⟩
 |ref p=>
  cases rx
  have e':=e;rcases e' with⟨xs,hx,e'⟩|⟨xs,hx,e'⟩|⟨p5,hx,e'⟩
  ·subst e';let⟨p6,r,pl,hz⟩:=I.list hx;have hlen:=r.length;exact wpAny_truthy_list pl.isList (by(simp[*];lia)) ⟨H,I.tok _,by rw[zfk r];exact q⟩
  ·subst e';let⟨p6,r,pl,hz⟩:=I.tuple hx;have hlen:=r.length;exact truthy_tuple pl (by(simp[*];lia)) ⟨H,I.tok _,by rw[zfk r];exact q⟩
  ·subst e';obtain⟨hz,hS,vs,r,m⟩:p5.length<=sizeLine/\(p==sysModules)=false/\∃vs,KV p5 vs/\s.heap.DictOf (jR X.prog X.w) p vs:=I.hok p _ hx;have hlen:p5.length=vs.length:=Paired.length r;exact wpAny_truthy_dict hS m (by(simp only[*]at*;lia)) ⟨H,I.tok _,by rw[zkp r];exact q⟩
 |_=>exact(show False from e).elim
def znZ(ha:PE X a ta)(he:∀whole,isTrue a X.env whole=(do let v ←whole;standAt a.pos;holding [v] (truthy v))):
  PT X a (λσ H Q=>ta σ H λx H'=>∃k,TruV X.K x H' k/\Q k H'):=by
 intro p4 s σ H Q I h;exact isTrue_plain (thn (ha p4 s σ H _ I h) λv s1 ⟨x,H1,I1,r1,q1⟩=>zrC p4 s1 σ H1 x v Q I1 r1 q1) (he _)
def zka:OpR X (binaryOp .Add) (λx y H Q=>∃i j,x=.str i/\y=.str j/\i.length+j.length<=sizeLine/\Q (.str (i++j)) H):=by intro p4 s σ H x y v u Q I rx ry h;let⟨i,j,rfl,rfl,hz,q⟩:=h;let⟨t,rfl⟩:=rx;let⟨t',rfl⟩:=ry;exact add_str (λt' tk=>⟨.str (i++j),H,I.tok _,⟨_,rfl⟩,q⟩) hz
def vF{x:V}(r:zN [x] us):∃u,us=[u]/\zR x u:=by
 cases r with
 |cons r1 r2=>cases r2;exact⟨_,rfl,r1⟩
def zqe{x y:V}(r:zN [x,y] us):∃u w',us=[u,w']/\zR x u/\zR y w':=by
 cases r with
 |cons r1 r2=>
  cases r2 with
  |cons r3 r4=>cases r4;exact⟨_,_,rfl,r1,r3⟩
def znh:kM X (.type "int") (λxs H Q=>(∃i,xs=[.int i]/\Q (.int i) H)\/∃k,xs=[.bl k]/\Q (.int (if k then 1 else 0)) H):=by
 intro p4 s σ H xs us Q I r h;rcases h with⟨i,rfl,q⟩|⟨k,rfl,q⟩
 ·let⟨u,rfl,t,rfl⟩:=vF r;exact call_int_int ⟨.int i,H,I,⟨_,rfl⟩,q⟩
 ·let⟨u,rfl,r1⟩:=vF r;cases r1
  exact call_int_bool ⟨.int (if k then 1 else 0),H,I.tok _,⟨_,rfl⟩,q⟩
end
structure ObjM(h:Heap)(x dx C:Addr)(mA:SV):Prop where
 obj:h.get? x=some (PySem.W.instObj C dx)
 ns:h.Ns1 dx mA
 ne:dx≠x
variable{dx:Addr}{mA:SV}
def zmr(n:h.Ns1 dx mA):∃od,h.get? dx=some od/\∀name,PySem.W.lookIn name od=some (mA name):=by
 let⟨o,es,ep,ho,hd,hk,_,hm⟩:=n;refine⟨o,ho,λname=>?_⟩;have e:=hm name;unfold nsFind findBy at e;rw[←Array.find?_toList]at e;unfold PySem.W.lookIn;rw[hd];dsimp only;split
 ·rename_i y q;rw[q]at e;exact JT some e
 ·rename_i q;rw[q]at e;have a:es.toList.any (·.refKey)=false:=by rw[List.any_eq_false];intro y hy;let⟨z,t,hkey⟩:=hk y (Array.mem_toList_iff.mp hy);simp[DictEntry.refKey,hkey]
  have a':¬es.toList.any (·.refKey)=true:=by rw[a];exact QD
  rw[if_neg a'];exact JT some e
variable{C:Addr}
def ObjM.look{x:Addr}(I:ObjM h x dx C mA):∃od,PySem.W.InstAt h x (PySem.W.instObj C dx) C (some od)/\∀name,PySem.W.lookIn name od=some (mA name):=
 let⟨od,ho,hl⟩:=zmr I.ns
 ⟨od,⟨I.obj,rfl,rfl,ho⟩,hl⟩
def vC.some_of{v:V}{o:Option Value}(r:vC (some v) o):∃u,o=some u/\zR v u:=by
 cases o with
 |none=>exact((r)).elim
 |some u=>exact⟨u,rfl,r⟩
section
variable{P:Program}{w:World}{H H':Hp}{h h':Heap}{a C dx:Addr}{fs fs':U (Str×V)}
def zrd(hok:HOk P w H h)(e:H a=some (.ins C dx fs)):∃mA,ObjM h a dx C mA/\(∀f,vC (fs.lookup f) (mA f))/\PySem.Within mA (fs.map (·.1))/\fs.length<=1000/\H dx=some (.own a):=by let⟨d,z,ne,ob,mA,n,r,q⟩:=((hok a _ e));exact⟨mA,⟨ob,n,ne⟩,r,q,z,d⟩
end
structure Cls(K:Fg)(C:Addr):Prop where
 pg:PySem.W.plainGet K C Str.empty=true
 hd:PySem.W.hasDictIn K C=true
 po:PySem.W.plainOver K C=true
 sa:PySem.W.findIn K (.ref C) "__setattr__"=some (some (.builtin "object.__setattr__"))
def Cls.get(c:Cls K C)(f:Str):PySem.W.plainGet K C f=true:=c.pg
section
variable{X:Cx}{p4:AO}{σ:St}{H:Hp}{s:Shared}{A:Around}{E:Vs}{Q:Vs}{c:Value}{b:Bool}
inductive xT(K:Fg)(H:Hp):V->Value->Prop where
 |non:xT K H .non (.type "NoneType")
 |bl (x:Bool):xT K H (.bl x) (.type "bool")
 |int (i:Int):xT K H (.int i) (.type "int")
 |str (x:Str):xT K H (.str x) (.type "str")
 |flt (x:UInt64):xT K H (.flt x) (.type "float")
 |lst {a:Addr}{xs:U V} (e:H a=some (.lst xs)):xT K H (.ref a) (.type "list")
 |frz {a:Addr}{o:Obj} {xs:U V}(e:H a=some (.frz o (.lst xs))):xT K H (.ref a) (.type "list")
 |tup {a:Addr}{xs:U V} (e:H a=some (.tup xs)):xT K H (.ref a) (.type "tuple")
 |dK {a:Addr}{p5:U (Key×V)} (e:Rd H a (.dK p5)):xT K H (.ref a) (.type "dict")
 |dT {a:Addr}{p5:U (zP×V)} {ys:U V}(e:Rd H a (.dT p5 ys)):xT K H (.ref a) (.type "dict")
 |ins {a C dx:Addr}{fs:U (Str×V)} (e:H a=some (.ins C dx fs)) (cl:Cls K C) (ha:PySem.W.findIn K (.ref C) "__class__"=some (some (.builtin "object.__class__")))
   (hn:PySem.W.specialIn K (.builtin "object.__class__") "__get__"=some (some (.builtin "getset_descriptor.__get__"))) (htk:PySem.W.takesIn K (.builtin "object.__class__")=some true)
   (hm:PySem.W.mroIn K C (.type "object")=some true):xT K H (.ref a) (.ref C)
def zmA{x:V}{t:Value}(I:Inv X p4 σ H s)(rx:zR x u)(ty:xT X.K H x t)(e:PySem.W.kitOne X.K t c=some b)(h:∀tk,Q (.bool b) {s with toks:=tk}):
  wpAny (Y0 1) A (call (.builtin "isinstance") [u,c]) Q E s:=by
 cases ty with
 |non=>cases((rx));exact Qd PySem.W.kitx_none I.kIn True.intro e (λz=>nomatch z) h
 |bl y=>cases((rx));exact Qd PySem.W.kitx_bool I.kIn True.intro e (λz=>nomatch z) h
 |int i=>let⟨t,q⟩:=((rx));cases q;exact Qd PySem.W.kitx_int I.kIn True.intro e (λz=>nomatch z) h
 |str y=>let⟨t,q⟩:=((rx));cases q;exact Qd PySem.W.kitx_str I.kIn True.intro e (λz=>nomatch z) h
 |flt y=>let⟨t,q⟩:=((rx));cases q;exact Qd PySem.W.kitx_float I.kIn True.intro e (λz=>nomatch z) h
 |@lst a xs ea=>
  cases((rx))
  let⟨_,_,n,_,h1⟩:=((I.hok a _ ea));exact Qd PySem.W.kitx_list I.kIn ⟨_,h1,rfl⟩ e (λz=>nomatch z) h
 |@frz a ob xs ea=>
  cases((rx))
  let⟨_,_,_,n,_,h1⟩:=((I.hok a _ ea));exact Qd PySem.W.kitx_list I.kIn ⟨_,h1,rfl⟩ e (λz=>nomatch z) h
 |@tup a xs ea=>
  cases((rx))
  let⟨_,_,_,p⟩:=((I.hok a _ ea));let⟨o,h1,h2,_⟩:=p;exact Qd PySem.W.kitx_tuple I.kIn ⟨o,h1,h2⟩ e (λz=>nomatch z) h
 |@dK a p5 ea=>
  cases((rx))
  let⟨_,_,vs,_,p⟩:=((ea.ok I.hok));let⟨o,es,ep,h1,h2,_⟩:=p;exact Qd PySem.W.kitx_dict I.kIn ⟨o,h1,h2.1⟩ e (λz=>nomatch z) h
 |@dT a p5 ys ea=>
  cases((rx))
  let⟨_,_,xs,_,o,es,ep,h1,h2,_⟩:=((ea.ok I.hok));exact Qd PySem.W.kitx_dict I.kIn ⟨o,h1,h2.1⟩ e (λz=>nomatch z) h
 |@ins a C dx fs ea cl ha hn htk hm=>
  cases((rx))
  let⟨mA,O,_⟩:=zrd I.hok ea;let⟨od,J,_⟩:=O.look;exact Qd (PySem.W.kitx_own (cl.get _) cl.hd ha hn htk hm) I.kIn J e (λz=>nomatch z) h
end
structure jK(k:Nat)(A:Around):Prop where
 hd:A.handled=none
 dp:A.depth+3*k+5<recursionLimit
 un:A.units+16*k+200<cLine
 gd:A.guards=some []
def jK.mono{k:Nat}(r:jK k A)(h:j<=k):jK j A:=⟨r.hd,by have:=r.dp;lia,by have:=r.un;lia,r.gd⟩
theorem jK.deeper{k:Nat}(r:jK (k+1) A)(env:Env):jK k (A.deeper env):=
 ⟨r.hd,by have:=r.dp;show A.depth+1+3*k+5<_;lia,by have:=r.un;show A.units+3+16*k+200<_;lia,r.gd⟩
theorem jK.depth{k:Nat}(r:jK k A):A.depth<recursionLimit:=by have:=r.dp;lia
def tNil:TA:=λ_ H Q=>Q [] H
def zue(ta:TE)(tr:TA):TA:=λσ H Q=>ta σ H λx H1=>tr σ H1 λxs H2=>Q (x::xs) H2
section
variable{X:Cx}{e:Expr}{es:U Expr}{te:TE}{t:TA}{pos:Pos}
def xG:PA X [] tNil:=λ_ _ _ _ H Q I h=>Wt ⟨[],H,I,.nil,h⟩
def yA(ha:PE X e te)(hr:PA X es t)(hs:B0 (starEach (e::es) X.env=(false,eval e X.env)::starEach es X.env)):PA X (e::es) (zue te t):=by intro pos p4 s σ H Q I h;rw[hs];refine Qn (thn (ha p4 s σ H _ I h) λu s1 ⟨x,H1,I1,r1,q1⟩=>?_);exact thn (hr pos p4 s1 σ H1 _ I1 q1) λus s2 ⟨xs,H2,I2,r2,q2⟩=>⟨x::xs,H2,I2,.cons r1 r2,q2⟩
def tTup(t:TA):TE:=λσ H Q=>t σ H λxs H1=>xs.length<=sizeLine/\∀p,H1 p=none->Q (.ref p) (upd H1 p (.tup xs))
def tLst(t:TA):TE:=λσ H Q=>t σ H λxs H1=>xs.length<=sizeLine/\∀p,H1 p=none->Q (.ref p) (upd H1 p (.lst xs))
def zso{x1}(h:PA X es t):PE X (.Tuple es x1 pos) (tTup t):=by intro p4 s σ H Q I hq;refine wpAny_Tuple_spliced (thn (h pos p4 s σ H _ I hq) λus s1 ⟨xs,H1,I1,r,z,q⟩=>⟨by rw[←r.length];exact z,?_⟩);have hf:=I1.hok.fresh (Jf _);refine⟨.ref s1.heap.objs.size,upd H1 s1.heap.objs.size (.tup xs),I1.laid (λb u e=>Heap.get?_push_of_some _ e) (Jf _) ?_,rfl,q _ hf⟩;exact⟨z,us,r,⟨_,Heap.get?_push_size _ rfl,rfl,_,rfl⟩⟩
def zsv(h:PA X es t):PE X (.List es pos) (tLst t):=by intro p4 s σ H Q I hq;refine wpAny_List_spliced (thn (h pos p4 s σ H _ I hq) λus s1 ⟨xs,H1,I1,r,z,q⟩=>⟨by rw[←r.length];exact z,?_⟩);have hf:=I1.hok.fresh (Jf _);refine⟨.ref s1.heap.objs.size,upd H1 s1.heap.objs.size (.lst xs),I1.laid (λb u e=>Heap.get?_push_of_some _ e) (Jf _) ?_,rfl,q _ hf⟩;exact⟨z,us,0,r,Heap.get?_push_size _ rfl⟩
end
abbrev Sp:=U V->Hp->VK->XK->Prop
abbrev CXT:=U Env->Hp->Shared->XK->Vs
structure Env0(P:Program)(w:World)(K:Fg)(mg:SV)(base:Heap)(A:Around)(outer:U Env)(s:Shared)(H:Hp):Prop where
 frames:A.frames=some outer
 mod:Mod K mg base
 bs:∀b o,base.get? b=some o->s.heap.get? b=some o/\H b=none
 bsz:base.objs.size<=s.heap.objs.size
 funs:s.heap.FunFrames base outer
 frf:∀b∈frs outer,H b=none
 hok:HOk P w H s.heap
 bare:AllBare s.gens
def CE(outer:U Env)(P:Program)(w:World)(H:Hp)(s:Shared)(Q:VK)(u:Value)(s':Shared):Prop:=
 ∃v H',s'.os=s.os/\AllBare s'.gens/\Un (frs outer) [] H H' s.heap s'.heap/\HOk P w H' s'.heap/\zR v u/\Q v H'
def CR(CX:CXT)(outer:U Env)(P:Program)(w:World)(H:Hp)(s:Shared)(Q:VK)(E:XK)(r:Result)(s':Shared):Prop:=
 match r with
 | .ok (.ret u)=>CE outer P w H s Q u s'
 | .ok _=>False
 | .error e=>CX outer H s E e s'
structure yP(P:Program)(w:World)(K:Fg)(mg:SV)(base:Heap)(CX:CXT)(k:Nat)(f:Addr)(fd:FuncData)(ps:U Str)(sp:Sp):Prop where
 len:∀vs H Q E,sp vs H Q E->vs.length=ps.length
 run:∀(A:Around) (outer:U Env) (s:Shared) (H:Hp) (args:Args) (us:U Value) (vs:U V) (Q:VK) (E:XK),jK k A->Env0 P w K mg base A outer s H->BindsTo s fd args (ps.zip us)->zN vs us->sp vs H Q E->
  codeAny (model P w) A (.call (.ref f) args) (CR CX outer P w H s Q E) s
variable{mg:SV}{base:Heap}{CX:CXT}{fd:FuncData}{ps:U Str}{sp:Sp}
theorem yP.mono{k:Nat}{f:Addr}(F:yP P w K mg base CX j f fd ps sp)(h:j<=k):
  yP P w K mg base CX k f fd ps sp:=⟨F.len,λA outer s H args us vs Q E hr=>F.run A outer s H args us vs Q E (hr.mono h)⟩
section
variable{X:Cx}{p4:AO}{σ:St}{H:Hp}{s s':Shared}
def Inv.env0(I:Inv X p4 σ H s):Env0 X.prog X.w X.K X.mg X.base X.A X.stack s H:=
 ⟨I.ok.frames,I.ok.mod,I.bs,Jp I.ok.bsz I.sz,I.stack,I.stkFree,I.hok,I.bare⟩
def Inv.after{Q:VK}(I:Inv X p4 σ H s)(h:CE X.stack X.prog X.w H s Q u s'):EP X p4 σ Q u s':=by let⟨v,H',os,bare,un,hok,r,q⟩:=h;let⟨hh,g,d,t,os'⟩:=s';obtain rfl:os'=s.os:=os;exact⟨v,H',I.call un hok bare (λb z=>absurd z (by simp)),r,q⟩
end
def znG(sp:Sp)(dvs:U V)(E:XK)(t:TA):TE:=λσ H Q=>t σ H λvs H1=>sp (vs++dvs) H1 Q E
def wG(K:Fg)(fd:FuncData)(ps:U Str)(ds:U Value):Prop:=
 ∀(s:Shared) (us:U Value),K.In s.heap->(us++ds).length=ps.length->BindsTo s fd ⟨us,[]⟩ (ps.zip (us++ds))
def wG.all(h:∀us:U Value,us.length=ps.length->bindArgs fd ⟨us,[]⟩=pure (ps.zip us)):wG K fd ps []:=λs us _ hl=>by rw[JL]at hl ⊢;exact .of_eq (h us hl)
def znw(CX:CXT)(X:Cx)(E:XK):Prop:=∀(p4:AO) (σ:St) (H:Hp) (s:Shared) (e:Value) (s':Shared),Inv X p4 σ H s->CX X.stack H s E e s'->X.xe e s'
section
variable{X:Cx}{CX:CXT}{k:Nat}{f C:Addr}{fd:FuncData}{ps:U Str}{sp:Sp}{dvs:U V}{ds:U Value}{E:XK}{x m:Str}{p pos p9:Pos}{e o:Expr}{es:U Expr}{ta:TE}{t:TA}
def zrU{Q:VK}{vs:U V}(F:yP X.prog X.w X.K X.mg X.base CX k f fd ps sp)(hr:jK k X.A)(hb:wG X.K fd ps ds)(hd:zN dvs ds)(hx:znw CX X E)(I:Inv X p4 σ H s)(r:zN vs us)(h:sp (vs++dvs) H Q E):wpAny (Y0 1) X.A (call (.ref f) us) (EP X p4 σ Q) X.xe s:=by
 have r2:=r.append hd;have hl:(us++ds).length=ps.length:=by rw[←r2.length];exact F.len _ _ _ _ h
 refine wpAny_call (codeAny_mono (F.run X.A X.stack s H ⟨us,[]⟩ (us++ds) (vs++dvs) Q E hr I.env0 (hb s us I.kIn hl) r2 h) λr s' hq=>?_);cases r with
 |error e=>exact hx p4 σ H s e s' I hq
 |ok fl=>
  cases fl with
  |ret u=>exact I.after hq
  |next=>exact False.elim hq
  |brk=>exact False.elim hq
  |cont=>exact False.elim hq
def zhP(F:yP X.prog X.w X.K X.mg X.base CX k f fd ps sp)(hr:jK k X.A)(hg:Gl X x)(hm:X.mg x=some (.ref f))(hk:PySem.W.keepIn X.K (.ref f)=true)(hb:wG X.K fd ps ds)(hd:zN dvs ds)(hx:znw CX X E)(ha:PA X (e::es) t)(hdb:C0 (Y0 2))(he:B0 (starEach (e::es) X.env=(false,eval e X.env)::starEach es X.env))(hpl:B0 ((backTo pos (starEach es X.env)).any (·.1)=false)):
  PE X (.Call (.Name x p) (e::es) [] pos) (znG sp dvs E t):=by
 intro p4 s σ H Q I h;refine QU (zqT I hg hm ?_ hdb);refine PySem.W.callWith_K I.ok.mod.kin hk (thn (ha pos p4 s σ H _ I h) λus s1 ⟨vs,H1,I1,r,q⟩=>⟨I1.kIn,?_⟩) he hpl;exact zrU F hr hb hd hx I1 r q
end
structure nA(N P:U Str)(sc:Scope):Prop where
 kind:sc.kind=.function
 co:sc.isCoroutine=false
 gen:sc.isGenerator=false
 nd:N.Nodup
 pre:N.take P.length=P
 par:∀x∈P,sc.names.lookup x=some .local\/sc.names.lookup x=some .cell
 nofree:∀y∈sc.names,y.2≠.free
variable{kindOf:Str->Option NameKind}
theorem zhr:∀{binds:U (Str×Value)}{m:SV},(∀v,(x,v)∉binds)->bindL kindOf binds m x=m x
 |[],_,_=>rfl
 |(n,v)::r,m,h=>by
  unfold bindL;rw[zhr λw hw=>h w (Ji _ hw)];split
  ·have:x≠n:=by rintro rfl;exact h v JX
   simp[this]
  ·rfl
theorem zht:∀{binds:U (Str×Value)}{m:SV},(∀v,(x,v)∉binds)->bindC kindOf binds m x=m x
 |[],_,_=>rfl
 |(n,v)::r,m,h=>by
  unfold bindC;rw[zht λw hw=>h w (Ji _ hw)];split
  ·rfl
  ·have:x≠n:=by rintro rfl;exact h v JX
   simp[this]
variable{v:Value}
theorem zhs:∀{P:U Str}{vs:U Value} {i:Nat}{m:SV},P.Nodup->P[i]?=some x->vs[i]?=some v->kindOf x=some .local->
  bindL kindOf (P.zip vs) m x=some v
 |[],_,_,_,_,h,_,_=>by simp at h
 |_::_,[],_,_,_,_,h,_=>by simp at h
 |p::P,w::vs,0,m,nd,h1,h2,hk=>by simp at h1 h2;subst h1;subst h2;show bindL kindOf ((p,w)::P.zip vs) m p=_;unfold bindL;rw[zhr λv hv=>(JR.mp nd).1 (QW hv).1,if_pos hk];simp
 |p::P,w::vs,i+1,m,nd,h1,h2,hk=>by unfold bindL;exact zhs (i:=i) (JR.mp nd).2 (by simpa using h1) (by simpa using h2) hk
theorem zhu:∀{P:U Str}{vs:U Value} {i:Nat}{m:SV},P.Nodup->P[i]?=some x->vs[i]?=some v->kindOf x≠some .local->
  bindC kindOf (P.zip vs) m x=some v
 |[],_,_,_,_,h,_,_=>by simp at h
 |_::_,[],_,_,_,_,h,_=>by simp at h
 |p::P,w::vs,0,m,nd,h1,h2,hk=>by simp at h1 h2;subst h1;subst h2;show bindC kindOf ((p,w)::P.zip vs) m p=_;unfold bindC;rw[zht λv hv=>(JR.mp nd).1 (QW hv).1,if_neg hk];simp
 |p::P,w::vs,i+1,m,nd,h1,h2,hk=>by unfold bindC;exact zhu (i:=i) (JR.mp nd).2 (by simpa using h1) (by simpa using h2) hk
noncomputable def start(N:U Str)(vs:U V):St:=vs.map some++List.replicate (N.length - vs.length) none
noncomputable def vZ(CX:CXT)(P:Program)(w:World)(K:Fg)(mg:SV)(base:Heap)(N:U Str)(qual:Str)(scope:Scope)(f:Addr)(cd:Value)(A:Around)(outer:U Env)(s:Shared)(H:Hp)(E:XK):Cx where
 prog:=P
 w:=w
 K:=K
 mg:=mg
 base:=base
 A:=A.deeper (envOfC qual scope s.heap.objs.size f cd)
 N:=N
 s₀:=s
 H₀:=H
 env:=envOfC qual scope s.heap.objs.size f cd
 outer:=outer
 stack:=envOfC qual scope s.heap.objs.size f cd::outer
 ex:=[]
 calm:=true
 fn:=λ_=>true
 pn:=[]
 xe:=λe s'=>wpAny (model P w) (A.deeper (envOfC qual scope s.heap.objs.size f cd)) (leaving (envOfC qual scope s.heap.objs.size f cd) e) (λ_ s''=>CX outer H s E e s'') (λe' s''=>CX outer H s E e' s'') s'
def zjC{sc:Scope}(h:sc.names.lookup x=some .cell):∃c,(cellsFrom n sc.names []).lookup x=some c:=by have q:=PySem.W.cellsFrom_some sc.names n [] (.inl h);exact Option.isSome_iff_exists.mp q
variable{qual:Str}{scope:Scope}
def zmB{f:Addr}{cd:Value}{outer:U Env}{s1:Shared}{E:XK}{vs:U V}(S:nA N ps scope)(hd:A.handled=none)(e0:Env0 P w K mg base A outer s H)(hl:vs.length=ps.length)(r:zN vs us)(x:InCallC s s.heap.objs.size (bindL (envOfC qual scope s.heap.objs.size f cd).kindOf (ps.zip us) λ_=>none) (cellsFrom (s.heap.objs.size+1) scope.names []) (bindC (envOfC qual scope s.heap.objs.size f cd).kindOf (ps.zip us) λ_=>none) s1):
  Inv (vZ CX P w K mg base N qual scope f cd A outer s H E) [] (start N vs) H s1:=by
 have hpl:ps.length<=N.length:=by have:=JT List.length S.pre;grind
 let⟨h1,tk,rfl,hk⟩:=x.done;have noA:∀b:Addr,b∉(vZ CX P w K mg base N qual scope f cd A outer s H E).ex:=λb z=>absurd (show b∈([]:U Addr)from z) (by simp)
 refine⟨⟨e0.mod,S.kind,rfl,rfl,Jf _,λy z c h1 h2=>?_,λy hy=>?_,λy c _ h=>?_,λ_=>hd,Around.frames_deeper e0.frames,.inr ⟨rfl,rfl⟩,λb z=>absurd z (noA b),e0.bs,e0.bsz,λb _ _=>noA b,λb z=>absurd z (noA b),e0.funs,e0.frf⟩,
  rfl,e0.bare,Un.kept hk,⟨_,x.toInCall.ns,λi y v h1 h2 h3=>?_⟩,λy c h=>⟨_,x.cell y c h⟩,e0.hok.fresh (Jf _),λy c h=>?_,λp hp=>absurd (show p∈([]:AO)from hp) (by simp),e0.hok.kept hk,?_⟩
 ·exact name_of_addr x.apart (Qu h1) (Qu h2)
 ·rcases hy with hy|hy
  ·exact zjC hy
  ·exact absurd rfl (S.nofree _ (Qu hy))
 ·exact Qi (x.above y c (Qu h))
 ·have hi:i<vs.length:=by
   unfold start at h2;by_cases hi:i<vs.length
   ·exact hi
   ·rw[List.getElem?_append_right (by simpa using hi)]at h2;rw[List.getElem?_replicate]at h2;split at h2<;>cases h2
  have ha:vs[i]?=some v:=by
   unfold start at h2;rw[List.getElem?_append_left (by simpa using hi),List.getElem?_map]at h2;cases e:vs[i]? with
   |none=>rw[e]at h2;cases h2
   |some a=>rw[e]at h2;cases h2;rfl
  let⟨u,hu,rv⟩:=r.get ha;have hp:ps[i]?=some y:=by rw[←S.pre,List.getElem?_take_of_lt (by simp_all)];exact h1
  have ndP:ps.Nodup:=by rw[←S.pre];exact S.nd.sublist (List.take_sublist _ _)
  refine⟨u,rv,?_⟩;rcases S.par y (List.mem_of_getElem? hp)with k|k
  ·exact .inl ⟨k,zhs ndP hp hu k⟩
  ·let⟨c,e⟩:=zjC k;refine .inr ⟨.inl k,c,e,?_⟩;have q:=x.cell y c e;rw[zhu ndP hp hu (by show scope.names.lookup y≠_;grind)]at q;exact q
 ·exact e0.hok.fresh (Qi (x.above y c (Qu h)))
 ·unfold start;show _=N.length;rw[Jt,Jc,List.length_replicate];simp[*]
def zuP{k:Nat}{f:Addr}{name:Str}{params:Arguments}{dV kV doc pm cdv ct oc:Value}{an od:Option Addr}{osl:Array (Option Value)}(lk:K.lookup f=some ⟨oc,od,.func (PySem.W.fnOf name qual params body scope dV kV doc pm an cdv ct),osl⟩)(hcd:PySem.W.codeIn K cdv qual=true)(S:nA N ps scope)(len:∀vs H Q E,sp vs H Q E->vs.length=ps.length)(hbody:∀(A:Around) (outer:U Env) (s:Shared) (H:Hp) (vs:U V) (Q:VK) (E:XK),jK k (A.deeper (envOfC qual scope s.heap.objs.size f cdv))->sp vs H Q E->
   ∃t,PSs (vZ CX P w K mg base N qual scope f cdv A outer s H E) body t/\t {nx:=λ_ H'=>Q .non H',rt:=Q} (start N vs) H):
  yP P w K mg base CX (k+1) f (PySem.W.fnOf name qual params body scope dV kV doc pm an cdv ct) ps sp:=by
 refine⟨len,λA outer s H args us vs Q E hr e0 hb r hsp=>?_⟩;have hl:=len _ _ _ _ hsp;have KX:=e0.mod.kin.keeps λb o e=>(e0.bs b o e).1
 have lim:=e0.mod.nolimit.keeps λb o e=>(e0.bs b o e).1
 have hkind:∀y∈ps.zip us,scope.names.lookup y.1=some .local\/(scope.names.lookup y.1=some .cell/\((cellsFrom (s.heap.objs.size+1) scope.names []).lookup y.1).isSome=true):=λ⟨n,v⟩ hy=>by
  rcases S.par n (QW hy).1 with q|q
  ·exact .inl q
  ·exact .inr ⟨q,PySem.W.cellsFrom_some _ _ _ (.inl q)⟩
 refine codeAny_call_function hr.depth (KX _ _ lk) rfl S.co S.gen rfl (PySem.W.codeRec_of KX hcd) (hb _ _ _ _ ?_);refine wpAny_newFunctionEnv_cells S.kind hkind λenv he s1 x=>?_
 subst he;refine⟨lim.keeps x.toInCall.keep,codeAny_func ?_⟩;let⟨t,ht,hq⟩:=hbody A outer s H vs Q E (hr.deeper _) hsp;have I:Inv (vZ CX P w K mg base N qual scope f cdv A outer s H E) [] (start N vs) H s1:=zmB S hr.hd e0 hl r x;refine JQ (ht [] s1 (start N vs) H _ I hq) (λfl s' hs=>?_) λe s' hs=>hs
 have fin:∀{σ':St}{H':Hp} {v:V}{u:Value},Inv (vZ CX P w K mg base N qual scope f cdv A outer s H E) [] σ' H' s'->zR v u->Q v H'->CE outer P w H s Q u s':=
  λ{σ' H' v u} J rv q=>⟨v,H',J.os,J.bare,J.base,J.hok,rv,q⟩
 cases fl with
 |ret u=>
  let⟨v,σ',H',J,rv,q⟩:=hs;exact fin J rv q
 |next=>
  let⟨σ',H',J,q⟩:=hs;exact fin (v:=V.non) J rfl q
 |brk=>
  let⟨_,_,_,q⟩:=hs;exact False.elim q
 |cont=>
  let⟨_,_,_,q⟩:=hs;exact False.elim q
section
variable{X:Cx}{x:Str}{p pos:Pos}{e:Expr}{es:U Expr}{t:TA}{id T:String}{r:U V->Hp->VK->Prop}
def tCB(r:U V->Hp->VK->Prop)(t:TA):TE:=λσ H Q=>t σ H λvs H1=>r vs H1 Q
theorem zfM(hc:kM X (.builtin id) r)(hg:Gl X x)(hm:X.mg x=none)(hv:bootBuiltins x=some (.builtin id))(ha:PA X (e::es) t)(hn:C0 (x≠"__name__"))(hdb:C0 (Y0 2))(he:B0 (starEach (e::es) X.env=(false,eval e X.env)::starEach es X.env))(hpl:B0 ((backTo pos (starEach es X.env)).any (·.1)=false)):PE X (.Call (.Name x p) (e::es) [] pos) (tCB r t):=by intro p4 s σ H Q I h;refine QU (vU I hg hm hv ?_ hn hdb);exact PyProof.Rows.callWith_builtin1 (thn (ha pos p4 s σ H _ I h) λus s1 ⟨vs,H1,I1,r1,q1⟩=>hc p4 s1 σ H1 vs us Q I1 r1 q1) he hpl
def zlO(hc:kM X (.type T) r)(hg:Gl X x)(hm:X.mg x=none)(hv:bootBuiltins x=some (.type T))(ha:PA X (e::es) t)(hn:C0 (x≠"__name__"))(hdb:C0 (Y0 2))(he:B0 (starEach (e::es) X.env=(false,eval e X.env)::starEach es X.env))(hpl:B0 ((backTo pos (starEach es X.env)).any (·.1)=false)):PE X (.Call (.Name x p) (e::es) [] pos) (tCB r t):=by intro p4 s σ H Q I h;refine QU (vU I hg hm hv ?_ hn hdb);exact JK (thn (ha pos p4 s σ H _ I h) λus s1 ⟨vs,H1,I1,r1,q1⟩=>hc p4 s1 σ H1 vs us Q I1 r1 q1) he hpl
def zjY(hc:kM X (.type T) r)(hg:Gl X x)(hm:X.mg x=none)(hv:bootBuiltins x=some (.type T))(hn:C0 (x≠"__name__"))(hdb:C0 (Y0 2)):
  PE X (.Call (.Name x p) [] [] pos) (tCB r tNil):=by
 intro p4 s σ H Q I h;refine QU (vU I hg hm hv ?_ hn hdb);exact PyProof.Rows.callWith_type0 (hc p4 s σ H [] [] Q I .nil h)
end
end L2
namespace HT
noncomputable def lexLt:U Int->U Int->Bool
 |[],[]=>false
 |[],_::_=>true
 |_::_,[]=>false
 |x::xs,y::ys=>if x=y then lexLt xs ys else decide (x<y)
theorem lexLt_cons(x y:Int)(xs ys:U Int):lexLt (x::xs) (y::ys)=if x=y then lexLt xs ys else decide (x<y):=rfl
def zfV:lexLt [] []=false:=rfl
def zeL(y:Int)(ys:U Int):lexLt [] (y::ys)=true:=rfl
theorem zeM(x:Int)(xs:U Int):lexLt (x::xs) []=false:=rfl
def zoQ(A:Around)(s:Shared)(a:Int)(t:Tok)(c:Int)(u:Tok):∃e,SeqAt.EqAt A s (.int a t) (.int c u) e/\(e=true↔a=c):=
 ⟨(a==c),SeqAt.EqAt.int_int a t c u,by simp⟩
variable{t sl:Addr}{Q:Vs}{vl vu:Value}{lo hi:Option Int}
section
variable{prog:Program}{w:World}{A:Around}{E:Vs}{s:Shared}
theorem cat_tup{b:Addr}{vs ws:U Value}(ht:IsTup s.heap t vs.toArray)(hb:IsTup s.heap b ws.toArray)(hv:vs≠[])(h1:ws=[]->Q (.ref t) s)(h2:ws≠[]->Q (Y0 3) {s with heap:=s.heap.push {cls:=.type "tuple",data:=.seq (vs++ws).toArray}})(hsz:vs.length+ws.length<=sizeLine):wpAny (model prog w) A (binaryOp .Add (.ref t) (.ref b)) Q E s:=by
 let⟨⟨cls,dd,data,sl⟩,ho,hc,n,hd⟩:=id ht;let⟨⟨cls2,dd2,data2,sl2⟩,ho2,hc2,n2,hd2⟩:=id hb;simp only at hc hd hc2 hd2;subst hc hd hc2 hd2;have e:vs.toArray++ws.toArray=(vs++ws).toArray:=by simp
 by_cases hw:ws=[]
 ·exact concat_meets ⟨_,ho,rfl⟩ ⟨_,ho2,rfl⟩ noFill_tuple_add seq_tuple_add PySem.F.slot_tuple_add PySem.F.entry_tuple_add (PySem.F.args_tuple_add_2 _ _)
   (tuple_addW1 t b vs.toArray ws.toArray n n2 dd dd2 sl sl2 (by simpa using hv) (by simp[hw])) ⟨ho,ho2,h1 hw⟩
 ·refine concat_meets ⟨_,ho,rfl⟩ ⟨_,ho2,rfl⟩ noFill_tuple_add seq_tuple_add PySem.F.slot_tuple_add PySem.F.entry_tuple_add (PySem.F.args_tuple_add_2 _ _)
   (tuple_addW2 t b vs.toArray ws.toArray n n2 dd dd2 sl sl2 (by simpa using hv) (by simpa using hw) (by rw[Jm,Jm];exact hsz)) ⟨ho,ho2,?_⟩
  rw[e];exact h2 hw
noncomputable def sIx(n d:Nat):Option Int->Nat
 |none=>d
 |some v=>if v<0 then(v+(n:Int)).toNat else min v.toNat n
def sIx_none(n d:Nat):sIx n d none=d:=rfl
theorem sIx_nat(n d k:Nat):sIx n d (some (k:Int))=min k n:=by show(if(k:Int)<0 then((k:Int)+(n:Int)).toNat else min (k:Int).toNat n)=min k n;rfl
def znc(v:Int)(n d:Nat):(if v<0 then max (v+(n:Int)) 0 else min v (n:Int))=((sIx n d (some v):Nat):Int):=by show(if v<0 then max (v+(n:Int)) 0 else min v (n:Int))=(((if v<0 then(v+(n:Int)).toNat else min v.toNat n):Nat):Int);grind
theorem zkD(lo hi:Option Int)(n:Nat):Builtin.Slice.sliceAdjust lo hi 1 (n:Int)=(((sIx n 0 lo:Nat):Int),((sIx n n hi:Nat):Int)):=by
 have h1:=by omega
 unfold Builtin.Slice.sliceAdjust;refine Prod.ext ?_ ?_
 ·cases lo with
  |none=>rfl
  |some v=>exact znc v n 0
 ·cases hi with
  |none=>rfl
  |some v=>exact znc v n n
theorem zjW(i j:Nat):Builtin.Slice.slicePlaces (i:Int) (j:Int) 1=j - i:=by
 unfold Builtin.Slice.slicePlaces;have h1:(1:Int)>0:=by simp
 simp only[h1,if_true,Int.ediv_one]
 split<;>simp_all
theorem zjQ{v:Value}{o:Option Int}{Q:Option Int->Shared->Prop}(p:IsPart v o)(h:Q o s):wpAny (model prog w) A (Builtin.Slice.slicePartIndex v) Q E s:=by
 cases p with
 |none=>exact slicePart_none h
 |int i t=>exact slicePart_int h
theorem zbh{n:Nat}{Q:Int×Int×Nat->Shared->Prop}(hs:s.heap.IsSliceOf sl vl vu .none)(pl:IsPart vl lo)(pu:IsPart vu hi)(h:Q (((sIx n 0 lo:Nat):Int),1,sIx n n hi - sIx n 0 lo) s):wpAny (model prog w) A (Builtin.Slice.sliceApplied (.ref sl) (pure (n:Int))) Q E s:=by let⟨os,hos,hcs,hds⟩:=id hs;refine wpAny_bind (wpAny_bind (JY hos hds rfl (wpAny_bind (JY hos hds rfl (wpAny_bind (JY hos hds rfl (Ja ?_)))))));grind [wpAny_bind,slicePart_none,zjQ,wpAny_pure,zkD,zjW]
def zoc(xs:Array Value)(i k:Nat):((List.range k).filterMap λ(m:Nat)=>xs[((i:Int)+(m:Int)*1).toNat]?).toArray=((xs.toList.drop i).take k).toArray:=by
 have e:(λ(m:Nat)=>xs[((i:Int)+(m:Int)*1).toNat]?)=λm=>xs[i+m]?:=by grind
 rw[e]
 have:=pick_run xs i k;rw[List.filterMap_map]at this;have e2:((λx=>xs[x]?)∘λx=>i+x)=λm=>xs[i+m]?:=rfl
 rw[e2]at this;rw[this]
theorem getItem_tuple_cut{items:Array Value}(ht:IsTup s.heap t items)(hs:s.heap.IsSliceOf sl vl vu .none)(pl:IsPart vl lo)(pu:IsPart vu hi)(hw:¬(sIx items.size 0 lo=0/\sIx items.size items.size hi=items.size))(h:Q (Y0 3) {s with heap:=s.heap.push {cls:=.type "tuple",data:=.seq ((items.toList.drop (sIx items.size 0 lo)).take (sIx items.size items.size hi - sIx items.size 0 lo)).toArray}})(hsz:items.size<=sizeLine):wpAny (model prog w) A (getItem (.ref t) (.ref sl)) Q E s:=by
 have htake:=by
  show((items.toList.drop (sIx items.size 0 lo)).take (sIx items.size items.size hi - sIx items.size 0 lo)).toArray.size<=sizeLine
  (simp at*;lia)
 let⟨os,hos,hcs,hds⟩:=id hs;have hTs:s.TypeIs (.ref sl) "slice":=⟨os,hos,hcs⟩;unfold getItem
 try with_reducible refine Jk ?_
 refine wpAny_bind (wpAny_sequenceKey ht.typeIs (by decide) ?_);refine wpAny_bind (wpAny_callSpecial?_slot ht.typeIs QF
  (Ju QF ht.typeIs entry_tuple_getitem ?_ (args_tuple_getitem _ _)))
 show wpAny _ _ (Builtin.Tuple.tupleItemsOf (.ref t)>>=_) _ _ s;refine wpAny_bind (tupleItemsOf_ ht ?_);refine wpAny_bind (wpAny_typeOf hTs ?_);refine wpAny_bind (zbh hs pl pu ?_);have hno:¬((((sIx items.size 0 lo:Nat):Int)==0&&(1:Int)==1&&(sIx items.size items.size hi - sIx items.size 0 lo)==items.size)=true):=by simp_all
 show wpAny _ _ (if(((sIx items.size 0 lo:Nat):Int)==0&&(1:Int)==1&&(sIx items.size items.size hi - sIx items.size 0 lo)==items.size)=true then _ else _) _ _ s;rw[if_neg hno,zoc];first
  |exact wpAny_bind (JE (Ja ⟨_,rfl,Ja h⟩) htake)
  |exact wpAny_bind (JE (wpAny_bind (Ja (Ja ⟨_,rfl,Ja h⟩))) htake)
  |exact wpAny_bind (wpAny_bind (JE (Ja (Ja ⟨_,rfl,Ja h⟩)) htake))
  |exact wpAny_bind (wpAny_bind (JE (Ja ⟨_,rfl,Ja h⟩) htake))
end
end HT
namespace L2
abbrev TO:=St->Hp->(Option Int->Hp->Prop)->Prop
def PO(X:Cx)(e:Option Expr)(t:TO):Prop:=
 ∀(p4:AO) (s:Shared) (σ:St) (H:Hp) (Q:Option Int->Hp->Prop),Inv X p4 σ H s->t σ H Q->
  wpAny (Y0 1) X.A (evalPart e X.env) (λu s'=>∃o H',Inv X p4 σ H' s'/\IsPart u o/\Q o H') X.xe s
def zqg:TO:=λ_ H Q=>Q none H
def ztX(t:TE):TO:=λσ H Q=>t σ H λx H1=>∃i,x=.int i/\Q (some i) H1
def zcH{ns:U Int}:∀{us:U Value},zN (ns.map V.int) us->IntsAre us ns:=by
 induction ns with
 |nil=>intro us r;cases r;exact .nil
 |cons n ns ih=>
  intro us r;cases r with
  |cons r1 r2=>
   let⟨t,e⟩:=r1;subst e;exact .cons n t (ih r2)
variable{r:V->Option Int->Option Int->Hp->VK->Prop}{xs:U V}{us:U Value}
section
variable{X:Cx}{e:Expr}{te:TE}{lo hi:Option Expr}{tl th:TO}{pos p2:Pos}
def zqy:PO X none zqg:=by intro p4 s σ H Q I h;exact Ja ⟨none,H,I,.none,h⟩
def zqx(h:PE X e te):PO X (some e) (ztX te):=by
 intro p4 s σ H Q I hw;refine thn (h p4 s σ H _ I hw) λu s1 h_=>?_
 let⟨x,H1,I1,r1,q1⟩:=h_;let⟨i,rfl,q⟩:=q1;let⟨t,rfl⟩:=r1;exact⟨some i,H1,I1,.int i t,q⟩
def SlR(X:Cx)(r:V->Option Int->Option Int->Hp->VK->Prop):Prop:=
 ∀(p4:AO) (s:Shared) (σ:St) (H:Hp) (x:V) (v vl vu:Value) (lo hi:Option Int) (sl:Addr) (Q:VK),Inv X p4 σ H s->zR x v->s.heap.IsSliceOf sl vl vu .none->IsPart vl lo->IsPart vu hi->r x lo hi H Q->
  ∃T id,typeLookup (.type T) "__getitem__"=pure (some (.builtin id))/\s.TypeIs v T/\wpAny (Y0 1) X.A (getItem v (.ref sl)) (EP X p4 σ Q) X.xe s
def SlR.or{r':V->Option Int->Option Int->Hp->VK->Prop}(h:SlR X r)(h':SlR X r'):SlR X (λx lo hi H Q=>r x lo hi H Q\/r' x lo hi H Q):=by
 intro p4 s σ H x v vl vu lo hi sl Q I rx hs pl pu q;rcases q with q|q
 ·exact h p4 s σ H x v vl vu lo hi sl Q I rx hs pl pu q
 ·exact h' p4 s σ H x v vl vu lo hi sl Q I rx hs pl pu q
def tSl(r:V->Option Int->Option Int->Hp->VK->Prop)(te:TE)(tl th:TO):TE:=λσ H Q=>te σ H λx H1=>tl σ H1 λl H2=>th σ H2 λu H3=>r x l u H3 Q
theorem zoh(hr:SlR X r)(he:PE X e te)(hl:PO X lo tl)(hu:PO X hi th):PE X (.Subscript e (.Slice lo hi none p2) pos) (tSl r te tl th):=by
 intro p4 s σ H Q I h;refine Subscript_ (thn (he p4 s σ H _ I h) λv s1 ⟨x,H1,I1,r1,q1⟩=>?_);refine wpAny_Slice (thn (hl p4 s1 σ H1 _ I1 q1) λvl s2 ⟨l,H2,I2,pl,q2⟩=>thn (hu p4 s2 σ H2 _ I2 q2) λvu s3 ⟨u,H3,I3,pu,q3⟩=>?_);refine Ja ?_;have I4:Inv X p4 σ H3 {s3 with heap:=s3.heap.push {cls:=.type "slice",data:=.fields #[vl,vu,.none]}}:=I3.kept λb ob q=>Heap.get?_push_of_some _ q
 let⟨T,id,hT,ht,hg⟩:=hr p4 {s3 with heap:=s3.heap.push {cls:=.type "slice",data:=.fields #[vl,vu,.none]}} σ H3 x v vl vu l u s3.heap.objs.size Q I4 r1 (Heap.IsSliceOf.new ..) pl pu q3;exact tail_any ht hT hg (by with_unfolding_all rfl)
noncomputable def wU(xs:U V)(lo hi:Option Int):U V:=(xs.drop (HT.sIx xs.length 0 lo)).take (HT.sIx xs.length xs.length hi - HT.sIx xs.length 0 lo)
def zex(xs:U V)(lo hi:Option Int):(wU xs lo hi).length<=xs.length:=by unfold wU;rw[QN,List.length_drop];lia
def rSlT(K:Fg):V->Option Int->Option Int->Hp->VK->Prop:=λx lo hi H Q=>∃a xs,x=.ref a/\SqT K H a xs/\
 ¬(HT.sIx xs.length 0 lo=0/\HT.sIx xs.length xs.length hi=xs.length)/\∀p,H p=none->Q (.ref p) (upd H p (.tup (wU xs lo hi)))
def zrP:SlR X (rSlT X.K):=by
 intro p4 s σ H x v vl vu lo hi sl Q I rx hs pl pu h;let⟨a,xs,rfl,hx,hw,q⟩:=h;cases rx
 let⟨p6,r,ht,hz⟩:=I.tuple hx;have hlen:p6.toArray.size=xs.length:=by exact r.length.symm
 refine⟨"tuple",_,PyProof.Rows.slot_tuple_getitem.lookup,ht.typeIs,?_⟩;refine HT.getItem_tuple_cut ht hs pl pu (by rw[hlen];exact hw) ?_ (by rw[hlen];exact hz);rw[hlen];refine⟨.ref s.heap.objs.size,_,I.laid (λb ob q=>Heap.get?_push_of_some _ q) (Jf _) ?_,rfl,q _ (I.hok.fresh (Jf _))⟩;exact⟨Jp (zex xs lo hi) hz,_,(r.drop (HT.sIx xs.length 0 lo)).take (HT.sIx xs.length xs.length hi - HT.sIx xs.length 0 lo),IsTup.new _ _⟩
def zur(K:Fg):R2:=λx y H Q=>∃a b xs ys,x=.ref a/\y=.ref b/\SqT K H a xs/\SqT K H b ys/\xs≠[]/\xs.length+ys.length<=sizeLine/\
 (ys=[]->Q (.ref a) H)/\(ys≠[]->∀p,H p=none->Q (.ref p) (upd H p (.tup (xs++ys))))
def zN.nil_iff(r:zN xs us):us=[]↔xs=[]:=by
 cases r with
 |nil=>simp
 |cons _ _=>simp
def zqL:OpR X (binaryOp .Add) (zur X.K):=by
 intro p4 s σ H x y v u Q I rx ry h;let⟨a,b,xs,ys,rfl,rfl,ha,hb,hx,hz,q1,q2⟩:=h;cases rx
 cases ry
 let⟨p6,r1,p1,_⟩:=I.tuple ha;let⟨its2,r2,p2,_⟩:=I.tuple hb;refine HT.cat_tup p1 p2 (λz=>hx (r1.nil_iff.mp z)) (λz=>⟨.ref a,H,I,rfl,q1 (r2.nil_iff.mp z)⟩) (λz=>?_) (by rw[←r1.length,←r2.length];exact hz);refine⟨.ref s.heap.objs.size,_,I.laid (λb ob q=>Heap.get?_push_of_some _ q) (Jf _) ?_,rfl,q2 (λw=>z (r2.nil_iff.mpr w)) _ (I.hok.fresh (Jf _))⟩;exact⟨by rw[Jt];exact hz,_,r1.append r2,IsTup.new _ _⟩
end
noncomputable def ixN(n:Nat)(i:Int):Option Nat:=if 0<=i then(if i<n then some i.toNat else none)else if -(n:Int)<=i then some (i+n).toNat else none
variable{α:Type}
noncomputable def atI(xs:List α)(i:Int):Option α:=(ixN xs.length i).bind λj=>xs[j]?
variable{n:Nat}{i:Int}
def zqZ{j:Nat}(h:ixN n i=some j):seqIndex? i n=some j/\j<n/\ -(n:Int)<=i/\i<n:=by
 unfold ixN at h;by_cases h0:0<=i
 ·rw[if_pos h0]at h;by_cases h1:i<n
  ·rw[if_pos h1]at h;have e:i.toNat=j:=Option.some.inj h;exact⟨by rw[seqIndex_of h0 h1,e],by(subst_vars;lia),by lia,h1⟩
  ·rw[if_neg h1]at h;cases h
 ·rw[if_neg h0]at h;by_cases h1:-(n:Int)<=i
  ·rw[if_pos h1]at h;have e:(i+n).toNat=j:=Option.some.inj h;exact⟨by rw[seqIndex_neg (by simp_all) h1,e],by lia,h1,by lia⟩
  ·rw[if_neg h1]at h;cases h
def ziy{xs:List α}{v:α}(h:atI xs i=some v):∃j,seqIndex? i xs.length=some j/\xs[j]?=some v/\j<xs.length/\ -(xs.length:Int)<=i/\i<xs.length:=by
 unfold atI at h;cases e:ixN xs.length i with
 |none=>rw[e]at h;cases h
 |some j=>
  rw[e]at h;let⟨h1,h2,h3,h4⟩:=zqZ e;exact⟨j,h1,h,h2,h3,h4⟩
theorem gA{xs:List α}{j:Nat}{v:α}(h:xs[j]?=some v):atI xs (j:Int)=some v:=by grind [ixN,atI]
def zdD(xs:List α)(v:α):atI (xs++[v]) (-1)=some v:=by
 have hl:(xs++[v]).length=xs.length+1:=by simp
 have e:ixN (xs++[v]).length (-1)=some xs.length:=by
  unfold ixN;rw[hl,if_neg (by decide),if_pos (by simp+arith)]
  congr 1
  simp+arith
 grind [atI]
def zgr(b:Expr):Prop:=∀o i,subscripted b false o i=operate [o,i] (getItem o i)
def IxR(X:Cx)(r:R2):Prop:=
 ∀(value slice:Expr) (p4:AO) (s:Shared) (σ:St) (H:Hp) (x y:V) (v u:Value) (Q:VK),Inv X p4 σ H s->zR x v->zR y u->r x y H Q->
  subscripted slice false v u=operate [v,u] (getItem v u)->wpAny (Y0 1) X.A (subscriptTail value slice v u) (EP X p4 σ Q) X.xe s
def MtR(X:Cx)(id:String)(r:V->U V->Hp->VK->Prop):Prop:=
 ∀(p4:AO) (s:Shared) (σ:St) (H:Hp) (x:V) (xs:U V) (v:Value) (us:U Value) (Q:VK),Inv X p4 σ H s->zR x v->zN xs us->r x xs H Q->
  wpAny (Y0 1) X.A (call (.builtin id) (v::us)) (EP X p4 σ Q) X.xe s
variable{p4:AO}{σ:St}{H:Hp}{s:Shared}{p6 its':U Value}
section
variable{X:Cx}{a b:Expr}{ta tb:TE}{pos:Pos}
def IxR.or{r r':R2}(h:IxR X r)(h':IxR X r'):IxR X (λx y H Q=>r x y H Q\/r' x y H Q):=by
 intro value slice p4 s σ H x y v u Q I rx ry q hs;rcases q with q|q
 ·exact h value slice p4 s σ H x y v u Q I rx ry q hs
 ·exact h' value slice p4 s σ H x y v u Q I rx ry q hs
def zuw{r:R2}(hr:IxR X r)(ha:PE X a ta)(hb:PE X b tb)(hs:zgr b):PE X (.Subscript a b pos) (tOp r ta tb):=by intro p4 s σ H Q I h;exact Subscript_ (binT ha hb I h λv u s2 x y H2 I2 rx ry q=>hr a b p4 s2 σ H2 x y v u Q I2 rx ry q (hs _ _))
def rIxL(K:Fg):R2:=λx y H Q=>∃p xs i v,x=.ref p/\y=.int i/\SqL K H p xs/\atI xs i=some v/\Q v H
def rIxT(K:Fg):R2:=λx y H Q=>∃p xs i v,x=.ref p/\y=.int i/\SqT K H p xs/\atI xs i=some v/\Q v H
def rIxS:R2:=λx y H Q=>∃z i c,x=.str z/\y=.int i/\z.length<=sizeLine/\atI z.cps.toList i=some c/\Q (.str ⟨#[c]⟩) H
def zqY:IxR X (rIxL X.K):=by
 intro value slice p4 s σ H x y v u Q I rx ry h hs;let⟨p,xs,i,z,rfl,rfl,hq,he,q⟩:=h;cases rx
 let⟨t,rfl⟩:=ry;let⟨p6,r,pl,hz⟩:=I.list hq;let⟨j,h1,h2,h3,h4,h5⟩:=ziy he;let⟨w,ew,rw'⟩:=r.get h2;have hl:=r.length;have hn:=zfe;have fin:EP X p4 σ Q w s:=⟨z,H,I,rw',q⟩;by_cases h0:0<=i
 ·have hj:i.toNat=j:=by simp_all[seqIndex_of]
  exact item_listR pl.isList h0 (by lia) (by rw[hj];simpa using ew) fin hs
 ·have hj:(i+(p6.toArray.size:Int)).toNat=j:=by simp_all[seqIndex_neg]
  exact subscriptTail_builtinR (x:=w) pl.isList.typeIs slot_list_getitem.lookup
   (wpAny_getItem_list_neg pl.isList (by simp_all) (by rw[Jm]<;>simp_all) (by lia) (by rw[hj];simpa using ew) ⟨rfl,fin⟩) hs
def ztf:IxR X (rIxT X.K):=by
 intro value slice p4 s σ H x y v u Q I rx ry h hs;let⟨p,xs,i,z,rfl,rfl,hq,he,q⟩:=h;cases rx
 let⟨t,rfl⟩:=ry;let⟨p6,r,pl,hz⟩:=I.tuple hq;let⟨j,h1,h2,h3,h4,h5⟩:=ziy he;let⟨w,ew,rw'⟩:=r.get h2;have hl:=r.length;have hn:=zfe;have fin:EP X p4 σ Q w s:=⟨z,H,I,rw',q⟩;exact subscriptTail_builtinR (x:=w) pl.typeIs slot_tuple_getitem.lookup
  (getItem_tuple (j:=j) pl (by lia) (by lia) (by simp_all) (by simpa using ew) ⟨rfl,fin⟩) hs
def ztg:IxR X rIxS:=by
 intro value slice p4 s σ H x y v u Q I rx ry h hs;let⟨z,i,c,rfl,rfl,hz,he,q⟩:=h;let⟨t,rfl⟩:=rx;let⟨t',rfl⟩:=ry;let⟨j,h1,h2,h3,h4,h5⟩:=ziy he;have hl:z.cps.toList.length=z.length:=by simp[Str.length]
 rw[hl]at h1 h4 h5;have hn:=zfe;exact tail_any (typeIs_str s z t) slot_str_getitem.lookup (getItem_str (c:=c) (by grind) (by rw[h1];simpa using h2) ⟨.str ⟨#[c]⟩,H,I.tok _,⟨_,rfl⟩,q⟩) hs
theorem Inv.lst{p4:AO}{σ:St}{H:Hp}{s:Shared}{p:Addr}{xs:U V}(I:Inv X p4 σ H s)(h:H p=some (.lst xs)):
  ∃(p6:U Value) (n:Nat),zN xs p6/\s.heap.get? p=some {cls:=.type "list",data:=.seq p6.toArray n}/\xs.length<=sizeLine:=by
 let⟨z,p6,n,r,e⟩:=I.hok p _ h;exact⟨p6,n,r,e,z⟩
def Inv.lstUpd{p:Addr}{ys:U V}{n':Nat}{f:Obj->Obj}(I:Inv X p4 σ H s)(h:H p=some (.lst xs))(ho:s.heap.get? p=some {cls:=.type "list",data:=.seq p6.toArray n})(hf:f {cls:=.type "list",data:=.seq p6.toArray n}={cls:=.type "list",data:=.seq its'.toArray n'})(r:zN ys its')(hz:ys.length<=sizeLine)(t:Nat):
  Inv X p4 σ (upd H p (.lst ys)) {s with heap:=s.heap.update p f,toks:=t}:=by
 have e:(s.heap.update p f).get? p=some {cls:=.type "list",data:=.seq its'.toArray n'}:=by rw[Heap.get?_update_self f ho (by rw[hf]<;>rfl),hf]
 refine I.write (x:=p) (e:=p) (by rw[h];trivial) (.inl rfl) (λb u hb q=>(Heap.get?_update_other _ _ (Ne.symm hb)).trans q) ⟨_,e⟩ ?_;exact⟨hz,its',n',r,e⟩
def zgA(lo hi:Option Int)(n:Nat):(sliceBounds lo hi none n).1=((HT.sIx n 0 lo:Nat):Int)/\(sliceBounds lo hi none n).2.1=((HT.sIx n n hi:Nat):Int)/\(sliceBounds lo hi none n).2.2=1:=by
 refine⟨?_,?_,rfl⟩
 ·cases lo with
  |none=>simp[sliceBounds,HT.sIx]
  |some i=>
   simp only[sliceBounds,HT.sIx,Option.getD_none,show(1:Int)>0 by decide,if_true];grind
 ·cases hi with
  |none=>simp[sliceBounds,HT.sIx]
  |some i=>
   simp only[sliceBounds,HT.sIx,Option.getD_none,show(1:Int)>0 by decide,if_true];grind
def zfE(p6:U Value)(lo hi:Option Int):slicePick p6.toArray lo hi none=((p6.drop (HT.sIx p6.length 0 lo)).take (HT.sIx p6.length p6.length hi - HT.sIx p6.length 0 lo)).toArray:=by let⟨h1,h2,h3⟩:=zgA lo hi p6.toArray.size;unfold slicePick;rw[h1,h2,h3];simp only[sliceRange_one,pick_run,List.size_toArray]<;>rfl
def rSlL(K:Fg):V->Option Int->Option Int->Hp->VK->Prop:=λx lo hi H Q=>∃a xs,x=.ref a/\SqL K H a xs/\∀p,H p=none->Q (.ref p) (upd H p (.lst (wU xs lo hi)))
def zql:SlR X (rSlL X.K):=by
 intro p4 s σ H x v vl vu lo hi sl Q I rx hs pl pu h;let⟨a,xs,rfl,hx,q⟩:=h;cases rx
 let⟨p6,r,ht,hz⟩:=I.list hx;have hlen:=r.length;refine⟨"list",_,slot_list_getitem.lookup,ht.isList.typeIs,?_⟩;refine wpAny_getItem_list_slice ht.isList hs pl pu .none (by simp) ?_ (by simp_all);rw[zfE,←hlen];refine⟨.ref s.heap.objs.size,_,I.laid (λb ob q=>Heap.get?_push_of_some _ q) (Jf _) ?_,rfl,q _ (I.hok.fresh (Jf _))⟩;exact⟨Jp (zex xs lo hi) hz,_,0,(r.drop (HT.sIx xs.length 0 lo)).take (HT.sIx xs.length xs.length hi - HT.sIx xs.length 0 lo),Heap.get?_push_size _ rfl⟩
def zhq:kM X (.builtin "len") (λxs H Q=>∃p ys,xs=[.ref p]/\(SqL X.K H p ys\/SqT X.K H p ys)/\Q (.int ys.length) H):=by
 intro p4 s σ H xs us Q I r h;let⟨p,ys,rfl,hq,q⟩:=h;let⟨u,rfl,rx⟩:=vF r;cases rx
 have hn:=zfe;rcases hq with hq|hq
 ·let⟨p6,r',pl,hz⟩:=I.list hq;have hlen:=r'.length;exact Calls.call_len_list pl.isList (by(simp at*;lia)) ⟨.int ys.length,H,I.tok _,⟨s.toks+1,by simp[*]⟩,q⟩
 ·let⟨p6,r',pl,hz⟩:=I.tuple hq;have hlen:=r'.length;exact len_tuple pl (by simp only[List.size_toArray]<;>lia) ⟨.int ys.length,H,I.tok _,⟨s.toks+1,by simp[*]⟩,q⟩
def zhp:kM X (.builtin "len") (λxs H Q=>∃z,xs=[.str z]/\z.length<=sizeLine/\Q (.int z.length) H):=by intro p4 s σ H xs us Q I r h;let⟨z,rfl,hz,q⟩:=h;let⟨u,rfl,t,rfl⟩:=vF r;have hn:=zfe;exact len_str (by lia) ⟨.int z.length,H,I.tok _,⟨_,rfl⟩,q⟩
def kM.or{f:Value}{r r':U V->Hp->VK->Prop}(h:kM X f r)(h':kM X f r'):kM X f (λxs H Q=>r xs H Q\/r' xs H Q):=by
 intro p4 s σ H xs us Q I rs q;rcases q with q|q
 ·exact h p4 s σ H xs us Q I rs q
 ·exact h' p4 s σ H xs us Q I rs q
def zho:kM X (.type "list") (λxs H Q=>∃p ys,xs=[.ref p]/\(SqL X.K H p ys\/SqT X.K H p ys)/\∀l,H l=none->Q (.ref l) (upd H l (.lst ys))):=by
 intro p4 s σ H xs us Q I r h;let⟨p,ys,rfl,hq,q⟩:=h;let⟨u,rfl,rx⟩:=vF r;cases rx
 have fin:∀(p6:U Value),zN ys p6->ys.length<=sizeLine->∀(h':Heap) (c':Nat),(∀b o',s.heap.get? b=some o'->h'.get? b=some o')->
   h'.get? s.heap.objs.size=some {cls:=.type "list",dict:=none,data:=.seq p6.toArray c',slots:=#[]}->EP X p4 σ Q (Y0 3) {s with heap:=h'}:=λp6 r' hz h' c' kp e=>
  ⟨.ref s.heap.objs.size,_,I.laid kp (Jf _) (show kX X.prog X.w _ h' _ (.lst ys)from⟨hz,p6,c',r',e⟩),rfl,q _ (I.hok.fresh (Jf _))⟩
 rcases hq with hq|hq
 ·let⟨p6,r',pl,hz⟩:=I.list hq;have hlen:=r'.length;let⟨o,ho,hc,n,hd⟩:=pl.isList;exact call_list_seq p (.inl rfl) ho hc hd (λh' c' kp e=>fin p6 r' hz h' c' kp e) (by simp only[List.size_toArray]<;>simp_all)
 ·let⟨p6,r',pl,hz⟩:=I.tuple hq;have hlen:=r'.length;let⟨o,ho,hc,n,hd⟩:=pl;exact call_list_seq p (.inr rfl) ho hc hd (λh' c' kp e=>fin p6 r' hz h' c' kp e) (by simp only[List.size_toArray]<;>simp_all)
def zgj:kM X (.type "tuple") (λxs H Q=>∃p ys,xs=[.ref p]/\((SqL X.K H p ys/\∀l,H l=none->Q (.ref l) (upd H l (.tup ys)))\/(SqT X.K H p ys/\Q (.ref p) H))):=by
 intro p4 s σ H xs us Q I r h;let⟨p,ys,rfl,h⟩:=h;let⟨u,rfl,rx⟩:=vF r;cases rx
 rcases h with⟨hq,q⟩|⟨hq,q⟩
 ·let⟨p6,r',pl,hz⟩:=I.list hq;have hlen:=r'.length;refine call_tuple_list pl.isList (λh' kp=>?_) (by simp only[List.size_toArray]<;>simp_all);have I1:=I.kept (t':=s.toks) kp;have I2:=
   I1.laid (t':=s.toks) (λb o e=>Heap.get?_push_of_some _ e) (Jf _) (show kX X.prog X.w _ _ _ (.tup ys)from⟨hz,p6,r',IsTup.new _ _⟩)
  exact⟨.ref h'.objs.size,_,I2,rfl,q _ (I1.hok.fresh (Jf _))⟩
 ·let⟨p6,r',pl,hz⟩:=I.tuple hq;exact call_tuple_same pl ⟨.ref p,H,I,rfl,q⟩
def tyV(K:Fg)(T:String)(x:V)(H:Hp):Prop:=match x with
 | .str _=>T="str"
 | .int _=>T="int"
 | .ref p=>(T="list"/\∃xs,SqL K H p xs)\/(T="tuple"/\∃o,K.lookup p=some o/\o.cls=.type "tuple"/\o.dict=none)\/
   (T="dict"/\((∃p5,H p=some (.dK p5))\/∃p5 ys,H p=some (.dT p5 ys)))\/(T="set"/\∃S,H p=some (.set S))
 |_=>False
def zpr{T:String}{x:V}{v:Value}(I:Inv X p4 σ H s)(r:zR x v)(ty:tyV X.K T x H):
  s.TypeIs v T/\∀a,v=.ref a->∃ob,s.heap.get? a=some ob/\ob.dict=none:=by
 cases x with
 |str z=>
  let⟨t,rfl⟩:=r;cases((ty))
  exact⟨typeIs_str s z t,λ_ e=>nomatch e⟩
 |int i=>
  let⟨t,rfl⟩:=r;cases((ty))
  exact⟨typeIs_int s i t,λ_ e=>nomatch e⟩
 |ref p=>
  cases r
  rcases ty with⟨rfl,xs,hq⟩|⟨rfl,o,hk,hc,hd⟩|⟨rfl,hk⟩|⟨rfl,S,hk⟩
  ·let⟨p6,_,pl,_⟩:=I.list hq;refine⟨pl.isList.typeIs,λa e=>?_⟩;cases e
   let⟨o,n,e,c,hd,_⟩:=pl;exact⟨o,e,hd⟩
  ·refine⟨⟨o,I.kIn p o hk,hc⟩,λa e=>?_⟩;cases e
   exact⟨o,I.kIn _ o hk,hd⟩
  ·have z:∃o,s.heap.get? p=some o/\o.ExactDict:=by
    rcases hk with⟨p5,hk⟩|⟨p5,ys,hk⟩
    ·let⟨_,_,_,_,o,_,_,e,ex,_⟩:=I.hok p _ hk;exact⟨o,e,ex⟩
    ·let⟨_,_,_,_,o,_,_,e,ex,_⟩:=I.hok p _ hk;exact⟨o,e,ex⟩
   let⟨o,e,ex⟩:=z;refine⟨⟨o,e,ex.1⟩,λa e2=>?_⟩;cases e2
   exact⟨o,e,ex.2.1⟩
  ·let⟨o,_,_,_,e,ex,_⟩:=I.hok p _ hk;refine⟨⟨o,e,ex.1⟩,λa e2=>?_⟩;cases e2
   exact⟨o,e,ex.2.1⟩
 |_=>exact False.elim ty
def tBM0(K:Fg)(T:String)(r:V->U V->Hp->VK->Prop)(to:TE):TE:=λσ H Q=>to σ H λx H1=>tyV K T x H1/\r x [] H1 Q
def tBM(K:Fg)(T:String)(r:V->U V->Hp->VK->Prop)(to:TE)(t:TA):TE:=λσ H Q=>to σ H λx H1=>tyV K T x H1/\t σ H1 λxs H2=>r x xs H2 Q
variable{o e:Expr}{es:U Expr}{to:TE}{t:TA}{name:Str}{p9 p8:Pos}{T id:String}{r:V->U V->Hp->VK->Prop}
theorem zsx(pa:PlainAttrs T)(slot:Slot T name id)(hty:typeOf (.builtin id)=pure (.type "method_descriptor"))(hm:MtR X id r)(ho:PE X o to)(hbase:B0 (attributeBase o name X.env (eval o X.env)=eval o X.env))(hline:B0 ((p9.endLine==p8.line)=true)):PE X (.Call (.Attribute o name p9) [] [] p8) (tBM0 X.K T r to):=by intro p4 s σ H Q I h;refine wpAny_Call_method0_late hbase hline (thn (ho p4 s σ H _ I h) λv s1 ⟨x,H1,I1,r1,ty,q1⟩=>?_);let⟨h1,h2⟩:=zpr I1 r1 ty;exact⟨T,id,pa,slot,hty,h1,h2,QT rfl (PySem.evalArgs_none (hm p4 s1 σ H1 x [] v [] Q I1 r1 .nil q1))⟩
theorem zjZ(pa:PlainAttrs T)(slot:Slot T name id)(hty:typeOf (.builtin id)=pure (.type "method_descriptor"))(hm:MtR X id r)(ho:PE X o to)(ha:PA X (e::es) t)(hbase:B0 (attributeBase o name X.env (eval o X.env)=eval o X.env))(hfew:B0 (((backTo p8 (starEach (e::es) X.env)).all (λx=>!x.1)&&(backToKw p8 (keywordEach [] X.env)).all (λx=>x.1.isSome)
   &&decide ((e::es).length+([]:U Keyword).length+(if([]:U Keyword).isEmpty then 0 else 1)<30))=true))(hline:B0 ((p9.endLine==p8.line)=true))(hs:B0 (starEach (e::es) X.env=(false,eval e X.env)::starEach es X.env))(hplain:B0 ((backTo p8 (starEach es X.env)).any (·.1)=false)):
  PE X (.Call (.Attribute o name p9) (e::es) [] p8) (tBM X.K T r to t):=by
 intro p4 s σ H Q I h;refine wpAny_Call_method_late hbase hfew hline rfl (thn (ho p4 s σ H _ I h) λv s1 ⟨x,H1,I1,r1,ty,q1⟩=>?_);let⟨h1,h2⟩:=zpr I1 r1 ty;refine⟨T,id,pa,slot,hty,h1,h2,?_⟩;have hA:=ha p8 p4 s1 σ H1 _ I1 q1;rw[hs]at hA ⊢;refine QT (by show(false||(backTo p8 (starEach es X.env)).any (·.1))=false;rw[hplain]<;>rfl) (Wz ?_);exact thn hA λus s2 ⟨vs,H2,I2,r2,q2⟩=>hm p4 s2 σ H2 x vs v us Q I2 r1 r2 q2
/- xs.append(e),list.index on a module's tuple .. are MtR facts of 06m -/
end
def MtM(X:Cx)(id:String)(r:V->U V->Hp->VK->Prop):Prop:=
 ∀(p4:AO) (s:Shared) (σ:St) (H:Hp) (x:V) (xs:U V) (v:Value) (us:U Value) (Q:VK),Inv X p4 σ H s->zR x v->zN xs us->r x xs H Q->
  wpAny (Y0 1) X.A (call (.builtin id) (v::us)) (EP X p4 σ Q) X.xe s
def zN.one:∀{x:V}{us:U Value},zN [x] us->∃u,us=[u]/\zR x u
 |_,_,.cons r .nil=>⟨_,rfl,r⟩
def zN.zero:∀{us:U Value},zN [] us->us=[]
 |_,.nil=>rfl
theorem zN.dropLast(h:zN xs us):zN xs.dropLast us.dropLast:=by
 induction h with
 |nil=>exact .nil
 |cons r t ih=>
  cases t with
  |nil=>exact .nil
  |cons q t'=>exact .cons r ih
theorem zN.eraseIdx:∀{xs:U V}{us:U Value} (i:Nat),zN xs us->zN (xs.eraseIdx i) (us.eraseIdx i)
 |_,_,_,.nil=>.nil
 |_,_,0,.cons _ t=>t
 |_,_,i+1,.cons r t=>.cons r (zN.eraseIdx i t)
theorem zN.reverse(h:zN xs us):zN xs.reverse us.reverse:=by
 induction h with
 |nil=>exact .nil
 |cons r t ih=>rw[QY,QY];exact zN.append ih (.cons r .nil)
def zku(l:List α):l.eraseIdx (l.length - 1)=l.dropLast:=by simp
theorem zgT:∀(l:List α) (i:Nat),(l.eraseIdx i).length<=l.length
 |[],_=>Jf _
 |_::_,0=>Nat.le_succ _
 |_::r,i+1=>Nat.succ_le_succ (zgT r i)
variable{t':Nat}
section
variable{X:Cx}{p4:AO}{σ:St}{H:Hp}{s:Shared}{l b:Addr}{xs ys zs:U V}
def Inv.lset{f:Array Value->Array Value}(I:Inv X p4 σ H s)(hH:H l=some (.lst xs))(e:s.heap.get? l=some {cls:=.type "list",data:=.seq p6.toArray n})(hf:f p6.toArray=its'.toArray)(hv:zN ys its')(hz:ys.length<=sizeLine):
  Inv X p4 σ (upd H l (.lst ys)) {s with heap:=s.heap.update l (Obj.mapSeq f),toks:=t'}:=by
 have q:=PySem.IsL.update e f;rw[hf]at q;refine I.write (x:=l) (e:=l) (by rw[hH];exact trivial) (.inl rfl) (λb' u hb hu=>(Heap.get?_update_other s.heap (Obj.mapSeq f) (Ne.symm hb)).trans hu) ⟨_,q⟩ ?_;exact⟨hz,its',_,hv,q⟩
def Inv.lnew(I:Inv X p4 σ H s)(hv:zN ys p6)(hz:ys.length<=sizeLine):
  Inv X p4 σ (upd H s.heap.objs.size (.lst ys)) {s with heap:=s.heap.push {cls:=.type "list",data:=.seq p6.toArray},toks:=t'}:=
 I.laid (λ_ _ q=>Heap.get?_push_of_some _ q) (Jf _) ⟨hz,p6,0,hv,Heap.get?_push_size _ rfl⟩
theorem Inv.fresh(I:Inv X p4 σ H s):H s.heap.objs.size=none:=I.hok.fresh (Jf _)
def Inv.lstM(I:Inv X p4 σ H s)(hH:H l=some (.lst xs)):xs.length<=sizeLine/\∃(p6:U Value) (n:Nat),zN xs p6/\xs.length=p6.length/\s.heap.get? l=some {cls:=.type "list",data:=.seq p6.toArray n}:=by let⟨z,p6,n,r,e⟩:=I.hok l _ hH;exact⟨z,p6,n,r,r.length,e⟩
def zow(h:n<=sizeLine):Builtin.List.listTooLong n=false:=by unfold Builtin.List.listTooLong;simp[*]
end
section
variable{X:Cx}
def zqu:V->U V->Hp->VK->Prop:=λx vs H Q=>∃l xs y,x=.ref l/\vs=[y]/\H l=some (.lst xs)/\xs.length<sizeLine/\Q .non (upd H l (.lst (xs++[y])))
def zcb:MtM X "list.append" zqu:=by
 intro p4 s σ H x vs v us Q I rx rv h;let⟨l,xs,y,rfl,rfl,hH,hz,q⟩:=h;cases rx
 let⟨u,rfl,ru⟩:=rv.one;let⟨z,p6,n,r,hl,e⟩:=I.lstM hH;refine call_meets F.slot_list_append ⟨_,e,rfl⟩ F.entry_list_append (F.args_list_append_2 _ _) (PySem.list_append l p6.toArray n u (by simp_all)) ⟨e,?_⟩;refine⟨.non,_,I.lset hH e (by simp) (r.append (.cons ru .nil)) ?_,rfl,q⟩
 (simp at*;lia)
def zqt:V->U V->Hp->VK->Prop:=λx vs H Q=>∃l b xs zs,x=.ref l/\vs=[.ref b]/\H l=some (.lst xs)/\H b=some (.lst zs)/\xs.length+zs.length<=sizeLine/\Q .non (upd H l (.lst (xs++zs)))
def zmd:MtM X "list.extend" zqt:=by
 intro p4 s σ H x vs v us Q I rx rv h;let⟨l,b,xs,zs,rfl,rfl,hH,hB,hz,q⟩:=h;cases rx
 let⟨u,rfl,ru⟩:=rv.one;cases ru
 let⟨z,p6,n,r,hl,e⟩:=I.lstM hH;let⟨z2,its2,n2,r2,hl2,e2⟩:=I.lstM hB;have hsz:p6.toArray.size+its2.toArray.size<=sizeLine:=by simp_all
 have hlong:¬(!p6.toArray.isEmpty&&Builtin.List.listTooLong (p6.toArray.size+its2.toArray.size))=true:=by simp_all[zow]
 refine call_meets F.slot_list_extend ⟨_,e,rfl⟩ F.entry_list_extend (F.args_list_extend_2 _ _)
  (AutoSeq1.list_extend_list_list_0 l p6.toArray n b its2.toArray n2 hlong (by simp_all) (by lia)) ⟨e,e2,?_⟩
 refine⟨.non,_,I.lset hH e (by simp) (r.append r2) ?_,rfl,q⟩;rw[Jt];lia
def rPop:V->U V->Hp->VK->Prop:=λx vs H Q=>∃l xs y,x=.ref l/\vs=[]/\H l=some (.lst xs)/\xs[xs.length - 1]?=some y/\Q y (upd H l (.lst xs.dropLast))
def zsN:MtM X "list.pop" rPop:=by
 intro p4 s σ H x vs v us Q I rx rv h;let⟨l,xs,y,rfl,rfl,hH,hy,q⟩:=h;cases rx
 have hus:=rv.zero;subst hus;let⟨z,p6,n,r,hl,e⟩:=I.lstM hH;let⟨u,hu,ru⟩:=r.get hy;have hy':p6.toArray[p6.toArray.size - 1]?=some u:=by simp_all
 refine call_meets F.slot_list_pop ⟨_,e,rfl⟩ F.entry_list_pop (F.args_list_pop_1 _) (MeetsSeq.list_pop_last l p6.toArray n u hy' (by rw[Jm];simp_all)) ⟨e,?_⟩;refine⟨y,_,I.lset hH e ?_ r.dropLast ?_,ru,q⟩
 ·show p6.toArray.eraseIdxIfInBounds (p6.toArray.size - 1)=p6.dropLast.toArray;rw[Jm,List.eraseIdxIfInBounds_toArray,zku]
 ·rw[List.length_dropLast]
  (simp at*;lia)
def zrW:V->U V->Hp->VK->Prop:=λx vs H Q=>∃l xs i k y,x=.ref l/\vs=[.int i]/\H l=some (.lst xs)/\ -(2^63)<=i/\i<2^63/\seqIndex? i xs.length=some k/\xs[k]?=some y/\Q y (upd H l (.lst (xs.eraseIdx k)))
def zoz:MtM X "list.pop" zrW:=by
 intro p4 s σ H x vs v us Q I rx rv h;let⟨l,xs,i,k,y,rfl,rfl,hH,h1,h2,hk,hy,q⟩:=h;cases rx
 let⟨u,rfl,ru⟩:=rv.one;let⟨t,rfl⟩:=ru;let⟨z,p6,n,r,hl,e⟩:=I.lstM hH;let⟨w,hw,rw'⟩:=r.get hy;refine call_meets F.slot_list_pop ⟨_,e,rfl⟩ F.entry_list_pop (F.args_list_pop_2 _ _)
  (MeetsSeq.list_pop_at l p6.toArray n i t k w (fitsIndex_both h1 h2) (by simp_all) (by simp[*]) (by rw[Jm];simp_all)) ⟨e,?_⟩
 refine⟨y,_,I.lset hH e ?_ (r.eraseIdx k) ?_,rw',q⟩
 ·show p6.toArray.eraseIdxIfInBounds k=(p6.eraseIdx k).toArray;rw[List.eraseIdxIfInBounds_toArray]
 ·have:=zgT xs k;lia
def rCat:R2:=λx y H Q=>∃l b xs zs,x=.ref l/\y=.ref b/\H l=some (.lst xs)/\H b=some (.lst zs)/\xs.length+zs.length<=sizeLine/\∀p,H p=none->Q (.ref p) (upd H p (.lst (xs++zs)))
def zpF:OpR X (binaryOp .Add) rCat:=by
 intro p4 s σ H x y v u Q I rx ry h;let⟨l,b,xs,zs,rfl,rfl,hH,hB,hz,q⟩:=h;cases rx
 cases ry
 let⟨z,p6,n,r,hl,e⟩:=I.lstM hH;let⟨z2,its2,n2,r2,hl2,e2⟩:=I.lstM hB;refine PySem.P.add_list e e2 ?_ (by simp_all);have ea:p6.toArray++its2.toArray=(p6++its2).toArray:=by simp
 rw[ea];exact⟨.ref _,_,I.lnew (r.append r2) (by simp_all),rfl,q _ I.fresh⟩
end
end L2
namespace Att
open PySem PySem.W PySem.Calls PyProof.Rows
variable{P:Params}{h:Heap}
def zel:∀(ns:U Int) (vs:U Value),WellAll P h vs (ns.map WData.int)->IntsAre vs ns:=by
 intro ns;induction ns with
 |nil=>
  intro vs w;cases w
  exact .nil
 |cons n ns ih=>
  intro vs w;cases w with
  |cons a b=>
   cases a
   exact .cons _ _ (ih _ b)
variable{l:OpenLaw}{n:Nat}
def zln(hn:l.most=some n){args:U WData}{vals:U Value}(hpre:l.row.toRowW.claim.pre args=true)(hwl:WellAll P h vals args):
  ∃a vs ns,vals=[Value.ref a]/\args=[WData.list (ns.map WData.int)]/\h.get? a=some {cls:=.type "list",data:=.seq vs.toArray}/\IntsAre vs ns/\ns.length<=n:=by
 have hsh:=(pre_splitW hpre).1;have hc:l.pre.holds [] {args:=args}=true:=(pre_splitW hpre).2;let⟨d,r,rfl,h1,h2⟩:=hasAllW_cons hsh;obtain rfl:=hasAllW_nil h2;let⟨xs,rfl,h3⟩:=hasW_list h1;let⟨ns,rfl⟩:=items_int h3;have hlen:ns.length<=n:=by
  have h4:(WTm.not (.lt (.lit (.int (n:Int))) (.len (.arg 0)))).holds [] {args:=[.list (ns.map .int)]}=true:=by have h4:=(holds_andW hc).1;rw[hn]at h4;exact h4
  have h5:=condW_of h4 (w_not (w_lt w_lit (w_len_list (w_arg rfl))));simp_all
 cases hwl with
 |cons w1 w2=>
  cases w2
  cases w1 with
  |list ho hall=>exact⟨_,_,ns,rfl,rfl,ho,zel ns _ hall,hlen⟩
def zlE(l:OpenLaw)(args:U WData):l.row.toRowW.claim.post args (.bool true) args=true:=
 postW_of
  (show WShape.has [] (.bool true) .bool=true by first|rfl|decide|simp[WShape.has,WShape.arms,WShape.armsAll])
  ((w_eq_bool (w_res rfl) w_lit)) rfl
def attach_call{q:Program}{loose:U Str}{XP:(SV)->Heap->Prop}{YP:World->Heap->Prop}{d:DefRec}(hn:l.most=some n)(hdf:d.params.defaults=[])(call:∀(w:World) (s₀ s₁:Shared) (mg mb:SV) (fa:Addr) (o:Obj) (pm cd doc:Value) (a:Addr) (vs:U Value) (ns:U Int),
   Ground q loose [] XP w s₀ mg mb s₁.heap->YP w s₁.heap->
   s₁.heap.get? fa=some o->o.data=.func (docDef d.name d.params d.body d.scope pm cd doc)->s₁.heap.CodeRec cd d.name->mg d.name=some (.ref fa)->
   s₁.heap.get? a=some {cls:=.type "list",data:=.seq vs.toArray}->IntsAre vs ns->ns.length<=n->PySem.W.WData.layableAll [PySem.W.WData.list (ns.map PySem.W.WData.int)]=true->s₁.gens=#[]->
   codeAny (model l.prog w) callerA (.call (.ref fa) ⟨[.ref a],[]⟩) (λr s'=>r=.ok (.ret (.bool true))/\OldK s₁.heap s'.heap/\s'.os=s₁.os/\AllBare s'.gens) s₁):
  WalkO q loose XP YP l.row.toRowW d [] (λf vs=>PySem.call f vs):=by
 intro w s₀ s₁ mg mb G Y fa o pm cd doc dV kV ho hd hcd hD hmg hg args vals as hpre hlay hrd hwl hlo;obtain rfl:dV=.none:=Dflts.none hD hdf;obtain rfl:kV=.none:=Dflts.noKw hD;let⟨a,vs,ns,rfl,rfl,hobj,hints,hlen⟩:=zln hn hpre hwl;refine enter_call (codeAny_mono (call w s₀ s₁ mg mb fa o pm cd doc a vs ns G Y ho (fd_plain hd) hcd hmg hobj hints hlen hlay hg) λr s' hq=>?_);let⟨rfl,h2,h3,h4⟩:=hq;exact⟨.inl ⟨.bool true,.bool true,[],rfl,λ_=>rfl,.bool true,zlE l _,λ_=>⟨List.Pairwise.nil,λ_ hm=>(nomatch hm)⟩⟩,h2,h3,h4⟩
end Att
namespace L2
theorem zgv:∀{vs:U Value}{ns:U Int},IntsAre vs ns->zN (ns.map V.int) vs
 |_,_,.nil=>.nil
 |_,_,.cons n t h=>.cons ⟨t,rfl⟩ (zgv h)
def Only(H:Hp):Prop:=∀b,H b=none\/∃o xs,H b=some (.frz o (.lst xs))
def zoG{P:Program}{w:World}{K:Fg}{mg mb:SV}{CX:CXT}{k:Nat}{fa a:Addr}{fd:FuncData}{x:Str}{sp:Sp}{s₁:Shared}{vs:U Value}{ns:U Int}(KX:K.In s₁.heap)(hns:s₁.heap.Ns mainGlobals mg)(hb:s₁.heap.Ns builtinsNs mb)(hbb:∀x:Str,x≠"__name__"->mb x=bootBuiltins x)(hlim:s₁.heap.NoLimit)(hg:s₁.gens=#[])(ha:s₁.heap.get? a=some {cls:=.type "list",data:=.seq vs.toArray})(hi:IntsAre vs ns)(hl:ns.length<=sizeLine)(hr:jK k callerA)(F:∀base:Heap,K.In base->base.Ns mainGlobals mg->yP P w K mg base CX k fa fd [x] sp)(hbind:∀(s:Shared) (u:Value),BindsTo s fd ⟨[u],[]⟩ [(x,u)])(hsp:∀H:Hp,Only H->SqL K H a (ns.map V.int)->sp [.ref a] H (λv _=>v=.bl true) λ_ _ _=>False)(hCX:∀H e s',CX [] H s₁ (λ_ _ _=>False) e s'->False):
  codeAny (model P w) callerA (.call (.ref fa) ⟨[.ref a],[]⟩) (λr s'=>r=.ok (.ret (.bool true))/\OldK s₁.heap s'.heap/\s'.os=s₁.os/\AllBare s'.gens) s₁:=by
 have rv:=zgv hi;have lenV:=hi.length;have core:∀H:Hp,Only H->SqL K H a (ns.map V.int)->HOk P w H s₁.heap->(∀b,H b≠none->b=a)->(H a≠none->K.lookup a=none)->
   codeAny (model P w) callerA (.call (.ref fa) ⟨[.ref a],[]⟩) (λr s'=>r=.ok (.ret (.bool true))/\OldK s₁.heap s'.heap/\s'.os=s₁.os/\AllBare s'.gens) s₁:=by
  intro H hO hS hok hA hK;have base_of:∀{b:Addr}{o:Obj},s₁.heap.get? b=some o->H b=none->(nY s₁.heap H).get? b=some o:=λe n=>zoM e n
  have noA:∀{b:Addr}{o:Obj} {es:Array DictEntry}{ep:Nat},s₁.heap.get? b=some o->o.data=.dict es ep->H b=none:=λ{b o es ep} e d=>by grind
  have nsK:∀{b:Addr}{m:SV},s₁.heap.Ns b m->(nY s₁.heap H).Ns b m:=λ{b m} ⟨o,es,ep,e,d,r⟩=>⟨o,es,ep,base_of e (noA e d),d,r⟩
  have hKb:=λb o e=>base_of (KX b o e) (by grind)
  have hM:Mod K mg (nY s₁.heap H):=⟨hKb,nsK hns,⟨mb,nsK hb,hbb⟩,let⟨mc,h1,h2⟩:=hlim;⟨mc,nsK h1,h2⟩⟩;have e0:Env0 P w K mg (nY s₁.heap H) callerA [] s₁ H:=⟨rfl,hM,λb o e=>zqN e,Nat.le_of_eq (zmG _ _),trivial,λb hb=>absurd (show b∈([]:U Addr)from hb) (by simp),hok,.of_eq hg⟩;refine codeAny_mono ((F _ hKb (nsK hns)).run callerA [] s₁ H ⟨[.ref a],[]⟩ [.ref a] [.ref a] _ _ hr e0 (hbind s₁ (.ref a)) (.cons rfl .nil) (hsp H hO hS)) λr s' h=>?_
  cases r with
  |error e=>exact(hCX H e s' h).elim
  |ok fl=>
   cases fl with
   |next=>exact False.elim h
   |brk=>exact False.elim h
   |cont=>exact False.elim h
   |ret u=>
    let⟨v,H',os,bare,un,hok',r',q⟩:=h;have q':=q;subst q';obtain rfl:u=Value.bool true:=r';refine⟨rfl,OldK.of_keep λb o e=>?_,os,bare⟩;cases q:H b with
    |none=>exact un.keep b o e q (by intro z;exact absurd (show b∈([]:U Addr)from z) (by simp)) (by simp)
    |some u=>
     rcases hO b with z|⟨ob,xs,z⟩
     ·grind
     ·have z2:=un.frzs b ob _ z;let⟨e1,_⟩:=hok b _ z;let⟨e2,_⟩:=hok' b _ z2;grind
 cases hk:K.lookup a with
 |some o=>
  have e:=KX a o hk;rw[ha]at e;cases e
  refine core (λ_=>none) (λ_=>.inl rfl) (.inr ⟨_,vs.toArray,_,hk,rfl,rfl,rfl,by rw[Jm,lenV];exact hl,by simpa using rv⟩) (λb u z=>by trivial) (λb z=>absurd rfl z) λz=>absurd rfl z
 |none=>
  refine core (λb=>if b=a then some (.frz {cls:=.type "list",data:=.seq vs.toArray} (.lst (ns.map V.int)))else none) (λb=>?_) (.inl (.inr ⟨{cls:=.type "list",data:=.seq vs.toArray},if_pos rfl⟩)) (λb u z=>?_) (λb z=>?_) λ_=>hk
  ·grind
  ·by_cases hb:b=a
   ·have z':=(if_pos hb).symm.trans z;cases z'
    subst hb;exact⟨ha,by rw[Jc];exact hl,vs,_,rv,ha⟩
   ·have z':=(if_neg hb).symm.trans z;cases z'
  simp_all
def walk_of{l:PySem.W.OpenLaw}{n k:Nat}{q:Program}{loose:U Str}{XP:(SV)->Heap->Prop}{YP:World->Heap->Prop}{d:DefRec}{K:Params->Fg}{CX:World->CXT}{sp:World->Sp}{x:Str}(hn:l.most=some n)(hn2:n<=sizeLine)(hdf:d.params.defaults=[])(hr:jK k callerA)(hY:∀(w:World) (h:Heap),YP w h->(K w.params).In h)(F:∀(w:World) (mg:SV) (fa:Addr) (h:Heap),(K w.params).In h->h.Ns mainGlobals mg->mg d.name=some (.ref fa)->
   ∃fd:FuncData,(∀(s:Shared) (u:Value),BindsTo s fd ⟨[u],[]⟩ [(x,u)])/\
    ∀base:Heap,(K w.params).In base->base.Ns mainGlobals mg->yP l.prog w (K w.params) mg base (CX w) k fa fd [x] (sp w))(hsp:∀(w:World) (H:Hp) (a:Addr) (ns:U Int),ns.length<=n->PySem.W.WData.layableAll [PySem.W.WData.list (ns.map PySem.W.WData.int)]=true->Only H->SqL (K w.params) H a (ns.map V.int)->sp w [.ref a] H (λv _=>v=.bl true) λ_ _ _=>False)(hCX:∀(w:World) (H:Hp) (s:Shared) (e:Value) (s':Shared),CX w [] H s (λ_ _ _=>False) e s'->False):
  PySem.W.WalkO q loose XP YP l.row.toRowW d [] (λf vs=>PySem.call f vs):=by
 refine Att.attach_call hn hdf λw s₀ s₁ mg mb fa o pm cd doc a vs ns G Y ho hd hcd hmg hobj hints hlen hlay hg=>?_
 have KX:=hY w _ Y;let⟨fd,hb,hF⟩:=F w mg fa _ KX G.T.g hmg;exact zoG KX G.T.g G.T.b G.T.builtins G.T.nolimit hg hobj hints (Jp hlen hn2) hr hF hb (λH hO hS=>hsp w H a ns hlen hlay hO hS) λH e s'=>hCX w H s₁ e s'
end L2
/- THE LAST THEOREM (shape;LID,My.*are yours):
  My.Adr:a structure of the addresses that your layer names (classes,functions);My.Txt K t:a structure (Prop) of the equations over K;
  My.txt_mk:{K} {implicit addresses ..} (e1:nsIn K mainGlobals "law"=some (some (.ref f))) (e2:K.lookup f=some ⟨oc,od,.func (fnOf "law" "law" params body scope dV kV doc pm an cdv ct),sl⟩) (e3:codeIn K cdv "law"=true) ..:∃t,My.Txt K t
def PySem.Challenge.cw_LID_holds:PySem.Challenge.rw_LID.Holds:=by
 w_on;o_law;k_head;(case hw=>w_witness2)
 k_fill
 refine L2.walk_of (l:=PySem.Challenge.rw_LID) (n:=63) (k:=40) (x:="script") (CX:=λw=>..) (sp:=λ_=>My.sp_law) rfl (by decide) rfl ⟨rfl,by decide,by decide⟩ (λw h Y=>PySem.W.kIn_of Y) ?F ?S ?C
 case F=>
  intro w mg fa h KX G hmg;have T:∃t,My.Txt (L2.KOf KX) t:=by
   dsimp only[L2.KOf] -- K must stand as «<heap const> w.params» for k_is
   refine' My.txt_mk ?e1 ?e2 ?e3 ..
   (case e1=>PySem.W.k_is) -- in the order:a name->p6 address->p6 object->p6 parts
   (case e2=>PySem.W.k_is)
   ..
  let⟨t,T⟩:=T;have e0:=hmg.symm.trans (PySem.W.mg_of KX G T.law);cases e0 -- fa is the law's own address
  exact⟨_,λs u=>.of_eq rfl,λbase kb nb=>My.law_fn T kb nb⟩ -- if «.of_eq rfl» comes too early:refine' ⟨_,?b,λbase kb nb=>My.law_fn T kb nb⟩;exact λs u=>.of_eq rfl
 case S=>exact λw H a ns hl hO hS=>..
 case C=>exact ..
(the tactic k_is has no namespace:write k_is) -/
namespace L2
def zgc(s:Stmt):Arguments:=match s with
 | .FunctionDef _ a _ _ _ _ _ _ _ _=>a
 |_=>{posonlyargs:=[],args:=[],vararg:=none,kwonlyargs:=[],kw_defaults:=[],kwarg:=none,defaults:=[]}
def wT(s:Stmt):U Stmt:=match s with
 | .FunctionDef _ _ b _ _ _ _ _ _ _=>b
 |_=>[]
noncomputable def kQ(s:Stmt):Scope:=match s with
 | .FunctionDef _ _ _ _ _ _ sc _ _ _=>sc
 |_=>{kind:=.function,names:=[],isGenerator:=false,isCoroutine:=false}
abbrev CX0:CXT:=λ_ _ _ _ _ _=>False
abbrev E0:XK:=λ_ _ _=>False
variable{X:Cx}
def zqF:znw CX0 X E0:=λ_ _ _ _ _ _ _ h=>h.elim
structure Fun(K:Fg)(x qual:Str)(st:Stmt)(f:Addr)(fd:FuncData):Prop where
 ex:∃(oc:Value) (od:Option Addr) (kV doc pm:Value) (an:Option Addr) (cdv ct:Value) (osl:Array (Option Value)),
  fd=PySem.W.fnOf x qual (zgc st) (wT st) (kQ st) .none kV doc pm an cdv ct/\K.lookup f=some ⟨oc,od,.func fd,osl⟩/\PySem.W.codeIn K cdv qual=true
 kp:PySem.W.keepIn K (.ref f)=true
variable{x qual:Str}{f:Addr}{fd:FuncData}{N ps:U Str}
section
variable{P:Program}{w:World}{K:Fg}{mg:SV}{base:Heap}
def Fun.ok{st:Stmt}{k:Nat}{sp:Sp}(F:Fun K x qual st f fd)(S:nA N ps (kQ st))(len:∀vs H Q E,sp vs H Q E->vs.length=ps.length)(hbody:∀(cdv:Value) (A:Around) (outer:U Env) (s:Shared) (H:Hp) (vs:U V) (Q:VK) (E:XK),jK k (A.deeper (envOfC qual (kQ st) s.heap.objs.size f cdv))->sp vs H Q E->
   ∃t,PSs (vZ CX0 P w K mg base N qual (kQ st) f cdv A outer s H E).nox (wT st) t/\t {nx:=λ_ H'=>Q .non H',rt:=Q} (start N vs) H):yP P w K mg base CX0 (k+1) f fd ps sp:=by
 let⟨oc,od,kV,doc,pm,an,cdv,ct,osl,rfl,lk,hcd⟩:=F.ex;refine zuP lk hcd S len λA outer s H vs Q E hr hsp=>?_
 let⟨t,h,q⟩:=hbody cdv A outer s H vs Q E hr hsp;exact⟨t,h.nox,q⟩
def Fun.binds{st:Stmt}(F:Fun K x qual st f fd)(h:∀(kV doc pm:Value) (an:Option Addr) (cdv ct:Value) (us:U Value),us.length=ps.length->bindArgs (PySem.W.fnOf x qual (zgc st) (wT st) (kQ st) .none kV doc pm an cdv ct) ⟨us,[]⟩=pure (ps.zip us)):wG K fd ps []:=by let⟨oc,od,kV,doc,pm,an,cdv,ct,osl,rfl,lk,hcd⟩:=F.ex;exact .all (h kV doc pm an cdv ct)
end
variable{A B:Prop}
def wQ(h:B):if false=true then A else B:=by trivial
def wP(h:A):if true=true then A else B:=by rw[if_pos rfl];exact h
def zJ(H H':Hp):Prop:=∀b o,H b=some o->H' b=some o
def zJ.refl(H:Hp):zJ H H:=λ_ _ h=>h
variable{H H2:Hp}
def zJ.trans{H1:Hp}(a:zJ H H1)(b:zJ H1 H2):zJ H H2:=λc o h=>b c o (a c o h)
variable{H':Hp}
def zJ.free(e:zJ H H'){l:Addr}(h:H' l=Option.none):H l=Option.none:=by
 cases q:H l with
 |none=>rfl
 |some o=>
  rw[e l o q]at h;cases h
def zJ.seq{K:Fg}{a:Addr}{xs:U V}(e:zJ H H')(h:SqL K H a xs):SqL K H' a xs:=by
 rcases h with(h|⟨o,h⟩)|h
 ·exact .inl (.inl (e _ _ h))
 ·exact .inl (.inr ⟨o,e _ _ h⟩)
 ·exact .inr h
noncomputable def qC(env:Env):U (Str×NameKind)->U (Str×Addr)->U (Str×Addr)
 |[],p7=>p7
 |(n,k)::r,p7=>qC env r (if k=.free then(n,(env.cells.lookup n).getD 0)::p7 else p7)
variable{env:Env}{scope:Scope}
def zcP(h:∀y∈scope.names,y.2=.free->∃c,env.cells.lookup y.1=some c):closureFor scope env=pure (qC env scope.names []):=by
 unfold closureFor;have go:∀(l:U (Str×NameKind)) (p7:U (Str×Addr)),(∀y∈l,y.2=.free->∃c,env.cells.lookup y.1=some c)->
   (forIn l p7 (λ(x:Str×NameKind) (r:U (Str×Addr))=>(match x with|(name,kind)=>if(kind== .free)=true then(do let c ←cellOf env name;pure (ForInStep.yield ((name,c)::r)))else(pure (ForInStep.yield r)):Sem (ForInStep (U (Str×Addr))))):Sem (U (Str×Addr)))=pure (qC env l p7):=by
  intro l;induction l with
  |nil=>intro p7 _;rfl
  |cons a r ih=>
   intro p7 hl;let⟨n,k⟩:=a;have hr:∀y∈r,y.2=.free->∃c,env.cells.lookup y.1=some c:=λy hy=>hl y (Ji _ hy)
   rw[List.forIn_cons];by_cases hk:k=.free
   ·subst hk;let⟨c,hc⟩:=hl (n,.free) JX rfl;simp only[qC,if_true];have e:cellOf env n=pure c:=by unfold cellOf;simp[*]
    simp only[e,beq_self_eq_true,if_true,pure_bind];rw[show env.cells.lookup n=some c from hc];exact ih _ hr
   ·have hb:(k==NameKind.free)=false:=by simpa using hk
    simp only[qC,if_neg hk,hb,Bool.false_eq_true,if_false,pure_bind];exact ih _ hr
 have:=go scope.names [] h;simpa using this
theorem zgh{env:Env}:∀(l:U (Str×NameKind)) (p7:U (Str×Addr)),(∀y∈l,y.2=.free->∃c,env.cells.lookup y.1=some c)->(∀x c,p7.lookup x=some c->env.cells.lookup x=some c)->
  ∀x c,(qC env l p7).lookup x=some c->env.cells.lookup x=some c
 |[],_,_,ha=>ha
 |(n,k)::r,p7,hl,ha=>by refine zgh r _ (λy hy=>hl y (Ji _ hy)) ?_;grind [List.mem_cons_self]
theorem zgi{env:Env}:∀(l:U (Str×NameKind)) (p7:U (Str×Addr)) (x:Str),((x,NameKind.free)∈l\/∃c,p7.lookup x=some c)->∃c,(qC env l p7).lookup x=some c
 |[],_,x,h=>by
  rcases h with h|h
  ·cases h
  ·exact h
 |(n,k)::r,p7,x,h=>by
  refine zgi r _ x ?_;rcases h with h|⟨c,h⟩
  ·rcases JJ.mp h with h|h;all_goals simp_all
  grind
def zcV{names:U (Str×NameKind)}(hc:∀y∈names,y.2≠.cell){k:NameKind}(hk:k=.cell\/k=.free)(h:(names.map λ(p:Str×NameKind)=>if(p.2==NameKind.free&&env.scope.kind== .function&&env.kindOf p.1==some .cell)then(p.1,NameKind.cell)else(p.1,p.2)).lookup x=some k):(x,NameKind.free)∈names:=by let⟨⟨n,k0⟩,hm,e⟩:=Jv.mp (Qu h);grind
noncomputable def qQ(X:Cx)(N:U Str)(scope:Scope)(cl:U (Str×Addr))(C:Addr)(s0:Shared)(H0:Hp)(fp:U Addr):Cx:=
 {prog:=X.prog,w:=X.w,K:=X.K,mg:=X.mg,base:=X.base,A:=X.A,N:=N,s₀:=s0,H₀:=H0,env:=compEnvC scope cl C X.env,outer:=X.stack,stack:=X.stack,ex:=fp,fn:=λ_=>false,calm:=X.calm,pn:=[],xe:=λ_ _=>False}
inductive Cap(X:Cx)(scope:Scope):U Str->ON->Prop
 |nil:Cap X scope [] []
 |own {x N c}:Cap X scope N c->Cap X scope (x::N) (none::c)
 |cap {x j N c} (h:Cap X scope N c) (h1:B0 (X.N[j]?=some x)) (h2:B0 (scope.names.lookup x=some .free)) (h3:K0 (X.env.kindOf x=some .cell\/X.env.kindOf x=some .free)):
   Cap X scope (x::N) (some j::c)
variable{c:ON}
theorem Cap.len(h:Cap X scope N c):c.length=N.length:=by
 induction h with
 |nil=>rfl
 |own _ ih=>simp[ih]
 |cap _ _ _ _ ih=>simp[ih]
def Cap.get(h:Cap X scope N c):∀{i j:Nat}{x:Str},c[i]?=some (some j)->N[i]?=some x->
  X.N[j]?=some x/\scope.names.lookup x=some .free/\(X.env.kindOf x=some .cell\/X.env.kindOf x=some .free):=by
 induction h with
 |nil=>intro i j x h;simp at h
 |own _ ih=>
  intro i j x h1 h2;cases i with
  |zero=>simp at h1
  |succ i=>exact ih (by simpa using h1) (by simpa using h2)
 |cap _ a b d ih=>
  intro i j x h1 h2;cases i with
  |zero=>simp at h1 h2;subst h1 h2;exact⟨a,b,d⟩
  |succ i=>exact ih (by simpa using h1) (by simpa using h2)
noncomputable def st0(cap:ON)(σ:St):St:=cap.map λo=>match o with
 |some j=>(σ[j]?).getD none
 |none=>none
structure kH(X:Cx)(scope:Scope):Prop where
 kind:scope.kind=.function
 cells:∀y∈scope.names,y.2≠.cell
 names:∀y∈scope.names,y.2=.local->scope.names.lookup y.1=some .local
 free:∀y∈scope.names,y.2=.free->X.env.kindOf y.1=some .cell\/X.env.kindOf y.1=some .free
def kH.mk'(h1:B0 (scope.kind=.function))(h2:B0 ((scope.names.all λy=>decide (y.2≠.cell))=true))(h3:B0 ((scope.names.all λy=>decide (y.2≠.local)||decide (scope.names.lookup y.1=some .local))=true))(h4:B0 ((scope.names.all λy=>decide (y.2≠.free)||(decide (X.env.kindOf y.1=some .cell)||decide (X.env.kindOf y.1=some .free)))=true)):kH X scope where
 kind:=h1
 cells:=λy hy=>Qt (JU.mp h2 y hy)
 names:=λy hy hl=>by grind
 free:=λy hy hl=>by grind
section
variable{X:Cx}{p4:AO}{σ:St}{H H3:Hp}{s s3:Shared}{N:U Str}{cap:ON}{scope:Scope}{fp:U Addr}{C:Addr}
def kH.cellsOf(S:kH X scope)(ok:X.Ok):∀y∈scope.names,y.2=.free->∃c,X.env.cells.lookup y.1=some c:=λy hy hf=>ok.has y.1 (S.free y hy hf)
def zro(S:kH X scope)(I3:Inv X p4 σ H3 s3)(f3:∀b∈fp,kS X p4 H3 b)(hfp:∀b∈fp,b<s3.heap.objs.size)(hC:s3.heap.objs.size<=C):
  (qQ X N scope (qC X.env scope.names []) C s3 H3 fp).Ok:=by
 have sub:=zgh scope.names [] (S.cellsOf I3.ok) (λx c h=>by simp at h);refine⟨I3.ok.mod,S.kind,I3.ok.glob,I3.ok.blt,hC,λx y c h1 h2=>I3.ok.inj x y c (sub x c h1) (sub y c h2),λx hx=>?_,λx c h=>absurd ((h)) QD,I3.ok.hd,I3.ok.frames,.inl rfl,λb hb=>⟨?_,λx c h=>?_⟩,
  I3.bs,Jp I3.ok.bsz I3.sz,λb o e hb=>?_,λb hb=>?_,I3.stack,I3.stkFree⟩
 ·refine zgi scope.names [] x (.inl ?_);rcases hx with hx|hx
  ·exact zcV S.cells (.inl rfl) hx
  ·exact zcV S.cells (.inr rfl) hx
 ·exact Jo (Jn (hfp b hb) hC)
 ·exact(f3 b hb).2.2.2.2.1 x c (sub x c h)
 ·let⟨_,_,_,h,_⟩:=f3 b hb;rcases h with h|h
  ·exact I3.ok.noex b o e h
  ·exact absurd (Jn (Jb e) (Jp I3.ok.bsz h)) (JW _)
 ·intro hz;let⟨_,h1,h2,_⟩:=f3 b hb;rcases JJ.mp (I3.stkSub b hz)with z|z
  ·exact h1 z
  ·exact h2 z
def zoI(S:kH X scope)(cp:Cap X scope N cap)(I3:Inv X p4 σ H3 s3)(f3:∀b∈fp,kS X p4 H3 b)(hfp:∀b∈fp,b<s3.heap.objs.size)(hC:s3.heap.objs.size<=C)(os:s.os=s3.os)(bare:AllBare s.gens)(un:Un (frs X.stack) fp H3 H s3.heap s.heap)(ns:∃m,s.heap.Ns C m)(fC:H C=none)(hok:HOk X.prog X.w H s.heap):
  Inv (qQ X N scope (qC X.env scope.names []) C s3 H3 fp) [] (st0 cap σ) H s:=by
 have sub:=zgh (env:=X.env) scope.names [] (S.cellsOf I3.ok) (λx c h=>by simp at h);have cellK:∀x c,X.env.cells.lookup x=some c->∀v,s3.heap.IsCell c v->s.heap.IsCell c v:=λx c e v ⟨o,ho,hd⟩=>by
  let⟨sl,q⟩:=un.any ho (I3.freeC x c e) λz=>(f3 c z).2.2.2.2.1 x c e rfl
  exact⟨_,q,hd⟩
 let⟨m,hm⟩:=ns;refine⟨zro S I3 f3 hfp hC,os,bare,un,⟨m,hm,λi x v h1 h2 h3=>?_⟩,λx c h=>?_,fC,λx c h=>?_,λp hp=>absurd (show p∈([]:AO)from hp) (by simp),hok,?_⟩
 ·unfold st0 at h2;rw[List.getElem?_map]at h2;cases e:cap[i]? with
  |none=>rw[e]at h2;cases h2
  |some o=>
   rw[e]at h2;cases o with
   |none=>simp at h2
   |some j=>
    let⟨a1,a2,a3⟩:=cp.get e h1;simp only[Option.map_some]at h2;have h2':(σ[j]?).getD none=some v:=Option.some.inj h2;have h2'':σ[j]?=some (some v):=by
     cases q:σ[j]? with
     |none=>rw[q]at h2';cases h2'
     |some z=>rw[q]at h2';simp at h2';rw[h2']
    let⟨m0,_,hl⟩:=I3.loc;have vis:Vis X.env.scope x:=by
     rcases a3 with z|z
     ·exact .inr (.inl z)
     ·exact .inr (.inr z)
    let⟨u,r,l⟩:=hl j x v a1 h2'' vis;refine⟨u,r,?_⟩;rcases l with⟨k,_⟩|⟨_,c,e1,z⟩
    ·rcases a3 with q|q
     ·rw[q]at k;cases k
     ·rw[q]at k;cases k
    ·let⟨c',hc'⟩:=zgi (env:=X.env) scope.names [] x (.inl (Qu a2))
     have:=sub x c' hc';rw[e1]at this;cases this
     refine .inr ⟨?_,c,hc',cellK x c e1 _ z⟩;have vis2:(qQ X N scope (qC X.env scope.names []) C s3 H3 fp).env.kindOf x=some .local\/(qQ X N scope (qC X.env scope.names []) C s3 H3 fp).env.kindOf x=some .cell\/(qQ X N scope (qC X.env scope.names []) C s3 H3 fp).env.kindOf x=some .free:=h3;rcases vis2 with z1|z1
     ·-- a local name of the block is not free there
      exfalso;have z2:(scope.names.map λ(p:Str×NameKind)=>if(p.2==NameKind.free&&X.env.scope.kind== .function&&X.env.kindOf p.1==some .cell)then(p.1,NameKind.cell)else(p.1,p.2)).lookup x=some .local:=z1;have key:∀l:U (Str×NameKind),l.lookup x=some .free->(l.map λ(p:Str×NameKind)=>if(p.2==NameKind.free&&X.env.scope.kind== .function&&X.env.kindOf p.1==some .cell)then(p.1,NameKind.cell)else(p.1,p.2)).lookup x≠some .local:=by
       intro l;induction l with
       |nil=>intro h;simp at h
       |cons p l ih=>
        let⟨n,k⟩:=p;intro h;rw[Jd];cases ex:x==n with
        |true=>
         rw[QO,ex]at h;cases h
         intro q;by_cases hq:((NameKind.free==NameKind.free)&&X.env.scope.kind== .function&&X.env.kindOf n==some .cell)=true
         ·rw[if_pos hq,QO,ex]at q;cases q
         ·rw[if_neg hq,QO,ex]at q;cases q
        |false=>
         rw[QO,ex]at h;intro q;by_cases hq:((k==NameKind.free)&&X.env.scope.kind== .function&&X.env.kindOf n==some .cell)=true
         ·rw[if_pos hq,QO,ex]at q;exact ih h q
         ·rw[if_neg hq,QO,ex]at q;exact ih h q
      exact key _ a2 z2
     ·exact z1
 ·let⟨v,z⟩:=I3.cell x c (sub x c h);exact⟨v,cellK x c (sub x c h) v z⟩
 ·let⟨v,o,ho,_⟩:=I3.cell x c (sub x c h);exact un.free c o ho (I3.freeC x c (sub x c h)) λz=>(f3 c z).2.2.2.2.1 x c (sub x c h) rfl
 ·show(st0 cap σ).length=N.length;unfold st0;rw[Jc];exact cp.len
end
def PIf(Y:Cx)(ifs:U Expr)(t:TT):Prop:=
 ∀(p4:AO) (s:Shared) (σ:St) (H:Hp) (Q:Bool->Hp->Prop),Inv Y p4 σ H s->t σ H Q->
  wpAny (model Y.prog Y.w) Y.A (forIn ifs true λc r=>if r=true then do let ok ←isTrue c Y.env (eval c Y.env);pure (ForInStep.yield ok)else pure (ForInStep.yield r)) (TP Y p4 σ Q) Y.xe s
def tYes:TT:=λ_ H Q=>Q true H
variable{Y:Cx}
def zlG:PIf Y [] tYes:=λ_ _ _ H _ I h=>wpAny_tests_nil ⟨H,I,h⟩
def zqz{c:Expr}{t:TT}(h:PT Y c t):PIf Y [c] t:=λp4 s σ H Q I hw=>wpAny_tests_one (h p4 s σ H Q I hw)
variable{e:Expr}{newAcc:Sem Value}{act:Value->Env->Sem Unit}{ho:HO}{wi:TI}{p py spos:Pos}{y:Str}
section
variable{X:Cx}{p4:AO}{σ:St}{N:U Str}{cap:ON}{scope:Scope}{tg zO elt:Expr}{ifs:U Expr}{pos:Pos}{g:TG}{tt:TT}{te:TE}
abbrev wE:=St->Hp->(Hp->Prop)->Prop
def gW(Y:Cx)(act:Value->Env->Sem Unit)(D:Addr)(t:wE):Prop:=
 ∀(p4:AO) (s:Shared) (σ:St) (H:Hp) (Q:Hp->Prop),Inv Y p4 σ H s->t σ H Q->wpAny (model Y.prog Y.w) Y.A (act (.ref D) Y.env) (λ_ s'=>∃σ' H',Inv Y p4 σ' H' s'/\Q H') Y.xe s
def zdF(J:It)(g:TG)(tt:TT)(ta:Addr->wE)(ho:HO)(cap:ON)(σ:St)(H1:Hp)(Q:VK):Prop:=
 ∀D,H1 D=none->∃W:Nat->Nat->Hp->Prop,(∃m,W 0 m (upd H1 D ho))/\∀i m H,W i m H->
  ((J.stop i H/\Q (.ref D) H)\/(J.go i H/\∀x H',J.yld i H x H'->g x (st0 cap σ) H' λσ2 H2=>tt σ2 H2 λb H3=>
   if b=true then ta D σ2 H3 λH4=>∃m',m'<m/\W (i+1) m' H4 else∃m',m'<m/\W (i+1) m' H3))
structure zaG(X:Cx)(e tg zO:Expr)(ifs:U Expr)(newAcc:Sem Value)(act:Value->Env->Sem Unit)(ho:HO):Prop where
 new:∀(p4:AO) (σ:St) (H:Hp) (s:Shared) (Q:Vs) (E:Vs),Inv X p4 σ H s->
  (∀ob:Obj,Inv X p4 σ (upd H s.heap.objs.size ho) {s with heap:=s.heap.push ob}->Q (Y0 3) {s with heap:=s.heap.push ob})->wpAny (Y0 1) X.A newAcc Q E s
 turn:∀(it:Value) (D:Addr) (env:Env),compTurn e 0 it (.ref D) env=(do
   standAt zO.pos
   match←pyNext it with
   |none=>pure (.done .next)
   |some v=>
    letOwnedTupleGo tg it v
    assign tg env v
    let mut ok:=true
    for c in ifs do
     if ok then ok ←isTrue c env (eval c env)
    if ok then act (.ref D) env
    again (.compLoop e 0 it (.ref D) env))
 loop:∀(A:Around) (it:Value) (D:Addr) (env:Env) (Q:Fin->Shared->Prop) (E:Vs) (s:Shared),wpAny (Y0 1) A ((compTurn e 0 it (.ref D) env).onRaise λx=>do noteFrame x env;theTreesLotGoes x) Q E s->
  wpAny (Y0 1) (A.under (.compLoop e 0 it (.ref D) env)) ((Y0 1).den (.compLoop e 0 it (.ref D) env)) Q E s
 start:∀{it p7:Value}{env:Env} {A:Around}{R:Result->Shared->Prop} {s:Shared},codeAny (Y0 1) A (.compLoop e 0 it p7 env) R s->
  wpAny (Y0 1) A (pyIter it) (λit' s'=>codeAny (Y0 1) A (.compLoop e 0 it' p7 env) R s') (notedBy (Y0 1) A env λx s'=>R (.error x) s') s->codeAny (Y0 1) A (.compStart e 0 it p7 env) R s
def zez{ta:Addr->wE}{s2:Shared}{J:It}{fp:U Addr}{it:Addr}{tn:Nat->Heap->Prop}{Q:VK}{RR:Value->Addr->Result->Shared->Prop}{E:Vs}(ck:zaG X e tg zO ifs newAcc act ho)(hc:X.calm=true)(S:kH X scope)(cp:Cap X scope N cap)(hg:∀C s0 H0 fp,PG (Y0 0) tg g)(ht:∀C s0 H0 fp,PIf (Y0 0) ifs tt)(he:∀C s0 H0 fp D,gW (Y0 0) act D (ta D))(I2:Inv X p4 σ H2 s2)(T:gD X.prog X.w X.K tg J fp it tn)(st2:tn 0 s2.heap)(f2:∀b∈fp,kS X p4 H2 b)(hw:zdF J g tt ta ho cap σ H2 Q)(hRR:∀D C H' s' m',Inv X p4 σ H' s'->s'.heap.Ns C m'->H' C=none->C≠X.env.locals->X.s₀.heap.objs.size<=C->(∀x c,X.env.cells.lookup x=some c->c≠C)->(∀p∈X.pn++p4,p.1≠C)->Q (.ref D) H'->RR (.ref D) C (.ok .next) s'):
  wpAny (Y0 1) X.A newAcc (λp7 s3=>wpAny (Y0 1) X.A (newFunctionEnv scope X.env.globals (qC X.env scope.names []) [] X.env.qual none .none (some X.env)) (λcenv s4=>
   codeAny (Y0 1) X.A (.compStart e 0 (.ref it) p7 {cenv with scope:=relabel scope X.env}) (RR p7 cenv.locals) s4) E s3) E s2:=by
 refine ck.new p4 σ H2 s2 _ _ I2 λob I3=>wpAny_newFunctionEnv S.cells (by intro y hy;simp at hy) (λh1 hns1 hsb1=>?_) S.kind
 dsimp only at hns1 hsb1 ⊢;have D0:H2 s2.heap.objs.size=none:=I2.fresh;let⟨W,⟨m0,w0⟩,turn⟩:=hw s2.heap.objs.size D0;generalize hs3:({s2 with heap:=s2.heap.push ob}:Shared)=s3 at I3;have e3:s3.heap=s2.heap.push ob:=by grind
 have z3:s3.heap.objs.size=s2.heap.objs.size+1:=by simp_all
 rw[←e3]at hns1 hsb1 ⊢;generalize hD:s2.heap.objs.size=D at*;generalize hC:s3.heap.objs.size=C at*;have fp2:∀b∈fp,b<D:=λb hb=>by let⟨o,e,_⟩:=T.obj 0 _ st2 b hb;rw[←hD];exact Jb e
 have f3:∀b∈fp,kS X p4 (upd H2 D ho) b:=λb hb=>by let⟨a1,a2⟩:=f2 b hb;exact⟨by rw[zT (Jo (fp2 b hb))];exact a1,a2⟩
 have hfp:∀b∈fp,b<s3.heap.objs.size:=λb hb=>by rw[hC,z3];exact Nat.lt_succ_of_lt (fp2 b hb)
 have old:∀b o,s3.heap.get? b=some o->h1.get? b=some o:=λb o e=>
  hsb1.extBut b o (Jo (by rw[←hC];exact Jb e)) (Heap.get?_push_of_some _ e)
 have old2:∀b o,s2.heap.get? b=some o->s3.heap.get? b=some o:=λb o e=>by rw[e3];exact Heap.get?_push_of_some _ e
 have ds4:∀s4:Shared,s4={s2 with heap:=h1,toks:=s2.toks+([]:U (Str×Value)).length}->
   codeAny (Y0 1) X.A (.compLoop e 0 (.ref it) (.ref D) (compEnvC scope (qC X.env scope.names []) C X.env)) (RR (.ref D) C) s4:=by
  intro s4 es4;have os4:s4.os=s3.os:=by grind
  have bare4:AllBare s4.gens:=by rw[es4];exact I2.bare
  have heap4:s4.heap=h1:=by rw[es4]
  have st4:tn 0 s4.heap:=by rw[heap4];exact T.keep _ _ _ st2 λb _ o e=>old b o (old2 b o e)
  refine codeAny_loop rfl (λn s=>∃i H,s.os=s3.os/\AllBare s.gens/\Un (frs X.stack) fp (upd H2 D ho) H s3.heap s.heap/\(∃m,s.heap.Ns C m)/\H C=none/\HOk X.prog X.w H s.heap/\tn i s.heap/\(∀b∈fp,H b=none)/\W i n H)
   (λn s hI=>?_) m0 ⟨0,_,os4,bare4,by rw[heap4];exact Un.kept old,by rw[heap4];exact⟨_,hns1⟩,I3.hok.fresh (Nat.le_of_eq hC),by rw[heap4];exact I3.hok.kept old,st4,λb hb=>(f3 b hb).1,w0⟩
  let⟨i,H,os,bare,un,ns,fC,hok,st,fr,wi⟩:=hI;refine ck.loop _ _ _ _ _ _ _ ?_;refine wpAny_noted ?_;rw[ck.turn];have hCge:s3.heap.objs.size<=C:=Nat.le_of_eq hC;have IY:=zoI S cp I3 f3 hfp hCge os bare un ns fC hok;generalize hYd:qQ X N scope (qC X.env scope.names []) C s3 (upd H2 D ho) fp=Y at IY;have hYA:Y.A=X.A:=by rw[←hYd];rfl
  have hYenv:Y.env=compEnvC scope (qC X.env scope.names []) C X.env:=by rw[←hYd];rfl
  have hYp:Y.prog=X.prog:=by rw[←hYd];rfl
  have hYw:Y.w=X.w:=by rw[←hYd];rfl
  have hYK:Y.K=X.K:=by rw[←hYd];rfl
  have hYc:Y.calm=true:=by rw[←hYd];exact hc
  have hYxe:∀e s,¬Y.xe e s:=λe s z=>by rw[←hYd]at z;exact z
  have gY:PG Y tg g:=by rw[←hYd];exact hg _ _ _ _
  have tY:PIf Y ifs tt:=by rw[←hYd];exact ht _ _ _ _
  have eY:gW Y act D (ta D):=by rw[←hYd];exact he _ _ _ _ _
  have stat:∀{H':Hp},(∀b∈fp,H' b=none)->∀b∈fp,kS Y [] H' b:=λ{H'} hn b hb=>by have okY:=IY.ok;refine⟨hn b hb,(okY.exf b (by rw[←hYd];exact hb)).1,okY.exfs b (by rw[←hYd];exact hb),.inl (by rw[←hYd];exact hb),λx c e=>(okY.exf b (by rw[←hYd];exact hb)).2 x c e,λp hp=>?_⟩;rw[←hYd]at hp;exact absurd (show p∈([]:AO)from hp) (by simp)
  have alt:=turn i n H wi;have base_of:∀{σ':St}{pins':AO} {H':Hp}{s':Shared},Inv Y pins' σ' H' s'->s'.os=s3.os/\AllBare s'.gens/\Un (frs X.stack) fp (upd H2 D ho) H' s3.heap s'.heap/\(∃m,s'.heap.Ns C m)/\H' C=none/\HOk X.prog X.w H' s'.heap:=λ{σ' pins' H' s'} I'=>by have b1:=I'.os;have b2:=I'.base;have b3:=I'.loc;have b4:=I'.free;have b5:=I'.hok;rw[←hYd]at b1 b2 b3 b4 b5;let⟨m,hm,_⟩:=b3;exact⟨b1,I'.bare,b2,⟨m,hm⟩,b4,b5⟩
  refine wpAny_bind (Qy (wpAny_bind ?_));rcases alt with⟨stop,qn⟩|⟨go,step⟩
  ·have h1:=T.done Y hYp hYw hYK hYc i [] s _ H (notedBy (Y0 1) X.A (compEnvC scope (qC X.env scope.names []) C X.env) λe s'=>RR (.ref D) C (.error e) s') IY (stat fr) st stop;rw[hYA]at h1;refine JQ h1 (λr s5 h5=>?_) λ_ _ z=>z
   let⟨hr,I5⟩:=h5;subst hr;refine Ja ?_;let⟨os5,bare5,un5,⟨m5,ns5⟩,fC5,hok5⟩:=base_of I5;have IX:Inv X p4 σ H s5:=I3.call' (ch:=fp) (by rw[os5]) un5 hok5 bare5 λb hb=>by let⟨_,a2,a3,a4,a5,a6⟩:=f3 b hb;exact⟨a4,a2,a5,a6⟩
   refine hRR D C H s5 m5 IX ns5 fC5 ?_ ?_ ?_ ?_ qn
   ·exact Qv (Jn I3.lt hCge)
   ·exact Jp I3.sz hCge
   ·intro x c e z;let⟨v,q⟩:=I3.cell x c e;exact absurd (Jn q.lt hCge) (by rw[z];exact JW _)
   ·intro p hp z;exact absurd (Jn (Jb (I3.pin p hp).1) hCge) (by rw[z];exact JW _)
  ·have h1:=T.item Y hYp hYw hYK hYc i [] s _ H Y.xe IY (stat fr) st go;rw[hYA]at h1;refine JQ h1 (λr s5 h5=>?_) λe s' z=>absurd z (hYxe e s')
   let⟨u,hr,h5⟩:=h5;subst hr;refine wpAny_bind (JQ h5 (λ_ s6 h6=>?_) λe s' z=>absurd z (hYxe e s'));let⟨x,H6,I6,r6,y6,st6,fr6⟩:=h6;have I6':=I6.pinned (stat fr6) (T.obj _ _ st6);have h7:=gY _ s6 _ H6 x u _ I6' r6 (step x H6 y6);rw[hYA,hYenv,hYp,hYw]at h7;refine wpAny_bind (JQ h7 (λ_ s7 h7=>?_) λe s' z=>absurd z (hYxe e s'));let⟨σ7,H7,I7,q7⟩:=h7;have h8:=tY _ s7 σ7 H7 _ I7 q7;rw[hYA,hYenv,hYp,hYw]at h8;refine wpAny_bind (JQ h8 (λb s8 h8=>?_) λe s' z=>absurd z (hYxe e s'));let⟨H8,I8,q8⟩:=h8;have again:∀{σ9:St}{H9:Hp} {s9:Shared},Inv Y ([]++zgI fp s6.heap) σ9 H9 s9->(∃m',m'<n/\W (i+1) m' H9)->
     ∃m,m<n/\∃i H,s9.os=s3.os/\AllBare s9.gens/\Un (frs X.stack) fp (upd H2 D ho) H s3.heap s9.heap/\(∃m,s9.heap.Ns C m)/\H C=none/\HOk X.prog X.w H s9.heap/\tn i s9.heap/\(∀b∈fp,H b=none)/\W i m H:=λ{σ9 H9 s9} I9 ⟨m',hm,w9⟩=>by
    let⟨b1,b2,b3,b4,b5,b6⟩:=base_of I9;refine⟨m',hm,i+1,H9,b1,b2,b3,b4,b5,b6,T.keep _ _ _ st6 λb hb o e=>(I9.pin (b,o) (Jj _ (Jj _ (zar hb e)))).1,λb hb=>?_,w9⟩;let⟨o,e,d⟩:=T.obj _ _ st6 b hb;exact(I9.pin (b,o) (Jj _ (Jj _ (zar hb e)))).2.1
   cases b with
   |false=>
    simp only[Bool.false_eq_true,if_false]at q8 ⊢;exact Ja ⟨rfl,again I8 q8⟩
   |true=>
    simp only[if_true]at q8 ⊢;have h9:=eY _ s8 σ7 H8 _ I8 q8;rw[hYA,hYenv,hYp,hYw]at h9;refine wpAny_bind (JQ h9 (λ_ s9 h9=>?_) λe s' z=>absurd z (hYxe e s'));let⟨σ9,H9,I9,q9⟩:=h9;exact Ja ⟨rfl,again I9 q9⟩
 have st1:tn 0 h1:=T.keep _ _ _ st2 λb _ o e=>old b o (old2 b o e)
 exact ck.start (ds4 _ rfl) (T.self X.A 0 _ _ _ st1 (ds4 _ rfl))
noncomputable def actL(elt:Expr):Value->Env->Sem Unit:=λp7 env=>do let _ ←call (.builtin "list.append") [p7,←eval elt env]
def znd:zaG X (.ListComp elt [⟨tg,zO,ifs,0⟩] scope pos) tg zO ifs (newList []) (actL elt) (.lst [])where
 new:=λp4 σ H s Q E I h=>JE (h _ (I.lnew .nil (Jz _)))
 turn:=λit D env=>by rfl
 loop:=λA it D env Q E s h=>h
 start:=λh0 h=>codeAny_compStart_list h0 h
def taL(te:TE)(D:Addr):wE:=λσ H Q=>te σ H λv H4=>∃p7,H4 D=some (.lst p7)/\p7.length<sizeLine/\Q (upd H4 D (.lst (p7++[v])))
def zgM(he:PE Y elt te)(D:Addr):gW Y (actL elt) D (taL te D):=by intro p4 s σ H Q I h;refine wpAny_bind (thn (he p4 s σ H _ I h) λv s9 ⟨v9,H9,I9,r9,p7,hD9,hlen,q9⟩=>?_);refine wpAny_bind (thn (zcb (X:=Y) _ s9 σ H9 (.ref D) [v9] (.ref D) [v] (λz Hz=>z=.non/\Hz=upd H9 D (.lst (p7++[v9]))) I9 rfl (.cons r9 .nil) ⟨D,p7,v9,rfl,rfl,hD9,hlen,rfl,rfl⟩) λ_ s10 h10=>?_);let⟨_,H10,I10,_,_,e10⟩:=h10;subst e10;exact Ja ⟨_,_,I10,q9⟩
def ztS(K:Fg)(J:It)(g:TG)(tt:TT)(te:TE)(cap:ON)(σ:St)(H1:Hp)(Q:VK):Prop:=zdF J g tt (taL te) (.lst []) cap σ H1 Q
noncomputable def ziK(wi:TI)(g:TG)(tt:TT)(ta:Addr->wE)(ho:HO)(cap:ON):TE:=λσ H Q=>wi σ H λJ H1=>zdF J g tt ta ho cap σ H1 Q
noncomputable def zrI(K:Fg)(wi:TI)(g:TG)(tt:TT)(te:TE)(cap:ON):TE:=ziK wi g tt (taL te) (.lst []) cap
def ziZ{ta:Addr->wE}(ck:zaG X e tg zO ifs newAcc act ho)(N:U Str)(cap:ON)(cp:Cap X scope N cap)(hc:X.calm=true)(hi:PI X tg zO wi)(hg:∀C s0 H0 fp,PG (Y0 0) tg g)(ht:∀C s0 H0 fp,PIf (Y0 0) ifs tt)(he:∀C s0 H0 fp D,gW (Y0 0) act D (ta D))(S:kH X scope)(hs:∀x,foldedSetIterable zO X.env x=pure x)(hcl:clausesOf e=[⟨tg,zO,ifs,0⟩])(hev:eval e X.env=comprehension e scope X.env p newAcc false (eval zO X.env)):
  PE X e (ziK wi g tt ta ho cap):=by
 intro p4 s σ H Q I h;rw[hev];refine wpAny_comprehension_free hcl hs (zcP (S.cellsOf I.ok)) S.kind S.names (thn (hi p4 s σ H _ I h) λv s1 h1=>thn h1 λitv s2 h2=>?_);let⟨it,fp,tn,J,H2,e,I2,T,st2,f2,hw⟩:=h2;subst e;refine zez ck hc S cp hg ht he I2 T st2 f2 hw ?_;intro D C H' s' m' I' ns fC c1 c2 c3 c4 q;exact⟨m',ns,λh' hs'=>⟨.ref D,H',I'.turned (λb o hb e=>(hs'.2 b hb).trans e) fC c1 (.inr c2) c3 c4,rfl,q⟩⟩
def zbN{ta:Addr->wE}{k:Nat}(ck:zaG X e tg zO ifs newAcc act ho)(N:U Str)(cap:ON)(cp:Cap X scope N cap)(hc:X.calm=true)(hN:X.N.Nodup)(hk:X.N[k]?=some y)(hy:Loc X.env.scope y)(hi:PI X tg zO wi)(hg:∀C s0 H0 fp,PG (Y0 0) tg g)(ht:∀C s0 H0 fp,PIf (Y0 0) ifs tt)(he:∀C s0 H0 fp D,gW (Y0 0) act D (ta D))(S:kH X scope)(hs:∀x,foldedSetIterable zO X.env x=pure x)(hcl:clausesOf e=[⟨tg,zO,ifs,0⟩])(hev:∀use,evalThenUse e X.env use=(do let _ ←comprehension e scope X.env p newAcc false (eval zO X.env) (some use)))(hsw:swapsWith e (some (.Name y py)) spos.line X.env=pure true)(hf:X.fn y=true\/X.env.scope.names.lookup y=some .local):
  PS X (.Assign [.Name y py] e spos) (tAsg (ziK wi g tt ta ho cap) (zoN k)):=by
 intro p4 s σ H D0 I h;rw[exec_Assign_Name_used _ _ _ _ hsw];refine wpAny_bind (Qy (wpAny_bind ?_));rw[hev];refine wpAny_bind (JQ (wpAny_comprehension_free hcl hs (zcP (S.cellsOf I.ok)) S.kind S.names
  (thn (hi p4 s σ H _ I h) λv s1 h1=>thn h1 λitv s2 h2=>?_)) (λ_ s' hq=>Ja (Ja hq)) λ_ _ e=>e)
 let⟨it,fp,tn,J,H2,e,I2,T,st2,f2,hw⟩:=h2;subst e;refine zez ck hc S cp hg ht he I2 T st2 f2 hw ?_;intro D C H' s' m' I' ns fC c1 c2 c3 c4 q;refine wpAny_assign_Name (zgy I' hN hk hy (v:=.ref D) rfl (λs'' I'' ⟨a,hsb,ha⟩=>?_) hf);have hCa:C≠a:=by grind
 refine⟨m',ns.sameBut hsb hCa,λh' hs'=>⟨_,H',I''.turned (λb o hb e=>(hs'.2 b hb).trans e) fC c1 (.inr c2) c3 c4,q⟩⟩
def zqD(N:U Str)(cap:ON)(cp:Cap X scope N cap)(hc:X.calm=true)(hi:PI X tg zO wi)(hg:∀C s0 H0 fp,PG (Y0 0) tg g)(ht:∀C s0 H0 fp,PIf (Y0 0) ifs tt)(he:∀C s0 H0 fp,PE (Y0 0) elt te)(S:kH X scope:=by exact kH.mk')(hs:G0 (∀x,foldedSetIterable zO X.env x=pure x)):
  PE X (.ListComp elt [⟨tg,zO,ifs,0⟩] scope pos) (zrI X.K wi g tt te cap):=
 ziZ znd N cap cp hc hi hg ht (λC s0 H0 fp D=>zgM (he C s0 H0 fp) D) S hs rfl (eval_ListComp ..)
def zjV{k:Nat}(N:U Str)(cap:ON)(cp:Cap X scope N cap)(hc:X.calm=true)(hN:X.N.Nodup)(hk:X.N[k]?=some y)(hy:Loc X.env.scope y)(hi:PI X tg zO wi)(hg:∀C s0 H0 fp,PG (Y0 0) tg g)(ht:∀C s0 H0 fp,PIf (Y0 0) ifs tt)(he:∀C s0 H0 fp,PE (Y0 0) elt te)(S:kH X scope:=by exact kH.mk')(hs:G0 (∀x,foldedSetIterable zO X.env x=pure x))(hsw:B0 (swapsWith (.ListComp elt [⟨tg,zO,ifs,0⟩] scope pos) (some (.Name y py)) spos.line X.env=pure true))(hf:K0 (X.fn y=true\/X.env.scope.names.lookup y=some .local)):
  PS X (.Assign [.Name y py] (.ListComp elt [⟨tg,zO,ifs,0⟩] scope pos) spos) (tAsg (zrI X.K wi g tt te cap) (zoN k)):=
 zbN znd N cap cp hc hN hk hy hi hg ht (λC s0 H0 fp D=>zgM (he C s0 H0 fp) D) S hs rfl (λ_=>rfl) hsw hf
end
section
variable{X:Cx}{a b:Expr}{ta tb:TE}{pos:Pos}
def rIsi(K:Fg):U V->Hp->VK->Prop:=λxs H Q=>∃x T t k,xs=[x,.ty T]/\xT K H x t/\PySem.W.kitOne K t (.type T)=some k/\Q (.bl k) H
def zpg:kM X (.builtin "isinstance") (rIsi X.K):=by
 intro p4 s σ H xs us Q I r h;let⟨x,T,t,k,rfl,ty,e,q⟩:=h;let⟨u,c,rfl,r1,r2⟩:=zqe r;cases((r2))
 exact zmA I r1 ty e λtk=>⟨.bl k,H,I.tok _,rfl,q⟩
def zsa(K:Fg):R2:=λx y H Q=>∃a b ys,x=.ref a/\y=.ref b/\SqT K H a []/\SqT K H b ys/\Q (.ref b) H
theorem zos:OpR X (binaryOp .Add) (zsa X.K):=by
 intro p4 s σ H x y v u Q I rx ry h;let⟨a,b,ys,rfl,rfl,ha,hb,q⟩:=h;cases rx
 cases ry
 let⟨p6,r1,p1,_⟩:=I.tuple ha;let⟨its2,r2,p2,_⟩:=I.tuple hb;have e:p6=[]:=by cases r1;rfl
 subst e;let⟨⟨cls,dd,data,sl⟩,ho,hc,n,hd⟩:=id p1;let⟨⟨cls2,dd2,data2,sl2⟩,ho2,hc2,n2,hd2⟩:=id p2;subst hc hd hc2 hd2;exact concat_meets ⟨_,ho,rfl⟩ ⟨_,ho2,rfl⟩ noFill_tuple_add seq_tuple_add PySem.F.slot_tuple_add PySem.F.entry_tuple_add (PySem.F.args_tuple_add_2 _ _)
   (tuple_addW0 a b _ its2.toArray n n2 dd dd2 sl sl2 (by simp)) ⟨ho,ho2,⟨.ref b,H,I.tok _,rfl,q⟩⟩
def zus(K:Fg):R2:=λx y H Q=>∃a b xs ys,x=.ref a/\y=.ref b/\SqT K H a xs/\SqT K H b ys/\xs.length+ys.length<=sizeLine/\
 (xs=[]->Q (.ref b) H)/\(xs≠[]->ys=[]->Q (.ref a) H)/\(xs≠[]->ys≠[]->∀p,H p=none->Q (.ref p) (upd H p (.tup (xs++ys))))
def zqM:OpR X (binaryOp .Add) (zus X.K):=by
 intro p4 s σ H x y v u Q I rx ry h;let⟨a,b,xs,ys,rfl,rfl,ha,hb,hz,q0,q1,q2⟩:=h;by_cases e:xs=[]
 ·subst e;exact zos p4 s σ H _ _ v u Q I rx ry ⟨a,b,ys,rfl,rfl,ha,hb,q0 rfl⟩
 ·exact zqL p4 s σ H _ _ v u Q I rx ry ⟨a,b,xs,ys,rfl,rfl,ha,hb,e,hz,q1 e,q2 e⟩
theorem zkV:∀l:U Int,(∀n∈l,0<=n)->0<=l.sum
 |[],_=>by simp
 |a::l,h=>by
  have h1:=zkV l λn hn=>h n (Ji _ hn)
  have h2:=h a JX;rw[WD];lia
theorem ziJ:∀(j:Nat) (l:U Int),(∀n∈l,0<=n)->0<=(l.take j).sum/\(l.take j).sum<=l.sum
 |0,l,h=>by have:=zkV l h;simp;exact this
 |j+1,[],_=>by simp
 |j+1,a::l,h=>by
  have h1:=ziJ j l λn hn=>h n (Ji _ hn)
  have h2:=h a JX;rw[We,WD,WD];(simp[*];lia)
theorem zmI:∀(j:Nat) (l:U Int),(∀n∈l,0<=n)->0<=l.getD j 0/\l.getD j 0<=l.sum
 |j,[],_=>by simp
 |0,a::l,h=>by
  have h1:=zkV l λn hn=>h n (Ji _ hn)
  have h2:=h a JX;rw[WD];simp;simp+arith [*]
 |j+1,a::l,h=>by
  have h1:=zmI j l λn hn=>h n (Ji _ hn)
  have h2:=h a JX;rw[WD];simp only[List.getD_cons_succ];lia
def zjO{l:U Int}(h:∀n∈l,0<=n)(hz:l.sum<2^62):PySem.SumFits l:=λj _=>by have h1:=ziJ (j+1) l h;have h2:=zmI j l h;unfold InLong;refine⟨⟨?_,?_⟩,⟨?_,?_⟩⟩<;>lia
def znf(hc:X.calm=true):kM X (.builtin "sum") (λxs H Q=>∃(p:Addr) (ns:U Int),xs=[.ref p]/\SqL X.K H p (ns.map V.int)/\PySem.SumFits ns/\Q (.int ns.sum) H):=by
 intro p4 s σ H xs us Q I r h;let⟨p,ns,rfl,hq,hz,q⟩:=h;let⟨u,rfl,rx⟩:=vF r;cases rx
 let⟨p6,r',pl,_⟩:=I.list hq;have hi:=zcH r';have hall:=hi.allInts;have nn:numsOf p6.toArray.toList=ns:=by grind [IntsAre.numsOf]
 let⟨xs,hx⟩:=hall.items;rw[hx,nums_intItems]at nn;have hl2:s.heap.IsList p (intItems xs):=by rw[←hx];exact pl.isList
 refine sum_intList (I.ok.hd hc) hl2 (λj hj=>?_) λh' tk t' hk=>?_
 ·rw[numAt_eq,preSum_eq,nn];exact hz j (by rw[←nn];simpa using hj)
 ·refine⟨.int ns.sum,H,I.kept hk,⟨t',?_⟩,q⟩;rw[preSum_eq,nn,QQ (by rw[←nn];simp)]
end
section
variable{X:Cx}{a b e:Expr}{es:U Expr}{ta tb:TE}{pos p kpos:Pos}{t tk:TA}
def rSlS:V->Option Int->Option Int->Hp->VK->Prop:=λx lo hi H Q=>∃z,x=.str z/\z.length<=sizeLine/\∀y:Str,y.length<=z.length->y=Txt.slice z lo hi->Q (.str y) H
def zrQ:SlR X rSlS:=by
 intro p4 s σ H x v vl vu lo hi sl Q I rx hs pl pu h;let⟨z,rfl,hz,q⟩:=h;let⟨t,rfl⟩:=rx;refine⟨"str",_,PySem.F.slot_str_getitem.lookup,typeIs_str s z t,?_⟩;let⟨o,ho,hc,hd⟩:=hs;have fin:∀(lo hi:Option Int),(∀y:Str,y.length<=z.length->y=Txt.slice z lo hi->Q (.str y) H)->(Txt.slice z lo hi).length<=sizeLine/\∀t' k,EP X p4 σ Q (.str (Txt.slice z lo hi) t') {s with toks:=k}:=λlo hi q=>
  ⟨Jp (Txt.slice_le z lo hi) hz,λt' k=>⟨.str _,H,I.tok _,⟨_,rfl⟩,q _ (Txt.slice_le z lo hi) rfl⟩⟩
 cases pl with
 |none=>
  cases pu with
  |none=>exact wpAny_getItem_str_slice (l:=none) (u:=none) (st:=none) ⟨o,ho,hc,hd⟩ rfl (post_val_or_str (fin none none q))
  |int j uj=>exact wpAny_getItem_str_slice (l:=none) (u:=some (j,uj)) (st:=none) ⟨o,ho,hc,hd⟩ rfl (post_val_or_str (fin none (some j) q))
 |int i ui=>
  cases pu with
  |none=>exact wpAny_getItem_str_slice (l:=some (i,ui)) (u:=none) (st:=none) ⟨o,ho,hc,hd⟩ rfl (post_val_or_str (fin (some i) none q))
  |int j uj=>exact wpAny_getItem_str_slice (l:=some (i,ui)) (u:=some (j,uj)) (st:=none) ⟨o,ho,hc,hd⟩ rfl (post_val_or_str (fin (some i) (some j) q))
end
section
variable{X:Cx}{e st:Expr}{te ts:TE}{pos p2:Pos}
theorem zjt{α β:Type}{f g:α->Option β}:∀{l:List α},(∀k∈l,f k=g k)->l.filterMap f=l.filterMap g
 |[],_=>rfl
 |a::l,h=>by rw[QM,QM,h a JX,zjt λk hk=>h k (Ji _ hk)]
def zls(l:U Value):((List.range l.length).map λ(k:Nat)=>(((l.length:Int) - 1)+(-1)*(k:Int)).toNat).filterMap (λi=>l[i]?)=l.reverse:=by
 apply List.ext_getElem?;intro i;rw[List.filterMap_map];have e:((List.range l.length).filterMap ((λi=>l[i]?)∘λ(k:Nat)=>(((l.length:Int) - 1)+(-1)*(k:Int)).toNat))=(List.range l.length).filterMap λk=>l.reverse[k]?:=by
  refine zjt λk hk=>?_
  have hk':k<l.length:=List.mem_range.mp hk;show l[(((l.length:Int) - 1)+(-1)*(k:Int)).toNat]?=l.reverse[k]?;rw[List.getElem?_reverse hk']
  congr 1
  grind
 rw[e];have e2:∀r:U Value,(List.range r.length).filterMap (λk=>r[k]?)=r:=by
  intro r;induction r with
  |nil=>rfl
  |cons a r ih=>
   rw[JA,List.range_succ_eq_map,QM];simp only[List.getElem?_cons_zero,List.filterMap_map]
   congr 1
 grind
def zob(p6:U Value):slicePick p6.toArray none none (some (-1))=p6.reverse.toArray:=by
 unfold slicePick;have h1:sliceBounds none none (some (-1)) p6.toArray.size=((p6.length:Int) - 1,-1,-1):=by simp[sliceBounds]
 rw[h1];unfold sliceRange;simp only[show¬((-1:Int)>0) by decide,if_false];have hc:(if(p6.length:Int) - 1> -1 then((p6.length:Int) - 1 - -1 - -1 - 1)/(- -1)else 0).toNat=p6.length:=by grind
 rw[hc]
 have:=zls p6;simp only[List.getElem?_toArray];rw[this]
def rRev(K:Fg):V->Hp->VK->Prop:=λx H Q=>∃a xs,x=.ref a/\SqL K H a xs/\∀p,H p=none->Q (.ref p) (upd H p (.lst xs.reverse))
def tRev(K:Fg)(te ts:TE):TE:=λσ H Q=>te σ H λx H1=>ts σ H1 λy H2=>y=.int (-1)/\rRev K x H2 Q
def zsr(he:PE X e te)(hs:PE X st ts):PE X (.Subscript e (.Slice none none (some st) p2) pos) (tRev X.K te ts):=by
 intro p4 s σ H Q I h;refine Subscript_ (thn (he p4 s σ H _ I h) λv s1 ⟨x,H1,I1,r1,q1⟩=>?_);refine wpAny_Slice ?_;refine Ja (Ja (thn (hs p4 s1 σ H1 _ I1 q1) λvs s3 ⟨y,H3,I3,r3,ey,q3⟩=>?_));subst ey;let⟨t,rfl⟩:=r3;have I4:Inv X p4 σ H3 {s3 with heap:=s3.heap.push {cls:=.type "slice",data:=.fields #[.none,.none,.int (-1) t]}}:=I3.kept λb ob q=>Heap.get?_push_of_some _ q
 let⟨a,xs,rfl,hx,q⟩:=q3;cases r1
 let⟨p6,r,ht,hz⟩:=I4.list hx;have hlen:=r.length;refine tail_any ht.isList.typeIs slot_list_getitem.lookup ?_ (by with_unfolding_all rfl);refine wpAny_getItem_list_slice ht.isList (Heap.IsSliceOf.new ..) .none .none (.int (-1) t) (by simp) ?_ (by simp_all);rw[zob];exact⟨.ref _,_,I4.lnew r.reverse (by rw[Wf];exact hz),rfl,q _ I4.fresh⟩
end
end L2
namespace HT
section
open PySem.SeqAt
open PySem.AutoSeq1 (wpAny_loadPart')
open PySem.MeetsSeq PySem.MeetsSeq2 PySem.MeetsSeq3
def znP(A:Around)(s:Shared)(a:Int)(t:Tok)(c:Int)(u:Tok)(prog:Program)(w:World)(E:Vs)(Q:Vs)(h:Q (.bool (decide (c<=a))) s):
  wpAny (model prog w) A (richCompare .GtE (.int a t) (.int c u)) Q E s:=
 (PyProof.Rows.ge_int h:wpAny (model prog w) A (compareOp .GtE (.int a t) (.int c u)) Q E s)
def zfA(l b:Addr)(items items2:Array Value)(n n2:Nat)(dd dd2:Option Addr)(sl sl2:Array (Option Value))(ns ms:U Int)(hi:IntsAre items.toList ns)(hj:IntsAre items2.toList ms):
  Meets (Builtin.«tuple.__ge__» ⟨[.ref l,.ref b],[]⟩)
   (λ_ R s=>s.heap.get? l=some {cls:=.type "tuple",dict:=dd,data:=.seq items n,slots:=sl}/\s.heap.get? b=some {cls:=.type "tuple",dict:=dd2,data:=.seq items2 n2,slots:=sl2}/\
    R (.ok (.ret (.bool (!lexLt ns ms)))) s):=
 .of_wp λprog w A R s h=>by
  let⟨hp,g,d,tk,os⟩:=s;let⟨hl,hb,h⟩:=h;have f2:=AutoSeq1.sub_tuple_tuple;have z1:items.size=ns.length:=by rw[←hi.length];simp
  have z2:items2.size=ms.length:=by rw[←hj.length];simp
  wp_walk using wpAny_loadPart' hl,wpAny_loadPart' hb,wpAny_forIn_list _ (λrest b s'=>b.1=none/\s'=⟨hp,g,d,tk,os⟩/\∃(vs ws:U Value) (ns' ms':U Int),rest=vs.zip ws/\
   IntsAre vs ns'/\IntsAre ws ms'/\ns'.length+items2.size=ms'.length+items.size/\R (.ok (.ret (.bool (!lexLt ns' ms')))) ⟨hp,g,d,tk,os⟩) _
  case turn=>
   rintro⟨y,x⟩ rest b s' ⟨hb',rfl,vs,ws,ns',ms',hz,hvi,hwi,hlen,hR⟩;cases hvi with
   |nil=>rw[List.zip_nil_left]at hz;cases hz
   |cons a t hvi'=>
    cases hwi with
    |nil=>trivial
    |cons c u hwi'=>
     rw[Qo]at hz;injection hz with hyx hrest;injection hyx with hy hx;subst hy hx;rw[lexLt_cons]at hR;simp only[List.length_cons]at hlen;let⟨e,he,hiff⟩:=zoQ A.in1 ⟨hp,g,d,tk,os⟩ a t c u;refine wpAny_bind (he prog w _ _ ?_);cases e with
     |true=>
      rw[if_pos (hiff.mp rfl)]at hR
      wp_walk
      exact⟨rfl,rfl,_,_,_,_,hrest,hvi',hwi',by lia,hR⟩
     |false=>
      rw[if_neg λq=>absurd (hiff.mpr q) QD]at hR;have hri:=znP A.in1 ⟨hp,g,d,tk,os⟩ a t c u prog w;have e2:(!decide (a<c))=decide (c<=a):=by grind
      rw[e2]at hR
      wp_walk using hri
      exact⟨_,rfl,by simpa using hR⟩
  case fin=>
   rintro⟨b1,b2⟩ s' ⟨hb',rfl,vs,ws,ns',ms',hz,hvi,hwi,hlen,hR⟩;simp only at hb';subst hb';have hv:lexLt ns' ms'=decide (items.size<items2.size):=by
    cases hvi with
    |nil=>
     cases hwi with
     |nil=>
      simp_all[zfV]
     |cons c u hw=>
      simp only[List.length_nil,List.length_cons]at hlen;rw[zeL];exact(decide_eq_true (by simp_all)).symm
    |cons a t hv=>
     cases hwi with
     |nil=>
      grind [zeM]
     |cons c u hw=>
      rw[Qo]at hz;cases hz
   have e2:(!decide (items.size<items2.size))=decide (items.size≥items2.size):=by grind
   rw[hv,e2]at hR
   wp_walk
   exact⟨_,rfl,by simpa[Builtin.Tuple.tupleCompareSizes]using hR⟩
  case h=>
   exact⟨rfl,rfl,items.toList,items2.toList,ns,ms,rfl,hi,hj,by simp+arith [*],h⟩
end
variable{l:Addr}{items:Array Value}{Q:Vs}{i:Nat}
section
variable{prog:Program}{w:World}{A:Around}{E:Vs}{s:Shared}
theorem ge_tupInts{b:Addr}{items2:Array Value}{ns ms:U Int}(hl:IsTup s.heap l items)(hb:IsTup s.heap b items2)(hi:IntsAre items.toList ns)(hj:IntsAre items2.toList ms)(hu:A.units<cLine)(h:Q (.bool (!lexLt ns ms)) s):wpAny (model prog w) A (compareOp .GtE (.ref l) (.ref b)) Q E s:=by
 let⟨⟨cls,dd,data,sl⟩,ho,hc,n,hd⟩:=id hl;let⟨⟨cls2,dd2,data2,sl2⟩,ho2,hc2,n2,hd2⟩:=id hb;subst hc hd hc2 hd2;exact richCompare_meets_room (op:=.GtE) ⟨_,ho,rfl⟩ ⟨_,ho2,rfl⟩ PySem.F.slot_tuple_ge PySem.F.entry_tuple_ge (PySem.F.args_tuple_ge_2 _ _) (zfA l b items items2 n n2 dd dd2 sl sl2 ns ms hi hj)
  ⟨ho,ho2,(⟨(λx=>nomatch x),h⟩)⟩ hu
theorem zcD{it:Addr}{items}{x:Value}(hit:s.heap.IsTupleIter it l i)(hl:s.heap.IsTuple l items)(hx:items[i]?=some x)(hQ:∀h',h'.IsTupleIter it l (i+1)->Heap.SameBut it s.heap h'->Q x {s with heap:=h'}):
  wpAny (model prog w) A (Builtin.SmallTypes.nextOf (.ref it)) Q E s:=by
 let⟨o,ho,hc,hd⟩:=id hit;let⟨ol,hol,_,nl,hdl⟩:=hl;refine wpAny_bind (wpAny_callSpecial?_slot hit.typeIs Qz
  (Ju Qz hit.typeIs PySem.F.entry_tuple_iterator_next ?_ (PySem.F.args_tuple_iterator_next_1 _)))
 show wpAny _ _ (field (.ref it) 0>>=_) _ _ s;refine wpAny_bind (JY ho hd rfl ?_);refine wpAny_bind (JY ho hd rfl ?_);refine wpAny_bind (Qb hol hdl ?_);simp only[Int.toNat_natCast,hx];refine wpAny_bind (wpAny_setField ho hd (by simp) (Ja ⟨x,rfl,Ja (hQ _ ?_ (Qa ..))⟩));exact⟨_,Heap.get?_update_self _ ho (Obj.isFreed_of_fields (Obj.data_mapFields hd _)),(Obj.cls_mapFields ..).trans hc,by rw[Obj.data_mapFields hd];simp[rawInt]⟩
theorem zdk{it:Addr}{items}(hh:A.handled=none)(hit:s.heap.IsTupleIter it l i)(hl:s.heap.IsTuple l items)(hx:items[i]?=none)(hE:∀h' e,Heap.ExtBut it s.heap h'->(∃o,h'.get? e=some o/\o.cls=.type "StopIteration")->E (.ref e) {s with heap:=h'}):
  wpAny (model prog w) A (Builtin.SmallTypes.nextOf (.ref it)) Q E s:=by
 let⟨o,ho,hc,hd⟩:=id hit;let⟨ol,hol,_,nl,hdl⟩:=hl;refine wpAny_bind (wpAny_callSpecial?_slot hit.typeIs Qz
  (Ju Qz hit.typeIs PySem.F.entry_tuple_iterator_next ?_ (PySem.F.args_tuple_iterator_next_1 _)))
 show wpAny _ _ (field (.ref it) 0>>=_) _ _ s;refine wpAny_bind (JY ho hd rfl ?_);refine wpAny_bind (JY ho hd rfl ?_);refine wpAny_bind (Qb hol hdl ?_);simp only[Int.toNat_natCast,hx];refine wpAny_bind (JH (wpAny_bind (wpAny_setField ho hd (by simp) ?_)));refine wpAny_bind ?_;refine wpAny_bind (m:=firstArgMember _ _) (wpAny_of_eq (by first|rfl|(rfl)) ?_);refine JE ?_ (by size_fits);refine wpAny_bind (wpAny_handled ?_)
 first|rw[(hh)]|rw[hh]
 refine wpAny_bind (Ja (wpAny_throw ?_));exact hE _ _ (((Qa ..).extBut.push _).push _) ⟨_,Heap.get?_push_size _ rfl,rfl⟩
end
def drawsT{prog:Program}{w:World}{A:Around}(hh:A.handled=none)(it l:Addr)(hne:l≠it)(items:Array Value):
  Draws prog w A it [it,l] items.size (λi v=>items[i]?=some v) (λi h=>h.IsTupleIter it l i/\h.IsTuple l items)where
 live:=λ_ _ st=>let⟨o,ho,_⟩:=st.1;⟨o,ho⟩
 frame:=λ_ _ _ st hk=>⟨st.1.at λo e=>hk it (by simp) o e,let⟨o,ho,r⟩:=st.2;⟨o,hk l (by simp) o ho,r⟩⟩
 item:=λi s Q E hi st hQ=>by
  refine zcD st.1 st.2 (x:=items[i]) (by simp[hi]) λh' hit' hs'=>?_
  exact hQ _ h' s.toks (by simp[hi]) ⟨hit',let⟨o,ho,r⟩:=st.2;⟨o,hs'.extBut _ _ hne ho,r⟩⟩ hs'
 done:=λs Q E st hE=>zdk hh st.1 st.2 (by simp) hE
def zeN(l:Addr)(items:Array Value)(n:Nat)(dct:Option Addr)(sl:Array (Option Value)):
  Meets (Builtin.«enumerate.__new__» ⟨[.type "enumerate",.ref l],[]⟩) (λ_ R s=>s.heap.get? l=some {cls:=.type "tuple",dict:=dct,data:=.seq items n,slots:=sl}/\
   R (.ok (.ret (.ref (s.heap.push {cls:=.type "tuple_iterator",data:=.fields #[.ref l,.int 0 0]}).objs.size)))
    {s with heap:=(s.heap.push {cls:=.type "tuple_iterator",data:=.fields #[.ref l,.int 0 0]}).push {cls:=.type "enumerate",data:=.fields #[.none,.bool false,.ref s.heap.objs.size,rawInt 0,.none,.none]}}):=
 .of_wp λprog w A R s h=>by
  let⟨hp,g,d,tk,os⟩:=s;let⟨hl,h⟩:=h;have hsub:=sub_enumerate;have hL:Heap.IsTuple (Shared.heap ⟨hp,g,d,tk,os⟩) l items:=⟨_,hl,rfl,n,rfl⟩
  wp_walk using Wb hl
  refine wpAny_stack_any λst=>Ja ?_
  split
  ·rename_i c _ _ _ _ _;cases(c==Value.type "enumerate")
   ·wp_walk using Wb hl,Wk hL
    exact⟨_,rfl,h⟩
   ·wp_walk using Wb hl,Wk hL
    exact⟨_,rfl,h⟩
  ·wp_walk using Wb hl,Wk hL
   exact⟨_,rfl,h⟩
section
variable{prog:Program}{w:World}{A:Around}{E:Vs}{s:Shared}
def call_enumerate_tuple(hL:s.heap.IsTuple l items)(h:∀h',IsEnum h' (s.heap.objs.size+1) s.heap.objs.size 0 .none->h'.IsTupleIter s.heap.objs.size l 0->h'.objs.size=s.heap.objs.size+2->
   (∀b o,s.heap.get? b=some o->h'.get? b=some o)->Q (.ref (s.heap.objs.size+1)) {s with heap:=h'}):
  wpAny (model prog w) A (call (.type "enumerate") [.ref l]) Q E s:=by
 let⟨⟨c,dct,dt,sl⟩,hl,hc,n,hd⟩:=hL;subst hc hd;refine callType_new PySem.F.called_enumerate (by decide) (PySem.F.typeCall_enumerate_1 _) (PySem.F.newCall_enumerate_1 _) (λobj=>PySem.F.args_object_init_2 obj _) PySem.F.entry_enumerate_new
  (zeN l items n dct sl) ⟨hl,?_⟩
 have hz:(s.heap.push {cls:=.type "tuple_iterator",data:=.fields #[.ref l,.int 0 0]}).objs.size=s.heap.objs.size+1:=Ww ..;rw[hz];have he:IsEnum ((s.heap.push {cls:=.type "tuple_iterator",data:=.fields #[.ref l,.int 0 0]}).push
   {cls:=.type "enumerate",data:=.fields #[.none,.bool false,.ref s.heap.objs.size,rawInt 0,.none,.none]}) (s.heap.objs.size+1) s.heap.objs.size 0 .none:=by
  have:=Heap.get?_push_size (s.heap.push {cls:=.type "tuple_iterator",data:=.fields #[.ref l,.int 0 0]})
   (o:={cls:=.type "enumerate",data:=.fields #[.none,.bool false,.ref s.heap.objs.size,rawInt 0,.none,.none]}) rfl
  rw[hz]at this;exact this
 refine⟨⟨_,he,rfl⟩,h _ he ⟨_,Heap.get?_push_of_some _ (Heap.get?_push_size _ rfl),rfl,rfl⟩ (by simp_all) λb o x=>Heap.get?_push_of_some _ (Heap.get?_push_of_some _ x)⟩
end
end HT
namespace L2
variable{elts:U Expr}{tpos:Pos}
section
variable{X:Cx}
def rGeT(K:Fg):R2:=λx y H Q=>∃a b ns ms,x=.ref a/\y=.ref b/\SqT K H a (ns.map V.int)/\SqT K H b (ms.map V.int)/\Q (.bl (!HT.lexLt ns ms)) H
def zsG(hu:X.A.units<cLine):OpR X (compareOp .GtE) (rGeT X.K):=by
 intro p4 s σ H x y v u Q I rx ry h;let⟨a,b,ns,ms,rfl,rfl,ha,hb,q⟩:=h;cases rx
 cases ry
 let⟨p6,r1,p1,_⟩:=I.tuple ha;let⟨its2,r2,p2,_⟩:=I.tuple hb;have i1:=zcH r1;have i2:=zcH r2;exact HT.ge_tupInts p1 p2 i1 i2 hu ⟨.bl (!HT.lexLt ns ms),H,I,rfl,q⟩
def Ite(K:Fg)(a:Addr):It:=
 ⟨λi H=>∃xs x,SqT K H a xs/\xs[i]?=some x,λi H x H'=>∃p v,H p=none/\x=.ref p/\H'=upd H p (.tup [.int i,v])/\∀xs,SqT K H a xs->xs[i]?=some v,λi H=>∃xs,SqT K H a xs/\xs.length=i⟩
def zjx{X:Cx}{p4:AO}{σ:St}{H:Hp}{s:Shared}{h2:Heap}{i tk:Nat}{x:V}{x':Value}{e it:Addr}(I:Inv X p4 σ H s)(fe:kS X p4 H e)(fi:kS X p4 H it)(ru:zR x x')(hTn:h2.get? s.heap.objs.size=some {cls:=.type "tuple",data:=.seq #[.int i tk,x']})(kk:∀b o,b≠e->b≠it->s.heap.get? b=some o->h2.get? b=some o):Inv X p4 σ (upd H s.heap.objs.size (.tup [.int i,x])) {s with heap:=h2,toks:=tk+1}:=by
 have fr:=I.fresh;have nE:∀b u,H b=some u->b≠e:=λb u q z=>by rw[z,fe.1]at q;cases q
 have nI:∀b u,H b=some u->b≠it:=λb u q z=>by rw[z,fi.1]at q;cases q
 have hok0:=λb u q=>by
  refine(I.hok b u q).stay (λc v hc q'=>kk c v ?_ ?_ q') (λ_ z=>z) λ_ _ z=>z
  ·rcases hc with z|z
   ·rw[z];exact nE b u q
   ·exact nE c _ z
  ·rcases hc with z|z
   ·rw[z];exact nI b u q
   ·exact nI c _ z
 have new:kX X.prog X.w (upd H s.heap.objs.size (.tup [.int i,x])) h2 s.heap.objs.size (.tup [.int i,x]):=
  ⟨by show 2<=sizeLine;rw[QR];decide,[.int i tk,x'],.cons ⟨_,rfl⟩ (.cons ru .nil),⟨_,hTn,rfl,_,rfl⟩⟩
 have hok1:HOk X.prog X.w (upd H s.heap.objs.size (.tup [.int i,x])) h2:=λb u q=>by
  by_cases hb:b=s.heap.objs.size
  ·subst hb;rw[qG]at q;cases q;exact new
  ·rw[zT hb]at q;exact(hok0 b u q).stay (λ_ _ _ z=>z) (λc z=>by grind [zT]) λc xs z=>by rw[zT (jI z fr)];exact z
 refine I.step (ch:=[e,it]) (λb hb=>?_) (λb o _ _ hcc q _=>kk b o (λz=>hcc (by simp[z])) (λz=>hcc (by simp[z])) q) (λb o _ _ hcc q _=>⟨o.slots,kk b o (λz=>hcc (by simp[z])) (λz=>hcc (by simp[z])) q⟩)
  (λb o _ q n=>by rw[zT (Jo (Jb q))];exact n) (λb o hcc q=>⟨o,kk b o (λz=>hcc (by simp[z])) (λz=>hcc (by simp[z])) q⟩) (λb xs q=>by grind [zT]) (λb o xs q=>by grind [zT])
  (λb ps q=>⟨#[],by rw[zT (jI q fr),q];simp⟩) (λm hm=>?_) hok1 I.bare
 ·rcases JJ.mp hb with rfl|hb
  ·exact⟨fe.2.2.2.1,fe.2.1,fe.2.2.2.2.1,fe.2.2.2.2.2⟩
  ·rw[Je.mp hb];exact⟨fi.2.2.2.1,fi.2.1,fi.2.2.2.2.1,fi.2.2.2.2.2⟩
 ·let⟨o,es,ep,ho',r⟩:=hm;exact⟨o,es,ep,kk _ o (Ne.symm fe.2.1) (Ne.symm fi.2.1) ho',r⟩
theorem zjL{P:Program}{w:World}{K:Fg}{k:Nat}(a e it:Addr)(hei:e≠it):gD P w K (.Tuple elts k tpos) (Ite K a) [e,it] e (λi h=>(∃old,IsEnum h e it i old)/\h.IsTupleIter it a i)where
 mem:=by simp
 obj:=λi h st b hb=>by let⟨⟨old,he⟩,o,e2,c,d⟩:=st;grind
 keep:=λi h h' st k=>⟨let⟨old,he⟩:=st.1;⟨old,k e (by simp) _ he⟩,st.2.at λo e=>k it (by simp) o e⟩
 item:=by
  intro X hP hw hK hc i p4 s σ H E I hf st hg;subst hP hw hK;let⟨xs,x,hq,hx⟩:=hg;let⟨p6,rv,p,hz⟩:=I.tuple hq;let⟨u,hu,ru⟩:=rv.get hx;let⟨⟨old,he⟩,hit⟩:=st;have fe:=hf e (by simp);have fi:=hf it (by simp);have hai:a≠it:=by rintro rfl;let⟨o,e1,c1,_⟩:=id hit;let⟨o',e2,c2,_⟩:=id p;grind
  have hae:a≠e:=by rintro rfl;let⟨o',e2,c2,_⟩:=id p;grind
  have hilt:i<p6.toArray.size:=by have:=(List.getElem?_eq_some_iff.mp hu).1;simpa using this
  refine wpAny_pyNext_enum_itemD (HT.drawsT (A:=X.A.in1) (I.ok.hd hc) it a hai p6.toArray) he ⟨hit,p⟩ hilt hei (by grind) λx' h' tk hP ho hs' hT hsz hk=>?_
  have ex:x'=u:=by
   have:p6[i]?=some x':=by simpa using hP
   rw[hu]at this;exact(Option.some.inj this).symm
  subst ex;refine⟨_,rfl,?_⟩;refine wpAny_letOwnedTupleGo_enum ho λh2 he2 hs2=>?_
  have hTe:=Qv (Jb he);have hTn:=(hs2.2 _ hTe).trans hT;have kk:=λb o h1 h3 e=>(hs2.2 b h1).trans (hk b o h1 h3 e)
  have hit2:=hs'.1.at λo e=>(hs2.2 it (Ne.symm hei)).trans e
  have fr:=I.fresh;have I1:=zjx (i:=i) I fe fi ru hTn kk;refine⟨.ref s.heap.objs.size,_,I1,rfl,⟨s.heap.objs.size,x,fr,rfl,rfl,λys hy=>by rw[I.tuple_inj hy hq];exact hx⟩,⟨⟨x',by simpa using he2⟩,hit2⟩,λb hb=>?_⟩;have hbl:b≠s.heap.objs.size:=by
   rcases JJ.mp hb with rfl|hb
   ·exact Ne.symm hTe
   ·rw[Je.mp hb];let⟨o,e1,_⟩:=hit;exact Jo (Jb e1)
  rw[zT hbl];exact(hf b hb).1
 done:=by
  intro X hP hw hK hc i p4 s σ H E I hf st hg;subst hP hw hK;let⟨xs,hq,hx⟩:=hg;let⟨p6,rv,p,hz⟩:=I.tuple hq;let⟨⟨old,he⟩,hit⟩:=st;have fi:=hf it (by simp);have hai:a≠it:=by rintro rfl;let⟨o,e1,c1,_⟩:=id hit;let⟨o',e2,c2,_⟩:=id p;grind
  have hn:p6.toArray.size=i:=by grind [zN.length]
  refine wpAny_pyNext_enum_endD (HT.drawsT (A:=X.A.in1) (I.ok.hd hc) it a hai p6.toArray) he (by rw[hn];exact⟨hit,p⟩) λh' hx'=>⟨rfl,?_⟩
  let⟨f0,f1,f2,f3,f4,f5⟩:=fi;exact I.turned (t':=s.toks) (λb o hb e=>hx' b o hb e) f0 f1 f3 f4 f5
 self:=λA i s Q E st h=>by let⟨⟨old,he⟩,_⟩:=st;exact wpAny_pyIter_enum he h
noncomputable def zto(K:Fg)(ta:TA):TI:=λσ H R=>ta σ H λvs H1=>∃a xs,vs=[.ref a]/\SqT K H1 a xs/\R (Ite K a) H1
def zoe{k:Nat}{p pos:Pos}{a:Expr}{ta:TA}(hg:Gl X "enumerate")(hm:X.mg "enumerate"=none)(ha:PA X [a] ta)(hs:B0 (starEach [a] X.env=[(false,eval a X.env)])):PI X (.Tuple elts k tpos) (.Call (.Name "enumerate" p) [a] [] pos) (zto X.K ta):=by
 intro p4 s σ H R I h;refine Call_ (vU I hg hm boot_enumerate (JK (thn (ha pos p4 s σ H _ I h) λus s1 ⟨vs,H1,I1,r1,q1⟩=>?_) hs rfl));let⟨a,xs,e,hq,q⟩:=q1;subst e;let⟨u,rfl,ru⟩:=vF r1;cases ru
 let⟨p6,rv,p,hz⟩:=I1.tuple hq;refine HT.call_enumerate_tuple p λh' he hit hsz hk=>?_
 have I2:=I1.kept (t':=s1.toks) hk;refine wpAny_pyIter_enum he ?_;refine⟨s1.heap.objs.size+1,[s1.heap.objs.size+1,s1.heap.objs.size],_,_,H1,rfl,I2,zjL a (s1.heap.objs.size+1) s1.heap.objs.size (Nat.succ_ne_self _),⟨⟨_,he⟩,hit⟩,λb hb=>?_,q⟩;rcases JJ.mp hb with rfl|hb
 ·exact I1.fpOk (Nat.le_succ _) (I1.hok.fresh (Nat.le_succ _))
 ·rw[Je.mp hb];exact I1.fpOk (Jf _) (I1.hok.fresh (Jf _))
end
end L2
namespace FX
def Fly(h:Heap)(e:Addr)(cls:Value)(d:Option Addr)(tb:Option Addr)(fl:Value):Prop:=
 ∃oe vs,h.get? e=some oe/\oe.cls=cls/\oe.dict=d/\oe.data=.fields vs/\1<vs.size/\match tb with
  |none=>vs[1]?=some .none
  |some T=>vs[1]?=some (.ref T)/\T≠e/\∃oT ts,h.get? T=some oT/\oT.data=.fields ts/\ts[3]?=some fl
end FX
namespace FL
open L2
inductive KD where
 |int (i:Int)|str (x:Str)|tup (l:U Key)
 deriving DecidableEq
inductive D where
 |non|bl (b:Bool)|int (i:Int)|str (x:Str)|tup (l:U D)|lst (l:U D)|scr (ns:U Int)|dic (ks:U KD) (ds:U D)|set (l:U KD)|exc (c:Str) (d:D)
def kdK:Key->KD
 | .inl i=>.int i
 | .inr x=>.str x
def gkD:zP->KD
 | .inl k=>kdK k
 | .inr l=>.tup l
def yD(F:Hp):KD->V->Prop
 | .int i,v=>v=.int i
 | .str x,v=>v=.str x
 | .tup l,v=>∃b,v=.ref b/\F b=some (.tup (l.map kV))
def nC(F H:Hp)(a:Addr)(ks:U KD)(vs:U V):Prop:=
 (∃p5:U (Key×V),H a=some (.dK p5)/\ks=p5.map (λp=>kdK p.1)/\vs=p5.map (·.2))\/
 (∃(p5:U (zP×V)) (ys:U V),H a=some (.dT p5 ys)/\(ks=p5.map (λp=>gkD p.1)/\∃l,KD.tup l∈ks)/\vs=p5.map (·.2)/\Paired (yD F) ks ys)
def nB(F H:Hp)(a:Addr)(ks:U KD)(vs:U V):Prop:=∃o,
 (∃p5:U (Key×V),H a=some (.frz o (.dK p5))/\ks=p5.map (λp=>kdK p.1)/\vs=p5.map (·.2))\/
 (∃(p5:U (zP×V)) (ys:U V),H a=some (.frz o (.dT p5 ys))/\(ks=p5.map (λp=>gkD p.1)/\∃l,KD.tup l∈ks)/\vs=p5.map (·.2)/\Paired (yD F) ks ys)
def DicB(F H:Hp)(a:Addr)(ks:U KD)(vs:U V):Prop:=nC F H a ks vs\/nB F H a ks vs
def xN(F:Hp)(a:Addr)(l:U KD):Prop:=∃L,F a=some (.set L)/\l=L.map KD.str
noncomputable def zoP(c:Str):Str:=if c="NoPlace"then "place"else if c="NoRule"then "rule"else if c="TwoCounts"then "sign"else if c="TooLong"then "term"else "rules"
def ExcO(a C da:Addr):HO:=.ext λh=>∃oe vs,h.get? a=some oe/\oe.cls=.ref C/\oe.dict=some da/\oe.data=.fields vs
mutual
def Dat(K:Fg)(F:Hp):D->V->Prop
 | .non,v=>v=.non
 | .bl b,v=>v=.bl b
 | .int i,v=>v=.int i
 | .str x,v=>v=.str x
 | .tup l,v=>∃a vs,v=.ref a/\F a=some (.tup vs)/\zD K F l vs
 | .lst l,v=>∃a vs,v=.ref a/\F a=some (.lst vs)/\zD K F l vs
 | .scr ns,v=>∃a,v=.ref a/\SqL K F a (ns.map V.int)
 | .dic ks ds,v=>∃a vs,v=.ref a/\nB F F a ks vs/\zD K F ds vs
 | .set l,v=>∃a,v=.ref a/\xN F a l
 | .exc c d,v=>∃a C da u,v=.ref a/\F a=some (ExcO a C da)/\PySem.W.nsIn K mainGlobals c=some (some (.ref C))/\F da=some (.xd [(zoP c,u)])/\Dat K F d u
def zD(K:Fg)(F:Hp):U D->U V->Prop
 |[],vs=>vs=[]
 |d::l,vs=>∃v r,vs=v::r/\Dat K F d v/\zD K F l r
end
section
variable{K:Fg}{F F' H H':Hp}
def yD.mono(s:zJ F F'):∀{k:KD}{v:V},yD F k v->yD F' k v
 | .int _,_,h=>h
 | .str _,_,h=>h
 | .tup _,_,⟨b,e,h⟩=>⟨b,e,s _ _ h⟩
theorem KeysF.mono(s:zJ F F'){ks:U KD}{ys:U V}(h:Paired (yD F) ks ys):Paired (yD F') ks ys:=Paired.mapP h λ_ _=>yD.mono s
def nC.at{a:Addr}(s:zJ F F')(e:∀o,H a=some o->H' a=some o){ks:U KD}{vs:U V}(h:nC F H a ks vs):nC F' H' a ks vs:=by
 rcases h with⟨p5,h,r⟩|⟨p5,ys,h,r1,r2,r3⟩
 ·exact .inl ⟨p5,e _ h,r⟩
 ·exact .inr ⟨p5,ys,e _ h,r1,r2,KeysF.mono s r3⟩
def nB.at{a:Addr}(s:zJ F F')(e:∀o,H a=some o->H' a=some o){ks:U KD}{vs:U V}(h:nB F H a ks vs):nB F' H' a ks vs:=by
 obtain⟨o,⟨p5,h,r⟩|⟨p5,ys,h,r1,r2,r3⟩⟩:=h
 ·exact⟨o,.inl ⟨p5,e _ h,r⟩⟩
 ·exact⟨o,.inr ⟨p5,ys,e _ h,r1,r2,KeysF.mono s r3⟩⟩
theorem DicB.at{a:Addr}(s:zJ F F')(e:∀o,H a=some o->H' a=some o){ks:U KD}{vs:U V}(h:DicB F H a ks vs):DicB F' H' a ks vs:=h.imp (nC.at s e) (nB.at s e)
def xN.mono(s:zJ F F'){a:Addr}{l:U KD}(h:xN F a l):xN F' a l:=by let⟨o,h,z⟩:=h;exact⟨o,s _ _ h,z⟩
theorem nC.some{a:Addr}{ks:U KD}{vs:U V}(h:nC F H a ks vs):∃o,H a=some o:=by
 rcases h with⟨p5,h,r⟩|⟨p5,ys,h,r⟩
 ·exact⟨_,h⟩
 ·exact⟨_,h⟩
theorem xN.some{a:Addr}{l:U KD}(h:xN F a l):∃o,F a=some o:=let⟨_,h,_⟩:=h;⟨_,h⟩
theorem xN.at{a:Addr}(e:F' a=F a){l:U KD}(h:xN F a l):xN F' a l:=by unfold xN at h ⊢;rw[e];exact h
mutual
theorem Dat.mono(t:zJ F F'):∀{d:D}{v:V},Dat K F d v->Dat K F' d v
 | .non,_,h=>by simp only[Dat]at h ⊢;exact h
 | .bl _,_,h=>by simp only[Dat]at h ⊢;exact h
 | .int _,_,h=>by simp only[Dat]at h ⊢;exact h
 | .str _,_,h=>by simp only[Dat]at h ⊢;exact h
 | .tup l,_,h=>by simp only[Dat]at h ⊢;let⟨a,vs,e,h1,h2⟩:=h;exact⟨a,vs,e,t _ _ h1,zD.mono t h2⟩
 | .lst l,_,h=>by simp only[Dat]at h ⊢;let⟨a,vs,e,h1,h2⟩:=h;exact⟨a,vs,e,t _ _ h1,zD.mono t h2⟩
 | .scr l,_,h=>by simp only[Dat]at h ⊢;let⟨a,e,h1⟩:=h;exact⟨a,e,zJ.seq t h1⟩
 | .dic _ l,_,h=>by simp only[Dat]at h ⊢;let⟨a,vs,e,h1,h2⟩:=h;exact⟨a,vs,e,h1.at t λo e=>t _ _ e,zD.mono t h2⟩
 | .set l,_,h=>by simp only[Dat]at h ⊢;let⟨a,e,h1⟩:=h;exact⟨a,e,h1.mono t⟩
 | .exc c d,_,h=>by simp only[Dat]at h ⊢;let⟨a,C,da,u,e,h1,h2,h3,h4⟩:=h;exact⟨a,C,da,u,e,t _ _ h1,h2,t _ _ h3,Dat.mono t h4⟩
theorem zD.mono(t:zJ F F'):∀{l:U D}{vs:U V},zD K F l vs->zD K F' l vs
 |[],_,h=>by simp only[zD]at h ⊢;exact h
 |d::l,_,h=>by simp only[zD]at h ⊢;let⟨v,r,e,h1,h2⟩:=h;exact⟨v,r,e,Dat.mono t h1,zD.mono t h2⟩
end
def zD.nil:zD K F [] []:=by simp only[zD]
def zD.cons{d:D}{l:U D}{v:V}{vs:U V}(h:Dat K F d v)(r:zD K F l vs):zD K F (d::l) (v::vs):=by simp only[zD];exact⟨v,vs,rfl,h,r⟩
def zD.nil_inv{vs:U V}(h:zD K F [] vs):vs=[]:=by simp only[zD]at h;exact h
theorem zD.cons_inv{d:D}{l:U D}{vs:U V}(h:zD K F (d::l) vs):∃v r,vs=v::r/\Dat K F d v/\zD K F l r:=by simp only[zD]at h;exact h
theorem Dat.non_inv{v:V}(h:Dat K F .non v):v=.non:=by simp only[Dat]at h;exact h
def Dat.bl_inv{b:Bool}{v:V}(h:Dat K F (.bl b) v):v=.bl b:=by simp only[Dat]at h;exact h
def Dat.int_inv{i:Int}{v:V}(h:Dat K F (.int i) v):v=.int i:=by simp only[Dat]at h;exact h
def Dat.str_inv{x:Str}{v:V}(h:Dat K F (.str x) v):v=.str x:=by simp only[Dat]at h;exact h
theorem Dat.tup_inv{l:U D}{v:V}(h:Dat K F (.tup l) v):∃a vs,v=.ref a/\F a=some (.tup vs)/\zD K F l vs:=by simp only[Dat]at h;exact h
theorem Dat.lst_inv{l:U D}{v:V}(h:Dat K F (.lst l) v):∃a vs,v=.ref a/\F a=some (.lst vs)/\zD K F l vs:=by simp only[Dat]at h;exact h
theorem Dat.scr_inv{l:U Int}{v:V}(h:Dat K F (.scr l) v):∃a,v=.ref a/\SqL K F a (l.map V.int):=by simp only[Dat]at h;exact h
def Dat.dic_inv{ks:U KD}{l:U D}{v:V}(h:Dat K F (.dic ks l) v):∃a vs,v=.ref a/\nB F F a ks vs/\zD K F l vs:=by simp only[Dat]at h;exact h
theorem Dat.set_inv{l:U KD}{v:V}(h:Dat K F (.set l) v):∃a,v=.ref a/\xN F a l:=by simp only[Dat]at h;exact h
def Dat.exc_inv{c:Str}{d:D}{v:V}(h:Dat K F (.exc c d) v):∃a C da u,v=.ref a/\F a=some (ExcO a C da)/\PySem.W.nsIn K mainGlobals c=some (some (.ref C))/\F da=some (.xd [(zoP c,u)])/\Dat K F d u:=by simp only[Dat]at h;exact h
theorem Dat.non:Dat K F .non .non:=by simp only[Dat]
theorem Dat.bl(b:Bool):Dat K F (.bl b) (.bl b):=by simp only[Dat]
theorem Dat.int(i:Int):Dat K F (.int i) (.int i):=by simp only[Dat]
theorem Dat.str(x:Str):Dat K F (.str x) (.str x):=by simp only[Dat]
theorem Dat.tup{l:U D}{a:Addr}{vs:U V}(h:F a=some (.tup vs))(r:zD K F l vs):Dat K F (.tup l) (.ref a):=by simp only[Dat];exact⟨a,vs,rfl,h,r⟩
theorem Dat.lst{l:U D}{a:Addr}{vs:U V}(h:F a=some (.lst vs))(r:zD K F l vs):Dat K F (.lst l) (.ref a):=by simp only[Dat];exact⟨a,vs,rfl,h,r⟩
theorem Dat.scr{l:U Int}{a:Addr}(h:SqL K F a (l.map V.int)):Dat K F (.scr l) (.ref a):=by simp only[Dat];exact⟨a,rfl,h⟩
theorem Dat.dic{ks:U KD}{l:U D}{a:Addr}{vs:U V}(h:nB F F a ks vs)(r:zD K F l vs):Dat K F (.dic ks l) (.ref a):=by simp only[Dat];exact⟨a,vs,rfl,h,r⟩
theorem zD.length:∀{l:U D}{vs:U V},zD K F l vs->vs.length=l.length
 |[],_,h=>by rw[h.nil_inv];rfl
 |_::l,_,h=>by let⟨v,r,rfl,_,h2⟩:=h.cons_inv;simp[zD.length h2]
theorem zD.get:∀{l:U D}{vs:U V} {i:Nat}{d:D},zD K F l vs->l[i]?=some d->∃v,vs[i]?=some v/\Dat K F d v
 |[],_,_,_,_,e=>by simp at e
 |_::l,_,i,d,h,e=>by
  let⟨v,r,rfl,h1,h2⟩:=h.cons_inv;cases i with
  |zero=>simp at e;subst e;exact⟨v,rfl,h1⟩
  |succ i=>
   let⟨u,e1,h3⟩:=zD.get (i:=i) h2 (by simpa using e);exact⟨u,by simpa using e1,h3⟩
def zD.get'{l:U D}{vs:U V}{i:Nat}{v:V}(h:zD K F l vs)(e:vs[i]?=some v):∃d,l[i]?=some d/\Dat K F d v:=by
 have hl:=h.length;have hi:i<l.length:=by rw[←hl];exact(List.getElem?_eq_some_iff.mp e).1
 let⟨u,e1,h1⟩:=h.get (List.getElem?_eq_getElem hi);rw[e]at e1;cases e1
 exact⟨_,List.getElem?_eq_getElem hi,h1⟩
theorem zD.append:∀{l m:U D}{vs us:U V},zD K F l vs->zD K F m us->zD K F (l++m) (vs++us)
 |[],_,_,_,h,k=>by rw[h.nil_inv];exact k
 |_::l,_,_,_,h,k=>by let⟨v,r,rfl,h1,h2⟩:=h.cons_inv;exact zD.cons h1 (zD.append h2 k)
def zD.snoc{l:U D}{vs:U V}{d:D}{v:V}(h:zD K F l vs)(k:Dat K F d v):zD K F (l++[d]) (vs++[v]):=h.append (zD.cons k zD.nil)
theorem zD.reverse:∀{l:U D}{vs:U V},zD K F l vs->zD K F l.reverse vs.reverse
 |[],_,h=>by rw[h.nil_inv];exact zD.nil
 |_::l,_,h=>by let⟨v,r,rfl,h1,h2⟩:=h.cons_inv;rw[QY,QY];exact(zD.reverse h2).snoc h1
theorem zD.take:∀{l:U D}{vs:U V} (n:Nat),zD K F l vs->zD K F (l.take n) (vs.take n)
 |_,_,0,_=>by simp;exact zD.nil
 |[],_,n+1,h=>by rw[h.nil_inv];simp;exact zD.nil
 |_::l,_,n+1,h=>by let⟨v,r,rfl,h1,h2⟩:=h.cons_inv;exact zD.cons h1 (zD.take n h2)
theorem zD.drop:∀{l:U D}{vs:U V} (n:Nat),zD K F l vs->zD K F (l.drop n) (vs.drop n)
 |_,_,0,h=>by simpa using h
 |[],_,n+1,h=>by rw[h.nil_inv];simp;exact zD.nil
 |_::l,_,n+1,h=>by let⟨v,r,rfl,h1,h2⟩:=h.cons_inv;exact zD.drop n h2
theorem zD.eraseIdx:∀{l:U D}{vs:U V} (n:Nat),zD K F l vs->zD K F (l.eraseIdx n) (vs.eraseIdx n)
 |[],_,_,h=>by rw[h.nil_inv];simp;exact zD.nil
 |_::l,_,n,h=>by
  let⟨v,r,rfl,h1,h2⟩:=h.cons_inv;cases n with
  |zero=>exact h2
  |succ n=>exact zD.cons h1 (zD.eraseIdx n h2)
theorem zD.dropLast{l:U D}{vs:U V}(h:zD K F l vs):zD K F l.dropLast vs.dropLast:=by rw[List.dropLast_eq_take,List.dropLast_eq_take,h.length];exact h.take _
theorem zD.ints:∀{ns:U Int}{vs:U V},zD K F (ns.map D.int) vs->vs=ns.map V.int
 |[],_,h=>h.nil_inv
 |n::ns,_,h=>by let⟨v,r,rfl,h1,h2⟩:=h.cons_inv;rw[h1.int_inv,zD.ints h2];rfl
theorem zD.ofInts:∀(ns:U Int),zD K F (ns.map D.int) (ns.map V.int)
 |[]=>zD.nil
 |n::ns=>zD.cons (Dat.int n) (zD.ofInts ns)
theorem zD.strs:∀{ns:U Str}{vs:U V},zD K F (ns.map D.str) vs->vs=ns.map V.str
 |[],_,h=>h.nil_inv
 |n::ns,_,h=>by let⟨v,r,rfl,h1,h2⟩:=h.cons_inv;rw[h1.str_inv,zD.strs h2];rfl
def zV(K:Fg)(F H:Hp):D->V->Prop
 | .lst l,v=>∃a vs,v=.ref a/\H a=some (.lst vs)/\zD K F l vs
 | .dic ks ds,v=>∃a vs,v=.ref a/\DicB F H a ks vs/\zD K F ds vs
 | .set l,v=>∃a,v=.ref a/\xN H a l
 |d,v=>Dat K F d v
def Dat.b(s:zJ F H){d:D}{v:V}(h:Dat K F d v):zV K F H d v:=by
 cases d with
 |lst l=>let⟨a,vs,e,h1,h2⟩:=h.lst_inv;exact⟨a,vs,e,s _ _ h1,h2⟩
 |dic ks l=>let⟨a,vs,e,h1,h2⟩:=h.dic_inv;exact⟨a,vs,e,.inr (h1.at (zJ.refl _) λo e=>s _ _ e),h2⟩
 |set l=>let⟨a,e,h1⟩:=h.set_inv;exact⟨a,e,h1.mono s⟩
 |_=>exact h
theorem zV.mono(f:zJ F F')(g:zJ H H'){d:D}{v:V}(h:zV K F H d v):zV K F' H' d v:=by
 cases d with
 |lst l=>let⟨a,vs,e,h1,h2⟩:=h;exact⟨a,vs,e,g _ _ h1,h2.mono f⟩
 |dic ks l=>let⟨a,vs,e,h1,h2⟩:=h;exact⟨a,vs,e,h1.at f λo e=>g _ _ e,h2.mono f⟩
 |set l=>let⟨a,e,h1⟩:=h;exact⟨a,e,h1.mono g⟩
 |_=>exact Dat.mono f h
def Own(K:Fg)(F H:Hp):D->Addr->Prop
 | .lst l,a=>∃vs,H a=some (.lst vs)/\zD K F l vs
 | .dic ks ds,a=>∃vs,nC F H a ks vs/\zD K F ds vs
 | .set l,a=>xN H a l
 |_,_=>False
theorem Own.mono(f:zJ F F'){d:D}{a:Addr}(g:∀o,H a=some o->H' a=some o)(h:Own K F H d a):Own K F' H' d a:=by
 cases d with
 |lst l=>let⟨vs,h1,h2⟩:=h;exact⟨vs,g _ h1,h2.mono f⟩
 |dic ks l=>
  let⟨vs,h1,h2⟩:=h;exact⟨vs,h1.at f g,h2.mono f⟩
 |set l=>
  let⟨o,e⟩:=h.some;exact h.at (by rw[e];exact g _ e)
 |_=>exact h.elim
theorem Own.some{d:D}{a:Addr}(h:Own K F H d a):∃o,H a=some o:=by
 cases d with
 |lst l=>let⟨vs,h1,h2⟩:=h;exact⟨_,h1⟩
 |dic ks l=>let⟨vs,h1,h2⟩:=h;exact h1.some
 |set l=>exact xN.some (l:=l) h
 |_=>exact h.elim
def Own.b{d:D}{a:Addr}(h:Own K F H d a):zV K F H d (.ref a):=by
 cases d with
 |lst l=>let⟨vs,h1,h2⟩:=h;exact⟨a,vs,rfl,h1,h2⟩
 |dic ks l=>let⟨vs,h1,h2⟩:=h;exact⟨a,vs,rfl,.inl h1,h2⟩
 |set l=>exact⟨a,rfl,h⟩
 |_=>exact h.elim
def vA(F H:Hp)(a:Addr):Hp:=λb=>if b=a then H a else F b
def zbs{a:Addr}:vA F H a a=H a:=by unfold vA;rw[if_pos rfl]
def zbR{a b:Addr}(h:b≠a):vA F H a b=F b:=by unfold vA;rw[if_neg h]
def zbf{a:Addr}(h:F a=none):zJ F (vA F H a):=λb o e=>by rw[zbR (jI e h)];exact e
def zck{a:Addr}(s:zJ F H):zJ (vA F H a) H:=λb o e=>by
 by_cases hb:b=a
 ·simp_all[zbs]
 ·rw[zbR hb]at e;exact s _ _ e
noncomputable def zra:Option HO->Bool
 |some (.dK _)=>true
 |some (.dT _ _)=>true
 |_=>false
def vD(H:Hp)(a:Addr)(H2:Hp):Prop:=(H2=H/\zra (H a)=false)\/∃o u,H a=some u/\zra (some u)=true/\H2=upd H a (.frz o u)
def vD.ne{H2:Hp}{a b:Addr}(f:vD H a H2)(h:b≠a):H2 b=H b:=by
 rcases f with⟨rfl,_⟩|⟨o,u,_,_,rfl⟩
 ·rfl
 ·exact zT h
def vD.same{H2:Hp}{a:Addr}(f:vD H a H2)(s:zJ F H)(h:F a=none):zJ F H2:=λb o e=>by rw[f.ne (jI e h)];exact s _ _ e
def Own.freeze{H2:Hp}{d:D}{a:Addr}(h:Own K F H d a)(hn:F a=none)(f:vD H a H2):Dat K (vA F H2 a) d (.ref a):=by
 have x:zJ F (vA F H2 a):=zbf hn;cases d with
 |lst l=>
  let⟨vs,h1,h2⟩:=h;rcases f with⟨rfl,_⟩|⟨o,u,e,z,_⟩
  ·exact Dat.lst (by rw[zbs];exact h1) (h2.mono x)
  ·rw[h1]at e;cases e;cases z
 |dic ks l=>
  let⟨vs,h1,h2⟩:=h;refine Dat.dic ?_ (h2.mono x);rcases h1 with⟨p5,h1,r⟩|⟨p5,ys,h1,r1,r2,r3⟩
  ·rcases f with⟨_,z⟩|⟨o,u,e,z,rfl⟩
   ·rw[h1]at z;cases z
   ·rw[h1]at e;cases e
    exact⟨o,.inl ⟨p5,by rw[zbs];exact qG,r⟩⟩
  ·rcases f with⟨_,z⟩|⟨o,u,e,z,rfl⟩
   ·rw[h1]at z;cases z
   ·rw[h1]at e;cases e
    exact⟨o,.inr ⟨p5,ys,by rw[zbs];exact qG,r1,r2,KeysF.mono x r3⟩⟩
 |set l=>
  let⟨L,h1,e0⟩:=h;rcases f with⟨rfl,_⟩|⟨o,u,e,z,_⟩
  ·exact⟨a,rfl,L,by rw[zbs];exact h1,e0⟩
  ·rw[h1]at e;cases e;cases z
 |_=>exact h.elim
def zV.frz{H2:Hp}{a:Addr}{d:D}{v:V}(h:zV K F H d v)(x:zJ F F')(f:vD H a H2)(hv:v≠.ref a):zV K F' H2 d v:=by
 cases d with
 |lst l=>let⟨b,vs,e,h1,h2⟩:=h;exact⟨b,vs,e,by rw[f.ne λz=>hv (by rw[e,z])];exact h1,h2.mono x⟩
 |dic ks l=>let⟨b,vs,e,h1,h2⟩:=h;exact⟨b,vs,e,h1.at x (λo q=>by rw[f.ne λz=>hv (by rw[e,z])];exact q),h2.mono x⟩
 |set l=>let⟨b,e,h1⟩:=h;exact⟨b,e,h1.at (f.ne λz=>hv (by rw[e,z]))⟩
 |_=>exact Dat.mono x h
def Own.fl{l:U D}{a:Addr}(h:Own K F H (.lst l) a):vD H a H:=by let⟨vs,h1,_⟩:=h;exact .inl ⟨rfl,by rw[h1];rfl⟩
end
inductive Sl where
 |dat (d:D)|ow (p:Bool) (d:D)|bor (d:D)
abbrev Sl.own(d:D):Sl:=.ow false d
def Sl.isDat:Sl->Bool
 | .dat _=>true
 |_=>false
abbrev St:=L2.St
abbrev En:=U (Option Sl)
abbrev EO(α:Type):=En->Option α
abbrev LO:=U D->Option D
def xH(ρ:En)(σ:St)(b:Addr):Prop:=∃(i:Nat) (p:Bool) (d:D),ρ[i]?=some (some (.ow p d))/\σ[i]?=some (some (.ref b))
structure Rel(K:Fg)(F H:Hp)(ρ:En)(σ:St):Prop where
 sub:zJ F H
 dat:∀(i:Nat) (d:D),ρ[i]?=some (some (.dat d))->∃v,σ[i]?=some (some v)/\Dat K F d v
 bor:∀(i:Nat) (d:D),ρ[i]?=some (some (.bor d))->∃v,σ[i]?=some (some v)/\zV K F H d v
 own:∀(i:Nat) (p:Bool) (d:D),ρ[i]?=some (some (.ow p d))->∃a,σ[i]?=some (some (.ref a))/\F a=none/\Own K F H d a
 inj:∀(i j:Nat) (p:Bool) (d:D) (s:Sl) (a:Addr),i≠j->ρ[i]?=some (some (.ow p d))->σ[i]?=some (some (.ref a))->ρ[j]?=some (some s)->s.isDat=false->σ[j]?≠some (some (.ref a))
 len:ρ.length=σ.length
structure zG(F H F' H':Hp):Prop where
 ff:zJ F F'
 hh:zJ H H'
 fh:zJ F' H'
 nw:∀b o,H b=some o->F b=none->F' b=none
section
variable{K:Fg}{F F' F2 H H' H2:Hp}{ρ ρ' ρ2:En}{σ σ' σ2:St}
theorem zG.refl(s:zJ F H):zG F H F H:=⟨zJ.refl _,zJ.refl _,s,λ_ _ _ n=>n⟩
theorem zG.trans(a:zG F H F' H')(b:zG F' H' F2 H2):zG F H F2 H2:=
 ⟨a.ff.trans b.ff,a.hh.trans b.hh,b.fh,λc o e n=>b.nw c o (a.hh _ _ e) (a.nw c o e n)⟩
def yJ{p:Addr}(h:H p=none)(o:HO):zJ H (upd H p o):=λb u q=>by rw[zT (jI q h)];exact q
def zG.frozen{p:Addr}{o:HO}(s:zJ F H)(h:H p=none):zG F H (upd F p o) (upd H p o):=by
 refine⟨yJ (s.free h) o,yJ h o,λb u e=>?_,λb u e n=>?_⟩
 ·by_cases hb:b=p
  ·simp_all[qG]
  ·rw[zT hb]at e ⊢;exact s _ _ e
 grind [zT]
def zG.fresh{p:Addr}{o:HO}(s:zJ F H)(h:H p=none):zG F H F (upd H p o):=
 ⟨zJ.refl _,yJ h o,s.trans (yJ h o),λb u e n=>n⟩
def zG.freeze{a:Addr}{H3:Hp}(g:zG F H F' H')(h:H a=none)(hn:F' a=none)(f:vD H' a H3):zG F H (vA F' H3 a) H3:=by
 refine⟨g.ff.trans (zbf hn),λb o e=>?_,zck (f.same g.fh hn),λb o e n=>?_⟩
 ·rw[f.ne (jI e h)];exact g.hh _ _ e
 ·have hb:=jI e h;rw[zbR hb];exact g.nw b o e n
def Rel.grow(r:Rel K F H ρ σ)(g:zG F H F' H'):Rel K F' H' ρ σ where
 sub:=g.fh
 dat:=λi d e=>let⟨v,h1,h2⟩:=r.dat i d e;⟨v,h1,h2.mono g.ff⟩
 bor:=λi d e=>let⟨v,h1,h2⟩:=r.bor i d e;⟨v,h1,h2.mono g.ff g.hh⟩
 own:=λi p d e=>by let⟨a,h1,h2,h3⟩:=r.own i p d e;let⟨o,ho⟩:=h3.some;exact⟨a,h1,g.nw a o ho h2,h3.mono g.ff λo e=>g.hh _ _ e⟩
 inj:=r.inj
 len:=r.len
structure jE(ρ:En)(σ:St)(F H:Hp)(ρ':En)(σ':St)(F' H':Hp):Prop where
 ff:zJ F F'
 rest:∀b o,H b=some o->F b=none->¬xH ρ σ b->H' b=some o/\F' b=none
 own:∀b,xH ρ' σ' b->H b=none\/xH ρ σ b
 pin:∀(i:Nat) (d':D),ρ'[i]?=some (some (.ow true d'))->∃d,ρ[i]?=some (some (.ow true d))/\σ'[i]?=σ[i]?
 fh:zJ F' H'
def zG.step(g:zG F H F' H'):jE ρ σ F H ρ σ F' H':=⟨g.ff,λb o e n _=>⟨g.hh _ _ e,g.nw b o e n⟩,λ_ h=>.inr h,λ_ d e=>⟨d,e,rfl⟩,g.fh⟩
def jE.back(a:jE ρ σ F H ρ' σ' F' H')(s:zJ F H){b:Addr}(h:H' b=none\/xH ρ' σ' b):H b=none\/xH ρ σ b:=by
 rcases h with h|h
 ·cases e:H b with
  |none=>exact .inl rfl
  |some o=>
   cases f:F b with
   |some u=>have:=a.fh _ _ (a.ff _ _ f);rw[h]at this;cases this
   |none=>
    by_cases q:xH ρ σ b
    ·exact .inr q
    ·have:=(a.rest b o e f q).1;grind
 ·exact a.own b h
theorem jE.trans(a:jE ρ σ F H ρ' σ' F' H')(b:jE ρ' σ' F' H' ρ2 σ2 F2 H2)(s:zJ F H):jE ρ σ F H ρ2 σ2 F2 H2:=by
 refine⟨a.ff.trans b.ff,λc o e n q=>?_,λc h=>a.back s (b.own c h),λi d e=>?_,b.fh⟩
 rotate_left
 ·let⟨d1,e1,e2⟩:=b.pin i d e;let⟨d2,e3,e4⟩:=a.pin i d1 e1;exact⟨d2,e3,e2.trans e4⟩
 let⟨h1,h2⟩:=a.rest c o e n q;refine b.rest c o h1 h2 λz=>?_
 rcases a.own c z with y|y
 ·rw[e]at y;cases y
 ·exact q y
end
inductive Md where
 |fz|ow|br
def Res(K:Fg)(md:Md)(H F' H':Hp)(d:D)(v:V):Prop:=match md with
 | .fz=>Dat K F' d v
 | .ow=>∃a,v=.ref a/\H a=none/\F' a=none/\Own K F' H' d a
 | .br=>zV K F' H' d v
noncomputable def rdE(K:Fg)(md:Md)(ρ:En)(d:D):TE:=λσ H Q=>∃F,Rel K F H ρ σ/\∀v F' H',zG F H F' H'->Res K md H F' H' d v->Q v H'
structure FP(K:Fg)(md:Md)(X:Cx)(e:Expr)(f:EO D):Prop where
 h:∀ρ d,f ρ=some d->PE X e (rdE K md ρ d)
def PE.imp{X:Cx}{e:Expr}{t t':TE}(h:PE X e t)(w:∀σ H Q,t' σ H Q->t σ H Q):PE X e t':=λp4 s σ H Q I ht=>h p4 s σ H Q I (w σ H Q ht)
def PT.imp{X:Cx}{e:Expr}{t t':TT}(h:PT X e t)(w:∀σ H Q,t' σ H Q->t σ H Q):PT X e t':=λp4 s σ H Q I ht=>h p4 s σ H Q I (w σ H Q ht)
def PW.imp{X:Cx}{e:Expr}{t t':TT}(h:PW X e t)(w:∀σ H Q,t' σ H Q->t σ H Q):PW X e t':=λwh p4 s σ H Q I ht=>h wh p4 s σ H Q I (w σ H Q ht)
def PA.imp{X:Cx}{e:U Expr}{t t':TA}(h:PA X e t)(w:∀σ H Q,t' σ H Q->t σ H Q):PA X e t':=λpos p4 s σ H Q I ht=>h pos p4 s σ H Q I (w σ H Q ht)
def PS.imp{X:Cx}{e:Stmt}{t t':TS}(h:PS X e t)(w:∀D σ H,t' D σ H->t D σ H):PS X e t':=λp4 s σ H D I ht=>h p4 s σ H D I (w D σ H ht)
def PSs.imp{X:Cx}{e:U Stmt}{t t':TS}(h:PSs X e t)(w:∀D σ H,t' D σ H->t D σ H):PSs X e t':=λp4 s σ H D I ht=>h p4 s σ H D I (w D σ H ht)
section
variable{K:Fg}{X:Cx}{e:Expr}{f:EO D}
def Res.fz_of_ow{H F' H' H3:Hp}{d:D}{v:V}{F:Hp}{a:Addr}(g:zG F H F' H')(h:Res K .ow H F' H' d v)(e:v=.ref a)(f:vD H' a H3):∃F2,zG F H F2 H3/\Dat K F2 d v:=by
 subst e;let⟨b,e,h1,h2,h3⟩:=h;cases e
 exact⟨_,g.freeze h1 h2 f,h3.freeze h2 f⟩
def Res.ow_ref{H F' H':Hp}{d:D}{v:V}(h:Res K .ow H F' H' d v):∃a,v=.ref a:=let⟨a,e,_⟩:=h;⟨a,e⟩
def Inv.frzTo{p4:AO}{σ:St}{H:Hp}{s:Shared}(I:Inv X p4 σ H s)(a:Addr):∃H2,vD H a H2/\Inv X p4 σ H2 s:=by
 cases h:zra (H a)with
 |false=>exact⟨H,.inl ⟨rfl,h⟩,I⟩
 |true=>
  cases e:H a with
  |none=>rw[e]at h;cases h
  |some u=>
   rw[e]at h;have ok:=I.hok a u e;have mu:Mut (H a):=by rw[e];cases u<;>first|exact True.intro|cases h
   obtain⟨o,ho⟩:∃o,s.heap.get? a=some o:=by
    cases u<;>first
     |cases h;done
     |(let⟨_,_,_,_,o,_,_,q,_⟩:=ok;exact⟨o,q⟩)
   refine⟨_,.inr ⟨o,u,e,h,rfl⟩,?_⟩
   have:=I.write (o:=.frz o u) (t':=s.toks) mu (.inl rfl) (λb u _ q=>q) ⟨o,ho⟩ ⟨ho,ok.stay (λb u _ q=>q) (λb q=>?_) λb xs q=>?_⟩
   ·exact this
   ·rw[zT λz=>by subst z;rw[e]at q;cases q;cases h];exact q
   ·rw[zT λz=>by subst z;rw[e]at q;cases q;cases h];exact q
def zpD{t:TE}(h:PE X e t):PE X e (λσ H Q=>t σ H λv H'=>∃a,v=.ref a/\∀H2,vD H' a H2->Q v H2):=λp4 s σ H Q I ht=>
 thn (h p4 s σ H _ I ht) λv s1 ⟨x,H1,I1,r1,a,ea,q⟩=>by let⟨H2,f,I2⟩:=Inv.frzTo I1 a;exact⟨x,H2,I2,r1,q H2 f⟩
theorem FP.fz(h:FP K .ow X e f):FP K .fz X e f:=FP.mk λρ d hf=>PE.imp (zpD (h.h ρ d hf)) λσ H Q ⟨F,r,q⟩=>⟨F,r,λv F' H' g hr=>by let⟨a,ea⟩:=hr.ow_ref;refine⟨a,ea,λH2 fz=>?_⟩;let⟨F2,g2,h2⟩:=Res.fz_of_ow g hr ea fz;exact q v F2 H2 g2 h2⟩
theorem FP.br(h:FP K .fz X e f):FP K .br X e f:=FP.mk λρ d hf=>PE.imp (h.h ρ d hf) λσ H Q ⟨F,r,q⟩=>⟨F,r,λv F' H' g hr=>q v F' H' g (Dat.b g.fh hr)⟩
def FP.ob(h:FP K .ow X e f):FP K .br X e f:=h.fz.br
end
noncomputable def gv(i:Nat)(ρ:En):Option D:=match ρ[i]? with
 |some (some (.dat d))=>some d
 |_=>none
noncomputable def gb(i:Nat)(ρ:En):Option D:=match ρ[i]? with
 |some (some (.dat d))=>some d
 |some (some (.ow _ d))=>some d
 |some (some (.bor d))=>some d
 |_=>none
def zrf{i:Nat}{ρ:En}{d:D}(h:gv i ρ=some d):ρ[i]?=some (some (.dat d)):=by unfold gv at h;split at h<;>first|(cases h;assumption)|cases h
def zrg{K:Fg}{F H:Hp}{i:Nat}{ρ:En}{σ:St}{d:D}(r:Rel K F H ρ σ)(h:gb i ρ=some d):∃v,σ[i]?=some (some v)/\zV K F H d v:=by
 unfold gb at h;split at h
 ·rename_i e;cases h
  let⟨v,h1,h2⟩:=r.dat i _ e;exact⟨v,h1,h2.b r.sub⟩
 ·rename_i e;cases h
  let⟨a,h1,h2,h3⟩:=r.own i _ _ e;exact⟨_,h1,h3.b⟩
 ·rename_i e;cases h
  exact r.bor i _ e
 ·cases h
noncomputable def cst(d:D):EO D:=λ_=>some d
section
variable{K:Fg}{X:Cx}
def fv(i:Nat){x:Str}{pos:Pos}(hN:B0 (X.N[i]?=some x))(hv:K0 (Vis X.env.scope x))(hd:C0 (Y0 2))(hcd:C0 (Y0 4)):FP K .fz X (.Name x pos) (gv i):=FP.mk λρ d hf=>
 PE.imp (xQ hN hv hd hcd) λσ H Q ⟨F,r,q⟩=>by let⟨v,h1,h2⟩:=r.dat i d (zrf hf);exact⟨v,h1,q v F H (zG.refl r.sub) h2⟩
def fb(i:Nat){x:Str}{pos:Pos}(hN:B0 (X.N[i]?=some x))(hv:K0 (Vis X.env.scope x))(hd:C0 (Y0 2))(hcd:C0 (Y0 4)):FP K .br X (.Name x pos) (gb i):=FP.mk λρ d hf=>
 PE.imp (xQ hN hv hd hcd) λσ H Q ⟨F,r,q⟩=>by let⟨v,h1,h2⟩:=zrg r hf;exact⟨v,h1,q v F H (zG.refl r.sub) h2⟩
def jG{i j pos}:FP K .fz X (.Constant (.int i) j pos) (cst (.int i)):=FP.mk λρ d hf=>PE.imp zsw λσ H Q ⟨F,r,q⟩=>by cases hf;exact q (.int i) F H (zG.refl r.sub) (Dat.int (K:=K) (F:=F) i)
def fbl{i j pos}:FP K .fz X (.Constant (.bool i) j pos) (cst (.bl i)):=FP.mk λρ d hf=>PE.imp zux λσ H Q ⟨F,r,q⟩=>by cases hf;exact q (.bl i) F H (zG.refl r.sub) (Dat.bl (K:=K) (F:=F) i)
def nZ{j pos}:FP K .fz X (.Constant .none j pos) (cst .non):=FP.mk λρ d hf=>PE.imp zsu λσ H Q ⟨F,r,q⟩=>by cases hf;exact q .non F H (zG.refl r.sub) (Dat.non (K:=K) (F:=F))
def qF{i j pos}:FP K .fz X (.Constant (.str i) j pos) (cst (.str i)):=FP.mk λρ d hf=>PE.imp zsp λσ H Q ⟨F,r,q⟩=>by cases hf;exact q (.str i) F H (zG.refl r.sub) (Dat.str (K:=K) (F:=F) i)
end
def Op2(K:Fg)(X:Cx)(f:Value->Value->Sem Value)(md:Md)(p:D->D->Option D):Prop:=
 ∃r:R2,OpR X f r/\∀x y d F H v u Q,p x y=some d->zJ F H->zV K F H x v->zV K F H y u->(∀w F' H',zG F H F' H'->Res K md H F' H' d w->Q w H')->r v u H Q
def Ix2(K:Fg)(X:Cx)(md:Md)(p:D->D->Option D):Prop:=
 ∃r:R2,IxR X r/\∀x y d F H v u Q,p x y=some d->zJ F H->zV K F H x v->zV K F H y u->(∀w F' H',zG F H F' H'->Res K md H F' H' d w->Q w H')->r v u H Q
noncomputable def c2(p:D->D->Option D)(fa fb:EO D):EO D:=λρ=>(fa ρ).bind λx=>(fb ρ).bind λy=>p x y
noncomputable def c1(p:D->Option D)(fa:EO D):EO D:=λρ=>(fa ρ).bind p
def wC{p:D->D->Option D}{fa fb:EO D}{ρ:En}{d:D}(h:c2 p fa fb ρ=some d):∃x y,fa ρ=some x/\fb ρ=some y/\p x y=some d:=by
 unfold c2 at h;cases e1:fa ρ with
 |none=>rw[e1]at h;cases h
 |some x=>
  cases e2:fb ρ with
  |none=>rw[e1,e2]at h;cases h
  |some y=>rw[e1,e2]at h;exact⟨x,y,rfl,rfl,h⟩
def ziv{p:D->Option D}{fa:EO D}{ρ:En}{d:D}(h:c1 p fa ρ=some d):∃x,fa ρ=some x/\p x=some d:=by
 unfold c1 at h;cases e1:fa ρ with
 |none=>rw[e1]at h;cases h
 |some x=>rw[e1]at h;exact⟨x,rfl,h⟩
section
variable{K:Fg}{X:Cx}{a b:Expr}{fa fb:EO D}{pos:Pos}{md:Md}{p:D->D->Option D}
def two{ta tb:TE}{ρ:En}{x y d:D}{r:R2}(ha:PE X a (rdE K .br ρ x))(hb:PE X b (rdE K .br ρ y))(hr:∀F H v u Q,zJ F H->zV K F H x v->zV K F H y u->(∀w F' H',zG F H F' H'->Res K md H F' H' d w->Q w H')->r v u H Q)(σ:St)(H:Hp)(Q:VK)(h:rdE K md ρ d σ H Q):tOp r (rdE K .br ρ x) (rdE K .br ρ y) σ H Q:=by
 let⟨F,rl,q⟩:=h;refine⟨F,rl,λv F1 H1 g1 r1=>⟨F1,rl.grow g1,λu F2 H2 g2 r2=>?_⟩⟩;refine hr F2 H2 v u Q g2.fh (zV.mono g2.ff g2.hh r1) r2 λw F3 H3 g3 r3=>?_
 have g:=g1.trans (g2.trans g3);refine q w F3 H3 g ?_;cases md with
 |fz=>exact r3
 |br=>exact r3
 |ow=>
  let⟨a,e,h1,h2,h3⟩:=r3;exact⟨a,e,(g1.hh.trans g2.hh).free h1,h2,h3⟩
def fop{op:Operator}(o:Op2 K X (binaryOp op) md p)(ha:FP K .br X a fa)(hb:FP K .br X b fb):FP K md X (.BinOp a op b pos) (c2 p fa fb):=FP.mk λρ d hf=>by let⟨x,y,e1,e2,e3⟩:=wC hf;let⟨r,ho,hr⟩:=o;exact PE.imp (zuv ho (ha.h ρ x e1) (hb.h ρ y e2)) (two (ta:=λ_ _ _=>True) (tb:=λ_ _ _=>True) (ha.h ρ x e1) (hb.h ρ y e2) λF H v u Q s h1 h2 k=>hr x y d F H v u Q e3 s h1 h2 k)
def fcmp{op:CmpOp}(o:Op2 K X (compareOp op) md p)(ha:FP K .br X a fa)(hb:FP K .br X b fb)(hm:behindInMarks op b=false):FP K md X (.Compare a [op] [b] pos) (c2 p fa fb):=FP.mk λρ d hf=>by let⟨x,y,e1,e2,e3⟩:=wC hf;let⟨r,ho,hr⟩:=o;exact PE.imp (zlN ho (ha.h ρ x e1) (hb.h ρ y e2) hm) (two (ta:=λ_ _ _=>True) (tb:=λ_ _ _=>True) (ha.h ρ x e1) (hb.h ρ y e2) λF H v u Q s h1 h2 k=>hr x y d F H v u Q e3 s h1 h2 k)
def fix(o:Ix2 K X md p)(ha:FP K .br X a fa)(hb:FP K .br X b fb)(hs:zgr b):FP K md X (.Subscript a b pos) (c2 p fa fb):=FP.mk λρ d hf=>by let⟨x,y,e1,e2,e3⟩:=wC hf;let⟨r,ho,hr⟩:=o;exact PE.imp (zuw ho (ha.h ρ x e1) (hb.h ρ y e2) hs) (two (ta:=λ_ _ _=>True) (tb:=λ_ _ _=>True) (ha.h ρ x e1) (hb.h ρ y e2) λF H v u Q s h1 h2 k=>hr x y d F H v u Q e3 s h1 h2 k)
end
mutual
noncomputable def eqD:D->D->Option Bool
 | .non,y=>match y with
  | .non=>some true
  | .bl _=>some false
  | .int _=>some false
  | .str _=>some false
  | .tup _=>some false
  | .lst _=>some false
  |_=>none
 | .bl a,y=>match y with
  | .bl b=>some (a==b)
  | .non=>some false
  |_=>none
 | .int a,y=>match y with
  | .int b=>some (a==b)
  | .non=>some false
  | .str _=>some false
  | .tup _=>some false
  |_=>none
 | .str a,y=>match y with
  | .str b=>some (a==b)
  | .non=>some false
  | .int _=>some false
  | .tup _=>some false
  | .lst _=>some false
  |_=>none
 | .tup l,y=>match y with
  | .tup m=>eqL l m
  | .non=>some false
  | .int _=>some false
  | .str _=>some false
  | .lst _=>some false
  |_=>none
 | .lst l,y=>match y with
  | .lst m=>eqL l m
  | .non=>some false
  | .str _=>some false
  | .tup _=>some false
  |_=>none
 | .scr _,_=>none
 | .dic _ _,_=>none
 | .set _,_=>none
 | .exc _ _,_=>none
noncomputable def eqL:U D->U D->Option Bool
 |[],[]=>some true
 |a::l,b::m=>(eqD a b).bind λx=>(eqL l m).map λy=>x&&y
 |[],_::_=>some false
 |_::_,[]=>some false
end
mutual
def dep:D->Nat
 | .tup l=>jY l+1
 | .lst l=>jY l+1
 |_=>1
def jY:U D->Nat
 |[]=>0
 |a::l=>max (dep a) (jY l)
end
theorem zcM:∀{l:U D}{d:D},d∈l->dep d<=jY l
 |_::_,_,h=>by
  rcases JJ.mp h with rfl|h
  ·rw[jY];exact Nat.le_max_left _ _
  ·exact Jp (zcM h) (Nat.le_max_right _ _)
def eAt(l m:U D)(j:Nat):Bool:=match l[j]?,m[j]? with
 |some a,some b=>(eqD a b).getD false
 |_,_=>false
theorem zcm:∀{l m:U D}{b:Bool},eqL l m=some b->
  (∀(j:Nat) (x y:D),l[j]?=some x->m[j]?=some y->eqD x y=some (eAt l m j))/\b=((List.range (min l.length m.length)).all (eAt l m)&&l.length==m.length)
 |[],[],b,h=>by simp[eqL]at h;subst h;simp
 |[],_::_,b,h=>by simp[eqL]at h;subst h;simp
 |_::_,[],b,h=>by simp[eqL]at h;subst h;simp
 |a::l,c::m,b,h=>by
  simp only[eqL]at h;cases e1:eqD a c with
  |none=>rw[e1]at h;cases h
  |some x=>
   cases e2:eqL l m with
   |none=>rw[e1,e2]at h;cases h
   |some y=>
    rw[e1,e2]at h;have hb:(x&&y)=b:=by simpa using h
    let⟨h1,h2⟩:=zcm e2;have s0:eAt (a::l) (c::m) 0=x:=by simp[eAt,e1]
    have sS:∀j,eAt (a::l) (c::m) (j+1)=eAt l m j:=λj=>by simp[eAt]
    refine⟨λj p q hp hq=>?_,?_⟩
    ·cases j with
     |zero=>simp at hp hq;subst hp hq;rw[s0];exact e1
     |succ j=>rw[sS];exact h1 j p q (by simpa using hp) (by simpa using hq)
    ·rw[←hb,h2];simp only[List.length_cons];rw[Nat.succ_min_succ,List.range_succ_eq_map,List.all_cons,List.all_map,s0];have e3:(List.range (min l.length m.length)).all (eAt (a::l) (c::m)∘Nat.succ)=(List.range (min l.length m.length)).all (eAt l m):=by congr 1
     rw[e3,Bool.and_assoc]
     congr 2
     simp
section
variable{K:Fg}{F:Hp}
noncomputable def comp:D->Bool
 | .tup _=>true
 | .lst _=>true
 | .scr _=>true
 | .dic _ _=>true
 | .set _=>true
 |_=>false
theorem Dat.ref{d:D}{v:V}(h:Dat K F d v)(hc:comp d=true):∃a,v=.ref a:=by
 cases d with
 |tup l=>let⟨a,_,e,_⟩:=h.tup_inv;exact⟨a,e⟩
 |lst l=>let⟨a,_,e,_⟩:=h.lst_inv;exact⟨a,e⟩
 |scr l=>grind [scr_inv]
 |dic k l=>let⟨a,_,e,_⟩:=h.dic_inv;exact⟨a,e⟩
 |set l=>grind [set_inv]
 |_=>cases hc
def ztz:∀(n:Nat) (d1 d2 dx:D) (b1 b2:Bool) (v:V),dep d1<=n->Dat K F d1 v->Dat K F d2 v->eqD d1 dx=some b1->eqD d2 dx=some b2->b1=b2:=by
 intro n;induction n with
 |zero=>intro d1 d2 dx b1 b2 v h;cases d1<;>simp[dep]at h
 |succ n ih=>
  have L:∀(l1 l2 lx:U D) (b1 b2:Bool) (vs:U V),jY l1<=n->zD K F l1 vs->zD K F l2 vs->eqL l1 lx=some b1->eqL l2 lx=some b2->b1=b2:=by
   intro l1;induction l1 with
   |nil=>
    intro l2 lx b1 b2 vs _ h1 h2 e1 e2;rw[h1.nil_inv]at h2;cases l2 with
    |nil=>simp_all
    |cons _ _=>grind [zD.cons_inv]
   |cons a l1 ih2=>
    intro l2 lx b1 b2 vs hn h1 h2 e1 e2;let⟨v,r,rfl,q1,q2⟩:=h1.cons_inv;cases l2 with
    |nil=>have:=h2.nil_inv;cases this
    |cons c l2=>
     let⟨v',r',ee,p1,p2⟩:=h2.cons_inv;cases ee
     cases lx with
     |nil=>simp[eqL]at e1 e2;rw[e1,e2]
     |cons x lx=>
      simp only[eqL]at e1 e2;simp only[jY]at hn;cases f1:eqD a x with
      |none=>simp_all
      |some y1=>
       cases f2:eqD c x with
       |none=>simp_all
       |some y2=>
        cases g1:eqL l1 lx with
        |none=>simp_all
        |some z1=>
         cases g2:eqL l2 lx with
         |none=>simp_all
         |some z2=>
          rw[f1,g1]at e1;rw[f2,g2]at e2;have k1:=ih a c x y1 y2 v (by exact Jp (Nat.le_max_left _ _) ‹_›) q1 p1 f1 f2;have k2:=ih2 l2 lx z1 z2 r (by exact Jp (Nat.le_max_right _ _) ‹_›) q2 p2 g1 g2;subst k1 k2;rw[e1]at e2;exact Option.some.inj e2
  intro d1 d2 dx b1 b2 v hn h1 h2 e1 e2;cases d1 with
  |non=>rw[h1.non_inv]at h2;cases d2<;>first|(let⟨_,_,_,_,z,_⟩:=Dat.exc_inv h2;trivial)|(let⟨_,z⟩:=Dat.ref h2 rfl;cases z;done)|(simp only[Dat]at h2;cases h2;done)|grind|(rw[e1]at e2;exact Option.some.inj e2)
  |bl b=>rw[h1.bl_inv]at h2;cases d2<;>first|(let⟨_,_,_,_,z,_⟩:=Dat.exc_inv h2;trivial)|(let⟨_,z⟩:=Dat.ref h2 rfl;cases z;done)|(simp only[Dat]at h2;cases h2;done)|simp_all[Dat]|(rw[e1]at e2;exact Option.some.inj e2)
  |int b=>rw[h1.int_inv]at h2;cases d2<;>first|(let⟨_,_,_,_,z,_⟩:=Dat.exc_inv h2;trivial)|(let⟨_,z⟩:=Dat.ref h2 rfl;cases z;done)|(simp only[Dat]at h2;cases h2;done)|simp_all[Dat]|(rw[e1]at e2;exact Option.some.inj e2)
  |str b=>rw[h1.str_inv]at h2;cases d2<;>first|(let⟨_,_,_,_,z,_⟩:=Dat.exc_inv h2;trivial)|(let⟨_,z⟩:=Dat.ref h2 rfl;cases z;done)|(simp only[Dat]at h2;cases h2;done)|simp_all[Dat]|(rw[e1]at e2;exact Option.some.inj e2)
  |tup l1=>
   let⟨a,vs,rfl,f1,q1⟩:=h1.tup_inv;cases d2 with
   |tup l2=>
    let⟨a',vs',z,f2,q2⟩:=h2.tup_inv;cases z
    rw[f1]at f2;cases f2
    simp only[dep]at hn;cases dx<;>first|(simp only[eqD]at e1 e2;exact L l1 l2 _ b1 b2 vs (by simp_all) q1 q2 e1 e2)|(simp only[eqD]at e1 e2;cases e1;cases e2;rfl)|(simp only[eqD]at e1;cases e1)
   |lst l2=>grind [Dat.lst_inv]
   |scr l2=>simp[eqD]at e2
   |dic k l2=>simp[eqD]at e2
   |set l2=>simp[eqD]at e2
   |exc c d=>simp[eqD]at e2
   |_=>simp only[Dat]at h2;cases h2
  |lst l1=>
   let⟨a,vs,rfl,f1,q1⟩:=h1.lst_inv;cases d2 with
   |lst l2=>
    let⟨a',vs',z,f2,q2⟩:=h2.lst_inv;cases z
    rw[f1]at f2;cases f2
    simp only[dep]at hn;cases dx<;>first|(simp only[eqD]at e1 e2;exact L l1 l2 _ b1 b2 vs (by simp_all) q1 q2 e1 e2)|(simp only[eqD]at e1 e2;cases e1;cases e2;rfl)|(simp only[eqD]at e1;cases e1)
   |tup l2=>grind [Dat.tup_inv]
   |scr l2=>simp[eqD]at e2
   |dic k l2=>simp[eqD]at e2
   |set l2=>simp[eqD]at e2
   |exc c d=>simp[eqD]at e2
   |_=>simp only[Dat]at h2;cases h2
  |scr l=>simp[eqD]at e1
  |dic k l=>simp[eqD]at e1
  |set l=>simp[eqD]at e1
  |exc c d=>simp[eqD]at e1
end
section
variable{X:Cx}{p4:AO}{σ:St}{H F:Hp}{s:Shared}{K:Fg}
def zgC{d1 d2:D}{b:Bool}{v:V}(h1:Dat K F d1 v)(h2:Dat K F d2 v)(e:eqD d1 d2=some b):b=true:=by
 have key:∀(n:Nat) (d1 d2:D) (b:Bool) (v:V),dep d1<=n->Dat K F d1 v->Dat K F d2 v->eqD d1 d2=some b->b=true:=by
  intro n;induction n with
  |zero=>intro d1 d2 b v h;cases d1<;>simp[dep]at h
  |succ n ih=>
   have L:∀(l1 l2:U D) (b:Bool) (vs:U V),jY l1<=n->zD K F l1 vs->zD K F l2 vs->eqL l1 l2=some b->b=true:=by
    intro l1;induction l1 with
    |nil=>
     intro l2 b vs _ h1 h2 e;rw[h1.nil_inv]at h2;cases l2 with
     |nil=>simp[eqL]at e;exact e
     |cons _ _=>grind [zD.cons_inv]
    |cons a l1 ih2=>
     intro l2 b vs hn h1 h2 e;let⟨v,r,rfl,q1,q2⟩:=h1.cons_inv;cases l2 with
     |nil=>have:=h2.nil_inv;cases this
     |cons c l2=>
      let⟨v',r',ee,p1,p2⟩:=h2.cons_inv;cases ee
      simp only[eqL]at e;simp only[jY]at hn;cases f1:eqD a c with
      |none=>simp_all
      |some y1=>
       cases g1:eqL l1 l2 with
       |none=>simp_all
       |some z1=>
        grind
   intro d1 d2 b v hn h1 h2 e;cases d1 with
   |tup l1=>
    let⟨a,vs,rfl,f1,q1⟩:=h1.tup_inv;cases d2 with
    |tup l2=>
     let⟨a',vs',z,f2,q2⟩:=h2.tup_inv;cases z
     rw[f1]at f2;cases f2
     simp only[dep]at hn;simp only[eqD]at e;exact L l1 l2 b vs (by simp_all) q1 q2 e
    |lst l2=>grind [Dat.lst_inv]
    |non=>have:=h2.non_inv;cases this
    |int _=>have:=h2.int_inv;cases this
    |str _=>have:=h2.str_inv;cases this
    |_=>simp[eqD]at e
   |lst l1=>
    let⟨a,vs,rfl,f1,q1⟩:=h1.lst_inv;cases d2 with
    |lst l2=>
     let⟨a',vs',z,f2,q2⟩:=h2.lst_inv;cases z
     rw[f1]at f2;cases f2
     simp only[dep]at hn;simp only[eqD]at e;exact L l1 l2 b vs (by simp_all) q1 q2 e
    |tup l2=>grind [Dat.tup_inv]
    |non=>have:=h2.non_inv;cases this
    |int _=>have:=h2.int_inv;cases this
    |str _=>have:=h2.str_inv;cases this
    |_=>simp[eqD]at e
   |non=>
    have z:=h1.non_inv;subst z;cases d2<;>first|(let⟨_,_,_,_,z,_⟩:=Dat.exc_inv h2;trivial)|(simp[eqD]at e;exact e)|(let⟨_,z⟩:=Dat.ref h2 rfl;cases z;done)|(simp only[Dat]at h2;cases h2;done)
   |bl x=>
    have z:=h1.bl_inv;subst z;cases d2 with
    |bl y=>have z:=h2.bl_inv;simp_all[eqD]
    |non=>grind [Dat.non_inv]
    |_=>simp[eqD]at e
   |int x=>
    have z:=h1.int_inv;subst z;cases d2 with
    |int y=>have z:=h2.int_inv;simp_all[eqD]
    |non=>have z:=h2.non_inv;cases z
    |str _=>have z:=h2.str_inv;cases z
    |tup _=>let⟨_,z⟩:=Dat.ref h2 rfl;cases z
    |_=>simp[eqD]at e
   |str x=>
    have z:=h1.str_inv;subst z;cases d2 with
    |str y=>have z:=h2.str_inv;simp_all[eqD]
    |non=>have z:=h2.non_inv;cases z
    |int _=>have z:=h2.int_inv;cases z
    |tup _=>let⟨_,z⟩:=Dat.ref h2 rfl;cases z
    |lst _=>let⟨_,z⟩:=Dat.ref h2 rfl;cases z
    |_=>simp[eqD]at e
   |_=>simp[eqD]at e
 exact key _ d1 d2 b v (Jf _) h1 h2 e
def Inv.tupAt(I:Inv X p4 σ H s){a:Addr}{vs:U V}(h:H a=some (.tup vs)):∃p6:U Value,zN vs p6/\s.heap.IsTuple a p6.toArray:=by let⟨p6,r,p,_⟩:=I.tuple (SqT.of h);exact⟨p6,r,p⟩
def Inv.lstAt(I:Inv X p4 σ H s){a:Addr}{vs:U V}(h:H a=some (.lst vs)):∃p6:U Value,zN vs p6/\s.heap.IsList a p6.toArray:=by let⟨p6,r,p,_⟩:=I.list (SqL.of h);exact⟨p6,r,p.isList⟩
def gL{l:U D}{vs:U V}{p6:U Value}(h:zD K F l vs)(r:zN vs p6){j:Nat}(hj:j<p6.toArray.size):∃d v,l[j]?=some d/\vs[j]?=some v/\Dat K F d v/\zR v p6.toArray[j]:=by
 have hl:=r.length;have hj':j<vs.length:=by rw[hl];simpa using hj
 let⟨u,hu,ru⟩:=r.get (List.getElem?_eq_getElem hj');let⟨d,hd,hD⟩:=h.get' (List.getElem?_eq_getElem hj');refine⟨d,vs[j],hd,List.getElem?_eq_getElem hj',hD,?_⟩;have e:p6.toArray[j]=u:=by have:p6[j]?=some u:=hu;rw[List.getElem?_eq_getElem (by simpa using hj)]at this;simpa using Option.some.inj this
 rw[e];exact ru
theorem zmN(I:Inv X p4 σ H s)(sub:zJ F H):∀(n:Nat) (d1 d2:D) (b:Bool) (v1 v2:V) (u1 u2:Value) (A:Around),dep d1<=n->eqD d1 d2=some b->Dat K F d1 v1->Dat K F d2 v2->zR v1 u1->zR v2 u2->A.units+n<cLine->SeqAt.EqAt A s u1 u2 b:=by
 intro n;induction n with
 |zero=>intro d1 d2 b v1 v2 u1 u2 A h;cases d1<;>simp[dep]at h
 |succ n ih=>
  intro d1 d2 b v1 v2 u1 u2 A hn e h1 h2 r1 r2 hu;have hu0:A.units<cLine:=by exact Qm (Wc _ _) ‹_›
  have hin:A.in1.units+n<cLine:=by grind
  cases d1 with
  |non=>
   rw[h1.non_inv]at r1;cases r1
   cases d2 with
   |non=>simp[eqD]at e;subst e;rw[h2.non_inv]at r2;cases r2;exact SeqAt.EqAt.same _
   |bl x=>simp[eqD]at e;subst e;rw[h2.bl_inv]at r2;cases r2;exact SeqAt.EqAt.none_bool x
   |int x=>simp[eqD]at e;subst e;rw[h2.int_inv]at r2;let⟨t,rfl⟩:=r2;exact SeqAt.EqAt.none_int x t
   |str x=>simp[eqD]at e;subst e;rw[h2.str_inv]at r2;let⟨t,rfl⟩:=r2;exact SeqAt.EqAt.none_str x t
   |tup l=>simp[eqD]at e;subst e;let⟨a,vs,rfl,f,_⟩:=h2.tup_inv;cases r2;let⟨p6,_,p⟩:=Inv.tupAt I (sub _ _ f);exact SeqAt.EqAt.none_tuple p hu0
   |lst l=>simp[eqD]at e;subst e;let⟨a,vs,rfl,f,_⟩:=h2.lst_inv;cases r2;let⟨p6,_,p⟩:=Inv.lstAt I (sub _ _ f);exact SeqAt.EqAt.none_list p hu0
   |_=>simp[eqD]at e
  |bl y=>
   rw[h1.bl_inv]at r1;cases r1
   cases d2 with
   |non=>simp[eqD]at e;subst e;rw[h2.non_inv]at r2;cases r2;exact SeqAt.EqAt.bool_none y
   |bl x=>simp only[eqD,Option.some.injEq]at e;subst e;rw[h2.bl_inv]at r2;cases r2;exact SeqAt.EqAt.bool_bool y x
   |_=>simp[eqD]at e
  |int y=>
   rw[h1.int_inv]at r1;let⟨t',rfl⟩:=r1;cases d2 with
   |non=>simp[eqD]at e;subst e;rw[h2.non_inv]at r2;cases r2;exact SeqAt.EqAt.int_none y t'
   |int x=>simp only[eqD,Option.some.injEq]at e;subst e;rw[h2.int_inv]at r2;let⟨t,rfl⟩:=r2;exact SeqAt.EqAt.int_int y t' x t
   |str x=>simp[eqD]at e;subst e;rw[h2.str_inv]at r2;let⟨t,rfl⟩:=r2;exact SeqAt.EqAt.int_str y t' x t
   |tup l=>simp[eqD]at e;subst e;let⟨a,vs,rfl,f,_⟩:=h2.tup_inv;cases r2;let⟨p6,_,p⟩:=Inv.tupAt I (sub _ _ f);exact SeqAt.EqAt.int_tuple y t' p hu0
   |_=>simp[eqD]at e
  |str y=>
   rw[h1.str_inv]at r1;let⟨t',rfl⟩:=r1;cases d2 with
   |non=>simp[eqD]at e;subst e;rw[h2.non_inv]at r2;cases r2;exact SeqAt.EqAt.str_none y t'
   |int x=>simp[eqD]at e;subst e;rw[h2.int_inv]at r2;let⟨t,rfl⟩:=r2;exact SeqAt.EqAt.str_int y t' x t
   |str x=>simp only[eqD,Option.some.injEq]at e;subst e;rw[h2.str_inv]at r2;let⟨t,rfl⟩:=r2;exact SeqAt.EqAt.str_str y t' x t
   |tup l=>simp[eqD]at e;subst e;let⟨a,vs,rfl,f,_⟩:=h2.tup_inv;cases r2;let⟨p6,_,p⟩:=Inv.tupAt I (sub _ _ f);exact SeqAt.EqAt.str_tuple y t' p hu0
   |lst l=>simp[eqD]at e;subst e;let⟨a,vs,rfl,f,_⟩:=h2.lst_inv;cases r2;let⟨p6,_,p⟩:=Inv.lstAt I (sub _ _ f);exact SeqAt.EqAt.str_list y t' p hu0
   |_=>simp[eqD]at e
  |tup l1=>
   let⟨a,vs,rfl,f1,q1⟩:=id h1.tup_inv;cases r1
   let⟨p6,rv,p⟩:=Inv.tupAt I (sub _ _ f1);cases d2 with
   |non=>simp[eqD]at e;subst e;rw[h2.non_inv]at r2;cases r2;exact SeqAt.EqAt.tuple_none p hu0
   |int x=>simp[eqD]at e;subst e;rw[h2.int_inv]at r2;let⟨t,rfl⟩:=r2;exact SeqAt.EqAt.tuple_int x t p hu0
   |str x=>simp[eqD]at e;subst e;rw[h2.str_inv]at r2;let⟨t,rfl⟩:=r2;exact SeqAt.EqAt.tuple_str x t p hu0
   |tup l2=>
    let⟨a2,vs2,rfl,f2,q2⟩:=id h2.tup_inv;cases r2
    by_cases ha:a=a2
    ·subst ha;rw[zgC h1 h2 e];exact SeqAt.EqAt.same _
    let⟨its2,rv2,p2⟩:=Inv.tupAt I (sub _ _ f2);simp only[eqD]at e;let⟨hp,hb⟩:=zcm e;simp only[dep]at hn;have he:∀(j:Nat) (h1:j<p6.toArray.size) (h2:j<its2.toArray.size),SeqAt.EqAt A.in1 s p6.toArray[j] its2.toArray[j] (eAt l1 l2 j):=λj k1 k2=>by
     let⟨x,v,hx,_,dx,rx⟩:=gL q1 rv k1;let⟨y,w,hy,_,dy,ry⟩:=gL q2 rv2 k2
     have:=zcM (List.mem_of_getElem? hx);exact ih x y _ v w _ _ A.in1 (by lia) (hp j x y hx hy) dx dy rx ry hin
    have z:=SeqAt.RcAt.tuples p p2 hu0 he;have e1:p6.toArray.size=l1.length:=by rw[Jm,←rv.length,q1.length]
    have e2:its2.toArray.size=l2.length:=by rw[Jm,←rv2.length,q2.length]
    rw[e1,e2]at z;rw[hb];exact SeqAt.EqAt.of_refs ha z
   |lst l2=>simp[eqD]at e;subst e;let⟨a2,vs2,rfl,f2,_⟩:=h2.lst_inv;cases r2;let⟨its2,_,p2⟩:=Inv.lstAt I (sub _ _ f2);exact SeqAt.EqAt.tuple_list p p2 hu0
   |_=>simp[eqD]at e
  |lst l1=>
   let⟨a,vs,rfl,f1,q1⟩:=id h1.lst_inv;cases r1
   let⟨p6,rv,p⟩:=Inv.lstAt I (sub _ _ f1);cases d2 with
   |non=>simp[eqD]at e;subst e;rw[h2.non_inv]at r2;cases r2;exact SeqAt.EqAt.list_none p hu0
   |str x=>simp[eqD]at e;subst e;rw[h2.str_inv]at r2;let⟨t,rfl⟩:=r2;exact SeqAt.EqAt.list_str x t p hu0
   |tup l2=>simp[eqD]at e;subst e;let⟨a2,vs2,rfl,f2,_⟩:=h2.tup_inv;cases r2;let⟨its2,_,p2⟩:=Inv.tupAt I (sub _ _ f2);exact SeqAt.EqAt.list_tuple p p2 hu0
   |lst l2=>
    let⟨a2,vs2,rfl,f2,q2⟩:=id h2.lst_inv;cases r2
    by_cases ha:a=a2
    ·subst ha;rw[zgC h1 h2 e];exact SeqAt.EqAt.same _
    let⟨its2,rv2,p2⟩:=Inv.lstAt I (sub _ _ f2);simp only[eqD]at e;let⟨hp,hb⟩:=zcm e;simp only[dep]at hn;have he:∀(j:Nat) (h1:j<p6.toArray.size) (h2:j<its2.toArray.size),SeqAt.EqAt A.in1 s p6.toArray[j] its2.toArray[j] (eAt l1 l2 j):=λj k1 k2=>by
     let⟨x,v,hx,_,dx,rx⟩:=gL q1 rv k1;let⟨y,w,hy,_,dy,ry⟩:=gL q2 rv2 k2
     have:=zcM (List.mem_of_getElem? hx);exact ih x y _ v w _ _ A.in1 (by lia) (hp j x y hx hy) dx dy rx ry hin
    have e1:p6.toArray.size=l1.length:=by rw[Jm,←rv.length,q1.length]
    have e2:its2.toArray.size=l2.length:=by rw[Jm,←rv2.length,q2.length]
    by_cases hsz:l1.length=l2.length
    ·have z:=SeqAt.RcAt.lists p p2 (by rw[e1,e2,hsz]) hu0 he;rw[e1]at z;rw[hb,hsz,Nat.min_self,beq_self_eq_true,Bool.and_true,←hsz];exact SeqAt.EqAt.of_refs ha z
    grind [SeqAt.RcAt.lists_lengths,SeqAt.EqAt.of_refs]
   |_=>simp[eqD]at e
  |_=>simp[eqD]at e
end
abbrev lim:Nat:=1000000
def vM{n:Nat}(h:n<=lim):n<=sizeLine:=by grind [sizeLine_eq]
def wM{n:Nat}(h:n<=lim):n<sizeLine:=by grind [sizeLine_eq]
section
variable{K:Fg}{F H F' H':Hp}{v:V}
theorem zV.non_inv(h:zV K F H .non v):v=.non:=Dat.non_inv (K:=K) (F:=F) h
theorem zV.bl_inv{i:Bool}(h:zV K F H (.bl i) v):v=.bl i:=Dat.bl_inv (K:=K) (F:=F) h
theorem zV.int_inv{i:Int}(h:zV K F H (.int i) v):v=.int i:=Dat.int_inv (K:=K) (F:=F) h
theorem zV.str_inv{i:Str}(h:zV K F H (.str i) v):v=.str i:=Dat.str_inv (K:=K) (F:=F) h
theorem zV.tup_inv{l:U D}(h:zV K F H (.tup l) v):∃a vs,v=.ref a/\F a=some (.tup vs)/\zD K F l vs:=Dat.tup_inv (K:=K) (F:=F) h
theorem zV.scr_inv{l:U Int}(h:zV K F H (.scr l) v):∃a,v=.ref a/\SqL K F a (l.map V.int):=Dat.scr_inv (K:=K) (F:=F) h
theorem zV.lst_inv{l:U D}(h:zV K F H (.lst l) v):∃a vs,v=.ref a/\H a=some (.lst vs)/\zD K F l vs:=h
def zV.dic_inv{ks:U KD}{l:U D}(h:zV K F H (.dic ks l) v):∃a vs,v=.ref a/\DicB F H a ks vs/\zD K F l vs:=h
theorem zV.exc_inv{c:Str}{d:D}(h:zV K F H (.exc c d) v):∃a C da u,v=.ref a/\F a=some (ExcO a C da)/\PySem.W.nsIn K mainGlobals c=some (some (.ref C))/\F da=some (.xd [(zoP c,u)])/\Dat K F d u:=Dat.exc_inv (K:=K) (F:=F) (c:=c) (d:=d) (v:=v) h
theorem Res.bl(b:Bool):Res K .fz H F' H' (.bl b) (.bl b):=Dat.bl (K:=K) (F:=F') b
theorem Res.int(b:Int):Res K .fz H F' H' (.int b) (.int b):=Dat.int (K:=K) (F:=F') b
theorem Res.str(b:Str):Res K .fz H F' H' (.str b) (.str b):=Dat.str (K:=K) (F:=F') b
end
noncomputable def zW:D->D->Option D
 | .int a,.int b=>some (.int (a+b))
 | .str a,.str b=>if a.length+b.length<=lim then some (.str (a++b))else none
 | .tup a,.tup b=>if a.length+b.length<=lim then some (.tup (a++b))else none
 | .lst a,.lst b=>if a.length+b.length<=lim then some (.lst (a++b))else none
 |_,_=>none
noncomputable def catD:D->D->Option D
 | .lst a,.lst b=>if a.length+b.length<=lim then some (.lst (a++b))else none
 |_,_=>none
noncomputable def gF:D->D->Option D
 | .int a,.int b=>some (.int (a - b))
 |_,_=>none
def nQ(a b:Int):Prop:=((-(2^64)<a/\a<2^64)\/(-(2^64)<b/\b<2^64))\/(Builtin.Int.intBits a<=2^20/\Builtin.Int.intBits b<=2^20)
def zot(b:Int):Prop:=0<b/\b<1073741824
def zhS(b:Int):Prop:=0<b
def zsK(a b:Int):Prop:=0<=b/\b<=1000000/\a.natAbs<2^64
def zfO{a b:Int}(h1:-18446744073709551616<b)(h2:b<18446744073709551616):nQ a b:=.inl (.inr ⟨h1,h2⟩)
def zca{b:Int}(h1:0<b)(h2:b<1073741824):zot b:=⟨h1,h2⟩
def zfP{b:Int}(h1:0<b):zhS b:=h1
def zfN{a b:Int}(h1:0<=b)(h2:b<=1000000)(h3:a.natAbs<18446744073709551616):zsK a b:=⟨h1,h2,h3⟩
open Classical in
noncomputable def wL:D->D->Option D
 | .int a,.int b=>if nQ a b then some (.int (a*b))else none
 |_,_=>none
open Classical in
noncomputable def xD:D->D->Option D
 | .int a,.int b=>if zot b then some (.int (a/b))else none
 |_,_=>none
open Classical in
noncomputable def yM:D->D->Option D
 | .int a,.int b=>if zhS b then some (.int (a%b))else none
 |_,_=>none
open Classical in
noncomputable def powD:D->D->Option D
 | .int a,.int b=>if zsK a b then some (.int (a^b.toNat))else none
 |_,_=>none
section
variable{K:Fg}{X:Cx}
def kF{α:Type}{c:Prop}{_:Decidable c}{x y:α}(h:(if c then some x else none)=some y):c/\x=y:=by simp_all
def jL(hK:B0 (X.K=K)):Op2 K X (binaryOp .Add) .fz zW:=by
 subst hK;refine⟨_,zsI.or (zka.or (zqM.or zpF)),λx y d F H v u Q e s h1 h2 k=>?_⟩;unfold zW at e;split at e
 ·cases e
  refine .inl ⟨_,_,h1.int_inv,h2.int_inv,k _ F H (zG.refl s) (Res.int _)⟩
 ·let⟨hz,rfl⟩:=kF e;exact .inr (.inl ⟨_,_,h1.str_inv,h2.str_inv,vM hz,k _ F H (zG.refl s) (Res.str _)⟩)
 ·let⟨hz,rfl⟩:=kF e;let⟨a,xs,rfl,f1,q1⟩:=h1.tup_inv;let⟨b,ys,rfl,f2,q2⟩:=h2.tup_inv;refine .inr (.inr (.inl ⟨a,b,xs,ys,rfl,rfl,SqT.of (s _ _ f1),SqT.of (s _ _ f2),by rw[q1.length,q2.length];exact vM hz,λz=>?_,λ_ z=>?_,λ_ _ p hp=>?_⟩))
  ·subst z;refine k _ F H (zG.refl s) ?_
   have:=QL (by rw[←q1.length];rfl);rw[this];exact h2
  ·subst z;refine k _ F H (zG.refl s) ?_
   have:=QL (by rw[←q2.length];rfl);rw[this,JL];exact h1
  ·have g:=zG.frozen (o:=.tup (xs++ys)) s hp;exact k _ _ _ g (Dat.tup qG ((q1.mono g.ff).append (q2.mono g.ff)))
 ·let⟨hz,rfl⟩:=kF e;let⟨a,xs,rfl,f1,q1⟩:=h1;let⟨b,ys,rfl,f2,q2⟩:=h2;refine .inr (.inr (.inr ⟨a,b,xs,ys,rfl,rfl,f1,f2,by rw[q1.length,q2.length];exact vM hz,λp hp=>?_⟩));have g:=zG.frozen (o:=.lst (xs++ys)) s hp;exact k _ _ _ g (Dat.lst qG ((q1.mono g.ff).append (q2.mono g.ff)))
 ·cases e
def zuy(hK:B0 (X.K=K)):Op2 K X (binaryOp .Add) .ow catD:=by
 refine⟨_,zpF,λx y d F H v u Q e s h1 h2 k=>?_⟩;unfold catD at e;split at e
 ·let⟨hz,rfl⟩:=kF e;let⟨a,xs,rfl,f1,q1⟩:=h1;let⟨b,ys,rfl,f2,q2⟩:=h2;refine⟨a,b,xs,ys,rfl,rfl,f1,f2,by rw[q1.length,q2.length];exact vM hz,λp hp=>?_⟩;exact k _ _ _ (zG.fresh s hp) ⟨p,rfl,hp,s.free hp,xs++ys,qG,q1.append q2⟩
 ·cases e
def zop{f:Value->Value->Sem Value}{C:Int->Int->Prop}{g:Int->Int->Int}{p:D->D->Option D}(o:OpR X f (rI C λi j=>.int (g i j)))(h:∀x y d,p x y=some d->∃i j,x=.int i/\y=.int j/\C i j/\d=.int (g i j)):Op2 K X f .fz p:=by refine⟨_,o,λx y d F H v u Q e s h1 h2 k=>?_⟩;let⟨i,j,rfl,rfl,c,rfl⟩:=h x y d e;exact⟨i,j,h1.int_inv,h2.int_inv,c,k _ F H (zG.refl s) (Res.int _)⟩
def zon:Op2 K X (binaryOp .Sub) .fz gF:=by
 refine⟨_,zsA,λx y d F H v u Q e s h1 h2 k=>?_⟩;unfold gF at e;split at e
 ·cases e
  exact⟨_,_,h1.int_inv,h2.int_inv,k _ F H (zG.refl s) (Res.int _)⟩
 ·cases e
def zqJ:OpR X (binaryOp .Mult) (rI nQ λi j=>.int (i*j)):=opI λ_ _ _ _ _ _ _ hc q=>mul_int q (hc.elim (λh=>CMul.ok h) λh=>IntMulOk.of_bits h.1 h.2)
def zlQ:Op2 K X (binaryOp .Mult) .fz wL:=zop zqJ λx y d e=>by
 unfold wL at e;split at e
 ·let⟨hz,rfl⟩:=kF e;exact⟨_,_,rfl,rfl,hz,rfl⟩
 ·cases e
def vK:Op2 K X (binaryOp .FloorDiv) .fz xD:=zop zqK λx y d e=>by
 unfold xD at e;split at e
 ·let⟨hz,rfl⟩:=kF e;exact⟨_,_,rfl,rfl,hz,rfl⟩
 ·cases e
def xR:Op2 K X (binaryOp .Mod) .fz yM:=zop zsD λx y d e=>by
 unfold yM at e;split at e
 ·let⟨hz,rfl⟩:=kF e;exact⟨_,_,rfl,rfl,hz,rfl⟩
 ·cases e
def zsy:Op2 K X (binaryOp .Pow) .fz powD:=zop zsB λx y d e=>by
 unfold powD at e;split at e
 ·let⟨hz,rfl⟩:=kF e;exact⟨_,_,rfl,rfl,hz,rfl⟩
 ·cases e
end
section
variable{X:Cx}{p4:AO}{σ:St}{H F:Hp}{s:Shared}{K:Fg}
def zqc(I:Inv X p4 σ H s)(sub:zJ F H)(d1 d2:D)(b:Bool)(v1 v2:V)(u1 u2:Value)(n:Nat)(hn:dep d1<=n)(e:eqD d1 d2=some b)(h1:zV K F H d1 v1)(h2:zV K F H d2 v2)(r1:zR v1 u1)(r2:zR v2 u2)(hu:X.A.units+n<cLine):SeqAt.RcAt X.A s u1 u2 b/\SeqAt.RcNeAt X.A s u1 u2 (!b):=by
 have d0:0<dep d1:=by cases d1<;>simp[dep]
 have hu0:X.A.units<cLine:=by exact Qm (Wc _ _) ‹_›
 have hin:X.A.in1.units+(n - 1)<cLine:=by grind
 cases d1 with
 |non=>
  rw[h1.non_inv]at r1;cases r1
  cases d2 with
  |non=>simp[eqD]at e;subst e;rw[h2.non_inv]at r2;cases r2;exact⟨SeqAt.RcAt.none_none,SeqAt.RcNeAt.none_none⟩
  |bl x=>simp[eqD]at e;subst e;rw[h2.bl_inv]at r2;cases r2;exact⟨SeqAt.RcAt.none_bool x,SeqAt.RcNeAt.none_bool x⟩
  |int x=>simp[eqD]at e;subst e;rw[h2.int_inv]at r2;let⟨t,rfl⟩:=r2;exact⟨SeqAt.RcAt.none_int x t,SeqAt.RcNeAt.none_int x t⟩
  |str x=>simp[eqD]at e;subst e;rw[h2.str_inv]at r2;let⟨t,rfl⟩:=r2;exact⟨SeqAt.RcAt.none_str x t,SeqAt.RcNeAt.none_str x t⟩
  |tup l=>simp[eqD]at e;subst e;let⟨a,vs,rfl,f,_⟩:=h2.tup_inv;cases r2;let⟨p6,_,p⟩:=Inv.tupAt I (sub _ _ f);exact⟨SeqAt.RcAt.none_tuple p hu0,SeqAt.RcNeAt.none_tuple p hu0⟩
  |lst l=>simp[eqD]at e;subst e;let⟨a,vs,rfl,f,_⟩:=h2.lst_inv;cases r2;let⟨p6,_,p⟩:=Inv.lstAt I f;exact⟨SeqAt.RcAt.none_list p hu0,SeqAt.RcNeAt.none_list p hu0⟩
  |_=>simp[eqD]at e
 |bl y=>
  rw[h1.bl_inv]at r1;cases r1
  cases d2 with
  |non=>simp[eqD]at e;subst e;rw[h2.non_inv]at r2;cases r2;exact⟨SeqAt.RcAt.bool_none y,SeqAt.RcNeAt.bool_none y⟩
  |bl x=>simp only[eqD,Option.some.injEq]at e;subst e;rw[h2.bl_inv]at r2;cases r2;exact⟨SeqAt.RcAt.bool_bool y x,SeqAt.RcNeAt.bool_bool y x⟩
  |_=>simp[eqD]at e
 |int y=>
  rw[h1.int_inv]at r1;let⟨t',rfl⟩:=r1;cases d2 with
  |non=>simp[eqD]at e;subst e;rw[h2.non_inv]at r2;cases r2;exact⟨SeqAt.RcAt.int_none y t',SeqAt.RcNeAt.int_none y t'⟩
  |int x=>simp only[eqD,Option.some.injEq]at e;subst e;rw[h2.int_inv]at r2;let⟨t,rfl⟩:=r2;exact⟨SeqAt.RcAt.int_int y t' x t,SeqAt.RcNeAt.int_int y t' x t⟩
  |str x=>simp[eqD]at e;subst e;rw[h2.str_inv]at r2;let⟨t,rfl⟩:=r2;exact⟨SeqAt.RcAt.int_str y t' x t,SeqAt.RcNeAt.int_str y t' x t⟩
  |tup l=>simp[eqD]at e;subst e;let⟨a,vs,rfl,f,_⟩:=h2.tup_inv;cases r2;let⟨p6,_,p⟩:=Inv.tupAt I (sub _ _ f);exact⟨SeqAt.RcAt.int_tuple y t' p hu0,SeqAt.RcNeAt.int_tuple y t' p hu0⟩
  |_=>simp[eqD]at e
 |str y=>
  rw[h1.str_inv]at r1;let⟨t',rfl⟩:=r1;cases d2 with
  |non=>simp[eqD]at e;subst e;rw[h2.non_inv]at r2;cases r2;exact⟨SeqAt.RcAt.str_none y t',SeqAt.RcNeAt.str_none y t'⟩
  |int x=>simp[eqD]at e;subst e;rw[h2.int_inv]at r2;let⟨t,rfl⟩:=r2;exact⟨SeqAt.RcAt.str_int y t' x t,SeqAt.RcNeAt.str_int y t' x t⟩
  |str x=>simp only[eqD,Option.some.injEq]at e;subst e;rw[h2.str_inv]at r2;let⟨t,rfl⟩:=r2;exact⟨SeqAt.RcAt.str_str y t' x t,SeqAt.RcNeAt.str_str y t' x t⟩
  |tup l=>simp[eqD]at e;subst e;let⟨a,vs,rfl,f,_⟩:=h2.tup_inv;cases r2;let⟨p6,_,p⟩:=Inv.tupAt I (sub _ _ f);exact⟨SeqAt.RcAt.str_tuple y t' p hu0,SeqAt.RcNeAt.str_tuple y t' p hu0⟩
  |lst l=>simp[eqD]at e;subst e;let⟨a,vs,rfl,f,_⟩:=h2.lst_inv;cases r2;let⟨p6,_,p⟩:=Inv.lstAt I f;exact⟨SeqAt.RcAt.str_list y t' p hu0,SeqAt.RcNeAt.str_list y t' p hu0⟩
  |_=>simp[eqD]at e
 |tup l1=>
  let⟨a,vs,rfl,f1,q1⟩:=h1.tup_inv;cases r1
  let⟨p6,rv,p⟩:=Inv.tupAt I (sub _ _ f1);cases d2 with
  |non=>simp[eqD]at e;subst e;rw[h2.non_inv]at r2;cases r2;exact⟨SeqAt.RcAt.tuple_none p hu0,SeqAt.RcNeAt.tuple_none p hu0⟩
  |int x=>simp[eqD]at e;subst e;rw[h2.int_inv]at r2;let⟨t,rfl⟩:=r2;exact⟨SeqAt.RcAt.tuple_int x t p hu0,SeqAt.RcNeAt.tuple_int x t p hu0⟩
  |str x=>simp[eqD]at e;subst e;rw[h2.str_inv]at r2;let⟨t,rfl⟩:=r2;exact⟨SeqAt.RcAt.tuple_str x t p hu0,SeqAt.RcNeAt.tuple_str x t p hu0⟩
  |tup l2=>
   let⟨a2,vs2,rfl,f2,q2⟩:=h2.tup_inv;cases r2
   let⟨its2,rv2,p2⟩:=Inv.tupAt I (sub _ _ f2);simp only[eqD]at e;let⟨hp,hb⟩:=zcm e;simp only[dep]at hn;have he:∀(j:Nat) (h1:j<p6.toArray.size) (h2:j<its2.toArray.size),SeqAt.EqAt X.A.in1 s p6.toArray[j] its2.toArray[j] (eAt l1 l2 j):=λj k1 k2=>by
    let⟨x,v,hx,_,dx,rx⟩:=gL q1 rv k1;let⟨y,w,hy,_,dy,ry⟩:=gL q2 rv2 k2
    have:=zcM (List.mem_of_getElem? hx);exact zmN I sub (n - 1) x y _ v w _ _ X.A.in1 (by lia) (hp j x y hx hy) dx dy rx ry hin
   have z:=And.intro (SeqAt.RcAt.tuples p p2 hu0 he) (SeqAt.RcNeAt.tuples p p2 hu0 he);have e1:p6.toArray.size=l1.length:=by rw[Jm,←rv.length,q1.length]
   have e2:its2.toArray.size=l2.length:=by rw[Jm,←rv2.length,q2.length]
   rw[e1,e2]at z;rw[hb];exact z
  |lst l2=>simp[eqD]at e;subst e;let⟨a2,vs2,rfl,f2,_⟩:=h2.lst_inv;cases r2;let⟨its2,_,p2⟩:=Inv.lstAt I f2;exact⟨SeqAt.RcAt.tuple_list p p2 hu0,SeqAt.RcNeAt.tuple_list p p2 hu0⟩
  |_=>simp[eqD]at e
 |lst l1=>
  let⟨a,vs,rfl,f1,q1⟩:=h1.lst_inv;cases r1
  let⟨p6,rv,p⟩:=Inv.lstAt I f1;cases d2 with
  |non=>simp[eqD]at e;subst e;rw[h2.non_inv]at r2;cases r2;exact⟨SeqAt.RcAt.list_none p hu0,SeqAt.RcNeAt.list_none p hu0⟩
  |str x=>simp[eqD]at e;subst e;rw[h2.str_inv]at r2;let⟨t,rfl⟩:=r2;exact⟨SeqAt.RcAt.list_str x t p hu0,SeqAt.RcNeAt.list_str x t p hu0⟩
  |tup l2=>simp[eqD]at e;subst e;let⟨a2,vs2,rfl,f2,_⟩:=h2.tup_inv;cases r2;let⟨its2,_,p2⟩:=Inv.tupAt I (sub _ _ f2);exact⟨SeqAt.RcAt.list_tuple p p2 hu0,SeqAt.RcNeAt.list_tuple p p2 hu0⟩
  |lst l2=>
   let⟨a2,vs2,rfl,f2,q2⟩:=h2.lst_inv;cases r2
   let⟨its2,rv2,p2⟩:=Inv.lstAt I f2;simp only[eqD]at e;let⟨hp,hb⟩:=zcm e;simp only[dep]at hn;have he:∀(j:Nat) (h1:j<p6.toArray.size) (h2:j<its2.toArray.size),SeqAt.EqAt X.A.in1 s p6.toArray[j] its2.toArray[j] (eAt l1 l2 j):=λj k1 k2=>by
    let⟨x,v,hx,_,dx,rx⟩:=gL q1 rv k1;let⟨y,w,hy,_,dy,ry⟩:=gL q2 rv2 k2
    have:=zcM (List.mem_of_getElem? hx);exact zmN I sub (n - 1) x y _ v w _ _ X.A.in1 (by lia) (hp j x y hx hy) dx dy rx ry hin
   have e1:p6.toArray.size=l1.length:=by rw[Jm,←rv.length,q1.length]
   have e2:its2.toArray.size=l2.length:=by rw[Jm,←rv2.length,q2.length]
   by_cases hsz:l1.length=l2.length
   ·have z:=And.intro (SeqAt.RcAt.lists p p2 (by rw[e1,e2,hsz]) hu0 he) (SeqAt.RcNeAt.lists p p2 (by rw[e1,e2,hsz]) hu0 he);rw[e1]at z;rw[hb,hsz,Nat.min_self,beq_self_eq_true,Bool.and_true,←hsz];exact z
   ·have z:=And.intro (SeqAt.RcAt.lists_lengths p p2 (by rw[e1,e2];simpa using hsz) hu0) (SeqAt.RcNeAt.lists_lengths p p2 (by rw[e1,e2];simpa using hsz) hu0);have hb0:b=false:=by
     rw[hb]
     have:(l1.length==l2.length)=false:=by simpa using hsz
     rw[this,Bool.and_false]
    rw[hb0];exact z
  |_=>simp[eqD]at e
 |_=>simp[eqD]at e
end
noncomputable def eqB(x y:D):Option D:=if dep x<=100 then(eqD x y).map D.bl else none
noncomputable def neB(x y:D):Option D:=if dep x<=100 then(eqD x y).map λb=>D.bl (!b)else none
def rEqD(K:Fg)(f:Bool->Bool):R2:=λx y H Q=>∃F d1 d2 b,zJ F H/\zV K F H d1 x/\zV K F H d2 y/\dep d1<=100/\eqD d1 d2=some b/\Q (.bl (f b)) H
section
variable{K:Fg}{X:Cx}
theorem zsH(hu:X.A.units+100<cLine):OpR X (compareOp .Eq) (rEqD K id):=by intro p4 s σ H x y v u Q I rx ry h;let⟨F,d1,d2,b,sub,h1,h2,hn,e,q⟩:=h;exact(zqc I sub d1 d2 b x y v u 100 hn e h1 h2 rx ry hu).1 _ _ _ _ ⟨.bl b,H,I,rfl,q⟩
def zsC(hu:X.A.units+100<cLine):OpR X (compareOp .NotEq) (rEqD K not):=by intro p4 s σ H x y v u Q I rx ry h;let⟨F,d1,d2,b,sub,h1,h2,hn,e,q⟩:=h;exact(zqc I sub d1 d2 b x y v u 100 hn e h1 h2 rx ry hu).2 _ _ _ _ ⟨.bl (!b),H,I,rfl,q⟩
def p_eq(hu:X.A.units+100<cLine):Op2 K X (compareOp .Eq) .fz eqB:=by
 refine⟨_,zsH (K:=K) hu,λx y d F H v u Q e s h1 h2 k=>?_⟩;unfold eqB at e;by_cases hc:dep x<=100
 ·rw[if_pos hc]at e;cases e1:eqD x y with
  |none=>simp_all
  |some b=>
   rw[e1]at e;cases e
   exact⟨F,x,y,b,s,h1,h2,hc,e1,k _ F H (zG.refl s) (Res.bl b)⟩
 ·rw[if_neg hc]at e;cases e
def p_ne(hu:X.A.units+100<cLine):Op2 K X (compareOp .NotEq) .fz neB:=by
 refine⟨_,zsC (K:=K) hu,λx y d F H v u Q e s h1 h2 k=>?_⟩;unfold neB at e;by_cases hc:dep x<=100
 ·rw[if_pos hc]at e;cases e1:eqD x y with
  |none=>simp_all
  |some b=>
   rw[e1]at e;cases e
   exact⟨F,x,y,b,s,h1,h2,hc,e1,k _ F H (zG.refl s) (Res.bl _)⟩
 ·rw[if_neg hc]at e;cases e
end
noncomputable def inL(x:D):U D->Option Bool
 |[]=>some false
 |d::l=>(eqD d x).bind λb=>(inL x l).map λc=>b||c
theorem zjn{x:D}:∀{l:U D}{b:Bool},inL x l=some b->(∀d∈l,∃c,eqD d x=some c)/\b=l.any λd=>(eqD d x).getD false
 |[],b,h=>by simp[inL]at h;subst h;simp
 |d::l,b,h=>by
  simp only[inL]at h;cases e1:eqD d x with
  |none=>rw[e1]at h;cases h
  |some c=>
   cases e2:inL x l with
   |none=>rw[e1,e2]at h;cases h
   |some c2=>
    rw[e1,e2]at h;have hb:(c||c2)=b:=by simpa using h
    let⟨h1,h2⟩:=zjn e2;refine⟨λy hy=>?_,?_⟩
    ·rcases JJ.mp hy with rfl|hy
     ·exact⟨c,e1⟩
     ·exact h1 y hy
    ·rw[←hb,h2,WE,e1];rfl
theorem zno{α β:Type}{e:α->Bool}{g:β->Bool}:∀{xs:List α}{ys:List β},xs.length=ys.length->(∀(k:Nat) x y,xs[k]?=some x->ys[k]?=some y->e x=g y)->xs.any e=ys.any g
 |[],[],_,_=>rfl
 |[],_::_,h,_=>by simp at h
 |_::_,[],h,_=>by simp at h
 |x::xs,y::ys,h,k=>by rw[WE,WE,k 0 x y rfl rfl,zno (ys:=ys) (by simpa using h) λj a b ha hb=>k (j+1) a b (by simpa using ha) (by simpa using hb)]
section
variable{X:Cx}{p4:AO}{σ:St}{H F:Hp}{s:Shared}{K:Fg}
def zoB(I:Inv X p4 σ H s)(sub:zJ F H){l:U D}{vs:U V}{p6:U Value}{x:D}{v:V}{u:Value}{b:Bool}(q:zD K F l vs)(r:zN vs p6)(hx:Dat K F x v)(ru:zR v u)(hd:jY l<=100)(e:inL x l=some b)(hu:X.A.in1.units+100<cLine):
  ∃f:Value->Bool,(∀y,y∈p6.toArray->SeqAt.EqAt X.A.in1 s y u (f y))/\p6.toArray.any f=b:=by
 let⟨h1,h2⟩:=zjn e;have hl:p6.length=l.length:=by rw[←r.length,q.length]
 have at_:∀(k:Nat) (y:Value),p6[k]?=some y->∃d w,l[k]?=some d/\Dat K F d w/\zR w y:=λk y hk=>by
  have hk':k<p6.toArray.size:=by simpa using(List.getElem?_eq_some_iff.mp hk).1
  let⟨d,w,e1,_,e3,e4⟩:=gL q r hk';refine⟨d,w,e1,e3,?_⟩
  have:p6.toArray[k]=y:=by rw[List.getElem?_eq_getElem (by simpa using hk')]at hk;simpa using Option.some.inj hk
  rw[←this];exact e4
 refine⟨λy=>match(p6.zip l).find? (λp=>p.1==y)with
  |some p=>(eqD p.2 x).getD false
  |none=>false,λy hy=>?_,?_⟩
 ·have hy':y∈p6:=by simpa using hy
  let⟨k,hk⟩:=Jw.mp hy';cases f:(p6.zip l).find? (λp=>p.1==y)with
  |none=>
   exfalso;have hk2:k<p6.length:=(List.getElem?_eq_some_iff.mp hk).1
   have:=List.find?_eq_none.mp f (p6[k],l[k]'(by simp_all)) (by
    have:(p6.zip l)[k]?=some (p6[k],l[k]'(by simp_all)):=by simp[List.getElem?_zip_eq_some,hk2]
    exact List.mem_of_getElem? this)
   rw[List.getElem?_eq_getElem hk2]at hk;have e0:=Option.some.inj hk;simp[e0]at this
  |some p=>
   have hp:=List.find?_some f;have hm:=List.mem_of_find?_eq_some f;let⟨j,hj⟩:=Jw.mp hm;let⟨j1,j2⟩:=List.getElem?_zip_eq_some.mp hj;have e1:p.1=y:=by simpa using hp
   let⟨d,w,e2,e3,e4⟩:=at_ j p.1 j1;rw[j2]at e2;cases e2
   let⟨c,hc⟩:=h1 p.2 (List.mem_of_getElem? j2)
   have:=zcM (List.mem_of_getElem? j2);simp only[f,hc,Option.getD_some];exact zmN I sub 100 p.2 x c w v y u X.A.in1 (by lia) hc e3 hx (e1▸e4) ru hu
 ·rw[h2,List.any_toArray];refine zno hl λk y d hk hd'=>?_
  cases f:(p6.zip l).find? (λp=>p.1==y)with
  |none=>
   exfalso
   have:=List.find?_eq_none.mp f (y,d) (List.mem_of_getElem? (i:=k) (List.getElem?_zip_eq_some.mpr ⟨hk,hd'⟩));simp at this
  |some p=>
   have hp:=List.find?_some f;have hm:=List.mem_of_find?_eq_some f;let⟨j,hj⟩:=Jw.mp hm;let⟨j1,j2⟩:=List.getElem?_zip_eq_some.mp hj;have e1:p.1=y:=by simpa using hp
   let⟨d1,w1,e2,e3,e4⟩:=at_ j p.1 j1;rw[j2]at e2;cases e2
   let⟨d2,w2,f2,f3,f4⟩:=at_ k y hk;rw[hd']at f2;cases f2
   let⟨c1,hc1⟩:=h1 p.2 (List.mem_of_getElem? j2);let⟨c2,hc2⟩:=h1 d (List.mem_of_getElem? hd');rw[e1]at e4;have ew:=e4.inj f4;subst ew;simp only[f,hc1,hc2,Option.getD_some];exact ztz _ p.2 d x c1 c2 w1 (Jf _) e3 f3 hc1 hc2
end
noncomputable def inB(x y:D):Option D:=match y with
 | .lst l=>if jY l<=100 then(inL x l).map D.bl else none
 | .tup l=>if jY l<=100 then(inL x l).map D.bl else none
 |_=>none
noncomputable def jQ(x y:D):Option D:=match y with
 | .lst l=>if jY l<=100 then(inL x l).map λb=>D.bl (!b)else none
 | .tup l=>if jY l<=100 then(inL x l).map λb=>D.bl (!b)else none
 |_=>none
def rInD(K:Fg)(f:Bool->Bool):R2:=λx y H Q=>∃F d l b a vs,zJ F H/\Dat K F d x/\y=.ref a/\(H a=some (.lst vs)\/H a=some (.tup vs))/\zD K F l vs/\jY l<=100/\inL d l=some b/\Q (.bl (f b)) H
section
variable{K:Fg}{X:Cx}
theorem zsF(hu:X.A.units+101<cLine):OpR X (compareOp .In) (rInD K id):=by
 intro p4 s σ H x y v u Q I rx ry h;let⟨F,d,l,b,a,vs,sub,h1,rfl,ho,q,hd,e,k⟩:=h;cases ry
 have hu':X.A.in1.units+100<cLine:=by trivial
 rcases ho with ho|ho
 ·let⟨p6,r,p⟩:=Inv.lstAt I ho;let⟨f,h3,h4⟩:=zoB I sub q r h1 rx hd e hu';exact SeqAt.in_listAt f p h3 (by rw[h4];exact⟨.bl b,H,I,rfl,k⟩)
 ·let⟨p6,r,p⟩:=Inv.tupAt I ho;let⟨f,h3,h4⟩:=zoB I sub q r h1 rx hd e hu';exact SeqAt.in_tupleAt f p h3 (by rw[h4];exact⟨.bl b,H,I,rfl,k⟩)
def zlT(hu:X.A.units+101<cLine):OpR X (compareOp .NotIn) (rInD K not):=by
 intro p4 s σ H x y v u Q I rx ry h;let⟨F,d,l,b,a,vs,sub,h1,rfl,ho,q,hd,e,k⟩:=h;cases ry
 have hu':X.A.in1.units+100<cLine:=by trivial
 rcases ho with ho|ho
 ·let⟨p6,r,p⟩:=Inv.lstAt I ho;let⟨f,h3,h4⟩:=zoB I sub q r h1 rx hd e hu';exact SeqAt.notIn_listAt f p h3 (by rw[h4];exact⟨.bl (!b),H,I,rfl,k⟩)
 ·let⟨p6,r,p⟩:=Inv.tupAt I ho;let⟨f,h3,h4⟩:=zoB I sub q r h1 rx hd e hu';exact SeqAt.notIn_tupleAt f p h3 (by rw[h4];exact⟨.bl (!b),H,I,rfl,k⟩)
end
def Op2f(K:Fg)(X:Cx)(f:Value->Value->Sem Value)(p:D->D->Option D):Prop:=
 ∃r:R2,OpR X f r/\∀x y d F H v u Q,p x y=some d->zJ F H->Dat K F x v->zV K F H y u->(∀w F' H',zG F H F' H'->Res K .fz H F' H' d w->Q w H')->r v u H Q
section
variable{K:Fg}{X:Cx}{a b:Expr}{fa fb:EO D}{pos:Pos}{p:D->D->Option D}
def zsz{f:Value->Value->Sem Value}{n:Bool->Bool}{p:D->D->Option D}(o:OpR X f (rInD K n))(h:∀x y d,p x y=some d->∃l b,(y=.lst l\/y=.tup l)/\jY l<=100/\inL x l=some b/\d=.bl (n b)):Op2f K X f p:=by
 refine⟨_,o,λx y d F H v u Q e s h1 h2 k=>?_⟩;let⟨l,b,hy,hd,e1,rfl⟩:=h x y d e;rcases hy with rfl|rfl
 ·let⟨a,vs,rfl,f,q⟩:=h2.lst_inv;exact⟨F,x,l,b,a,vs,s,h1,rfl,.inl f,q,hd,e1,k _ F H (zG.refl s) (Res.bl _)⟩
 ·let⟨a,vs,rfl,f,q⟩:=h2.tup_inv;exact⟨F,x,l,b,a,vs,s,h1,rfl,.inr (s _ _ f),q,hd,e1,k _ F H (zG.refl s) (Res.bl _)⟩
def p_in(hu:X.A.units+101<cLine):Op2f K X (compareOp .In) inB:=zsz (zsF hu) λx y d e=>by
 unfold inB at e;split at e
 ·split at e
  ·rename_i l hd;cases e1:inL x l with
   |none=>rw[e1]at e;cases e
   |some b=>rw[e1]at e;cases e;exact⟨l,b,.inl rfl,hd,e1,rfl⟩
  ·cases e
 ·split at e
  ·rename_i l hd;cases e1:inL x l with
   |none=>rw[e1]at e;cases e
   |some b=>rw[e1]at e;cases e;exact⟨l,b,.inr rfl,hd,e1,rfl⟩
  ·cases e
 ·cases e
def zqG(hu:X.A.units+101<cLine):Op2f K X (compareOp .NotIn) jQ:=zsz (zlT hu) λx y d e=>by
 unfold jQ at e;split at e
 ·split at e
  ·rename_i l hd;cases e1:inL x l with
   |none=>rw[e1]at e;cases e
   |some b=>rw[e1]at e;cases e;exact⟨l,b,.inl rfl,hd,e1,rfl⟩
  ·cases e
 ·split at e
  ·rename_i l hd;cases e1:inL x l with
   |none=>rw[e1]at e;cases e
   |some b=>rw[e1]at e;cases e;exact⟨l,b,.inr rfl,hd,e1,rfl⟩
  ·cases e
 ·cases e
def zrB{ρ:En}{x y d:D}{r:R2}(ha:PE X a (rdE K .fz ρ x))(hb:PE X b (rdE K .br ρ y))(hr:∀F H v u Q,zJ F H->Dat K F x v->zV K F H y u->(∀w F' H',zG F H F' H'->Res K .fz H F' H' d w->Q w H')->r v u H Q)(σ:St)(H:Hp)(Q:VK)(h:rdE K .fz ρ d σ H Q):tOp r (rdE K .fz ρ x) (rdE K .br ρ y) σ H Q:=by
 let⟨F,rl,q⟩:=h;refine⟨F,rl,λv F1 H1 g1 r1=>⟨F1,rl.grow g1,λu F2 H2 g2 r2=>?_⟩⟩;refine hr F2 H2 v u Q g2.fh (Dat.mono g2.ff r1) r2 λw F3 H3 g3 r3=>?_
 exact q w F3 H3 (g1.trans (g2.trans g3)) r3
def ztv{op:CmpOp}(o:Op2f K X (compareOp op) p)(ha:FP K .fz X a fa)(hb:FP K .br X b fb)(hm:behindInMarks op b=false):FP K .fz X (.Compare a [op] [b] pos) (c2 p fa fb):=FP.mk λρ d hf=>by let⟨x,y,e1,e2,e3⟩:=wC hf;let⟨r,ho,hr⟩:=o;exact PE.imp (zlN ho (ha.h ρ x e1) (hb.h ρ y e2) hm) (zrB (ha.h ρ x e1) (hb.h ρ y e2) λF H v u Q s h1 h2 k=>hr x y d F H v u Q e3 s h1 h2 k)
end
end FL
namespace HT
section
variable{prog:Program}{w:World}{A:Around}{E:Vs}{s:Shared}
theorem getItem_tuple_whole{t sl:Addr}{items:Array Value}{vl vu:Value}{lo hi:Option Int}{Q:Vs}(ht:IsTup s.heap t items)(hs:s.heap.IsSliceOf sl vl vu .none)(pl:IsPart vl lo)(pu:IsPart vu hi)(hw:sIx items.size 0 lo=0/\sIx items.size items.size hi=items.size)(h:Q (.ref t) s):wpAny (model prog w) A (getItem (.ref t) (.ref sl)) Q E s:=by
 let⟨os,hos,hcs,hds⟩:=id hs;have hTs:s.TypeIs (.ref sl) "slice":=⟨os,hos,hcs⟩;unfold getItem
 try with_reducible refine Jk ?_
 refine wpAny_bind (wpAny_sequenceKey ht.typeIs (by decide) ?_);refine wpAny_bind (wpAny_callSpecial?_slot ht.typeIs QF
  (Ju QF ht.typeIs entry_tuple_getitem ?_ (args_tuple_getitem _ _)))
 show wpAny _ _ (Builtin.Tuple.tupleItemsOf (.ref t)>>=_) _ _ s;refine wpAny_bind (tupleItemsOf_ ht ?_);refine wpAny_bind (wpAny_typeOf hTs ?_);refine wpAny_bind (zbh hs pl pu ?_);have hyes:(((sIx items.size 0 lo:Nat):Int)==0&&(1:Int)==1&&(sIx items.size items.size hi - sIx items.size 0 lo)==items.size)=true:=by simp[*]
 show wpAny _ _ (if(((sIx items.size 0 lo:Nat):Int)==0&&(1:Int)==1&&(sIx items.size items.size hi - sIx items.size 0 lo)==items.size)=true then _ else _) _ _ s;rw[if_pos hyes];refine wpAny_bind (wpAny_bind (wpAny_typeOf ht.typeIs (Ja ?_)));refine wpAny_bind (JH ?_);exact Ja ⟨_,rfl,Ja h⟩
end
end HT
namespace L2
section
variable{X:Cx}{K:Fg}
def zui(K:Fg):V->Option Int->Option Int->Hp->VK->Prop:=λx lo hi H Q=>∃a xs,x=.ref a/\SqT K H a xs/\
 ((HT.sIx xs.length 0 lo=0/\HT.sIx xs.length xs.length hi=xs.length)->Q (.ref a) H)/\∀p,H p=none->Q (.ref p) (upd H p (.tup (wU xs lo hi)))
def zqj:SlR X (λx lo hi H Q=>∃a xs,x=.ref a/\SqT X.K H a xs/\(HT.sIx xs.length 0 lo=0/\HT.sIx xs.length xs.length hi=xs.length)/\Q (.ref a) H):=by
 intro p4 s σ H x v vl vu lo hi sl Q I rx hs pl pu h;let⟨a,xs,rfl,hx,hw,q⟩:=h;cases rx
 let⟨p6,r,ht,hz⟩:=I.tuple hx;have hlen:p6.toArray.size=xs.length:=by exact r.length.symm
 refine⟨"tuple",_,PyProof.Rows.slot_tuple_getitem.lookup,ht.typeIs,?_⟩;exact HT.getItem_tuple_whole ht hs pl pu (by rw[hlen];exact hw) ⟨.ref a,H,I,rfl,q⟩
def zqk(hK:B0 (X.K=K)):SlR X (zui K):=by
 subst hK;intro p4 s σ H x v vl vu lo hi sl Q I rx hs pl pu h;let⟨a,xs,rfl,hx,h1,h2⟩:=h;by_cases hw:HT.sIx xs.length 0 lo=0/\HT.sIx xs.length xs.length hi=xs.length
 ·exact zqj p4 s σ H _ v vl vu lo hi sl Q I rx hs pl pu ⟨a,xs,rfl,hx,hw,h1 hw⟩
 ·exact zrP p4 s σ H _ v vl vu lo hi sl Q I rx hs pl pu ⟨a,xs,rfl,hx,hw,h2⟩
end
end L2
namespace FL
open L2
noncomputable def cmpI(f:Int->Int->Bool):D->D->Option D
 | .int a,.int b=>some (.bl (f a b))
 |_,_=>none
abbrev ltD:=cmpI λi j=>decide (i<j)
abbrev leD:=cmpI λi j=>decide (i<=j)
abbrev gtD:=cmpI λi j=>decide (j<i)
noncomputable def kL:U D->Option (U Int)
 |[]=>some []
 | .int i::l=>(kL l).map (i::·)
 |_::_=>none
theorem zaz:∀{l:U D}{ns:U Int},kL l=some ns->l=ns.map D.int
 |[],ns,h=>by simp[kL]at h;subst h;rfl
 | .int i::l,ns,h=>by
  simp only[kL]at h;cases e:kL l with
  |none=>rw[e]at h;cases h
  |some ms=>rw[e]at h;cases h;rw[zaz e];rfl
 | .non::_,_,h=>by simp[kL]at h
 | .bl _::_,_,h=>by simp[kL]at h
 | .str _::_,_,h=>by simp[kL]at h
 | .tup _::_,_,h=>by simp[kL]at h
 | .lst _::_,_,h=>by simp[kL]at h
 | .scr _::_,_,h=>by simp[kL]at h
 | .dic _ _::_,_,h=>by simp[kL]at h
 | .set _::_,_,h=>by simp[kL]at h
 | .exc _ _::_,_,h=>by simp[kL]at h
theorem zcG:∀(ns:U Int),kL (ns.map D.int)=some ns
 |[]=>rfl
 |n::ns=>by rw[Jd,kL,zcG ns];rfl
noncomputable def geD:D->D->Option D
 | .int a,.int b=>some (.bl (decide (b<=a)))
 | .tup a,.tup b=>(kL a).bind λns=>(kL b).map λms=>.bl (!HT.lexLt ns ms)
 |_,_=>none
def isNon:D->Bool
 | .non=>true
 |_=>false
noncomputable def isB(x y:D):Option D:=match y with
 | .non=>some (.bl (isNon x))
 |_=>none
noncomputable def zfj(x y:D):Option D:=match y with
 | .non=>some (.bl (!isNon x))
 |_=>none
variable{F H:Hp}{v:V}{l:U D}
section
variable{K:Fg}{X:Cx}
def zlR{f:Value->Value->Sem Value}{g:Int->Int->Bool}(o:OpR X f (rI0 λi j=>.bl (g i j))):Op2 K X f .fz (cmpI g):=by
 refine⟨_,o,λx y d F H v u Q e s h1 h2 k=>?_⟩;unfold cmpI at e;split at e
 ·cases e
  exact⟨_,_,h1.int_inv,h2.int_inv,k _ F H (zG.refl s) (Res.bl _)⟩
 ·cases e
def p_lt:Op2 K X (compareOp .Lt) .fz ltD:=zlR zuz
def p_le:Op2 K X (compareOp .LtE) .fz leD:=zlR zuA
def p_gt:Op2 K X (compareOp .Gt) .fz gtD:=zlR zuB
def p_ge(hu:X.A.units+100<cLine)(hK:B0 (X.K=K)):Op2 K X (compareOp .GtE) .fz geD:=by
 refine⟨_,zuC.or (zsG (by lia)),λx y d F H v u Q e s h1 h2 k=>?_⟩;unfold geD at e;split at e
 ·cases e
  exact .inl ⟨_,_,h1.int_inv,h2.int_inv,k _ F H (zG.refl s) (Res.bl _)⟩
 ·rename_i l m;cases e1:kL l with
  |none=>rw[e1]at e;cases e
  |some ns=>
   cases e2:kL m with
   |none=>rw[e1,e2]at e;cases e
   |some ms=>
    rw[e1,e2]at e;cases e
    rw[zaz e1]at h1;rw[zaz e2]at h2;let⟨a,vs,rfl,f1,q1⟩:=h1.tup_inv;let⟨b,us,rfl,f2,q2⟩:=h2.tup_inv;rw[q1.ints]at f1;rw[q2.ints]at f2;exact .inr ⟨a,b,ns,ms,rfl,rfl,SqT.of (s _ _ f1),SqT.of (s _ _ f2),k _ F H (zG.refl s) (Res.bl _)⟩
 ·cases e
theorem zV.isNon{d:D}(h:zV K F H d v):decide (v=.non)=FL.isNon d:=by
 cases d with
 |non=>rw[h.non_inv];rfl
 |bl b=>rw[h.bl_inv];rfl
 |int b=>rw[h.int_inv];rfl
 |str b=>rw[h.str_inv];rfl
 |tup l=>let⟨a,vs,rfl,_⟩:=h.tup_inv;rfl
 |lst l=>let⟨a,vs,rfl,_⟩:=h.lst_inv;rfl
 |scr l=>let⟨a,rfl,_⟩:=h.scr_inv;rfl
 |dic k l=>let⟨a,vs,rfl,_⟩:=h.dic_inv;rfl
 |set l=>let⟨a,rfl,_⟩:=h;rfl
 |exc c d=>let⟨a,_,_,_,rfl,_⟩:=h.exc_inv;rfl
def p_is:Op2 K X (compareOp .Is) .fz isB:=by
 refine⟨_,zsE,λx y d F H v u Q e s h1 h2 k=>?_⟩;cases y<;>simp only[isB]at e<;>try(cases e;done)
 cases e
 refine⟨h2.non_inv,?_⟩;rw[h1.isNon];exact k _ F H (zG.refl s) (Res.bl _)
def zqH:Op2 K X (compareOp .IsNot) .fz zfj:=by
 refine⟨_,zqI,λx y d F H v u Q e s h1 h2 k=>?_⟩;cases y<;>simp only[zfj]at e<;>try(cases e;done)
 cases e
 refine⟨h2.non_inv,?_⟩;rw[h1.isNon];exact k _ F H (zG.refl s) (Res.bl _)
theorem zD.atI{vs:U V}(q:zD K F l vs){i:Int}{d:D}(h:L2.atI l i=some d):∃v,L2.atI vs i=some v/\Dat K F d v:=by
 unfold L2.atI at h ⊢;rw[q.length];cases e:ixN l.length i with
 |none=>rw[e]at h;cases h
 |some j=>
  rw[e]at h;exact q.get h
noncomputable def zZ:D->D->Option D
 | .lst l,.int i=>L2.atI l i
 | .tup l,.int i=>L2.atI l i
 | .scr l,.int i=>(L2.atI l i).map D.int
 | .str z,.int i=>if z.length<=lim then(L2.atI z.cps.toList i).map λc=>.str ⟨#[c]⟩else none
 |_,_=>none
def p_ix(hK:B0 (X.K=K)):Ix2 K X .fz zZ:=by
 subst hK;refine⟨_,zqY.or (ztf.or ztg),λx y d F H v u Q e s h1 h2 k=>?_⟩;unfold zZ at e;split at e
 ·let⟨a,vs,rfl,f,q⟩:=h1.lst_inv;let⟨w,hw,dw⟩:=q.atI e;exact .inl ⟨a,vs,_,w,rfl,h2.int_inv,SqL.of f,hw,k _ F H (zG.refl s) dw⟩
 ·let⟨a,vs,rfl,f,q⟩:=h1.tup_inv;let⟨w,hw,dw⟩:=q.atI e;exact .inr (.inl ⟨a,vs,_,w,rfl,h2.int_inv,SqT.of (s _ _ f),hw,k _ F H (zG.refl s) dw⟩)
 ·rename_i ns i;let⟨a,rfl,f⟩:=h1.scr_inv;cases e1:L2.atI ns i with
  |none=>rw[e1]at e;cases e
  |some c=>
   rw[e1]at e;cases e
   refine .inl ⟨a,_,i,.int c,rfl,h2.int_inv,zJ.seq s f,?_,k _ F H (zG.refl s) (Res.int _)⟩;unfold L2.atI at e1 ⊢;rw[Jc];cases e2:ixN ns.length i with
   |none=>rw[e2]at e1;cases e1
   |some j=>
    rw[e2]at e1;have e1':ns[j]?=some c:=e1;show(ns.map V.int)[j]?=_;rw[List.getElem?_map,e1'];rfl
 ·obtain⟨hz,e⟩:_/\_:=by
   split at e
   ·rename_i hz;exact⟨hz,e⟩
   ·cases e
  rename_i z i _;cases e1:L2.atI z.cps.toList i with
  |none=>rw[e1]at e;cases e
  |some c=>
   rw[e1]at e;cases e
   exact .inr (.inr ⟨z,i,c,h1.str_inv,h2.int_inv,vM hz,e1,k _ F H (zG.refl s) (Res.str _)⟩)
 ·cases e
end
variable{α:Type}
noncomputable def jX(xs:List α)(lo hi:Option Int):List α:=(xs.drop (HT.sIx xs.length 0 lo)).take (HT.sIx xs.length xs.length hi - HT.sIx xs.length 0 lo)
variable{K:Fg}
def zD.cut{vs:U V}(q:zD K F l vs)(lo hi:Option Int):zD K F (jX l lo hi) (wU vs lo hi):=by unfold jX wU;rw[q.length];exact(q.drop _).take _
noncomputable def qK(x:D)(lo hi:Option Int):Option D:=match x with
 | .tup l=>some (.tup (jX l lo hi))
 | .lst l=>some (.lst (jX l lo hi))
 | .scr l=>some (.lst ((jX l lo hi).map D.int))
 | .str z=>if z.length<=lim then some (.str (Txt.slice z lo hi))else none
 |_=>none
def zna{β:Type}(f:α->β)(l:List α)(lo hi:Option Int):jX (l.map f) lo hi=(jX l lo hi).map f:=by unfold jX;rw[Jc,WG,List.map_drop]
def zpa(l:U Int)(lo hi:Option Int):wU (l.map V.int) lo hi=(jX l lo hi).map V.int:=zna _ _ _ _
noncomputable def rdO(K:Fg)(ρ:En)(o:Option Int):TO:=λσ H Q=>∃F,Rel K F H ρ σ/\∀F' H',zG F H F' H'->Q o H'
structure FPO(K:Fg)(X:Cx)(e:Option Expr)(f:EO (Option Int)):Prop where
 h:∀ρ o,f ρ=some o->PO X e (rdO K ρ o)
variable{X:Cx}
def PO.imp{e:Option Expr}{t t':TO}(h:PO X e t)(w:∀σ H Q,t' σ H Q->t σ H Q):PO X e t':=λp4 s σ H Q I ht=>h p4 s σ H Q I (w σ H Q ht)
noncomputable def yB:EO (Option Int):=λ_=>some none
noncomputable def kK(f:EO D):EO (Option Int):=λρ=>match f ρ with
 |some (.int i)=>some (some i)
 |_=>none
noncomputable def cS(p:D->Option Int->Option Int->Option D)(fa:EO D)(fl fh:EO (Option Int)):EO D:=λρ=>(fa ρ).bind λx=>(fl ρ).bind λlo=>(fh ρ).bind λhi=>p x lo hi
variable{f:EO D}{e:Expr}{md:Md}
section
variable{K:Fg}{X:Cx}{a:Expr}{fa:EO D}{pos p2:Pos}{lo hi:Option Expr}{fl fh:EO (Option Int)}
def xC:FPO K X none yB:=FPO.mk λρ o hf=>PO.imp zqy λσ H Q ⟨F,r,q⟩=>by cases hf;exact q F H (zG.refl r.sub)
def yL(h:FP K .fz X e f):FPO K X (some e) (kK f):=FPO.mk λρ o hf=>by
 unfold kK at hf;split at hf
 ·rename_i i e1;cases hf
  exact PO.imp (zqx (h.h ρ _ e1)) λσ H Q ⟨F,r,q⟩=>⟨F,r,λv F' H' g hr=>⟨i,Dat.int_inv (K:=K) (F:=F') hr,q F' H' g⟩⟩
 ·cases hf
def Sl3(K:Fg)(X:Cx)(md:Md)(p:D->Option Int->Option Int->Option D):Prop:=
 ∃r,SlR X r/\∀x lo hi d F H v Q,p x lo hi=some d->zJ F H->zV K F H x v->(∀w F' H',zG F H F' H'->Res K md H F' H' d w->Q w H')->r v lo hi H Q
def yW{p:D->Option Int->Option Int->Option D}(o:Sl3 K X md p)(ha:FP K .br X a fa)(hl:FPO K X lo fl)(hh:FPO K X hi fh):FP K md X (.Subscript a (.Slice lo hi none p2) pos) (cS p fa fl fh):=FP.mk λρ d hf=>by
 unfold cS at hf;cases e1:fa ρ with
 |none=>rw[e1]at hf;cases hf
 |some x=>
  cases e2:fl ρ with
  |none=>simp_all
  |some l=>
   cases e3:fh ρ with
   |none=>simp_all
   |some h=>
    rw[e1,e2,e3]at hf;let⟨r,ho,hr⟩:=o;refine PE.imp (zoh ho (ha.h ρ x e1) (hl.h ρ l e2) (hh.h ρ h e3)) λσ H Q h_=>?_
    let⟨F,rl,q⟩:=h_;refine⟨F,rl,λv F1 H1 g1 r1=>⟨F1,rl.grow g1,λF2 H2 g2=>⟨F2,(rl.grow g1).grow g2,λF3 H3 g3=>?_⟩⟩⟩;refine hr x l h d F3 H3 v Q hf g3.fh (zV.mono (g2.trans g3).ff (g2.trans g3).hh r1) λw F4 H4 g4 r4=>?_
    have g:=g1.trans (g2.trans (g3.trans g4));refine q w F4 H4 g ?_;cases md with
    |fz=>exact r4
    |br=>exact r4
    |ow=>
     let⟨a,e,h1,h2,h3⟩:=r4;exact⟨a,e,(g1.hh.trans (g2.hh.trans g3.hh)).free h1,h2,h3⟩
def yT(hK:B0 (X.K=K)):Sl3 K X .fz qK:=by
 subst hK;refine⟨_,SlR.or (zqk rfl) (SlR.or zql zrQ),λx lo hi d F H v Q e s h1 k=>?_⟩;cases x<;>simp only[qK]at e<;>try(cases e;done)
 ·let⟨hz,rfl⟩:=kF e;exact .inr (.inr ⟨_,h1.str_inv,vM hz,λy _ ey=>by subst ey;exact k _ F H (zG.refl s) (Res.str _)⟩)
 ·rename_i l;cases e
  let⟨a,vs,rfl,f,q⟩:=h1.tup_inv;refine .inl ⟨a,vs,rfl,SqT.of (s _ _ f),λhw=>?_,λp hp=>?_⟩
  ·refine k _ F H (zG.refl s) ?_;have e:jX l lo hi=l:=by grind [jX,zD.length]
   rw[e];exact h1
  ·have g:=zG.frozen (o:=.tup (wU vs lo hi)) s hp;exact k _ _ _ g (Dat.tup qG ((q.mono g.ff).cut lo hi))
 ·cases e
  let⟨a,vs,rfl,f,q⟩:=h1.lst_inv;refine .inr (.inl ⟨a,vs,rfl,SqL.of f,λp hp=>?_⟩);have g:=zG.frozen (o:=.lst (wU vs lo hi)) s hp;exact k _ _ _ g (Dat.lst qG ((q.mono g.ff).cut lo hi))
 ·rename_i ns;cases e
  let⟨a,rfl,f⟩:=h1.scr_inv;refine .inr (.inl ⟨a,_,rfl,zJ.seq s f,λp hp=>?_⟩);rw[zpa];have g:=zG.frozen (o:=.lst ((jX ns lo hi).map V.int)) s hp;exact k _ _ _ g (Dat.lst qG (zD.ofInts _))
noncomputable def revD:D->Option D
 | .lst l=>some (.lst l.reverse)
 |_=>none
noncomputable def revX(x y:D):Option D:=match y with
 | .int (-1)=>revD x
 |_=>none
def frev{st:Expr}{fs:EO D}(ha:FP K .br X a fa)(hs:FP K .fz X st fs)(hK:B0 (X.K=K)):FP K .ow X (.Subscript a (.Slice none none (some st) p2) pos) (c2 revX fa fs):=FP.mk λρ d hf=>by
 let⟨x,y,e1,e2,e3⟩:=wC hf;unfold revX at e3;split at e3
 ·cases x<;>simp only[revD]at e3<;>try(cases e3;done)
  cases e3
  refine PE.imp (zsr (ha.h ρ _ e1) (hs.h ρ _ e2)) λσ H Q h_=>?_
  let⟨F,rl,q⟩:=h_;refine⟨F,rl,λv F1 H1 g1 r1=>⟨F1,rl.grow g1,λu F2 H2 g2 r2=>⟨Dat.int_inv (K:=X.K) (F:=F2) r2,?_⟩⟩⟩;let⟨a,vs,rfl,f,qq⟩:=zV.lst_inv (zV.mono g2.ff g2.hh r1);refine⟨a,vs,rfl,SqL.of f,λp hp=>?_⟩;have g:=g1.trans (g2.trans (zG.fresh (o:=.lst vs.reverse) g2.fh hp));exact q _ _ _ g ⟨p,rfl,(g1.hh.trans g2.hh).free hp,g2.fh.free hp,vs.reverse,qG,qq.reverse⟩
 ·cases e3
end
def zkF(K:Fg)(F H:Hp):U D->U V->Prop
 |[],vs=>vs=[]
 |d::l,vs=>∃v r,vs=v::r/\zV K F H d v/\zkF K F H l r
def ResL(K:Fg)(fz:Bool)(F' H':Hp)(ds:U D)(vs:U V):Prop:=if fz=true then zD K F' ds vs else zkF K F' H' ds vs
noncomputable def rdA(K:Fg)(fz:Bool)(ρ:En)(ds:U D):TA:=λσ H Q=>∃F,Rel K F H ρ σ/\∀vs F' H',zG F H F' H'->ResL K fz F' H' ds vs->Q vs H'
structure FPs(K:Fg)(fz:Bool)(X:Cx)(es:U Expr)(f:EO (U D)):Prop where
 h:∀ρ ds,f ρ=some ds->PA X es (rdA K fz ρ ds)
noncomputable def zC:EO (U D):=λ_=>some []
noncomputable def zA(f:EO D)(fs:EO (U D)):EO (U D):=λρ=>(f ρ).bind λd=>(fs ρ).map λl=>d::l
noncomputable def cL(p:LO)(fs:EO (U D)):EO D:=λρ=>(fs ρ).bind p
noncomputable def zS(l:U D):Option D:=if l.length<=lim then some (.tup l)else none
noncomputable def jF(l:U D):Option D:=if l.length<=lim then some (.lst l)else none
variable{ρ:En}
section
variable{K:Fg}{X:Cx}{e:Expr}{es:U Expr}{f:EO D}{fs:EO (U D)}{pos:Pos}{fz:Bool}
def zE:FPs K fz X [] zC:=FPs.mk λρ ds hf=>PA.imp xG λσ H Q ⟨F,r,q⟩=>by
 cases hf
 refine q [] F H (zG.refl r.sub) ?_;unfold ResL;split
 ·exact zD.nil
 ·rfl
def zbG{ds:U D}(h:zA f fs ρ=some ds):∃d l,f ρ=some d/\fs ρ=some l/\ds=d::l:=by
 unfold zA at h;cases e1:f ρ with
 |none=>rw[e1]at h;cases h
 |some d=>
  cases e2:fs ρ with
  |none=>rw[e1,e2]at h;cases h
  |some l=>simp_all
def zB(h1:FP K .fz X e f)(h2:FPs K true X es fs)(hs:B0 (starEach (e::es) X.env=(false,eval e X.env)::starEach es X.env)):FPs K true X (e::es) (zA f fs):=FPs.mk λρ ds hf=>by
 let⟨d,l,e1,e2,rfl⟩:=zbG hf;refine PA.imp (yA (h1.h ρ d e1) (h2.h ρ l e2) hs) λσ H Q h_=>?_
 let⟨F,r,q⟩:=h_;refine⟨F,r,λv F1 H1 g1 r1=>⟨F1,r.grow g1,λvs F2 H2 g2 r2=>?_⟩⟩;exact q (v::vs) F2 H2 (g1.trans g2) (zD.cons (Dat.mono g2.ff r1) r2)
def xK(h1:FP K .br X e f)(h2:FPs K false X es fs)(hs:B0 (starEach (e::es) X.env=(false,eval e X.env)::starEach es X.env)):FPs K false X (e::es) (zA f fs):=FPs.mk λρ ds hf=>by
 let⟨d,l,e1,e2,rfl⟩:=zbG hf;refine PA.imp (yA (h1.h ρ d e1) (h2.h ρ l e2) hs) λσ H Q h_=>?_
 let⟨F,r,q⟩:=h_;refine⟨F,r,λv F1 H1 g1 r1=>⟨F1,r.grow g1,λvs F2 H2 g2 r2=>?_⟩⟩;exact q (v::vs) F2 H2 (g1.trans g2) ⟨v,vs,rfl,zV.mono g2.ff g2.hh r1,r2⟩
def zcS{p:LO}{d:D}(h:cL p fs ρ=some d):∃l,fs ρ=some l/\p l=some d:=by
 unfold cL at h;cases e1:fs ρ with
 |none=>rw[e1]at h;cases h
 |some l=>rw[e1]at h;exact⟨l,rfl,h⟩
def zU{x1}(h:FPs K true X es fs):FP K .fz X (.Tuple es x1 pos) (cL zS fs):=FP.mk λρ d hf=>by
 let⟨l,e1,e2⟩:=zcS hf;let⟨hz,rfl⟩:=kF e2;refine PE.imp (zso (h.h ρ l e1)) λσ H Q ⟨F,r,q⟩=>⟨F,r,λvs F1 H1 g1 r1=>⟨?_,λp hp=>?_⟩⟩
 ·rw[zD.length (K:=K) r1];exact vM hz
 ·have g:=zG.frozen (o:=.tup vs) g1.fh hp;exact q _ _ _ (g1.trans g) (Dat.tup (K:=K) qG (zD.mono g.ff r1))
def jJ(h:FPs K true X es fs):FP K .ow X (.List es pos) (cL jF fs):=FP.mk λρ d hf=>by
 let⟨l,e1,e2⟩:=zcS hf;let⟨hz,rfl⟩:=kF e2;refine PE.imp (zsv (h.h ρ l e1)) λσ H Q ⟨F,r,q⟩=>⟨F,r,λvs F1 H1 g1 r1=>⟨?_,λp hp=>?_⟩⟩
 ·rw[zD.length (K:=K) r1];exact vM hz
 ·exact q _ _ _ (g1.trans (zG.fresh g1.fh hp)) ⟨p,rfl,g1.hh.free hp,g1.fh.free hp,vs,qG,r1⟩
end
def vE(K:Fg)(X:Cx)(f:Value)(md:Md)(p:LO):Prop:=
 ∃r,kM X f r/\∀ds d F H vs Q,p ds=some d->zJ F H->zkF K F H ds vs->(∀w F' H',zG F H F' H'->Res K md H F' H' d w->Q w H')->r vs H Q
variable{y:Str}
section
variable{K:Fg}{X:Cx}{e:Expr}{es:U Expr}{f:EO D}{fs:EO (U D)}{pos p:Pos}{md:Md}{pf:LO}{x:Str}{id T:String}
def ziP{r:U V->Hp->VK->Prop}{d:D}(hr:∀F H vs Q,zJ F H->zkF K F H l vs->(∀w F' H',zG F H F' H'->Res K md H F' H' d w->Q w H')->r vs H Q)(σ:St)(H:Hp)(Q:VK)(h:rdE K md ρ d σ H Q):tCB r (rdA K false ρ l) σ H Q:=by
 let⟨F,rl,q⟩:=h;refine⟨F,rl,λvs F1 H1 g1 r1=>hr F1 H1 vs Q g1.fh r1 λw F2 H2 g2 r2=>?_⟩;refine q w F2 H2 (g1.trans g2) ?_;cases md with
 |fz=>exact r2
 |br=>exact r2
 |ow=>
  let⟨a,e,h1,h2,h3⟩:=r2;exact⟨a,e,g1.hh.free h1,h2,h3⟩
theorem zet(o:vE K X (.builtin id) md pf)(hg:Gl X x)(hm:X.mg x=none)(hv:bootBuiltins x=some (.builtin id))(ha:FPs K false X (e::es) fs)(hn:C0 (x≠"__name__"))(hdb:C0 (Y0 2))(he:B0 (starEach (e::es) X.env=(false,eval e X.env)::starEach es X.env))(hpl:B0 ((backTo pos (starEach es X.env)).any (·.1)=false)):FP K md X (.Call (.Name x p) (e::es) [] pos) (cL pf fs):=FP.mk λρ d hf=>by let⟨l,e1,e2⟩:=zcS hf;let⟨r,ho,hr⟩:=o;exact PE.imp (zfM ho hg hm hv (ha.h ρ l e1) hn hdb he hpl) (ziP λF H vs Q s h k=>hr l d F H vs Q e2 s h k)
def zdc(o:vE K X (.type T) md pf)(hg:Gl X x)(hm:X.mg x=none)(hv:bootBuiltins x=some (.type T))(ha:FPs K false X (e::es) fs)(hn:C0 (x≠"__name__"))(hdb:C0 (Y0 2))(he:B0 (starEach (e::es) X.env=(false,eval e X.env)::starEach es X.env))(hpl:B0 ((backTo pos (starEach es X.env)).any (·.1)=false)):FP K md X (.Call (.Name x p) (e::es) [] pos) (cL pf fs):=FP.mk λρ d hf=>by let⟨l,e1,e2⟩:=zcS hf;let⟨r,ho,hr⟩:=o;exact PE.imp (zlO ho hg hm hv (ha.h ρ l e1) hn hdb he hpl) (ziP λF H vs Q s h k=>hr l d F H vs Q e2 s h k)
def zkF.one{d:D}{vs:U V}(h:zkF K F H [d] vs):∃v,vs=[v]/\zV K F H d v:=by let⟨v,r,rfl,h1,rfl⟩:=h;exact⟨v,rfl,h1⟩
noncomputable def qO:LO
 |[.lst l]=>some (.int l.length)
 |[.tup l]=>some (.int l.length)
 |[.scr l]=>some (.int l.length)
 |[.str z]=>if z.length<=lim then some (.int z.length)else none
 |_=>none
def zuX(hK:B0 (X.K=K)):vE K X (.builtin "len") .fz qO:=by
 subst hK;refine⟨_,kM.or zhq zhp,λds d F H vs Q e s h k=>?_⟩;unfold qO at e;split at e
 ·let⟨v,rfl,h1⟩:=h.one;cases e
  let⟨a,vs,rfl,f,q⟩:=h1.lst_inv;refine .inl ⟨a,vs,rfl,.inl (SqL.of f),?_⟩;rw[q.length];exact k _ F H (zG.refl s) (Res.int _)
 ·let⟨v,rfl,h1⟩:=h.one;cases e
  let⟨a,vs,rfl,f,q⟩:=h1.tup_inv;refine .inl ⟨a,vs,rfl,.inr (SqT.of (s _ _ f)),?_⟩;rw[q.length];exact k _ F H (zG.refl s) (Res.int _)
 ·let⟨v,rfl,h1⟩:=h.one;cases e
  let⟨a,rfl,f⟩:=h1.scr_inv;refine .inl ⟨a,_,rfl,.inl (zJ.seq s f),?_⟩;rw[Jc];exact k _ F H (zG.refl s) (Res.int _)
 ·let⟨v,rfl,h1⟩:=h.one;let⟨hz,rfl⟩:=kF e;rw[h1.str_inv];exact .inr ⟨_,rfl,vM hz,k _ F H (zG.refl s) (Res.int _)⟩
 ·cases e
noncomputable def gE:LO
 |[.lst l]=>some (.tup l)
 |[.tup l]=>some (.tup l)
 |_=>none
theorem zgl(hK:B0 (X.K=K)):vE K X (.type "tuple") .fz gE:=by
 subst hK;refine⟨_,zgj,λds d F H vs Q e s h k=>?_⟩;unfold gE at e;split at e
 ·let⟨v,rfl,h1⟩:=h.one;cases e
  let⟨a,vs,rfl,f,q⟩:=h1.lst_inv;refine⟨a,vs,rfl,.inl ⟨SqL.of f,λp hp=>?_⟩⟩;have g:=zG.frozen (o:=.tup vs) s hp;exact k _ _ _ g (Dat.tup qG (q.mono g.ff))
 ·let⟨v,rfl,h1⟩:=h.one;cases e
  let⟨a,vs,rfl,f,q⟩:=id h1.tup_inv;exact⟨a,vs,rfl,.inr ⟨SqT.of (s _ _ f),k _ F H (zG.refl s) h1⟩⟩
 ·cases e
noncomputable def zkk:LO
 |[.lst l]=>some (.lst l)
 |[.tup l]=>some (.lst l)
 |_=>none
def ztJ(hK:B0 (X.K=K)):vE K X (.type "list") .ow zkk:=by
 refine⟨_,zho,λds d F H vs Q e s h k=>?_⟩;unfold zkk at e;split at e
 ·let⟨v,rfl,h1⟩:=h.one;cases e
  let⟨a,vs,rfl,f,q⟩:=h1.lst_inv;exact⟨a,vs,rfl,.inl (SqL.of f),λp hp=>k _ _ _ (zG.fresh s hp) ⟨p,rfl,hp,s.free hp,vs,qG,q⟩⟩
 ·let⟨v,rfl,h1⟩:=h.one;cases e
  let⟨a,vs,rfl,f,q⟩:=h1.tup_inv;exact⟨a,vs,rfl,.inr (SqT.of (s _ _ f)),λp hp=>k _ _ _ (zG.fresh s hp) ⟨p,rfl,hp,s.free hp,vs,qG,q⟩⟩
 ·cases e
def zsJ(ns:U Int):Prop:=(∀n∈ns,0<=n)/\ns.sum<2^62
open Classical in
noncomputable def sumD:LO
 |[.lst l]=>(kL l).bind λns=>if zsJ ns then some (.int ns.sum)else none
 |_=>none
def zuW(hc:X.calm=true)(hK:B0 (X.K=K)):vE K X (.builtin "sum") .fz sumD:=by
 refine⟨_,znf hc,λds d F H vs Q e s h k=>?_⟩;unfold sumD at e;split at e
 ·rename_i l;cases e1:kL l with
  |none=>rw[e1]at e;cases e
  |some ns=>
   rw[e1]at e;let⟨hz,rfl⟩:=kF e;let⟨v,rfl,h1⟩:=h.one;rw[zaz e1]at h1;let⟨a,vs,rfl,f,q⟩:=h1.lst_inv;rw[q.ints]at f;exact⟨a,ns,rfl,SqL.of f,zjO hz.1 hz.2,k _ F H (zG.refl s) (Res.int _)⟩
 ·cases e
noncomputable def intD:LO
 |[.int i]=>some (.int i)
 |[.bl k]=>some (.int (if k then 1 else 0))
 |_=>none
def zuY:vE K X (.type "int") .fz intD:=by
 refine⟨_,znh,λds d F H vs Q e s h k=>?_⟩;unfold intD at e;split at e
 ·let⟨v,rfl,h1⟩:=h.one;cases e
  rw[h1.int_inv];exact .inl ⟨_,rfl,k _ F H (zG.refl s) (Res.int _)⟩
 ·let⟨v,rfl,h1⟩:=h.one;cases e
  rw[h1.bl_inv];exact .inr ⟨_,rfl,k _ F H (zG.refl s) (Res.int _)⟩
 ·cases e
noncomputable def tyN:D->Option String
 | .non=>some "NoneType"
 | .bl _=>some "bool"
 | .int _=>some "int"
 | .str _=>some "str"
 | .tup _=>some "tuple"
 | .lst _=>some "list"
 | .dic _ _=>some "dict"
 |_=>none
noncomputable def isiB(k T:String):Bool:=k==T||(k=="bool"&&T=="int")
def zqU(K:Fg):(["NoneType","bool","int","str","tuple","list","dict"].all λk=>["bool","int","str","tuple","list","dict"].all λT=>PySem.W.kitOne K (.type k) (.type T)==some (isiB k T))=true:=by kernel_rfl
def zsZ(K:Fg){k T:String}(hk:k∈["NoneType","bool","int","str","tuple","list","dict"])(hT:T∈["bool","int","str","tuple","list","dict"]):PySem.W.kitOne K (.type k) (.type T)=some (isiB k T):=by have h:=JU.mp (zqU K) k hk;exact eq_of_beq (JU.mp h T hT)
noncomputable def xX(T:String)(x:D):Option D:=(tyN x).map λk=>.bl (isiB k T)
def zqf{d:D}{k:String}(h:tyN d=some k):k∈["NoneType","bool","int","str","tuple","list","dict"]:=by cases d<;>simp only[tyN]at h<;>cases h<;>decide
def zrA{d:D}{k:String}(s:zJ F H)(h:zV K F H d v)(e:tyN d=some k):xT K H v (.type k):=by
 cases d<;>simp only[tyN]at e<;>cases e
 ·rw[h.non_inv];exact .non
 ·rw[h.bl_inv];exact .bl _
 ·rw[h.int_inv];exact .int _
 ·rw[h.str_inv];exact .str _
 ·let⟨a,vs,rfl,f,_⟩:=h.tup_inv;exact .tup (s _ _ f)
 ·let⟨a,vs,rfl,f,_⟩:=h.lst_inv;exact .lst f
 ·let⟨a,vs,rfl,f,_⟩:=h.dic_inv;rcases f with(⟨p5,f,_⟩|⟨p5,ys,f,_⟩)|⟨o,⟨p5,f,_⟩|⟨p5,ys,f,_⟩⟩
  ·exact .dK (.inl f)
  ·exact .dT (.inl f)
  ·exact .dK (.inr ⟨o,f⟩)
  ·exact .dT (.inr ⟨o,f⟩)
def fisi{a:Expr}{fa:EO D}{T:String}{p2:Pos}(ha:FP K .br X a fa)(hg:Gl X "isinstance")(hm:X.mg "isinstance"=none)(hgT:Gl X y)(hmT:X.mg y=none)(hv:bootBuiltins y=some (.type T))(hT:C0 (T∈["bool","int","str","tuple","list","dict"]))(hn:C0 (y≠"__name__"))(hd:C0 ((y==("__debug__":Str))=false))(he:B0 (starEach [a,.Name y p2] X.env=(false,eval a X.env)::starEach [.Name y p2] X.env))(he2:B0 (starEach [.Name y p2] X.env=[(false,eval (.Name y p2) X.env)]))(hpl:B0 ((backTo pos (starEach [.Name y p2] X.env)).any (·.1)=false))(hK:B0 (X.K=K)):
  FP K .fz X (.Call (.Name "isinstance" p) [a,.Name y p2] [] pos) (c1 (xX T) fa):=FP.mk λρ d hf=>by
 subst hK;let⟨x,e1,e2⟩:=ziv hf;unfold xX at e2;cases e3:tyN x with
 |none=>simp_all
 |some k=>
  rw[e3]at e2;cases e2
  refine PE.imp (zfM zpg hg hm boot_isinstance (yA (ha.h ρ x e1) (yA (zqE (v:=.ty T) hgT hmT hv rfl hn hd) xG he2) he) (by decide) (by decide) he hpl) λσ H Q h_=>?_
  let⟨F,rl,q⟩:=h_;refine⟨F,rl,λv F1 H1 g1 r1=>⟨v,T,_,_,rfl,zrA g1.fh r1 e3,zsZ X.K (zqf e3) hT,q _ F1 H1 g1 (Res.bl _)⟩⟩
end
noncomputable def rdTp(K:Fg)(ρ:En)(b:Bool):TT:=λσ H Q=>∃F,Rel K F H ρ σ/\∀F' H',zG F H F' H'->Q b H'
structure FTp(K:Fg)(X:Cx)(e:Expr)(f:EO Bool):Prop where
 h:∀ρ b,f ρ=some b->PT X e (rdTp K ρ b)
structure FWp(K:Fg)(X:Cx)(e:Expr)(f:EO Bool):Prop where
 h:∀ρ b,f ρ=some b->PW X e (rdTp K ρ b)
noncomputable def rdT(K:Fg)(ρ:En)(b:Bool)(ρ':En):TT:=λσ H Q=>∃F,Rel K F H ρ σ/\∀F' H',Rel K F' H' ρ' σ->jE ρ σ F H ρ' σ F' H'->Q b H'
structure FT(K:Fg)(X:Cx)(e:Expr)(m:EO (Bool×En)):Prop where
 h:∀ρ b ρ',m ρ=some (b,ρ')->PT X e (rdT K ρ b ρ')
structure FW(K:Fg)(X:Cx)(e:Expr)(m:EO (Bool×En)):Prop where
 h:∀ρ b ρ',m ρ=some (b,ρ')->PW X e (rdT K ρ b ρ')
noncomputable def cT(f:EO D):EO Bool:=λρ=>match f ρ with
 |some (.bl b)=>some b
 |_=>none
noncomputable def andP(f g:EO Bool):EO Bool:=λρ=>(f ρ).bind λb=>if b=true then g ρ else some false
noncomputable def orP(f g:EO Bool):EO Bool:=λρ=>(f ρ).bind λb=>if b=true then some true else g ρ
noncomputable def vL(f:EO Bool):EO Bool:=λρ=>(f ρ).map λb=>!b
noncomputable def upT(f:EO Bool):EO (Bool×En):=λρ=>(f ρ).map λb=>(b,ρ)
noncomputable def andM(f g:EO (Bool×En)):EO (Bool×En):=λρ=>(f ρ).bind λp=>if p.1=true then g p.2 else some (false,p.2)
def ziu{b:Bool}(h:cT f ρ=some b):f ρ=some (.bl b):=by
 unfold cT at h;split at h
 ·rename_i e;cases h;exact e
 ·cases h
def znp{f g:EO Bool}{b:Bool}(h:andP f g ρ=some b):(f ρ=some true/\g ρ=some b)\/(f ρ=some false/\b=false):=by
 unfold andP at h;cases e:f ρ with
 |none=>rw[e]at h;cases h
 |some c=>
  rw[e]at h;cases c with
  |true=>exact .inl ⟨rfl,h⟩
  |false=>exact .inr ⟨rfl,(Option.some.inj h).symm⟩
def zoq{f g:EO Bool}{b:Bool}(h:orP f g ρ=some b):(f ρ=some false/\g ρ=some b)\/(f ρ=some true/\b=true):=by
 unfold orP at h;cases e:f ρ with
 |none=>rw[e]at h;cases h
 |some c=>
  grind
def zfR:PW X e (λ_ _ _=>False):=λ_ _ _ _ _ _ _ h=>h.elim
def zje:PE X e (λ_ _ _=>False):=λ_ _ _ _ _ _ h=>h.elim
variable{op:CmpOp}
section
variable{K:Fg}{X:Cx}{a b e:Expr}{rest:U Expr}{fa fb f:EO D}{pos:Pos}{p:D->D->Option D}{t u:EO Bool}{m n:EO (Bool×En)}
def tcmp(o:Op2 K X (compareOp op) .fz p)(ha:FP K .br X a fa)(hb:FP K .br X b fb)(hm:behindInMarks op b=false):FTp K X (.Compare a [op] [b] pos) (cT (c2 p fa fb)):=FTp.mk λρ c hf=>by
 let⟨x,y,e1,e2,e3⟩:=wC (ziu hf);let⟨r,ho,hr⟩:=o;refine PT.imp (zhK ho (ha.h ρ x e1) (hb.h ρ y e2) hm) λσ H Q h_=>?_
 let⟨F,rl,q⟩:=h_;refine two (ta:=λ_ _ _=>True) (tb:=λ_ _ _=>True) (ha.h ρ x e1) (hb.h ρ y e2) (λF H v u Q s h1 h2 k=>hr x y _ F H v u Q e3 s h1 h2 k) σ H _ ⟨F,rl,λv F' H' g h=>⟨c,Dat.bl_inv (K:=K) (F:=F') h,q F' H' g⟩⟩
def ztU(o:Op2f K X (compareOp op) p)(ha:FP K .fz X a fa)(hb:FP K .br X b fb)(hm:behindInMarks op b=false):FTp K X (.Compare a [op] [b] pos) (cT (c2 p fa fb)):=FTp.mk λρ c hf=>by
 let⟨x,y,e1,e2,e3⟩:=wC (ziu hf);let⟨r,ho,hr⟩:=o;refine PT.imp (zhK ho (ha.h ρ x e1) (hb.h ρ y e2) hm) λσ H Q h_=>?_
 let⟨F,rl,q⟩:=h_;exact zrB (ha.h ρ x e1) (hb.h ρ y e2) (λF H v u Q s h1 h2 k=>hr x y _ F H v u Q e3 s h1 h2 k) σ H _ ⟨F,rl,λv F' H' g h=>⟨c,Dat.bl_inv (K:=K) (F:=F') h,q F' H' g⟩⟩
def jZ(h:FP K .fz X e f)(he:G0 (∀whole,isTrue e X.env whole=(do let v ←whole;standAt e.pos;holding [v] (truthy v)))):FTp K X e (cT f):=FTp.mk λρ c hf=>
 PT.imp (zse (h.h ρ _ (ziu hf)) he) λσ H Q ⟨F,rl,q⟩=>⟨F,rl,λv F' H' g h=>⟨c,Dat.bl_inv (K:=K) (F:=F') h,q F' H' g⟩⟩
noncomputable def truD:D->Option Bool
 | .non=>some false
 | .bl b=>some b
 | .int i=>some (i !=0)
 | .str z=>if z.length<=lim then some ((z.length:Int)!=0)else none
 | .lst l=>some (!l.isEmpty)
 | .tup l=>some (!l.isEmpty)
 |_=>none
noncomputable def cTr(f:EO D):EO Bool:=λρ=>(f ρ).bind truD
def zD.empty{vs:U V}(q:zD K F l vs):vs.isEmpty=l.isEmpty:=by have:=q.length;cases l<;>cases vs<;>simp at this ⊢
def ttru(h:FP K .br X e f)(he:G0 (∀whole,isTrue e X.env whole=(do let v ←whole;standAt e.pos;holding [v] (truthy v))))(hK:B0 (X.K=K)):FTp K X e (cTr f):=FTp.mk λρ c hf=>by
 subst hK;unfold cTr at hf;cases e1:f ρ with
 |none=>rw[e1]at hf;cases hf
 |some d=>
  rw[e1]at hf;have hf:truD d=some c:=hf;refine PT.imp (znZ (h.h ρ d e1) he) λσ H Q ⟨F,rl,q⟩=>⟨F,rl,λv F' H' g h=>⟨c,?_,q F' H' g⟩⟩
  have h:zV X.K F' H' d v:=h;cases d<;>simp only[truD]at hf<;>try(cases hf;done)
  ·cases hf;rw[h.non_inv];rfl
  ·cases hf;rw[h.bl_inv];rfl
  ·cases hf;rw[h.int_inv];rfl
  ·let⟨hz,rfl⟩:=kF hf;rw[h.str_inv];exact⟨vM hz,rfl⟩
  ·cases hf
   let⟨a,vs,rfl,f,q⟩:=h.tup_inv;exact .inr (.inl ⟨vs,SqT.of (g.fh _ _ f),by rw[q.empty]⟩)
  ·cases hf
   let⟨a,vs,rfl,f,q⟩:=h.lst_inv;exact .inl ⟨vs,SqL.of f,by rw[q.empty]⟩
def zrD(h:FTp K X a t):FWp K X (.BoolOp .And [a] pos) t:=FWp.mk λρ c hf=>zlz (h.h ρ c hf)
def nF(h:FTp K X a t):FWp K X (.BoolOp .Or [a] pos) t:=FWp.mk λρ c hf=>zsc (h.h ρ c hf)
def tand(h1:FTp K X a t)(h2:FWp K X (.BoolOp .And (b::rest) pos) u):FWp K X (.BoolOp .And (a::b::rest) pos) (andP t u):=FWp.mk λρ c hf=>by
 rcases znp hf with⟨e1,e2⟩|⟨e1,rfl⟩
 ·exact PW.imp (ziR (h1.h ρ _ e1) (h2.h ρ c e2)) λσ H Q ⟨F,rl,q⟩=>⟨F,rl,λF1 H1 g1=>wP ⟨F1,rl.grow g1,λF2 H2 g2=>q F2 H2 (g1.trans g2)⟩⟩
 ·exact PW.imp (ziR (h1.h ρ _ e1) zfR) λσ H Q ⟨F,rl,q⟩=>⟨F,rl,λF1 H1 g1=>wQ (q F1 H1 g1)⟩
def tor(h1:FTp K X a t)(h2:FWp K X (.BoolOp .Or (b::rest) pos) u):FWp K X (.BoolOp .Or (a::b::rest) pos) (orP t u):=FWp.mk λρ c hf=>by
 rcases zoq hf with⟨e1,e2⟩|⟨e1,rfl⟩
 ·exact PW.imp (zsd (h1.h ρ _ e1) (h2.h ρ c e2)) λσ H Q ⟨F,rl,q⟩=>⟨F,rl,λF1 H1 g1=>wQ ⟨F1,rl.grow g1,λF2 H2 g2=>q F2 H2 (g1.trans g2)⟩⟩
 ·exact PW.imp (zsd (h1.h ρ _ e1) zfR) λσ H Q ⟨F,rl,q⟩=>⟨F,rl,λF1 H1 g1=>wP (q F1 H1 g1)⟩
theorem FWp.pt(h:FWp K X e t):FTp K X e t:=FTp.mk λρ c hf=>(h.h ρ c hf).pt
def tnot(h:FTp K X a t):FTp K X (.UnaryOp .Not a pos) (vL t):=FTp.mk λρ c hf=>by
 unfold vL at hf;cases e1:t ρ with
 |none=>rw[e1]at hf;cases hf
 |some d=>
  rw[e1]at hf;cases hf
  exact PT.imp (zsf (h.h ρ d e1)) λσ H Q ⟨F,rl,q⟩=>⟨F,rl,λF1 H1 g1=>q F1 H1 g1⟩
def FTp.up(h:FTp K X e t):FT K X e (upT t):=FT.mk λρ c ρ' hf=>by
 unfold upT at hf;cases e1:t ρ with
 |none=>rw[e1]at hf;cases hf
 |some d=>
  rw[e1]at hf;cases hf
  exact PT.imp (h.h ρ c e1) λσ H Q ⟨F,rl,q⟩=>⟨F,rl,λF1 H1 g1=>q F1 H1 (rl.grow g1) g1.step⟩
def zuF(h:FT K X a m):FW K X (.BoolOp .And [a] pos) m:=FW.mk λρ c ρ' hf=>zlz (h.h ρ c ρ' hf)
def mand(h1:FT K X a m)(h2:FW K X (.BoolOp .And (b::rest) pos) n):FW K X (.BoolOp .And (a::b::rest) pos) (andM m n):=FW.mk λρ c ρ' hf=>by
 unfold andM at hf;cases e1:m ρ with
 |none=>rw[e1]at hf;cases hf
 |some q1=>
  let⟨b1,ρ1⟩:=q1;rw[e1]at hf;cases b1 with
  |true=>
   exact PW.imp (ziR (h1.h ρ _ _ e1) (h2.h ρ1 c ρ' hf)) λσ H Q ⟨F,rl,q⟩=>⟨F,rl,λF1 H1 r1 s1=>wP ⟨F1,r1,λF2 H2 r2 s2=>q F2 H2 r2 (s1.trans s2 rl.sub)⟩⟩
  |false=>
   cases hf
   exact PW.imp (ziR (h1.h ρ _ _ e1) zfR) λσ H Q ⟨F,rl,q⟩=>⟨F,rl,λF1 H1 r1 s1=>wQ (q F1 H1 r1 s1)⟩
theorem FW.pt(h:FW K X e m):FT K X e m:=FT.mk λρ c ρ' hf=>(h.h ρ c ρ' hf).pt
noncomputable def andV(f g:EO D):EO D:=λρ=>match f ρ with
 |some (.bl true)=>g ρ
 |some (.bl false)=>some (.bl false)
 |_=>none
noncomputable def orV(f g:EO D):EO D:=λρ=>match f ρ with
 |some (.bl true)=>some (.bl true)
 |some (.bl false)=>g ρ
 |_=>none
def vone{op}(h:FP K .fz X a f):FP K .fz X (.BoolOp op [a] pos) f:=FP.mk λρ d hf=>zst (h.h ρ d hf)
def vand(h1:FP K .fz X a fa)(h2:FP K .fz X (.BoolOp .And (b::rest) pos) fb):FP K .fz X (.BoolOp .And (a::b::rest) pos) (andV fa fb):=FP.mk λρ d hf=>by
 unfold andV at hf;split at hf
 ·rename_i e1;exact PE.imp (zpE (h1.h ρ _ e1) (h2.h ρ d hf)) λσ H Q ⟨F,rl,q⟩=>⟨F,rl,λv F1 H1 g1 r1=>⟨true,Dat.bl_inv (K:=K) (F:=F1) r1,wP ⟨F1,rl.grow g1,λu F2 H2 g2 r2=>q u F2 H2 (g1.trans g2) r2⟩⟩⟩
 ·rename_i e1;cases hf
  exact PE.imp (zpE (h1.h ρ _ e1) zje) λσ H Q ⟨F,rl,q⟩=>⟨F,rl,λv F1 H1 g1 r1=>⟨false,Dat.bl_inv (K:=K) (F:=F1) r1,wQ (q _ F1 H1 g1 (Res.bl false))⟩⟩
 ·cases hf
def vor(h1:FP K .fz X a fa)(h2:FP K .fz X (.BoolOp .Or (b::rest) pos) fb):FP K .fz X (.BoolOp .Or (a::b::rest) pos) (orV fa fb):=FP.mk λρ d hf=>by
 unfold orV at hf;split at hf
 ·rename_i e1;cases hf
  exact PE.imp (zss (h1.h ρ _ e1) zje) λσ H Q ⟨F,rl,q⟩=>⟨F,rl,λv F1 H1 g1 r1=>⟨true,Dat.bl_inv (K:=K) (F:=F1) r1,wP (q _ F1 H1 g1 (Res.bl true))⟩⟩
 ·rename_i e1;exact PE.imp (zss (h1.h ρ _ e1) (h2.h ρ d hf)) λσ H Q ⟨F,rl,q⟩=>⟨F,rl,λv F1 H1 g1 r1=>⟨false,Dat.bl_inv (K:=K) (F:=F1) r1,wQ ⟨F1,rl.grow g1,λu F2 H2 g2 r2=>q u F2 H2 (g1.trans g2) r2⟩⟩⟩
 ·cases hf
noncomputable def vS:D->Option D
 | .int i=>some (.int (-i))
 |_=>none
def fneg(h:FP K .fz X a fa):FP K .fz X (.UnaryOp .USub a pos) (c1 vS fa):=FP.mk λρ d hf=>by
 let⟨x,e1,e2⟩:=ziv hf;cases x<;>simp only[vS]at e2<;>try(cases e2;done)
 cases e2
 exact PE.imp (zuu zrz (h.h ρ _ e1)) λσ H Q ⟨F,rl,q⟩=>⟨F,rl,λv F1 H1 g1 r1=>⟨_,Dat.int_inv (K:=K) (F:=F1) r1,q _ F1 H1 g1 (Res.int _)⟩⟩
end
open L2 FX
def ExcD(K:Fg)(F:Hp)(c:Str)(d:D)(C da:Addr):Prop:=∃u,PySem.W.nsIn K mainGlobals c=some (some (.ref C))/\F da=some (.xd [(zoP c,u)])/\Dat K F d u
def Wish(X:Cx)(σ:St)(C da:Addr)(H:Hp):Prop:=∀(p4:AO) (a:Addr) (tb:Option Addr) (s:Shared),Inv X p4 σ H s->Fly s.heap a (.ref C) (some da) tb .none->kS X p4 H a->(∀T,tb=some T->kS X p4 H T)->X.xe (.ref a) s
variable{a:Addr}{j:Nat}{sl:Option Sl}{ρ2:En}{σ2:St}
section
variable{K:Fg}{F H F' H':Hp}{ρ ρ':En}{σ σ':St}{i:Nat}
def qW{l:List α}{i:Nat}{x y:α}(h:(l.set i x)[j]?=some y):(j=i/\y=x)\/(j≠i/\l[j]?=some y):=by
 by_cases e:j=i
 ·subst e;rw[List.getElem?_set]at h;simp at h;exact .inl ⟨rfl,h.2.symm⟩
 ·rw[List.getElem?_set_ne (Ne.symm e)]at h;exact .inr ⟨e,h⟩
def zfI{l:List α}{i:Nat}{x:α}(h:i<l.length):(l.set i x)[i]?=some x:=by simp[h]
def zlk{l:List α}{i:Nat}{x y:α}(h:(l.set i x)[i]?=some y):i<l.length:=by have:=(List.getElem?_eq_some_iff.mp h).1;simpa using this
def Rel.setD(r:Rel K F H ρ σ){d:D}(h:Dat K F d v):Rel K F H (ρ.set i (some (.dat d))) (σ.set i (some v)):=by
 refine⟨r.sub,λj x e=>?_,λj x e=>?_,λj q x e=>?_,λj k q x s a ne e1 e2 e3 e4=>?_,by simp[r.len]⟩
 ·rcases qW e with⟨rfl,e'⟩|⟨ne,e'⟩
  ·cases e'
   exact⟨v,zfI (by rw[←r.len];exact zlk e),h⟩
  ·rw[List.getElem?_set_ne (Ne.symm ne)];exact r.dat j x e'
 ·rcases qW e with⟨rfl,e'⟩|⟨ne,e'⟩
  ·cases e'
  ·rw[List.getElem?_set_ne (Ne.symm ne)];exact r.bor j x e'
 ·rcases qW e with⟨rfl,e'⟩|⟨ne,e'⟩
  ·cases e'
  ·rw[List.getElem?_set_ne (Ne.symm ne)];exact r.own j q x e'
 ·rcases qW e1 with⟨rfl,e'⟩|⟨ne1,e1'⟩
  ·cases e'
  ·rcases qW e3 with⟨rfl,e'⟩|⟨ne3,e3'⟩
   ·cases e';cases e4
   ·rw[List.getElem?_set_ne (Ne.symm ne1)]at e2;rw[List.getElem?_set_ne (Ne.symm ne3)];exact r.inj j k q x s a ne e1' e2 e3' e4
def Rel.setN(r:Rel K F H ρ σ){v:Option V}:Rel K F H (ρ.set i none) (σ.set i v):=by
 refine⟨r.sub,λj x e=>?_,λj x e=>?_,λj q x e=>?_,λj k q x s a ne e1 e2 e3 e4=>?_,by simp[r.len]⟩
 ·rcases qW e with⟨rfl,e'⟩|⟨ne,e'⟩
  ·cases e'
  ·rw[List.getElem?_set_ne (Ne.symm ne)];exact r.dat j x e'
 ·rcases qW e with⟨rfl,e'⟩|⟨ne,e'⟩
  ·cases e'
  ·rw[List.getElem?_set_ne (Ne.symm ne)];exact r.bor j x e'
 ·rcases qW e with⟨rfl,e'⟩|⟨ne,e'⟩
  ·cases e'
  ·rw[List.getElem?_set_ne (Ne.symm ne)];exact r.own j q x e'
 ·rcases qW e1 with⟨rfl,e'⟩|⟨ne1,e1'⟩
  ·cases e'
  ·rcases qW e3 with⟨rfl,e'⟩|⟨ne3,e3'⟩
   ·cases e'
   ·rw[List.getElem?_set_ne (Ne.symm ne1)]at e2;rw[List.getElem?_set_ne (Ne.symm ne3)];exact r.inj j k q x s a ne e1' e2 e3' e4
def Rel.drop(r:Rel K F H ρ σ):Rel K F H (ρ.set i none) σ:=by
 by_cases hi:i<σ.length
 ·have h:=r.setN (i:=i) (v:=σ[i]);simp_all
 grind [List.set_eq_of_length_le,len]
def Rel.setO(r0:Rel K F H ρ σ)(g:zG F H F' H'){d:D}(hn:H a=none)(hf:F' a=none)(ho:Own K F' H' d a)(nb:∀(j:Nat) (s:Sl),ρ[j]?=some (some s)->s.isDat=false->∃q x,s=.ow q x):
  Rel K F' H' (ρ.set i (some (.own d))) (σ.set i (some (.ref a))):=by
 have r:=r0.grow g;have nf:∀(j:Nat) s,ρ[j]?=some (some s)->s.isDat=false->σ[j]?≠some (some (.ref a)):=λj s e hs z=>by let⟨q,x,rfl⟩:=nb j s e hs;let⟨b,e1,_,e3⟩:=r0.own j q x e;grind [Own.some]
 refine⟨r.sub,λj x e=>?_,λj x e=>?_,λj q x e=>?_,λj k q x s c ne e1 e2 e3 e4=>?_,by simp[r.len]⟩
 ·rcases qW e with⟨rfl,e'⟩|⟨ne,e'⟩
  ·cases e'
  ·rw[List.getElem?_set_ne (Ne.symm ne)];exact r.dat j x e'
 ·rcases qW e with⟨rfl,e'⟩|⟨ne,e'⟩
  ·cases e'
  ·rw[List.getElem?_set_ne (Ne.symm ne)];exact r.bor j x e'
 ·rcases qW e with⟨rfl,e'⟩|⟨ne,e'⟩
  ·cases e'
   exact⟨a,zfI (by rw[←r.len];exact zlk e),hf,ho⟩
  ·rw[List.getElem?_set_ne (Ne.symm ne)];exact r.own j q x e'
 ·rcases qW e1 with⟨rfl,e1'⟩|⟨ne1,e1'⟩
  ·grind
  ·rw[List.getElem?_set_ne (Ne.symm ne1)]at e2;rcases qW e3 with⟨rfl,e3'⟩|⟨ne3,e3'⟩
   ·rw[zfI (by rw[←r.len];exact zlk e3)];intro z;cases z
    exact nf j _ e1' rfl e2
   ·rw[List.getElem?_set_ne (Ne.symm ne3)];exact r.inj j k q x s c ne e1' e2 e3' e4
def zeb{v:Option V}{b:Addr}(h:xH (ρ.set i sl) (σ.set i v) b):(∃q d,sl=some (.ow q d)/\v=some (.ref b))\/xH ρ σ b:=by
 let⟨j,q,d,e1,e2⟩:=h;rcases qW e1 with⟨rfl,e1'⟩|⟨ne,e1'⟩
 ·rcases qW e2 with⟨_,e2'⟩|⟨ne,_⟩
  ·exact .inl ⟨q,d,e1'.symm,e2'.symm⟩
  ·exact absurd rfl ne
 ·rw[List.getElem?_set_ne (Ne.symm ne)]at e2;exact .inr ⟨j,q,d,e1',e2⟩
def zfb{b:Addr}(h:xH (ρ.set i none) σ b):xH ρ σ b:=by
 let⟨j,q,d,e1,e2⟩:=h;rcases qW e1 with⟨rfl,e1'⟩|⟨ne,e1'⟩
 ·cases e1'
 ·exact⟨j,q,d,e1',e2⟩
structure Kp(ρ:En)(σ:St)(ρ':En)(σ':St):Prop where
 own:∀b,xH ρ' σ' b->xH ρ σ b
 pin:∀(i:Nat) (d':D),ρ'[i]?=some (some (.ow true d'))->∃d,ρ[i]?=some (some (.ow true d))/\σ'[i]?=σ[i]?
def Kp.refl:Kp ρ σ ρ σ:=⟨λ_ h=>h,λ_ d e=>⟨d,e,rfl⟩⟩
theorem Kp.trans(a:Kp ρ σ ρ' σ')(b:Kp ρ' σ' ρ2 σ2):Kp ρ σ ρ2 σ2:=⟨λc h=>a.own c (b.own c h),λi d e=>by let⟨d1,e1,e2⟩:=b.pin i d e;let⟨d2,e3,e4⟩:=a.pin i d1 e1;exact⟨d2,e3,e2.trans e4⟩⟩
def zhO{v:Option V}(hs:∀d,sl≠some (.ow true d)):∀(j:Nat) (d':D),(ρ.set i sl)[j]?=some (some (.ow true d'))->∃d,ρ[j]?=some (some (.ow true d))/\(σ.set i v)[j]?=σ[j]?:=λj d' e=>by
 rcases qW e with⟨rfl,e'⟩|⟨ne,e'⟩
 ·exact absurd e'.symm (hs d')
 ·exact⟨d',e',List.getElem?_set_ne (Ne.symm ne)⟩
def ziY:∀(j:Nat) (d':D),(ρ.set i none)[j]?=some (some (.ow true d'))->∃d,ρ[j]?=some (some (.ow true d))/\σ[j]?=σ[j]?:=λj d' e=>by
 rcases qW e with⟨rfl,e'⟩|⟨ne,e'⟩
 ·cases e'
 ·exact⟨d',e',rfl⟩
def Kp.setD{d:D}{v:Option V}:Kp ρ σ (ρ.set i (some (.dat d))) (σ.set i v):=⟨λb z=>by
 rcases zeb z with⟨_,_,z,_⟩|z
 ·cases z
 ·exact z,zhO λd h=>by cases h⟩
def jE.kp(a:jE ρ σ F H ρ' σ' F' H')(k:Kp ρ' σ' ρ2 σ2):jE ρ σ F H ρ2 σ2 F' H':=⟨a.ff,a.rest,λb z=>a.own b (k.own b z),λi d e=>by let⟨d1,e1,e2⟩:=k.pin i d e;let⟨d2,e3,e4⟩:=a.pin i d1 e1;exact⟨d2,e3,e2.trans e4⟩,a.fh⟩
end
inductive Fl where
 |nx (ρ:En)|rt (d:D) (ρ:En)|bk (ρ:En)|ct (ρ:En)|rs (c:Str) (d:D) (ρ:En)
def ResR(K:Fg)(md:Md)(ρ:En)(σ:St)(H F' H':Hp)(d:D)(v:V):Prop:=match md with
 | .fz=>Dat K F' d v
 | .ow=>∃a,v=.ref a/\(H a=none\/xH ρ σ a)/\F' a=none/\Own K F' H' d a
 | .br=>False
noncomputable def rdS(X:Cx)(K:Fg)(md:Md)(ρ:En)(fl:Fl):TS:=λD σ H=>∃F,Rel K F H ρ σ/\match fl with
 | .nx ρ'=>∀σ' F' H',Rel K F' H' ρ' σ'->jE ρ σ F H ρ' σ' F' H'->D.nx σ' H'
 | .bk ρ'=>∀σ' F' H',Rel K F' H' ρ' σ'->jE ρ σ F H ρ' σ' F' H'->D.bk σ' H'
 | .ct ρ'=>∀σ' F' H',Rel K F' H' ρ' σ'->jE ρ σ F H ρ' σ' F' H'->D.ct σ' H'
 | .rt d ρ'=>∀v σ' F' H',Rel K F' H' ρ' σ'->jE ρ σ F H ρ' σ' F' H'->ResR K md ρ σ H F' H' d v->D.rt v H'
 | .rs c d ρ'=>∀σ' F' H' C da,Rel K F' H' ρ' σ'->jE ρ σ F H ρ' σ' F' H'->ExcD K F' c d C da->Wish X σ' C da H'
structure FS(K:Fg)(md:Md)(X:Cx)(st:Stmt)(m:EO Fl):Prop where
 h:∀ρ fl,m ρ=some fl->PS X st (rdS X K md ρ fl)
structure FSs(K:Fg)(md:Md)(X:Cx)(sts:U Stmt)(m:EO Fl):Prop where
 h:∀ρ fl,m ρ=some fl->PSs X sts (rdS X K md ρ fl)
noncomputable def nxM:EO Fl:=λρ=>some (.nx ρ)
noncomputable def zF(m n:EO Fl):EO Fl:=λρ=>match m ρ with
 |some (.nx ρ1)=>n ρ1
 |r=>r
variable{ρ':En}{σ σ':St}{F' H':Hp}
theorem ResR.back{F2 H2:Hp}{d:D}(a:jE ρ σ F H ρ' σ' F' H')(s:zJ F H)(h:ResR K md ρ' σ' H' F2 H2 d v):ResR K md ρ σ H F2 H2 d v:=by
 cases md with
 |fz=>exact h
 |br=>exact h
 |ow=>
  let⟨b,e,h1,h2,h3⟩:=h;exact⟨b,e,a.back s h1,h2,h3⟩
def rdS.after{fl:Fl}{D:Ends}(s:zJ F H)(r:Rel K F' H' ρ' σ')(a:jE ρ σ F H ρ' σ' F' H')(h:match fl with
   | .nx ρ'=>∀σ' F' H',Rel K F' H' ρ' σ'->jE ρ σ F H ρ' σ' F' H'->D.nx σ' H'
   | .bk ρ'=>∀σ' F' H',Rel K F' H' ρ' σ'->jE ρ σ F H ρ' σ' F' H'->D.bk σ' H'
   | .ct ρ'=>∀σ' F' H',Rel K F' H' ρ' σ'->jE ρ σ F H ρ' σ' F' H'->D.ct σ' H'
   | .rt d ρ'=>∀v σ' F' H',Rel K F' H' ρ' σ'->jE ρ σ F H ρ' σ' F' H'->ResR K md ρ σ H F' H' d v->D.rt v H'
   | .rs c d ρ'=>∀σ' F' H' C da,Rel K F' H' ρ' σ'->jE ρ σ F H ρ' σ' F' H'->ExcD K F' c d C da->Wish X σ' C da H'):rdS X K md ρ' fl D σ' H':=by
 refine⟨F',r,?_⟩;cases fl with
 |nx ρ2=>exact λσ2 F2 H2 r2 s2=>h σ2 F2 H2 r2 (a.trans s2 s)
 |bk ρ2=>exact λσ2 F2 H2 r2 s2=>h σ2 F2 H2 r2 (a.trans s2 s)
 |ct ρ2=>exact λσ2 F2 H2 r2 s2=>h σ2 F2 H2 r2 (a.trans s2 s)
 |rt d ρ2=>exact λv σ2 F2 H2 r2 s2 q=>h v σ2 F2 H2 r2 (a.trans s2 s) (ResR.back a s q)
 |rs c d ρ2=>exact λσ2 F2 H2 C da r2 s2 x=>h σ2 F2 H2 C da r2 (a.trans s2 s) x
variable{g:D->EO En}{p pos':Pos}{x:Str}{c tg:Expr}{es:U Expr}{gs:U D->EO En}
section
variable{K:Fg}{md:Md}{X:Cx}{st:Stmt}{rest:U Stmt}{m n:EO Fl}{e:Expr}{f:EO D}{pos:Pos}
def qS:FSs K md X [] nxM:=FSs.mk λρ fl hf=>by
 cases hf
 exact PSs.imp zqw λD σ H ⟨F,r,q⟩=>q σ F H r (zG.refl r.sub).step
def zK(h:FS K md X st m):FSs K md X [st] m:=FSs.mk λρ fl hf=>zlD (h.h ρ fl hf)
def zH(h1:FS K md X st m)(h2:FSs K md X rest n):FSs K md X (st::rest) (zF m n):=FSs.mk λρ fl hf=>by
 unfold zF at hf;split at hf
 ·rename_i ρ1 e1;refine PSs.imp (zdt (h1.h ρ _ e1) (h2.h ρ1 fl hf)) λD σ H ⟨F,r,q⟩=>⟨F,r,λσ1 F1 H1 r1 s1=>?_⟩
  exact rdS.after r.sub r1 s1 q
 ·rename_i hno;refine PSs.imp (zdt (h1.h ρ fl hf) zdS) λD σ H ⟨F,r,q⟩=>⟨F,r,?_⟩
  cases fl with
  |nx ρ1=>exact absurd hf (hno ρ1)
  |bk ρ1=>exact q
  |ct ρ1=>exact q
  |rt d ρ1=>exact q
  |rs c d ρ1=>exact q
def zug:FS K md X (.Continue pos) (λρ=>some (.ct ρ)):=FS.mk λρ fl hf=>by
 cases hf
 exact PS.imp zhM λD σ H ⟨F,r,q⟩=>q σ F H r (zG.refl r.sub).step
def zld:FS K md X st (λ_=>none):=FS.mk λρ fl hf=>by cases hf
noncomputable def zio(f:EO D):EO Fl:=λρ=>(f ρ).map λ_=>.nx ρ
def zrS(he:FP K .fz X e f)(hs:B0 (swapsWith e none pos.line X.env=pure false)):FS K md X (.Expr e pos) (zio f):=FS.mk λρ fl hf=>by
 unfold zio at hf;cases e1:f ρ with
 |none=>rw[e1]at hf;cases hf
 |some d=>
  rw[e1]at hf;cases hf
  exact PS.imp (zhL (he.h ρ d e1) hs) λD σ H ⟨F,r,q⟩=>⟨F,r,λv F1 H1 g1 _=>q σ F1 H1 (r.grow g1) g1.step⟩
noncomputable def zX(f:EO D):EO Fl:=λρ=>(f ρ).map λd=>.rt d ρ
def qD(he:FP K .fz X e f):FS K .fz X (.Return (some e) pos) (zX f):=FS.mk λρ fl hf=>by
 unfold zX at hf;cases e1:f ρ with
 |none=>simp_all
 |some d=>
  rw[e1]at hf;cases hf
  exact PS.imp (ziU (he.h ρ d e1)) λD σ H ⟨F,r,q⟩=>⟨F,r,λv F1 H1 g1 h=>q v σ F1 H1 (r.grow g1) g1.step h⟩
def zrN(he:FP K .ow X e f):FS K .ow X (.Return (some e) pos) (zX f):=FS.mk λρ fl hf=>by
 unfold zX at hf;cases e1:f ρ with
 |none=>rw[e1]at hf;cases hf
 |some d=>
  rw[e1]at hf;cases hf
  refine PS.imp (ziU (he.h ρ d e1)) λD σ H ⟨F,r,q⟩=>⟨F,r,λv F1 H1 g1 ⟨a,e,h1,h2,h3⟩=>q v σ F1 H1 (r.grow g1) g1.step ⟨a,e,.inl h1,h2,h3⟩⟩
noncomputable def xA(i:Nat):EO Fl:=λρ=>match ρ[i]? with
 |some (some (.ow _ d))=>some (.rt d (ρ.set i none))
 |_=>none
def zla(i:Nat)(hN:B0 (X.N[i]?=some x))(hv:K0 (Vis X.env.scope x))(hd:C0 (Y0 2))(hcd:C0 (Y0 4)):FS K .ow X (.Return (some (.Name x p)) pos) (xA i):=FS.mk λρ fl hf=>by
 unfold xA at hf;split at hf
 ·rename_i pp d e1;cases hf
  refine PS.imp (ziU (xQ hN hv hd hcd)) λD σ H h_=>?_
  let⟨F,r,q⟩:=h_;let⟨a,e2,h1,h2⟩:=r.own i pp d e1;refine⟨_,e2,q _ σ F H r.drop ?_ ⟨a,rfl,.inr ⟨i,pp,d,e1,e2⟩,h1,h2⟩⟩;exact⟨zJ.refl _,λb o e n _=>⟨e,n⟩,λb h=>.inr (zfb h),ziY,r.sub⟩
 ·cases hf
def zlb(i:Nat)(hN:B0 (X.N[i]?=some x))(hv:K0 (Vis X.env.scope x))(hd:C0 (Y0 2))(hcd:C0 (Y0 4)):FS K .fz X (.Return (some (.Name x p)) pos) (xA i):=FS.mk λρ fl hf=>by
 unfold xA at hf;split at hf
 ·rename_i pp d e1;cases hf
  refine PS.imp (ziU (zpD (xQ hN hv hd hcd))) λD σ H h_=>?_
  let⟨F,r,q⟩:=h_;let⟨a,e2,h1,h2⟩:=r.own i pp d e1;have rd:=r.drop (i:=i);have ne:∀b,xH (ρ.set i none) σ b->b≠a:=λb ⟨j,q,x,j1,j2⟩ z=>by
   subst z;rcases qW j1 with⟨rfl,j1'⟩|⟨hne,j1'⟩
   ·cases j1'
   ·exact r.inj j i q x (.ow pp d) b hne j1' j2 e1 rfl e2
  refine⟨_,e2,a,rfl,λH2 fz=>?_⟩;have g:jE ρ σ F H (ρ.set i none) σ (vA F H2 a) H2:=by
   refine⟨zbf h1,λb o e n ho=>?_,λb h=>.inr (zfb h),ziY,zck (fz.same r.sub h1)⟩;have hb:b≠a:=λz=>ho (by subst z;exact⟨i,pp,d,e1,e2⟩)
   exact⟨by rw[fz.ne hb];exact e,by rw[zbR hb];exact n⟩
  have rf:Rel K (vA F H2 a) H2 (ρ.set i none) σ:=by
   refine⟨zck (fz.same r.sub h1),λj x e=>?_,λj x e=>?_,λj q x e=>?_,rd.inj,rd.len⟩
   ·let⟨v,h3,h4⟩:=rd.dat j x e;exact⟨v,h3,h4.mono (zbf h1)⟩
   ·let⟨v,h3,h4⟩:=rd.bor j x e;exact⟨v,h3,zV.frz h4 (zbf h1) fz λz=>r.inj i j pp d (.bor x) a (λq=>by subst q;rcases qW e with⟨_,e'⟩|⟨hne,_⟩;cases e';exact hne rfl) e1 e2 (by rcases qW e with⟨_,e'⟩|⟨_,e'⟩;cases e';exact e') rfl (by rw[h3,z])⟩
   ·let⟨c,h3,h4,h5⟩:=rd.own j q x e;exact⟨c,h3,by rw[zbR (ne c ⟨j,q,x,e,h3⟩)];exact h4,h5.mono (zbf h1) λo e=>by rw[fz.ne (ne c ⟨j,q,x,by assumption,h3⟩)];exact e⟩
  exact q _ σ _ H2 rf g (h2.freeze h1 fz)
 ·cases hf
noncomputable def ifM(t:EO (Bool×En))(m n:EO Fl):EO Fl:=λρ=>(t ρ).bind λp=>if p.1=true then m p.2 else n p.2
def sif{a b:U Stmt}{t:EO (Bool×En)}(hc:FT K X c t)(ha:FSs K md X a m)(hb:FSs K md X b n):FS K md X (.If c a b pos) (ifM t m n):=FS.mk λρ fl hf=>by
 unfold ifM at hf;cases e1:t ρ with
 |none=>rw[e1]at hf;cases hf
 |some p=>
  let⟨k,ρ1⟩:=p;rw[e1]at hf;cases k with
  |true=>
   refine PS.imp (zsh (hc.h ρ _ _ e1) (ha.h ρ1 fl hf) zdS) λD σ H ⟨F,r,q⟩=>⟨F,r,λF1 H1 r1 s1=>wP (rdS.after r.sub r1 s1 q)⟩
  |false=>
   refine PS.imp (zsh (hc.h ρ _ _ e1) zdS (hb.h ρ1 fl hf)) λD σ H ⟨F,r,q⟩=>⟨F,r,λF1 H1 r1 s1=>wQ (rdS.after r.sub r1 s1 q)⟩
noncomputable def rdG(K:Fg)(ρ:En)(d:D)(ρ':En):TG:=λv σ H Q=>∃F,Rel K F H ρ σ/\Dat K F d v/\∀σ',Rel K F H ρ' σ'->Kp ρ σ ρ' σ'->Q σ' H
structure FG(K:Fg)(X:Cx)(tg:Expr)(g:D->EO En):Prop where
 h:∀ρ d ρ',g d ρ=some ρ'->PG X tg (rdG K ρ d ρ')
noncomputable def rdGs(K:Fg)(ρ:En)(ds:U D)(ρ':En):TGs:=λvs σ H Q=>∃F,Rel K F H ρ σ/\zD K F ds vs/\∀σ',Rel K F H ρ' σ'->Kp ρ σ ρ' σ'->Q σ' H
structure FGs(K:Fg)(X:Cx)(ts:U Expr)(g:U D->EO En):Prop where
 h:∀ρ ds ρ',g ds ρ=some ρ'->PGs X ts (rdGs K ρ ds ρ')
def PG.imp{t t':TG}(h:PG X tg t)(w:∀v σ H Q,t' v σ H Q->t v σ H Q):PG X tg t':=λp4 s σ H v u Q I r ht=>h p4 s σ H v u Q I r (w v σ H Q ht)
def PGs.imp{tg:U Expr}{t t':TGs}(h:PGs X tg t)(w:∀v σ H Q,t' v σ H Q->t v σ H Q):PGs X tg t':=λp4 s σ H v u Q I r ht=>h p4 s σ H v u Q I r (w v σ H Q ht)
noncomputable def gN(i:Nat):D->EO En:=λd ρ=>some (ρ.set i (some (.dat d)))
def qB(i:Nat)(hN:X.N.Nodup)(hi:B0 (X.N[i]?=some x))(hx:K0 (Loc X.env.scope x))(hf:K0 (Y0 7)):FG K X (.Name x pos) (gN i):=FG.mk λρ d ρ' hg=>by
 cases hg
 refine PG.imp (zlK hN hi hx hf) λv σ H Q ⟨F,r,h,q⟩=>q _ (r.setD h) Kp.setD
noncomputable def qH:U D->EO En:=λds ρ=>match ds with
 |[]=>some ρ
 |_=>none
noncomputable def zM(g:D->EO En)(gs:U D->EO En):U D->EO En:=λds ρ=>match ds with
 |d::l=>(g d ρ).bind (gs l)
 |[]=>none
noncomputable def qP(gs:U D->EO En):D->EO En:=λd ρ=>match d with
 | .tup l=>gs l ρ
 |_=>none
def kO:FGs K X [] qH:=FGs.mk λρ ds ρ' hg=>by
 unfold qH at hg;split at hg
 ·cases hg
  exact PGs.imp zqA λvs σ H Q ⟨F,r,h,q⟩=>⟨h.nil_inv,q σ r Kp.refl⟩
 ·cases hg
def qN(h1:FG K X e g)(h2:FGs K X es gs)(hs:B0 ((assignEach (e::es) X.env).map (·.2)=assign e X.env::(assignEach es X.env).map (·.2))):FGs K X (e::es) (zM g gs):=FGs.mk λρ ds ρ' hg=>by
 unfold zM at hg;split at hg
 ·rename_i d l;cases e1:g d ρ with
  |none=>simp_all
  |some ρ1=>
   rw[e1]at hg;refine PGs.imp (zog (h1.h ρ d ρ1 e1) (h2.h ρ1 l ρ' hg) hs) λvs σ H Q h_=>?_
   let⟨F,r,h,q⟩:=h_;let⟨v,vr,e,d1,d2⟩:=h.cons_inv;exact⟨v,vr,e,F,r,d1,λσ1 r1 o1=>⟨F,r1,d2,λσ2 r2 o2=>q σ2 r2 (o1.trans o2)⟩⟩
 ·cases hg
def yN{k:Nat}{n:Nat}(hc:X.calm=true)(h:FGs K X es gs)(hl:∀ds ρ ρ',gs ds ρ=some ρ'->ds.length=n)(hn:B0 ((assignEach es X.env).length=n))(hst:B0 ((assignEach es X.env).findIdx? (·.1)=none))(hK:B0 (X.K=K)):FG K X (.Tuple es k pos) (qP gs):=FG.mk λρ d ρ' hg=>by
 unfold qP at hg;split at hg
 ·rename_i l;refine PG.imp (zsm hc (h.h ρ l ρ' hg) hn hst) λv σ H Q h_=>?_
  let⟨F,r,hd,q⟩:=h_;let⟨a,vs,rfl,f,qq⟩:=hd.tup_inv;exact⟨a,vs,rfl,SqT.of (r.sub _ _ f),by rw[qq.length];exact hl l ρ ρ' hg,F,r,qq,q⟩
 ·cases hg
def kN:∀ds ρ ρ',qH ds ρ=some ρ'->ds.length=0:=by grind [qH]
def qM{n:Nat}(h:∀ds ρ ρ',gs ds ρ=some ρ'->ds.length=n):∀ds ρ ρ',zM g gs ds ρ=some ρ'->ds.length=n+1:=λds ρ ρ' hg=>by
 unfold zM at hg;split at hg
 ·rename_i d l;cases e1:g d ρ with
  |none=>rw[e1]at hg;cases hg
  |some ρ1=>rw[e1]at hg;rw[JA,h l ρ1 ρ' hg]
 ·cases hg
noncomputable def vQ(f:EO D)(g:D->EO En):EO Fl:=λρ=>(f ρ).bind λd=>(g d ρ).map Fl.nx
def sasg(he:FP K .fz X e f)(hg:FG K X tg g)(hs:B0 (swapsWithSole [tg] e pos.line X.env=pure false))(hw:B0 (swappedStores [tg] e X.env=pure none))(h1:B0 ((assignEach [tg] X.env).map (·.2)=[assign tg X.env])):FS K md X (.Assign [tg] e pos) (vQ f g):=FS.mk λρ fl hf=>by
 unfold vQ at hf;cases e1:f ρ with
 |none=>rw[e1]at hf;cases hf
 |some d=>
  cases e2:g d ρ with
  |none=>rw[e1]at hf;simp[e2]at hf
  |some ρ1=>
   rw[e1]at hf;simp[e2]at hf;cases hf
   refine PS.imp (ziV (he.h ρ d e1) (hg.h ρ d ρ1 e2) hs hw h1) λD σ H ⟨F,r,q⟩=>⟨F,r,λv F1 H1 g1 h=>⟨F1,r.grow g1,h,λσ1 r1 o1=>?_⟩⟩
   have s1:=g1.step (ρ:=ρ) (σ:=σ);exact q σ1 F1 H1 r1 (s1.kp o1)
noncomputable def qJ(i:Nat)(f:EO D):EO Fl:=λρ=>(f ρ).map λd=>.nx (ρ.set i (some (.dat d)))
def qY(i:Nat)(hN:X.N.Nodup)(he:FP K .fz X e f)(hi:B0 (X.N[i]?=some x))(hx:K0 (Loc X.env.scope x))(hs:B0 (swapsWith e (some (.Name x pos')) pos.line X.env=pure false))(hf:K0 (Y0 7)):
  FS K md X (.Assign [.Name x pos'] e pos) (qJ i f):=FS.mk λρ fl hm=>by
 unfold qJ at hm;cases e1:f ρ with
 |none=>simp_all
 |some d=>
  rw[e1]at hm;cases hm
  refine PS.imp (zpA hN hi hx (he.h ρ d e1) hs hf) λD σ H ⟨F,r,q⟩=>⟨F,r,λv F1 H1 g1 h=>?_⟩
  have s1:=g1.step (ρ:=ρ) (σ:=σ);exact q _ F1 H1 ((r.grow g1).setD h) (s1.kp Kp.setD)
noncomputable def yE(ρ:En):Bool:=ρ.all λs=>match s with
 |some (.bor _)=>false
 |_=>true
def zgO(h:yE ρ=true):∀(j:Nat) s,ρ[j]?=some (some s)->s.isDat=false->∃q x,s=.ow q x:=λj s e hs=>by
 have:=JU.mp h (some s) (List.mem_of_getElem? e);cases s with
 |dat d=>cases hs
 |ow q d=>grind
 |bor d=>cases this
noncomputable def setO(i:Nat)(f:EO D):EO Fl:=λρ=>if yE ρ=true then(f ρ).map λd=>.nx (ρ.set i (some (.own d)))else none
def kT(i:Nat)(hN:X.N.Nodup)(he:FP K .ow X e f)(hi:B0 (X.N[i]?=some x))(hx:K0 (Loc X.env.scope x))(hs:B0 (swapsWith e (some (.Name x pos')) pos.line X.env=pure false))(hf:K0 (Y0 7)):
  FS K md X (.Assign [.Name x pos'] e pos) (setO i f):=FS.mk λρ fl hm=>by
 unfold setO at hm;split at hm
 ·rename_i nb;cases e1:f ρ with
  |none=>rw[e1]at hm;cases hm
  |some d=>
   rw[e1]at hm;cases hm
   refine PS.imp (zpA hN hi hx (he.h ρ d e1) hs hf) λD σ H ⟨F,r,q⟩=>⟨F,r,λv F1 H1 g1 ⟨a,ev,h1,h2,h3⟩=>?_⟩
   subst ev;have s1:=g1.step (ρ:=ρ) (σ:=σ);refine q _ F1 H1 (r.setO g1 h1 h2 h3 (zgO nb)) ⟨s1.ff,s1.rest,λb z=>?_,zhO (λd h=>by cases h),s1.fh⟩;rcases zeb z with⟨_,_,_,z⟩|z
   ·cases z;exact .inl h1
   ·exact .inr z
 ·cases hm
end
section
variable{K:Fg}{F H F' H':Hp}{ρ ρ':En}{σ σ':St}{i:Nat}
theorem zV.upd{d:D}{o:HO}(h:zV K F H d v)(hv:v≠.ref a):zV K F (upd H a o) d v:=by
 cases d with
 |lst l=>let⟨b,vs,rfl,f,q⟩:=h.lst_inv;exact⟨b,vs,rfl,by simp_all[zT],q⟩
 |dic k l=>let⟨b,vs,rfl,f,q⟩:=h.dic_inv;exact⟨b,vs,rfl,f.at (zJ.refl _) (λo e=>by simp_all[zT]),q⟩
 |set l=>let⟨b,rfl,f⟩:=h;exact⟨b,rfl,xN.at (F:=H) (zT λz=>hv (by rw[z])) f⟩
 |_=>exact h
def Rel.mut(r:Rel K F H ρ σ){pp:Bool}{d d':D}{o:HO}(e:ρ[i]?=some (some (.ow pp d)))(hσ:σ[i]?=some (some (.ref a)))(ho:Own K F (upd H a o) d' a):
  Rel K F (upd H a o) (ρ.set i (some (.ow pp d'))) σ/\jE ρ σ F H (ρ.set i (some (.ow pp d'))) σ F (upd H a o):=by
 let⟨a',e1,fa,_⟩:=r.own i pp d e;rw[hσ]at e1;cases e1
 have sub:zJ F (L2.upd H a o):=λb u h=>by rw[zT (jI h fa)];exact r.sub _ _ h
 refine⟨⟨sub,λj x q=>?_,λj x q=>?_,λj qq x q=>?_,λj k qq x s c ne e1 e2 e3 e4=>?_,by simp[r.len]⟩,⟨zJ.refl _,λb u h n no=>⟨?_,n⟩,λb h=>.inr ?_,λj x e'=>?_,sub⟩⟩
 ·rcases qW q with⟨rfl,q'⟩|⟨ne,q'⟩
  ·cases q'
  ·exact r.dat j x q'
 ·rcases qW q with⟨rfl,q'⟩|⟨ne,q'⟩
  ·cases q'
  ·let⟨v,h1,h2⟩:=r.bor j x q';refine⟨v,h1,h2.upd λz=>?_⟩;subst z;exact r.inj i j pp d _ a (Ne.symm ne) e hσ q' rfl h1
 ·rcases qW q with⟨rfl,q'⟩|⟨ne,q'⟩
  ·cases q'
   exact⟨a,hσ,fa,ho⟩
  ·let⟨c,h1,h2,h3⟩:=r.own j qq x q';have hc:c≠a:=λz=>by subst z;exact r.inj i j pp d _ c (Ne.symm ne) e hσ q' rfl h1
   exact⟨c,h1,h2,h3.mono (zJ.refl _) λu hu=>by rw[zT hc];exact hu⟩
 ·rcases qW e1 with⟨rfl,e1'⟩|⟨ne1,e1'⟩
  ·rcases qW e3 with⟨rfl,e3'⟩|⟨ne3,e3'⟩
   ·exact absurd rfl ne
   ·exact r.inj j k pp d s c ne e e2 e3' e4
  ·rcases qW e3 with⟨rfl,e3'⟩|⟨ne3,e3'⟩
   ·exact r.inj j k qq x (.ow pp d) c ne e1' e2 e rfl
   ·exact r.inj j k qq x s c ne e1' e2 e3' e4
 ·rw[zT λz=>no (by subst z;exact⟨i,pp,d,e,hσ⟩)];exact h
 ·let⟨j,qq,x,j1,j2⟩:=h;rcases qW j1 with⟨rfl,j1'⟩|⟨ne,j1'⟩
  ·exact⟨j,pp,d,e,j2⟩
  ·exact⟨j,qq,x,j1',j2⟩
 ·rcases qW e' with⟨rfl,e''⟩|⟨ne,e''⟩
  ·cases e''
   exact⟨d,e,rfl⟩
  ·exact⟨x,e'',rfl⟩
end
noncomputable def rdX(K:Fg)(ρ:En)(d:D)(ρ':En):TE:=λσ H Q=>∃F,Rel K F H ρ σ/\∀v F' H',Rel K F' H' ρ' σ->jE ρ σ F H ρ' σ F' H'->Dat K F' d v->Q v H'
structure FX(K:Fg)(X:Cx)(e:Expr)(m:EO (D×En)):Prop where
 h:∀ρ d ρ',m ρ=some (d,ρ')->PE X e (rdX K ρ d ρ')
noncomputable def xM(i:Nat)(f:EO D):EO (D×En):=λρ=>match ρ[i]?,f ρ with
 |some (some (.ow pp (.lst l))),some d=>if l.length<lim then some (.non,ρ.set i (some (.ow pp (.lst (l++[d])))))else none
 |_,_=>none
noncomputable def extM(i:Nat)(f:EO D):EO (D×En):=λρ=>match ρ[i]?,f ρ with
 |some (some (.ow pp (.lst l))),some (.lst m)=>if l.length+m.length<=lim then some (.non,ρ.set i (some (.ow pp (.lst (l++m)))))else none
 |_,_=>none
noncomputable def gH(i:Nat):EO (D×En):=λρ=>match ρ[i]? with
 |some (some (.ow pp (.lst l)))=>(l[l.length - 1]?).map λd=>(d,ρ.set i (some (.ow pp (.lst l.dropLast))))
 |_=>none
noncomputable def zdT(i:Nat)(f:EO D):EO (D×En):=λρ=>match ρ[i]?,f ρ with
 |some (some (.ow pp (.lst l))),some (.int k)=>if -(2^63)<=k/\k<2^63 then(seqIndex? k l.length).bind λj=>(l[j]?).map λd=>(d,ρ.set i (some (.ow pp (.lst (l.eraseIdx j)))))else none
 |_,_=>none
variable{m:EO (D×En)}
section
variable{K:Fg}{md:Md}{X:Cx}{e:Expr}{f:EO D}{pos:Pos}{x:Str}{p p9 p8:Pos}
def wH(i:Nat)(he:FP K .fz X e f)(hN:B0 (X.N[i]?=some x))(hv:K0 (Vis X.env.scope x))(hd:C0 (Y0 2))(hcd:C0 (Y0 4))(hbase:B0 (attributeBase (.Name x p) "append" X.env (eval (.Name x p) X.env)=eval (.Name x p) X.env))(hfew:B0 (((backTo p8 (starEach [e] X.env)).all (λx=>!x.1)&&(backToKw p8 (keywordEach [] X.env)).all (λx=>x.1.isSome)&&decide (([e]:U Expr).length+([]:U Keyword).length+(if([]:U Keyword).isEmpty then 0 else 1)<30))=true))(hline:B0 ((p9.endLine==p8.line)=true))(hs:B0 (starEach [e] X.env=(false,eval e X.env)::starEach [] X.env))(hplain:B0 ((backTo p8 (starEach [] X.env)).any (·.1)=false))(hK:B0 (X.K=K)):
  FX K X (.Call (.Attribute (.Name x p) "append" p9) [e] [] p8) (xM i f):=FX.mk λρ d ρ' hf=>by
 subst hK;unfold xM at hf;split at hf
 ·rename_i pp l dd e1 e2;let⟨hz,hf⟩:=kF hf;cases hf
  refine PE.imp (zjZ Qr PySem.F.slot_list_append PySem.F.type_list_append zcb (xQ hN hv hd hcd) (yA (he.h ρ dd e2) xG hs) hbase hfew hline hs hplain) λσ H Q h_=>?_
  let⟨F,r,q⟩:=h_;let⟨a,h1,h2,vs,h3,h4⟩:=r.own i _ _ e1;refine⟨_,h1,.inl ⟨rfl,vs,SqL.of h3⟩,F,r,λv F1 H1 g1 r1=>?_⟩;have rg:=r.grow g1;let⟨a',h1',h2',vs',h3',h4'⟩:=rg.own i _ _ e1;rw[h1]at h1';cases h1'
  have h3'':=g1.hh _ _ h3;rw[h3']at h3'';cases h3''
  refine⟨a,vs,v,rfl,rfl,h3',by rw[h4'.length];exact wM (Qi hz),?_⟩;let⟨m1,m2⟩:=rg.mut (i:=i) (d':=.lst (l++[dd])) e1 h1 ⟨_,qG,h4'.snoc r1⟩;exact q _ _ _ m1 (g1.step.trans m2 r.sub) (Dat.non)
 ·cases hf
def zkJ(i:Nat)(he:FP K .fz X e f)(hN:B0 (X.N[i]?=some x))(hv:K0 (Vis X.env.scope x))(hd:C0 (Y0 2))(hcd:C0 (Y0 4))(hbase:B0 (attributeBase (.Name x p) "extend" X.env (eval (.Name x p) X.env)=eval (.Name x p) X.env))(hfew:B0 (((backTo p8 (starEach [e] X.env)).all (λx=>!x.1)&&(backToKw p8 (keywordEach [] X.env)).all (λx=>x.1.isSome)&&decide (([e]:U Expr).length+([]:U Keyword).length+(if([]:U Keyword).isEmpty then 0 else 1)<30))=true))(hline:B0 ((p9.endLine==p8.line)=true))(hs:B0 (starEach [e] X.env=(false,eval e X.env)::starEach [] X.env))(hplain:B0 ((backTo p8 (starEach [] X.env)).any (·.1)=false))(hK:B0 (X.K=K)):
  FX K X (.Call (.Attribute (.Name x p) "extend" p9) [e] [] p8) (extM i f):=FX.mk λρ d ρ' hf=>by
 subst hK;unfold extM at hf;split at hf
 ·rename_i pp l m e1 e2;let⟨hz,hf⟩:=kF hf;cases hf
  refine PE.imp (zjZ Qr PySem.F.slot_list_extend PySem.F.type_list_extend zmd (xQ hN hv hd hcd) (yA (he.h ρ _ e2) xG hs) hbase hfew hline hs hplain) λσ H Q h_=>?_
  let⟨F,r,q⟩:=h_;let⟨a,h1,h2,vs,h3,h4⟩:=r.own i _ _ e1;refine⟨_,h1,.inl ⟨rfl,vs,SqL.of h3⟩,F,r,λv F1 H1 g1 r1=>?_⟩;have rg:=r.grow g1;let⟨a',h1',h2',vs',h3',h4'⟩:=rg.own i _ _ e1;rw[h1]at h1';cases h1'
  have h3'':=g1.hh _ _ h3;rw[h3']at h3'';cases h3''
  let⟨b,us,rfl,f1,q1⟩:=Dat.lst_inv r1;refine⟨a,b,vs,us,rfl,rfl,h3',g1.fh _ _ f1,by rw[h4'.length,q1.length];exact vM hz,?_⟩;let⟨m1,m2⟩:=rg.mut (i:=i) (d':=.lst (l++m)) e1 h1 ⟨_,qG,h4'.append q1⟩;exact q _ _ _ m1 (g1.step.trans m2 r.sub) (Dat.non)
 ·cases hf
def xpop(i:Nat)(hN:B0 (X.N[i]?=some x))(hv:K0 (Vis X.env.scope x))(hd:C0 (Y0 2))(hcd:C0 (Y0 4))(hbase:B0 (attributeBase (.Name x p) "pop" X.env (eval (.Name x p) X.env)=eval (.Name x p) X.env))(hline:B0 ((p9.endLine==p8.line)=true))(hK:B0 (X.K=K)):
  FX K X (.Call (.Attribute (.Name x p) "pop" p9) [] [] p8) (gH i):=FX.mk λρ d ρ' hf=>by
 subst hK;unfold gH at hf;split at hf
 ·rename_i pp l e1;cases e2:l[l.length - 1]? with
  |none=>rw[e2]at hf;cases hf
  |some dd=>
   rw[e2]at hf;cases hf
   refine PE.imp (zsx Qr PySem.F.slot_list_pop PySem.F.type_list_pop zsN (xQ hN hv hd hcd) hbase hline) λσ H Q h_=>?_
   let⟨F,r,q⟩:=h_;let⟨a,h1,h2,vs,h3,h4⟩:=r.own i _ _ e1;let⟨v,h5,h6⟩:=h4.get e2;refine⟨_,h1,.inl ⟨rfl,vs,SqL.of h3⟩,a,vs,v,rfl,rfl,h3,by rw[h4.length];exact h5,?_⟩;let⟨m1,m2⟩:=r.mut (i:=i) (o:=.lst vs.dropLast) (d':=.lst l.dropLast) e1 h1 ⟨_,qG,h4.dropLast⟩;exact q _ _ _ m1 m2 h6
 ·cases hf
def zpo(i:Nat)(he:FP K .fz X e f)(hN:B0 (X.N[i]?=some x))(hv:K0 (Vis X.env.scope x))(hd:C0 (Y0 2))(hcd:C0 (Y0 4))(hbase:B0 (attributeBase (.Name x p) "pop" X.env (eval (.Name x p) X.env)=eval (.Name x p) X.env))(hfew:B0 (((backTo p8 (starEach [e] X.env)).all (λx=>!x.1)&&(backToKw p8 (keywordEach [] X.env)).all (λx=>x.1.isSome)&&decide (([e]:U Expr).length+([]:U Keyword).length+(if([]:U Keyword).isEmpty then 0 else 1)<30))=true))(hline:B0 ((p9.endLine==p8.line)=true))(hs:B0 (starEach [e] X.env=(false,eval e X.env)::starEach [] X.env))(hplain:B0 ((backTo p8 (starEach [] X.env)).any (·.1)=false))(hK:B0 (X.K=K)):
  FX K X (.Call (.Attribute (.Name x p) "pop" p9) [e] [] p8) (zdT i f):=FX.mk λρ d ρ' hf=>by
 unfold zdT at hf;split at hf
 ·rename_i pp l k e1 e2;split at hf
  ·rename_i hk;cases e3:seqIndex? k l.length with
   |none=>rw[e3]at hf;cases hf
   |some j=>
    cases e4:l[j]? with
    |none=>rw[e3]at hf;simp[e4]at hf
    |some dd=>
     rw[e3]at hf;simp[e4]at hf;let⟨hf1,hf2⟩:=hf;subst hf1 hf2;refine PE.imp (zjZ Qr PySem.F.slot_list_pop PySem.F.type_list_pop zoz (xQ hN hv hd hcd) (yA (he.h ρ _ e2) xG hs) hbase hfew hline hs hplain) λσ H Q h_=>?_
     let⟨F,r,q⟩:=h_;let⟨a,h1,h2,vs,h3,h4⟩:=r.own i _ _ e1;refine⟨_,h1,.inl ⟨rfl,vs,SqL.of h3⟩,F,r,λv F1 H1 g1 r1=>?_⟩;have rg:=r.grow g1;let⟨a',h1',h2',vs',h3',h4'⟩:=rg.own i _ _ e1;rw[h1]at h1';cases h1'
     have ev:=Dat.int_inv (K:=X.K) (F:=F1) r1;subst ev;let⟨w,h5,h6⟩:=h4'.get e4;refine⟨a,vs',k,j,w,rfl,rfl,h3',hk.1,hk.2,by rw[h4'.length];exact e3,h5,?_⟩;let⟨m1,m2⟩:=rg.mut (i:=i) (d':=.lst (l.eraseIdx j)) e1 h1 ⟨_,qG,h4'.eraseIdx j⟩;exact q _ _ _ m1 (g1.step.trans m2 r.sub) h6
  ·cases hf
 ·cases hf
noncomputable def yX(m:EO (D×En)):EO Fl:=λρ=>(m ρ).map λp=>.nx p.2
def xU(he:FX K X e m)(hs:B0 (swapsWith e none pos.line X.env=pure false)):FS K md X (.Expr e pos) (yX m):=FS.mk λρ fl hf=>by
 unfold yX at hf;cases e1:m ρ with
 |none=>simp_all
 |some q1=>
  let⟨d,ρ1⟩:=q1;rw[e1]at hf;cases hf
  exact PS.imp (zhL (he.h ρ d ρ1 e1) hs) λD σ H ⟨F,r,q⟩=>⟨F,r,λv F1 H1 r1 s1 _=>q σ F1 H1 r1 s1⟩
noncomputable def gB(m:EO (D×En))(g:D->EO En):EO Fl:=λρ=>(m ρ).bind λp=>(g p.1 p.2).map Fl.nx
def zqq(he:FX K X e m)(hg:FG K X tg g)(hs:B0 (swapsWithSole [tg] e pos.line X.env=pure false))(hw:B0 (swappedStores [tg] e X.env=pure none))(h1:B0 ((assignEach [tg] X.env).map (·.2)=[assign tg X.env])):FS K md X (.Assign [tg] e pos) (gB m g):=FS.mk λρ fl hf=>by
 unfold gB at hf;cases e1:m ρ with
 |none=>rw[e1]at hf;cases hf
 |some q1=>
  let⟨d,ρ1⟩:=q1;cases e2:g d ρ1 with
  |none=>rw[e1]at hf;simp[e2]at hf
  |some ρ2=>
   rw[e1]at hf;simp[e2]at hf;cases hf
   refine PS.imp (ziV (he.h ρ d ρ1 e1) (hg.h ρ1 d ρ2 e2) hs hw h1) λD σ H ⟨F,r,q⟩=>⟨F,r,λv F1 H1 r1 s1 h=>⟨F1,r1,h,λσ2 r2 o2=>?_⟩⟩
   exact q σ2 F1 H1 r2 (s1.kp o2)
noncomputable def gS(pp:D->D->Option D)(m:EO (D×En))(fb:EO D):EO (Bool×En):=λρ=>(m ρ).bind λq=>(fb q.2).bind λy=>match pp q.1 y with
 |some (.bl c)=>some (c,q.2)
 |_=>none
def zsQ{b:Expr}{fb:EO D}{pp:D->D->Option D}(o:Op2 K X (compareOp op) .fz pp)(ha:FX K X e m)(hb:FP K .br X b fb)(hm:behindInMarks op b=false):
  FT K X (.Compare e [op] [b] pos) (gS pp m fb):=FT.mk λρ c ρ' hf=>by
 unfold gS at hf;cases e1:m ρ with
 |none=>rw[e1]at hf;cases hf
 |some q1=>
  let⟨x,ρ1⟩:=q1;cases e2:fb ρ1 with
  |none=>rw[e1]at hf;simp[e2]at hf
  |some y=>
   rw[e1]at hf;simp only[Option.bind_some,e2]at hf;split at hf
   ·rename_i c' e3;cases hf
    let⟨r,ho,hr⟩:=o;refine PT.imp (zhK ho (ha.h ρ x _ e1) (hb.h _ y e2) hm) λσ H Q h_=>?_
    let⟨F,rl,q⟩:=h_;refine⟨F,rl,λv F1 H1 r1 s1 d1=>⟨F1,r1,λu F2 H2 g2 d2=>?_⟩⟩;refine hr x y _ F2 H2 v u _ e3 g2.fh ((d1.mono g2.ff).b g2.fh) d2 λw F3 H3 g3 d3=>⟨c,Dat.bl_inv (K:=K) (F:=F3) d3,?_⟩
    exact q F3 H3 ((r1.grow g2).grow g3) (s1.trans ((g2.trans g3).step) rl.sub)
   ·cases hf
end
noncomputable def yQ(t:EO (Bool×En))(b:EO Fl):Nat->EO Fl
 |0,_=>none
 |n+1,ρ=>match t ρ with
  |some (true,ρ1)=>match b ρ1 with
   |some (.nx ρ2)=>yQ t b n ρ2
   |some (.ct ρ2)=>yQ t b n ρ2
   |some (.bk ρ2)=>some (.nx ρ2)
   |some (.rt d ρ2)=>some (.rt d ρ2)
   |some (.rs c d ρ2)=>some (.rs c d ρ2)
   |none=>none
  |some (false,ρ1)=>some (.nx ρ1)
  |none=>none
variable{ι:Type}{body:U Stmt}
section
variable{K:Fg}{md:Md}{X:Cx}{pos:Pos}
def PT.any{c:Expr}{t:ι->TT}(h:∀i,PT X c (t i)):PT X c (λσ H Q=>∃i,t i σ H Q):=λp4 s σ H Q I ⟨i,hi⟩=>h i p4 s σ H Q I hi
def PSs.any{c:U Stmt}{t:ι->TS}(h:∀i,PSs X c (t i)):PSs X c (λD σ H=>∃i,t i D σ H):=λp4 s σ H D I ⟨i,hi⟩=>h i p4 s σ H D I hi
def PE.any{c:Expr}{t:ι->TE}(h:∀i,PE X c (t i)):PE X c (λσ H Q=>∃i,t i σ H Q):=λp4 s σ H Q I ⟨i,hi⟩=>h i p4 s σ H Q I hi
def PG.any{c:Expr}{t:ι->TG}(h:∀i,PG X c (t i)):PG X c (λv σ H Q=>∃i,t i v σ H Q):=λp4 s σ H v u Q I r ⟨i,hi⟩=>h i p4 s σ H v u Q I r hi
def PIf.any{c:U Expr}{t:ι->TT}(h:∀i,PIf X c (t i)):PIf X c (λσ H Q=>∃i,t i σ H Q):=λp4 s σ H Q I ⟨i,hi⟩=>h i p4 s σ H Q I hi
def zkU{t:EO (Bool×En)}{b:EO Fl}(n:Nat)(hp:PassesOwn (Y0 1) X.A X.env X.xe)(hc:FT K X c t)(hb:FSs K md X body b):FS K md X (.While c body [] pos) (yQ t b n):=FS.mk λρ fl hf=>by
 have hc':=PT.any (X:=X) (c:=c) (t:=λi:{q:En×Bool×En//t q.1=some q.2}=>rdT K i.1.1 i.1.2.1 i.1.2.2) λi=>hc.h _ _ _ i.2
 have hb':=PSs.any (X:=X) (t:=λi:{q:En×Fl//b q.1=some q.2}=>rdS X K md i.1.1 i.1.2) λi=>hb.h _ _ i.2
 refine PS.imp (zoa hp hc' hb') λD σ H h_=>?_
 let⟨F,r,q⟩:=h_;refine⟨λk σ1 H1=>∃ρ1 F1,Rel K F1 H1 ρ1 σ1/\jE ρ σ F H ρ1 σ1 F1 H1/\yQ t b k ρ1=some fl,⟨n,ρ,F,r,(zG.refl r.sub).step,hf⟩,?_⟩;rintro k σ1 H1 ⟨ρ1,F1,r1,s1,e1⟩;cases k with
 |zero=>simp[yQ]at e1
 |succ k=>
  simp only[yQ]at e1;cases e2:t ρ1 with
  |none=>rw[e2]at e1;cases e1
  |some p=>
   let⟨c1,ρ2⟩:=p;rw[e2]at e1;refine⟨⟨(ρ1,c1,ρ2),e2⟩,F1,r1,λF2 H2 r2 s2=>?_⟩;have s12:=s1.trans s2 r.sub;cases c1 with
   |false=>
    have e1:some (Fl.nx ρ2)=some fl:=e1;cases e1
    exact wQ (q σ1 F2 H2 r2 s12)
   |true=>
    refine⟨λσ' H'=>∃ρ3 F3,Rel K F3 H' ρ3 σ'/\jE ρ σ F H ρ3 σ' F3 H'/\yQ t b k ρ3=some fl,λσ' H' z=>⟨k,Nat.lt_succ_self k,z⟩,?_⟩;cases e3:b ρ2 with
    |none=>simp only[e3]at e1;cases e1
    |some fl2=>
     simp only[e3]at e1;refine⟨⟨(ρ2,fl2),e3⟩,F2,r2,?_⟩;cases fl2 with
     |nx ρ3=>exact λσ3 F3 H3 r3 s3=>⟨ρ3,F3,r3,s12.trans s3 r.sub,e1⟩
     |ct ρ3=>exact λσ3 F3 H3 r3 s3=>⟨ρ3,F3,r3,s12.trans s3 r.sub,e1⟩
     |bk ρ3=>cases e1;exact λσ3 F3 H3 r3 s3=>q σ3 F3 H3 r3 (s12.trans s3 r.sub)
     |rt d ρ3=>cases e1;exact λv σ3 F3 H3 r3 s3 h=>q v σ3 F3 H3 r3 (s12.trans s3 r.sub) (ResR.back s12 r.sub h)
     |rs c d ρ3=>cases e1;exact λσ3 F3 H3 C da r3 s3 x=>q σ3 F3 H3 C da r3 (s12.trans s3 r.sub) x
end
def gX(K:Fg)(J:It)(F:Hp)(ds:U D):Prop:=∀F2 H2,zJ F F2->zJ F2 H2->
 (∀i,i<ds.length->J.go i H2)/\(∀i x H3 d,ds[i]?=some d->J.yld i H2 x H3->∃F3,zG F2 H2 F3 H3/\Dat K F3 d x)/\J.stop ds.length H2
noncomputable def rdI(K:Fg)(ρ:En)(ds:U D):TI:=λσ H R=>∃F,Rel K F H ρ σ/\∀J F' H',zG F H F' H'->gX K J F' ds->R J H'
structure FI(K:Fg)(X:Cx)(tg zO:Expr)(f:EO (U D)):Prop where
 h:∀ρ ds,f ρ=some ds->PI X tg zO (rdI K ρ ds)
def PI.imp{zO:Expr}{t t':TI}(h:PI X tg zO t)(w:∀σ H R,t' σ H R->t σ H R):PI X tg zO t':=λp4 s σ H R I ht=>h p4 s σ H R I (w σ H R ht)
noncomputable def itS:D->Option (U D)
 | .lst l=>some l
 | .tup l=>some l
 | .scr l=>some (l.map D.int)
 |_=>none
noncomputable def cI(f:EO D):EO (U D):=λρ=>(f ρ).bind itS
def zgX{vs:U V}{ds:U D}(h:∀F2 H2,zJ F F2->zJ F2 H2->SqL K H2 a vs)(q:zD K F ds vs):gX K (Itl K a) F ds:=λF2 H2 f2 h2=>by
 have hs:=h F2 H2 f2 h2;have hl:=q.length;refine⟨λi hi=>⟨vs,vs[i]'(by simp[*]),hs,by simp⟩,λi x H3 d hd y=>?_,⟨vs,hs,by simp[*]⟩⟩;let⟨rfl,y⟩:=y;let⟨v,hv,dv⟩:=q.get hd;rw[y vs hs]at hv;cases hv
 exact⟨F2,zG.refl h2,dv.mono f2⟩
def zoH{vs:U V}{ds:U D}(h:F a=some (.tup vs))(q:zD K F ds vs):gX K (Itt K a) F ds:=λF2 H2 f2 h2=>by
 have hs:SqT K H2 a vs:=SqT.of (h2 _ _ (f2 _ _ h));have hl:=q.length;refine⟨λi hi=>⟨vs,vs[i]'(by simp[*]),hs,by simp⟩,λi x H3 d hd y=>?_,⟨vs,hs,by simp[*]⟩⟩;let⟨rfl,y⟩:=y;let⟨v,hv,dv⟩:=q.get hd;rw[y vs hs]at hv;cases hv
 exact⟨F2,zG.refl h2,dv.mono f2⟩
variable{n:Nat}{fi:EO (U D)}
section
variable{K:Fg}{md:Md}{X:Cx}{pos:Pos}{tg l:Expr}{f:EO D}
def jS(h:FP K .fz X l f)(hK:B0 (X.K=K)):FI K X tg l (cI f):=FI.mk λρ ds hf=>by
 subst hK;unfold cI at hf;cases e1:f ρ with
 |none=>simp_all
 |some d=>
  rw[e1]at hf;have hf:itS d=some ds:=hf;cases d<;>simp only[itS]at hf<;>try(cases hf;done)
  ·cases hf
   refine PI.imp (zsl (h.h ρ _ e1)) λσ H R ⟨F,r,q⟩=>⟨F,r,λv F1 H1 g1 r1=>?_⟩
   let⟨a,vs,rfl,f1,q1⟩:=Dat.tup_inv r1;exact⟨a,rfl,⟨vs,SqT.of (g1.fh _ _ f1)⟩,q _ F1 H1 g1 (zoH f1 q1)⟩
  ·cases hf
   refine PI.imp (zlJ (h.h ρ _ e1)) λσ H R ⟨F,r,q⟩=>⟨F,r,λv F1 H1 g1 r1=>?_⟩
   let⟨a,vs,rfl,f1,q1⟩:=Dat.lst_inv r1;exact⟨a,rfl,⟨vs,SqL.of (g1.fh _ _ f1)⟩,q _ F1 H1 g1 (zgX (λF2 H2 a b=>SqL.of (b _ _ (a _ _ f1))) q1)⟩
  ·cases hf
   refine PI.imp (zlJ (h.h ρ _ e1)) λσ H R ⟨F,r,q⟩=>⟨F,r,λv F1 H1 g1 r1=>?_⟩
   let⟨a,rfl,f1⟩:=Dat.scr_inv r1;exact⟨a,rfl,⟨_,zJ.seq g1.fh f1⟩,q _ F1 H1 g1 (zgX (λF2 H2 a b=>zJ.seq b (zJ.seq a f1)) (zD.ofInts _))⟩
def yS(lo:Int)(n:Nat):U D:=(List.range n).map λ(k:Nat)=>D.int (lo+(k:Int))
def zko{lo:Int}:gX K (Itr lo n) F (yS lo n):=λF2 H2 f2 h2=>by
 refine⟨λi hi=>(show i<n by simpa[yS]using hi),λi x H3 d hd y=>?_,by simp[yS,Itr]⟩;let⟨rfl,rfl⟩:=y
 have:d=D.int (lo+(i:Int)):=by
  unfold yS at hd;rw[List.getElem?_map]at hd;cases e:(List.range n)[i]? with
  |none=>rw[e]at hd;cases hd
  |some k=>
   rw[e]at hd
   have:=(List.getElem?_eq_some_iff.mp e).2;simp at this;subst this;exact(Option.some.inj hd).symm
 subst this;exact⟨F2,zG.refl h2,Dat.int (K:=K) _⟩
def zhR(j:Int):Prop:=-(2^62)<=j/\j<2^62
def nO{j:Int}(h1:-4611686018427387904<=j)(h2:j<4611686018427387904):zhR j:=⟨h1,h2⟩
open Classical in
noncomputable def rng1:D->Option (U D)
 | .int j=>if zhR j then some (yS 0 j.toNat)else none
 |_=>none
noncomputable def cR1(f:EO D):EO (U D):=λρ=>(f ρ).bind rng1
def zbQ{a:Expr}(h:FP K .fz X a f)(hg:Gl X "range")(hm:X.mg "range"=none)(hs:B0 (starEach [a] X.env=[(false,eval a X.env)])):FI K X tg (.Call (.Name "range" p) [a] [] pos) (cR1 f):=FI.mk λρ ds hf=>by
 unfold cR1 at hf;cases e1:f ρ with
 |none=>simp_all
 |some d=>
  rw[e1]at hf;have hf:rng1 d=some ds:=hf;cases d<;>simp only[rng1]at hf<;>try(cases hf;done)
  let⟨hz,rfl⟩:=kF hf;refine PI.imp (zlI hg hm (yA (h.h ρ _ e1) xG hs) hs) λσ H R ⟨F,r,q⟩=>⟨F,r,λv F1 H1 g1 r1=>?_⟩
  have ev:=Dat.int_inv (K:=K) (F:=F1) r1;subst ev;exact⟨_,rfl,hz.1,hz.2,q _ F1 H1 g1 zko⟩
noncomputable def xL:Nat->U D->U D
 |_,[]=>[]
 |k,d::l=>.tup [.int k,d]::xL (k+1) l
theorem zbt:∀(k:Nat) (l:U D) (i:Nat) (d:D),(xL k l)[i]?=some d->∃x,l[i]?=some x/\d=.tup [.int ((k+i:Nat):Int),x]
 |_,[],i,d,h=>by simp[xL]at h
 |k,x::l,0,d,h=>by simp[xL]at h;exact⟨x,rfl,by rw[←h];simp⟩
 |k,x::l,i+1,d,h=>by let⟨y,h1,h2⟩:=zbt (k+1) l i d (by simpa[xL]using h);exact⟨y,by simpa using h1,by rw[h2,show k+1+i=k+(i+1) by lia]⟩
theorem wS:∀(k:Nat) (l:U D),(xL k l).length=l.length
 |_,[]=>rfl
 |k,_::l=>by simp[xL,wS (k+1) l]
noncomputable def cEnT(f:EO D):EO (U D):=λρ=>match f ρ with
 |some (.tup l)=>some (xL 0 l)
 |_=>none
def ztm{elts:U Expr}{k:Nat}{tpos:Pos}{a:Expr}(h:FP K .fz X a f)(hg:Gl X "enumerate")(hm:X.mg "enumerate"=none)(hs:B0 (starEach [a] X.env=[(false,eval a X.env)]))(hK:B0 (X.K=K)):
  FI K X (.Tuple elts k tpos) (.Call (.Name "enumerate" p) [a] [] pos) (cEnT f):=FI.mk λρ ds hf=>by
 subst hK;unfold cEnT at hf;split at hf
 ·rename_i l e1;cases hf
  refine PI.imp (zoe hg hm (yA (h.h ρ _ e1) xG hs) hs) λσ H R ⟨F,r,q⟩=>⟨F,r,λv F1 H1 g1 r1=>?_⟩
  let⟨a,vs,rfl,f1,q1⟩:=Dat.tup_inv r1;refine⟨a,vs,rfl,SqT.of (g1.fh _ _ f1),q _ F1 H1 g1 λF2 H2 a2 b2=>?_⟩;have hs:SqT X.K H2 a vs:=SqT.of (b2 _ _ (a2 _ _ f1));have hl:=q1.length;refine⟨λi hi=>?_,λi x H3 d hd y=>?_,?_⟩
  ·rw[wS]at hi;exact⟨vs,vs[i]'(by simp[*]),hs,by simp⟩
  ·let⟨x0,hx0,rfl⟩:=zbt 0 l i d hd;let⟨pp,vv,hpp,rfl,rfl,hv⟩:=y;let⟨w,hw,dw⟩:=q1.get hx0;rw[hv vs hs]at hw;cases hw
   have g:=zG.frozen (o:=.tup [.int (i:Int),vv]) b2 hpp;refine⟨_,g,Dat.tup qG ?_⟩;rw[Qw];exact zD.cons (Dat.int _) (zD.cons ((dw.mono a2).mono g.ff) zD.nil)
  ·rw[wS];exact⟨vs,hs,by lia⟩
 ·cases hf
noncomputable def jT(g:D->EO En)(b:EO Fl):U D->EO Fl
 |[],ρ=>some (.nx ρ)
 |x::xs,ρ=>match g x ρ with
  |some ρ1=>match b ρ1 with
   |some (.nx ρ2)=>jT g b xs ρ2
   |some (.ct ρ2)=>jT g b xs ρ2
   |some (.bk ρ2)=>some (.nx ρ2)
   |some (.rt d ρ2)=>some (.rt d ρ2)
   |some (.rs c d ρ2)=>some (.rs c d ρ2)
   |none=>none
  |none=>none
noncomputable def jN(fi:EO (U D))(g:D->EO En)(b:EO Fl):EO Fl:=λρ=>(fi ρ).bind λds=>jT g b ds ρ
def kE{zO:Expr}{b:EO Fl}(hp:PassesOwn (Y0 1) X.A X.env X.xe)(hc:X.calm=true)(hi:FI K X tg zO fi)(hg:FG K X tg g)(hb:FSs K md X body b)(hs:G0 (∀x,foldedSetIterable zO X.env x=pure x)):FS K md X (.For tg zO body [] pos) (jN fi g b):=FS.mk λρ fl hf=>by
 unfold jN at hf;cases e1:fi ρ with
 |none=>simp_all
 |some ds=>
  rw[e1]at hf;have hg':=PG.any (X:=X) (t:=λi:{q:En×D×En//g q.2.1 q.1=some q.2.2}=>rdG K i.1.1 i.1.2.1 i.1.2.2) λi=>hg.h _ _ _ i.2
  have hb':=PSs.any (X:=X) (t:=λi:{q:En×Fl//b q.1=some q.2}=>rdS X K md i.1.1 i.1.2) λi=>hb.h _ _ i.2
  refine PS.imp (zpB hp hc (hi.h ρ ds e1) hg' hb' hs) λD σ H ⟨F,r,q⟩=>⟨F,r,λJ F0 H0 g0 ok=>?_⟩
  refine⟨λi k σ1 H1=>i<=ds.length/\k=ds.length - i/\∃ρ1 F1,Rel K F1 H1 ρ1 σ1/\jE ρ σ F H ρ1 σ1 F1 H1/\zJ F0 F1/\jT g b (ds.drop i) ρ1=some fl,
   ⟨ds.length,Jz _,rfl,ρ,F0,r.grow g0,g0.step,zJ.refl _,hf⟩,?_⟩
  rintro i k σ1 H1 ⟨hi,rfl,ρ1,F1,r1,s1,ff1,e2⟩;let⟨o1,o2,o3⟩:=ok F1 H1 ff1 r1.sub;by_cases hlt:i<ds.length
  ·rw[Jy hlt]at e2;simp only[jT]at e2;refine .inr ⟨o1 i hlt,λσ' H'=>i+1<=ds.length/\∃ρ3 F3,Rel K F3 H' ρ3 σ'/\jE ρ σ F H ρ3 σ' F3 H'/\zJ F0 F3/\jT g b (ds.drop (i+1)) ρ3=some fl,λσ' H' ⟨z1,z2⟩=>⟨ds.length - (i+1),by lia,z1,rfl,z2⟩,λx H2 y=>?_⟩;let⟨F2,g2,d2⟩:=o2 i x H2 _ (List.getElem?_eq_getElem hlt) y;have r2:=r1.grow g2;have s2:=s1.trans (g2.step) r.sub;cases e3:g ds[i] ρ1 with
   |none=>rw[e3]at e2;cases e2
   |some ρ2=>
    rw[e3]at e2;refine⟨⟨(ρ1,ds[i],ρ2),e3⟩,F2,r2,d2,λσ2 r2' ow=>?_⟩;have s2':=s2.kp ow;cases e4:b ρ2 with
    |none=>simp only[e4]at e2;cases e2
    |some fl2=>
     simp only[e4]at e2;refine⟨⟨(ρ2,fl2),e4⟩,F2,r2',?_⟩;cases fl2 with
     |nx ρ3=>exact λσ3 F3 H3 r3 s3=>⟨hlt,ρ3,F3,r3,s2'.trans s3 r.sub,ff1.trans (g2.ff.trans s3.ff),e2⟩
     |ct ρ3=>exact λσ3 F3 H3 r3 s3=>⟨hlt,ρ3,F3,r3,s2'.trans s3 r.sub,ff1.trans (g2.ff.trans s3.ff),e2⟩
     |bk ρ3=>cases e2;exact λσ3 F3 H3 r3 s3=>q σ3 F3 H3 r3 (s2'.trans s3 r.sub)
     |rt d ρ3=>cases e2;exact λv σ3 F3 H3 r3 s3 h=>q v σ3 F3 H3 r3 (s2'.trans s3 r.sub) (ResR.back s2' r.sub h)
     |rs c d ρ3=>cases e2;exact λσ3 F3 H3 C da r3 s3 x=>q σ3 F3 H3 C da r3 (s2'.trans s3 r.sub) x
  ·have e:i=ds.length:=by(simp at*;lia)
   subst e;rw[QA]at e2;have e2:some (Fl.nx ρ1)=some fl:=e2;cases e2
   exact .inl ⟨o3,q σ1 F1 H1 r1 s1⟩
end
noncomputable def wW:Option Sl->Option Sl
 |some (.ow _ d)=>some (.bor d)
 |s=>s
noncomputable def jC(cap:ON)(ρ:En):En:=cap.map λo=>match o with
 |some j=>wW ((ρ[j]?).getD none)
 |none=>none
variable{i:Nat}{cap:ON}
def zdq{s:Sl}(h:(jC cap ρ)[i]?=some (some s)):∃j s0,cap[i]?=some (some j)/\ρ[j]?=some (some s0)/\wW (some s0)=some s:=by
 unfold jC at h;rw[List.getElem?_map]at h;cases e:cap[i]? with
 |none=>rw[e]at h;cases h
 |some o=>
  rw[e]at h;cases o with
  |none=>cases h
  |some j=>
   have h:wW ((ρ[j]?).getD none)=some s:=Option.some.inj h;cases e2:ρ[j]? with
   |none=>rw[e2]at h;cases h
   |some o2=>
    rw[e2]at h;cases o2 with
    |none=>cases h
    |some s0=>exact⟨j,s0,rfl,e2,h⟩
def zhB(h:cap[i]?=some (some j))(e:σ[j]?=some (some v)):(st0 cap σ)[i]?=some (some v):=by unfold st0;rw[List.getElem?_map,h];simp[e]
def Rel.inner(r:Rel K F H ρ σ):Rel K F H (jC cap ρ) (st0 cap σ):=by
 refine⟨r.sub,λi d h=>?_,λi d h=>?_,λi q d h=>?_,λi j q d s a ne h1=>?_,by simp[jC,st0]⟩
 ·let⟨j,s0,e1,e2,e3⟩:=zdq h;cases s0<;>simp[wW]at e3
  subst e3;let⟨v,h1,h2⟩:=r.dat j _ e2;exact⟨v,zhB e1 h1,h2⟩
 ·let⟨j,s0,e1,e2,e3⟩:=zdq h;cases s0<;>simp[wW]at e3<;>subst e3
  ·let⟨a,h1,_,h2⟩:=r.own j _ _ e2;exact⟨_,zhB e1 h1,h2.b⟩
  ·let⟨v,h1,h2⟩:=r.bor j _ e2;exact⟨v,zhB e1 h1,h2⟩
 ·let⟨j,s0,e1,e2,e3⟩:=zdq h;cases s0<;>simp[wW]at e3
 ·let⟨j,s0,e1,e2,e3⟩:=zdq h1;cases s0<;>simp[wW]at e3
noncomputable def jH(g:D->EO En)(t:EO Bool)(f:EO D)(ρi:En):U D->Option (U D)
 |[]=>some []
 |x::xs=>(g x ρi).bind λρ1=>(t ρ1).bind λb=>if b=true then(f ρ1).bind λd=>(jH g t f ρi xs).map λl=>d::l else jH g t f ρi xs
noncomputable def kR(cap:ON)(fi:EO (U D))(g:D->EO En)(t:EO Bool)(f:EO D):EO D:=λρ=>(fi ρ).bind λds=>if ds.length<=lim then(jH g t f (jC cap ρ) ds).map D.lst else none
structure nJ(K:Fg)(X:Cx)(ifs:U Expr)(t:EO Bool):Prop where
 h:∀ρ b,t ρ=some b->PIf X ifs (rdTp K ρ b)
noncomputable def jB:EO Bool:=λ_=>some true
def xW{K:Fg}:nJ K X [] jB:=nJ.mk λρ b h=>by
 cases h
 intro p4 s σ H Q I ⟨F,r,q⟩;exact zlG p4 s σ H Q I (q F H (zG.refl r.sub))
variable{t:EO Bool}
def pif1(h:FTp K X c t):nJ K X [c] t:=nJ.mk λρ b hf=>zqz (h.h ρ b hf)
section
variable{K:Fg}{md:Md}{X:Cx}{pos:Pos}{tg zO elt:Expr}{ifs:U Expr}{scope:Scope}
def znb{ds rs:U D}{Q:VK}(hm:jH g t f (jC cap ρ) ds=some rs)(hn:ds.length<=lim)(r:Rel K F H ρ σ)(q:∀v F' H',zG F H F' H'->Res K .ow H F' H' (.lst rs) v->Q v H'){J:It}{F1 H1:Hp}(g1:zG F H F1 H1)(ok:gX K J F1 ds):
  ztS K J (λv σ H Q=>∃i:{q:En×D×En//g q.2.1 q.1=some q.2.2},rdG K i.1.1 i.1.2.1 i.1.2.2 v σ H Q) (λσ H Q=>∃i:{q:En×Bool//t q.1=some q.2},rdTp K i.1.1 i.1.2 σ H Q) (λσ H Q=>∃i:{q:En×D//f q.1=some q.2},rdE K .fz i.1.1 i.1.2 σ H Q) cap σ H1 Q:=by
 intro a ha;refine⟨λi m H2=>∃p7,i<=ds.length/\m=ds.length - i/\∃F2 done left,zG F H F2 H2/\zJ F1 F2/\(∀b o,H1 b=some o->H2 b=some o)/\F2 a=none/\H2 a=some (.lst p7)/\zD K F2 done p7/\p7.length<=i/\jH g t f (jC cap ρ) (ds.drop i)=some left/\rs=done++left,
  ⟨ds.length,[],Jz _,rfl,F1,[],rs,⟨g1.ff,g1.hh.trans (yJ ha _),g1.fh.trans (yJ ha _),g1.nw⟩,zJ.refl _,λb o e=>yJ ha _ _ _ e,g1.fh.free ha,qG,zD.nil,Jz _,hm,rfl⟩,?_⟩
 rintro i m H2 ⟨p7,hi,rfl,F2,done,left,g2,ff,hh,fa,hd,da,al,e1,e2⟩;let⟨o1,o2,o3⟩:=ok F2 H2 ff g2.fh;by_cases hlt:i<ds.length
 ·refine .inr ⟨o1 i hlt,λx H3 y=>?_⟩;let⟨F3,g3,d3⟩:=o2 i x H3 _ (List.getElem?_eq_getElem hlt) y;rw[Jy hlt]at e1;simp only[jH]at e1;have g23:=g2.trans g3;have hd3:=g3.hh _ _ hd;have fa3:=g3.nw a _ hd fa;let⟨ρ1,e3,e1⟩:=Jg.mp e1;refine⟨⟨(jC cap ρ,ds[i],ρ1),e3⟩,F3,(r.grow g23).inner,d3,λσ2 r2 _=>?_⟩;let⟨b,e4,e1⟩:=Jg.mp e1;refine⟨⟨(ρ1,b),e4⟩,F3,r2,λF4 H4 g4=>?_⟩;have g24:=g23.trans g4;have hd4:=g4.hh _ _ hd3;have fa4:=g4.nw a _ hd3 fa3;have ff4:zJ F1 F4:=ff.trans (g3.ff.trans g4.ff);have hh4:∀c o,H1 c=some o->H4 c=some o:=λc o e=>g4.hh _ _ (g3.hh _ _ (hh c o e))
  cases b with
  |false=>
   rw[if_neg QD]at e1;exact wQ ⟨ds.length - (i+1),by lia,p7,hlt,rfl,F4,done,left,g24,ff4,hh4,fa4,hd4,da.mono (g3.ff.trans g4.ff),by lia,e1,e2⟩
  |true=>
   rw[if_pos rfl]at e1;refine wP ?_;let⟨d,e5,e1⟩:=Jg.mp e1;cases e6:jH g t f (jC cap ρ) (ds.drop (i+1))with
   |none=>rw[e6]at e1;cases e1
   |some l=>
    rw[e6]at e1;cases e1
    refine⟨⟨(ρ1,d),e5⟩,F4,r2.grow g4,λv F5 H5 g5 d5=>?_⟩;have g25:=g24.trans g5;have hd5:=g5.hh _ _ hd4;have fa5:=g5.nw a _ hd4 fa4;have haH:H a=none:=g1.hh.free ha;refine⟨p7,hd5,wM (by lia),ds.length - (i+1),by lia,_,hlt,rfl,F5,done++[d],l,?_,ff4.trans g5.ff,λc o e=>?_,fa5,qG,?_,by simp[*],e6,by rw[e2];simp⟩
    ·refine⟨g25.ff,λc o e=>?_,λc o e=>?_,g25.nw⟩
     ·rw[zT (jI e haH)];exact g25.hh _ _ e
     ·rw[zT (jI e fa5)];exact g25.fh _ _ e
    ·rw[zT (jI e ha)];exact g5.hh _ _ (hh4 c o e)
    ·exact(da.mono (g3.ff.trans (g4.ff.trans g5.ff))).snoc d5
 ·have e:i=ds.length:=by(simp at*;lia)
  subst e;rw[QA]at e1;have e1:some []=some left:=e1;cases e1
  rw[JL]at e2;subst e2;exact .inl ⟨o3,q _ F2 H2 g2 ⟨a,rfl,g1.hh.free ha,fa,p7,hd,da⟩⟩
def zcO{d:D}(h:kR cap fi g t f ρ=some d):∃ds rs,fi ρ=some ds/\ds.length<=lim/\jH g t f (jC cap ρ) ds=some rs/\d=.lst rs:=by
 unfold kR at h;cases e1:fi ρ with
 |none=>rw[e1]at h;cases h
 |some ds=>
  rw[e1]at h;simp only[Option.bind_some]at h;split at h
  ·rename_i hz;cases e2:jH g t f (jC cap ρ) ds with
   |none=>rw[e2]at h;cases h
   |some rs=>rw[e2]at h;cases h;exact⟨ds,rs,rfl,hz,e2,rfl⟩
  ·cases h
def vY(N:U Str)(cap:ON)(cp:Cap X scope N cap)(hc:X.calm=true)(hi:FI K X tg zO fi)(hg:∀C s0 H0 fp,FG K (Y0 0) tg g)(ht:∀C s0 H0 fp,nJ K (Y0 0) ifs t)(he:∀C s0 H0 fp,FP K .fz (Y0 0) elt f)(S:kH X scope:=by exact kH.mk')(hs:G0 (∀x,foldedSetIterable zO X.env x=pure x))(hK:B0 (X.K=K)):
  FP K .ow X (.ListComp elt [⟨tg,zO,ifs,0⟩] scope pos) (kR cap fi g t f):=FP.mk λρ d hf=>by
 let⟨ds,rs,e1,hz,e2,rfl⟩:=zcO hf;refine PE.imp (zqD N cap cp hc (hi.h ρ ds e1) (λC s0 H0 fp=>PG.any λi:{q:En×D×En//g q.2.1 q.1=some q.2.2}=>(hg C s0 H0 fp).h _ _ _ i.2) (λC s0 H0 fp=>PIf.any λi:{q:En×Bool//t q.1=some q.2}=>(ht C s0 H0 fp).h _ _ i.2)
  (λC s0 H0 fp=>PE.any λi:{q:En×D//f q.1=some q.2}=>(he C s0 H0 fp).h _ _ i.2) S hs) λσ H Q ⟨F,r,q⟩=>?_
 exact⟨F,r,λJ F1 H1 g1 ok=>znb e2 hz r q g1 ok⟩
def zrM(k:Nat){py spos:Pos}(N:U Str)(cap:ON)(cp:Cap X scope N cap)(hc:X.calm=true)(hN:X.N.Nodup)(hi:FI K X tg zO fi)(hg:∀C s0 H0 fp,FG K (Y0 0) tg g)(ht:∀C s0 H0 fp,nJ K (Y0 0) ifs t)(he:∀C s0 H0 fp,FP K .fz (Y0 0) elt f)(hk:B0 (X.N[k]?=some y))(hy:K0 (Loc X.env.scope y))(S:kH X scope:=by exact kH.mk')(hs:G0 (∀x,foldedSetIterable zO X.env x=pure x))(hsw:B0 (swapsWith (.ListComp elt [⟨tg,zO,ifs,0⟩] scope pos) (some (.Name y py)) spos.line X.env=pure true))(hf:K0 (X.fn y=true\/X.env.scope.names.lookup y=some .local))(hK:B0 (X.K=K)):
  FS K md X (.Assign [.Name y py] (.ListComp elt [⟨tg,zO,ifs,0⟩] scope pos) spos) (qJ k (kR cap fi g t f)):=FS.mk λρ fl hm=>by
 unfold qJ at hm;cases e0:kR cap fi g t f ρ with
 |none=>rw[e0]at hm;cases hm
 |some d=>
  rw[e0]at hm;cases hm
  let⟨ds,rs,e1,hz,e2,rfl⟩:=zcO e0;refine PS.imp (zjV N cap cp hc hN hk hy (hi.h ρ ds e1) (λC s0 H0 fp=>PG.any λi:{q:En×D×En//g q.2.1 q.1=some q.2.2}=>(hg C s0 H0 fp).h _ _ _ i.2) (λC s0 H0 fp=>PIf.any λi:{q:En×Bool//t q.1=some q.2}=>(ht C s0 H0 fp).h _ _ i.2)
   (λC s0 H0 fp=>PE.any λi:{q:En×D//f q.1=some q.2}=>(he C s0 H0 fp).h _ _ i.2) S hs hsw hf) λD σ H ⟨F,r,q⟩=>?_
  refine⟨F,r,λJ F1 H1 g1 ok=>znb e2 hz r (λv F2 H2 g2 h=>?_) g1 ok⟩;let⟨a0,ea,z1,z2,z3⟩:=h;let⟨F3,g3,h3⟩:=Res.fz_of_ow g2 ⟨a0,ea,z1,z2,z3⟩ ea z3.fl;have s3:=g3.step (ρ:=ρ) (σ:=σ);exact q _ F3 H2 ((r.grow g3).setD h3) (s3.kp Kp.setD)
end
noncomputable def SpD(K:Fg)(md:Md)(m:LO):Sp:=λvs H Q _=>∃F ds d,zJ F H/\zD K F ds vs/\m ds=some d/\∀v F' H',zG F H F' H'->Res K md H F' H' d v->Q v H'
variable{N:U Str}{mb:Nat->EO Fl}
section
variable{P:Program}{w:World}{K:Fg}{mg:SV}{base:Heap}{md:Md}{X:Cx}{k:Nat}{f:Addr}{fd:FuncData}{ps:U Str}{m:LO}{x:Str}{e:Expr}{es:U Expr}{fs:EO (U D)}{p pos:Pos}
def zuQ(F:yP X.prog X.w X.K X.mg X.base CX0 k f fd ps (SpD K md m))(hr:jK k X.A)(hg:Gl X x)(hm:X.mg x=some (.ref f))(hk:PySem.W.keepIn X.K (.ref f)=true)(hb:wG X.K fd ps [])(ha:FPs K true X (e::es) fs)(H1:∀{t:TA},PA X (e::es) t->PE X (.Call (.Name x p) (e::es) [] pos) (znG (SpD K md m) [] E0 t):=by exact λha=>zhP ‹_› ‹_› ‹_› ‹_› ‹_› ‹_› .nil zqF ha):
  FP K md X (.Call (.Name x p) (e::es) [] pos) (cL m fs):=FP.mk λρ d hf=>by
 let⟨l,e1,e2⟩:=zcS hf;refine PE.imp (H1 (ha.h ρ l e1)) λσ H Q ⟨F,r,q⟩=>⟨F,r,λvs F1 H1 g1 r1=>?_⟩
 refine⟨F1,l,d,g1.fh,by rw[JL];exact r1,e2,λv F2 H2 g2 h2=>q v F2 H2 (g1.trans g2) ?_⟩;cases md with
 |fz=>exact h2
 |br=>exact h2
 |ow=>
  let⟨a,e,h3,h4,h5⟩:=h2;exact⟨a,e,g1.hh.free h3,h4,h5⟩
noncomputable def kZ(n:Nat)(ds:U D):En:=ds.map (λd=>some (.dat d))++List.replicate (n - ds.length) none
theorem Rel.start{ds:U D}{vs:U V}(s:zJ F H)(q:zD K F ds vs):Rel K F H (kZ N.length ds) (L2.start N vs):=by
 have hl:=q.length;have key:∀(i:Nat) s,(kZ N.length ds)[i]?=some (some s)->∃d,s=.dat d/\ds[i]?=some d:=λi s h=>by
  unfold kZ at h;by_cases hi:i<ds.length
  ·rw[List.getElem?_append_left (by simpa using hi),List.getElem?_map,List.getElem?_eq_getElem hi]at h;cases h
   exact⟨_,rfl,List.getElem?_eq_getElem hi⟩
  ·rw[List.getElem?_append_right (by simpa using hi)]at h;rw[List.getElem?_replicate]at h;split at h<;>cases h
 refine⟨s,λi d h=>?_,λi d h=>?_,λi q d h=>?_,λi j q d s a ne h1=>?_,?_⟩
 ·let⟨d',e,hd⟩:=key i _ h;cases e
  let⟨v,hv,dv⟩:=q.get hd;refine⟨v,?_,dv⟩;unfold L2.start;have hi:i<vs.length:=(List.getElem?_eq_some_iff.mp hv).1;rw[List.getElem?_append_left (by simpa using hi),List.getElem?_map,hv];rfl
 ·let⟨d',e,_⟩:=key i _ h;cases e
 ·let⟨d',e,_⟩:=key i _ h;cases e
 ·let⟨d',e,_⟩:=key i _ h1;cases e
 ·unfold kZ L2.start;simp[hl]
theorem zbK{ds:U D}{b:Addr}(h:xH (kZ n ds) σ b):False:=by
 let⟨i,q,d,h,_⟩:=h;unfold kZ at h;by_cases hi:i<ds.length
 ·rw[List.getElem?_append_left (by simpa using hi),List.getElem?_map,List.getElem?_eq_getElem hi]at h;cases h
 ·rw[List.getElem?_append_right (by simpa using hi)]at h;rw[List.getElem?_replicate]at h;split at h<;>cases h
def jE.grow{ds:U D}(a:jE (kZ n ds) σ F H ρ' σ' F' H')(s:zJ F H):zG F H F' H':=by
 refine⟨a.ff,λb o e=>?_,a.fh,λb o e n=>(a.rest b o e n zbK).2⟩;cases q:F b with
 |some u=>
  have:=s _ _ q;rw[e]at this;cases this
  exact a.fh _ _ (a.ff _ _ q)
 |none=>exact(a.rest b o e q zbK).1
def ztt{qual:Str}{st:Stmt}(Fn:Fun K x qual st f fd)(S:nA N ps (kQ st))(hb:∀(n:Nat) (cdv:Value) (A:Around) (outer:U Env) (s:Shared) (H:Hp) (E:XK),jK k (A.deeper (envOfC qual (kQ st) s.heap.objs.size f cdv))->FSs K md (vZ CX0 P w K mg base N qual (kQ st) f cdv A outer s H E).nox (wT st) (mb n))(hm:∀ds d,m ds=some d->ds.length=ps.length/\∃n,(∃ρ',mb n (kZ N.length ds)=some (.rt d ρ'))\/(d=.non/\md=.fz/\∃ρ',mb n (kZ N.length ds)=some (.nx ρ'))):yP P w K mg base CX0 (k+1) f fd ps (SpD K md m):=by
 refine Fn.ok S (λvs H Q E h=>?_) (λcdv A outer s H vs Q E hr h=>?_)
 ·let⟨F,ds,d,_,q,e,_⟩:=h;rw[q.length];exact(hm ds d e).1
 let⟨F,ds,d,sub,qd,e,k⟩:=h;let⟨_,n,h⟩:=hm ds d e;rcases h with⟨ρ',h⟩|⟨rfl,rfl,ρ',h⟩
 ·refine⟨_,(hb n cdv A outer s H E hr).h _ _ h,F,Rel.start sub qd,λv σ' F' H' r' s' res=>?_⟩;refine k v F' H' (s'.grow sub) ?_;cases md with
  |fz=>exact res
  |br=>exact res.elim
  |ow=>
   let⟨a,ea,h1,h2,h3⟩:=res;refine⟨a,ea,?_,h2,h3⟩;grind [zbK]
 ·refine⟨_,(hb n cdv A outer s H E hr).h _ _ h,F,Rel.start sub qd,λσ' F' H' r' s'=>?_⟩;exact k _ F' H' (s'.grow sub) (Dat.non (K:=K) (F:=F'))
end
variable{A:Around}
def kY{k:Nat}(hr:jK k A):A.units+100<cLine:=by have:=hr.un;lia
def u101{k:Nat}(hr:jK k A):A.units+101<cLine:=by have:=hr.un;lia
structure Glb(mg:SV):Prop where
 isi:mg "isinstance"=none
 str:mg "str"=none
 tuple:mg "tuple"=none
 list:mg "list"=none
 int:mg "int"=none
 bool:mg "bool"=none
 dict:mg "dict"=none
 len:mg "len"=none
 range:mg "range"=none
 enum:mg "enumerate"=none
 sum:mg "sum"=none
 max:mg "max"=none
 min:mg "min"=none
 abs:mg "abs"=none
 zip:mg "zip"=none
 reversed:mg "reversed"=none
 sorted:mg "sorted"=none
 set:mg "set"=none
 any:mg "any"=none
 all:mg "all"=none
structure Fk(P:Program)(w:World)(K:Fg)(mg:SV)(base:Heap)(x:Str)(ps:U Str)(md:Md)(k:Nat)(m:LO):Prop where
 ex:∃f fd,yP P w K mg base CX0 k f fd ps (SpD K md m)/\wG K fd ps []/\PySem.W.keepIn K (.ref f)=true/\mg x=some (.ref f)
section
variable{P:Program}{w:World}{K:Fg}{mg:SV}{base:Heap}{md:Md}{X:Cx}{k j:Nat}{ps:U Str}{m m':LO}{x:Str}{e:Expr}{es:U Expr}{fs:EO (U D)}{p pos:Pos}
def fk(G:Fk X.prog X.w X.K X.mg X.base x ps md k m)(hr:jK j X.A)(ha:FPs K true X (e::es) fs)(hle:k<=j:=by first|decide|lia)(hg:B0 (Gl X x))(hK:B0 (X.K=K))(H1:∀{f:Addr}{fd:FuncData} {t:TA},yP X.prog X.w X.K X.mg X.base CX0 k f fd ps (SpD K md m)->jK k X.A->Gl X x->X.mg x=some (.ref f)->PySem.W.keepIn X.K (.ref f)=true->wG X.K fd ps []->PA X (e::es) t->PE X (.Call (.Name x p) (e::es) [] pos) (znG (SpD K md m) [] E0 t):=by exact λF hr hg hm hk hb ha=>zhP F hr hg hm hk hb .nil zqF ha):
  FP K md X (.Call (.Name x p) (e::es) [] pos) (cL m fs):=by
 subst hK;let⟨f,fd,F,hb,hk,hm⟩:=G.ex;exact zuQ F (hr.mono hle) hg hm hk hb ha λha=>H1 F (hr.mono hle) hg hm hk hb ha
theorem Fk.mono(G:Fk P w K mg base x ps md k m)(h:k<=j):Fk P w K mg base x ps md j m:=by let⟨f,fd,F,r⟩:=G.ex;exact⟨f,fd,F.mono h,r⟩
def Fk.never{f:Addr}{fd:FuncData}(h:wG K fd ps []/\PySem.W.keepIn K (.ref f)=true/\mg x=some (.ref f))(hm:∀ds,m ds=none):Fk P w K mg base x ps md 0 m:=by
 refine⟨f,fd,⟨λvs H Q E h=>?_,λA outer s H args us vs Q E _ _ _ _ h=>?_⟩,h⟩
 ·let⟨F,ds,d,_,_,e,_⟩:=h;simp_all
 ·let⟨F,ds,d,_,_,e,_⟩:=h;rw[hm]at e;cases e
noncomputable def yR:U D->Option (U Str)
 |[]=>some []
 | .str i::l=>(yR l).map (i::·)
 |_::_=>none
theorem zdH:∀{l:U D}{ns:U Str},yR l=some ns->l=ns.map D.str
 |[],ns,h=>by simp[yR]at h;subst h;rfl
 | .str i::l,ns,h=>by
  simp only[yR]at h;cases e:yR l with
  |none=>simp_all
  |some ms=>rw[e]at h;cases h;rw[zdH e];rfl
 | .non::_,_,h=>by simp[yR]at h
 | .bl _::_,_,h=>by simp[yR]at h
 | .int _::_,_,h=>by simp[yR]at h
 | .tup _::_,_,h=>by simp[yR]at h
 | .lst _::_,_,h=>by simp[yR]at h
 | .scr _::_,_,h=>by simp[yR]at h
 | .dic _ _::_,_,h=>by simp[yR]at h
 | .set _::_,_,h=>by simp[yR]at h
 | .exc _ _::_,_,h=>by simp[yR]at h
theorem zeS:∀(ns:U Str),yR (ns.map D.str)=some ns
 |[]=>rfl
 |n::ns=>by rw[Jd,yR,zeS ns];rfl
end
def zI:Nat:=1000000000
noncomputable def qI(mb:EO Fl)(np nn:Nat)(ds:U D):Option D:=if ds.length=np then(match mb (kZ nn ds)with
 |some (.rt d _)=>some d
 |_=>none)else none
noncomputable def runN(mb:EO Fl)(np nn:Nat)(ds:U D):Option D:=if ds.length=np then(match mb (kZ nn ds)with
 |some (.rt d _)=>some d
 |some (.nx _)=>some .non
 |_=>none)else none
variable{np nn:Nat}
def zlp:∀ds d,qI (mb zI) np nn ds=some d->ds.length=np/\∃n,(∃ρ',mb n (kZ nn ds)=some (.rt d ρ'))\/(d=.non/\md=.fz/\∃ρ',mb n (kZ nn ds)=some (.nx ρ')):=λds d h=>by
 unfold qI at h;split at h
 ·rename_i hl;refine⟨hl,zI,.inl ?_⟩;split at h
  ·rename_i d' ρ' e;cases h;exact⟨ρ',e⟩
  ·cases h
 ·cases h
def zqr:∀ds d,runN (mb zI) np nn ds=some d->ds.length=np/\∃n,(∃ρ',mb n (kZ nn ds)=some (.rt d ρ'))\/(d=.non/\Md.fz=.fz/\∃ρ',mb n (kZ nn ds)=some (.nx ρ')):=λds d h=>by
 unfold runN at h;split at h
 ·rename_i hl;refine⟨hl,zI,?_⟩;split at h
  ·rename_i d' ρ' e;cases h;exact .inl ⟨ρ',e⟩
  ·rename_i ρ' e;cases h;exact .inr ⟨rfl,rfl,ρ',e⟩
  ·cases h
 ·cases h
def ziF(ns:U Int):Prop:=∀n∈ns,Builtin.Int.intBits n<=2^20
def zoF{ns:U Int}(h:PySem.W.WData.layableAll [PySem.W.WData.list (ns.map PySem.W.WData.int)]=true):ziF ns:=by
 have h1:=(PySem.W.layableW_iff.mp (JU.mp h (PySem.W.WData.list (ns.map PySem.W.WData.int)) (by simp))).2.2;rw[PySem.W.WData.weight]at h1;have key:∀l:U Int,PySem.W.WData.weightAll (l.map PySem.W.WData.int)<=2^20->ziF l:=by
  intro l;induction l with
  |nil=>intro _ n hn;cases hn
  |cons x l ih=>
   intro h n hn;rw[Jd,PySem.W.WData.weightAll]at h;rcases JJ.mp hn with rfl|hn
   ·have:Builtin.Int.intBits n<=PySem.W.WData.weight (.int n):=by exact Jf _
    lia
   ·exact ih (by exact Jp (Nat.le_add_left _ _) ‹_›) n hn
 exact key ns h1
def zrx{l:PySem.W.OpenLaw}{k:Nat}{q:Program}{loose:U Str}{XP:(SV)->Heap->Prop}{YP:World->Heap->Prop}{d:DefRec}{K:Params->Fg}{m:LO}(hn:l.most=some 63)(hdf:d.params.defaults=[])(hr:jK k callerA)(hY:∀(w:World) (h:Heap),YP w h->(K w.params).In h)(F:∀(w:World) (mg:SV) (fa:Addr) (h:Heap),(K w.params).In h->h.Ns mainGlobals mg->mg d.name=some (.ref fa)->
   ∃fd:FuncData,(∀(s:Shared) (u:Value),BindsTo s fd ⟨[u],[]⟩ [(x,u)])/\∀base:Heap,(K w.params).In base->base.Ns mainGlobals mg->yP l.prog w (K w.params) mg base CX0 k fa fd [x] (SpD (K w.params) .fz m))(H:∀ns:U Int,ns.length<=63->ziF ns->m [.scr ns]=some (.bl true)):PySem.W.WalkO q loose XP YP l.row.toRowW d [] (λf vs=>PySem.call f vs):=
 L2.walk_of (k:=k) (x:=x) hn (by decide) hdf hr hY F
  (λw H' a ns hl hw _ hS=>⟨H',[.scr ns],.bl true,zJ.refl _,zD.cons (Dat.scr hS) zD.nil,H ns hl (zoF hw),λv F' H2 _ h=>Dat.bl_inv (K:=K w.params) (F:=F') h⟩) λ_ _ _ _ _ z=>z
end FL
namespace HT
def ZS(h:Heap)(z TI TO:Addr):Prop:=∃f0 f1,h.get? z=some {cls:=.type "zip",dict:=none,data:=.fields #[f0,f1,.bool false,.ref TI,.ref TO],slots:=#[]}/\(f0=.none\/∃T:Nat,f0=rawInt T)
variable{Q:Option Value->Shared->Prop}{z i1 i2 l1 l2 l:Addr}{n1 n2 i:Nat}{P1 P2:Nat->Value->Prop}{S1 S2:Nat->Heap->Prop}{h:Heap}{items:Array Value}
section
variable{prog:Program}{w:World}{A:Around}{E:Vs}{s:Shared}
def zct{a:Addr}{Q:Option Obj->Shared->Prop}(h:Q (s.heap.get? a) s):wpAny (model prog w) A (loadIfAlive a) Q E s:=by exact λ_ _ _=>h
def zpN{TI TO:Addr}{Q:Bool->Shared->Prop}(hz:ZS s.heap z TI TO)(h1:Q true s)(h2:∀h',ZS h' z TI TO->Heap.SameBut z s.heap h'->Q false {s with heap:=h'}):
  wpAny (model prog w) A (Builtin.SmallTypes.ownedTupleIsFree (.ref z)) Q E s:=by
 let⟨f0,f1,hz,hf⟩:=hz;rcases hf with rfl|⟨T,rfl⟩
 ·exact wpAny_bind (JY hz rfl rfl (Ja h1))
 ·refine wpAny_bind (JY hz rfl rfl ?_);refine wpAny_bind (zct ?_);split
  ·exact Ja h1
  ·refine wpAny_bind (JY hz rfl rfl ?_);split
   ·refine wpAny_bind (wpAny_setField_rec hz (by simp) λh' hz' hs'=>Ja (h2 h' ⟨_,_,hz',.inr ⟨T,rfl⟩⟩ hs'))
   ·exact Ja (h2 s.heap ⟨_,_,hz,.inr ⟨T,rfl⟩⟩ ⟨rfl,λ_ _=>rfl⟩)
theorem zkG{TI TO:Addr}{Q:Vs}(D:ZipApart z TI TO i1 i2 l1 l2)(D1:Draws prog w A i1 [i1,l1] n1 P1 S1)(D2:Draws prog w A i2 [i2,l2] n2 P2 S2)(hz:ZS s.heap z TI TO)(hTI:IsPair s.heap TI (.ref i1) (.ref i2))(hTO:∃a b,IsPair s.heap TO a b)(st1:S1 i s.heap)(st2:S2 i s.heap)(hi1:i<n1)(hi2:i<n2)(hQ:∀x y h' tk,P1 i x->P2 i y->ZS h' z TI TO->(∃a b,IsPair h' TO a b)->S1 (i+1) h'->S2 (i+1) h'->IsPair h' s.heap.objs.size x y->h'.objs.size=s.heap.objs.size+1->
   (∀c o,c≠z->c≠TO->c≠i1->c≠i2->s.heap.get? c=some o->h'.get? c=some o)->Q (Y0 3) {s with heap:=h',toks:=tk}):
  wpAny (model prog w) A (Builtin.«zip.__next__» ⟨[.ref z],[]⟩) (λfin s'=>∃v,fin=.done (.ret v)/\Q v s') E s:=by
 let⟨f0,f1,hz0,hf⟩:=id hz;let⟨o1,live1⟩:=D1.live _ _ st1;let⟨o2,live2⟩:=D2.live _ _ st2;have F1:∀{k:Nat}{h h':Heap} {c:Addr},S1 k h->Heap.SameBut c h h'->i1≠c->l1≠c->S1 k h':=λst hs e1 e2=>D1.frame _ _ _ st λb hb o e=>by
  rcases JJ.mp hb with rfl|hb
  ·exact hs.extBut _ _ e1 e
  ·rw[Je.mp hb]at e ⊢;exact hs.extBut _ _ e2 e
 have F2:∀{k:Nat}{h h':Heap} {c:Addr},S2 k h->Heap.SameBut c h h'->i2≠c->l2≠c->S2 k h':=λst hs e1 e2=>D2.frame _ _ _ st λb hb o e=>by
  rcases JJ.mp hb with rfl|hb
  ·exact hs.extBut _ _ e1 e
  ·rw[Je.mp hb]at e ⊢;exact hs.extBut _ _ e2 e
 show wpAny _ _ (field (.ref z) 2>>=_) _ _ _;refine wpAny_bind (JY hz0 rfl (x:=.bool false) rfl ?_);show wpAny _ _ (field (.ref z) 3>>=_) _ _ _;refine wpAny_bind (JY hz0 rfl (x:=.ref TI) rfl ?_);refine wpAny_bind (Qb hTI rfl ?_);show wpAny _ _ (Builtin.SmallTypes.ownedTupleIsFree (.ref z)>>=_) _ _ _;refine wpAny_bind (zpN hz ?_ λh₁ hz₁ hs₁=>?_)
 ·simp only[if_true];let⟨a,b,hTO⟩:=hTO;refine wpAny_bind (JH ?_);refine wpAny_bind (JY hz0 rfl (x:=.ref TO) rfl ?_);refine wpAny_bind (wpAny_setField_rec hz0 (by simp) λh₁ hz₁ hs₁=>?_);refine wpAny_bind ?_;simp only[List.zipIdx_cons,List.zipIdx_nil,List.forIn_cons,List.forIn_nil];refine wpAny_bind (wpAny_bind (wpAny_onRaise ?_));show wpAny _ _ (Builtin.SmallTypes.nextOf (.ref i1)>>=_) _ _ _;refine wpAny_bind (D1.item i {s with heap:=h₁} _ _ hi1 (F1 st1 hs₁ D.i1z D.l1z) λx h₂ tk₂ px st1' hs₂=>Ja ?_);have hTO₂:IsPair h₂ TO a b:=hs₂.extBut _ _ D.TOi1 (hs₁.extBut _ _ D.TOz hTO);refine wpAny_bind (Qb hTO₂ rfl ?_);refine wpAny_bind (wpAny_updateSeq_pair hTO₂ λh₃ hTO₃ hs₃=>?_)
  replace hTO₃:IsPair h₃ TO x b:=hTO₃
  refine wpAny_bind (wpAny_letGo (Ja ?_));refine wpAny_bind (wpAny_bind (wpAny_onRaise ?_));show wpAny _ _ (Builtin.SmallTypes.nextOf (.ref i2)>>=_) _ _ _;refine wpAny_bind (D2.item i {s with heap:=h₃,toks:=tk₂} _ _ hi2 (F2 (F2 (F2 st2 hs₁ D.i2z D.l2z) hs₂ D.i12.symm D.l2i1) hs₃ D.TOi2.symm D.l2TO) λy h₄ tk₄ py st2' hs₄=>Ja ?_);have hTO₄:IsPair h₄ TO x b:=hs₄.extBut _ _ D.TOi2 hTO₃;refine wpAny_bind (Qb hTO₄ rfl ?_);refine wpAny_bind (wpAny_updateSeq_pair hTO₄ λh₅ hTO₅ hs₅=>?_)
  replace hTO₅:IsPair h₅ TO x y:=hTO₅
  refine wpAny_bind (wpAny_letGo (Ja (Ja ?_)));refine wpAny_bind (Qb hTO₅ rfl ?_);refine wpAny_bind (wpAny_newTuple ?_);have hsz:h₅.objs.size=s.heap.objs.size:=by rw[hs₅.1,hs₄.1,hs₃.1,hs₂.1,hs₁.1]
  have hz₅:=hs₅.extBut _ _ D.TOz.symm (hs₄.extBut _ _ D.i2z.symm (hs₃.extBut _ _ D.TOz.symm (hs₂.extBut _ _ D.i1z.symm hz₁)));have hk₅:∀c o,c≠z->c≠TO->c≠i1->c≠i2->s.heap.get? c=some o->h₅.get? c=some o:=λc o c1 c2 c3 c4 e=>
   hs₅.extBut _ _ c2 (hs₄.extBut _ _ c4 (hs₃.extBut _ _ c2 (hs₂.extBut _ _ c3 (hs₁.extBut _ _ c1 e))))
  have h1₅:S1 (i+1) h₅:=F1 (F1 (F1 st1' hs₃ D.TOi1.symm D.l1TO) hs₄ D.i12 D.l1i2) hs₅ D.TOi1.symm D.l1TO;have h2₅:S2 (i+1) h₅:=F2 st2' hs₅ D.TOi2.symm D.l2TO;have hzlt:z<h₅.objs.size:=Jb hz₅;show wpAny _ _ (Builtin.SmallTypes.ownedTupleHandOut (.ref z) (.ref h₅.objs.size)>>=_) _ _ _;refine wpAny_bind ?_;unfold Builtin.SmallTypes.ownedTupleHandOut;have hz₆:=Heap.get?_push_of_some {cls:=.type "tuple",data:=.seq #[x,y]} hz₅;refine wpAny_bind (wpAny_setField_rec hz₆ (by simp) λh₇ hz₇ hs₇=>?_);refine wpAny_setField_rec hz₇ (by simp) λh₈ hz₈ hs₈=>?_
  have up:∀c o,c≠z->h₅.get? c=some o->h₈.get? c=some o:=λc o c1 e=>hs₈.extBut _ _ c1 (hs₇.extBut _ _ c1 (Heap.get?_push_of_some _ e))
  have hT₈:IsPair h₈ h₅.objs.size x y:=hs₈.extBut _ _ (Qv hzlt) (hs₇.extBut _ _ (Qv hzlt) (Heap.get?_push_size _ rfl));have hz8:h₈.objs.size=h₅.objs.size+1:=by rw[hs₈.1,hs₇.1,Ww]
  rw[hsz]at hT₈ hz8;refine Ja ⟨_,rfl,?_⟩;show Q (.ref h₅.objs.size) _;rw[hsz];refine hQ x y h₈ tk₄ px py ⟨_,_,hz₈,.inr ⟨_,rfl⟩⟩ ⟨_,_,up _ _ D.TOz hTO₅⟩ (D1.frame _ _ _ h1₅ λb hb o e=>up b o ?_ e) (D2.frame _ _ _ h2₅ λb hb o e=>up b o ?_ e) hT₈ hz8 λc o c1 c2 c3 c4 e=>up c o c1 (hk₅ c o c1 c2 c3 c4 e)
  ·rcases JJ.mp hb with rfl|hb
   ·exact D.i1z
   ·rw[Je.mp hb];exact D.l1z
  ·rcases JJ.mp hb with rfl|hb
   ·exact D.i2z
   ·rw[Je.mp hb];exact D.l2z
 ·simp only[Bool.false_eq_true,if_false];let⟨a,b,hTO⟩:=hTO;rw[←Array.forIn_toList];refine wpAny_bind ?_;simp only[List.forIn_cons,List.forIn_nil];refine wpAny_bind (wpAny_bind (Jk ?_));show wpAny _ _ (Builtin.SmallTypes.nextOf (.ref i1)>>=_) _ _ _;refine wpAny_bind (D1.item i {s with heap:=h₁} _ _ hi1 (F1 st1 hs₁ D.i1z D.l1z) λx h₂ tk₂ px st1' hs₂=>Ja (Ja ?_));refine wpAny_bind (wpAny_bind (Jk ?_));show wpAny _ _ (Builtin.SmallTypes.nextOf (.ref i2)>>=_) _ _ _;refine wpAny_bind (D2.item i {s with heap:=h₂,toks:=tk₂} _ _ hi2 (F2 (F2 st2 hs₁ D.i2z D.l2z) hs₂ D.i12.symm D.l2i1) λy h₄ tk₄ py st2' hs₄=>Ja (Ja (Ja ?_)));show wpAny _ _ (newTuple [x,y]>>=_) _ _ _;refine wpAny_bind (wpAny_newTuple ?_);have hsz:h₄.objs.size=s.heap.objs.size:=by rw[hs₄.1,hs₂.1,hs₁.1]
  let⟨g0,g1,hz₁',hg⟩:=hz₁;have hz₄:=hs₄.extBut _ _ D.i2z.symm (hs₂.extBut _ _ D.i1z.symm hz₁');refine Ja ⟨_,rfl,?_⟩;show Q (.ref h₄.objs.size) _;have up:∀c o,h₄.get? c=some o->(h₄.push {cls:=.type "tuple",data:=.seq #[x,y]}).get? c=some o:=λc o e=>Heap.get?_push_of_some _ e
  have hT:IsPair (h₄.push {cls:=.type "tuple",data:=.seq #[x,y]}) h₄.objs.size x y:=Heap.get?_push_size _ rfl;have hz8:(h₄.push {cls:=.type "tuple",data:=.seq #[x,y]}).objs.size=h₄.objs.size+1:=Ww ..;rw[hsz]at hT hz8 ⊢;exact hQ x y _ tk₄ px py ⟨_,_,up _ _ hz₄,hg⟩ ⟨_,_,up _ _ (hs₄.extBut _ _ D.TOi2 (hs₂.extBut _ _ D.TOi1 (hs₁.extBut _ _ D.TOz hTO)))⟩ (D1.frame _ _ _ (F1 st1' hs₄ D.i12 D.l1i2) λb hb o e=>up b o e) (D2.frame _ _ _ st2' λb hb o e=>up b o e) hT hz8
   λc o c1 c2 c3 c4 e=>up c o (hs₄.extBut _ _ c4 (hs₂.extBut _ _ c3 (hs₁.extBut _ _ c1 e)))
theorem zny{TI TO:Addr}{Q:Fin->Shared->Prop}(D:ZipApart z TI TO i1 i2 l1 l2)(D1:Draws prog w A i1 [i1,l1] n1 P1 S1)(D2:Draws prog w A i2 [i2,l2] n2 P2 S2)(hz:ZS s.heap z TI TO)(hTI:IsPair s.heap TI (.ref i1) (.ref i2))(hTO:∃a b,IsPair s.heap TO a b)(st1:S1 i s.heap)(st2:S2 i s.heap)(he:i=n1\/(i<n1/\i=n2))(hE:∀h' e tk,(∀c o,c≠z->c≠TO->c≠i1->c≠i2->s.heap.get? c=some o->h'.get? c=some o)->(∃o,h'.get? e=some o/\o.cls=.type "StopIteration")->E (.ref e) {s with heap:=h',toks:=tk}):
  wpAny (model prog w) A (Builtin.«zip.__next__» ⟨[.ref z],[]⟩) Q E s:=by
 let⟨f0,f1,hz0,hf⟩:=id hz;have F1:∀{k:Nat}{h h':Heap} {c:Addr},S1 k h->Heap.SameBut c h h'->i1≠c->l1≠c->S1 k h':=λst hs e1 e2=>D1.frame _ _ _ st λb hb o e=>by
  rcases JJ.mp hb with rfl|hb
  ·exact hs.extBut _ _ e1 e
  ·rw[Je.mp hb]at e ⊢;exact hs.extBut _ _ e2 e
 have F2:∀{k:Nat}{h h':Heap} {c:Addr},S2 k h->Heap.SameBut c h h'->i2≠c->l2≠c->S2 k h':=λst hs e1 e2=>D2.frame _ _ _ st λb hb o e=>by
  rcases JJ.mp hb with rfl|hb
  ·exact hs.extBut _ _ e1 e
  ·rw[Je.mp hb]at e ⊢;exact hs.extBut _ _ e2 e
 show wpAny _ _ (field (.ref z) 2>>=_) _ _ _;refine wpAny_bind (JY hz0 rfl (x:=.bool false) rfl ?_);show wpAny _ _ (field (.ref z) 3>>=_) _ _ _;refine wpAny_bind (JY hz0 rfl (x:=.ref TI) rfl ?_);refine wpAny_bind (Qb hTI rfl ?_);refine wpAny_bind (zpN hz ?_ λh₁ hz₁ hs₁=>?_)
 ·simp only[if_true];let⟨a,b,hTO⟩:=hTO;refine wpAny_bind (JH ?_);refine wpAny_bind (JY hz0 rfl (x:=.ref TO) rfl ?_);refine wpAny_bind (wpAny_setField_rec hz0 (by simp) λh₁ hz₁ hs₁=>?_);refine wpAny_bind ?_;refine wpAny_bind (wpAny_bind (wpAny_onRaise ?_));rcases he with rfl|⟨hlt,rfl⟩
  ·refine wpAny_bind (D1.done {s with heap:=h₁} _ _ (F1 st1 hs₁ D.i1z D.l1z) λh₂ e hs₂ he=>?_);let⟨oe,hoe,hce⟩:=he;have hz₂:=hs₂ _ _ D.i1z.symm hz₁;have hez:e≠z:=λx=>by grind
   exact wpAny_setField_rec hz₂ (by simp) λh₃ _ hs₃=>hE h₃ e s.toks (λc o c1 _ c3 _ x=>hs₃.extBut _ _ c1 (hs₂ _ _ c3 (hs₁.extBut _ _ c1 x))) ⟨oe,hs₃.extBut _ _ hez hoe,hce⟩
  ·refine wpAny_bind (D1.item i {s with heap:=h₁} _ _ hlt (F1 st1 hs₁ D.i1z D.l1z) λx h₂ tk₂ px st1' hs₂=>Ja ?_);have hTO₂:IsPair h₂ TO a b:=hs₂.extBut _ _ D.TOi1 (hs₁.extBut _ _ D.TOz hTO);refine wpAny_bind (Qb hTO₂ rfl ?_);refine wpAny_bind (wpAny_updateSeq_pair hTO₂ λh₃ hTO₃ hs₃=>?_);refine wpAny_bind (wpAny_letGo (Ja ?_));refine wpAny_bind (wpAny_bind (wpAny_onRaise ?_));refine wpAny_bind (D2.done {s with heap:=h₃,toks:=tk₂} _ _ (F2 (F2 (F2 st2 hs₁ D.i2z D.l2z) hs₂ D.i12.symm D.l2i1) hs₃ D.TOi2.symm D.l2TO) λh₄ e hs₄ he=>?_);let⟨oe,hoe,hce⟩:=he;have hz₄:=hs₄ _ _ D.i2z.symm (hs₃.extBut _ _ D.TOz.symm (hs₂.extBut _ _ D.i1z.symm hz₁));have hez:e≠z:=λx=>by grind
   exact wpAny_setField_rec hz₄ (by simp) λh₅ _ hs₅=>hE h₅ e tk₂ (λc o c1 c2 c3 c4 x=>hs₅.extBut _ _ c1 (hs₄ _ _ c4 (hs₃.extBut _ _ c2 (hs₂.extBut _ _ c3 (hs₁.extBut _ _ c1 x))))) ⟨oe,hs₅.extBut _ _ hez hoe,hce⟩
 ·simp only[Bool.false_eq_true,if_false];rw[←Array.forIn_toList];refine wpAny_bind ?_;simp only[List.forIn_cons,List.forIn_nil];refine wpAny_bind (wpAny_bind (Jk ?_));rcases he with rfl|⟨hlt,rfl⟩
  ·refine wpAny_bind (D1.done {s with heap:=h₁} _ _ (F1 st1 hs₁ D.i1z D.l1z) λh₂ e hs₂ he=>?_);exact hE h₂ e s.toks (λc o c1 _ c3 _ x=>hs₂ _ _ c3 (hs₁.extBut _ _ c1 x)) he
  ·refine wpAny_bind (D1.item i {s with heap:=h₁} _ _ hlt (F1 st1 hs₁ D.i1z D.l1z) λx h₂ tk₂ px st1' hs₂=>Ja (Ja ?_));refine wpAny_bind (wpAny_bind (Jk ?_));refine wpAny_bind (D2.done {s with heap:=h₂,toks:=tk₂} _ _ (F2 (F2 st2 hs₁ D.i2z D.l2z) hs₂ D.i12.symm D.l2i1) λh₄ e hs₄ he=>?_);exact hE h₄ e tk₂ (λc o c1 _ c3 c4 x=>hs₄ _ _ c4 (hs₂.extBut _ _ c3 (hs₁.extBut _ _ c1 x))) he
structure ZSt(z TI TO i1 i2:Addr)(S1 S2:Nat->Heap->Prop)(i:Nat)(h:Heap):Prop where
 zs:ZS h z TI TO
 ti:IsPair h TI (.ref i1) (.ref i2)
 to:∃a b,IsPair h TO a b
 s1:S1 i h
 s2:S2 i h
theorem next_zip{TI TO:Addr}(D:ZipApart z TI TO i1 i2 l1 l2)(D1:Draws prog w A.in1 i1 [i1,l1] n1 P1 S1)(D2:Draws prog w A.in1 i2 [i2,l2] n2 P2 S2)(st:ZSt z TI TO i1 i2 S1 S2 i s.heap)(hi1:i<n1)(hi2:i<n2)(hQ:∀x y h' tk,P1 i x->P2 i y->ZSt z TI TO i1 i2 S1 S2 (i+1) h'->IsPair h' s.heap.objs.size x y->h'.objs.size=s.heap.objs.size+1->
   (∀c o,c∉[z,TO,i1,i2]->s.heap.get? c=some o->h'.get? c=some o)->Q (some (Y0 3)) {s with heap:=h',toks:=tk}):
  wpAny (model prog w) A (pyNext (.ref z)) Q E s:=by
 let⟨f0,f1,hz0,hf⟩:=id st.zs;have hT:s.TypeIs (.ref z) "zip":=⟨_,hz0,rfl⟩;exact wpAny_bind (wpAny_attempt (wpAny_callSpecial?_slot hT Wx
  (Ju Wx hT PySem.F.entry_zip_next
   (zkG D D1 D2 st.zs st.ti st.to st.s1 st.s2 hi1 hi2 λx y h' tk a1 a2 a3 a4 a5 a6 a7 a8 a9=>Ja (hQ x y h' tk a1 a2 ⟨a3,a9 _ _ D.TIz D.TITO D.TIi1 D.TIi2 st.ti,a4,a5,a6⟩ a7 a8
    λc o hc e=>a9 c o (λz=>hc (by simp[z])) (λz=>hc (by simp[z])) (λz=>hc (by simp[z])) (λz=>hc (by simp[z])) e)) (PySem.F.args_zip_next_1 _))))
theorem end_zip{TI TO:Addr}(D:ZipApart z TI TO i1 i2 l1 l2)(D1:Draws prog w A.in1 i1 [i1,l1] n1 P1 S1)(D2:Draws prog w A.in1 i2 [i2,l2] n2 P2 S2)(st:ZSt z TI TO i1 i2 S1 S2 i s.heap)(he:i=n1\/(i<n1/\i=n2))(hQ:∀h' tk,(∀c o,c∉[z,TO,i1,i2]->s.heap.get? c=some o->h'.get? c=some o)->Q none {s with heap:=h',toks:=tk}):wpAny (model prog w) A (pyNext (.ref z)) Q E s:=by
 let⟨f0,f1,hz0,hf⟩:=id st.zs;have hT:s.TypeIs (.ref z) "zip":=⟨_,hz0,rfl⟩;refine wpAny_bind (wpAny_attempt (wpAny_callSpecial?_slot hT Wx
  (Ju Wx hT PySem.F.entry_zip_next (zny D D1 D2 st.zs st.ti st.to st.s1 st.s2 he λh' e tk hk he=>?_) (PySem.F.args_zip_next_1 _))))
 let⟨o,ho,hc⟩:=he;refine wpAny_bind (wpAny_isInstance ⟨o,ho,hc⟩ isSubtype_stop ?_);grind [wpAny_pure]
def SqI(b:Bool)(h:Heap)(l:Addr)(items:Array Value):Prop:=match b with
 |true=>h.IsList l items
 |false=>h.IsTuple l items
noncomputable def itI(b:Bool)(l:Addr)(k:Nat):Obj:={cls:=.type (match b with|true=>"list_iterator"|false=>"tuple_iterator"),data:=.fields #[.ref l,.int k 0]}
def StI(b:Bool)(it l:Addr)(items:Array Value):Nat->Heap->Prop:=λi h=>match b with
 |true=>h.IsListIter it l i/\h.IsList l items
 |false=>h.IsTupleIter it l i/\h.IsTuple l items
def drawsI{prog:Program}{w:World}{A:Around}(hh:A.handled=none)(b:Bool)(it l:Addr)(hne:l≠it)(items:Array Value):
  Draws prog w A it [it,l] items.size (λi v=>items[i]?=some v) (StI b it l items):=by
 cases b
 ·exact drawsT hh it l hne items
 ·exact Draws.list hh it l hne items
theorem SqI.at{b:Bool}{h':Heap}(x:SqI b h l items)(k:∀o,h.get? l=some o->h'.get? l=some o):SqI b h' l items:=by
 cases b
 ·let⟨o,ho,r⟩:=x;exact⟨o,k o ho,r⟩
 ·exact Heap.IsList.at x k
def zlx{b:Bool}{Q:Vs}(hl:SqI b s.heap l items)(hQ:Q (Y0 3) {s with heap:=s.heap.push (itI b l 0)}):wpAny (model prog w) A (pyIter (.ref l)) Q E s:=by
 cases b
 ·exact Wk hl hQ
 ·exact Ws hl hQ
def stI0{b:Bool}{it:Addr}(h1:h.get? it=some (itI b l 0))(h2:SqI b h l items):StI b it l items 0 h:=by
 cases b
 ·exact⟨⟨_,h1,rfl,rfl⟩,h2⟩
 ·exact⟨⟨_,h1,rfl,rfl⟩,h2⟩
noncomputable def zH2(b1 b2:Bool)(h:Heap)(l1 l2:Addr):Heap:=(h.push (itI b1 l1 0)).push (itI b2 l2 0)
noncomputable def zH4(b1 b2:Bool)(h:Heap)(l1 l2:Addr):Heap:=((zH2 b1 b2 h l1 l2).push {cls:=.type "tuple",data:=.seq #[.ref h.objs.size,.ref (h.push (itI b1 l1 0)).objs.size]}).push {cls:=.type "tuple",data:=.seq #[.none,.none]}
noncomputable def zH5(b1 b2:Bool)(h:Heap)(l1 l2:Addr):Heap:=(zH4 b1 b2 h l1 l2).push {cls:=.type "zip",data:=.fields #[.none,.bool false,.bool false,.ref (zH2 b1 b2 h l1 l2).objs.size,.ref ((zH2 b1 b2 h l1 l2).push {cls:=.type "tuple",data:=.seq #[.ref h.objs.size,.ref (h.push (itI b1 l1 0)).objs.size]}).objs.size]}
def zmf(b1 b2:Bool)(l1 l2:Addr)(xs ys:Array Value):
  Meets (Builtin.«zip.__new__» ⟨[.type "zip",.ref l1,.ref l2],[]⟩) (λ_ R s=>SqI b1 s.heap l1 xs/\SqI b2 s.heap l2 ys/\
   R (.ok (.ret (.ref (zH4 b1 b2 s.heap l1 l2).objs.size))) {s with heap:=zH5 b1 b2 s.heap l1 l2}):=
 .of_wp λprog w A R s h=>by
  let⟨hp,g,d,tk,os⟩:=s;let⟨hl1,hl2,h⟩:=h;have hsub:=sub_zip;have hL1:SqI b1 (Shared.heap ⟨hp,g,d,tk,os⟩) l1 xs:=hl1;have hL2:SqI b2 (Shared.heap ⟨hp.push (itI b1 l1 0),g,d,tk,os⟩) l2 ys:=hl2.at λo e=>Heap.get?_push_of_some _ e
  wp_walk using zlx hL1,zlx hL2
  exact⟨_,rfl,h⟩
def call_zip{b1 b2:Bool}{xs ys:Array Value}{Q:Vs}(hl1:SqI b1 s.heap l1 xs)(hl2:SqI b2 s.heap l2 ys)(h:∀h',ZSt (s.heap.objs.size+4) (s.heap.objs.size+2) (s.heap.objs.size+3) s.heap.objs.size (s.heap.objs.size+1) (StI b1 s.heap.objs.size l1 xs) (StI b2 (s.heap.objs.size+1) l2 ys) 0 h'->h'.objs.size=s.heap.objs.size+5->
   (∀c o,s.heap.get? c=some o->h'.get? c=some o)->Q (.ref (s.heap.objs.size+4)) {s with heap:=h'}):
  wpAny (model prog w) A (call (.type "zip") [.ref l1,.ref l2]) Q E s:=by
 refine callType_new PySem.F.called_zip (by decide) (PySem.F.typeCall_zip_2 _ _) (PySem.F.newCall_zip_2 _ _) (λobj=>PySem.F.args_object_init_3 obj _ _) PySem.F.entry_zip_new
  (zmf b1 b2 l1 l2 xs ys) ⟨hl1,hl2,?_⟩
 have z1:(s.heap.push (itI b1 l1 0)).objs.size=s.heap.objs.size+1:=Ww ..;have z2:(zH2 b1 b2 s.heap l1 l2).objs.size=s.heap.objs.size+2:=by unfold zH2;rw[Ww,z1]
 have z3:((zH2 b1 b2 s.heap l1 l2).push {cls:=.type "tuple",data:=.seq #[.ref s.heap.objs.size,.ref (s.heap.push (itI b1 l1 0)).objs.size]}).objs.size=s.heap.objs.size+3:=by simp_all
 have z4:(zH4 b1 b2 s.heap l1 l2).objs.size=s.heap.objs.size+4:=by unfold zH4;simp[*]
 have z5:(zH5 b1 b2 s.heap l1 l2).objs.size=s.heap.objs.size+5:=by unfold zH5;simp[*]
 have fr:∀(b:Bool) (l:Addr) (k:Nat),(itI b l k).isFreed=false:=λb l k=>by cases b<;>rfl
 have g5:(zH5 b1 b2 s.heap l1 l2).get? (zH4 b1 b2 s.heap l1 l2).objs.size=some _:=Heap.get?_push_size _ rfl;have g4:(zH5 b1 b2 s.heap l1 l2).get? _=some _:=Heap.get?_push_of_some _ (Heap.get?_push_size (((zH2 b1 b2 s.heap l1 l2).push {cls:=.type "tuple",data:=.seq #[.ref s.heap.objs.size,.ref (s.heap.push (itI b1 l1 0)).objs.size]})) rfl);have g3:(zH5 b1 b2 s.heap l1 l2).get? _=some _:=Heap.get?_push_of_some _ (Heap.get?_push_of_some _ (Heap.get?_push_size (zH2 b1 b2 s.heap l1 l2) rfl));have g2:(zH5 b1 b2 s.heap l1 l2).get? _=some _:=Heap.get?_push_of_some _ (Heap.get?_push_of_some _ (Heap.get?_push_of_some _ (Heap.get?_push_size (s.heap.push (itI b1 l1 0)) (fr b2 l2 0))));have g1:(zH5 b1 b2 s.heap l1 l2).get? _=some _:=Heap.get?_push_of_some _ (Heap.get?_push_of_some _ (Heap.get?_push_of_some _ (Heap.get?_push_of_some _ (Heap.get?_push_size s.heap (fr b1 l1 0)))));have kp:∀c o,s.heap.get? c=some o->(zH5 b1 b2 s.heap l1 l2).get? c=some o:=λc o x=>Heap.get?_push_of_some _ (Heap.get?_push_of_some _ (Heap.get?_push_of_some _ (Heap.get?_push_of_some _ (Heap.get?_push_of_some _ x))))
 rw[z2,z3,z4]at g5;rw[z1,z2]at g3;rw[z3]at g4;rw[z1]at g2;rw[z4];exact⟨⟨_,g5,rfl⟩,h _ ⟨⟨_,_,g5,.inl rfl⟩,g3,⟨_,_,g4⟩,stI0 g1 (hl1.at λo e=>kp _ o e),stI0 g2 (hl2.at λo e=>kp _ o e)⟩ z5 kp⟩
end
end HT
namespace PySem.F
def zip_no_len:typeLookup (.type "zip") "__len__"=pure none:=by kernel_rfl
def zip_no_hint:typeLookup (.type "zip") "__length_hint__"=pure none:=by kernel_rfl
end PySem.F
namespace HT
def pyIter_zs{prog:Program}{w:World}{A:Around}{E:Vs}{s:Shared}{z TI TO:Addr}{Q:Vs}(hz:ZS s.heap z TI TO)(h:Q (.ref z) s):wpAny (model prog w) A (pyIter (.ref z)) Q E s:=by let⟨f0,f1,hz,_⟩:=hz;have hT:s.TypeIs (.ref z) "zip":=⟨_,hz,rfl⟩;refine wpAny_pyIter_slot hT PySem.F.slot_zip_iter (Ju PySem.F.slot_zip_iter hT PySem.F.entry_zip_iter ?_ (PySem.F.args_zip_iter_1 _));exact Ja ⟨_,rfl,"zip",_,hT,PySem.F.slot_zip_next.lookup,h⟩
end HT
namespace L2
section
variable{X:Cx}{p4:AO}{σ:St}{H:Hp}{s:Shared}{h':Heap}{ch:U Addr}
def Inv.turnedL{t':Nat}(I:Inv X p4 σ H s)(hf:∀b∈ch,kS X p4 H b)(k:∀b o,b∉ch->s.heap.get? b=some o->h'.get? b=some o):Inv X p4 σ H {s with heap:=h',toks:=t'}:=by
 have nch:∀b u,H b=some u->b∉ch:=λb u e z=>by rw[(hf b z).1]at e;cases e
 refine I.step (λb hb=>?_) (λb o _ _ hc e _=>k b o hc e) (λb o _ _ hc e _=>⟨o.slots,k b o hc e⟩) (λ_ _ _ _ n=>n)
  (λb o hc e=>⟨o,k b o hc e⟩) (λ_ _ e=>e) (λ_ _ _ e=>e) (λb ps e=>⟨#[],by rw[e];simp⟩) (λm hm=>?_) (λb u e=>?_) I.bare
 ·let⟨f0,f1,f2,f3,f4,f5⟩:=hf b hb;exact⟨f3,f1,f4,f5⟩
 ·let⟨o,es,ep,ho,r⟩:=hm;exact⟨o,es,ep,k _ o (λz=>(hf _ z).2.1 rfl) ho,r⟩
 ·refine(I.hok b u e).stay (λc v hc q=>k c v ?_ q) (λ_ q=>q) λ_ _ q=>q
  grind
def Inv.pairL{t':Nat}{x y:Value}{vx vy:V}(I:Inv X p4 σ H s)(hf:∀b∈ch,kS X p4 H b)(k:∀b o,b∉ch->s.heap.get? b=some o->h'.get? b=some o)(hT:IsPair h' s.heap.objs.size x y)(rx:zR vx x)(ry:zR vy y):
  Inv X p4 σ (upd H s.heap.objs.size (.tup [vx,vy])) {s with heap:=h',toks:=t'}:=by
 have nch:∀b u,H b=some u->b∉ch:=λb u e z=>by rw[(hf b z).1]at e;cases e
 have fr:=I.fresh;have hok0:=λb u q=>by
  refine(I.hok b u q).stay (λc v hc q'=>k c v ?_ q') (λ_ z=>z) λ_ _ z=>z
  grind
 have new:kX X.prog X.w (upd H s.heap.objs.size (.tup [vx,vy])) h' s.heap.objs.size (.tup [vx,vy]):=
  ⟨by show 2<=sizeLine;rw[QR];decide,[x,y],.cons rx (.cons ry .nil),⟨_,hT,rfl,_,rfl⟩⟩
 have hok1:HOk X.prog X.w (upd H s.heap.objs.size (.tup [vx,vy])) h':=λb u q=>by
  by_cases hb:b=s.heap.objs.size
  ·simp_all[qG]
  ·rw[zT hb]at q;exact(hok0 b u q).stay (λ_ _ _ z=>z) (λc z=>by grind [zT]) λc xs z=>by grind [zT]
 refine I.step (λb hb=>?_) (λb o _ _ hc e _=>k b o hc e) (λb o _ _ hc e _=>⟨o.slots,k b o hc e⟩)
  (λb o _ q n=>by rw[zT (Jo (Jb q))];exact n) (λb o hc e=>⟨o,k b o hc e⟩) (λb xs q=>by rw[zT (jI q fr)];exact q) (λb o xs q=>by grind [zT])
  (λb ps q=>⟨#[],by grind [zT]⟩) (λm hm=>?_) hok1 I.bare
 ·let⟨f0,f1,f2,f3,f4,f5⟩:=hf b hb;exact⟨f3,f1,f4,f5⟩
 ·let⟨o,es,ep,ho,r⟩:=hm;exact⟨o,es,ep,k _ o (λz=>(hf _ z).2.1 rfl) ho,r⟩
end
def SqB(b:Bool)(K:Fg)(H:Hp)(a:Addr)(xs:U V):Prop:=match b with
 |true=>SqL K H a xs
 |false=>SqT K H a xs
variable{H:Hp}{s:Shared}{xs:U V}
def Inv.sq{X:Cx}{p4:AO}{σ:St}{b:Bool}{a:Addr}(I:Inv X p4 σ H s)(h:SqB b X.K H a xs):∃p6,zN xs p6/\HT.SqI b s.heap a p6.toArray/\xs.length<=sizeLine:=by
 cases b
 ·let⟨p6,r,p,z⟩:=I.tuple h;exact⟨p6,r,p,z⟩
 ·let⟨p6,r,p,z⟩:=I.list h;exact⟨p6,r,p.isList,z⟩
def zdE(S:Addr):U (V×V)->U V->Hp->(Hp->Prop)->Prop
 |[],_,H,R=>R H
 |(x,y)::l,p7,H,R=>∀T,H T=none->zdE S l (p7++[.ref T]) (upd (upd H T (.tup [x,y])) S (.lst (p7++[.ref T]))) R
variable{S:Addr}
theorem zeO{R R':Hp->Prop}(w:∀H,R H->R' H):∀{l:U (V×V)}{p7:U V} {H:Hp},zdE S l p7 H R->zdE S l p7 H R'
 |[],_,_,h=>w _ h
 |(x,y)::l,p7,H,h=>λT hT=>zeO w (h T hT)
variable{z i1 i2 l1 l2:Addr}{b1 b2:Bool}{its1 its2:U Value}{ys:U V}
section
variable{X:Cx}{p4:AO}{σ:St}
def zuH{TI TO:Addr}{A:Around}{R:Result->Shared->Prop}{res:Value}(D:ZipApart z TI TO i1 i2 l1 l2)(hA:A.in1.in1.handled=none)(rx:zN xs its1)(ry:zN ys its2)(hn:xs.length<=sizeLine)(nS:S∉[z,TI,TO,i1,i2,l1,l2]):
  ∀(l:U (V×V)) (i:Nat) (s:Shared) (H:Hp) (p7:U V),l=(xs.zip ys).drop i->i<=xs.length->i<=ys.length->p7.length=i->Inv X p4 σ H s->(∀b∈[z,TO,i1,i2],kS X p4 H b)->H S=some (.lst p7)->
  HT.ZSt z TI TO i1 i2 (HT.StI b1 i1 l1 its1.toArray) (HT.StI b2 i2 l2 its2.toArray) i s.heap->zdE S l p7 H (λH'=>∀s',Inv X p4 σ H' s'->R (.ok (.ret res)) s')->
  codeAny (Y0 1) A (.builtin "list.extend.loop" ⟨[.ref S,.ref z,res],[]⟩) R s:=by
 have D1:=HT.drawsI (prog:=X.prog) (w:=X.w) (A:=A.in1.in1) hA b1 i1 l1 D.l1i1 its1.toArray;have D2:=HT.drawsI (prog:=X.prog) (w:=X.w) (A:=A.in1.in1) hA b2 i2 l2 D.l2i2 its2.toArray;have e1:=rx.length;have e2:=ry.length;intro l;induction l with
 |nil=>
  intro i s H p7 hl hi1 hi2 ha I hf hS st q;have hz:(xs.zip ys).length<=i:=by simp_all
  rw[List.length_zip]at hz;refine Wl PySem.F.entry_extend_loop ?_;rw[WA Qk _];show wpAny _ A.in1 (pyNext (.ref z)>>=_) _ _ s;refine wpAny_bind (HT.end_zip D D1 D2 st (by simp only[List.size_toArray];lia) λh' tk hk=>Ja ?_);exact q _ (I.turnedL hf hk)
 |cons p l ih=>
  let⟨x,y⟩:=p;intro i s H p7 hl hi1 hi2 ha I hf hS st q;have hlen:i<(xs.zip ys).length:=by grind
  have hl2:=hl;rw[Jy hlen]at hl2;injection hl2 with hp hl3;have hlen':=hlen;rw[List.length_zip]at hlen';have hx:xs[i]?=some x:=by rw[List.getElem_zip]at hp;injection hp with hp1 hp2;rw[hp1];simp
  have hy:ys[i]?=some y:=by rw[List.getElem_zip]at hp;injection hp with hp1 hp2;rw[hp2];simp
  let⟨u,hu,ru⟩:=rx.get hx;let⟨v,hv,rv⟩:=ry.get hy;refine Wl PySem.F.entry_extend_loop ?_;rw[WA Qk _];show wpAny _ A.in1 (pyNext (.ref z)>>=_) _ _ s;refine wpAny_bind (HT.next_zip D D1 D2 st (by grind) (by grind) λx' y' h' tk px py st' hT hsz hk=>?_);have ex:x'=u:=by simp_all
  have ey:y'=v:=by
   have:its2[i]?=some y':=by simpa using py
   rw[hv]at this;exact(Option.some.inj this).symm
  subst ex ey;have I1:Inv X p4 σ (upd H s.heap.objs.size (.tup [x,y])) {s with heap:=h',toks:=tk}:=I.pairL hf hk hT ru rv;have fr:H s.heap.objs.size=none:=I.fresh;have hST:S≠s.heap.objs.size:=jI hS fr;have hS1:upd H s.heap.objs.size (.tup [x,y]) S=some (.lst p7):=by rw[zT hST];exact hS
  let⟨p6,n,r,ho,hz⟩:=I1.lst hS1;show wpAny _ A.in1 (updateSeq S (·.push (Y0 3))>>=_) _ _ _;refine wpAny_bind ?_;have hal:p6.length=i:=by rw[←r.length];exact ha
  refine wpAny_updateSeq ho rfl (Ja ⟨WH Qk _,?_⟩) (by simp_all) (by simp only[Array.size_push,List.size_toArray];simp_all);have I2:=I1.lstUpd hS1 ho (f:=Obj.mapSeq (·.push (Y0 3))) (its':=p6++[.ref s.heap.objs.size]) (ys:=p7++[.ref s.heap.objs.size]) (by simp[Obj.mapSeq];rfl) (r.append (.cons (show zR (Y0 3) (Y0 3)from rfl) .nil)) (by grind) tk;refine ih (i+1) _ _ (p7++[.ref s.heap.objs.size]) hl3 (by grind) (by grind) (by rw[Jt,QE,ha]) I2 (λb hb=>?_) qG ?_ (q _ fr)
  ·let⟨f0,f1⟩:=hf b hb;refine⟨?_,f1⟩;have hbS:b≠S:=λz=>nS (by simp[*]at*)
   have hbT:b≠s.heap.objs.size:=by
    intro z;subst z;let⟨q1,q2,q3,_⟩:=st.zs;let⟨a1,a2,q4⟩:=st.to;let⟨o1,q5⟩:=D1.live _ _ st.s1;let⟨o2,q6⟩:=D2.live _ _ st.s2;simp at hb;rcases hb with h|h|h|h
    ·rw[←h]at q3;exact JW _ (Jb q3)
    ·rw[←h]at q4;exact JW _ (Jb q4)
    ·rw[←h]at q5;exact JW _ (Jb q5)
    ·rw[←h]at q6;exact JW _ (Jb q6)
   simp[zT, *]
  ·have kk:∀c o,c≠S->h'.get? c=some o->(h'.update S (Obj.mapSeq (·.push (Y0 3)))).get? c=some o:=λc o hc e=>(Heap.get?_update_other _ _ (Ne.symm hc)).trans e
   let⟨q1,q2,q3,q3'⟩:=st'.zs;let⟨a1,a2,q4⟩:=st'.to;refine⟨⟨q1,q2,kk _ _ (λz=>nS (by simp[←z])) q3,q3'⟩,kk _ _ (λz=>nS (by grind)) st'.ti,⟨a1,a2,kk _ _ (λz=>nS (by grind)) q4⟩,D1.frame _ _ _ st'.s1 λb hb o e=>kk b o ?_ e,D2.frame _ _ _ st'.s2 λb hb o e=>kk b o ?_ e⟩
   ·intro z;subst z;simp at hb;exact nS (by rcases hb with h|h<;>simp[h])
   ·intro z;subst z;simp at hb;exact nS (by rcases hb with h|h<;>simp[h])
theorem zgk{TI TO:Addr}{Q:VK}(D:ZipApart z TI TO i1 i2 l1 l2)(hc:X.calm=true)(rx:zN xs its1)(ry:zN ys its2)(hn:xs.length<=sizeLine)(I:Inv X p4 σ H s)(hf:∀b∈[z,TO,i1,i2],kS X p4 H b)(st:HT.ZSt z TI TO i1 i2 (HT.StI b1 i1 l1 its1.toArray) (HT.StI b2 i2 l2 its2.toArray) 0 s.heap)(q:∀S,H S=none->zdE S (xs.zip ys) [] (upd H S (.lst [])) λH'=>Q (.ref S) H'):
  wpAny (Y0 1) X.A (call (.type "list") [.ref z]) (EP X p4 σ Q) X.xe s:=by
 have hh:X.A.in1.in1.in1.in1.handled=none:=I.ok.hd hc;have D1:=HT.drawsI (prog:=X.prog) (w:=X.w) (A:=X.A.in1.in1.in1.in1) hh b1 i1 l1 D.l1i1 its1.toArray;have D2:=HT.drawsI (prog:=X.prog) (w:=X.w) (A:=X.A.in1.in1.in1.in1) hh b2 i2 l2 D.l2i2 its2.toArray;have lt:∀b∈[z,TI,TO,i1,i2,l1,l2],b<s.heap.objs.size:=λb hb=>by
  let⟨q1,q2,q3,_⟩:=st.zs;let⟨a1,a2,q4⟩:=st.to;let⟨o1,q5⟩:=D1.live _ _ st.s1;let⟨o2,q6⟩:=D2.live _ _ st.s2;have q7:=st.ti;have q8:∃o,s.heap.get? l1=some o:=by
   have h:=st.s1;cases b1
   ·let⟨o,ho,_⟩:=h.2;exact⟨o,ho⟩
   ·let⟨o,ho,_⟩:=h.2;exact⟨o,ho⟩
  have q9:∃o,s.heap.get? l2=some o:=by
   have h:=st.s2;cases b2
   ·let⟨o,ho,_⟩:=h.2;exact⟨o,ho⟩
   ·let⟨o,ho,_⟩:=h.2;exact⟨o,ho⟩
  let⟨o8,q8⟩:=q8;let⟨o9,q9⟩:=q9;simp at hb;rcases hb with h|h|h|h|h|h|h<;>rw[h]
  ·exact Jb q3
  ·exact Jb q7
  ·exact Jb q4
  ·exact Jb q5
  ·exact Jb q6
  ·exact Jb q8
  ·exact Jb q9
 have nS:s.heap.objs.size∉[z,TI,TO,i1,i2,l1,l2]:=λhm=>JW _ (lt _ hm)
 have mv:∀(h1 h2:Heap),(∀b o,b≠s.heap.objs.size->h1.get? b=some o->h2.get? b=some o)->HT.ZSt z TI TO i1 i2 (HT.StI b1 i1 l1 its1.toArray) (HT.StI b2 i2 l2 its2.toArray) 0 h1->HT.ZSt z TI TO i1 i2 (HT.StI b1 i1 l1 its1.toArray) (HT.StI b2 i2 l2 its2.toArray) 0 h2:=λh1 h2 k st=>by
  let⟨q1,q2,q3,q3'⟩:=st.zs;let⟨a1,a2,q4⟩:=st.to;refine⟨⟨q1,q2,k _ _ (λz=>nS (by grind)) q3,q3'⟩,k _ _ (λz=>nS (by grind)) st.ti,⟨a1,a2,k _ _ (λz=>nS (by grind)) q4⟩,D1.frame _ _ _ st.s1 λb hb o e=>k b o ?_ e,D2.frame _ _ _ st.s2 λb hb o e=>k b o ?_ e⟩
  ·intro z;subst z;simp at hb;exact nS (by rcases hb with h|h<;>simp[h])
  ·intro z;subst z;simp at hb;exact nS (by rcases hb with h|h<;>simp[h])
 have fr:H s.heap.objs.size=none:=I.fresh;refine callType_codes (Q₁:=λobj s₁=>obj=.ref s.heap.objs.size/\s₁={s with heap:=s.heap.push {cls:=.type "list",data:=.seq #[]}}) PySem.F.called_list (PySem.F.typeCall_list_1 _) PySem.F.entry_list_init
  (code_list_new _ ⟨rfl,rfl⟩) λobj s₁ h₁=>?_
 let⟨rfl,rfl⟩:=h₁;have hS:(s.heap.push {cls:=.type "list",data:=.seq #[]}).get? s.heap.objs.size=some {cls:=.type "list",data:=.seq #[]}:=Heap.get?_push_size _ rfl;have st1:HT.ZSt z TI TO i1 i2 (HT.StI b1 i1 l1 its1.toArray) (HT.StI b2 i2 l2 its2.toArray) 0 (s.heap.push {cls:=.type "list",data:=.seq #[]}):=mv _ _ (λb o _ e=>Heap.get?_push_of_some _ e) st;refine⟨⟨_,hS,rfl⟩,PySem.F.args_list_init_2 _ _,?_⟩;show wpAny _ X.A.in1.in1 (do let old ←Builtin.List.listItems (Y0 3);Builtin.List.listUpdate (Y0 3) (λ_=>#[]);letGo old.toList.reverse;Builtin.List.listExtendWith (Y0 3) (.ref z) .none) _ _ _;refine wpAny_bind ?_;unfold Builtin.List.listItems;refine wpAny_bind (Qb hS rfl (Ja ?_));show wpAny _ X.A.in1.in1 (updateSeq s.heap.objs.size (λ_=>#[])>>=λ_=>letGo (#[]:Array Value).toList.reverse>>=λ_=>Builtin.List.listExtendWith (Y0 3) (.ref z) .none) _ _ _;refine wpAny_bind (wpAny_updateSeq hS rfl ?_);have hS₂:=Heap.get?_update_self (Obj.mapSeq λ_=>(#[]:Array Value)) hS rfl;refine wpAny_bind (wpAny_letGo ?_);have st2:=mv _ ((s.heap.push {cls:=.type "list",data:=.seq #[]}).update s.heap.objs.size (Obj.mapSeq λ_=>(#[]:Array Value))) (λb o hb e=>(Heap.get?_update_other _ _ (Ne.symm hb)).trans e) st1;let⟨q1,q2,q3,q3'⟩:=id st2.zs;unfold Builtin.List.listExtendWith;refine wpAny_bind (wpAny_typeOf (T:="zip") ⟨_,q3,rfl⟩ ?_);have hSz:s.heap.objs.size≠z:=λe=>nS (by simp[e])
 have h1:Builtin.List.listSameRef (Y0 3) (.ref z)=false:=by simp[Builtin.List.listSameRef,hSz]
 have h2:(Value.type "zip"==Value.type "list")=false:=by decide
 have h3:(Value.type "zip"==Value.type "tuple")=false:=by decide
 simp only[h1,h2,h3,Bool.or_false,Bool.false_eq_true,if_false];refine wpAny_bind (HT.pyIter_zs st2.zs ?_);refine wpAny_bind (Jk ?_);unfold Builtin.List.listLengthHint;refine wpAny_bind (wpAny_specialOf (T:="zip") ⟨_,q3,rfl⟩ PySem.F.zip_no_len ?_);show wpAny _ X.A.in1.in1 (specialOf (Value.ref z) (Str.ofString "__length_hint__")>>=_) _ _ _;refine wpAny_bind (wpAny_specialOf (T:="zip") ⟨_,q3,rfl⟩ PySem.F.zip_no_hint ?_);refine Ja ?_;show wpAny _ X.A.in1.in1 (rule "list.extend.makes-room">>=λ_=>Builtin.List.listTouch (Y0 3)>>=λ_=>
  again (.builtin "list.extend.loop" ⟨[.ref s.heap.objs.size,.ref z,.none],[]⟩)) _ _ _
 refine wpAny_bind (JH ?_);refine wpAny_bind ?_;show wpAny _ X.A.in1.in1 (updateSeq s.heap.objs.size (·.push .none)>>=λ_=>updateSeq s.heap.objs.size (·.pop)) _ _ _;refine wpAny_bind (wpAny_updateSeq hS₂ rfl ?_);have hS₃:=Heap.get?_update_self (Obj.mapSeq (·.push Value.none)) hS₂ rfl;refine wpAny_updateSeq (hz:=by seq_fits) hS₃ rfl ?_;have hS₄:=Heap.get?_update_self (Obj.mapSeq (·.pop)) hS₃ rfl;have st4:=mv _ ((((s.heap.push {cls:=.type "list",data:=.seq #[]}).update s.heap.objs.size (Obj.mapSeq λ_=>(#[]:Array Value))).update s.heap.objs.size (Obj.mapSeq (·.push Value.none))).update s.heap.objs.size (Obj.mapSeq (·.pop)))
  (λb o hb e=>(Heap.get?_update_other _ _ (Ne.symm hb)).trans ((Heap.get?_update_other _ _ (Ne.symm hb)).trans e)) st2
 have I4:Inv X p4 σ (upd H s.heap.objs.size (.lst [])) {s with heap:=(((s.heap.push {cls:=.type "list",data:=.seq #[]}).update s.heap.objs.size (Obj.mapSeq λ_=>(#[]:Array Value))).update s.heap.objs.size (Obj.mapSeq (·.push Value.none))).update s.heap.objs.size (Obj.mapSeq (·.pop))}:=by
  refine I.laid (t':=s.toks) (λb u e=>?_) (Jf _) ?_
  ·have hb:b≠s.heap.objs.size:=Jo (Jb e);grind [Heap.get?_update_other,Heap.get?_push_of_some]
  ·exact⟨Jz _,[],_,.nil,hS₄⟩
 refine Ja ⟨WH Qk _,zuH (A:=X.A.in1) D (I.ok.hd hc) rx ry hn nS _ 0 _ _ [] rfl (Jz _) (Jz _) rfl I4 (λb hb=>?_) qG st4 ?_⟩
 ·let⟨f0,f1⟩:=hf b hb;refine⟨?_,f1⟩;grind [zT]
 ·exact zeO (λH' h s' I'=>⟨rfl,.ref s.heap.objs.size,H',I',rfl,h⟩) (q _ fr)
def znx{a1 a2:Addr}{Q:Vs}{E:Vs}(I:Inv X p4 σ H s)(h1:SqB b1 X.K H a1 xs)(h2:SqB b2 X.K H a2 ys)(k:∀z TI TO i1 i2 its1 its2 s',ZipApart z TI TO i1 i2 a1 a2->zN xs its1->zN ys its2->xs.length<=sizeLine->Inv X p4 σ H s'->(∀b∈[z,TO,i1,i2],kS X p4 H b)->HT.ZSt z TI TO i1 i2 (HT.StI b1 i1 a1 its1.toArray) (HT.StI b2 i2 a2 its2.toArray) 0 s'.heap->Q (.ref z) s'):
  wpAny (Y0 1) X.A (call (.type "zip") [.ref a1,.ref a2]) Q E s:=by
 let⟨its1,r1,p1,z1⟩:=I.sq h1;let⟨its2,r2,p2,z2⟩:=I.sq h2;have lt:∀{b:Bool}{a:Addr} {p6:Array Value},HT.SqI b s.heap a p6->a<s.heap.objs.size:=λ{b a p6} h=>by
  cases b
  ·let⟨o,e,_⟩:=h;exact Jb e
  ·let⟨o,e,_⟩:=h;exact Jb e
 refine HT.call_zip p1 p2 λh' st hsz hk=>?_
 refine k _ _ _ _ _ its1 its2 _ (zipApart_new (lt p1) (lt p2)) r1 r2 z1 (I.kept hk) (λb hb=>?_) st;have hb':s.heap.objs.size<=b:=by simp only[List.mem_cons,List.not_mem_nil,or_false]at hb;rcases hb with h|h|h|h<;>rw[h]<;>first|exact Wc _ _|exact Jf _
 exact I.fpOk hb' (I.hok.fresh hb')
def ztV(K:Fg)(ta:TA):TE:=λσ H Q=>ta σ H λvs H1=>∃b1 b2 a1 a2 xs ys,vs=[.ref a1,.ref a2]/\SqB b1 K H1 a1 xs/\SqB b2 K H1 a2 ys/\∀S,H1 S=none->zdE S (xs.zip ys) [] (upd H1 S (.lst [])) (λH'=>Q (.ref S) H')
def zjX{a b:Expr}{ta:TA}{p p2 p3 pos:Pos}(hc:X.calm=true)(hg:Gl X "list")(hm:X.mg "list"=none)(hg2:Gl X "zip")(hm2:X.mg "zip"=none)(ha:PA X [a,b] ta)(hs:B0 (starEach [a,b] X.env=[(false,eval a X.env),(false,eval b X.env)]))(hs2:B0 (starEach [b] X.env=[(false,eval b X.env)]))(hs3:B0 (starEach [.Call (.Name "zip" p2) [a,b] [] p3] X.env=[(false,eval (.Call (.Name "zip" p2) [a,b] [] p3) X.env)])):
  PE X (.Call (.Name "list" p) [.Call (.Name "zip" p2) [a,b] [] p3] [] pos) (ztV X.K ta):=by
 intro p4 s σ H Q I h;refine QU (vU I hg hm boot_list ?_);refine JK ?_ hs3 rfl;refine Qn (QU (vU I hg2 hm2 boot_zip ?_));refine JK (thn (ha p3 p4 s σ H _ I h) λus s1 ⟨vs,H1,I1,r1,q1⟩=>?_) (by rw[hs,hs2]) (by rw[hs2];rfl);let⟨b1,b2,a1,a2,xs,ys,rfl,e1,e2,q⟩:=q1;let⟨u1,u2,rfl,ru1,ru2⟩:=zqe r1;cases ru1
 cases ru2
 refine znx I1 e1 e2 λz TI TO i1 i2 its1 its2 s' D rx ry hn I' hf st=>?_
 exact Wt (zgk D hc rx ry hn I' hf st q)
end
end L2
namespace HT
def ItS(b:Bool)(it l:Addr):Nat->Heap->Prop:=λi h=>match b with
 |true=>h.IsListIter it l i
 |false=>h.IsTupleIter it l i
variable{l:Addr}{i:Nat}{h:Heap}
theorem ItS.at{b:Bool}{it:Addr}{h':Heap}(x:ItS b it l i h)(k:∀o,h.get? it=some o->h'.get? it=some o):ItS b it l i h':=by
 cases b
 ·exact Heap.IsTupleIter.at x k
 ·exact Heap.IsListIter.at x k
theorem ItS.some{b:Bool}{it l:Addr}(x:ItS b it l i h):∃o,h.get? it=some o/\∀v,o.data≠.cell v:=by
 cases b
 ·let⟨o,e,c,d⟩:=x;exact⟨o,e,λv z=>by rw[d]at z;cases z⟩
 ·let⟨o,e,c,d⟩:=x;exact⟨o,e,λv z=>by rw[d]at z;cases z⟩
variable{items:Array Value}
def ItS.st{b:Bool}{it:Addr}(x:ItS b it l i h)(y:SqI b h l items):StI b it l items i h:=by
 cases b
 ·exact⟨x,y⟩
 ·exact⟨x,y⟩
theorem StI.it{b:Bool}{it:Addr}(x:StI b it l items i h):ItS b it l i h:=by
 cases b
 ·exact x.1
 ·exact x.1
def go_zip{prog:Program}{w:World}{A:Around}{E:Vs}{s:Shared}{tg:Expr}{z TI TO T:Addr}{Q:Unit->Shared->Prop}(hz:ZS s.heap z TI TO)(hQ:∀h',ZS h' z TI TO->Heap.SameBut z s.heap h'->Q () {s with heap:=h'}):wpAny (model prog w) A (letOwnedTupleGo tg (.ref z) (.ref T)) Q E s:=by
 have h0:Q () s:=hQ s.heap hz ⟨rfl,λ_ _=>rfl⟩;let⟨f0,f1,hz0,hf⟩:=hz;cases tg<;>first
  |exact Ja h0
  | (refine wpAny_bind (wpAny_load hz0 ?_)
     refine Wm (λ_=>wpAny_bind (JH ?_)) (λ_=>Ja h0);exact wpAny_setField_rec hz0 (by simp) λh' hz' hs'=>hQ h' ⟨_,_,hz',.inl rfl⟩ hs')
end HT
namespace L2
def Itz(K:Fg)(b1 b2:Bool)(a1 a2:Addr):It:=
 ⟨λi H=>∃xs ys x y,SqB b1 K H a1 xs/\SqB b2 K H a2 ys/\xs[i]?=some x/\ys[i]?=some y,
  λi H x H'=>∃p v u,H p=none/\x=.ref p/\H'=upd H p (.tup [v,u])/\(∀xs,SqB b1 K H a1 xs->xs[i]?=some v)/\∀ys,SqB b2 K H a2 ys->ys[i]?=some u,
  λi H=>∃xs ys,SqB b1 K H a1 xs/\SqB b2 K H a2 ys/\i=min xs.length ys.length⟩
def Inv.sq_inj{X:Cx}{p4:AO}{σ:St}{H:Hp}{s:Shared}{b:Bool}{a:Addr}{xs ys:U V}(I:Inv X p4 σ H s)(h1:SqB b X.K H a xs)(h2:SqB b X.K H a ys):xs=ys:=by
 cases b
 ·exact I.tuple_inj h1 h2
 ·exact I.list_inj h1 h2
variable{P:Program}{w:World}{K:Fg}{tg:Expr}
def znC{b1 b2:Bool}{z TI TO i1 i2 a1 a2:Addr}(D:ZipApart z TI TO i1 i2 a1 a2):
  gD P w K tg (Itz K b1 b2 a1 a2) [z,TI,TO,i1,i2] z (λi h=>HT.ZSt z TI TO i1 i2 (HT.ItS b1 i1 a1) (HT.ItS b2 i2 a2) i h)where
 mem:=by simp
 obj:=λi h st b hb=>by
  let⟨⟨f0,f1,hz,_⟩,ti,⟨p,q,to⟩,s1,s2⟩:=st;simp only[List.mem_cons,List.not_mem_nil,or_false]at hb;rcases hb with e|e|e|e|e<;>rw[e]
  ·exact⟨_,hz,λv y=>by cases(show Data.fields _=Data.cell v from y)⟩
  ·exact⟨_,ti,λv y=>by cases(show Data.seq _ _=Data.cell v from y)⟩
  ·exact⟨_,to,λv y=>by cases(show Data.seq _ _=Data.cell v from y)⟩
  ·exact s1.some
  ·exact s2.some
 keep:=λi h h' st k=>by let⟨⟨f0,f1,hz,hf⟩,ti,⟨p,q,to⟩,s1,s2⟩:=st;exact⟨⟨f0,f1,k z (by simp) _ hz,hf⟩,k TI (by simp) _ ti,⟨p,q,k TO (by simp) _ to⟩,s1.at λo e=>k i1 (by simp) o e,s2.at λo e=>k i2 (by simp) o e⟩
 item:=by
  intro X hP hw hK hc i p4 s σ H E I hf st hg;subst hP hw hK;let⟨xs,ys,x,y,h1,h2,hx,hy⟩:=hg;let⟨its1,rx,p1,z1⟩:=I.sq h1;let⟨its2,ry,p2,z2⟩:=I.sq h2;let⟨u,hu,ru⟩:=rx.get hx;let⟨v,hv,rv⟩:=ry.get hy;have D1:=HT.drawsI (prog:=X.prog) (w:=X.w) (A:=X.A.in1) (I.ok.hd hc) b1 i1 a1 D.l1i1 its1.toArray;have D2:=HT.drawsI (prog:=X.prog) (w:=X.w) (A:=X.A.in1) (I.ok.hd hc) b2 i2 a2 D.l2i2 its2.toArray;have st':HT.ZSt z TI TO i1 i2 (HT.StI b1 i1 a1 its1.toArray) (HT.StI b2 i2 a2 its2.toArray) i s.heap:=⟨st.zs,st.ti,st.to,st.s1.st p1,st.s2.st p2⟩;have hl1:=(List.getElem?_eq_some_iff.mp hu).1;have hl2:=(List.getElem?_eq_some_iff.mp hv).1;have hf4:∀b∈[z,TO,i1,i2],kS X p4 H b:=λb hb=>hf b (by grind)
  refine HT.next_zip D D1 D2 st' (by simpa using hl1) (by simpa using hl2) λx' y' h' tk px py st2 hT hsz hk=>⟨_,rfl,?_⟩
  have ex:x'=u:=by
   have:its1[i]?=some x':=by simpa using px
   rw[hu]at this;exact(Option.some.inj this).symm
  have ey:y'=v:=by
   have:its2[i]?=some y':=by simpa using py
   rw[hv]at this;exact(Option.some.inj this).symm
  subst ex ey;have I1:Inv X p4 σ (upd H s.heap.objs.size (.tup [x,y])) {s with heap:=h',toks:=tk}:=I.pairL hf4 hk hT ru rv;have fr:H s.heap.objs.size=none:=I.fresh;have hlt:∀b∈[z,TI,TO,i1,i2],b≠s.heap.objs.size:=λb hb=>by let⟨⟨f0,f1,hz,_⟩,ti,⟨p,q,to⟩,s1,s2⟩:=st;let⟨o1,s1,_⟩:=s1.some;let⟨o2,s2,_⟩:=s2.some;simp only[List.mem_cons,List.not_mem_nil,or_false]at hb;rcases hb with e|e|e|e|e<;>rw[e]<;>apply Jo<;>first|exact Jb hz|exact Jb ti|exact Jb to|exact Jb s1|exact Jb s2
  refine HT.go_zip st2.zs λhh zs2 hs2=>?_
  have I2:Inv X p4 σ (upd H s.heap.objs.size (.tup [x,y])) {s with heap:=hh,toks:=tk}:=I1.turnedL (ch:=[z]) (t':=tk) (λb hb=>by rw[Je.mp hb];let⟨f0,f1⟩:=hf z (by simp);exact⟨by rw[zT (hlt z (by simp))];exact f0,f1⟩) λb o hb e=>hs2.extBut _ _ (λq=>hb (by simp[q])) e
  refine⟨.ref s.heap.objs.size,_,I2,rfl,⟨s.heap.objs.size,x,y,fr,rfl,rfl,λws hw=>by rw[I.sq_inj hw h1];exact hx,λws hw=>by rw[I.sq_inj hw h2];exact hy⟩,?_,λb hb=>?_⟩
  ·let⟨p,q,to⟩:=st2.to;exact⟨zs2,hs2.extBut _ _ D.TIz st2.ti,⟨p,q,hs2.extBut _ _ D.TOz to⟩,(HT.StI.it st2.s1).at λo e=>hs2.extBut _ _ D.i1z e,(HT.StI.it st2.s2).at λo e=>hs2.extBut _ _ D.i2z e⟩
  ·rw[zT (hlt b hb)];exact(hf b hb).1
 done:=by
  intro X hP hw hK hc i p4 s σ H E I hf st hg;subst hP hw hK;let⟨xs,ys,h1,h2,he⟩:=hg;let⟨its1,rx,p1,z1⟩:=I.sq h1;let⟨its2,ry,p2,z2⟩:=I.sq h2;have e1:=rx.length;have e2:=ry.length;have D1:=HT.drawsI (prog:=X.prog) (w:=X.w) (A:=X.A.in1) (I.ok.hd hc) b1 i1 a1 D.l1i1 its1.toArray;have D2:=HT.drawsI (prog:=X.prog) (w:=X.w) (A:=X.A.in1) (I.ok.hd hc) b2 i2 a2 D.l2i2 its2.toArray;have st':HT.ZSt z TI TO i1 i2 (HT.StI b1 i1 a1 its1.toArray) (HT.StI b2 i2 a2 its2.toArray) i s.heap:=⟨st.zs,st.ti,st.to,st.s1.st p1,st.s2.st p2⟩;have hf4:∀b∈[z,TO,i1,i2],kS X p4 H b:=λb hb=>hf b (by grind)
  exact HT.end_zip D D1 D2 st' (by simp only[List.size_toArray];lia) λh' tk hk=>⟨rfl,I.turnedL hf4 hk⟩
 self:=λA i s Q E st h=>HT.pyIter_zs st.zs h
variable{a:Expr}{ta:TA}{p pos:Pos}
section
variable{X:Cx}{p4:AO}{σ:St}
def iZip(K:Fg)(ta:TA):TI:=λσ H R=>ta σ H λvs H1=>∃b1 b2 a1 a2 xs ys,vs=[.ref a1,.ref a2]/\SqB b1 K H1 a1 xs/\SqB b2 K H1 a2 ys/\R (Itz K b1 b2 a1 a2) H1
def zsk{b:Expr}(hg:Gl X "zip")(hm:X.mg "zip"=none)(ha:PA X [a,b] ta)(hs:B0 (starEach [a,b] X.env=[(false,eval a X.env),(false,eval b X.env)]))(hs2:B0 (starEach [b] X.env=[(false,eval b X.env)])):PI X tg (.Call (.Name "zip" p) [a,b] [] pos) (iZip X.K ta):=by
 intro p4 s σ H R I h;refine Call_ (vU I hg hm boot_zip (JK (thn (ha pos p4 s σ H _ I h) λus s1 ⟨vs,H1,I1,r1,q1⟩=>?_) (by simp[*]) (by rw[hs2];rfl)));let⟨b1,b2,a1,a2,xs,ys,rfl,e1,e2,q⟩:=q1;let⟨u1,u2,rfl,ru1,ru2⟩:=zqe r1;cases ru1
 cases ru2
 let⟨its1,rx,p1,z1⟩:=I1.sq e1;let⟨its2,ry,p2,z2⟩:=I1.sq e2;have lt:∀{b:Bool}{a:Addr} {p6:Array Value},HT.SqI b s1.heap a p6->a<s1.heap.objs.size:=λ{b a p6} h=>by
  cases b
  ·let⟨o,e,_⟩:=h;exact Jb e
  ·let⟨o,e,_⟩:=h;exact Jb e
 refine HT.call_zip p1 p2 λh' st hsz hk=>?_
 have I2:=I1.kept (t':=s1.toks) hk;refine HT.pyIter_zs st.zs ?_;refine⟨_,_,_,_,H1,rfl,I2,znC (zipApart_new (lt p1) (lt p2)),⟨st.zs,st.ti,st.to,HT.StI.it st.s1,HT.StI.it st.s2⟩,λb hb=>?_,q⟩;have hb':s1.heap.objs.size<=b:=by simp only[List.mem_cons,List.not_mem_nil,or_false]at hb;rcases hb with h|h|h|h|h<;>rw[h]<;>first|exact Wc _ _|exact Jf _
 exact I1.fpOk hb' (I1.hok.fresh hb')
end
def Itrv(K:Fg)(a:Addr)(n:Nat):It:=
 ⟨λi H=>i<n/\∃xs,SqL K H a xs/\xs.length=n,λi H x H'=>H'=H/\∀xs,SqL K H a xs->xs[n - 1 - i]?=some x,λi H=>i=n⟩
theorem znD(a it:Addr)(n:Nat):gD P w K tg (Itrv K a n) [it] it (λi h=>i<=n/\h.IsRevIter it a ((n:Int) - 1 - i))where
 mem:=by simp
 obj:=λi h st b hb=>by let⟨_,o,e,c,d⟩:=st;rw[Je.mp hb];exact⟨o,e,λv z=>by rw[d]at z;cases z⟩
 keep:=λi h h' st k=>⟨st.1,st.2.at λo e=>k it (by simp) o e⟩
 item:=by
  intro X hP hw hK hc i p4 s σ H E I hf st hg;subst hP hw hK;let⟨hi,xs,hq,hn⟩:=hg;let⟨p6,rv,p,hz⟩:=I.list hq;have hx:xs[n - 1 - i]?=some (xs[n - 1 - i]'(by grind)):=by simp
  let⟨u,hu,ru⟩:=rv.get hx;have fi:=hf it (by simp);have e:(n:Int) - 1 - i=((n - 1 - i:Nat):Int):=by grind
  have hit:=st.2;rw[e]at hit;refine wpAny_pyNext_rev_item hit p.isList (by simpa using hu) λh' hit' hs'=>⟨_,rfl,?_⟩
  let⟨o,ho,hc',hd⟩:=id hit';let⟨f0,f1,f2,f3,f4,f5⟩:=fi;refine zmH ho hc' hd (by decide) ⟨_,H,I.turned (λb o hb e=>hs'.extBut _ _ hb e) f0 f1 f3 f4 f5,ru,⟨rfl,λys hy=>by rw[I.list_inj hy hq];exact hx⟩,⟨by trivial,?_⟩,λb hb=>(hf b hb).1⟩;have e2:(n:Int) - 1 - ((i+1:Nat):Int)=((n - 1 - i:Nat):Int) - 1:=by(simp only[*]at*;lia)
  rw[e2];exact hit'
 done:=by
  intro X hP hw hK hc i p4 s σ H E I hf st hg;subst hg;have e:(i:Int) - 1 - i=-1:=by simp+arith
  have hit:=st.2;rw[e]at hit;let⟨f0,f1,f2,f3,f4,f5⟩:=hf it (by simp);exact wpAny_pyNext_rev_end (I.ok.hd hc) hit λh' hx=>⟨rfl,I.turned (λb o hb e=>hx b o hb e) f0 f1 f3 f4 f5⟩
 self:=λA i s Q E st h=>wpAny_pyIter_revIter st.2 h
section
variable{X:Cx}
def iRev(K:Fg)(ta:TA):TI:=λσ H R=>ta σ H λvs H1=>∃a xs,vs=[.ref a]/\SqL K H1 a xs/\R (Itrv K a xs.length) H1
def pi_rev(hg:Gl X "reversed")(hm:X.mg "reversed"=none)(ha:PA X [a] ta)(hs:B0 (starEach [a] X.env=[(false,eval a X.env)])):PI X tg (.Call (.Name "reversed" p) [a] [] pos) (iRev X.K ta):=by
 intro p4 s σ H R I h;refine Call_ (vU I hg hm boot_reversed (JK (thn (ha pos p4 s σ H _ I h) λus s1 ⟨vs,H1,I1,r1,q1⟩=>?_) hs rfl));let⟨a,xs,rfl,hq,q⟩:=q1;let⟨u,rfl,ru⟩:=vF r1;cases ru
 let⟨p6,rv,p,hz⟩:=I1.list hq;refine call_reversed_list p.isList ?_;have hit:(s1.heap.push (revObj a ((p6.toArray.size:Int) - 1))).IsRevIter s1.heap.objs.size a ((xs.length:Int) - 1 - (0:Nat)):=by refine⟨_,Heap.get?_push_size _ rfl,rfl,?_⟩;show Data.fields _=_;rw[Jm,←rv.length];simp
 have I2:Inv X p4 σ H1 {s1 with heap:=s1.heap.push (revObj a ((p6.toArray.size:Int) - 1))}:=I1.kept λb o e=>Heap.get?_push_of_some _ e
 refine wpAny_pyIter_revIter hit ?_;refine⟨_,_,_,_,H1,rfl,I2,znD a _ xs.length,⟨Jz _,hit⟩,λb hb=>?_,q⟩;rw[Je.mp hb];exact I1.fpOk (Jf _) (I1.hok.fresh (Jf _))
end
end L2
namespace FL
open L2
noncomputable def kU(xs ys:U D):U D:=List.zipWith (λx y=>.tup [x,y]) xs ys
noncomputable def zipD(x y:D):Option D:=(itS x).bind λa=>(itS y).map λb=>.lst (kU a b)
variable{F:Hp}{a tg:Expr}{fa:EO D}{p:Pos}
section
variable{K:Fg}{X:Cx}{pos:Pos}
def Dat.seqB{d:D}{v:V}{l:U D}(h:Dat K F d v)(e:itS d=some l):∃b a vs,v=.ref a/\(∀H,zJ F H->SqB b K H a vs)/\zD K F l vs:=by
 cases d<;>simp only[itS]at e<;>try(cases e;done)
 ·cases e
  let⟨a,vs,rfl,f,q⟩:=h.tup_inv;exact⟨false,a,vs,rfl,λH s=>SqT.of (s _ _ f),q⟩
 ·cases e
  let⟨a,vs,rfl,f,q⟩:=h.lst_inv;exact⟨true,a,vs,rfl,λH s=>SqL.of (s _ _ f),q⟩
 ·cases e
  let⟨a,rfl,f⟩:=h.scr_inv;exact⟨true,a,_,rfl,λH s=>zJ.seq s f,zD.ofInts _⟩
theorem zpn{H:Hp}{S:Addr}{R:Hp->Prop}(hS0:H S=none):∀(xs ys:U D) (vs us:U V) (p7:U V) (dn:U D) (F' H':Hp),zG F H F' H'->F' S=none->H' S=some (.lst p7)->zD K F' dn p7->zD K F' xs vs->zD K F' ys us->
  (∀F2 H2 acc2,zG F H F2 H2->F2 S=none->H2 S=some (.lst acc2)->zD K F2 (dn++kU xs ys) acc2->R H2)->zdE S (vs.zip us) p7 H' R
 |[],ys,vs,us,p7,dn,F',H',g,fS,hS,da,dx,dy,q=>by rw[dx.nil_inv];exact q F' H' p7 g fS hS (by simpa[kU]using da)
 |x::xs,[],vs,us,p7,dn,F',H',g,fS,hS,da,dx,dy,q=>by rw[dy.nil_inv,List.zip_nil_right];exact q F' H' p7 g fS hS (by simpa[kU]using da)
 |x::xs,y::ys,vs,us,p7,dn,F',H',g,fS,hS,da,dx,dy,q=>by
  let⟨v,vs,rfl,h1,h2⟩:=dx.cons_inv;let⟨u,us,rfl,h3,h4⟩:=dy.cons_inv;intro T hT;have hTS:=jI hS hT;have g2:=zG.frozen (o:=.tup [v,u]) g.fh hT;have fS2:upd F' T (.tup [v,u]) S=none:=by rw[zT hTS];exact fS
  have g3:zG F H (upd F' T (.tup [v,u])) (upd (upd H' T (.tup [v,u])) S (.lst (p7++[.ref T]))):=by have gg:=g.trans g2;exact⟨gg.ff,λb o e=>by rw[zT (jI e hS0)];exact gg.hh _ _ e,λb o e=>by rw[zT (jI e fS2)];exact gg.fh _ _ e,gg.nw⟩
  refine zpn hS0 xs ys vs us (p7++[.ref T]) (dn++[.tup [x,y]]) _ _ g3 fS2 qG ((da.mono g2.ff).snoc (Dat.tup (K:=K) qG (zD.cons (h1.mono g2.ff) (zD.cons (h3.mono g2.ff) zD.nil)))) (h2.mono g2.ff) (h4.mono g2.ff) λF2 H2 acc2 a b c d=>q F2 H2 acc2 a b c ?_
  simpa[kU]using d
def zkH{x y d:D}(h:zipD x y=some d):∃a b,itS x=some a/\itS y=some b/\d=.lst (kU a b):=by
 unfold zipD at h;cases e1:itS x with
 |none=>rw[e1]at h;cases h
 |some a=>
  cases e2:itS y with
  |none=>rw[e1,e2]at h;cases h
  |some b=>simp_all
def ztq{b:Expr}{fb:EO D}{p2 p3:Pos}(hc:X.calm=true)(hg:Gl X "list")(hm:X.mg "list"=none)(hg2:Gl X "zip")(hm2:X.mg "zip"=none)(ha:FP K .fz X a fa)(hb:FP K .fz X b fb)(hs:B0 (starEach [a,b] X.env=[(false,eval a X.env),(false,eval b X.env)]))(hs2:B0 (starEach [b] X.env=[(false,eval b X.env)]))(hs3:B0 (starEach [.Call (.Name "zip" p2) [a,b] [] p3] X.env=[(false,eval (.Call (.Name "zip" p2) [a,b] [] p3) X.env)]))(hK:B0 (X.K=K)):
  FP K .ow X (.Call (.Name "list" p) [.Call (.Name "zip" p2) [a,b] [] p3] [] pos) (c2 zipD fa fb):=FP.mk λρ d hf=>by
 subst hK;let⟨x,y,e1,e2,e3⟩:=wC hf;let⟨xs,ys,i1,i2,rfl⟩:=zkH e3;refine PE.imp (zjX hc hg hm hg2 hm2 (yA (ha.h ρ x e1) (yA (hb.h ρ y e2) xG hs2) (by simp[*])) hs hs2 hs3) λσ H Q h_=>?_
 let⟨F,rl,q⟩:=h_;refine⟨F,rl,λv F1 H1 g1 r1=>⟨F1,rl.grow g1,λu F2 H2 g2 r2=>?_⟩⟩;let⟨b1,a1,vs,rfl,s1,q1⟩:=Dat.seqB r1 i1;let⟨b2,a2,us,rfl,s2,q2⟩:=Dat.seqB r2 i2;refine⟨b1,b2,a1,a2,vs,us,rfl,s1 H2 (g2.ff.trans g2.fh),s2 H2 g2.fh,λS hS=>?_⟩;have g:=g1.trans g2;have g':zG F H F2 (upd H2 S (.lst [])):=g.trans (zG.fresh g2.fh hS);refine zpn (g.hh.free hS) xs ys vs us [] [] F2 _ g' (g2.fh.free hS) qG zD.nil (q1.mono g2.ff) q2 λF3 H3 acc2 g3 f3 h3 d3=>?_
 exact q _ F3 H3 g3 ⟨S,rfl,g.hh.free hS,f3,acc2,h3,d3⟩
noncomputable def cZ(f g:EO D):EO (U D):=λρ=>(f ρ).bind λx=>(g ρ).bind λy=>(itS x).bind λa=>(itS y).map λb=>kU a b
def izip{b:Expr}{fb:EO D}(ha:FP K .fz X a fa)(hb:FP K .fz X b fb)(hg:Gl X "zip")(hm:X.mg "zip"=none)(hs:B0 (starEach [a,b] X.env=[(false,eval a X.env),(false,eval b X.env)]))(hs2:B0 (starEach [b] X.env=[(false,eval b X.env)]))(hK:B0 (X.K=K)):
  FI K X tg (.Call (.Name "zip" p) [a,b] [] pos) (cZ fa fb):=FI.mk λρ ds hf=>by
 subst hK;unfold cZ at hf;cases e1:fa ρ with
 |none=>rw[e1]at hf;cases hf
 |some x=>
  cases e2:fb ρ with
  |none=>simp_all
  |some y=>
   cases i1:itS x with
   |none=>rw[e1]at hf;simp[e2,i1]at hf
   |some xs=>
    cases i2:itS y with
    |none=>rw[e1]at hf;simp[e2,i1,i2]at hf
    |some ys=>
     rw[e1]at hf;simp[e2,i1,i2]at hf;subst hf;refine PI.imp (zsk hg hm (yA (ha.h ρ x e1) (yA (hb.h ρ y e2) xG hs2) (by rw[hs,hs2])) hs hs2) λσ H R h_=>?_
     let⟨F,rl,q⟩:=h_;refine⟨F,rl,λv F1 H1 g1 r1=>⟨F1,rl.grow g1,λu F2 H2 g2 r2=>?_⟩⟩;let⟨b1,a1,vs,rfl,s1,q1⟩:=Dat.seqB r1 i1;let⟨b2,a2,us,rfl,s2,q2⟩:=Dat.seqB r2 i2;refine⟨b1,b2,a1,a2,vs,us,rfl,s1 H2 (g2.ff.trans g2.fh),s2 H2 g2.fh,q _ F2 H2 (g1.trans g2) λF3 H3 f3 h3=>?_⟩;have t1:=s1 H3 (g2.ff.trans (f3.trans h3));have t2:=s2 H3 (f3.trans h3);have l1:=q1.length;have l2:=q2.length;refine⟨λi hi=>?_,λi x H4 d hd y=>?_,?_⟩
     ·have hi':i<xs.length/\i<ys.length:=by grind [kU]
      exact⟨vs,us,vs[i]'(by simp[*]),us[i]'(by simp[*]),t1,t2,by simp,by simp⟩
     ·let⟨pp,v,u,hp,rfl,rfl,k1,k2⟩:=y;have hi':i<xs.length/\i<ys.length:=by grind
      have hd':d=.tup [xs[i],ys[i]]:=by unfold kU at hd;rw[List.getElem?_eq_getElem (by rw[List.length_zipWith];grind)]at hd;simpa using hd.symm
      subst hd';let⟨w1,m1,n1⟩:=q1.get (List.getElem?_eq_getElem hi'.1);let⟨w2,m2,n2⟩:=q2.get (List.getElem?_eq_getElem hi'.2);rw[k1 vs t1]at m1;cases m1
      rw[k2 us t2]at m2;cases m2
      have g:=zG.frozen (o:=.tup [v,u]) h3 hp;exact⟨_,g,Dat.tup qG (zD.cons ((n1.mono (g2.ff.trans f3)).mono g.ff) (zD.cons ((n2.mono f3).mono g.ff) zD.nil))⟩
     ·exact⟨vs,us,t1,t2,by simp[kU];simp[*]⟩
noncomputable def cRv(f:EO D):EO (U D):=λρ=>match f ρ with
 |some (.lst l)=>some l.reverse
 |_=>none
def irev(ha:FP K .fz X a fa)(hg:Gl X "reversed")(hm:X.mg "reversed"=none)(hs:B0 (starEach [a] X.env=[(false,eval a X.env)]))(hK:B0 (X.K=K)):
  FI K X tg (.Call (.Name "reversed" p) [a] [] pos) (cRv fa):=FI.mk λρ ds hf=>by
 subst hK;unfold cRv at hf;split at hf
 ·rename_i l e1;cases hf
  refine PI.imp (L2.pi_rev hg hm (yA (ha.h ρ _ e1) xG hs) hs) λσ H R ⟨F,rl,q⟩=>⟨F,rl,λv F1 H1 g1 r1=>?_⟩
  let⟨a,vs,rfl,f1,q1⟩:=Dat.lst_inv r1;have hl:=q1.length;refine⟨a,vs,rfl,SqL.of (g1.fh _ _ f1),q _ F1 H1 g1 λF2 H2 f2 h2=>?_⟩;have hs:SqL X.K H2 a vs:=SqL.of (h2 _ _ (f2 _ _ f1));refine⟨λi hi=>⟨by simp_all,vs,hs,rfl⟩,λi x H3 d hd y=>?_,by show _=_;simp[*]⟩;let⟨rfl,y⟩:=y;have hi:i<l.length:=by have:=(List.getElem?_eq_some_iff.mp hd).1;rwa[Wf]at this
  rw[List.getElem?_reverse hi]at hd;let⟨w,hw,dw⟩:=q1.get hd
  have:=y vs hs;rw[hl,hw]at this;cases this
  exact⟨F2,zG.refl h2,dw.mono f2⟩
 ·cases hf
end
end FL
namespace L2
variable{o:Option V}{u:Value}{y:V}
section
variable{κ:Type}[DecidableEq κ]
noncomputable def qR(p5:U (κ×V))(k:κ):Option V:=(p5.find? λkv=>decide (kv.1=k)).map (·.2)
noncomputable def qL(p5:U (κ×V))(k:κ)(v:V):U (κ×V):=
 if(p5.any λkv=>decide (kv.1=k))=true then p5.map (λkv=>if kv.1=k then(kv.1,v)else kv)else p5++[(k,v)]
def zaT{p:κ×V}{r:U (κ×V)}{k:κ}(e:p.1=k):qR (p::r) k=some p.2:=by simp[qR,List.find?_cons,e]
def zaU{p:κ×V}{r:U (κ×V)}{k:κ}(e:¬p.1=k):qR (p::r) k=qR r k:=by simp[qR,List.find?_cons,e]
theorem zbV(k:κ):∀p5:U (κ×V),(p5.any λkv=>decide (kv.1=k))=(qR p5 k).isSome
 |[]=>rfl
 |p::r=>by
  rw[WE];by_cases e:p.1=k
  ·simp[zaT, *]
  ·rw[zaU e,decide_eq_false e,Bool.false_or];exact zbV k r
theorem zao(p5:U (κ×V))(k:κ)(v:V):(qL p5 k v).length<=p5.length+1:=by
 unfold qL;split
 ·rw[Jc];simp
 ·rw[Jt,JA,QX];simp
def zfL{p5:U (κ×V)}{k:κ}(v:V)(h:qR p5 k=none):qL p5 k v=p5++[(k,v)]:=by unfold qL;rw[zbV,h];exact if_neg (by decide)
def vC.isSome_eq{u:Option Value}(r:vC o u):o.isSome=u.isSome:=by
 cases o with
 |none=>cases u with
  |none=>rfl
  |some _=>exact((r)).elim
 |some _=>cases u with
  |none=>exact((r)).elim
  |some _=>rfl
theorem vC.getD{u:Option Value}{d:V}{d':Value}(r:vC o u)(rd:zR d d'):zR (o.getD d) (u.getD d'):=by
 cases o with
 |none=>cases u with
  |none=>exact rd
  |some _=>exact((r)).elim
 |some _=>cases u with
  |none=>exact((r)).elim
  |some _=>exact r
theorem KV.val{p5:U (κ×V)}{vs:U (κ×Value)}(r:KV p5 vs)(k:κ):vC (qR p5 k) (valueAt vs k):=by
 induction r with
 |nil=>exact True.intro
 |@cons p q ps qs h t ih=>
  let⟨h1,h2⟩:=h;by_cases e:p.1=k
  ·have e':=h1.symm.trans e;have b:valueAt (q::qs) k=some q.2:=by simp[valueAt,List.find?_cons,e']
   rw[zaT e,b];exact h2
  ·have e':¬q.1=k:=λz=>e (h1.trans z)
   have b:valueAt (q::qs) k=valueAt qs k:=by simp[valueAt,List.find?_cons,e']
   simp[zaU, *]
theorem KV.any{p5:U (κ×V)}{vs:U (κ×Value)}(r:KV p5 vs)(k:κ):(p5.any λkv=>decide (kv.1=k))=vs.any λkv=>decide (kv.1=k):=by
 induction r with
 |nil=>rfl
 |cons h t ih=>simp[*]
def KV.repl{p5:U (κ×V)}{vs:U (κ×Value)}(r:KV p5 vs)(k:κ)(ry:zR y u):
  KV (p5.map λkv=>if kv.1=k then(kv.1,y)else kv) (vs.map λkv=>if kv.1=k then(kv.1,u)else kv):=by
 unfold KV at r ⊢;induction r with
 |nil=>exact .nil
 |@cons p q ps qs h t ih=>
  rw[Jd,Jd];refine .cons ?_ ih;let⟨h1,h2⟩:=h;by_cases e:p.1=k
  ·rw[if_pos e,if_pos (h1.symm.trans e)];exact⟨h1,ry⟩
  ·rw[if_neg e,if_neg λz=>e (h1.trans z)];exact⟨h1,h2⟩
def KV.put{p5:U (κ×V)}{vs:U (κ×Value)}(r:KV p5 vs)(k:κ)(ry:zR y u):KV (qL p5 k y) (stored vs k u):=by
 unfold qL stored;rw[r.any k];by_cases e:(vs.any λkv=>decide (kv.1=k))=true
 ·rw[if_pos e,if_pos e];exact r.repl k ry
 ·rw[if_neg e,if_neg e];exact Paired.snoc r ⟨rfl,ry⟩
theorem KV.length{p5:U (κ×V)}{vs:U (κ×Value)}(r:KV p5 vs):p5.length=vs.length:=Paired.length r
end
variable{P:Program}{w:World}
def zig{k:Key}(r:zR (kV k) u):(jR P w).is k u=true:=by
 cases k with
 |inl i=>let⟨t,e⟩:=((r));subst e;exact zhV P w i t
 |inr x=>let⟨t,e⟩:=((r));subst e;exact zhU P w x t
theorem zgY:∀{ks:U Key}{us:U Value},zN (ks.map kV) us->ItemsAre (jR P w) ks us
 |[],_,r=>by cases r;exact .nil
 |k::ks,_,r=>by
  cases r with
  |cons h t=>exact .cons (zig h) (zgY t)
variable{p5:U (Key×V)}
section
variable{P:Program}{w:World}{H:Hp}{h:Heap}{a:Addr}
def zuh{u:HO}(ok:HOk P w H h)(e:Rd H a u):kX P w H h a u:=e.ok ok
def zky(ok:HOk P w H h)(e:Rd H a (.dK p5)):p5.length<=sizeLine/\(a==sysModules)=false/\∃vs,KV p5 vs/\h.DictOf (jR P w) a vs:=
 (zuh ok e)
def zrm(ok:HOk P w H h)(e:H a=some (.dK p5)):p5.length<=sizeLine/\(a==sysModules)=false/\∃vs,KV p5 vs/\h.DictOf (jR P w) a vs:=zky ok (.inl e)
end
def DGet(H:Hp)(a:Addr)(y:V)(r:Option V):Prop:=∃p5 k,Rd H a (.dK p5)/\y=kV k/\r=qR p5 k
def DPut(H:Hp)(a:Addr)(y v:V)(H':Hp):Prop:=∃p5 k,H a=some (.dK p5)/\y=kV k/\p5.length<sizeLine/\H'=upd H a (.dK (qL p5 k v))
variable{H:Hp}{a:Addr}
theorem DGet.k{k:Key}(e:H a=some (.dK p5)):DGet H a (kV k) (qR p5 k):=⟨p5,k,.inl e,rfl,rfl⟩
theorem DPut.k{k:Key}{v:V}(e:H a=some (.dK p5))(hl:p5.length<sizeLine):DPut H a (kV k) v (upd H a (.dK (qL p5 k v))):=⟨p5,k,e,rfl,hl,rfl⟩
variable{Q:Vs}{h':Heap}{H':Hp}
section
variable{X:Cx}{p4:AO}{σ:St}{H:Hp}{s:Shared}{a:Addr}{y v:V}{u r:Value}{o:Option V}{A:Around}{E:Vs}
def Inv.big(I:Inv X p4 σ H s):sysModules<s.heap.objs.size:=by have h:=(I.mod.glob.keeps I.bk).lt;exact Nat.lt_trans (by decide) h
def zmY(hu:A.units+1<cLine)(I:Inv X p4 σ H s)(g:DGet H a y (some v))(ry:zR y u)(h:∀w' s',Inv X p4 σ H s'->zR v w'->Q w' s'):
  wpAny (Y0 1) A (getItem (.ref a) u) Q E s:=by
 let⟨p5,k,e,ey,l⟩:=g;subst ey;let⟨z,hd,vs,rel,dd⟩:=zky I.hok e;let⟨w',hw,rw'⟩:=vC.some_of (v:=v) (by rw[l];exact rel.val k);exact wpAny_getItem_of (zig ry) dd.mapOf hw (h w' _ (I.tok _) rw')
def zgf{t':Nat}{ob:HO}(I:Inv X p4 σ H s)(mu:Mut (H a))(hs:Heap.SameBut a s.heap h')(he:∃q,h'.get? a=some q)(new:kX X.prog X.w (upd H a ob) h' a ob):
  Inv X p4 σ (upd H a ob) {s with heap:=h',toks:=t'}:=
 I.write (x:=a) (e:=a) mu (.inl rfl) (λb q hb z=>(hs.2 b hb).trans z) he new
def zmV{vs:U (Key×Value)}(z:p5.length<=sizeLine)(hd:(a==sysModules)=false)(rel:KV p5 vs)(dd:h'.DictOf (jR P w) a vs):
  kX P w H' h' a (.dK p5):=⟨z,hd,vs,rel,dd⟩
def zhk{Q:Unit->Shared->Prop}(hu:A.units+1<cLine)(I:Inv X p4 σ H s)(g:DPut H a y v H')(ry:zR y u)(rv:zR v r)(h:∀s',Inv X p4 σ H' s'->Q () s'):
  wpAny (Y0 1) A (setItem (.ref a) u r) Q E s:=by
 let⟨p5,k,e,ey,l,eH⟩:=g;subst ey eH;let⟨z,hd,vs,rel,dd⟩:=zrm I.hok e;have hz:vs.length<=sizeLine:=by rw[←rel.length];exact z
 have hl:(qL p5 k v).length<=sizeLine:=by grind [zao]
 refine wpAny_setItem_pairs (zig ry) dd λh' dd' hs=>h _ ?_
 have he:∃q,h'.get? a=some q:=let⟨q,_,_,hq,_⟩:=dd';⟨q,hq⟩
 exact zgf I (by rw[e];exact True.intro) hs he (zmV hl hd (rel.put k rv) dd')
end
def NoSl(i:Expr):Prop:=∀ov iv,subscripted i false ov iv=operate [ov,iv] (getItem ov iv)
variable{s:Shared}
theorem zkW{prog:Program}{A:Around}{E:Vs}{env:Env}{value slice:Expr}{pos:Pos}{T id:String}(hl:typeLookup (.type T) "__getitem__"=pure (some (.builtin id)))(hs:NoSl slice)(h:wpAny (model prog w) A (eval value env) (λo s₁=>wpAny (model prog w) A (eval slice env) (λi s₂=>s₂.TypeIs o T/\wpAny (model prog w) A (getItem o i) Q E s₂) E s₁) E s):
  wpAny (model prog w) A (eval (.Subscript value slice pos) env) Q E s:=by
 refine Subscript_ (JQ h (λo s₁ h₁=>JQ h₁ (λi s₂ h₂=>?_) λ_ _ x=>x) λ_ _ x=>x);let⟨hT,h₂⟩:=h₂;refine wpAny_bind ?_;refine wpAny_bind (wpAny_specialOf hT hl ?_);have fin:wpAny (model prog w) A (subscripted slice false o i) (λr s₃=>wpAny (model prog w) A (letTemporaryGo value o r>>=λ_=>pure r) Q E s₃) E s₂:=by rw[hs o i];exact wpAny_operating (JQ h₂ (λr s₃ h₃=>wpAny_bind (wpAny_letTemporaryGo (Ja h₃))) λ_ _ x=>x)
 first
  |exact Ja (wpAny_bind fin)
  |exact wpAny_bind (Ja (wpAny_bind fin))
  |exact wpAny_bind fin
variable{X:Cx}{p4:AO}{σ:St}
def ziq(I:Inv X p4 σ H s)(g:DGet H a y o):s.TypeIs (.ref a) "dict":=by let⟨p5,k,e,_,_⟩:=g;let⟨_,_,vs,_,dd⟩:=zky I.hok e;exact dd.typeIs
def zuc(td ty:TE):TE:=λσ H Q=>td σ H λx H1=>ty σ H1 λy H2=>∃a v,x=.ref a/\DGet H2 a y (some v)/\Q v H2
section
variable{X:Cx}{o i e value:Expr}{pos pos' tpos:Pos}{td ty tv:TE}
def zlL(hu:X.A.units+1<cLine)(ho:PE X o td)(hi:PE X i ty)(hs:NoSl i):PE X (.Subscript o i pos) (zuc td ty):=by intro p4 s σ H Q I h;refine zkW PySem.F.slot_dict_getitem.lookup hs (thn (ho p4 s σ H _ I h) λu s1 ⟨x,H1,I1,rx,q1⟩=>thn (hi p4 s1 σ H1 _ I1 q1) λiv s2 ⟨y,H2,I2,ry,a,v,ex,g,q2⟩=>?_);subst ex;obtain rfl:u=Value.ref a:=rx;exact⟨ziq I2 g,zmY hu I2 g ry λw' s3 I3 rw'=>⟨v,H2,I3,rw',q2⟩⟩
end
def zjz(h:Heap)(hb:sysModules<h.objs.size):kX P w H (h.push {cls:=.type "dict",data:=.dict #[]}) h.objs.size (.dK []):=
 ⟨Jz _,beq_eq_false_iff_ne.mpr (Ne.symm (Jo hb)),[],.nil,Heap.DictOf.new h⟩
def zrG:TE:=λ_ H Q=>∀p,H p=none->Q (.ref p) (upd H p (.dK []))
section
variable{X:Cx}{pos:Pos}
def zoi:PE X (.Dict [] [] pos) zrG:=λp4 s σ H Q I h=>
 wpAny_Dict_empty ⟨.ref s.heap.objs.size,_,I.laid (λ_ _ q=>Heap.get?_push_of_some _ q) (Jf _) (zjz s.heap I.big),rfl,h _ (I.hok.fresh (Jf _))⟩
end
structure M2(X:Cx)(o:Expr)(m:Str)(p9:Pos)(e f:Expr)(p8:Pos):Prop where
 base:attributeBase o m X.env (eval o X.env)=eval o X.env
 few:((backTo p8 (starEach [e,f] X.env)).all (λx=>!x.1)&&(backToKw p8 (keywordEach [] X.env)).all (λx=>x.1.isSome)
  &&decide (([e,f]:U Expr).length+([]:U Keyword).length+(if([]:U Keyword).isEmpty then 0 else 1)<30))=true
 line:(p9.endLine==p8.line)=true
 trees:backTo p8 (starEach [e,f] X.env)=[(false,eval e X.env),(false,eval f X.env)]
def IsD(H:Hp)(a:Addr):Prop:=∃p5,Rd H a (.dK p5)
def zpO(I:Inv X p4 σ H s)(d:IsD H a):
  s.TypeIs (.ref a) "dict"/\(∀b,Value.ref a=.ref b->∃ob,s.heap.get? b=some ob/\ob.dict=none)/\(a==sysModules)=false:=by
 let⟨p5,e⟩:=d;let⟨_,hd,vs,_,dd⟩:=zky I.hok e;refine⟨dd.typeIs,λb q=>?_,hd⟩;cases q
 let⟨ob,_,_,h1,h2,_⟩:=dd;exact⟨ob,h1,h2.2.1⟩
section
variable{X:Cx}{p4:AO}{σ:St}{H:Hp}{s:Shared}{a:Addr}{y d:V}{u r:Value}{o:Option V}{A:Around}{E:Vs}
def ztF(hu:A.units+1<cLine)(I:Inv X p4 σ H s)(g:DGet H a y o)(ry:zR y u)(rd:zR d r)(h:∀w' s',Inv X p4 σ H s'->zR (o.getD d) w'->Q w' s'):
  wpAny (Y0 1) A (call (.builtin "dict.get") [.ref a,u,r]) Q E s:=by
 let⟨p5,k,e,ey,l⟩:=g;subst ey;let⟨z,hd,vs,rel,dd⟩:=zky I.hok e;refine call_meetsIn PySem.F.slot_dict_get dd.typeIs PySem.F.entry_dict_get (PySem.F.args_dict_get_3 _ _ _) (meets_dict_get_default (jR X.prog X.w) a (zig ry) hd r) ⟨_,dd.mapOf,h _ _ (I.tok _) ?_⟩;rw[l];exact(rel.val k).getD rd
end
def zrH(td ty tx:TE):TE:=λσ H Q=>td σ H λx H1=>∃a,x=.ref a/\IsD H1 a/\ty σ H1 λy H2=>tx σ H2 λz H3=>∃o,DGet H3 a y o/\Q (o.getD z) H3
section
variable{X:Cx}{o e f:Expr}{p9 p8:Pos}{td ty tx:TE}
def zoj(hu:X.A.units+1<cLine)(ho:PE X o td)(he:PE X e ty)(hf:PE X f tx)(m:M2 X o "get" p9 e f p8):PE X (.Call (.Attribute o "get" p9) [e,f] [] p8) (zrH td ty tx):=by
 intro p4 s σ H Q I h;refine wpAny_Call_method m.base m.few m.line PySem.F.plainAttrs_dict PySem.F.slot_dict_get PySem.F.type_dict_get (thn (ho p4 s σ H _ I h) λu s1 ⟨x,H1,I1,rx,a,ex,d,q1⟩=>?_);subst ex;obtain rfl:u=Value.ref a:=rx;let⟨t1,t2,_⟩:=zpO I1 d;refine⟨t1,t2,?_⟩;rw[m.trees];refine QT rfl (Wz (Qn (thn (he p4 s1 σ H1 _ I1 q1) λiv s2 ⟨y,H2,I2,ry,q2⟩=>
  Qn (thn (hf p4 s2 σ H2 _ I2 q2) λfv s3 ⟨z,H3,I3,rz,ov,g,q3⟩=>Wt ?_))))
 exact ztF hu I3 g ry rz λw' s4 I4 rw'=>⟨_,H3,I4,rw',q3⟩
end
end L2
namespace FL
open L2
noncomputable def kI:D->Option Key
 | .int i=>some (.inl i)
 | .str x=>some (.inr x)
 |_=>none
def zek{a b:Key}(h:kdK a=kdK b):a=b:=by cases a<;>cases b<;>simp[kdK]at h<;>rw[h]
def kds(p5:U (Key×V)):U KD:=p5.map λp=>kdK p.1
noncomputable def qU(ks:U KD)(ds:U D)(k:KD):Option D:=((ks.zip ds).find? λp=>decide (p.1=k)).map (·.2)
noncomputable def jV(ks:U KD)(ds:U D)(k:KD)(d:D):U KD×U D:=
 if(ks.any λx=>decide (x=k))=true then(ks,(ks.zip ds).map λp=>if p.1=k then d else p.2)else(ks++[k],ds++[d])
variable{a:Addr}{F H:Hp}{v:V}{ks:U KD}
section
variable{K:Fg}{X:Cx}{pos:Pos}
def wO{d:D}{k:Key}(h:kI d=some k)(r:Dat K F d v):v=kV k:=by
 cases d<;>simp only[kI]at h<;>cases h
 ·rw[r.int_inv];rfl
 ·rw[r.str_inv];rfl
theorem zdG{F:Hp}(k:Key):∀(p5:U (Key×V)) (ds:U D),zD K F ds (p5.map (·.2))->(qU (kds p5) ds (kdK k)=none/\qR p5 k=none)\/∃d v,qU (kds p5) ds (kdK k)=some d/\qR p5 k=some v/\Dat K F d v
 |[],ds,h=>.inl ⟨by simp[qU,kds],rfl⟩
 |(a,v)::p5,[],h=>by have:=h.nil_inv;simp at this
 |(a,v)::p5,d::ds,h=>by
  let⟨v',r,e,h1,h2⟩:=h.cons_inv;let⟨rfl,rfl⟩:=e;by_cases hk:a=k
  ·subst hk;exact .inr ⟨d,v,by simp[qU,kds],zaT rfl,h1⟩
  ·have hk':¬kdK a=kdK k:=λz=>hk (zek z)
   have e1:qU (kds ((a,v)::p5)) (d::ds) (kdK k)=qU (kds p5) ds (kdK k):=by simp[qU,kds,List.find?_cons,hk']
   rw[e1,zaU hk];exact zdG k p5 ds h2
theorem znn(k:Key):∀p5:U (Key×V),((kds p5).any λx=>decide (x=kdK k))=(p5.any λkv=>decide (kv.1=k))
 |[]=>rfl
 |(a,v)::p5=>by
  have ih:=znn k p5;by_cases hk:a=k
  ·subst hk;simp[kds]
  ·have hk':¬kdK a=kdK k:=λz=>hk (zek z)
   simp only[kds,List.map_cons,List.any_cons,hk',hk,decide_false,Bool.false_or];exact ih
theorem zlA(k:Key){d:D}(hd:Dat K F d v):∀(p5:U (Key×V)) (ds:U D),zD K F ds (p5.map (·.2))->
  zD K F (((kds p5).zip ds).map λp=>if p.1=kdK k then d else p.2) ((p5.map λkv=>if kv.1=k then(kv.1,v)else kv).map (·.2))
 |[],ds,h=>by exact zD.nil
 |(a,u)::p5,[],h=>by have:=h.nil_inv;simp at this
 |(a,u)::p5,c::ds,h=>by
  let⟨v',r,e,h1,h2⟩:=h.cons_inv;let⟨rfl,rfl⟩:=e;have ih:=zlA k hd p5 ds h2;simp only[kds,List.map_cons,List.zip_cons_cons];by_cases hk:a=k
  ·subst hk;rw[if_pos rfl,if_pos rfl];exact zD.cons hd ih
  ·have hk':¬kdK a=kdK k:=λz=>hk (zek z)
   rw[if_neg hk',if_neg hk];exact zD.cons h1 ih
def zfK{F:Hp}(k:Key){d:D}(hd:Dat K F d v)(p5:U (Key×V))(ds:U D)(h:zD K F ds (p5.map (·.2))):
  (jV (kds p5) ds (kdK k) d).1=kds (qL p5 k v)/\zD K F (jV (kds p5) ds (kdK k) d).2 ((qL p5 k v).map (·.2)):=by
 unfold jV qL;rw[znn];split
 ·refine⟨?_,zlA k hd p5 ds h⟩;unfold kds;rw[Jq];apply JD;intro p _;simp only[Function.comp]
  split<;>rfl
 ·exact⟨by simp[kds],by rw[Jr];exact h.snoc hd⟩
def zgb{vs:U V}(h:nC F H a ks vs)(hk:∀l,KD.tup l∉ks):∃p5,H a=some (.dK p5)/\ks=kds p5/\vs=p5.map (·.2):=by
 rcases h with⟨p5,h,e1,e2⟩|⟨p5,ys,h,⟨e1,e3⟩,e2,_⟩
 ·exact⟨p5,h,e1,e2⟩
 ·exact absurd e3.choose_spec (hk _)
def zpS{vs:U V}(h:DicB F H a ks vs)(hk:∀l,KD.tup l∉ks):∃p5,Rd H a (.dK p5)/\ks=kds p5/\vs=p5.map (·.2):=by
 rcases h with h|⟨o,⟨p5,h,e1,e2⟩|⟨p5,ys,h,⟨e1,e3⟩,e2,_⟩⟩
 ·let⟨p5,h,r⟩:=zgb h hk;exact⟨p5,.inl h,r⟩
 ·exact⟨p5,.inr ⟨o,h⟩,e1,e2⟩
 ·exact absurd e3.choose_spec (hk _)
def Rd.mono{H':Hp}{u:HO}(s:zJ H H')(h:Rd H a u):Rd H' a u:=h.imp (s _ _) λ⟨o,h⟩=>⟨o,s _ _ h⟩
def kOk(ks:U KD):Bool:=ks.all λx=>match x with
 | .tup _=>false
 |_=>true
def zgW(h:kOk ks=true):∀l,KD.tup l∉ks:=λl hl=>by have:=JU.mp h _ hl;cases this
def zkt:FP K .ow X (.Dict [] [] pos) (cst (.dic [] [])):=FP.mk λρ d hf=>by
 cases hf
 refine PE.imp zoi λσ H Q ⟨F,r,q⟩ p hp=>?_
 exact q _ _ _ (zG.fresh r.sub hp) ⟨p,rfl,hp,r.sub.free hp,[],.inl ⟨[],qG,rfl,rfl⟩,zD.nil⟩
noncomputable def c3(p:D->D->D->Option D)(fa fb fc:EO D):EO D:=λρ=>(fa ρ).bind λx=>(fb ρ).bind λy=>(fc ρ).bind λz=>p x y z
def zrs{p:D->D->D->Option D}{fa fb fc:EO D}{ρ:En}{d:D}(h:c3 p fa fb fc ρ=some d):∃x y z,fa ρ=some x/\fb ρ=some y/\fc ρ=some z/\p x y z=some d:=by
 unfold c3 at h;cases e1:fa ρ with
 |none=>rw[e1]at h;cases h
 |some x=>
  cases e2:fb ρ with
  |none=>rw[e1]at h;simp[e2]at h
  |some y=>
   cases e3:fc ρ with
   |none=>rw[e1]at h;simp[e2,e3]at h
   |some z=>rw[e1]at h;simp[e2,e3]at h;exact⟨x,y,z,rfl,rfl,rfl,h⟩
noncomputable def zks(x y z:D):Option D:=match x,kI y with
 | .dic ks ds,some k=>if kOk ks=true then some ((qU ks ds (kdK k)).getD z)else none
 |_,_=>none
def fget{o e f:Expr}{fo fe ff:EO D}{p9 p8:Pos}(hu:X.A.units+100<cLine)(ho:FP K .br X o fo)(he:FP K .fz X e fe)(hf:FP K .fz X f ff)(m1:B0 (attributeBase o "get" X.env (eval o X.env)=eval o X.env))(m2:B0 (((backTo p8 (starEach [e,f] X.env)).all (λx=>!x.1)&&(backToKw p8 (keywordEach [] X.env)).all (λx=>x.1.isSome)&&decide (([e,f]:U Expr).length+([]:U Keyword).length+(if([]:U Keyword).isEmpty then 0 else 1)<30))=true))(m3:B0 ((p9.endLine==p8.line)=true))(m4:B0 (backTo p8 (starEach [e,f] X.env)=[(false,eval e X.env),(false,eval f X.env)])):
  FP K .fz X (.Call (.Attribute o "get" p9) [e,f] [] p8) (c3 zks fo fe ff):=FP.mk λρ d hf'=>by
 let⟨x,y,z,e1,e2,e3,e4⟩:=zrs hf';refine PE.imp (zoj (by lia) (ho.h ρ x e1) (he.h ρ y e2) (hf.h ρ z e3) ⟨m1,m2,m3,m4⟩) λσ H Q h_=>?_
 let⟨F,rl,q⟩:=h_;unfold zks at e4;split at e4
 ·rename_i ks ds k ek;let⟨hk,rfl⟩:=kF e4;refine⟨F,rl,λv F1 H1 g1 r1=>?_⟩;let⟨a,vs,rfl,f1,q1⟩:=zV.dic_inv r1;let⟨p5,h1,rfl,rfl⟩:=zpS f1 (zgW hk);refine⟨a,rfl,⟨p5,h1⟩,F1,rl.grow g1,λu F2 H2 g2 r2=>⟨F2,(rl.grow g1).grow g2,λw F3 H3 g3 r3=>?_⟩⟩;have eu:=wO (K:=K) ek r2;subst eu;refine⟨qR p5 k,⟨p5,k,Rd.mono (g2.hh.trans g3.hh) h1,rfl,rfl⟩,q _ F3 H3 (g1.trans (g2.trans g3)) ?_⟩;rcases zdG (K:=K) k p5 ds (q1.mono (g2.ff.trans g3.ff))with⟨n1,n2⟩|⟨d,v,n1,n2,n3⟩
  ·rw[n1,n2];exact r3
  ·rw[n1,n2];exact n3
 ·cases e4
def zuj:V->V->V->Hp->(Hp->Prop)->Prop:=λo i v H Q=>∃a H',o=.ref a/\DPut H a i v H'/\Q H'
def znN(hu:X.A.units+1<cLine):PSet X zuj:=by
 intro p4 s σ H o i v ov iv u Q I ro ri rv h;let⟨a,H',rfl,g,q⟩:=h;cases ro
 exact zhk hu I g ri rv λs' I'=>⟨H',I',q⟩
noncomputable def zlB(i:Nat)(fk fe:EO D):EO Fl:=λρ=>match ρ[i]?,fe ρ,(fk ρ).bind kI with
 |some (some (.ow pp (.dic ks ds))),some d,some k=>if kOk ks=true/\ks.length<lim then some (.nx (ρ.set i (some (.ow pp (.dic (jV ks ds (kdK k) d).1 (jV ks ds (kdK k) d).2)))))else none
 |_,_,_=>none
noncomputable def wR(i:Nat)(m:EO Fl):EO Fl:=λρ=>match ρ[i]? with
 |some (some (.ow false d))=>m (ρ.set i (some (.dat d)))
 |_=>none
theorem Rel.frz{F H:Hp}{ρ:En}{σ:St}{i:Nat}{d:D}(r:Rel K F H ρ σ)(e:ρ[i]?=some (some (.ow false d))):
  ∃a,∀H2,vD H a H2->∃F',Rel K F' H2 (ρ.set i (some (.dat d))) σ/\jE ρ σ F H (ρ.set i (some (.dat d))) σ F' H2:=by
 let⟨a,h1,h2,h3⟩:=r.own i false d e;refine⟨a,λH2 fz=>?_⟩;have x:zJ F (vA F H2 a):=zbf h2;refine⟨vA F H2 a,⟨zck (fz.same r.sub h2),λj y q=>?_,λj y q=>?_,λj qq y q=>?_,λj k qq y s c ne e1 e2 e3 e4=>?_,by simp[r.len]⟩,⟨x,λb o hb n no=>?_,λb hb=>.inr ?_,λj y e'=>?_,zck (fz.same r.sub h2)⟩⟩
 ·rcases qW q with⟨rfl,q'⟩|⟨ne,q'⟩
  ·cases q';exact⟨_,h1,h3.freeze h2 fz⟩
  ·let⟨v,g1,g2⟩:=r.dat j y q';exact⟨v,g1,g2.mono x⟩
 ·rcases qW q with⟨rfl,q'⟩|⟨ne,q'⟩
  ·cases q'
  ·let⟨v,g1,g2⟩:=r.bor j y q';exact⟨v,g1,g2.frz x fz λz=>r.inj i j false d _ a (Ne.symm ne) e h1 q' rfl (by rw[g1,z])⟩
 ·rcases qW q with⟨rfl,q'⟩|⟨ne,q'⟩
  ·cases q'
  ·let⟨b,g1,g2,g3⟩:=r.own j qq y q';have hb:b≠a:=λz=>by subst z;exact r.inj i j false d _ b (Ne.symm ne) e h1 q' rfl g1
   exact⟨b,g1,by rw[zbR hb];exact g2,g3.mono x λo e=>by rw[fz.ne hb];exact e⟩
 ·rcases qW e1 with⟨rfl,e1'⟩|⟨ne1,e1'⟩
  ·cases e1'
  ·rcases qW e3 with⟨rfl,e3'⟩|⟨ne3,e3'⟩
   ·cases e3';cases e4
   ·exact r.inj j k qq y s c ne e1' e2 e3' e4
 ·have hb':b≠a:=λz=>no (by subst z;exact⟨i,false,d,e,h1⟩)
  exact⟨by rw[fz.ne hb'];exact hb,by rw[zbR hb'];exact n⟩
 ·let⟨j,qq,y,j1,j2⟩:=hb;rcases qW j1 with⟨rfl,j1'⟩|⟨ne,j1'⟩
  ·cases j1'
  ·exact⟨j,qq,y,j1',j2⟩
 ·rcases qW e' with⟨rfl,e''⟩|⟨ne,e''⟩
  ·cases e''
  ·exact⟨y,e'',rfl⟩
end
end FL
namespace L2
end L2
namespace FL
open L2
section
variable{K:Fg}{X:Cx}{pos:Pos}
def zsi{st:Stmt}{t:TS}(h:PS X st t):PS X st (λD σ H=>∃a,∀H2,vD H a H2->t D σ H2):=λp4 s σ H D I ⟨a,ht⟩=>by let⟨H2,f,I2⟩:=Inv.frzTo I a;exact h p4 s σ H2 D I2 (ht H2 f)
def sfrz{md:Md}(i:Nat){st:Stmt}{m:EO Fl}(h:FS K md X st m):FS K md X st (wR i m):=FS.mk λρ fl hf=>by
 unfold wR at hf;split at hf
 ·rename_i d e1;refine PS.imp (zsi (h.h _ fl hf)) λD σ H h_=>?_
  let⟨F,r,q⟩:=h_;let⟨a,hf2⟩:=r.frz e1;refine⟨a,λH2 fz=>?_⟩;let⟨F',r',s'⟩:=hf2 H2 fz;exact rdS.after r.sub r' s' q
 ·cases hf
def zpw(z:Str):U D:=z.cps.toList.map λc=>D.str ⟨#[c]⟩
end
variable{e f:Expr}{p9 p8:Pos}
section
variable{K:Fg}{X:Cx}{pos:Pos}
noncomputable def inK(f:Bool->Bool)(y x:D):Option D:=match x,kI y with
 | .dic ks ds,some k=>if kOk ks=true then some (.bl (f (qU ks ds (kdK k)).isSome))else none
 |_,_=>none
noncomputable def vN(x y:D):Option D:=match x,kI y with
 | .dic ks ds,some k=>if kOk ks=true then qU ks ds (kdK k)else none
 |_,_=>none
def fixK{a b:Expr}{fa fb:EO D}(hu:X.A.units+100<cLine)(ha:FP K .br X a fa)(hb:FP K .fz X b fb)(hs:NoSl b):FP K .fz X (.Subscript a b pos) (c2 vN fa fb):=FP.mk λρ d hf=>by
 let⟨x,y,e1,e2,e3⟩:=wC hf;refine PE.imp (zlL (by lia) (ha.h ρ x e1) (hb.h ρ y e2) hs) λσ H Q h_=>?_
 let⟨F,rl,q⟩:=h_;unfold vN at e3;split at e3
 ·rename_i ks ds k ek;obtain⟨hk,e3⟩:kOk ks=true/\_:=by
   split at e3
   ·rename_i hz;exact⟨hz,e3⟩
   ·cases e3
  refine⟨F,rl,λv F1 H1 g1 r1=>⟨F1,rl.grow g1,λu F2 H2 g2 r2=>?_⟩⟩;let⟨a,vs,rfl,f1,q1⟩:=zV.dic_inv (zV.mono g2.ff g2.hh r1);let⟨p5,h1,rfl,rfl⟩:=zpS f1 (zgW hk);have ev:=wO (K:=K) ek r2;subst ev;rcases zdG (K:=K) k p5 ds q1 with⟨n1,n2⟩|⟨d',v,n1,n2,n3⟩
  ·rw[n1]at e3;cases e3
  ·rw[n1]at e3;cases e3
   exact⟨a,v,rfl,by rw[←n2];exact⟨p5,k,h1,rfl,rfl⟩,q _ F2 H2 (g1.trans g2) n3⟩
 ·cases e3
def d_setdef{p4:AO}{σ:St}{H:Hp}{s:Shared}{a:Addr}{p5:U (Key×V)}{k:Key}{d:V}{u r:Value}{A:Around}{E:Vs}{Q:Vs}(I:Inv X p4 σ H s)(e:H a=some (.dK p5))(hl:p5.length<sizeLine)(ry:zR (kV k) u)(rr:zR d r)(h1:∀v,qR p5 k=some v->∀w' s',Inv X p4 σ H s'->zR v w'->Q w' s')(h2:qR p5 k=none->∀s',Inv X p4 σ (upd H a (.dK (qL p5 k d))) s'->Q r s'):
  wpAny (Y0 1) A (call (.builtin "dict.setdefault") [.ref a,u,r]) Q E s:=by
 let⟨z,hd,vs,rel,dd⟩:=zrm I.hok e;refine call_meetsIn QP dd.typeIs PySem.F.entry_dict_setdefault (PySem.F.args_dict_setdefault_3 _ _ _) (PySem.kt_meets_setdefault (jR X.prog X.w) a (zig ry) hd r)
  ⟨vs,dd,by rw[←rel.length];exact z,λw' hw=>?_,λhn h' dd' hs=>?_⟩
 ·have vr:=rel.val k;rw[hw]at vr;cases e2:qR p5 k with
  |none=>rw[e2]at vr;exact vr.elim
  |some v=>rw[e2]at vr;exact h1 v e2 w' _ (I.tok _) vr
 ·have vr:=rel.val k;rw[hn]at vr;cases e2:qR p5 k with
  |some v=>rw[e2]at vr;exact vr.elim
  |none=>
   have he:∃q,h'.get? a=some q:=let⟨q,_,_,hq,_⟩:=dd';⟨q,hq⟩
   have hl':(qL p5 k d).length<=sizeLine:=by grind [zao]
   exact h2 e2 _ (zgf I (by rw[e];exact True.intro) hs he (zmV hl' hd (rel.put k rr) dd'))
def tSdf(td ty tx:TE):TE:=λσ H Q=>td σ H λx H1=>∃a,x=.ref a/\IsD H1 a/\ty σ H1 λy H2=>tx σ H2 λz H3=>∃p5 k,H3 a=some (.dK p5)/\y=kV k/\p5.length<sizeLine/\
 (∀v,qR p5 k=some v->Q v H3)/\(qR p5 k=none->Q z (upd H3 a (.dK (qL p5 k z))))
def zsq{o:Expr}{td ty tx:TE}(ho:PE X o td)(he:PE X e ty)(hf:PE X f tx)(m:M2 X o "setdefault" p9 e f p8):PE X (.Call (.Attribute o "setdefault" p9) [e,f] [] p8) (tSdf td ty tx):=by
 intro p4 s σ H Q I h;refine wpAny_Call_method m.base m.few m.line PySem.F.plainAttrs_dict QP PySem.F.type_dict_setdefault (thn (ho p4 s σ H _ I h) λu s1 ⟨x,H1,I1,rx,a,ex,d,q1⟩=>?_);subst ex;obtain rfl:u=Value.ref a:=rx;let⟨t1,t2,_⟩:=zpO I1 d;refine⟨t1,t2,?_⟩;rw[m.trees];refine QT rfl (Wz (Qn (thn (he p4 s1 σ H1 _ I1 q1) λiv s2 ⟨y,H2,I2,ry,q2⟩=>
  Qn (thn (hf p4 s2 σ H2 _ I2 q2) λfv s3 ⟨z,H3,I3,rz,p5,k,ea,ey,hl,q3,q4⟩=>Wt ?_))))
 subst ey;exact d_setdef I3 ea hl ry rz (λv hv w' s4 I4 rw'=>⟨v,H3,I4,rw',q3 v hv⟩) λhn s4 I4=>⟨z,_,I4,rz,q4 hn⟩
noncomputable def gG(i:Nat)(fe ff:EO D):EO (D×En):=λρ=>match ρ[i]?,(fe ρ).bind kI,ff ρ with
 |some (some (.ow pp (.dic ks ds))),some k,some z=>if kOk ks=true/\ks.length<lim then(match qU ks ds (kdK k)with
  |some d=>some (d,ρ)
  |none=>some (z,ρ.set i (some (.ow pp (.dic (jV ks ds (kdK k) z).1 (jV ks ds (kdK k) z).2)))))else none
 |_,_,_=>none
def zkI(i:Nat){x:Str}{p:Pos}{fe ff:EO D}(hu:X.A.units+100<cLine)(he:FP K .fz X e fe)(hf:FP K .fz X f ff)(hN:B0 (X.N[i]?=some x))(hv:K0 (Vis X.env.scope x))(hd:C0 (Y0 2))(hcd:C0 (Y0 4))(m1:B0 (attributeBase (.Name x p) "setdefault" X.env (eval (.Name x p) X.env)=eval (.Name x p) X.env))(m2:B0 (((backTo p8 (starEach [e,f] X.env)).all (λx=>!x.1)&&(backToKw p8 (keywordEach [] X.env)).all (λx=>x.1.isSome)&&decide (([e,f]:U Expr).length+([]:U Keyword).length+(if([]:U Keyword).isEmpty then 0 else 1)<30))=true))(m3:B0 ((p9.endLine==p8.line)=true))(m4:B0 (backTo p8 (starEach [e,f] X.env)=[(false,eval e X.env),(false,eval f X.env)]))(hK:B0 (X.K=K)):
  FX K X (.Call (.Attribute (.Name x p) "setdefault" p9) [e,f] [] p8) (gG i fe ff):=FX.mk λρ d ρ' hm=>by
 subst hK;unfold gG at hm;split at hm
 ·rename_i pp ks ds k z e1 e2 e3;obtain⟨hk,hm⟩:(kOk ks=true/\ks.length<lim)/\_:=by
   split at hm
   ·rename_i hz;exact⟨hz,hm⟩
   ·cases hm
  cases e4:fe ρ with
  |none=>rw[e4]at e2;cases e2
  |some y=>
   rw[e4]at e2;refine PE.imp (zsq (xQ hN hv hd hcd) (he.h ρ y e4) (hf.h ρ z e3) ⟨m1,m2,m3,m4⟩) λσ H Q h_=>?_
   let⟨F,r,q⟩:=h_;let⟨a,h1,h2,vs0,h3,h4⟩:=r.own i pp _ e1;let⟨kvs0,g0,_,_⟩:=zgb h3 (zgW hk.1);refine⟨_,h1,a,rfl,⟨kvs0,.inl g0⟩,F,r,λv F1 H1 g1 r1=>⟨F1,r.grow g1,λu F2 H2 g2 r2=>?_⟩⟩;have rg:=(r.grow g1).grow g2;let⟨a',h1',h2',vs,h3',h4'⟩:=rg.own i pp _ e1;rw[h1]at h1';cases h1'
   let⟨p5,g3,rfl,rfl⟩:=zgb h3' (zgW hk.1);have ev:=wO e2 r1;subst ev;have hl:p5.length<sizeLine:=by
    have:(kds p5).length=p5.length:=by simp[kds]
    exact wM (by lia)
   have st:=(g1.trans g2).step (ρ:=ρ) (σ:=σ);refine⟨p5,k,g3,rfl,hl,λv' hv'=>?_,λhn=>?_⟩
   ·rcases zdG (K:=X.K) (F:=F2) k p5 ds h4' with⟨n1,n2⟩|⟨d',w,n1,n2,n3⟩
    ·rw[n2]at hv';cases hv'
    ·rw[n2]at hv';cases hv'
     rw[n1]at hm;cases hm
     exact q _ F2 H2 rg st n3
   ·rcases zdG k p5 ds h4' with⟨n1,n2⟩|⟨d',w,n1,n2,n3⟩
    ·rw[n1]at hm;cases hm
     let⟨m0,m00⟩:=zfK k r2 p5 ds h4';let⟨w1,w2⟩:=rg.mut (i:=i) (d':=.dic (jV (kds p5) ds (kdK k) d).1 (jV (kds p5) ds (kdK k) d).2) e1 h1 ⟨_,.inl ⟨qL p5 k u,qG,m0,rfl⟩,m00⟩;exact q _ F2 _ w1 (st.trans w2 r.sub) r2
    simp_all
 ·cases hm
end
end FL
namespace L2
end L2
namespace FL
open L2
noncomputable def kdD:KD->D
 | .int i=>.int i
 | .str x=>.str x
 | .tup l=>.tup (l.map λk=>match k with| .inl i=>.int i| .inr x=>.str x)
end FL
namespace L2
section
variable{X:Cx}{p4:AO}{σ:St}{N:U Str}{cap:ON}{scope:Scope}{tg zO kx vx:Expr}{ifs:U Expr}{pos:Pos}{g:TG}{tt:TT}{tk tv:TE}
noncomputable def actD(kx vx:Expr):Value->Env->Sem Unit:=λp7 env=>match p7 with
 | .ref D=>do
  let kv ←eval kx env;let vv ←holding [kv] (eval vx env)
  standAt {kx.pos with endLine:=vx.pos.endLine,endCol:=vx.pos.endCol}
  holding [kv,vv] (dictSet D kv vv)
 |_=>pure ()
def zne:zaG X (.DictComp kx vx [⟨tg,zO,ifs,0⟩] scope pos) tg zO ifs newDict (actD kx vx) (.dK [])where
 new:=λp4 σ H s Q E I h=>JE (h _ (I.laid (λ_ _ q=>Heap.get?_push_of_some _ q) (Jf _) (zjz s.heap I.big)))
 turn:=λit D env=>by rfl
 loop:=λA it D env Q E s h=>h
 start:=λh0 h=>codeAny_compStart_dict h0 h
def taD(tk tv:TE)(D:Addr):wE:=λσ H Q=>tk σ H λx H1=>tv σ H1 λv H2=>∃k p5,x=kV k/\H2 D=some (.dK p5)/\p5.length<sizeLine/\Q (upd H2 D (.dK (qL p5 k v)))
def zgN{Y:Cx}(hk:PE Y kx tk)(hv:PE Y vx tv)(D:Addr):gW Y (actD kx vx) D (taD tk tv D):=by
 intro p4 s σ H Q I h;refine wpAny_bind (thn (hk p4 s σ H _ I h) λu s1 ⟨x,H1,I1,r1,q1⟩=>?_);refine wpAny_bind (Jk (thn (hv p4 s1 σ H1 _ I1 q1) λw s2 ⟨v,H2,I2,r2,k,p5,ex,e,hl,q⟩=>?_));subst ex;refine wpAny_bind (Qy (Jk ?_));let⟨z,hd,vs,rel,dd⟩:=zrm I2.hok e;have hz:vs.length<=sizeLine:=by rw[←rel.length];exact z
 have hl':(qL p5 k v).length<=sizeLine:=by grind [zao]
 refine wpAny_dictSet_pairs (zig r1) dd λh' dd' hs=>⟨σ,_,?_,q⟩
 have he:∃q,h'.get? D=some q:=let⟨q,_,_,hq,_⟩:=dd';⟨q,hq⟩
 exact zgf I2 (by rw[e];exact True.intro) hs he (zmV hl' hd (rel.put k r2) dd')
end
end L2
namespace FL
open L2
noncomputable def wB(g:D->EO En)(t:EO Bool)(fk fv:EO D)(ρi:En):U D->U KD×U D->Option (U KD×U D)
 |[],p7=>some p7
 |x::xs,p7=>(g x ρi).bind λρ1=>(t ρ1).bind λb=>if b=true then(fk ρ1).bind λy=>(kI y).bind λk=>(fv ρ1).bind λd=>wB g t fk fv ρi xs (jV p7.1 p7.2 (kdK k) d)else wB g t fk fv ρi xs p7
noncomputable def zfs(cap:ON)(fi:EO (U D))(g:D->EO En)(t:EO Bool)(fk fv:EO D):EO D:=λρ=>(fi ρ).bind λds=>if ds.length<=lim then(wB g t fk fv (jC cap ρ) ds ([],[])).map λp=>.dic p.1 p.2 else none
variable{cap:ON}{g:D->EO En}{t:EO Bool}{ρ:En}{fi:EO (U D)}
section
variable{K:Fg}{md:Md}{X:Cx}{pos:Pos}{tg zO kx vx:Expr}{ifs:U Expr}{scope:Scope}
def zpd{fk fv:EO D}{ds:U D}{rs:U KD×U D}{σ:St}{H F:Hp}{Q:VK}(hm:wB g t fk fv (jC cap ρ) ds ([],[])=some rs)(hn:ds.length<=lim)(r:Rel K F H ρ σ)(q:∀v F' H',zG F H F' H'->Res K .ow H F' H' (.dic rs.1 rs.2) v->Q v H'){J:It}{F1 H1:Hp}(g1:zG F H F1 H1)(ok:gX K J F1 ds):
  zdF J (λv σ H Q=>∃i:{q:En×D×En//g q.2.1 q.1=some q.2.2},rdG K i.1.1 i.1.2.1 i.1.2.2 v σ H Q) (λσ H Q=>∃i:{q:En×Bool//t q.1=some q.2},rdTp K i.1.1 i.1.2 σ H Q)
   (taD (λσ H Q=>∃i:{q:En×D//fk q.1=some q.2},rdE K .fz i.1.1 i.1.2 σ H Q) λσ H Q=>∃i:{q:En×D//fv q.1=some q.2},rdE K .fz i.1.1 i.1.2 σ H Q) (.dK []) cap σ H1 Q:=by
 intro a ha;refine⟨λi m H2=>∃p7,i<=ds.length/\m=ds.length - i/\∃F2 done,zG F H F2 H2/\zJ F1 F2/\(∀b o,H1 b=some o->H2 b=some o)/\F2 a=none/\H2 a=some (.dK p7)/\zD K F2 done (p7.map (·.2))/\p7.length<=i/\wB g t fk fv (jC cap ρ) (ds.drop i) (kds p7,done)=some rs,
  ⟨ds.length,[],Jz _,rfl,F1,[],⟨g1.ff,g1.hh.trans (yJ ha _),g1.fh.trans (yJ ha _),g1.nw⟩,zJ.refl _,λb o e=>yJ ha _ _ _ e,g1.fh.free ha,qG,zD.nil,Jz _,hm⟩,?_⟩
 rintro i m H2 ⟨p7,hi,rfl,F2,done,g2,ff,hh,fa,hd,da,al,e1⟩;let⟨o1,o2,o3⟩:=ok F2 H2 ff g2.fh;by_cases hlt:i<ds.length
 ·refine .inr ⟨o1 i hlt,λx H3 y=>?_⟩;let⟨F3,g3,d3⟩:=o2 i x H3 _ (List.getElem?_eq_getElem hlt) y;rw[Jy hlt]at e1;simp only[wB]at e1;have g23:=g2.trans g3;have hd3:=g3.hh _ _ hd;have fa3:=g3.nw a _ hd fa;let⟨ρ1,e3,e1⟩:=Jg.mp e1;refine⟨⟨(jC cap ρ,ds[i],ρ1),e3⟩,F3,(r.grow g23).inner,d3,λσ2 r2 _=>?_⟩;let⟨b,e4,e1⟩:=Jg.mp e1;refine⟨⟨(ρ1,b),e4⟩,F3,r2,λF4 H4 g4=>?_⟩;have g24:=g23.trans g4;have hd4:=g4.hh _ _ hd3;have fa4:=g4.nw a _ hd3 fa3;have ff4:zJ F1 F4:=ff.trans (g3.ff.trans g4.ff);have hh4:∀c o,H1 c=some o->H4 c=some o:=λc o e=>g4.hh _ _ (g3.hh _ _ (hh c o e))
  cases b with
  |false=>
   rw[if_neg QD]at e1;exact wQ ⟨ds.length - (i+1),by lia,p7,hlt,rfl,F4,done,g24,ff4,hh4,fa4,hd4,da.mono (g3.ff.trans g4.ff),by lia,e1⟩
  |true=>
   rw[if_pos rfl]at e1;refine wP ?_;let⟨y,e5,e1⟩:=Jg.mp e1;let⟨k,e6,e1⟩:=Jg.mp e1;let⟨d,e7,e1⟩:=Jg.mp e1;refine⟨⟨(ρ1,y),e5⟩,F4,r2.grow g4,λu F5 H5 g5 d5=>⟨⟨(ρ1,d),e7⟩,F5,(r2.grow g4).grow g5,λv F6 H6 g6 d6=>?_⟩⟩;have eu:=wO (K:=K) e6 d5;subst eu;have g46:=g5.trans g6;have g26:=g24.trans g46;have hd6:=g46.hh _ _ hd4;have fa6:=g46.nw a _ hd4 fa4;have haH:H a=none:=g1.hh.free ha;let⟨p1,p2⟩:=zfK k d6 p7 done (da.mono (g3.ff.trans (g4.ff.trans g46.ff)));have pl:=zao p7 k v;refine⟨k,p7,rfl,hd6,wM (by lia),ds.length - (i+1),by lia,_,hlt,rfl,F6,_,?_,ff4.trans g46.ff,λc o e=>?_,fa6,qG,p2,by exact Jp ‹_› (by simp[*]),?_⟩
   ·refine⟨g26.ff,λc o e=>?_,λc o e=>?_,g26.nw⟩
    ·rw[zT (jI e haH)];exact g26.hh _ _ e
    ·rw[zT (jI e fa6)];exact g26.fh _ _ e
   ·rw[zT (jI e ha)];exact g46.hh _ _ (hh4 c o e)
   ·rw[←p1];exact e1
 ·have e:i=ds.length:=by(simp at*;lia)
  subst e;rw[QA]at e1;have e1:some (kds p7,done)=some rs:=e1;cases e1
  exact .inl ⟨o3,q _ F2 H2 g2 ⟨a,rfl,g1.hh.free ha,fa,_,.inl ⟨p7,hd,rfl,rfl⟩,da⟩⟩
def zis{fk fv:EO D}{d:D}(h:zfs cap fi g t fk fv ρ=some d):∃ds rs,fi ρ=some ds/\ds.length<=lim/\wB g t fk fv (jC cap ρ) ds ([],[])=some rs/\d=.dic rs.1 rs.2:=by
 unfold zfs at h;cases e1:fi ρ with
 |none=>rw[e1]at h;cases h
 |some ds=>
  rw[e1]at h;simp only[Option.bind_some]at h;split at h
  ·rename_i hz;cases e2:wB g t fk fv (jC cap ρ) ds ([],[])with
   |none=>rw[e2]at h;cases h
   |some rs=>rw[e2]at h;cases h;exact⟨ds,rs,rfl,hz,e2,rfl⟩
  ·cases h
def zrL(k:Nat){y:Str}{py spos:Pos}{fk fv:EO D}(N:U Str)(cap:ON)(cp:Cap X scope N cap)(hc:X.calm=true)(hN:X.N.Nodup)(hi:FI K X tg zO fi)(hg:∀C s0 H0 fp,FG K (Y0 0) tg g)(ht:∀C s0 H0 fp,nJ K (Y0 0) ifs t)(hkx:∀C s0 H0 fp,FP K .fz (Y0 0) kx fk)(hv:∀C s0 H0 fp,FP K .fz (Y0 0) vx fv)(hk:B0 (X.N[k]?=some y))(hy:K0 (Loc X.env.scope y))(S:kH X scope:=by exact kH.mk')(hs:G0 (∀x,foldedSetIterable zO X.env x=pure x))(hsw:B0 (swapsWith (.DictComp kx vx [⟨tg,zO,ifs,0⟩] scope pos) (some (.Name y py)) spos.line X.env=pure true))(hf:K0 (X.fn y=true\/X.env.scope.names.lookup y=some .local)):
  FS K md X (.Assign [.Name y py] (.DictComp kx vx [⟨tg,zO,ifs,0⟩] scope pos) spos) (setO k (zfs cap fi g t fk fv)):=FS.mk λρ fl hm=>by
 unfold setO at hm;split at hm
 ·rename_i nb;cases e0:zfs cap fi g t fk fv ρ with
  |none=>rw[e0]at hm;cases hm
  |some d=>
   rw[e0]at hm;cases hm
   let⟨ds,rs,e1,hz,e2,rfl⟩:=zis e0;refine PS.imp (zbN zne N cap cp hc hN hk hy (hi.h ρ ds e1) (λC s0 H0 fp=>PG.any λi:{q:En×D×En//g q.2.1 q.1=some q.2.2}=>(hg C s0 H0 fp).h _ _ _ i.2) (λC s0 H0 fp=>PIf.any λi:{q:En×Bool//t q.1=some q.2}=>(ht C s0 H0 fp).h _ _ i.2)
    (λC s0 H0 fp D0=>zgN (PE.any λi:{q:En×D//fk q.1=some q.2}=>(hkx C s0 H0 fp).h _ _ i.2) (PE.any λi:{q:En×D//fv q.1=some q.2}=>(hv C s0 H0 fp).h _ _ i.2) D0) S hs rfl (λ_=>rfl) hsw hf) λD σ H ⟨F,r,q⟩=>?_
   refine⟨F,r,λJ F1 H1 g1 ok=>zpd e2 hz r (λv F2 H2 g2 ⟨a,ev,h1,h2,h3⟩=>?_) g1 ok⟩;subst ev;have s1:=g2.step (ρ:=ρ) (σ:=σ);refine q _ F2 H2 (r.setO g2 h1 h2 h3 (zgO nb)) ⟨s1.ff,s1.rest,λb z=>?_,zhO (λd h=>by cases h),s1.fh⟩;rcases zeb z with⟨_,_,_,z⟩|z
   ·cases z;exact .inl h1
   ·exact .inr z
 ·cases hm
end
end FL
namespace HT
open PySem.Calls
end HT
namespace L2
end L2
namespace FL
open L2
noncomputable def znX(i:Nat)(fk:EO D)(m:EO (D×En)):EO Fl:=λρ=>(m ρ).bind λq=>zlB i fk (λ_=>some q.1) q.2
section
variable{K:Fg}{X:Cx}{pos:Pos}
def zrO{md:Md}(i:Nat){x:Str}{p p2:Pos}{ke e:Expr}{fk:EO D}{m:EO (D×En)}(hu:X.A.units+100<cLine)(he:FX K X e m)(hk:FP K .fz X ke fk)(hN:B0 (X.N[i]?=some x))(hv:K0 (Vis X.env.scope x))(hd:C0 (Y0 2))(hcd:C0 (Y0 4))(H1:∀{to ti:TE}{t:TSet},PE X (.Name x p) to->PE X ke ti->PSet X t->PG X (.Subscript (.Name x p) ke p2) (gSub to ti t):=by exact λa b c=>zpC a b c)(hs:B0 (swapsWithSole [.Subscript (.Name x p) ke p2] e pos.line X.env=pure false))(hw:B0 (swappedStores [.Subscript (.Name x p) ke p2] e X.env=pure none))(h1:B0 ((assignEach [.Subscript (.Name x p) ke p2] X.env).map (·.2)=[assign (.Subscript (.Name x p) ke p2) X.env]))(hK:B0 (X.K=K)):
  FS K md X (.Assign [.Subscript (.Name x p) ke p2] e pos) (znX i fk m):=FS.mk λρ0 fl hf=>by
 subst hK;unfold znX at hf;cases e0:m ρ0 with
 |none=>rw[e0]at hf;cases hf
 |some q0=>
 let⟨d,ρ⟩:=q0;rw[e0]at hf;simp only[Option.bind_some]at hf;unfold zlB at hf;split at hf
 ·rename_i pp ks ds d' k e1 e2 e3;cases e2
  let⟨⟨hk1,hk2⟩,hf⟩:=kF hf;cases hf
  cases e4:fk ρ with
  |none=>rw[e4]at e3;cases e3
  |some y=>
   rw[e4]at e3;refine PS.imp (ziV (he.h ρ0 d ρ e0) (H1 (xQ hN hv hd hcd) (hk.h ρ y e4) (znN (by lia))) hs hw h1) λD σ H h_=>?_
   let⟨F,r,q⟩:=h_;refine⟨F,r,λv F1 H1 rl1 s1 r1=>?_⟩;let⟨a,h1,h2,h3⟩:=rl1.own i pp _ e1;refine⟨_,h1,F1,rl1,λu F2 H2 g2 r2=>?_⟩;have rg:=rl1.grow g2;let⟨a',h1',h2',vs,h3',h4'⟩:=rg.own i pp _ e1;rw[h1]at h1';cases h1'
   let⟨p5,g3,rfl,rfl⟩:=zgb h3' (zgW hk1);have ev:=wO e3 r2;subst ev;have hl:p5.length<sizeLine:=by
    have:(kds p5).length=p5.length:=by simp[kds]
    exact wM (by lia)
   let⟨m0,m00⟩:=zfK k (Dat.mono g2.ff r1) p5 ds h4';refine⟨a,_,rfl,DPut.k g3 hl,?_⟩;let⟨m1,m2⟩:=rg.mut (i:=i) (d':=.dic (jV (kds p5) ds (kdK k) d).1 (jV (kds p5) ds (kdK k) d).2) e1 h1 ⟨_,.inl ⟨qL p5 k v,qG,m0,rfl⟩,m00⟩;exact q σ _ _ m1 ((s1.trans g2.step r.sub).trans m2 r.sub)
 ·cases hf
end
end FL
namespace L2
section
variable{X:Cx}
theorem znk(hc:X.calm=true):kM X (.builtin "all") (λxs H Q=>∃(p:Addr) (bs:U Bool),xs=[.ref p]/\SqL X.K H p (bs.map V.bl)/\Q (.bl (bs.all id)) H):=by
 intro p4 s σ H xs us Q I r h;let⟨p,bs,rfl,hq,q⟩:=h;let⟨u,rfl,rx⟩:=vF r;cases rx
 let⟨p6,r',pl,_⟩:=I.list hq;have hh:=I.ok.hd hc;let⟨ol,hol,_⟩:=id pl.isList;have hll:=Jb hol;have hlen:p6.toArray.size=bs.length:=by grind [zN.length]
 have hlI:=Jo hll;have W:=Walks.list (prog:=X.prog) (w:=X.w) (A:=X.A.in1) hh s.heap.objs.size p hlI p6.toArray;rw[hlen]at W;refine call_all_walk (Ws pl.isList ⟨s.heap.objs.size,_,_,bs.length,_,_,λi=>(bs[i]?).getD true,rfl,W,⟨⟨_,Heap.get?_push_size _ rfl,rfl,rfl⟩,pl.isList.at λo e=>Heap.get?_push_of_some _ e⟩,λi v s Q E hP hQ=>?_,λh' tk hk=>?_⟩)
 ·have hv:p6[i]?=some v:=by simpa using hP
  have hi:i<bs.length:=by grind
  let⟨u,e1,r1⟩:=r'.get (i:=i) (x:=.bl bs[i]) (by simp[hi]);rw[hv]at e1;cases e1
  have r1:v=.bool bs[i]:=r1;subst r1;have hQ:Q ((bs[i]?).getD true) s:=hQ;rw[List.getElem?_eq_getElem hi]at hQ;exact QJ hQ
 ·refine⟨.bl (bs.all id),H,I.kept (λb o e=>hk b o (by
   have:=Jb e
   grind) (Heap.get?_push_of_some _ e)),?_,q⟩
  congr 1
  rw[Wn,JU,JU];constructor
  ·intro h x hx;let⟨i,hi,rfl⟩:=List.getElem_of_mem hx;simp_all
  ·intro h i hi;have hi:=List.mem_range.mp hi;simpa[hi]using h _ (Qh hi)
end
end L2
namespace FL
open L2
noncomputable def wD:U D->Option (U Bool)
 |[]=>some []
 | .bl b::l=>(wD l).map (b::·)
 |_::_=>none
def zfw:∀{l:U D}{ns:U Bool},wD l=some ns->l=ns.map D.bl:=by
 intro l;induction l with
 |nil=>simp[wD]
 |cons d l ih=>
  intro ns h;cases d<;>simp only[wD]at h<;>try(cases h;done)
  cases e:wD l with
  |none=>rw[e]at h;cases h
  |some ms=>rw[e]at h;cases h;rw[ih e];rfl
theorem zcr:∀(ns:U Bool),wD (ns.map D.bl)=some ns
 |[]=>rfl
 |b::l=>by rw[Jd,wD,zcr l];rfl
noncomputable def gU:LO
 |[.lst l]=>(wD l).map λbs=>.bl (bs.all id)
 |_=>none
section
variable{K:Fg}{F H:Hp}{X:Cx}
theorem zD.bls:∀{bs:U Bool}{vs:U V},zD K F (bs.map D.bl) vs->vs=bs.map V.bl
 |[],vs,h=>h.nil_inv
 |b::l,vs,h=>by
  let⟨v,r,e,h1,h2⟩:=h.cons_inv
  have:=Dat.bl_inv (K:=K) (F:=F) h1;rw[e,this,zD.bls h2];rfl
def ztL(hc:X.calm=true)(hK:B0 (X.K=K)):vE K X (.builtin "all") .fz gU:=by
 refine⟨_,znk hc,λds d F H vs Q e s h k=>?_⟩;unfold gU at e;split at e
 ·rename_i l;cases e1:wD l with
  |none=>rw[e1]at e;cases e
  |some bs=>
   rw[e1]at e;cases e
   let⟨v,rfl,h1⟩:=h.one;rw[zfw e1]at h1;let⟨a,vs,rfl,f,q⟩:=h1.lst_inv;rw[q.bls]at f;exact⟨a,bs,rfl,SqL.of f,k _ F H (zG.refl s) (Res.bl _)⟩
 ·cases e
end
end FL
namespace L2
section
variable{X:Cx}{tg zO tg2 iter2 elt:Expr}{scope:Scope}{pos:Pos}{wi:TI}{g2:TG}{te:TE}
noncomputable abbrev lc2(elt tg zO tg2 iter2:Expr)(scope:Scope)(pos:Pos):Expr:=.ListComp elt [⟨tg,zO,[],0⟩,⟨tg2,iter2,[],0⟩] scope pos
noncomputable def actN(e iter2:Expr):Value->Env->Sem Unit:=λp7 env=>do
 let x ←eval iter2 env
 standAt iter2.pos
 let x ←foldedSetIterable iter2 env x;let _ ←runOwn (.compStart e 1 (←holding [x] (pyIter x)) p7 env) env
def zrp:zaG X (lc2 elt tg zO tg2 iter2 scope pos) tg zO [] (newList []) (actN (lc2 elt tg zO tg2 iter2 scope pos) iter2) (.lst [])where
 new:=λp4 σ H s Q E I h=>JE (h _ (I.lnew .nil (Jz _)))
 turn:=λit D env=>by simp only[actN,bind_assoc,pure_bind];rfl
 loop:=λA it D env Q E s h=>h
 start:=λh0 h=>codeAny_compStart_list h0 h
def ztT(it p7:Value)(env:Env):
  compTurn (lc2 elt tg zO tg2 iter2 scope pos) 1 it p7 env=(standAt iter2.pos>>=λ_=>pyNext it>>=λr=>match r with
   |none=>pure (.done .next)
   |some v=>letOwnedTupleGo tg2 it v>>=λ_=>assign tg2 env v>>=λ_=>
    (eval elt env>>=λx=>call (.builtin "list.append") [p7,x]>>=λ_=>pure ())>>=λ_=>
     again (.compLoop (lc2 elt tg zO tg2 iter2 scope pos) 1 it p7 env)):=by rfl
def zrK{prog:Program}{w:World}{A:Around}{R:Result->Shared->Prop}{s:Shared}{it p7:Value}{env:Env}(h0:codeAny (model prog w) A (.compLoop (lc2 elt tg zO tg2 iter2 scope pos) 1 it p7 env) R s)(h:wpAny (model prog w) A (pyIter it) (λit' s'=>codeAny (model prog w) A (.compLoop (lc2 elt tg zO tg2 iter2 scope pos) 1 it' p7 env) R s')
   (notedBy (model prog w) A env λx s'=>R (.error x) s') s):
  codeAny (model prog w) A (.compStart (lc2 elt tg zO tg2 iter2 scope pos) 1 it p7 env) R s:=by
 refine codeAny_of_tree ?_;refine wpAny_notedAt ?_;refine wpAny_bind (Wd (wpAny_ite ?_));split
 ·first
   |exact wpAny_bind (Ja (Ja (And.intro rfl h0)))
   |exact Ja (And.intro rfl h0)
 ·first
   |exact wpAny_bind (JH (wpAny_bind (Qy (wpAny_bind (JQ h (λit' s' h'=>Ja (And.intro rfl h')) λ_ _ x=>x)))))
   |(show wpAny _ _ (standAt iter2.pos>>=_) _ _ s)
def taN(wi:TI)(g2:TG)(te:TE)(D:Addr):wE:=λσ H Q=>wi σ H λJ H1=>∃W:Nat->Nat->St->Hp->Prop,(∃m,W 0 m σ H1)/\∀i m σ' H',W i m σ' H'->
 ((J.stop i H'/\Q H')\/(J.go i H'/\∀x H'',J.yld i H' x H''->g2 x σ' H'' λσ2 H2=>taL te D σ2 H2 λH4=>∃m',m'<m/\W (i+1) m' σ2 H4))
def zpm{Y:Cx}(he:PE Y elt te)(D:Addr)(p4:AO)(s:Shared)(σ:St)(H:Hp)(Q:Hp->Prop)(I:Inv Y p4 σ H s)(h:taL te D σ H Q):
  wpAny (model Y.prog Y.w) Y.A (eval elt Y.env>>=λx=>call (.builtin "list.append") [.ref D,x]>>=λ_=>pure ()) (λ_ s'=>∃H',Inv Y p4 σ H' s'/\Q H') Y.xe s:=by
 refine wpAny_bind (thn (he p4 s σ H _ I h) λv s9 ⟨v9,H9,I9,r9,p7,hD9,hlen,q9⟩=>?_);refine wpAny_bind (thn (zcb (X:=Y) _ s9 σ H9 (.ref D) [v9] (.ref D) [v] (λz Hz=>z=.non/\Hz=upd H9 D (.lst (p7++[v9]))) I9 rfl (.cons r9 .nil) ⟨D,p7,v9,rfl,rfl,hD9,hlen,rfl,rfl⟩) λ_ s10 h10=>?_);let⟨_,H10,I10,_,_,e10⟩:=h10;subst e10;exact Ja ⟨_,I10,q9⟩
def zlP{Y:Cx}(hxe:∀e s,¬Y.xe e s)(hc:Y.calm=true)(hi:PI Y tg2 iter2 wi)(hg:PG Y tg2 g2)(he:PE Y elt te)(hs:∀x,foldedSetIterable iter2 Y.env x=pure x)(D:Addr):
  gW Y (actN (lc2 elt tg zO tg2 iter2 scope pos) iter2) D (taN wi g2 te D):=by
 intro p4 s σ H Q I h;refine wpAny_bind (thn (hi p4 s σ H _ I h) λv s1 h1=>?_);refine wpAny_bind (Qy ?_);rw[hs];refine wpAny_bind (Ja ?_);refine wpAny_bind (Jk (thn h1 λitv s2 h2=>?_));let⟨it,fp,tn,J,H2,e,I2,T,st2,f2,W,⟨m0,w0⟩,turn⟩:=h2;subst e;refine wpAny_bind (wpAny_runOwn ?_);have stat:∀{H':Hp},(∀b∈fp,H' b=none)->∀b∈fp,kS Y p4 H' b:=λhn b hb=>⟨hn b hb,(f2 b hb).2⟩
 have lp:∀{R:Result->Shared->Prop},(∀σ' H' s',Inv Y p4 σ' H' s'->Q H'->R (.ok .next) s')->codeAny (model Y.prog Y.w) Y.A (.compLoop (lc2 elt tg zO tg2 iter2 scope pos) 1 (.ref it) (.ref D) Y.env) R s2:=by
  intro R hR;refine codeAny_loop rfl (λn s'=>∃i σ' H',Inv Y p4 σ' H' s'/\tn i s'.heap/\(∀b∈fp,H' b=none)/\W i n σ' H') ?_ m0 ⟨0,σ,H2,I2,st2,λb hb=>(f2 b hb).1,w0⟩;rintro n s3 ⟨i,σ3,H3,I3,st3,fr3,w3⟩;refine wpAny_noted ?_;rw[ztT];refine wpAny_bind (Qy (wpAny_bind ?_));rcases turn i n σ3 H3 w3 with⟨stop,qn⟩|⟨go,step⟩
  ·refine JQ (T.done Y rfl rfl rfl hc i p4 s3 σ3 H3 Y.xe I3 (stat fr3) st3 stop) (λr s4 h4=>?_) λe s' z=>absurd z (hxe e s')
   let⟨hr,I4⟩:=h4;subst hr;exact Ja (hR σ3 H3 s4 I4 qn)
  ·refine JQ (T.item Y rfl rfl rfl hc i p4 s3 σ3 H3 Y.xe I3 (stat fr3) st3 go) (λr s4 h4=>?_) λe s' z=>absurd z (hxe e s')
   let⟨u,hr,h4⟩:=h4;subst hr;refine wpAny_bind (JQ h4 (λ_ s5 h5=>?_) λe s' z=>absurd z (hxe e s'));let⟨x,H5,I5,r5,y5,st5,fr5⟩:=h5;have I5':=I5.pinned (stat fr5) (T.obj _ _ st5);refine wpAny_bind (JQ (hg _ s5 σ3 H5 x u _ I5' r5 (step x H5 y5)) (λ_ s6 h6=>?_) λe s' z=>absurd z (hxe e s'));let⟨σ6,H6,I6,q6⟩:=h6;refine wpAny_bind (JQ (zpm he D _ s6 σ6 H6 _ I6 q6) (λ_ s7 h7=>?_) λe s' z=>absurd z (hxe e s'));let⟨H7,I7,m',hm,w7⟩:=h7;refine Ja ⟨rfl,m',hm,i+1,σ6,H7,I7.unpinned,T.keep _ _ _ st5 λb hb o e=>(I7.pin (b,o) (Jj _ (Jj _ (zar hb e)))).1,λb hb=>?_,w7⟩;let⟨o,e,d⟩:=T.obj _ _ st5 b hb;exact(I7.pin (b,o) (Jj _ (Jj _ (zar hb e)))).2.1
 have fin:∀σ' H' s',Inv Y p4 σ' H' s'->Q H'->wpAny (model Y.prog Y.w) Y.A (pure ()) (λ_ s'=>∃σ' H',Inv Y p4 σ' H' s'/\Q H') Y.xe s':=λσ' H' s' I' q'=>Ja ⟨σ',H',I',q'⟩
 exact zrK (lp fin) (T.self Y.A 0 _ _ _ st2 (lp fin))
variable{p4:AO}{σ:St}{N:U Str}{cap:ON}{ifs:U Expr}{g:TG}{tt:TT}
def zlM{e:Expr}{newAcc:Sem Value}{act:Value->Env->Sem Unit}{ho:HO}{ta:Addr->wE}{wi:TI}{gs:U Comprehension}(ck:zaG X e tg zO ifs newAcc act ho)(N:U Str)(cap:ON)(cp:Cap X scope N cap)(hc:X.calm=true)(hi:PI X tg zO wi)(hg:∀C s0 H0 fp,PG (Y0 0) tg g)(ht:∀C s0 H0 fp,PIf (Y0 0) ifs tt)(he:∀C s0 H0 fp D,gW (Y0 0) act D (ta D))(S:kH X scope)(hs:∀x,foldedSetIterable zO X.env x=pure x)(hcl:clausesOf e=⟨tg,zO,ifs,0⟩::gs){p:Pos}(hev:eval e X.env=comprehension e scope X.env p newAcc false (eval zO X.env)):
  PE X e (ziK wi g tt ta ho cap):=by
 intro p4 s σ H Q I h;rw[hev];refine wpAny_comprehension_free hcl hs (zcP (S.cellsOf I.ok)) S.kind S.names (thn (hi p4 s σ H _ I h) λv s1 h1=>thn h1 λitv s2 h2=>?_);let⟨it,fp,tn,J,H2,e,I2,T,st2,f2,hw⟩:=h2;subst e;refine zez ck hc S cp hg ht he I2 T st2 f2 hw ?_;intro D C H' s' m' I' ns fC c1 c2 c3 c4 q;exact⟨m',ns,λh' hs'=>⟨.ref D,H',I'.turned (λb o hb e=>(hs'.2 b hb).trans e) fC c1 (.inr c2) c3 c4,rfl,q⟩⟩
end
end L2
namespace FL
open L2
noncomputable def gM(ρ:En):Bool:=ρ.all λs=>match s with
 |none=>true
 |some (.dat _)=>true
 |_=>false
variable{ρ:En}
def zge(h:gM ρ=true){i:Nat}{s:Sl}(e:ρ[i]?=some (some s)):∃d,s=.dat d:=by
 have:=JU.mp h _ (List.mem_of_getElem? e);cases s with
 |dat d=>exact⟨d,rfl⟩
 |ow p d=>cases this
 |bor d=>cases this
variable{F H:Hp}{σ:St}
def Rel.dats{K:Fg}{F' H':Hp}(r:Rel K F H ρ σ)(h:gM ρ=true)(f:zJ F F')(g:zJ F' H'):Rel K F' H' ρ σ:=by
 refine⟨g,λi d e=>?_,λi d e=>?_,λi p d e=>?_,λi j p d s a ne e1=>?_,r.len⟩
 ·let⟨v,h1,h2⟩:=r.dat i d e;exact⟨v,h1,h2.mono f⟩
 ·let⟨d',z⟩:=zge h e;cases z
 ·let⟨d',z⟩:=zge h e;cases z
 ·let⟨d',z⟩:=zge h e1;cases z
noncomputable def innM(g2:D->EO En)(f:EO D):U D->EO (U D)
 |[],_=>some []
 |y::ys,ρ=>(g2 y ρ).bind λρ'=>if gM ρ'=true then(f ρ').bind λd=>(innM g2 f ys ρ').map λl=>d::l else none
noncomputable def wK(g:D->EO En)(fi2:EO (U D))(g2:D->EO En)(f:EO D)(ρi:En):U D->Option (U D)
 |[]=>some []
 |x::xs=>(g x ρi).bind λρ1=>if gM ρ1=true then(fi2 ρ1).bind λys=>(innM g2 f ys ρ1).bind λl=>(wK g fi2 g2 f ρi xs).map λr=>l++r else none
noncomputable def zhn(cap:ON)(fi:EO (U D))(g:D->EO En)(fi2:EO (U D))(g2:D->EO En)(f:EO D):EO D:=λρ=>(fi ρ).bind λds=>(wK g fi2 g2 f (jC cap ρ) ds).bind λrs=>if rs.length<=lim then some (.lst rs)else none
variable{cap:ON}{fi fi2:EO (U D)}{g g2:D->EO En}{f:EO D}
def zir{d:D}(h:zhn cap fi g fi2 g2 f ρ=some d):∃ds rs,fi ρ=some ds/\wK g fi2 g2 f (jC cap ρ) ds=some rs/\rs.length<=lim/\d=.lst rs:=by
 unfold zhn at h;cases e1:fi ρ with
 |none=>rw[e1]at h;cases h
 |some ds=>
  rw[e1]at h;simp only[Option.bind_some]at h;cases e2:wK g fi2 g2 f (jC cap ρ) ds with
  |none=>rw[e2]at h;cases h
  |some rs=>
   rw[e2]at h;simp only[Option.bind_some]at h;let⟨hz,rfl⟩:=kF h;exact⟨ds,rs,rfl,e2,hz,rfl⟩
def PI.any{X:Cx}{tg zO:Expr}{ι:Type}{t:ι->TI}(h:∀i,PI X tg zO (t i)):PI X tg zO (λσ H R=>∃i,t i σ H R):=λp4 s σ H R I ⟨i,ht⟩=>h i p4 s σ H R I ht
variable{rs:U D}
section
variable{K:Fg}{md:Md}{X:Cx}{pos:Pos}{tg zO tg2 iter2 elt:Expr}{scope:Scope}
abbrev anyG(K:Fg)(g:D->EO En):TG:=λv σ H Q=>∃i:{q:En×D×En//g q.2.1 q.1=some q.2.2},rdG K i.1.1 i.1.2.1 i.1.2.2 v σ H Q
abbrev anyE(K:Fg)(f:EO D):TE:=λσ H Q=>∃i:{q:En×D//f q.1=some q.2},rdE K .fz i.1.1 i.1.2 σ H Q
abbrev anyI(K:Fg)(f:EO (U D)):TI:=λσ H R=>∃i:{q:En×U D//f q.1=some q.2},rdI K i.1.1 i.1.2 σ H R
def ztk{ρ1:En}{ys l done rest:U D}{a:Addr}{p7:U V}{Q:Hp->Prop}(hi:fi2 ρ1=some ys)(hm:innM g2 f ys ρ1=some l)(r:Rel K F H ρ1 σ)(hd:gM ρ1=true)(fa:F a=none)(ha:H a=some (.lst p7))(da:zD K F done p7)(hrs:rs=done++(l++rest))(hz:rs.length<=lim)(q:∀F' H' acc',zJ F F'->(∀b o,b≠a->H b=some o->H' b=some o)->zJ F' H'->(∀b o,H b=some o->F b=none->F' b=none)->F' a=none->H' a=some (.lst acc')->zD K F' (done++l) acc'->Q H'):
  taN (anyI K fi2) (anyG K g2) (anyE K f) a σ H Q:=by
 refine⟨⟨(ρ1,ys),hi⟩,F,r,λJ F1 H1 g1 ok=>?_⟩;refine⟨λi m σ' H'=>i<=ys.length/\m=ys.length - i/\∃F' ρ' acc' dn left,Rel K F' H' ρ' σ'/\gM ρ'=true/\zJ F1 F'/\(∀b o,b≠a->H1 b=some o->H' b=some o)/\(∀b o,H1 b=some o->F1 b=none->F' b=none)/\F' a=none/\H' a=some (.lst acc')/\zD K F' (done++dn) acc'/\innM g2 f (ys.drop i) ρ'=some left/\l=dn++left,
  ⟨ys.length,Jz _,rfl,F1,ρ1,p7,[],l,r.grow g1,hd,zJ.refl _,λb o _ e=>e,λb o _ e=>e,g1.nw a _ ha fa,g1.hh _ _ ha,by rw[JL];exact da.mono g1.ff,by rw[List.drop_zero];exact hm,rfl⟩,?_⟩
 rintro i m σ' H' ⟨hi',rfl,F',ρ',acc',dn,left,r',hd',ff,hh,nw,fa',ha',da',e1,e2⟩;let⟨o1,o2,o3⟩:=ok F' H' ff r'.sub;by_cases hlt:i<ys.length
 ·refine .inr ⟨o1 i hlt,λx H3 y=>?_⟩;let⟨F3,g3,d3⟩:=o2 i x H3 _ (List.getElem?_eq_getElem hlt) y;rw[Jy hlt]at e1;simp only[innM]at e1;let⟨ρ2,e3,e1⟩:=Jg.mp e1;obtain⟨hd2,e1⟩:gM ρ2=true/\_:=by
   split at e1
   ·rename_i hz;exact⟨hz,e1⟩
   ·cases e1
  refine⟨⟨(ρ',ys[i],ρ2),e3⟩,F3,r'.grow g3,d3,λσ2 r2 _=>?_⟩;let⟨d,e5,e1⟩:=Jg.mp e1;cases e6:innM g2 f (ys.drop (i+1)) ρ2 with
  |none=>rw[e6]at e1;cases e1
  |some l2=>
   rw[e6]at e1;cases e1
   refine⟨⟨(ρ2,d),e5⟩,F3,r2,λv F5 H5 g5 d5=>?_⟩;have ha3:=g3.hh _ _ ha';have fa3:=g3.nw a _ ha' fa';have ha5:=g5.hh _ _ ha3;have fa5:=g5.nw a _ ha3 fa3;have al:acc'.length<lim:=by grind [zD.length]
   have sub5:zJ F5 (upd H5 a (.lst (acc'++[v]))):=λb o e=>by rw[zT (jI e fa5)];exact g5.fh _ _ e
   refine⟨acc',ha5,wM (Qi al),ys.length - (i+1),by lia,hlt,rfl,F5,ρ2,acc'++[v],dn++[d],l2,r2.dats hd2 g5.ff sub5,hd2,ff.trans (g3.ff.trans g5.ff),λb o ne e=>?_,λb o e n=>?_,fa5,qG,?_,e6,by rw[e2];simp⟩
   ·rw[zT ne];exact g5.hh _ _ (g3.hh _ _ (hh b o ne e))
   ·by_cases hb:b=a
    ·rw[hb];exact fa5
    ·exact g5.nw b o (g3.hh _ _ (hh b o hb e)) (g3.nw b o (hh b o hb e) (nw b o e n))
   ·rw[←Jx];exact(da'.mono (g3.ff.trans g5.ff)).snoc d5
 ·have e:i=ys.length:=by(simp at*;lia)
  subst e;rw[QA]at e1;have e1:some []=some left:=e1;cases e1
  rw[JL]at e2;subst e2;refine .inl ⟨o3,q F' H' acc' (g1.ff.trans ff) (λb o ne e=>hh b o ne (g1.hh _ _ e)) r'.sub (λb o e n=>nw b o (g1.hh _ _ e) (g1.nw b o e n)) fa' ha' da'⟩
def zpe{ds:U D}{Q:VK}(hm:wK g fi2 g2 f (jC cap ρ) ds=some rs)(hz:rs.length<=lim)(r:Rel K F H ρ σ)(q:∀v F' H',zG F H F' H'->Res K .ow H F' H' (.lst rs) v->Q v H'){J:It}{F1 H1:Hp}(g1:zG F H F1 H1)(ok:gX K J F1 ds):
  zdF J (anyG K g) (λσ H Q=>∃i:{q:En×Bool//jB q.1=some q.2},rdTp K i.1.1 i.1.2 σ H Q) (taN (anyI K fi2) (anyG K g2) (anyE K f)) (.lst []) cap σ H1 Q:=by
 intro a ha;refine⟨λi m H2=>i<=ds.length/\m=ds.length - i/\∃F2 p7 done left,zG F H F2 H2/\zJ F1 F2/\(∀b o,H1 b=some o->H2 b=some o)/\F2 a=none/\H2 a=some (.lst p7)/\zD K F2 done p7/\wK g fi2 g2 f (jC cap ρ) (ds.drop i)=some left/\rs=done++left,
  ⟨ds.length,Jz _,rfl,F1,[],[],rs,⟨g1.ff,g1.hh.trans (yJ ha _),g1.fh.trans (yJ ha _),g1.nw⟩,zJ.refl _,λb o e=>yJ ha _ _ _ e,g1.fh.free ha,qG,zD.nil,by trivial,rfl⟩,?_⟩
 rintro i m H2 ⟨hi,rfl,F2,p7,done,left,gg,ff,hh,fa,hd,da,e1,e2⟩;let⟨o1,o2,o3⟩:=ok F2 H2 ff gg.fh;have haH:=g1.hh.free ha;by_cases hlt:i<ds.length
 ·refine .inr ⟨o1 i hlt,λx H3 y=>?_⟩;let⟨F3,g3,d3⟩:=o2 i x H3 _ (List.getElem?_eq_getElem hlt) y;rw[Jy hlt]at e1;simp only[wK]at e1;have g23:=gg.trans g3;have hd3:=g3.hh _ _ hd;have fa3:=g3.nw a _ hd fa;let⟨ρ1,e3,e1⟩:=Jg.mp e1;obtain⟨hd1,e1⟩:gM ρ1=true/\_:=by
   split at e1
   ·rename_i hz;exact⟨hz,e1⟩
   ·cases e1
  refine⟨⟨(jC cap ρ,ds[i],ρ1),e3⟩,F3,(r.grow g23).inner,d3,λσ2 r2 _=>?_⟩;refine⟨⟨(ρ1,true),rfl⟩,F3,r2,λF4 H4 g4=>wP ?_⟩;let⟨ys,e4,e1⟩:=Jg.mp e1;let⟨l,e5,e1⟩:=Jg.mp e1;cases e6:wK g fi2 g2 f (jC cap ρ) (ds.drop (i+1))with
  |none=>rw[e6]at e1;cases e1
  |some rest=>
   rw[e6]at e1;cases e1
   have g24:=g23.trans g4;refine ztk e4 e5 (r2.grow g4) hd1 (g4.nw a _ hd3 fa3) (g4.hh _ _ hd3) (da.mono (g3.ff.trans g4.ff)) e2 hz λF5 H5 acc5 f5 h5 s5 n5 fa5 ha5 da5=>?_
   refine⟨ds.length - (i+1),by lia,hlt,rfl,F5,acc5,done++l,rest,⟨g24.ff.trans f5,λb o e=>?_,s5,λb o e n=>?_⟩,ff.trans (g3.ff.trans (g4.ff.trans f5)),λb o e=>?_,fa5,ha5,da5,e6,by rw[e2];simp⟩
   ·exact h5 b o (jI e haH) (g24.hh _ _ e)
   ·exact n5 b o (g24.hh _ _ e) (g24.nw b o e n)
   ·exact h5 b o (jI e ha) (g4.hh _ _ (g3.hh _ _ (hh b o e)))
 ·have e:i=ds.length:=by(simp at*;lia)
  subst e;rw[QA]at e1;cases e1
  rw[JL]at e2;subst e2;exact .inl ⟨o3,q _ F2 H2 gg ⟨a,rfl,haH,fa,p7,hd,da⟩⟩
def ztu(N:U Str)(cap:ON)(cp:Cap X scope N cap)(hc:X.calm=true)(hi:FI K X tg zO fi)(hg:∀C s0 H0 fp,FG K (Y0 0) tg g)(hi2:∀C s0 H0 fp,FI K (Y0 0) tg2 iter2 fi2)(hg2:∀C s0 H0 fp,FG K (Y0 0) tg2 g2)(he:∀C s0 H0 fp,FP K .fz (Y0 0) elt f)(S:kH X scope:=by exact kH.mk')(hs:G0 (∀x,foldedSetIterable zO X.env x=pure x))(hs2:∀C s0 H0 fp x,foldedSetIterable iter2 (Y0 0).env x=pure x:=by intro _ _ _ _ _;rfl)(hK:B0 (X.K=K)):
  FP K .ow X (lc2 elt tg zO tg2 iter2 scope pos) (zhn cap fi g fi2 g2 f):=FP.mk λρ d hf=>by
 subst hK;let⟨ds,rs,e1,e2,hz,rfl⟩:=zir hf;refine PE.imp (zlM (zrp) N cap cp hc (hi.h ρ ds e1) (λC s0 H0 fp=>PG.any λi:{q:En×D×En//g q.2.1 q.1=some q.2.2}=>(hg C s0 H0 fp).h _ _ _ i.2) (λC s0 H0 fp=>PIf.any λi:{q:En×Bool//jB q.1=some q.2}=>(xW (K:=X.K)).h _ _ i.2)
  (λC s0 H0 fp A=>zlP (Y:=qQ X N scope (qC X.env scope.names []) C s0 H0 fp) (λe s z=>z) hc (PI.any λi:{q:En×U D//fi2 q.1=some q.2}=>(hi2 C s0 H0 fp).h _ _ i.2) (PG.any λi:{q:En×D×En//g2 q.2.1 q.1=some q.2.2}=>(hg2 C s0 H0 fp).h _ _ _ i.2) (PE.any λi:{q:En×D//f q.1=some q.2}=>(he C s0 H0 fp).h _ _ i.2) (hs2 C s0 H0 fp) A) S hs rfl (eval_ListComp ..)) λσ H Q ⟨F,r,q⟩=>?_
 exact⟨F,r,λJ F1 H1 g1 ok=>zpe e2 hz r q g1 ok⟩
end
end FL
namespace L2
variable{elts:U Expr}{tpos:Pos}
section
variable{X:Cx}
def ItEl(K:Fg)(a:Addr):It:=
 ⟨λi H=>∃xs x,SqL K H a xs/\xs[i]?=some x,λi H x H'=>∃p v,H p=none/\x=.ref p/\H'=upd H p (.tup [.int i,v])/\∀xs,SqL K H a xs->xs[i]?=some v,λi H=>∃xs,SqL K H a xs/\xs.length=i⟩
theorem zjM{P:Program}{w:World}{K:Fg}{k:Nat}(a e it:Addr)(hei:e≠it):gD P w K (.Tuple elts k tpos) (ItEl K a) [e,it] e (λi h=>(∃old,IsEnum h e it i old)/\h.IsListIter it a i)where
 mem:=by simp
 obj:=λi h st b hb=>by
  let⟨⟨old,he⟩,o,e2,c,d⟩:=st;rcases JJ.mp hb with rfl|hb
  ·exact⟨_,he,λv z=>by cases(show Data.fields _=Data.cell v from z)⟩
  ·rw[Je.mp hb];exact⟨o,e2,λv z=>by rw[d]at z;cases z⟩
 keep:=λi h h' st k=>⟨let⟨old,he⟩:=st.1;⟨old,k e (by simp) _ he⟩,st.2.at λo e=>k it (by simp) o e⟩
 item:=by
  intro X hP hw hK hc i p4 s σ H E I hf st hg;subst hP hw hK;let⟨xs,x,hq,hx⟩:=hg;let⟨p6,rv,p,hz⟩:=I.list hq
  replace p:=p.isList
  let⟨u,hu,ru⟩:=rv.get hx;let⟨⟨old,he⟩,hit⟩:=st;have fe:=hf e (by simp);have fi:=hf it (by simp);have hai:a≠it:=by
   rintro rfl;let⟨o,e1,c1,_⟩:=id hit;let⟨o',e2,c2,_⟩:=id p;rw[e1]at e2;cases e2;rw[c1]at c2
   exact absurd c2 (by decide)
  have hae:a≠e:=by rintro rfl;let⟨o',e2,c2,_⟩:=id p;grind
  have hilt:i<p6.toArray.size:=by have:=(List.getElem?_eq_some_iff.mp hu).1;simpa using this
  refine wpAny_pyNext_enum_itemD (Draws.list (A:=X.A.in1) (I.ok.hd hc) it a hai p6.toArray) he ⟨hit,p⟩ hilt hei (by simp[hei,Ne.symm hae]) λx' h' tk hP ho hs' hT hsz hk=>?_
  have ex:x'=u:=by
   have:p6[i]?=some x':=by simpa using hP
   rw[hu]at this;exact(Option.some.inj this).symm
  subst ex;refine⟨_,rfl,?_⟩;refine wpAny_letOwnedTupleGo_enum ho λh2 he2 hs2=>?_
  have hTe:s.heap.objs.size≠e:=Qv (Jb he);have hTn:h2.get? s.heap.objs.size=some {cls:=.type "tuple",data:=.seq #[.int i tk,x']}:=(hs2.2 _ hTe).trans hT;have kk:∀b o,b≠e->b≠it->s.heap.get? b=some o->h2.get? b=some o:=λb o h1 h3 e=>(hs2.2 b h1).trans (hk b o h1 h3 e)
  have hit2:h2.IsListIter it a (i+1):=hs'.1.at λo e=>(hs2.2 it (Ne.symm hei)).trans e
  have fr:H s.heap.objs.size=none:=I.fresh;have I1:=zjx (i:=i) I fe fi ru hTn kk;refine⟨.ref s.heap.objs.size,_,I1,rfl,⟨s.heap.objs.size,x,fr,rfl,rfl,λys hy=>by rw[I.list_inj hy hq];exact hx⟩,⟨⟨x',by simpa using he2⟩,hit2⟩,λb hb=>?_⟩;have hbl:b≠s.heap.objs.size:=by
   rcases JJ.mp hb with rfl|hb
   ·exact Ne.symm hTe
   ·rw[Je.mp hb];let⟨o,e1,_⟩:=hit;exact Jo (Jb e1)
  rw[zT hbl];exact(hf b hb).1
 done:=by
  intro X hP hw hK hc i p4 s σ H E I hf st hg;subst hP hw hK;let⟨xs,hq,hx⟩:=hg;let⟨p6,rv,p,hz⟩:=I.list hq
  replace p:=p.isList
  let⟨⟨old,he⟩,hit⟩:=st;have fi:=hf it (by simp);have hai:a≠it:=by
   rintro rfl;let⟨o,e1,c1,_⟩:=id hit;let⟨o',e2,c2,_⟩:=id p;rw[e1]at e2;cases e2;rw[c1]at c2
   exact absurd c2 (by decide)
  have hn:p6.toArray.size=i:=by grind [zN.length]
  refine wpAny_pyNext_enum_endD (Draws.list (A:=X.A.in1) (I.ok.hd hc) it a hai p6.toArray) he (by rw[hn];exact⟨hit,p⟩) λh' hx'=>⟨rfl,?_⟩
  let⟨f0,f1,f2,f3,f4,f5⟩:=fi;exact I.turned (t':=s.toks) (λb o hb e=>hx' b o hb e) f0 f1 f3 f4 f5
 self:=λA i s Q E st h=>by let⟨⟨old,he⟩,_⟩:=st;exact wpAny_pyIter_enum he h
noncomputable def ztp(K:Fg)(ta:TA):TI:=λσ H R=>ta σ H λvs H1=>∃a xs,vs=[.ref a]/\SqL K H1 a xs/\R (ItEl K a) H1
def zof{k:Nat}{p pos:Pos}{a:Expr}{ta:TA}(hg:Gl X "enumerate")(hm:X.mg "enumerate"=none)(ha:PA X [a] ta)(hs:B0 (starEach [a] X.env=[(false,eval a X.env)])):PI X (.Tuple elts k tpos) (.Call (.Name "enumerate" p) [a] [] pos) (ztp X.K ta):=by
 intro p4 s σ H R I h;refine Call_ (vU I hg hm boot_enumerate (JK (thn (ha pos p4 s σ H _ I h) λus s1 ⟨vs,H1,I1,r1,q1⟩=>?_) hs rfl));let⟨a,xs,e,hq,q⟩:=q1;subst e;let⟨u,rfl,ru⟩:=vF r1;cases ru
 let⟨p6,rv,p,hz⟩:=I1.list hq
 replace p:=p.isList
 refine call_enumerate_list p λh' he hit hsz hk=>?_
 have I2:=I1.kept (t':=s1.toks) hk;refine wpAny_pyIter_enum he ?_;refine⟨s1.heap.objs.size+1,[s1.heap.objs.size+1,s1.heap.objs.size],_,_,H1,rfl,I2,zjM a (s1.heap.objs.size+1) s1.heap.objs.size (Nat.succ_ne_self _),⟨⟨_,he⟩,hit⟩,λb hb=>?_,q⟩;rcases JJ.mp hb with rfl|hb
 ·exact I1.fpOk (Nat.le_succ _) (I1.hok.fresh (Nat.le_succ _))
 ·rw[Je.mp hb];exact I1.fpOk (Jf _) (I1.hok.fresh (Jf _))
end
end L2
namespace FL
open L2
section
variable{K:Fg}{md:Md}{X:Cx}{f:EO D}{pos:Pos}
noncomputable def cEnL(f:EO D):EO (U D):=λρ=>match f ρ with
 |some (.lst l)=>some (xL 0 l)
 |_=>none
def zpP{elts:U Expr}{k:Nat}{tpos p:Pos}{a:Expr}(h:FP K .fz X a f)(hg:Gl X "enumerate")(hm:X.mg "enumerate"=none)(hs:B0 (starEach [a] X.env=[(false,eval a X.env)]))(hK:B0 (X.K=K)):
  FI K X (.Tuple elts k tpos) (.Call (.Name "enumerate" p) [a] [] pos) (cEnL f):=FI.mk λρ ds hf=>by
 subst hK;unfold cEnL at hf;split at hf
 ·rename_i l e1;cases hf
  refine PI.imp (zof hg hm (yA (h.h ρ _ e1) xG hs) hs) λσ H R ⟨F,r,q⟩=>⟨F,r,λv F1 H1 g1 r1=>?_⟩
  let⟨a,vs,rfl,f1,q1⟩:=Dat.lst_inv r1;refine⟨a,vs,rfl,SqL.of (g1.fh _ _ f1),q _ F1 H1 g1 λF2 H2 a2 b2=>?_⟩;have hs:SqL X.K H2 a vs:=SqL.of (b2 _ _ (a2 _ _ f1));have hl:=q1.length;refine⟨λi hi=>?_,λi x H3 d hd y=>?_,?_⟩
  ·rw[wS]at hi;exact⟨vs,vs[i]'(by simp[*]),hs,by simp⟩
  ·let⟨x0,hx0,rfl⟩:=zbt 0 l i d hd;let⟨pp,vv,hpp,rfl,rfl,hv⟩:=y;let⟨w,hw,dw⟩:=q1.get hx0;rw[hv vs hs]at hw;cases hw
   have g:=zG.frozen (o:=.tup [.int (i:Int),vv]) b2 hpp;refine⟨_,g,Dat.tup qG ?_⟩;rw[Qw];exact zD.cons (Dat.int _) (zD.cons ((dw.mono a2).mono g.ff) zD.nil)
  ·rw[wS];exact⟨vs,hs,by lia⟩
 ·cases hf
end
end FL
namespace HD
open PySem PySem.W PySem.Calls PyProof.Rows
noncomputable def bal(S:SharedT->Thread->Option (SharedT×Thread))(ok:Thread->Bool)(d:Nat):SharedT->Thread->Option (SharedT×Thread):=
 @Nat.rec (λ_=>SharedT->Thread->Option (SharedT×Thread)) (λs t=>match through t with
  |true=>some (s,t)
  |false=>match ok t with
   |false=>none
   |true=>S s t)
  (λ_ ih s t=>match ih s t with
   |none=>none
   |some (s',t')=>match through t' with
    |true=>some (s',t')
    |false=>ih s' t') d
section
variable{tb:String->Option Builtin}{p:Program}{w:World}{n₀:Nat}{ann:Option Value}
theorem zgw:∀{n m:Nat}{s s' s2:Shared} {t t' t2:Thread},topGo tb p w n₀ ann n s t=some (s',t')->topGo tb p w n₀ ann m s' t'=some (s2,t2)->topGo tb p w n₀ ann (n+m) s t=some (s2,t2)
 |0,m,s,s',s2,t,t',t2,h,k=>by
  obtain⟨rfl,rfl⟩:s=s'/\t=t':=by simpa[topGo]using h
  rw[Qw];exact k
 |n+1,m,s,s',s2,t,t',t2,h,k=>by
  rw[show n+1+m=n+m+1 by lia];unfold topGo at h ⊢;cases ht:through t with
  |true=>rw[ht]at h;cases h
  |false=>
   rw[ht]at h;cases hk:stepOk n₀ ann t with
   |false=>rw[hk]at h;cases h
   |true=>
    rw[hk]at h;cases hs:step (denote tb) p w s t with
    |halt o s₂=>rw[hs]at h;cases h
    |go s₂ t₂=>rw[hs]at h;exact zgw h k
theorem znm:∀(d:Nat) {s s':SharedT}{t t':Thread},bal (stepT (denote tb) p w) (stepOk n₀ ann) d s t=some (s',t')->∃n,n<=2^d/\topGo tb p w n₀ ann n s.abs t=some (s'.abs,t')
 |0,s,s',t,t',h=>by
  have h:(match through t with
   |true=>some (s,t)
   |false=>match stepOk n₀ ann t with
    |false=>none
    |true=>stepT (denote tb) p w s t)=some (s',t'):=h
  cases ht:through t with
  |true=>rw[ht]at h;cases h;exact⟨0,Jz _,rfl⟩
  |false=>
   rw[ht]at h;cases hk:stepOk n₀ ann t with
   |false=>rw[hk]at h;cases h
   |true=>
    rw[hk]at h;refine⟨1,by simp,?_⟩;unfold topGo;rw[ht,hk,stepT_spec h];rfl
 |d+1,s,s',t,t',h=>by
  have h:(match bal (stepT (denote tb) p w) (stepOk n₀ ann) d s t with
   |none=>none
   |some (s',t')=>match through t' with
    |true=>some (s',t')
    |false=>bal (stepT (denote tb) p w) (stepOk n₀ ann) d s' t')=some (s',t'):=h
  cases e:bal (stepT (denote tb) p w) (stepOk n₀ ann) d s t with
  |none=>rw[e]at h;cases h
  |some r=>
   let⟨s1,t1⟩:=r;rw[e]at h;let⟨n,hn,g⟩:=znm d e;cases ht:through t1 with
   |true=>simp only[ht]at h;cases h;exact⟨n,by rw[Nat.pow_succ];lia,g⟩
   |false=>
    simp only[ht]at h;let⟨m,hm,g2⟩:=znm d h;exact⟨n+m,by rw[Nat.pow_succ];lia,zgw g g2⟩
def zru{d:Nat}{s s':SharedT}{t t':Thread}(h:bal (stepT (denote tb) p w) (stepOk n₀ ann) d s t=some (s',t'))(ht:through t'=true){N:Nat}(hN:2^d+1<=N):
  topRun tb p w n₀ ann N s.abs t=some s'.abs:=by
 let⟨n,hn,g⟩:=znm d h;have k:topRun tb p w n₀ ann 1 s'.abs t'=some s'.abs:=by unfold topRun;rw[ht]
 have r:=topRun_mono (N - (n+1)) _ _ _ _ (go_top g k);rwa[show n+1+(N - (n+1))=N by grind]at r
end
def ztj(l:U Obj):Nat->BT->BT:=@List.rec Obj (λ_=>Nat->BT->BT) (λ_ t=>t) (λo _ ih n t=>ih (n+1) (t.ins n o)) l
def zrt(P:Params):BT:=ztj (boot_heap P).objs.toList 0 .nil
def zpi(P:Params):absHeap (zrt P) 11 {}=boot_heap P:=by kernel_rfl
def zkC(P:Params):((boot_heap P).isNs mainGlobals,(boot_heap P).objs.size,(boot_heap P).nsMap mainGlobals "__annotations__")=(true,11,some (.ref 6)):=by kernel_rfl
section
variable{p q:Program}{loose:U Str}{Xt:Shared->Bool}{α:Type}{Yf:Shared->α}{Ya:World->α}{N d:Nat}
def bootS(w:World)(os:OsState):SharedT:=⟨zrt w.params,11,{},⟨[]⟩,boot_drawn,boot_toks,os⟩
def looks(p q:Program)(loose:U Str)(Xt:Shared->Bool)(Yf:Shared->α)(sn:Program->U Str->U Str->(Shared->Bool)->Bool->Shared->β)(im:U Stmt->U Str)(w:World)(r:SharedT×Thread):Bool×Bool×β×α:=
 (through r.2,staticsOk (im p.main.body) (boot_heap w.params) r.1.abs.heap&&namesBound p r.1.abs.heap&&gensDone r.1.abs&&laidKept (boot_heap w.params) r.1.abs.heap,sn q loose (im p.main.body) Xt true r.1.abs,Yf r.1.abs)
def left_of(e:opening p=plainProg p.main.scope.names)(hN:Nat.ble 600 N=true)(hd:Nat.ble (2^d+1) N=true)(f:∀s,fenceModules? p s=some s)(h:∀w:World,(λos:OsState=>(bal (stepT (denote treeTable) p w) (stepOk 11 (some (.ref 6))) d (bootS w os) (topStub p)).map (looks p q loose Xt Yf openSeen importedModules w))=λ_=>some (true,true,openGood q loose,Ya w)):
  LeftO p q loose Xt Yf Ya N:=λw=>by
 let⟨⟨hp,gs,dr,k,os⟩,e1,e2⟩:=Option.map_eq_some_iff.mp (boot_open e hN f w);obtain⟨rfl,rfl,rfl,rfl⟩:hp=boot_heap w.params/\gs=⟨[]⟩/\dr=boot_drawn/\k=boot_toks:=by simpa using e2
 let⟨⟨s,t⟩,b1,b2⟩:=Option.map_eq_some_iff.mp (congrFun (h w) os);have l1:=JT (λx=>x.1) b2;have l2:=JT (λx=>x.2.1) b2;have l3:=JT (λx=>x.2.2.1) b2;have l4:=JT (λx=>x.2.2.2) b2;dsimp only[looks]at l1 l2 l3 l4;have r:=zru b1 l1 (Nat.le_of_ble_eq_true hd);have ea:(bootS w os).abs=⟨boot_heap w.params,⟨[]⟩,boot_drawn,boot_toks,os⟩:=by show Shared.mk (absHeap (zrt w.params) 11 {}) _ _ _ _=_;rw[zpi];rfl
 rw[ea]at r;have z:=zkC w.params;simp only[Prod.mk.injEq]at z;let⟨z1,z2,z3⟩:=z;have t':topFrom treeTable p w N ⟨boot_heap w.params,⟨[]⟩,boot_drawn,boot_toks,os⟩=some s.abs:=by unfold topFrom;dsimp only;rw[z1,z2,z3,r];show(match staticsOk (importedModules p.main.body) (boot_heap w.params) s.abs.heap&&namesBound p s.abs.heap&&gensDone s.abs&&laidKept (boot_heap w.params) s.abs.heap with|true=>_|false=>_)=_;rw[l2]
 unfold openEnds;rw[e1];show(topFrom treeTable p w N _).map _=_;rw[t'];exact JT some (Prod.ext l3 l4)
end
end HD
namespace FL
open L2
noncomputable def zpj(h:Heap):Fg:=(List.range h.objs.size).filterMap λa=>(h.get? a).map λo=>(a,o)
def allIn_in(h:Heap):(zpj h).In h:=by
 intro a o;unfold zpj;generalize List.range h.objs.size=l;induction l with
 |nil=>intro e;cases e
 |cons b l ih=>
  rw[QM];cases e:h.get? b with
  |none=>exact ih
  |some u=>
   intro q;have q:List.lookup a ((b,u)::List.filterMap (λa=>Option.map (λo=>(a,o)) (h.get? a)) l)=some o:=q;rw[QO]at q;cases z:a==b with
   |true=>rw[z]at q;cases q;rw[beq_iff_eq.mp z];exact e
   |false=>rw[z]at q;exact ih q
abbrev FnT:=Str×Str×Arguments×FuncBody×Scope×Addr×U (Str×Addr)×Value×Addr
noncomputable def fnT(fd:FuncData):FnT:=(fd.name,fd.qualname,fd.params,fd.body,fd.scope,fd.globals,fd.closure,fd.defaults,fd.builtins)
noncomputable def fnv(K:Fg)(n:Str):Option (FnT×Bool):=match PySem.W.nsIn K mainGlobals n with
 |some (some (.ref f))=>(match K.lookup f with
  |some ⟨_,_,.func fd,_⟩=>some (fnT fd,PySem.W.codeIn K fd.code n&&PySem.W.keepIn K (.ref f))
  |_=>none)
 |_=>none
noncomputable def stN:Stmt->Str
 | .FunctionDef n ..=>n
 | .ClassDef n ..=>n
 |_=>⟨#[]⟩
noncomputable def fnx(p:Program)(i:Nat):Option (FnT×Bool):=
 let st:=p.main.body.getD i (.Pass ⟨0,0,0,0⟩)
 some (fnT (PySem.W.fnOf (stN st) (stN st) (zgc st) (wT st) (kQ st) .none .none .none .none none .none .none),true)
variable{K:Fg}{p:Program}{n:Str}
def zmL{i:Nat}(st:Stmt)(hst:p.main.body.getD i (.Pass ⟨0,0,0,0⟩)=st)(hn:stN st=n)(e:fnv K (stN (p.main.body.getD i (.Pass ⟨0,0,0,0⟩)))=fnx p i):
  ∃f fd,PySem.W.nsIn K mainGlobals n=some (some (.ref f))/\Fun K n n st f fd:=by
 subst hst;unfold fnx at e;dsimp only at e;rw[hn]at e;unfold fnv at e;split at e
 ·rename_i f e1;split at e
  ·rename_i oc od fd osl e2;have e3:=Option.some.inj e;have e4:=JT Prod.fst e3;have e5:=JT Prod.snd e3;dsimp only at e4 e5;let⟨c,k⟩:=Bool.and_eq_true_iff.mp e5;refine⟨f,fd,e1,⟨oc,od,fd.kwdefaults,fd.doc,fd.pyModule,fd.annotations,fd.code,fd.closureTuple,osl,?_,e2,c⟩,k⟩;let⟨a1,a2,a3,a4,a5,a6,a7,a8,a9,a10,a11,a12,a13,a14,a15⟩:=fd;unfold fnT at e4;simp only[Prod.mk.injEq]at e4;let⟨rfl,rfl,rfl,rfl,rfl,rfl,rfl,rfl,rfl⟩:=e4;rfl
  ·cases e
 ·cases e
noncomputable def jU(p:Program)(i:Nat):Stmt:=p.main.body.getD i (.Pass ⟨0,0,0,0⟩)
noncomputable def biN:U Str:=["isinstance","str","tuple","list","int","bool","dict","len","range","enumerate","sum","max","min","abs","zip","reversed","sorted","set","any","all"]
abbrev FaT:=U (Option (FnT×Bool))×U (Option (Option Value))
def faV(p:Program)(I:U Nat)(K:Fg):FaT:=(I.map λi=>fnv K (stN (p.main.body.getD i (.Pass ⟨0,0,0,0⟩))),biN.map λn=>PySem.W.nsIn K mainGlobals n)
def faX(p:Program)(I:U Nat):FaT:=(I.map λi=>fnx p i,biN.map λ_=>some none)
theorem zmo{α β:Type}{f g:α->β}:∀{l:List α},l.map f=l.map g->∀i∈l,f i=g i
 |[],_,_,h=>nomatch h
 |a::l,e,i,h=>by
  injection e with e1 e2;cases h with
  |head=>exact e1
  |tail _ h=>exact zmo e2 i h
variable{I:U Nat}
def ztx(A:faV p I K=faX p I)(i:Nat)(hi:i∈I)(hn:stN (jU p i)=n):
  ∃f fd,PySem.W.nsIn K mainGlobals n=some (some (.ref f))/\Fun K n n (jU p i) f fd:=zmL _ rfl hn (zmo (JT Prod.fst A) i hi)
def ztw{h:Heap}{mg:SV}(A:faV p I K=faX p I)(X:K.In h)(G:h.Ns mainGlobals mg):Glb mg:=by
 have z:∀n∈biN,mg n=none:=λn hn=>PySem.W.mg_none_of X G (zmo (f:=λn=>PySem.W.nsIn K mainGlobals n) (g:=λ_=>some none) (JT Prod.snd A) n hn)
 simp only[biN,List.forall_mem_cons]at z;let⟨z1,z2,z3,z4,z5,z6,z7,z8,z9,z10,z11,z12,z13,z14,z15,z16,z17,z18,z19,z20,_⟩:=z;exact⟨z1,z2,z3,z4,z5,z6,z7,z8,z9,z10,z11,z12,z13,z14,z15,z16,z17,z18,z19,z20⟩
def YP(p:Program)(I:U Nat)(_:World)(h:Heap):Prop:=∃K:Fg,K.In h/\faV p I K=faX p I
def YP.keeps(w:World)(h h':Heap)(y:YP p I w h)(k:∀b o,h.get? b=some o->h'.get? b=some o):YP p I w h':=
 let⟨K,X,A⟩:=y;⟨K,λa o e=>k _ _ (X a o e),A⟩
end FL
namespace FX
open PySem Builtin Builtin.ObjectAttr
section
variable{prog:Program}{w:World}{A:Around}{E:Vs}{h:Heap}{g:Array GenState}{d:Drawn}{t:Nat}{os:OsState}
variable{nm q:Str}{C N x:Addr}{bs bm:U Value}{hdct:Bool}{sn:U Str}{sub:U Value}{ab:Bool}{col:Option Bool}{dd:Option Addr}{k0 k1 k2 k3 k5:Option Value}{newId:String}{mN mA:SV}{name:Str}{v:Value}{ns:U Str}
end
end FX
namespace FL
open L2
end FL
namespace FX
end FX
namespace FL
open L2
end FL
namespace FX
open PySem.W
end FX
namespace FL
open L2
end FL
namespace FX
variable{t:Addr}{items:Array Value}
section
variable{prog:Program}{w:World}{A:Around}{E:Vs}{s:Shared}
theorem zhi{it:Addr}(hne:t≠it):∀(n i:Nat) (s:Shared) (Q:U Value->Shared->Prop),s.heap.IsListIter it t i->s.heap.IsList t items->i+n<=items.size->
  (∀h':Heap,h'.IsListIter it t (i+n)->Heap.SameBut it s.heap h'->Q ((items.toList.drop i).take n) {s with heap:=h'})->wpAny (model prog w) A (draw (.ref it) n) Q E s
 |0,i,s,Q,hit,_,_,hQ=>by show wpAny _ _ (pure []) Q E s;exact Ja (by simpa using hQ s.heap hit (Heap.SameBut.refl ..))
 |n+1,i,s,Q,hit,ht,hle,hQ=>by
  have hlt:i<items.size:=by lia
  show wpAny _ _ (pyNext (.ref it)>>=_) Q E s;refine wpAny_bind (wpAny_pyNext_list_item hit ht (x:=items[i]) (by simp[hlt]) λh₁ hit₁ hs₁=>?_);refine wpAny_bind (Jk (zhi hne n (i+1) _ _ hit₁ (ht.extBut hs₁.extBut hne) (by lia) λh₂ hit₂ hs₂=>Ja ?_));have hd:items.toList.drop i=items[i]::items.toList.drop (i+1):=by simp[List.drop_eq_getElem_cons,hlt]
  have:=hQ h₂ (by grind) (hs₁.trans hs₂);rw[hd,We]at this;exact this
def zdj{Q:U Value->Shared->Prop}(hh:A.handled=none)(ht:s.heap.IsList t items)(hQ:∀h',Heap.ExtBut s.heap.objs.size s.heap h'->Q items.toList {s with heap:=h'}):wpAny (model prog w) A (unpackItems (.ref t) items.size none) Q E s:=by
 have hlt:t≠s.heap.objs.size:=by let⟨o,ho,_⟩:=ht;exact Jo (Jb ho)
 refine wpAny_bind ?_;refine wpAny_bind (wpAny_specialOf ht.typeIs PySem.slot_list_iter.lookup ?_);refine Ja ?_;refine wpAny_bind (Jk (Ws ht ?_));refine wpAny_bind (Jk (zhi hlt items.size 0 _ _ ⟨_,Heap.get?_push_size _ rfl,rfl,rfl⟩ (ht.push _) (by simp) λh₁ hit₁ hs₁=>?_));have hall:List.take items.size (List.drop 0 items.toList)=items.toList:=by rw[List.drop_zero];exact QQ (by simp)
 rw[hall];rw[if_neg (by simp)];have ht₁:=(ht.push _).extBut hs₁.extBut hlt;refine wpAny_bind (Jk (wpAny_pyNext_list_end hh hit₁ ht₁ (by simp) λh₂ he₂=>?_));refine Ja (hQ h₂ λb o hb e=>he₂ b o hb (hs₁.extBut b o hb (Heap.get?_push_of_some _ e)))
def assign_Tuple_list{env:Env}{elts:U Expr}{x1}{pos:Pos}{Q:Unit->Shared->Prop}(hh:A.handled=none)(ht:s.heap.IsList t items)(hn:(assignEach elts env).length=items.size)(hstar:(assignEach elts env).findIdx? (·.1)=none)(h:∀h',Heap.ExtBut s.heap.objs.size s.heap h'->wpAny (model prog w) A (assignInOrder ((assignEach elts env).map (·.2)) items.toList) Q E {s with heap:=h'}):
  wpAny (model prog w) A (assign (.Tuple elts x1 pos) env (.ref t)) Q E s:=by
 refine wpAny_bind (Qy ?_);unfold unpack;rw[hn,hstar];exact wpAny_bind (Jk (zdj hh ht h))
end
end FX
namespace FL
open L2
variable{es:U Expr}{n:Nat}
section
variable{X:Cx}{K:Fg}{pos:Pos}
def zuN(K:Fg)(n:Nat)(t:TGs):TG:=λv σ H Q=>∃a xs,v=.ref a/\SqL K H a xs/\xs.length=n/\t xs σ H Q
def zsn{k:Nat}{t:TGs}(hc:X.calm=true)(h:PGs X es t)(hn:B0 ((assignEach es X.env).length=n))(hst:B0 ((assignEach es X.env).findIdx? (·.1)=none)):PG X (.Tuple es k pos) (zuN X.K n t):=by
 intro p4 s σ H v u Q I r hw;let⟨a,xs,e1,hq,hl,hw⟩:=hw;subst e1;cases r
 let⟨p6,rv,ht,hz⟩:=I.list hq;refine FX.assign_Tuple_list (I.ok.hd hc) ht.isList (by simp[hn,←hl,rv.length]) hst λh' hx=>?_
 have I1:=I.kept (t':=s.toks) λb o e=>hx b o (Jo (Jb e)) e
 exact h p4 _ σ H xs _ Q I1 (by simpa using rv) hw
noncomputable def xY(gs:U D->EO En):D->EO En:=λd ρ=>match d with
 | .lst l=>gs l ρ
 |_=>none
def glst{k:Nat}{gs:U D->EO En}(hc:X.calm=true)(h:FGs K X es gs)(hl:∀ds ρ ρ',gs ds ρ=some ρ'->ds.length=n)(hn:B0 ((assignEach es X.env).length=n))(hst:B0 ((assignEach es X.env).findIdx? (·.1)=none))(hK:B0 (X.K=K)):FG K X (.Tuple es k pos) (xY gs):=FG.mk λρ d ρ' hg=>by
 unfold xY at hg;split at hg
 ·rename_i l;refine PG.imp (zsn hc (h.h ρ l ρ' hg) hn hst) λv σ H Q h_=>?_
  let⟨F,r,hd,q⟩:=h_;let⟨a,vs,rfl,f,qq⟩:=hd.lst_inv;exact⟨a,vs,rfl,SqL.of (r.sub _ _ f),by rw[qq.length];exact hl l ρ ρ' hg,F,r,qq,q⟩
 ·cases hg
end
structure ZZ where
 P:Program
 w:World
 K:Fg
 mg:SV
 base:Heap
variable{us:U Value}
def us1(h:us.length=1):∃a,us=[a]:=List.length_eq_one_iff.mp h
def us2(h:us.length=2):∃a b,us=[a,b]:=by
 cases us with
 |nil=>cases h
 |cons a l=>let⟨b,rfl⟩:=us1 (Nat.succ.inj h);exact⟨a,b,rfl⟩
def us3(h:us.length=3):∃a b c,us=[a,b,c]:=by
 cases us with
 |nil=>cases h
 |cons a l=>let⟨b,c,rfl⟩:=us2 (Nat.succ.inj h);exact⟨a,b,c,rfl⟩
def us4(h:us.length=4):∃a b c d,us=[a,b,c,d]:=by
 cases us with
 |nil=>cases h
 |cons a l=>let⟨b,c,d,rfl⟩:=us3 (Nat.succ.inj h);exact⟨a,b,c,d,rfl⟩
def us5(h:us.length=5):∃a b c d e,us=[a,b,c,d,e]:=by
 cases us with
 |nil=>cases h
 |cons a l=>let⟨b,c,d,e,rfl⟩:=us4 (Nat.succ.inj h);exact⟨a,b,c,d,e,rfl⟩
abbrev FNs(p:Program)(I:U Nat)(Z:ZZ):Prop:=∀i∈I,∀n,stN (jU p i)=n->∃f fd,Z.mg n=some (.ref f)/\Fun Z.K n n (jU p i) f fd
abbrev BQ(x:Str)(st:Stmt)(ps:U Str):Prop:=∀(kV doc pm:Value) (an:Option Addr) (cdv ct:Value) (us:U Value),us.length=ps.length->bindArgs (PySem.W.fnOf x x (zgc st) (wT st) (kQ st) .none kV doc pm an cdv ct) ⟨us,[]⟩=pure (ps.zip us)
structure Df(p:Program)(I:U Nat)(i:Nat)(x:Str)(ps:U Str):Prop where
 hi:i∈I
 hn:stN (jU p i)=x
 hB:BQ x (jU p i) ps
variable{x:Str}
def dfo{p:Program}{I:U Nat}{i:Nat}{ps:U Str}(hi:C0 (i∈I))(hn:B0 (stN (jU p i)=x))(hB:BQ x (jU p i) ps:=by
   intro _ _ _ _ _ _ us hl;first
    |(let⟨_,rfl⟩:=us1 hl;rfl)
    |(let⟨_,_,rfl⟩:=us2 hl;rfl)
    |(let⟨_,_,_,rfl⟩:=us3 hl;rfl)
    |(let⟨_,_,_,_,rfl⟩:=us4 hl;rfl)
    |(let⟨_,_,_,_,_,rfl⟩:=us5 hl;rfl)
    |(let⟨_,_,_,_,_,_,rfl⟩:=us6 hl;rfl)):Df p I i x ps:=⟨hi,hn,hB⟩
abbrev Fq(Z:ZZ):=Fk Z.P Z.w Z.K Z.mg Z.base
section
variable{p:Program}{I:U Nat}{Z:ZZ}{x:Str}{ps:U Str}{md:Md}{k np nn j:Nat}{mb:Nat->EO Fl}{m:LO}
def zts{h:Heap}(A:faV p I Z.K=faX p I)(X:Z.K.In h)(G:h.Ns mainGlobals Z.mg):FNs p I Z:=λi hi n hn=>by let⟨f,fd,a,F⟩:=ztx A i hi hn;exact⟨f,fd,PySem.W.mg_of X G a,F⟩
def mkM(F:FNs p I Z)(i:Nat)(N:U Str)(hb:N.Nodup->∀(f:Addr) (n:Nat) (cdv:Value) (A:Around) (outer:U Env) (s:Shared) (H:Hp) (E:XK),jK k (A.deeper (envOfC x (kQ (jU p i)) s.heap.objs.size f cdv))->FSs Z.K md (vZ CX0 Z.P Z.w Z.K Z.mg Z.base N x (kQ (jU p i)) f cdv A outer s H E).nox (wT (jU p i)) (mb n))(S:nA N ps (kQ (jU p i)))(hi:i∈I)(hn:stN (jU p i)=x)(hB:BQ x (jU p i) ps)(hm:∀ds d,m ds=some d->ds.length=ps.length/\∃n,(∃ρ',mb n (kZ N.length ds)=some (.rt d ρ'))\/(d=.non/\md=.fz/\∃ρ',mb n (kZ N.length ds)=some (.nx ρ'))):
  Fq Z x ps md (k+1) m:=by
 let⟨f,fd,a,F⟩:=F i hi x hn;exact⟨_,_,ztt F S (hb S.nd f) hm,F.binds hB,F.kp,a⟩
def mkF(F:FNs p I Z)(i:Nat)(N:U Str)(hb:N.Nodup->∀(f:Addr) (n:Nat) (cdv:Value) (A:Around) (outer:U Env) (s:Shared) (H:Hp) (E:XK),jK k (A.deeper (envOfC x (kQ (jU p i)) s.heap.objs.size f cdv))->FSs Z.K md (vZ CX0 Z.P Z.w Z.K Z.mg Z.base N x (kQ (jU p i)) f cdv A outer s H E).nox (wT (jU p i)) (mb n))(hnp:B0 (ps.length=np))(hnn:B0 (N.length=nn))(S:nA N ps (kQ (jU p i)):=by exact⟨rfl,rfl,rfl,by decide+kernel,rfl,by decide+kernel,by decide+kernel⟩)(T:Df p I i x ps:=by exact dfo):
  Fq Z x ps md (k+1) (qI (mb zI) np nn):=by
 subst hnp hnn;exact mkM F i N hb S T.hi T.hn T.hB zlp
def mkN(F:FNs p I Z)(i:Nat)(N:U Str)(hb:N.Nodup->∀(f:Addr) (n:Nat) (cdv:Value) (A:Around) (outer:U Env) (s:Shared) (H:Hp) (E:XK),jK k (A.deeper (envOfC x (kQ (jU p i)) s.heap.objs.size f cdv))->FSs Z.K .fz (vZ CX0 Z.P Z.w Z.K Z.mg Z.base N x (kQ (jU p i)) f cdv A outer s H E).nox (wT (jU p i)) (mb n))(hnp:B0 (ps.length=np))(hnn:B0 (N.length=nn))(S:nA N ps (kQ (jU p i)):=by exact⟨rfl,rfl,rfl,by decide+kernel,rfl,by decide+kernel,by decide+kernel⟩)(T:Df p I i x ps:=by exact dfo):
  Fq Z x ps .fz (k+1) (runN (mb zI) np nn):=by
 subst hnp hnn;exact mkM F i N hb S T.hi T.hn T.hB zqr
def recF{mn:Nat->LO}(F:FNs p I Z)(i:Nat)(kb R:Nat)(hs:∀n,Fq Z x ps md (kb+n) (mn n)->Fq Z x ps md (kb+n+1) (mn (n+1)))(h0:G0 (∀ds,mn 0 ds=none))(T:Df p I i x ps:=by exact dfo):Fq Z x ps md (kb+R) (mn R):=by
 let⟨f,fd,a,F⟩:=F i T.hi x T.hn;induction R with
 |zero=>exact(Fk.never ⟨F.binds T.hB,F.kp,a⟩ h0).mono (Jz _)
 |succ n ih=>exact hs n ih
end
variable{op:CmpOp}
section
variable{K:Fg}{X:Cx}{a b:Expr}{fa fb:EO D}{p:D->D->Option D}{pos p2 p3:Pos}{md:Md}{k:Nat}
def bi{i j}{pos:Pos}:FP K .br X (.Constant (.int i) j pos) (cst (.int i)):=FP.br jG
def bop{op:Operator}(o:Op2 K X (binaryOp op) .fz p)(ha:FP K .br X a fa)(hb:FP K .br X b fb):FP K .br X (.BinOp a op b pos) (c2 p fa fb):=FP.br (fop o ha hb)
def fiz(ha:FP K .br X a fa)(hb:FP K .br X b fb)(hK:B0 (X.K=K))(hs:zgr b:=by exact λ_ _=>rfl):FP K .fz X (.Subscript a b pos) (c2 zZ fa fb):=fix (p_ix hK) ha hb hs
def biz(ha:FP K .br X a fa)(hb:FP K .br X b fb)(hK:B0 (X.K=K))(hs:zgr b:=by exact λ_ _=>rfl):FP K .br X (.Subscript a b pos) (c2 zZ fa fb):=FP.br (fix (p_ix hK) ha hb hs)
def fcq(o:Op2 K X (compareOp op) md p)(ha:FP K .br X a fa)(hb:FP K .br X b fb)(h:C0 (op≠.In))(h2:C0 (op≠.NotIn)):FP K md X (.Compare a [op] [b] pos) (c2 p fa fb):=fcmp o ha hb (zjc _ h h2)
def tcq(o:Op2 K X (compareOp op) .fz p)(ha:FP K .br X a fa)(hb:FP K .br X b fb)(h:C0 (op≠.In))(h2:C0 (op≠.NotIn)):FTp K X (.Compare a [op] [b] pos) (cT (c2 p fa fb)):=tcmp o ha hb (zjc _ h h2)
def tcf(o:Op2f K X (compareOp op) p)(ha:FP K .fz X a fa)(hb:FP K .br X b fb)(hm:behindInMarks op b=false:=by with_unfolding_all rfl):FTp K X (.Compare a [op] [b] pos) (cT (c2 p fa fb)):=ztU o ha hb hm
def peq(hr:jK k X.A):Op2 K X (compareOp .Eq) .fz eqB:=p_eq (kY hr)
def pne(hr:jK k X.A):Op2 K X (compareOp .NotEq) .fz neB:=p_ne (kY hr)
def pinn(hr:jK k X.A):Op2f K X (compareOp .In) inB:=p_in (u101 hr)
def pnin(hr:jK k X.A):Op2f K X (compareOp .NotIn) jQ:=zqG (u101 hr)
def fln(B:Glb X.mg)(ha:FP K .br X a fa)(hg:B0 (Gl X "len"))(hK:B0 (X.K=K))(hs:B0 (starEach [a] X.env=(false,eval a X.env)::starEach [] X.env)):FP K .fz X (.Call (.Name "len" p2) [a] [] pos) (cL qO (zA fa zC)):=zet (zuX hK) hg B.len PySem.boot_len (xK ha zE hs) (by decide) (by decide) hs
def bln(B:Glb X.mg)(ha:FP K .br X a fa)(hg:B0 (Gl X "len"))(hK:B0 (X.K=K))(hs:B0 (starEach [a] X.env=(false,eval a X.env)::starEach [] X.env)):FP K .br X (.Call (.Name "len" p2) [a] [] pos) (cL qO (zA fa zC)):=FP.br (fln B ha hg hK hs)
def ndb(l:U Str):Bool:=decide l.Nodup
def gnm(i:Nat)(hN:ndb X.N=true:=by kernel_rfl)(hi:B0 (X.N[i]?=some x))(hx:K0 (Loc X.env.scope x))(hf:K0 (Y0 7)):FG K X (.Name x pos) (gN i):=qB i (Qt hN) hi hx hf
end
end FL
namespace L2
section
variable{X:Cx}
def zkA(hc:X.calm=true):kM X (.type "list") (λxs H Q=>∃z:Str,xs=[.str z]/\z.length<=sizeLine/\∀l,H l=none->Q (.ref l) (upd H l (.lst (z.cps.toList.map λc=>V.str ⟨#[c]⟩)))):=by
 intro p4 s σ H xs us Q I rv h;let⟨z,rfl,hz,q⟩:=h;let⟨u,rfl,t,rfl⟩:=rv.one;refine call_list_str (I.ok.hd hc) z t (λh' tk p7 c k hS hi=>?_) hz;have hn:(z.cps.toList.map λc=>V.str ⟨#[c]⟩).length<=sizeLine:=by rw[Jc,JB];exact hz
 have I2:=I.laid (t':=tk) (o:=.lst (z.cps.toList.map λc=>V.str ⟨#[c]⟩)) k (Jf _) (show kX X.prog X.w _ _ _ (.lst _)from⟨hn,p7.toList,c,?_,by trivial⟩)
 ·exact⟨.ref _,_,I2,rfl,q _ I.fresh⟩
 ·have key:∀(cs:U Nat) (us:U Value),us.length=cs.length->(∀(j:Nat) (v:Value),us[j]?=some v->∃(c:Nat) (u:Tok),cs[j]?=some c/\v=Value.str ⟨#[c]⟩ u)->zN (cs.map λc=>V.str ⟨#[c]⟩) us:=by
   intro cs;induction cs with
   |nil=>
    intro us hl _;cases us with
    |nil=>exact .nil
    |cons a l=>cases hl
   |cons c cs ih=>
    intro us hl hv;cases us with
    |nil=>cases hl
    |cons a l=>
     let⟨c',u,e1,rfl⟩:=hv 0 a rfl;cases e1
     exact .cons ⟨u,rfl⟩ (ih l (Nat.succ.inj hl) λj v e=>hv (j+1) v e)
  refine key _ _ (by simpa using hi.1) λj v e=>?_
  let⟨c,u,e1,e2⟩:=hi.2 j v (by simpa using e);exact⟨c,u,by simpa using e1,e2⟩
end
end L2
namespace FL
open L2
noncomputable def zms:LO
 |[.str z]=>if z.length<=lim then some (.lst (zpw z))else none
 |_=>none
def zrq{K:Fg}{X:Cx}(hc:X.calm=true):vE K X (.type "list") .ow zms:=by
 refine⟨_,zkA hc,λds d F H vs Q e s h k=>?_⟩;unfold zms at e;split at e
 ·rename_i z;let⟨hz,rfl⟩:=kF e;let⟨v,rfl,h1⟩:=h.one;rw[h1.str_inv];refine⟨z,rfl,vM hz,λl hl=>k _ _ _ (zG.fresh s hl) ⟨l,rfl,hl,s.free hl,_,qG,?_⟩⟩;have key:∀cs:U Nat,zD K F (cs.map λc=>D.str ⟨#[c]⟩) (cs.map λc=>V.str ⟨#[c]⟩):=by
   intro cs;induction cs with
   |nil=>exact zD.nil
   |cons c cs ih=>exact zD.cons (Dat.str (K:=K) (F:=F) _) ih
  exact key _
 ·cases e
end FL
namespace TS
noncomputable def fresh(w:World):Obj:={cls:=.type "set",dict:=none,data:=.set #[] 0 (.fresh 0 0 (!w.params.followText "set-order"))}
variable{κ:Type}{w:World}{h:Heap}{a:Addr}
def fresh_St[DecidableEq κ]{S:SK κ}(e:h.get? a=some (fresh w)):StG S w h a []:=
 ⟨_,_,_,_,e,⟨rfl,rfl,rfl⟩,rfl,λ_ he=>by simp at he,by simp[txt],List.nodup_nil,by unfold scanBound;simp,by rfl,λ_=>List.Pairwise.nil,λz=>by simp[SetTable.fresh,z]⟩
section
variable{P:Program}{w:World}{A:Around}{E:Vs}{s:Shared}{a:Addr}
def zpf(r:U Value)(hc:checkBuiltinCall "set.__new__" ⟨.type "set"::r,[]⟩=pure ()){Q₁:Vs}(h:Q₁ (Y0 3) {s with heap:=s.heap.push (fresh w)}):
  codeAny (model P w) A (.call (.builtin "set.__new__") ⟨.type "set"::r,[]⟩) (wants Q₁ E) s:=by
 refine codeAny_of_tree ?_;refine wpAny_bind (wpAny_of_eq hc (Ja ⟨WH F.plain_set_new _,Wl F.entry_set_new ?_⟩));unfold Builtin.«set.__new__» Builtin.Frozenset.newClass;have hsub:=sub_set_self
 wp_walk
 refine Wd (Ja ?_);refine wpAny_bind (wpAny_alloc (Ja ?_));exact Ja h
def call0{Q:Vs}(h:Q (Y0 3) {s with heap:=s.heap.push (fresh w)}):
  wpAny (model P w) A (call (.type "set") []) Q E s:=by
 let⟨c,tl,hmro⟩:=F.called_set.mro;have hmade:=F.called_set.made;have hsub:=F.called_set.sub;refine wpAny_call (codeAny_of_tree ?_);show wpAny _ _ (callAny (.type "set") _) _ _ _;refine Ja ⟨Code.quiet_builtin _ (by decide+kernel),Wl F.entry_type_call ?_⟩;rw[Around.under_plain (weight_type_call_type "set" [] []) rfl];have h1:=F.called_set.notType;have h2:=F.called_set.canCreate;have hct:=F.typeCall_set_0
 repeat (any_goals(first|assumption|wp_step))
 refine codeAny_mono (zpf [] F.newCall_set_0 (E:=E) (Q₁:=λobj s₁=>obj=.ref s.heap.objs.size/\s₁={s with heap:=s.heap.push (fresh w)}) ⟨rfl,rfl⟩) λr s₁ hr=>?_
 cases r with
 |error e=>exact hr
 |ok fl=>
  cases fl with
  |ret obj=>
   let⟨rfl,rfl⟩:=hr;have hS:(s.heap.push (fresh w)).get? s.heap.objs.size=some (fresh w):=Heap.get?_push_size _ rfl;have hT:Shared.TypeIs {s with heap:=s.heap.push (fresh w)} (Y0 3) "set":=⟨_,hS,rfl⟩;have hli:=F.called_set.init.lookup;have hbi:=F.called_set.init.bind (Y0 3)
   repeat (any_goals(first|assumption|wp_step))
   refine codeAny_mono (codeAny_call_builtin (R:=wants (λr s₂=>r=.none/\Q (Y0 3) s₂) E) F.called_set.init.plain F.entry_set_init (check_set_init hT ?_)) λr₂ s₂ hr₂=>?_
   ·unfold Builtin.«set.__init__» noKeywords
    wp_walk
    exact⟨rfl,h⟩
   ·cases r₂ with
    |error e=>exact hr₂
    |ok fl₂=>
     cases fl₂ with
     |ret r=>
      let⟨rfl,hq⟩:=hr₂
      repeat (any_goals(first|assumption|wp_step))
     |_=>exact hr₂.elim
  |_=>exact hr.elim
end
def setOf(l:U Str):U Str:=l.foldl addT []
theorem addT_len[DecidableEq κ](L:List κ)(x:κ):(addT L x).length<=L.length+1:=by unfold addT;split<;>simp
def setOf_len_aux(l:U Str):∀L:U Str,(l.foldl addT L).length<=L.length+l.length:=by
 induction l with
 |nil=>intro L;simp
 |cons x l ih=>grind [addT_len]
section
variable{P:Program}{w:World}{A:Around}{E:Vs}{s:Shared}{a:Addr}
theorem StrsAre.len:∀{vs:U Value}{ss:U Str},StrsAre vs ss->vs.length=ss.length
 |_,_,.nil=>rfl
 |_,_,.cons x t r=>by simp[StrsAre.len r]
end
def zkv:entryFor table "set.__iter__"=some Builtin.«frozenset.__iter__»:=
 entryFor_alias (id':="frozenset.__iter__") (by kernel_rfl) rfl (by decide+kernel) (by kernel_rfl)
def zaw:Slot "set_iterator" "__next__" "set_iterator.__next__":=
 .of (owner:="set_iterator") (n:="__next__") (by kernel_rfl) (by decide+kernel) (by decide+kernel) (by decide+kernel)
  (by first|exact .inl (by decide+kernel)|exact .inr (by decide+kernel)) (by kernel_rfl)
def zfo:entryFor table "set_iterator.__next__"=some Builtin.«set_iterator.__next__»:=entryFor_of_tree (by kernel_rfl)
def zhv(a:Value):argsOk "set_iterator.__next__" ⟨[a],[]⟩:=by kernel_rfl
def zle:Slot "set_iterator" "__iter__" "set_iterator.__iter__":=
 .of (owner:="set_iterator") (n:="__iter__") (by kernel_rfl) (by decide+kernel) (by decide+kernel) (by decide+kernel)
  (by first|exact .inl (by decide+kernel)|exact .inr (by decide+kernel)) (by kernel_rfl)
def zoR:entryFor table "set_iterator.__iter__"=some Builtin.«dict_keyiterator.__iter__»:=
 entryFor_alias (id':="dict_keyiterator.__iter__") (by kernel_rfl) rfl (by decide+kernel) (by kernel_rfl)
def zrv(a:Value):argsOk "set_iterator.__iter__" ⟨[a],[]⟩:=by kernel_rfl
variable{α:Type}
theorem zlH(next:Nat->Nat):∀(n k:Nat) (l:List α) (out:Array α),l.length=n->(pickOrder.go next n k l out).toList.Perm (out.toList++l)
 |0,k,l,out,h=>by have:l=[]:=QL h;subst this;unfold pickOrder.go;simp
 |n+1,k,l,out,h=>by
  unfold pickOrder.go;have hlt:next k%l.length<l.length:=Nat.mod_lt _ (by simp[*])
  rw[List.getElem?_eq_getElem hlt];refine(zlH next n (k+1) _ _ (by grind)).trans ?_;grind [List.Perm.append_left,List.getElem_cons_drop,List.take_append_drop,List.perm_middle,List.Perm.symm]
def zgJ(next:Nat->Nat)(xs:Array α):(pickOrder next xs).toList.Perm xs.toList:=by unfold pickOrder;grind [zlH]
variable{n:Nat}
section
variable{M:Model}{P:Program}{w:World}{A:Around}{E:Vs}{s:Shared}{a:Addr}
def zgs{src:Source}{Q:Nat->Shared->Prop}(hn:n≠0)(h:∀i d,i<n->Q i {s with drawn:=d}):wpAny M A (choose src n) Q E s:=by intro _ _ _;exact⟨hn,h _ _ (Nat.mod_lt _ (Nat.pos_of_ne_zero hn))⟩
theorem draw:∀(n:Nat) (l:List α) {Q:List α->Shared->Prop}(s:Shared),l.length<=n->(∀ys d,ys.Perm l->Q ys {s with drawn:=d})->wpAny M A (drawOrder n l) Q E s
 |0,l,Q,s,hl,h=>by have:l=[]:=QL (by simp_all);subst this;exact Ja (h [] s.drawn (List.Perm.refl _))
 |n+1,[],Q,s,hl,h=>Ja (h [] s.drawn (List.Perm.refl _))
 |n+1,x::l,Q,s,hl,h=>by
  refine wpAny_bind (zgs (by simp) λi d hi=>?_);rw[List.getElem?_eq_getElem hi];refine wpAny_bind (draw n _ _ (by rw[List.length_eraseIdx_of_lt hi];simp at hl ⊢;simp_all) λys d' hp=>?_);refine Ja (h _ d' ?_);have h2:(x::l).eraseIdx i=(x::l).take i++(x::l).drop (i+1):=QG _ _;have h1:x::l=(x::l).take i++(x::l)[i]::(x::l).drop (i+1):=by rw[List.getElem_cons_drop,Ql]
  rw[h2]at hp
  conv=>rhs;rw[h1]
  exact(hp.cons _).trans List.perm_middle.symm
def zbA(a:Addr)(slot given epochThen:Nat):setNext a slot given epochThen=(do
 let(es,epoch,t) ←setState a
 if←setsByText then
  if epoch !=epochThen then unsupported "set_iterator.__next__:elements-changed"
  return((←setWalk a)[given]?).map λe=>(e.2,slot)
 if(!t.plain&&es.size>1)then unsupported "set_iterator.__next__:the-table-is-plain-no-more"
 (if(!t.led&& !es.isEmpty)=true then(unsupported "set:maker-not-led":Sem Unit)else pure ())
 let i:=SetTable.below t.place slot
 return match es[i]?,t.place[i]? with
  |some (_,x),some j=>some (x,j+1)
  |_,_=>none):=rfl
def zhE(a:Addr):setDrawn a=(do
 let(es,_,t) ←setState a;let byText ←setsByText
 return !byText&&(!t.plain&&es.size>1)):=rfl
def byText{Q:Bool->Shared->Prop}(h:Q (w.params.followText "set-order") s):wpAny (model P w) A setsByText Q E s:=
 wpAny_bind (Wd (Ja h))
end
noncomputable def itO(first:Value)(i:Nat)(a:Addr)(n ep:Nat):Obj:={cls:=.type "set_iterator",data:=.fields #[first,.int i 0,.ref a,.int n 0,.int ep 0]}
def Go(w:World)(es:Array (Int×Value))(ep:Nat)(t:SetTable)(a:Addr)(ex:U Addr)(vs:U Value)(first:Value)(i:Nat)(h:Heap):Prop:=
 (w.params.followText "set-order"=true/\first=.int 0 0/\vs=(pickOrder (w.params.setOrder a ep) es).toList.map (·.2))\/
 (w.params.followText "set-order"=false/\((t.plain=true\/es.size<=1)/\Ri t)/\vs=es.toList.map (·.2)/\first=.int (if i=0 then 0 else((t.place.getD (i - 1) 0+1:Nat):Int)) 0)\/
 (∃(tp:Addr) (ps:U Nat),ex=[tp]/\first=.ref tp/\(∃o,h.get? tp=some o/\o.data=.seq (ps.map λ(j:Nat)=>rawInt j).toArray 0)/\ps.Perm (List.range es.size)/\vs=ps.map λj=>(es.getD j (0,.none)).2)
structure It(w:World)(o:Obj)(es:Array (Int×Value))(ep:Nat)(t:SetTable)(a it:Addr)(ex:U Addr)(vs:U Value)(i:Nat)(h:Heap):Prop where
 set:h.get? a=some o
 cur:∃first,h.get? it=some (itO first i a es.size ep)/\Go w es ep t a ex vs first i h
theorem It.len{o:Obj}{es:Array (Int×Value)}{ep:Nat}{t:SetTable}{it:Addr}{ex:U Addr}{vs:U Value}{i:Nat}(x:It w o es ep t a it ex vs i h):vs.length=es.size:=by
 obtain⟨first,_,⟨_,_,e⟩|⟨_,_,e,_⟩|⟨tp,ps,_,_,_,p,e⟩⟩:=x.cur
 ·rw[e,Jc,(zgJ _ es).length_eq,JB]
 ·rw[e];simp
 ·rw[e,Jc,p.length_eq,List.length_range]
variable{Q:Option Value->Shared->Prop}{f v:Value}{h':Heap}
section
variable{P:Program}{w:World}{A:Around}{E:Vs}{s:Shared}{a it:Addr}{o:Obj}{es:Array (Int×Value)}{ep:Nat}{t:SetTable}{ex:U Addr}{vs:U Value}{i:Nat}
def zjF{xs:Array Nat}{i:Nat}(hs:xs.toList.Pairwise (·<·))(hi:i<=xs.size):SetTable.below xs (if i=0 then(0:Int)else((xs.getD (i - 1) 0+1:Nat):Int)).toNat=i:=by
 rcases Nat.eq_zero_or_pos i with rfl|hp
 ·let⟨b1,b2,b3⟩:=zcT (j:=0) hs;rw[if_pos rfl,Int.toNat_zero];rcases Nat.eq_zero_or_pos (SetTable.below xs 0)with z|z
  ·exact z
  ·exact absurd (b1 0 (by lia) z) (Nat.not_lt_zero _)
 ·rw[if_neg (by exact Qv ‹_›),JO];have e:xs.getD (i - 1) 0=xs[i - 1]:=by simp[Array.getD,show i - 1<xs.size by lia]
  rw[e];let⟨b1,b2,b3⟩:=zcT (j:=xs[i - 1]+1) hs;have h1:i<=SetTable.below xs (xs[i - 1]+1):=by
   rcases Nat.lt_or_ge (SetTable.below xs (xs[i - 1]+1)) i with z|z
   ·have:=b2 (i - 1) (by lia) (by exact Nat.le_sub_of_add_le ‹_›);lia
   ·exact z
  rcases Nat.lt_or_ge i (SetTable.below xs (xs[i - 1]+1))with z|z
  ·have h2:=b1 i (by lia) z;have h3:=JF.mp hs (i - 1) i (by simpa using(by lia:i - 1<xs.size)) (by simpa using(by lia:i<xs.size)) (by lia);simp only[Array.getElem_toList]at h3;lia
  ·exact Nat.le_antisymm ‹_› ‹_›
def zpx{nx:Int}{Q:Fin->Shared->Prop}(hi:s.heap.get? it=some (itO f i a n ep))(h:∀h',Heap.SameBut it s.heap h'->h'.get? it=some (itO (.int nx 0) (i+1) a n ep)->Q (.done (.ret v)) {s with heap:=h'}):
  wpAny (model P w) A (do setField (.ref it) 0 (rawInt nx);setField (.ref it) 1 (rawInt ((i:Int)+1));ret v) Q E s:=by
 refine wpAny_bind (wpAny_setField_rec hi (by simp) λh1 g1 k1=>?_);refine wpAny_bind (wpAny_setField_rec g1 (by simp) λh2 g2 k2=>?_);exact Ja (h h2 (k1.trans k2) (by rw[g2];simp[itO,rawInt]))
def zrT{Q:Fin->Shared->Prop}(hi:s.heap.get? it=some (itO f i a n ep))(h:∀h',Heap.SameBut it s.heap h'->h'.get? it=some (itO f (i+1) a n ep)->Q (.done (.ret v)) {s with heap:=h'}):
  wpAny (model P w) A (do setField (.ref it) 1 (rawInt ((i:Int)+1));ret v) Q E s:=by
 refine wpAny_bind (wpAny_setField_rec hi (by simp) λh2 g2 k2=>?_);exact Ja (h h2 k2 (by rw[g2];simp[itO,rawInt]))
def zif(k:Heap.SameBut it h h'){b:Addr}{u:Obj}(ne:b≠it)(e:h.get? b=some u):h'.get? b=some u:=by rw[k.2 b ne];exact e
def zqO(x:It w o es ep t a it ex vs i s.heap)(hex:o.ExactSet)(hd:o.data=.set es ep t)(hf:t.fits es.size=true)(hld:w.params.followText "set-order"=false->t.led=true)(ne:a≠it)(nx:it∉ex)(hv:vs[i]?=some v)(h:∀h',Heap.SameBut it s.heap h'->It w o es ep t a it ex vs (i+1) h'->Q (some v) {s with heap:=h'}):
  wpAny (model P w) A (pyNext (.ref it)) Q E s:=by
 let⟨first,hi,hg⟩:=x.cur;have hT:s.TypeIs (.ref it) "set_iterator":=⟨_,hi,rfl⟩;unfold pyNext;refine wpAny_bind (wpAny_attempt (wpAny_callSpecial?_slot hT zaw
  (Ju zaw hT zfo ?_ (zhv _))))
 refine wpAny_bind (Ja ?_);refine wpAny_bind (wpAny_fieldsOf hi rfl ?_);dsimp only;refine wpAny_bind (wpAny_setEntries_of x.set hd hf ?_);rw[if_neg (by simp)];rcases hg with⟨b1,rfl,ev⟩|⟨b1,b2,ev,rfl⟩|⟨tp,ps,rfl,rfl,⟨ot,hot,hdt⟩,pp,ev⟩
 ·dsimp only;rw[zbA];refine wpAny_bind (wpAny_bind (Qj x.set hd hf ?_));dsimp only;refine wpAny_bind (byText ?_);rw[b1];simp only[if_true,Int.toNat_natCast,bne_self_eq_false,Bool.false_eq_true,if_false];unfold setWalk;refine wpAny_bind (wpAny_bind (Qj x.set hd hf ?_));dsimp only;refine wpAny_bind (byText ?_);rw[b1];simp only[if_true];refine wpAny_bind (Wd (Ja (Ja ?_)));have hv0:=hv;rw[ev,List.getElem?_map,Array.getElem?_toList]at hv;cases hq:(pickOrder (w.params.setOrder a ep) es)[i]? with
  |none=>rw[hq]at hv;cases hv
  |some e=>
   rw[hq]at hv;cases hv
   have hm:(pickOrder ((Setting.mk (model P w).prog (model P w).w.params).params.setOrder a ep) es)[i]?=some e:=hq;rw[hm];exact zpx hi λh' k g=>⟨_,rfl,Ja (h h' k ⟨zif k ne x.set,_,g,.inl ⟨b1,rfl,ev⟩⟩)⟩
 ·have hv':=hv;rw[ev,List.getElem?_map,Array.getElem?_toList]at hv';cases hq:es[i]? with
  |none=>rw[hq]at hv';cases hv'
  |some e=>
   rw[hq]at hv';cases hv'
   have hlt:i<es.size:=(Array.getElem?_eq_some_iff.mp hq).1;have hps:t.place.size=es.size:=by simp only[SetTable.fits,Bool.and_eq_true,beq_iff_eq]at hf;exact hf.1
   dsimp only;rw[zbA];refine wpAny_bind (wpAny_bind (Qj x.set hd hf ?_));dsimp only;refine wpAny_bind (byText ?_);rw[b1];have hb:=zjF b2.2 (show i<=t.place.size by(simp[*];lia));have hpl:(!t.plain&&decide (es.size>1))=false:=by grind
   simp only[Bool.false_eq_true,if_false,hb,hq,hld b1,hpl,Bool.not_true,Bool.false_and,Array.getElem?_eq_getElem (show i<t.place.size by simp[*])];refine wpAny_bind (Ja (Ja ?_));dsimp only;refine zpx hi λh' k g=>⟨_,rfl,Ja (h h' k ⟨zif k ne x.set,_,g,.inr (.inl ⟨b1,b2,ev,?_⟩)⟩)⟩
   simp_all
 ·have hv':=hv;rw[ev,List.getElem?_map]at hv';cases hq:ps[i]? with
  |none=>rw[hq]at hv';cases hv'
  |some j=>
   rw[hq]at hv';cases hv'
   dsimp only;refine wpAny_bind (Qb hot hdt ?_);have e1:(ps.map λ(j:Nat)=>rawInt j).toArray[(i:Int).toNat]?=some (.int j 0):=by simp[hq,rawInt]
   dsimp only;rw[e1];dsimp only;unfold setNextDrawn;refine wpAny_bind (wpAny_bind (Qj x.set hd hf ?_));simp only[Int.toNat_natCast,bne_self_eq_false,Bool.false_eq_true,if_false];have hj:j<es.size:=by have:=pp.mem_iff.mp (List.mem_of_getElem? hq);simpa using this
   rw[Array.getElem?_eq_getElem hj];refine Ja ?_;have hv2:(es.getD j (0,Value.none)).2=es[j].2:=by simp[*]
   refine zrT hi λh' k g=>⟨_,rfl,Ja ?_⟩
   dsimp only at h;rw[hv2]at h;exact h h' k ⟨zif k ne x.set,_,g,.inr (.inr ⟨tp,ps,rfl,rfl,⟨ot,zif k (λz=>nx (by simp[z])) hot,hdt⟩,pp,ev⟩)⟩
end
section
variable{P:Program}{w:World}{A:Around}{E:Vs}{s:Shared}{a it:Addr}{o:Obj}{es:Array (Int×Value)}{ep:Nat}{t:SetTable}{ex:U Addr}{vs:U Value}{i:Nat}
def stop{Qf:Fin->Shared->Prop}(hh:A.handled=none)(h:∀h',(∀b u,s.heap.get? b=some u->h'.get? b=some u)->Q none {s with heap:=h'}):
  wpAny (model P w) A.in1 (do raiseNew (←newExc (.type "StopIteration") [])) Qf
   (λe s'=>wpAny (model P w) A (do if←isInstance e (.type "StopIteration")then pure none else throw e) Q E s') s:=by
 refine wpAny_bind ?_;refine wpAny_bind (m:=firstArgMember _ _) (wpAny_of_eq (by first|rfl|(rfl)) ?_);refine JE ?_ (by size_fits);refine wpAny_bind (wpAny_handled ?_);rw[(hh)];refine wpAny_bind (Ja (wpAny_throw ?_));refine wpAny_bind (wpAny_isInstance ⟨_,Heap.get?_push_size _ rfl,rfl⟩ isSubtype_stop ?_);exact Ja (h _ λb u e=>Heap.get?_push_of_some _ (Heap.get?_push_of_some _ e))
def zoy(hh:A.handled=none)(x:It w o es ep t a it ex vs i s.heap)(hd:o.data=.set es ep t)(hf:t.fits es.size=true)(hld:w.params.followText "set-order"=false->t.led=true)(hv0:i=es.size)(h:∀h',(∀b u,b≠it->s.heap.get? b=some u->h'.get? b=some u)->Q none {s with heap:=h'}):
  wpAny (model P w) A (pyNext (.ref it)) Q E s:=by
 have hv:vs[i]?=none:=by rw[List.getElem?_eq_none];rw[x.len,hv0];exact Jf _
 let⟨first,hi,hg⟩:=x.cur;have hT:s.TypeIs (.ref it) "set_iterator":=⟨_,hi,rfl⟩;unfold pyNext;refine wpAny_bind (wpAny_attempt (wpAny_callSpecial?_slot (name:=Str.ofString "__next__") hT zaw
  (Ju zaw hT zfo ?_ (zhv _))))
 unfold Builtin.«set_iterator.__next__»;refine wpAny_bind (Ja ?_);refine wpAny_bind (wpAny_fieldsOf hi rfl ?_);dsimp only;refine wpAny_bind (wpAny_setEntries_of x.set hd hf ?_);rw[if_neg (by simp)];have fin:∀{Qf:Fin->Shared->Prop}(h1:Heap) (f:Value),Heap.SameBut it s.heap h1->h1.get? it=some (itO f i a es.size ep)->
   wpAny (model P w) A.in1 (do setField (.ref it) 2 .none;raiseNew (←newExc (.type "StopIteration") [])) Qf
   (λe s'=>wpAny (model P w) A (do if←isInstance e (.type "StopIteration")then pure none else throw e) Q E s') {s with heap:=h1}:=λh1 f k1 g1=>by
  refine wpAny_bind (wpAny_setField_rec (cls:=.type "set_iterator") g1 (by simp) λh2 g2 k2=>?_);exact stop hh λh' kk=>h h' λb u ne e=>kk b u (zif k2 ne (zif k1 ne e))
 have hs0:s={s with heap:=s.heap}:=by cases s;rfl
 rcases hg with⟨b1,rfl,ev⟩|⟨b1,b2,ev,rfl⟩|⟨tp,ps,rfl,rfl,⟨ot,hot,hdt⟩,pp,ev⟩
 ·dsimp only;rw[zbA];refine wpAny_bind (wpAny_bind (Qj x.set hd hf ?_));dsimp only;refine wpAny_bind (byText ?_);rw[b1];simp only[if_true,Int.toNat_natCast,bne_self_eq_false,Bool.false_eq_true,if_false];unfold setWalk;refine wpAny_bind (wpAny_bind (Qj x.set hd hf ?_));dsimp only;refine wpAny_bind (byText ?_);rw[b1];simp only[if_true];refine wpAny_bind (Wd (Ja (Ja ?_)));rw[ev,List.getElem?_map,Array.getElem?_toList]at hv;have hm:(pickOrder ((Setting.mk (model P w).prog (model P w).w.params).params.setOrder a ep) es)[i]?=none:=by
   cases hq:(pickOrder (w.params.setOrder a ep) es)[i]? with
   |none=>exact hq
   |some e=>rw[hq]at hv;cases hv
  rw[hm];simp only[Option.map_none];exact fin s.heap _ (Heap.SameBut.refl _ _) hi
 ·have hge:es.size<=i:=by simp[*]
  have hps:t.place.size=es.size:=by simp only[SetTable.fits,Bool.and_eq_true,beq_iff_eq]at hf;exact hf.1
  dsimp only;rw[zbA];refine wpAny_bind (wpAny_bind (Qj x.set hd hf ?_));dsimp only;refine wpAny_bind (byText ?_);rw[b1];have hb:=zjF b2.2 (show i<=t.place.size by simp[*]);have hn:es[i]?=none:=Array.getElem?_eq_none hge;have hpl:(!t.plain&&decide (es.size>1))=false:=by grind
  simp only[Bool.false_eq_true,if_false,hb,hn,hld b1,hpl,Bool.not_true,Bool.false_and];refine wpAny_bind (Ja (Ja ?_));exact fin s.heap _ (Heap.SameBut.refl _ _) hi
 ·dsimp only;refine wpAny_bind (Qb hot hdt ?_);have hge:ps.length<=i:=by rw[ev]at hv;simpa using hv
  have e1:(ps.map λ(j:Nat)=>rawInt j).toArray[(i:Int).toNat]?=none:=by simp[hge]
  dsimp only;rw[e1];dsimp only;refine wpAny_bind (wpAny_setField_rec (cls:=.type "set_iterator") hi (by simp) λh1 g1 k1=>?_);exact fin h1 (.int 0 0) k1 (by rw[g1];simp[itO,rawInt])
def zO(ho:s.heap.get? a=some o)(hex:o.ExactSet)(hd:o.data=.set es ep t)(hf:t.fits es.size=true)(hsz:es.size<scanBound)(hri:t.plain=true->Ri t){Q:Vs}(h:∀h' d it ex vs,(∀b u,s.heap.get? b=some u->h'.get? b=some u)->it∉ex->s.heap.objs.size<=it->(∀b∈ex,s.heap.objs.size<=b)->(∀b∈ex,b<h'.objs.size)->it<h'.objs.size->It w o es ep t a it ex vs 0 h'->
   vs.Perm (es.toList.map (·.2))->Q (.ref it) {s with heap:=h',drawn:=d}):
  wpAny (model P w) A (pyIter (.ref a)) Q E s:=by
 have hT:s.TypeIs (.ref a) "set":=⟨o,ho,hex.1⟩;refine wpAny_pyIter_slot hT F.slot_set_iter (Ju F.slot_set_iter hT zkv ?_ (F.args_set_iter_1 _));refine wpAny_bind ?_;unfold Builtin.Frozenset.slot0;refine wpAny_bind (Ja ?_);show wpAny _ _ (pure a) _ _ _;refine Ja ?_;refine wpAny_bind ?_;unfold Builtin.Frozenset.sizeOf;refine wpAny_bind (wpAny_setEntries_of ho hd hf (Ja ?_));rw[zhE];refine wpAny_bind (wpAny_bind (Qj ho hd hf ?_));dsimp only;refine wpAny_bind (byText (Ja ?_));cases hb:(!w.params.followText "set-order"&&(!t.plain&&decide (es.size>1)))with
 |false=>
  refine wpAny_bind (Ja ?_);refine wpAny_bind (wpAny_setEpoch_of ho hd hf ?_);refine wpAny_bind (JE ?_);refine Ja ⟨_,rfl,"set_iterator",_,⟨_,Heap.get?_push_size _ rfl,rfl⟩,zaw.lookup,?_⟩;have hg:=Heap.get?_push_size s.heap (o:=itO (.int 0 0) 0 a es.size ep) rfl;have ha:(s.heap.push (itO (.int 0 0) 0 a es.size ep)).get? a=some o:=Heap.get?_push_of_some _ ho;cases hbt:w.params.followText "set-order"with
  |true=>
   exact h _ s.drawn _ [] ((pickOrder (w.params.setOrder a ep) es).toList.map (·.2)) (λb u e=>Heap.get?_push_of_some _ e) (by simp) (Jf _) (λ_ z=>by simp at z) (λ_ z=>by simp at z) (Jb hg) ⟨ha,_,hg,.inl ⟨hbt,rfl,rfl⟩⟩ ((zgJ _ _).map _)
  |false=>
   have hs1:t.plain=true\/es.size<=1:=by grind
   have hps:t.place.size=es.size:=by simp only[SetTable.fits,Bool.and_eq_true,beq_iff_eq]at hf;exact hf.1
   have hr:Ri t:=by
    rcases hs1 with z|z
    ·exact hri z
    ·unfold Ri;have hl:t.place.toList.length<=1:=by simp[*]
     generalize t.place.toList=l at hl;rcases l with _|⟨a,_|⟨b,l⟩⟩;all_goals simp_all
   exact h _ s.drawn _ [] (es.toList.map (·.2)) (λb u e=>Heap.get?_push_of_some _ e) (by simp) (Jf _) (λ_ z=>by simp at z) (λ_ z=>by simp at z) (Jb hg) ⟨ha,_,hg,.inr (.inl ⟨hbt,⟨hs1,hr⟩,rfl,by simp⟩)⟩ (List.Perm.refl _)
 |true=>
  simp only[if_true];refine wpAny_bind (draw es.size (List.range es.size) _ (by simp) λps d hp=>?_);refine wpAny_bind (wpAny_newTuple ?_ (by rw[Jc,hp.length_eq,List.length_range];exact fits_of_scanBound hsz));have ho2:=Heap.get?_push_of_some ({cls:=.type "tuple",data:=.seq (ps.map λ(j:Nat)=>rawInt j).toArray}:Obj) ho;refine wpAny_bind (wpAny_setEpoch_of ho2 hd hf ?_);refine wpAny_bind (JE ?_);refine Ja ⟨_,rfl,"set_iterator",_,⟨_,Heap.get?_push_size _ rfl,rfl⟩,zaw.lookup,?_⟩;have hgt:=Heap.get?_push_size s.heap (o:=({cls:=.type "tuple",data:=.seq (ps.map λ(j:Nat)=>rawInt j).toArray}:Obj)) rfl;have hg:=Heap.get?_push_size (s.heap.push ({cls:=.type "tuple",data:=.seq (ps.map λ(j:Nat)=>rawInt j).toArray}:Obj)) (o:=itO (Y0 3) 0 a es.size ep) rfl;have hgt2:=Heap.get?_push_of_some (itO (Y0 3) 0 a es.size ep) hgt;refine h _ d _ [s.heap.objs.size] (ps.map λj=>(es.getD j (0,.none)).2) (λb u e=>Heap.get?_push_of_some _ (Heap.get?_push_of_some _ e)) ?_ ?_ ?_ ?_ (Jb hg) ⟨Heap.get?_push_of_some _ ho2,_,hg,.inr (.inr ⟨_,ps,rfl,rfl,⟨_,hgt2,rfl⟩,hp,rfl⟩)⟩ ?_
  ·simp_all
  ·simp_all
  ·intro b hb;rw[Je.mp hb];exact Jf _
  ·intro b hb;rw[Je.mp hb];exact Jb hgt2
  ·refine(hp.map _).trans (List.Perm.of_eq ?_);refine List.ext_getElem (by simp) λk h1 h2=>?_
   have hk:k<es.size:=by simpa using h1
   simp_all
end
section
variable{P:Program}{w:World}{A:Around}{E:Vs}{s:Shared}{a it:Addr}{o:Obj}{es:Array (Int×Value)}{ep:Nat}{t:SetTable}{ex:U Addr}{vs:U Value}{i:Nat}
def It.at(x:It w o es ep t a it ex vs i h)(k:∀b∈it::a::ex,∀u,h.get? b=some u->h'.get? b=some u):It w o es ep t a it ex vs i h':=by
 let⟨x1,first,x2,x3⟩:=x;refine⟨k a (by simp) _ x1,first,k it (by simp) _ x2,?_⟩;rcases x3 with x3|x3|⟨tp,ps,rfl,e2,⟨ot,e3,e4⟩,e5⟩
 ·exact .inl x3
 ·exact .inr (.inl x3)
 ·exact .inr (.inr ⟨tp,ps,rfl,e2,⟨ot,k tp (by simp) _ e3,e4⟩,e5⟩)
def ztR(hh:A.handled=none)(hex:o.ExactSet)(hd:o.data=.set es ep t)(hf:t.fits es.size=true)(hld:w.params.followText "set-order"=false->t.led=true)(ne:a≠it)(nx:it∉ex):
  Walks P w A it (it::a::ex) [it] es.size (λi v=>vs[i]?=some v) (λi h=>It w o es ep t a it ex vs i h)where
 sub:=λb hb=>by grind
 frame:=λ_ _ _ st hk=>st.at hk
 item:=λi s Q E hi st hQ=>by have hl:=st.len;obtain⟨v,hv⟩:∃v,vs[i]?=some v:=⟨vs[i],by simp[hl,hi]⟩;exact zqO st hex hd hf hld ne nx hv λh' k st'=>hQ v h' s.toks hv st' λb u hb e=>zif k (λz=>hb (by simp[z])) e
 done:=λs Q E st hQ=>zoy hh st hd hf hld rfl λh' k=>hQ h' s.toks λb u hb e=>k b u (λz=>hb (by simp[z])) e
 self:=λi s Q E st hQ=>by let⟨first,hi,_⟩:=st.cur;have hT:s.TypeIs (.ref it) "set_iterator":=⟨_,hi,rfl⟩;refine wpAny_pyIter_slot hT zle (Ju zle hT zoR ?_ (zrv _));exact Ja ⟨_,rfl,"set_iterator",_,hT,zaw.lookup,hQ⟩
def zoL{Q:Bool->Shared->Prop}(hT:s.TypeIs (.ref a) "set")(h:Q false s):wpAny (model P w) A (Builtin.List.listLengthHint (.ref a)) Q E s:=by refine wpAny_bind (wpAny_specialOf hT F.slot_set_len.lookup ?_);generalize hid:("set.__len__":String)=id0;subst hid;refine wpAny_bind (wpAny_isInstance (b:=true) hT (by kernel_rfl) ?_);refine wpAny_bind (wpAny_typeOf hT ?_);exact Ja h
def zeA[DecidableEq κ]{S:SK κ}{L:List κ}{R:U Value->Shared->Prop}(hh:A.handled=none)(hS:StG S w s.heap a L)(h:∀h' d tk (vs:U Value),(∀b u,s.heap.get? b=some u->h'.get? b=some u)->s.heap.objs.size<h'.objs.size->(∀v∈vs,∃k t,v=S.vl k t)->(vs.map S.of).Perm L->R vs {s with heap:=h',drawn:=d,toks:=tk}):
  wpAny (model P w) A (collect (.ref a)) R E s:=by
 let⟨o,es,ep,t,ho,hex,hd,hel,hpm,hnd,hb,hf,hpl,hld⟩:=hS;have haS:a<s.heap.objs.size:=Jb ho;unfold collect;refine wpAny_bind (wpAny_runValue (Wl entry_proto_collect' ?_));rw[WA PySem.F.plain_proto_collect _];show wpAny _ A.in1 (newList []>>=λl=>again (.builtin "list.__iadd__" ⟨[l,.ref a],[]⟩)) _ _ s;refine wpAny_bind (JE ?_);refine Ja ⟨WH PySem.F.plain_list_iadd _,Wl entry_list_iadd' ?_⟩;rw[WA PySem.F.plain_list_iadd _];have hS₁:(s.heap.push {cls:=.type "list",data:=.seq ([]:U Value).toArray}).get? s.heap.objs.size=some {cls:=.type "list",data:=.seq #[]}:=Heap.get?_push_size _ rfl;have ho1:(s.heap.push {cls:=.type "list",data:=.seq ([]:U Value).toArray}).get? a=some o:=Heap.get?_push_of_some _ ho;show wpAny _ A.in1 (Builtin.List.listExtendWith (Y0 3) (.ref a) (Y0 3)) _ _ _;unfold Builtin.List.listExtendWith;refine wpAny_bind (wpAny_typeOf (T:="set") ⟨o,ho1,hex.1⟩ ?_);have h1:Builtin.List.listSameRef (Y0 3) (.ref a)=false:=by simp[Builtin.List.listSameRef];exact Qv haS
 rw[if_neg (by rw[h1];decide)];refine wpAny_bind (zO ho1 hex hd hf hb hpl λh2 d it ex vs k2 nx g1 g2 g2' g3 st pv=>?_);have hT2:Shared.TypeIs {s with heap:=h2,drawn:=d} (.ref a) "set":=⟨o,k2 _ _ ho1,hex.1⟩;refine wpAny_bind (Jk (zoL hT2 ?_));rw[Ww]at g1 g2;have nea:a≠it:=Jo (Jn (Nat.lt_succ_of_lt haS) g1);have hSf:s.heap.objs.size∉it::a::ex:=by grind
 have hn:es.size<=sizeLine:=fits_of_scanBound hb;have W:=ztR (P:=P) (A:=A.in1) (vs:=vs) hh hex hd hf hld nea nx;have key:∀{R':Result->Shared->Prop}(h3:Heap) (c₁:Nat),It w o es ep t a it ex vs 0 h3->(∀b u,b≠s.heap.objs.size->s.heap.get? b=some u->h3.get? b=some u)->
   h3.get? s.heap.objs.size=some {cls:=.type "list",data:=.seq #[] c₁}->
   (∀s',wpAny (model P w) A (do
      match(←load s.heap.objs.size).data with
      | .seq xs _=>pure xs.toList
      |_=>unsupported "internal:collect") R E s'->R' (.ok (.ret (Y0 3))) s')->
   codeAny (model P w) A (.builtin "list.extend.loop" ⟨[.ref s.heap.objs.size,.ref it,.ref s.heap.objs.size],[]⟩) R' {s with heap:=h3,drawn:=d}:=by
  intro R' h3 c₁ hst hk hS3 hR';refine codeAny_extend_loopS W.toS hn _ hSf _ es.size 0 _ #[] c₁ rfl (Jz _) hst hS3 (ItemsOf.nil _) λs' acc' c' hm hS' hacc=>hR' s' ?_
  refine wpAny_bind (wpAny_load hS' ?_);refine Ja ?_;rw[Moved.eq_with hm];have ev:acc'.toList=vs:=by
   refine List.ext_getElem? λj=>?_
   rcases Nat.lt_or_ge j es.size with z|z
   ·have hlt:j<acc'.size:=by rw[hacc.1];exact z
    have:=hacc.2 j acc'[j] (by simp[hlt]);rw[this,Array.getElem?_toList];simp[hlt]
   ·rw[List.getElem?_eq_none (by rw[JB,hacc.1];exact z),List.getElem?_eq_none (by rw[st.len];exact z)]
  rw[ev];have hstr:∀v∈vs,∃k t,v=S.vl k t:=λv hv=>by let⟨e,he,rfl⟩:=Jv.mp (pv.mem_iff.mp hv);let⟨k,tk,rfl⟩:=hel e he;exact⟨k,tk,rfl⟩
  refine h s'.heap d s'.toks vs (λb u e=>?_) (Jb hS') hstr ((pv.map S.of).trans ?_)
  ·have hlt:=Jb e;exact hm.heap b u (by grind) (hk b u (Jo hlt) e)
  ·rw[Jq];exact hpm
 have hS2:=k2 _ _ hS₁;have kk:∀b u,b≠s.heap.objs.size->s.heap.get? b=some u->h2.get? b=some u:=λb u _ e=>k2 b u (Heap.get?_push_of_some _ e)
 refine wpAny_bind (JH ?_);refine wpAny_bind ?_;show wpAny _ _ (updateSeq s.heap.objs.size (·.push .none)>>=λ_=>updateSeq s.heap.objs.size (·.pop)) _ _ _;refine wpAny_bind (wpAny_updateSeq hS2 rfl ?_);have hS3:=Heap.get?_update_self (Obj.mapSeq (·.push Value.none)) hS2 rfl;refine wpAny_updateSeq hS3 rfl ?_;have hS4:=Heap.get?_update_self (Obj.mapSeq (·.pop)) hS3 rfl;have oth:∀b u,b≠s.heap.objs.size->h2.get? b=some u->((h2.update s.heap.objs.size (Obj.mapSeq (·.push Value.none))).update s.heap.objs.size (Obj.mapSeq (·.pop))).get? b=some u:=
  λb u hb e=>(Heap.get?_update_other _ _ (Ne.symm hb)).trans ((Heap.get?_update_other _ _ (Ne.symm hb)).trans e)
 refine Ja ⟨WH Qk _,key _ _ (st.at λb hb u e=>oth b u (λz=>hSf (by rw[←z];exact hb)) e) (λb u ne e=>oth b u ne (kk b u ne e)) hS4 λs' z=>z⟩
def sorted_set{L:U Str}{Q:Vs}(hh:A.handled=none)(hS:St w s.heap a L)(h64:L.length<64)(h:∀h' d tk D (vs:U Value) ss e,(∀b u,s.heap.get? b=some u->h'.get? b=some u)->s.heap.objs.size<=D->h'.get? D=some {cls:=.type "list",data:=.seq vs.toArray e}->
   StrsAre vs ss->ss.Perm L->sortedS ss=true->Q (.ref D) {s with heap:=h',drawn:=d,toks:=tk}):
  wpAny (model P w) A (call (.builtin "sorted") [.ref a]) Q E s:=by
 refine Calls.call_function_entry kind_sorted plain_sorted entry_sorted (args_sorted1 _) ?_;refine wpAny_bind (Ja ?_);refine wpAny_bind (zeA (s:=s) hh hS λh1 d tk vs k1 hz1 hs0 hp1=>?_);have hs1:=strsAre_map vs λv hv=>hs0 v hv
 have hp1:(vs.map strOf).Perm L:=hp1;have hvl:vs.length<64:=by rw[StrsAre.len hs1,hp1.length_eq];exact h64
 refine wpAny_bind (wpAny_newList ?_ (by rw[QR];lia));have hoL:(h1.push (seqObj "list" vs.toArray 0)).get? h1.objs.size=some (seqObj "list" vs.toArray 0):=Heap.get?_push_size _ rfl;refine wpAny_bind (Jk (Ju slot_list_sort ⟨_,hoL,rfl⟩ entry_list_sort (list_sort_treeK strKind_oneLt hoL hs1.keysOf (λv₁ v₂ rest e=>keyKind_strs (by rw[←e];exact hs1)) hvl λst' a1 a2=>⟨_,rfl,?_⟩) (args_list_sort _)));let⟨ss',b1,b2,b3⟩:=sorted_out_str hs1 a1 a2;let⟨e,he⟩:=sortedHeap_at hoL;refine Ja ⟨_,rfl,h _ d tk h1.objs.size ((arrOf st').map (·.2)).toList ss' e (λb u eb=>?_) (Qi hz1) ?_ b1 (b2.trans hp1) b3⟩
 ·have e1:=k1 _ _ eb;rw[sortedHeap_old (Jo (Jb e1)) (by rw[size_push'];exact Nat.lt_succ_of_lt (Jb e1))];exact Heap.get?_push_of_some _ e1
 ·rw[he]
theorem zem:∀(vs:U Value),(∀v∈vs,∃k t,v=Value.int k t)->IntsAre vs (vs.map zrb)
 |[],_=>.nil
 |v::vs,h=>by let⟨k,t,rfl⟩:=h v (by simp);exact .cons k t (zem vs λu hu=>h u (by simp[hu]))
theorem IntsAre.len:∀{vs:U Value}{ns:U Int},IntsAre vs ns->vs.length=ns.length
 |_,_,.nil=>rfl
 |_,_,.cons x t r=>by simp[IntsAre.len r]
def sorted_seti{L:U Int}{Q:Vs}(hh:A.handled=none)(hS:StG intS w s.heap a L)(h64:L.length<64)(h:∀h' d tk D (vs:U Value) ns e,(∀b u,s.heap.get? b=some u->h'.get? b=some u)->s.heap.objs.size<=D->h'.get? D=some {cls:=.type "list",data:=.seq vs.toArray e}->
   IntsAre vs ns->ns.Perm L->ns.Pairwise (·<=·)->Q (.ref D) {s with heap:=h',drawn:=d,toks:=tk}):
  wpAny (model P w) A (call (.builtin "sorted") [.ref a]) Q E s:=by
 refine Calls.call_function_entry kind_sorted plain_sorted entry_sorted (args_sorted1 _) ?_;refine wpAny_bind (Ja ?_);refine wpAny_bind (zeA (s:=s) hh hS λh1 d tk vs k1 hz1 hs0 hp1=>?_);have hs1:=zem vs λv hv=>hs0 v hv
 have hp1:(vs.map zrb).Perm L:=hp1;have hvl:vs.length<64:=by rw[IntsAre.len hs1,hp1.length_eq];exact h64
 refine wpAny_bind (wpAny_newList ?_ (by rw[QR];lia));have hoL:(h1.push (seqObj "list" vs.toArray 0)).get? h1.objs.size=some (seqObj "list" vs.toArray 0):=Heap.get?_push_size _ rfl;refine wpAny_bind (Jk (Ju slot_list_sort ⟨_,hoL,rfl⟩ entry_list_sort (list_sort_tree hoL hs1 hvl λout ns b1 b2 b3=>⟨_,rfl,?_⟩) (args_list_sort _)));let⟨e,he⟩:=sortedHeap_at hoL;refine Ja ⟨_,rfl,h _ d tk h1.objs.size out.toList ns e (λb u eb=>?_) (Qi hz1) ?_ b1 (b2.trans hp1) b3⟩
 ·have e1:=k1 _ _ eb;rw[sortedHeap_old (Jo (Jb e1)) (by rw[size_push'];exact Nat.lt_succ_of_lt (Jb e1))];exact Heap.get?_push_of_some _ e1
 ·rw[he]
end
end TS
namespace L2
section
variable{X:Cx}
def zuk:U V->Hp->VK->Prop:=λxs H Q=>xs=[]/\∀p,H p=none->Q (.ref p) (upd H p (.set []))
def zng:kM X (.type "set") zuk:=by
 intro p4 s σ H xs us Q I rv h;let⟨rfl,q⟩:=h;cases rv
 refine TS.call0 ?_;have I2:=I.laid (t':=s.toks) (o:=.set []) (λb o e=>Heap.get?_push_of_some (TS.fresh X.w) e) (Jf _) ((TS.fresh_St (Heap.get?_push_size _ rfl)));exact⟨.ref _,_,I2,rfl,q _ I.fresh⟩
theorem zN.of_strs:∀{ss:U Str}{p6:U Value},StrsAre p6 ss->zN (ss.map V.str) p6
 |_,_,.nil=>.nil
 |_,_,.cons x k t=>.cons ⟨k,rfl⟩ (zN.of_strs t)
def zqs:U V->Hp->VK->Prop:=λxs H Q=>∃p L,xs=[.ref p]/\H p=some (.set L)/\L.length<64/\∀l ss,H l=none->ss.Perm L->sortedS ss=true->Q (.ref l) (upd H l (.lst (ss.map V.str)))
def Inv.draw{p4:AO}{σ:St}{H:Hp}{s:Shared}{d:Drawn}(I:Inv X p4 σ H s):Inv X p4 σ H {s with drawn:=d}:=
 ⟨I.ok,I.os,I.bare,I.base,I.loc,I.cell,I.free,I.freeC,I.pin,I.hok,I.len⟩
def zit(hc:X.calm=true):kM X (.builtin "sorted") zqs:=by
 intro p4 s σ H xs us Q I rv h;let⟨p,L,rfl,hp,hz,q⟩:=h;let⟨u,rfl,ru⟩:=rv.one;cases ru
 have hS:=I.hok p _ hp;refine TS.sorted_set (I.ok.hd hc) hS hz λh' d tk D vs ss e k hD ho hs hpm hso=>?_
 have hn:(ss.map V.str).length<=sizeLine:=by grind [List.Perm.length_eq,sizeLine_eq]
 have I2:=(I.draw (d:=d)).laid (t':=tk) (a:=D) (o:=.lst (ss.map V.str)) k hD ((⟨hn,vs,e,zN.of_strs hs,ho⟩));exact⟨.ref D,_,I2,rfl,q D ss (I.hok.fresh hD) hpm hso⟩
end
end L2
namespace TS
def call_add{κ:Type}[DecidableEq κ]{S:SK κ}{P:Program}{w:World}{A:Around}{E:Vs}{s:Shared}{a:Addr}{L:List κ}{x:κ}{t:Tok}{Q:Vs}(hS:StG S w s.heap a L)(hroom:L.length+1<scanBound)(h:∀h',Heap.SameBut a s.heap h'->StG S w h' a (addT L x)->Q .none {s with heap:=h',toks:=s.toks+1}):
  wpAny (model P w) A (call (.builtin "set.add") [.ref a,S.vl x t]) Q E s:=by
 have hT:s.TypeIs (.ref a) "set":=by let⟨o,_,_,_,ho,hex,_⟩:=hS;exact⟨o,ho,hex.1⟩
 refine Ju F.slot_set_add hT F.entry_set_add ?_ (F.args_set_add_2 _ _);unfold Builtin.«set.add» Builtin.Frozenset.oneOther;simp only[List.isEmpty_nil,bind_assoc];refine wpAny_bind (Ja ?_);refine wpAny_bind (Ja ?_);refine wpAny_bind ?_;refine Jk ?_;refine wpAny_bind ((S.knd P w).pyHash (k:=x) ((S.is P w x _).mpr ⟨t,rfl⟩) ?_);rw[S.hsh P w x];refine add hS hroom λh' b hsb hS'=>?_
 exact Ja ⟨_,rfl,h h' hsb hS'⟩
end TS
namespace L2
section
variable{X:Cx}
def zul:V->U V->Hp->VK->Prop:=λx vs H Q=>∃p L y,x=.ref p/\vs=[.str y]/\H p=some (.set L)/\L.length+1<scanBound/\Q .non (upd H p (.set (TS.addT L y)))
def zsO:MtR X "set.add" zul:=by
 intro p4 s σ H x vs v us Q I rx rv h;let⟨p,L,y,rfl,rfl,hp,hz,q⟩:=h;cases rx
 let⟨u,rfl,ru⟩:=rv.one;let⟨t,rfl⟩:=ru;have hS:=I.hok p _ hp;refine TS.call_add hS hz λh' k hS'=>?_
 have I2:=I.write (t':=s.toks+1) (x:=p) (e:=p) (o:=.set (TS.addT L y)) (by rw[hp];trivial) (.inl rfl) (λb u ne e=>by rw[k.2 b ne];exact e) (by let⟨o,_,_,_,ho,_⟩:=hS';exact⟨o,ho⟩)
  ((hS'))
 exact⟨.non,_,I2,rfl,q⟩
end
end L2
namespace FL
open L2
def leS(a b:Str):Prop:=ltCps b.cps.toList a.cps.toList=false
variable{a:Str}
theorem zbP{b:Str}:leS a b↔a.cps.toList<=b.cps.toList:=by unfold leS;rw[ltCps_eq];simp
theorem zgU{b c:Str}(h:leS a b)(k:leS b c):leS a c:=by grind [zbP]
theorem zji{b:Str}(h:leS a b)(k:leS b a):a=b:=by have e:=List.le_antisymm (zbP.mp h) (zbP.mp k);let⟨x⟩:=a;simp_all
theorem zgD:∀(p:Str) (l:U Str),risingS p l=true->(p::l).Pairwise leS
 |p,[],_=>by simp
 |p,x::r,h=>by
  have h':(!ltCps x.cps.toList p.cps.toList&&risingS x r)=true:=h;rw[QB,Bool.not_eq_true']at h';have ih:=zgD x r h'.2;refine List.pairwise_cons.mpr ⟨λy hy=>?_,ih⟩;rcases JJ.mp hy with rfl|hy
  ·exact h'.1
  ·exact zgU h'.1 ((List.pairwise_cons.mp ih).1 y hy)
def zgz:∀{l:U Str},sortedS l=true->l.Pairwise leS
 |[],_=>.nil
 |x::r,h=>zgD x r h
def zlc{a b:U Str}(p:a.Perm b)(h:sortedS a=true)(k:sortedS b=true):a=b:=
 List.Perm.eq_of_pairwise (λ_ _ _ _ x y=>zji x y) (zgz h) (zgz k) p
open Classical in
def zhC(L:U Str):U Str:=if h:∃ss:U Str,ss.Perm L/\sortedS ss=true then Classical.choose h else[]
theorem ziN{L ss:U Str}(p:ss.Perm L)(h:sortedS ss=true):zhC L=ss:=by have ex:∃ss:U Str,ss.Perm L/\sortedS ss=true:=⟨ss,p,h⟩;unfold zhC;rw[dif_pos ex];have z:=Classical.choose_spec ex;exact zlc (z.1.trans p.symm) z.2 h
theorem zkX{K:Fg}{F:Hp}:∀(ns:U Str),zD K F (ns.map D.str) (ns.map V.str)
 |[]=>zD.nil
 |n::ns=>zD.cons (by simp only[Dat]) (zkX ns)
noncomputable def kstr:U KD->Option (U Str)
 |[]=>some []
 | .str x::l=>(kstr l).map (x::·)
 |_=>none
def zdy(L:U Str):kstr (L.map KD.str)=some L:=by
 induction L with
 |nil=>rfl
 |cons x L ih=>simp[kstr,ih]
noncomputable def znL:LO
 |[.set l]=>(kstr l).bind λL=>if L.length<64 then some (.lst ((zhC L).map D.str))else none
 |_=>none
section
variable{K:Fg}{X:Cx}{e:Expr}{f:EO D}{pos:Pos}{x:Str}{p p9 p8:Pos}
def zuO(hg:Gl X "set")(hm:X.mg "set"=none):FP K .ow X (.Call (.Name "set" p) [] [] pos) (cst (.set [])):=FP.mk λρ d hf=>by
 cases hf
 refine PE.imp (zjY (p:=p) zng hg hm (by decide+kernel)) λσ H Q h_=>?_
 let⟨F,r,q⟩:=h_;refine⟨rfl,λl hl=>?_⟩;exact q _ _ _ (zG.fresh r.sub hl) ⟨l,rfl,hl,r.sub.free hl,[],qG,rfl⟩
def zph(hc:X.calm=true):vE K X (.builtin "sorted") .ow znL:=by
 refine⟨_,zit hc,λds d F H vs Q e s h k=>?_⟩;unfold znL at e;split at e
 ·rename_i l;cases e1:kstr l with
  |none=>rw[e1]at e;cases e
  |some L=>
   rw[e1]at e;let⟨hz,rfl⟩:=kF e;let⟨v,rfl,h1⟩:=h.one;let⟨a,rfl,M,f,rfl⟩:=h1;rw[zdy]at e1;cases e1
   refine⟨a,L,rfl,f,hz,λl ss hl hp hs=>k _ _ _ (zG.fresh s hl) ⟨l,rfl,hl,s.free hl,_,qG,?_⟩⟩;grind [ziN,zkX]
 ·cases e
noncomputable def addM(i:Nat)(f:EO D):EO (D×En):=λρ=>match ρ[i]?,f ρ with
 |some (some (.ow pp (.set l))),some (.str y)=>(kstr l).bind λL=>if L.length+1<scanBound then some (.non,ρ.set i (some (.ow pp (.set ((TS.addT L y).map KD.str)))))else none
 |_,_=>none
def xadd(i:Nat)(he:FP K .fz X e f)(hN:B0 (X.N[i]?=some x))(hv:K0 (Vis X.env.scope x))(hd:C0 (Y0 2))(hcd:C0 (Y0 4))(hbase:B0 (attributeBase (.Name x p) "add" X.env (eval (.Name x p) X.env)=eval (.Name x p) X.env))(hfew:B0 (((backTo p8 (starEach [e] X.env)).all (λx=>!x.1)&&(backToKw p8 (keywordEach [] X.env)).all (λx=>x.1.isSome)&&decide (([e]:U Expr).length+([]:U Keyword).length+(if([]:U Keyword).isEmpty then 0 else 1)<30))=true))(hline:B0 ((p9.endLine==p8.line)=true))(hs:B0 (starEach [e] X.env=(false,eval e X.env)::starEach [] X.env))(hplain:B0 ((backTo p8 (starEach [] X.env)).any (·.1)=false))(hK:B0 (X.K=K)):
  FX K X (.Call (.Attribute (.Name x p) "add" p9) [e] [] p8) (addM i f):=FX.mk λρ d ρ' hf=>by
 subst hK;unfold addM at hf;split at hf
 ·rename_i pp l y e1 e2;cases e3:kstr l with
  |none=>rw[e3]at hf;cases hf
  |some L=>
   rw[e3]at hf;let⟨hz,hf⟩:=kF hf;cases hf
   refine PE.imp (zjZ PySem.F.plainAttrs_set PySem.F.slot_set_add PySem.F.type_set_add zsO (xQ hN hv hd hcd) (yA (he.h ρ _ e2) xG hs) hbase hfew hline hs hplain) λσ H Q h_=>?_
   let⟨F,r,q⟩:=h_;let⟨a,h1,h2,M,h3,h4⟩:=r.own i _ _ e1;refine⟨_,h1,.inr (.inr (.inr ⟨rfl,M,h3⟩)),F,r,λv F1 H1 g1 r1=>?_⟩;have rg:=r.grow g1;have h3':=g1.hh _ _ h3;rw[h4,zdy]at e3;cases e3
   have ev:=Dat.str_inv (K:=X.K) (F:=F1) r1;subst ev;refine⟨a,L,y,rfl,rfl,h3',hz,?_⟩;let⟨m1,m2⟩:=rg.mut (i:=i) (d':=.set ((TS.addT L y).map KD.str)) e1 h1 ⟨_,qG,rfl⟩;exact q _ _ _ m1 (g1.step.trans m2 r.sub) (Dat.non)
 ·cases hf
end
end FL
namespace L2
section
variable{X:Cx}
noncomputable def ltS(a b:Str):Bool:=decide (a.cps.toList<b.cps.toList)
end
end L2
namespace FL
open L2
def yH(K:Fg)(F H:Hp):U Bool->U D->U V->Prop
 |[],[],[]=>True
 |b::bs,d::ds,v::vs=>(b=true/\zV K F H d v\/b=false/\Dat K F d v)/\yH K F H bs ds vs
 |_,_,_=>False
noncomputable def yV:U Bool->U D->En
 |b::bs,d::ds=>(if b=true then some (.bor d)else some (.dat d))::yV bs ds
 |_,_=>[]
noncomputable def startB(n:Nat)(bs:U Bool)(ds:U D):En:=yV bs ds++List.replicate (n - ds.length) none
noncomputable def SpB(K:Fg)(bs:U Bool)(m:LO):Sp:=λvs H Q _=>∃F ds d,zJ F H/\yH K F H bs ds vs/\m ds=some d/\∀v F' H',zG F H F' H'->Dat K F' d v->Q v H'
noncomputable def xP(mb:EO Fl)(np nn:Nat)(bs:U Bool)(ds:U D):Option D:=if ds.length=np then(match mb (startB nn bs ds)with
 |some (.rt d _)=>some d
 |_=>none)else none
structure FkB(P:Program)(w:World)(K:Fg)(mg:SV)(base:Heap)(x:Str)(ps:U Str)(bs:U Bool)(k:Nat)(m:LO):Prop where
 ex:∃f fd,yP P w K mg base CX0 k f fd ps (SpB K bs m)/\wG K fd ps []/\PySem.W.keepIn K (.ref f)=true/\mg x=some (.ref f)
variable{N:U Str}
section
variable{K:Fg}{F H F' H':Hp}
theorem yH.len:∀{bs:U Bool}{ds:U D} {vs:U V},yH K F H bs ds vs->vs.length=ds.length/\(yV bs ds).length=ds.length
 |[],[],[],_=>⟨rfl,rfl⟩
 |b::bs,d::ds,v::vs,h=>by let⟨h1,h2⟩:=yH.len h.2;exact⟨by simp[h1],by simp[yV,h2]⟩
 |[],_::_,_,h=>by simp[yH]at h
 |[],[],_::_,h=>by simp[yH]at h
 |_::_,[],_,h=>by simp[yH]at h
 |_::_,_::_,[],h=>by simp[yH]at h
theorem yH.get:∀{bs:U Bool}{ds:U D} {vs:U V}{i:Nat} {s:Sl},yH K F H bs ds vs->(yV bs ds)[i]?=some (some s)->∃d v,vs[i]?=some v/\(s=.bor d/\zV K F H d v\/s=.dat d/\Dat K F d v)
 |[],[],[],_,_,_,e=>by simp[yV]at e
 |b::bs,d::ds,v::vs,0,s,h,e=>by
  simp only[yV,List.getElem?_cons_zero,Option.some.injEq]at e;rcases h.1 with⟨rfl,z⟩|⟨rfl,z⟩
  ·rw[if_pos rfl]at e;cases e;exact⟨d,v,rfl,.inl ⟨rfl,z⟩⟩
  ·rw[if_neg (by decide)]at e;cases e;exact⟨d,v,rfl,.inr ⟨rfl,z⟩⟩
 |b::bs,d::ds,v::vs,i+1,s,h,e=>by let⟨d',v',h1,h2⟩:=yH.get (i:=i) (s:=s) h.2 (by simpa[yV]using e);exact⟨d',v',by simpa using h1,h2⟩
 |[],_::_,_,_,_,h,_=>by simp[yH]at h
 |[],[],_::_,_,_,h,_=>by simp[yH]at h
 |_::_,[],_,_,_,h,_=>by simp[yH]at h
 |_::_,_::_,[],_,_,h,_=>by simp[yH]at h
theorem zaL{bs:U Bool}{ds:U D}{vs:U V}(m:yH K F H bs ds vs){i:Nat}{s:Sl}(h:(startB N.length bs ds)[i]?=some (some s)):∃d v,(L2.start N vs)[i]?=some (some v)/\(s=.bor d/\zV K F H d v\/s=.dat d/\Dat K F d v):=by
 unfold startB at h;let⟨l1,l2⟩:=m.len;by_cases hi:i<(yV bs ds).length
 ·rw[List.getElem?_append_left hi]at h;let⟨d,v,h1,h2⟩:=m.get h;refine⟨d,v,?_,h2⟩;unfold L2.start;rw[List.getElem?_append_left (by rw[Jc];simp_all),List.getElem?_map,h1];rfl
 ·rw[List.getElem?_append_right (by simp_all),List.getElem?_replicate]at h;split at h<;>cases h
theorem Rel.startB{bs:U Bool}{ds:U D}{vs:U V}(s:zJ F H)(m:yH K F H bs ds vs):Rel K F H (startB N.length bs ds) (L2.start N vs):=by
 refine⟨s,λi d h=>?_,λi d h=>?_,λi q d h=>?_,λi j q d s a ne h1=>?_,?_⟩
 ·obtain⟨d',v,h1,⟨h2,_⟩|⟨h2,h3⟩⟩:=zaL m h
  ·cases h2
  ·cases h2;exact⟨v,h1,h3⟩
 ·obtain⟨d',v,h1,⟨h2,h3⟩|⟨h2,_⟩⟩:=zaL m h
  ·cases h2;exact⟨v,h1,h3⟩
  ·cases h2
 ·obtain⟨d',v,_,⟨h2,_⟩|⟨h2,_⟩⟩:=zaL m h<;>cases h2
 ·obtain⟨d',v,_,⟨h2,_⟩|⟨h2,_⟩⟩:=zaL m h1<;>cases h2
 ·let⟨l1,l2⟩:=m.len;unfold FL.startB L2.start;simp[l1,l2]
def jE.growB{bs:U Bool}{ds:U D}{vs:U V}{ρ':En}{σ':St}(m:yH K F H bs ds vs)(a:jE (startB N.length bs ds) (L2.start N vs) F H ρ' σ' F' H')(s:zJ F H):zG F H F' H':=by
 have no:∀b,¬xH (startB N.length bs ds) (L2.start N vs) b:=λb ⟨i,p,d,h,_⟩=>by grind [zaL]
 refine⟨a.ff,λb o e=>?_,a.fh,λb o e n=>(a.rest b o e n (no b)).2⟩;cases q:F b with
 |some u=>
  have:=s _ _ q;rw[e]at this;cases this
  exact a.fh _ _ (a.ff _ _ q)
 |none=>exact(a.rest b o e q (no b)).1
end
noncomputable def rdAm(K:Fg)(bs:U Bool)(ρ:En)(ds:U D):TA:=λσ H Q=>∃F,Rel K F H ρ σ/\∀vs F' H',zG F H F' H'->yH K F' H' bs ds vs->Q vs H'
structure FAm(K:Fg)(bs:U Bool)(X:Cx)(es:U Expr)(f:EO (U D)):Prop where
 h:∀ρ ds,f ρ=some ds->PA X es (rdAm K bs ρ ds)
section
variable{K:Fg}{X:Cx}{e:Expr}{es:U Expr}{bs:U Bool}{f:EO D}{fs:EO (U D)}{pos p:Pos}{x:Str}{ps:U Str}{k j:Nat}{m:LO}
def mnil:FAm K [] X [] zC:=FAm.mk λρ ds hf=>PA.imp xG λσ H Q ⟨F,r,q⟩=>by
 cases hf
 exact q [] F H (zG.refl r.sub) trivial
def zkb(h1:FP K .fz X e f)(h2:FAm K bs X es fs)(hs:B0 (starEach (e::es) X.env=(false,eval e X.env)::starEach es X.env)):FAm K (false::bs) X (e::es) (zA f fs):=FAm.mk λρ ds hf=>by
 let⟨d,l,e1,e2,rfl⟩:=zbG hf;refine PA.imp (yA (h1.h ρ d e1) (h2.h ρ l e2) hs) λσ H Q h_=>?_
 let⟨F,r,q⟩:=h_;refine⟨F,r,λv F1 H1 g1 r1=>⟨F1,r.grow g1,λvs F2 H2 g2 r2=>?_⟩⟩;exact q (v::vs) F2 H2 (g1.trans g2) ⟨.inr ⟨rfl,Dat.mono g2.ff r1⟩,r2⟩
def zsP(h1:FP K .br X e f)(h2:FAm K bs X es fs)(hs:B0 (starEach (e::es) X.env=(false,eval e X.env)::starEach es X.env)):FAm K (true::bs) X (e::es) (zA f fs):=FAm.mk λρ ds hf=>by
 let⟨d,l,e1,e2,rfl⟩:=zbG hf;refine PA.imp (yA (h1.h ρ d e1) (h2.h ρ l e2) hs) λσ H Q h_=>?_
 let⟨F,r,q⟩:=h_;refine⟨F,r,λv F1 H1 g1 r1=>⟨F1,r.grow g1,λvs F2 H2 g2 r2=>?_⟩⟩;exact q (v::vs) F2 H2 (g1.trans g2) ⟨.inl ⟨rfl,zV.mono g2.ff g2.hh r1⟩,r2⟩
def fkB(G:FkB X.prog X.w X.K X.mg X.base x ps bs k m)(hr:jK j X.A)(ha:FAm K bs X (e::es) fs)(hle:k<=j:=by first|decide|lia)(hg:B0 (Gl X x))(hK:B0 (X.K=K))(H1:∀{f:Addr}{fd:FuncData} {t:TA},yP X.prog X.w X.K X.mg X.base CX0 k f fd ps (SpB K bs m)->jK k X.A->Gl X x->X.mg x=some (.ref f)->PySem.W.keepIn X.K (.ref f)=true->wG X.K fd ps []->PA X (e::es) t->PE X (.Call (.Name x p) (e::es) [] pos) (znG (SpB K bs m) [] E0 t):=by exact λF hr hg hm hk hb ha=>zhP F hr hg hm hk hb .nil zqF ha):
  FP K .fz X (.Call (.Name x p) (e::es) [] pos) (cL m fs):=FP.mk λρ d hf=>by
 subst hK;let⟨f,fd,Fk,hb,hk,hm⟩:=G.ex;let⟨l,e1,e2⟩:=zcS hf;refine PE.imp (H1 Fk (hr.mono hle) hg hm hk hb (ha.h ρ l e1)) λσ H Q ⟨F,r,q⟩=>⟨F,r,λvs F1 H1 g1 r1=>?_⟩
 exact⟨F1,l,d,g1.fh,by simp[*],e2,λv F2 H2 g2 h2=>q v F2 H2 (g1.trans g2) h2⟩
end
abbrev FqB(Z:ZZ):=FkB Z.P Z.w Z.K Z.mg Z.base
section
variable{p:Program}{I:U Nat}{Z:ZZ}{x:Str}{ps:U Str}{bs:U Bool}{k np nn j:Nat}{mb:Nat->EO Fl}{m:LO}
def mkB(F:FNs p I Z)(i:Nat)(N:U Str)(hb:N.Nodup->∀(f:Addr) (n:Nat) (cdv:Value) (A:Around) (outer:U Env) (s:Shared) (H:Hp) (E:XK),jK k (A.deeper (envOfC x (kQ (jU p i)) s.heap.objs.size f cdv))->FSs Z.K .fz (vZ CX0 Z.P Z.w Z.K Z.mg Z.base N x (kQ (jU p i)) f cdv A outer s H E).nox (wT (jU p i)) (mb n))(hnp:B0 (ps.length=np))(hnn:B0 (N.length=nn))(S:nA N ps (kQ (jU p i)):=by exact⟨rfl,rfl,rfl,by decide+kernel,rfl,by decide+kernel,by decide+kernel⟩)(T:Df p I i x ps:=by exact dfo):
  FqB Z x ps bs (k+1) (xP (mb zI) np nn bs):=by
 subst hnp hnn;let⟨f,fd,a,Fn⟩:=F i T.hi x T.hn;refine⟨_,_,?_,Fn.binds T.hB,Fn.kp,a⟩;have inv:∀{ds d},xP (mb zI) ps.length N.length bs ds=some d->ds.length=ps.length/\∃ρ',mb zI (startB N.length bs ds)=some (.rt d ρ'):=λ{ds d} h=>by
  unfold xP at h;split at h
  ·rename_i hl;split at h
   ·rename_i d' ρ' e;cases h;exact⟨hl,ρ',e⟩
   ·cases h
  ·cases h
 refine Fn.ok S (λvs H Q E h=>?_) (λcdv A outer s H vs Q E hr h=>?_)
 ·let⟨F,ds,d,_,q,e,_⟩:=h;rw[q.len.1];exact(inv e).1
 let⟨F,ds,d,sub,qd,e,k⟩:=h;let⟨_,ρ',h⟩:=inv e;exact⟨_,(hb S.nd f zI cdv A outer s H E hr).h _ _ h,F,Rel.startB sub qd,λv σ' F' H' r' s' res=>k v F' H' (s'.growB qd sub) res⟩
end
end FL
namespace L2
structure Fnd(P:Program)(w:World)(A:Around)(s:Shared)(key:Value)(hs:Int)(es:Array DictEntry)(f:Nat->Bool):Prop where
 eq:∀i (hi:i<es.size) {Q:Bool->Shared->Prop}{E:Vs},Q (f i) s->wpAny (model P w) A (eqBool es[i].key key) Q E s
 hash:∀i (hi:i<es.size),f i=true->es[i].hash=hs
 one:∀i j,i<es.size->j<es.size->f i=true->f j=true->i=j
 qk:∀{Q:Bool->Shared->Prop}{E:Vs},Q true s->wpAny (model P w) A (eqIsQuiet 8 key) Q E s
 qe:∀i (hi:i<es.size) {Q:Bool->Shared->Prop}{E:Vs},Q true s->wpAny (model P w) A (eqIsQuiet 8 es[i].key) Q E s
 same:∀i (hi:i<es.size),es[i].key=key->es[i].hash=hs
 kd:(∃i t,key=.int i t)\/(∃x t,key=.str x t)\/∃a,key=.ref a
 str:∀x t,key=.str x t->∀i (hi:i<es.size),es[i].key.isStr x=f i
variable{Q:Bool->Shared->Prop}{o:Obj}{ep:Nat}
section
variable{P:Program}{w:World}{A:Around}{E:Vs}{s:Shared}{key:Value}{hs:Int}{es:Array DictEntry}{f:Nat->Bool}
def Fnd.tell(L:Fnd P w A s key hs es f){st:U Value}(h:∀v∈st,∃i,∃hi:i<es.size,v=es[i].key)(q:Q false s):wpAny (model P w) A (tableMayTell key st) Q E s:=by
 unfold tableMayTell;split
 ·exact Ja q
 refine wpAny_bind (L.qk ?_);refine wpAny_bind (wpAny_forIn_list _ (λrest r s'=>(s'=s/\r=(none,()))/\∀v∈rest,∃i,∃hi:i<es.size,v=es[i].key) _ ?_ ?_ _ _ ⟨⟨rfl,rfl⟩,h⟩)
 ·rintro x rest r s' ⟨⟨rfl,rfl⟩,hr⟩;let⟨i,hi,rfl⟩:=hr x (by simp);refine wpAny_bind (L.qe i hi ?_);simp only[Bool.not_true,Bool.false_eq_true,if_false];exact Ja ⟨⟨rfl,rfl⟩,λv hv=>hr v (by simp[hv])⟩
 ·rintro r s' ⟨⟨rfl,rfl⟩,_⟩;exact Ja q
def Fnd.find(L:Fnd P w A s key hs es f){d:Addr}(ho:s.heap.get? d=some o)(hd:o.data=.dict es ep){Q:Option Nat->Shared->Prop}(h0:(∀i,i<es.size->f i=false)->Q none s)(h1:∀i,i<es.size->f i=true->Q (some i) s):wpAny (model P w) A (dictFind d key hs) Q E s:=by
 have inPl:∀i,i<es.size->f i=true->i∈placesWithHash es.size (λi=>es[i]?.map (·.hash)) hs:=λi hi e=>by unfold placesWithHash;rw[Wj];exact⟨List.mem_range.mpr hi,by dsimp only;rw[Array.getElem?_eq_getElem hi];simp[L.hash i hi e]⟩
 have ofPl:∀i,i∈placesWithHash es.size (λi=>es[i]?.map (·.hash)) hs->∃hi:i<es.size,es[i].hash=hs:=λi hi=>by unfold placesWithHash at hi;grind
 have ndP:(placesWithHash es.size (λi=>es[i]?.map (·.hash)) hs).Nodup:=List.nodup_range.sublist List.filter_sublist;unfold dictFind
 try with_reducible refine Jk ?_
 refine wpAny_bind (QZ ho hd ?_);generalize hpl:placesWithHash es.size (λi=>es[i]?.map (·.hash)) hs=pl at*;have stOk:∀v∈pl.filterMap λi=>es[i]?.map (·.key),∃i,∃hi:i<es.size,v=es[i].key:=λv hv=>by grind
 have plain:wpAny (model P w) A (dictWalkPlain d key hs es pl) Q E s:=by
  unfold dictWalkPlain;refine wpAny_bind (wpAny_forIn_list _ (λrest b s'=>(s'=s/\b=(none,()))/\(∀i∈rest,∃hi:i<es.size,es[i].hash=hs)/\∀i,i<es.size->f i=true->i∈rest) _ ?_ ?_ _ _ ⟨⟨rfl,rfl⟩,ofPl,inPl⟩)
  ·rintro x rest b s' ⟨⟨rfl,rfl⟩,r1,r2⟩;let⟨hx,hh⟩:=r1 x (by simp);rw[Array.getElem?_eq_getElem hx];dsimp only;rw[if_pos (by simp[hh])];refine wpAny_bind (QH ho hd (wpAny_bind (L.eq x hx (wpAny_bind (QH ho hd ?_)))));rw[if_neg (by simp)];cases e:f x with
   |true=>exact wpAny_bind (JH (Ja (Ja (h1 x hx e))))
   |false=>
    refine wpAny_bind (JH (Ja ⟨⟨rfl,rfl⟩,λi hi=>r1 i (by simp[hi]),λi hi q=>?_⟩));rcases JJ.mp (r2 i hi q)with rfl|z
    ·rw[e]at q;cases q
    ·exact z
  ·rintro b s' ⟨⟨rfl,rfl⟩,_,r2⟩;refine Ja (h0 λi hi=>?_);cases e:f i with
   |false=>rfl
   |true=>exact absurd (r2 i hi e) (by simp)
 have byVal:∀x t,key=.str x t->wpAny (model P w) A (foundByValue d key es x) Q E s:=λx t ek=>by
  unfold foundByValue;cases e:es.findIdx? (·.key.isStr x)with
  |none=>
   refine Ja (h0 λi hi=>?_);rw[←L.str x t ek i hi]
   have:=Array.findIdx?_eq_none_iff.mp e es[i] (Array.getElem_mem hi);simpa using this
  |some i=>
   let⟨hi,e1,_⟩:=Array.findIdx?_eq_some_iff_getElem.mp e;have fi:f i=true:=by rw[←L.str x t ek i hi];exact e1
   dsimp only;rw[Array.getElem?_eq_getElem hi];dsimp only;refine wpAny_bind (QH ho hd (wpAny_bind (L.eq i hi (wpAny_bind (QH ho hd ?_)))));rw[if_neg (by simp),fi];exact wpAny_bind (JH (Ja (h1 i hi fi)))
 clear hpl;dsimp only;generalize pl.filterMap (λi=>es[i]?.map (·.key))=stl at stOk ⊢;obtain⟨kk,ekk⟩:∃kk:Value×Unit,key=kk.1:=⟨(key,()),rfl⟩;subst ekk;apply(λ(f:wpAny (model P w) A _ Q E s->wpAny (model P w) A _ Q E s) p=>f p)
 ·intro g;split
  ·rename_i x t h;refine Wm (λ_=>byVal x t h) λ_=>Wm (λ_=>plain) λ_=>?_
   split
   ·simp_all
   ·exact g
  ·refine Wm (λ_=>plain) λ_=>?_
   split
   ·refine Wm (λz=>?_) λ_=>g
    rw[←Array.any_toList,List.any_eq_true]at z;let⟨e,hin,hc⟩:=z;let⟨i,hi,rfl⟩:=Array.mem_iff_getElem.mp (Array.mem_toList_iff.mp hin);simp only[Bool.and_eq_true,beq_iff_eq,bne_iff_ne,ne_eq]at hc;exact absurd (L.same i hi hc.1) hc.2
   ·exact g
 refine(λg:wpAny (model P w) A _ Q E s=>Wm (λ_=>wpAny_bind (Ja g)) λ_=>wpAny_bind (L.tell stOk g)) ?_;rw[if_neg (by simp)];refine wpAny_bind (wpAny_forIn_list _ (λrest b s'=>(s'=s/\b.1=none)/\rest.Nodup/\(∀i∈rest,∃hi:i<es.size,es[i].hash=hs)/\
  ((b.2=none/\∀i,i<es.size->f i=true->i∈rest)\/∃j,b.2=some j/\j<es.size/\f j=true/\j∉rest)) _ ?_ ?_ _ _ ⟨⟨rfl,rfl⟩,ndP,ofPl,.inl ⟨rfl,inPl⟩⟩)
 ·rintro x rest ⟨b1,b2⟩ s' ⟨⟨rfl,rfl⟩,r0,r1,r2⟩;let⟨hx,hh⟩:=r1 x (by simp);let⟨r3,r4⟩:=JR.mp r0;rw[Array.getElem?_eq_getElem hx];dsimp only;rw[if_pos (by simp[hh])];refine wpAny_bind (QH ho hd (wpAny_bind (L.eq x hx (wpAny_bind (QH ho hd ?_)))));rw[if_neg (by simp)];cases e:f x with
  |true=>
   rcases r2 with⟨r5,_⟩|⟨j,r5,j1,j2,j3⟩
   ·have r5:b2=none:=r5;subst r5;simp only[if_true,Option.isSome_none,Bool.false_eq_true,if_false];refine wpAny_bind (JH ?_);split
    ·exact Ja (Ja (h1 x hx e))
    ·exact Ja ⟨⟨rfl,rfl⟩,r4,λi hi=>r1 i (by simp[hi]),.inr ⟨x,rfl,hx,e,r3⟩⟩
   ·exact absurd (L.one j x j1 hx j2 e) (λz=>j3 (by simp[z]))
  |false=>
   simp only[Bool.false_eq_true,if_false,Bool.false_and];refine wpAny_bind (JH (Ja ⟨⟨rfl,rfl⟩,r4,λi hi=>r1 i (by simp[hi]),?_⟩));rcases r2 with⟨r5,r2⟩|⟨j,r5,j1,j2,j3⟩
   ·refine .inl ⟨r5,λi hi q=>?_⟩;rcases JJ.mp (r2 i hi q)with rfl|z
    ·rw[e]at q;cases q
    ·exact z
   ·exact .inr ⟨j,r5,j1,j2,λz=>j3 (by simp[z])⟩
 ·rintro⟨b1,b2⟩ s' ⟨⟨rfl,rfl⟩,_,_,r2⟩;rcases r2 with⟨r5,r2⟩|⟨j,r5,j1,j2,_⟩
  ·have r5:b2=none:=r5;subst r5;refine Ja (h0 λi hi=>?_);cases e:f i with
   |false=>rfl
   |true=>exact absurd (r2 i hi e) (by simp)
  ·have r5:b2=some j:=r5;subst r5;exact Ja (h1 j j1 j2)
end
def gIs(P:Program)(w:World)(h:Heap):zP->Value->Prop
 | .inl k,u=>(jR P w).is k u=true
 | .inr l,u=>∃b,u=.ref b/\IsTupleKey (jR P w) h l b
section
variable{P:Program}{w:World}{H:Hp}{h:Heap}{a:Addr}
def ztc{ks:U Key}(ok:HOk P w H h)(e:H a=some (.tup (ks.map kV))):IsTupleKey (jR P w) h ks a:=by let⟨_,p6,r,o,h1,h2,n,h3⟩:=((ok a _ e));exact⟨o,p6.toArray,n,h1,h2,h3,by simpa using zgY r⟩
def KAt.is(ok:HOk P w H h):∀{k:zP}{u:Value},KAt H k u->gIs P w h k u
 | .inl _,_,r=>zig r
 | .inr _,_,⟨b,e,q⟩=>⟨b,e,ztc ok q⟩
def zme{k:Key}{b:Addr}(h:(jR P w).is k (.ref b)=true):False:=by have:=(jR P w).byValue _ _ h;cases this
theorem gIs.inj:∀{k k':zP}{u:Value},gIs P w h k u->gIs P w h k' u->k=k'
 | .inl a,.inl b,u,x,y=>JT _ ((jR P w).inj u a b x y)
 | .inl a,.inr l,u,x,⟨b,e,_⟩=>by subst e;exact(zme x).elim
 | .inr l,.inl a,u,⟨b,e,_⟩,y=>by subst e;exact(zme y).elim
 | .inr l,.inr m,u,⟨b,e,x⟩,⟨c,e',y⟩=>by subst e;cases e';rw[x.inj y]
def tupK{l:U Key}{b:Addr}(x:IsTupleKey (jR P w) h l b):∃p6,h.IsTuple b p6:=by let⟨o,p6,n,h1,h2,h3,_⟩:=x;exact⟨p6,o,h1,h2,n,h3⟩
end
def gDr:zP->Nat
 | .inl _=>1
 | .inr l=>l.length+1
variable{es:Array DictEntry}{xs:U (zP×Value×Value)}
section
variable{P:Program}{w:World}{A:Around}{E:Vs}{s:Shared}{k k':zP}{u v:Value}
def gPy{Q:Int->Shared->Prop}(hu:A.units<cLine)(x:gIs P w s.heap k u)(q:Q (zmK P w k) {s with toks:=s.toks+gDr k}):wpAny (model P w) A (pyHash u) Q E s:=by
 cases k with
 |inl k=>exact(jR P w).pyHash x q
 |inr l=>let⟨b,rfl,x⟩:=x;exact wpAny_pyHash_tuple hu x q
def gEq(hu:A.units<cLine)(x:gIs P w s.heap k u)(y:gIs P w s.heap k' v)(q:Q (decide (k=k')) s):wpAny (model P w) A (eqBool u v) Q E s:=by
 cases k with
 |inl k=>
  cases k' with
  |inl k'=>exact(jR P w).eqBool x y (by simp_all)
  |inr l=>
   let⟨b,rfl,y⟩:=y;let⟨p6,y⟩:=tupK y;rcases vV x with⟨i,t,rfl,rfl⟩|⟨i,t,rfl,rfl⟩
   ·exact SeqAt.EqAt.int_tuple i t y hu _ _ _ _ q
   ·exact SeqAt.EqAt.str_tuple i t y hu _ _ _ _ q
 |inr l=>
  let⟨b,rfl,x⟩:=x;cases k' with
  |inl k'=>
   let⟨p6,x⟩:=tupK x;rcases vV y with⟨i,t,rfl,rfl⟩|⟨i,t,rfl,rfl⟩
   ·exact SeqAt.EqAt.tuple_int i t x hu _ _ _ _ q
   ·exact SeqAt.EqAt.tuple_str i t x hu _ _ _ _ q
  |inr m=>
   let⟨c,rfl,y⟩:=y;exact wpAny_eqBool_tuple hu x y (by simp_all)
def gQt(x:gIs P w s.heap k u)(q:Q true s):wpAny (model P w) A (eqIsQuiet 8 u) Q E s:=by
 cases k with
 |inl k=>rw[eqIsQuiet_byValue 8 ((jR P w).byValue _ _ x)];exact Ja q
 |inr l=>let⟨b,rfl,x⟩:=x;exact wpAny_eqIsQuiet_tuple x q
def gFnd(hu:A.units<cLine)(he:es.toList=xs.map (xZ P w))(hi:∀x∈xs,gIs P w s.heap x.1 x.2.1)(hn:(xs.map (·.1)).Nodup)(x:gIs P w s.heap k u):
  Fnd P w A s u (zmK P w k) es (λi=>decide ((xs[i]?).map (·.1)=some k)):=by
 have hz:es.size=xs.length:=by rw[←JB,he,Jc]
 have at':∀i (h:i<es.size),∃y,xs[i]?=some y/\es[i]=xZ P w y/\gIs P w s.heap y.1 y.2.1:=λi h=>by
  refine⟨xs[i],List.getElem?_eq_getElem _,?_,hi _ (Qh _)⟩
  have:es[i]=es.toList[i]'(by simpa using h):=by simp
  rw[this];simp[he]
 refine⟨λi h Q E q=>?_,λi h e=>?_,λi j h1 h2 e1 e2=>?_,gQt x,λi h Q E q=>?_,λi h e=>?_,?_,λz t ez i h=>?_⟩
 ·let⟨y,e1,e2,e3⟩:=at' i h;rw[e2];refine gEq hu e3 x ?_;simp_all
 ·let⟨y,e1,e2,e3⟩:=at' i h;rw[e1]at e;simp at e;rw[e2,←e];rfl
 ·have e1:=Qt e1;have e2:=Qt e2;rw[←List.getElem?_map]at e1 e2;exact(List.getElem?_inj (by rw[Jc,←hz];exact h1) hn).mp (e1.trans e2.symm)
 ·let⟨y,e1,e2,e3⟩:=at' i h;rw[e2];exact gQt e3 q
 ·let⟨y,e1,e2,e3⟩:=at' i h;rw[e2]at e ⊢;have e:y.2.1=u:=e;rw[e]at e3;rw[←gIs.inj e3 x];rfl
 ·cases k with
  |inl k=>
   rcases vV x with⟨i,t,rfl,rfl⟩|⟨i,t,rfl,rfl⟩
   ·exact .inl ⟨_,_,rfl⟩
   ·exact .inr (.inl ⟨_,_,rfl⟩)
  |inr l=>let⟨b,rfl,x⟩:=x;exact .inr (.inr ⟨_,rfl⟩)
 ·subst ez;let⟨y,e1,e2,e3⟩:=at' i h;rw[e2,e1];show y.2.1.isStr z=_;obtain⟨k0,rfl⟩:∃k0,k=.inl k0:=by
   cases k with
   |inl k0=>exact⟨k0,rfl⟩
   |inr l=>let⟨b,e,_⟩:=x;cases e
  let⟨g,y1,y2⟩:=y;cases g with
  |inl g=>
   have:=(jR P w).strs k0 z t y1 x;rw[←this,KeyKind.is_eq_decide (knd:=jR P w) (k:=g) e3];simp[eq_comm]
  |inr m=>
   let⟨b,e,_⟩:=e3;have e:y1=.ref b:=e;subst e;simp[Value.isStr]
end
noncomputable def gAt(xs:U (zP×Value×Value))(k:zP):Option Value:=(xs.find? λx=>decide (x.1=k)).map (·.2.2)
noncomputable def vO(k:zP)(v:Value)(x:zP×Value×Value):zP×Value×Value:=if x.1=k then(x.1,x.2.1,v)else x
def gSt(xs:U (zP×Value×Value))(k:zP)(u v:Value):U (zP×Value×Value):=if(gAt xs k).isSome then xs.map (vO k v)else xs++[(k,u,v)]
def gZ(P:Program)(w:World)(h:Heap)(d:Addr)(xs:U (zP×Value×Value)):Prop:=
 ∃o es ep,h.get? d=some o/\o.ExactDict/\o.data=.dict es ep/\es.toList=xs.map (xZ P w)/\(xs.map (·.1)).Nodup
theorem zfZ:∀{xs:U (zP×Value×Value)}{i:Nat} {y:zP×Value×Value}{k:zP},(xs.map (·.1)).Nodup->xs[i]?=some y->y.1=k->gAt xs k=some y.2.2
 |[],_,_,_,_,e,_=>by simp at e
 |x::xs,0,y,k,_,e,q=>by simp at e;subst e;simp[gAt,q]
 |x::xs,i+1,y,k,hn,e,q=>by
  rw[Jd,JR]at hn
  have:=zfZ hn.2 e q;grind [gAt]
def zoO{k:zP}(h:∀x∈xs,¬x.1=k):gAt xs k=none:=by
 have:xs.find? (λx=>decide (x.1=k))=none:=by rw[List.find?_eq_none];intro x hx;simp[h x hx]
 simp[gAt,this]
def zmJ(k:zP)(v:Value)(xs:U (zP×Value×Value)):(xs.map (vO k v)).map (·.1)=xs.map (·.1):=by rw[Jq];exact JD λx _=>by simp only[Function.comp,vO];split<;>rfl
section
variable{P:Program}{w:World}{A:Around}{E:Vs}{s:Shared}{d:Addr}{xs:U (zP×Value×Value)}{k:zP}{u v:Value}
def gZ.ty(T:gZ P w s.heap d xs):s.TypeIs (.ref d) "dict":=let⟨o,_,_,e,c,_⟩:=T;⟨o,e,c.1⟩
theorem gMod{f:zP×Value×Value->DictEntry}{g:DictEntry->DictEntry}(hg:∀x:zP×Value×Value,x.1=k->g (f x)=f (x.1,x.2.1,v)):
  ∀{xs:U (zP×Value×Value)}{j:Nat} {y:zP×Value×Value},(xs.map (·.1)).Nodup->xs[j]?=some y->y.1=k->(xs.map f).modify j g=(xs.map (vO k v)).map f
 |[],_,_,_,e,_=>by simp at e
 |x::xs,0,y,hn,e,q=>by
  rw[Jd,JR]at hn;simp at e;subst e;have r:xs.map (vO k v)=xs:=by
   conv=>rhs;rw[←List.map_id xs]
   refine JD λz hz=>?_
   have:¬z.1=k:=λc=>hn.1 (by rw[q,←c];exact Jv.mpr ⟨z,hz,rfl⟩)
   simp[vO,this]
  rw[Jd,Jd,Jd,r,vO,if_pos q,List.modify_zero_cons,hg x q]
 |x::xs,j+1,y,hn,e,q=>by
  rw[Jd,JR]at hn;simp only[List.getElem?_cons_succ]at e;have hx:¬x.1=k:=λz=>hn.1 (by rw[z,←q];exact Jv.mpr ⟨y,List.mem_of_getElem? e,rfl⟩)
  rw[Jd,Jd,Jd,vO,if_neg hx,List.modify_succ_cons,gMod hg hn.2 e q]
def gEs(he:es.toList=xs.map (xZ P w))(i:Nat):es[i]?=(xs[i]?).map (xZ P w):=by rw[←Array.getElem?_toList,he,List.getElem?_map]
def zrh(hu:A.units<cLine)(ho:s.heap.get? d=some o)(hd:o.data=.dict es ep)(he:es.toList=xs.map (xZ P w))(hi:∀x∈xs,gIs P w s.heap x.1 x.2.1)(hn:(xs.map (·.1)).Nodup)(x:gIs P w s.heap k u){Q:Option Nat->Shared->Prop}(h0:gAt xs k=none->Q none s)(h1:∀i y,xs[i]?=some y->y.1=k->gAt xs k=some y.2.2->Q (some i) s):wpAny (model P w) A (dictFind d u (zmK P w k)) Q E s:=by
 have hz:es.size=xs.length:=by grind [List.length_map]
 refine(gFnd hu he hi hn x).find ho hd (λh=>h0 (zoO λy hy e=>?_)) λi hi' e=>?_
 ·let⟨i,hl,rfl⟩:=Qg.mp hy
  have:=h i (by simp[*]);rw[List.getElem?_eq_getElem hl]at this;simp[e]at this
 ·have e:=Qt e;rw[List.getElem?_eq_getElem (by simp_all)]at e;have e:(xs[i]'(by exact Jp ‹_› (by simp[*]))).1=k:=by simpa using e
  exact h1 i _ (List.getElem?_eq_getElem (by exact Jp ‹_› (by simp[*]))) e (zfZ hn (List.getElem?_eq_getElem (by exact Jp ‹_› (by simp[*]))) e)
def gGet(hu:A.units<cLine)(T:gZ P w s.heap d xs)(hi:∀x∈xs,gIs P w s.heap x.1 x.2.1)(x:gIs P w s.heap k u){Q:Option Value->Shared->Prop}(q:Q (gAt xs k) {s with toks:=s.toks+gDr k}):
  wpAny (model P w) A (dictGet d u) Q E s:=by
 let⟨o,es,ep,ho,hc,hd,he,hn⟩:=T;unfold dictGet
 try with_reducible refine Jk ?_
 refine wpAny_bind (gPy hu x (wpAny_bind (zrh (s:={s with toks:=s.toks+gDr k}) hu ho hd he hi hn x (λe=>?_) λi y e1 e2 e3=>?_)))
 ·rw[e]at q;exact Ja q
 ·rw[e3]at q;refine wpAny_bind (QZ ho hd ?_);rw[gEs he,e1];exact Ja q
def gNew(hx:gAt xs k=none)(hn:(xs.map (·.1)).Nodup):((xs++[(k,u,v)]).map (·.1)).Nodup:=by rw[Jr,Wv];refine⟨hn,by simp,λa ha b hb e=>?_⟩;simp at hb;subst hb e;let⟨y,hy,e⟩:=Jv.mp ha;let⟨i,hl,rfl⟩:=Qg.mp hy;rw[zfZ hn (List.getElem?_eq_getElem hl) e]at hx;cases hx
def gSet(hu:A.units<cLine)(T:gZ P w s.heap d xs)(hi:∀x∈xs,gIs P w s.heap x.1 x.2.1)(x:gIs P w s.heap k u)(hz:xs.length<=sizeLine){Q:Unit->Shared->Prop}(q:∀h',gZ P w h' d (gSt xs k u v)->Heap.SameBut d s.heap h'->Q () {s with heap:=h',toks:=s.toks+gDr k}):wpAny (model P w) A (dictSet d u v) Q E s:=by
 let⟨o,es,ep,ho,hc,hd,he,hn⟩:=T;have hsz:es.size=xs.length:=by grind [List.length_map]
 unfold dictSet dictSetHashed
 try with_reducible refine Jk ?_
 refine wpAny_bind (gPy hu x ?_)
 try with_reducible refine Jk ?_
 refine wpAny_bind (zrh (s:={s with toks:=s.toks+gDr k}) hu ho hd he hi hn x (λe=>?_) λi y e1 e2 e3=>?_)
 ·refine wpAny_bind (JH (wpAny_updateDictKeys ho hd (q _ ⟨_,_,ep+1,Heap.get?_update_self _ ho (Obj.isFreed_of_dict (WB hd _)),hc.mapDictKeys _,WB hd _,?_,?_⟩ (Qa ..))))
  ·unfold gSt;rw[e];simp[he,xZ]
  ·unfold gSt;rw[e];exact gNew e hn
 ·refine wpAny_bind (JH (wpAny_bind (wpAny_updateDict ho hd (wpAny_point (q _ ⟨_,_,ep,Heap.get?_update_self _ ho (Obj.isFreed_of_dict (Obj.data_mapDict hd _)),hc.mapDict _,Obj.data_mapDict hd _,?_,?_⟩ (Qa ..))))))
  ·unfold gSt;rw[e3,if_pos (show(some y.2.2).isSome=true from rfl)]
   have:=gMod (v:=v) (f:=xZ P w) (g:=λe:DictEntry=>{e with val:=v}) (λz ez=>rfl) hn e1 e2;rw[←he]at this;let⟨l⟩:=es;simpa using this
  ·unfold gSt;rw[e3,if_pos (show(some y.2.2).isSome=true from rfl),zmJ];exact hn
def gSdf(hu:A.units<cLine)(T:gZ P w s.heap d xs)(hi:∀x∈xs,gIs P w s.heap x.1 x.2.1)(x:gIs P w s.heap k u)(hz:xs.length<=sizeLine){Q:Vs}(q1:∀y,gAt xs k=some y->Q y {s with toks:=s.toks+gDr k})(q0:gAt xs k=none->∀h',gZ P w h' d (xs++[(k,u,v)])->Heap.SameBut d s.heap h'->Q v {s with heap:=h',toks:=s.toks+gDr k}):wpAny (model P w) A (dictSetDefault d u v) Q E s:=by
 let⟨o,es,ep,ho,hc,hd,he,hn⟩:=T;have hsz:es.size=xs.length:=by grind [List.length_map]
 unfold dictSetDefault
 try with_reducible refine Jk ?_
 refine wpAny_bind (gPy hu x (wpAny_bind (zrh (s:={s with toks:=s.toks+gDr k}) hu ho hd he hi hn x (λe=>?_) λi y e1 e2 e3=>?_)))
 ·refine wpAny_bind (JH (wpAny_bind (wpAny_updateDictKeys ho hd (Ja (q0 e _ ⟨_,_,ep+1,Heap.get?_update_self _ ho (Obj.isFreed_of_dict (WB hd _)),hc.mapDictKeys _,WB hd _,?_,?_⟩ (Qa ..))))))
  ·simp[he,xZ]
  ·exact gNew e hn
 ·refine wpAny_bind (QZ ho hd ?_);rw[gEs he,e1];exact wpAny_bind (JH (Ja (q1 _ e3)))
end
def yU(ks:U (Key×V)):U (zP×V):=ks.map λp=>(.inl p.1,p.2)
def gJ(ks:U (Key×V)):U V:=ks.map λp=>kV p.1
def GRd(H:Hp)(a:Addr)(p5:U (zP×V))(ys:U V):Prop:=(∃ks,Rd H a (.dK ks)/\p5=yU ks/\ys=gJ ks)\/Rd H a (.dT p5 ys)
def GW(H:Hp)(a:Addr)(p5:U (zP×V))(ys:U V):Prop:=(∃ks,H a=some (.dK ks)/\p5=yU ks/\ys=gJ ks)\/H a=some (.dT p5 ys)
def xJ(p5:U (zP×V))(ys:U V)(k:zP)(y:V):U V:=if(qR p5 k).isSome then ys else ys++[y]
variable{H:Hp}{p5:U (zP×V)}{ys:U V}
def GW.rd{a:Addr}(h:GW H a p5 ys):GRd H a p5 ys:=h.imp (λ⟨ks,e,r⟩=>⟨ks,.inl e,r⟩) .inl
def wF(H:Hp):zP->V->Prop
 | .inl k,y=>y=kV k
 | .inr l,y=>∃b,y=.ref b/\H b=some (.tup (l.map kV))
variable{y:V}{u:Value}
def wF.at:∀{k:zP},wF H k y->zR y u->KAt H k u
 | .inl k,e,r=>by subst e;exact r
 | .inr l,⟨b,e,h⟩,r=>by subst e;exact⟨b,r,h⟩
variable{P:Program}{w:World}
def zth{k:Key}(h:(jR P w).is k u=true):zR (kV k) u:=by
 rcases vV h with⟨i,t,rfl,rfl⟩|⟨x,t,rfl,rfl⟩
 ·exact⟨t,rfl⟩
 ·exact⟨t,rfl⟩
section
variable{P:Program}{w:World}{H:Hp}{h:Heap}{a:Addr}
def zok{es:U DictEntry}{vs:U (Key×Value)}(p:Pairs (jR P w) es vs):(∀e∈es,∃k,(jR P w).is k e.key=true/\e.hash=(jR P w).hash k)->∀{p5:U (Key×V)},KV p5 vs->
  ∃xs,es=xs.map (xZ P w)/\(KT H (yU p5) xs/\zN (gJ p5) (xs.map (·.2.1)))/\xs.map (·.1)=vs.map (λq=>Sum.inl q.1):=by
 induction p with
 |nil=>intro _ p5 r;cases r;exact⟨[],rfl,⟨.nil,.nil⟩,rfl⟩
 |@cons e kv es vs h1 h2 _ ih=>
  intro hk p5 r;cases r with
  |@cons q _ p5 _ hr t=>
   let⟨xs,e1,e2,e3⟩:=ih (λe he=>hk e (by simp[he])) t;let⟨k',g1,g2⟩:=hk e (by simp);have ek:k'=kv.1:=(jR P w).inj _ _ _ g1 h1;subst ek;refine⟨(.inl kv.1,e.key,e.val)::xs,?_,⟨.cons ⟨JT Sum.inl hr.1,?_,?_⟩ e2.1,.cons (show zR (kV q.1) e.key by rw[hr.1];exact zth h1) e2.2⟩,?_⟩
   ·rw[Jd,←e1]
    congr 1
    let⟨x1,x2,x3⟩:=e;simp only[xZ,zmK];simp only at g2;rw[g2]
   ·show zR (kV q.1) e.key;rw[hr.1];exact zth h1
   ·show zR q.2 e.val;rw[h2];exact hr.2
   ·rw[Jd,e3];rfl
def KT.isg(ok:HOk P w H h)(r:KT H p5 xs):∀x∈xs,gIs P w h x.1 x.2.1:=by
 induction r with
 |nil=>simp
 |@cons p q _ _ hq _ ih=>
  intro x hx;rcases JJ.mp hx with e|hx
  ·subst e;rw[←hq.1];exact KAt.is ok hq.2.1
  ·exact ih x hx
theorem KT.val(r:KT H p5 xs)(k:zP):vC (qR p5 k) (gAt xs k):=by
 induction r with
 |nil=>exact True.intro
 |@cons p q ps qs hq _ ih=>
  by_cases e:p.1=k
  ·have e':q.1=k:=hq.1.symm.trans e;rw[zaT e,show gAt (q::qs) k=some q.2.2 by simp[gAt,List.find?_cons,e']];exact hq.2.2
  ·have e':¬q.1=k:=λz=>e (hq.1.trans z)
   rw[zaU e,show gAt (q::qs) k=gAt qs k by simp[gAt,List.find?_cons,e']];exact ih
def KT.repl(r:KT H p5 xs)(k:zP)(ry:zR y u):KT H (p5.map λkv=>if kv.1=k then(kv.1,y)else kv) (xs.map (vO k u)):=by
 induction r with
 |nil=>exact .nil
 |@cons p q _ _ hq _ ih=>
  rw[Jd,Jd];refine .cons ?_ ih;let⟨h1,h2,h3⟩:=hq;unfold vO;by_cases e:p.1=k
  ·rw[if_pos e,if_pos (h1.symm.trans e)];exact⟨h1,h2,ry⟩
  ·rw[if_neg e,if_neg λz=>e (h1.trans z)];exact⟨h1,h2,h3⟩
def KT.put(r:KT H p5 xs){k:zP}{v:Value}(hk:KAt H k u)(ry:zR y v):KT H (qL p5 k y) (gSt xs k u v):=by
 have e:(p5.any λkv=>decide (kv.1=k))=(gAt xs k).isSome:=by rw[zbV,(r.val k).isSome_eq]
 unfold qL gSt;rw[e];by_cases q:(gAt xs k).isSome=true
 ·rw[if_pos q,if_pos q];exact r.repl k ry
 ·rw[if_neg q,if_neg q];exact Paired.snoc r ⟨rfl,hk,ry⟩
def zii(ok:HOk P w H h)(e:GRd H a p5 ys):p5.length<=sizeLine/\(a==sysModules)=false/\∃xs,(KT H p5 xs/\zN ys (xs.map (·.2.1)))/\gZ P w h a xs/\∀x∈xs,gIs P w h x.1 x.2.1:=by
 rcases e with⟨ks,e,rfl,rfl⟩|e
 ·let⟨z,y,vs,rel,o,es,ep,h1,h2,h3,h4,h5,h6⟩:=zky ok e;let⟨xs,e1,e2,e3⟩:=zok (H:=H) h5 (λe he=>h4 e (Array.mem_toList_iff.mp he)) rel;refine⟨by unfold yU;rw[Jc];exact z,y,xs,e2,⟨o,es,ep,h1,h2,h3,e1,?_⟩,e2.1.isg ok⟩;grind
 ·let⟨z,y,xs,r,o,es,ep,h1,h2,h3,h4,h5⟩:=((e.ok ok));exact⟨z,y,xs,r,⟨o,es,ep,h1,h2,h3,h4,h5⟩,KT.isg ok r.1⟩
end
section
variable{X:Cx}{p4:AO}{σ:St}{H:Hp}{s:Shared}{a:Addr}{y v:V}{u r:Value}{A:Around}{E:Vs}{p5:U (zP×V)}{k:zP}{ys:U V}
def zuM{Q:Vs}(hu:A.units+1<cLine)(I:Inv X p4 σ H s)(e:GRd H a p5 ys)(ky:wF H k y)(ry:zR y u)(hv:qR p5 k=some v)(h:∀w' s',Inv X p4 σ H s'->zR v w'->Q w' s'):
  wpAny (Y0 1) A (getItem (.ref a) u) Q E s:=by
 let⟨z,hd,xs,⟨rel,ry0⟩,T,hi⟩:=zii I.hok e;let⟨w',hw,rw'⟩:=vC.some_of (v:=v) (by rw[←hv];exact rel.val k);unfold getItem
 try with_reducible refine Jk ?_
 refine wpAny_bind (wpAny_sequenceKey T.ty (by decide) (wpAny_bind (wpAny_callSpecial?_slot T.ty slot_dict_getitem (Ju slot_dict_getitem T.ty entry_dict_getitem ?_ (args_dict_getitem _ _)))));show wpAny _ _ (dictGet a u>>=_) _ _ s;refine wpAny_bind (gGet hu T hi (KAt.is I.hok (ky.at ry)) ?_);rw[hw];exact Ja ⟨w',rfl,Ja (h w' _ (I.tok _) rw')⟩
def g_wr{h':Heap}{t':Nat}{kvs':U (zP×V)}{ys':U V}(I:Inv X p4 σ H s)(e:GW H a p5 ys)(z:kvs'.length<=sizeLine)(hd:(a==sysModules)=false)(rel:KT H kvs' xs)(ry:zN ys' (xs.map (·.2.1)))(T:gZ X.prog X.w h' a xs)(hs:Heap.SameBut a s.heap h'):
  Inv X p4 σ (upd H a (.dT kvs' ys')) {s with heap:=h',toks:=t'}:=by
 let⟨q,es,ep,hq,h2,h3,h4,h5⟩:=T;refine zgf I (by rcases e with⟨_,e,_⟩|e<;>rw[e]<;>exact True.intro) hs ⟨q,hq⟩ ⟨z,hd,xs,⟨Paired.mapP rel λp q z=>⟨z.1,KAt.mono (λc ys ec=>?_) z.2.1,z.2.2⟩,ry⟩,q,es,ep,hq,h2,h3,h4,h5⟩;rcases e with⟨_,e,_⟩|e
 ·rw[zT (zsM ec e λz=>nomatch z)];exact ec
 ·rw[zT (zsM ec e λz=>nomatch z)];exact ec
def znB(rel:KT H p5 xs)(ry0:zN ys (xs.map (·.2.1)))(ry:zR y u):zN (xJ p5 ys k y) ((gSt xs k u r).map (·.2.1)):=by
 unfold xJ gSt;rw[(rel.val k).isSome_eq];split
 ·rw[Jq,show List.map ((λx=>x.2.1)∘vO k r) xs=xs.map (·.2.1)from JD λx _=>by simp only[Function.comp,vO];split<;>rfl];exact ry0
 ·rw[Jr];exact Paired.snoc ry0 ry
def zuK{Q:Unit->Shared->Prop}(hu:A.units+1<cLine)(I:Inv X p4 σ H s)(e:GW H a p5 ys)(hl:p5.length<sizeLine)(ky:wF H k y)(ry:zR y u)(rv:zR v r)(h:∀s',Inv X p4 σ (upd H a (.dT (qL p5 k v) (xJ p5 ys k y))) s'->Q () s'):
  wpAny (Y0 1) A (setItem (.ref a) u r) Q E s:=by
 let⟨z,hd,xs,⟨rel,ry0⟩,T,hi⟩:=zii I.hok e.rd;have hz:xs.length<=sizeLine:=by rw[←Paired.length rel];exact z
 have hl':(qL p5 k v).length<=sizeLine:=by grind [zao]
 unfold setItem
 try with_reducible refine Jk ?_
 refine wpAny_bind (wpAny_sequenceKey T.ty (by decide) (wpAny_bind (wpAny_callSpecial?_slot T.ty slot_dict_setitem (Ju slot_dict_setitem T.ty entry_dict_setitem ?_ (args_dict_setitem _ _ _)))));refine wpAny_bind (wpAny_notOrdered_dict T.ty ?_);show wpAny _ _ (dictSet a u r>>=_) _ _ s;exact wpAny_bind (gSet hu T hi (KAt.is I.hok (ky.at ry)) hz λh' T' hs=>Ja ⟨.none,rfl,Ja (h _ (g_wr I e hl' hd (rel.put (ky.at ry) rv) (znB rel ry0 ry) T' hs))⟩)
def zuL{Q:Vs}(hu:A.units+1<cLine)(I:Inv X p4 σ H s)(e:GW H a p5 ys)(hl:p5.length<sizeLine)(ky:wF H k y)(ry:zR y u)(rv:zR v r)(h1:∀x,qR p5 k=some x->∀w' s',Inv X p4 σ H s'->zR x w'->Q w' s')(h2:qR p5 k=none->∀s',Inv X p4 σ (upd H a (.dT (qL p5 k v) (xJ p5 ys k y))) s'->Q r s'):
  wpAny (Y0 1) A (call (.builtin "dict.setdefault") [.ref a,u,r]) Q E s:=by
 let⟨z,hd,xs,⟨rel,ry0⟩,T,hi⟩:=zii I.hok e.rd;have hz:xs.length<=sizeLine:=by rw[←Paired.length rel];exact z
 have hl':(qL p5 k v).length<=sizeLine:=by grind [zao]
 refine Ju QP T.ty PySem.F.entry_dict_setdefault ?_ (PySem.F.args_dict_setdefault_3 _ _ _);refine wpAny_bind ?_;refine wpAny_bind (wpAny_notOrdered_dict T.ty ?_);refine Ja ?_;show wpAny _ _ (if(a==sysModules)=true then _ else(dictSetDefault a u r>>=_)) _ _ s;rw[if_neg (by rw[hd];exact QD)];have vr:=rel.val k;refine wpAny_bind (gSdf hu T hi (KAt.is I.hok (ky.at ry)) hz (λy hy=>?_) λhn h' T' hs=>?_)
 ·rw[hy]at vr;cases e2:qR p5 k with
  |none=>rw[e2]at vr;exact vr.elim
  |some x=>rw[e2]at vr;exact Ja ⟨_,rfl,h1 x e2 _ _ (I.tok _) vr⟩
 ·rw[hn]at vr;cases e2:qR p5 k with
  |some x=>rw[e2]at vr;exact vr.elim
  |none=>
   refine Ja ⟨_,rfl,h2 e2 _ (g_wr I e hl' hd ?_ ?_ T' hs)⟩
   ·rw[zfL v e2];exact Paired.snoc rel ⟨rfl,ky.at ry,rv⟩
   ·unfold xJ;rw[e2,Jr];exact Paired.snoc ry0 ry
def g_ty(I:Inv X p4 σ H s)(e:GRd H a p5 ys):s.TypeIs (.ref a) "dict"/\(∀b,Value.ref a=.ref b->∃ob,s.heap.get? b=some ob/\ob.dict=none):=by
 let⟨z,hd,xs,⟨rel,ry0⟩,T,hi⟩:=zii I.hok e;refine⟨T.ty,λb q=>?_⟩;cases q
 let⟨o,_,_,h1,h2,_⟩:=T;exact⟨o,h1,h2.2.1⟩
end
def zua(td ty:TE):TE:=λσ H Q=>td σ H λx H1=>ty σ H1 λy H2=>∃a p5 ys k v,x=.ref a/\GRd H2 a p5 ys/\wF H2 k y/\qR p5 k=some v/\Q v H2
section
variable{X:Cx}{o i e f:Expr}{td ty tx:TE}{pos p9 p8:Pos}
def zqC(hu:X.A.units+1<cLine)(ho:PE X o td)(hi:PE X i ty)(hs:NoSl i):PE X (.Subscript o i pos) (zua td ty):=by intro p4 s σ H Q I h;refine zkW PySem.F.slot_dict_getitem.lookup hs (thn (ho p4 s σ H _ I h) λu s1 ⟨x,H1,I1,rx,q1⟩=>thn (hi p4 s1 σ H1 _ I1 q1) λiv s2 ⟨y,H2,I2,ry,a,p5,ys,k,v,ex,g,ky,hv,q2⟩=>?_);subst ex;obtain rfl:u=Value.ref a:=rx;exact⟨(g_ty I2 g).1,zuM hu I2 g ky ry hv λw' s3 I3 rw'=>⟨v,H2,I3,rw',q2⟩⟩
end
section
variable{P:Program}{w:World}{A:Around}{E:Vs}{s:Shared}{d it:Addr}{o:Obj}{es:Array DictEntry}{ep i:Nat}
def zrX(ho:s.heap.get? d=some o)(hc:o.ExactDict)(hd:o.data=.dict es ep)(hs:(d==sysModules)=false){Q:Vs}(q:Q (Y0 3) {s with heap:=s.heap.push {cls:=.type "dict_keyiterator",data:=.fields #[.ref d,.int 0 0,.int es.size 0,.int ep 0]}}):wpAny (model P w) A (pyIter (.ref d)) Q E s:=by have hT:s.TypeIs (.ref d) "dict":=⟨o,ho,hc.1⟩;refine wpAny_pyIter_slot hT PySem.F.slot_dict_iter (Ju PySem.F.slot_dict_iter hT PySem.F.entry_dict_iter ?_ (PySem.F.args_dict_iter_1 _));refine wpAny_bind ?_;refine wpAny_bind (wpAny_notOrdered_dict hT ?_);refine Ja ?_;show wpAny _ _ (Builtin.Dict.showsAll d>>=_) _ _ s;unfold Builtin.Dict.showsAll;rw[if_neg (by rw[hs];exact QD)];refine wpAny_bind (Ja (wpAny_bind (QZ ho hd (wpAny_bind (QH ho hd (wpAny_bind (JE (Ja ⟨_,rfl,"dict_keyiterator",_,⟨_,Heap.get?_push_size _ rfl,rfl⟩,PySem.F.slot_dict_keyiterator_next.lookup,?_⟩))))))));simpa[rawInt]using q
theorem znR{Q:Option Value->Shared->Prop}(hit:s.heap.IsKeyIter it d i es.size ep)(ho:s.heap.get? d=some o)(hd:o.data=.dict es ep)(h1:∀e,es[i]?=some e->∀h',h'.IsKeyIter it d (i+1) es.size ep->Heap.SameBut it s.heap h'->Q (some e.key) {s with heap:=h'})(h0:es[i]?=none->A.handled=none/\∀h',Heap.ExtBut it s.heap h'->Q none {s with heap:=h'}):wpAny (model P w) A (pyNext (.ref it)) Q E s:=by
 let⟨oi,hi,hc,hf⟩:=id hit;unfold pyNext;refine wpAny_bind (wpAny_attempt (wpAny_callSpecial?_slot hit.typeIs PySem.F.slot_dict_keyiterator_next (Ju PySem.F.slot_dict_keyiterator_next hit.typeIs PySem.F.entry_dict_keyiterator_next ?_ (PySem.F.args_dict_keyiterator_next_1 _))));refine wpAny_bind (Ja (wpAny_bind (wpAny_bind (wpAny_bind (Wr hit.typeIs (Ja (wpAny_bind (wpAny_fieldsOf hi hf ?_))))))));refine wpAny_bind (Ja (wpAny_bind (QZ ho hd ?_)));rw[if_neg (by simp)];refine wpAny_bind (Ja (wpAny_bind (QH ho hd ?_)));rw[if_neg (by simp)];refine Ja ?_;cases e:es[i]? with
 |some x=>
  simp only[show¬((i:Int)<0)from by simp,if_false,Int.toNat_natCast,e];refine wpAny_bind (wpAny_bind (Wr hit.typeIs (Ja ?_)));refine wpAny_bind (wpAny_isOneOf_keyiter hit.typeIs ?_);show wpAny _ _ (setField (.ref it) 1 (rawInt ((i:Int)+1))>>=_) _ _ s;refine wpAny_bind (wpAny_setField hi hf (by simp) ?_);have hit':(s.heap.update it (Obj.mapFields (·.setIfInBounds 1 (rawInt ((i:Int)+1))))).IsKeyIter it d (i+1) es.size ep:=
   ⟨_,Heap.get?_update_self _ hi (Obj.isFreed_of_fields (Obj.data_mapFields hf _)),(Obj.cls_mapFields ..).trans hc,by rw[Obj.data_mapFields hf];simp[rawInt]⟩
  refine wpAny_bind (Jk (wpAny_bind (wpAny_isOneOf_keyiter hit'.typeIs ?_)));exact Ja (Ja ⟨_,rfl,Ja (h1 x e _ hit' (Qa ..))⟩)
 |none=>
  let⟨hh,hQ⟩:=h0 e;simp only[show¬((i:Int)<0)from by simp,if_false,Int.toNat_natCast,e];refine wpAny_bind (wpAny_bind (Wr hit.typeIs (Ja ?_)));show wpAny _ _ (setField (.ref it) 0 .none>>=_) _ _ s;refine wpAny_bind (wpAny_setField hi hf (by simp) ?_);refine wpAny_bind ?_;simp only[newExc,newTuple];refine wpAny_bind (m:=firstArgMember _ _) (wpAny_of_eq (a:=Value.none) (by first|rfl|(simp only[firstArgMember];rfl)) ?_);refine JE ?_ (by size_fits);simp only[raiseNew];refine wpAny_bind (wpAny_handled ?_);rw[(hh)];refine wpAny_bind (Ja (wpAny_throw ?_));refine wpAny_bind (wpAny_isInstance (T:="StopIteration") (b:=true) ⟨_,Heap.get?_push_size _ rfl,rfl⟩ isSubtype_stop ?_);exact Ja (hQ _ (((Qa ..).extBut.push _).push _))
def Walks.raw(hh:A.handled=none)(I d:Addr)(hne:d≠I)(o:Obj)(es:Array DictEntry)(ep:Nat)(hd:o.data=.dict es ep):
  Walks P w A I [I,d] [I] es.size (λi v=>es[i]?.map (·.key)=some v) (λi h=>h.IsKeyIter I d i es.size ep/\h.get? d=some o)where
 sub:=λb hb=>by grind
 frame:=λ_ _ _ st hk=>⟨st.1.at λo e=>hk I (by simp) o e,hk d (by simp) _ st.2⟩
 item:=λi s Q E hi st hQ=>znR st.1 st.2 hd (λe he h' it' sb=>hQ e.key h' s.toks (by grind) ⟨it',(sb.2 d hne).trans st.2⟩ λb o hb e=>sb.extBut b o (λh=>hb (by simp[h])) e) (λe=>by rw[Array.getElem?_eq_getElem hi]at e;cases e)
 done:=λs Q E st hQ=>znR st.1 st.2 hd (λe he=>by simp at he) (λ_=>⟨hh,λh' he'=>hQ h' s.toks λb o hb e=>he' b o (λh=>hb (by simp[h])) e⟩)
 self:=λ_ _ _ _ st hQ=>wpAny_pyIter_keyiter st.1 hQ
def zun(ho:s.heap.get? d=some o)(hc:o.ExactDict)(hd:o.data=.dict es ep)(hs:(d==sysModules)=false)(hz:(es.size:Int)<2^63){Q:Vs}(q:∀t,Q (.int es.size t) {s with toks:=s.toks+1+1}):
  wpAny (model P w) A (call (.builtin "len") [.ref d]) Q E s:=by
 have hT:s.TypeIs (.ref d) "dict":=⟨o,ho,hc.1⟩;refine Calls.call_function_entry kind_len plain_len entry_len (args_len1 _) ?_;refine wpAny_bind (m:=callSpecial? (.ref d) (Str.ofString "__len__")) (wpAny_callSpecial?_slot hT PySem.F.slot_dict_len (Ju PySem.F.slot_dict_len hT PySem.F.entry_dict_len ?_ (PySem.F.args_dict_len_1 _)));show wpAny _ _ (dictSize d>>=_) _ _ s;refine wpAny_bind (wpAny_bind (QZ ho hd (Ja ?_)));refine wpAny_bind (wpAny_pendingCount_other hs (wpAny_ret_mkInt ?_));refine wpAny_bind (Jk (Ja ?_));refine wpAny_bind (wpAny_letGo ?_);rw[if_neg (by simp)];rw[if_neg (by simp_all)];exact wpAny_bind (wpAny_mkInt (Ja ⟨_,rfl,q _⟩))
def zuo(ho:s.heap.get? d=some o)(hc:o.ExactDict)(q:Q false s):wpAny (model P w) A (Builtin.List.listLengthHint (.ref d)) Q E s:=by have hT:s.TypeIs (.ref d) "dict":=⟨o,ho,hc.1⟩;refine wpAny_bind (wpAny_specialOf hT PySem.F.slot_dict_len.lookup ?_);generalize hid:("dict.__len__":String)=id0;subst hid;refine wpAny_bind (wpAny_isInstance (b:=true) hT (by kernel_rfl) ?_);refine wpAny_bind (wpAny_typeOf hT ?_);exact Ja q
def zum(hh:A.handled=none)(ho:s.heap.get? d=some o)(hc:o.ExactDict)(hd:o.data=.dict es ep)(hs:(d==sysModules)=false)(hz:es.size<=sizeLine){Q:Vs}(q:∀h' tk c',(∀b u,s.heap.get? b=some u->h'.get? b=some u)->h'.get? s.heap.objs.size=some {cls:=.type "list",dict:=none,data:=.seq (es.map (·.key)) c',slots:=#[]}->Q (Y0 3) {s with heap:=h',toks:=tk}):
  wpAny (model P w) A (call (.type "list") [.ref d]) Q E s:=by
 refine callType_codes (Q₁:=λobj s₁=>obj=.ref s.heap.objs.size/\s₁={s with heap:=s.heap.push {cls:=.type "list",data:=.seq #[]}}) PySem.F.called_list (PySem.F.typeCall_list_1 _) PySem.F.entry_list_init
  (code_list_new _ ⟨rfl,rfl⟩) λobj s₁ h₁=>?_
 let⟨rfl,rfl⟩:=h₁;have hlt:d<s.heap.objs.size:=Jb ho;have hS:(s.heap.push {cls:=.type "list",data:=.seq #[]}).get? s.heap.objs.size=some {cls:=.type "list",data:=.seq #[]}:=Heap.get?_push_size _ rfl;refine⟨⟨_,hS,rfl⟩,PySem.F.args_list_init_2 _ _,?_⟩;refine wpAny_bind ?_;unfold Builtin.List.listItems;refine wpAny_bind (Qb hS rfl (Ja ?_));refine wpAny_bind (wpAny_updateSeq hS rfl ?_);have hS2:=Heap.get?_update_self (Obj.mapSeq λ_=>(#[]:Array Value)) hS rfl;refine wpAny_bind (wpAny_letGo ?_);generalize hh2:(s.heap.push {cls:=.type "list",data:=.seq #[]}).update s.heap.objs.size (Obj.mapSeq λ_=>(#[]:Array Value))=h2 at hS2;have k2:∀b u,s.heap.get? b=some u->h2.get? b=some u:=λb u e=>by rw[←hh2];exact(Heap.get?_update_other _ _ (Qv (Jb e))).trans (Heap.get?_push_of_some _ e)
 have z2:s.heap.objs.size<h2.objs.size:=Jb hS2;unfold Builtin.List.listExtendWith;refine wpAny_bind (wpAny_typeOf (T:="dict") ⟨o,k2 _ _ ho,hc.1⟩ ?_);have n1:Builtin.List.listSameRef (Y0 3) (.ref d)=false:=by simp[Builtin.List.listSameRef];exact Qv hlt
 rw[if_neg (by rw[n1];decide)];refine wpAny_bind (zrX (k2 _ _ ho) hc hd hs ?_);refine wpAny_bind (Jk (zuo (Heap.get?_push_of_some _ (k2 _ _ ho)) hc ?_));have nd:d≠h2.objs.size:=Jo (Nat.lt_trans hlt z2);have W:=Walks.raw (P:=P) (w:=w) (A:=A.in1.in1) hh h2.objs.size d nd o es ep hd;have nf:s.heap.objs.size∉[h2.objs.size,d]:=by grind
 have fin:∀(h3:Heap) (c:Nat),(∀b u,b≠s.heap.objs.size->(h2.push {cls:=.type "dict_keyiterator",data:=.fields #[.ref d,.int 0 0,.int es.size 0,.int ep 0]}).get? b=some u->h3.get? b=some u)->h3.get? s.heap.objs.size=some {cls:=.type "list",data:=.seq #[] c}->
   codeAny (model P w) A.in1 (.builtin "list.extend.loop" ⟨[.ref s.heap.objs.size,.ref h2.objs.size,.none],[]⟩) (wants (λr s₂=>r=.none/\Q (Y0 3) s₂) E) {s with heap:=h3}:=λh3 c k3 hS3=>by
  refine codeAny_extend_loopS W.toS hz _ nf _ es.size 0 _ _ _ rfl (Jz _) ⟨⟨_,k3 _ _ (Qv z2) (Heap.get?_push_size _ rfl),rfl,rfl⟩,k3 _ _ (Jo hlt) (Heap.get?_push_of_some _ (k2 _ _ ho))⟩ hS3 (ItemsOf.nil _) λs' p7 c' hm hS' ha=>⟨rfl,?_⟩
  rw[Moved.eq_with hm];have ea:p7=es.map (·.key):=by
   refine Array.ext (by rw[ha.1];simp) λj h1 h2=>?_
   have:=ha.2 j p7[j] (by simp[h1]);dsimp only at this;rw[Array.getElem?_eq_getElem (by simpa using h2)]at this;simpa using this.symm
  subst ea;refine q s'.heap s'.toks c' (λb u e=>hm.heap b u (λhb=>?_) (k3 _ _ (Jo (Jb e)) (Heap.get?_push_of_some _ (k2 _ _ e)))) hS';rcases JJ.mp hb with z|z
  ·exact absurd (Jb e) (by simp[*])
  ·have:=Jb e;grind
 have hS3:=Heap.get?_push_of_some ({cls:=.type "dict_keyiterator",data:=.fields #[.ref d,.int 0 0,.int es.size 0,.int ep 0]}:Obj) hS2;refine wpAny_bind (JH (wpAny_bind ?_));refine wpAny_bind (wpAny_updateSeq hS3 rfl ?_);have hS4:=Heap.get?_update_self (Obj.mapSeq (·.push Value.none)) hS3 rfl;refine wpAny_updateSeq hS4 rfl ?_;have hS5:=Heap.get?_update_self (Obj.mapSeq (·.pop)) hS4 rfl;exact Ja ⟨WH Qk _,fin _ _ (λb u hb e=>(Heap.get?_update_other _ _ (Ne.symm hb)).trans ((Heap.get?_update_other _ _ (Ne.symm hb)).trans e)) hS5⟩
end
def FrzG(H:Hp)(d:Addr)(o:Obj)(p5:U (zP×V))(ys:U V):Prop:=(∃ks,H d=some (.frz o (.dK ks))/\p5=yU ks/\ys=gJ ks)\/H d=some (.frz o (.dT p5 ys))
def FrzG.rd{d:Addr}(h:FrzG H d o p5 ys):GRd H d p5 ys:=h.imp (λ⟨ks,e,r⟩=>⟨ks,.inr ⟨o,e⟩,r⟩) λe=>.inr ⟨o,e⟩
section
variable{P:Program}{w:World}{H:Hp}{h:Heap}{d:Addr}{o:Obj}{p5:U (zP×V)}{ys:U V}
def zij(ok:HOk P w H h)(e:FrzG H d o p5 ys):h.get? d=some o/\(d==sysModules)=false/\p5.length<=sizeLine/\∃(es:Array DictEntry) (ep:Nat) (xs:U (zP×Value×Value)),o.ExactDict/\o.data=.dict es ep/\es.toList=xs.map (xZ P w)/\zN ys (xs.map (·.2.1))/\es.size=ys.length:=by
 have ho:h.get? d=some o:=by rcases e with⟨ks,e,_⟩|e<;>exact(ok d _ e).1
 let⟨z,hs,xs,⟨_,rel⟩,⟨o',es,ep,h1,h2,h3,h4,_⟩,_⟩:=zii ok e.rd;rw[ho]at h1;cases h1
 exact⟨ho,hs,z,es,ep,xs,h2,h3,h4,rel,by rw[←JB,h4,Jc,Paired.length rel,Jc]⟩
end
def Itg(d:Addr)(o:Obj)(p5:U (zP×V))(ys:U V):It:=
 ⟨λi H=>FrzG H d o p5 ys/\i<ys.length,λi H x H'=>H'=H/\ys[i]?=some x,λi H=>FrzG H d o p5 ys/\i=ys.length⟩
variable{tg:Expr}
theorem zjK{K:Fg}{d it:Addr}(hd:o.data=.dict es ep):
  gD P w K tg (Itg d o p5 ys) [it] it (λi h=>h.IsKeyIter it d i ys.length ep)where
 mem:=by simp
 obj:=λi h st b hb=>by rw[Je.mp hb];let⟨o,e,c,d⟩:=st;exact⟨o,e,λv z=>by rw[d]at z;cases z⟩
 keep:=λi h h' st k=>st.at λo e=>k it (by simp) o e
 item:=by
  intro X hP hw hK hc i p4 s σ H E I hf st hg;subst hP hw hK;let⟨e,hi⟩:=hg;let⟨ho,hs,z,es',ep',xs,h2,h3,h4,rel,hz⟩:=zij I.hok e;rw[hd]at h3;cases h3
  let⟨u0,g1,g4⟩:=rel.get (List.getElem?_eq_getElem hi);let⟨f0,f1,f2,f3,f4,f5⟩:=hf it (by simp);rw[←hz]at st;refine znR st ho hd (λe he h' st' sb=>?_) (λe=>by simp_all);have I1:Inv X p4 σ H {s with heap:=h'}:=I.turned (t':=s.toks) (λb o hb e=>(sb.2 b hb).trans e) f0 f1 f3 f4 f5;rw[hz]at st';let⟨o',e',c',d'⟩:=id st';have ek:e.key=u0:=by
   rw[gEs h4]at he;rw[List.getElem?_map]at g1;cases ex:xs[i]? with
   |none=>rw[ex]at he;cases he
   |some x0=>rw[ex]at he g1;cases he;cases g1;rfl
  exact⟨e.key,rfl,zmH (s:={s with heap:=h'}) e' c' d' (by decide) ⟨_,H,I1,by rw[ek];exact g4,⟨rfl,List.getElem?_eq_getElem hi⟩,st',λb hb=>(hf b hb).1⟩⟩
 done:=by
  intro X hP hw hK hc i p4 s σ H E I hf st hg;subst hP hw hK;let⟨e,hi⟩:=hg;let⟨ho,hs,z,es',ep',xs,h2,h3,h4,rel,hz⟩:=zij I.hok e;rw[hd]at h3;cases h3
  let⟨f0,f1,f2,f3,f4,f5⟩:=hf it (by simp);rw[←hz]at st;refine znR st ho hd (λe he=>?_) λ_=>⟨I.ok.hd hc,λh' eb=>⟨rfl,I.turned (t':=s.toks) (λb o hb e=>eb b o hb e) f0 f1 f3 f4 f5⟩⟩
  rw[Array.getElem?_eq_none (by simp[*])]at he;cases he
 self:=λ_ _ _ _ _ st h=>wpAny_pyIter_keyiter st h
def ztn(tl:TE):TI:=λσ H R=>tl σ H λv H1=>∃d o p5 ys,v=.ref d/\FrzG H1 d o p5 ys/\R (Itg d o p5 ys) H1
def zod{X:Cx}{l:Expr}{tl:TE}(hl:PE X l tl):PI X tg l (ztn tl):=by
 intro p4 s σ H R I h;refine thn (hl p4 s σ H _ I h) λv s1 h_=>?_
 let⟨x,H1,I1,r1,d,o,p5,ys,ex,e,q⟩:=h_;subst ex;cases r1
 let⟨ho,hs,z,es,ep,xs,h2,h3,h4,rel,hz⟩:=zij I1.hok e;refine zrX ho h2 h3 hs ?_;refine⟨s1.heap.objs.size,[s1.heap.objs.size],_,_,H1,rfl,I1.kept λb o e=>Heap.get?_push_of_some _ e,zjK h3,⟨_,Heap.get?_push_size _ rfl,rfl,by rw[hz];rfl⟩,λb hb=>?_,q⟩;rw[Je.mp hb];exact I1.fpOk (Jf _) (I1.hok.fresh (Jf _))
section
variable{X:Cx}
def zuq:U V->Hp->VK->Prop:=λxs H Q=>∃p p5 ys,xs=[.ref p]/\GRd H p p5 ys/\Q (.int p5.length) H
def zni:kM X (.builtin "len") zuq:=by
 intro p4 s σ H xs us Q I rv h;let⟨p,p5,ys,rfl,e,q⟩:=h;let⟨u,rfl,ru⟩:=rv.one;cases ru
 let⟨z,hs,xs,⟨rel,p2⟩,⟨o,es,ep,h1,h2,h3,h4,_⟩,_⟩:=zii I.hok e;have hz:es.size=p5.length:=by grind [List.length_map,Paired.length]
 exact zun h1 h2 h3 hs (by rw[QR]at z;lia) λt=>⟨.int p5.length,H,I.tok _,⟨t,by rw[hz]⟩,q⟩
def zrZ:U V->Hp->VK->Prop:=λxs H Q=>∃p p5 ys,xs=[.ref p]/\GRd H p p5 ys/\∀l,H l=none->Q (.ref l) (upd H l (.lst ys))
def zkB(hc:X.calm=true):kM X (.type "list") zrZ:=by
 intro p4 s σ H xs us Q I rv h;let⟨p,p5,ys,rfl,e,q⟩:=h;let⟨u,rfl,ru⟩:=rv.one;cases ru
 let⟨z,hs,xs,⟨rel,p2⟩,⟨o,es,ep,h1,h2,h3,h4,_⟩,_⟩:=zii I.hok e;have hz:es.size=p5.length:=by rw[←JB,h4,Jc,Paired.length rel]
 refine zum (I.ok.hd hc) h1 h2 h3 hs (by simp[*]) λh' tk c' k hS=>?_
 have ek:es.map (·.key)=(xs.map (·.2.1)).toArray:=by apply Array.toList_inj.mp;rw[Array.toList_map,h4,Jq];rfl
 rw[ek]at hS;have I2:=I.laid (t':=tk) (o:=.lst ys) k (Jf _) (show kX X.prog X.w _ _ _ (.lst ys)from⟨by grind [Paired.length,List.length_map],_,c',p2,hS⟩);exact⟨.ref _,_,I2,rfl,q _ I.fresh⟩
end
def zup:V->V->V->Hp->(Hp->Prop)->Prop:=λo i v H Q=>(∃a H',o=.ref a/\DPut H a i v H'/\Q H')\/∃a p5 ys k,o=.ref a/\GW H a p5 ys/\p5.length<sizeLine/\wF H k i/\Q (upd H a (.dT (qL p5 k v) (xJ p5 ys k i)))
def ztZ(td ty tx:TE):TE:=λσ H Q=>td σ H λx H1=>∃a kv0 ys0,x=.ref a/\GRd H1 a kv0 ys0/\ty σ H1 λy H2=>tx σ H2 λz H3=>
 (∃p5 k,H3 a=some (.dK p5)/\y=kV k/\p5.length<sizeLine/\(∀v,qR p5 k=some v->Q v H3)/\(qR p5 k=none->Q z (upd H3 a (.dK (qL p5 k z)))))\/
 ∃p5 ys k,GW H3 a p5 ys/\wF H3 k y/\p5.length<sizeLine/\(∀v,qR p5 k=some v->Q v H3)/\(qR p5 k=none->Q z (upd H3 a (.dT (qL p5 k z) (xJ p5 ys k y))))
section
variable{X:Cx}{o e f:Expr}{td ty tx:TE}{p9 p8:Pos}
def zsg(hu:X.A.units+1<cLine):PSet X zup:=by
 intro p4 s σ H o i v ov iv u Q I ro ri rv h;rcases h with⟨a,H',rfl,g,q⟩|⟨a,p5,ys,k,rfl,g,hl,ky,q⟩
 ·cases ro
  exact zhk hu I g ri rv λs' I'=>⟨H',I',q⟩
 ·cases ro
  exact zuK hu I g hl ky ri rv λs' I'=>⟨_,I',q⟩
def zqB(hu:X.A.units+1<cLine)(ho:PE X o td)(he:PE X e ty)(hf:PE X f tx)(m:M2 X o "setdefault" p9 e f p8):PE X (.Call (.Attribute o "setdefault" p9) [e,f] [] p8) (ztZ td ty tx):=by
 intro p4 s σ H Q I h;refine wpAny_Call_method m.base m.few m.line PySem.F.plainAttrs_dict QP PySem.F.type_dict_setdefault (thn (ho p4 s σ H _ I h) λu s1 ⟨x,H1,I1,rx,a,kv0,ys0,ex,d,q1⟩=>?_);subst ex;obtain rfl:u=Value.ref a:=rx;let⟨t1,t2⟩:=g_ty I1 d;refine⟨t1,t2,?_⟩;rw[m.trees];refine QT rfl (Wz (Qn (thn (he p4 s1 σ H1 _ I1 q1) λiv s2 ⟨y,H2,I2,ry,q2⟩=>
  Qn (thn (hf p4 s2 σ H2 _ I2 q2) λfv s3 ⟨z,H3,I3,rz,q3⟩=>Wt ?_))))
 rcases q3 with⟨p5,k,ea,ey,hl,q3,q4⟩|⟨p5,ys,k,ea,ky,hl,q3,q4⟩
 ·subst ey;exact FL.d_setdef I3 ea hl ry rz (λv hv w' s4 I4 rw'=>⟨v,H3,I4,rw',q3 v hv⟩) λhn s4 I4=>⟨z,_,I4,rz,q4 hn⟩
 ·exact zuL hu I3 ea hl ky ry rz (λv hv w' s4 I4 rw'=>⟨v,H3,I4,rw',q3 v hv⟩) λhn s4 I4=>⟨z,_,I4,rz,q4 hn⟩
end
end L2
namespace FL
open L2
noncomputable def gK:U D->Option (U Key)
 |[]=>some []
 |d::l=>(kI d).bind λk=>(gK l).map (k::·)
noncomputable def wN:D->Option zP
 | .tup l=>(gK l).map .inr
 |d=>(kI d).map .inl
def qT(p5:U (zP×V)):U KD:=p5.map λp=>gkD p.1
variable{F H:Hp}{v y:V}{a:Addr}{ks:U KD}
section
variable{K:Fg}{X:Cx}{pos:Pos}
def zih:∀{a b:zP},gkD a=gkD b->a=b
 | .inl a,.inl b,h=>JT _ (zek h)
 | .inl a,.inr b,h=>by cases a<;>cases h
 | .inr a,.inl b,h=>by cases b<;>cases h
 | .inr a,.inr b,h=>by cases h;rfl
theorem zfi:∀{l:U D}{ks:U Key} {F:Hp}{vs:U V},gK l=some ks->zD K F l vs->vs=ks.map kV
 |[],ks,F,vs,h,r=>by cases h;exact r.nil_inv
 |d::l,ks,F,vs,h,r=>by
  let⟨v,vs,rfl,r1,r2⟩:=r.cons_inv;simp only[gK]at h;cases e:kI d with
  |none=>rw[e]at h;cases h
  |some k=>
   cases e2:gK l with
   |none=>simp_all
   |some ks'=>
    rw[e,e2]at h;cases h
    rw[Jd,←wO e r1,←zfi e2 r2]
def zej{d:D}{k:zP}(h:wN d=some k)(r:Dat K F d v)(s:zJ F H):wF H k v/\yD F (gkD k) v:=by
 have atom:(kI d).map (Sum.inl:Key->zP)=some k->wF H k v/\yD F (gkD k) v:=λh=>by
  cases e:kI d with
  |none=>simp_all
  |some k'=>rw[e]at h;cases h;exact⟨wO e r,by rw[wO e r];cases k'<;>rfl⟩
 cases d with
 |tup l=>
  simp only[wN]at h;cases e:gK l with
  |none=>simp_all
  |some ks=>
   rw[e]at h;cases h
   let⟨a,vs,rfl,f,q⟩:=r.tup_inv;rw[zfi e q]at f;exact⟨⟨a,rfl,s _ _ f⟩,a,rfl,f⟩
 |_=>exact atom h
theorem zdo{F:Hp}(k:zP):∀(p5:U (zP×V)) (ds:U D),zD K F ds (p5.map (·.2))->(qU (qT p5) ds (gkD k)=none/\qR p5 k=none)\/∃d v,qU (qT p5) ds (gkD k)=some d/\qR p5 k=some v/\Dat K F d v
 |[],ds,h=>.inl ⟨by simp[qU,qT],rfl⟩
 |(a,v)::p5,[],h=>by have:=h.nil_inv;simp at this
 |(a,v)::p5,d::ds,h=>by
  let⟨v',r,e,h1,h2⟩:=h.cons_inv;let⟨rfl,rfl⟩:=e;by_cases hk:a=k
  ·subst hk;exact .inr ⟨d,v,by simp[qU,qT],zaT rfl,h1⟩
  ·have hk':¬gkD a=gkD k:=λz=>hk (zih z)
   rw[show qU (qT ((a,v)::p5)) (d::ds) (gkD k)=qU (qT p5) ds (gkD k) by simp[qU,qT,List.find?_cons,hk'],zaU hk];exact zdo k p5 ds h2
theorem zjG(k:zP):∀p5:U (zP×V),((qT p5).any λx=>decide (x=gkD k))=(p5.any λkv=>decide (kv.1=k))
 |[]=>rfl
 |(a,v)::p5=>by
  have ih:=zjG k p5;by_cases hk:a=k
  ·subst hk;simp[qT]
  ·have hk':¬gkD a=gkD k:=λz=>hk (zih z)
   simp only[qT,List.map_cons,List.any_cons,hk',hk,decide_false,Bool.false_or];exact ih
theorem ziS(k:zP){d:D}(hd:Dat K F d v):∀(p5:U (zP×V)) (ds:U D),zD K F ds (p5.map (·.2))->
  zD K F (((qT p5).zip ds).map λp=>if p.1=gkD k then d else p.2) ((p5.map λkv=>if kv.1=k then(kv.1,v)else kv).map (·.2))
 |[],ds,h=>by exact zD.nil
 |(a,u)::p5,[],h=>by have:=h.nil_inv;simp at this
 |(a,u)::p5,c::ds,h=>by
  let⟨v',r,e,h1,h2⟩:=h.cons_inv;let⟨rfl,rfl⟩:=e;have ih:=ziS k hd p5 ds h2;simp only[qT,List.map_cons,List.zip_cons_cons];by_cases hk:a=k
  ·subst hk;rw[if_pos rfl,if_pos rfl];exact zD.cons hd ih
  ·have hk':¬gkD a=gkD k:=λz=>hk (zih z)
   rw[if_neg hk',if_neg hk];exact zD.cons h1 ih
def znW{F:Hp}(k:zP){d:D}(hd:Dat K F d v)(p5:U (zP×V))(ds:U D)(h:zD K F ds (p5.map (·.2))):
  (jV (qT p5) ds (gkD k) d).1=qT (qL p5 k v)/\zD K F (jV (qT p5) ds (gkD k) d).2 ((qL p5 k v).map (·.2)):=by
 unfold jV qL;rw[zjG];split
 ·refine⟨?_,ziS k hd p5 ds h⟩;unfold qT;rw[Jq];apply JD;intro p _;simp only[Function.comp]
  split<;>rfl
 ·exact⟨by simp[qT],by rw[Jr];exact h.snoc hd⟩
def zaS(ks:U (Key×V)):qT (yU ks)=kds ks:=by unfold qT yU kds;rw[Jq];rfl
def zbo(ks:U (Key×V)):(yU ks).map (·.2)=ks.map (·.2):=by unfold yU;simp_all
theorem zav:∀ks:U (Key×V),Paired (yD F) (kds ks) (gJ ks)
 |[]=>.nil
 |(.inl i,v)::ks=>.cons rfl (zav ks)
 |(.inr x,v)::ks=>.cons rfl (zav ks)
def zjA{vs:U V}(h:DicB F H a ks vs):∃p5 ys,GRd H a p5 ys/\ks=qT p5/\vs=p5.map (·.2)/\Paired (yD F) ks ys:=by
 rcases h with(⟨p5,h,rfl,e2⟩|⟨p5,ys,h,⟨e1,e3⟩,e2,e4⟩)|⟨o,⟨p5,h,rfl,e2⟩|⟨p5,ys,h,⟨e1,e3⟩,e2,e4⟩⟩
 ·exact⟨yU p5,gJ p5,.inl ⟨p5,.inl h,rfl,rfl⟩,(zaS p5).symm,by rw[zbo];exact e2,zav p5⟩
 ·exact⟨p5,ys,.inr (.inl h),e1,e2,e4⟩
 ·exact⟨yU p5,gJ p5,.inl ⟨p5,.inr ⟨o,h⟩,rfl,rfl⟩,(zaS p5).symm,by rw[zbo];exact e2,zav p5⟩
 ·exact⟨p5,ys,.inr (.inr ⟨o,h⟩),e1,e2,e4⟩
def ztE{vs:U V}(h:nB F H a ks vs):∃o p5 ys,FrzG H a o p5 ys/\ks=qT p5/\vs=p5.map (·.2)/\Paired (yD F) ks ys:=by
 obtain⟨o,⟨p5,h,rfl,e2⟩|⟨p5,ys,h,⟨e1,e3⟩,e2,e4⟩⟩:=h
 ·exact⟨o,yU p5,gJ p5,.inl ⟨p5,h,rfl,rfl⟩,(zaS p5).symm,by rw[zbo];exact e2,zav p5⟩
 ·exact⟨o,p5,ys,.inr h,e1,e2,e4⟩
noncomputable def vW(x y:D):Option D:=match x,wN y with
 | .dic ks ds,some k=>qU ks ds (gkD k)
 |_,_=>none
def fixG{a b:Expr}{fa fb:EO D}(hu:X.A.units+100<cLine)(ha:FP K .br X a fa)(hb:FP K .fz X b fb)(hs:NoSl b):FP K .fz X (.Subscript a b pos) (c2 vW fa fb):=FP.mk λρ d hf=>by
 let⟨x,y,e1,e2,e3⟩:=wC hf;refine PE.imp (zqC (by lia) (ha.h ρ x e1) (hb.h ρ y e2) hs) λσ H Q h_=>?_
 let⟨F,rl,q⟩:=h_;unfold vW at e3;split at e3
 ·rename_i ks ds k ek;refine⟨F,rl,λv F1 H1 g1 r1=>⟨F1,rl.grow g1,λu F2 H2 g2 r2=>?_⟩⟩;let⟨a,vs,rfl,f1,q1⟩:=zV.dic_inv (zV.mono g2.ff g2.hh r1);let⟨p5,ys,h1,rfl,rfl,_⟩:=zjA f1;rcases zdo (K:=K) k p5 ds q1 with⟨n1,n2⟩|⟨d',v,n1,n2,n3⟩
  ·rw[n1]at e3;cases e3
  ·rw[n1]at e3;cases e3
   exact⟨a,p5,ys,k,v,rfl,h1,(zej ek r2 g2.fh).1,n2,q _ F2 H2 (g1.trans g2) n3⟩
 ·cases e3
noncomputable abbrev wJ(ρ:En)(i:Nat)(pp:Bool)(ks:U KD)(ds:U D)(k:zP)(d:D):En:=ρ.set i (some (.ow pp (.dic (jV ks ds (gkD k) d).1 (jV ks ds (gkD k) d).2)))
def zmx{p5:U (zP×V)}{ys:U V}{k:zP}(h:Paired (yD F) (qT p5) ys)(hk:yD F (gkD k) y):Paired (yD F) (qT (qL p5 k v)) (xJ p5 ys k y):=by
 unfold xJ;cases e:qR p5 k with
 |none=>rw[zfL v e];unfold qT;rw[Jr];exact Paired.snoc h hk
 |some x=>
  have:qT (qL p5 k v)=qT p5:=by unfold qL;rw[zbV,e,if_pos (show(some x).isSome=true from rfl)];unfold qT;rw[Jq];exact JD λp _=>by simp only[Function.comp];split<;>rfl
  rw[this];exact h
def zlS{ρ:En}{σ:St}{i:Nat}{pp:Bool}{ds:U D}{k:zP}{d:D}(rl:Rel K F H ρ σ)(e1:ρ[i]?=some (some (.ow pp (.dic ks ds))))(hσ:σ[i]?=some (some (.ref a)))(ky:wF H k y/\yD F (gkD k) y)(hl:ks.length<lim)(hd:Dat K F d v):
  (∃p5 ys,GW H a p5 ys/\p5.length<sizeLine/\ks=qT p5/\zD K F ds (p5.map (·.2))/\
   (Rel K F (upd H a (.dT (qL p5 k v) (xJ p5 ys k y))) (wJ ρ i pp ks ds k d) σ/\jE ρ σ F H (wJ ρ i pp ks ds k d) σ F (upd H a (.dT (qL p5 k v) (xJ p5 ys k y)))))\/
  ∃kv k0,k=.inl k0/\y=kV k0/\H a=some (.dK kv)/\kv.length<sizeLine/\ks=kds kv/\zD K F ds (kv.map (·.2))/\
   (Rel K F (upd H a (.dK (qL kv k0 v))) (wJ ρ i pp ks ds k d) σ/\jE ρ σ F H (wJ ρ i pp ks ds k d) σ F (upd H a (.dK (qL kv k0 v)))):=by
 let⟨a',g1,g2,vs,g3,g4⟩:=rl.own i pp _ e1;rw[hσ]at g1;cases g1
 have tupIn:∀{p5:U (zP×V)},(∃l,KD.tup l∈qT p5)\/(∃l,k=.inr l)->∃l,KD.tup l∈qT (qL p5 k v):=λ{p5} h=>by
  unfold qL;split
  ·rename_i z;have e:qT (p5.map λkv=>if kv.1=k then(kv.1,v)else kv)=qT p5:=by unfold qT;rw[Jq];exact JD λp _=>by simp only[Function.comp];split<;>rfl
   rw[e];rcases h with h|⟨l,rfl⟩
   ·exact h
   ·let⟨p,hp,e⟩:=List.any_eq_true.mp z;exact⟨l,Jv.mpr ⟨p,hp,by rw[Qt e];rfl⟩⟩
  ·unfold qT;rw[Jr];rcases h with⟨l,h⟩|⟨l,rfl⟩
   ·exact⟨l,Qe.mpr (.inl h)⟩
   ·exact⟨l,Qe.mpr (.inr (by simp[gkD]))⟩
 have gen:∀p5 ys,GW H a p5 ys->ks=qT p5->vs=p5.map (·.2)->Paired (yD F) ks ys->((∃l,KD.tup l∈qT p5)\/∃l,k=.inr l)->p5.length<sizeLine/\zD K F ds (p5.map (·.2))/\
   (Rel K F (upd H a (.dT (qL p5 k v) (xJ p5 ys k y))) (wJ ρ i pp ks ds k d) σ/\jE ρ σ F H (wJ ρ i pp ks ds k d) σ F (upd H a (.dT (qL p5 k v) (xJ p5 ys k y)))):=by
  rintro p5 ys w rfl rfl kf ht;have hl':p5.length<sizeLine:=by
   have:(qT p5).length=p5.length:=by simp[qT]
   exact wM (by lia)
  let⟨m0,m00⟩:=znW (K:=K) (F:=F) k hd p5 ds g4;exact⟨hl',g4,rl.mut (i:=i) (o:=.dT (qL p5 k v) (xJ p5 ys k y)) e1 hσ ⟨_,.inr ⟨qL p5 k v,xJ p5 ys k y,qG,⟨m0,by simp_all⟩,rfl,by rw[m0];exact zmx kf ky.2⟩,m00⟩⟩
 rcases g3 with⟨kv,g,rfl,rfl⟩|⟨p5,ys,g,⟨ek,et⟩,rfl,kf⟩
 ·cases k with
  |inl k0=>
   refine .inr ⟨kv,k0,rfl,ky.1,g,?_,rfl,g4,?_⟩
   ·have:(kds kv).length=kv.length:=by simp[kds]
    exact wM (by rw[←this];exact Qi hl)
   ·let⟨m0,m00⟩:=zfK (K:=K) (F:=F) k0 hd kv ds g4;exact rl.mut (i:=i) (o:=.dK (qL kv k0 v)) e1 hσ ⟨_,.inl ⟨qL kv k0 v,qG,m0,rfl⟩,m00⟩
  |inr l=>
   have w:GW H a (yU kv) (gJ kv):=.inl ⟨kv,g,rfl,rfl⟩;let⟨x1,x2,x3⟩:=gen (yU kv) _ w (zaS kv).symm (zbo kv).symm (zav kv) (.inr ⟨l,rfl⟩);exact .inl ⟨yU kv,_,w,x1,(zaS kv).symm,x2,x3⟩
 ·have w:GW H a p5 ys:=.inr g;let⟨x1,x2,x3⟩:=gen p5 ys w ek rfl kf (.inl (by rw[show qT p5=ks from ek.symm];exact et));exact .inl ⟨p5,ys,w,x1,ek,x2,x3⟩
end
noncomputable def upX(f:EO D):EO (D×En):=λρ=>(f ρ).map λd=>(d,ρ)
noncomputable def zlC(i:Nat)(k:zP)(d:D):EO Fl:=λρ=>match ρ[i]? with
 |some (some (.ow pp (.dic ks ds)))=>if ks.length<lim then some (.nx (ρ.set i (some (.ow pp (.dic (jV ks ds (gkD k) d).1 (jV ks ds (gkD k) d).2)))))else none
 |_=>none
noncomputable def zhJ(i:Nat)(fk:EO D)(m:EO (D×En)):EO Fl:=λρ=>(m ρ).bind λq=>((fk q.2).bind wN).bind λk=>zlC i k q.1 q.2
noncomputable def sdfG(i:Nat)(fe ff:EO D):EO (D×En):=λρ=>match ρ[i]?,(fe ρ).bind wN,ff ρ with
 |some (some (.ow pp (.dic ks ds))),some k,some z=>if ks.length<lim then(match qU ks ds (gkD k)with
  |some d=>some (d,ρ)
  |none=>some (z,ρ.set i (some (.ow pp (.dic (jV ks ds (gkD k) z).1 (jV ks ds (gkD k) z).2)))))else none
 |_,_,_=>none
variable{e:Expr}{f:EO D}{x:Str}{p:Pos}
section
variable{K:Fg}{X:Cx}{pos:Pos}
def xup(h:FP K .fz X e f):FX K X e (upX f):=FX.mk λρ d ρ' hf=>by
 unfold upX at hf;cases e1:f ρ with
 |none=>rw[e1]at hf;cases hf
 |some d'=>
  rw[e1]at hf;cases hf
  exact PE.imp (h.h ρ d e1) λσ H Q ⟨F,r,q⟩=>⟨F,r,λv F' H' g hr=>q v F' H' (r.grow g) g.step hr⟩
def zpv{md:Md}(i:Nat){p2:Pos}{ke:Expr}{fk:EO D}{m:EO (D×En)}(hu:X.A.units+100<cLine)(he:FX K X e m)(hk:FP K .fz X ke fk)(hN:B0 (X.N[i]?=some x))(hv:K0 (Vis X.env.scope x))(hd:C0 (Y0 2))(hcd:C0 (Y0 4))(H1:∀{to ti:TE}{t:TSet},PE X (.Name x p) to->PE X ke ti->PSet X t->PG X (.Subscript (.Name x p) ke p2) (gSub to ti t):=by exact λa b c=>zpC a b c)(hs:B0 (swapsWithSole [.Subscript (.Name x p) ke p2] e pos.line X.env=pure false))(hw:B0 (swappedStores [.Subscript (.Name x p) ke p2] e X.env=pure none))(h1:B0 ((assignEach [.Subscript (.Name x p) ke p2] X.env).map (·.2)=[assign (.Subscript (.Name x p) ke p2) X.env]))(hK:B0 (X.K=K)):
  FS K md X (.Assign [.Subscript (.Name x p) ke p2] e pos) (zhJ i fk m):=FS.mk λρ0 fl hf=>by
 subst hK;unfold zhJ at hf;cases e0:m ρ0 with
 |none=>rw[e0]at hf;cases hf
 |some q0=>
 let⟨d,ρ⟩:=q0;rw[e0]at hf;simp only[Option.bind_some]at hf;cases e4:fk ρ with
 |none=>rw[e4]at hf;cases hf
 |some y=>
 rw[e4]at hf;simp only[Option.bind_some]at hf;cases e3:wN y with
 |none=>rw[e3]at hf;cases hf
 |some k=>
 rw[e3]at hf;unfold zlC at hf;split at hf
 ·rename_i pp ks ds e1;let⟨hk2,hf⟩:=kF hf;cases hf
  refine PS.imp (ziV (he.h ρ0 d ρ e0) (H1 (xQ hN hv hd hcd) (hk.h ρ y e4) (zsg (by lia))) hs hw h1) λD σ H h_=>?_
  let⟨F,r,q⟩:=h_;refine⟨F,r,λv F1 H1 rl1 s1 r1=>?_⟩;let⟨a,h1,h2,h3⟩:=rl1.own i pp _ e1;refine⟨_,h1,F1,rl1,λu F2 H2 g2 r2=>?_⟩;have rg:=rl1.grow g2;have ky:=zej e3 r2 g2.fh;rcases zlS rg e1 h1 ky hk2 (Dat.mono g2.ff r1)with⟨p5,ys,w,hl,_,_,m1,m2⟩|⟨kv,k0,rfl,rfl,g,hl,_,_,m1,m2⟩
  ·exact .inr ⟨a,p5,ys,k,rfl,w,hl,ky.1,q σ _ _ m1 ((s1.trans g2.step r.sub).trans m2 r.sub)⟩
  ·exact .inl ⟨a,_,rfl,DPut.k g hl,q σ _ _ m1 ((s1.trans g2.step r.sub).trans m2 r.sub)⟩
 ·cases hf
def znz(i:Nat){p9 p8:Pos}{f:Expr}{fe ff:EO D}(hu:X.A.units+100<cLine)(he:FP K .fz X e fe)(hf:FP K .fz X f ff)(hN:B0 (X.N[i]?=some x))(hv:K0 (Vis X.env.scope x))(hd:C0 (Y0 2))(hcd:C0 (Y0 4))(m1:B0 (attributeBase (.Name x p) "setdefault" X.env (eval (.Name x p) X.env)=eval (.Name x p) X.env))(m2:B0 (((backTo p8 (starEach [e,f] X.env)).all (λx=>!x.1)&&(backToKw p8 (keywordEach [] X.env)).all (λx=>x.1.isSome)&&decide (([e,f]:U Expr).length+([]:U Keyword).length+(if([]:U Keyword).isEmpty then 0 else 1)<30))=true))(m3:B0 ((p9.endLine==p8.line)=true))(m4:B0 (backTo p8 (starEach [e,f] X.env)=[(false,eval e X.env),(false,eval f X.env)]))(hK:B0 (X.K=K)):
  FX K X (.Call (.Attribute (.Name x p) "setdefault" p9) [e,f] [] p8) (sdfG i fe ff):=FX.mk λρ d ρ' hm=>by
 subst hK;unfold sdfG at hm;split at hm
 ·rename_i pp ks ds k z e1 e2 e3;obtain⟨hk,hm⟩:ks.length<lim/\_:=by
   split at hm
   ·rename_i hz;exact⟨hz,hm⟩
   ·cases hm
  cases e4:fe ρ with
  |none=>rw[e4]at e2;cases e2
  |some y=>
   rw[e4]at e2;refine PE.imp (zqB (by lia) (xQ hN hv hd hcd) (he.h ρ y e4) (hf.h ρ z e3) ⟨m1,m2,m3,m4⟩) λσ H Q h_=>?_
   let⟨F,r,q⟩:=h_;let⟨a,h1,h2,vs0,h3,h4⟩:=r.own i pp _ e1;let⟨kvs0,ys0,g0,_,_⟩:=zjA (.inl h3);refine⟨_,h1,a,kvs0,ys0,rfl,g0,F,r,λv F1 H1 g1 r1=>⟨F1,r.grow g1,λu F2 H2 g2 r2=>?_⟩⟩;have rg:=(r.grow g1).grow g2;have ky:=zej e2 (Dat.mono g2.ff r1) g2.fh;have st:=(g1.trans g2).step (ρ:=ρ) (σ:=σ);have old:∀{p5:U (zP×V)},ks=qT p5->zD X.K F2 ds (p5.map (·.2))->∀v',qR p5 k=some v'->Q v' H2:=λ{p5} ek dd v' hv'=>by grind [zdo]
   have new:∀{p5:U (zP×V)},ks=qT p5->zD X.K F2 ds (p5.map (·.2))->qR p5 k=none->some (z,ρ.set i (some (.ow pp (.dic (jV ks ds (gkD k) z).1 (jV ks ds (gkD k) z).2))))=some (d,ρ'):=λ{p5} ek dd hn=>by
    subst ek;rcases zdo (K:=X.K) (F:=F2) k p5 ds dd with⟨n1,n2⟩|⟨d',w,n1,n2,n3⟩
    ·rw[n1]at hm;exact hm
    ·rw[n2]at hn;cases hn
   rcases zlS rg e1 h1 ky hk r2 with⟨p5,ys,w,hl,ek,dd,m1,m2⟩|⟨kv,k0,rfl,ey,g,hl,ek,dd,m1,m2⟩
   ·refine .inr ⟨p5,ys,k,w,ky.1,hl,old ek dd,λhn=>?_⟩;cases new ek dd hn
    exact q _ F2 _ m1 (st.trans m2 r.sub) r2
   ·have ek':ks=qT (yU kv):=by rw[zaS];exact ek
    have dd':zD X.K F2 ds ((yU kv).map (·.2)):=by rw[zbo];exact dd
    have vl:qR (yU kv) (.inl k0)=qR kv k0:=by
     clear ek dd ek' dd' m1 m2 g hl;induction kv with
     |nil=>rfl
     |cons p r ih=>
      by_cases e:p.1=k0
      ·rw[zaT e];exact zaT (JT _ e)
      ·rw[zaU e,←ih];exact zaU λc=>e (Sum.inl.inj c)
    refine .inl ⟨kv,k0,g,ey,hl,λv' hv'=>old ek' dd' v' (by rw[vl];exact hv'),λhn=>?_⟩;cases new ek' dd' (by rw[vl];exact hn)
    exact q _ F2 _ m1 (st.trans m2 r.sub) r2
 ·cases hm
noncomputable def lenG:LO
 |[.dic ks _]=>some (.int ks.length)
 |_=>none
def ztK:vE K X (.builtin "len") .fz lenG:=by
 refine⟨_,zni,λds d F H vs Q e s h k=>?_⟩;unfold lenG at e;split at e
 ·cases e
  let⟨v,rfl,h1⟩:=h.one;let⟨a,vs,rfl,f1,q1⟩:=zV.dic_inv h1;let⟨p5,ys,h2,rfl,rfl,_⟩:=zjA f1;refine⟨a,p5,ys,rfl,h2,?_⟩
  have:=k (.int p5.length) F H (zG.refl s);rw[show(qT p5).length=p5.length by simp[qT]]at this;exact this (Dat.int (K:=K) (F:=F) _)
 ·cases e
noncomputable def zoE:LO
 |[.dic ks _]=>some (.lst (ks.map kdD))
 |_=>none
def zqX{l:U Key}:zD K F (l.map λk=>match k with| .inl i=>D.int i| .inr x=>D.str x) (l.map kV):=by
 induction l with
 |nil=>exact zD.nil
 |cons k l ih=>
  cases k with
  |inl i=>exact zD.cons (Dat.int i) ih
  |inr x=>exact zD.cons (Dat.str x) ih
def yD.dat:∀{k:KD},yD F k y->Dat K F (kdD k) y
 | .int i,e=>by subst e;exact Dat.int i
 | .str x,e=>by subst e;exact Dat.str x
 | .tup l,⟨b,e,h⟩=>by subst e;exact Dat.tup h zqX
theorem KeysF.dat:∀{ks:U KD}{ys:U V},Paired (yD F) ks ys->zD K F (ks.map kdD) ys
 |_,_,.nil=>zD.nil
 |_,_,.cons r t=>zD.cons r.dat (KeysF.dat t)
def zrr(hc:X.calm=true):vE K X (.type "list") .ow zoE:=by
 refine⟨_,zkB hc,λds d F H vs Q e s h k=>?_⟩;unfold zoE at e;split at e
 ·cases e
  let⟨v,rfl,h1⟩:=h.one;let⟨a,vs,rfl,f1,q1⟩:=zV.dic_inv h1;let⟨p5,ys,h2,rfl,rfl,kf⟩:=zjA f1;exact⟨a,p5,ys,rfl,h2,λl hl=>k _ _ _ (zG.fresh s hl) ⟨l,rfl,hl,s.free hl,ys,qG,KeysF.dat kf⟩⟩
 ·cases e
noncomputable def itKG:D->Option (U D)
 | .dic ks _=>some (ks.map kdD)
 |_=>none
noncomputable def cKG(f:EO D):EO (U D):=λρ=>(f ρ).bind itKG
def ztl{tg l:Expr}(h:FP K .fz X l f):FI K X tg l (cKG f):=FI.mk λρ ds hf=>by
 unfold cKG at hf;cases e1:f ρ with
 |none=>rw[e1]at hf;cases hf
 |some d=>
  rw[e1]at hf;have hf:itKG d=some ds:=hf;cases d<;>simp only[itKG]at hf<;>try(cases hf;done)
  cases hf
  refine PI.imp (zod (h.h ρ _ e1)) λσ H R ⟨F,r,q⟩=>⟨F,r,λv F1 H1 g1 r1=>?_⟩
  let⟨a,vs,rfl,f1,q1⟩:=Dat.dic_inv (K:=K) r1;let⟨o,p5,ys,f2,rfl,rfl,kf⟩:=ztE f1;have up:∀{F2:Hp},zJ F1 F2->FrzG F2 a o p5 ys:=λs=>f2.imp (λ⟨ks,e,r⟩=>⟨ks,s _ _ e,r⟩) λe=>s _ _ e
  have dl:=KeysF.dat (K:=K) kf;have hl:=dl.length;refine⟨a,o,p5,ys,rfl,up g1.fh,q _ F1 H1 g1 λF2 H2 s2 h2=>⟨λi hi=>⟨up (s2.trans h2),by simp_all⟩,λi x H3 d hd y=>?_,⟨up (s2.trans h2),hl.symm⟩⟩⟩;let⟨rfl,e2⟩:=y;let⟨d',e3,e4⟩:=dl.get' e2;rw[hd]at e3;cases e3
  exact⟨F2,zG.refl h2,e4.mono s2⟩
end
end FL
namespace L2
section
variable{X:Cx}{p4:AO}{σ:St}{scope:Scope}{tg zO elt:Expr}{pos:Pos}{te:TE}
noncomputable def actS(elt:Expr):Value->Env->Sem Unit:=λp7 env=>do
 let v ←eval elt env
 standAt elt.pos
 let _ ←call (.builtin "set.add") [p7,v]
def ztI:zaG X (.SetComp elt [⟨tg,zO,[],0⟩] scope pos) tg zO [] (newSet (.type "set")) (actS elt) (.sei [])where
 new:=λp4 σ H s Q E I h=>by refine wpAny_bind (TS.byText (JE ?_));exact h (TS.fresh X.w) (I.laid (λ_ _ q=>Heap.get?_push_of_some _ q) (Jf _) ((TS.fresh_St (Heap.get?_push_size _ rfl))))
 turn:=λit D env=>by rfl
 loop:=λA it D env Q E s h=>h
 start:=λ{it p7 env A R s} h0 h=>by
  refine codeAny_of_tree ?_;refine wpAny_notedAt ?_;refine wpAny_bind (Wd (wpAny_ite ?_));split
  ·first
    |exact wpAny_bind (Ja (Ja (And.intro rfl h0)))
    |exact Ja (And.intro rfl h0)
  ·refine wpAny_bind (JH ?_);exact wpAny_bind (Qy (wpAny_bind (JQ h (λit' s' h'=>Ja (And.intro rfl h')) λ_ _ x=>x)))
def taS(te:TE)(D:Addr):wE:=λσ H Q=>te σ H λv H4=>∃p7 i,v=.int i/\H4 D=some (.sei p7)/\p7.length+1<scanBound/\Q (upd H4 D (.sei (TS.addT p7 i)))
def zom{Y:Cx}(he:PE Y elt te)(D:Addr):gW Y (actS elt) D (taS te D):=by
 intro p4 s σ H Q I h;refine wpAny_bind (thn (he p4 s σ H _ I h) λv s9 ⟨v9,H9,I9,r9,p7,i,ev,hD9,hlen,q9⟩=>?_);subst ev;let⟨t,rfl⟩:=r9;refine wpAny_bind (Qy (wpAny_bind ?_));have hS:=I9.hok D _ hD9;refine TS.call_add hS hlen λh' k hS'=>Ja ⟨σ,_,?_,q9⟩
 exact I9.write (x:=D) (e:=D) (by rw[hD9];trivial) (.inl rfl) (λb u ne e=>by rw[k.2 b ne];exact e) (by let⟨o,_,_,_,ho,_⟩:=hS';exact⟨o,ho⟩) ((hS'))
def zrV:U V->Hp->VK->Prop:=λxs H Q=>∃p L,xs=[.ref p]/\H p=some (.sei L)/\L.length<64/\∀(l:Addr) (ns:U Int),H l=none->ns.Perm L->ns.Pairwise (·<=·)->Q (.ref l) (upd H l (.lst (ns.map V.int)))
theorem zeQ:∀{vs:U Value}{ns:U Int},IntsAre vs ns->zN (ns.map V.int) vs
 |_,_,.nil=>.nil
 |_,_,.cons x k t=>.cons ⟨k,rfl⟩ (zeQ t)
def zkz(hc:X.calm=true):kM X (.builtin "sorted") zrV:=by
 intro p4 s σ H xs us Q I rv h;let⟨p,L,rfl,hp,hz,q⟩:=h;let⟨u,rfl,ru⟩:=rv.one;cases ru
 have hS:=I.hok p _ hp;refine TS.sorted_seti (I.ok.hd hc) hS hz λh' d tk D vs ns e k hD ho hs hpm hso=>?_
 have hn:(ns.map V.int).length<=sizeLine:=by rw[Jc,hpm.length_eq,QR];lia
 have I2:=(I.draw (d:=d)).laid (t':=tk) (a:=D) (o:=.lst (ns.map V.int)) k hD ((⟨hn,vs,e,zeQ hs,ho⟩));exact⟨.ref D,_,I2,rfl,q D ns (I.hok.fresh hD) hpm hso⟩
end
end L2
namespace FL
open L2
def zjP(L:U Int):U Int:=L.mergeSort (λa b=>decide (a<=b))
def zcx(L:U Int):(zjP L).Perm L/\(zjP L).Pairwise (·<=·):=by
 refine⟨List.mergeSort_perm _ _,?_⟩
 have:=List.pairwise_mergeSort (le:=λa b:Int=>decide (a<=b)) (λa b c h1 h2=>by simp at*;lia) (λa b=>by simp;lia) L;exact this.imp λh=>by simpa using h
variable{ns:U Int}
def znK{L:U Int}(p:ns.Perm L)(h:ns.Pairwise (·<=·)):ns=zjP L:=by let⟨h1,h2⟩:=zcx L;exact List.Perm.eq_of_pairwise (λa b _ _ h1 h2=>by lia) h h2 (p.trans h1.symm)
def xV(ns:U Int):U Int:=ns.foldl TS.addT []
noncomputable def znJ(x:D):Option D:=match x with
 | .lst l=>(kL l).bind λns=>if ns.length<64 then some (.lst ((zjP (xV ns)).map D.int))else none
 |_=>none
variable{g:D->EO En}{f:EO D}
section
variable{K:Fg}{X:Cx}{pos:Pos}{tg zO elt:Expr}{scope:Scope}
theorem zeG(ns:U Int):∀L:U Int,(ns.foldl TS.addT L).length<=L.length+ns.length:=by
 induction ns with
 |nil=>intro L;simp
 |cons x l ih=>grind [TS.addT_len]
def zpb{cap:ON}{ρ:En}{ds:U D}{σ:St}{H F:Hp}{Q:VK}(hm:jH g jB f (jC cap ρ) ds=some (ns.map D.int))(hn:ns.length<64)(r:Rel K F H ρ σ)(q:∀a F' H',zG F H F' H'->H' a=some (.sei (xV ns))->Q (.ref a) H'){J:It}{F1 H1:Hp}(g1:zG F H F1 H1)(ok:gX K J F1 ds):
  zdF J (λv σ H Q=>∃i:{q:En×D×En//g q.2.1 q.1=some q.2.2},rdG K i.1.1 i.1.2.1 i.1.2.2 v σ H Q) tYes (taS λσ H Q=>∃i:{q:En×D//f q.1=some q.2},rdE K .fz i.1.1 i.1.2 σ H Q) (.sei []) cap σ H1 Q:=by
 intro a ha;refine⟨λi m H2=>∃(dn left:U Int),i<=ds.length/\m=ds.length - i/\∃F2,zG F H F2 H2/\zJ F1 F2/\(∀b o,H1 b=some o->H2 b=some o)/\F2 a=none/\H2 a=some (.sei (xV dn))/\ns=dn++left/\jH g jB f (jC cap ρ) (ds.drop i)=some (left.map D.int),
  ⟨ds.length,[],ns,Jz _,rfl,F1,⟨g1.ff,g1.hh.trans (yJ ha _),g1.fh.trans (yJ ha _),g1.nw⟩,zJ.refl _,λb o e=>yJ ha _ _ _ e,g1.fh.free ha,qG,rfl,hm⟩,?_⟩
 rintro i m H2 ⟨dn,left,hi,rfl,F2,g2,ff,hh,fa,hd,en,e1⟩;let⟨o1,o2,o3⟩:=ok F2 H2 ff g2.fh;by_cases hlt:i<ds.length
 ·refine .inr ⟨o1 i hlt,λx H3 y=>?_⟩;let⟨F3,g3,d3⟩:=o2 i x H3 _ (List.getElem?_eq_getElem hlt) y;rw[Jy hlt]at e1;simp only[jH,jB,Option.bind_some,if_true]at e1;have g23:=g2.trans g3;have hd3:=g3.hh _ _ hd;have fa3:=g3.nw a _ hd fa;let⟨ρ1,e3,e1⟩:=Jg.mp e1;refine⟨⟨(jC cap ρ,ds[i],ρ1),e3⟩,F3,(r.grow g23).inner,d3,λσ2 r2 _=>?_⟩;simp only[tYes,if_true];let⟨d,e5,e1⟩:=Jg.mp e1;cases e6:jH g jB f (jC cap ρ) (ds.drop (i+1))with
  |none=>rw[e6]at e1;cases e1
  |some l=>
   rw[e6]at e1;have e1:some (d::l)=some (left.map D.int):=e1;cases left with
   |nil=>cases e1
   |cons z left=>
    cases e1
    refine⟨⟨(ρ1,.int z),e5⟩,F3,r2,λu F6 H6 g6 d6=>?_⟩;have eu:u=.int z:=Dat.int_inv (K:=K) (F:=F6) d6;subst eu;have g26:=g23.trans g6;have hd6:=g6.hh _ _ hd3;have fa6:=g6.nw a _ hd3 fa3;have haH:H a=none:=g1.hh.free ha;have hl:=zeG dn [];have hz:dn.length<64:=by have:=JT List.length en;simp at this;lia
    refine⟨xV dn,z,rfl,hd6,by unfold xV scanBound;simp at hl;lia,ds.length - (i+1),by lia,dn++[z],left,hlt,rfl,F6,?_,ff.trans (g3.ff.trans g6.ff),λc o e=>?_,fa6,?_,by rw[en];simp,rfl⟩
    ·refine⟨g26.ff,λc o e=>?_,λc o e=>?_,g26.nw⟩
     ·rw[zT (jI e haH)];exact g26.hh _ _ e
     ·rw[zT (jI e fa6)];exact g26.fh _ _ e
    ·rw[zT (jI e ha)];exact g6.hh _ _ (g3.hh _ _ (hh c o e))
    ·rw[qG];unfold xV;rw[List.foldl_append];rfl
 ·have e:i=ds.length:=by(simp at*;lia)
  subst e;rw[QA]at e1;have e1:some []=some (left.map D.int):=e1;cases left with
  |cons _ _=>cases e1
  |nil=>
   rw[JL]at en;subst en;exact .inl ⟨o3,q _ F2 H2 g2 hd⟩
def ztr{p:Pos}{spos:Pos}{fi:EO (U D)}(hm:X.mg "sorted"=none)(N:U Str)(cap:ON)(cp:Cap X scope N cap)(hc:X.calm=true)(hi:FI K X tg zO fi)(hg:∀C s0 H0 fp,FG K (Y0 0) tg g)(he:∀C s0 H0 fp,FP K .fz (Y0 0) elt f)(S:kH X scope:=by exact kH.mk')(hs:G0 (∀x,foldedSetIterable zO X.env x=pure x))(hK:B0 (X.K=K))(hs1:B0 (starEach [.SetComp elt [⟨tg,zO,[],0⟩] scope pos] X.env=(false,eval (.SetComp elt [⟨tg,zO,[],0⟩] scope pos) X.env)::starEach [] X.env))(hp1:B0 ((backTo spos (starEach [] X.env)).any (·.1)=false))(hgl:B0 (Gl X "sorted")):
  FP K .ow X (.Call (.Name "sorted" p) [.SetComp elt [⟨tg,zO,[],0⟩] scope pos] [] spos) (c1 znJ (kR cap fi g jB f)):=FP.mk λρ d hf=>by
 let⟨x,h1,h2⟩:=ziv hf;let⟨ds,rs,e1,hz,e2,rfl⟩:=zcO h1;unfold znJ at h2;simp only at h2;cases e3:kL rs with
 |none=>rw[e3]at h2;cases h2
 |some ns=>
  rw[e3]at h2;let⟨h64,rfl⟩:=kF h2;rw[zaz e3]at e2;have pc:=ziZ (ztI (X:=X) (pos:=pos)) N cap cp hc (hi.h ρ ds e1) (λC s0 H0 fp=>PG.any λi:{q:En×D×En//g q.2.1 q.1=some q.2.2}=>(hg C s0 H0 fp).h _ _ _ i.2) (λC s0 H0 fp=>zlG)
   (λC s0 H0 fp D0=>zom (PE.any λi:{q:En×D//f q.1=some q.2}=>(he C s0 H0 fp).h _ _ i.2) D0) S hs rfl (arm_eval_SetComp ..)
  refine PE.imp (zfM (p:=p) (zkz hc) hgl hm PyProof.Rows.boot_sorted (yA pc xG hs1) (by decide) (by decide) hs1 hp1) λσ H Q h_=>?_
  let⟨F,r,q⟩:=h_;refine⟨F,r,λJ F1 H1 g1 ok=>zpb e2 h64 r (λa F' H' g' ha=>?_) g1 ok⟩;have hl:=zeG ns [];refine⟨a,_,rfl,ha,by unfold xV;simp at hl;exact Qm ‹_› ‹_›,λl ms hl hp hs=>?_⟩;rw[znK hp hs];exact q _ F' _ (g'.trans (zG.fresh g'.fh hl)) ⟨l,rfl,g'.hh.free hl,g'.fh.free hl,_,qG,zD.ofInts _⟩
end
end FL
namespace L2
section
variable{X:Cx}
theorem znj(hc:X.calm=true):kM X (.builtin "any") (λxs H Q=>∃(p:Addr) (bs:U Bool),xs=[.ref p]/\SqL X.K H p (bs.map V.bl)/\Q (.bl (bs.any id)) H):=by
 intro p4 s σ H xs us Q I r h;let⟨p,bs,rfl,hq,q⟩:=h;let⟨u,rfl,rx⟩:=vF r;cases rx
 let⟨p6,r',pl,_⟩:=I.list hq;have hh:=I.ok.hd hc;let⟨ol,hol,_⟩:=id pl.isList;have hll:=Jb hol;have hlen:p6.toArray.size=bs.length:=by grind [zN.length]
 have hlI:=Jo hll;have W:=Walks.list (prog:=X.prog) (w:=X.w) (A:=X.A.in1) hh s.heap.objs.size p hlI p6.toArray;rw[hlen]at W;refine call_any_walk (Ws pl.isList ⟨s.heap.objs.size,_,_,bs.length,_,_,λi=>(bs[i]?).getD false,rfl,W,⟨⟨_,Heap.get?_push_size _ rfl,rfl,rfl⟩,pl.isList.at λo e=>Heap.get?_push_of_some _ e⟩,λi v s Q E hP hQ=>?_,λh' tk hk=>?_⟩)
 ·have hv:p6[i]?=some v:=by simpa using hP
  have hi:i<bs.length:=by grind
  let⟨u,e1,r1⟩:=r'.get (i:=i) (x:=.bl bs[i]) (by simp[hi]);rw[hv]at e1;cases e1
  have r1:v=.bool bs[i]:=r1;subst r1;have hQ:Q ((bs[i]?).getD false) s:=hQ;rw[List.getElem?_eq_getElem hi]at hQ;exact QJ hQ
 ·refine⟨.bl (bs.any id),H,I.kept (λb o e=>hk b o (by
   have:=Jb e
   grind) (Heap.get?_push_of_some _ e)),?_,q⟩
  congr 1
  rw[Wn,List.any_eq_true,List.any_eq_true];constructor
  ·rintro⟨i,hi,h⟩;have hi:=List.mem_range.mp hi;exact⟨bs[i],Qh hi,by simpa[hi]using h⟩
  ·rintro⟨x,hx,h⟩;let⟨i,hi,rfl⟩:=List.getElem_of_mem hx;exact⟨i,List.mem_range.mpr hi,by simpa[hi]using h⟩
def zrY(K:Fg):V->U V->Hp->VK->Prop:=λx vs H Q=>∃(p:Addr) (ss:U Str) (y:Str),x=.ref p/\vs=[.str y]/\SqL K H p (ss.map V.str)/\ss.length<1000/\ss.idxOf y<ss.length/\Q (.int (ss.idxOf y)) H
theorem zoA:MtR X "list.index" (zrY X.K):=by
 intro p4 s σ H x vs v us Q I rx rv h;let⟨p,ss,y,rfl,rfl,hq,hz,hj,q⟩:=h;cases rx
 let⟨u,rfl,ru⟩:=rv.one;let⟨t,rfl⟩:=ru;let⟨p6,r',pl,_⟩:=I.list hq;let⟨ob,ho,hc,n,hd⟩:=id pl.isList;have hT:s.TypeIs (.ref p) "list":=⟨ob,ho,hc⟩;have hl:p6.length=ss.length:=by rw[←r'.length,Jc]
 have at':∀i (hi:i<p6.toArray.size),∃t',p6.toArray[i]=.str (ss[i]'(by simpa[hl]using hi)) t':=λi hi=>by
  have hi':i<ss.length:=by simpa[hl]using hi
  let⟨u,e1,t',r1⟩:=r'.get (i:=i) (x:=.str ss[i]) (by simp[hi'])
  have:p6[i]?=some p6[i]:=List.getElem?_eq_getElem (by simp_all);rw[this]at e1;cases e1
  exact⟨t',by simpa using r1⟩
 let⟨cls,dd,dat,sl⟩:=ob;have hc:cls=.type "list":=hc;have hd:dat=.seq p6.toArray n:=hd;subst hc hd;have isIt:∀i (hi:i<p6.toArray.size),Value.isStrOf y p6.toArray[i]=decide (ss[i]'(by simpa[hl]using hi)=y):=λi hi=>by let⟨t',e⟩:=at' i hi;rw[e];simp only[Value.isStrOf];rfl
 refine call_meets PySem.F.slot_list_index hT PySem.F.entry_list_index (PySem.F.args_list_index_2 _ _) (SeqAt.list_indexAt p p6.toArray n dd sl (.str y t) (λv=>Value.isStrOf y v) (ss.idxOf y) (by simpa[hl]using hj) (by lia) ?_ ?_) ⟨ho,λv hv=>?_,?_⟩
 ·rw[isIt];simp
 ·intro m hm hlt;rw[isIt]
  have:=List.not_of_lt_findIdx (p:=(·==y)) (xs:=ss) hlt;simpa using this
 ·let⟨i,hi,rfl⟩:=Array.mem_iff_getElem.mp hv;have e:=isIt i hi;let⟨t',e'⟩:=at' i hi;intro prog w E Q hq;rw[e]at hq;rw[e'];exact wpAny_eqBool_str hq
 ·exact⟨.int (ss.idxOf y),H,I.tok _,⟨_,rfl⟩,q⟩
end
end L2
namespace FL
open L2
noncomputable def gT:LO
 |[.lst l]=>(wD l).map λbs=>.bl (bs.any id)
 |_=>none
noncomputable def zfl(x y:D):Option D:=match x,y with
 | .lst l,.str y=>(yR l).bind λss=>if ss.length<1000/\ss.idxOf y<ss.length then some (.int (ss.idxOf y))else none
 |_,_=>none
variable{p9 p8:Pos}
section
variable{K:Fg}{X:Cx}
def zuZ(hc:X.calm=true)(hK:B0 (X.K=K)):vE K X (.builtin "any") .fz gT:=by
 refine⟨_,znj hc,λds d F H vs Q e s h k=>?_⟩;unfold gT at e;split at e
 ·rename_i l;cases e1:wD l with
  |none=>rw[e1]at e;cases e
  |some bs=>
   rw[e1]at e;cases e
   let⟨v,rfl,h1⟩:=h.one;rw[zfw e1]at h1;let⟨a,vs,rfl,f,q⟩:=h1.lst_inv;rw[q.bls]at f;exact⟨a,bs,rfl,SqL.of f,k _ F H (zG.refl s) (Res.bl _)⟩
 ·cases e
def zpR{a o:Expr}{fo fa:EO D}(ho:FP K .br X o fo)(ha:FP K .fz X a fa)(hbase:B0 (attributeBase o "index" X.env (eval o X.env)=eval o X.env))(hfew:B0 (((backTo p8 (starEach [a] X.env)).all (λx=>!x.1)&&(backToKw p8 (keywordEach [] X.env)).all (λx=>x.1.isSome)&&decide (([a]:U Expr).length+([]:U Keyword).length+(if([]:U Keyword).isEmpty then 0 else 1)<30))=true))(hline:B0 ((p9.endLine==p8.line)=true))(hs:B0 (starEach [a] X.env=(false,eval a X.env)::starEach [] X.env))(hplain:B0 ((backTo p8 (starEach [] X.env)).any (·.1)=false))(hK:B0 (X.K=K)):
  FP K .fz X (.Call (.Attribute o "index" p9) [a] [] p8) (c2 zfl fo fa):=FP.mk λρ d hf=>by
 let⟨x,y,e1,e2,e3⟩:=wC hf;unfold zfl at e3;split at e3
 ·rename_i l y;cases e4:yR l with
  |none=>rw[e4]at e3;cases e3
  |some ss=>
   rw[e4]at e3;let⟨hz,rfl⟩:=kF e3;rw[zdH e4]at e1;refine PE.imp (zjZ Qr PySem.F.slot_list_index PySem.F.type_list_index zoA (ho.h ρ _ e1) (yA (ha.h ρ _ e2) xG hs) hbase hfew hline hs hplain) λσ H Q ⟨F,r,q⟩=>⟨F,r,λv F1 H1 g1 r1=>?_⟩
   let⟨b,vs,rfl,f,qq⟩:=zV.lst_inv r1;rw[qq.strs]at f;refine⟨.inl ⟨rfl,_,SqL.of f⟩,F1,r.grow g1,λu F2 H2 g2 r2=>?_⟩;have eu:=Dat.str_inv (K:=X.K) (F:=F2) r2;subst eu;exact⟨b,ss,y,rfl,rfl,SqL.of (g2.hh _ _ f),hz.1,hz.2,q _ F2 H2 (g1.trans g2) (Res.int _)⟩
 ·cases e3
end
noncomputable def adS:Option Sl->Bool
 |some (.ow _ _)=>false
 |some (.bor _)=>false
 |_=>true
noncomputable def adB(ρ:En):Bool:=ρ.all adS
variable{ρ:En}{i:Nat}
def gV(h:adB ρ=true){s:Sl}(e:ρ[i]?=some (some s)):s.isDat=true:=by have:=JU.mp h _ (List.mem_of_getElem? e);cases s<;>first|rfl|cases this
def zeH(h:adB ρ=true){s:Option Sl}(hs:adS s=true):adB (ρ.set i s)=true:=by
 refine JU.mpr λx hx=>?_
 rcases List.mem_or_eq_of_mem_set hx with h1|h1
 ·exact JU.mp h _ h1
 ·rw[h1];exact hs
variable{a p:Addr}{ks:U KD}{ls:U (U D)}{p5:U (Key×V)}{as:U Addr}
section
variable{K:Fg}{F F' H H' H0:Hp}{ρ:En}{σ:St}
def Rel.other(r:Rel K F H ρ σ)(ad:adB ρ=true)(o:HO)(fa:F a=none):Rel K F (upd H a o) ρ σ where
 sub:=λb u e=>by rw[zT (jI e fa)];exact r.sub _ _ e
 dat:=r.dat
 bor:=λi d e=>by cases gV ad e
 own:=λi p d e=>by cases gV ad e
 inj:=λi j p d s a _ e=>by cases gV ad e
 len:=r.len
def Rel.hide(r:Rel K F H ρ σ)(ad:adB ρ=true)(i:Nat)(v:V):Rel K F H (ρ.set i none) (σ.set i (some v))where
 sub:=r.sub
 dat:=λk d e=>by
  by_cases hk:i=k
  ·subst hk;by_cases hl:i<ρ.length
   ·rw[List.getElem?_set_self hl]at e;cases e
   ·rw[List.getElem?_eq_none (by rw[List.length_set];simp_all)]at e;cases e
  ·rw[List.getElem?_set_ne hk]at e;rw[List.getElem?_set_ne hk];exact r.dat k d e
 bor:=λk d e=>by cases gV (zeH ad rfl) e
 own:=λk p d e=>by cases gV (zeH ad rfl) e
 inj:=λk j p d s a _ e=>by cases gV (zeH ad rfl) e
 len:=by grind [len]
theorem zdv{α:Type}:∀{l:List α}{i j:Nat} {a:α},l.Nodup->l[i]?=some a->l[j]?=some a->i=j
 |[],i,j,a,_,h,_=>by simp at h
 |x::l,0,0,a,_,_,_=>rfl
 |x::l,0,j+1,a,n,h1,h2=>by simp at h1 h2;subst h1;exact absurd (List.mem_of_getElem? h2) (JR.mp n).1
 |x::l,i+1,0,a,n,h1,h2=>by simp at h1 h2;subst h2;exact absurd (List.mem_of_getElem? h1) (JR.mp n).1
 |x::l,i+1,j+1,a,n,h1,h2=>by rw[zdv (JR.mp n).2 h1 h2]
structure Grp(K:Fg)(F H H0:Hp)(p:Addr)(ks:U KD)(ls:U (U D))(p5:U (Key×V))(as:U Addr):Prop where
 atp:H p=some (.dK p5)
 fp:F p=none
 np:H0 p=none
 eks:kds p5=ks
 val:p5.map (·.2)=as.map V.ref
 nd:as.Nodup
 pas:p∉as
 ln:as.length=ls.length
 new:∀a∈as,H0 a=none/\F a=none
 mem:∀(i:Nat) (a:Addr) (l:U D),as[i]?=some a->ls[i]?=some l->∃vs,H a=some (.lst vs)/\zD K F l vs
def Grp.some_at(h:Grp K F H H0 p ks ls p5 as)(ha:a∈as):∃vs,H a=some (.lst vs):=by
 let⟨i,hi,e⟩:=Qg.mp ha;have hl:i<ls.length:=by rw[←h.ln];exact hi
 let⟨vs,h1,_⟩:=h.mem i a ls[i] (by rw[List.getElem?_eq_getElem hi,e]) (List.getElem?_eq_getElem hl);exact⟨vs,h1⟩
def Grp.grow(h:Grp K F H H0 p ks ls p5 as)(g:zG F H F' H'):Grp K F' H' H0 p ks ls p5 as where
 atp:=g.hh _ _ h.atp
 fp:=g.nw _ _ h.atp h.fp
 np:=h.np
 eks:=h.eks
 val:=h.val
 nd:=h.nd
 pas:=h.pas
 ln:=h.ln
 new:=λa ha=>by let⟨vs,e⟩:=h.some_at ha;exact⟨(h.new a ha).1,g.nw _ _ e (h.new a ha).2⟩
 mem:=λi a l e1 e2=>by let⟨vs,e,q⟩:=h.mem i a l e1 e2;exact⟨vs,g.hh _ _ e,q.mono g.ff⟩
def Grp.push{b:Addr}{k:Key}(h:Grp K F H H0 p ks ls p5 as)(hb:H0 b=none)(fb:F b=none)(eb:H b=some (.lst []))(nb:b∉as)(pb:p≠b):
  Grp K F (upd H p (.dK (p5++[(k,.ref b)]))) H0 p (ks++[kdK k]) (ls++[[]]) (p5++[(k,.ref b)]) (as++[b])where
 atp:=qG
 fp:=h.fp
 np:=h.np
 eks:=by rw[←h.eks];simp[kds]
 val:=by grind [val]
 nd:=by refine Wv.mpr ⟨h.nd,by simp,λx hx y hy=>?_⟩;rw[Je.mp hy];exact λz=>nb (z▸hx)
 pas:=by grind [pas]
 ln:=by simp[h.ln]
 new:=λa ha=>by
  rcases Qe.mp ha with ha|ha
  ·exact h.new a ha
  ·rw[Je.mp ha];exact⟨hb,fb⟩
 mem:=λi a l e1 e2=>by
  by_cases hi:i<as.length
  ·rw[List.getElem?_append_left hi]at e1;rw[List.getElem?_append_left (by rw[←h.ln];exact hi)]at e2;let⟨vs,e,q⟩:=h.mem i a l e1 e2;have np:a≠p:=λz=>by subst z;exact h.pas (List.mem_of_getElem? e1)
   exact⟨vs,by rw[zT np];exact e,q⟩
  ·rw[List.getElem?_append_right (by simp_all)]at e1;rw[List.getElem?_append_right (by rw[←h.ln];simp_all),←h.ln]at e2;cases hj:i - as.length with
   |zero=>
    rw[hj]at e1 e2;cases e1;cases e2
    exact⟨[],by rw[zT λz=>pb z.symm];exact eb,zD.nil⟩
   |succ m=>rw[hj]at e1;simp at e1
def Grp.app{l:U D}{d:D}{v:V}{vs:U V}(h:Grp K F H H0 p ks ls p5 as)(ha:as[i]?=some a)(hl:ls[i]?=some l)(e:H a=some (.lst vs))(q:zD K F l vs)(dv:Dat K F d v):
  Grp K F (upd H a (.lst (vs++[v]))) H0 p ks (ls.set i (l++[d])) p5 as where
 atp:=by grind [zT,atp]
 fp:=h.fp
 np:=h.np
 eks:=h.eks
 val:=h.val
 nd:=h.nd
 pas:=h.pas
 ln:=by rw[List.length_set];exact h.ln
 new:=h.new
 mem:=λj b m e1 e2=>by
  have hil:i<ls.length:=by rw[←h.ln];exact(List.getElem?_eq_some_iff.mp ha).1
  by_cases hj:i=j
  ·subst hj;rw[ha]at e1;cases e1
   rw[List.getElem?_set_self hil]at e2;cases e2
   exact⟨_,qG,q.snoc dv⟩
  ·rw[List.getElem?_set_ne hj]at e2;let⟨ws,e3,q3⟩:=h.mem j b m e1 e2;have hb:b≠a:=λz=>by subst z;exact hj (zdv h.nd ha e1)
   exact⟨ws,by rw[zT hb];exact e3,q3⟩
def Grp.close(h:Grp K F H H0 p ks ls p5 as)(s:zJ F H):∃F',zJ F F'/\zJ F' H/\(∀b,b∉as->F' b=F b)/\Own K F' H (.dic ks (ls.map D.lst)) p:=by
 classical
 refine⟨λb=>if b∈as then H b else F b,λb o e=>?_,λb o e=>?_,λb hb=>if_neg hb,p5.map (·.2),.inl ⟨p5,h.atp,h.eks.symm,rfl⟩,?_⟩
 ·have:b∉as:=λz=>by rw[(h.new b z).2]at e;cases e
  simp[*]
 ·by_cases hb:b∈as
  ·simp_all
  ·simp only[if_neg hb]at e;exact s _ _ e
 ·rw[h.val];have ff:zJ F (λb=>if b∈as then H b else F b):=λb o e=>by
   have:b∉as:=λz=>by rw[(h.new b z).2]at e;cases e
   simp[*]
  have key:∀(n:Nat) (as':U Addr) (ls':U (U D)),as'.length=ls'.length->(∀(i:Nat) (a:Addr) (l:U D),as'[i]?=some a->ls'[i]?=some l->a∈as/\∃vs,H a=some (.lst vs)/\zD K F l vs)->zD K (λb=>if b∈as then H b else F b) (ls'.map D.lst) (as'.map V.ref):=by
   intro _ as';induction as' with
   |nil=>intro ls' hl _;cases ls' with
    |nil=>exact zD.nil
    |cons _ _=>simp at hl
   |cons a as' ih=>
    intro ls' hl hm;cases ls' with
    |nil=>simp at hl
    |cons l ls'=>
     let⟨ha,vs,e,q⟩:=hm 0 a l rfl rfl;exact zD.cons (Dat.lst (by simp[*]) (q.mono ff)) (ih ls' (by simpa using hl) λi b m e1 e2=>hm (i+1) b m (by simpa using e1) (by simpa using e2))
  exact key 0 as ls h.ln λi a l e1 e2=>⟨List.mem_of_getElem? e1,h.mem i a l e1 e2⟩
end
noncomputable def wA(g:D->EO En)(t:EO Bool)(fk:EO D)(ρi:En):U D->U KD->Option (U KD)
 |[],p7=>some p7
 |x::xs,p7=>(g x ρi).bind λρ1=>(t ρ1).bind λb=>if b=true then(fk ρ1).bind λy=>(kI y).bind λk=>if kdK k∈p7 then none else wA g t fk ρi xs (p7++[kdK k])else wA g t fk ρi xs p7
variable{cap:ON}
section
variable{K:Fg}{md:Md}{X:Cx}{pos:Pos}{tg zO kx vx:Expr}{ifs:U Expr}{scope:Scope}
def zry{k:Key}(h:kdK k∉kds p5):qR p5 k=none:=by
 have e:=zbV k p5;cases q:qR p5 k with
 |none=>rfl
 |some v=>
  rw[q]at e;let⟨kv,h1,h2⟩:=List.any_eq_true.mp e;have h2:=Qt h2;exact absurd (Jv.mpr ⟨kv,h1,by rw[h2]⟩) h
def zpc{g:D->EO En}{t:EO Bool}{fk:EO D}{ds:U D}{σ:St}{H F:Hp}{Q:VK}(hm:wA g t fk (jC cap ρ) ds []=some ks)(hn:ds.length<=lim)(r:Rel K F H ρ σ)(q:∀p F' H' p5 as,zG F H F' H'->Grp K F' H' H p ks (List.replicate ks.length []) p5 as->Q (.ref p) H'){J:It}{F1 H1:Hp}(g1:zG F H F1 H1)(ok:gX K J F1 ds):
  zdF J (λv σ H Q=>∃i:{q:En×D×En//g q.2.1 q.1=some q.2.2},rdG K i.1.1 i.1.2.1 i.1.2.2 v σ H Q) (λσ H Q=>∃i:{q:En×Bool//t q.1=some q.2},rdTp K i.1.1 i.1.2 σ H Q)
   (taD (λσ H Q=>∃i:{q:En×D//fk q.1=some q.2},rdE K .fz i.1.1 i.1.2 σ H Q) λσ H Q=>∃i:En,rdE K .ow i (.lst []) σ H Q) (.dK []) cap σ H1 Q:=by
 intro a ha;have haH:H a=none:=g1.hh.free ha;refine⟨λi m H2=>∃ac,i<=ds.length/\m=ds.length - i/\∃F2 p5 as,zG F H F2 H2/\zJ F1 F2/\(∀b o,H1 b=some o->H2 b=some o)/\Grp K F2 H2 H a ac (List.replicate ac.length []) p5 as/\p5.length<=i/\wA g t fk (jC cap ρ) (ds.drop i) ac=some ks,
  ⟨ds.length,[],Jz _,rfl,F1,[],[],⟨g1.ff,g1.hh.trans (yJ ha _),g1.fh.trans (yJ ha _),g1.nw⟩,zJ.refl _,λb o e=>yJ ha _ _ _ e,⟨qG,g1.fh.free ha,haH,rfl,rfl,List.nodup_nil,by simp,rfl,λb hb=>by(cases hb),λi b l e=>by(simp at e)⟩,Jz _,hm⟩,?_⟩
 rintro i m H2 ⟨ac,hi,rfl,F2,p5,as,g2,ff,hh,gp,al,e1⟩;let⟨o1,o2,o3⟩:=ok F2 H2 ff g2.fh;by_cases hlt:i<ds.length
 ·refine .inr ⟨o1 i hlt,λx H3 y=>?_⟩;let⟨F3,g3,d3⟩:=o2 i x H3 _ (List.getElem?_eq_getElem hlt) y;rw[Jy hlt]at e1;simp only[wA]at e1;have g23:=g2.trans g3;let⟨ρ1,e3,e1⟩:=Jg.mp e1;refine⟨⟨(jC cap ρ,ds[i],ρ1),e3⟩,F3,(r.grow g23).inner,d3,λσ2 r2 _=>?_⟩;let⟨b,e4,e1⟩:=Jg.mp e1;refine⟨⟨(ρ1,b),e4⟩,F3,r2,λF4 H4 g4=>?_⟩;have g24:=g23.trans g4;have g34:=g3.trans g4;have ff4:zJ F1 F4:=ff.trans g34.ff;have hh4:=λc o e=>g34.hh _ _ (hh c o e)
  cases b with
  |false=>
   exact wQ ⟨ds.length - (i+1),by lia,ac,hlt,rfl,F4,p5,as,g24,ff4,hh4,gp.grow g34,by lia,e1⟩
  |true=>
   rw[if_pos rfl]at e1;refine wP ?_;let⟨y,e5,e1⟩:=Jg.mp e1;let⟨k,e6,e1⟩:=Jg.mp e1;split at e1
   ·cases e1
   ·rename_i hk;refine⟨⟨(ρ1,y),e5⟩,F4,r2.grow g4,λu F5 H5 g5 d5=>⟨ρ1,F5,(r2.grow g4).grow g5,λv F6 H6 g6 d6=>?_⟩⟩;have eu:=wO (K:=K) e6 d5;subst eu;let⟨b,ev,hb5,fb6,vs,hb6,db6⟩:=d6;subst ev;cases db6
    have gp5:=gp.grow (g34.trans g5);have g25:=g24.trans g5;have gp6:=gp5.grow g6;have g26:=g25.trans g6;have hbH:H b=none:=g25.hh.free hb5;have nb:b∉as:=λz=>by let⟨ws,e⟩:=gp5.some_at z;grind
    have pb:a≠b:=λz=>by subst z;have:=gp5.atp;grind
    have gp7:=gp6.push (k:=k) hbH fb6 hb6 nb pb;have pk:qL p5 k (.ref b)=p5++[(k,.ref b)]:=zfL _ (zry (by rw[gp.eks];exact hk));refine⟨k,p5,rfl,gp6.atp,wM (by lia),ds.length - (i+1),by lia,ac++[kdK k],hlt,rfl,F6,p5++[(k,.ref b)],as++[b],?_,ff4.trans (g5.trans g6).ff,λc o e=>?_,?_,by simp;simp_all,e1⟩
    ·refine⟨g26.ff,λc o e=>?_,λc o e=>?_,g26.nw⟩
     ·rw[zT (jI e haH)];exact g26.hh _ _ e
     ·rw[zT (jI e gp6.fp)];exact g26.fh _ _ e
    ·rw[zT (jI e ha)];exact(g5.trans g6).hh _ _ (hh4 c o e)
    ·rw[pk,Jt,QE,List.replicate_succ'];exact gp7
 ·have e:i=ds.length:=by(simp at*;lia)
  subst e;rw[QA]at e1;have e1:some ac=some ks:=e1;cases e1
  exact .inl ⟨o3,q a F2 H2 p5 as g2 gp⟩
end
noncomputable def vX(j:Nat)(fk fe:EO D)(ks:U KD):U D->U (U D)->EO (U (U D)×En)
 |[],ls,ρ=>some (ls,ρ)
 |x::xs,ls,ρ=>(fk (ρ.set j (some (.dat x)))).bind λy=>(kI y).bind λk=>(fe (ρ.set j (some (.dat x)))).bind λd=>match ls[ks.idxOf (kdK k)]? with
  |some l=>if l.length<lim then vX j fk fe ks xs (ls.set (ks.idxOf (kdK k)) (l++[d])) (ρ.set j (some (.dat x)))else none
  |none=>none
noncomputable def grpM(i j:Nat)(cap:ON)(f0:EO (U D))(g0:D->EO En)(t0:EO Bool)(fk0:EO D)(fi:EO (U D))(fk fe:EO D):EO Fl:=λρ=>
 if adB ρ=true/\i≠j/\i<ρ.length then(f0 ρ).bind λds=>if ds.length<=lim then(wA g0 t0 fk0 (jC cap ρ) ds []).bind λks=>(fi (ρ.set i none)).bind λxs=>(vX j fk fe ks xs (List.replicate ks.length []) (ρ.set i none)).map λp=>.nx (p.2.set i (some (.own (.dic ks (p.1.map D.lst)))))else none else none
variable{f0 fi:EO (U D)}{g0:D->EO En}{t0:EO Bool}{fk0 fe:EO D}
def zhb{j:Nat}{fk:EO D}{fl:Fl}(h:grpM i j cap f0 g0 t0 fk0 fi fk fe ρ=some fl):
  adB ρ=true/\(i≠j/\i<ρ.length)/\∃ds ks xs ls ρ1,f0 ρ=some ds/\ds.length<=lim/\wA g0 t0 fk0 (jC cap ρ) ds []=some ks/\fi (ρ.set i none)=some xs/\vX j fk fe ks xs (List.replicate ks.length []) (ρ.set i none)=some (ls,ρ1)/\fl=.nx (ρ1.set i (some (.own (.dic ks (ls.map D.lst))))):=by
 unfold grpM at h;split at h
 ·rename_i had;cases e1:f0 ρ with
  |none=>rw[e1]at h;cases h
  |some ds=>
   rw[e1]at h;simp only[Option.bind_some]at h;split at h
   ·rename_i hz;cases e2:wA g0 t0 fk0 (jC cap ρ) ds []with
    |none=>rw[e2]at h;cases h
    |some ks=>
     rw[e2]at h;simp only[Option.bind_some]at h;cases e3:fi (ρ.set i none)with
     |none=>rw[e3]at h;cases h
     |some xs=>
      rw[e3]at h;simp only[Option.bind_some]at h;cases e4:vX j fk fe ks xs (List.replicate ks.length []) (ρ.set i none)with
      |none=>rw[e4]at h;cases h
      |some p=>rw[e4]at h;cases h;exact⟨had.1,had.2,ds,ks,xs,p.1,p.2,rfl,hz,e2,rfl,e4,rfl⟩
   ·cases h
 ·cases h
section
variable{K:Fg}{md:Md}{X:Cx}{pos:Pos}{tg zO kx vx:Expr}{ifs:U Expr}{scope:Scope}
theorem zpq{as:U Addr}:∀{p5:U (Key×V)}{as:U Addr} {k:Key}{a:Addr},p5.map (·.2)=as.map V.ref->as[(kds p5).idxOf (kdK k)]?=some a->qR p5 k=some (.ref a)
 |[],as,k,a,h,e=>by simp_all
 |(k',v)::p5,[],k,a,h,e=>by simp at e
 |(k',v)::p5,b::as,k,a,h,e=>by
  simp only[List.map_cons,List.cons.injEq]at h;by_cases hk:k'=k
  ·subst hk;simp only[kds,List.map_cons,List.idxOf_cons_self,List.getElem?_cons_zero,Option.some.injEq]at e;subst e;rw[h.1];simp[qR]
  ·have:=λz=>hk (zek z)
   simp only[kds,List.map_cons]at e;rw[QI,Wo this,cond_false,List.getElem?_cons_succ]at e;have ih:=zpq (as:=as) h.2 e;grind [qR]
def sgrp(i j:Nat){x y:Str}{px py p1 p2 fpos epos spos:Pos}{iter2 E e2:Expr}{rest:U Stmt}{fv0:EO D}{fk:EO D}{mr:EO Fl}(N:U Str)(cap:ON)(cp:Cap X scope N cap)(hp:PassesOwn (Y0 1) X.A X.env X.xe)(hc:X.calm=true)(hu:X.A.units+100<cLine)(hN:X.N.Nodup)(hi:FI K X tg zO f0)(hg:∀C s0 H0 fp,FG K (Y0 0) tg g0)(ht:∀C s0 H0 fp,nJ K (Y0 0) ifs t0)(hkx:∀C s0 H0 fp,FP K .fz (Y0 0) kx fk0)(hv:∀C s0 H0 fp,FP K .ow (Y0 0) vx fv0)(hfv:∀ρ,fv0 ρ=some (.lst []))(hi2:FI K X (.Name y py) iter2 fi)(hE:FP K .fz X E fk)(he:FP K .fz X e2 fe)(hr:FSs K md X rest mr)(hns:NoSl E)(hxi:B0 (X.N[i]?=some x))(hyj:B0 (X.N[j]?=some y))(hlx:K0 (Loc X.env.scope x))(hly:K0 (Loc X.env.scope y))(S:kH X scope:=by exact kH.mk')(hs:G0 (∀x,foldedSetIterable zO X.env x=pure x))(hsw:B0 (swapsWith (.DictComp kx vx [⟨tg,zO,ifs,0⟩] scope pos) (some (.Name x px)) spos.line X.env=pure true))(hfx:K0 (Y0 7))(hfy:K0 (X.fn y=true\/X.env.scope.names.lookup y=some .local))(hs2:G0 (∀x,foldedSetIterable iter2 X.env x=pure x))(hvis:K0 (Vis X.env.scope x))(hd:C0 (Y0 2))(hcd:C0 (Y0 4))(hbase:B0 (attributeBase (.Subscript (.Name x p1) E p2) "append" X.env (eval (.Subscript (.Name x p1) E p2) X.env)=eval (.Subscript (.Name x p1) E p2) X.env))(hfew:B0 (((backTo p8 (starEach [e2] X.env)).all (λx=>!x.1)&&(backToKw p8 (keywordEach [] X.env)).all (λx=>x.1.isSome)&&decide (([e2]:U Expr).length+([]:U Keyword).length+(if([]:U Keyword).isEmpty then 0 else 1)<30))=true))(hline:B0 ((p9.endLine==p8.line)=true))(hs3:B0 (starEach [e2] X.env=(false,eval e2 X.env)::starEach [] X.env))(hplain:B0 ((backTo p8 (starEach [] X.env)).any (·.1)=false))(hsw2:B0 (swapsWith (.Call (.Attribute (.Subscript (.Name x p1) E p2) "append" p9) [e2] [] p8) none epos.line X.env=pure false))(hK:B0 (X.K=K)):
  FSs K md X (.Assign [.Name x px] (.DictComp kx vx [⟨tg,zO,ifs,0⟩] scope pos) spos::.For (.Name y py) iter2 [.Expr (.Call (.Attribute (.Subscript (.Name x p1) E p2) "append" p9) [e2] [] p8) epos] [] fpos::rest) (zF (grpM i j cap f0 g0 t0 fk0 fi fk fe) mr):=FSs.mk λρ fl hf=>by
 subst hK;unfold zF at hf;split at hf
 rotate_left
 ·rename_i hno;cases e:grpM i j cap f0 g0 t0 fk0 fi fk fe ρ with
  |none=>rw[e]at hf;cases hf
  |some f1=>
   let⟨_,_,_,_,_,_,_,_,_,_,_,_,rfl⟩:=zhb e;exact absurd e (hno _)
 rename_i ρ2 e0;let⟨ad,⟨ij,il⟩,ds,ks,xs,ls,ρ1,e1,hz,e2',e3,e4,e5⟩:=zhb e0;cases e5
 have PA1:=zbN zne N cap cp hc hN hxi hlx (hi.h ρ ds e1) (λC s0 H0 fp=>PG.any λi:{q:En×D×En//g0 q.2.1 q.1=some q.2.2}=>(hg C s0 H0 fp).h _ _ _ i.2) (λC s0 H0 fp=>PIf.any λi:{q:En×Bool//t0 q.1=some q.2}=>(ht C s0 H0 fp).h _ _ i.2)
  (λC s0 H0 fp D0=>zgN (PE.any λi:{q:En×D//fk0 q.1=some q.2}=>(hkx C s0 H0 fp).h _ _ i.2) (PE.any λρ':En=>(hv C s0 H0 fp).h ρ' _ (hfv ρ')) D0) S hs rfl (λ_=>rfl) hsw hfx
 have PB:=zpB (pos:=fpos) hp hc (hi2.h (ρ.set i none) xs e3) (zlK hN hyj hly hfy) (zlD (zhL (zjZ Qr PySem.F.slot_list_append PySem.F.type_list_append zcb (zlL (pos:=p2) (by lia) (xQ (pos:=p1) hxi hvis hd hcd) (PE.any λi:{q:En×D//fk q.1=some q.2}=>hE.h _ _ i.2) hns) (yA (PE.any λi:{q:En×D//fe q.1=some q.2}=>he.h _ _ i.2) xG hs3) hbase hfew hline hs3 hplain) hsw2)) hs2;refine PSs.imp (zdt PA1 (zdt PB (hr.h _ fl hf))) λEd σ H h_=>?_
 let⟨F,r,q⟩:=h_;refine⟨F,r,λJ0 F0 H0 g0' ok0=>zpc e2' hz r (λp F1 H1 p5 as g1 gp=>?_) g0' ok0⟩;have rh:=(r.grow g1).hide ad i (.ref p);have ilt:i<σ.length:=by rw[←r.len];exact il
 refine⟨F1,rh,λJ F2 H2 g2 ok=>?_⟩;refine⟨λn k σ1 H3=>n<=xs.length/\k=xs.length - n/\∃ρ3 F3 ls3,adB ρ3=true/\Rel X.K F3 H3 ρ3 σ1/\zG F H F3 H3/\zJ F2 F3/\Grp X.K F3 H3 H p ks ls3 p5 as/\σ1[i]?=some (some (.ref p))/\vX j fk fe ks (xs.drop n) ls3 ρ3=some (ls,ρ1),
  ⟨xs.length,Jz _,rfl,ρ.set i none,F2,_,zeH ad rfl,rh.grow g2,g1.trans g2,zJ.refl _,gp.grow g2,List.getElem?_set_self ilt,e4⟩,?_⟩
 rintro n k σ1 H3 ⟨hn,rfl,ρ3,F3,ls3,ad3,r3,g3,ff3,gp3,si,e6⟩;let⟨o1,o2,o3⟩:=ok F3 H3 ff3 r3.sub;by_cases hlt:n<xs.length
 ·refine .inr ⟨o1 n hlt,λσ' H'=>n+1<=xs.length/\∃ρ3 F3 ls3,adB ρ3=true/\Rel X.K F3 H' ρ3 σ'/\zG F H F3 H'/\zJ F2 F3/\Grp X.K F3 H' H p ks ls3 p5 as/\σ'[i]?=some (some (.ref p))/\vX j fk fe ks (xs.drop (n+1)) ls3 ρ3=some (ls,ρ1),λσ' H' ⟨z1,z2⟩=>⟨xs.length - (n+1),by lia,z1,rfl,z2⟩,λv H4 yv=>?_⟩;let⟨F4,g4,d4⟩:=o2 n v H4 _ (List.getElem?_eq_getElem hlt) yv;rw[Jy hlt]at e6;simp only[vX]at e6;have r4:=(r3.grow g4).setD (i:=j) d4;have gp4:=gp3.grow g4;let⟨y,e7,e6⟩:=Jg.mp e6;let⟨k,e8,e6⟩:=Jg.mp e6;let⟨d,e9,e6⟩:=Jg.mp e6;cases ea:ls3[ks.idxOf (kdK k)]? with
  |none=>simp only[ea]at e6;cases e6
  |some l=>
  simp only[ea]at e6;obtain⟨hl,e6⟩:l.length<lim/\vX j fk fe ks (xs.drop (n+1)) (ls3.set (ks.idxOf (kdK k)) (l++[d])) (ρ3.set j (some (.dat xs[n])))=some (ls,ρ1):=by
   split at e6
   ·rename_i hl;exact⟨hl,e6⟩
   ·cases e6
  have hil:=(List.getElem?_eq_some_iff.mp ea).1;obtain⟨a,hasa⟩:∃a,as[ks.idxOf (kdK k)]?=some a:=⟨_,List.getElem?_eq_getElem (by rw[gp3.ln];exact hil)⟩;have hva:qR p5 k=some (.ref a):=zpq (as:=as) gp3.val (by rw[gp3.eks];exact hasa);refine⟨.ref p,by rw[List.getElem?_set_ne (Ne.symm ij)];exact si,⟨(ρ3.set j (some (.dat xs[n])),y),e7⟩,F4,r4,λu F5 H5 g5 d5=>?_⟩;have ek:=wO (K:=X.K) e8 d5;subst ek;have gp5:=gp4.grow g5;let⟨vs,ha5,_⟩:=gp5.mem _ a l hasa ea;refine⟨p,.ref a,rfl,by rw[←hva];exact DGet.k gp5.atp,.inl ⟨rfl,vs,SqL.of ha5⟩,⟨(ρ3.set j (some (.dat xs[n])),d),e9⟩,F5,r4.grow g5,λw F6 H6 g6 d6=>?_⟩;have gp6:=gp5.grow g6;let⟨vs',ha6,q6⟩:=gp6.mem _ a l hasa ea
  have:=g6.hh _ _ ha5;rw[ha6]at this;cases this
  have fa6:=(gp6.new a (List.mem_of_getElem? hasa)).2;have ad5:adB (ρ3.set j (some (.dat xs[n])))=true:=zeH ad3 rfl;refine⟨a,vs,w,rfl,rfl,ha6,by rw[q6.length];exact wM (Qi hl),hlt,_,F6,_,ad5,((r4.grow g5).grow g6).other ad5 _ fa6,?_,ff3.trans (g4.trans (g5.trans g6)).ff,gp6.app hasa ea ha6 q6 d6,by rw[List.getElem?_set_ne (Ne.symm ij)];exact si,e6⟩;have gg:=g3.trans (g4.trans (g5.trans g6));have haH:=(gp6.new a (List.mem_of_getElem? hasa)).1;exact⟨gg.ff,λb o e=>by rw[zT (jI e haH)];exact gg.hh _ _ e,λb o e=>by rw[zT (jI e fa6)];exact gg.fh _ _ e,gg.nw⟩
 ·have e:n=xs.length:=by(simp at*;lia)
  subst e;rw[QA]at e6;cases e6
  refine .inl ⟨o3,?_⟩;let⟨F',f1,f2,f3,own⟩:=gp3.close r3.sub;have fpn:F' p=none:=by rw[f3 p gp3.pas];exact gp3.fp
  have io:∀(k:Nat) (pp:Bool) (d':D),(ρ1.set i (some (.own (.dic ks (ls.map D.lst)))))[k]?=some (some (.ow pp d'))->k=i/\pp=false/\d'=.dic ks (ls.map D.lst):=λk pp d' e=>by
   rcases qW e with⟨rfl,e'⟩|⟨ne,e'⟩
   ·simp_all
   ·cases gV ad3 e'
  have rr:Rel X.K F' H3 (ρ1.set i (some (.own (.dic ks (ls.map D.lst))))) σ1:=by
   refine⟨f2,λk d' e=>?_,λk d' e=>?_,λk pp d' e=>?_,λk m pp d' s' a ne y1 y2 y3 y4=>?_,by rw[List.length_set];exact r3.len⟩
   ·rcases qW e with⟨rfl,e'⟩|⟨ne,e'⟩
    ·cases e'
    ·let⟨v,h1,h2⟩:=r3.dat k d' e';exact⟨v,h1,h2.mono f1⟩
   ·rcases qW e with⟨rfl,e'⟩|⟨ne,e'⟩
    ·cases e'
    ·cases gV ad3 e'
   ·let⟨rfl,rfl,rfl⟩:=io k pp d' e;exact⟨p,si,fpn,own⟩
   ·let⟨rfl,rfl,rfl⟩:=io k pp d' y1;rcases qW y3 with⟨rfl,e'⟩|⟨ne',e'⟩
    ·exact absurd rfl ne
    ·rw[gV ad3 e']at y4;cases y4
  refine rdS.after r.sub rr ⟨g3.ff.trans f1,λb o e nf _=>?_,λb ⟨k,pp,d',z1,z2⟩=>?_,λk d' e=>?_,f2⟩ q
  ·have nb:b∉as:=λz=>by rw[(gp3.new b z).1]at e;cases e
   exact⟨g3.hh _ _ e,by rw[f3 b nb];exact g3.nw b o e nf⟩
  ·let⟨rfl,rfl,rfl⟩:=io k pp d' z1;rw[si]at z2;cases z2
   exact .inl gp3.np
  ·let⟨_,z,_⟩:=io k true d' e;cases z
end
end FL
namespace L2
variable{X:Cx}
def zor:OpR X (compareOp .IsNot) (λx y H Q=>∃a b,x=.bl a/\y=.bl b/\Q (.bl (!decide (a=b))) H):=by
 intro p4 s σ H x y v u Q I rx ry h;let⟨a,b,rfl,rfl,q⟩:=h;cases rx
 cases ry
 grind [isnot_bool,zmM]
end L2
namespace FL
open L2
variable{K:Fg}{X:Cx}
noncomputable def zjl(x y:D):Option D:=match x,y with
 | .bl a,.bl b=>some (.bl (!decide (a=b)))
 |_,_=>none
def zoo:Op2 K X (compareOp .IsNot) .fz zjl:=by
 refine⟨_,zor,λx y d F H v u Q e s h1 h2 k=>?_⟩;unfold zjl at e;split at e
 ·rename_i a b;cases e
  exact⟨a,b,Dat.bl_inv (K:=K) (F:=F) h1,Dat.bl_inv (K:=K) (F:=F) h2,k _ F H (zG.refl s) (Res.bl _)⟩
 ·cases e
def walkEB{l:PySem.W.OpenLaw}{k:Nat}{q:Program}{loose:U Str}{XP:(SV)->Heap->Prop}{d:DefRec}{x:Str}{m:LO}{p:Program}{I:U Nat}(hn:l.most=some 63)(hdf:d.params.defaults=[])(hr:jK k callerA)(F:∀(K:Fg) (w:World) (mg:SV) (fa:Addr) (h:Heap),faV p I K=faX p I->K.In h->h.Ns mainGlobals mg->mg d.name=some (.ref fa)->
   ∃fd:FuncData,(∀(s:Shared) (u:Value),BindsTo s fd ⟨[u],[]⟩ [(x,u)])/\∀base:Heap,K.In base->base.Ns mainGlobals mg->yP l.prog w K mg base CX0 k fa fd [x] (SpD K .fz m))(H:∀ns:U Int,ns.length<=63->ziF ns->m [.scr ns]=some (.bl true)):PySem.W.WalkO q loose XP (YP p I) l.row.toRowW d [] (λf vs=>PySem.call f vs):=by
 intro w s0 s1 mg mb G Y;let⟨K,hK,A⟩:=Y;exact zrx (K:=λ_=>K) hn hdf hr (λ_ _ z=>z) (λw mg fa h=>F K w mg fa h A) H w s0 s1 mg mb ⟨G.T,G.B,G.D,G.TE,G.TD,G.W,G.X,G.cls,G.has,G.apart,G.once,G.K⟩ hK
abbrev zgR(n:Nat):EO Fl:=
 (zF (ifM (upT (cT (c2 ltD (gb 1) (cL qO (zA (gb 0) zC))))) (zX (c2 zZ (gb 0) (gb 1))) nxM) (zX (cst (.int 0))))
def nX:LO:=qI (zgR zI) 2 2
abbrev zdh(m__law_count:LO)(n:Nat):EO D:=
 (cL m__law_count (zA (gv 0) zC))
abbrev zki(m__law_count:LO)(n:Nat):EO Fl:=
 (zF (ifM (upT (cT (c1 (xX "str") (gb 0)))) (zX (cst (.int 1))) nxM) (zX (c2 zW (cst (.int 1)) (cL sumD (zA (kR [none] (cI (cS qK (gb 0) (kK (cst (.int 1))) yB)) (gN 0) jB (zdh m__law_count n)) zC)))))
def zan:Nat->LO
 |0=>λ_=>none
 |n+1=>qI (zki (zan n) zI) 1 1
def zbn:LO:=zan 100
abbrev zib(n:Nat):EO Fl:=
 (zX (c1 (xX "str") (gb 0)))
def qZ:LO:=qI (zib zI) 1 1
abbrev zeK(n:Nat):EO Fl:=
 (zF (ifM (upT (cT (cL qZ (zA (gv 0) zC)))) (zX (cL zS zC)) nxM) (zX (cS qK (gb 0) (kK (cst (.int 1))) yB)))
def jW:LO:=qI (zeK zI) 1 1
abbrev zcQ(n:Nat):EO D:=
 (cL zS (zA (c2 zW (gb 2) (cL zS (zA (gv 0) zC))) (zA (gv 1) zC)))
abbrev zaR(n:Nat):EO Fl:=
 (zF (gB (gH 2) (qP (zM (gN 3) (zM (gN 4) qH)))) (zF (yX (xM 1 (cL zS (zA (gv 3) (zA (gv 4) zC))))) (zF (qJ 5 (kR [none,none,some 3] (cEnT (cL jW (zA (gv 4) zC))) (qP (zM (gN 0) (zM (gN 1) qH))) jB (zcQ n))) (yX (extM 2 (c2 revX (gb 5) (c1 vS (cst (.int 1)))))))))
abbrev zee(n:Nat):EO Fl:=
 (zF (setO 1 (cL jF zC)) (zF (setO 2 (cL jF (zA (cL zS (zA (cL zS zC) (zA (gv 0) zC))) zC))) (zF (yQ (upT (cTr (gb 2))) (zaR n) n) (xA 1))))
def nV:LO:=qI (zee zI) 1 6
abbrev zeg(n:Nat):EO Fl:=
 (zF (qJ 4 (cL jW (zA (c2 zZ (gb 2) (c1 vS (cst (.int 1)))) zC))) (zF (ifM (upT (orP (cT (c2 ltD (gb 3) (cst (.int 0)))) (cT (c2 geD (gb 3) (cL qO (zA (gb 4) zC)))))) (λ_=>none) nxM) (yX (xM 2 (c2 zZ (gb 4) (gb 3))))))
abbrev zmg(n:Nat):EO Fl:=
 (zF (setO 2 (cL jF (zA (gv 0) zC))) (zF (jN (cI (gv 1)) (gN 3) (zeg n)) (xA 2)))
def zdw:LO:=qI (zmg zI) 2 5
abbrev zei(n:Nat):EO Fl:=
 (qJ 4 (c2 zW (c2 zW (cS qK (gb 5) yB (kK (c2 zW (gb 6) (cst (.int 1))))) (cL zS (zA (gv 4) zC))) (cS qK (gb 5) (kK (c2 zW (gb 6) (cst (.int 2)))) yB)))
abbrev zml(n:Nat):EO Fl:=
 (zF (qJ 3 (cS qK (cL zdw (zA (gv 0) (zA (gv 1) zC))) yB (kK (c1 vS (cst (.int 1)))))) (zF (qJ 4 (gv 2)) (zF (jN (cRv (c2 zipD (gv 3) (gv 1))) (qP (zM (gN 5) (zM (gN 6) qH))) (zei n)) (zX (gv 4)))))
def zbD:LO:=qI (zml zI) 3 7
abbrev zeD(zbb:LO)(n:Nat):EO D:=
 (cL zbb (zA (gv 0) (zA (gv 1) zC)))
abbrev zmn(zbb:LO)(n:Nat):EO Fl:=
 (zF (ifM (upT (cT (cL qZ (zA (gv 0) zC)))) (zX (c3 zks (gb 1) (gv 0) (gv 0))) nxM) (zX (c2 zW (cL zS (zA (c2 zZ (gb 0) (cst (.int 0))) zC)) (cL gE (zA (kR [none,some 1] (cI (cS qK (gb 0) (kK (cst (.int 1))) yB)) (gN 0) jB (zeD zbb n)) zC)))))
def zau:Nat->LO
 |0=>λ_=>none
 |n+1=>qI (zmn (zau n) zI) 2 2
def zbb:LO:=zau 100
abbrev zef(n:Nat):EO Fl:=
 (zF (ifM (upT (orP (cT (cL qZ (zA (gv 0) zC))) (cT (cL qZ (zA (gv 1) zC))))) (zX (cst .non)) nxM) (zF (ifM (upT (orP (cT (c2 neB (c2 zZ (gb 0) (cst (.int 0))) (c2 zZ (gb 1) (cst (.int 0))))) (cT (c2 neB (cL qO (zA (gb 0) zC)) (cL qO (zA (gb 1) zC)))))) (zX (cst .non)) nxM) (zX (c2 zipD (cS qK (gb 0) (kK (cst (.int 1))) yB) (cS qK (gb 1) (kK (cst (.int 1))) yB)))))
def nW:LO:=qI (zef zI) 2 2
abbrev zgV(n:Nat):EO Fl:=
 (zF (gB (zdT 3 (cst (.int 0))) (qP (zM (gN 4) (zM (gN 5) qH)))) (zF (ifM (upT (cT (cL qZ (zA (gv 4) zC)))) (zF (ifM (gS neB (gG 2 (gv 4) (gv 5)) (gb 5)) (zX (cst .non)) nxM) λρ=>some (.ct ρ)) nxM) (zF (qJ 6 (cL nW (zA (gv 4) (zA (gv 5) zC)))) (zF (ifM (upT (cT (c2 isB (gb 6) (cst .non)))) (zX (cst .non)) nxM) (setO 3 (c2 catD (gb 6) (gb 3)))))))
abbrev zqS(n:Nat):EO Fl:=
 (zF (setO 2 (cst (.dic [] []))) (zF (setO 3 (cL jF (zA (cL zS (zA (gv 0) (zA (gv 1) zC))) zC))) (zF (yQ (upT (cTr (gb 3))) (zgV n) n) (xA 2))))
def zgS:LO:=qI (zqS zI) 2 7
abbrev zbH(n:Nat):EO Fl:=
 (ifM (upT (andP (cT (cL qZ (zA (gv 3) zC))) (cT (c2 jQ (gv 3) (gb 1))))) (yX (xM 1 (gv 3))) nxM)
abbrev zgQ(n:Nat):EO Fl:=
 (zF (setO 1 (cL jF zC)) (zF (jN (cI (cL nV (zA (gv 0) zC))) (qP (zM (gN 2) (zM (gN 3) qH))) (zbH n)) (xA 1)))
def zax:LO:=qI (zgQ zI) 1 4
abbrev zaC(n:Nat):EO Fl:=
 (ifM (andM (upT (vL (cT (cL qZ (zA (gv 5) zC))))) (gS neB (gG 1 (c2 zZ (gb 5) (cst (.int 0))) (cL qO (zA (gb 5) zC))) (cL qO (zA (gb 5) zC)))) (yX (xM 2 (c2 zZ (gb 5) (cst (.int 0))))) nxM)
abbrev zaB(n:Nat):EO Fl:=
 (jN (cI (cL nV (zA (gv 3) zC))) (qP (zM (gN 4) (zM (gN 5) qH))) (zaC n))
abbrev zdl(n:Nat):EO Fl:=
 (zF (setO 1 (cst (.dic [] []))) (zF (setO 2 (cL jF zC)) (zF (jN (cI (gv 0)) (gN 3) (zaB n)) (xA 2))))
def zab:LO:=qI (zdl zI) 1 6
abbrev zdg(n:Nat):EO D:=
 (c2 inB (gv 0) (gb 1))
abbrev zkg(n:Nat):EO Fl:=
 (zF (ifM (upT (cT (cL qZ (zA (gv 0) zC)))) (zX (cst (.bl false))) nxM) (zF (qJ 2 (cL zax (zA (gv 0) zC))) (zX (cL gU (zA (kR [none,some 2] (cI (cL zax (zA (gv 1) zC))) (gN 0) jB (zdg n)) zC)))))
def zce:LO:=qI (zkg zI) 2 3
abbrev zcp(n:Nat):EO D:=
 (gv 1)
abbrev zhY(n:Nat):EO Fl:=
 (zX (zhn [none,none] (cI (gv 0)) (gN 0) (cI (gv 0)) (gN 1) (zcp n)))
def zaN:LO:=qI (zhY zI) 1 1
abbrev zay(n:Nat):EO Fl:=
 (zF (vQ (gv 2) (qP (zM (gN 3) (zM (gN 4) qH)))) (ifM (upT (vL (cT (cL zce (zA (gv 3) (zA (gv 4) zC)))))) (λ_=>none) nxM))
abbrev zfS(n:Nat):EO Fl:=
 (zF (jN (cI (gv 0)) (gN 2) (zay n)) (zF (qJ 5 (cL zab (zA (c2 zW (cL zaN (zA (gv 0) zC)) (gb 1)) zC))) (ifM (upT (cTr (gb 5))) (λ_=>none) nxM)))
def gI:LO:=runN (zfS zI) 2 6
abbrev zcg(n:Nat):EO Fl:=
 (zF (qJ 8 (cL zgS (zA (gv 6) (zA (gv 3) zC)))) (ifM (upT (cT (c2 zfj (gb 8) (cst .non)))) (yX (xM 4 (cL zS (zA (gv 2) (zA (gv 5) (zA (cL zbD (zA (gv 1) (zA (gv 2) (zA (cL zbb (zA (gv 7) (zA (gv 8) zC))) zC)))) zC)))))) nxM))
abbrev zhW(n:Nat):EO Fl:=
 (zF (setO 4 (cL jF zC)) (zF (jN (cEnL (gv 0)) (qP (zM (gN 5) (zM (qP (zM (gN 6) (zM (gN 7) qH))) qH))) (zcg n)) (xA 4)))
def zbB:LO:=qI (zhW zI) 4 9
abbrev zff(n:Nat):EO Fl:=
 (yX (extM 2 (cL zbB (zA (gv 0) (zA (gv 1) (zA (gv 3) (zA (gv 4) zC)))))))
abbrev zoC(n:Nat):EO Fl:=
 (zF (zio (cL gI (zA (gv 0) (zA (cL jF (zA (gv 1) zC)) zC)))) (zF (setO 2 (cL jF zC)) (zF (jN (cI (cL nV (zA (gv 1) zC))) (qP (zM (gN 3) (zM (gN 4) qH))) (zff n)) (xA 2))))
def zfU:LO:=qI (zoC zI) 2 5
abbrev zbp(n:Nat):EO Fl:=
 (zF (qJ 9 (c2 zW (c2 zW (c2 xD (gb 2) (c2 zW (gb 8) (cst (.int 3)))) (c2 wL (gb 8) (gb 8))) (c2 wL (cL intD (zA (c2 eqB (gb 8) (gb 4)) zC)) (gb 6)))) (qJ 7 (c2 zW (gb 7) (c2 zZ (gb 1) (c2 yM (gb 9) (cst (.int 26)))))))
abbrev zda(n:Nat):EO Fl:=
 (zF (qJ 7 (cst (.str ""))) (zF (jN (cR1 (gv 3)) (gN 8) (zbp n)) (yX (xM 5 (cL zS (zA (gv 7) (zA (c2 zZ (cL jF (zA (cst (.int 0)) (zA (cst (.int 1)) (zA (cst (.int 2)) (zA (c2 yM (c2 xD (gb 2) (cst (.int 64))) (cst (.int 4))) zC))))) (gb 6)) zC)))))))
abbrev zkd(n:Nat):EO Fl:=
 (zF (qJ 1 (cst (.str "abcdefghijklmnopqrstuvwxyz"))) (zF (qJ 2 (c2 yM (gb 0) (cst (.int 2147483629)))) (zF (qJ 3 (c2 zW (cst (.int 1)) (c2 yM (gb 2) (cst (.int 8))))) (zF (qJ 4 (c2 yM (c2 xD (gb 2) (cst (.int 8))) (gb 3))) (zF (setO 5 (cL jF zC)) (zF (jN (cR1 (cst (.int 4))) (gN 6) (zda n)) (xA 5)))))))
def zcd:LO:=qI (zkd zI) 1 10
abbrev zia(n:Nat):EO Fl:=
 (zF (ifM (upT (cT (c2 eqB (c2 yM (gb 0) (cst (.int 3))) (cst (.int 0))))) (zX (c2 yM (c2 xD (gb 0) (cst (.int 3))) (c2 powD (cst (.int 10)) (cst (.int 60))))) nxM) (zX (c2 yM (c2 wL (c2 xD (gb 0) (cst (.int 3))) (cst (.int 27182818284590452353602874713526624977572470936999595749669))) (c2 powD (cst (.int 10)) (cst (.int 60))))))
def zat:LO:=qI (zia zI) 1 1
abbrev zeh(m__law_term:LO)(n:Nat):EO Fl:=
 (zF (vQ (cL m__law_term (zA (gv 0) (zA (c2 gF (gb 1) (cst (.int 1))) (zA (gv 2) (zA (gv 3) zC))))) (xY (zM (gN 10) (zM (gN 0) qH)))) (yX (xM 8 (gv 10))))
abbrev zmi(m__law_term:LO)(n:Nat):EO Fl:=
 (zF (qJ 4 (c2 zW (cL qO (zA (gb 2) zC)) (cL qO (zA (gb 3) zC)))) (zF (qJ 5 (c2 yM (gb 0) (gb 4))) (zF (qJ 0 (c2 xD (gb 0) (gb 4))) (zF (ifM (upT (cT (c2 ltD (gb 5) (cL qO (zA (gb 3) zC))))) (zX (cL jF (zA (c2 zZ (gb 3) (gb 5)) (zA (gv 0) zC)))) nxM) (zF (vQ (c2 zZ (gb 2) (c2 gF (gb 5) (cL qO (zA (gb 3) zC)))) (qP (zM (gN 6) (zM (gN 7) qH)))) (zF (ifM (upT (andP (cT (c2 eqB (gb 1) (cst (.int 0)))) (cT (c2 gtD (gb 7) (cst (.int 0)))))) (zX (cL jF (zA (cL zS (zA (c2 zZ (c2 zZ (gb 2) (cst (.int 0))) (cst (.int 0))) zC)) (zA (gv 0) zC)))) nxM) (zF (setO 8 (cL jF zC)) (zF (jN (cR1 (gv 7)) (gN 9) (zeh m__law_term n)) (zX (cL jF (zA (c2 zW (cL zS (zA (gv 6) zC)) (cL gE (zA (gb 8) zC))) (zA (gv 0) zC))))))))))))
def nU:Nat->LO
 |0=>λ_=>none
 |n+1=>qI (zmi (nU n) zI) 4 11
def zaZ:LO:=nU 100
abbrev zcj(m__law_blanks:LO)(n:Nat):EO Fl:=
 (ifM (upT (cT (c2 jQ (gv 3) (gb 1)))) (yX (xM 1 (gv 3))) nxM)
abbrev zci(m__law_blanks:LO)(n:Nat):EO Fl:=
 (jN (cI (cL m__law_blanks (zA (gv 2) zC))) (gN 3) (zcj m__law_blanks n))
abbrev zic(m__law_blanks:LO)(n:Nat):EO Fl:=
 (zF (ifM (upT (cT (c1 (xX "str") (gb 0)))) (zX (cL jF (zA (gv 0) zC))) nxM) (zF (setO 1 (cL jF zC)) (zF (jN (cI (cS qK (gb 0) (kK (cst (.int 1))) yB)) (gN 2) (zci m__law_blanks n)) (xA 1))))
def zad:Nat->LO
 |0=>λ_=>none
 |n+1=>qI (zic (zad n) zI) 1 4
def zaQ:LO:=zad 100
abbrev zmm(n:Nat):EO Fl:=
 (zF (qJ 2 (cL zS (zA (c2 zZ (c2 zZ (gb 0) (cst (.int 0))) (cst (.int 0))) zC))) (zF (qJ 3 (c2 zZ (c2 zZ (gb 0) (cst (.int 1))) (cst (.int 0)))) (zF (qJ 4 (c2 zZ (c2 zZ (gb 0) (cst (.int 2))) (cst (.int 0)))) (zF (qJ 5 (cL jF (zA (cL zS (zA (cL zS (zA (gv 4) (zA (cL zS (zA (gv 4) (zA (cst (.str "X")) (zA (cst (.str "Y")) zC)))) (zA (cst (.str "Z")) zC)))) (zA (cL zS (zA (gv 4) (zA (cst (.str "X")) (zA (cL zS (zA (gv 4) (zA (cst (.str "Y")) (zA (cst (.str "Z")) zC)))) zC)))) zC))) (zA (cL zS (zA (cL zS (zA (gv 4) (zA (gv 2) (zA (cst (.str "X")) zC)))) (zA (cst (.str "X")) zC))) (zA (cL zS (zA (cL zS (zA (gv 4) (zA (cst (.str "X")) (zA (gv 2) zC)))) (zA (cst (.str "X")) zC))) zC))))) (zF (qJ 5 (c2 zW (gb 5) (cL jF (zA (cL zS (zA (cL zS (zA (gv 3) (zA (cL zS (zA (gv 3) (zA (cst (.str "X")) zC))) zC))) (zA (cst (.str "X")) zC))) (zA (cL zS (zA (cL zS (zA (gv 3) (zA (gv 2) zC))) (zA (gv 2) zC))) (zA (cL zS (zA (cL zS (zA (gv 3) (zA (cL zS (zA (gv 4) (zA (cst (.str "X")) (zA (cst (.str "Y")) zC)))) zC))) (zA (cL zS (zA (gv 4) (zA (cL zS (zA (gv 3) (zA (cst (.str "Y")) zC))) (zA (cL zS (zA (gv 3) (zA (cst (.str "X")) zC))) zC)))) zC))) zC)))))) (zF (qJ 5 (c2 zW (gb 5) (cL jF (zA (cL zS (zA (cL zS (zA (gv 4) (zA (cL zS (zA (gv 3) (zA (cst (.str "X")) zC))) (zA (cst (.str "X")) zC)))) (zA (gv 2) zC))) (zA (cL zS (zA (cL zS (zA (gv 3) (zA (cL zS (zA (gv 3) (zA (cst (.str "X")) zC))) zC))) (zA (cL zS (zA (gv 3) (zA (cst (.str "X")) zC))) zC))) (zA (cL zS (zA (cL zS (zA (gv 4) (zA (cst (.str "X")) (zA (cst (.str "X")) zC)))) (zA (cst (.str "X")) zC))) zC)))))) (zF (qJ 5 (c2 zW (gb 5) (cL jF (zA (cL zS (zA (cL zS (zA (gv 4) (zA (cL zS (zA (gv 3) (zA (cst (.str "X")) zC))) (zA (cst (.str "Y")) zC)))) (zA (cL zS (zA (gv 3) (zA (cL zS (zA (gv 4) (zA (cst (.str "X")) (zA (cst (.str "Y")) zC)))) zC))) zC))) (zA (cL zS (zA (cL zS (zA (gv 4) (zA (cst (.str "X")) (zA (cL zS (zA (gv 3) (zA (cst (.str "Y")) zC))) zC)))) (zA (cL zS (zA (gv 3) (zA (cL zS (zA (gv 4) (zA (cst (.str "X")) (zA (cst (.str "Y")) zC)))) zC))) zC))) zC))))) (zF (qJ 5 (c2 zW (gb 5) (cL jF (zA (cL zS (zA (cL zS (zA (gv 3) (zA (cL zS (zA (gv 4) (zA (cst (.str "X")) (zA (cst (.str "Y")) zC)))) zC))) (zA (cst (.str "Y")) zC))) (zA (cL zS (zA (cL zS (zA (gv 4) (zA (cL zS (zA (gv 4) (zA (cst (.str "X")) (zA (cst (.str "Y")) zC)))) (zA (cst (.str "Y")) zC)))) (zA (cst (.str "X")) zC))) (zA (cL zS (zA (cL zS (zA (gv 3) (zA (cst (.str "X")) zC))) (zA (cL zS (zA (gv 4) (zA (cst (.str "X")) (zA (gv 2) zC)))) zC))) zC)))))) (zX (c2 zZ (gb 5) (c2 yM (gb 1) (cst (.int 14)))))))))))))
def zdx:LO:=qI (zmm zI) 2 6
abbrev zmj(n:Nat):EO Fl:=
 (zF (ifM (upT (cT (c2 gtD (c2 yM (gb 0) (cst (.int 3))) (cst (.int 0))))) (zX (cL zdx (zA (gv 1) (zA (c2 xD (gb 0) (cst (.int 3))) zC)))) nxM) (zF (vQ (cL zaZ (zA (cL zat (zA (c2 xD (gb 0) (cst (.int 3))) zC)) (zA (cst (.int 2)) (zA (gv 1) (zA (cL jF (zA (cst (.str "A")) (zA (cst (.str "B")) (zA (cst (.str "X")) zC)))) zC))))) (xY (zM (gN 2) (zM (gN 3) qH)))) (zF (ifM (upT (orP (cT (c1 (xX "str") (gb 2))) (cT (c2 gtD (cL zbn (zA (gv 2) zC)) (cst (.int 12)))))) (qJ 2 (cL zS (zA (c2 zZ (c2 zZ (gb 1) (cst (.int 1))) (cst (.int 0))) (zA (cst (.str "A")) zC)))) nxM) (zF (qJ 4 (c2 zZ (cL zaZ (zA (c2 zW (gb 3) (c2 yM (c2 xD (gb 0) (cst (.int 9))) (cst (.int 1000)))) (zA (cst (.int 1)) (zA (gv 1) (zA (cL zaQ (zA (gv 2) zC)) zC))))) (cst (.int 0)))) (zX (cL zS (zA (gv 2) (zA (gv 4) zC))))))))
def zba:LO:=qI (zmj zI) 2 5
abbrev zeB(m__law_told:LO)(n:Nat):EO D:=
 (cL m__law_told (zA (gv 0) (zA (gv 1) zC)))
abbrev zmh(m__law_told:LO)(n:Nat):EO Fl:=
 (zF (ifM (upT (cT (c1 (xX "str") (gb 0)))) (zX (c2 vN (gb 1) (gv 0))) nxM) (zX (c2 zW (cL zS (zA (c2 zZ (gb 0) (cst (.int 0))) zC)) (cL gE (zA (kR [none,some 1] (cI (cS qK (gb 0) (kK (cst (.int 1))) yB)) (gN 0) jB (zeB m__law_told n)) zC)))))
def zas:Nat->LO
 |0=>λ_=>none
 |n+1=>qI (zmh (zas n) zI) 2 2
def zcc:LO:=zas 100
abbrev zbr(n:Nat):EO Fl:=
 (zF (znX 3 (gv 4) (zdT 2 (c2 yM (gb 1) (cL qO (zA (gb 2) zC))))) (qJ 1 (c2 zW (c2 xD (gb 1) (cst (.int 7))) (cst (.int 3)))))
abbrev zfT(n:Nat):EO Fl:=
 (zF (setO 2 (cL zms (zA (cst (.str "ABCDEFGHIJKLMNOPQRSTUVWXYZ")) zC))) (zF (setO 3 (cst (.dic [] []))) (zF (jN (cI (cL jF (zA (cst (.str "X")) (zA (cst (.str "Y")) (zA (cst (.str "A")) (zA (cst (.str "Z")) (zA (cst (.str "B")) zC))))))) (gN 4) (zbr n)) (wR 3 (zX (cL zS (zA (cL zcc (zA (c2 zZ (gb 0) (cst (.int 0))) (zA (gv 3) zC))) (zA (cL zcc (zA (c2 zZ (gb 0) (cst (.int 1))) (zA (gv 3) zC))) zC))))))))
def zaA:LO:=qI (zfT zI) 2 5
abbrev zdf(n:Nat):EO D:=
 (cL zba (zA (cL nX (zA (gv 2) (zA (c2 zW (cst (.int 2)) (gb 0)) zC))) (zA (gv 1) zC)))
abbrev zde(n:Nat):EO D:=
 (cL zaA (zA (c2 zZ (gb 1) (gb 0)) (zA (c2 zW (c2 xD (cL nX (zA (gv 2) (zA (cst (.int 1)) zC))) (cst (.int 33))) (c2 wL (cst (.int 5)) (gb 0))) zC)))
abbrev zke(n:Nat):EO Fl:=
 (zF (qJ 2 (cL zcd (zA (cL nX (zA (gv 0) (zA (cst (.int 0)) zC))) zC))) (zF (qJ 3 (c2 xD (c2 zW (c2 yM (cL nX (zA (gv 0) (zA (cst (.int 1)) zC))) (c2 zW (c2 wL (cst (.int 8)) (gb 1)) (cst (.int 1)))) (cst (.int 7))) (cst (.int 8)))) (zF (qJ 4 (kR [none,some 2,some 0] (cR1 (gv 3)) (gN 0) jB (zdf n))) (zX (cL jF (zA (gv 2) (zA (kR [none,some 4,some 0] (cR1 (gv 3)) (gN 0) jB (zde n)) zC)))))))
def zbm:LO:=qI (zke zI) 2 5
abbrev zeC(qZ:LO)(n:Nat):EO D:=
 (c2 vW (gb 1) (c2 zW (gb 2) (cL zS (zA (gv 0) zC))))
abbrev zmk(qZ:LO)(n:Nat):EO Fl:=
 (zF (ifM (upT (cT (cL qZ (zA (gv 0) zC)))) (zX (gv 0)) nxM) (zX (c2 zW (cL zS (zA (c2 zZ (gb 0) (cst (.int 0))) zC)) (cL gE (zA (kR [none,some 2,some 1] (cR1 (c2 gF (cL qO (zA (gb 0) zC)) (cst (.int 1)))) (gN 0) jB (zeC qZ n)) zC)))))
def zbC:LO:=xP (zmk qZ zI) 3 3 [false,false,true]
abbrev zbe(n:Nat):EO Fl:=
 (zhJ 4 (gv 5) (sdfG 1 (cL zbC (zA (gv 6) (zA (gv 5) (zA (gb 4) zC)))) (cL lenG (zA (gb 1) zC))))
abbrev zcq(n:Nat):EO D:=
 (c2 vW (gb 1) (gv 0))
abbrev zbd(n:Nat):EO Fl:=
 (zF (setO 4 (cst (.dic [] []))) (zF (jN (cRv (cL nV (zA (gv 3) zC))) (qP (zM (gN 5) (zM (gN 6) qH))) (zbe n)) (wR 4 (yX (xM 2 (c1 znJ (kR [none,some 4] (cKG (gv 4)) (gN 0) jB (zcq n))))))))
abbrev zhZ(n:Nat):EO Fl:=
 (zF (setO 1 (cst (.dic [] []))) (zF (setO 2 (cL jF zC)) (zF (jN (cI (gv 0)) (gN 3) (zbd n)) (wR 2 (zX (cL zS (zA (cL zoE (zA (gb 1) zC)) (zA (gv 2) zC))))))))
def zbE:LO:=qI (zhZ zI) 1 7
abbrev zbJ(qZ jW:LO)(n:Nat):EO D:=
 (orV (c2 eqB (gb 0) (gb 1)) (c2 vW (gb 2) (cL zS (zA (gv 0) (zA (gv 1) zC)))))
abbrev zbI(qZ jW:LO)(n:Nat):EO D:=
 (c2 vW (gb 1) (cL zS (zA (gv 2) (zA (gv 0) zC))))
abbrev zaH(qZ jW:LO)(n:Nat):EO Bool:=
 (cT (c2 neB (c2 zZ (gb 0) (cst (.int 0))) (c2 zZ (gb 0) (cst (.int 1)))))
abbrev zaI(qZ jW:LO)(n:Nat):EO D:=
 (gv 0)
abbrev zgP(qZ jW:LO)(n:Nat):EO Fl:=
 (zF (ifM (upT (cT (cL qZ (zA (c2 zZ (gb 1) (gb 3)) zC)))) (zX (cst (.bl false))) nxM) (zF (ifM (upT (cTr (cL gT (zA (kR [none,some 4,some 2] (cI (cL jW (zA (c2 zZ (gb 1) (gb 3)) zC))) (gN 0) jB (zbJ qZ jW n)) zC)))) (zX (cst (.bl true))) nxM) (zF (ifM (upT (orP (cT (cL qZ (zA (c2 zZ (gb 1) (gb 4)) zC))) (vL (cTr (cL gU (zA (kR [none,some 2,some 3] (cI (cL jW (zA (c2 zZ (gb 1) (gb 4)) zC))) (gN 0) jB (zbI qZ jW n)) zC)))))) (zX (cst (.bl false))) nxM) (zF (ifM (upT (cT (c2 neB (c2 zZ (c2 zZ (gb 1) (gb 3)) (cst (.int 0))) (c2 zZ (c2 zZ (gb 1) (gb 4)) (cst (.int 0)))))) (zX (c2 gtD (c2 vN (gb 0) (c2 zZ (c2 zZ (gb 1) (gb 3)) (cst (.int 0)))) (c2 vN (gb 0) (c2 zZ (c2 zZ (gb 1) (gb 4)) (cst (.int 0)))))) nxM) (zF (qJ 5 (kR [none] (cZ (cL jW (zA (c2 zZ (gb 1) (gb 3)) zC)) (cL jW (zA (c2 zZ (gb 1) (gb 4)) zC))) (gN 0) (zaH qZ jW n) (zaI qZ jW n))) (zX (andV (c2 gtD (cL qO (zA (gb 5) zC)) (cst (.int 0))) (c2 vW (gb 2) (c2 zZ (gb 5) (cst (.int 0)))))))))))
def vT:LO:=xP (zgP qZ jW zI) 5 6 [false,false,true,false,false]
abbrev zft(n:Nat):EO D:=
 (gv 1)
abbrev zfv(n:Nat):EO D:=
 (gv 0)
abbrev zbF(n:Nat):EO Fl:=
 (zhJ 8 (cL zS (zA (gv 9) (zA (gv 10) zC))) (upX (cL vT (zA (gv 3) (zA (gv 4) (zA (gb 8) (zA (gv 9) (zA (gv 10) zC))))))))
abbrev zfh(n:Nat):EO Fl:=
 (jN (cI (gv 7)) (gN 10) (zbF n))
abbrev zoD(n:Nat):EO Fl:=
 (zF (setO 3 (zfs [none,none] (cEnL (gv 0)) (qP (zM (gN 0) (zM (gN 1) qH))) jB (zft n) (zfv n))) (zF (vQ (cL zbE (zA (cL jF (zA (gv 1) (zA (gv 2) zC))) zC)) (qP (zM (gN 4) (zM (gN 5) qH)))) (zF (vQ (gv 5) (xY (zM (gN 6) (zM (gN 7) qH)))) (zF (setO 8 (cst (.dic [] []))) (zF (wR 3 (jN (cI (gv 6)) (gN 9) (zfh n))) (zX (c2 vW (gb 8) (cL zS (zA (c2 zZ (gb 6) (c1 vS (cst (.int 1)))) (zA (c2 zZ (gb 7) (c1 vS (cst (.int 1)))) zC))))))))))
def zcE:LO:=qI (zoD zI) 3 11
abbrev zbc(n:Nat):EO Fl:=
 (ifM (upT (vL (cT (cL qZ (zA (gv 4) zC))))) (yX (addM 1 (c2 zZ (gb 4) (cst (.int 0))))) nxM)
abbrev zch(n:Nat):EO Fl:=
 (jN (cI (cL nV (zA (gv 2) zC))) (qP (zM (gN 3) (zM (gN 4) qH))) (zbc n))
abbrev zhX(n:Nat):EO Fl:=
 (zF (setO 1 (cst (.set []))) (zF (jN (cI (gv 0)) (gN 2) (zch n)) (zX (cL znL (zA (gb 1) zC)))))
def zam:LO:=qI (zhX zI) 1 5
abbrev zaj(n:Nat):EO D:=
 (gv 0)
abbrev zai(n:Nat):EO D:=
 (c2 zZ (cL zam (zA (cL zkk (zA (gb 3) zC)) zC)) (c1 vS (cst (.int 1))))
abbrev zdm(n:Nat):EO Fl:=
 (zF (grpM 2 3 [none] (cI (gv 1)) (gN 0) jB (zaj n) (cI (gv 0)) (zai n) (gv 3)) (xA 2))
def zac:LO:=qI (zdm zI) 2 4
abbrev zdb(n:Nat):EO Fl:=
 (ifM (upT (vL (cT (cL zcE (zA (gv 0) (zA (gv 2) (zA (gv 3) zC))))))) (zX (cst (.bl false))) nxM)
abbrev zkh(n:Nat):EO Fl:=
 (zF (jN (cI (gv 1)) (qP (zM (gN 2) (zM (gN 3) qH))) (zdb n)) (zX (cst (.bl true))))
def zaP:LO:=qI (zkh zI) 2 4
abbrev zbq(n:Nat):EO Fl:=
 (zF (qJ 7 (c2 zW (c2 zW (cS qK (gb 4) yB (kK (gv 6))) (cL jF (zA (gv 5) zC))) (cS qK (gb 4) (kK (gv 6)) yB))) (ifM (upT (cT (cL zaP (zA (gv 7) (zA (c2 vN (gb 2) (gv 5)) zC))))) (yX (xM 3 (gv 7))) nxM))
abbrev zaD(n:Nat):EO Fl:=
 (zF (gB (gH 3) (gN 4)) (zF (ifM (upT (cT (c2 eqB (cL qO (zA (gb 4) zC)) (cL qO (zA (gb 1) zC))))) (zX (gv 4)) nxM) (zF (qJ 5 (c2 zZ (gb 1) (cL qO (zA (gb 4) zC)))) (jN (cR1 (c2 zW (cL qO (zA (gb 4) zC)) (cst (.int 1)))) (gN 6) (zbq n)))))
abbrev zkf(n:Nat):EO Fl:=
 (zF (zio (cL gI (zA (gv 0) (zA (cL jF zC) zC)))) (zF (qJ 1 (cL zam (zA (cL zaN (zA (gv 0) zC)) zC))) (zF (qJ 2 (cL zac (zA (gv 0) (zA (gv 1) zC)))) (zF (setO 3 (cL jF (zA (cL jF zC) zC))) (zF (yQ (upT (cTr (gb 3))) (zaD n) n) (zX (cst .non)))))))
def zaO:LO:=qI (zkf zI) 1 8
abbrev zkc(n:Nat):EO Fl:=
 (zF (ifM (upT (cT (c1 (xX "str") (gb 0)))) (zX (cst (.bl true))) nxM) (zX (c2 leD (cL zbn (zA (gv 0) zC)) (cst (.int 12)))))
def zaM:LO:=qI (zkc zI) 1 1
abbrev zaF(m__law_above:LO)(n:Nat):EO Fl:=
 (ifM (upT (orP (cT (c2 eqB (gb 3) (gb 2))) (cT (cL m__law_above (zA (gv 0) (zA (gv 3) (zA (gv 2) zC))))))) (zX (cst (.bl true))) nxM)
abbrev zdd(m__law_above:LO)(n:Nat):EO Bool:=
 (vL (cT (cL m__law_above (zA (gv 1) (zA (gv 2) (zA (gv 0) zC))))))
abbrev zdi(m__law_above:LO)(n:Nat):EO D:=
 (gv 0)
abbrev zaE(m__law_above:LO)(n:Nat):EO Fl:=
 (ifM (upT (cT (c2 neB (gb 5) (gb 6)))) (zX (cL m__law_above (zA (gv 0) (zA (gv 5) (zA (gv 6) zC))))) nxM)
abbrev zkj(m__law_above:LO)(n:Nat):EO Fl:=
 (zF (ifM (upT (cT (c1 (xX "str") (gb 1)))) (zX (cst (.bl false))) nxM) (zF (ifM (upT (cT (c1 (xX "str") (gb 2)))) (zX (c2 inB (gv 2) (cL zaQ (zA (gv 1) zC)))) nxM) (zF (jN (cI (cS qK (gb 1) (kK (cst (.int 1))) yB)) (gN 3) (zaF m__law_above n)) (zF (qJ 4 (c2 gF (c2 zfl (gb 0) (c2 zZ (gb 1) (cst (.int 0)))) (c2 zfl (gb 0) (c2 zZ (gb 2) (cst (.int 0)))))) (zF (ifM (upT (orP (cT (c2 ltD (gb 4) (cst (.int 0)))) (cT (c2 gtD (cL qO (zA (kR [none,some 0,some 1] (cI (cS qK (gb 2) (kK (cst (.int 1))) yB)) (gN 0) (zdd m__law_above n) (zdi m__law_above n)) zC)) (cst (.int 0)))))) (zX (cst (.bl false))) nxM) (zF (ifM (upT (cT (c2 gtD (gb 4) (cst (.int 0))))) (zX (cst (.bl true))) nxM) (zF (jN (cZ (cS qK (gb 1) (kK (cst (.int 1))) yB) (cS qK (gb 2) (kK (cst (.int 1))) yB)) (qP (zM (gN 5) (zM (gN 6) qH))) (zaE m__law_above n)) (zX (cst (.bl false))))))))))
def xS:Nat->LO
 |0=>λ_=>none
 |n+1=>qI (zkj (xS n) zI) 3 7
def zcf:LO:=xS 100
abbrev zcN(n:Nat):EO Bool:=
 (cT (c2 jQ (gv 0) (gb 2)))
abbrev zcR(n:Nat):EO D:=
 (gv 0)
abbrev zcF(n:Nat):EO Fl:=
 (ifM (upT (cT (cL zaM (zA (gv 8) zC)))) (ifM (upT (orP (vL (cT (cL zcf (zA (gv 3) (zA (gv 5) (zA (gv 8) zC)))))) (cT (c2 zjl (cL zcE (zA (gv 3) (zA (gv 5) (zA (gv 8) zC)))) (cst (.bl true)))))) (zX (cst (.bl false))) nxM) nxM)
abbrev zfg(n:Nat):EO Fl:=
 (zF (qJ 5 (c2 zZ (cL zaZ (zA (cL zat (zA (gv 4) zC)) (zA (cst (.int 3)) (zA (gv 1) (zA (cL jF (zA (cst (.str "A")) (zA (cst (.str "B")) (zA (cst (.str "X")) zC)))) zC))))) (cst (.int 0)))) (ifM (upT (cT (cL zaM (zA (gv 5) zC)))) (jN (cI (cS qK (cL zfU (zA (gv 2) (zA (gv 5) zC))) yB (kK (cst (.int 6))))) (qP (zM (gN 6) (zM (gN 7) (zM (gN 8) qH)))) (zcF n)) nxM))
abbrev zjh(n:Nat):EO Fl:=
 (zF (vQ (cL zbm (zA (gv 0) (zA (cst (.int 4)) zC))) (xY (zM (gN 1) (zM (gN 2) qH)))) (zF (qJ 3 (cL zaO (zA (gv 2) zC))) (zF (ifM (upT (cT (c2 isB (gb 3) (cst .non)))) (zX (cst (.bl true))) nxM) (zF (qJ 3 (c2 zW (kR [none,none,some 3] (cI (gv 1)) (qP (zM (gN 0) (zM (gN 1) qH))) (zcN n) (zcR n)) (gb 3))) (zF (jN (cI (cS qK (gb 0) (kK (cst (.int 6))) (kK (cst (.int 26))))) (gN 4) (zfg n)) (zX (cst (.bl true))))))))
def m_law34:LO:=qI (zjh zI) 1 9
theorem zjs{g:D->EO En}{b:EO Fl}(I:Nat->En->Prop):∀(xs:U D) (k:Nat) (ρ:En),I k ρ->
  (∀(i:Nat) x ρ,xs[i]?=some x->I (k+i) ρ->∃ρ1 ρ2,g x ρ=some ρ1/\(b ρ1=some (.nx ρ2)\/b ρ1=some (.ct ρ2))/\I (k+i+1) ρ2)->∃ρ',jT g b xs ρ=some (.nx ρ')/\I (k+xs.length) ρ'
 |[],k,ρ,h,_=>⟨ρ,rfl,h⟩
 |x::xs,k,ρ,h,hs=>by
  let⟨ρ1,ρ2,e1,e2,h2⟩:=hs 0 x ρ rfl h;let⟨ρ',e3,h3⟩:=zjs I xs (k+1) ρ2 h2 λi y σ hy hi=>by have:=hs (i+1) y σ (by simpa using hy) (by grind);rw[show k+(i+1)+1=k+1+i+1 by lia]at this;exact this
  refine⟨ρ',?_,by rw[JA,show k+(xs.length+1)=k+1+xs.length by simp+arith];exact h3⟩;simp only[jT,e1];rcases e2 with e2|e2<;>(rw[e2];exact e3)
variable{ρ:En}
def zri{g:D->EO En}{b:EO Fl}{xs:U D}(I:Nat->En->Prop)(h0:I 0 ρ)(hs:∀(i:Nat) x ρ,xs[i]?=some x->I i ρ->∃ρ1 ρ2,g x ρ=some ρ1/\(b ρ1=some (.nx ρ2)\/b ρ1=some (.ct ρ2))/\I (i+1) ρ2):∃ρ',jT g b xs ρ=some (.nx ρ')/\I xs.length ρ':=by
 have:=zjs (g:=g) (b:=b) I xs 0 ρ h0 λi x σ hx hi=>by rw[Qw]at hi ⊢;exact hs i x σ hx hi
 rw[Qw]at this;exact this
def kP{g:D->EO En}{b:EO Fl}{xs:U D}{ρ:En}(I:Nat->En->Prop)(h0:I 0 ρ)(hs:∀(i:Nat) x ρ,xs[i]?=some x->I i ρ->∃ρ2,((g x ρ).bind b=some (.nx ρ2)\/(g x ρ).bind b=some (.ct ρ2))/\I (i+1) ρ2):∃ρ',jT g b xs ρ=some (.nx ρ')/\I xs.length ρ':=
 zri I h0 λi x ρ hx hi=>by
  let⟨ρ2,e,h⟩:=hs i x ρ hx hi;cases e1:g x ρ with
  |none=>rw[e1]at e;rcases e with e|e<;>cases e
  |some ρ1=>rw[e1]at e;exact⟨ρ1,ρ2,rfl,e,h⟩
theorem zgt{t:EO (Bool×En)}{b:EO Fl}(I:Nat->En->Prop)(Post:En->Prop)(hs:∀m ρ,I m ρ->(∃ρ1,t ρ=some (false,ρ1)/\Post ρ1)\/(∃ρ1 ρ2 m',t ρ=some (true,ρ1)/\(b ρ1=some (.nx ρ2)\/b ρ1=some (.ct ρ2))/\m'<m/\I m' ρ2)):
  ∀(n m:Nat) (ρ:En),I m ρ->m<n->∃ρ',yQ t b n ρ=some (.nx ρ')/\Post ρ'
 |0,_,_,_,h=>absurd h (Nat.not_lt_zero _)
 |n+1,m,ρ,h,hn=>by
  rcases hs m ρ h with⟨ρ1,e,p⟩|⟨ρ1,ρ2,m',e,e2,hm,h2⟩
  ·exact⟨ρ1,by simp only[yQ,e],p⟩
  ·let⟨ρ',e3,p⟩:=zgt I Post hs n m' ρ2 h2 (by lia);grind [yQ]
theorem zcu{t:EO (Bool×En)}{b:EO Fl}(I:Nat->En->Prop)(Post:Fl->Prop)(hs:∀m ρ,I m ρ->(∃ρ1,t ρ=some (false,ρ1)/\Post (.nx ρ1))\/(∃ρ1 ρ2 m',t ρ=some (true,ρ1)/\(b ρ1=some (.nx ρ2)\/b ρ1=some (.ct ρ2))/\m'<m/\I m' ρ2)\/(∃ρ1 d ρ2,t ρ=some (true,ρ1)/\b ρ1=some (.rt d ρ2)/\Post (.rt d ρ2))):
  ∀(n m:Nat) (ρ:En),I m ρ->m<n->∃fl,yQ t b n ρ=some fl/\Post fl
 |0,_,_,_,h=>absurd h (Nat.not_lt_zero _)
 |n+1,m,ρ,h,hn=>by
  rcases hs m ρ h with⟨ρ1,e,p⟩|⟨ρ1,ρ2,m',e,e2,hm,h2⟩|⟨ρ1,d,ρ2,e,e2,p⟩
  ·exact⟨_,by simp only[yQ,e],p⟩
  ·let⟨ρ',e3,p⟩:=zcu I Post hs n m' ρ2 h2 (by lia);grind [yQ]
  ·exact⟨_,by simp only[yQ,e,e2],p⟩
theorem wV{g:D->EO En}{t:EO Bool}{f:EO D}:∀{xs ys:U D},xs.length=ys.length->(∀(i:Nat) x y,xs[i]?=some x->ys[i]?=some y->∃ρ1,g x ρ=some ρ1/\t ρ1=some true/\f ρ1=some y)->jH g t f ρ xs=some ys
 |[],[],_,_=>rfl
 |[],_::_,h,_=>by simp at h
 |_::_,[],h,_=>by simp at h
 |x::xs,y::ys,h,k=>by
  let⟨ρ1,e1,e2,e3⟩:=k 0 x y rfl rfl
  have:=wV (g:=g) (t:=t) (f:=f) (xs:=xs) (ys:=ys) (by simpa using h) λi a b ha hb=>k (i+1) a b (by simpa using ha) (by simpa using hb)
  simp[jH,e1,e2,e3,this]
theorem zey{g:D->EO En}{t:EO Bool}{f:EO D}{ρ:En}{φ:D->D}{p:D->Bool}:∀{xs:U D},(∀x∈xs,∃ρ1,g x ρ=some ρ1/\t ρ1=some (p x)/\(p x=true->f ρ1=some (φ x)))->jH g t f ρ xs=some ((xs.filter p).map φ)
 |[],_=>rfl
 |x::xs,k=>by
  let⟨ρ1,e1,e2,e3⟩:=k x JX
  have:=zey (g:=g) (t:=t) (f:=f) λy hy=>k y (Ji _ hy)
  grind [jH]
def zak{lo:Int}{n i:Nat}{d:D}(h:(yS lo n)[i]?=some d):i<n/\d=.int (lo+(i:Int)):=by
 unfold yS at h;rw[List.getElem?_map]at h;cases e:(List.range n)[i]? with
 |none=>rw[e]at h;cases h
 |some k=>
  rw[e]at h;have h1:=List.getElem?_eq_some_iff.mp e;have h2:=h1.2;simp at h2;subst h2;exact⟨by simpa using h1.1,(Option.some.inj h).symm⟩
def vH(lo:Int)(n:Nat):(yS lo n).length=n:=by simp[yS]
variable{α:Type}
def at0(a:α)(l:List α):atI (a::l) 0=some a:=gA (j:=0) rfl
def at1(a b:α)(l:List α):atI (a::b::l) 1=some b:=gA (j:=1) rfl
def at2(a b c:α)(l:List α):atI (a::b::c::l) 2=some c:=gA (j:=2) rfl
abbrev WrK(_:EO Fl):Type:=Option Fl
abbrev WrI(_ _:EO Fl):Type:=Option (Bool×En)
noncomputable def seqK(n:EO Fl)(o:WrK n):Option Fl:=zF (λ_=>o) n []
noncomputable def ifK(m n:EO Fl)(o:WrI m n):Option Fl:=Option.bind o λp=>if p.1=true then m p.2 else n p.2
section
variable{m n:EO Fl}{t:EO (Bool×En)}{ρ:En}{d:D}{b:Bool}
def znO:zF m n ρ=seqK n (m ρ):=rfl
def zqn:seqK n (some (.nx ρ))=n ρ:=rfl
def zqm:seqK n (some (.rt d ρ))=some (.rt d ρ):=rfl
def zqp:seqK n (some (.bk ρ))=some (.bk ρ):=rfl
def zqo:seqK n (some (.ct ρ))=some (.ct ρ):=rfl
def zre:ifM t m n ρ=ifK m n (t ρ):=rfl
def zoJ:ifK m n (some (b,ρ))=if b=true then m ρ else n ρ:=rfl
end
set_option hygiene false in
local macro_rules|`(tactic|simp! [$xs,*]$[$loc]?)=>`(tactic|simp[$xs,*,qI,kZ,znO,zqn,zqm,zqp,zqo,qJ,setO,vQ,gB,zio,yX,zX,xA,zre,zoJ,upT,cT,cTr,truD,andP,orP,vL,andV,orV,c1,c2,cL,cS,zA,zC,cst,gv,gb,gN,qH,zM,qP,yB,kK,kR,jB,cI,cR1,cEnT,jN,itS,rng1,xM,extM,gH,zdT,zS,jF,nxM,xX,tyN,isiB,lim,wW,jC,vS,revX,revD,gE,zkk,zZ,catD,gF,wL,xD,yM,powD,cmpI,geD,isB,zfj,isNon,intD,zlB,kI,wR,c3,zks,itS,Sl.own,zca,zfP,zfN,nO,at0,at1,at2]$[$loc]?)
set_option hygiene false in
local macro_rules|`(tactic|dsimp! [$xs,*]$[$loc]?)=>`(tactic|simp! [$xs,*,qO,qK,zW,inB,jQ,yE,neB,eqB]$[$loc]?)
inductive T where
 |bl (x:Str)|nd (s:Str) (ts:U T)
mutual
def T.d:T->D
 | .bl x=>.str x
 | .nd s ts=>.tup (.str s::T.ds ts)
def T.ds:U T->U D
 |[]=>[]
 |t::r=>t.d::T.ds r
end
theorem ztD:∀ts:U T,T.ds ts=ts.map T.d
 |[]=>by simp[T.ds]
 |t::r=>by rw[T.ds,ztD r,Jd]
def qX(s:Str)(ts:U T):(T.nd s ts).d=.tup (.str s::ts.map T.d):=by rw[T.d,ztD]
def jP(x:Str):(T.bl x).d=.str x:=by rw[T.d]
mutual
def T.size:T->Nat
 | .bl _=>1
 | .nd _ ts=>1+T.sizes ts
def T.sizes:U T->Nat
 |[]=>0
 |t::r=>t.size+T.sizes r
end
mutual
def T.depth:T->Nat
 | .bl _=>1
 | .nd _ ts=>1+T.depths ts
def T.depths:U T->Nat
 |[]=>0
 |t::r=>max t.depth (T.depths r)
end
def T.isBl:T->Bool
 | .bl _=>true
 | .nd _ _=>false
def T.kids:T->U T
 | .bl _=>[]
 | .nd _ ts=>ts
theorem zbk(t:T):t.size=1+T.sizes t.kids:=by cases t<;>simp[T.size,T.kids,T.sizes]
theorem zby(t:T):0<t.size:=by rw[zbk];exact Wc _ _
theorem zaa:∀a b:U T,T.sizes (a++b)=T.sizes a+T.sizes b
 |[],b=>by simp[T.sizes]
 |t::a,b=>by simp only[List.cons_append,T.sizes,zaa a b];exact(Nat.add_assoc _ _ _).symm
theorem xO:∀a:U T,a.length<=T.sizes a
 |[]=>by simp
 |t::a=>by have:=zby t;have:=xO a;simp only[List.length_cons,T.sizes];exact Qm ‹_› (by simp[*])
theorem vP:∀{ts:U T}{t:T},t∈ts->t.depth<=T.depths ts
 |_::_,_,h=>by
  rcases JJ.mp h with rfl|h
  ·rw[T.depths];exact Nat.le_max_left _ _
  ·exact Jp (vP h) (Nat.le_max_right _ _)
theorem xF:∀{ts:U T}{t:T},t∈ts->t.size<=T.sizes ts
 |_::_,_,h=>by
  rcases JJ.mp h with rfl|h
  ·rw[T.sizes];simp
  ·rw[T.sizes];have:=xF h;lia
def zbv(t:T):0<t.depth:=by cases t<;>simp[T.depth]<;>exact Wc _ _
mutual
theorem zrn:∀t:T,dep t.d<=t.depth+1
 | .bl x=>by simp[T.d,dep]
 | .nd s ts=>by have:=zmW ts;simp only[T.d,dep,jY,T.depth];lia
theorem zmW:∀ts:U T,jY (T.ds ts)<=T.depths ts+1
 |[]=>by simp[T.ds,jY]
 |t::r=>by have h1:=zrn t;have h2:=zmW r;simp only[T.ds,jY,T.depths];grind
end
noncomputable def idx(p:U Int):Nat->U T->U (U Int×T)
 |_,[]=>[]
 |k,t::r=>(p++[(k:Int)],t)::idx p (k+1) r
mutual
def zQ(p:U Int):T->U (U Int×T)
 | .bl x=>[(p,.bl x)]
 | .nd s ts=>(p,.nd s ts)::jD p 0 ts
def jD(p:U Int)(k:Nat):U T->U (U Int×T)
 |[]=>[]
 |t::r=>zQ (p++[(k:Int)]) t++jD p (k+1) r
end
theorem zdW(p:U Int)(t:T):zQ p t=(p,t)::jD p 0 t.kids:=by cases t<;>simp[zQ,T.kids,jD]
def yC(ws:U (U Int×T)):U (U Int×T):=ws.flatMap λq=>zQ q.1 q.2
theorem zjv(p:U Int):∀(k:Nat) (ts:U T),yC (idx p k ts)=jD p k ts
 |_,[]=>by simp[idx,yC,jD]
 |k,t::r=>by have:=zjv p (k+1) r;simp_all[yC,idx,jD]
def zik(a b:U (U Int×T)):yC (a++b)=yC a++yC b:=by simp[yC]
theorem zfX(p:U Int):∀(k:Nat) (ts:U T),(idx p k ts).length=ts.length
 |_,[]=>rfl
 |k,t::r=>by simp[idx,zfX p (k+1) r]
def yI(ws:U (U Int×T)):Nat:=T.sizes (ws.map (·.2))
theorem zmC(p:U Int):∀(k:Nat) (ts:U T),(idx p k ts).map (·.2)=ts
 |_,[]=>rfl
 |k,t::r=>by simp[idx,zmC p (k+1) r]
theorem zbW:∀a:U T,T.sizes a.reverse=T.sizes a
 |[]=>rfl
 |t::a=>by rw[QY,zaa,zbW a];simp only[T.sizes];exact Nat.add_comm _ _
mutual
theorem nL(p:U Int):∀t:T,(zQ p t).length=t.size
 | .bl x=>by simp[zQ,T.size]
 | .nd s ts=>by simp[zQ,T.size,zdY p 0 ts];exact Nat.add_comm _ _
theorem zdY(p:U Int):∀(k:Nat) (ts:U T),(jD p k ts).length=T.sizes ts
 |_,[]=>by simp[jD,T.sizes]
 |k,t::r=>by simp[jD,T.sizes,nL (p++[(k:Int)]) t,zdY p (k+1) r]
end
noncomputable def qE:T->U Int->Option T
 |t,[]=>some t
 | .bl _,_::_=>none
 | .nd _ ts,k::r=>if 0<=k then(match ts[k.toNat]? with|some t=>qE t r|none=>none)else none
theorem zaf:∀(p q:U Int) (t u:T),qE t p=some u->qE t (p++q)=qE u q
 |[],q,t,u,h=>by simp[qE]at h;subst h;rfl
 |k::p,q,.bl _,u,h=>by simp[qE]at h
 |k::p,q,.nd s ts,u,h=>by
  simp only[List.cons_append,qE]at h ⊢;split at h
  ·rename_i h0;rw[if_pos h0];cases e:ts[k.toNat]? with
   |none=>rw[e]at h;cases h
   |some t'=>rw[e]at h;exact zaf p q t' u h
  ·cases h
mutual
theorem zdX(t0:T)(p:U Int):∀t:T,qE t0 p=some t->∀q∈zQ p t,qE t0 q.1=some q.2
 | .bl x,h,q,hq=>by simp only[zQ,List.mem_singleton]at hq;subst hq;exact h
 | .nd s ts,h,q,hq=>by
  simp only[zQ,List.mem_cons]at hq;rcases hq with rfl|hq
  ·exact h
  ·refine zfa t0 p 0 ts (λi t hi=>?_) q hq;rw[zaf p _ t0 _ h]
   have:(0:Int)<=((0+i:Nat):Int):=by simp
   simp only[qE,if_pos this];rw[JO,Qw,hi]
theorem zfa(t0:T)(p:U Int):∀(k:Nat) (ts:U T),(∀i t,ts[i]?=some t->qE t0 (p++[((k+i:Nat):Int)])=some t)->∀q∈jD p k ts,qE t0 q.1=some q.2
 |_,[],_,q,hq=>by simp[jD]at hq
 |k,t::r,h,q,hq=>by
  simp only[jD,List.mem_append]at hq;rcases hq with hq|hq
  ·exact zdX t0 (p++[(k:Int)]) t (by have:=h 0 t rfl;simpa using this) q hq
  ·refine zfa t0 p (k+1) r (λi t' hi=>?_) q hq
   have:=h (i+1) t' (by simpa using hi);rw[show k+1+i=k+(i+1) by lia];exact this
end
theorem zmt:∀(p q:U Int) (k:Int),HT.lexLt p (p++k::q)=true
 |[],_,_=>rfl
 |a::p,q,k=>by rw[JC,HT.lexLt_cons,if_pos rfl];exact zmt p q k
theorem zmu:∀(p q r:U Int) (j k:Int),j<k->HT.lexLt (p++j::q) (p++k::r)=true
 |[],q,r,j,k,h=>by grind [HT.lexLt_cons]
 |a::p,q,r,j,k,h=>by rw[JC,JC,HT.lexLt_cons,if_pos rfl];exact zmu p q r j k h
mutual
theorem zeX(p:U Int):∀t:T,∀q∈zQ p t,∃r,q.1=p++r
 | .bl x,q,hq=>by simp only[zQ,List.mem_singleton]at hq;subst hq;exact⟨[],by simp⟩
 | .nd s ts,q,hq=>by
  simp only[zQ,List.mem_cons]at hq;rcases hq with rfl|hq
  ·exact⟨[],by simp⟩
  ·let⟨j,r,_,e⟩:=zaY p 0 ts q hq;exact⟨_,e⟩
theorem zaY(p:U Int):∀(k:Nat) (ts:U T),∀q∈jD p k ts,∃(j:Int) (r:U Int),(k:Int)<=j/\q.1=p++j::r
 |_,[],q,hq=>by simp[jD]at hq
 |k,t::r,q,hq=>by
  simp only[jD,List.mem_append]at hq;rcases hq with hq|hq
  ·let⟨r,e⟩:=zeX (p++[(k:Int)]) t q hq;exact⟨k,r,by simp,by rw[e];simp⟩
  ·let⟨j,r,h,e⟩:=zaY p (k+1) r q hq;exact⟨j,r,by lia,e⟩
end
mutual
theorem zdU(p:U Int):∀t:T,∀q∈zQ p t,q.1.length<p.length+t.size
 | .bl x,q,hq=>by simp only[zQ,List.mem_singleton]at hq;subst hq;simp[T.size]
 | .nd s ts,q,hq=>by
  simp only[zQ,List.mem_cons]at hq;rcases hq with rfl|hq
  ·have:=zby (.nd s ts);simp only;simp[*]
  ·have:=zcZ p 0 ts q hq;simp only[T.size];lia
theorem zcZ(p:U Int):∀(k:Nat) (ts:U T),∀q∈jD p k ts,q.1.length<p.length+1+T.sizes ts
 |_,[],q,hq=>by simp[jD]at hq
 |k,t::r,q,hq=>by
  simp only[jD,List.mem_append]at hq;rcases hq with hq|hq
  ·have:=zdU (p++[(k:Int)]) t q hq;rw[Jt,QE]at this;simp only[T.sizes];lia
  ·have:=zcZ p (k+1) r q hq;simp only[T.sizes];lia
end
def Asc(l:U (U Int×T)):Prop:=l.Pairwise λa b=>HT.lexLt a.1 b.1=true
mutual
theorem zcB(p:U Int):∀t:T,Asc (zQ p t)
 | .bl x=>by simp[zQ,Asc]
 | .nd s ts=>by simp only[zQ,Asc,List.pairwise_cons];refine⟨λq hq=>?_,zdZ p 0 ts⟩;let⟨j,r,_,e⟩:=zaY p 0 ts q hq;rw[e];exact zmt p r j
theorem zdZ(p:U Int):∀(k:Nat) (ts:U T),Asc (jD p k ts)
 |_,[]=>by simp[jD,Asc]
 |k,t::r=>by simp only[jD,Asc,List.pairwise_append];refine⟨zcB (p++[(k:Int)]) t,zdZ p (k+1) r,λa ha b hb=>?_⟩;let⟨r1,e1⟩:=zeX (p++[(k:Int)]) t a ha;let⟨j,r2,h,e2⟩:=zaY p (k+1) r b hb;rw[e1,e2,Jx];exact zmu p r1 r2 k j (by trivial)
end
noncomputable def pd(q:U Int×T):D:=.tup [.tup (q.1.map D.int),q.2.d]
def vB(t:T):qZ [t.d]=some (.bl t.isBl):=by cases t<;>dsimp! [qZ,T.d,T.isBl]
def gQ{α:Type}(a:α)(l:List α):jX (a::l) (some 1) none=l:=by simp[jX,HT.sIx]
def zbg(t:T):jW [t.d]=some (.tup (t.kids.map T.d)):=by
 cases t with
 |bl x=>dsimp! [jW,vB,T.isBl,T.kids]
 |nd s ts=>
  dsimp! [jW,vB,T.isBl,T.kids]
  simp[qX,gQ]
def zbi(a b:U (U Int×T)):yI (a++b)=yI a+yI b:=by simp[yI,zaa]
theorem zbS(a:U (U Int×T)):yI a.reverse=yI a:=by simp[yI,List.map_reverse,zbW]
def zkK(p:U Int)(k:Nat)(ts:U T):yI (idx p k ts)=T.sizes ts:=by unfold yI;rw[zmC]
theorem zju:∀l:U (U Int×T),l.length<=(yC l).length
 |[]=>by simp[yC]
 |a::l=>by
  have:=zby a.2
  have:=zju l;grind [yC,nL]
theorem zeq:∀l:U (U Int×T),(yC l).length=yI l
 |[]=>by simp[yC,yI,T.sizes]
 |a::l=>by
  have e5:yC (a::l)=zQ a.1 a.2++yC l:=by simp[yC]
  have:=zeq l;rw[e5,Jt,nL,this];simp[yI,T.sizes]
theorem zmE(p:U Int):∀(k:Nat) (ts:U T) (i:Nat) (q:U Int×T),(idx p k ts)[i]?=some q->∃t,ts[i]?=some t/\q=(p++[((k+i:Nat):Int)],t)
 |_,[],i,q,h=>by simp[idx]at h
 |k,t::r,0,q,h=>by simp[idx]at h;exact⟨t,rfl,by rw[←h];simp⟩
 |k,t::r,i+1,q,h=>by let⟨u,h1,h2⟩:=zmE p (k+1) r i q (by simpa[idx]using h);exact⟨u,by simpa using h1,by rw[h2,show k+1+i=k+(i+1) by lia]⟩
def zkq(p:U Int)(t x:D)(y z u:Option Sl)(ks:U T)(hp:p.length<=999999):
  jH (qP (zM (gN 0) (zM (gN 1) qH))) jB (cL zS (zA (c2 zW (gb 2) (cL zS (zA (gv 0) zC))) (zA (gv 1) zC))) [none,none,some (.dat (.tup (p.map D.int)))] (xL 0 (ks.map T.d))=some ((idx p 0 ks).map pd):=by
 refine wV (by simp[wS,zfX]) λi a b ha hb=>?_
 let⟨d0,h1,rfl⟩:=zbt 0 _ i a ha;rw[List.getElem?_map]at h1 hb;cases e1:(idx p 0 ks)[i]? with
 |none=>rw[e1]at hb;cases hb
 |some q=>
  rw[e1]at hb;let⟨t0,h2,rfl⟩:=zmE p 0 ks i q e1;rw[h2]at h1;cases h1
  cases hb
  have:p.length+1<=1000000:=by simp[*]
  refine⟨[some (.dat (.int ((0+i:Nat):Int))),some (.dat t0.d),some (.dat (.tup (p.map D.int)))],?_,rfl,?_⟩
  ·dsimp! [qI]
  ·dsimp! [pd,this]
def zah(t:T)(hz:t.size<=900000):nV [t.d]=some (.lst ((zQ [] t).map pd)):=by
 have W:=zgt (t:=upT (cTr (gb 2)))
  (b:=zaR zI)
  (λm ρ=>∃(fs ws:U (U Int×T)) (x3 x4 x5:Option Sl),ρ=[some (.dat t.d),some (.own (.lst (fs.map pd))),some (.own (.lst (ws.map pd))),x3,x4,x5]/\m=yI ws/\fs++yC ws.reverse=zQ [] t)
  (λρ=>∃x2 x3 x4 x5,ρ=[some (.dat t.d),some (.own (.lst ((zQ [] t).map pd))),x2,x3,x4,x5]) ?_ zI t.size
  [some (.dat t.d),some (.own (.lst [])),some (.own (.lst [pd ([],t)])),none,none,none] ⟨[],[([],t)],none,none,none,rfl,by simp[yI,T.sizes],by simp[yC]⟩ (by unfold zI;lia)
 ·let⟨ρ',e,x2,x3,x4,x5,rfl⟩:=W;have e0:pd ([],t)=.tup [.tup [],t.d]:=rfl;rw[e0]at e
  dsimp! [nV]at e ⊢
  rw[e];rfl
 ·rintro m ρ ⟨fs,ws,x3,x4,x5,rfl,rfl,inv⟩;rcases List.eq_nil_or_concat ws with rfl|⟨ws',⟨p,t1⟩,rfl⟩
  ·refine .inl ⟨_,by dsimp! [qI];rfl,?_⟩;have e:fs=zQ [] t:=by simpa[yC]using inv
   rw[e];exact⟨_,_,_,_,rfl⟩
  ·rw[List.concat_eq_append]at inv ⊢;have el:fs.length+yI (ws'++[(p,t1)])=t.size:=by grind [nL,zeq,zbS]
   have ew:yI [(p,t1)]=t1.size:=by simp[yI,T.sizes]
   have ek:=zbk t1;rw[zbi,ew]at el;have hm:(p,t1)∈zQ [] t:=by grind [yC,zdW]
   have pl:=zdU [] t _ hm;simp only[List.length_nil]at pl;have kl:=xO t1.kids;have wl:ws'.length<=yI ws':=by rw[←zeq];exact zju _
   refine .inr ⟨_,[some (.dat t.d),some (.own (.lst ((fs++[(p,t1)]).map pd))),some (.own (.lst ((ws'++(idx p 0 t1.kids).reverse).map pd))),some (.dat (.tup (p.map D.int))),some (.dat t1.d),some (.dat (.lst ((idx p 0 t1.kids).map pd)))],yI (ws'++(idx p 0 t1.kids).reverse),by dsimp! [qI];rfl,.inl ?_,?_,fs++[(p,t1)],ws'++(idx p 0 t1.kids).reverse,_,_,_,rfl,rfl,?_⟩
   ·have c:=zkq p t.d t.d none none none t1.kids (by lia);have h1:fs.length<1000000:=by lia
    have h2:t1.kids.length<=1000000:=by lia
    have h3:ws'.length+t1.kids.length<=1000000:=by lia
    dsimp! [pd,zbg,wS,zfX,h1,h2,h3]at c ⊢
    rw[c]
    dsimp! [pd,zbg,wS,zfX,h1,h2,h3]
   ·rw[zbi,zbi,zbS,zkK,ew];simp[*]
   ·rw[←inv];simp only[List.reverse_append,List.reverse_reverse,zik,List.append_assoc,List.reverse_cons,List.reverse_nil,List.nil_append];rw[zjv];have e5:yC [(p,t1)]=(p,t1)::jD p 0 t1.kids:=by unfold yC;rw[QK,List.flatMap_nil,JL,zdW]
    rw[e5];simp
def cellOf(ns:U Int)(k:Int):Int:=ns.getD k.toNat 0
theorem zfz{α:Type}{l:List α}{k:Int}(h0:0<=k)(h1:k<(l.length:Int)):atI l k=l[k.toNat]?:=by unfold atI ixN;rw[if_pos h0,if_pos h1];rfl
def zmT(ns:U Int)(k:Int)(h0:0<=k):nX [.scr ns,.int k]=some (.int (cellOf ns k)):=by
 by_cases h:k<(ns.length:Int)
 ·have e:ns[k.toNat]?=some (cellOf ns k):=by unfold cellOf;rw[List.getD_eq_getElem?_getD,List.getElem?_eq_getElem (by simp[*])];rfl
  dsimp! [nX,h,zfz h0 h,e]
 ·have e:cellOf ns k=0:=by simp[cellOf, *]
  dsimp! [nX,h,e]
def zsX{z:Str}(h:z.cps.toList.length=26)(n:Int):∃c,atI z.cps.toList (n%26)=some c:=by refine⟨z.cps.toList[(n%26).toNat]'(by(simp[*];lia)),?_⟩;grind [zfz]
def len1(c:Nat):(⟨#[c]⟩:Str).length=1:=rfl
def zsY(a b:Str):(a++b).length=a.length+b.length:=by simp[Str.length,PySem.Str.cps_append]
def alen:(Str.ofString "abcdefghijklmnopqrstuvwxyz").cps.toList.length=26:=by decide+kernel
def zva:(Str.ofString "abcdefghijklmnopqrstuvwxyz").length=26:=by decide+kernel
def elen:(Str.ofString "").length=0:=by decide+kernel
def sd(p:Str×Int):D:=.tup [.str p.1,.int p.2]
def zgp{α β:Type}(f:α->β)(l:List α)(i:Int):atI (l.map f) i=(atI l i).map f:=by unfold atI;rw[Jc];cases ixN l.length i<;>simp
theorem zgg{α:Type}(h:α->D)(P:Nat->α->Prop){g:D->EO En}{f:EO D}{ρ:En}:∀{xs:U D}(k:Nat),(∀(i:Nat) x,xs[i]?=some x->∃ρ1 y,g x ρ=some ρ1/\f ρ1=some (h y)/\P (k+i) y)->∃ys:List α,jH g jB f ρ xs=some (ys.map h)/\ys.length=xs.length/\∀(i:Nat) y,ys[i]?=some y->P (k+i) y
 |[],_,_=>⟨[],rfl,rfl,λ_ _ h=>by simp at h⟩
 |x::xs,k,q=>by
  let⟨ρ1,y,e1,e2,e3⟩:=q 0 x rfl;let⟨ys,h1,h2,h3⟩:=zgg h P (g:=g) (f:=f) (ρ:=ρ) (xs:=xs) (k+1) λi z hz=>by have:=q (i+1) z (by simpa using hz);rw[show k+1+i=k+(i+1) by lia];exact this
  refine⟨y::ys,by simp[jH,e1,e2,h1,jB],by simp[h2],λi z hz=>?_⟩;cases i with
  |zero=>simp at hz;subst hz;exact e3
  |succ i=>
   have:=h3 i z (by simpa using hz);rw[show k+(i+1)=k+1+i by simp+arith];exact this
structure zgq(ps:SI):Prop where
 lo:2<=ps.length
 hi:ps.length<=5
 cnt:∀p∈ps,0<=p.2/\p.2<=3
 fst:∀p,ps[0]?=some p->p.2=0
 wd:∀p∈ps,p.1.length<=16
theorem zoZ{α:Type}(us:List α)(i:Int):jX us (some i) none=us.drop (HT.sIx us.length 0 (some i)):=by show List.take (us.length - _) _=_;grind [List.length_drop]
theorem ztG{α:Type}(us:List α)(k:Nat)(hk:k<=us.length):jX us none (some (k:Int))=us.take k:=by unfold jX;rw[HT.sIx_nat,HT.sIx_none,List.drop_zero,Nat.sub_zero,Nat.min_eq_left hk]
def szs(ts:U T):U Int:=ts.map λt=>(t.size:Int)
theorem zhz:∀ts:U T,(szs ts).sum=(T.sizes ts:Int)
 |[]=>rfl
 |t::r=>by have:=zhz r;unfold szs at this ⊢;rw[Jd,WD,this,T.sizes];rfl
def zrJ(ts:U T)(h:T.sizes ts<=1000000):zsJ (szs ts):=by
 refine⟨λn hn=>?_,?_⟩
 ·unfold szs at hn;let⟨t,_,rfl⟩:=Jv.mp hn;simp
 ·rw[zhz];show(T.sizes ts:Int)<4611686018427387904;lia
theorem zin:∀(n:Nat) (t:T),t.depth<=n->t.size<=1000000->zan n [t.d]=some (.int t.size)
 |0,t,h,_=>by have:=zbv t;simp_all
 |n+1,.bl x,h,_=>by dsimp! [zan,jP,T.size]
 |n+1,.nd s ts,h,hz=>by
  rw[T.depth]at h;rw[T.size]at hz;have kl:=xO ts;have hl:ts.length<=1000000:=by lia
  have w1:jH (gN 0) jB (zdh (zan n) zI) [none] (ts.map T.d)=some ((szs ts).map D.int):=by
   refine wV (by simp[szs]) λi x y hx hy=>?_
   unfold szs at hy;rw[List.getElem?_map]at hx;rw[Jq,List.getElem?_map]at hy;cases e:ts[i]? with
   |none=>rw[e]at hx;cases hx
   |some t=>
    rw[e]at hx hy;cases hx;cases hy
    have hm:=List.mem_of_getElem? e;have d1:=vP hm;have d2:=xF hm;exact⟨_,rfl,rfl,by dsimp! [zin n t (by lia) (by lia)]⟩
  have io:=zcG (szs ts);have ok:=zrJ ts (by lia)
  dsimp! [zan,qX,gQ,w1,hl,io,ok,sumD,zhz,T.size]
inductive WT(ps:SI)(bs:U Str):T->Prop
 |bl {x:Str}(h:x∈bs):WT ps bs (.bl x)
 |nd {s:Str}{ts:U T} (h:(s,(ts.length:Int))∈ps) (hs:∀t∈ts,WT ps bs t):WT ps bs (.nd s ts)
mutual
def plc:T->U (U Int)
 | .bl _=>[[]]
 | .nd _ ts=>[]::nK 0 ts
def nK(k:Nat):U T->U (U Int)
 |[]=>[]
 |t::r=>(plc t).map ((k:Int)::·)++nK (k+1) r
end
mutual
theorem zlF:∀t:T,(plc t).length=t.size
 | .bl x=>by simp[plc,T.size]
 | .nd s ts=>by simp[plc,T.size,ziW 0 ts];exact Nat.add_comm _ _
theorem ziW:∀(k:Nat) (ts:U T),(nK k ts).length=T.sizes ts
 |_,[]=>by simp[nK,T.sizes]
 |k,t::r=>by simp[nK,T.sizes,zlF t,ziW (k+1) r]
end
def pD(p:U Int):D:=.tup (p.map D.int)
def vJ{t u:T}{k:Int}{p:U Int}(h:qE t (k::p)=some u):∃s ts c,t=.nd s ts/\0<=k/\ts[k.toNat]?=some c/\qE c p=some u:=by
 cases t with
 |bl x=>simp[qE]at h
 |nd s ts=>
  simp only[qE]at h;split at h
  ·rename_i h0;cases e:ts[k.toNat]? with
   |none=>rw[e]at h;cases h
   |some c=>rw[e]at h;exact⟨s,ts,c,rfl,h0,e,h⟩
  ·cases h
def zgK{s:Str}{ts:U T}{c:T}{k:Int}{p:U Int}(h0:0<=k)(e:ts[k.toNat]?=some c):qE (.nd s ts) (k::p)=qE c p:=by simp only[qE,if_pos h0,e]
noncomputable def jM:T->U Int->U T
 |t,[]=>[t]
 | .bl x,_::_=>[.bl x]
 | .nd s ts,k::p=>.nd s ts::(match ts[k.toNat]? with|some c=>jM c p|none=>[])
def zhx{s:Str}{ts:U T}{c:T}{k:Int}{p:U Int}(e:ts[k.toNat]?=some c):jM (.nd s ts) (k::p)=.nd s ts::jM c p:=by simp only[jM,e]
theorem zbT:∀(p:U Int) (t u:T),qE t p=some u->(jM t p).length=p.length+1
 |[],t,u,h=>by cases t<;>simp[jM]
 |k::p,t,u,h=>by let⟨s,ts,c,rfl,h0,e,h2⟩:=vJ h;rw[zhx e,JA,zbT p c u h2,JA]
theorem zbU:∀(p:U Int) (t u:T),qE t p=some u->∀i,i<=p.length->(jM t p)[i]?=qE t (p.take i)
 |[],t,u,h,i,hi=>by simp_all[jM,qE]
 |k::p,t,u,h,0,hi=>by let⟨s,ts,c,rfl,h0,e,h2⟩:=vJ h;rw[zhx e];simp[qE]
 |k::p,t,u,h,i+1,hi=>by let⟨s,ts,c,rfl,h0,e,h2⟩:=vJ h;rw[zhx e,We,zgK h0 e];simpa using zbU p c u h2 i (by simpa using hi)
def zuS(t u:T)(p:U Int)(h:qE t p=some u)(hp:p.length<=1000):zdw [t.d,pD p]=some (.lst ((jM t p).map T.d)):=by
 let⟨ρ',e1,k,j,rfl,_,_⟩:=kP (g:=gN 3) (b:=zeg zI) (xs:=p.map D.int) (ρ:=[some (.dat t.d),some (.dat (.tup (p.map D.int))),some (.own (.lst [t.d])),none,none])
  (λi ρ=>∃(k j:Option Sl),ρ=[some (.dat t.d),some (.dat (.tup (p.map D.int))),some (.own (.lst (((jM t p).take (i+1)).map T.d))),k,j]/\(k=none\/∃d,k=some (.dat d))/\(j=none\/∃d,j=some (.dat d))) ⟨none,none,by cases p<;>cases t<;>simp[jM],.inl rfl,.inl rfl⟩ (by
   rintro i x ρ hx ⟨k,j,rfl,hk,hj⟩;rw[List.getElem?_map]at hx;cases e:p[i]? with
   |none=>rw[e]at hx;cases hx
   |some a=>
    rw[e]at hx;cases hx
    have hi:i<p.length:=(List.getElem?_eq_some_iff.mp e).1;have ea:p[i]=a:=by simp_all
    have hl:=zbT p t u h;have w1:=zbU p t u h i (by exact Qi ‹_›);have w2:=zbU p t u h (i+1) (by trivial);have i1:i<(jM t p).length:=by exact Jp ‹_› (by simp[*])
    have i2:i+1<(jM t p).length:=by simp[*]
    rw[List.getElem?_eq_getElem i1]at w1;rw[List.getElem?_eq_getElem i2]at w2;have sp:p=p.take i++(a::p.drop (i+1)):=by rw[←ea,←Jy hi,Ql]
    have h2:=h;rw[sp,zaf _ _ _ _ w1.symm]at h2;let⟨s,ts,c',ew,h0,e2,hc2⟩:=vJ h2;have tk:p.take (i+1)=p.take i++[a]:=by rw[Jl hi,ea]
    have w3:(jM t p)[i+1]=c':=by rw[tk,zaf _ _ _ _ w1.symm,ew,zgK h0 e2]at w2;grind [qE]
    have t1:(jM t p).take (i+1)=(jM t p).take i++[T.nd s ts]:=by grind [List.take_succ_eq_append_getElem]
    have t2:(jM t p).take (i+1+1)=((jM t p).take i++[T.nd s ts])++[c']:=by grind [List.take_succ_eq_append_getElem]
    refine⟨[some (.dat t.d),some (.dat (.tup (p.map D.int))),some (.own (.lst (((jM t p).take (i+1+1)).map T.d))),some (.dat (.int a)),some (.dat (.tup (ts.map T.d)))],.inl ?_,_,_,rfl,.inr ⟨_,rfl⟩,.inr ⟨_,rfl⟩⟩;rw[t1,t2];have tl:((jM t p).take i).length<=1000:=by rw[QN];grind
    generalize (jM t p).take i=A at tl ⊢;have al:atI (A.map T.d++[(T.nd s ts).d]) (-1)=some (T.nd s ts).d:=zdD _ _;have ei:=zbg (T.nd s ts);have hal:a.toNat<ts.length:=(List.getElem?_eq_some_iff.mp e2).1;have g1:¬a<0:=by simp[*]
    have g2:¬(ts.length:Int)<=a:=by lia
    have g3:atI (ts.map T.d) a=some c'.d:=by
     have e3:a=((a.toNat:Nat):Int):=by lia
     rw[e3];exact gA (by simp[e2])
    have z1:A.length+1<1000000:=by lia
    have hkids:(T.nd s ts).kids=ts:=rfl;rw[hkids]at ei;rcases hk with rfl|⟨dk,rfl⟩<;>rcases hj with rfl|⟨dj,rfl⟩<;>dsimp! [al,ei,g1,g2,g3,z1])
 rw[Jc,QQ (by simp[zbT, *])]at e1
 dsimp! [zdw,pD,e1]
noncomputable def kJ:T->U Int->T->T
 |_,[],n=>n
 | .bl x,_::_,_=>.bl x
 | .nd s ts,k::p,n=>match ts[k.toNat]? with
  |some c=>.nd s (ts.set k.toNat (kJ c p n))
  |none=>.nd s ts
def zds(t n:T):kJ t [] n=n:=by cases t<;>rfl
def zhI{s:Str}{ts:U T}{c n:T}{k:Int}{p:U Int}(e:ts[k.toNat]?=some c):kJ (.nd s ts) (k::p) n=.nd s (ts.set k.toNat (kJ c p n)):=by simp only[kJ,e]
mutual
theorem zal:∀(p:U Int) (t u:T),qE t p=some u->u.size<=t.size
 |[],t,u,h=>by
  have:some t=some u:=by cases t<;>simpa[qE]using h
  rw[Option.some.inj this];exact Jf _
 |k::p,t,u,h=>by
  let⟨s,ts,c,rfl,h0,e,h2⟩:=vJ h
  have:=zal p c u h2
  have:=xF (List.mem_of_getElem? e);rw[T.size];lia
end
theorem zgB:∀(ts:U T) (i:Nat) (c x:T),ts[i]?=some c->T.sizes (ts.set i x)+c.size=T.sizes ts+x.size
 |[],i,c,x,h=>by simp at h
 |t::r,0,c,x,h=>by simp at h;subst h;simp only[List.set_cons_zero,T.sizes];simp+arith
 |t::r,i+1,c,x,h=>by have:=zgB r i c x (by simpa using h);simp only[List.set_cons_succ,T.sizes];lia
theorem zfq:∀(ts:U T) (i:Nat) (x:T),T.depths (ts.set i x)<=max (T.depths ts) x.depth
 |[],i,x=>by simp[T.depths]
 |t::r,0,x=>by grind [T.depths]
 |t::r,i+1,x=>by have:=zfq r i x;grind [T.depths]
theorem zgH:∀(p:U Int) (t n:T),(kJ t p n).size<=t.size+n.size
 |[],t,n=>by rw[zds];simp
 |k::p,.bl x,n=>by simp[kJ,T.size]
 |k::p,.nd s ts,n=>by
  simp only[kJ];cases e:ts[k.toNat]? with
  |none=>simp
  |some c=>
   have h1:=zgH p c n;have h2:=zgB ts k.toNat c (kJ c p n) e;simp only[T.size];lia
theorem zeW:∀(p:U Int) (t n:T),(kJ t p n).depth<=t.depth+n.depth
 |[],t,n=>by rw[zds];simp
 |k::p,.bl x,n=>by simp[kJ,T.depth]
 |k::p,.nd s ts,n=>by
  simp only[kJ];cases e:ts[k.toNat]? with
  |none=>simp
  |some c=>
   have h1:=zeW p c n;have h2:=zfq ts k.toNat (kJ c p n);have h3:=vP (List.mem_of_getElem? e);simp only[T.depth];lia
theorem zbO:∀(p:U Int) (t u:T),qE t p=some u->p.length<=t.depth
 |[],t,u,h=>by simp
 |k::p,t,u,h=>by let⟨s,ts,c,rfl,h0,e,h2⟩:=vJ h;have h1:=zbO p c u h2;have h3:=vP (List.mem_of_getElem? e);grind [T.depth.eq_2]
def zli{α:Type}(l:List α)(i:Nat)(x:α)(h:i<l.length):l.take i++x::l.drop (i+1)=l.set i x:=by rw[List.set_eq_take_append_cons_drop,if_pos h]
theorem zpU{α:Type}(l:List α)(i:Int)(h0:0<=i)(h:i.toNat<=l.length):jX l none (some i)=l.take i.toNat:=by grind [ztG]
theorem zpV{α:Type}(l:List α)(i:Int)(h0:0<=i)(h:i.toNat<=l.length):jX l (some i) none=l.drop i.toNat:=by grind [zoZ,HT.sIx_nat]
def zuE{s:Str}{ts:U T}{k:Nat}(hk:k<ts.length)(x:T):(D.str s::ts.map T.d).take (k+1)++x.d::(D.str s::ts.map T.d).drop (k+2)=D.str s::(ts.set k x).map T.d:=by rw[We,JC,List.drop_succ_cons,zli _ k _ (by simpa using hk),List.map_set]
def zhQ{t u:T}{p:U Int}(h:qE t p=some u)(i:Nat):∃c,qE t (p.take i)=some c:=by
 by_cases hi:i<=p.length
 ·have w:=zbU p t u h i hi;rw[←w,List.getElem?_eq_getElem (by rw[zbT p t u h];exact Nat.succ_le_succ ‹_›)];exact⟨_,rfl⟩
 grind [List.take_of_length_le]
def zmR(t u n:T)(p:U Int)(h:qE t p=some u)(hp:p.length<=1000)(hz:t.size<=450000):zbD [t.d,pD p,n.d]=some (kJ t p n).d:=by
 have e1:=zuS t u p h hp;have hl:=zbT p t u h;have cutW:jX ((jM t p).map T.d) none (some (-1))=((jM t p).take p.length).map T.d:=by grind [HT.sIx,jX,List.map_take]
 have zl:(kU (((jM t p).take p.length).map T.d) (p.map D.int)).length=p.length:=by simp[kU];simp[*]
 have zg:∀i,(hi:i<p.length)->∀w,qE t (p.take i)=some w->(kU (((jM t p).take p.length).map T.d) (p.map D.int))[i]?=some (.tup [w.d,.int p[i]]):=λi hi w hw=>by
  have w1:=zbU p t u h i (by exact Qi ‹_›);rw[hw]at w1;have i1:i<(jM t p).length:=by exact Jp ‹_› (by simp[*])
  rw[List.getElem?_eq_getElem i1]at w1;rw[List.getElem?_eq_getElem (by rw[zl];exact hi)];simp[kU,Option.some.inj w1]
 let⟨ρ',f1,c,a,b,rfl,h1,h2⟩:=kP (g:=qP (zM (gN 5) (zM (gN 6) qH))) (b:=zei zI) (xs:=(kU (((jM t p).take p.length).map T.d) (p.map D.int)).reverse) (ρ:=[some (.dat t.d),some (.dat (pD p)),some (.dat n.d),some (.dat (.lst (((jM t p).take p.length).map T.d))),some (.dat n.d),none,none])
  (λi ρ=>∃(c:T) (a b:Option Sl),ρ=[some (.dat t.d),some (.dat (pD p)),some (.dat n.d),some (.dat (.lst (((jM t p).take p.length).map T.d))),some (.dat (kJ c (p.drop (p.length - i)) n).d),a,b]/\qE t (p.take (p.length - i))=some c/\i<=p.length) ⟨u,none,none,by simp[zds],by simpa using h,Jz _⟩ (by
   rintro i x ρ hx ⟨c,a,b,rfl,hc,hi⟩;have hi2:i<p.length:=by have:=(List.getElem?_eq_some_iff.mp hx).1;rwa[Wf,zl]at this
   let⟨w,hw⟩:=zhQ h (p.length - 1 - i);rw[List.getElem?_reverse (by rw[zl];exact hi2),zl]at hx;have hj:p.length - 1 - i<p.length:=by lia
   rw[zg _ hj w hw]at hx;cases hx
   have ej:p.length - i=p.length - 1 - i+1:=by grind
   rw[ej,Jl hj,zaf _ _ _ _ hw]at hc;generalize hk:p[p.length - 1 - i]=k at hc;let⟨s,ts,c',rfl,h0,e,h3⟩:=vJ hc;have h3:some c'=some c:=by cases c'<;>simpa[qE]using h3
   cases h3
   have hlt:k.toNat<ts.length:=(List.getElem?_eq_some_iff.mp e).1;have sz:=zal _ _ _ hw;rw[T.size]at sz;have tl:=xO ts;have dr:p.drop (p.length - (i+1))=k::p.drop (p.length - i):=by grind [List.drop_eq_getElem_cons]
   refine⟨[some (.dat t.d),some (.dat (pD p)),some (.dat n.d),some (.dat (.lst (((jM t p).take p.length).map T.d))),some (.dat (kJ (.nd s ts) (p.drop (p.length - (i+1))) n).d),some (.dat (T.nd s ts).d),some (.dat (.int k))],.inl ?_,T.nd s ts,_,_,rfl,?_,by trivial⟩
   ·rw[dr,zhI e];rw[ej];generalize kJ c (p.drop (p.length - 1 - i+1)) n=y;rw[qX,qX];have k1:(k+1).toNat=k.toNat+1:=by lia
    have k2:(k+2).toNat=k.toNat+2:=by grind
    have c1':jX (D.str s::ts.map T.d) none (some (k+1))=(D.str s::ts.map T.d).take (k.toNat+1):=by grind [zpU]
    have c2':jX (D.str s::ts.map T.d) (some (k+2)) none=(D.str s::ts.map T.d).drop (k.toNat+2):=by grind [zpV]
    have md:=zuE (s:=s) hlt y;rw[←md];have l1:((D.str s::ts.map T.d).take (k.toNat+1)).length<=450001:=by grind
    have l2:((D.str s::ts.map T.d).drop (k.toNat+2)).length<=450001:=by rw[List.length_drop];simp;lia
    generalize (D.str s::ts.map T.d)=L at c1' c2' l1 l2 ⊢;generalize L.take (k.toNat+1)=AA at c1' l1 ⊢;generalize L.drop (k.toNat+2)=BB at c2' l2 ⊢;have z1:AA.length+1<=1000000:=by lia
    have z2:AA.length+1+BB.length<=1000000:=by lia
    dsimp! [c1',c2',z1,z2]
   grind)
 rw[Wf,zl,Nat.sub_self,List.drop_zero]at f1;rw[Wf,zl,Nat.sub_self,List.take_zero]at h1;have h1:some t=some c:=by simp_all[qE]
 cases h1
 generalize hW:((jM t p).take p.length).map T.d=W at cutW f1;unfold pD at e1 f1 ⊢
 dsimp! [zbD,e1,cutW,cRv,zipD,f1]
def zoV(t u n:T)(p:U Int)(h:qE t p=some u)(hp:p.length<=1000)(hz:t.size<=1000):zbD [t.d,pD p,n.d]=some (kJ t p n).d:=zmR t u n p h hp (by lia)
theorem zbl:∀(p:U Int) (t u:T),qE t p=some u->u.depth<=t.depth
 |[],t,u,h=>by simp_all[qE]
 |k::p,t,u,h=>by let⟨s,ts,c,rfl,h0,e,h2⟩:=vJ h;have h1:=zbl p c u h2;have h3:=vP (List.mem_of_getElem? e);rw[T.depth];lia
abbrev Fil:=U (Str×T)
def fks(φ:Fil):U KD:=φ.map λp=>KD.str p.1
def fds(φ:Fil):U D:=φ.map λp=>p.2.d
def jO(φ:Fil):D:=.dic (fks φ) (fds φ)
noncomputable def jA(φ:Fil)(x:Str):Option T:=(φ.find? λp=>decide (p.1=x)).map (·.2)
def zjw(φ:Fil):kOk (fks φ)=true:=by unfold kOk fks;rw[List.all_map];exact JU.mpr λp _=>rfl
theorem zjq(x:Str):∀φ:Fil,qU (fks φ) (fds φ) (.str x)=(jA φ x).map T.d
 |[]=>by simp[qU,fks,jA]
 |(y,t)::φ=>by have ih:=zjq x φ;grind [qU,fks,fds,jA]
mutual
def qA(φ:Fil):T->T
 | .bl x=>(jA φ x).getD (.bl x)
 | .nd s ts=>.nd s (kG φ ts)
def kG(φ:Fil):U T->U T
 |[]=>[]
 |t::r=>qA φ t::kG φ r
end
theorem zap(φ:Fil):∀ts:U T,kG φ ts=ts.map (qA φ)
 |[]=>by simp[kG]
 |t::r=>by simp[kG,zap φ r]
theorem zdA{φ:Fil}{x:Str}{t:T}(h:jA φ x=some t):∃p∈φ,p.1=x/\p.2=t:=by
 unfold jA at h;cases e:φ.find? λp=>decide (p.1=x)with
 |none=>rw[e]at h;cases h
 |some p=>
  grind
mutual
theorem zfn{φ:Fil}{m:Nat}(hm:∀p∈φ,p.2.depth<=m):∀t:T,(qA φ t).depth<=t.depth+m
 | .bl x=>by
  rw[qA];cases e:jA φ x with
  |none=>simp[T.depth]
  |some t=>
   let⟨p,hp,_,rfl⟩:=zdA e
   have:=hm p hp
   simp;lia
 | .nd s ts=>by have:=zes hm ts;rw[qA];simp only[T.depth];lia
theorem zes{φ:Fil}{m:Nat}(hm:∀p∈φ,p.2.depth<=m):∀ts:U T,T.depths (kG φ ts)<=T.depths ts+m
 |[]=>by simp[kG,T.depths]
 |t::r=>by have h1:=zfn hm t;have h2:=zes hm r;rw[kG];simp only[T.depths];grind
end
theorem zjy(φ:Fil):∀(n:Nat) (t:T),t.depth<=n->t.size<=1000->zau n [t.d,jO φ]=some (qA φ t).d
 |0,t,h,_=>by have:=zbv t;simp_all
 |n+1,.bl x,h,_=>by
  have ib:=vB (.bl x);have ok:=zjw φ;have fv:=zjq x φ;have hd:((jA φ x).map T.d).getD (.str x)=(qA φ (.bl x)).d:=by rw[qA];cases jA φ x<;>simp[jP]
  rw[←hd];simp only[jP]at ib ⊢
  dsimp! [zau,jO,ib,T.isBl,ok,fv,kdK]
 |n+1,.nd s ts,h,hz=>by
  rw[T.depth]at h;rw[T.size]at hz;have kl:=xO ts;have hl:ts.length<=1000000:=by lia
  have ib:=vB (.nd s ts);have w1:jH (gN 0) jB (zeD (zau n) zI) [none,some (.dat (jO φ))] (ts.map T.d)=some ((kG φ ts).map T.d):=by
   rw[zap];refine wV (by simp) λi x y hx hy=>?_
   rw[List.getElem?_map]at hx;rw[Jq,List.getElem?_map]at hy;cases e:ts[i]? with
   |none=>rw[e]at hx;cases hx
   |some t=>
    rw[e]at hx hy;cases hx;cases hy
    have hm:=List.mem_of_getElem? e;have d1:=vP hm;have d2:=xF hm;exact⟨_,rfl,rfl,by dsimp! [zjy φ n t (by lia) (by lia)]⟩
  have fl:(kG φ ts).length=ts.length:=by rw[zap];simp
  have z1:1+ts.length<=1000000:=by lia
  rw[qA,qX,qX];rw[qX]at ib
  dsimp! [zau,ib,T.isBl,gQ,w1,hl,fl,z1]
noncomputable def putF(φ:Fil)(x:Str)(t:T):Fil:=if(φ.any λp=>decide (p.1=x))=true then φ.map (λp=>if p.1=x then(p.1,t)else p)else φ++[(x,t)]
def zpz(φ:Fil)(x:Str)(t:T):jV (fks φ) (fds φ) (.str x) t.d=(fks (putF φ x t),fds (putF φ x t)):=by
 have ha:((fks φ).any λy=>decide (y=KD.str x))=(φ.any λp=>decide (p.1=x)):=by
  unfold fks;rw[List.any_map]
  congr 1
  funext p
  simp
 unfold jV putF;rw[ha];split
 ·have h1:fks (φ.map λp=>if p.1=x then(p.1,t)else p)=fks φ:=by
   unfold fks;rw[Jq];apply JD;intro p _;simp only[Function.comp]
   split<;>rfl
  have h2:((fks φ).zip (fds φ)).map (λp=>if p.1=KD.str x then t.d else p.2)=fds (φ.map λp=>if p.1=x then(p.1,t)else p):=by
   unfold fks fds;rw[List.zip_map',Jq,Jq];apply JD;intro p _;simp only[Function.comp,KD.str.injEq]
   split<;>rfl
  rw[h1,h2]
 ·simp[fks,fds]
def zeo{φ:Fil}(h:(φ.map (·.1)).Nodup):∀p∈φ,jA φ p.1=some p.2:=by
 induction φ with
 |nil=>simp
 |cons q φ ih=>
  grind [jA]
theorem zmv:∀(l b:U Str),l.Nodup->(∀x∈l,x∈b)->l.length<=b.length
 |[],b,_,_=>Jz _
 |x::l,b,h,hs=>by
  rw[JR]at h
  have:=zmv l (b.erase x) h.2 λy hy=>(List.mem_erase_of_ne λz=>h.1 (by rw[←z];exact hy)).mpr (hs y (Ji _ hy))
  grind
theorem zcI(x:Str):∀bs:U Str,inL (.str x) (bs.map D.str)=some (decide (x∈bs))
 |[]=>by simp[inL]
 |b::bs=>by simp only[List.map_cons,inL,eqD,zcI x bs];grind
theorem zco(l:U Str):jY (l.map D.str)<=1:=by
 induction l with
 |nil=>simp[jY]
 |cons x l ih=>simp only[List.map_cons,jY,dep];simp[*]
noncomputable def nb(s:Option Sl):Bool:=match s with
 |some (.bor _)=>false
 |_=>true
def zcC(s:Option Sl)(ρ:En):yE (s::ρ)=(nb s&&yE ρ):=rfl
def zed:yE []=true:=rfl
def zlY(d:D):nb (some (.dat d))=true:=rfl
def zlX(q:Bool)(d:D):nb (some (.ow q d))=true:=rfl
def zhT:nb none=true:=rfl
open Classical in
mutual
theorem eqT:∀t u:T,eqD t.d u.d=some (decide (t=u))
 | .bl x,.bl y=>by
  simp only[jP,eqD];by_cases h:x=y
  ·subst h;simp
  ·have h2:(x==y)=false:=by simpa using h
   simp[h,h2]
 | .bl x,.nd s ts=>by simp[jP,qX,eqD]
 | .nd s ts,.bl x=>by simp[jP,qX,eqD]
 | .nd s ts,.nd r us=>by
  simp only[qX,eqD,eqL,eqTs ts us];by_cases h:s=r
  ·subst h;simp
  ·have h2:(s==r)=false:=by simpa using h
   simp[h,h2]
theorem eqTs:∀ts us:U T,eqL (ts.map T.d) (us.map T.d)=some (decide (ts=us))
 |[],[]=>by simp[eqL]
 |[],_::_=>by simp[eqL]
 |_::_,[]=>by simp[eqL]
 |t::ts,u::us=>by simp only[List.map_cons,eqL,eqT t u,eqTs ts us];simp_all
end
noncomputable def xB:T->T->Option (U (T×T))
 | .nd s ts,.nd r us=>if s=r/\ts.length=us.length then some (ts.zip us)else none
 |_,_=>none
def ptD(p:T×T):D:=.tup [p.1.d,p.2.d]
noncomputable def nN(o:Option (U (T×T))):D:=match o with
 |some l=>.lst (l.map ptD)
 |none=>.non
def zgL(ts us:U T):kU (ts.map T.d) (us.map T.d)=(ts.zip us).map ptD:=by
 unfold kU;induction ts generalizing us with
 |nil=>simp
 |cons t ts ih=>
  cases us with
  |nil=>simp
  |cons u us=>simp[ptD,ih us]
def zsL(x y:Str):neB (.str x) (.str y)=some (.bl (!decide (x=y))):=by grind [neB,eqD,dep]
def zpJ(x y:Int):neB (.int x) (.int y)=some (.bl (!decide (x=y))):=by grind [neB,eqD,dep]
def zoW(a b:T)(ha:a.size<=1000)(hb:b.size<=1000):nW [a.d,b.d]=some (nN (xB a b)):=by
 have i1:=vB a;have i2:=vB b;cases a with
 |bl x=>
  simp only[T.isBl]at i1
  simp! [nW,i1,xB,nN,qO,qK,zW,inB,jQ]
 |nd s ts=>
  simp only[T.isBl]at i1;cases b with
  |bl y=>
   simp only[T.isBl]at i2
   simp! [nW,i1,i2,xB,nN,qO,qK,zW,inB,jQ]
  |nd r us=>
   simp only[T.isBl]at i2;rw[qX]at i1 i2;have n1:=zsL s r;have n2:=zpJ ((ts.length:Int)+1) ((us.length:Int)+1);have pm:=zgL ts us;rw[qX,qX];by_cases h1:s=r
   ·subst h1;by_cases h2:ts.length=us.length
    ·have h3:=by omega
     simp only[h3,decide_true,Bool.not_true]at n2;have n1':neB (D.str s) (D.str s)=some (.bl false):=by simpa using n1
     have h4:=by omega
     simp! [nW,i1,i2,n1',h4,n2,zipD,gQ,pm,xB,nN,h2,qO,qK,zW,inB,jQ]
    ·have h3:¬((ts.length:Int)+1=(us.length:Int)+1):=by lia
     simp only[h3,decide_false,Bool.not_false]at n2;have n1':neB (D.str s) (D.str s)=some (.bl false):=by simpa using n1
     simp! [nW,i1,i2,n1',n2,xB,nN,h2,qO,qK,zW,inB,jQ]
   ·simp! [nW,i1,i2,n1,xB,nN,h1,qO,qK,zW,inB,jQ]
open Classical in
noncomputable def mtB(φ:Fil)(x:Str)(u:T):Option Fil:=match jA φ x with
 |some v=>if v=u then some φ else none
 |none=>some (φ++[(x,u)])
mutual
noncomputable def mt(φ:Fil):T->T->Option Fil
 | .bl x,u=>mtB φ x u
 | .nd s ts,.nd r us=>if s=r/\ts.length=us.length then mts φ ts us else none
 | .nd _ _,.bl _=>none
noncomputable def mts(φ:Fil):U T->U T->Option Fil
 |t::ts,u::us=>(mt φ t u).bind λφ'=>mts φ' ts us
 |[],_=>some φ
 |_::_,[]=>some φ
end
noncomputable def mtl(φ:Fil):U (T×T)->Option Fil
 |[]=>some φ
 |(a,b)::ws=>(mt φ a b).bind λφ'=>mtl φ' ws
theorem zlZ:∀(ts us:U T) (φ:Fil),ts.length=us.length->mts φ ts us=mtl φ (ts.zip us)
 |[],us,φ,h=>by cases us<;>simp[mts,mtl]at h ⊢
 |t::ts,[],φ,h=>by simp at h
 |t::ts,u::us,φ,h=>by
  rw[mts,Qo,mtl]
  congr 1
  funext φ'
  exact zlZ ts us φ' (by simpa using h)
theorem zfc:∀(l ws:U (T×T)) (φ:Fil),mtl φ (l++ws)=(mtl φ l).bind λφ'=>mtl φ' ws
 |[],ws,φ=>by simp[mtl]
 |(a,b)::l,ws,φ=>by
  rw[JC,mtl,mtl,Option.bind_assoc]
  congr 1
  funext φ'
  exact zfc l ws φ'
def zqP{φ:Fil}{s:Str}{ts:U T}{b:T}:mt φ (.nd s ts) b=match xB (.nd s ts) b with
  |some l=>mtl φ l
  |none=>none:=by
 cases b with
 |bl y=>simp[mt,xB]
 |nd r us=>
  simp only[mt,xB];by_cases h:s=r/\ts.length=us.length
  ·simp only[if_pos h];exact zlZ ts us φ h.2
  ·simp only[if_neg h]
def wsz(ws:U (T×T)):Nat:=T.sizes (ws.map (·.1))
def zeP(a b:U (T×T)):wsz (a++b)=wsz a+wsz b:=by simp[wsz,zaa]
def znA{s:Str}{ts:U T}{b:T}{l:U (T×T)}(h:xB (.nd s ts) b=some l):wsz l=T.sizes ts:=by
 cases b with
 |bl y=>simp[xB]at h
 |nd r us=>
  grind [xB,wsz,List.map_fst_zip]
def zol{a b:T}{l:U (T×T)}(h:xB a b=some l):∀p∈l,p.1∈a.kids/\p.2∈b.kids:=by
 cases a with
 |bl y=>simp[xB]at h
 |nd s ts=>
  cases b with
  |bl y=>simp[xB]at h
  |nd r us=>
   simp only[xB]at h;split at h
   ·cases h
    intro p hp;exact⟨(QW hp).1,(QW hp).2⟩
   ·cases h
open Classical in
def ne_T(t u:T)(h:t.depth<=90):neB t.d u.d=some (.bl (!decide (t=u))):=by grind [eqT,zrn,neB]
def znY{φ:Fil}{x:Str}(u:T)(h:jA φ x=none):putF φ x u=φ++[(x,u)]:=by
 unfold putF;rw[if_neg];intro z;let⟨p,hp,hq⟩:=List.any_eq_true.mp z;unfold jA at h;cases e:φ.find? λp=>decide (p.1=x)with
 |some q=>simp_all
 |none=>exact absurd hq (List.find?_eq_none.mp e p hp)
noncomputable def fitR(o:Option Fil):D:=match o with
 |some φ=>jO φ
 |none=>.non
def ztB(p t:T)(hp:p.size<=400)(ht:t.size<=400)(htd:t.depth<=90):zgS [p.d,t.d]=some (fitR (mt [] p t)):=by
 let⟨fl,e1,P⟩:=zcu (t:=upT (cTr (gb 3))) (b:=zgV zI)
  (λm ρ=>∃(φ:Fil) (ws:U (T×T)) (s4 s5 s6:Option Sl),ρ=[some (.dat p.d),some (.dat t.d),some (.own (jO φ)),some (.own (.lst (ws.map ptD))),s4,s5,s6]/\m=wsz ws/\mtl φ ws=mt [] p t/\(∀q∈ws,q.1.size<=400/\q.2.size<=400/\q.2.depth<=90)/\(∀v∈φ,v.2.depth<=90)/\φ.length+wsz ws<=400/\nb s4=true/\nb s5=true/\nb s6=true)
  (λfl=>(∃φ a b c d e f,fl=.nx [a,b,some (.own (jO φ)),c,d,e,f]/\mt [] p t=some φ)\/(∃ρ,fl=.rt .non ρ/\mt [] p t=none)) (by
   rintro m ρ ⟨φ,ws,s4,s5,s6,rfl,rfl,hr,hw,hφ,hl,n4,n5,n6⟩;cases ws with
   |nil=>
    left;refine⟨[some (.dat p.d),some (.dat t.d),some (.own (jO φ)),some (.own (.lst [])),s4,s5,s6],by simp! [qI,qO,qK,zW,inB,jQ],.inl ⟨φ,_,_,_,_,_,_,rfl,by rw[←hr];rfl⟩⟩
   |cons q ws=>
    let⟨a,b⟩:=q;right;obtain⟨h1,h2,h3⟩:a.size<=400/\b.size<=400/\b.depth<=90:=hw (a,b) (by simp);have hw':∀q∈ws,q.1.size<=400/\q.2.size<=400/\q.2.depth<=90:=λq hq=>hw q (Ji _ hq)
    have ib:=vB a;have hz:wsz ((a,b)::ws)=a.size+wsz ws:=by simp[wsz,T.sizes]
    have hap:=zby a;have six:seqIndex? 0 (ws.length+1)=some 0:=by simp[seqIndex?]
    have r0:upT (cTr (gb 3)) [some (.dat p.d),some (.dat t.d),some (.own (jO φ)),some (.own (.lst (((a,b)::ws).map ptD))),s4,s5,s6]=some (true,[some (.dat p.d),some (.dat t.d),some (.own (jO φ)),some (.own (.lst (((a,b)::ws).map ptD))),s4,s5,s6]):=by simp! [qI,qO,qK,zW,inB,jQ]
    have pp:ptD (a,b)=.tup [a.d,b.d]:=rfl;cases a with
    |bl x=>
     simp only[T.isBl]at ib;have kl:(fks φ).length<1000000:=by simp[fks];lia
     have ok:=zjw φ;have fv:=zjq x φ;rw[mtl,mt,mtB]at hr;cases e:jA φ x with
     |some v=>
      rw[e]at hr fv;let⟨q,hq,_,rfl⟩:=zdA e;have nv:=ne_T q.2 b (hφ q hq);by_cases hv:q.2=b
      ·left;simp only[hv,if_true]at hr;simp only[hv,decide_true,Bool.not_true]at nv;refine⟨_,[some (.dat p.d),some (.dat t.d),some (.own (jO φ)),some (.own (.lst (ws.map ptD))),some (.dat (.str x)),some (.dat b.d),s6],wsz ws,r0,.inr ?_,by rw[hz];simp[T.size],φ,ws,_,_,s6,rfl,rfl,by simpa using hr,hw',hφ,by rw[hz]at hl;lia,rfl,rfl,n6⟩;simp only[jP]at ib pp;simp only[jP,List.map_cons,jO,hv]at fv ⊢
       simp! [pp,six,ib,ok,kl,fv,kdK,gG,gS,nv,qO,qK,zW,inB,jQ]
      ·right;simp only[hv,if_false]at hr;simp only[hv,decide_false,Bool.not_false]at nv;refine⟨_,.non,[some (.dat p.d),some (.dat t.d),some (.own (jO φ)),some (.own (.lst (ws.map ptD))),some (.dat (.str x)),some (.dat b.d),s6],r0,?_,.inr ⟨_,rfl,by simp_all⟩⟩;simp only[jP]at ib pp;simp only[jP,List.map_cons,jO]at fv ⊢
       simp! [pp,six,ib,ok,kl,fv,kdK,gG,gS,nv,qO,qK,zW,inB,jQ]
     |none=>
      rw[e]at hr fv;left;have pf:=zpz φ x b;rw[znY b e]at pf;have nv:=ne_T b b h3;simp only[decide_true,Bool.not_true]at nv;refine⟨_,[some (.dat p.d),some (.dat t.d),some (.own (jO (φ++[(x,b)]))),some (.own (.lst (ws.map ptD))),some (.dat (.str x)),some (.dat b.d),s6],wsz ws,r0,.inr ?_,by rw[hz];simp[T.size],φ++[(x,b)],ws,_,_,s6,rfl,rfl,by simpa using hr,hw',λv hv=>?_,by rw[hz]at hl;simp[T.size]at hl ⊢;lia,rfl,rfl,n6⟩
      ·simp only[jP]at ib pp;simp only[jP,List.map_cons,jO]at fv ⊢
       simp! [pp,six,ib,ok,kl,fv,kdK,gG,gS,nv,pf,qO,qK,zW,inB,jQ]
      ·rcases Qe.mp hv with hv|hv
       ·exact hφ v hv
       ·rw[Je.mp hv];exact h3
    |nd s ts=>
     simp only[T.isBl]at ib;have ep:=zoW (.nd s ts) b (by lia) (by lia);rw[mtl,zqP]at hr;cases e:xB (.nd s ts) b with
     |none=>
      rw[e]at hr ep;right;refine⟨_,.non,[some (.dat p.d),some (.dat t.d),some (.own (jO φ)),some (.own (.lst (ws.map ptD))),some (.dat (T.nd s ts).d),some (.dat b.d),some (.dat .non)],r0,?_,.inr ⟨_,rfl,by rw[←hr];rfl⟩⟩;simp only[List.map_cons,nN]at ep ⊢
      simp! [pp,six,ib,ep,qO,qK,zW,inB,jQ]
     |some l=>
      rw[e]at hr ep;left;have hzl:=znA e;have ml:=zol e;have sl:=xO (l.map (·.1));rw[Jc]at sl;have sw:=xO (ws.map (·.1));rw[Jc]at sw;rw[hz]at hl;simp only[T.size]at hl hz;have hzl':T.sizes (l.map (·.1))=T.sizes ts:=hzl;have hws:T.sizes (ws.map (·.1))=wsz ws:=rfl;have z1:l.length+ws.length<=1000000:=by(simp only[*]at*;lia)
      refine⟨_,[some (.dat p.d),some (.dat t.d),some (.own (jO φ)),some (.own (.lst ((l++ws).map ptD))),some (.dat (T.nd s ts).d),some (.dat b.d),some (.dat (.lst (l.map ptD)))],wsz (l++ws),r0,.inl ?_,by simp[zeP, *],φ,l++ws,_,_,_,rfl,rfl,by rw[zfc];exact hr,λq hq=>?_,hφ,by rw[zeP,hzl];lia,rfl,rfl,rfl⟩
      ·simp only[List.map_cons,List.map_append,nN]at ep ⊢
       simp! [pp,six,ib,ep,z1,zcC,zed,zlY,zlX,zhT,qO,qK,zW,inB,jQ]
      ·rcases Qe.mp hq with hq|hq
       ·let⟨m1,m2⟩:=ml q hq;have k1:q.1.size<=T.sizes ts:=xF m1;have k2:q.2.size<=b.size:=by have:=xF m2;rw[zbk b];lia
        have k3:q.2.depth<=b.depth:=by
         cases b with
         |bl y=>simp[T.kids]at m2
         |nd r us=>
          have:=vP (ts:=us) m2;rw[T.depth];lia
        simp only[T.size]at h1;exact⟨by lia,by lia,by lia⟩
       ·exact hw' q hq
    ) zI (wsz [(p,t)]) [some (.dat p.d),some (.dat t.d),some (.own (jO [])),some (.own (.lst ([(p,t)].map ptD))),none,none,none] ⟨[],[(p,t)],none,none,none,rfl,rfl,by simp[mtl],by simp;trivial,by simp,by simp[wsz,T.sizes];simp_all,rfl,rfl,rfl⟩ (by simp[wsz,T.sizes];show p.size<zI;unfold zI;lia)
 have fe:jO []=.dic [] []:=rfl;rcases P with⟨φ,a,b,c,d,e,f,rfl,hm⟩|⟨ρ,rfl,hm⟩
 ·rw[hm];simp only[fe,List.map_cons,List.map_nil,ptD]at e1
  simp! [zgS,zcC,zed,zlY,zlX,zhT,e1,fitR,qO,qK,zW,inB,jQ]
 ·rw[hm];simp only[fe,List.map_cons,List.map_nil,ptD]at e1
  simp! [zgS,zcC,zed,zlY,zlX,zhT,e1,fitR,qO,qK,zW,inB,jQ]
def eq_T(t u:T)(h:t.depth<=90):eqB t.d u.d=some (.bl (@decide (t=u) (Classical.propDecidable _))):=by grind [eqT,zrn,eqB]
mutual
def bks:T->U Str
 | .bl x=>[x]
 | .nd _ ts=>kB [] ts
def kB(p7:U Str):U T->U Str
 |[]=>p7
 |t::ts=>kB (p7++(bks t).filter λx=>!decide (x∈p7)) ts
end
mutual
theorem zix:∀t:T,(bks t).length<=t.size
 | .bl x=>by simp[bks,T.size]
 | .nd s ts=>by have:=zgn ts [];simp[bks,T.size]at this ⊢;lia
theorem zgn:∀(ts:U T) (l:U Str),(kB l ts).length<=l.length+T.sizes ts
 |[],l=>by simp[kB]
 |t::ts,l=>by have h1:=zgn ts (l++(bks t).filter λx=>!decide (x∈l));have h2:=zix t;have h3:=List.length_filter_le (λx=>!decide (x∈l)) (bks t);rw[Jt]at h1;rw[kB,T.sizes];lia
end
mutual
theorem zcl{φ:Fil}{m:Nat}(h1:1<=m)(hm:∀p∈φ,p.2.size<=m):∀t:T,(qA φ t).size<=t.size*m
 | .bl x=>by
  rw[qA];cases e:jA φ x with
  |none=>simp[T.size];exact h1
  |some t=>
   let⟨p,hp,_,rfl⟩:=zdA e
   have:=hm p hp;simp[T.size];exact this
 | .nd s ts=>by have:=zfm h1 hm ts;rw[qA];simp only[T.size,Nat.add_mul];lia
theorem zfm{φ:Fil}{m:Nat}(h1:1<=m)(hm:∀p∈φ,p.2.size<=m):∀ts:U T,T.sizes (kG φ ts)<=T.sizes ts*m
 |[]=>by simp[kG,T.sizes]
 |t::r=>by have h2:=zcl h1 hm t;have h3:=zfm h1 hm r;rw[kG];simp only[T.sizes,Nat.add_mul];exact Nat.add_le_add ‹_› ‹_›
end
mutual
theorem zqa{ps:SI}{bs:U Str}:∀t:T,WT ps bs t->∀x∈bks t,x∈bs
 | .bl y,h,x,hx=>by simp[bks]at hx;subst hx;cases h with|bl h=>exact h
 | .nd s ts,h,x,hx=>by
  cases h with
  |nd h hs=>
   rw[bks]at hx;rcases znu ts hs [] x hx with h|h
   ·cases h
   ·exact h
theorem znu{ps:SI}{bs:U Str}:∀ts:U T,(∀t∈ts,WT ps bs t)->∀(l:U Str) (x:Str),x∈kB l ts->x∈l\/x∈bs
 |[],h,l,x,hx=>by rw[kB]at hx;exact .inl hx
 |t::ts,h,l,x,hx=>by
  rw[kB]at hx;rcases znu ts (λu hu=>h u (Ji _ hu)) _ x hx with h1|h1
  ·rcases Qe.mp h1 with h2|h2
   ·exact .inl h2
   ·exact .inr (zqa t (h t (by simp)) x (Wj.mp h2).1)
  ·exact .inr h1
end
mutual
def vs:T->U Str
 | .bl x=>[x]
 | .nd _ ts=>vsL ts
def vsL:U T->U Str
 |[]=>[]
 |t::r=>vs t++vsL r
end
theorem zkL{x:Str}:∀{ts:U T},x∈vsL ts↔∃t∈ts,x∈vs t
 |[]=>by simp[vsL]
 |t::r=>by simp[vsL,List.mem_append,zkL]
mutual
theorem zeF{x:Str}:∀t:T,x∈bks t↔x∈vs t
 | .bl y=>by simp[bks,vs]
 | .nd s ts=>by rw[bks,vs,zjD ts];simp
theorem zjD{x:Str}:∀(ts:U T) (l:U Str),x∈kB l ts↔x∈l\/x∈vsL ts
 |[],l=>by simp[kB,vsL]
 |t::r,l=>by rw[kB,zjD r,Qe,Wj,zeF t,vsL,Qe];by_cases h:x∈l<;>simp[h]
end
inductive Sub:T->T->Prop
 |refl (t:T):Sub t t
 |kid {s:Str}{ts:U T} {u t:T}(h:t∈ts) (r:Sub u t):Sub u (.nd s ts)
theorem Sub.size{u t:T}(h:Sub u t):u.size<=t.size:=by
 induction h with
 |refl=>exact Jf _
 |kid h _ ih=>have:=xF h;rw[T.size];lia
theorem Sub.depth{u t:T}(h:Sub u t):u.depth<=t.depth:=by
 induction h with
 |refl=>exact Jf _
 |kid h _ ih=>have:=vP h;rw[T.depth];lia
def zrj{φ:Fil}{x:Str}(h:jA φ x=none):qA φ (.bl x)=.bl x:=by rw[qA,h];rfl
theorem zer{φ:Fil}{x:Str}{t:T}(h:jA φ x=some t):qA φ (.bl x)=t:=by rw[qA,h];rfl
theorem zep{φ:Fil}{x:Str}:jA φ x=none↔x∉φ.map (·.1):=by grind [jA,Option.map_eq_none_iff]
def ded(l:U Str):U Str:=l.foldl (λp7 x=>if x∈p7 then p7 else p7++[x]) []
def yG(p7 l:U Str):U Str:=l.foldl (λp7 x=>if x∈p7 then p7 else p7++[x]) p7
theorem zjB{x:Str}:∀(l p7:U Str),x∈yG p7 l↔x∈p7\/x∈l
 |[],p7=>by simp[yG]
 |y::l,p7=>by have ih:=zjB (x:=x) l (if y∈p7 then p7 else p7++[y]);grind [yG]
theorem zgd:∀(l p7:U Str),(yG p7 l).length<=p7.length+l.length
 |[],p7=>by simp[yG]
 |y::l,p7=>by have ih:=zgd l (if y∈p7 then p7 else p7++[y]);grind [yG]
def blp:U (U Int×T)->U Str
 |[]=>[]
 |(_,.bl x)::r=>x::blp r
 |(_,.nd _ _)::r=>blp r
theorem zgm:∀a b:U (U Int×T),blp (a++b)=blp a++blp b
 |[],b=>by simp[blp]
 |(_,.bl x)::r,b=>by rw[JC,blp,blp,zgm r b,JC]
 |(_,.nd _ _)::r,b=>by rw[JC,blp,blp,zgm r b]
mutual
theorem zfx(p:U Int):∀t:T,blp (zQ p t)=vs t
 | .bl x=>by simp[zQ,blp,vs]
 | .nd s ts=>by rw[zQ,blp,zeE p 0 ts,vs]
theorem zeE(p:U Int):∀(k:Nat) (ts:U T),blp (jD p k ts)=vsL ts
 |_,[]=>by simp[jD,blp,vsL]
 |k,t::r=>by rw[jD,zgm,zfx (p++[(k:Int)]) t,zeE p (k+1) r,vsL]
end
theorem ziw:∀l:U (U Int×T),(blp l).length<=l.length
 |[]=>by simp[blp]
 |(_,.bl x)::r=>by have:=ziw r;simp[blp];exact this
 |(_,.nd _ _)::r=>by have:=ziw r;simp[blp];lia
def zew(t:T)(hz:t.size<=900000):zax [t.d]=some (.lst ((ded (vs t)).map D.str)):=by
 have pp:=zah t hz;have hl:=nL [] t;let⟨ρ',f1,k2,k3,rfl⟩:=kP (g:=qP (zM (gN 2) (zM (gN 3) qH))) (b:=zbH zI) (xs:=(zQ [] t).map pd) (ρ:=[some (.dat t.d),some (.own (.lst [])),none,none])
  (λi ρ=>∃k2 k3:Option Sl,ρ=[some (.dat t.d),some (.own (.lst ((yG [] (blp ((zQ [] t).take i))).map D.str))),k2,k3]) ⟨none,none,by simp[yG,blp]⟩ (by
   rintro i x ρ hx ⟨k2,k3,rfl⟩;rw[List.getElem?_map]at hx;cases e:(zQ [] t)[i]? with
   |none=>rw[e]at hx;cases hx
   |some q=>
    rw[e]at hx;cases hx
    have hi:i<(zQ [] t).length:=(List.getElem?_eq_some_iff.mp e).1;have eq:(zQ [] t)[i]=q:=by rw[List.getElem?_eq_getElem hi]at e;exact Option.some.inj e
    have tk:(zQ [] t).take (i+1)=(zQ [] t).take i++[q]:=by rw[Jl hi,eq]
    have l1:=zgd (blp ((zQ [] t).take i)) [];have l2:=ziw ((zQ [] t).take i);rw[QN]at l2;simp only[List.length_nil,Nat.zero_add]at l1;let⟨p,u⟩:=q;have ib:=vB u;rw[tk,zgm];generalize hacc:yG [] (blp ((zQ [] t).take i))=p7 at l1;have da:yG [] (blp ((zQ [] t).take i)++blp [(p,u)])=yG p7 (blp [(p,u)]):=by simp_all[yG]
    rw[da];cases u with
    |nd s ts=>
     simp only[T.isBl]at ib;refine⟨[some (.dat t.d),some (.own (.lst ((yG p7 (blp [(p,T.nd s ts)])).map D.str))),some (.dat (.tup (p.map D.int))),some (.dat (T.nd s ts).d)],.inl ?_,_,_,rfl⟩
     dsimp! [pd,ib,blp,yG]
    |bl y=>
     simp only[T.isBl]at ib;have i1:=zcI y p7;have dd:=zco p7;have dz:jY (p7.map D.str)<=100:=by lia
     rw[jP]at ib;refine⟨[some (.dat t.d),some (.own (.lst ((yG p7 (blp [(p,T.bl y)])).map D.str))),some (.dat (.tup (p.map D.int))),some (.dat (.str y))],.inl ?_,_,_,rfl⟩;by_cases hy:y∈p7
     ·dsimp! [pd,jP,ib,blp,yG,i1,dz,hy]
     ·have z1:p7.length<1000000:=by grind
      dsimp! [pd,jP,ib,blp,yG,i1,dz,hy,z1])
 rw[Jc,QC,zfx]at f1;have e0:yG [] (vs t)=ded (vs t):=rfl;rw[e0]at f1
 dsimp! [zax,pp,f1]
def zmX{x:Str}(l:U Str):x∈ded l↔x∈l:=by have e:ded l=yG [] l:=rfl;rw[e,zjB];simp
def ziB{ps:SI}{bs:U Str}{t:T}(h:WT ps bs t):∀x∈vs t,x∈bs:=λx hx=>zqa t h x ((zeF t).mpr hx)
noncomputable def rD(r:T×T):D:=.tup [r.1.d,r.2.d]
noncomputable def sD(x:U Int×Nat×T):D:=.tup [pD x.1,.int x.2.1,x.2.2.d]
def stA(t:T)(p:U Int)(u:T):Nat->U (T×T)->U (U Int×Nat×T)
 |_,[]=>[]
 |k,r::rs=>(match mt [] r.1 u with
  |some φ=>[(p,k,kJ t p (qA φ r.2))]
  |none=>[])++stA t p u (k+1) rs
theorem zfD(t:T)(p:U Int)(u:T):∀(k:Nat) (rs:U (T×T)),(stA t p u k rs).length<=rs.length
 |_,[]=>by simp[stA]
 |k,r::rs=>by have:=zfD t p u (k+1) rs;grind [stA.eq_2]
theorem ziM(t:T)(p:U Int)(u:T):∀(rs:U (T×T)) (k:Nat) (r:T×T),stA t p u k (rs++[r])=stA t p u k rs++(match mt [] r.1 u with
  |some φ=>[(p,k+rs.length,kJ t p (qA φ r.2))]
  |none=>[])
 |[],k,r=>by simp[stA]
 |r'::rs,k,r=>by rw[JC,stA,stA,ziM t p u rs (k+1) r,Jx,JA,show k+1+rs.length=k+(rs.length+1) by lia]
def stL(t:T)(rs:U (T×T))(ps:U (U Int×T)):U (U Int×Nat×T):=ps.flatMap λq=>stA t q.1 q.2 0 rs
structure zcU(rs:U (T×T)):Prop where
 len:rs.length<=9
 lz:∀r∈rs,r.1.size<=20/\r.1.depth<=20
 rz:∀r∈rs,r.2.size<=40/\r.2.depth<=12
def zkw(rs:U (T×T))(R:zcU rs)(t u:T)(p:U Int)(ht:t.size<=400)(hp:qE t p=some u)(hd:t.depth<=80):zbB [.lst (rs.map rD),t.d,pD p,u.d]=some (.lst ((stA t p u 0 rs).map sD)):=by
 have uz:=zal p t u hp;have ud:=zbl p t u hp;have pl:=zbO p t u hp;let⟨ρ',f1,k5,k6,k7,k8,rfl,_⟩:=kP (g:=qP (zM (gN 5) (zM (qP (zM (gN 6) (zM (gN 7) qH))) qH))) (b:=zcg zI) (xs:=xL 0 (rs.map rD)) (ρ:=[some (.dat (.lst (rs.map rD))),some (.dat t.d),some (.dat (pD p)),some (.dat u.d),some (.own (.lst [])),none,none,none,none])
  (λi ρ=>∃k5 k6 k7 k8:Option Sl,ρ=[some (.dat (.lst (rs.map rD))),some (.dat t.d),some (.dat (pD p)),some (.dat u.d),some (.own (.lst ((stA t p u 0 (rs.take i)).map sD))),k5,k6,k7,k8]/\yE [k5,k6,k7,k8]=true) ⟨none,none,none,none,by simp[stA],rfl⟩ (by
   rintro i x ρ hx ⟨k5,k6,k7,k8,rfl,nbk⟩;let⟨y,hy,rfl⟩:=zbt 0 _ i x hx;have hi:i<rs.length:=by have:=(List.getElem?_eq_some_iff.mp hy).1;simpa using this
   rw[List.getElem?_map,List.getElem?_eq_getElem hi]at hy;cases hy
   have hr:=Qh hi;have z1:=R.lz _ hr;have z2:=R.rz _ hr;have ft:=ztB rs[i].1 u (by lia) (by lia) (by lia);have tk:=Jl hi;have st:=ziM t p u (rs.take i) 0 rs[i];rw[←tk]at st;have tl:(rs.take i).length=i:=by rw[QN];grind
   have sl:=zfD t p u 0 (rs.take i);have rl:=R.len;cases hm:mt [] rs[i].1 u with
   |none=>
    rw[hm]at ft st;simp only[List.append_nil,fitR]at st ft;refine⟨[some (.dat (.lst (rs.map rD))),some (.dat t.d),some (.dat (pD p)),some (.dat u.d),some (.own (.lst ((stA t p u 0 (rs.take (i+1))).map sD))),some (.dat (.int i)),some (.dat rs[i].1.d),some (.dat rs[i].2.d),some (.dat .non)],.inl ?_,_,_,_,_,rfl,rfl⟩;rw[st]
    dsimp! [rD,ft]
   |some φ=>
    rw[hm]at ft st;simp only[fitR]at st ft;have fl:zbb [rs[i].2.d,jO φ]=some (qA φ rs[i].2).d:=zjy φ 100 rs[i].2 (by lia) (by lia);have pt:zbD [t.d,pD p,(qA φ rs[i].2).d]=some (kJ t p (qA φ rs[i].2)).d:=zoV t u _ p hp (by lia) (by lia);refine⟨[some (.dat (.lst (rs.map rD))),some (.dat t.d),some (.dat (pD p)),some (.dat u.d),some (.own (.lst ((stA t p u 0 (rs.take (i+1))).map sD))),some (.dat (.int i)),some (.dat rs[i].1.d),some (.dat rs[i].2.d),some (.dat (jO φ))],.inl ?_,_,_,_,_,rfl,rfl⟩;rw[st,tl,Jr];have zl':(stA t p u 0 (rs.take i)).length<1000000:=by exact Qm ‹_› (by lia)
    simp only[jO]at ft fl ⊢
    dsimp! [rD,sD,ft,fl,pt,zl'])
 rw[wS,Jc,QC]at f1
 dsimp! [zbB,cEnL,f1]
mutual
theorem zeY:∀(t:T) (p:U Int),(zQ p t).map (·.1)=(plc t).map (p++·)
 | .bl x,p=>by simp[zQ,plc]
 | .nd s ts,p=>by rw[zQ,plc,Jd,Jd,zdV ts p 0,JL]
theorem zdV:∀(ts:U T) (p:U Int) (k:Nat),(jD p k ts).map (·.1)=(nK k ts).map (p++·)
 |[],p,k=>by simp[jD,nK]
 |t::r,p,k=>by
  rw[jD,nK,Jr,Jr,zeY t,zdV r p (k+1),Jq]
  congr 1
  apply JD;intro q _;simp
end
def zsj(t:T):plc t=(zQ [] t).map (·.1):=by rw[zeY t []];simp
def zhN(t:T):(zQ [] t).length=t.size:=by rw[←zlF t,zsj t,Jc]
def zaX{t:T}{q:U Int×T}(h:q∈zQ [] t):qE t q.1=some q.2:=zdX t [] t (by cases t<;>rfl) q h
theorem zkZ(t:T)(rs:U (T×T)):∀ps:U (U Int×T),(stL t rs ps).length<=ps.length*rs.length
 |[]=>by simp[stL]
 |q::ps=>by have h1:=zfD t q.1 q.2 0 rs;have h2:=zkZ t rs ps;grind [stL.eq_1,Nat.succ_mul]
def znI{t:T}{rs:U (T×T)}{ps:U (U Int×T)}{i:Nat}(hi:i<ps.length):stL t rs (ps.take (i+1))=stL t rs (ps.take i)++stA t ps[i].1 ps[i].2 0 rs:=by unfold stL;rw[Jl hi,List.flatMap_append,QK,List.flatMap_nil,JL]
def zrk(rs:U (T×T))(R:zcU rs)(t:T)(ht:t.size<=400)(hd:t.depth<=80)(hm:gI [.lst (rs.map rD),.lst [t.d]]=some .non):zfU [.lst (rs.map rD),t.d]=some (.lst ((stL t rs (zQ [] t)).map sD)):=by
 have pp:=zah t (by lia);have pl:=zhN t;have rl:=R.len;let⟨ρ',f1,k3,k4,rfl,_⟩:=kP (g:=qP (zM (gN 3) (zM (gN 4) qH))) (b:=zff zI) (xs:=(zQ [] t).map pd) (ρ:=[some (.dat (.lst (rs.map rD))),some (.dat t.d),some (.own (.lst [])),none,none])
  (λi ρ=>∃k3 k4:Option Sl,ρ=[some (.dat (.lst (rs.map rD))),some (.dat t.d),some (.own (.lst ((stL t rs ((zQ [] t).take i)).map sD))),k3,k4]/\True) ⟨none,none,by simp[stL],trivial⟩ (by
   rintro i x ρ hx ⟨k3,k4,rfl,_⟩;have hi:i<(zQ [] t).length:=by have:=(List.getElem?_eq_some_iff.mp hx).1;simpa using this
   rw[List.getElem?_map,List.getElem?_eq_getElem hi]at hx;cases hx
   have hp:=zaX (Qh hi);have sa:=zkw rs R t _ _ ht hp hd;have sl:=zkZ t rs ((zQ [] t).take i);have tl:((zQ [] t).take i).length<=400:=by grind
   have al:=zfD t (zQ [] t)[i].1 (zQ [] t)[i].2 0 rs;have sz:=by have:=Nat.mul_le_mul tl rl;omega
   have zz:(stL t rs ((zQ [] t).take i)).length+(stA t (zQ [] t)[i].1 (zQ [] t)[i].2 0 rs).length<=1000000:=by lia
   rw[znI hi,Jr];simp only[pD]at sa ⊢
   dsimp! [pd,sa,zz])
 dsimp! [zfU,hm,pp,f1]
theorem ziC{ps:SI}{bs:U Str}:∀(p:U Int) (t u:T),qE t p=some u->WT ps bs t->WT ps bs u
 |[],t,u,h,w=>by simp_all[qE]
 |k::p,t,u,h,w=>by
  let⟨s,ts,c,rfl,h0,e,h2⟩:=vJ h;cases w with
  |nd hs hk=>exact ziC p c u h2 (hk c (List.mem_of_getElem? e))
mutual
theorem zpp:∀t:T,(vs t).length<=t.size
 | .bl x=>by simp[vs,T.size]
 | .nd s ts=>by rw[vs,T.size];have:=zkM ts;lia
theorem zkM:∀ts:U T,(vsL ts).length<=T.sizes ts
 |[]=>by simp[vsL,T.sizes]
 |t::r=>by rw[vsL,T.sizes,Jt];have:=zpp t;have:=zkM r;exact Nat.add_le_add ‹_› ‹_›
end
theorem zhh(l r:T)(hl:l.isBl=false)(hv:∀x∈vs r,x∈vs l)(zl:l.size<=1000)(zr:r.size<=1000):zce [l.d,r.d]=some (.bl true):=by
 have ib:=vB l;rw[hl]at ib;have b1:=zew l (by lia);have b2:=zew r (by lia);have ln:(ded (vs r)).length<=1000000:=by have:=zgd (vs r) [];grind [zpp,ded,yG]
 have cm:jH (gN 0) jB (zdg zI) [none,some (.dat (.lst ((ded (vs l)).map D.str)))] ((ded (vs r)).map D.str)=some (((ded (vs r)).map λ_=>true).map D.bl):=by
  refine wV (by simp) λi x y hx hy=>?_
  rw[List.getElem?_map]at hx;rw[Jq,List.getElem?_map]at hy;cases e:(ded (vs r))[i]? with
  |none=>rw[e]at hx;cases hx
  |some z=>
   rw[e]at hx hy;cases hx;cases hy
   have hz:=(zmX _).mpr (hv z ((zmX _).mp (List.mem_of_getElem? e)));have i1:=zcI z (ded (vs l));rw[decide_eq_true hz]at i1;have dz:jY ((ded (vs l)).map D.str)<=100:=by grind [zco]
   exact⟨_,rfl,rfl,by dsimp! [i1,dz]⟩
 have bo:=zcr ((ded (vs r)).map λ_=>true);have al:((ded (vs r)).map λ_=>true).all id=true:=by simp
 generalize ((ded (vs r)).map λ_=>true)=BB at cm bo al;have cm':=cm
 dsimp! [zce,ib,b1,b2,ln,cm',gU,bo,al]
def zil(rs:U (T×T))(hr:rs.length<=100):zaN [.lst (rs.map rD)]=some (.lst ((Y0 6).map T.d)):=by
 have key:∀rs:U (T×T),wK (gN 0) (cI (gv 0)) (gN 1) (zcp zI) [none,none] (rs.map rD)=some ((Y0 6).map T.d):=by
  intro rs;induction rs with
  |nil=>rfl
  |cons r rs ih=>
   rw[Jd,wK,ih]
   dsimp! [rD,gM,innM]
 have k:=key rs;have ln:((Y0 6).map T.d).length<=1000000:=by
  have:∀rs:U (T×T),(Y0 6).length=2*rs.length:=by
   intro rs;induction rs with
   |nil=>rfl
   |cons r rs ih=>rw[QK,Jt,ih];simp;exact Nat.add_comm _ _
  rw[Jc,this];lia
 generalize ((Y0 6).map T.d)=SS at k ln ⊢;have k':=k
 dsimp! [zaN,zhn,k',ln]
abbrev Cnt:=SI
def cks(C:Cnt):U KD:=C.map λp=>KD.str p.1
def cds(C:Cnt):U D:=C.map λp=>D.int p.2
noncomputable def gO(C:Cnt)(x:Str):Option Int:=(C.find? λp=>decide (p.1=x)).map (·.2)
def ztH(C:Cnt):kOk (cks C)=true:=by unfold kOk cks;rw[List.all_map];exact JU.mpr λp _=>rfl
theorem zpT(x:Str):∀C:Cnt,qU (cks C) (cds C) (.str x)=(gO C x).map D.int
 |[]=>by simp[qU,cks,gO]
 |(y,t)::C=>by have ih:=zpT x C;grind [qU,cks,cds,gO]
def zoY{C:Cnt}{x:Str}{k:Int}(h:gO C x=some k):(x,k)∈C:=by
 unfold gO at h;cases e:C.find? λp=>decide (p.1=x)with
 |none=>simp_all
 |some q=>
  grind
def zhl{C:Cnt}{x:Str}(h:gO C x=none):x∉C.map (·.1):=by grind [gO,Option.map_eq_none_iff]
def cput{C:Cnt}{x:Str}(h:gO C x=none)(k:Int):jV (cks C) (cds C) (.str x) (.int k)=(cks (C++[(x,k)]),cds (C++[(x,k)])):=by have hn:=zhl h;simp_all[cks,jV,cds]
structure CO(ps:SI)(C:Cnt):Prop where
 nd:(C.map (·.1)).Nodup
 mem:∀c∈C,(c.1,c.2 - 1)∈ps
theorem CO.len{ps:SI}{C:Cnt}(h:CO ps C):C.length<=ps.length:=by
 have:=zmv (C.map (·.1)) (ps.map (·.1)) h.nd λx hx=>by let⟨c,hc,rfl⟩:=Jv.mp hx;exact Jv.mpr ⟨_,h.mem c hc,rfl⟩
 simpa using this
def zhe(ps:SI)(bs:U Str)(hps:ps.length<=100)(ap:∀s k k',(s,k)∈ps->(s,k')∈ps->k=k')(us:U T)(hu:∀u∈us,WT ps bs u/\u.size<=1000):zab [.lst (us.map T.d)]=some (.lst []):=by
 let⟨ρ',f1,C,k3,k4,k5,rfl,_⟩:=kP (g:=gN 3) (b:=zaB zI) (xs:=us.map T.d) (ρ:=[some (.dat (.lst (us.map T.d))),some (.own (.dic [] [])),some (.own (.lst [])),none,none,none])
  (λi ρ=>∃(C:Cnt) (k3 k4 k5:Option Sl),ρ=[some (.dat (.lst (us.map T.d))),some (.own (.dic (cks C) (cds C))),some (.own (.lst [])),k3,k4,k5]/\CO ps C) ⟨[],none,none,none,rfl,by simp,λc hc=>by cases hc⟩ (by
   rintro i x ρ hx ⟨C,k3,k4,k5,rfl,hC⟩;let⟨u,hu',rfl⟩:=Jv.mp (List.mem_of_getElem? hx);let⟨hw,hz⟩:=hu u hu';have pp:=zah u (by lia);let⟨ρ2,f2,C2,k4',k5',rfl,hC2⟩:=kP (g:=qP (zM (gN 4) (zM (gN 5) qH))) (b:=zaC zI) (xs:=(zQ [] u).map pd)
    (λi ρ=>∃(C:Cnt) (k4 k5:Option Sl),ρ=[some (.dat (.lst (us.map T.d))),some (.own (.dic (cks C) (cds C))),some (.own (.lst [])),some (.dat u.d),k4,k5]/\CO ps C) ⟨C,k4,k5,rfl,hC⟩ (by
     rintro j y ρ hy ⟨C,k4,k5,rfl,hC⟩;let⟨q,hq,rfl⟩:=Jv.mp (List.mem_of_getElem? hy);have hp:=zaX hq;have wq:=ziC _ _ _ hp hw;have zq:=zal _ _ _ hp;have ib:=vB q.2;let⟨qp,qt⟩:=q;simp only at wq zq ib hp;cases wq with
     |bl h=>
      rename_i x;refine⟨[some (.dat (.lst (us.map T.d))),some (.own (.dic (cks C) (cds C))),some (.own (.lst [])),some (.dat u.d),some (.dat (.tup (qp.map D.int))),some (.dat (.str x))],.inl ?_,C,_,_,rfl,hC⟩;simp only[T.isBl,jP]at ib
      dsimp! [pd,jP,ib,andM]
     |nd h hk=>
      rename_i s ts;simp only[T.isBl,qX]at ib;have cv:=zpT s C;have ok:=ztH C;have cl:=hC.len;have kl:(cks C).length<1000000:=by simp[cks];lia
      have ne:neB (.int ((ts.length:Int)+1)) (.int ((ts.length:Int)+1))=some (.bl false):=by simp[zpJ]
      have tl:ts.length+1<=1000000:=by grind [T.size.eq_2,xO]
      cases e:gO C s with
      |some k=>
       rw[e]at cv;have hk2:=hC.mem _ (zoY e)
       have:k - 1=(ts.length:Int):=ap s _ _ hk2 h;have ek:k=(ts.length:Int)+1:=by lia
       subst ek;refine⟨[some (.dat (.lst (us.map T.d))),some (.own (.dic (cks C) (cds C))),some (.own (.lst [])),some (.dat u.d),some (.dat (.tup (qp.map D.int))),some (.dat (.tup (.str s::ts.map T.d)))],.inl ?_,C,_,_,rfl,hC⟩
       simp! [pd,qX,ib,andM,gS,gG,cv,ok,kl,kdK,ne,tl,atI,ixN,qO,qK,zW,inB,jQ]
      |none=>
       rw[e]at cv;have cp:=cput e ((ts.length:Int)+1);refine⟨[some (.dat (.lst (us.map T.d))),some (.own (.dic (cks (C++[(s,(ts.length:Int)+1)])) (cds (C++[(s,(ts.length:Int)+1)])))),some (.own (.lst [])),some (.dat u.d),some (.dat (.tup (qp.map D.int))),some (.dat (.tup (.str s::ts.map T.d)))],.inl ?_,C++[(s,(ts.length:Int)+1)],_,_,rfl,?_⟩
       ·simp! [pd,qX,ib,andM,gS,gG,cv,ok,kl,kdK,cp,ne,tl,atI,ixN,qO,qK,zW,inB,jQ]
       ·refine⟨?_,λc hc=>?_⟩
        ·rw[Jr,Wv];refine⟨hC.nd,by simp,λa ha b hb=>?_⟩;simp at hb;subst hb;rintro rfl;exact zhl e ha
        ·rcases Qe.mp hc with hc|hc
         ·exact hC.mem c hc
         ·rw[Je.mp hc];simpa using h)
   refine⟨[some (.dat (.lst (us.map T.d))),some (.own (.dic (cks C2) (cds C2))),some (.own (.lst [])),some (.dat u.d),k4',k5'],.inl ?_,C2,_,_,_,rfl,hC2⟩;simp only[Sl.own]at f2
   dsimp! [pp,f2])
 simp only[Sl.own]at f1
 dsimp! [zab,f1]
def ztA(ps:SI)(bs:U Str)(hps:ps.length<=100)(ap:∀s k k',(s,k)∈ps->(s,k')∈ps->k=k')(rs:U (T×T))(R:zcU rs)(hr:∀r∈rs,r.1.isBl=false/\(∀x∈vs r.2,x∈vs r.1)/\WT ps bs r.1/\WT ps bs r.2)(t:T)(hw:WT ps bs t)(hz:t.size<=1000):
  gI [.lst (rs.map rD),.lst [t.d]]=some .non:=by
 have rl:=R.len;have sd:=zil rs (by lia);have ln:(Y0 6).length<=100:=by
  have:∀rs:U (T×T),(Y0 6).length=2*rs.length:=by
   intro rs;induction rs with
   |nil=>rfl
   |cons r rs ih=>rw[QK,Jt,ih];simp;exact Nat.add_comm _ _
  (simp[*];lia)
 have tw:=zhe ps bs hps ap ((Y0 6)++[t]) (λu hu=>by
  rcases Qe.mp hu with hu|hu
  ·let⟨r,hr',hu⟩:=Wg.mp hu;have h1:=hr r hr';have h2:=R.lz r hr';have h3:=R.rz r hr';simp at hu;rcases hu with rfl|rfl
   ·exact⟨h1.2.2.1,by lia⟩
   ·exact⟨h1.2.2.2,by lia⟩
  ·rw[Je.mp hu];exact⟨hw,hz⟩)
 let⟨ρ',f1,k2,k3,k4,rfl⟩:=kP (g:=gN 2) (b:=zay zI) (xs:=rs.map rD) (ρ:=[some (.dat (.lst (rs.map rD))),some (.dat (.lst [t.d])),none,none,none,none])
  (λi ρ=>∃k2 k3 k4:Option Sl,ρ=[some (.dat (.lst (rs.map rD))),some (.dat (.lst [t.d])),k2,k3,k4,none]) ⟨none,none,none,rfl⟩ (by
   rintro i x ρ hx ⟨k2,k3,k4,rfl⟩;let⟨r,hr',rfl⟩:=Jv.mp (List.mem_of_getElem? hx);have h1:=hr r hr';have h2:=R.lz r hr';have h3:=R.rz r hr';have ir:=zhh r.1 r.2 h1.1 h1.2.1 (by lia) (by lia);refine⟨[some (.dat (.lst (rs.map rD))),some (.dat (.lst [t.d])),some (.dat (rD r)),some (.dat r.1.d),some (.dat r.2.d),none],.inl ?_,_,_,_,rfl⟩
   dsimp! [rD,ir])
 rw[Jr]at tw;have l2:((Y0 6).map T.d).length+1<=1000000:=by rw[Jc];lia
 generalize (Y0 6).map T.d=SS at sd tw l2;have tw:zab [.lst (SS++[t.d])]=some (.lst []):=tw
 dsimp! [gI,runN,f1,sd,l2,tw]
mutual
theorem zpK:∀(p u:T) (φ ψ:Fil),mt φ p u=some ψ->∀v∈ψ,v∈φ\/Sub v.2 u
 | .bl x,u,φ,ψ,h=>by
  rw[mt]at h;unfold mtB at h;cases e:jA φ x with
  |some v=>
   rw[e]at h;simp only at h;split at h
   ·cases h;exact λv hv=>.inl hv
   ·cases h
  |none=>
   rw[e]at h;cases h
   intro v hv;rcases Qe.mp hv with hv|hv
   ·exact .inl hv
   ·rw[Je.mp hv];exact .inr (.refl _)
 | .nd s ts,.bl y,φ,ψ,h=>by simp[mt]at h
 | .nd s ts,.nd r us,φ,ψ,h=>by
  simp only[mt]at h;split at h
  ·intro v hv;rcases zma ts us φ ψ h v hv with h1|⟨u,hu,h1⟩
   ·exact .inl h1
   ·exact .inr (.kid hu h1)
  ·cases h
theorem zma:∀(ts us:U T) (φ ψ:Fil),mts φ ts us=some ψ->∀v∈ψ,v∈φ\/∃u∈us,Sub v.2 u
 |[],us,φ,ψ,h=>by simp[mts]at h;subst h;exact λv hv=>.inl hv
 |t::ts,[],φ,ψ,h=>by simp[mts]at h;subst h;exact λv hv=>.inl hv
 |t::ts,u::us,φ,ψ,h=>by
  rw[mts]at h;cases e:mt φ t u with
  |none=>rw[e]at h;cases h
  |some φ'=>
   rw[e]at h;intro v hv;rcases zma ts us φ' ψ h v hv with h5|⟨w,hw,h5⟩
   ·rcases zpK t u φ φ' e v h5 with h6|h6
    ·exact .inl h6
    ·exact .inr ⟨u,by simp,h6⟩
   ·exact .inr ⟨w,Ji _ hw,h5⟩
end
def WT.sub{ps:SI}{bs:U Str}{u t:T}(h:WT ps bs t)(s:Sub u t):WT ps bs u:=by
 induction s with
 |refl=>exact h
 |kid hm _ ih=>cases h with|nd hs hk=>exact ih (hk _ hm)
def WT.fill{ps:SI}{bs:U Str}{φ:Fil}(hφ:∀v∈φ,WT ps bs v.2){t:T}(h:WT ps bs t):WT ps bs (qA φ t):=by
 induction h with
 |bl hx=>
  rename_i x;cases e:jA φ x with
  |none=>rw[zrj e];exact .bl hx
  |some v=>
   grind [zer,zdA]
 |nd hs _ ih=>
  rw[qA,zap];refine .nd (by rw[Jc];exact hs) λt ht=>?_
  grind
theorem WT.put{ps:SI}{bs:U Str}{n:T}(hn:WT ps bs n):∀(p:U Int) (t u:T),qE t p=some u->WT ps bs t->WT ps bs (kJ t p n)
 |[],t,u,_,_=>by exact hn
 |k::p,t,u,h,w=>by
  let⟨s,ts,c,rfl,h0,e,h2⟩:=vJ h;rw[zhI e];cases w with
  |nd hs hk=>
   have ih:=WT.put hn p c u h2 (hk c (List.mem_of_getElem? e));refine .nd (by simp[*]) λt ht=>?_
   grind
def WT.mono{ps:SI}{bs cs:U Str}(hb:∀x∈bs,x∈cs){t:T}(h:WT ps bs t):WT ps cs t:=by
 induction h with
 |bl hx=>exact .bl (hb _ hx)
 |nd hs _ ih=>exact .nd hs ih
theorem zhA{t:T}{p:U Int}{u:T}{x:U Int×Nat×T}:∀{k:Nat}{rs:U (T×T)},x∈stA t p u k rs->∃r∈rs,∃φ,mt [] r.1 u=some φ/\x.2.2=kJ t p (qA φ r.2)
 |_,[],h=>by simp[stA]at h
 |k,r::rs,h=>by
  rcases Qe.mp h with h|h
  ·grind
  ·let⟨r',hr',z⟩:=zhA h;exact⟨r',Ji _ hr',z⟩
structure zqb(ps:SI)(bs:U Str)(rs:U (T×T)):Prop where
 ok:zcU rs
 ru:∀r∈rs,r.1.isBl=false/\(∀x∈vs r.2,x∈vs r.1)/\WT ps bs r.1/\WT ps bs r.2
theorem zqh{ps:SI}{bs:U Str}{rs:U (T×T)}(R:zqb ps bs rs){t:T}(hw:WT ps bs t)(hz:t.size<=40){x:U Int×Nat×T}(h:x∈stL t rs (zQ [] t)):WT ps bs x.2.2/\x.2.2.depth<=2*t.depth+12/\x.2.2.size<=2000:=by
 let⟨q,hq,h⟩:=Wg.mp h;have hp:=zaX hq;let⟨r,hr,φ,e,ex⟩:=zhA h;have hs:=zpK r.1 q.2 [] φ e;have wq:=ziC _ _ _ hp hw;have dq:=zbl _ _ _ hp;have zq:=zal _ _ _ hp;have hv:=λv hv=>(hs v hv).elim (λz=>by cases z) id
 have h1:=R.ru r hr;have h2:=R.ok.rz r hr;rw[ex];have f1:=zfn (λv hv'=>(hv v hv').depth) r.2;have f2:=zcl (zby _) (λv hv'=>(hv v hv').size) r.2;have p1:=zeW q.1 t (qA φ r.2);have p2:=zgH q.1 t (qA φ r.2);refine⟨WT.put (WT.fill (λv hv'=>wq.sub (hv v hv')) h1.2.2.2) _ _ _ hp hw,by lia,?_⟩
 have:r.2.size*q.2.size<=40*40:=Nat.mul_le_mul h2.1 (by lia);lia
def ziz:(Str.ofString "abcdefghijklmnopqrstuvwxyz").cps.toList.Nodup:=by decide+kernel
theorem zkm{a b:Int}{c:Nat}(h1:atI (Str.ofString "abcdefghijklmnopqrstuvwxyz").cps.toList (a%26)=some c)(h2:atI (Str.ofString "abcdefghijklmnopqrstuvwxyz").cps.toList (b%26)=some c):a%26=b%26:=by
 have a0:0<=a%26:=JM _ (by decide);have a1:a%26<26:=Qp _ (by decide);have b0:0<=b%26:=JM _ (by decide);have b1:b%26<26:=Qp _ (by decide);rw[zfz a0 (by rw[alen];exact_mod_cast a1)]at h1;rw[zfz b0 (by rw[alen];exact_mod_cast b1)]at h2
 have:=(List.getElem?_inj (by rw[alen];simp[*]) ziz).mp (h1.trans h2.symm)
 (simp only[*]at*;lia)
theorem zcL(t:T):t.depth<=t.size:=by
 have key:∀n (t:T),t.size<=n->t.depth<=t.size:=by
  intro n;induction n with
  |zero=>grind [zby]
  |succ n ih=>
   intro t h;cases t with
   |bl x=>simp[T.depth,T.size]
   |nd s ts=>
    rw[T.size]at h
    have:∀l:U T,T.sizes l<=n->T.depths l<=T.sizes l:=by
     intro l;induction l with
     |nil=>simp[T.depths]
     |cons t l ihl=>grind [T.sizes.eq_2,T.depths.eq_2]
    have:=this ts (by lia);rw[T.depth,T.size];simp[*]
 exact key _ t (Jf _)
def lows:U Nat:=(Str.ofString "abcdefghijklmnopqrstuvwxyz").cps.toList
def ziG(x:Str):Prop:=∀c∈x.cps.toList,c∈lows
def Lo(x:Str):Prop:=1<=x.length/\ziG x
def zsW{a b:Str}(h:ziG a)(k:ziG b):ziG (a++b):=λc hc=>by
 have e:(a++b).cps.toList=a.cps.toList++b.cps.toList:=by show(a.cps++b.cps).toList=_;simp
 rw[e]at hc;rcases Qe.mp hc with z|z
 ·exact h c z
 ·exact k c z
def zsV{n:Int}{c:Nat}(h:atI (Str.ofString "abcdefghijklmnopqrstuvwxyz").cps.toList n=some c):ziG ⟨#[c]⟩:=λb hb=>by
 have:b=c:=by simpa using hb
 subst this;unfold atI at h;cases e:ixN (Str.ofString "abcdefghijklmnopqrstuvwxyz").cps.toList.length n with
 |none=>grind
 |some j=>rw[e]at h;exact List.mem_of_getElem? h
mutual
def sg:T->U Str
 | .bl _=>[]
 | .nd s ts=>s::sgL ts
def sgL:U T->U Str
 |[]=>[]
 |t::r=>sg t++sgL r
end
theorem zlh:∀a b:U T,sgL (a++b)=sgL a++sgL b
 |[],b=>by simp[sgL]
 |t::a,b=>by rw[JC,sgL,sgL,zlh a b,Jx]
def zjR(ts:U T)(i:Nat):T.sizes (ts.take i)<=T.sizes ts:=by grind [zaa,List.take_append_drop]
def WP(n0:Int)(a k:Nat)(x:Str):Prop:=ziG x/\∃cc,atI (Str.ofString "abcdefghijklmnopqrstuvwxyz").cps.toList ((n0/((a:Int)+3)+(a:Int)*(a:Int)+(k:Int))%26)=some cc/\x.cps.toList[a]?=some cc
def zps{x:Str}{c:Nat}{i:Nat}:(x++⟨#[c]⟩).cps.toList[i]?=if i<x.length then x.cps.toList[i]? else if i=x.length then some c else none:=by
 have e:(x++⟨#[c]⟩).cps.toList=x.cps.toList++[c]:=by show(x.cps++#[c]).toList=_;simp
 have l:x.length=x.cps.toList.length:=by show x.cps.size=_;simp
 grind
def zoS(c n0:Int)(F:U D)(L a k:Nat)(hL:L<=8)(ha:a<L)(hk:k<4)(h0:0<=n0)(k8 k9:Option Sl):
  ∃(x:Str) (k8' k9':Option Sl),jT (gN 8) (zbp zI) (yS 0 L) [some (.dat (.int c)),some (.dat (.str "abcdefghijklmnopqrstuvwxyz")),some (.dat (.int n0)),some (.dat (.int L)),some (.dat (.int a)),some (.own (.lst F)),some (.dat (.int k)),some (.dat (.str "")),k8,k9]=
   some (.nx [some (.dat (.int c)),some (.dat (.str "abcdefghijklmnopqrstuvwxyz")),some (.dat (.int n0)),some (.dat (.int L)),some (.dat (.int a)),some (.own (.lst F)),some (.dat (.int k)),some (.dat (.str x)),k8',k9'])/\x.length=L/\WP n0 a k x:=by
 let⟨ρ',f1,x,k8',k9',rfl,h1,h2,h3⟩:=kP (g:=gN 8) (b:=zbp zI) (xs:=yS 0 L)
  (λi ρ=>∃(x:Str) (k8 k9:Option Sl),ρ=[some (.dat (.int c)),some (.dat (.str "abcdefghijklmnopqrstuvwxyz")),some (.dat (.int n0)),some (.dat (.int L)),some (.dat (.int a)),some (.own (.lst F)),some (.dat (.int k)),some (.dat (.str x)),k8,k9]/\x.length=min i L/\ziG x/\(a<i->∃cc,atI (Str.ofString "abcdefghijklmnopqrstuvwxyz").cps.toList ((n0/((a:Int)+3)+(a:Int)*(a:Int)+(k:Int))%26)=some cc/\x.cps.toList[a]?=some cc))
  ⟨"",k8,k9,rfl,by rw[elen];simp,by intro c hc;exact absurd hc (by decide+revert+kernel),λh=>by simp_all⟩ (by
   rintro i y ρ hy ⟨x,k8,k9,rfl,h1,h2,h3⟩;let⟨hi,rfl⟩:=zak hy;have i8:i<8:=by lia
   obtain⟨bb,hbb⟩:∃bb,decide (i=a)=bb:=⟨_,rfl⟩;have o3:zot (0+(i:Int)+3):=zca (by lia) (by lia);have o1:nQ (0+(i:Int)) (0+(i:Int)):=zfO (by exact Wu _) (by lia);have o2:nQ (if bb=true then 1 else 0) (k:Int):=zfO (by exact Wu _) (by lia);let⟨cc,hcc⟩:=zsX alen (n0/(0+(i:Int)+3)+(0+(i:Int))*(0+(i:Int))+(if bb=true then 1 else 0)*(k:Int));have hl:x.length+1<=1000000:=by grind
   have eb:eqB (.int (0+(i:Int))) (.int (a:Int))=some (.bl bb):=by
    have e:((0+(i:Int))==(a:Int))=decide (i=a):=by (simp[*];lia)
    have d:dep (.int (0+(i:Int)))<=100:=by simp[dep]
    unfold eqB;rw[if_pos d,eqD,e,hbb];rfl
   refine⟨[some (.dat (.int c)),some (.dat (.str "abcdefghijklmnopqrstuvwxyz")),some (.dat (.int n0)),some (.dat (.int L)),some (.dat (.int a)),some (.own (.lst F)),some (.dat (.int k)),some (.dat (.str (x++⟨#[cc]⟩))),some (.dat (.int (0+(i:Int)))),some (.dat (.int (n0/(0+(i:Int)+3)+(0+(i:Int))*(0+(i:Int))+(if bb=true then 1 else 0)*(k:Int))))],.inl ?_,x++⟨#[cc]⟩,_,_,rfl,by rw[zsY,len1];grind,zsW h2 (zsV hcc),λh=>?_⟩
   ·generalize (0+(i:Int))=I0 at*;simp[eb,o3,o1,o2,zva,hcc,len1,hl,qI,kZ,zF,qJ,setO,vQ,gB,zio,yX,zX,xA,ifM,upT,cT,cTr,truD,andP,orP,vL,andV,orV,c1,c2,cL,cS,zA,zC,cst,gv,gb,gN,qH,zM,qP,yB,kK,kR,jB,cI,cR1,cEnT,jN,itS,rng1,xM,extM,gH,zdT,zS,jF,nxM,xX,tyN,isiB,lim,wW,jC,vS,revX,revD,gE,zkk,qO,zZ,qK,zW,catD,gF,wL,xD,yM,powD,cmpI,geD,isB,zfj,intD,zlB,kI,wR,c3,zks,itS,Sl.own,inB,jQ,zca,zfP,zfN,nO,at0,at1,at2]
   ·by_cases e:a=i
    ·subst e;refine⟨cc,?_,?_⟩
     ·have:bb=true:=by rw[←hbb];simp
      subst this;simpa using hcc
     ·rw[zps,if_neg (by lia),if_pos (by lia)]
    ·let⟨c',e1,e2⟩:=h3 (by lia);refine⟨c',e1,?_⟩;rw[zps,if_pos (by grind)];exact e2)
 rw[vH]at h1 h3;exact⟨x,k8',k9',f1,by simp[*],h2,h3 ha⟩
def zmO(c:Int):∃(w0 w1 w2 w3:Str) (d3:Int),zcd [.int c]=some (.lst ([(w0,0),(w1,1),(w2,2),(w3,d3)].map sd))/\0<=d3/\d3<=3/\[w0,w1,w2,w3].Nodup/\∀x∈[w0,w1,w2,w3],Lo x/\x.length<=8:=by
 obtain⟨n0,e0⟩:∃n0:Int,c%2147483629=n0:=⟨_,rfl⟩;have h0:0<=n0:=by rw[←e0];exact JM _ (by decide)
 have m0:0<=n0%8:=JM _ (by decide);have m1:n0%8<8:=Qp _ (by decide);obtain⟨L,eL⟩:∃L:Nat,1+n0%8=(L:Int):=⟨(1+n0%8).toNat,by exact(Int.toNat_of_nonneg (by lia)).symm⟩;have a0:0<=n0/8%(L:Int):=JM _ (by lia);have a1:n0/8%(L:Int)<(L:Int):=Qp _ (by lia);obtain⟨a,ea⟩:∃a:Nat,n0/8%(L:Int)=(a:Int):=⟨(n0/8%(L:Int)).toNat,by lia⟩;have q0:0<=n0/64%4:=JM _ (by decide);have q1:n0/64%4<4:=Qp _ (by decide);obtain⟨d3,e3⟩:∃d3:Int,n0/64%4=d3:=⟨_,rfl⟩;have omL:zhS (L:Int):=by show(0:Int)<_;lia
 have orL:zhR (L:Int):=nO (by simp) (by lia);have zL:L<=1000000:=by lia
 let⟨ρ',f1,F,k6,k7,k8,k9,rfl,hl,hF⟩:=kP (g:=gN 6) (b:=zda zI) (xs:=yS 0 4) (ρ:=[some (.dat (.int c)),some (.dat (.str "abcdefghijklmnopqrstuvwxyz")),some (.dat (.int n0)),some (.dat (.int L)),some (.dat (.int a)),some (.own (.lst [])),none,none,none,none])
  (λi ρ=>∃(F:SI) (k6 k7 k8 k9:Option Sl),ρ=[some (.dat (.int c)),some (.dat (.str "abcdefghijklmnopqrstuvwxyz")),some (.dat (.int n0)),some (.dat (.int L)),some (.dat (.int a)),some (.own (.lst (F.map sd))),k6,k7,k8,k9]/\F.length=i/\∀j p,F[j]?=some p->(p.1.length=L/\WP n0 a j p.1)/\[0,1,2,d3][j]?=some p.2)
  ⟨[],none,none,none,none,rfl,rfl,λj p h=>by simp at h⟩ (by
   rintro i y ρ hy ⟨F,k6,k7,k8,k9,rfl,hl,hF⟩;let⟨hi,rfl⟩:=zak hy;let⟨x,k8',k9',g1,g2,g3⟩:=zoS c n0 (F.map sd) L a i (by lia) (by simp_all) hi h0 k8 k9;obtain⟨v,ev⟩:∃v:Int,[0,1,2,d3][i]?=some v:=⟨_,List.getElem?_eq_getElem (by simpa using hi)⟩;have av:atI [D.int 0,.int 1,.int 2,.int d3] (i:Int)=some (.int v):=by have:[D.int 0,.int 1,.int 2,.int d3]=[0,1,2,d3].map D.int:=rfl;rw[this,zgp,gA ev];rfl
   have fl:F.length<1000000:=by lia
   rw[Int.zero_add];refine⟨[some (.dat (.int c)),some (.dat (.str "abcdefghijklmnopqrstuvwxyz")),some (.dat (.int n0)),some (.dat (.int L)),some (.dat (.int a)),some (.own (.lst ((F++[(x,v)]).map sd))),some (.dat (.int i)),some (.dat (.str x)),k8',k9'],.inl ?_,F++[(x,v)],_,_,_,_,rfl,by simp[hl],λj p h=>?_⟩
   ·simp only[Sl.own]at g1
    dsimp! [orL,zL,vH,g1,e3,av,fl,sd]
   ·rw[List.getElem?_append]at h;split at h
    ·exact hF j p h
    ·rename_i hj
     have:j=i:=by have:=(List.getElem?_eq_some_iff.mp h).1;simp at this;grind
     subst this;rw[hl,Nat.sub_self]at h;cases h
     exact⟨⟨g2,g3⟩,ev⟩)
 rw[vH]at hl
 match F,hl,hF,f1 with
 |[p0,p1,p2,p3],_,hF,f1=>
  let⟨⟨l0,u0⟩,v0⟩:=hF 0 p0 rfl;let⟨⟨l1,u1⟩,v1⟩:=hF 1 p1 rfl;let⟨⟨l2,u2⟩,v2⟩:=hF 2 p2 rfl;let⟨⟨l3,u3⟩,v3⟩:=hF 3 p3 rfl;let⟨w0,x0⟩:=p0;let⟨w1,x1⟩:=p1;let⟨w2,x2⟩:=p2;let⟨w3,x3⟩:=p3;simp only at*;cases v0;cases v1;cases v2;cases v3
  have ne:∀(i j:Nat) (x:Str),i<4->j<4->WP n0 a i x->WP n0 a j x->i=j:=by rintro i j x hi hj ⟨_,c1,a1,b1⟩ ⟨_,c2,a2,b2⟩;grind [zkm]
  refine⟨w0,w1,w2,w3,d3,?_,by simp_all,by lia,?_,?_⟩
  ·simp only[Sl.own]at f1;have o8:zhS (8:Int):=by show(0:Int)<_;decide
   dsimp! [zcd,e0,eL,omL,ea,f1]
  ·grind
  ·intro x hx;simp at hx;rcases hx with rfl|rfl|rfl|rfl
   ·exact⟨⟨by lia,u0.1⟩,by(simp[*];lia)⟩
   ·exact⟨⟨by lia,u1.1⟩,by(simp[*];lia)⟩
   ·exact⟨⟨by lia,u2.1⟩,by(simp[*];lia)⟩
   ·exact⟨⟨by lia,u3.1⟩,by(simp[*];lia)⟩
def zfp(c:Int)(h:Builtin.Int.intBits c<=2^20):∃n:Int,zat [.int c]=some (.int n)/\0<=n:=by
 have ok:nQ (c/3) 27182818284590452353602874713526624977572470936999595749669:=.inr ⟨intBits_le_of_natAbs (by lia) h,by decide+kernel⟩;by_cases e:c%3=0
 ·exact⟨c/3%10^60,by dsimp! [zat,e,eqD,dep],JM _ (by decide)⟩
 ·exact⟨c/3*27182818284590452353602874713526624977572470936999595749669%10^60,by dsimp! [zat,e,ok,eqD,dep],JM _ (by decide)⟩
theorem zbw{α:Type}{h k:α->D}{P:α->Bool}{g:D->EO En}{t:EO Bool}{f:EO D}{ρ:En}:∀{L:List α},(∀x∈L,∃ρ1,g (h x) ρ=some ρ1/\t ρ1=some (P x)/\(P x=true->f ρ1=some (k x)))->jH g t f ρ (L.map h)=some ((L.filter P).map k)
 |[],_=>by simp[jH]
 |x::L,H=>by
  let⟨ρ1,e1,e2,e3⟩:=H x (by simp);have ih:=zbw (L:=L) λy hy=>H y (Ji _ hy)
  rw[Jd,List.filter_cons];cases e:P x with
  |true=>rw[e]at e2;simp[jH,e1,e2,e3 e,ih]
  |false=>rw[e]at e2;simp[jH,e1,e2,ih]
def Out(fl:Fl):Prop:=(∃d ρ',fl=.rt d ρ')\/∃c d ρ',fl=.rs c d ρ'
theorem zdB{α:Type}{h:α->D}{p:α->Bool}{g:D->EO En}{b:EO Fl}(W:List α)(R:α->Fl->Prop)(I:List α->En->Prop)(hs:∀K x M ρ,W=K++x::M->I K ρ->if p x=true then∃fl,(g (h x) ρ).bind b=some fl/\R x fl/\Out fl else∃ρ',(g (h x) ρ).bind b=some (.nx ρ')/\I (K++[x]) ρ'):∀(L K:List α) (ρ:En),W=K++L->I K ρ->
  match L.find? p with
  |some x=>∃fl,jT g b (L.map h) ρ=some fl/\R x fl/\Out fl
  |none=>∃ρ',jT g b (L.map h) ρ=some (.nx ρ')/\I W ρ'
 |[],K,ρ,hw,i=>by rw[JL]at hw;subst hw;simp only[List.find?_nil];exact⟨ρ,rfl,i⟩
 |x::L,K,ρ,hw,i=>by
  have h1:=hs K x L ρ hw i;by_cases hp:p x=true
  ·rw[if_pos hp]at h1;let⟨fl,e1,r1,o⟩:=h1;simp only[List.find?_cons,hp];refine⟨fl,?_,r1,o⟩;cases e:g (h x) ρ with
   |none=>rw[e]at e1;cases e1
   |some ρ1=>
    rw[e]at e1;have e1:b ρ1=some fl:=e1;rcases o with⟨d,ρ',rfl⟩|⟨c,d,ρ',rfl⟩<;>simp only[List.map_cons,jT,e,e1]
  ·rw[if_neg hp]at h1;let⟨ρ',e1,i1⟩:=h1;have hp':p x=false:=by simpa using hp
   simp only[List.find?_cons,hp'];have ih:=zdB W R I hs L (K++[x]) ρ' (by rw[hw,Jx];rfl) i1;have ef:jT g b ((x::L).map h) ρ=jT g b (L.map h) ρ':=by
    cases e:g (h x) ρ with
    |none=>rw[e]at e1;cases e1
    |some ρ1=>
     rw[e]at e1;have e1:b ρ1=some (.nx ρ'):=e1;simp only[List.map_cons,jT,e,e1]
   rw[ef];exact ih
theorem zmq{a b:Str}:ltS a b=false↔leS b a:=by rw[zbP];unfold ltS;simp
theorem zly:∀{l:U Str},l.Pairwise leS->sortedS l=true
 |[],_=>rfl
 |x::r,h=>by
  show risingS x r=true;induction r generalizing x with
  |nil=>rfl
  |cons y r ih=>
   rw[List.pairwise_cons]at h;show(!ltCps y.cps.toList x.cps.toList&&risingS y r)=true;have e:ltCps y.cps.toList x.cps.toList=false:=h.1 y (by simp);rw[e,ih y h.2];rfl
theorem zmw(a b:Str):leS a b\/leS b a:=by rw[zbP,zbP];exact List.le_total _ _
def zcw(L:U Str):(zhC L).Perm L/\(zhC L).Pairwise leS:=by
 have ex:∃ss:U Str,ss.Perm L/\ss.Pairwise leS:=by
  refine⟨L.mergeSort λa b=>!ltS b a,List.mergeSort_perm _ _,?_⟩
  have:=List.pairwise_mergeSort (le:=λa b=>!ltS b a) (λa b c h1 h2=>by
   grind [zmq,zgU]) (λa b=>by
   grind [zmw,zmq]) L
  exact this.imp λh=>zmq.mp (by simpa using h)
 grind [ziN,zly]
def zbz(l:U Str):(TS.setOf l).Nodup/\∀x,x∈TS.setOf l↔x∈l:=by
 have key:∀(l L:U Str),L.Nodup->(l.foldl TS.addT L).Nodup/\∀x,x∈l.foldl TS.addT L↔x∈L\/x∈l:=by
  intro l;induction l with
  |nil=>intro L h;exact⟨h,λx=>by simp⟩
  |cons y l ih=>
   intro L h;let⟨a,b⟩:=ih (TS.addT L y) (TS.addT_nodup h);refine⟨a,λx=>(b x).trans ?_⟩;unfold TS.addT;split
   ·rename_i hy;simp only[List.mem_cons];constructor
    ·rintro(h|h)
     ·exact .inl h
     ·exact .inr (.inr h)
    ·rintro(h|rfl|h)
     ·exact .inl h
     ·exact .inl hy
     ·exact .inr h
   ·simp only[List.mem_append,List.mem_singleton,List.mem_cons,List.not_mem_nil,or_false];constructor
    ·rintro((h|h)|h)
     ·exact .inl h
     ·exact .inr (.inl h)
     ·exact .inr (.inr h)
    ·rintro(h|h|h)
     ·exact .inl (.inl h)
     ·exact .inl (.inr h)
     ·exact .inr h
 simp[TS.setOf, *]
noncomputable def yZ:Nat->Nat
 |0=>1
 |k+1=>1+3*yZ k
def znH:∀k,1<=yZ k
 |0=>by simp[yZ]
 |k+1=>by rw[yZ];simp
theorem zdC{ps:SI}(S:zgq ps)(bs:U Str)(hb:bs.length<=100):∀(f nest:Nat) (n:Int),nest<f->nest<=20->0<=n->
  ∃(t:T) (n':Int),nU f [.int n,.int nest,.lst (ps.map sd),.lst (bs.map D.str)]=some (.lst [t.d,.int n'])/\0<=n'/\WT ps bs t/\t.depth<=nest+1/\t.size<=yZ nest
 |0,nest,n,h,_,_=>by simp_all
 |f+1,nest,n,hf,h20,hn=>by
  have lo:=S.lo;have hi:=S.hi;obtain⟨m,em⟩:∃m:Nat,m=ps.length+bs.length:=⟨_,rfl⟩;have em':(ps.length:Int)+(bs.length:Int)=(m:Int):=by simp[*]
  have q0:0<=n%(m:Int):=JM _ (by lia);have q1:n%(m:Int)<(m:Int):=Qp _ (by(simp at*;lia));have d0:0<=n/(m:Int):=Int.ediv_nonneg hn (by simp);have om:zhS (m:Int):=by show(0:Int)<_;(simp at*;lia)
  have od:zot (m:Int):=zca (by trivial) (by lia);obtain⟨k,ek⟩:∃k:Nat,n%(m:Int)=(k:Int):=⟨(n%(m:Int)).toNat,by lia⟩;have zp:ps.length<=1000000:=by lia
  have zb:bs.length<=1000000:=by lia
  obtain⟨n1,en1⟩:∃n1,n/(m:Int)=n1:=⟨_,rfl⟩;rw[en1]at d0;have lp:(ps.map sd).length=ps.length:=Jc _;have lb:(bs.map D.str).length=bs.length:=Jc _;by_cases hk:k<bs.length
  ·obtain⟨x,ex⟩:∃x,bs[k]?=some x:=⟨_,List.getElem?_eq_getElem hk⟩;have ax:atI (bs.map D.str) (k:Int)=some (.str x):=by rw[zgp,gA ex];rfl
   have lt:(k:Int)<(bs.length:Int):=by simp[*]
   refine⟨.bl x,n1,?_,d0,.bl (List.mem_of_getElem? ex),by simp[T.depth],by rw[T.size];exact znH _⟩;generalize ps.map sd=PS at lp ⊢;generalize bs.map D.str=BS at ax lb ⊢
   dsimp! [nU,lp,lb,zp,zb,em',om,od,ek,en1,lt,ltD,ax,jP]
  ·obtain⟨j,ej⟩:∃j:Nat,j=k - bs.length:=⟨_,rfl⟩;have jl:j<ps.length:=by grind
   have ej':(k:Int) - (bs.length:Int)=(j:Int):=by grind
   obtain⟨⟨w,c⟩,ew⟩:∃p,ps[j]?=some p:=⟨_,List.getElem?_eq_getElem jl⟩;have wm:=List.mem_of_getElem? ew;have aw:atI (ps.map sd) (j:Int)=some (.tup [.str w,.int c]):=by rw[zgp,gA ew];rfl
   let⟨hc0,hc3⟩:=S.cnt _ wm;simp only at hc0 hc3;have lt:¬(k:Int)<(bs.length:Int):=by simp[*]
   obtain⟨⟨w0,c0⟩,ew0⟩:∃p,ps[0]?=some p:=⟨_,List.getElem?_eq_getElem (by exact Qi ‹_›)⟩;have hc00:=S.fst _ ew0;simp only at hc00;subst hc00;have aw0:atI (ps.map sd) 0=some (.tup [.str w0,.int 0]):=by rw[zgp,show atI ps 0=atI ps ((0:Nat):Int)from rfl,gA ew0];rfl
   by_cases hz:nest=0/\0<c
   ·let⟨rfl,hcp⟩:=hz;refine⟨.nd w0 [],n1,?_,d0,.nd (List.mem_of_getElem? ew0) (λ_ h=>by cases h),by simp[T.depth,T.depths],by simp[T.size,T.sizes,yZ]⟩;generalize ps.map sd=PS at lp aw aw0 ⊢;generalize bs.map D.str=BS at lb ⊢
    dsimp! [nU,lp,lb,zp,zb,em',om,od,ek,en1,lt,ltD,gtD,ej',aw,hcp,aw0,qX,eqD,dep]
   ·obtain⟨cN,ec⟩:∃cN:Nat,c=(cN:Int):=⟨c.toNat,by lia⟩;subst ec;have orc:zhR (cN:Int):=nO (by simp) (by lia);have zc:cN<=1000000:=by lia
    have cd:¬((nest:Int)=0/\0<(cN:Int)):=λh=>hz ⟨by simp_all,h.2⟩
    let⟨ρ',f1,ts,n2,k9,k10,rfl,t1,t2,t3⟩:=kP (g:=gN 9) (b:=zeh (nU f) zI) (xs:=yS 0 cN) (ρ:=[some (.dat (.int n1)),some (.dat (.int nest)),some (.dat (.lst (ps.map sd))),some (.dat (.lst (bs.map D.str))),some (.dat (.int m)),some (.dat (.int k)),some (.dat (.str w)),some (.dat (.int cN)),some (.own (.lst [])),none,none])
     (λi ρ=>∃(ts:U T) (n2:Int) (k9 k10:Option Sl),ρ=[some (.dat (.int n2)),some (.dat (.int nest)),some (.dat (.lst (ps.map sd))),some (.dat (.lst (bs.map D.str))),some (.dat (.int m)),some (.dat (.int k)),some (.dat (.str w)),some (.dat (.int cN)),some (.own (.lst (ts.map T.d))),k9,k10]/\ts.length=i/\0<=n2/\∀t∈ts,WT ps bs t/\t.depth<=nest/\t.size<=yZ (nest - 1)) ⟨[],n1,none,none,rfl,rfl,d0,λt h=>by cases h⟩ (by
      rintro i y ρ hy ⟨ts,n2,k9,k10,rfl,t1,t2,t3⟩;let⟨hi',rfl⟩:=zak hy;have np:1<=nest:=by (simp at*;lia)
      let⟨t,n',e1,e2,e3,e4,e5⟩:=zdC S bs hb f (nest - 1) n2 (by lia) (by(simp[*];lia)) t2;have en:(nest:Int) - 1=((nest - 1:Nat):Int):=by grind
      have tl:ts.length<1000000:=by lia
      refine⟨[some (.dat (.int n')),some (.dat (.int nest)),some (.dat (.lst (ps.map sd))),some (.dat (.lst (bs.map D.str))),some (.dat (.int m)),some (.dat (.int k)),some (.dat (.str w)),some (.dat (.int cN)),some (.own (.lst ((ts++[t]).map T.d))),some (.dat (.int (0+(i:Int)))),some (.dat t.d)],.inl ?_,ts++[t],n',_,_,rfl,by simp[t1],e2,λu hu=>?_⟩
      ·dsimp! [en,e1,xY,tl]
      ·rcases Qe.mp hu with h|h
       ·exact t3 u h
       ·rw[Je.mp h];exact⟨e3,by simp_all,e5⟩)
    rw[vH]at t1;have szs:T.sizes ts<=cN*yZ (nest - 1):=by
     have:∀l:U T,(∀t∈l,t.size<=yZ (nest - 1))->T.sizes l<=l.length*yZ (nest - 1):=by
      intro l;induction l with
      |nil=>intro _;simp[T.sizes]
      |cons u l ih=>intro h;rw[T.sizes,JA,Nat.succ_mul];have:=ih λv hv=>h v (Ji _ hv);have:=h u (by simp);lia
     have:=this ts λt h=>(t3 t h).2.2
     rwa[t1]at this
    have dps:T.depths ts<=nest:=by
     have:∀l:U T,(∀t∈l,t.depth<=nest)->T.depths l<=nest:=by
      intro l;induction l with
      |nil=>intro _;simp[T.depths]
      |cons u l ih=>grind [T.depths.eq_2]
     exact this ts λt h=>(t3 t h).2.1
    refine⟨.nd w ts,n2,?_,t2,.nd (by rw[t1];exact wm) λt h=>(t3 t h).1,by rw[T.depth];simp+arith [*],?_⟩
    ·have zt:1+ts.length<=1000000:=by lia
     have tl2:(ts.map T.d).length=ts.length:=Jc _;simp only[Sl.own]at f1;rw[qX];generalize ps.map sd=PS at lp aw aw0 f1 ⊢;generalize bs.map D.str=BS at lb f1 ⊢;generalize ts.map T.d=TS at f1 tl2 ⊢;by_cases h0:(nest:Int)=0
     ·have h0':¬0<cN:=λh=>cd ⟨h0,by simp[*]⟩
      rw[h0]at f1
      dsimp! [nU,lp,lb,zp,zb,em',om,od,ek,en1,lt,ltD,gtD,ej',aw,h0,h0',orc,zc,vH,f1,tl2,zt,eqD,dep]
     ·have h00:¬nest=0:=λh=>h0 (by simp[*])
      dsimp! [nU,lp,lb,zp,zb,em',om,od,ek,en1,lt,ltD,gtD,ej',aw,h0,h00,orc,zc,vH,f1,tl2,zt,eqD,dep]
    ·rw[T.size];rcases Nat.eq_zero_or_pos nest with h|h
     ·simp_all[yZ]
     ·obtain⟨q,rfl⟩:∃q,nest=q+1:=⟨nest - 1,by lia⟩;rw[yZ]
      have:cN*yZ (q+1 - 1)<=3*yZ q:=Nat.mul_le_mul_right _ (by exact Int.ofNat_le.mp ‹_›)
      (simp at*;lia)
mutual
theorem zpW:∀t:T,(bks t).Nodup
 | .bl x=>by simp[bks]
 | .nd s ts=>by rw[bks];exact znl ts [] (by simp)
theorem znl:∀(ts:U T) (p7:U Str),p7.Nodup->(kB p7 ts).Nodup
 |[],p7,h=>by rw[kB];exact h
 |t::ts,p7,h=>by
  rw[kB];refine znl ts _ ?_;rw[Wv];refine⟨h,(zpW t).sublist List.filter_sublist,λa ha b hb=>?_⟩;rintro rfl
  have:=(Wj.mp hb).2;simp[ha]at this
end
theorem zcK:∀(n:Nat) (t:T),t.depth<=n->t.size<=900000->zad n [t.d]=some (.lst ((bks t).map D.str))
 |0,t,h,_=>by have:=zbv t;simp_all
 |n+1,.bl x,h,_=>by dsimp! [zad,jP,bks]
 |n+1,.nd s ts,h,hz=>by
  rw[T.depth]at h;rw[T.size]at hz;let⟨ρ',f1,k2,k3,rfl⟩:=kP (g:=gN 2) (b:=zci (zad n) zI) (xs:=ts.map T.d) (ρ:=[some (.dat (.tup (.str s::ts.map T.d))),some (.own (.lst [])),none,none])
   (λi ρ=>∃(k2 k3:Option Sl),ρ=[some (.dat (.tup (.str s::ts.map T.d))),some (.own (.lst ((kB [] (ts.take i)).map D.str))),k2,k3]) ⟨none,none,by simp[kB]⟩ (by
    rintro i x ρ hx ⟨k2,k3,rfl⟩;rw[List.getElem?_map]at hx;cases e:ts[i]? with
    |none=>rw[e]at hx;cases hx
    |some t=>
     rw[e]at hx;cases hx
     have hi:i<ts.length:=(List.getElem?_eq_some_iff.mp e).1;have et:ts[i]=t:=by simp_all
     have hm:=List.mem_of_getElem? e;have d1:=vP hm;have d2:=xF hm;have e1:=zcK n t (by lia) (by lia);have tk:ts.take (i+1)=ts.take i++[t]:=by simp[List.take_succ_eq_append_getElem, *]
     have e5:kB [] (ts.take (i+1))=kB [] (ts.take i)++(bks t).filter λx=>!decide (x∈kB [] (ts.take i)):=by
      have app:∀(a b:U T) (l:U Str),kB l (a++b)=kB (kB l a) b:=by
       intro a;induction a with
       |nil=>intro b l;simp[kB]
       |cons c a ih=>simp[kB.eq_2, *]
      rw[tk,app,kB,kB]
     have l1:=zgn (ts.take i) [];have e6:T.sizes (ts.take i)+t.size<=T.sizes ts:=by
      have:T.sizes ts=T.sizes (ts.take (i+1))+T.sizes (ts.drop (i+1)):=by rw[←zaa,Ql]
      rw[tk,zaa]at this;simp only[T.sizes]at this;simp[*]
     have l2:=zix t;have nd:=zpW t;rw[e5];generalize kB [] (ts.take i)=p7 at l1 ⊢;simp only[List.length_nil,Nat.zero_add]at l1;generalize bks t=B at*;let⟨ρ2,f2,k3',rfl⟩:=kP (g:=gN 3) (b:=zcj (zad n) zI) (xs:=B.map D.str) (ρ:=[some (.dat (.tup (.str s::ts.map T.d))),some (.own (.lst (p7.map D.str))),some (.dat t.d),k3])
      (λj ρ=>∃(k3:Option Sl),ρ=[some (.dat (.tup (.str s::ts.map T.d))),some (.own (.lst ((p7++(B.take j).filter λx=>!decide (x∈p7)).map D.str))),some (.dat t.d),k3]) ⟨k3,by simp⟩ (by
       rintro j y ρ hy ⟨k3,rfl⟩;rw[List.getElem?_map]at hy;cases ey:B[j]? with
       |none=>rw[ey]at hy;cases hy
       |some y=>
        rw[ey]at hy;cases hy
        have hj:j<B.length:=(List.getElem?_eq_some_iff.mp ey).1;have eyj:B[j]=y:=by simp_all
        have tkB:B.take (j+1)=B.take j++[y]:=by rw[Jl hj,eyj]
        have fr:y∉B.take j:=by
         intro hm;let⟨q,hq⟩:=Jw.mp hm;rw[List.getElem?_take]at hq;split at hq
         ·have:=(List.getElem?_inj hj nd).mp (ey.trans hq.symm);simp_all
         ·cases hq
        rw[tkB,List.filter_append];have tlB:(B.take j).length<=B.length:=by grind
        have mem:y∈p7++(B.take j).filter (λx=>!decide (x∈p7))↔y∈p7:=by grind
        have i1:=zcI y (p7++(B.take j).filter λx=>!decide (x∈p7));have dz:jY ((p7++(B.take j).filter λx=>!decide (x∈p7)).map D.str)<=100:=by grind [zco]
        have zl:(p7++(B.take j).filter λx=>!decide (x∈p7)).length<1000000:=by grind
        by_cases h:y∈p7
        ·have fe:[y].filter (λx=>!decide (x∈p7))=[]:=by simp[h]
         rw[fe,JL];rw[decide_eq_true (mem.mpr h)]at i1;generalize (p7++(B.take j).filter λx=>!decide (x∈p7))=AC at*;exact⟨[some (.dat (.tup (.str s::ts.map T.d))),some (.own (.lst (AC.map D.str))),some (.dat t.d),some (.dat (.str y))],.inl (by dsimp! [i1,dz]),_,rfl⟩
        ·have fe:[y].filter (λx=>!decide (x∈p7))=[y]:=by simp[h]
         rw[fe,←Jx];rw[decide_eq_false λz=>h (mem.mp z)]at i1;generalize (p7++(B.take j).filter λx=>!decide (x∈p7))=AC at*;exact⟨[some (.dat (.tup (.str s::ts.map T.d))),some (.own (.lst ((AC++[y]).map D.str))),some (.dat t.d),some (.dat (.str y))],.inl (by dsimp! [i1,dz,zl]),_,rfl⟩)
     rw[Jc,QC]at f2;simp only[Sl.own]at f2
     dsimp! [e1,f2])
  rw[Jc,QC]at f1;simp only[Sl.own]at f1
  dsimp! [zad,qX,gQ,f1,bks]
noncomputable def nT(w0 f g:Str):U (T×T):=
 let a:T:=.nd w0 [];let X:T:=.bl "X";let Y:T:=.bl "Y";let Z:T:=.bl "Z"
 [(.nd g [.nd g [X,Y],Z],.nd g [X,.nd g [Y,Z]]),(.nd g [a,X],X),(.nd g [X,a],X),(.nd f [.nd f [X]],X),(.nd f [a],a),(.nd f [.nd g [X,Y]],.nd g [.nd f [Y],.nd f [X]]),
  (.nd g [.nd f [X],X],a),(.nd f [.nd f [X]],.nd f [X]),(.nd g [X,X],X),(.nd g [.nd f [X],Y],.nd f [.nd g [X,Y]]),(.nd g [X,.nd f [Y]],.nd f [.nd g [X,Y]]),(.nd f [.nd g [X,Y]],Y),(.nd g [.nd g [X,Y],Y],X),(.nd f [X],.nd g [X,a])]
structure Ru(ps:SI)(bs:U Str)(r:T×T):Prop where
 nbl:r.1.isBl=false
 vs:∀x∈vs r.2,x∈vs r.1
 w1:WT ps bs r.1
 w2:WT ps bs r.2
 z1:r.1.size<=12
 z2:r.2.size<=5
 d1:r.1.depth<=3
 b1:∃V:U Str,V.length<=3/\∀x∈FL.vs r.1,x∈V
noncomputable def bl5:U Str:=["A","B","X","Y","Z"]
def zqR(w0 f g w3:Str)(d3:Int):∀r∈nT w0 f g,Ru [(w0,0),(f,1),(g,2),(w3,d3)] bl5 r:=by
 have wa:WT [(w0,0),(f,1),(g,2),(w3,d3)] bl5 (.nd w0 []):=.nd (by simp) (λ_ h=>by cases h);have wX:WT [(w0,0),(f,1),(g,2),(w3,d3)] bl5 (.bl "X"):=.bl (by simp[bl5]);have wY:WT [(w0,0),(f,1),(g,2),(w3,d3)] bl5 (.bl "Y"):=.bl (by simp[bl5]);have wZ:WT [(w0,0),(f,1),(g,2),(w3,d3)] bl5 (.bl "Z"):=.bl (by simp[bl5]);have wf:∀t,WT [(w0,0),(f,1),(g,2),(w3,d3)] bl5 t->WT [(w0,0),(f,1),(g,2),(w3,d3)] bl5 (.nd f [t]):=λt h=>.nd (by simp) (λu hu=>by simp_all)
 have wg:∀t u,WT [(w0,0),(f,1),(g,2),(w3,d3)] bl5 t->WT [(w0,0),(f,1),(g,2),(w3,d3)] bl5 u->WT [(w0,0),(f,1),(g,2),(w3,d3)] bl5 (.nd g [t,u]):=λt u h k=>.nd (by simp) (λv hv=>by simp at hv;rcases hv with rfl|rfl<;>assumption)
 intro r hr;simp only[nT,List.mem_cons,List.not_mem_nil,or_false]at hr;rcases hr with rfl|rfl|rfl|rfl|rfl|rfl|rfl|rfl|rfl|rfl|rfl|rfl|rfl|rfl;all_goals
  refine⟨rfl,by simp[vs,vsL],?_,?_,by simp[T.size,T.sizes],by simp[T.size,T.sizes],by simp[T.depth,T.depths],["X","Y","Z"],by simp,by simp[vs,vsL]⟩
 all_goals
  repeat' first|exact wa|exact wX|exact wY|exact wZ|apply wf|apply wg
def zoX(w0 f g w3:Str)(d3 p:Int):∃r∈nT w0 f g,zdx [.lst ([(w0,0),(f,1),(g,2),(w3,d3)].map sd),.int p]=some (rD r):=by
 obtain⟨k,ek⟩:∃k:Nat,p%14=(k:Int):=⟨(p%14).toNat,by exact(Int.toNat_of_nonneg (JM _ (by lia))).symm⟩;have kl:k<(nT w0 f g).length:=by simp[nT];lia
 obtain⟨r,er⟩:∃r,(nT w0 f g)[k]?=some r:=⟨_,List.getElem?_eq_getElem kl⟩;refine⟨r,List.mem_of_getElem? er,?_⟩;have al:atI ((nT w0 f g).map rD) (k:Int)=some (rD r):=by grind [gA]
 generalize rD r=RR at al ⊢;simp only[nT,rD,List.map_cons,List.map_nil,qX,jP]at al
 dsimp! [zdx,sd,ek,al]
def zoT(c:Int)(hc:Builtin.Int.intBits c<=2^20)(w0 f g w3:Str)(d3:Int)(S:zgq [(w0,0),(f,1),(g,2),(w3,d3)]):∃r:T×T,zba [.int c,.lst ([(w0,0),(f,1),(g,2),(w3,d3)].map sd)]=some (rD r)/\Ru [(w0,0),(f,1),(g,2),(w3,d3)] bl5 r:=by
 have q0:0<=c%3:=JM _ (by decide);by_cases h3:0<c%3
 ·let⟨r,hr,e⟩:=zoX w0 f g w3 d3 (c/3);refine⟨r,?_,zqR w0 f g w3 d3 r hr⟩;generalize [(w0,(0:Int)),(f,1),(g,2),(w3,d3)].map sd=PS at e ⊢
  dsimp! [zba,gtD,h3,e]
 ·have b3:Builtin.Int.intBits (c/3)<=2^20:=intBits_le_of_natAbs (by(simp at*;lia)) hc;let⟨n,en,n0⟩:=zfp (c/3) b3;let⟨l,n1,e1,n10,wl,dl,zl⟩:=zdC S ["A","B","X"] (by simp) 100 2 n (by simp) (by simp) n0
  replace e1:zaZ [.int n,.int 2,.lst ([(w0,0),(f,1),(g,2),(w3,d3)].map sd),.lst [.str "A",.str "B",.str "X"]]=some (.lst [l.d,.int n1]):=e1
  replace zl:l.size<=13:=by simpa[yZ]using zl
  have s0:0<=c/9%1000:=JM _ (by decide);obtain⟨l',el,hl1,hl2,hl3,hl4⟩:∃l':T,((l.isBl=true\/12<l.size)/\l'=.nd f [.bl "A"]\/¬(l.isBl=true\/12<l.size)/\l'=l)/\l'.isBl=false/\WT [(w0,0),(f,1),(g,2),(w3,d3)] ["A","B","X"] l'/\l'.size<=12/\l'.depth<=3:=by
   by_cases h:l.isBl=true\/12<l.size
   ·exact⟨_,.inl ⟨h,rfl⟩,rfl,.nd (by simp) (λu hu=>by rw[Je.mp hu];exact .bl (by simp)),by simp[T.size,T.sizes],by simp[T.depth,T.depths]⟩
   ·exact⟨_,.inr ⟨h,rfl⟩,by simpa using λz=>h (.inl z),wl,Nat.le_of_not_lt λz=>h (.inr z),dl⟩
  have bo:zaQ [l'.d]=some (.lst ((bks l').map D.str)):=zcK 100 l' (by lia) (by lia);have bl:=zix l';let⟨r,n2,e2,_,wr,dr,zr⟩:=zdC S (bks l') (by lia) 100 1 (n1+c/9%1000) (by simp) (by simp) (by lia)
  replace e2:zaZ [.int (n1+c/9%1000),.int 1,.lst ([(w0,0),(f,1),(g,2),(w3,d3)].map sd),.lst ((bks l').map D.str)]=some (.lst [r.d,.int n2]):=e2
  replace zr:r.size<=4:=by simpa[yZ]using zr
  have vr:∀x∈vs r,x∈vs l':=λx hx=>(zeF l').mp (ziB wr x hx)
  have b5:∀x∈(["A","B","X"]:U Str),x∈bl5:=by simp[bl5]
  refine⟨(l',r),?_,hl1,vr,hl2.mono b5,wr.mono λx hx=>b5 x (ziB hl2 x ((zeF l').mp hx)),hl3,by simp only;lia,hl4,["A","B","X"],by simp,ziB hl2⟩;have cn':zbn [l.d]=some (.int l.size):=zin 100 l (by lia) (by lia);have s1:atI ([(w0,(0:Int)),(f,1),(g,2),(w3,d3)].map sd) 1=some (.tup [.str f,.int 1]):=rfl;generalize [(w0,(0:Int)),(f,1),(g,2),(w3,d3)].map sd=PS at e1 e2 s1 ⊢;generalize (bks l').map D.str=BB at bo e2;rcases el with⟨h,rfl⟩|⟨h,rfl⟩
  ·simp only[qX,jP,List.map_cons,List.map_nil]at bo;cases l with
   |bl x=>
    rw[jP]at e1
    dsimp! [zba,gtD,h3,en,e1,xY,s1,bo,e2,rD,qX,jP]
   |nd s ts=>
    have hz:12<(T.nd s ts).size:=by simpa[T.isBl]using h
    have hz':(12:Int)<((T.nd s ts).size:Int):=by exact Int.ofNat_lt.mpr ‹_›
    rw[qX]at e1 cn';generalize (T.nd s ts).size=SZ at cn' hz hz'
    dsimp! [zba,gtD,h3,en,e1,xY,cn',hz,hz',s1,bo,e2,rD,qX,jP]
  ·cases l' with
   |bl x=>simp[T.isBl]at hl1
   |nd s ts=>
    have hz:¬12<(T.nd s ts).size:=λz=>h (.inr z)
    have hz':¬(12:Int)<((T.nd s ts).size:Int):=by lia
    rw[qX]at e1 cn' bo;rw[rD,qX];generalize (T.nd s ts).size=SZ at cn' hz hz'
    dsimp! [zba,gtD,h3,en,e1,xY,cn',hz,hz',bo,e2]
theorem zga(φ:Fil):∀(n:Nat) (t:T),t.depth<=n->t.size<=1000->(∀x∈vs t,∃u,jA φ x=some u)->zas n [t.d,jO φ]=some (qA φ t).d
 |0,t,h,_,_=>by have:=zbv t;simp_all
 |n+1,.bl x,h,_,hv=>by
  have ok:=zjw φ;have fv:=zjq x φ;let⟨u,hu⟩:=hv x (by simp[vs]);rw[hu]at fv;have hd:(qA φ (.bl x)).d=u.d:=by rw[qA,hu];rfl
  rw[hd]
  dsimp! [zas,jO,jP,ok,fv,kdK,vN]
 |n+1,.nd s ts,h,hz,hv=>by
  rw[T.depth]at h;rw[T.size]at hz;have kl:=xO ts;have hl:ts.length<=1000000:=by lia
  have w1:jH (gN 0) jB (zeB (zas n) zI) [none,some (.dat (jO φ))] (ts.map T.d)=some ((kG φ ts).map T.d):=by
   rw[zap];refine wV (by simp) λi x y hx hy=>?_
   rw[List.getElem?_map]at hx;rw[Jq,List.getElem?_map]at hy;cases e:ts[i]? with
   |none=>rw[e]at hx;cases hx
   |some t=>
    rw[e]at hx hy;cases hx;cases hy
    have hm:=List.mem_of_getElem? e;have d1:=vP hm;have d2:=xF hm;have e1:=zga φ n t (by lia) (by lia) λx hx=>hv x (by rw[vs,zkL];exact⟨t,hm,hx⟩)
    exact⟨_,rfl,rfl,by dsimp! [e1]⟩
  have fl:(kG φ ts).length=ts.length:=by rw[zap];simp
  have z1:1+ts.length<=1000000:=by lia
  rw[qA,qX,qX]
  dsimp! [zas,gQ,w1,hl,fl,z1]
def nm5:U Str:=["X","Y","A","Z","B"]
def U26:U Str:=(Str.ofString "ABCDEFGHIJKLMNOPQRSTUVWXYZ").cps.toList.map λc=>⟨#[c]⟩
def zrw:U26.length=26:=by decide+kernel
def ztP:U26.Nodup:=by decide+kernel
def nmF(ys:U Str):Fil:=nm5.zip (ys.map T.bl)
theorem zox{ys:U Str}{x y:Str}(h:nm5[ys.length]?=some x):nmF (ys++[y])=nmF ys++[(x,.bl y)]:=by
 have l:ys.length<5:=(List.getElem?_eq_some_iff.mp h).1
 match ys,l,h with
 |[],_,h=>cases h;rfl
 |[a],_,h=>cases h;rfl
 |[a,b],_,h=>cases h;rfl
 |[a,b,c],_,h=>cases h;rfl
 |[a,b,c,d],_,h=>cases h;rfl
 |a::b::c::d::e::r,l,_=>simp only[List.length_cons]at l;lia
def zpI:nm5.Nodup:=by decide+kernel
def zhg(r:T×T)(h1:r.1.size<=90)(h2:r.2.size<=90)(v1:∀x∈vs r.1,x∈bl5)(v2:∀x∈vs r.2,x∈bl5)(c:Int):
  ∃ys:U Str,ys.length=5/\ys.Nodup/\(∀y∈ys,y∈U26)/\zaA [rD r,.int c]=some (rD (qA (nmF ys) r.1,qA (nmF ys) r.2)):=by
 let⟨ρ',f1,L,ys,c',k4,rfl,q1,q2,q3,q4⟩:=kP (g:=gN 4) (b:=zbr zI) (xs:=nm5.map D.str) (ρ:=[some (.dat (rD r)),some (.dat (.int c)),some (.own (.lst (U26.map D.str))),some (.own (.dic [] [])),none])
  (λi ρ=>∃(L ys:U Str) (c':Int) (k4:Option Sl),ρ=[some (.dat (rD r)),some (.dat (.int c')),some (.own (.lst (L.map D.str))),some (.own (jO (nmF ys))),k4]/\L.length=26 - i/\ys.length=i/\(L++ys).Nodup/\∀y∈L++ys,y∈U26)
  ⟨U26,[],c,none,rfl,zrw,rfl,by simpa using ztP,by simp⟩ (by
   rintro i z ρ hz ⟨L,ys,c',k4,rfl,q1,q2,q3,q4⟩;rw[List.getElem?_map]at hz;cases ex:nm5[i]? with
   |none=>rw[ex]at hz;cases hz
   |some x=>
    rw[ex]at hz;cases hz
    have il:i<5:=(List.getElem?_eq_some_iff.mp ex).1;have p0:0<=c'%(L.length:Int):=JM _ (by lia);have p1:c'%(L.length:Int)<(L.length:Int):=Qp _ (by lia);obtain⟨j,ej⟩:∃j:Nat,c'%(L.length:Int)=(j:Int):=⟨(c'%(L.length:Int)).toNat,by lia⟩;have jl:j<L.length:=by simp_all
    obtain⟨y,ey⟩:∃y,L[j]?=some y:=⟨_,List.getElem?_eq_getElem jl⟩;have om:zhS (L.length:Int):=by show(0:Int)<_;lia
    have zL:L.length<=1000000:=by simp+arith [*]
    have si:seqIndex? (j:Int) L.length=some j:=by simp_all[StrLaws.seqIndex_nonneg]
    have b1:(j:Int)<9223372036854775808:=by grind
    have b2:-9223372036854775808<=(j:Int):=by simp
    have gy:(L.map D.str)[j]?=some (.str y):=by rw[List.getElem?_map,ey];rfl
    have er:(L.map D.str).eraseIdx j=(L.eraseIdx j).map D.str:=by rw[QG,QG,Jr,WG,List.map_drop]
    have nx:nm5[ys.length]?=some x:=by simp[*]
    have fn:jA (nmF ys) x=none:=by
     rw[zep];intro hm;unfold nmF at hm;let⟨p,hp,e⟩:=Jv.mp hm;let⟨k,hk⟩:=Jw.mp hp;rw[List.getElem?_zip_eq_some]at hk;have k1:=hk.1;have k2:=(List.getElem?_eq_some_iff.mp hk.2).1;rw[Jc]at k2;rw[e]at k1
     have:=(List.getElem?_inj (by simp[nm5];simp[*]) zpI).mp (nx.trans k1.symm);simp_all
    have pd:=zpz (nmF ys) x (.bl y);have pf:putF (nmF ys) x (.bl y)=nmF (ys++[y]):=by grind [zox,putF,zep]
    rw[pf,jP]at pd;have ok:=zjw (nmF ys);have kl:(fks (nmF ys)).length<1000000:=by grind [fks,nmF]
    have lm:(L.map D.str).length=L.length:=Jc _;refine⟨[some (.dat (rD r)),some (.dat (.int (c'/7+3))),some (.own (.lst ((L.eraseIdx j).map D.str))),some (.own (jO (nmF (ys++[y])))),some (.dat (.str x))],.inl ?_,L.eraseIdx j,ys++[y],_,_,rfl,by grind,by simp[q2],?_,?_⟩
    ·generalize L.map D.str=LL at gy er lm;rw[←er];simp only[jO]
     dsimp! [znX,lm,zL,om,ej,b1,b2,si,gy,kdK,ok,kl,pd]
    ·have pm:((L.eraseIdx j)++(ys++[y])).Perm (L++ys):=by
      have ey':L[j]=y:=by simp_all
      have h1:(y::L.eraseIdx j).Perm L:=by
       have e:L=L.take j++y::L.drop (j+1):=by rw[←ey'];simp
       rw[QG]
       conv=>rhs;rw[e]
       exact List.perm_middle.symm
      have:((L.eraseIdx j)++(ys++[y])).Perm (y::L.eraseIdx j++ys):=by rw[←Jx];exact List.perm_append_comm
      exact this.trans (h1.append_right ys)
     exact pm.nodup_iff.mpr q3
    grind [List.mem_of_mem_eraseIdx])
 have ys5:ys.length=5:=by rw[q2];rfl
 refine⟨ys,ys5,(Wv.mp q3).2.1,λy hy=>q4 y (Jj _ hy),?_⟩;have fv:∀x∈bl5,∃u,jA (nmF ys) x=some u:=by
  intro x hx;cases e:jA (nmF ys) x with
  |some u=>grind
  |none=>
   simp_all[zep,nm5,bl5,nmF,List.map_fst_zip]
 have t1:zcc [r.1.d,jO (nmF ys)]=some (qA (nmF ys) r.1).d:=zga _ 100 r.1 (by have:=zcL r.1;lia) (by lia) λx hx=>fv x (v1 x hx)
 have t2:zcc [r.2.d,jO (nmF ys)]=some (qA (nmF ys) r.2).d:=zga _ 100 r.2 (by have:=zcL r.2;lia) (by lia) λx hx=>fv x (v2 x hx)
 have ls:zms [.str "ABCDEFGHIJKLMNOPQRSTUVWXYZ"]=some (.lst (U26.map D.str)):=by
  have l:(Str.ofString "ABCDEFGHIJKLMNOPQRSTUVWXYZ").length<=lim:=by decide+kernel
  simp only[zms,if_pos l];unfold U26 zpw;rw[Jq];rfl
 have nmm:nm5.map D.str=[.str "X",.str "Y",.str "A",.str "Z",.str "B"]:=rfl;rw[nmm]at f1;simp only[Sl.own,jO]at f1 t1 t2;generalize U26.map D.str=UU at ls f1;simp only[rD]at f1 ⊢
 dsimp! [zaA,ls,f1,t1,t2]
mutual
theorem zdn{φ:Fil}{x:Str}:∀t:T,x∈vs (qA φ t)↔∃y∈vs t,x∈vs (qA φ (.bl y))
 | .bl z=>by simp[vs]
 | .nd s ts=>by rw[qA,vs,vs];exact zgu ts
theorem zgu{φ:Fil}{x:Str}:∀ts:U T,x∈vsL (kG φ ts)↔∃y∈vsL ts,x∈vs (qA φ (.bl y))
 |[]=>by simp[kG,vsL]
 |t::r=>by
  rw[kG,vsL,vsL,Qe,zdn t,zgu r];constructor
  ·rintro(⟨y,h1,h2⟩|⟨y,h1,h2⟩)
   ·exact⟨y,JP _ h1,h2⟩
   ·exact⟨y,Jj _ h1,h2⟩
  ·rintro⟨y,h1,h2⟩;rcases Qe.mp h1 with h|h
   ·exact .inl ⟨y,h,h2⟩
   ·exact .inr ⟨y,h,h2⟩
end
def WT.named{ps:SI}{bs us:U Str}{φ:Fil}(hφ:∀x∈bs,∃y∈us,jA φ x=some (.bl y)){t:T}(h:WT ps bs t):WT ps us (qA φ t):=by
 induction h with
 |bl h=>
  let⟨y,hy,e⟩:=hφ _ h;rw[qA,e];exact .bl hy
 |nd h hs ih=>
  rw[qA,zap];refine .nd (by simp[*]) λu hu=>?_
  grind
mutual
theorem zhj{φ:Fil}:∀t:T,(∀x∈vs t,∃y,qA φ (.bl x)=.bl y)->(qA φ t).depth=t.depth
 | .bl x,h=>by let⟨y,e⟩:=h x (by simp[vs]);rw[e];simp[T.depth]
 | .nd s ts,h=>by rw[qA,T.depth,T.depth,zfr ts (by rw[vs]at h;exact h)]
theorem zfr{φ:Fil}:∀ts:U T,(∀x∈vsL ts,∃y,qA φ (.bl x)=.bl y)->T.depths (kG φ ts)=T.depths ts
 |[],_=>by simp[kG]
 |t::r,h=>by rw[vsL]at h;rw[kG,T.depths,T.depths,zhj t λx hx=>h x (JP _ hx),zfr r λx hx=>h x (Jj _ hx)]
end
structure Rv(ps:SI)(r:T×T):Prop where
 nbl:r.1.isBl=false
 vs:∀x∈vs r.2,x∈vs r.1
 w1:WT ps U26 r.1
 w2:WT ps U26 r.2
 z1:r.1.size<=12
 z2:r.2.size<=5
 d1:r.1.depth<=3
 b1:∃V:U Str,V.length<=3/\∀x∈FL.vs r.1,x∈V
theorem Ru.named{ps:SI}{r:T×T}(h:Ru ps bl5 r){ys:U Str}(h5:ys.length=5)(hu:∀y∈ys,y∈U26):Rv ps (qA (nmF ys) r.1,qA (nmF ys) r.2):=by
 obtain⟨a,b,c,d,e,rfl⟩:∃a b c d e,ys=[a,b,c,d,e]:=by
  match ys,h5 with
  |[a,b,c,d,e],_=>exact⟨a,b,c,d,e,rfl⟩
 have hφ:∀x∈bl5,∃y∈U26,jA (nmF [a,b,c,d,e]) x=some (.bl y):=by
  intro x hx;simp only[bl5,List.mem_cons,List.not_mem_nil,or_false]at hx;have f:jA (nmF [a,b,c,d,e]) "X"=some (.bl a)/\jA (nmF [a,b,c,d,e]) "Y"=some (.bl b)/\jA (nmF [a,b,c,d,e]) "A"=some (.bl c)/\jA (nmF [a,b,c,d,e]) "Z"=some (.bl d)/\jA (nmF [a,b,c,d,e]) "B"=some (.bl e):=by have nd:((nmF [a,b,c,d,e]).map (·.1)).Nodup:=zpI;exact⟨zeo nd ("X",.bl a) (by simp[nmF,nm5]),zeo nd ("Y",.bl b) (by simp[nmF,nm5]),zeo nd ("A",.bl c) (by simp[nmF,nm5]),zeo nd ("Z",.bl d) (by simp[nmF,nm5]),zeo nd ("B",.bl e) (by simp[nmF,nm5])⟩
  grind
 have hm:∀p∈nmF [a,b,c,d,e],p.2.size<=1:=by intro p hp;simp only[nmF,nm5,List.map_cons,List.map_nil,List.zip_cons_cons,List.zip_nil_right,List.mem_cons,List.not_mem_nil,or_false]at hp;rcases hp with rfl|rfl|rfl|rfl|rfl<;>simp[T.size]
 have s1:=zcl (m:=1) (by simp) hm r.1;have s2:=zcl (m:=1) (by simp) hm r.2;have z1:=h.z1;have z2:=h.z2;refine⟨?_,λx hx=>?_,h.w1.named hφ,h.w2.named hφ,by simp only;exact Jp ‹_› (by simp[*]),by simp only;exact Jp ‹_› (by simp[*]),?_,?_⟩
 ·have:=h.nbl;cases e:r.1 with
  |bl x=>simp_all[T.isBl]
  |nd s ts=>simp[qA,T.isBl]
 ·let⟨y,h1,h2⟩:=(zdn r.2).mp hx;exact(zdn r.1).mpr ⟨y,h.vs y h1,h2⟩
 ·have:=h.d1;rw[zhj r.1 λx hx=>by let⟨y,_,e⟩:=hφ x (ziB h.w1 x hx);exact⟨y,zer e⟩];exact this
 ·let⟨V,v1,v2⟩:=h.b1;refine⟨V.map λx=>match qA (nmF [a,b,c,d,e]) (.bl x)with| .bl y=>y| .nd _ _=>x,by simpa using v1,λx hx=>?_⟩;let⟨y,h1,h2⟩:=(zdn r.1).mp hx;let⟨z,_,e⟩:=hφ y (ziB h.w1 y h1);refine Jv.mpr ⟨y,v2 y h1,?_⟩;rw[zer e]at h2 ⊢;simp[FL.vs]at h2;exact h2.symm
def zkl{ns:U Int}(h:ziF ns)(k:Int):Builtin.Int.intBits (cellOf ns k)<=2^20:=by
 unfold cellOf;rw[List.getD_eq_getElem?_getD];cases e:ns[k.toNat]? with
 |none=>simp[Builtin.Int.intBits]
 |some v=>exact h v (List.mem_of_getElem? e)
def zmP(ns:U Int)(hL:ziF ns)(most:Nat)(hm:most<=9):∃(w0 f g w3:Str) (d3:Int) (rs:U (T×T)),
  zbm [.scr ns,.int most]=some (.lst [.lst ([(w0,0),(f,1),(g,2),(w3,d3)].map sd),.lst (rs.map rD)])/\zgq [(w0,0),(f,1),(g,2),(w3,d3)]/\[w0,f,g,w3].Nodup/\(∀x∈[w0,f,g,w3],Lo x/\x.length<=8)/\rs.length<=most/\∀r∈rs,Rv [(w0,0),(f,1),(g,2),(w3,d3)] r:=by
 have c0:=zmT ns 0 (by simp);have c1':=zmT ns 1 (by simp);let⟨w0,f,g,w3,d3,es,h0,h3,hnd,hlo⟩:=zmO (cellOf ns 0);have S:zgq [(w0,0),(f,1),(g,2),(w3,d3)]:=by
  refine⟨by simp,by simp,λp hp=>?_,λp hp=>?_,λp hp=>?_⟩
  ·simp at hp;rcases hp with rfl|rfl|rfl|rfl<;>simp only<;>lia
  ·cases hp;rfl
  ·simp at hp;rcases hp with rfl|rfl|rfl|rfl
   ·have:=(hlo w0 (by simp)).2;simp only;lia
   ·have:=(hlo f (by simp)).2;simp only;lia
   ·have:=(hlo g (by simp)).2;simp only;lia
   ·have:=(hlo w3 (by simp)).2;simp only;lia
 have m0:0<=cellOf ns 1%(8*(most:Int)+1):=JM _ (by lia);have m1:cellOf ns 1%(8*(most:Int)+1)<8*(most:Int)+1:=Qp _ (by simp+arith);obtain⟨m,em⟩:∃m:Nat,(cellOf ns 1%(8*(most:Int)+1)+7)/8=(m:Int):=⟨((cellOf ns 1%(8*(most:Int)+1)+7)/8).toNat,by exact(Int.toNat_of_nonneg (by lia)).symm⟩;have ml:m<=most:=by lia
 have om:zhS (8*(most:Int)+1):=by show(0:Int)<_;simp+arith
 have ok8:nQ 8 (most:Int):=zfO (by exact Wu _) (by lia);have orm:zhR (m:Int):=nO (by simp) (by lia);have zm:m<=1000000:=by lia
 let⟨rs,r1,r2,r3⟩:=zgg rD (λ_ r=>Ru [(w0,0),(f,1),(g,2),(w3,d3)] bl5 r) (g:=gN 0) (f:=zdf zI) (ρ:=[none,some (.dat (.lst ([(w0,0),(f,1),(g,2),(w3,d3)].map sd))),some (.dat (.scr ns))]) (xs:=yS 0 m) 0 (by intro i x hx;let⟨hi,rfl⟩:=zak hx;rw[Int.zero_add];have ci:=zmT ns (2+(i:Int)) (by exact Wu _);let⟨r,e,hr⟩:=zoT (cellOf ns (2+(i:Int))) (zkl hL _) w0 f g w3 d3 S;generalize [(w0,(0:Int)),(f,1),(g,2),(w3,d3)].map sd=PS at e ⊢;exact⟨_,r,rfl,by dsimp! [ci,e],hr⟩)
 rw[vH]at r2;let⟨qs,s1,s2,s3⟩:=zgg rD (λ_ r=>Rv [(w0,0),(f,1),(g,2),(w3,d3)] r) (g:=gN 0) (f:=zde zI) (ρ:=[none,some (.dat (.lst (rs.map rD))),some (.dat (.scr ns))]) (xs:=yS 0 m) 0 (by
  intro i x hx;let⟨hi,rfl⟩:=zak hx;rw[Int.zero_add];obtain⟨r,er⟩:∃r,rs[i]?=some r:=⟨_,List.getElem?_eq_getElem (by simp[*])⟩;have ar:atI (rs.map rD) (i:Int)=some (rD r):=by grind [gA]
  have hr:=r3 i r er;have z1:=hr.z1;have z2:=hr.z2;have ok5:nQ 5 (i:Int):=zfO (by exact Wu _) (by lia);let⟨ys,y1,_,y3,y4⟩:=zhg r (by lia) (by lia) (λx hx=>ziB hr.w1 x hx) (λx hx=>ziB hr.w2 x hx) (cellOf ns 1/33+5*(i:Int));refine⟨_,(qA (nmF ys) r.1,qA (nmF ys) r.2),rfl,?_,hr.named y1 y3⟩;generalize rs.map rD=RS at ar ⊢
  dsimp! [ar,c1',ok5,y4])
 rw[vH]at s2;refine⟨w0,f,g,w3,d3,qs,?_,S,hnd,hlo,by simp[*],λr hr=>?_⟩
 ·generalize [(w0,(0:Int)),(f,1),(g,2),(w3,d3)].map sd=PS at es r1 ⊢;generalize rs.map rD=RS at r1 s1;generalize qs.map rD=QS at s1 ⊢
  dsimp! [zbm,c0,es,c1',ok8,om,em,orm,zm,vH,r1,s1]
 ·let⟨i,hi⟩:=Jw.mp hr;exact s3 i r hi
mutual
theorem zeZ(p:U Int):∀(t:T) (q:U Int) (u:T),qE t q=some u->(p++q,u)∈zQ p t
 | .bl x,[],u,h=>by simp[qE]at h;subst h;simp[zQ]
 | .bl x,_::_,u,h=>by simp[qE]at h
 | .nd s ts,[],u,h=>by simp[qE]at h;subst h;simp[zQ]
 | .nd s ts,k::q,u,h=>by
  let⟨s',ts',c,e1,h0,e,h⟩:=vJ h;cases e1
  rw[zQ];refine Ji _ ?_
  have:=zea p 0 ts k.toNat c e q u h;rw[Qw,Int.toNat_of_nonneg h0]at this;exact this
theorem zea(p:U Int)(k:Nat):∀(ts:U T) (i:Nat) (c:T),ts[i]?=some c->∀(q:U Int) (u:T),qE c q=some u->(p++((k+i:Nat):Int)::q,u)∈jD p k ts
 |[],i,c,e,q,u,h=>by simp at e
 |t::r,0,c,e,q,u,h=>by
  simp at e;subst e;rw[jD];refine JP _ ?_
  have:=zeZ (p++[(k:Int)]) t q u h;rwa[Jx]at this
 |t::r,i+1,c,e,q,u,h=>by
  rw[jD];refine Jj _ ?_
  have:=zea p (k+1) r i c (by simpa using e) q u h;rwa[show k+1+i=k+(i+1) by lia]at this
end
mutual
def rwK(ks:U KD):T->KD
 | .bl x=>.str x
 | .nd f ts=>.tup (.inr f::rws ks ts)
def rws(ks:U KD):U T->U Key
 |[]=>[]
 |t::r=>.inl ((ks.idxOf (rwK ks t):Nat):Int)::rws ks r
end
def num(ks:U KD)(t:T):Nat:=ks.idxOf (rwK ks t)
theorem zeT(ks:U KD):∀ts:U T,rws ks ts=ts.map λt=>.inl ((num ks t:Nat):Int)
 |[]=>by simp[rws]
 |t::r=>by rw[rws,zeT ks r];rfl
mutual
def qV:T->U T
 | .bl x=>[.bl x]
 | .nd f ts=>.nd f ts::xI ts
def xI:U T->U T
 |[]=>[]
 |t::r=>qV t++xI r
end
mutual
theorem zaW(p:U Int):∀t:T,(zQ p t).map (·.2)=qV t
 | .bl x=>by simp[zQ,qV]
 | .nd f ts=>by simp[zQ,qV,zcY p 0 ts]
theorem zcY(p:U Int):∀(k:Nat) (ts:U T),(jD p k ts).map (·.2)=xI ts
 |_,[]=>by simp[jD,xI]
 |k,t::r=>by simp[jD,xI,zaW (p++[(k:Int)]) t,zcY p (k+1) r]
end
theorem nG:∀{ts:U T}{u:T},u∈xI ts↔∃c∈ts,u∈qV c
 |[],u=>by simp[xI]
 |t::r,u=>by simp[xI,nG]
def vG(t:T):t∈qV t:=by cases t<;>simp[qV]
def zbx{f:Str}{ts:U T}{c u:T}(hc:c∈ts)(hu:u∈qV c):u∈qV (.nd f ts):=by grind [qV.eq_2,nG]
theorem zaJ:∀{t u v:T},u∈qV t->v∈qV u->v∈qV t
 | .bl x,u,v,h1,h2=>by simp[qV]at h1;subst h1;exact h2
 | .nd f ts,u,v,h1,h2=>by
  rcases JJ.mp h1 with rfl|h1
  ·exact h2
  ·let⟨c,hc,hu⟩:=nG.mp h1;exact zbx hc (zaJ hu h2)
theorem zaK:∀{t u:T},u∈qV t->u=t\/u.size<t.size
 | .bl x,u,h=>by simp[qV]at h;exact .inl h
 | .nd f ts,u,h=>by
  rcases JJ.mp h with rfl|h
  ·exact .inl rfl
  ·let⟨c,hc,hu⟩:=nG.mp h;have z:=xF hc;rw[T.size];rcases zaK hu with rfl|hl
   ·exact .inr (by simp+arith [*])
   ·exact .inr (by lia)
def Has(ks:U KD)(t:T):Prop:=∀u∈qV t,rwK ks u∈ks
def Has.self{ks:U KD}{t:T}(h:Has ks t):rwK ks t∈ks:=h t (vG t)
def Has.sub{ks:U KD}{t u:T}(h:Has ks t)(hu:u∈qV t):Has ks u:=λv hv=>h v (zaJ hu hv)
def Has.kid{ks:U KD}{f:Str}{ts:U T}{c:T}(h:Has ks (.nd f ts))(hc:c∈ts):Has ks c:=h.sub (zbx hc (vG c))
mutual
theorem rwK_ext(ks l:U KD):∀t:T,(∀u∈qV t,u≠t->rwK ks u∈ks)->rwK (ks++l) t=rwK ks t
 | .bl x,_=>by simp[rwK]
 | .nd f ts,h=>by
  have:rws (ks++l) ts=rws ks ts:=zlo ks l ts λu hu=>h u (by rw[qV];exact Ji _ hu) λe=>by
   subst e;let⟨c,hc,hu⟩:=nG.mp hu;have z:=xF hc;rcases zaK hu with e|e
   ·rw[←e,T.size]at z;lia
   ·rw[T.size]at e;lia
  rw[rwK,rwK,this]
theorem zlo(ks l:U KD):∀ts:U T,(∀u∈xI ts,rwK ks u∈ks)->rws (ks++l) ts=rws ks ts
 |[],_=>by simp[rws]
 |t::r,h=>by
  have h1:rwK (ks++l) t=rwK ks t:=rwK_ext ks l t λu hu _=>h u (by rw[xI];exact JP _ hu)
  have h2:rwK ks t∈ks:=h t (by rw[xI];exact JP _ (vG t));rw[rws,rws,h1,zlo ks l r λu hu=>h u (by rw[xI];exact Jj _ hu),List.idxOf_append,if_pos h2]
end
theorem Has.rwK_ext{ks:U KD}{t:T}(h:Has ks t)(l:U KD):rwK (ks++l) t=rwK ks t:=FL.rwK_ext ks l t λu hu _=>h u hu
def Has.num_ext{ks:U KD}{t:T}(h:Has ks t)(l:U KD):num (ks++l) t=num ks t:=by unfold num;rw[h.rwK_ext,List.idxOf_append,if_pos h.self]
def Has.ext{ks:U KD}{t:T}(h:Has ks t)(l:U KD):Has (ks++l) t:=λu hu=>by rw[(h.sub hu).rwK_ext];exact JP _ (h u hu)
def zpH{ks:U KD}{t:T}(h:Has ks t):num ks t<ks.length:=List.idxOf_lt_length_of_mem h.self
def zfQ{ks:U KD}{t:T}(h:Has ks t):ks[num ks t]?=some (rwK ks t):=by have hl:ks.idxOf (rwK ks t)<ks.length:=zpH h;show ks[ks.idxOf (rwK ks t)]?=_;simp[*]
theorem zec{ks:U KD}:∀{t u:T},Has ks t->Has ks u->num ks t=num ks u->t=u
 |t,u,ht,hu,e=>by
  have e1:=zfQ ht;rw[e,zfQ hu]at e1;have e1:=Option.some.inj e1
  match t,u with
  | .bl x,.bl y=>simp[rwK]at e1;rw[e1]
  | .bl x,.nd g us=>simp[rwK]at e1
  | .nd f ts,.bl y=>simp[rwK]at e1
  | .nd f ts,.nd g us=>
   simp only[rwK,KD.tup.injEq,List.cons.injEq,Sum.inr.injEq]at e1;let⟨rfl,e2⟩:=e1;rw[zeT,zeT]at e2;have hl:us.length=ts.length:=by have:=JT List.length e2;simpa using this
   have:=List.ext_getElem hl.symm λi h1 h2=>by have hc1:=Qh h1;have hc2:=Qh h2;refine zec (ht.kid hc1) (hu.kid hc2) ?_;have e3:=JT (λl=>l[i]?) e2;simp only[List.getElem?_map,List.getElem?_eq_getElem h1,List.getElem?_eq_getElem h2,Option.map_some,Option.some.injEq,Sum.inl.injEq]at e3;lia
   rw[this]
termination_by t=>sizeOf t
def WF(ks:U KD):Prop:=ks.Nodup/\∀(i:Nat) (f:Str) (l:U Key),ks[i]?=some (.tup (.inr f::l))->∀n:Int,Sum.inl n∈l->n<i
def WF.lt{ks:U KD}(h:WF ks){f:Str}{ts:U T}(ht:Has ks (.nd f ts)){c:T}(hc:c∈ts):num ks c<num ks (.nd f ts):=by
 have e:=zfQ ht;rw[rwK,zeT]at e
 have:=h.2 _ _ _ e (num ks c) (Jv.mpr ⟨c,hc,rfl⟩);simp_all
theorem WF.le{ks:U KD}(h:WF ks):∀{t u:T},Has ks t->u∈qV t->u=t\/num ks u<num ks t
 | .bl x,u,ht,hu=>by simp[qV]at hu;exact .inl hu
 | .nd f ts,u,ht,hu=>by
  rcases JJ.mp hu with rfl|hu
  ·exact .inl rfl
  ·let⟨c,hc,hu⟩:=nG.mp hu;have z:=h.lt ht hc;rcases h.le (ht.kid hc) hu with rfl|hl
   ·exact .inr z
   ·exact .inr (by exact Nat.lt_trans ‹_› ‹_›)
def xE(ks:U KD)(k:KD):U KD:=if k∈ks then ks else ks++[k]
def zjH(ks:U KD)(k:KD):∃l,xE ks k=ks++l:=by
 unfold xE;split
 ·exact⟨[],by simp⟩
 ·exact⟨[k],rfl⟩
def WF.add{ks:U KD}(h:WF ks){t:T}(hk:∀u∈qV t,u≠t->rwK ks u∈ks):WF (xE ks (rwK ks t))/\Has (xE ks (rwK ks t)) t:=by
 have has:Has (xE ks (rwK ks t)) t:=λu hu=>by
  let⟨l,e⟩:=zjH ks (rwK ks t);by_cases c:u=t
  ·subst c;rw[e,FL.rwK_ext ks l u hk,←e];unfold xE;split
   ·assumption
   ·simp
  ·have hs:Has ks u:=λv hv=>hk v (zaJ hu hv) λz=>by
    subst z;rcases zaK hu with z|z
    ·exact c z
    ·rcases zaK hv with z2|z2
     ·exact c z2.symm
     ·exact Nat.lt_asymm ‹_› ‹_›
   rw[e];exact hs.ext l u (vG u)
 refine⟨?_,has⟩;unfold xE;split
 ·exact h
 ·rename_i hn;refine⟨Wv.mpr ⟨h.1,by simp,λa ha b hb=>?_⟩,λi f l e n hm=>?_⟩
  ·simp at hb;subst hb;rintro rfl;exact hn ha
  ·by_cases hi:i<ks.length
   ·rw[List.getElem?_append_left hi]at e;exact h.2 i f l e n hm
   ·rw[List.getElem?_append_right (by simp_all)]at e;have hi':i=ks.length:=by have:=(List.getElem?_eq_some_iff.mp e).1;simp at this;grind
    subst hi';simp at e
    match t with
    | .bl x=>simp[rwK]at e
    | .nd g ts=>
     rw[rwK,zeT]at e;cases e
     let⟨c,hc,e⟩:=Jv.mp hm;have hcs:c∈qV (.nd f ts):=zbx hc (vG c)
     have:rwK ks c∈ks:=hk c hcs λz=>by have:=xF hc;rw[z,T.size]at this;lia
     grind [num]
theorem zdp{α:Type}(f:α->KD)(g:α->D)(q:α):∀(L:List α),q∈L->(∀a∈L,f a=f q->g a=g q)->qU (L.map f) (L.map g) (f q)=some (g q)
 |[],h,_=>by simp at h
 |a::L,h,hi=>by
  by_cases e:f a=f q
  ·have:=hi a (by simp) e;simp[qU,e,this]
  ·have hq:q∈L:=by grind
   have:=zdp f g q L hq λb hb=>hi b (by simp[hb])
   grind [qU]
def zbZ{ks:U KD}{ds:U D}{k:KD}{d:D}(h:k∉ks):jV ks ds k d=(ks++[k],ds++[d]):=by simp[jV, *]
def VS(n:Nat):U D:=(List.range n).map λ(i:Nat)=>D.int (i:Int)
def znv(n:Nat):VS (n+1)=VS n++[.int (n:Int)]:=by simp[VS,List.range_succ]
theorem zkN(k:KD):∀(ks:U KD) (a:Nat),qU ks ((List.range' a ks.length).map λ(i:Nat)=>D.int (i:Int)) k=if k∈ks then some (.int ((a+ks.idxOf k:Nat):Int))else none
 |[],a=>by simp[qU]
 |x::ks,a=>by
  have ih:=zkN k ks (a+1);rw[JA,List.range'_succ,Jd];by_cases e:x=k
  ·subst e;simp[qU]
  ·rw[show qU (x::ks) (D.int (a:Int)::(List.range' (a+1) ks.length).map λ(i:Nat)=>D.int (i:Int)) k=qU ks ((List.range' (a+1) ks.length).map λ(i:Nat)=>D.int (i:Int)) k by simp[qU,List.find?_cons,e],ih];grind
def zkO(ks:U KD)(k:KD):qU ks (VS ks.length) k=if k∈ks then some (.int ((ks.idxOf k:Nat):Int))else none:=by have:=zkN k ks 0;rw[←List.range_eq_range']at this;rw[Qw]at this;exact this
theorem zdz:∀l:U Key,gK (l.map λk=>match k with| .inl i=>D.int i| .inr x=>D.str x)=some l
 |[]=>rfl
 | .inl i::l=>by simp[gK,kI,zdz l]
 | .inr x::l=>by simp[gK,kI,zdz l]
def zqW(k:KD):∃g,wN (kdD k)=some g/\gkD g=k:=by
 cases k with
 |int i=>exact⟨_,rfl,rfl⟩
 |str x=>exact⟨_,rfl,rfl⟩
 |tup l=>exact⟨.inr l,JT (Option.map Sum.inr) (zdz l),rfl⟩
def pk(p:U Int):KD:=.tup (p.map Sum.inl)
def pk_d(p:U Int):kdD (pk p)=.tup (p.map D.int):=by simp[kdD,pk,Function.comp_def]
theorem ziX{p q:U Int}(h:pk p=pk q):p=q:=by
 injection h with h
 have:=JT (List.map λk:Key=>match k with| .inl i=>i| .inr _=>0) h;simpa[Function.comp_def]using this
def zie(p:U Int):wN (.tup (p.map D.int))=some (.inr (p.map Sum.inl)):=by have:=zdz (p.map Sum.inl);simp only[List.map_map,Function.comp_def]at this;simp[wN,this]
def zmF(NK:U KD)(ND:U D)(p:U Int):vW (.dic NK ND) (.tup (p.map D.int))=qU NK ND (pk p):=by simp[vW,zie,gkD,pk]
def vR(ks:U KD)(t:T):D:=kdD (rwK ks t)
def zdL(ks:U KD)(x:Str):vR ks (.bl x)=.str x:=by simp[vR,rwK,kdD]
def zdK(ks:U KD)(f:Str)(ts:U T):vR ks (.nd f ts)=.tup (.str f::ts.map λt=>.int ((num ks t:Nat):Int)):=by simp[vR,rwK,kdD,zeT,Function.comp_def]
def zoU(ks:U KD)(p:U Int)(NK:U KD)(ND:U D):∀u:T,u.size<=1000->p.length<=1000->(∀(k:Nat) (c:T),u.kids[k]?=some c->qU NK ND (pk (p++[(k:Int)]))=some (.int ((num ks c:Nat):Int)))->
  zbC [u.d,.tup (p.map D.int),.dic NK ND]=some (vR ks u)
 | .bl x,_,_,_=>by
  have:=vB (.bl x);rw[jP,T.isBl]at this
  dsimp! [zbC,xP,startB,yV,jP,zdL,this]
 | .nd f ts,hz,hp,h=>by
  have e0:=vB (.nd f ts);rw[qX,T.isBl]at e0;have c:jH (gN 0) jB (zeC qZ zI) [none,some (.bor (.dic NK ND)),some (.dat (.tup (p.map D.int)))] (yS 0 ts.length)=some (ts.map λt=>.int ((num ks t:Nat):Int)):=by
   refine wV (by simp[vH]) λi a b ha hb=>?_
   let⟨hi,rfl⟩:=zak ha;rw[List.getElem?_map,List.getElem?_eq_getElem hi]at hb;cases hb
   have hv:=h i ts[i] (by rw[T.kids];exact List.getElem?_eq_getElem hi);refine⟨[some (.dat (.int (0+(i:Int)))),some (.bor (.dic NK ND)),some (.dat (.tup (p.map D.int)))],by dsimp! [qI],rfl,?_⟩;have h1:p.length+1<=1000000:=by lia
   have h2:=zmF NK ND (p++[(i:Int)]);rw[hv,Jr]at h2
   dsimp! [h1]
   simpa using h2
  have hl:ts.length<=999:=by have:=xO ts;rw[T.size]at hz;lia
  have h3:ts.length<=1000000:=by lia
  have h4:1+ts.length<=1000000:=by lia
  have e1:((ts.length:Int)+1 - 1)=ts.length:=by simp
  have r1:zhR (ts.length:Int):=nO (by simp) (by lia);rw[zdK,qX]
  dsimp! [zbC,xP,startB,yV,e0]
  dsimp! [r1,c,vH,h3,h4,hl]
theorem zpM:∀(p q:U Int) (k:Int),HT.lexLt (p++k::q) p=false
 |[],q,k=>by rfl
 |a::p,q,k=>by rw[JC,HT.lexLt_cons,if_pos rfl];exact zpM p q k
def bk(t:T):U (U Int×T):=(zQ [] t).reverse
theorem zjE(t:T):(bk t).length=t.size:=by simp[bk,nL]
def zfy{t:T}{q:U Int×T}(h:q∈bk t):qE t q.1=some q.2:=zdX t [] t (by cases t<;>rfl) q (List.mem_reverse.mp h)
def zpY{t u:T}{p:U Int}(h:qE t p=some u):(p,u)∈bk t:=List.mem_reverse.mpr (by have:=zeZ [] t p u h;simpa using this)
def zpX{t:T}{i:Nat}{p:U Int}{u c:T}{k:Nat}(h:(bk t)[i]?=some (p,u))(hc:u.kids[k]?=some c):(p++[(k:Int)],c)∈(bk t).take i:=by
 have hm:=zfy (List.mem_of_getElem? h);have hp:qE t (p++[(k:Int)])=some c:=by
  rw[zaf p _ t u hm];cases u with
  |bl x=>simp[T.kids]at hc
  |nd f ts=>
   have:(0:Int)<=(k:Int):=by simp
   simp only[qE,if_pos this];rw[JO];rw[T.kids]at hc;rw[hc]
 let⟨j,hj⟩:=Jw.mp (zpY hp);have hji:j<i:=by
  rcases Nat.lt_trichotomy j i with z|z|z
  ·exact z
  ·simp_all
  ·have asc:(bk t).Pairwise λa b=>HT.lexLt b.1 a.1=true:=List.pairwise_reverse.mpr (zcB [] t)
   let⟨h1,e1⟩:=List.getElem?_eq_some_iff.mp h;let⟨h2,e2⟩:=List.getElem?_eq_some_iff.mp hj
   have:=JF.mp asc i j h1 h2 z;rw[e1,e2]at this;have no:=zpM p [] (k:Int);rw[no]at this;cases this
 refine Jw.mpr ⟨j,?_⟩;simp[*]
def ztM{t:T}{i:Nat}{q:U Int×T}(h:(bk t)[i]?=some q):∀a∈(bk t).take i,a.1≠q.1:=λa ha e=>by
 let⟨j,hj⟩:=Jw.mp ha;rw[List.getElem?_take]at hj;split at hj
 ·rename_i hji;have asc:(bk t).Pairwise λa b=>HT.lexLt b.1 a.1=true:=List.pairwise_reverse.mpr (zcB [] t)
  let⟨h1,e1⟩:=List.getElem?_eq_some_iff.mp hj;let⟨h2,e2⟩:=List.getElem?_eq_some_iff.mp h
  have:=JF.mp asc j i h1 h2 hji;have no:HT.lexLt q.1 q.1=false:=by
   generalize q.1=l;induction l with
   |nil=>rfl
   |cons a l ih=>simp[HT.lexLt_cons, *]
  simp_all
 ·cases hj
def nk(l:U (U Int×T)):U KD:=l.map λq=>pk q.1
def nd'(ks:U KD)(l:U (U Int×T)):U D:=l.map λq=>.int ((num ks q.2:Nat):Int)
def zou(ks NK:U KD)(ND:U D)(A H td:D)(x5 x6:Option Sl)(p:U Int)(u:T)(r:zbC [u.d,.tup (p.map D.int),.dic NK ND]=some (vR ks u))(hk:ks.length<1000)(hn:NK.length<1000)(hp:pk p∉NK):
  (qP (zM (gN 5) (zM (gN 6) qH)) (pd (p,u)) [some (.dat A),some (.own (.dic ks (VS ks.length))),some (.own H),some (.dat td),some (.own (.dic NK ND)),x5,x6]).bind (zbe zI)=
   some (.nx [some (.dat A),some (.own (.dic (xE ks (rwK ks u)) (VS (xE ks (rwK ks u)).length))),some (.own H),some (.dat td),some (.own (.dic (NK++[pk p]) (ND++[.int (((xE ks (rwK ks u)).idxOf (rwK ks u):Nat):Int)]))),some (.dat (.tup (p.map D.int))),some (.dat u.d)]):=by
 let⟨g,e1,e2⟩:=zqW (rwK ks u);have e1:wN (vR ks u)=some g:=e1;have v:=zkO ks (rwK ks u);have kp:=zie p;have gp:gkD (.inr (p.map Sum.inl))=pk p:=rfl;have hk':ks.length<1000000:=by lia
 have hn':NK.length<1000000:=by lia
 unfold xE;split
 ·rename_i hm;rw[if_pos hm]at v
  dsimp! [pd,zhJ,sdfG,zlC,lenG,r,e1,e2,v,kp,gp,hk',hn',zbZ hp]
 ·rename_i hm;rw[if_neg hm]at v;have io:(ks++[rwK ks u]).idxOf (rwK ks u)=ks.length:=by rw[List.idxOf_append,if_neg hm];simp
  dsimp! [pd,zhJ,sdfG,zlC,lenG,r,e1,e2,v,kp,gp,hk',hn',zbZ hp,zbZ hm,io,znv]
mutual
theorem zaq:∀t:T,t.depth<=t.size
 | .bl x=>by simp[T.depth,T.size]
 | .nd f ts=>by have:=zbu ts;simp only[T.depth,T.size];simp[*]
theorem zbu:∀ts:U T,T.depths ts<=T.sizes ts
 |[]=>by simp[T.depths,T.sizes]
 |t::r=>by have:=zaq t;have:=zbu r;simp only[T.depths,T.sizes];lia
end
def zpl(ks:U KD)(k:KD):(xE ks k).length<=ks.length+1:=by unfold xE;split<;>simp
def zov(t:T)(ks:U KD)(hw:WF ks)(hk:ks.length<=500)(hz:t.size<=200)(A H:D)(x5 x6:Option Sl)(nb5:yE [x5,x6]=true):
  ∃(ks':U KD) (y5 y6:Option Sl),yE [y5,y6]=true/\(∃l,ks'=ks++l)/\WF ks'/\Has ks' t/\ks'.length<=ks.length+t.size/\
   jT (qP (zM (gN 5) (zM (gN 6) qH))) (zbe zI) ((bk t).map pd) [some (.dat A),some (.own (.dic ks (VS ks.length))),some (.own H),some (.dat t.d),some (.own (.dic [] [])),x5,x6]=
    some (.nx [some (.dat A),some (.own (.dic ks' (VS ks'.length))),some (.own H),some (.dat t.d),some (.own (.dic (nk (bk t)) (nd' ks' (bk t)))),y5,y6]):=by
 let⟨ρ',f1,ks',x5',x6',e0,e1,e2,e3,e4,rfl⟩:=kP (xs:=(bk t).map pd)
  (ρ:=[some (.dat A),some (.own (.dic ks (VS ks.length))),some (.own H),some (.dat t.d),some (.own (.dic [] [])),x5,x6])
  (λi ρ=>∃(ks':U KD) (x5 x6:Option Sl),yE [x5,x6]=true/\(∃l,ks'=ks++l)/\WF ks'/\ks'.length<=ks.length+i/\(∀q∈(bk t).take i,Has ks' q.2)/\
   ρ=[some (.dat A),some (.own (.dic ks' (VS ks'.length))),some (.own H),some (.dat t.d),some (.own (.dic (nk ((bk t).take i)) (nd' ks' ((bk t).take i)))),x5,x6]) ⟨ks,x5,x6,nb5,⟨[],by simp⟩,hw,by simp,by simp,by simp[nk,nd']⟩ (by
   rintro i x ρ hx ⟨ks1,y5,y6,_,⟨l,el⟩,w1,hl,has,rfl⟩;rw[List.getElem?_map]at hx;cases e:(bk t)[i]? with
   |none=>rw[e]at hx;cases hx
   |some q=>
    rw[e]at hx;cases hx
    let⟨p,u⟩:=q;have hi:i<(bk t).length:=(List.getElem?_eq_some_iff.mp e).1;have hl2:=zjE t;have hpa:=zfy (List.mem_of_getElem? e);have hus:=zal p t u hpa;have tk:(bk t).take (i+1)=(bk t).take i++[(p,u)]:=by
     rw[Jl hi]
     have:=(List.getElem?_eq_some_iff.mp e).2;rw[this]
    have kid:∀(k:Nat) (c:T),u.kids[k]?=some c->qU (nk ((bk t).take i)) (nd' ks1 ((bk t).take i)) (pk (p++[(k:Int)]))=some (.int ((num ks1 c:Nat):Int)):=λk c hc=>by
     have hm:=zpX e hc
     have:=zdp (λq:U Int×T=>pk q.1) (λq=>D.int ((num ks1 q.2:Nat):Int)) (p++[(k:Int)],c) ((bk t).take i) hm λa ha e=>by have e:=ziX e;have h1:=zfy (Wa ha);have h2:=zfy (Wa hm);simp_all
     exact this
    have pl:=zbO p t u hpa;have dl:=zaq t;have r:=zoU ks1 p _ _ u (by lia) (by lia) kid;have hNl:(nk ((bk t).take i)).length<1000:=by grind [nk]
    have tn:=zou ks1 _ _ A H t.d y5 y6 p u r (by lia) hNl (λh=>by let⟨a,ha,e1⟩:=Jv.mp h;exact ztM e a ha (ziX e1))
    have below:∀v∈qV u,v≠u->rwK ks1 v∈ks1:=λv hv ne=>by
     cases u with
     |bl x=>simp_all[qV]
     |nd f ts=>
      rw[qV]at hv;rcases JJ.mp hv with rfl|hv
      ·exact absurd rfl ne
      ·let⟨c,hc,hv⟩:=nG.mp hv;let⟨k,hk⟩:=Jw.mp hc
       have:=has _ (zpX (k:=k) (c:=c) e (by rw[T.kids];exact hk));exact this v hv
    let⟨w2,h2⟩:=w1.add below;let⟨l2,ex⟩:=zjH ks1 (rwK ks1 u);have al:=zpl ks1 (rwK ks1 u);refine⟨_,.inl tn,xE ks1 (rwK ks1 u),some (.dat (.tup (p.map D.int))),some (.dat u.d),rfl,⟨l++l2,by simp_all⟩,w2,by lia,λq hq=>?_,?_⟩
    ·rw[tk]at hq;rcases Qe.mp hq with hq|hq
     ·rw[ex];exact(has q hq).ext l2
     ·rw[Je.mp hq];exact h2
    ·have e5:nd' (xE ks1 (rwK ks1 u)) ((bk t).take i)=nd' ks1 ((bk t).take i):=by
      unfold nd';refine JD λq hq=>?_
      rw[ex,(has q hq).num_ext]
     have e6:(xE ks1 (rwK ks1 u)).idxOf (rwK ks1 u)=num (xE ks1 (rwK ks1 u)) u:=by unfold num;rw[ex,rwK_ext ks1 l2 u below]
     rw[e6,←e5,tk];simp[nk,nd'])
 rw[Jc,QC]at f1 e4;rw[Jc,zjE]at e3;exact⟨ks',x5',x6',e0,e1,e2,e4 ([],t) (zpY (by cases t<;>rfl)),e3,f1⟩
def yK(ks:U KD)(t:T):U Int:=zjP (xV ((bk t).map λq=>((num ks q.2:Nat):Int)))
def zjb(t:T)(ks:U KD)(hw:WF ks)(hk:ks.length<=500)(hz:t.size<64)(A:D)(HL:U D)(hh:HL.length<100)(x3 x4 x5 x6:Option Sl)(nb4:yE [x3,x4,x5,x6]=true):
  ∃(ks':U KD) (y4 y5 y6:Option Sl),(∃l,ks'=ks++l)/\WF ks'/\Has ks' t/\ks'.length<=ks.length+t.size/\yE [some (.dat t.d),y4,y5,y6]=true/\
   (gN 3 t.d [some (.dat A),some (.own (.dic ks (VS ks.length))),some (.own (.lst HL)),x3,x4,x5,x6]).bind (zbd zI)=
    some (.nx [some (.dat A),some (.own (.dic ks' (VS ks'.length))),some (.own (.lst (HL++[.lst ((yK ks' t).map D.int)]))),some (.dat t.d),y4,y5,y6]):=by
 simp only[yE,List.all_cons,List.all_nil,Bool.and_true,Bool.and_eq_true]at nb4;let⟨n3,n4,n5,n6⟩:=nb4;let⟨ks',y5,y6,e0,e1,e2,e3,e4,f1⟩:=zov t ks hw hk (by lia) A (.lst HL) x5 x6 (by simp only[yE,List.all_cons,List.all_nil,Bool.and_true,Bool.and_eq_true];exact⟨n5,n6⟩);have pp:=zah t (by lia);have rv:((zQ [] t).map pd).reverse=(bk t).map pd:=by rw[bk,List.map_reverse]
 have c:jH (gN 0) jB (zcq zI) [none,some (.dat (.dic (nk (bk t)) (nd' ks' (bk t))))] ((nk (bk t)).map kdD)=some (((bk t).map λq=>((num ks' q.2:Nat):Int)).map D.int):=by
  refine wV (by simp[nk]) λi a b ha hb=>?_
  rw[nk,Jq,List.getElem?_map]at ha;rw[Jq,List.getElem?_map]at hb;cases e:(bk t)[i]? with
  |none=>rw[e]at ha;cases ha
  |some q=>
   rw[e]at ha hb;cases ha;cases hb
   have hm:=List.mem_of_getElem? e;have v:=zdp (λq:U Int×T=>pk q.1) (λq=>D.int ((num ks' q.2:Nat):Int)) q (bk t) hm λa ha e=>by have e:=ziX e;have h1:=zfy ha;have h2:=zfy hm;rw[e,h2]at h1;rw[Option.some.inj h1]
   have ig:=zmF (nk (bk t)) (nd' ks' (bk t)) q.1;rw[show qU (nk (bk t)) (nd' ks' (bk t)) (pk q.1)=_ from v,←pk_d]at ig;refine⟨[some (.dat (kdD (pk q.1))),some (.dat (.dic (nk (bk t)) (nd' ks' (bk t))))],by dsimp! [qI],rfl,?_⟩;simp only[Function.comp]
   dsimp! [ig]
 have hl:(bk t).length<64:=by rw[zjE];exact hz
 have hl':(nk (bk t)).length<=1000000:=by unfold nk;rw[Jc];lia
 have io:=zcG ((bk t).map λq=>((num ks' q.2:Nat):Int));have h1:HL.length<1000000:=by lia
 have nbS:yE [some (.dat A),some (.own (.dic ks (VS ks.length))),some (.own (.lst HL)),some (.dat t.d),x4,x5,x6]=true:=by simp only[yE,List.all_cons,List.all_nil,Bool.and_true,Bool.and_eq_true];exact⟨trivial,trivial,trivial,trivial,n4,n5,n6⟩
 simp only[Sl.own]at f1 nbS;have on:yK ks' t=zjP (xV ((bk t).map λq=>((num ks' q.2:Nat):Int))):=rfl;generalize hG:(bk t).map (λq=>((num ks' q.2:Nat):Int))=G at*;have hG':G.length<64:=by rw[←hG,Jc];exact hl
 refine⟨ks',some (.dat (.dic (nk (bk t)) (nd' ks' (bk t)))),y5,y6,e1,e2,e3,e4,?_,?_⟩
 ·simp_all[yE]
 ·simp[nbS,pp,cRv,rv,f1,cKG,itKG,znJ,c,hl',io,hG',on,h1,qI,kZ,zF,qJ,setO,vQ,gB,zio,yX,zX,xA,ifM,upT,cT,cTr,truD,andP,orP,vL,andV,orV,c1,c2,cL,cS,zA,zC,cst,gv,gb,gN,qH,zM,qP,yB,kK,kR,jB,cI,cR1,cEnT,jN,itS,rng1,xM,extM,gH,zdT,zS,jF,nxM,xX,tyN,isiB,lim,wW,jC,vS,revX,revD,gE,zkk,qO,zZ,qK,zW,catD,gF,wL,xD,yM,powD,cmpI,geD,isB,zfj,isNon,intD,zlB,kI,wR,c3,zks,itS,Sl.own,eqB,neB,inB,jQ,zca,zfP,zfN,nO,at0,at1,at2]
def zjr{g:D->EO En}{b:EO Fl}{x:D}{xs:U D}{ρ ρ1:En}(h:(g x ρ).bind b=some (.nx ρ1)):jT g b (x::xs) ρ=jT g b xs ρ1:=by grind [jT]
def zkx(a b:T)(ha:a.size<64)(hb:b.size<64):∃ks:U KD,WF ks/\Has ks a/\Has ks b/\ks.length<=200/\
  zbE [.lst [a.d,b.d]]=some (.tup [.lst (ks.map kdD),.lst [.lst ((yK ks a).map D.int),.lst ((yK ks b).map D.int)]]):=by
 let⟨k1,y4,y5,y6,_,w1,h1,l1,n1,f1⟩:=zjb a [] ⟨List.nodup_nil,λi f l e=>by simp at e⟩ (by simp) ha (.lst [a.d,b.d]) [] (by simp) none none none none rfl;simp only[List.length_nil,Nat.zero_add]at l1 f1;let⟨k2,z4,z5,z6,⟨l,rfl⟩,w2,h2,l2,n2,f2⟩:=zjb b k1 w1 (by lia) hb (.lst [a.d,b.d]) [.lst ((yK k1 a).map D.int)] (by simp) (some (.dat a.d)) y4 y5 y6 n1;have eo:yK (k1++l) a=yK k1 a:=by
  unfold yK
  congr 2
  refine JD λq hq=>?_
  have hs:q.2∈qV a:=by rw[←zaW [] a];exact Jv.mpr ⟨q,List.mem_reverse.mp hq,rfl⟩
  rw[(h1.sub hs).num_ext]
 refine⟨k1++l,w2,h1.ext l,h2,by lia,?_⟩;rw[eo];have v0:VS 0=[]:=rfl;simp only[Sl.own,v0]at f1 f2;have F:jT (gN 3) (zbd zI) [a.d,b.d] [some (.dat (.lst [a.d,b.d])),some (.own (.dic [] [])),some (.own (.lst [])),none,none,none,none]=some (.nx [some (.dat (.lst [a.d,b.d])),some (.own (.dic (k1++l) (VS (k1++l).length))),some (.own (.lst [.lst ((yK k1 a).map D.int),.lst ((yK (k1++l) b).map D.int)])),some (.dat b.d),z4,z5,z6]):=by rw[zjr f1,List.nil_append,zjr f2];rfl
 dsimp! [zbE,zoE,F]
inductive Abv(r:Str->Nat):T->T->Prop
 |here {f:Str}{ss:U T} {t:T}:t∈ss->Abv r (.nd f ss) t
 |sub {f:Str}{ss:U T} {s t:T}:s∈ss->Abv r s t->Abv r (.nd f ss) t
 |prec {f g:Str}{ss ts:U T}:r g<r f->(∀t∈ts,Abv r (.nd f ss) t)->Abv r (.nd f ss) (.nd g ts)
 |lex {f:Str}{ss ts:U T} {i:Nat}{c d:T}:(∀t∈ts,Abv r (.nd f ss) t)->ss[i]?=some c->ts[i]?=some d->ss.take i=ts.take i->c≠d->Abv r c d->Abv r (.nd f ss) (.nd f ts)
open Classical in
def abB(r:Str->Nat)(s t:T):Bool:=decide (Abv r s t)
theorem kC{r:Str->Nat}{s t:T}:abB r s t=true↔Abv r s t:=by unfold abB;simp
theorem zhw{r:Str->Nat}{x:Str}{t:T}:¬Abv r (.bl x) t:=λh=>by cases h
def Unl(ss ts:U T)(c d:T):Prop:=∃i,ss[i]?=some c/\ts[i]?=some d/\ss.take i=ts.take i/\c≠d
def zeI{r:Str->Nat}{f:Str}{ss:U T}{y:Str}:Abv r (.nd f ss) (.bl y)↔∃s∈ss,s=.bl y\/Abv r s (.bl y):=by
 constructor
 ·intro h;cases h with
  |here h=>exact⟨_,h,.inl rfl⟩
  |sub h1 h2=>exact⟨_,h1,.inr h2⟩
 ·rintro⟨s,h1,rfl|h2⟩
  ·exact .here h1
  ·exact .sub h1 h2
theorem gC{r:Str->Nat}{f g:Str}{ss ts:U T}:Abv r (.nd f ss) (.nd g ts)↔(∃s∈ss,s=.nd g ts\/Abv r s (.nd g ts))\/((∀t∈ts,Abv r (.nd f ss) t)/\(r g<r f\/f=g/\∃c d,Unl ss ts c d/\Abv r c d)):=by
 constructor
 ·intro h;cases h with
  |here h=>exact .inl ⟨_,h,.inl rfl⟩
  |sub h1 h2=>exact .inl ⟨_,h1,.inr h2⟩
  |prec h1 h2=>exact .inr ⟨h2,.inl h1⟩
  |lex h1 h2 h3 h4 h5 h6=>exact .inr ⟨h1,.inr ⟨rfl,_,_,⟨_,h2,h3,h4,h5⟩,h6⟩⟩
 ·rintro(⟨s,h1,rfl|h2⟩|⟨h1,h2|⟨rfl,c,d,⟨i,h3,h4,h5,h6⟩,h7⟩⟩)
  ·exact .here h1
  ·exact .sub h1 h2
  ·exact .prec h2 h1
  ·exact .lex h1 h3 h4 h5 h6 h7
theorem wI{a b c d:T}{as bs:U T}:Unl (a::as) (b::bs) c d↔(a≠b/\c=a/\d=b)\/(a=b/\Unl as bs c d):=by
 constructor
 ·rintro⟨i,h1,h2,h3,h4⟩;cases i with
  |zero=>simp at h1 h2;subst h1 h2;exact .inl ⟨h4,rfl,rfl⟩
  |succ i=>
   simp only[List.getElem?_cons_succ,List.take_succ_cons,List.cons.injEq]at h1 h2 h3;exact .inr ⟨h3.1,i,h1,h2,h3.2,h4⟩
 ·rintro(⟨h,rfl,rfl⟩|⟨rfl,i,h1,h2,h3,h4⟩)
  ·exact⟨0,rfl,rfl,rfl,h⟩
  ·exact⟨i+1,by simpa using h1,by simpa using h2,by simp[h3],h4⟩
def zkP{c d:T}{bs:U T}:¬Unl [] bs c d:=λ⟨i,h,_⟩=>by simp at h
def ziH{c d:T}{as:U T}:¬Unl as [] c d:=λ⟨i,_,h,_⟩=>by simp at h
theorem zeR(n:T->Int):∀(as bs:U T),(∀a∈as,∀b∈bs,n a=n b->a=b)->
  ((as.map n).zip (bs.map n)).filter (λp=>!decide (p.1=p.2))=[]/\(∀c d,¬Unl as bs c d)\/∃c d rest,c∈as/\d∈bs/\Unl as bs c d/\(∀c' d',Unl as bs c' d'->c'=c/\d'=d)/\((as.map n).zip (bs.map n)).filter (λp=>!decide (p.1=p.2))=(n c,n d)::rest
 |[],bs,_=>.inl ⟨by simp,λc d=>zkP⟩
 |a::as,[],_=>.inl ⟨by simp,λc d=>ziH⟩
 |a::as,b::bs,hi=>by
  by_cases e:a=b
  ·subst e;rcases zeR n as bs (λx hx y hy=>hi x (by simp[hx]) y (by simp[hy]))with⟨h1,h2⟩|⟨c,d,rest,h1,h2,h3,h4,h5⟩
   ·refine .inl ⟨by simpa using h1,λc d h=>?_⟩;grind [wI]
   ·refine .inr ⟨c,d,rest,by simp[h1],by simp[h2],wI.mpr (.inr ⟨rfl,h3⟩),λc' d' h=>?_,by simp_all⟩;grind [wI]
  ·have en:¬n a=n b:=λz=>e (hi a (by simp) b (by simp) z)
   refine .inr ⟨a,b,_,by simp,by simp,wI.mpr (.inl ⟨e,rfl,rfl⟩),λc' d' h=>?_,by simp[en];rfl⟩;grind [wI]
def zcs(ks:U KD)(t:T):qZ [vR ks t]=some (.bl t.isBl):=by
 cases t with
 |bl x=>rw[zdL];dsimp! [qZ,T.isBl]
 |nd f ts=>rw[zdK];dsimp! [qZ,T.isBl]
def zY(ks:U KD)(ts:U T):U Int:=ts.map λt=>((num ks t:Nat):Int)
def zgZ(ks:U KD)(t:T):jW [vR ks t]=some (.tup ((zY ks t.kids).map D.int)):=by
 cases t with
 |bl x=>
  have:=zcs ks (.bl x);rw[zdL,T.isBl]at this;rw[zdL]
  dsimp! [jW,this,zY,T.kids]
 |nd f ts=>
  have:=zcs ks (.nd f ts);rw[zdK,T.isBl]at this;rw[zdK]
  dsimp! [jW,this,zY,T.kids,gQ]
def zpy(ks:U KD)(t:T)(h:Has ks t):atI (ks.map kdD) ((num ks t:Nat):Int)=some (vR ks t):=by have hl:=zpH h;rw[zfz (by simp) (by simp[*]),JO,List.getElem?_map,zfQ h];rfl
def ziQ(ks:U KD)(f:Str)(ts:U T):vR ks (.nd f ts)=.tup (.str f::(zY ks ts).map D.int):=by rw[zdK,zY,Jq];rfl
section
variable(r:Str->Nat)(ks TK:U KD)(TD:U D)
def ziD(c v:T):Prop:=qU TK TD (pk [((num ks c:Nat):Int),((num ks v:Nat):Int)])=some (.bl (abB r c v))
def zfC{c v:T}(h:ziD r ks TK TD c v):vW (.dic TK TD) (.tup [.int ((num ks c:Nat):Int),.int ((num ks v:Nat):Int)])=some (.bl (abB r c v)):=by exact h
def zuV(u v:T)(hu:Has ks u)(hv:Has ks v)(h:∀c∈u.kids,ziD r ks TK TD c v):
  jH (gN 0) jB (zbJ qZ jW zI) [none,some (.dat (.int ((num ks v:Nat):Int))),some (.bor (.dic TK TD))] ((zY ks u.kids).map D.int)=some ((u.kids.map λc=>decide (num ks c=num ks v)||abB r c v).map D.bl):=by
 refine wV (by simp[zY]) λi a b ha hb=>?_
 rw[zY,Jq,List.getElem?_map]at ha;rw[Jq,List.getElem?_map]at hb;cases e:u.kids[i]? with
 |none=>rw[e]at ha;cases ha
 |some c=>
  rw[e]at ha hb;cases ha;cases hb
  have ht:=zfC r ks TK TD (h c (List.mem_of_getElem? e));by_cases en:num ks c=num ks v
  ·dsimp! [en,eqD,dep]
  ·have en':(((num ks c:Nat):Int)==((num ks v:Nat):Int))=false:=by simp;lia
   dsimp! [en,en',ht,eqD,dep]
def zuU(u v:T)(h:∀d∈v.kids,ziD r ks TK TD u d):
  jH (gN 0) jB (zbI qZ jW zI) [none,some (.bor (.dic TK TD)),some (.dat (.int ((num ks u:Nat):Int)))] ((zY ks v.kids).map D.int)=some ((v.kids.map λd=>abB r u d).map D.bl):=by
 refine wV (by simp[zY]) λi a b ha hb=>?_
 rw[zY,Jq,List.getElem?_map]at ha;rw[Jq,List.getElem?_map]at hb;cases e:v.kids[i]? with
 |none=>rw[e]at ha;cases ha
 |some c=>
  rw[e]at ha hb;cases ha;cases hb
  have ht:=zfC r ks TK TD (h c (List.mem_of_getElem? e))
  dsimp! [ht]
end
def dd2(p:Int×Int):D:=.tup [.int p.1,.int p.2]
theorem zja:∀a b:U Int,kU (a.map D.int) (b.map D.int)=(a.zip b).map dd2
 |[],b=>by simp[kU]
 |x::a,[]=>by simp[kU]
 |x::a,y::b=>by have:=zja a b;unfold kU at this;simp[kU,this,dd2]
theorem zuT(L:U (Int×Int)):jH (gN 0) (zaH qZ jW zI) (zaI qZ jW zI) [none] (L.map dd2)=some ((L.filter λp=>!decide (p.1=p.2)).map dd2):=by
 have:=zey (g:=gN 0) (t:=zaH qZ jW zI) (f:=zaI qZ jW zI) (ρ:=[none]) (φ:=id) (p:=λx=>match x with| .tup [.int a,.int b]=>!decide (a=b)|_=>false) (xs:=L.map dd2) (by
  intro x hx;let⟨p,hp,rfl⟩:=Jv.mp hx;by_cases e:p.1=p.2
  ·dsimp! [dd2,e,eqD,dep]
  ·dsimp! [dd2,e,eqD,dep])
 rw[this,List.map_id,List.filter_map];rfl
theorem zim(r:Str->Nat)(ks TK:U KD)(TD:U D)(lv:D)(u v:T)(hu:Has ks u)(hv:Has ks v)(kl:ks.length<=1000)(su:u.size<=1000)(sv:v.size<=1000)(hA:∀c∈u.kids,ziD r ks TK TD c v)(hB:∀d∈v.kids,ziD r ks TK TD u d)(hC:∀c∈u.kids,∀d∈v.kids,ziD r ks TK TD c d)(hl:∀f ss,u=.nd f ss\/v=.nd f ss->vN lv (.str f)=some (.int ((r f:Nat):Int))):
  vT [lv,.lst (ks.map kdD),.dic TK TD,.int ((num ks u:Nat):Int),.int ((num ks v:Nat):Int)]=some (.bl (abB r u v)):=by
 have ru:=zpy ks u hu;have rv:=zpy ks v hv;have bu:=zcs ks u;have bv:=zcs ks v;have iu:=zgZ ks u;have iv:=zgZ ks v;have c1':=zuV r ks TK TD u v hu hv hA;have c2':=zuU r ks TK TD u v hB;have lu:(zY ks u.kids).length<=1000000:=by grind [zY,xO,zbk]
 have lv':(zY ks v.kids).length<=1000000:=by grind [zY,xO,zbk]
 have bb1:=zcr (u.kids.map λc=>decide (num ks c=num ks v)||abB r c v);have bb2:=zcr (v.kids.map λd=>abB r u d);cases u with
 |bl x=>
  have:abB r (.bl x) v=false:=by grind [kC,zhw]
  rw[T.isBl]at bu
  dsimp! [vT,xP,startB,yV,ru,bu,this]
 |nd f ss=>
  rw[T.isBl]at bu;rw[T.kids]at*;rw[ziQ]at ru bu iu;by_cases hs:∃s∈ss,s=v\/Abv r s v
  ·have ab:abB r (.nd f ss) v=true:=by
    rw[kC];obtain⟨s,h1,rfl|h2⟩:=hs
    ·exact .here h1
    ·exact .sub h1 h2
   have an:(ss.map λc=>decide (num ks c=num ks v)||abB r c v).any id=true:=by grind [List.any_map,kC]
   generalize (ss.map λc=>decide (num ks c=num ks v)||abB r c v)=B1 at*;generalize zY ks ss=N1 at*;rw[ab]
   dsimp! [vT,xP,startB,yV,ru,bu,iu,c1',lu,gT,bb1,an]
  ·have an:(ss.map λc=>decide (num ks c=num ks v)||abB r c v).any id=false:=by rw[List.any_map,List.any_eq_false];intro s h1;simp only[Function.comp,id,Bool.or_eq_true,decide_eq_true_eq,not_or];refine⟨λe=>hs ⟨s,h1,.inl (zec (hu.kid h1) hv e)⟩,λe=>hs ⟨s,h1,.inr (kC.mp e)⟩⟩
   generalize (ss.map λc=>decide (num ks c=num ks v)||abB r c v)=B1 at*;cases v with
   |bl y=>
    have ab:abB r (.nd f ss) (.bl y)=false:=by
     cases e:abB r (.nd f ss) (.bl y)with
     |false=>rfl
     |true=>exact absurd (zeI.mp (kC.mp e)) hs
    rw[T.isBl]at bv;rw[zdL]at rv bv;rw[ab];generalize zY ks ss=N1 at*
    dsimp! [vT,xP,startB,yV,ru,bu,iu,c1',lu,gT,bb1,an,rv,bv]
   |nd g ts=>
    rw[T.isBl]at bv;rw[T.kids]at*;rw[ziQ]at rv bv iv;have hf:=hl f ss (.inl rfl);have hg:=hl g ts (.inr rfl);by_cases hall:∀t∈ts,Abv r (.nd f ss) t
    ·have al:(ts.map λd=>abB r (.nd f ss) d).all id=true:=by simp_all[kC]
     generalize hB2:(ts.map λd=>abB r (.nd f ss) d)=B2 at*;by_cases hfg:f=g
     ·subst hfg;have zz:(zY ks ss).zip (zY ks ts)=(ss.map λt=>((num ks t:Nat):Int)).zip (ts.map λt=>((num ks t:Nat):Int)):=rfl;have c3':=zuT ((zY ks ss).zip (zY ks ts));have pz:=zja (zY ks ss) (zY ks ts);have zl:min (zY ks ss).length (zY ks ts).length<=1000000:=by lia
      have key:=zeR (λt=>((num ks t:Nat):Int)) ss ts λa ha b hb e=>zec (hu.kid ha) (hv.kid hb) (by exact Int.ofNat_inj.mp ‹_›)
      rw[←zz]at key;have hne:(f==f)=true:=by simp
      rcases key with⟨k1,k2⟩|⟨c,d,rest,m1,m2,k1,k2,k3⟩
      ·have ab:abB r (.nd f ss) (.nd f ts)=false:=by grind [gC,kC]
       rw[k1]at c3';rw[ab];generalize zY ks ss=N1 at*;generalize zY ks ts=N2 at*
       dsimp! [vT,xP,startB,yV,ru,bu,iu,c1',lu,gT,bb1,an,rv,bv,iv,c2',lv',gU,bb2,al,eqD,dep,cZ,pz,zl,c3',gtD]
      ·have ab:abB r (.nd f ss) (.nd f ts)=abB r c d:=by
        rw[Wn,kC,kC,gC];constructor
        ·rintro(h|⟨_,h|⟨_,c',d',h1,h2⟩⟩)
         ·exact absurd h hs
         ·exact absurd h (JW _)
         ·let⟨rfl,rfl⟩:=k2 c' d' h1;exact h2
        ·exact λh=>.inr ⟨hall,.inr ⟨rfl,c,d,k1,h⟩⟩
       rw[k3]at c3';have tc:=zfC r ks TK TD (hC c m1 d m2);have dd:dd2 (((num ks c:Nat):Int),((num ks d:Nat):Int))=.tup [.int ((num ks c:Nat):Int),.int ((num ks d:Nat):Int)]:=rfl;rw[Jd,dd]at c3';rw[ab];generalize zY ks ss=N1 at*;generalize zY ks ts=N2 at*
       dsimp! [vT,xP,startB,yV,ru,bu,iu,c1',lu,gT,bb1,an,rv,bv,iv,c2',lv',gU,bb2,al,eqD,dep,cZ,pz,zl,c3',tc,gtD]
     ·have ab:abB r (.nd f ss) (.nd g ts)=decide (r g<r f):=by
       rw[Wn,kC,gC,decide_eq_true_eq];constructor
       ·rintro(h|⟨_,h|⟨h,_⟩⟩)
        ·exact absurd h hs
        ·exact h
        ·exact absurd h hfg
       ·exact λh=>.inr ⟨hall,.inl h⟩
      rw[ab];generalize zY ks ss=N1 at*;generalize zY ks ts=N2 at*
      dsimp! [vT,xP,startB,yV,ru,bu,iu,c1',lu,gT,bb1,an,rv,bv,iv,c2',lv',gU,bb2,al,hfg,eqD,dep,hf,hg]
    ·have al:(ts.map λd=>abB r (.nd f ss) d).all id=false:=by simp_all[List.all_map,kC]
     have ab:abB r (.nd f ss) (.nd g ts)=false:=by
      cases e:abB r (.nd f ss) (.nd g ts)with
      |false=>rfl
      |true=>
       rcases gC.mp (kC.mp e)with h|⟨h,_⟩
       ·exact absurd h hs
       ·exact absurd h hall
     rw[ab];generalize (ts.map λd=>abB r (.nd f ss) d)=B2 at*;generalize zY ks ss=N1 at*;generalize zY ks ts=N2 at*
     dsimp! [vT,xP,startB,yV,ru,bu,iu,c1',lu,gT,bb1,an,rv,bv,iv,c2',lv',gU,bb2,al]
theorem zpk{x y:Int}{L:U Int}:y∈TS.addT L x↔y=x\/y∈L:=by grind [TS.addT]
theorem zlm:∀(l L:U Int),L.Nodup->(l.foldl TS.addT L).Nodup/\∀y,y∈l.foldl TS.addT L↔y∈l\/y∈L
 |[],L,h=>⟨h,λy=>by simp⟩
 |x::l,L,h=>by let⟨h1,h2⟩:=zlm l (TS.addT L x) (TS.addT_nodup h);grind [zpk]
theorem zfu{P:T->Prop}(n:T->Int):∀l:U Int,(∀x∈l,∃u,P u/\n u=x)->∃us:U T,l=us.map n/\∀u∈us,P u
 |[],_=>⟨[],rfl,by simp⟩
 |x::l,h=>by
  let⟨u,h1,h2⟩:=h x (by simp);let⟨us,h3,h4⟩:=zfu n l λy hy=>h y (by simp[hy])
  exact⟨u::us,by simp[*],by simpa using⟨h1,h4⟩⟩
def zlU{ks:U KD}{t:T}(h:Has ks t):∃us:U T,yK ks t=zY ks us/\us.Pairwise (λa b=>num ks a<num ks b)/\∀u,u∈us↔u∈qV t:=by
 let⟨s1,s2⟩:=zlm ((bk t).map λq=>((num ks q.2:Nat):Int)) [] List.nodup_nil;have s1:(xV ((bk t).map λq=>((num ks q.2:Nat):Int))).Nodup:=s1;let⟨p1,p2⟩:=zcx (xV ((bk t).map λq=>((num ks q.2:Nat):Int)));have mem:∀y:Int,y∈yK ks t↔∃u∈qV t,((num ks u:Nat):Int)=y:=λy=>by
  have:y∈yK ks t↔y∈(bk t).map λq=>((num ks q.2:Nat):Int):=by grind [yK,xV]
  rw[this,Jv];constructor
  ·rintro⟨q,hq,e⟩;refine⟨q.2,?_,e⟩;rw[←zaW [] t];exact Jv.mpr ⟨q,List.mem_reverse.mp hq,rfl⟩
  ·rintro⟨u,hu,e⟩;rw[←zaW [] t]at hu;let⟨q,hq,rfl⟩:=Jv.mp hu;exact⟨q,List.mem_reverse.mpr hq,e⟩
 let⟨us,e,hus⟩:=zfu (P:=λu=>u∈qV t) (λu=>((num ks u:Nat):Int)) (yK ks t) λx hx=>(mem x).mp hx
 have nd:(yK ks t).Nodup:=p1.nodup_iff.mpr s1;have p2:(yK ks t).Pairwise (·<=·):=p2;refine⟨us,e,?_,λu=>⟨hus u,λhu=>?_⟩⟩
 ·rw[e]at nd p2
  have:=List.Pairwise.and p2 nd;rw[List.pairwise_map]at this;exact this.imp λ⟨h1,h2⟩=>by lia
 ·have:=(mem ((num ks u:Nat):Int)).mpr ⟨u,hu,rfl⟩;rw[e]at this;let⟨u',h1,h2⟩:=Jv.mp this
  have:=zec (h.sub (hus u' h1)) (h.sub hu) (by exact Int.ofNat_inj.mp ‹_›);rw[←this];exact h1
section
variable(r:Str->Nat)(ks:U KD)
def tkL(L:U (T×T)):U KD:=L.map λq=>pk [((num ks q.1:Nat):Int),((num ks q.2:Nat):Int)]
def tvL(L:U (T×T)):U D:=L.map λq=>.bl (abB r q.1 q.2)
def HasP(L:U (T×T)):Prop:=∀q∈L,Has ks q.1/\Has ks q.2
def zjk{a b c d:T}(ha:Has ks a)(hb:Has ks b)(hc:Has ks c)(hd:Has ks d)(e:pk [((num ks a:Nat):Int),((num ks b:Nat):Int)]=pk [((num ks c:Nat):Int),((num ks d:Nat):Int)]):a=c/\b=d:=by grind [ziX,zec]
def zfB{L:U (T×T)}(hL:HasP ks L){c v:T}(h:(c,v)∈L):ziD r ks (tkL ks L) (tvL r L) c v:=by
 refine zdp (λq:T×T=>pk [((num ks q.1:Nat):Int),((num ks q.2:Nat):Int)]) (λq=>D.bl (abB r q.1 q.2)) (c,v) L h λa ha e=>?_
 let⟨h1,h2⟩:=hL a ha;let⟨h3,h4⟩:=hL _ h;let⟨e1,e2⟩:=zjk ks h1 h2 h3 h4 e;rw[e1,e2]
def znF{L:U (T×T)}(hL:HasP ks L){u v:T}(hu:Has ks u)(hv:Has ks v)(h:(u,v)∉L):pk [((num ks u:Nat):Int),((num ks v:Nat):Int)]∉tkL ks L:=λhm=>by let⟨q,hq,e⟩:=Jv.mp hm;let⟨h1,h2⟩:=hL q hq;let⟨e1,e2⟩:=zjk ks h1 h2 hu hv e;subst e1 e2;exact h hq
end
def zkT(r:Str->Nat)(ks:U KD)(L:U (T×T))(u v:T)(d0 d1 d2 lv rows hl on it:D)(x10:Option Sl)(hL:HasP ks L)(hu:Has ks u)(hv:Has ks v)(hn:(u,v)∉L)(ll:L.length<10000)(e:vT [lv,rows,.dic (tkL ks L) (tvL r L),.int ((num ks u:Nat):Int),.int ((num ks v:Nat):Int)]=some (.bl (abB r u v))):
  (gN 10 (.int ((num ks v:Nat):Int)) [some (.dat d0),some (.dat d1),some (.dat d2),some (.dat lv),some (.dat rows),some (.dat hl),some (.dat on),some (.dat it),some (.own (.dic (tkL ks L) (tvL r L))),some (.dat (.int ((num ks u:Nat):Int))),x10]).bind (zbF zI)=
   some (.nx [some (.dat d0),some (.dat d1),some (.dat d2),some (.dat lv),some (.dat rows),some (.dat hl),some (.dat on),some (.dat it),some (.own (.dic (tkL ks (L++[(u,v)])) (tvL r (L++[(u,v)])))),some (.dat (.int ((num ks u:Nat):Int))),some (.dat (.int ((num ks v:Nat):Int)))]):=by
 have kp:=zie [((num ks u:Nat):Int),((num ks v:Nat):Int)];simp only[List.map_cons,List.map_nil]at kp;have gp:gkD (.inr [Sum.inl ((num ks u:Nat):Int),Sum.inl ((num ks v:Nat):Int)])=pk [((num ks u:Nat):Int),((num ks v:Nat):Int)]:=rfl;have pn:=zbZ (ds:=tvL r L) (d:=.bl (abB r u v)) (znF ks hL hu hv hn);have z:(tkL ks L).length<1000000:=by unfold tkL;rw[Jc];exact Nat.lt_add_left _ ‹_›
 have t1:tkL ks (L++[(u,v)])=tkL ks L++[pk [((num ks u:Nat):Int),((num ks v:Nat):Int)]]:=by simp[tkL]
 have t2:tvL r (L++[(u,v)])=tvL r L++[.bl (abB r u v)]:=by simp[tvL]
 rw[t1,t2]
 dsimp! [zhJ,zlC,upX,e,kp,gp,pn,z]
def lvD(R:U Str):D:=.dic (R.map KD.str) (VS R.length)
theorem zha(f:Str):∀R:U Str,(R.map KD.str).idxOf (.str f)=R.idxOf f
 |[]=>rfl
 |x::R=>by rw[Jd,QI,QI,zha f R];grind
theorem zuG{R:U Str}{f:Str}(h:f∈R):vN (lvD R) (.str f)=some (.int ((R.idxOf f:Nat):Int)):=by
 have k:kOk (R.map KD.str)=true:=by unfold kOk;rw[List.all_map];simp
 have v:=zkO (R.map KD.str) (.str f);rw[Jc,if_pos (Jv.mpr ⟨f,h,rfl⟩),zha]at v;simp[lvD,vN,kI,k,kdK,v]
theorem zmp(n:Nat):∀(R2 R1:U Str),(R1++R2).Nodup->wB (qP (zM (gN 0) (zM (gN 1) qH))) jB (zft n) (zfv n) [none,none] (xL R1.length (R2.map D.str)) (R1.map KD.str,VS R1.length)=some ((R1++R2).map KD.str,VS (R1++R2).length)
 |[],R1,_=>by simp[xL,wB]
 |x::R2,R1,h=>by
  have nx:KD.str x∉R1.map KD.str:=λhm=>by grind
  have ih:=zmp n R2 (R1++[x]) (by rw[Jx];exact h);rw[Jr,Jt,QE,znv,Jx]at ih;have pn:=zbZ (ds:=VS R1.length) (d:=.int ((R1.length:Nat):Int)) nx;rw[Jd,xL,wB];simp only[List.map_cons,List.map_nil,List.singleton_append]at ih;rw[←ih]
  dsimp! [kI,kdK,pn]
def znE(r:Str->Nat)(ks:U KD)(R:U Str)(hr:r=λx=>R.idxOf x)(a b u:T)(us vs:U T)(d0 d1 d2 hl on it:D)(x10:Option Sl)(wf:WF ks)(kl:ks.length<=1000)(ha:Has ks a)(hb:Has ks b)(sa:a.size<64)(sb:b.size<64)(hvs:vs.Pairwise λx y=>num ks x<num ks y)(mvs:∀v,v∈vs↔v∈qV b)(hu:u∈qV a)(D0:U (T×T))(hD:HasP ks D0)(nD:∀q∈D0,q.1≠u)(kD:∀c∈u.kids,∀v∈vs,(c,v)∈D0)(lD:D0.length+vs.length<10000)(hin:∀f ss,(.nd f ss∈qV a\/.nd f ss∈qV b)->f∈R):
  ∃y10,jT (gN 10) (zbF zI) ((zY ks vs).map D.int) [some (.dat d0),some (.dat d1),some (.dat d2),some (.dat (lvD R)),some (.dat (.lst (ks.map kdD))),some (.dat hl),some (.dat on),some (.dat it),some (.own (.dic (tkL ks D0) (tvL r D0))),some (.dat (.int ((num ks u:Nat):Int))),x10]=
   some (.nx [some (.dat d0),some (.dat d1),some (.dat d2),some (.dat (lvD R)),some (.dat (.lst (ks.map kdD))),some (.dat hl),some (.dat on),some (.dat it),some (.own (.dic (tkL ks (D0++vs.map λv=>(u,v))) (tvL r (D0++vs.map λv=>(u,v))))),some (.dat (.int ((num ks u:Nat):Int))),y10]):=by
 have hasu:=ha.sub hu;let⟨ρ',f1,y10,rfl⟩:=kP (g:=gN 10) (b:=zbF zI) (xs:=(zY ks vs).map D.int)
  (ρ:=[some (.dat d0),some (.dat d1),some (.dat d2),some (.dat (lvD R)),some (.dat (.lst (ks.map kdD))),some (.dat hl),some (.dat on),some (.dat it),some (.own (.dic (tkL ks D0) (tvL r D0))),some (.dat (.int ((num ks u:Nat):Int))),x10])
  (λi ρ=>∃y10,ρ=[some (.dat d0),some (.dat d1),some (.dat d2),some (.dat (lvD R)),some (.dat (.lst (ks.map kdD))),some (.dat hl),some (.dat on),some (.dat it),some (.own (.dic (tkL ks (D0++(vs.take i).map λv=>(u,v))) (tvL r (D0++(vs.take i).map λv=>(u,v))))),some (.dat (.int ((num ks u:Nat):Int))),y10])
  ⟨x10,by simp⟩ (by
   rintro i x ρ hx ⟨y10,rfl⟩;rw[zY,Jq,List.getElem?_map]at hx;cases e:vs[i]? with
   |none=>rw[e]at hx;cases hx
   |some v=>
    rw[e]at hx;cases hx
    have hi:i<vs.length:=(List.getElem?_eq_some_iff.mp e).1;have ev:vs[i]=v:=(List.getElem?_eq_some_iff.mp e).2;have hv:=(mvs v).mp (List.mem_of_getElem? e);have hasv:=hb.sub hv;have before:∀w∈vs,num ks w<num ks v->w∈vs.take i:=λw hw lt=>by
     let⟨j,hj⟩:=Jw.mp hw;let⟨h1,e1⟩:=List.getElem?_eq_some_iff.mp hj;have hji:j<i:=by
      rcases Nat.lt_trichotomy j i with z|z|z
      ·exact z
      ·subst z;rw[e]at hj;cases hj;simp_all
      ·have:=JF.mp hvs i j hi h1 z;rw[ev,e1]at this;grind
     exact Jw.mpr ⟨j,by simp[*]⟩
    have tk:vs.take (i+1)=vs.take i++[v]:=by simp[List.take_succ_eq_append_getElem, *]
    have hL:HasP ks (D0++(vs.take i).map λv=>(u,v)):=λq hq=>by
     rcases Qe.mp hq with hq|hq
     ·exact hD q hq
     ·let⟨w,hw,rfl⟩:=Jv.mp hq;exact⟨hasu,hb.sub ((mvs w).mp (Wa hw))⟩
    have hn:(u,v)∉D0++(vs.take i).map λv=>(u,v):=λhq=>by
     rcases Qe.mp hq with hq|hq
     ·exact nD _ hq rfl
     ·let⟨w,hw,e1⟩:=Jv.mp hq;cases e1
      let⟨j,hj⟩:=Jw.mp hw;rw[List.getElem?_take]at hj;split at hj
      ·rename_i hji;let⟨h1,e1⟩:=List.getElem?_eq_some_iff.mp hj
       have:=JF.mp hvs j i h1 hi hji;rw[e1,ev]at this;simp_all
      ·cases hj
    have inner:∀d∈v.kids,d∈vs/\num ks d<num ks v:=λd hd=>by
     cases v with
     |bl x=>simp[T.kids]at hd
     |nd g ts=>
      rw[T.kids]at hd;exact⟨(mvs d).mpr (zaJ hv (zbx hd (vG d))),wf.lt hasv hd⟩
    have zu:=zaK hu;have zv:=zaK hv;have ra:=zim r ks (tkL ks (D0++(vs.take i).map λv=>(u,v))) (tvL r (D0++(vs.take i).map λv=>(u,v))) (lvD R) u v hasu hasv kl (by grind) (by rcases zv with rfl|z<;>lia)
     (λc hc=>zfB r ks hL (JP _ (kD c hc v (List.mem_of_getElem? e))))
     (λd hd=>zfB r ks hL (Jj _ (Jv.mpr ⟨d,before d (inner d hd).1 (inner d hd).2,rfl⟩)))
     (λc hc d hd=>zfB r ks hL (JP _ (kD c hc d (inner d hd).1)))
     (λf ss h=>by grind [zuG])
    have tt:=zkT r ks _ u v d0 d1 d2 (lvD R) (.lst (ks.map kdD)) hl on it y10 hL hasu hasv hn (by grind) ra;refine⟨_,.inl tt,some (.dat (.int ((num ks v:Nat):Int))),?_⟩;rw[tk,Jr,←Jx]
    rfl)
 rw[zY,Jc,Jc,QC]at f1;exact⟨y10,f1⟩
def zlV{ks:U KD}{t:T}{us:U T}(wf:WF ks)(h:Has ks t)(hp:us.Pairwise λx y=>num ks x<num ks y)(hm:∀u,u∈us↔u∈qV t):∃us',us=us'++[t]:=by
 have ht:=(hm t).mpr (vG t);let⟨A,B,rfl⟩:=List.append_of_mem ht;cases B with
 |nil=>grind
 |cons b B=>
  rw[List.pairwise_append,List.pairwise_cons]at hp;have lt:=hp.2.1.1 b (by simp);rcases wf.le h ((hm b).mp (by simp))with rfl|z
  ·simp_all
  ·lia
def zpG{ks:U KD}{t:T}{us:U T}(e:yK ks t=zY ks us):us.length<=t.size:=by have h1:=JT List.length e;rw[zY,Jc,yK,(zcx _).1.length_eq]at h1;grind [zeG,zjE,xV]
theorem zhc(vs:U T):∀l:U T,(l.flatMap λu=>vs.map λv=>(u,v)).length=l.length*vs.length
 |[]=>by simp
 |x::l=>by rw[QK,Jt,zhc vs l,Jc,JA,Nat.add_mul];lia
def zmU(R:U Str)(a b:T)(sa:a.size<64)(sb:b.size<64)(hR:R.Nodup)(lR:R.length<=1000)(hin:∀f ss,(.nd f ss∈qV a\/.nd f ss∈qV b)->f∈R):
  zcE [.lst (R.map D.str),a.d,b.d]=some (.bl (abB (Y0 5) a b)):=by
 let⟨ks,wf,ha,hb,kl,en⟩:=zkx a b sa sb;let⟨us,eu,pu,mu⟩:=zlU ha;let⟨vs,ev,pv,mv⟩:=zlU hb;have lc:=zmp zI R [] hR;simp only[List.map_nil,List.length_nil,List.nil_append,show VS 0=[]from rfl]at lc;have lu:=zpG eu;have lv:=zpG ev;generalize hr:(Y0 5)=r;let⟨ρ',f1,y9,y10,rfl⟩:=kP (g:=gN 9) (b:=zfh zI) (xs:=(zY ks us).map D.int)
  (ρ:=[some (.dat (.lst (R.map D.str))),some (.dat a.d),some (.dat b.d),some (.dat (lvD R)),some (.dat (.lst (ks.map kdD))),some (.dat (.lst [.lst ((zY ks us).map D.int),.lst ((zY ks vs).map D.int)])),some (.dat (.lst ((zY ks us).map D.int))),some (.dat (.lst ((zY ks vs).map D.int))),some (.own (.dic [] [])),none,none])
  (λi ρ=>∃y9 y10,ρ=[some (.dat (.lst (R.map D.str))),some (.dat a.d),some (.dat b.d),some (.dat (lvD R)),some (.dat (.lst (ks.map kdD))),some (.dat (.lst [.lst ((zY ks us).map D.int),.lst ((zY ks vs).map D.int)])),some (.dat (.lst ((zY ks us).map D.int))),some (.dat (.lst ((zY ks vs).map D.int))),some (.own (.dic (tkL ks ((us.take i).flatMap λu=>vs.map λv=>(u,v))) (tvL r ((us.take i).flatMap λu=>vs.map λv=>(u,v))))),y9,y10])
  ⟨none,none,by simp[tkL,tvL]⟩ (by
   rintro i x ρ hx ⟨y9,y10,rfl⟩;rw[zY,Jq,List.getElem?_map]at hx;cases e:us[i]? with
   |none=>rw[e]at hx;cases hx
   |some u=>
    rw[e]at hx;cases hx
    have hi:i<us.length:=(List.getElem?_eq_some_iff.mp e).1;have eui:us[i]=u:=(List.getElem?_eq_some_iff.mp e).2;have hu:=(mu u).mp (List.mem_of_getElem? e);have tk:us.take (i+1)=us.take i++[u]:=by rw[Jl hi,eui]
    have mem:∀q:T×T,q∈((us.take i).flatMap λu=>vs.map λv=>(u,v))↔q.1∈us.take i/\q.2∈vs:=λq=>by grind
    have before:∀w∈us,num ks w<num ks u->w∈us.take i:=λw hw lt=>by
     let⟨j,hj⟩:=Jw.mp hw;let⟨h1,e1⟩:=List.getElem?_eq_some_iff.mp hj;have hji:j<i:=by
      rcases Nat.lt_trichotomy j i with z|z|z
      ·exact z
      ·subst z;rw[e]at hj;cases hj;simp_all
      ·have:=JF.mp pu i j hi h1 z;rw[eui,e1]at this;grind
     exact Jw.mpr ⟨j,by simp[*]⟩
    have flen:((us.take i).flatMap λu=>vs.map λv=>(u,v)).length=i*vs.length:=by grind [zhc]
    have bnd:i*vs.length<=64*64:=Nat.mul_le_mul (by lia) (by lia);let⟨z10,f2⟩:=znE r ks R hr.symm a b u us vs (.lst (R.map D.str)) a.d b.d (.lst [.lst ((zY ks us).map D.int),.lst ((zY ks vs).map D.int)]) (.lst ((zY ks us).map D.int)) (.lst ((zY ks vs).map D.int)) y10 wf (by lia) ha hb sa sb pv mv hu
     ((us.take i).flatMap λu=>vs.map λv=>(u,v)) (λq hq=>⟨ha.sub ((mu _).mp (Wa ((mem q).mp hq).1)),hb.sub ((mv _).mp ((mem q).mp hq).2)⟩)
     (λq hq z=>by
      have h1:=((mem q).mp hq).1;rw[z]at h1;let⟨j,hj⟩:=Jw.mp h1;rw[List.getElem?_take]at hj;split at hj
      ·rename_i hji;let⟨h1,e1⟩:=List.getElem?_eq_some_iff.mp hj
       have:=JF.mp pu j i h1 hi hji;rw[e1,eui]at this;simp_all
      ·cases hj)
     (λc hc v hv=>(mem (c,v)).mpr ⟨before c ((mu c).mpr (by
      cases u with
      |bl x=>simp[T.kids]at hc
      |nd f ts=>rw[T.kids]at hc;exact zaJ hu (zbx hc (vG c)))) (by
      cases u with
      |bl x=>simp[T.kids]at hc
      |nd f ts=>rw[T.kids]at hc;exact wf.lt (ha.sub hu) hc),hv⟩) (by rw[flen];lia) hin
    have fm:(us.take (i+1)).flatMap (λu=>vs.map λv=>(u,v))=((us.take i).flatMap λu=>vs.map λv=>(u,v))++vs.map λv=>(u,v):=by rw[tk,List.flatMap_append];simp
    rw[←fm]at f2;refine⟨_,.inl ?_,some (.dat (.int ((num ks u:Nat):Int))),z10,rfl⟩;generalize tkL ks ((us.take i).flatMap λu=>vs.map λv=>(u,v))=K1 at*;generalize tvL r ((us.take i).flatMap λu=>vs.map λv=>(u,v))=V1 at*;generalize tkL ks ((us.take (i+1)).flatMap λu=>vs.map λv=>(u,v))=K2 at*;generalize tvL r ((us.take (i+1)).flatMap λu=>vs.map λv=>(u,v))=V2 at*;generalize (zY ks vs).map D.int=N2 at*;generalize (zY ks us).map D.int=N1 at*;simp only[Sl.own]at f2
    dsimp! [f2])
 rw[show((zY ks us).map D.int).length=us.length by simp[zY],QC]at f1;let⟨us',rfl⟩:=zlV wf ha pu mu;let⟨vs',rfl⟩:=zlV wf hb pv mv;have tl:=zfC r ks _ _ (zfB r ks (L:=(us'++[a]).flatMap λu=>(vs'++[b]).map λv=>(u,v)) (c:=a) (v:=b) (λq hq=>by let⟨w,hw,hq⟩:=Wg.mp hq;let⟨v,hv,rfl⟩:=Jv.mp hq;exact⟨ha.sub ((mu w).mp hw),hb.sub ((mv v).mp hv)⟩) (Wg.mpr ⟨a,by simp,Jv.mpr ⟨b,by simp,rfl⟩⟩))
 have la:atI ((zY ks (us'++[a])).map D.int) (-1)=some (.int ((num ks a:Nat):Int)):=by rw[zY,Jr,Jr];exact zdD _ _
 have lb:atI ((zY ks (vs'++[b])).map D.int) (-1)=some (.int ((num ks b:Nat):Int)):=by simp[zY.eq_1,zdD]
 rw[eu,ev]at en;have rl:(xL 0 (R.map D.str)).length<=1000000:=by grind [wS]
 have lvd:D.dic (R.map KD.str) (VS R.length)=lvD R:=rfl;generalize tkL ks ((us'++[a]).flatMap λu=>(vs'++[b]).map λv=>(u,v))=K2 at*;generalize tvL r ((us'++[a]).flatMap λu=>(vs'++[b]).map λv=>(u,v))=V2 at*;generalize (zY ks (us'++[a])).map D.int=N1 at*;generalize (zY ks (vs'++[b])).map D.int=N2 at*;simp only[Sl.own]at f1
 dsimp! [zcE,zfs,cEnL,lc,rl,lvd,en,xY,wR,f1,la,lb,tl]
mutual
theorem ztN(r:Str->Nat)(y:Str):∀t:T,(t=.bl y\/Abv r t (.bl y))↔y∈vs t
 | .bl x=>by
  rw[vs];constructor
  ·rintro(h|h)
   ·cases h;simp
   ·exact absurd h zhw
  ·intro h;simp at h;subst h;exact .inl rfl
 | .nd f ss=>by
  rw[vs,←ziA r y ss,zeI];constructor
  ·rintro(h|h)
   ·cases h
   ·exact h
  ·exact .inr
theorem ziA(r:Str->Nat)(y:Str):∀ts:U T,(∃s∈ts,s=.bl y\/Abv r s (.bl y))↔y∈vsL ts
 |[]=>by simp[vsL]
 |t::ts=>by
  rw[vsL,Qe,←ztN r y t,←ziA r y ts];simp only[List.mem_cons];constructor
  ·rintro⟨s,rfl|h1,h2⟩
   ·exact .inl h2
   ·exact .inr ⟨s,h1,h2⟩
  ·rintro(h|⟨s,h1,h2⟩)
   ·exact⟨t,.inl rfl,h⟩
   ·exact⟨s,.inr h1,h2⟩
end
def yY(R:U Str)(t:T):Prop:=∀f ss,.nd f ss∈qV t->f∈R
def yY.kid{R:U Str}{f:Str}{ss:U T}(h:yY R (.nd f ss)){s:T}(hs:s∈ss):yY R s:=λg ts hg=>h g ts (zbx hs hg)
def eqb(s t:T):Bool:=@decide (s=t) (Classical.propDecidable _)
theorem zty{s t:T}:eqb s t=true↔s=t:=by simp[eqb]
def zuR{s t:T}:eqb s t=false↔¬s=t:=by simp[eqb]
def eq_b(s t:T)(h:s.depth<=90):eqB s.d t.d=some (.bl (eqb s t)):=eq_T s t h
def ne_b(s t:T)(h:s.depth<=90):neB s.d t.d=some (.bl (!eqb s t)):=ne_T s t h
theorem ziI:∀ss ts:U T,match(ss.zip ts).find? (λp=>!eqb p.1 p.2)with
  |some p=>p.1∈ss/\p.2∈ts/\Unl ss ts p.1 p.2/\∀c d,Unl ss ts c d->c=p.1/\d=p.2
  |none=>∀c d,¬Unl ss ts c d
 |[],ts=>λc d=>zkP
 |s::ss,[]=>λc d=>ziH
 |s::ss,t::ts=>by
  have ih:=ziI ss ts;by_cases e:s=t
  ·subst e;have e1:eqb s s=true:=zty.mpr rfl;simp only[List.zip_cons_cons,List.find?_cons,e1,Bool.not_true];cases e2:(ss.zip ts).find? λp=>!eqb p.1 p.2 with
   |none=>
    rw[e2]at ih;intro c d h;rcases wI.mp h with⟨z,_⟩|⟨_,z⟩
    ·exact z rfl
    ·exact ih c d z
   |some p=>
    rw[e2]at ih;refine⟨.tail _ ih.1,.tail _ ih.2.1,wI.mpr (.inr ⟨rfl,ih.2.2.1⟩),λc d h=>?_⟩;rcases wI.mp h with⟨z,_⟩|⟨_,z⟩
    ·exact absurd rfl z
    ·exact ih.2.2.2 c d z
  ·have e1:eqb s t=false:=zuR.mpr e;simp only[List.zip_cons_cons,List.find?_cons,e1,Bool.not_false];refine⟨.head _,.head _,wI.mpr (.inl ⟨e,rfl,rfl⟩),λc d h=>?_⟩;rcases wI.mp h with⟨_,z⟩|⟨z,_⟩
   ·exact z
   ·exact absurd z e
def ix_R{R:U Str}{f:Str}(lR:R.length<1000)(h:f∈R):zfl (.lst (R.map D.str)) (.str f)=some (.int ((R.idxOf f:Nat):Int)):=by have:=JS.mpr h;simp[zfl,zeS,this,lR]
theorem zmD{R:U Str}{f g:Str}(h:f∈R)(e:R.idxOf f=R.idxOf g):f=g:=by have h1:=JS.mpr h;have h2:=Wp h1;have h3:=Wp (e▸h1:R.idxOf g<R.length);rw[←h2,←h3];simp[e]
def zqd{ps:SI}{bs R:U Str}(hR:∀p∈ps,p.1∈R){t:T}(h:WT ps bs t):yY R t:=by
 induction h with
 |bl hx=>intro f ss z;simp[qV]at z
 |nd hs hk ih=>
  intro f ss z;rcases JJ.mp z with e|e
  ·cases e;exact hR _ hs
  ·let⟨c,hc,hu⟩:=nG.mp e;exact ih c hc f ss hu
def zmZ{α:Type}{l:List α}{lo hi:Option Int}{x:α}(h:x∈jX l lo hi):x∈l:=List.mem_of_mem_drop (Wa h)
section
variable{r:Str->Nat}
def zbL{f:Str}{ss:U T}{s:T}(h:s∈ss):s.size<(T.nd f ss).size:=by have:=xF h;rw[T.size];simp+arith [*]
theorem zns:∀(s:T) {g:Str}{ts:U T} {t:T},Abv r s (.nd g ts)->t∈ts->Abv r s t
 | .bl x,_,_,_,h,_=>absurd h zhw
 | .nd f ss,g,ts,t,h,ht=>by
  cases h with
  |here h=>exact .sub h (.here ht)
  |sub h1 h2=>exact .sub h1 (zns _ h2 ht)
  |prec _ h2=>exact h2 t ht
  |lex h1=>exact h1 t ht
termination_by s=>s.size
decreasing_by exact zbL (by assumption)
theorem znt:∀t:T,¬Abv r t t
 | .bl x,h=>zhw h
 | .nd f ss,h=>by
  cases h with
  |here h=>have:=zbL (f:=f) h;simp_all
  |@sub _ _ s _ h1 h2=>exact znt s (zns _ h2 h1)
  |prec h1=>simp_all
  |lex _ h2 h3 _ h5=>simp[*]at*
termination_by t=>t.size
decreasing_by exact zbL (by assumption)
def zpZ{s t:T}(h:Abv r s t):s≠t:=by grind [znt]
def ztO{f:Str}{ss:U T}{i:Nat}{s t:T}(hi:i<ss.length)(h:Abv r s t):Abv r (.nd f (ss.set i s)) (.nd f (ss.set i t)):=by
 refine .lex (i:=i) (λu hu=>?_) (by simp[hi]) (by simp[hi]) ?_ (zpZ h) h
 ·rcases List.mem_or_eq_of_mem_set hu with h1|h1
  ·let⟨j,hj,e⟩:=Qg.mp hu;by_cases ej:i=j
   ·subst ej;rw[List.getElem_set_self]at e;subst e;exact .sub (Qg.mpr ⟨i,by simpa using hi,by simp⟩) h
   ·rw[List.getElem_set_ne ej]at e;exact .here (Qg.mpr ⟨j,by simpa using hj,by rw[List.getElem_set_ne ej];exact e⟩)
  ·subst h1;exact .sub (Qg.mpr ⟨i,by simpa using hi,by simp⟩) h
 grind [List.take_set,List.set_eq_of_length_le]
def zcJ(φ:Fil)(f:Str)(ts:U T):qA φ (.nd f ts)=.nd f (ts.map (qA φ)):=by rw[qA];congr 1;induction ts with
 |nil=>simp[kG]
 |cons t ts ih=>simp[kG,ih]
def Abv.fill(φ:Fil){s t:T}(h:Abv r s t):Abv r (qA φ s) (qA φ t):=by
 induction h with
 |here h=>rw[zcJ];exact .here (List.mem_map_of_mem h)
 |sub h1 _ ih=>rw[zcJ];exact .sub (List.mem_map_of_mem h1) ih
 |prec h1 _ ih=>
  rw[zcJ]at*;rw[zcJ];exact .prec h1 λu hu=>by grind
 |lex _ h2 h3 h4 h5 h6 ih ihc=>
  rw[zcJ]at*;rw[zcJ];refine .lex (λu hu=>by grind) (by rw[List.getElem?_map,h2];rfl) (by simp[*]) (by rw[←WG,←WG,h4]) (zpZ ihc) ihc
end
def zgx{α:Type}{l:List α}{i:Nat}{x:α}(e:l[i]?=some x):l.take (i+1)=l.take i++[x]:=by grind [List.take_succ_eq_append_getElem]
noncomputable def sgp:U (U Int×T)->U Str
 |[]=>[]
 |(_,.bl _)::r=>sgp r
 |(_,.nd s _)::r=>s::sgp r
theorem zfG:∀a b:U (U Int×T),sgp (a++b)=sgp a++sgp b
 |[],b=>by simp[sgp]
 |(_,.bl x)::r,b=>by rw[JC,sgp,sgp,zfG r b]
 |(_,.nd _ _)::r,b=>by rw[JC,sgp,sgp,zfG r b,JC]
mutual
theorem zcy(p:U Int):∀t:T,sgp (zQ p t)=sg t
 | .bl x=>by simp[zQ,sgp,sg]
 | .nd s ts=>by rw[zQ,sgp,zdJ p 0 ts,sg]
theorem zdJ(p:U Int):∀(k:Nat) (ts:U T),sgp (jD p k ts)=sgL ts
 |_,[]=>by simp[jD,sgp,sgL]
 |k,t::r=>by rw[jD,zfG,zcy (p++[(k:Int)]) t,zdJ p (k+1) r,sgL]
end
theorem zfF:∀l:U (U Int×T),(sgp l).length<=l.length
 |[]=>by simp[sgp]
 |(_,.bl x)::r=>by have:=zfF r;simp[sgp];lia
 |(_,.nd _ _)::r=>by have:=zfF r;simp[sgp];exact this
def zrR(t:T):(sg t).length<=t.size:=by have:=zfF (zQ [] t);rw[zcy,nL]at this;exact this
theorem zlg:∀ts:U T,(sgL ts).length<=T.sizes ts
 |[]=>by simp[sgL]
 |t::r=>by have:=zrR t;have:=zlg r;grind [sgL.eq_2,T.sizes.eq_2]
def zll(l:U Str):(TS.setOf l).length<=l.length:=by have:=TS.setOf_len_aux l [];simpa[TS.setOf]using this
def zjS(l:U Str)(x:Str):TS.setOf (l++[x])=TS.addT (TS.setOf l) x:=by simp[TS.setOf]
def znM(ts0:D)(t:T)(L:U Str)(hL:L.length+t.size<=1000)(k3 k4:Option Sl)(hz:t.size<=1000):
  ∃k3' k4',jT (qP (zM (gN 3) (zM (gN 4) qH))) (zbc zI) ((zQ [] t).map pd) [some (.dat ts0),some (.own (.set ((TS.setOf L).map KD.str))),some (.dat t.d),k3,k4]=
   some (.nx [some (.dat ts0),some (.own (.set ((TS.setOf (L++sg t)).map KD.str))),some (.dat t.d),k3',k4']):=by
 have hl:=nL [] t;let⟨ρ',f1,k3',k4',rfl⟩:=kP (g:=qP (zM (gN 3) (zM (gN 4) qH))) (b:=zbc zI) (xs:=(zQ [] t).map pd) (ρ:=[some (.dat ts0),some (.own (.set ((TS.setOf L).map KD.str))),some (.dat t.d),k3,k4])
  (λi ρ=>∃k3 k4:Option Sl,ρ=[some (.dat ts0),some (.own (.set ((TS.setOf (L++sgp ((zQ [] t).take i))).map KD.str))),some (.dat t.d),k3,k4]) ⟨k3,k4,by simp[sgp]⟩ (by
   rintro i x ρ hx ⟨k3,k4,rfl⟩;rw[List.getElem?_map]at hx;cases e:(zQ [] t)[i]? with
   |none=>rw[e]at hx;cases hx
   |some q=>
    rw[e]at hx;cases hx
    let⟨p,u⟩:=q;have ib:=vB u;have l1:=zll (L++sgp ((zQ [] t).take i));have l2:=zfF ((zQ [] t).take i);rw[QN]at l2;rw[Jt]at l1;rw[zgx e,zfG,←Jx];generalize hM:L++sgp ((zQ [] t).take i)=M at l1;have hs:(TS.setOf M).length+1<scanBound:=by unfold scanBound;grind
    cases u with
    |bl y=>
     simp only[T.isBl]at ib;refine⟨[some (.dat ts0),some (.own (.set ((TS.setOf M).map KD.str))),some (.dat t.d),some (.dat (.tup (p.map D.int))),some (.dat (T.bl y).d)],.inl ?_,some (.dat (.tup (p.map D.int))),some (.dat (T.bl y).d),by simp[sgp]⟩
     dsimp! [pd,ib]
    |nd s us=>
     simp only[T.isBl]at ib;refine⟨[some (.dat ts0),some (.own (.set ((TS.addT (TS.setOf M) s).map KD.str))),some (.dat t.d),some (.dat (.tup (p.map D.int))),some (.dat (T.nd s us).d)],.inl ?_,some (.dat (.tup (p.map D.int))),some (.dat (T.nd s us).d),?_⟩
     ·rw[qX]at ib ⊢
      dsimp! [pd,qX,ib,addM,zdy,hs]
     simp[sgp,zjS])
 rw[Jc,QC,zcy]at f1;exact⟨k3',k4',f1⟩
def zeu(ts:U T)(hz:T.sizes ts<=400)(l3:(TS.setOf (sgL ts)).length<64):zam [.lst (ts.map T.d)]=some (.lst ((zhC (TS.setOf (sgL ts))).map D.str)):=by
 let⟨ρ',f1,k2,k3,k4,rfl⟩:=kP (g:=gN 2) (b:=zch zI) (xs:=ts.map T.d) (ρ:=[some (.dat (.lst (ts.map T.d))),some (.own (.set [])),none,none,none])
  (λi ρ=>∃k2 k3 k4:Option Sl,ρ=[some (.dat (.lst (ts.map T.d))),some (.own (.set ((TS.setOf (sgL (ts.take i))).map KD.str))),k2,k3,k4]) ⟨none,none,none,by simp[sgL,TS.setOf]⟩ (by
   rintro i x ρ hx ⟨k2,k3,k4,rfl⟩;rw[List.getElem?_map]at hx;cases e:ts[i]? with
   |none=>rw[e]at hx;cases hx
   |some t=>
    rw[e]at hx;cases hx
    have hm:=List.mem_of_getElem? e;have d2:=xF hm;have l1:=zlg (ts.take i);have l2:=zjR ts i;have pp:=zah t (by lia);let⟨k3',k4',f2⟩:=znM (.lst (ts.map T.d)) t (sgL (ts.take i)) (by lia) k3 k4 (by lia);have e2:sgL [t]=sg t:=by simp[sgL]
    rw[zgx e,zlh,e2]
    dsimp! [pp,f2])
 dsimp! [zam,f1,znL,zdy,l3]
theorem zcv:∀{R:U Str}{f g:Str},R.idxOf f<R.idxOf g->g∈R->[f,g].Sublist R
 |[],f,g,h,hg=>by cases hg
 |a::R,f,g,h,hg=>by
  rw[QI,QI]at h;by_cases ea:a=f
  ·grind
  ·by_cases eg:a=g
   ·subst eg;simp at h
   ·have e1:=Wo ea;have e2:=Wo eg;rw[e1,e2]at h;simp only[cond_false]at h;exact .cons _ (zcv (by simp_all) ((JJ.mp hg).resolve_left (Ne.symm eg)))
def zkr:∀{R:U Str}{f g:Str},R.Nodup->[f,g].Sublist R->R.idxOf f<R.idxOf g
 |[],f,g,n,h=>by cases h
 |a::R,f,g,n,h=>by grind
theorem zjo{R R':U Str}(h:R.Sublist R')(n:R'.Nodup){f g:Str}(hg:g∈R)(hl:R.idxOf f<R.idxOf g):R'.idxOf f<R'.idxOf g:=zkr n ((zcv hl hg).trans h)
def Abv.ord{r r':Str->Nat}{S:U Str}(hr:∀f∈S,∀g∈S,r g<r f->r' g<r' f){s t:T}(h:Abv r s t):yY S s->yY S t->Abv r' s t:=by
 induction h with
 |here h=>intro _ _;exact .here h
 |sub h1 _ ih=>intro a b;exact .sub h1 (ih (a.kid h1) b)
 |@prec f g ss ts h1 _ ih=>intro a b;exact .prec (hr f (a f ss (vG _)) g (b g ts (vG _)) h1) λu hu=>ih u hu a (b.kid hu)
 |lex _ h2 h3 h4 h5 _ ih ihc=>intro a b;exact .lex (λu hu=>ih u hu a (b.kid hu)) h2 h3 h4 h5 (ihc (a.kid (List.mem_of_getElem? h2)) (b.kid (List.mem_of_getElem? h3)))
def znr{R R':U Str}(h:R.Sublist R')(n:R'.Nodup){s t:T}(hs:yY R s)(ht:yY R t)(a:Abv (Y0 5) s t):Abv (λx=>R'.idxOf x) s t:=
 a.ord (S:=R) (λf hf g _ hl=>zjo h n hf hl) hs ht
mutual
theorem zhD:∀(t:T) (f:Str),f∈sg t↔∃ss,.nd f ss∈qV t
 | .bl x,f=>by simp[sg,qV]
 | .nd g ts,f=>by
  rw[sg,qV];simp only[List.mem_cons,ziO ts f,T.nd.injEq];constructor
  ·rintro(rfl|⟨ss,h⟩)
   ·exact⟨ts,.inl ⟨rfl,rfl⟩⟩
   ·exact⟨ss,.inr h⟩
  ·rintro⟨ss,⟨rfl,_⟩|h⟩
   ·exact .inl rfl
   ·exact .inr ⟨ss,h⟩
theorem ziO:∀(ts:U T) (f:Str),f∈sgL ts↔∃ss,.nd f ss∈xI ts
 |[],f=>by simp[sgL,xI]
 |t::r,f=>by
  rw[sgL,xI];simp only[List.mem_append,zhD t f,ziO r f];constructor
  ·rintro(⟨s,h⟩|⟨s,h⟩)
   ·exact⟨s,.inl h⟩
   ·exact⟨s,.inr h⟩
  ·rintro⟨s,h|h⟩
   ·exact .inl ⟨s,h⟩
   ·exact .inr ⟨s,h⟩
end
def zdr{R:U Str}{t:T}:yY R t↔∀f∈sg t,f∈R:=by
 constructor
 ·intro h f hf;let⟨ss,hs⟩:=(zhD t f).mp hf;exact h f ss hs
 ·intro h f ss hs;exact h f ((zhD t f).mpr ⟨ss,hs⟩)
def srt(l:U Str):U Str:=zhC (TS.setOf l)
def zpu(l:U Str):(srt l).Nodup:=(zcw _).1.nodup_iff.mpr (zbz l).1
theorem nH(l:U Str)(x:Str):x∈srt l↔x∈l:=((zcw _).1.mem_iff).trans ((zbz l).2 x)
theorem zpt(l:U Str):(srt l).Pairwise leS:=(zcw _).2
def zqi{l:U Str}{x y:Str}(hx:x∈l)(hy:y∈l)(h:leS x y):(srt l).idxOf x<=(srt l).idxOf y:=by
 refine Nat.le_of_not_lt λz=>?_
 have s1:=zcv z ((nH l x).mpr hx);grind [zpt,zji]
def kA(r:T×T):Str:=(srt (sgL [r.1,r.2])).getLastD ""
def zfW{r:T×T}(h:r.1.isBl=false):∃l,srt (sgL [r.1,r.2])=l++[kA r]:=by
 have ne:srt (sgL [r.1,r.2])≠[]:=λz=>by
  cases e:r.1 with
  |bl x=>rw[e]at h;cases h
  |nd f ts=>
   have:f∈srt (sgL [r.1,r.2]):=(nH _ _).mpr (by rw[e];simp[sgL,sg]);grind
 refine⟨(srt (sgL [r.1,r.2])).dropLast,?_⟩;grind [kA,List.dropLast_concat_getLast]
def zqV{r:T×T}(h:r.1.isBl=false){x:Str}(hx:x∈sgL [r.1,r.2]):leS x (kA r):=by let⟨l,e⟩:=zfW h;have pw:=zpt (sgL [r.1,r.2]);have hm:=(nH _ _).mpr hx;grind [zbP]
def zjj{r:T×T}(h:r.1.isBl=false):kA r∈sgL [r.1,r.2]:=by let⟨l,e⟩:=zfW h;exact(nH _ _).mp (by rw[e];simp)
theorem zhd{α β:Type}{f:α->List β}{n:Nat}:∀l:List α,(∀x∈l,(f x).length<=n)->(l.flatMap f).length<=l.length*n
 |[],_=>by simp
 |x::l,h=>by
  rw[QK,Jt,JA,Nat.add_mul]
  have:=h x (by simp)
  have:=zhd l λy hy=>h y (Ji _ hy)
  lia
def zrl(ps:SI)(bs:U Str)(hps:ps.length<=100)(ap:∀s k k',(s,k)∈ps->(s,k')∈ps->k=k')(rs:U (T×T))(R:zcU rs)(hr:∀r∈rs,r.1.isBl=false/\(∀x∈vs r.2,x∈vs r.1)/\WT ps bs r.1/\WT ps bs r.2):
  gI [.lst (rs.map rD),.lst []]=some .non:=by
 have rl:=R.len;have sd:=zil rs (by lia);have ln:(Y0 6).length<=100:=by
  have:=zhd (n:=2) (f:=λr:T×T=>[r.1,r.2]) rs λ_ _=>by simp
  lia
 have tw:=zhe ps bs hps ap (Y0 6) (λu hu=>by
  let⟨r,hr',hu⟩:=Wg.mp hu;have h1:=hr r hr';have h2:=R.lz r hr';have h3:=R.rz r hr';simp at hu;rcases hu with rfl|rfl
  ·exact⟨h1.2.2.1,by lia⟩
  ·exact⟨h1.2.2.2,by lia⟩)
 let⟨ρ',f1,k2,k3,k4,rfl⟩:=kP (g:=gN 2) (b:=zay zI) (xs:=rs.map rD) (ρ:=[some (.dat (.lst (rs.map rD))),some (.dat (.lst [])),none,none,none,none])
  (λi ρ=>∃k2 k3 k4:Option Sl,ρ=[some (.dat (.lst (rs.map rD))),some (.dat (.lst [])),k2,k3,k4,none]) ⟨none,none,none,rfl⟩ (by
   rintro i x ρ hx ⟨k2,k3,k4,rfl⟩;let⟨r,hr',rfl⟩:=Jv.mp (List.mem_of_getElem? hx);have h1:=hr r hr';have h2:=R.lz r hr';have h3:=R.rz r hr';have ir:=zhh r.1 r.2 h1.1 h1.2.1 (by lia) (by lia);refine⟨[some (.dat (.lst (rs.map rD))),some (.dat (.lst [])),some (.dat (rD r)),some (.dat r.1.d),some (.dat r.2.d),none],.inl ?_,_,_,_,rfl⟩
   dsimp! [rD,ir])
 have l2:((Y0 6).map T.d).length<=1000000:=by grind
 generalize (Y0 6).map T.d=SS at sd tw l2
 dsimp! [gI,runN,f1,sd,l2,tw]
def zmS(R:U Str)(hR:R.Nodup)(lR:R.length<=100)(rs:U (T×T))(hs:∀r∈rs,yY R r.1/\yY R r.2/\r.1.size<64/\r.2.size<64):
  zaP [.lst (R.map D.str),.lst (rs.map rD)]=some (.bl (rs.all λr=>abB (Y0 5) r.1 r.2)):=by
 have L1:=zdB (h:=rD) (p:=λr=>!abB (Y0 5) r.1 r.2) (g:=qP (zM (gN 2) (zM (gN 3) qH))) (b:=zdb zI) rs (λ_ fl=>∃ρ,fl=.rt (.bl false) ρ)
  (λ_ ρ=>∃x2 x3,ρ=[some (.dat (.lst (R.map D.str))),some (.dat (.lst (rs.map rD))),x2,x3]) (by
   rintro K r M ρ hw ⟨x2,x3,rfl⟩;have hr:r∈rs:=by simp[*]
   let⟨h1,h2,h3,h4⟩:=hs r hr;have e1:=zmU R r.1 r.2 h3 h4 hR (by lia) (λf ss h=>by rcases h with h|h;exact h1 f ss h;exact h2 f ss h);generalize rs.map rD=RR at*;cases ea:abB (Y0 5) r.1 r.2 with
   |false=>
    rw[ea]at e1;refine⟨.rt (.bl false) [some (.dat (.lst (R.map D.str))),some (.dat (.lst RR)),some (.dat r.1.d),some (.dat r.2.d)],?_,⟨_,rfl⟩,.inl ⟨_,_,rfl⟩⟩
    dsimp! [e1,rD]
   |true=>
    rw[ea]at e1
    dsimp! [e1,rD])
  rs [] [some (.dat (.lst (R.map D.str))),some (.dat (.lst (rs.map rD))),none,none] rfl ⟨none,none,rfl⟩
 cases e:rs.find? λr=>!abB (Y0 5) r.1 r.2 with
 |some r=>
  rw[e]at L1;let⟨_,h1,⟨ρ,rfl⟩,_⟩:=L1
  have:(rs.all λr=>abB (Y0 5) r.1 r.2)=false:=by grind
  rw[this]
  dsimp! [zaP,h1]
 |none=>
  rw[e]at L1;let⟨_,h1,x2,x3,rfl⟩:=L1
  have:(rs.all λr=>abB (Y0 5) r.1 r.2)=true:=by grind
  rw[this]
  dsimp! [zaP,h1]
theorem zhm:∀(sg p7:U Str),(p7++sg).Nodup->wA (gN 0) jB (zaj zI) [none] (sg.map D.str) (p7.map KD.str)=some ((p7++sg).map KD.str)
 |[],p7,_=>by simp[wA]
 |s::sg,p7,h=>by
  have hs:KD.str s∉p7.map KD.str:=by
   intro z;let⟨y,hy,e⟩:=Jv.mp z;cases e
   exact(Wv.mp h).2.2 _ hy _ (by simp) rfl
  have ih:=zhm sg (p7++[s]) (by simpa using h);rw[Jr,Jx]at ih;have e1:gN 0 (D.str s) [none]=some [some (.dat (.str s))]:=rfl;simp only[List.map_cons,wA,e1,Option.bind_some,jB,if_true,zaj,gv,List.getElem?_cons_zero,kI];rw[if_neg (show kdK (.inr s)∉p7.map KD.str from hs)];exact ih
def byK(rs:U (T×T))(s:Str):U (T×T):=rs.filter λr=>decide (kA r=s)
theorem zlj{α:Type}:∀(sg:U Str) (F:Str->List α) (s:Str) (x:α),sg.Nodup->s∈sg->(sg.map F).set (sg.idxOf s) (F s++[x])=sg.map λu=>if u=s then F u++[x]else F u
 |[],F,s,x,_,h=>by cases h
 |a::sg,F,s,x,n,h=>by
  have n1:=(JR.mp n).1;rw[QI];by_cases e:a=s
  ·subst e;simp only[beq_self_eq_true,cond_true,List.map_cons,List.set_cons_zero,if_true,List.cons.injEq,true_and];refine JD λu hu=>?_
   rw[if_neg λz=>by subst z;exact n1 hu]
  ·rw[Wo e];simp only[cond_false,List.map_cons,List.set_cons_succ,if_neg e,List.cons.injEq,true_and];exact zlj sg F s x (JR.mp n).2 ((JJ.mp h).resolve_left (Ne.symm e))
theorem zpQ:∀(sg:U Str) (s:Str),(sg.map KD.str).idxOf (KD.str s)=sg.idxOf s
 |[],s=>rfl
 |a::sg,s=>by
  rw[Jd,QI,QI];by_cases e:a=s
  ·subst e;simp
  ·have e1:=Wo e;have e2:(KD.str a==KD.str s)=false:=Wo λz=>e (by grind)
   rw[e1,e2,zpQ sg s]
theorem zjp(sg:U Str)(hn:sg.Nodup)(A:D)(s1:Option Sl):∀(rs P:U (T×T)) (x3:Option Sl),(∀r∈rs,r.1.isBl=false/\r.1.size<=60/\r.2.size<=60/\kA r∈sg/\(TS.setOf (sgL [r.1,r.2])).length<64)->P.length+rs.length<=1000->
  ∃x3',vX 3 (zai zI) (gv 3) (sg.map KD.str) (rs.map rD) (sg.map λs=>(byK P s).map rD) [some (.dat A),s1,none,x3]=some (sg.map λs=>(byK (P++rs) s).map rD,[some (.dat A),s1,none,x3'])
 |[],P,x3,_,_=>⟨x3,by simp[vX]⟩
 |r::rs,P,x3,h,hl=>by
  let⟨h1,h2,h3,h4,h5⟩:=h r (by simp);have so:=zeu [r.1,r.2] (by simp only[T.sizes];lia) h5;let⟨l,el⟩:=zfW h1;have so':zam [.lst [r.1.d,r.2.d]]=some (.lst ((l++[kA r]).map D.str)):=by rw[←el];exact so
  have al:atI ((l++[kA r]).map D.str) (-1)=some (.str (kA r)):=by simp[zdD]
  generalize (l++[kA r]).map D.str=Z at so' al;have ix:=zpQ sg (kA r);have gl:(sg.map λs=>(byK P s).map rD)[sg.idxOf (kA r)]?=some ((byK P (kA r)).map rD):=by
   rw[List.getElem?_map]
   have:=JS.mpr h4;rw[List.getElem?_eq_getElem this,Wp this];rfl
  have ln:((byK P (kA r)).map rD).length<lim:=by grind [byK]
  let⟨x3',ih⟩:=zjp sg hn A s1 rs (P++[r]) (some (.dat (rD r))) (λq hq=>h q (Ji _ hq)) (by simp at hl ⊢;lia);rw[Jx]at ih;refine⟨x3',?_⟩;have sm:=zlj sg (λs=>(byK P s).map rD) (kA r) (rD r) hn h4;have sm2:(sg.map λu=>if u=kA r then(byK P u).map rD++[rD r]else(byK P u).map rD)=sg.map λs=>(byK (P++[r]) s).map rD:=by
   refine JD λu _=>?_
   unfold byK;grind
  rw[sm2]at sm;have k1:zai zI [some (.dat A),s1,none,some (.dat (rD r))]=some (.str (kA r)):=by dsimp! [rD,so',al]
  simp only[List.map_cons,vX,List.set_cons_succ,List.set_cons_zero,k1,Option.bind_some,kI,kdK,ix,gl,ln,if_true,gv,List.getElem?_cons_succ,List.getElem?_cons_zero,sm];exact ih
def zev(sg:U Str)(hn:sg.Nodup)(ls:sg.length<=1000)(rs:U (T×T))(h:∀r∈rs,r.1.isBl=false/\r.1.size<=60/\r.2.size<=60/\kA r∈sg/\(TS.setOf (sgL [r.1,r.2])).length<64)(hl:rs.length<=1000):
  zac [.lst (rs.map rD),.lst (sg.map D.str)]=some (.dic (sg.map KD.str) (sg.map λs=>.lst ((byK rs s).map rD))):=by
 have ck:=zhm sg [] (by simpa using hn);let⟨x3',gl⟩:=zjp sg hn (.lst (rs.map rD)) (some (.dat (.lst (sg.map D.str)))) rs [] none h (by simpa using hl);have e0:(sg.map λs=>(byK [] s).map rD)=List.replicate (sg.map KD.str).length []:=by
  clear ck gl h hn ls;induction sg with
  |nil=>rfl
  |cons a sg ih=>grind [byK]
 rw[e0]at gl;simp only[List.map_nil,List.nil_append]at ck gl;have ll:(sg.map λs=>(byK rs s).map rD).map D.lst=sg.map λs=>.lst ((byK rs s).map rD):=by simp_all
 rw[Jc]at gl;have l2:sg.length<=1000000:=by lia
 simp only[zac,qI,kZ,zF,grpM]
 dsimp! [ad,ck,gl,l2,adB,adS,jC]
noncomputable def ins(R:U Str)(s:Str)(a:Nat):U Str:=R.take a++[s]++R.drop a
def zrc(R:U Str)(s:Str)(a:Nat):R.Sublist (ins R s a):=by grind [ins,List.take_append_drop]
def zjm(R:U Str)(s:Str)(a:Nat):(ins R s a).Perm (s::R):=by unfold ins;have h:(R.take a++[s]++R.drop a).Perm ([s]++R.take a++R.drop a):=(List.perm_append_comm).append_right _;refine h.trans ?_;rw[Jx,Ql];exact .refl _
theorem zen(R:U Str)(s:Str)(a:Nat):(ins R s a).length=R.length+1:=by rw[(zjm R s a).length_eq];rfl
def zti{R Q:U Str}{s:Str}(h:R.Sublist Q)(hs:s∈Q)(hn:s∉R):∃a,a<=R.length/\(ins R s a).Sublist Q:=by
 let⟨Q1,Q2,rfl⟩:=List.append_of_mem hs;let⟨R1,R2,rfl,h1,h2⟩:=List.sublist_append_iff.mp h;refine⟨R1.length,by simp,?_⟩;unfold ins;rw[List.take_left,List.drop_left,Jx];refine h1.append ?_;cases h2 with
 |cons _ h2=>exact .cons_cons _ h2
 |cons_cons _ h2=>simp_all
def zoK{R Q:U Str}(h:R.Sublist Q)(n:Q.Nodup){f g:Str}(hf:f∈R)(hg:g∈R)(hl:Q.idxOf g<Q.idxOf f):R.idxOf g<R.idxOf f:=by grind [Nat.lt_trichotomy,zmD,zjo]
section
variable(rs:U (T×T))(G:U Str)
structure ziE:Prop where
 gn:G.Nodup
 gl:G.length<=5
 bl:∀r∈rs,r.1.isBl=false/\r.1.size<=60/\r.2.size<=60
 sg:∀r∈rs,∀x∈sgL [r.1,r.2],x∈G/\G.idxOf x<=G.idxOf (kA r)
 rl:rs.length<=1000
def DnR(R:U Str)(r:T×T):Prop:=Abv (Y0 5) r.1 r.2
def zkE(R:U Str):Prop:=R.length<=G.length/\R.Perm (G.take R.length)/\∀r∈rs,G.idxOf (kA r)<R.length->DnR R r
noncomputable def kW(k:Nat)(W:U (U Str)):Nat:=(W.map λR=>10^(k - R.length)).sum
def okB(s:Str)(L:U Str):Bool:=(byK rs s).all λr=>abB (λx=>L.idxOf x) r.1 r.2
def lsD(R:U Str):D:=.lst (R.map D.str)
def yF:D:=.dic (G.map KD.str) (G.map λs=>.lst ((byK rs s).map rD))
variable{rs G}
def ztC{s:Str}(h:s∈G):vN (yF rs G) (.str s)=some (.lst ((byK rs s).map rD)):=by
 have ok:kOk (G.map KD.str)=true:=by unfold kOk;rw[JU];intro x hx;let⟨y,_,rfl⟩:=Jv.mp hx;rfl
 have v:∀G:U Str,s∈G->qU (G.map KD.str) (G.map λs=>D.lst ((byK rs s).map rD)) (.str s)=some (.lst ((byK rs s).map rD)):=by
  intro G;induction G with
  |nil=>grind
  |cons a G ih=>
   grind [qU]
 unfold yF vN;simp[kI,kdK,ok,v G h]
def zhy(h:ziE rs G){r:T×T}(hr:r∈rs){n:Nat}(hn:G.idxOf (kA r)<n){R:U Str}(p:R.Perm (G.take n)):yY R r.1/\yY R r.2:=by
 have key:∀x∈sgL [r.1,r.2],x∈R:=λx hx=>by
  let⟨h1,h2⟩:=h.sg r hr x hx;refine p.mem_iff.mpr ?_;have hl:=JS.mpr h1
  have:(G.take n)[G.idxOf x]?=some x:=by rw[List.getElem?_take_of_lt (by exact Qm ‹_› ‹_›),List.getElem?_eq_getElem hl,Wp hl]
  exact List.mem_of_getElem? this
 exact⟨zdr.mpr λf hf=>key f (by simp[sgL,hf]),zdr.mpr λf hf=>key f (by simp[sgL,hf])⟩
def zjN{n:Nat}(hn:n<G.length):G.take (n+1)=G.take n++[G[n]]:=by rw[List.take_succ,List.getElem?_eq_getElem hn];rfl
theorem zfY(h:ziE rs G){R:U Str}(g:zkE rs G R)(hn:R.length<G.length)(a:Nat):(ins R G[R.length] a).Perm (G.take (R.length+1))/\(ins R G[R.length] a).Nodup/\(okB rs G[R.length] (ins R G[R.length] a)=true->zkE rs G (ins R G[R.length] a)):=by
 have p:(ins R G[R.length] a).Perm (G.take (R.length+1)):=by rw[zjN hn];refine(zjm _ _ _).trans ?_;exact((List.Perm.cons _ g.2.1).trans (List.perm_append_comm (l₁:=[_]) (l₂:=G.take R.length)))
 have nd:(ins R G[R.length] a).Nodup:=p.nodup_iff.mpr (h.gn.sublist (List.take_sublist _ _));refine⟨p,nd,λok=>⟨by rw[zen];trivial,by rw[zen];exact p,λr hr hk=>?_⟩⟩;rw[zen]at hk;by_cases e:G.idxOf (kA r)<R.length
 ·let⟨s1,s2⟩:=zhy h hr e g.2.1;exact znr (zrc _ _ _) nd s1 s2 (g.2.2 r hr e)
 ·have ek:G.idxOf (kA r)=R.length:=by lia
  have kk:kA r=G[R.length]:=by
   have hl:=JS.mpr ((h.sg r hr _ (zjj (h.bl r hr).1)).1)
   have:=Wp hl;rw[←this];simp only[ek]
  have:=JU.mp ok r (Wj.mpr ⟨hr,by simp[kk]⟩);exact kC.mp this
def zuD{Q R:U Str}(h:ziE rs G)(g:zkE rs G R)(hn:R.length<G.length){a:Nat}(hQ:Q.Perm G)(hd:∀r∈rs,DnR Q r)(hs:(ins R G[R.length] a).Sublist Q):okB rs G[R.length] (ins R G[R.length] a)=true:=by
 let⟨p,nd,_⟩:=zfY h g hn a;refine JU.mpr λr hr=>kC.mpr ?_
 let⟨hr,hk⟩:=Wj.mp hr;have ek:G.idxOf (kA r)<R.length+1:=by grind [ziE.gn]
 let⟨s1,s2⟩:=zhy h hr ek p;exact(hd r hr).ord (λf hf g hg hl=>zoK hs (hQ.nodup_iff.mpr h.gn) hf hg hl) s1 s2
end
section
variable{rs:U (T×T)}{G:U Str}
noncomputable abbrev ld8(A:D)(G:U Str)(due:D)(W:U (U Str))(x4 x5 x6 x7:Option Sl):En:=[some (.dat A),some (.dat (lsD G)),some (.dat due),some (.own (.lst (W.map lsD))),x4,x5,x6,x7]
def zkR(h:ziE rs G){R:U Str}(g:zkE rs G R)(hn:R.length<G.length)(A:D)(W:U (U Str))(lW:W.length<=100000)(x6 x7:Option Sl):
  ∃x6' x7',jT (gN 6) (zbq zI) (yS 0 (R.length+1)) (ld8 A G (yF rs G) W (some (.dat (lsD R))) (some (.dat (.str G[R.length]))) x6 x7)=
   some (.nx (ld8 A G (yF rs G) (W++((List.range (R.length+1)).map (ins R G[R.length])).filter (okB rs G[R.length])) (some (.dat (lsD R))) (some (.dat (.str G[R.length]))) x6' x7')):=by
 let⟨ρ',e,x6',x7',rfl⟩:=kP (g:=gN 6) (b:=zbq zI) (xs:=yS 0 (R.length+1)) (ρ:=ld8 A G (yF rs G) W (some (.dat (lsD R))) (some (.dat (.str G[R.length]))) x6 x7)
  (λi ρ=>∃x6 x7,ρ=ld8 A G (yF rs G) (W++((List.range i).map (ins R G[R.length])).filter (okB rs G[R.length])) (some (.dat (lsD R))) (some (.dat (.str G[R.length]))) x6 x7) ⟨x6,x7,by simp⟩ (by
   rintro i y ρ hy ⟨x6,x7,rfl⟩;let⟨hi,rfl⟩:=zak hy;have hG:=h.gl;let⟨p,nd,_⟩:=zfY h g hn i;have cl:=zpU (R.map D.str) (i:Int) (by simp) (by simp;exact Nat.le_of_lt_succ ‹_›);have ch:=zpV (R.map D.str) (i:Int) (by simp) (by simp;exact Nat.le_of_lt_succ ‹_›);rw[JO]at cl ch;have hlt:G[R.length]∈G:=Qh hn;have ix:=ztC (rs:=rs) hlt;have gd:=zmS (ins R G[R.length] i) nd (by rw[zen];lia) (byK rs G[R.length]) (λr hr=>by
    let⟨hr,hk⟩:=Wj.mp hr;have hk:kA r=G[R.length]:=Qt hk;have ek:G.idxOf (kA r)<R.length+1:=by
     rw[hk];have hl:=JS.mpr hlt;have e2:G[G.idxOf G[R.length]]?=some G[R.length]:=by simp[*]
     have:=zdv h.gn e2 (List.getElem?_eq_getElem hn);simp[*]
    let⟨s1,s2⟩:=zhy h hr ek p
    have:=h.bl r hr
    (simp[*];lia))
   have gd:zaP [.lst ((ins R G[R.length] i).map D.str),.lst ((byK rs G[R.length]).map rD)]=some (.bl (okB rs G[R.length] (ins R G[R.length] i))):=gd;have e1:(R.map D.str).take i++[.str G[R.length]]++(R.map D.str).drop i=(ins R G[R.length] i).map D.str:=by unfold ins;simp[List.map_take,List.map_drop]
   have l1:((R.map D.str).take i).length<=100:=by(simp[*];lia)
   have l2:((R.map D.str).drop i).length<=100:=by(simp[*];lia)
   have a1:zW (.lst ((R.map D.str).take i)) (.lst [.str G[R.length]])=some (.lst ((R.map D.str).take i++[.str G[R.length]])):=by unfold zW;simp only[catD,lim];rw[if_pos (by simp only[List.length_singleton];lia)]
   have a2:zW (.lst ((R.map D.str).take i++[.str G[R.length]])) (.lst ((R.map D.str).drop i))=some (.lst ((ins R G[R.length] i).map D.str)):=by rw[←e1];unfold zW;simp only[catD,lim];rw[if_pos (by simp only[List.length_append,List.length_singleton];lia)]
   have lw:(W++((List.range i).map (ins R G[R.length])).filter (okB rs G[R.length])).length<1000000:=by grind
   have fs:((List.range (i+1)).map (ins R G[R.length])).filter (okB rs G[R.length])=((List.range i).map (ins R G[R.length])).filter (okB rs G[R.length])++(if okB rs G[R.length] (ins R G[R.length] i)=true then[ins R G[R.length] i]else[]):=by grind [List.range_succ]
   rw[fs,←Jx];generalize W++((List.range i).map (ins R G[R.length])).filter (okB rs G[R.length])=W1 at*;generalize (R.map D.str).take i=R1 at*;generalize (R.map D.str).drop i=R2 at*;generalize R1++[.str G[R.length]]=R3 at*;cases ok:okB rs G[R.length] (ins R G[R.length] i)with
   |true=>
    rw[ok]at gd;generalize ins R G[R.length] i=I at*;generalize (byK rs G[R.length]).map rD=BB at*;generalize yF rs G=DD at*
    simp! [ld8,lsD,cl,ch,a1,a2,ix,gd,lw,qK,yE]
   |false=>
    rw[ok]at gd;generalize ins R G[R.length] i=I at*;generalize (byK rs G[R.length]).map rD=BB at*;generalize yF rs G=DD at*
    simp! [ld8,lsD,cl,ch,a1,a2,ix,gd,lw,qK,yE])
 rw[vH]at e;exact⟨x6',x7',e⟩
def zjg(k:Nat)(A B:U (U Str)):kW k (A++B)=kW k A+kW k B:=by simp[kW]
theorem zfd(k:Nat){n:Nat}(hn:n<k):∀(L:U (U Str)),(∀R∈L,R.length=n+1)->kW k L=L.length*10^(k - (n+1))
 |[],_=>by simp[kW]
 |R::L,h=>by
  have ih:=zfd k hn L λQ hQ=>h Q (Ji _ hQ)
  have e:kW k (R::L)=10^(k - R.length)+kW k L:=by simp[kW]
  rw[e,ih,h R (by simp),JA,Nat.add_mul];lia
def ztQ(rs:U (T×T))(G:U Str)(fl:Fl):Prop:=(∃ρ,fl=.nx ρ/\¬∃Q:U Str,Q.Perm G/\∀r∈rs,DnR Q r)\/∃(R:U Str) (ρ:En),fl=.rt (lsD R) ρ/\R.Perm G/\∀r∈rs,DnR R r
theorem zjf(k:Nat):∀W:U (U Str),W.length<=kW k W
 |[]=>by simp[kW]
 |R::W=>by have:=zjf k W;grind [kW]
def zlr(h:ziE rs G)(A:D)(W:U (U Str))(hg:∀R∈W,zkE rs G R)(hc:∀Q:U Str,Q.Perm G->(∀r∈rs,DnR Q r)->∃R∈W,R.Sublist Q)(hm:kW G.length W<=100000)(x4 x5 x6 x7:Option Sl):
  ∃fl,yQ (upT (cTr (gb 3))) (zaD zI) zI (ld8 A G (yF rs G) W x4 x5 x6 x7)=some fl/\ztQ rs G fl:=by
 refine zcu (t:=upT (cTr (gb 3)))
  (λm ρ=>∃(W:U (U Str)) (x4 x5 x6 x7:Option Sl),ρ=ld8 A G (yF rs G) W x4 x5 x6 x7/\(∀R∈W,zkE rs G R)/\(∀Q:U Str,Q.Perm G->(∀r∈rs,DnR Q r)->∃R∈W,R.Sublist Q)/\m=kW G.length W/\m<=100000) (ztQ rs G) ?_ zI (kW G.length W) _ ⟨W,x4,x5,x6,x7,rfl,hg,hc,rfl,hm⟩ (Qm hm (by decide))
 rintro m ρ ⟨W,x4,x5,x6,x7,rfl,hg,hc,rfl,hm⟩;rcases List.eq_nil_or_concat W with rfl|⟨W',R,rfl⟩
 ·left;refine⟨ld8 A G (yF rs G) [] x4 x5 x6 x7,by dsimp! [ld8],.inl ⟨_,rfl,λ⟨Q,h1,h2⟩=>?_⟩⟩;let⟨R,hR,_⟩:=hc Q h1 h2;cases hR
 ·right;rw[List.concat_eq_append]at*;have gR:=hg R (by simp);have ml:=zjf G.length (W'++[R]);have hG:=h.gl;have lW':W'.length<=100000:=by grind
  have t1:upT (cTr (gb 3)) (ld8 A G (yF rs G) (W'++[R]) x4 x5 x6 x7)=some (true,ld8 A G (yF rs G) (W'++[R]) x4 x5 x6 x7):=by dsimp! [ld8]
  have pe:(lsD R)=.lst (R.map D.str):=rfl;have eG:(lsD G)=.lst (G.map D.str):=rfl;have pop:gH 3 (ld8 A G (yF rs G) (W'++[R]) x4 x5 x6 x7)=some (lsD R,ld8 A G (yF rs G) W' x4 x5 x6 x7):=by simp[gH,ld8,Sl.own]
  by_cases hk:R.length=G.length
  ·right;refine⟨_,lsD R,ld8 A G (yF rs G) W' (some (.dat (lsD R))) x5 x6 x7,t1,?_,.inr ⟨R,_,rfl,?_,λr hr=>?_⟩⟩
   ·simp only[zaD,zF,gB,pop];generalize yF rs G=DD at*;generalize W'.map lsD=WW at*
    dsimp! [ld8,lsD,hk,eqD,dep]
   ·have:=gR.2.1;grind
   ·refine gR.2.2 r hr ?_;rw[hk];exact JS.mpr ((h.sg r hr _ (zjj (h.bl r hr).1)).1)
  ·left;have hn:R.length<G.length:=by have:=gR.1;lia
   let⟨x6',x7',ft⟩:=zkR h gR hn A W' lW' x6 x7;have md:kW G.length (W'++((List.range (R.length+1)).map (ins R G[R.length])).filter (okB rs G[R.length]))<kW G.length (W'++[R]):=by
    rw[zjg,zjg];have b1:=zfd G.length hn (((List.range (R.length+1)).map (ins R G[R.length])).filter (okB rs G[R.length])) (λQ hQ=>by grind [zen])
    have b2:=List.length_filter_le (okB rs G[R.length]) ((List.range (R.length+1)).map (ins R G[R.length]));rw[Jc,List.length_range]at b2;have b3:kW G.length [R]=10^(G.length - R.length):=by simp[kW]
    have b4:G.length - R.length=(G.length - (R.length+1))+1:=by lia
    rw[b1,b3,b4,Nat.pow_succ];have b5:0<10^(G.length - (R.length+1)):=Nat.pow_pos (by lia);have b6:=Nat.mul_le_mul_right (10^(G.length - (R.length+1))) (Jp b2 (by lia:R.length+1<=5));lia
   have ai:atI (G.map D.str) (R.length:Int)=some (.str G[R.length]):=by simp[zfz, *]
   have hk':¬((R.length:Int)=(G.length:Int)):=by lia
   have orc:zhR ((R.length:Int)+1):=nO (by lia) (by lia);have tn:((R.length:Int)+1).toNat=R.length+1:=by lia
   refine⟨_,ld8 A G (yF rs G) (W'++((List.range (R.length+1)).map (ins R G[R.length])).filter (okB rs G[R.length])) (some (.dat (lsD R))) (some (.dat (.str G[R.length]))) x6' x7',kW G.length (W'++((List.range (R.length+1)).map (ins R G[R.length])).filter (okB rs G[R.length])),t1,.inl ?_,?_,_,_,_,_,_,rfl,λQ hQ=>?_,λQ q1 q2=>?_,rfl,?_⟩
   ·simp only[zaD,zF,gB,pop];generalize yF rs G=DD at*;simp only[ld8,lsD]at ft
    dsimp! [ld8,lsD,hk',hk,ai,orc,tn,ft,eqD,dep]
   ·exact md
   ·grind [zfY]
   ·let⟨S,hS,sub⟩:=hc Q q1 q2;rcases Qe.mp hS with z|z
    ·grind
    ·rw[Je.mp z]at sub;have gm:G[R.length]∈Q:=q1.mem_iff.mpr (Qh hn);have gr:G[R.length]∉R:=λz=>by
      have:=gR.2.1.mem_iff.mp z;let⟨j,hj,e⟩:=Qg.mp this;rw[QN]at hj;rw[List.getElem_take]at e
      have:=zdv h.gn (List.getElem?_eq_getElem hn) (by rw[List.getElem?_eq_getElem (by lia:j<G.length),e]);lia
     let⟨a,ha,sa⟩:=zti sub gm gr;exact⟨ins R G[R.length] a,Jj _ (Wj.mpr ⟨Jv.mpr ⟨a,List.mem_range.mpr (by lia),rfl⟩,zuD h gR hn q1 q2 sa⟩),sa⟩
   ·lia
end
theorem zfH:∀{ts:U T}{x:Str},x∈sgL ts↔∃t∈ts,x∈sg t
 |[],x=>by simp[sgL]
 |t::r,x=>by rw[sgL,Qe,zfH];simp
theorem zdI:∀(rs:U (T×T)) (b:Nat),(∀r∈rs,r.1.size+r.2.size<=b)->T.sizes (Y0 6)<=rs.length*b
 |[],b,_=>by simp[T.sizes]
 |r::rs,b,h=>by
  have ih:=zdI rs b λq hq=>h q (Ji _ hq)
  have:=h r (by simp);rw[QK];simp only[List.cons_append,List.nil_append,T.sizes,List.length_cons,Nat.add_mul];lia
def sgR(rs:U (T×T)):U Str:=srt (sgL (Y0 6))
def zcz{rs:U (T×T)}{x:Str}:x∈sgR rs↔∃r∈rs,x∈sgL [r.1,r.2]:=by grind [sgR,nH,zfH]
theorem zdu{α:Type}[DecidableEq α]:∀{l m:List α},l.Nodup->(∀x∈l,x∈m)->l.length<=m.length
 |[],m,_,_=>Jz _
 |a::l,m,n,h=>by
  have ih:=zdu (l:=l) (m:=m.erase a) (JR.mp n).2 λx hx=>by grind
  grind
def zmQ{rs:U (T×T)}{P:U Str}(hP:P.length<=4)(hr:∀r∈rs,r.1.isBl=false/\r.1.size<=12/\r.2.size<=5/\∀x∈sgL [r.1,r.2],x∈P)(rl:rs.length<=9)(hm:gI [.lst (rs.map rD),.lst []]=some .non):
  (zaO [.lst (rs.map rD)]=some .non/\¬∃Q:U Str,Q.Perm (sgR rs)/\∀r∈rs,DnR Q r)\/∃R:U Str,zaO [.lst (rs.map rD)]=some (.lst (R.map D.str))/\R.Perm (sgR rs)/\∀r∈rs,DnR R r:=by
 have gn:=zpu (sgL (Y0 6));have gP:∀x∈sgR rs,x∈P:=λx hx=>by let⟨r,h1,h2⟩:=zcz.mp hx;exact(hr r h1).2.2.2 x h2
 have gl:=zdu (l:=sgR rs) gn gP;have set_le:∀l:U Str,(∀x∈l,x∈P)->(TS.setOf l).length<64:=λl hl=>by
  have:=zdu (zbz l).1 λx hx=>hl x (((zbz l).2 x).mp hx)
  lia
 have R0:ziE rs (sgR rs):=by
  refine⟨gn,by lia,λr h=>?_,λr h x hx=>?_,by lia⟩
  ·let⟨h1,h2,h3,_⟩:=hr r h;exact⟨h1,by lia,by lia⟩
  ·have hb:=(hr r h).1;have m1:=zcz.mpr ⟨r,h,hx⟩;have m2:=zcz.mpr ⟨r,h,zjj hb⟩;exact⟨m1,zqi ((nH _ _).mp m1) ((nH _ _).mp m2) (zqV hb hx)⟩
 have sd:=zil rs (by lia);have sz:=zdI rs 17 λr h=>by let⟨_,h2,h3,_⟩:=hr r h;lia
 have so:=zeu (Y0 6) (by lia) (set_le _ λx hx=>gP x ((nH _ _).mpr hx));have so:zam [.lst ((Y0 6).map T.d)]=some (lsD (sgR rs)):=so;have rb:=zev (sgR rs) gn (by lia) rs (λr h=>by let⟨h1,h2,h3,h4⟩:=hr r h;exact⟨h1,by lia,by lia,zcz.mpr ⟨r,h,zjj h1⟩,set_le _ h4⟩) (by lia)
 have rb:zac [.lst (rs.map rD),lsD (sgR rs)]=some (yF rs (sgR rs)):=rb;let⟨fl,ew,told⟩:=zlr R0 (.lst (rs.map rD)) [[]] (λR hR=>by
  rw[Je.mp hR];exact⟨Jz _,by simp,λr _ h=>by simp at h⟩) (λQ _ _=>⟨[],by simp,List.nil_sublist _⟩) (by
   have e:kW (sgR rs).length [[]]=10^(sgR rs).length:=by simp[kW]
   rw[e];exact Jp (Nat.pow_le_pow_right (by simp) (by lia:(sgR rs).length<=4)) (by decide)) none none none none
 have lD:(lsD [])=.lst []:=rfl;simp only[ld8,List.map_cons,List.map_nil,lD]at ew;rcases told with⟨ρ,rfl,no⟩|⟨R,ρ,rfl,p,d⟩
 ·refine .inl ⟨?_,no⟩
  dsimp! [zaO,hm,sd,so,rb,ew]
 ·refine .inr ⟨R,?_,p,d⟩;have lR:lsD R=.lst (R.map D.str):=rfl;rw[lR]at ew
  dsimp! [zaO,hm,sd,so,rb,ew]
section
variable(R:U Str)(m:LO)(a b:T)
noncomputable abbrev yO(x3 x4 x5 x6:Option Sl):En:=[some (.dat (.lst (R.map D.str))),some (.dat a.d),some (.dat b.d),x3,x4,x5,x6]
def zsT(ss:U T)(hd:∀s∈ss,s.depth<=40)(ih:∀s∈ss,m [.lst (R.map D.str),s.d,b.d]=some (.bl (abB (Y0 5) s b))):
  (∃ρ,(∃s∈ss,s=b\/Abv (Y0 5) s b)/\jT (gN 3) (zaF m zI) (ss.map T.d) (yO R a b none none none none)=some (.rt (.bl true) ρ))\/
  ∃x3,(¬∃s∈ss,s=b\/Abv (Y0 5) s b)/\jT (gN 3) (zaF m zI) (ss.map T.d) (yO R a b none none none none)=some (.nx (yO R a b x3 none none none)):=by
 have L1:=zdB (h:=T.d) (p:=λs=>eqb s b||abB (Y0 5) s b) (g:=gN 3) (b:=zaF m zI) ss (λ_ fl=>∃ρ,fl=.rt (.bl true) ρ)
  (λ_ ρ=>∃x3,ρ=yO R a b x3 none none none) (by
   rintro K s M ρ hw ⟨x3,rfl⟩;have hs:s∈ss:=by simp[*]
   have ih:=ih s hs;have eq:=eq_b s b (by have:=hd s hs;lia);cases ee:eqb s b with
   |true=>
    rw[ee]at eq;refine⟨.rt (.bl true) (yO R a b (some (.dat s.d)) none none none),?_,⟨_,rfl⟩,.inl ⟨_,_,rfl⟩⟩
    simp! [eq,yO,qO,qK,zW,inB,jQ]
   |false=>
    rw[ee]at eq;cases ea:abB (Y0 5) s b with
    |true=>
     rw[ea]at ih;refine⟨.rt (.bl true) (yO R a b (some (.dat s.d)) none none none),?_,⟨_,rfl⟩,.inl ⟨_,_,rfl⟩⟩
     simp! [eq,ih,yO,qO,qK,zW,inB,jQ]
    |false=>
     rw[ea]at ih
     simp! [eq,ih,yO,qO,qK,zW,inB,jQ])
  ss [] (yO R a b none none none none) rfl ⟨none,rfl⟩
 grind [zty,kC]
def zsS(ts:U T)(ih:∀s∈ts,m [.lst (R.map D.str),a.d,s.d]=some (.bl (abB (Y0 5) a s))):
  jH (gN 0) (zdd m zI) (zdi m zI) [none,some (.dat (.lst (R.map D.str))),some (.dat a.d)] (ts.map T.d)=some ((ts.filter λt=>!abB (Y0 5) a t).map T.d):=by
 refine zbw λs hs=>?_
 have e:=ih s hs;exact⟨[some (.dat s.d),some (.dat (.lst (R.map D.str))),some (.dat a.d)],by dsimp! [qI],by dsimp! [e],λ_=>by dsimp! [qI]⟩
def zsR(ss ts:U T)(x3 x4:Option Sl)(hd:∀s∈ss,s.depth<=40)(ih:∀s∈ss,∀t∈ts,m [.lst (R.map D.str),s.d,t.d]=some (.bl (abB (Y0 5) s t))):
  (∃ρ c d,Unl ss ts c d/\(∀c' d',Unl ss ts c' d'->c'=c/\d'=d)/\jT (qP (zM (gN 5) (zM (gN 6) qH))) (zaE m zI) ((ss.zip ts).map ptD) (yO R a b x3 x4 none none)=some (.rt (.bl (abB (Y0 5) c d)) ρ))\/
  ∃x5 x6,(∀c d,¬Unl ss ts c d)/\jT (qP (zM (gN 5) (zM (gN 6) qH))) (zaE m zI) ((ss.zip ts).map ptD) (yO R a b x3 x4 none none)=some (.nx (yO R a b x3 x4 x5 x6)):=by
 have L1:=zdB (h:=ptD) (p:=λp=>!eqb p.1 p.2) (g:=qP (zM (gN 5) (zM (gN 6) qH))) (b:=zaE m zI) (ss.zip ts) (λp fl=>∃ρ,fl=.rt (.bl (abB (Y0 5) p.1 p.2)) ρ)
  (λ_ ρ=>∃x5 x6,ρ=yO R a b x3 x4 x5 x6) (by
   rintro K ⟨s,t⟩ M ρ hw ⟨x5,x6,rfl⟩;have hz:(s,t)∈ss.zip ts:=by simp[*]
   have hs:=(QW hz).1;have ht:=(QW hz).2;have ih:=ih s hs t ht;have eq:=ne_b s t (by have:=hd s hs;lia);cases ee:eqb s t with
   |false=>
    rw[ee]at eq;refine⟨.rt (.bl (abB (Y0 5) s t)) (yO R a b x3 x4 (some (.dat s.d)) (some (.dat t.d))),?_,⟨_,rfl⟩,.inl ⟨_,_,rfl⟩⟩
    simp! [eq,ih,yO,ptD,qO,qK,zW,inB,jQ]
   |true=>
    rw[ee]at eq
    simp! [eq,ih,yO,ptD,qO,qK,zW,inB,jQ])
  (ss.zip ts) [] (yO R a b x3 x4 none none) rfl ⟨none,none,rfl⟩
 have uf:=ziI ss ts;cases e:(ss.zip ts).find? λp=>!eqb p.1 p.2 with
 |some p=>
  rw[e]at L1 uf;let⟨_,h1,⟨ρ,rfl⟩,_⟩:=L1;exact .inl ⟨ρ,p.1,p.2,uf.2.2.1,uf.2.2.2,h1⟩
 |none=>
  rw[e]at L1 uf;let⟨_,h1,x5,x6,rfl⟩:=L1;exact .inr ⟨x5,x6,uf,h1⟩
end
theorem zcn(R:U Str)(lR:R.length<1000):∀(n:Nat) (a b:T),a.depth+b.depth<=n->a.depth<=40->b.depth<=40->a.size<=1000->b.size<=1000->yY R a->yY R b->
  xS n [.lst (R.map D.str),a.d,b.d]=some (.bl (abB (Y0 5) a b))
 |0,a,b,h,_,_,_,_,_,_=>by have:=zbv a;simp_all
 |n+1,.bl x,b,h,_,_,_,_,_,_=>by
  have:abB (Y0 5) (.bl x) b=false:=by grind [kC,zhw]
  dsimp! [xS,jP,this]
 |n+1,.nd f ss,.bl y,h,da,_,sa,_,_,_=>by
  have bk:=zcK 100 (.nd f ss) (by lia) (by lia);have bk:zaQ [(T.nd f ss).d]=_:=bk;have ab:abB (Y0 5) (.nd f ss) (.bl y)=decide (y∈bks (.nd f ss)):=by rw[Wn,kC,decide_eq_true_eq,zeF,vs,←ziA (Y0 5) y ss,zeI]
  have i1:=zcI y (bks (.nd f ss));have dz:jY ((bks (.nd f ss)).map D.str)<=100:=by grind [zco]
  rw[ab];rw[qX]at bk;generalize bks (.nd f ss)=B at*
  dsimp! [xS,qX,jP,bk,i1,dz]
 |n+1,.nd f ss,.nd g ts,h,da,db,sa,sb,ga,gb'=>by
  have dkS:∀s∈ss,s.depth<(T.nd f ss).depth:=λs hs=>by have:=vP hs;rw[T.depth];simp+arith [*]
  have dkT:∀s∈ts,s.depth<(T.nd g ts).depth:=λs hs=>by have:=vP hs;rw[T.depth];simp+arith [*]
  have skS:∀s∈ss,s.size<=1000:=λs hs=>by have:=xF hs;rw[T.size]at sa;lia
  have skT:∀s∈ts,s.size<=1000:=λs hs=>by have:=xF hs;rw[T.size]at sb;lia
  have fR:=ga f ss (vG _);have gR:=gb' g ts (vG _);have i1:=ix_R lR fR;have i2:=ix_R lR gR;have L1:=zsT R (xS n) (.nd f ss) (.nd g ts) ss (λs hs=>by have:=dkS s hs;lia) λs hs=>zcn R lR n s (.nd g ts) (by have:=dkS s hs;lia) (by have:=dkS s hs;lia) db (skS s hs) sb (ga.kid hs) gb'
  have LL:=zsS R (xS n) (.nd f ss) ts λs hs=>zcn R lR n (.nd f ss) s (by have:=dkT s hs;lia) da (by have:=dkT s hs;lia) sa (skT s hs) ga (gb'.kid hs)
  have L3:=λx3 x4=>zsR R (xS n) (.nd f ss) (.nd g ts) ss ts x3 x4 (λs hs=>by have:=dkS s hs;lia) λs hs t ht=>zcn R lR n s t (by have:=dkS s hs;have:=dkT t ht;lia) (by have:=dkS s hs;lia) (by have:=dkT t ht;lia) (skS s hs) (skT t ht) (ga.kid hs) (gb'.kid ht)
  unfold yO at L1 L3;simp only[qX]at L1 LL L3;have ls:ss.length<=1000:=by have:=xO ss;rw[T.size]at sa;lia
  have lt:ts.length<=1000:=by have:=xO ts;rw[T.size]at sb;lia
  have ku:=gQ (.str f) (ss.map T.d);have kw:=gQ (.str g) (ts.map T.d);have pm:=zgL ss ts;rcases L1 with⟨ρ1,hx,E1⟩|⟨x3,hx,E1⟩
  ·have ab:abB (Y0 5) (.nd f ss) (.nd g ts)=true:=kC.mpr (gC.mpr (.inl hx))
   dsimp! [xS,qX,ku,E1,ab]
  ·by_cases hlt:R.idxOf f<R.idxOf g
   ·have ab:abB (Y0 5) (.nd f ss) (.nd g ts)=false:=by grind [kC,gC]
    have w:(((R.idxOf f:Nat):Int) - ((R.idxOf g:Nat):Int))<0:=by lia
    dsimp! [xS,qX,ku,E1,ab,i1,i2,w]
   ·have w:¬(((R.idxOf f:Nat):Int) - ((R.idxOf g:Nat):Int))<0:=by simp_all
    have lF:(ts.filter λt=>!abB (Y0 5) (.nd f ss) t).length<=1000:=by grind
    have lt':ts.length<=1000000:=by lia
    by_cases hy:∀t∈ts,Abv (Y0 5) (.nd f ss) t
    rotate_left
    ·have ab:abB (Y0 5) (.nd f ss) (.nd g ts)=false:=by
      rw[←Bool.not_eq_true,kC,gC];rintro(z|⟨z,_⟩)
      ·exact hx z
      ·exact hy z
     have ne:0<(ts.filter λt=>!abB (Y0 5) (.nd f ss) t).length:=by grind [List.filter_eq_nil_iff,kC]
     have ne':(0:Int)<((ts.filter λt=>!abB (Y0 5) (.nd f ss) t).map T.d).length:=by simp[*]
     have lF':((ts.filter λt=>!abB (Y0 5) (.nd f ss) t).map T.d).length<=1000000:=by(simp at*;lia)
     generalize (ts.filter λt=>!abB (Y0 5) (.nd f ss) t).map T.d=FF at*;have ne2:0<FF.length:=by simp_all
     dsimp! [xS,qX,ku,kw,E1,LL,ab,i1,i2,w,lt',ne',ne2,gtD,ltD]
    ·have fn:(ts.filter λt=>!abB (Y0 5) (.nd f ss) t)=[]:=by simp_all[List.filter_eq_nil_iff,kC]
     rw[fn,Qx]at LL;obtain⟨x3',ex3⟩:∃x3',x3'=x3:=⟨_,rfl⟩;subst ex3;by_cases hgt:R.idxOf g<R.idxOf f
     ·have ab:abB (Y0 5) (.nd f ss) (.nd g ts)=true:=kC.mpr (gC.mpr (.inr ⟨hy,.inl hgt⟩));have w2:(((R.idxOf f:Nat):Int) - ((R.idxOf g:Nat):Int))>0:=by simp[*]
      dsimp! [xS,qX,ku,kw,E1,LL,lt',ab,i1,i2,w,w2,hgt,gtD,ltD,eqD,dep]
     ·have w2:¬(((R.idxOf f:Nat):Int) - ((R.idxOf g:Nat):Int))>0:=by simp[*]
      have fg:=zmD fR (by(simp at*;lia):R.idxOf f=R.idxOf g);rcases L3 x3' (some (.dat (.int (((R.idxOf f:Nat):Int) - ((R.idxOf g:Nat):Int)))))with⟨ρ3,c,d,hu,hq,E3⟩|⟨x5,x6,hu,E3⟩
      ·have ab:abB (Y0 5) (.nd f ss) (.nd g ts)=abB (Y0 5) c d:=by
        rw[Wn,kC,kC,gC];constructor
        ·rintro(z|⟨_,z|⟨_,c',d',z1,z2⟩⟩)
         ·exact absurd z hx
         ·trivial
         ·let⟨rfl,rfl⟩:=hq c' d' z1;exact z2
        ·intro z;exact .inr ⟨hy,.inr ⟨fg,c,d,hu,z⟩⟩
       rw[←pm]at E3
       dsimp! [xS,qX,ku,kw,E1,LL,lt',E3,cZ,ab,i1,i2,w,w2,hgt,gtD,ltD,eqD,dep]
      ·have ab:abB (Y0 5) (.nd f ss) (.nd g ts)=false:=by
        rw[←Bool.not_eq_true,kC,gC];rintro(z|⟨_,z|⟨_,c',d',z1,z2⟩⟩)
        ·exact absurd z hx
        ·trivial
        ·exact hu c' d' z1
       rw[←pm]at E3
       dsimp! [xS,qX,ku,kw,E1,LL,lt',E3,cZ,ab,i1,i2,w,w2,hgt,gtD,ltD,eqD,dep]
def ExtF(φ ψ:Fil):Prop:=∀y v,jA φ y=some v->jA ψ y=some v
def zqQ{φ ψ:Fil}{x:Str}{u:T}(h:mtB φ x u=some ψ):ExtF φ ψ/\jA ψ x=some u:=by
 unfold mtB at h;split at h
 ·rename_i v e;split at h
  ·rename_i hv;cases h;subst hv;exact⟨λ_ _ z=>z,e⟩
  ·cases h
 ·rename_i e;cases h
  have e':φ.find? (λp=>decide (p.1=x))=none:=by
   unfold jA at e;cases z:φ.find? (λp=>decide (p.1=x))with
   |none=>rfl
   |some q=>rw[z]at e;cases e
  refine⟨λy v hy=>?_,?_⟩
  ·unfold jA at hy ⊢;rw[List.find?_append];cases z:φ.find? (λp=>decide (p.1=y))with
   |none=>rw[z]at hy;cases hy
   |some q=>rw[z]at hy;exact hy
  ·unfold jA;rw[List.find?_append,e'];simp
mutual
theorem zpL:∀(p u:T) (φ ψ:Fil),mt φ p u=some ψ->ExtF φ ψ/\∀χ,ExtF ψ χ->qA χ p=u
 | .bl x,u,φ,ψ,h=>by rw[mt]at h;let⟨h1,h2⟩:=zqQ h;exact⟨h1,λχ hχ=>by rw[qA,hχ x u h2];rfl⟩
 | .nd s ts,.bl _,φ,ψ,h=>by simp[mt]at h
 | .nd s ts,.nd r us,φ,ψ,h=>by
  rw[mt]at h;split at h
  ·rename_i hc;let⟨h1,h2⟩:=zmb ts us φ ψ hc.2 h;exact⟨h1,λχ hχ=>by rw[qA,h2 χ hχ,hc.1]⟩
  ·cases h
theorem zmb:∀(ts us:U T) (φ ψ:Fil),ts.length=us.length->mts φ ts us=some ψ->ExtF φ ψ/\∀χ,ExtF ψ χ->kG χ ts=us
 |[],us,φ,ψ,hl,h=>by
  rw[mts]at h;cases h
  have:us=[]:=List.length_eq_zero_iff.mp hl.symm;subst this;exact⟨λ_ _ z=>z,λχ _=>by simp[kG]⟩
 |t::ts,[],φ,ψ,hl,h=>by simp at hl
 |t::ts,u::us,φ,ψ,hl,h=>by
  rw[mts]at h;cases e:mt φ t u with
  |none=>rw[e]at h;cases h
  |some φ'=>
   rw[e]at h;let⟨h1,h2⟩:=zpL t u φ φ' e;let⟨h3,h4⟩:=zmb ts us φ' ψ (by simpa using hl) h;exact⟨λy v z=>h3 y v (h1 y v z),λχ hχ=>by rw[kG,h2 χ λy v z=>hχ y v (h3 y v z),h4 χ hχ]⟩
end
theorem zmc{p u:T}{φ ψ:Fil}(h:mt φ p u=some ψ):qA ψ p=u:=(zpL p u φ ψ h).2 ψ λ_ _ z=>z
theorem ziT{r:Str->Nat}{u n:T}(h:Abv r u n):∀(p:U Int) (t:T),qE t p=some u->Abv r t (kJ t p n)
 |[],t,hp=>by simp_all[qE,zds]
 |k::p,t,hp=>by
  let⟨s,ts,c,rfl,h0,e,h2⟩:=vJ hp;rw[zhI e];have ih:=ziT h p c h2;have hl:=(List.getElem?_eq_some_iff.mp e).1
  have:=ztO (f:=s) (ss:=ts) hl ih;have es:ts.set k.toNat c=ts:=by have:=(List.getElem?_eq_some_iff.mp e).2;rw[←this];exact List.set_getElem_self hl
  rw[es]at this;exact this
def zkY{r:Str->Nat}{rs:U (T×T)}(hd:∀q∈rs,Abv r q.1 q.2){t:T}{x:U Int×Nat×T}(h:x∈stL t rs (zQ [] t)):Abv r t x.2.2:=by
 let⟨q,hq,h⟩:=Wg.mp h;have hp:=zaX hq;let⟨ru,hr,φ,e,ex⟩:=zhA h;rw[ex];refine ziT ?_ _ _ hp
 have:=(hd ru hr).fill φ;grind [zmc]
def zhf(t:T)(hd:t.depth<=90)(hz:t.size<=3000):zaM [t.d]=some (.bl (decide (t.size<=12))):=by
 cases t with
 |bl x=>dsimp! [zaM,jP,T.size]
 |nd f ss=>
  have cn:zbn [(T.nd f ss).d]=some (.int (T.nd f ss).size):=zin 100 _ (by lia) (by lia);generalize (T.nd f ss).size=z at*;rw[qX]at cn ⊢;have iff:((z:Int)<=12)↔z<=12:=by lia
  dsimp! [zaM,cn,leD,iff]
def zsU(A:Option Sl)(PS RR:Option Sl)(R:U Str)(s4 s6 s7 s8:Option Sl)(t:T)(L:U (U Int×Nat×T))(h:∀x∈L,x.2.2.depth<=90/\x.2.2.size<=3000/\(x.2.2.size<=12->zcf [.lst (R.map D.str),t.d,x.2.2.d]=some (.bl true)/\zcE [.lst (R.map D.str),t.d,x.2.2.d]=some (.bl true))):
  ∃s6' s7' s8',jT (qP (zM (gN 6) (zM (gN 7) (zM (gN 8) qH)))) (zcF zI) (L.map sD) [A,PS,RR,some (.dat (.lst (R.map D.str))),s4,some (.dat t.d),s6,s7,s8]=some (.nx [A,PS,RR,some (.dat (.lst (R.map D.str))),s4,some (.dat t.d),s6',s7',s8']):=by
 let⟨ρ',e,s6',s7',s8',rfl⟩:=kP (g:=qP (zM (gN 6) (zM (gN 7) (zM (gN 8) qH)))) (b:=zcF zI) (xs:=L.map sD)
  (λ_ ρ=>∃s6' s7' s8',ρ=[A,PS,RR,some (.dat (.lst (R.map D.str))),s4,some (.dat t.d),s6',s7',s8']) ⟨s6,s7,s8,rfl⟩ (by
   rintro i x ρ hx ⟨s6',s7',s8',rfl⟩;rw[List.getElem?_map]at hx;cases e:L[i]? with
   |none=>rw[e]at hx;cases hx
   |some u=>
    rw[e]at hx;cases hx
    let⟨h1,h2,h3⟩:=h u (List.mem_of_getElem? e);have sm:=zhf u.2.2 h1 h2;by_cases hz:u.2.2.size<=12
    ·let⟨h4,h5⟩:=h3 hz
     dsimp! [sD,sm,hz,h4,h5,zjl]
    ·dsimp! [sD,sm,hz])
 exact⟨s6',s7',s8',e⟩
def FACT34:∀ns:U Int,ns.length<=63->ziF ns->m_law34 [.scr ns]=some (.bl true):=by
 intro ns _ hL;let⟨w0,f,g,w3,d3,rs,er,S,nd,_,rl,RV⟩:=zmP ns hL 4 (by simp);have er:zbm [.scr ns,.int 4]=_:=er;have RO:zcU rs:=⟨by lia,λr hr=>by have:=(RV r hr).z1;have:=(RV r hr).d1;grind,λr hr=>by have:=(RV r hr).z2;grind [zcL]⟩;have ap:∀s k k',(s,k)∈[(w0,(0:Int)),(f,1),(g,2),(w3,d3)]->(s,k')∈[(w0,(0:Int)),(f,1),(g,2),(w3,d3)]->k=k':=by intro s k k' h1 h2;simp only[List.nodup_cons,List.mem_cons,List.not_mem_nil,or_false,not_or]at nd;simp only[List.mem_cons,List.not_mem_nil,or_false,Prod.mk.injEq]at h1 h2;grind
 have RW:zqb [(w0,0),(f,1),(g,2),(w3,d3)] U26 rs:=⟨RO,λr hr=>⟨(RV r hr).nbl,(RV r hr).vs,(RV r hr).w1,(RV r hr).w2⟩⟩;have mu:=zrl [(w0,0),(f,1),(g,2),(w3,d3)] U26 (by simp) ap rs RO RW.ru;have mu1:=λ(t:T) (hw:WT [(w0,0),(f,1),(g,2),(w3,d3)] U26 t) (hz:t.size<=1000)=>ztA [(w0,0),(f,1),(g,2),(w3,d3)] U26 (by simp) ap rs RO RW.ru t hw hz
 have term:=λ(n:Int) (n0:0<=n)=>zdC S ["A","B","X"] (by simp) 100 3 n (by simp) (by simp) n0
 have nP:([(w0,(0:Int)),(f,1),(g,2),(w3,d3)].map (·.1)).Nodup:=by trivial
 have l4:[(w0,(0:Int)),(f,1),(g,2),(w3,d3)].length=4:=rfl;generalize hps:[(w0,(0:Int)),(f,1),(g,2),(w3,d3)]=ps at*;have sgP:∀{bs:U Str}{t:T},WT ps bs t->∀x∈sg t,x∈ps.map (·.1):=λh=>zdr.mp (zqd (λp hp=>List.mem_map_of_mem hp) h)
 have hr:∀r∈rs,r.1.isBl=false/\r.1.size<=12/\r.2.size<=5/\∀x∈sgL [r.1,r.2],x∈ps.map (·.1):=λr h=>⟨(RV r h).nbl,(RV r h).z1,(RV r h).z2,λx hx=>by
  let⟨t,ht,hx⟩:=zfH.mp hx;simp only[List.mem_cons,List.not_mem_nil,or_false]at ht;rcases ht with rfl|rfl
  ·exact sgP (RV r h).w1 x hx
  ·exact sgP (RV r h).w2 x hx⟩
 rcases zmQ (P:=ps.map (·.1)) (by simp[*]) hr (by lia) mu with⟨e,_⟩|⟨R,e,pR,dR⟩
 ·generalize ps.map sd=PS at*;generalize rs.map rD=RR at*
  dsimp! [m_law34,er,xY,e]
 ·have nR:R.Nodup:=pR.nodup_iff.mpr (zpu _);obtain⟨M,eM⟩:∃M,M=(ps.filter λp=>!decide (p.1∈R)).map (·.1):=⟨_,rfl⟩;have nM:M.Nodup:=by rw[eM];exact nP.sublist ((List.filter_sublist).map _)
  have nMR:(M++R).Nodup:=Wv.mpr ⟨nM,nR,λx hx y hy z=>by grind⟩
  have all:∀p∈ps,p.1∈M++R:=λp hp=>by grind
  have lM:M.length<=4:=by grind
  have lR:R.length<=4:=by
   have:=zdu (l:=R) (m:=ps.map (·.1)) nR λx hx=>by let⟨r,h1,h2⟩:=zcz.mp (pR.mem_iff.mp hx);exact(hr r h1).2.2.2 x h2
   simp_all
  have dn:∀r∈rs,Abv (λx=>(M++R).idxOf x) r.1 r.2:=λr h=>by
   have sgi:∀t∈[r.1,r.2],yY R t:=λt ht=>zdr.mpr λx hx=>pR.mem_iff.mpr (zcz.mpr ⟨r,h,zfH.mpr ⟨t,ht,hx⟩⟩)
   exact znr (List.sublist_append_right _ _) nMR (sgi _ (by simp)) (sgi _ (by simp)) (dR r h)
  have cm:jH (qP (zM (gN 0) (zM (gN 1) qH))) (zcN zI) (zcR zI) [none,none,some (.dat (.lst (R.map D.str)))] (ps.map sd)=some (M.map D.str):=by
   have:=zbw (h:=sd) (k:=λp=>D.str p.1) (P:=λp=>!decide (p.1∈R)) (g:=qP (zM (gN 0) (zM (gN 1) qH))) (t:=zcN zI) (f:=zcR zI) (ρ:=[none,none,some (.dat (.lst (R.map D.str)))]) (L:=ps) (by
    intro p hp;have i1:=zcI p.1 R;have dz:jY (R.map D.str)<=100:=by have:=zco R;lia
    exact⟨[some (.dat (.str p.1)),some (.dat (.int p.2)),some (.dat (.lst (R.map D.str)))],by dsimp! [sd],by dsimp! [i1,dz],λ_=>by dsimp! [qI]⟩)
   simp_all
  have ad:zW (.lst (M.map D.str)) (.lst (R.map D.str))=some (.lst ((M++R).map D.str)):=by grind [zW]
  have lps:(ps.map sd).length<=1000000:=by simp[*]
  let⟨ρ',ef,s4,s5,s6,s7,s8,rfl⟩:=kP (g:=gN 4) (b:=zfg zI) (xs:=(jX ns (some 6) (some 26)).map D.int) (ρ:=[some (.dat (.scr ns)),some (.dat (.lst (ps.map sd))),some (.dat (.lst (rs.map rD))),some (.dat (.lst ((M++R).map D.str))),none,none,none,none,none])
   (λ_ ρ=>∃s4 s5 s6 s7 s8,ρ=[some (.dat (.scr ns)),some (.dat (.lst (ps.map sd))),some (.dat (.lst (rs.map rD))),some (.dat (.lst ((M++R).map D.str))),s4,s5,s6,s7,s8]) ⟨none,none,none,none,none,rfl⟩ (by
    rintro i v ρ hx ⟨s4,s5,s6,s7,s8,rfl⟩;rw[List.getElem?_map]at hx;cases e:(jX ns (some 6) (some 26))[i]? with
    |none=>rw[e]at hx;cases hx
    |some c=>
     rw[e]at hx;cases hx
     let⟨n,en,n0⟩:=zfp c (hL c (zmZ (List.mem_of_getElem? e)));let⟨t,n1,e1,n10,wt,dt,zt⟩:=term n n0
     replace e1:zaZ [.int n,.int 3,.lst (ps.map sd),.lst [.str "A",.str "B",.str "X"]]=some (.lst [t.d,.int n1]):=e1
     replace zt:t.size<=40:=by simpa[yZ]using zt
     have sm:=zhf t (by lia) (by lia);by_cases hz:t.size<=12
     ·have wu:WT ps U26 t:=wt.mono (by decide+kernel);have es:=zrk rs RO t (by lia) (by lia) (mu1 t wu (by lia));have c6:jX ((stL t rs (zQ [] t)).map sD) none (some 6)=(jX (stL t rs (zQ [] t)) none (some 6)).map sD:=zna _ _ _ _;let⟨s6',s7',s8',el⟩:=zsU (some (.dat (.scr ns))) (some (.dat (.lst (ps.map sd)))) (some (.dat (.lst (rs.map rD)))) (M++R) (some (.dat (.int c))) s6 s7 s8 t (jX (stL t rs (zQ [] t)) none (some 6)) (λx hx=>by
       have hx:=zmZ hx;let⟨h1,h2,h3⟩:=zqh RW wu (by simp_all) hx;refine⟨by lia,by lia,λh12=>?_⟩;have db:=zaq x.2.2;have s1:yY (M++R) t:=zqd all wu;have s2:yY (M++R) x.2.2:=zqd all h1;have ab:=kC.mpr (zkY dn hx);have dt':=zaq t;have lMR:(M++R).length<=8:=by grind
       have q1:zcf [.lst ((M++R).map D.str),t.d,x.2.2.d]=_:=zcn (M++R) (by lia) 100 t x.2.2 (by lia) (by lia) (by lia) (by lia) (by lia) s1 s2;have q2:=zmU (M++R) t x.2.2 (by lia) (by lia) nMR (by lia) (λf ss h=>by rcases h with h|h;exact s1 f ss h;exact s2 f ss h)
       grind)
      rw[←c6]at el;generalize (stL t rs (zQ [] t)).map sD=SS at*;generalize ps.map sd=PS at*;generalize rs.map rD=RR at*;generalize (M++R).map D.str=MR at*;refine⟨[some (.dat (.scr ns)),some (.dat (.lst PS)),some (.dat (.lst RR)),some (.dat (.lst MR)),some (.dat (.int c)),some (.dat t.d),s6',s7',s8'],.inl ?_,_,_,_,_,_,rfl⟩
      dsimp! [en,e1,sm,hz,es,el]
     ·generalize ps.map sd=PS at*;generalize rs.map rD=RR at*;generalize (M++R).map D.str=MR at*;refine⟨[some (.dat (.scr ns)),some (.dat (.lst PS)),some (.dat (.lst RR)),some (.dat (.lst MR)),some (.dat (.int c)),some (.dat t.d),s6,s7,s8],.inl ?_,_,_,_,_,_,rfl⟩
      dsimp! [en,e1,sm,hz])
  generalize ps.map sd=PS at*;generalize rs.map rD=RR at*;generalize (M++R).map D.str=MR at*
  simp! [m_law34,er,xY,e,cm,lps,ad,ef,qK,yE]
abbrev pwk:Program:=PySem.Challenge.pw_endmeet_k34_steps_go_down
abbrev rwk:PySem.W.OpenLaw:=PySem.Challenge.rw_endmeet_k34_steps_go_down
noncomputable def fnI:U Nat:=[6,7,8,9,10,11,12,14,15,16,18,19,20,21,22,23,25,26,27,28,29,30,31,33,34,35,36,37,38,39,40,41,42,43,44,45,46]
noncomputable def qwk:Program:={pwk with main:={pwk.main with body:=[jU pwk 46]}}
noncomputable def lzk:U Str:=pwk.main.body.dropLast.filterMap λst=>match st with
 | .FunctionDef n ..=>some n
 | .ClassDef n ..=>some n
 | .Assign [.Name n _] _ _=>if n=="__name__"then none else some n
 |_=>none
structure YZ(Z:ZZ):Prop where
 B:Glb Z.mg
 F:FNs pwk fnI Z
variable{Z:ZZ}
def zgE(Y:YZ Z):Fq Z "_law_signs" ["_law_cell_here"] .ow 1 zcd:=
 mkF Y.F 34 ["_law_cell_here","_law_letters","_law_number_here","_law_long","_law_at","_law_found","_law_k","_law_word","_law_j","_law_place"] λnd _ n _ _ _ _ _ _ hr=>zH (qY 1 nd qF) (zH (qY 2 nd (fop xR (fb 0) bi)) (zH (qY 3 nd (fop jL bi (bop xR (fb 2) bi))) (zH (qY 4 nd (fop xR (bop vK (fb 2) bi) (fb 3))) (zH (kT 5 nd (jJ zE)) (zH (kE PassesOwn.never rfl (zbQ jG rfl Y.B.range) (qB 6 nd) (zH (qY 7 nd qF) (zH (kE PassesOwn.never rfl (zbQ (fv 3) rfl Y.B.range) (qB 8 nd) (zH (qY 9 nd (fop jL (bop jL (bop vK (fb 2) (bop jL (fb 8) bi)) (bop zlQ (fb 8) (fb 8))) (bop zlQ (FP.br (zdc zuY rfl Y.B.int PyProof.Rows.boot_int (xK (FP.br (fcq (peq hr) (fb 8) (fb 4))) zE))) (fb 6)))) (zK (qY 7 nd (fop jL (fb 7) (biz (fb 1) (bop xR (fb 9) bi))))))) (zK (xU (wH 5 (zU (zB (fv 7) (zB (fiz (FP.ob (jJ (zB jG (zB jG (zB jG (zB (fop xR (bop vK (fb 2) bi) bi) zE)))))) (fb 6)) zE))))))))) (zK (zla 5)))))))
def zaV(Y:YZ Z):Fq Z "_law_cell" ["_law_script","_law_k"] .fz 1 nX:=
 mkF Y.F 33 ["_law_script","_law_k"] λnd _ n _ _ _ _ _ _ hr=>zH (sif (FTp.up (tcq p_lt (fb 1) (bln Y.B (fb 0)))) (zK (qD (fiz (fb 0) (fb 1)))) qS) (zK (qD jG))
def zbM(Y:YZ Z):Fq Z "_law_term" ["_law_number_here","_law_nest","_law_signs_here","_law_blanks_here"] .fz 100 zaZ:=
 recF Y.F 35 0 100 λ_ ih=>mkF Y.F 35 ["_law_number_here","_law_nest","_law_signs_here","_law_blanks_here","_law_many","_law_pick","_law_sign","_law_count","_law_parts","_law_k","_law_part"] λnd _ n _ _ _ _ _ _ hr=>zH (qY 4 nd (fop jL (bln Y.B (fb 2)) (bln Y.B (fb 3)))) (zH (qY 5 nd (fop xR (fb 0) (fb 4))) (zH (qY 0 nd (fop vK (fb 0) (fb 4))) (zH (sif (FTp.up (tcq p_lt (fb 5) (bln Y.B (fb 3)))) (zK (qD (FP.fz (jJ (zB (fiz (fb 3) (fb 5)) (zB (fv 0) zE)))))) qS) (zH (sasg (fiz (fb 2) (bop zon (fb 5) (bln Y.B (fb 3)))) (yN rfl (qN (qB 6 nd) (qN (qB 7 nd) kO)) (qM (qM kN)))) (zH (sif (FTp.up (FWp.pt (tand (tcq (peq hr) (fb 1) bi) (zrD (tcq p_gt (fb 7) bi))))) (zK (qD (FP.fz (jJ (zB (zU (zB (fiz (biz (fb 2) bi) bi) zE)) (zB (fv 0) zE)))))) qS) (zH (kT 8 nd (jJ zE)) (zH (kE PassesOwn.never rfl (zbQ (fv 7) rfl Y.B.range) (qB 9 nd) (zH (sasg (fk ih hr (zB (fv 0) (zB (fop zon (fb 1) bi) (zB (fv 2) (zB (fv 3) zE))))) (glst rfl (qN (qB 10 nd) (qN (qB 0 nd) kO)) (qM (qM kN)))) (zK (xU (wH 8 (fv 10)))))) (zK (qD (FP.fz (jJ (zB (fop jL (FP.br (zU (zB (fv 6) zE))) (FP.br (zdc zgl rfl Y.B.tuple Wh (xK (fb 8) zE)))) (zB (fv 0) zE)))))))))))))
def zhH(Y:YZ Z):Fq Z "_law_menu" ["_law_signs_here","_law_pick"] .fz 1 zdx:=
 mkF Y.F 39 ["_law_signs_here","_law_pick","_law_a","_law_f","_law_g","_law_some"] λnd _ n _ _ _ _ _ _ hr=>zH (qY 2 nd (zU (zB (fiz (biz (fb 0) bi) bi) zE))) (zH (qY 3 nd (fiz (biz (fb 0) bi) bi)) (zH (qY 4 nd (fiz (biz (fb 0) bi) bi)) (zH (qY 5 nd (FP.fz (jJ (zB (zU (zB (zU (zB (fv 4) (zB (zU (zB (fv 4) (zB qF (zB qF zE)))) (zB qF zE)))) (zB (zU (zB (fv 4) (zB qF (zB (zU (zB (fv 4) (zB qF (zB qF zE)))) zE)))) zE))) (zB (zU (zB (zU (zB (fv 4) (zB (fv 2) (zB qF zE)))) (zB qF zE))) (zB (zU (zB (zU (zB (fv 4) (zB qF (zB (fv 2) zE)))) (zB qF zE))) zE)))))) (zH (qY 5 nd (fop jL (fb 5) (FP.ob (jJ (zB (zU (zB (zU (zB (fv 3) (zB (zU (zB (fv 3) (zB qF zE))) zE))) (zB qF zE))) (zB (zU (zB (zU (zB (fv 3) (zB (fv 2) zE))) (zB (fv 2) zE))) (zB (zU (zB (zU (zB (fv 3) (zB (zU (zB (fv 4) (zB qF (zB qF zE)))) zE))) (zB (zU (zB (fv 4) (zB (zU (zB (fv 3) (zB qF zE))) (zB (zU (zB (fv 3) (zB qF zE))) zE)))) zE))) zE))))))) (zH (qY 5 nd (fop jL (fb 5) (FP.ob (jJ (zB (zU (zB (zU (zB (fv 4) (zB (zU (zB (fv 3) (zB qF zE))) (zB qF zE)))) (zB (fv 2) zE))) (zB (zU (zB (zU (zB (fv 3) (zB (zU (zB (fv 3) (zB qF zE))) zE))) (zB (zU (zB (fv 3) (zB qF zE))) zE))) (zB (zU (zB (zU (zB (fv 4) (zB qF (zB qF zE)))) (zB qF zE))) zE))))))) (zH (qY 5 nd (fop jL (fb 5) (FP.ob (jJ (zB (zU (zB (zU (zB (fv 4) (zB (zU (zB (fv 3) (zB qF zE))) (zB qF zE)))) (zB (zU (zB (fv 3) (zB (zU (zB (fv 4) (zB qF (zB qF zE)))) zE))) zE))) (zB (zU (zB (zU (zB (fv 4) (zB qF (zB (zU (zB (fv 3) (zB qF zE))) zE)))) (zB (zU (zB (fv 3) (zB (zU (zB (fv 4) (zB qF (zB qF zE)))) zE))) zE))) zE)))))) (zH (qY 5 nd (fop jL (fb 5) (FP.ob (jJ (zB (zU (zB (zU (zB (fv 3) (zB (zU (zB (fv 4) (zB qF (zB qF zE)))) zE))) (zB qF zE))) (zB (zU (zB (zU (zB (fv 4) (zB (zU (zB (fv 4) (zB qF (zB qF zE)))) (zB qF zE)))) (zB qF zE))) (zB (zU (zB (zU (zB (fv 3) (zB qF zE))) (zB (zU (zB (fv 4) (zB qF (zB (fv 2) zE)))) zE))) zE))))))) (zK (qD (fiz (fb 5) (bop xR (fb 1) bi)))))))))))
def zbX(Y:YZ Z):Fq Z "_law_number" ["_law_cell_here"] .fz 1 zat:=
 mkF Y.F 36 ["_law_cell_here"] λnd _ n _ _ _ _ _ _ hr=>zH (sif (FTp.up (tcq (peq hr) (bop xR (fb 0) bi) bi)) (zK (qD (fop xR (bop vK (fb 0) bi) (bop zsy bi bi)))) qS) (zK (qD (fop xR (bop zlQ (bop vK (fb 0) bi) bi) (bop zsy bi bi))))
def zdQ(Y:YZ Z):Fq Z "_law_size" ["_law_term_here"] .fz 100 zbn:=
 recF Y.F 38 0 100 λ_ ih=>mkF Y.F 38 ["_law_term_here"] λnd _ n _ _ _ _ _ _ hr=>zH (sif (FTp.up (jZ (fisi (fb 0) rfl Y.B.isi rfl Y.B.str Qc))) (zK (qD jG)) qS) (zK (qD (fop jL bi (FP.br (zet (zuW rfl) rfl Y.B.sum PyProof.Rows.boot_sum (xK (FP.ob (vY ["_law_part"] [none] (.own .nil) rfl (jS (yW yT (fb 0) (yL jG) xC)) (λ_ _ _ _=>gnm 0) (λ_ _ _ _=>xW) λ_ _ _ _=>fk ih hr (zB (fv 0) zE))) zE))))))
def zbY(Y:YZ Z):Fq Z "_law_blanks" ["_law_term_here"] .ow 100 zaQ:=
 recF Y.F 37 0 100 λ_ ih=>mkF Y.F 37 ["_law_term_here","_law_found","_law_part","_law_blank"] λnd _ n _ _ _ _ _ _ hr=>zH (sif (FTp.up (jZ (fisi (fb 0) rfl Y.B.isi rfl Y.B.str Qc))) (zK (zrN (jJ (zB (fv 0) zE)))) qS) (zH (kT 1 nd (jJ zE)) (zH (kE PassesOwn.never rfl (jS (yW yT (fb 0) (yL jG) xC)) (qB 2 nd) (zK (kE PassesOwn.never rfl (jS (FP.fz (fk ih hr (zB (fv 2) zE)))) (qB 3 nd) (zK (sif (FTp.up (tcf (pnin hr) (fv 3) (fb 1))) (zK (xU (wH 1 (fv 3)))) qS))))) (zK (zla 1))))
def zhG(Y:YZ Z):Fq Z "_law_rule" ["_law_cell_here","_law_signs_here"] .fz 101 zba:=
 mkF Y.F 40 ["_law_cell_here","_law_signs_here","_law_left","_law_rest","_law_right"] λnd _ n _ _ _ _ _ _ hr=>zH (sif (FTp.up (tcq p_gt (bop xR (fb 0) bi) bi)) (zK (qD (fk (zhH Y) hr (zB (fv 1) (zB (fop vK (fb 0) bi) zE))))) qS) (zH (sasg (fk (zbM Y) hr (zB (fk (zbX Y) hr (zB (fop vK (fb 0) bi) zE)) (zB jG (zB (fv 1) (zB (FP.fz (jJ (zB qF (zB qF (zB qF zE))))) zE))))) (glst rfl (qN (qB 2 nd) (qN (qB 3 nd) kO)) (qM (qM kN)))) (zH (sif (FTp.up (FWp.pt (tor (jZ (fisi (fb 2) rfl Y.B.isi rfl Y.B.str Qc)) (nF (tcq p_gt (FP.br (fk (zdQ Y) hr (zB (fv 2) zE))) bi))))) (zK (qY 2 nd (zU (zB (fiz (biz (fb 1) bi) bi) (zB qF zE))))) qS) (zH (qY 4 nd (fiz (FP.br (fk (zbM Y) hr (zB (fop jL (fb 3) (bop xR (bop vK (fb 0) bi) bi)) (zB jG (zB (fv 1) (zB (FP.fz (fk (zbY Y) hr (zB (fv 2) zE))) zE)))))) bi)) (zK (qD (zU (zB (fv 2) (zB (fv 4) zE))))))))
def zdP(Y:YZ Z):Fq Z "_law_told" ["_law_term_here","_law_names"] .fz 100 zcc:=
 recF Y.F 41 0 100 λ_ ih=>mkF Y.F 41 ["_law_term_here","_law_names"] λnd _ n _ _ _ _ _ _ hr=>zH (sif (FTp.up (jZ (fisi (fb 0) rfl Y.B.isi rfl Y.B.str Qc))) (zK (qD (fixK (kY hr) (fb 1) (fv 0) λ_ _=>rfl))) qS) (zK (qD (fop jL (FP.br (zU (zB (fiz (fb 0) bi) zE))) (FP.br (zdc zgl rfl Y.B.tuple Wh (xK (FP.ob (vY ["_law_part","_law_names"] [none,some 1] (.own (.cap .nil)) rfl (jS (yW yT (fb 0) (yL jG) xC)) (λ_ _ _ _=>gnm 0) (λ_ _ _ _=>xW) λ_ _ _ _=>fk ih hr (zB (fv 0) (zB (fv 1) zE)))) zE))))))
def zdR(Y:YZ Z):Fq Z "_law_lettered" ["_law_rule_here","_law_cell_here"] .fz 101 zaA:=
 mkF Y.F 42 ["_law_rule_here","_law_cell_here","_law_letters","_law_names","_law_blank"] λnd _ n _ _ _ _ _ _ hr=>zH (kT 2 nd (zdc (zrq rfl) rfl Y.B.list PyProof.Rows.boot_list (xK (FP.br qF) zE))) (zH (kT 3 nd zkt) (zH (kE PassesOwn.never rfl (jS (FP.fz (jJ (zB qF (zB qF (zB qF (zB qF (zB qF zE)))))))) (qB 4 nd) (zH (zrO 3 (kY hr) (zpo 2 (fop xR (fb 1) (bln Y.B (fb 2)))) (fv 4)) (zK (qY 1 nd (fop jL (bop vK (fb 1) bi) bi))))) (zK (sfrz 3 (qD (zU (zB (fk (zdP Y) hr (zB (fiz (fb 0) bi) (zB (fv 3) zE))) (zB (fk (zdP Y) hr (zB (fiz (fb 0) bi) (zB (fv 3) zE))) zE))))))))
def zgF(Y:YZ Z):Fq Z "_law_rules" ["_law_script","_law_most"] .fz 102 zbm:=
 mkF Y.F 43 ["_law_script","_law_most","_law_signs_here","_law_many","_law_rules_here"] λnd _ n _ _ _ _ _ _ hr=>zH (qY 2 nd (FP.fz (fk (zgE Y) hr (zB (fk (zaV Y) hr (zB (fv 0) (zB jG zE))) zE)))) (zH (qY 3 nd (fop vK (bop jL (bop xR (FP.br (fk (zaV Y) hr (zB (fv 0) (zB jG zE)))) (bop jL (bop zlQ bi (fb 1)) bi)) bi) bi)) (zH (qY 4 nd (FP.fz (vY ["_law_k","_law_signs_here","_law_script"] [none,some 2,some 0] (.own (.cap (.cap .nil))) rfl (zbQ (fv 3) rfl Y.B.range) (λ_ _ _ _=>gnm 0) (λ_ _ _ _=>xW) λ_ _ _ _=>fk (zhG Y) hr (zB (fk (zaV Y) hr (zB (fv 2) (zB (fop jL bi (fb 0)) zE))) (zB (fv 1) zE))))) (zK (qD (FP.fz (jJ (zB (fv 2) (zB (FP.fz (vY ["_law_k","_law_rules_here","_law_script"] [none,some 4,some 0] (.own (.cap (.cap .nil))) rfl (zbQ (fv 3) rfl Y.B.range) (λ_ _ _ _=>gnm 0) (λ_ _ _ _=>xW) λ_ _ _ _=>fk (zdR Y) hr (zB (fiz (fb 1) (fb 0)) (zB (fop jL (bop vK (FP.br (fk (zaV Y) hr (zB (fv 2) (zB jG zE)))) bi) (bop zlQ bi (fb 0))) zE)))) zE))))))))
def vI(Y:YZ Z):Fq Z "is_blank" ["term"] .fz 1 qZ:=
 mkF Y.F 6 ["term"] λnd _ n _ _ _ _ _ _ hr=>zK (qD (fisi (fb 0) rfl Y.B.isi rfl Y.B.str Qc))
def zae(Y:YZ Z):Fq Z "inner_parts" ["term"] .fz 2 jW:=
 mkF Y.F 7 ["term"] λnd _ n _ _ _ _ _ _ hr=>zH (sif (FTp.up (jZ (fk (vI Y) hr (zB (fv 0) zE)))) (zK (qD (zU zE))) qS) (zK (qD (yW yT (fb 0) (yL jG) xC)))
def zag(Y:YZ Z):Fq Z "placed_parts" ["term"] .fz 3 nV:=
 mkF Y.F 8 ["term","found","waiting","place","part","inner"] λnd _ n _ _ _ _ _ _ hr=>zH (kT 1 nd (jJ zE)) (zH (kT 2 nd (jJ (zB (zU (zB (zU zE) (zB (fv 0) zE))) zE))) (zH (zkU n PassesOwn.never (FTp.up (ttru (fb 2))) (zH (zqq (xpop 2) (yN rfl (qN (qB 3 nd) (qN (qB 4 nd) kO)) (qM (qM kN)))) (zH (xU (wH 1 (zU (zB (fv 3) (zB (fv 4) zE))))) (zH (zrM 5 ["at","held","place"] [none,none,some 3] (.own (.own (.cap .nil))) rfl nd (ztm (fk (zae Y) hr (zB (fv 4) zE)) rfl Y.B.enum) (λ_ _ _ _=>yN rfl (qN (gnm 0) (qN (gnm 1) kO)) (qM (qM kN))) (λ_ _ _ _=>xW) λ_ _ _ _=>zU (zB (fop jL (fb 2) (FP.br (zU (zB (fv 0) zE)))) (zB (fv 1) zE))) (zK (xU (zkJ 2 (FP.fz (frev (fb 5) (fneg jG)))))))))) (zK (zlb 1))))
def zdM(Y:YZ Z):Fq Z "twofold_signs" ["terms"] .ow 4 zab:=
 mkF Y.F 20 ["terms","counts","found","term","place","part"] λnd _ n _ _ _ _ _ _ hr=>zH (kT 1 nd zkt) (zH (kT 2 nd (jJ zE)) (zH (kE PassesOwn.never rfl (jS (fv 0)) (qB 3 nd) (zK (kE PassesOwn.never rfl (jS (fk (zag Y) hr (zB (fv 3) zE))) (yN rfl (qN (qB 4 nd) (qN (qB 5 nd) kO)) (qM (qM kN))) (zK (sif (FW.pt (mand (FTp.up (tnot (jZ (fk (vI Y) hr (zB (fv 5) zE))))) (zuF (zsQ (pne hr) (zkI 1 (kY hr) (fiz (fb 5) bi) (fln Y.B (fb 5))) (bln Y.B (fb 5)) (zjc _))))) (zK (xU (wH 2 (fiz (fb 5) bi)))) qS))))) (zK (zla 2))))
def zdO(Y:YZ Z):Fq Z "blanks_of" ["term"] .fz 4 zax:=
 mkF Y.F 9 ["term","found","place","part"] λnd _ n _ _ _ _ _ _ hr=>zH (kT 1 nd (jJ zE)) (zH (kE PassesOwn.never rfl (jS (fk (zag Y) hr (zB (fv 0) zE))) (yN rfl (qN (qB 2 nd) (qN (qB 3 nd) kO)) (qM (qM kN))) (zK (sif (FTp.up (FWp.pt (tand (jZ (fk (vI Y) hr (zB (fv 3) zE))) (zrD (tcf (pnin hr) (fv 3) (fb 1)))))) (zK (xU (wH 1 (fv 3)))) qS))) (zK (zlb 1)))
def zlu(Y:YZ Z):Fq Z "is_rule" ["left","right"] .fz 5 zce:=
 mkF Y.F 18 ["left","right","known"] λnd _ n _ _ _ _ _ _ hr=>zH (sif (FTp.up (jZ (fk (vI Y) hr (zB (fv 0) zE)))) (zK (qD fbl)) qS) (zH (qY 2 nd (fk (zdO Y) hr (zB (fv 0) zE))) (zK (qD (zet (ztL rfl) rfl Y.B.all PyProof.Rows.boot_all (xK (FP.ob (vY ["blank","known"] [none,some 2] (.own (.cap .nil)) rfl (jS (fk (zdO Y) hr (zB (fv 1) zE))) (λ_ _ _ _=>gnm 0) (λ_ _ _ _=>xW) λ_ _ _ _=>ztv (pinn hr) (fv 0) (fb 1) (by with_unfolding_all rfl))) zE)))))
def zeV(Y:YZ Z):Fq Z "sides_of" ["rules"] .ow 1 zaN:=
 mkF Y.F 19 ["rules"] λnd _ n _ _ _ _ _ _ hr=>zK (zrN (ztu ["rule","side"] [none,none] (.own (.own .nil)) rfl (jS (fv 0)) (λ_ _ _ _=>gnm 0) (λ_ _ _ _=>jS (fv 0)) (λ_ _ _ _=>gnm 1) λ_ _ _ _=>fv 1))
def zcW(Y:YZ Z):Fq Z "must_rules" ["rules","terms"] .fz 6 gI:=
 mkN Y.F 21 ["rules","terms","rule","left","right","twofold"] λnd _ n _ _ _ _ _ _ hr=>zH (kE PassesOwn.never rfl (jS (fv 0)) (qB 2 nd) (zH (sasg (fv 2) (yN rfl (qN (qB 3 nd) (qN (qB 4 nd) kO)) (qM (qM kN)))) (zK (sif (FTp.up (tnot (jZ (fk (zlu Y) hr (zB (fv 3) (zB (fv 4) zE)))))) (zK zld) qS)))) (zH (qY 5 nd (FP.fz (fk (zdM Y) hr (zB (fop jL (FP.ob (fk (zeV Y) hr (zB (fv 0) zE))) (fb 1)) zE)))) (zK (sif (FTp.up (ttru (fb 5))) (zK zld) qS)))
def zeU(Y:YZ Z):Fq Z "signs_of" ["terms"] .fz 4 zam:=
 mkF Y.F 10 ["terms","found","term","place","part"] λnd _ n _ _ _ _ _ _ hr=>zH (kT 1 nd (zuO rfl Y.B.set)) (zH (kE PassesOwn.never rfl (jS (fv 0)) (qB 2 nd) (zK (kE PassesOwn.never rfl (jS (fk (zag Y) hr (zB (fv 2) zE))) (yN rfl (qN (qB 3 nd) (qN (qB 4 nd) kO)) (qM (qM kN))) (zK (sif (FTp.up (tnot (jZ (fk (vI Y) hr (zB (fv 4) zE))))) (zK (xU (xadd 1 (fiz (fb 4) bi)))) qS))))) (zK (qD (FP.fz (zet (zph rfl) rfl Y.B.sorted PyProof.Rows.boot_sorted (xK (fb 1) zE))))))
def zdN(Y:YZ Z):Fq Z "rules_by_sign" ["rules","signs"] .fz 5 zac:=
 mkF Y.F 30 ["rules","signs","found","rule"] λnd _ n _ _ _ _ _ _ hr=>sgrp 2 3 ["sign"] [none] (.own .nil) PassesOwn.never rfl (kY hr) nd (jS (fv 1)) (λ_ _ _ _=>gnm 0) (λ_ _ _ _=>xW) (λ_ _ _ _=>fv 0) (λ_ _ _ _=>jJ zE) (λ_=>rfl) (jS (fv 0)) (fiz (FP.br (fk (zeU Y) hr (zB (FP.fz (zdc ztJ rfl Y.B.list PyProof.Rows.boot_list (xK (fb 3) zE))) zE))) (FP.br (fneg jG))) (fv 3) (zK (zlb 2)) (λ_ _=>rfl)
def znT(Y:YZ Z):FqB Z "row_of" ["part","place","numbers"] [false,false,true] 2 zbC:=
 mkB Y.F 25 ["part","place","numbers"] λnd _ n _ _ _ _ _ _ hr=>zH (sif (FTp.up (jZ (fk (vI Y) hr (zB (fv 0) zE)))) (zK (qD (fv 0))) qS) (zK (qD (fop jL (FP.br (zU (zB (fiz (fb 0) bi) zE))) (FP.br (zdc zgl rfl Y.B.tuple Wh (xK (FP.ob (vY ["at","numbers","place"] [none,some 2,some 1] (.own (.cap (.cap .nil))) rfl (zbQ (fop zon (bln Y.B (fb 0)) bi) rfl Y.B.range) (λ_ _ _ _=>gnm 0) (λ_ _ _ _=>xW) λ_ _ _ _=>fixG (kY hr) (fb 1) (fop jL (fb 2) (FP.br (zU (zB (fv 0) zE)))) λ_ _=>rfl)) zE))))))
def zjU(Y:YZ Z):Fq Z "numbered" ["terms"] .fz 4 zbE:=
 mkF Y.F 26 ["terms","rows","held","term","numbers","place","part"] λnd _ n _ _ _ _ _ _ hr=>zH (kT 1 nd zkt) (zH (kT 2 nd (jJ zE)) (zH (kE PassesOwn.never rfl (jS (fv 0)) (qB 3 nd) (zH (kT 4 nd zkt) (zH (kE PassesOwn.never rfl (irev (fk (zag Y) hr (zB (fv 3) zE)) rfl Y.B.reversed) (yN rfl (qN (qB 5 nd) (qN (qB 6 nd) kO)) (qM (qM kN))) (zK (zpv 4 (kY hr) (znz 1 (kY hr) (fkB (znT Y) hr (zkb (fv 6) (zkb (fv 5) (zsP (fb 4) mnil)))) (zet ztK rfl Y.B.len PySem.boot_len (xK (fb 1) zE))) (fv 5)))) (zK (sfrz 4 (xU (wH 2 (FP.fz (ztr Y.B.sorted ["place","numbers"] [none,some 4] (.own (.cap .nil)) rfl (ztl (fv 4)) (λ_ _ _ _=>gnm 0) λ_ _ _ _=>fixG (kY hr) (fb 1) (fv 0) λ_ _=>rfl))))))))) (zK (sfrz 2 (qD (zU (zB (FP.fz (zdc (zrr rfl) rfl Y.B.list PyProof.Rows.boot_list (xK (fb 1) zE))) (zB (fv 2) zE))))))))
def zhF(Y:YZ Z):FqB Z "row_above" ["levels","rows","told","one","other"] [false,false,true,false,false] 3 vT:=
 mkB Y.F 27 ["levels","rows","told","one","other","unlike"] λnd _ n _ _ _ _ _ _ hr=>zH (sif (FTp.up (jZ (fk (vI Y) hr (zB (fiz (fb 1) (fb 3)) zE)))) (zK (qD fbl)) qS) (zH (sif (FTp.up (ttru (FP.br (zet (zuZ rfl) rfl Y.B.any PyProof.Rows.boot_any (xK (FP.ob (vY ["inner","other","told"] [none,some 4,some 2] (.own (.cap (.cap .nil))) rfl (jS (fk (zae Y) hr (zB (fiz (fb 1) (fb 3)) zE))) (λ_ _ _ _=>gnm 0) (λ_ _ _ _=>xW) λ_ _ _ _=>vor (fcq (peq hr) (fb 0) (fb 1)) (vone (fixG (kY hr) (fb 2) (zU (zB (fv 0) (zB (fv 1) zE))) λ_ _=>rfl)))) zE))))) (zK (qD fbl)) qS) (zH (sif (FTp.up (FWp.pt (tor (jZ (fk (vI Y) hr (zB (fiz (fb 1) (fb 4)) zE))) (nF (tnot (ttru (FP.br (zet (ztL rfl) rfl Y.B.all PyProof.Rows.boot_all (xK (FP.ob (vY ["inner","told","one"] [none,some 2,some 3] (.own (.cap (.cap .nil))) rfl (jS (fk (zae Y) hr (zB (fiz (fb 1) (fb 4)) zE))) (λ_ _ _ _=>gnm 0) (λ_ _ _ _=>xW) λ_ _ _ _=>fixG (kY hr) (fb 1) (zU (zB (fv 2) (zB (fv 0) zE))) λ_ _=>rfl)) zE))))))))) (zK (qD fbl)) qS) (zH (sif (FTp.up (tcq (pne hr) (biz (biz (fb 1) (fb 3)) bi) (biz (biz (fb 1) (fb 4)) bi))) (zK (qD (fcq p_gt (FP.br (fixK (kY hr) (fb 0) (fiz (biz (fb 1) (fb 3)) bi) λ_ _=>rfl)) (FP.br (fixK (kY hr) (fb 0) (fiz (biz (fb 1) (fb 4)) bi) λ_ _=>rfl))))) qS) (zH (zrM 5 ["pair"] [none] (.own .nil) rfl nd (izip (fk (zae Y) hr (zB (fiz (fb 1) (fb 3)) zE)) (fk (zae Y) hr (zB (fiz (fb 1) (fb 4)) zE)) rfl Y.B.zip) (λ_ _ _ _=>gnm 0) (λ_ _ _ _=>pif1 (tcq (pne hr) (biz (fb 0) bi) (biz (fb 0) bi))) λ_ _ _ _=>fv 0) (zK (qD (vand (fcq p_gt (bln Y.B (fb 5)) bi) (vone (fixG (kY hr) (fb 2) (fiz (fb 5) bi) λ_ _=>rfl)))))))))
def zlw(Y:YZ Z):Fq Z "above" ["rank","one","other"] .fz 5 zcE:=
 mkF Y.F 28 ["rank","one","other","levels","rows","held","ones","others","told","first","second"] λnd _ n _ _ _ _ _ _ hr=>zH (zrL 3 ["level","sign"] [none,none] (.own (.own .nil)) rfl nd (zpP (fv 0) rfl Y.B.enum) (λ_ _ _ _=>yN rfl (qN (gnm 0) (qN (gnm 1) kO)) (qM (qM kN))) (λ_ _ _ _=>xW) (λ_ _ _ _=>fv 1) λ_ _ _ _=>fv 0) (zH (sasg (fk (zjU Y) hr (zB (FP.fz (jJ (zB (fv 1) (zB (fv 2) zE)))) zE)) (yN rfl (qN (qB 4 nd) (qN (qB 5 nd) kO)) (qM (qM kN)))) (zH (sasg (fv 5) (glst rfl (qN (qB 6 nd) (qN (qB 7 nd) kO)) (qM (qM kN)))) (zH (kT 8 nd zkt) (zH (sfrz 3 (kE PassesOwn.never rfl (jS (fv 6)) (qB 9 nd) (zK (kE PassesOwn.never rfl (jS (fv 7)) (qB 10 nd) (zK (zpv 8 (kY hr) (xup (fkB (zhF Y) hr (zkb (fv 3) (zkb (fv 4) (zsP (fb 8) (zkb (fv 9) (zkb (fv 10) mnil))))))) (zU (zB (fv 9) (zB (fv 10) zE))))))))) (zK (qD (fixG (kY hr) (fb 8) (zU (zB (fiz (fb 6) (FP.br (fneg jG))) (zB (fiz (fb 7) (FP.br (fneg jG))) zE))) λ_ _=>rfl)))))))
def zlv(Y:YZ Z):Fq Z "go_down" ["rank","rules"] .fz 6 zaP:=
 mkF Y.F 29 ["rank","rules","left","right"] λnd _ n _ _ _ _ _ _ hr=>zH (kE PassesOwn.never rfl (jS (fv 1)) (yN rfl (qN (qB 2 nd) (qN (qB 3 nd) kO)) (qM (qM kN))) (zK (sif (FTp.up (tnot (jZ (fk (zlw Y) hr (zB (fv 0) (zB (fv 2) (zB (fv 3) zE))))))) (zK (qD fbl)) qS))) (zK (qD fbl))
def zlt(Y:YZ Z):Fq Z "rank_of" ["rules"] .fz 7 zaO:=
 mkF Y.F 31 ["rules","signs","due","waiting","rank","sign","at","longer"] λnd _ n _ _ _ _ _ _ hr=>zH (zrS (fk (zcW Y) hr (zB (fv 0) (zB (FP.fz (jJ zE)) zE)))) (zH (qY 1 nd (fk (zeU Y) hr (zB (FP.fz (fk (zeV Y) hr (zB (fv 0) zE))) zE))) (zH (qY 2 nd (fk (zdN Y) hr (zB (fv 0) (zB (fv 1) zE)))) (zH (kT 3 nd (jJ (zB (FP.fz (jJ zE)) zE))) (zH (zkU n PassesOwn.never (FTp.up (ttru (fb 3))) (zH (zqq (xpop 3) (qB 4 nd)) (zH (sif (FTp.up (tcq (peq hr) (bln Y.B (fb 4)) (bln Y.B (fb 1)))) (zK (qD (fv 4))) qS) (zH (qY 5 nd (fiz (fb 1) (bln Y.B (fb 4)))) (zK (kE PassesOwn.never rfl (zbQ (fop jL (bln Y.B (fb 4)) bi) rfl Y.B.range) (qB 6 nd) (zH (qY 7 nd (fop jL (bop jL (FP.br (yW yT (fb 4) xC (yL (fv 6)))) (FP.ob (jJ (zB (fv 5) zE)))) (FP.br (yW yT (fb 4) (yL (fv 6)) xC)))) (zK (sif (FTp.up (jZ (fk (zlv Y) hr (zB (fv 7) (zB (fixK (kY hr) (fb 2) (fv 5) λ_ _=>rfl) zE))))) (zK (xU (wH 3 (fv 7)))) qS))))))))) (zK (qD nZ))))))
def zcX(Y:YZ Z):Fq Z "_law_small" ["_law_term_here"] .fz 101 zaM:=
 mkF Y.F 45 ["_law_term_here"] λnd _ n _ _ _ _ _ _ hr=>zH (sif (FTp.up (jZ (fisi (fb 0) rfl Y.B.isi rfl Y.B.str Qc))) (zK (qD fbl)) qS) (zK (qD (fcq p_le (FP.br (fk (zdQ Y) hr (zB (fv 0) zE))) bi)))
def zeJ(Y:YZ Z):Fq Z "paired_parts" ["one","other"] .fz 2 nW:=
 mkF Y.F 15 ["one","other"] λnd _ n _ _ _ _ _ _ hr=>zH (sif (FTp.up (FWp.pt (tor (jZ (fk (vI Y) hr (zB (fv 0) zE))) (nF (jZ (fk (vI Y) hr (zB (fv 1) zE))))))) (zK (qD nZ)) qS) (zH (sif (FTp.up (FWp.pt (tor (tcq (pne hr) (biz (fb 0) bi) (biz (fb 1) bi)) (nF (tcq (pne hr) (bln Y.B (fb 0)) (bln Y.B (fb 1))))))) (zK (qD nZ)) qS) (zK (qD (FP.fz (ztq rfl rfl Y.B.list rfl Y.B.zip (yW yT (fb 0) (yL jG) xC) (yW yT (fb 1) (yL jG) xC))))))
def zsb(Y:YZ Z):Fq Z "fits" ["pattern","term"] .fz 3 zgS:=
 mkF Y.F 16 ["pattern","term","filling","waiting","asked","given","pairs"] λnd _ n _ _ _ _ _ _ hr=>zH (kT 2 nd zkt) (zH (kT 3 nd (jJ (zB (zU (zB (fv 0) (zB (fv 1) zE))) zE))) (zH (zkU n PassesOwn.never (FTp.up (ttru (fb 3))) (zH (zqq (zpo 3 jG) (yN rfl (qN (qB 4 nd) (qN (qB 5 nd) kO)) (qM (qM kN)))) (zH (sif (FTp.up (jZ (fk (vI Y) hr (zB (fv 4) zE)))) (zH (sif (zsQ (pne hr) (zkI 2 (kY hr) (fv 4) (fv 5)) (fb 5) (zjc _)) (zK (qD nZ)) qS) (zK zug)) qS) (zH (qY 6 nd (fk (zeJ Y) hr (zB (fv 4) (zB (fv 5) zE)))) (zH (sif (FTp.up (tcq p_is (fb 6) (FP.br nZ))) (zK (qD nZ)) qS) (zK (kT 3 nd (fop zuy (fb 6) (fb 3))))))))) (zK (zlb 2))))
def znS(Y:YZ Z):Fq Z "way_to" ["term","place"] .fz 3 zdw:=
 mkF Y.F 11 ["term","place","way","number","inner"] λnd _ n _ _ _ _ _ _ hr=>zH (kT 2 nd (jJ (zB (fv 0) zE))) (zH (kE PassesOwn.never rfl (jS (fv 1)) (qB 3 nd) (zH (qY 4 nd (fk (zae Y) hr (zB (fiz (fb 2) (FP.br (fneg jG))) zE))) (zH (sif (FTp.up (FWp.pt (tor (tcq p_lt (fb 3) bi) (nF (tcq (p_ge (kY hr)) (fb 3) (bln Y.B (fb 4))))))) (zK zld) qS) (zK (xU (wH 2 (fiz (fb 4) (fb 3)))))))) (zK (zlb 2)))
def znU(Y:YZ Z):Fq Z "put_at" ["term","place","new"] .fz 4 zbD:=
 mkF Y.F 12 ["term","place","new","wholes","made","whole","number"] λnd _ n _ _ _ _ _ _ hr=>zH (qY 3 nd (yW yT (FP.br (fk (znS Y) hr (zB (fv 0) (zB (fv 1) zE)))) xC (yL (fneg jG)))) (zH (qY 4 nd (fv 2)) (zH (kE PassesOwn.never rfl (irev (FP.fz (ztq rfl rfl Y.B.list rfl Y.B.zip (fv 3) (fv 1))) rfl Y.B.reversed) (yN rfl (qN (qB 5 nd) (qN (qB 6 nd) kO)) (qM (qM kN))) (zK (qY 4 nd (fop jL (bop jL (FP.br (yW yT (fb 5) xC (yL (fop jL (fb 6) bi)))) (FP.br (zU (zB (fv 4) zE)))) (FP.br (yW yT (fb 5) (yL (fop jL (fb 6) bi)) xC)))))) (zK (qD (fv 4)))))
def znV(Y:YZ Z):Fq Z "filled" ["term","filling"] .fz 101 zbb:=
 recF Y.F 14 1 100 λ_ ih=>mkF Y.F 14 ["term","filling"] λnd _ n _ _ _ _ _ _ hr=>zH (sif (FTp.up (jZ (fk (vI Y) hr (zB (fv 0) zE)))) (zK (qD (fget (kY hr) (fb 1) (fv 0) (fv 0)))) qS) (zK (qD (fop jL (FP.br (zU (zB (fiz (fb 0) bi) zE))) (FP.br (zdc zgl rfl Y.B.tuple Wh (xK (FP.ob (vY ["part","filling"] [none,some 1] (.own (.cap .nil)) rfl (jS (yW yT (fb 0) (yL jG) xC)) (λ_ _ _ _=>gnm 0) (λ_ _ _ _=>xW) λ_ _ _ _=>fk ih hr (zB (fv 0) (zB (fv 1) zE)))) zE))))))
def zjT(Y:YZ Z):Fq Z "steps_at" ["rules","term","place","part"] .ow 102 zbB:=
 mkF Y.F 22 ["rules","term","place","part","found","number","left","right","filling"] λnd _ n _ _ _ _ _ _ hr=>zH (kT 4 nd (jJ zE)) (zH (kE PassesOwn.never rfl (zpP (fv 0) rfl Y.B.enum) (yN rfl (qN (qB 5 nd) (qN (yN rfl (qN (qB 6 nd) (qN (qB 7 nd) kO)) (qM (qM kN))) kO)) (qM (qM kN))) (zH (qY 8 nd (fk (zsb Y) hr (zB (fv 6) (zB (fv 3) zE)))) (zK (sif (FTp.up (tcq zqH (fb 8) (FP.br nZ))) (zK (xU (wH 4 (zU (zB (fv 2) (zB (fv 5) (zB (fk (znU Y) hr (zB (fv 1) (zB (fv 2) (zB (fk (znV Y) hr (zB (fv 7) (zB (fv 8) zE))) zE)))) zE))))))) qS)))) (zK (zla 4)))
def zqv(Y:YZ Z):Fq Z "steps" ["rules","term"] .ow 103 zfU:=
 mkF Y.F 23 ["rules","term","found","place","part"] λnd _ n _ _ _ _ _ _ hr=>zH (zrS (fk (zcW Y) hr (zB (fv 0) (zB (FP.fz (jJ (zB (fv 1) zE))) zE)))) (zH (kT 2 nd (jJ zE)) (zH (kE PassesOwn.never rfl (jS (fk (zag Y) hr (zB (fv 1) zE))) (yN rfl (qN (qB 3 nd) (qN (qB 4 nd) kO)) (qM (qM kN))) (zK (xU (zkJ 2 (FP.fz (fk (zjT Y) hr (zB (fv 0) (zB (fv 1) (zB (fv 3) (zB (fv 4) zE)))))))))) (zK (zla 2))))
def zgG(Y:YZ Z):Fq Z "_law_above" ["_law_rank","_law_one","_law_other"] .fz 200 zcf:=
 recF Y.F 44 100 100 λ_ ih=>mkF Y.F 44 ["_law_rank","_law_one","_law_other","_law_part","_law_high","_law_left","_law_right"] λnd _ n _ _ _ _ _ _ hr=>zH (sif (FTp.up (jZ (fisi (fb 1) rfl Y.B.isi rfl Y.B.str Qc))) (zK (qD fbl)) qS) (zH (sif (FTp.up (jZ (fisi (fb 2) rfl Y.B.isi rfl Y.B.str Qc))) (zK (qD (ztv (pinn hr) (fv 2) (FP.ob (fk (zbY Y) hr (zB (fv 1) zE))) (by with_unfolding_all rfl)))) qS) (zH (kE PassesOwn.never rfl (jS (yW yT (fb 1) (yL jG) xC)) (qB 3 nd) (zK (sif (FTp.up (FWp.pt (tor (tcq (peq hr) (fb 3) (fb 2)) (nF (jZ (fk ih hr (zB (fv 0) (zB (fv 3) (zB (fv 2) zE))))))))) (zK (qD fbl)) qS))) (zH (qY 4 nd (fop zon (FP.br (zpR (fb 0) (fiz (fb 1) bi))) (FP.br (zpR (fb 0) (fiz (fb 2) bi))))) (zH (sif (FTp.up (FWp.pt (tor (tcq p_lt (fb 4) bi) (nF (tcq p_gt (bln Y.B (FP.ob (vY ["_law_part","_law_rank","_law_one"] [none,some 0,some 1] (.own (.cap (.cap .nil))) rfl (jS (yW yT (fb 2) (yL jG) xC)) (λ_ _ _ _=>gnm 0) (λ_ _ _ _=>pif1 (tnot (jZ (fk ih hr (zB (fv 1) (zB (fv 2) (zB (fv 0) zE))))))) λ_ _ _ _=>fv 0))) bi))))) (zK (qD fbl)) qS) (zH (sif (FTp.up (tcq p_gt (fb 4) bi)) (zK (qD fbl)) qS) (zH (kE PassesOwn.never rfl (izip (yW yT (fb 1) (yL jG) xC) (yW yT (fb 2) (yL jG) xC) rfl Y.B.zip) (yN rfl (qN (qB 5 nd) (qN (qB 6 nd) kO)) (qM (qM kN))) (zK (sif (FTp.up (tcq (pne hr) (fb 5) (fb 6))) (zK (qD (fk ih hr (zB (fv 0) (zB (fv 5) (zB (fv 6) zE)))))) qS))) (zK (qD fbl))))))))
def zut(Y:YZ Z){f:Addr}{fd:FuncData}(Fn:Fun Z.K "law" "law" (jU pwk 46) f fd):yP Z.P Z.w Z.K Z.mg Z.base CX0 201 f fd ["_law_script"] (SpD Z.K .fz m_law34):=
 have S:nA ["_law_script","_law_signs_here","_law_rules_here","_law_rank","_law_cell_here","_law_term_here","_law_place","_law_number_here","_law_after"] ["_law_script"] (kQ (jU pwk 46)):=⟨rfl,rfl,rfl,by decide+kernel,rfl,by decide+kernel,by decide+kernel⟩;have nd:=S.nd
 ztt Fn S (mb:=zjh) (λn _ _ _ _ _ _ hr=>zH (sasg (fk (zgF Y) hr (zB (fv 0) (zB jG zE))) (glst rfl (qN (qB 1 nd) (qN (qB 2 nd) kO)) (qM (qM kN)))) (zH (qY 3 nd (fk (zlt Y) hr (zB (fv 2) zE))) (zH (sif (FTp.up (tcq p_is (fb 3) (FP.br nZ))) (zK (qD fbl)) qS) (zH (qY 3 nd (fop jL (FP.ob (vY ["_law_sign","_law_count","_law_rank"] [none,none,some 3] (.own (.own (.cap .nil))) rfl (jS (fv 1)) (λ_ _ _ _=>yN rfl (qN (gnm 0) (qN (gnm 1) kO)) (qM (qM kN))) (λ_ _ _ _=>pif1 (tcf (pnin hr) (fv 0) (fb 2))) λ_ _ _ _=>fv 0)) (fb 3))) (zH (kE PassesOwn.never rfl (jS (yW yT (fb 0) (yL jG) (yL jG))) (qB 4 nd) (zH (qY 5 nd (fiz (FP.br (fk (zbM Y) hr (zB (fk (zbX Y) hr (zB (fv 4) zE)) (zB jG (zB (fv 1) (zB (FP.fz (jJ (zB qF (zB qF (zB qF zE))))) zE)))))) bi)) (zK (sif (FTp.up (jZ (fk (zcX Y) hr (zB (fv 5) zE)))) (zK (kE PassesOwn.never rfl (jS (yW yT (FP.ob (fk (zqv Y) hr (zB (fv 2) (zB (fv 5) zE)))) xC (yL jG))) (yN rfl (qN (qB 6 nd) (qN (qB 7 nd) (qN (qB 8 nd) kO))) (qM (qM (qM kN)))) (zK (sif (FTp.up (jZ (fk (zcX Y) hr (zB (fv 8) zE)))) (zK (sif (FTp.up (FWp.pt (tor (tnot (jZ (fk (zgG Y) hr (zB (fv 3) (zB (fv 5) (zB (fv 8) zE)))))) (nF (tcq zoo (FP.br (fk (zlw Y) hr (zB (fv 3) (zB (fv 5) (zB (fv 8) zE))))) (FP.br fbl)))))) (zK (qD fbl)) qS)) qS)))) qS)))) (zK (qD fbl))))))) zlp
def all_mk{l:PySem.W.OpenLaw}{w:World}{K:Fg}{h:Heap}{mg:SV}{fa:Addr}(X:K.In h)(G:h.Ns mainGlobals mg)(hfa:mg "law"=some (.ref fa))(A:faV pwk fnI K=faX pwk fnI):∃fd:FuncData,(∀(s:Shared) (v:Value),BindsTo s fd ⟨[v],[]⟩ [("_law_script",v)])/\∀base:Heap,K.In base->base.Ns mainGlobals mg->yP l.prog w K mg base CX0 201 fa fd ["_law_script"] (SpD K .fz m_law34):=by
 let⟨f,fd,a,F⟩:=ztx A 46 (by decide) (n:="law") rfl;cases hfa.symm.trans (PySem.W.mg_of X G a)
 refine⟨fd,?_,λbase _ _=>zut (Z:=⟨l.prog,w,K,mg,base⟩) ⟨ztw A X G,zts A X G⟩ F⟩
 ·let⟨oc,od,kV,doc,pm,an,cdv,ct,osl,rfl,lk,cd⟩:=F.ex;exact λs v=>.of_eq rfl
open PySem.W
def bigk:∀w:World,(λos:OsState=>(HD.bal (Fast.tw10156331382660048174 (Fast.tw11892475500146522536 Fast.tw14364793385576792824) pwk w) (Fast.tw6613529449190102663 11 (some (.ref 6))) 12 (HD.bootS w os) (topStub pwk)).map (HD.looks pwk qwk lzk (λs=>recOk rwk.row.toRowW.records s) (λs=>faV pwk fnI (zpj s.heap)) Fast.tw4187177175401517315 Fast.tw5923862056798008813 w))=λ_=>some (true,true,openGood qwk lzk,faX pwk fnI):=by
 intro w
 kernel_rfl
def saidk:rwk.wellSaid=true:=by kernel_rfl
def leftk:LeftO pwk qwk lzk (λs=>recOk rwk.row.toRowW.records s) (λs=>faV pwk fnI (zpj s.heap)) (λ_=>faX pwk fnI) 4796:=by refine HD.left_of (d:=12) (by kernel_rfl) (by decide) (by decide) (λs=>by kernel_rfl) ?_;rw[Fast.te10156331382660048174,Fast.te11892475500146522536,Fast.te14364793385576792824,Fast.te6613529449190102663,Fast.te4187177175401517315,Fast.te5923862056798008813];exact bigk
end FL
end
end
open PySem PySem.W PyProof.Rows
set_option maxRecDepth 100000 in
set_option maxHeartbeats 0 in
theorem PySem.Challenge.cw_endmeet_k34_steps_go_down_holds : PySem.Challenge.rw_endmeet_k34_steps_go_down.Holds := by
  refine holds_law FL.saidk fun said => ?_
  refine holds_open (q := FL.qwk) (loose := FL.lzk) (XP := fun _ _ => True) (YP := FL.YP FL.pwk FL.fnI) FL.leftk (fun w s e => ⟨_, FL.allIn_in s.heap, e⟩) FL.YP.keeps (fun _ _ => trivial) (fun _ _ _ _ _ => trivial) (by rfl) (by rfl) (by rfl) (fun s e => recFacts_of e) (by rfl) said (by decide +kernel) ⟨rfl, rfl, rfl, rfl, rfl, by decide +kernel⟩ ?hw ?hc
  case hw => w_witness2
  case hc =>
    refine FL.walkEB (l := PySem.Challenge.rw_endmeet_k34_steps_go_down) (k := 201) (x := "_law_script") (m := FL.m_law34) rfl rfl ⟨rfl, by decide, by decide, rfl⟩ ?F FL.FACT34
    intro K w mg fa h A KX G hmg
    exact FL.all_mk KX G hmg A
