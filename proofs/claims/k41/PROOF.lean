import PyProof.Rows.All
import Wide.All
import OpenK.AllK
import Wide.FinOn
import PyProof.Rows.SortStr
import Lean
import PyProof.EqAt
import PyProof.EqKinds
import PyProof.TupleCall
import PyProof.NeKinds
import PyProof.ZipIter
import PyProof.Draws
import KE.KRevIter
import PyProof.ListNew
import KE.KEqDict
import PyProof.EnumMake
import PyProof.StrWalks
import KE.KDictLaws
import PyProof.DictItemsLoops
import PyProof.DictWalks
import PyProof.DictCompW
import PyProof.ListMulAny
import PyProof.FactsAll.tuple_2
import PyProof.ConsumeWalk
import PyProof.ReprRoads
import PyProof.ExcInit
import PyProof.ExcBaseAll.ValueError
import PyProof.InstStoreFacts
import PyProof.RulesAs
import PyProof.NsDelKeeps
import PyProof.ExcAttrAll.ValueError
import PyProof.ListStr
import PyProof.Rows.SetFrom
import PyProof.MinMaxWalk
import PyProof.StrLawsIn
import KE.IntBitsLaws
import PySem.Challenge.RW_endmeet_k41_overlaps
section
local macro_rules | `(tactic| omega) => `(tactic| lia)
set_option Elab.async false
set_option linter.all false
set_option maxRecDepth 100000
set_option maxHeartbeats 0
open PySem PySem.Spec PyProof.Rows
noncomputable section
abbrev Ja:=@List.length_map
abbrev Jb:=@List.size_toArray
abbrev Jc:=@PySem.wpAny_pure
abbrev Jd:=@Nat.le_refl
abbrev Je:=@List.mem_cons_of_mem
abbrev Jf:=@PySem.Heap.lt_size
abbrev Jg:=@List.map_cons
abbrev Ji:=@List.mem_append_right
abbrev Jl:=@List.length_cons
abbrev Jm:=@List.length_append
abbrev Jn:=@List.map_map
abbrev Jo:=@Option.bind_some
abbrev Jp:=@List.take_succ_eq_append_getElem
abbrev Jq:=@List.mem_append_left
abbrev Js:=@Nat.lt_of_lt_of_le
abbrev Jt:=@Nat.le_trans
abbrev Jv:=@Nat.ne_of_lt
abbrev Jw:=@List.length_take
abbrev Jx:=@List.drop_eq_getElem_cons
abbrev Jy:=@PyProof.Rows.boot_str
abbrev Jz:=@List.not_mem_nil
abbrev JA:=@decide_eq_false
abbrev JB:=@List.append_nil
abbrev JC:=@List.mem_cons
abbrev JD:=@Nat.zero_le
abbrev JE:=@PyProof.Rows.callWith_type1
abbrev JF:=@List.map_append
abbrev JG:=@List.append_assoc
abbrev JH:=@PySem.wpAny_holding
abbrev JI:=@Int.emod_nonneg
abbrev JJ:=@PySem.wpAny_mono
abbrev JK:=@List.mem_cons_self
abbrev JL:=@Bool.false_eq_true
abbrev JM:=@List.take_of_length_le
abbrev JN:=@decide_false
abbrev JO:=@List.getElem_mem
abbrev JQ:=@List.map_congr_left
abbrev JR:=@Bool.false_ne_true
abbrev JS:=@List.mem_append
abbrev JT:=@Int.emod_lt_of_pos
abbrev JU:=@List.length_zipIdx
abbrev JV:=@congrArg
abbrev JW:=@PySem.wpAny_field
abbrev JX:=@List.lookup_cons
abbrev JY:=@PySem.wpAny_newObj_type
abbrev JZ:=@Nat.lt_irrefl
abbrev Qa:=@List.length_singleton
abbrev Qb:=@PySem.W.kia_one
abbrev Qd:=@List.zip_cons_cons
abbrev Qe:=@List.take_length
abbrev Qf:=@decide_eq_true
abbrev Qg:=@Nat.mul_le_mul
abbrev Qh:=@List.length_reverse
abbrev Qi:=@List.length_nil
abbrev Qk:=@PySem.wpAny_setField_rec
abbrev Ql:=@List.cons_append
abbrev Qm:=@PySem.Heap.size_push
abbrev Qn:=@PyProof.Rows.boot_tuple
abbrev Qo:=@or_false
abbrev Qp:=@List.nodup_append
abbrev Qq:=@List.filterMap_cons
abbrev Qr:=@PySem.mem_of_lookup
abbrev Qs:=@List.map_nil
abbrev Qt:=@PySem.wpAny_standAt
abbrev Qu:=@if_false
abbrev Qv:=@List.length_drop
abbrev Qw:=@PySem.wpAny_call_entry
abbrev Qx:=@PySem.F.slot_tuple_iterator_next
abbrev Qy:=@PySem.wpAny_seqItems
abbrev QA:=@PyProof.Rows.slot_tuple_getitem
abbrev QB:=@List.of_mem_zip
abbrev QC:=@Nat.zero_add
abbrev QD:=@if_true
abbrev QE:=@of_decide_eq_true
abbrev QF:=@List.flatMap_cons
abbrev QG:=@PySem.F.plainAttrs_list
abbrev QH:=@List.take_succ_cons
abbrev QI:=@List.drop_length
abbrev QJ:=@List.map_fst_zip
abbrev QK:=@PySem.Calls.spliced_cons
abbrev QL:=@PySem.wpAny_passesOwn
abbrev QM:=@PySem.wpAny_truthy_bool
abbrev QN:=@Int.toNat_natCast
abbrev QO:=@List.reverse_cons
abbrev QP:=@Option.some.injEq
abbrev QQ:=@PySem.F.plain_extend_loop
abbrev QR:=@List.drop_zero
abbrev QT:=@PySem.AutoSeq1.wpAny_loadPart'
abbrev QV:=@List.eraseIdx_eq_take_drop_succ
abbrev QW:=@List.any_cons
abbrev QX:=@PySem.wpAny_rule
abbrev QY:=@PySem.wpAny_pyIter_tuple
abbrev QZ:=@PySem.wpAny_Call_Name_kw
abbrev Wa:=@List.length_zip
abbrev Wb:=@PySem.tupleKind_room_in1
abbrev Wc:=@List.mem_singleton
abbrev Wd:=@PySem.sizeLine_eq
abbrev We:=@PySem.Calls.callWith_builtin
abbrev Wf:=@decide_true
abbrev Wg:=@PySem.F.slot_zip_next
abbrev Wh:=@List.take_append_drop
abbrev Wi:=@Bool.and_eq_true
abbrev Wj:=@List.mem_of_mem_take
abbrev Wk:=@List.sum_cons
abbrev Jk:=@List.mem_map
abbrev JP:=@List.all_eq_true
abbrev Qc:=@List.mem_filter
abbrev Qj:=@List.mem_iff_getElem?
abbrev Qz:=@Option.map_eq_some_iff
abbrev QU:=@List.nodup_cons
abbrev Fg:=PySem.W.Frag
abbrev VS:=Value→Shared→Prop
abbrev AO:=List (Addr×Obj)
abbrev SV:=Str→Option Value
abbrev SI:=List (Str×Int)
abbrev ON:=List (Option Nat)
namespace TS
def El(w:World)(l:List (Int×Value)):Prop:=∀e∈l,∃k t,e=(hashStr w k,Value.str k t)
def txt(l:List (Int×Value)):List Str:=l.map λe=>strOf e.2
def St(w:World)(h:Heap)(a:Addr)(L:List Str):Prop:=
 ∃o es ep t,h.get? a=some o/\o.ExactSet/\o.data=.set es ep t/\El w es.toList/\(txt es.toList).Perm L/\L.Nodup/\es.size<scanBound/\t.fits es.size=true/\
  (L≠[]->t.plain=false)/\(w.params.followText "set-order"=false->t.led=true)
section
variable{w:World}{t:SetTable}{es:Array (Int×Value)}{h:Int}{x:Value}
end
section
variable{P:Program}{w:World}{A:Around}{E:VS}{s:Shared}{a:Addr}
end
end TS
namespace L2
abbrev Key:=Sum Int Str
def zij:Key->Value->Bool
 | .inl k,v=>Value.isInt k v
 | .inr x,v=>Value.isStrOf x v
def keyH(w:World):Key->Int
 | .inl k=>hashInt k
 | .inr x=>hashStr w x
theorem zab:∀{k:Key}{v:Value},zij k v=true->(∃i t,k=Sum.inl i/\v=Value.int i t)\/(∃x t,k=Sum.inr x/\v=Value.str x t)
 | .inl i,v,h=>by obtain⟨t,e⟩:=Value.isInt_shape (k:=i) (v:=v) h;exact .inl ⟨i,t,rfl,e⟩
 | .inr x,v,h=>by obtain⟨t,e⟩:=Value.isStrOf_shape (x:=x) (v:=v) h;exact .inr ⟨x,t,rfl,e⟩
theorem zli(i:Int)(t:Tok):zij (.inl i) (.int i t)=true:=by simp[zij,Value.isInt]
theorem zlh(x:Str)(t:Tok):zij (.inr x) (.str x t)=true:=by simp[zij,Value.isStrOf]
theorem zrn(a b:Int):decide ((Sum.inl a:Key)=Sum.inl b)=(a==b):=by
 by_cases e:a=b
 ·subst e;simp
 ·have h:¬(Sum.inl a:Key)=Sum.inl b:=λq=>e (Sum.inl.inj q)
  rw[JA h];exact(beq_eq_false_iff_ne.mpr e).symm
theorem zrk(a b:Str):decide ((Sum.inr a:Key)=Sum.inr b)=decide (a=b):=by
 by_cases e:a=b
 ·subst e;simp
 ·have h:¬(Sum.inr a:Key)=Sum.inr b:=λq=>e (Sum.inr.inj q)
  rw[JA h,JA e]
theorem zrm(a:Int)(b:Str):decide ((Sum.inl a:Key)=Sum.inr b)=false:=JA (λq=>nomatch q)
theorem zrl(a:Str)(b:Int):decide ((Sum.inr a:Key)=Sum.inl b)=false:=JA (λq=>nomatch q)
def yE(prog:Program)(w:World):PySem.KeyKind prog w Key where
 is:=zij
 hash:=keyH w
 inj:=λv a b ha hb=>by
  rcases zab ha with⟨i,t,rfl,rfl⟩|⟨x,t,rfl,rfl⟩
  ·rcases zab hb with⟨j,u,rfl,e⟩|⟨y,u,rfl,e⟩
   ·injection e with e1 _;rw[e1]
   ·exact nomatch e
  ·rcases zab hb with⟨j,u,rfl,e⟩|⟨y,u,rfl,e⟩
   ·exact nomatch e
   ·injection e with e1 _;rw[e1]
 byValue:=λk v h=>by rcases zab h with⟨i,t,rfl,rfl⟩|⟨x,t,rfl,rfl⟩<;>rfl
 pyHash:=λhv h=>by
  rcases zab hv with⟨i,t,rfl,rfl⟩|⟨x,t,rfl,rfl⟩
  ·exact wpAny_pyHash_int h
  ·exact wpAny_pyHash_str h
 eqBool:=λhu hv h=>by
  rcases zab hu with⟨i,t,rfl,rfl⟩|⟨x,t,rfl,rfl⟩
  ·rcases zab hv with⟨j,u,rfl,rfl⟩|⟨y,u,rfl,rfl⟩
   ·rw[zrn]at h;exact wpAny_eqBool_int h
   ·rw[zrm]at h;exact SeqAt.EqAt.int_str i t y u _ _ _ _ h
  ·rcases zab hv with⟨j,u,rfl,rfl⟩|⟨y,u,rfl,rfl⟩
   ·rw[zrl]at h;exact SeqAt.EqAt.str_int x t j u _ _ _ _ h
   ·rw[zrk]at h;exact wpAny_eqBool_str h
 «strs»:=λk x t v h=>by
  rcases zab h with⟨i,u,rfl,e⟩|⟨y,u,rfl,e⟩
  ·exact nomatch e
  ·injection e with e1 _;subst e1;cases v<;>rfl
theorem zjE(prog:Program)(w:World)(k:Key)(v:Value):(yE prog w).is k v=zij k v:=rfl
theorem zia(prog:Program)(w:World)(i:Int)(t:Tok):(yE prog w).is (.inl i) (.int i t)=true:=zli i t
theorem zhZ(prog:Program)(w:World)(x:Str)(t:Tok):(yE prog w).is (.inr x) (.str x t)=true:=zlh x t
inductive V where
 |non|bl (b:Bool)|int (i:Int)|str (x:Str)|byt (b:Array UInt8)|flt (b:UInt64)|ref (a:Addr)|ty (n:String)
 deriving DecidableEq
def zT:V->Value->Prop
 | .non,u=>u=Value.none
 | .bl b,u=>u=Value.bool b
 | .int i,u=>∃t,u=Value.int i t
 | .str x,u=>∃t,u=Value.str x t
 | .byt b,u=>∃t,u=Value.bytes b t
 | .flt b,u=>∃t,u=Value.float b t
 | .ref a,u=>u=Value.ref a
 | .ty n,u=>u=Value.type n
abbrev zS:List V->List Value->Prop:=Paired zT
variable{xs:List V}{us:List Value}
theorem zS.length(r:zS xs us):xs.length=us.length:=Paired.length r
theorem zS.get:∀{xs:List V}{us:List Value} {i:Nat}{x:V},zS xs us->xs[i]?=some x->∃u,us[i]?=some u/\zT x u
 |_,_,_,_,.nil,e=>by simp at e
 |_,_,0,_,.cons r _,e=>by simp at e;subst e;exact⟨_,rfl,r⟩
 |_,_,i+1,x,.cons _ t,e=>by obtain⟨u,h1,h2⟩:=zS.get (i:=i) (x:=x) t (by simpa using e);exact⟨u,by simpa using h1,h2⟩
theorem zS.append:∀{xs ys:List V}{us ws:List Value},zS xs us->zS ys ws->zS (xs++ys) (us++ws)
 |_,_,_,_,.nil,s=>s
 |_,_,_,_,.cons r t,s=>.cons r (zS.append t s)
theorem zS.take:∀{xs:List V}{us:List Value} (n:Nat),zS xs us->zS (xs.take n) (us.take n)
 |_,_,0,_=>.nil
 |_,_,_+1,.nil=>.nil
 |_,_,n+1,.cons r t=>.cons r (zS.take n t)
theorem zS.drop:∀{xs:List V}{us:List Value} (n:Nat),zS xs us->zS (xs.drop n) (us.drop n)
 |_,_,0,r=>r
 |_,_,_+1,.nil=>.nil
 |_,_,n+1,.cons _ t=>zS.drop n t
def gD:Option V->Option Value->Prop
 |some v,some u=>zT v u
 |none,none=>True
 |_,_=>False
variable{κ:Type}
def KV:List (κ×V)->List (κ×Value)->Prop:=Paired λ(p:κ×V) (q:κ×Value)=>p.1=q.1/\zT p.2 q.2
def kV:Key->V
 | .inl i=>.int i
 | .inr x=>.str x
inductive HO where
 |lst (xs:List V)
 |tup (xs:List V)
 |dK (kvs:List (Key×V))|dT (kvs:List (List Key×V))
 |set (S:List Str)
 |ins (C dx:Addr) (fs:List (Str×V))
 |own (x:Addr)
 |xd (fs:List (Str×V))
 |met (f x:Addr)
 |rng (lo hi:Int)
 |frz (o:Obj) (u:HO)
 |tbl (ps:Array Value)
 |ext (φ:Heap->Prop)
abbrev Hp:=Addr->Option HO
def upd(H:Hp)(a:Addr)(o:HO):Hp:=λb=>if b=a then some o else H b
theorem qR{H:Hp}{a:Addr}{o:HO}:upd H a o a=some o:=by unfold upd;rw[if_pos rfl]
variable{H:Hp}{a:Addr}
theorem zW{b:Addr}{o:HO}(h:b≠a):upd H a o b=H b:=by unfold upd;rw[if_neg h]
theorem zsy{b:Addr}{o u:HO}(h:H a=some o)(h':H b=some u)(d:o≠u):a≠b:=by intro e;subst e;rw[h]at h';exact d (Option.some.inj h')
theorem jE{b:Addr}{o:HO}(h:H a=some o)(h':H b=none):a≠b:=by intro e;subst e;rw[h]at h';cases h'
section
variable(P:Program)(w:World)
def jV(H:Hp)(h:Heap)(a:Addr):HO->Prop
 | .lst xs=>xs.length<=sizeLine/\∃(its:List Value) (n:Nat),zS xs its/\h.get? a=some {cls:=.type "list",data:=.seq its.toArray n}
 | .tup xs=>xs.length<=sizeLine/\∃its:List Value,zS xs its/\IsTup h a its.toArray
 | .dK kvs=>kvs.length<=sizeLine/\(a==sysModules)=false/\∃vs,KV kvs vs/\h.DictOf (yE P w) a vs
 | .dT kvs=>kvs.length<=sizeLine/\(a==sysModules)=false/\∃xs:List (List Key×Addr×Value),
   Paired (λ(p:List Key×V) (q:List Key×Addr×Value)=>p.1=q.1/\H q.2.1=some (.tup (p.1.map kV))/\zT p.2 q.2.2) kvs xs/\
   ∃o es ep,h.get? a=some o/\o.ExactDict/\o.data=.dict es ep/\es.toList=xs.map (entryOfKey (tupleKind (yE P w)))/\(xs.map (·.1)).Nodup
 | .set S=>TS.St w h a S
 | .ins C dx fs=>H dx=some (.own a)/\fs.length<=1000/\dx≠a/\h.get? a=some (PySem.W.instObj C dx)/\
   ∃mA,h.Ns1 dx mA/\(∀f,gD (fs.lookup f) (mA f))/\PySem.Within mA (fs.map (·.1))
 | .own _=>∃o,h.get? a=some o
 | .xd fs=>∃mA,h.Ns1 a mA/\∀f,gD (fs.lookup f) (mA f)
 | .rng lo hi=>∃t u v,h.get? a=some {cls:=.type "range",data:=.fields #[.int lo t,.int hi u,.int 1 v]}
 | .frz o u=>h.get? a=some o/\jV H h a u
 | .tbl ps=>h.get? a=some {cls:=.none,data:=.fields ps}
 | .met f x=>h.get? a=some (PySem.W.methodObj (.ref f) (.ref x))
 | .ext φ=>φ h/\(∃o,h.get? a=some o)/\∀h1 h2:Heap,φ h1->(∀o,h1.get? a=some o->h2.get? a=some o)->φ h2
def HOk(H:Hp)(h:Heap):Prop:=∀a o,H a=some o->jV P w H h a o
end
variable{α:Type}
section
variable{P:Program}{w:World}{H H':Hp}{h h':Heap}{a:Addr}{o:HO}
theorem jV.lt(x:jV P w H h a o):a<h.objs.size:=by
 cases o with
 |lst xs=>obtain⟨_,_,_,_,e⟩:=x;exact Jf e
 |tup xs=>obtain⟨_,_,_,p⟩:=x;exact p.lt
 |dK kvs=>obtain⟨_,_,_,_,o,_,_,e,_⟩:=x;exact Jf e
 |dT kvs=>obtain⟨_,_,_,_,o,_,_,e,_⟩:=x;exact Jf e
 |set S=>obtain⟨o,_,_,_,e,_⟩:=x;exact Jf e
 |ins C dx fs=>obtain⟨_,_,_,e,_⟩:=x;exact Jf e
 |own y=>obtain⟨_,e⟩:=x;exact Jf e
 |xd fs=>obtain⟨_,⟨_,_,_,e,_⟩,_⟩:=x;exact Jf e
 |rng lo hi=>obtain⟨_,_,_,e⟩:=x;exact Jf e
 |frz ob u=>obtain⟨e,_⟩:=x;exact Jf e
 |tbl ps=>exact Jf (show h.get? a=some _ from x)
 |met f y=>exact Jf (show h.get? a=some _ from x)
 |ext φ=>obtain⟨_,⟨_,e⟩,_⟩:=x;exact Jf e
theorem Paired.mapP{β:Type}{F G:α->β->Prop}:∀{l₁:List α}{l₂:List β},Paired F l₁ l₂->(∀a b,F a b->G a b)->Paired G l₁ l₂
 |_,_,.nil,_=>.nil
 |_,_,.cons r t,f=>.cons (f _ _ r) (Paired.mapP t f)
theorem jV.stay(x:jV P w H h a o)(k:∀b u,(b=a\/H b=some (.own a))->h.get? b=some u->h'.get? b=some u)(ho:∀b,H b=some (.own a)->H' b=some (.own a))(ht:∀b xs,H b=some (.tup xs)->H' b=some (.tup xs)):jV P w H' h' a o:=by
 induction o with
 |lst xs=>obtain⟨z,its,n,r,e⟩:=x;exact⟨z,its,n,r,k _ _ (.inl rfl) e⟩
 |tup xs=>obtain⟨z,its,r,ob,e,c⟩:=x;exact⟨z,its,r,ob,k _ _ (.inl rfl) e,c⟩
 |dK kvs=>obtain⟨z,y,vs,r,ob,es,ep,e,c⟩:=x;exact⟨z,y,vs,r,ob,es,ep,k _ _ (.inl rfl) e,c⟩
 |dT kvs=>
  obtain⟨z,y,xs,r,ob,es,ep,e,c⟩:=x;exact⟨z,y,xs,Paired.mapP r λp q z=>⟨z.1,ht _ _ z.2.1,z.2.2⟩,ob,es,ep,k _ _ (.inl rfl) e,c⟩
 |set S=>obtain⟨ob,es,ep,t,e,c⟩:=x;exact⟨ob,es,ep,t,k _ _ (.inl rfl) e,c⟩
 |ins C dx fs=>
  obtain⟨d,z,ne,e,mA,⟨od,es,ep,e2,c⟩,r⟩:=x;exact⟨ho _ d,z,ne,k _ _ (.inl rfl) e,mA,⟨od,es,ep,k _ _ (.inr d) e2,c⟩,r⟩
 |own y=>obtain⟨ob,e⟩:=x;exact⟨ob,k _ _ (.inl rfl) e⟩
 |xd fs=>obtain⟨mA,⟨od,es,ep,e,c⟩,r⟩:=x;exact⟨mA,⟨od,es,ep,k _ _ (.inl rfl) e,c⟩,r⟩
 |rng lo hi=>obtain⟨t,u,v,e⟩:=x;exact⟨t,u,v,k _ _ (.inl rfl) e⟩
 |frz ob u ih=>obtain⟨e,q⟩:=x;exact⟨k _ _ (.inl rfl) e,ih q⟩
 |tbl ps=>
  have e:h.get? a=some {cls:=.none,data:=.fields ps}:=x;show h'.get? a=some {cls:=.none,data:=.fields ps};exact k a _ (.inl rfl) e
 |met f y=>
  have e:h.get? a=some (PySem.W.methodObj (.ref f) (.ref y)):=x;show h'.get? a=some (PySem.W.methodObj (.ref f) (.ref y));exact k a _ (.inl rfl) e
 |ext φ=>obtain⟨p,⟨o,e⟩,st⟩:=x;exact⟨st _ _ p λo q=>k _ _ (.inl rfl) q,⟨o,k _ _ (.inl rfl) e⟩,st⟩
theorem HOk.lt(x:HOk P w H h)(e:H a=some o):a<h.objs.size:=(x a o e).lt
theorem HOk.fresh(x:HOk P w H h)(e:h.objs.size<=a):H a=none:=by
 cases q:H a with
 |none=>rfl
 |some u=>exact absurd (Js (x.lt q) e) (JZ _)
theorem HOk.kept(x:HOk P w H h)(k:∀b u,h.get? b=some u->h'.get? b=some u):HOk P w H h':=λa o e=>
 (x a o e).stay (λb u _ q=>k b u q) (λ_ q=>q) λ_ _ q=>q
theorem HOk.laid(x:HOk P w H h)(k:∀b u,h.get? b=some u->h'.get? b=some u)(hp:h.objs.size<=a)(new:jV P w (upd H a o) h' a o):HOk P w (upd H a o) h':=λb u e=>by
 have hn:=x.fresh hp;by_cases hb:b=a
 ·subst hb;rw[qR]at e;cases e;exact new
 ·rw[zW hb]at e;exact(x b u e).stay (λc v _ q=>k c v q) (λc q=>by rw[zW (jE q hn)];exact q) λc xs q=>by rw[zW (jE q hn)];exact q
end
def Rd(H:Hp)(a:Addr)(u:HO):Prop:=H a=some u\/∃o,H a=some (.frz o u)
variable{P:Program}{w:World}{h:Heap}
theorem Rd.ok{u:HO}(r:Rd H a u)(x:HOk P w H h):jV P w H h a u:=by
 rcases r with r|⟨o,r⟩
 ·exact x a u r
 ·obtain⟨_,q⟩:=x a _ r;exact q
def Mut:Option HO->Prop
 |some (.lst _)=>True
 |some (.dK _)=>True
 |some (.dT _)=>True
 |some (.set _)=>True
 |some (.ins _ _ _)=>True
 |some (.ext _)=>True
 |_=>False
section
variable{P:Program}{w:World}{H:Hp}{h h':Heap}{x e:Addr}{o':HO}
theorem HOk.write(ok:HOk P w H h)(mu:Mut (H x))(he:e=x\/H e=some (.own x))(k:∀b u,b≠e->h.get? b=some u->h'.get? b=some u)(heo:∃u,h'.get? e=some u)(new:jV P w (upd H x o') h' x o'):HOk P w (upd H x o') h':=λb u q=>by
 have nown:∀c y,H c=some (.own y)->c≠x:=λc y r z=>by subst z;rw[r]at mu;exact mu
 have ntup:∀c xs,H c=some (.tup xs)->c≠x:=λc xs r z=>by subst z;rw[r]at mu;exact mu
 by_cases hb:b=x
 ·subst hb;rw[qR]at q;cases q;exact new
 ·rw[zW hb]at q;by_cases hbe:b=e
  ·have q':H b=some (.own x):=by
    rcases he with z|z
    ·exact absurd (hbe.trans z) hb
    ·rw[hbe];exact z
   rw[q]at q';cases q'
   obtain⟨v,hv⟩:=heo;exact⟨v,by rw[hbe];exact hv⟩
  ·refine(ok b u q).stay (λc v hc r=>k c v ?_ r) (λc r=>by rw[zW (nown c b r)];exact r) λc xs r=>by rw[zW (ntup c xs r)];exact r
   rcases hc with rfl|hc
   ·exact hbe
   ·rintro rfl;rcases he with z|z
    ·exact nown c b hc z
    ·rw[hc]at z;cases z;exact hb rfl
end
structure Un(fs ex:List Addr)(H H':Hp)(h h':Heap):Prop where
 keep:∀b o,h.get? b=some o->H b=none->b∉fs->b∉ex->h'.get? b=some o
 slot:∀b o,h.get? b=some o->H b=none->b∈fs->b∉ex->∃sl,h'.get? b=some {o with slots:=sl}
 free:∀b o,h.get? b=some o->H b=none->b∉ex->H' b=none
 there:∀b o,h.get? b=some o->b∉ex->∃o',h'.get? b=some o'
 tups:∀b xs,H b=some (.tup xs)->H' b=some (.tup xs)
 frzs:∀b o u,H b=some (.frz o u)->H' b=some (.frz o u)
 tbls:∀b ps,H b=some (.tbl ps)->∃more,H' b=some (.tbl (ps++more))
section
variable{fs fs' ex ex':List Addr}{H H1 H2:Hp}{h h1 h2 h':Heap}{a x e:Addr}{o:HO}
theorem Un.any(u:Un fs ex H H1 h h1){b:Addr}{ob:Obj}(q:h.get? b=some ob)(n:H b=none)(hx:b∉ex):∃sl,h1.get? b=some {ob with slots:=sl}:=by
 by_cases hb:b∈fs
 ·exact u.slot b ob q n hb hx
 ·exact⟨ob.slots,u.keep b ob q n hb hx⟩
theorem Un.kept(k:∀b u,h.get? b=some u->h'.get? b=some u):Un fs ex H H h h':=
 ⟨λb ob q _ _ _=>k b ob q,λb ob q _ _ _=>⟨ob.slots,k b ob q⟩,λ_ _ _ n _=>n,λb ob q _=>⟨ob,k b ob q⟩,λ_ _ q=>q,λ_ _ _ q=>q,λ_ ps q=>⟨#[],by rw[q];simp⟩⟩
theorem Un.refl:Un fs ex H H h h:=Un.kept λ_ _ q=>q
theorem Un.laid(k:∀b u,h.get? b=some u->h'.get? b=some u)(hp:h.objs.size<=a)(hn:H a=none):Un fs ex H (upd H a o) h h' where
 keep:=λb u q _ _ _=>k b u q
 slot:=λb u q _ _ _=>⟨u.slots,k b u q⟩
 free:=λb u q n _=>by rw[zW (Jv (Js (Jf q) hp))];exact n
 there:=λb u q _=>⟨u,k b u q⟩
 tups:=λb xs q=>by rw[zW (jE q hn)];exact q
 frzs:=λb u xs q=>by rw[zW (jE q hn)];exact q
 tbls:=λb ps q=>⟨#[],by rw[zW (jE q hn),q];simp⟩
theorem Un.write(mu:Mut (H x))(he:e=x\/H e=some (.own x))(k:∀b u,b≠e->h.get? b=some u->h'.get? b=some u)(heo:∃u,h'.get? e=some u):Un fs ex H (upd H x o) h h':=by
 have hx:∀b,H b=none->b≠x:=λb n z=>by subst z;rw[n]at mu;exact mu
 have hb:∀b,H b=none->b≠e:=λb n z=>by
  subst z;rcases he with r|r
  ·exact hx b n r
  ·rw[n]at r;cases r
 have hm:∀b u,H b=some u->¬Mut (some u)->b≠x:=λb u q nm z=>by subst z;rw[q]at mu;exact nm mu
 refine⟨λb u q n _ _=>k b u (hb b n) q,λb u q n _ _=>⟨u.slots,k b u (hb b n) q⟩,λb u q n _=>by rw[zW (hx b n)];exact n,λb u q _=>?_,
  λb xs q=>by rw[zW (hm b _ q λz=>z)];exact q,λb u xs q=>by rw[zW (hm b _ q λz=>z)];exact q,λb ps q=>⟨#[],by rw[zW (hm b _ q λz=>z),q];simp⟩⟩
 by_cases hbe:b=e
 ·subst hbe;exact heo
 ·exact⟨u,k b u hbe q⟩
end
def trk(h:Heap)(H:Hp):List Addr:=(List.range h.objs.size).filter λa=>(H a).isSome
def hidT(h:Heap)(H:Hp):Heap:=PySem.W.hideAll h (trk h H)
theorem zlr(h:Heap)(H:Hp):(hidT h H).objs.size=h.objs.size:=PySem.W.hideAll_size _ _
variable{o:Obj}
theorem znl{b:Addr}(e:h.get? b=some o)(n:H b=none):(hidT h H).get? b=some o:=
 PySem.W.hideAll_get _ e λhm=>by have q:(H b).isSome=true:=(Qc.mp hm).2;rw[n]at q;simp at q
theorem zpf{b:Addr}(e:(hidT h H).get? b=some o):h.get? b=some o/\H b=none:=by
 have e':h.get? b=some o:=PySem.W.of_hideAll (trk h H) e;refine⟨e',?_⟩;cases q:H b with
 |none=>rfl
 |some x=>
  have hm:b∈trk h H:=Qc.mpr ⟨List.mem_range.mpr (Jf e'),by simp[q]⟩;have z:(hidT h H).get? b=none:=PySem.W.hideAll_none (trk h H) hm;rw[z]at e;cases e
structure Mod(K:Fg)(mg:SV)(base:Heap):Prop where
 kin:K.In base
 glob:base.Ns mainGlobals mg
 blt:∃mb,base.Ns builtinsNs mb/\∀x:Str,x≠"__name__"->mb x=bootBuiltins x
 nolimit:base.NoLimit
structure Cx where
 prog:Program
 w:World
 K:Fg
 mg:SV
 base:Heap
 A:Around
 N:List Str
 s₀:Shared
 H₀:Hp
 env:Env
 outer:List Env
 stack:List Env
 ex:List Addr
 fn:Str->Bool
 calm:Bool
 pn:AO
 xe:VS
noncomputable def frs(l:List Env):List Addr:=l.filterMap (·.frame)
abbrev Cx.fs(X:Cx):List Addr:=frs X.outer
def Vis(sc:Scope)(x:Str):Prop:=sc.names.lookup x=some .local\/sc.names.lookup x=some .cell\/sc.names.lookup x=some .free
def Loc(sc:Scope)(x:Str):Prop:=sc.names.lookup x=some .local\/sc.names.lookup x=some .cell
def Look(env:Env)(h:Heap)(m:SV)(x:Str)(u:Value):Prop:=
 (env.kindOf x=some .local/\m x=some u)\/((env.kindOf x=some .cell\/env.kindOf x=some .free)/\∃c,env.cells.lookup x=some c/\h.IsCell c (some u))
structure Cx.Ok(X:Cx):Prop where
 mod:Mod X.K X.mg X.base
 kind:X.env.scope.kind=.function
 glob:X.env.globals=mainGlobals
 blt:X.env.builtins=builtinsNs
 above:X.s₀.heap.objs.size<=X.env.locals
 inj:∀x y c,X.env.cells.lookup x=some c->X.env.cells.lookup y=some c->x=y
 has:∀x,(X.env.kindOf x=some .cell\/X.env.kindOf x=some .free)->∃c,X.env.cells.lookup x=some c
 cab:∀x c,X.fn x=true->X.env.cells.lookup x=some c->X.s₀.heap.objs.size<=c
 hd:X.calm=true->X.A.handled=none
 frames:X.A.frames=some X.stack
 stk:X.stack=X.outer\/(X.stack=X.env::X.outer/\X.env.frame=some X.env.locals)
 exf:∀b∈X.ex,b≠X.env.locals/\∀x c,X.env.cells.lookup x=some c->c≠b
 bs:∀b o,X.base.get? b=some o->X.s₀.heap.get? b=some o/\X.H₀ b=none
 bsz:X.base.objs.size<=X.s₀.heap.objs.size
 noex:∀b o,X.base.get? b=some o->b∉X.ex
 exfs:∀b∈X.ex,b∉X.fs
 funs:X.s₀.heap.FunFrames X.base X.outer
 frf:∀b∈X.fs,X.H₀ b=none
structure Inv(X:Cx)(pins:AO)(σ:List (Option V))(H:Hp)(s:Shared):Prop where
 ok:X.Ok
 os:s.os=X.s₀.os
 bare:AllBare s.gens
 base:Un X.fs X.ex X.H₀ H X.s₀.heap s.heap
 loc:∃m,s.heap.Ns X.env.locals m/\∀(i:Nat) (x:Str) (v:V),X.N[i]?=some x->σ[i]?=some (some v)->Vis X.env.scope x->∃u,zT v u/\Look X.env s.heap m x u
 cell:∀x c,X.env.cells.lookup x=some c->∃v,s.heap.IsCell c v
 free:H X.env.locals=none
 freeC:∀x c,X.env.cells.lookup x=some c->H c=none
 pin:∀p∈X.pn++pins,s.heap.get? p.1=some p.2/\H p.1=none/\p.1≠X.env.locals/\p.1∉X.fs/\∀v,p.2.data≠.cell v
 hok:HOk X.prog X.w H s.heap
 len:σ.length=X.N.length
variable{u:Value}{N:List Str}{i j:Nat}{x:Str}{M:Model}{A:Around}{E:VS}{v:V}{Q:Unit->Shared->Prop}{s':Shared}
section
variable{X:Cx}{pins:AO}{σ:List (Option V)}{H H':Hp}{s:Shared}{h':Heap}
theorem Cx.Ok.nofr(ok:X.Ok){b:Addr}(e:X.base.get? b=some o):b∉X.fs:=λhb=>by have:=(ok.funs.mem hb).1;rw[e]at this;cases this
theorem Inv.bs(I:Inv X pins σ H s):∀b o,X.base.get? b=some o->s.heap.get? b=some o/\H b=none:=λb o e=>
 ⟨I.base.keep b o (I.ok.bs b o e).1 (I.ok.bs b o e).2 (I.ok.nofr e) (I.ok.noex b o e),I.base.free b o (I.ok.bs b o e).1 (I.ok.bs b o e).2 (I.ok.noex b o e)⟩
theorem Inv.bk(I:Inv X pins σ H s):∀b o,X.base.get? b=some o->s.heap.get? b=some o:=λb o e=>(I.bs b o e).1
theorem Inv.mod(I:Inv X pins σ H s):Mod X.K X.mg X.base:=I.ok.mod
theorem Inv.kIn(I:Inv X pins σ H s):X.K.In s.heap:=I.ok.mod.kin.keeps I.bk
theorem Inv.lt(I:Inv X pins σ H s):X.env.locals<s.heap.objs.size:=let⟨_,hn,_⟩:=I.loc;hn.lt
theorem Inv.sz(I:Inv X pins σ H s):X.s₀.heap.objs.size<=s.heap.objs.size:=Jt I.ok.above (Nat.le_of_lt I.lt)
theorem Inv.nofs(I:Inv X pins σ H s)(h:s.heap.objs.size<=a):a∉X.fs:=λhb=>by obtain⟨_,o,ho,_⟩:=I.ok.funs.mem hb;exact absurd (Js (Jf ho) (Jt I.sz h)) (JZ _)
theorem Inv.cne(I:Inv X pins σ H s):∀x c,X.env.cells.lookup x=some c->c≠X.env.locals:=λx c e z=>by obtain⟨v,o,ho,hd⟩:=I.cell x c e;obtain⟨m,⟨o',es,ep,ho',hd',_⟩,_⟩:=I.loc;rw[z,ho']at ho;cases ho;rw[hd']at hd;cases hd
theorem Inv.funs(I:Inv X pins σ H s):s.heap.FunFrames X.base X.outer:=by
 have all:∀(l:List Env),(∀b∈frs l,b∈X.fs)->X.s₀.heap.FunFrames X.base l->s.heap.FunFrames X.base l:=by
  intro l;induction l with
  |nil=>intro _ _;trivial
  |cons env r ih=>
   intro hs hl;obtain⟨hk,⟨L,o,hf,hn,ho,hd⟩,hr⟩:=hl;have hL:L∈X.fs:=hs L (by unfold frs;rw[Qq,hf];exact JK);obtain⟨sl,e⟩:=I.base.slot L o ho (I.ok.frf L hL) hL λz=>I.ok.exfs L z hL
   exact⟨hk,⟨L,_,hf,hn,e,hd⟩,ih (λb hb=>hs b (by unfold frs;rw[Qq,hf];exact Je _ hb)) hr⟩
 exact all X.outer (λ_ hb=>hb) I.ok.funs
theorem Inv.stack(I:Inv X pins σ H s):s.heap.FunFrames X.base X.stack:=by
 rcases I.ok.stk with e|⟨e,hf⟩
 ·rw[e];exact I.funs
 ·rw[e];obtain⟨m,hn,_⟩:=I.loc;refine .cons (by rw[I.ok.kind];decide) hf hn ?_ I.funs;exact Heap.get?_none_of_le (Jt I.ok.bsz I.ok.above)
theorem Inv.stkSub(I:Inv X pins σ H s):∀b∈frs X.stack,b∈X.env.locals::X.fs:=λb hb=>by
 rcases I.ok.stk with e|⟨e,hf⟩
 ·rw[e]at hb;exact Je _ hb
 ·rw[e]at hb;unfold frs at hb;rw[Qq,hf]at hb;exact hb
theorem Inv.stkFree(I:Inv X pins σ H s):∀b∈frs X.stack,H b=none:=λb hb=>by
 rcases JC.mp (I.stkSub b hb)with e|hb
 ·rw[e];exact I.free
 ·obtain⟨_,o,ho,_⟩:=I.ok.funs.mem hb;exact I.base.free b o ho (I.ok.frf b hb) λz=>I.ok.exfs b z hb
theorem Inv.step{g':Array GenState}{t':Nat}{d':Drawn}{ch:List Addr}(I:Inv X pins σ H s)(hch:∀b∈ch,(b∈X.ex\/X.s₀.heap.objs.size<=b)/\b≠X.env.locals/\(∀x c,X.env.cells.lookup x=some c->c≠b)/\∀p∈X.pn++pins,p.1≠b)(keep:∀b o,b≠X.env.locals->b∉X.fs->b∉ch->s.heap.get? b=some o->H b=none->h'.get? b=some o)(slot:∀b o,b≠X.env.locals->b∈X.fs->b∉ch->s.heap.get? b=some o->H b=none->∃sl,h'.get? b=some {o with slots:=sl})(free:∀b o,b∉ch->s.heap.get? b=some o->H b=none->H' b=none)(there:∀b o,b∉ch->s.heap.get? b=some o->∃o',h'.get? b=some o')(tups:∀b xs,H b=some (.tup xs)->H' b=some (.tup xs))(frzs:∀b o u,H b=some (.frz o u)->H' b=some (.frz o u))(tbls:∀b ps,H b=some (.tbl ps)->∃more,H' b=some (.tbl (ps++more)))(ns:∀m,s.heap.Ns X.env.locals m->h'.Ns X.env.locals m)(hok:HOk X.prog X.w H' h')(hg:AllBare g'):
  Inv X pins σ H' {s with heap:=h',gens:=g',drawn:=d',toks:=t'}:=by
 have neL:∀b o,X.s₀.heap.get? b=some o->b≠X.env.locals:=λb o e=>Jv (Js (Jf e) I.ok.above)
 have neC:∀b o,X.s₀.heap.get? b=some o->b∉X.ex->b∉ch:=λb o e hx hb=>by
  rcases(hch b hb).1 with z|z
  ·exact hx z
  ·exact absurd (Js (Jf e) z) (JZ _)
 have cellK:∀x c,X.env.cells.lookup x=some c->∀v,s.heap.IsCell c v->h'.IsCell c v:=λx c e v ⟨o,ho,hd⟩=>by
  have nch:c∉ch:=λz=>(hch c z).2.2.1 x c e rfl
  by_cases hc:c∈X.fs
  ·obtain⟨sl,q⟩:=slot c o (I.cne x c e) hc nch ho (I.freeC x c e);exact⟨_,q,hd⟩
  ·exact⟨o,keep c o (I.cne x c e) hc nch ho (I.freeC x c e),hd⟩
 refine⟨I.ok,I.os,hg,⟨λb o e n hb hx=>?_,λb o e n hb hx=>?_,λb o e n hx=>?_,λb o e hx=>?_,λb xs e=>tups b xs (I.base.tups b xs e),λb o xs e=>frzs b o xs (I.base.frzs b o xs e),λb ps e=>?_⟩,?_,λx c e=>?_,?_,λx c e=>?_,λp hp=>?_,hok,I.len⟩
 ·exact keep b o (neL b o e) hb (neC b o e hx) (I.base.keep b o e n hb hx) (I.base.free b o e n hx)
 ·obtain⟨sl,e1⟩:=I.base.slot b o e n hb hx;obtain⟨sl',e2⟩:=slot b _ (neL b o e) hb (neC b o e hx) e1 (I.base.free b o e n hx);exact⟨sl',e2⟩
 ·obtain⟨o',e1⟩:=I.base.there b o e hx;exact free b o' (neC b o e hx) e1 (I.base.free b o e n hx)
 ·obtain⟨o',e1⟩:=I.base.there b o e hx;exact there b o' (neC b o e hx) e1
 ·obtain⟨m1,e1⟩:=I.base.tbls b ps e;obtain⟨m2,e2⟩:=tbls b _ e1;exact⟨m1++m2,by rw[e2,Array.append_assoc]⟩
 ·obtain⟨m,hn,hl⟩:=I.loc;refine⟨m,ns m hn,λi x v e1 e2 e3=>?_⟩;obtain⟨u,r,l⟩:=hl i x v e1 e2 e3;refine⟨u,r,?_⟩;rcases l with l|⟨k,c,e,z⟩
  ·exact .inl l
  ·exact .inr ⟨k,c,e,cellK x c e _ z⟩
 ·obtain⟨v,z⟩:=I.cell x c e;exact⟨v,cellK x c e v z⟩
 ·obtain⟨m,⟨o,_,_,ho,_⟩,_⟩:=I.loc;exact free _ o (λz=>(hch _ z).2.1 rfl) ho I.free
 ·obtain⟨v,o,ho,hd⟩:=I.cell x c e;exact free c o (λz=>(hch c z).2.2.1 x c e rfl) ho (I.freeC x c e)
 ·obtain⟨e,n,ne,nf,d⟩:=I.pin p hp;have nch:p.1∉ch:=λz=>(hch p.1 z).2.2.2 p hp rfl
  exact⟨keep p.1 p.2 ne nf nch e n,free p.1 p.2 nch e n,ne,nf,d⟩
theorem Inv.un{t':Nat}(I:Inv X pins σ H s)(u:Un X.fs [] H H' s.heap h')(hok:HOk X.prog X.w H' h'):Inv X pins σ H' {s with heap:=h',toks:=t'}:=by
 obtain⟨m,⟨o,es,ep,ho,r⟩,_⟩:=id I.loc;obtain⟨sl,hL⟩:=u.any ho I.free (by simp);exact I.step (g':=s.gens) (d':=s.drawn) (ch:=[]) (λ_ z=>nomatch z) (λb o _ hb _ e n=>u.keep b o e n hb (by simp)) (λb o _ hb _ e n=>u.slot b o e n hb (by simp)) (λb o _ e n=>u.free b o e n (by simp)) (λb o _ e=>u.there b o e (by simp)) u.tups u.frzs u.tbls (λm' hm=>by
  obtain⟨o',es',ep',ho',r'⟩:=hm;rw[ho]at ho';cases ho'
  exact⟨_,es',ep',hL,r'⟩) hok I.bare
theorem Inv.call{g':Array GenState}{t':Nat}{d':Drawn}{ch:List Addr}(I:Inv X pins σ H s)(u:Un (frs X.stack) ch H H' s.heap h')(hok:HOk X.prog X.w H' h')(hg:AllBare g')(hch:∀b∈ch,(b∈X.ex\/X.s₀.heap.objs.size<=b)/\b≠X.env.locals/\(∀x c,X.env.cells.lookup x=some c->c≠b)/\∀p∈X.pn++pins,p.1≠b):
  Inv X pins σ H' {s with heap:=h',gens:=g',drawn:=d',toks:=t'}:=by
 obtain⟨m,⟨o,es,ep,ho,r⟩,_⟩:=id I.loc;obtain⟨sl,hL⟩:=u.any ho I.free λz=>(hch _ z).2.1 rfl
 exact I.step (ch:=ch) hch (λb o hL hb hc e n=>u.keep b o e n (λz=>(JC.mp (I.stkSub b z)).elim hL hb) hc) (λb o _ _ hc e n=>u.any e n hc) (λb o hc e n=>u.free b o e n hc) (λb o hc e=>u.there b o e hc) u.tups u.frzs u.tbls (λm' hm=>by
  obtain⟨o',es',ep',ho',r'⟩:=hm;rw[ho]at ho';cases ho'
  exact⟨_,es',ep',hL,r'⟩) hok hg
theorem Inv.turned{t':Nat}{it:Addr}(I:Inv X pins σ H s)(k:∀b o,b≠it->s.heap.get? b=some o->h'.get? b=some o)(hn:H it=none)(hL:it≠X.env.locals)(h1:it∈X.ex\/X.s₀.heap.objs.size<=it)(h2:∀x c,X.env.cells.lookup x=some c->c≠it)(h3:∀p∈X.pn++pins,p.1≠it):Inv X pins σ H {s with heap:=h',toks:=t'}:=by
 have nit:∀b u,H b=some u->b≠it:=λb u e z=>by rw[z,hn]at e;cases e
 refine I.step (g':=s.gens) (d':=s.drawn) (ch:=[it]) (λb hb=>?_) (λb o _ _ hc e _=>k b o (λz=>hc (by simp[z])) e) (λb o _ _ hc e _=>⟨o.slots,k b o (λz=>hc (by simp[z])) e⟩) (λ_ _ _ _ n=>n)
  (λb o hc e=>⟨o,k b o (λz=>hc (by simp[z])) e⟩) (λ_ _ e=>e) (λ_ _ _ e=>e) (λb ps e=>⟨#[],by rw[e];simp⟩) (λm hm=>?_) (λb u e=>?_) I.bare
 ·have e:b=it:=by simpa using hb
  subst e;exact⟨h1,hL,h2,h3⟩
 ·obtain⟨o,es,ep,ho,r⟩:=hm;exact⟨o,es,ep,k _ o (Ne.symm hL) ho,r⟩
 ·refine(I.hok b u e).stay (λc v hc q=>k c v ?_ q) (λ_ q=>q) λ_ _ q=>q
  rcases hc with z|z
  ·rw[z];exact nit b u e
  ·exact nit c _ z
theorem Inv.tok(I:Inv X pins σ H s)(t:Nat):Inv X pins σ H {s with toks:=t}:=I.un (h':=s.heap) (t':=t) Un.refl I.hok
theorem Inv.kept{t':Nat}(I:Inv X pins σ H s)(k:∀b u,s.heap.get? b=some u->h'.get? b=some u):Inv X pins σ H {s with heap:=h',toks:=t'}:=I.un (Un.kept k) (I.hok.kept k)
theorem Inv.laid{a:Addr}{o:HO}{t':Nat}(I:Inv X pins σ H s)(k:∀b u,s.heap.get? b=some u->h'.get? b=some u)(hp:s.heap.objs.size<=a)(new:jV X.prog X.w (upd H a o) h' a o):
  Inv X pins σ (upd H a o) {s with heap:=h',toks:=t'}:=I.un (Un.laid k hp (I.hok.fresh hp)) (I.hok.laid k hp new)
theorem Inv.write{x e:Addr}{o:HO}{t':Nat}(I:Inv X pins σ H s)(mu:Mut (H x))(he:e=x\/H e=some (.own x))(k:∀b u,b≠e->s.heap.get? b=some u->h'.get? b=some u)(heo:∃u,h'.get? e=some u)(new:jV X.prog X.w (upd H x o) h' x o):Inv X pins σ (upd H x o) {s with heap:=h',toks:=t'}:=I.un (Un.write mu he k heo) (I.hok.write mu he k heo new)
theorem Inv.pins_of{pins':AO}(I:Inv X pins σ H s)(h:∀p∈pins',s.heap.get? p.1=some p.2/\H p.1=none/\p.1≠X.env.locals/\p.1∉X.fs/\∀v,p.2.data≠.cell v):Inv X pins' σ H s:=
 ⟨I.ok,I.os,I.bare,I.base,I.loc,I.cell,I.free,I.freeC,λp hp=>(JS.mp hp).elim (λz=>I.pin p (Jq _ z)) (h p),I.hok,I.len⟩
theorem ziQ(hN:N.Nodup)(a:N[i]?=some x)(b:N[j]?=some x):i=j:=by obtain⟨h1,e1⟩:=List.getElem?_eq_some_iff.mp a;obtain⟨h2,e2⟩:=List.getElem?_eq_some_iff.mp b;exact(List.getElem_inj hN).mp (e1.trans e2.symm)
theorem zgE(I:Inv X pins σ H s)(hN:X.N.Nodup)(hi:X.N[i]?=some x)(hx:Loc X.env.scope x)(r:zT v u)(h:∀s',Inv X pins (σ.set i (some v)) H s'->(∃a,Heap.SameBut a s.heap s'.heap/\(a=X.env.locals\/X.env.cells.lookup x=some a))->Q () s')(hf:X.fn x=true\/X.env.scope.names.lookup x=some .local:=by first|exact .inl rfl|exact .inr rfl|assumption):wpAny M A (storeName X.env x u) Q E s:=by
 obtain⟨m,hn,hl⟩:=id I.loc;have hcls:(X.env.scope.kind== .class||(X.env.scope.kind== .module&&X.env.locals !=X.env.globals))=false:=by rw[I.ok.kind];rfl
 have hiσ:i<σ.length:=by rw[I.len];exact(List.getElem?_eq_some_iff.mp hi).1
 have cne:=I.cne;have tracked:∀{a:Addr}{h':Heap},(∃o,s.heap.get? a=some o/\H a=none)->Heap.SameBut a s.heap h'->HOk X.prog X.w H h':=λ{a h'} ha hs b ob e=>by
  obtain⟨_,_,hfree⟩:=ha;refine(I.hok b ob e).stay (λc w' hc q=>(hs.2 c ?_).trans q) (λ_ q=>q) λ_ _ q=>q
  rintro rfl;rcases hc with rfl|hc
  ·rw[hfree]at e;cases e
  ·rw[hfree]at hc;cases hc
 rcases hx with hk|hk
 ·refine wpAny_storeName_local hk hn (λh' hn' hs=>?_) hcls;obtain⟨oL,_,_,hoL,_⟩:=id hn;refine h _ ⟨I.ok,I.os,I.bare,⟨λb o e n hb hx=>?_,λb o e n hb hx=>?_,I.base.free,λb o e hx=>?_,I.base.tups,I.base.frzs,I.base.tbls⟩,⟨_,hn',λj y v' e1 e2 e3=>?_⟩,λy c e=>?_,I.free,I.freeC,λp hp=>?_,tracked ⟨oL,hoL,I.free⟩ hs,by simpa using I.len⟩ ⟨_,hs,.inl rfl⟩
  ·exact(hs.2 b (Jv (Js (Jf e) I.ok.above))).trans (I.base.keep b o e n hb hx)
  ·obtain⟨sl,e1⟩:=I.base.slot b o e n hb hx;exact⟨sl,(hs.2 b (Jv (Js (Jf e) I.ok.above))).trans e1⟩
  ·obtain⟨o',e1⟩:=I.base.there b o e hx;exact⟨o',(hs.2 b (Jv (Js (Jf e) I.ok.above))).trans e1⟩
  ·by_cases hj:j=i
   ·subst hj;rw[hi]at e1;cases e1
    rw[List.getElem?_set_self hiσ]at e2;cases e2
    exact⟨u,r,.inl ⟨hk,by simp⟩⟩
   ·rw[List.getElem?_set_ne (Ne.symm hj)]at e2;obtain⟨u',r',q⟩:=hl j y v' e1 e2 e3;refine⟨u',r',?_⟩;rcases q with⟨k,e⟩|⟨k,c,e,z⟩
    ·refine .inl ⟨k,?_⟩
     have:y≠x:=λe=>hj (ziQ hN e1 (e▸hi))
     simp[this,e]
    ·exact .inr ⟨k,c,e,z.sameBut hs (cne y c e)⟩
  ·obtain⟨w',z⟩:=I.cell y c e;exact⟨w',z.sameBut hs (cne y c e)⟩
  ·obtain⟨e,n,ne,nf,d⟩:=I.pin p hp;exact⟨(hs.2 p.1 ne).trans e,n,ne,nf,d⟩
 ·have hfn:X.fn x=true:=by
   rcases hf with z|z
   ·exact z
   ·rw[z]at hk;cases hk
  obtain⟨c,hc⟩:=I.ok.has x (.inl hk);obtain⟨w',z⟩:=I.cell x c hc;refine wpAny_storeName_cell I.ok.kind hk hc z (λh' hc' hs=>?_);obtain⟨oc,hoc,hocd⟩:=id z;refine h {s with heap:=h'} ⟨I.ok,I.os,I.bare,⟨λb o e n hb hx=>?_,λb o e n hb hx=>?_,I.base.free,λb o e hx=>?_,I.base.tups,I.base.frzs,I.base.tbls⟩,⟨m,hn.sameBut hs (Ne.symm (cne x c hc)),λj y v' e1 e2 e3=>?_⟩,λy c' e=>?_,I.free,I.freeC,λp hp=>?_,tracked ⟨oc,hoc,I.freeC x c hc⟩ hs,by simpa using I.len⟩ ⟨c,hs,.inr hc⟩
  ·exact(hs.2 b (Jv (Js (Jf e) (I.ok.cab x c hfn hc)))).trans (I.base.keep b o e n hb hx)
  ·obtain⟨sl,e1⟩:=I.base.slot b o e n hb hx;exact⟨sl,(hs.2 b (Jv (Js (Jf e) (I.ok.cab x c hfn hc)))).trans e1⟩
  ·obtain⟨o',e1⟩:=I.base.there b o e hx;exact⟨o',(hs.2 b (Jv (Js (Jf e) (I.ok.cab x c hfn hc)))).trans e1⟩
  ·by_cases hj:j=i
   ·subst hj;rw[hi]at e1;cases e1
    rw[List.getElem?_set_self hiσ]at e2;cases e2
    exact⟨u,r,.inr ⟨.inl hk,c,hc,hc'⟩⟩
   ·rw[List.getElem?_set_ne (Ne.symm hj)]at e2;obtain⟨u',r',q⟩:=hl j y v' e1 e2 e3;refine⟨u',r',?_⟩;rcases q with q|⟨k,c',e,z'⟩
    ·exact .inl q
    ·refine .inr ⟨k,c',e,z'.sameBut hs ?_⟩;rintro rfl;exact hj (ziQ hN e1 (I.ok.inj _ _ _ e hc▸hi))
  ·by_cases hcc:c'=c
   ·subst hcc;exact⟨_,hc'⟩
   ·obtain⟨w2,z2⟩:=I.cell y c' e;exact⟨w2,z2.sameBut hs hcc⟩
  ·obtain⟨e,n,ne,nf,d⟩:=I.pin p hp;refine⟨(hs.2 p.1 ?_).trans e,n,ne,nf,d⟩;intro q;rw[q,hoc]at e;have q':oc=p.2:=Option.some.inj e;exact d w' (by rw[←q'];exact hocd)
theorem zdz(I:Inv X pins σ H s)(hN:X.N.Nodup)(hi:X.N[i]?=some x)(hx:Loc X.env.scope x)(r:zT v u)(h:∀s',Inv X pins (σ.set i (some v)) H s'->Q () s')(hf:X.fn x=true\/X.env.scope.names.lookup x=some .local:=by first|exact .inl rfl|exact .inr rfl|assumption):wpAny M A (storeName X.env x u) Q E s:=
 zgE I hN hi hx r (λs' I' _=>h s' I') hf
theorem Inv.call'{ch:List Addr}(I:Inv X pins σ H s)(ho:s'.os=s.os)(u:Un (frs X.stack) ch H H' s.heap s'.heap)(hok:HOk X.prog X.w H' s'.heap)(hg:AllBare s'.gens)(hch:∀b∈ch,(b∈X.ex\/X.s₀.heap.objs.size<=b)/\b≠X.env.locals/\(∀x c,X.env.cells.lookup x=some c->c≠b)/\∀p∈X.pn++pins,p.1≠b):Inv X pins σ H' s':=by obtain⟨h',g',d',t',o'⟩:=s';have e:o'=s.os:=ho;subst e;exact I.call (g':=g') (t':=t') (d':=d') u hok hg hch
end
abbrev XK:=Value->Option Addr->Hp->Prop
abbrev St:=List (Option V)
abbrev VK:=V->Hp->Prop
abbrev TE:=St->Hp->VK->Prop
abbrev TT:=St->Hp->(Bool->Hp->Prop)->Prop
abbrev TA:=St->Hp->(List V->Hp->Prop)->Prop
structure Ends where
 nx:St->Hp->Prop
 rt:VK
 bk:St->Hp->Prop:=λ_ _=>False
 ct:St->Hp->Prop:=λ_ _=>False
abbrev TS:=Ends->St->Hp->Prop
def EP(X:Cx)(pins:AO)(σ:St)(Q:VK)(u:Value)(s':Shared):Prop:=∃v H',Inv X pins σ H' s'/\zT v u/\Q v H'
def TP(X:Cx)(pins:AO)(σ:St)(Q:Bool->Hp->Prop)(b:Bool)(s':Shared):Prop:=∃H',Inv X pins σ H' s'/\Q b H'
def AP(X:Cx)(pins:AO)(σ:St)(Q:List V->Hp->Prop)(us:List Value)(s':Shared):Prop:=∃vs H',Inv X pins σ H' s'/\zS vs us/\Q vs H'
def SP(X:Cx)(pins:AO)(D:Ends)(f:Flow)(s':Shared):Prop:=
 match f with
 | .next=>∃σ' H',Inv X pins σ' H' s'/\D.nx σ' H'
 | .brk=>∃σ' H',Inv X pins σ' H' s'/\D.bk σ' H'
 | .cont=>∃σ' H',Inv X pins σ' H' s'/\D.ct σ' H'
 | .ret u=>∃v σ' H',Inv X pins σ' H' s'/\zT v u/\D.rt v H'
def PE(X:Cx)(e:Expr)(t:TE):Prop:=
 ∀(pins:AO) (s:Shared) (σ:St) (H:Hp) (Q:VK),Inv X pins σ H s->t σ H Q->wpAny (model X.prog X.w) X.A (eval e X.env) (EP X pins σ Q) X.xe s
def PT(X:Cx)(e:Expr)(t:TT):Prop:=
 ∀(pins:AO) (s:Shared) (σ:St) (H:Hp) (Q:Bool->Hp->Prop),Inv X pins σ H s->t σ H Q->wpAny (model X.prog X.w) X.A (isTrue e X.env (eval e X.env)) (TP X pins σ Q) X.xe s
def PW(X:Cx)(e:Expr)(t:TT):Prop:=
 ∀(whole:Sem Value) (pins:AO) (s:Shared) (σ:St) (H:Hp) (Q:Bool->Hp->Prop),Inv X pins σ H s->t σ H Q->wpAny (model X.prog X.w) X.A (isTrue e X.env whole) (TP X pins σ Q) X.xe s
variable{X:Cx}{e:Expr}
theorem PW.pt{t:TT}(h:PW X e t):PT X e t:=h _
def PA(X:Cx)(es:List Expr)(t:TA):Prop:=
 ∀(pos:Pos) (pins:AO) (s:Shared) (σ:St) (H:Hp) (Q:List V->Hp->Prop),Inv X pins σ H s->t σ H Q->wpAny (model X.prog X.w) X.A (spliced (backTo pos (starEach es X.env))) (AP X pins σ Q) X.xe s
def PS(X:Cx)(st:Stmt)(t:TS):Prop:=
 ∀(pins:AO) (s:Shared) (σ:St) (H:Hp) (D:Ends),Inv X pins σ H s->t D σ H->wpAny (model X.prog X.w) X.A (exec st X.env) (SP X pins D) X.xe s
def PSs(X:Cx)(st:List Stmt)(t:TS):Prop:=
 ∀(pins:AO) (s:Shared) (σ:St) (H:Hp) (D:Ends),Inv X pins σ H s->t D σ H->wpAny (model X.prog X.w) X.A (execs st X.env) (SP X pins D) X.xe s
variable{s:Shared}
theorem thn{t:Sem α}{Q Q':α->Shared->Prop}(h:wpAny M A t Q E s)(hQ:∀a s,Q a s->Q' a s):wpAny M A t Q' E s:=JJ h hQ λ_ _ x=>x
variable{t:TE}{pos:Pos}{pins:AO}{σ:St}
section
variable{X:Cx}
def tVar(i:Nat):TE:=λσ H Q=>∃v,σ[i]?=some (some v)/\Q v H
def tC(v:V):TE:=λ_ H Q=>Q v H
theorem wN(hN:X.N[i]?=some x)(hv:Vis X.env.scope x)(hd:(x==("__debug__":Str))=false:=by decide)(hcd:(x==("__classdict__":Str))=false:=by decide):PE X (.Name x pos) (tVar i):=by
 intro pins s σ H Q I h;obtain⟨v,e,h⟩:=h;obtain⟨m,hn,hl⟩:=I.loc;obtain⟨u,r,l⟩:=hl i x v hN e hv;have fin:EP X pins σ Q u s:=⟨v,H,I,r,h⟩;rcases l with⟨hk,hm⟩|⟨hk,c,hc,hcell⟩
 ·exact wpAny_Name (wpAny_loadName_local I.ok.kind hk hn hm fin) hd
 ·rcases hk with hk|hk
  ·exact wpAny_Name (wpAny_loadName_cell I.ok.kind hk hc hcell fin) hd
  ·exact wpAny_Name (wpAny_loadName_free I.ok.kind hk hc hcell fin hcd) hd
theorem zqM{i j pos}:PE X (.Constant (.int i) j pos) (tC (.int i)):=λ_ _ _ H _ I h=>wpAny_Constant_int ⟨.int i,H,I.tok _,⟨_,rfl⟩,h⟩
theorem zss{b j pos}:PE X (.Constant (.bool b) j pos) (tC (.bl b)):=λ_ _ _ H _ I h=>Constant_bool ⟨.bl b,H,I,rfl,h⟩
theorem zqK{j pos}:PE X (.Constant .none j pos) (tC .non):=λ_ _ _ H _ I h=>Constant_none ⟨.non,H,I,rfl,h⟩
theorem zqF{x j pos}:PE X (.Constant (.str x) j pos) (tC (.str x)):=λ_ _ _ H _ I h=>Calls.Constant_str ⟨.str x,H,I.tok _,⟨_,rfl⟩,h⟩
def Gl(X:Cx)(x:Str):Prop:=X.env.kindOf x=some .globalImplicit
theorem zlg{Q:VS}(I:Inv X pins σ H s)(hg:Gl X x)(hm:X.mg x=some u)(h:Q u s)(hd:(x==("__debug__":Str))=false:=by decide):wpAny (model X.prog X.w) X.A (eval (.Name x pos) X.env) Q E s:=
 Calls.Name_function_global I.ok.kind hg (Calls.loadGlobal_global (by rw[I.ok.glob];exact I.mod.glob.keeps I.bk) hm h) hd
theorem nK{Q:VS}(I:Inv X pins σ H s)(hg:Gl X x)(hm:X.mg x=none)(hv:bootBuiltins x=some u)(h:Q u s)(hn:x≠"__name__":=by decide)(hd:(x==("__debug__":Str))=false:=by decide):wpAny (model X.prog X.w) X.A (eval (.Name x pos) X.env) Q E s:=by obtain⟨mb,h1,h2⟩:=I.mod.blt;exact Calls.Name_function_global I.ok.kind hg (Calls.loadGlobal_builtin (by rw[I.ok.glob];exact I.mod.glob.keeps I.bk) hm (by rw[I.ok.blt];exact h1.keeps I.bk) ((h2 x hn).trans hv) h) hd
theorem zoQ(hg:Gl X x)(hm:X.mg x=some u)(r:zT v u)(hd:(x==("__debug__":Str))=false:=by decide):PE X (.Name x pos) (tC v):=
 λ_ _ _ H _ I h=>zlg I hg hm ⟨v,H,I,r,h⟩ hd
theorem zoU{v:V}(hg:Gl X x)(hm:X.mg x=none)(hv:bootBuiltins x=some u)(r:zT v u)(hn:x≠"__name__":=by decide)(hd:(x==("__debug__":Str))=false:=by decide):PE X (.Name x pos) (tC v):=
 λ_ _ _ H _ I h=>nK I hg hm hv ⟨v,H,I,r,h⟩ hn hd
variable{a b:Expr}{ta tb:TE}{pos:Pos}
def tB(t:TE):TT:=λσ H Q=>t σ H λx H1=>∃c,x=.bl c/\Q c H1
theorem znP(h:PE X e t)(he:∀whole,isTrue e X.env whole=(do let v ←whole;standAt e.pos;holding [v] (truthy v)):=by intro _;rfl):PT X e (tB t):=by
 intro pins s σ H Q I hw;refine isTrue_plain (thn (h pins s σ H _ I hw) λv s1 ⟨x,H1,I1,r1,q1⟩=>?_) (he _);obtain⟨d,rfl,q⟩:=q1;cases r1
 exact QM ⟨H1,I1,q⟩
variable{tA tB':TT}{rest:List Expr}
def tAnd(t u:TT):TT:=λσ H Q=>t σ H λc H1=>if c=true then u σ H1 Q else Q false H1
def tOr(t u:TT):TT:=λσ H Q=>t σ H λc H1=>if c=true then Q true H1 else u σ H1 Q
def tNot(t:TT):TT:=λσ H Q=>t σ H λc H1=>Q (!c) H1
theorem zkA(ha:PT X a tA):PW X (.BoolOp .And [a] pos) tA:=by
 intro wh pins s σ H Q I h;refine isTrue_and (thn (ha pins s σ H Q I h) λc s1 e=>?_);cases c with
 |true=>exact isTrue_and_nil e
 |false=>exact e
theorem zqu(ha:PT X a tA):PW X (.BoolOp .Or [a] pos) tA:=by
 intro wh pins s σ H Q I h;refine isTrue_or (thn (ha pins s σ H Q I h) λc s1 e=>?_);cases c with
 |false=>exact isTrue_or_nil e
 |true=>exact e
theorem ziJ(ha:PT X a tA)(hb:PW X (.BoolOp .And (b::rest) pos) tB'):PW X (.BoolOp .And (a::b::rest) pos) (tAnd tA tB'):=by
 intro wh pins s σ H Q I h;refine isTrue_and (thn (ha pins s σ H _ I h) λc s1 ⟨H1,I1,q1⟩=>?_);cases c with
 |true=>exact hb wh pins s1 σ H1 Q I1 q1
 |false=>exact⟨H1,I1,q1⟩
theorem zqv(ha:PT X a tA)(hb:PW X (.BoolOp .Or (b::rest) pos) tB'):PW X (.BoolOp .Or (a::b::rest) pos) (tOr tA tB'):=by
 intro wh pins s σ H Q I h;refine isTrue_or (thn (ha pins s σ H _ I h) λc s1 ⟨H1,I1,q1⟩=>?_);cases c with
 |true=>exact⟨H1,I1,q1⟩
 |false=>exact hb wh pins s1 σ H1 Q I1 q1
theorem znQ(ha:PT X a tA):PT X (.UnaryOp .Not a pos) (tNot tA):=by intro pins s σ H Q I h;exact isTrue_not (ha pins s σ H (λc H1=>Q (!c) H1) I h)
def zsh(ta tb:TE):TE:=λσ H Q=>ta σ H λx H1=>∃c,x=.bl c/\if c=true then tb σ H1 Q else Q (.bl false) H1
def tOrV(ta tb:TE):TE:=λσ H Q=>ta σ H λx H1=>∃c,x=.bl c/\if c=true then Q (.bl true) H1 else tb σ H1 Q
theorem zqJ{op}(h:PE X a t):PE X (.BoolOp op [a] pos) t:=λpins s σ H Q I hw=>BoolOp_one (h pins s σ H Q I hw)
theorem znW(ha:PE X a ta)(hb:PE X (.BoolOp .And (b::rest) pos) tb):PE X (.BoolOp .And (a::b::rest) pos) (zsh ta tb):=by
 intro pins s σ H Q I h;refine BoolOp_and (thn (ha pins s σ H _ I h) λv s1 ⟨x,H1,I1,r1,q1⟩=>?_);obtain⟨c,rfl,q1⟩:=q1;cases r1
 refine QM ?_;cases c with
 |true=>exact hb pins s1 σ H1 Q I1 q1
 |false=>exact⟨.bl false,H1,I1,rfl,q1⟩
theorem zqI(ha:PE X a ta)(hb:PE X (.BoolOp .Or (b::rest) pos) tb):PE X (.BoolOp .Or (a::b::rest) pos) (tOrV ta tb):=by
 intro pins s σ H Q I h;refine BoolOp_or (thn (ha pins s σ H _ I h) λv s1 ⟨x,H1,I1,r1,q1⟩=>?_);obtain⟨c,rfl,q1⟩:=q1;cases r1
 refine QM ?_;cases c with
 |false=>exact hb pins s1 σ H1 Q I1 q1
 |true=>exact⟨.bl true,H1,I1,rfl,q1⟩
end
def SqL(K:Fg)(H:Hp)(a:Addr)(xs:List V):Prop:=
 Rd H a (.lst xs)\/
  ∃(o:Obj) (its:Array Value) (n:Nat),K.lookup a=some o/\o.cls=.type "list"/\o.dict=none/\o.data=.seq its n/\its.size<=sizeLine/\zS xs its.toList
def SqT(K:Fg)(H:Hp)(a:Addr)(xs:List V):Prop:=
 Rd H a (.tup xs)\/
  ∃(o:Obj) (its:Array Value) (n:Nat),K.lookup a=some o/\o.cls=.type "tuple"/\o.data=.seq its n/\its.size<=sizeLine/\zS xs its.toList
noncomputable def absV:Value->Option V
 | .none=>some .non
 | .bool b=>some (.bl b)
 | .int i _=>some (.int i)
 | .str x _=>some (.str x)
 | .bytes b _=>some (.byt b)
 | .float b _=>some (.flt b)
 | .ref a=>some (.ref a)
 | .type n=>some (.ty n)
 |_=>none
theorem zT.abs{x:V}(r:zT x u):absV u=some x:=by
 cases x with
 |non=>cases r;rfl
 |bl _=>cases r;rfl
 |int _=>obtain⟨t,rfl⟩:=r;rfl
 |str _=>obtain⟨t,rfl⟩:=r;rfl
 |byt _=>obtain⟨t,rfl⟩:=r;rfl
 |flt _=>obtain⟨t,rfl⟩:=r;rfl
 |ref _=>cases r;rfl
 |ty _=>cases r;rfl
theorem zT.inj{x y:V}(r:zT x u)(q:zT y u):x=y:=Option.some.inj (r.abs.symm.trans q.abs)
theorem zS.inj:∀{xs ys:List V}{us:List Value},zS xs us->zS ys us->xs=ys
 |_,_,_,.nil,.nil=>rfl
 |_,_,_,.cons r t,.cons r' t'=>by rw[r.inj r',zS.inj t t']
variable{K:Fg}
section
variable{X:Cx}{pins:AO}{σ:St}{H:Hp}{s:Shared}{a:Addr}{xs ys:List V}
theorem SqL.of(h:H a=some (.lst xs)):SqL K H a xs:=.inl (.inl h)
theorem SqT.of(h:H a=some (.tup xs)):SqT K H a xs:=.inl (.inl h)
theorem Inv.list(I:Inv X pins σ H s)(h:SqL X.K H a xs):∃its:List Value,zS xs its/\PlainL s.heap a its.toArray/\xs.length<=sizeLine:=by
 rcases h with h|⟨o,its,n,hk,hc,hd,hs,hz,r⟩
 ·obtain⟨z,its,n,r,e⟩:=h.ok I.hok;exact⟨its,r,⟨_,n,e,rfl,rfl,rfl⟩,z⟩
 ·refine⟨its.toList,r,⟨o,n,I.kIn a o hk,hc,hd,by simpa using hs⟩,?_⟩;have e:=r.length;simp only[Array.length_toList]at e;omega
theorem Inv.tuple(I:Inv X pins σ H s)(h:SqT X.K H a xs):∃its:List Value,zS xs its/\IsTup s.heap a its.toArray/\xs.length<=sizeLine:=by
 rcases h with h|⟨o,its,n,hk,hc,hs,hz,r⟩
 ·obtain⟨z,its,r,p⟩:=h.ok I.hok;exact⟨its,r,p,z⟩
 ·refine⟨its.toList,r,⟨o,I.kIn a o hk,hc,n,by simpa using hs⟩,?_⟩;have e:=r.length;simp only[Array.length_toList]at e;omega
theorem Inv.list_inj(I:Inv X pins σ H s)(h:SqL X.K H a xs)(h':SqL X.K H a ys):xs=ys:=by
 obtain⟨its,r,⟨o,n,e,_,_,d⟩,_⟩:=I.list h;obtain⟨its',r',⟨o',n',e',_,_,d'⟩,_⟩:=I.list h';rw[e]at e';cases e'
 rw[d]at d';injection d' with d1 _
 have:its=its':=by simpa using JV Array.toList d1
 subst this;exact r.inj r'
theorem Inv.tuple_inj(I:Inv X pins σ H s)(h:SqT X.K H a xs)(h':SqT X.K H a ys):xs=ys:=by
 obtain⟨its,r,⟨o,e,_,n,d⟩,_⟩:=I.tuple h;obtain⟨its',r',⟨o',e',_,n',d'⟩,_⟩:=I.tuple h';rw[e]at e';cases e'
 rw[d]at d';injection d' with d1 _
 have:its=its':=by simpa using JV Array.toList d1
 subst this;exact r.inj r'
end
abbrev Cx.wish(X:Cx)(E:VS):Cx:={X with xe:=E}
abbrev Cx.nox(X:Cx):Cx:=X.wish λ_ _=>False
theorem Cx.Ok.wish(ok:X.Ok)(E:VS):(X.wish E).Ok:=
 ⟨ok.mod,ok.kind,ok.glob,ok.blt,ok.above,ok.inj,ok.has,ok.cab,ok.hd,ok.frames,ok.stk,ok.exf,ok.bs,ok.bsz,ok.noex,ok.exfs,ok.funs,ok.frf⟩
theorem Cx.Ok.unwish(ok:(X.wish E).Ok):X.Ok:=
 ⟨ok.mod,ok.kind,ok.glob,ok.blt,ok.above,ok.inj,ok.has,ok.cab,ok.hd,ok.frames,ok.stk,ok.exf,ok.bs,ok.bsz,ok.noex,ok.exfs,ok.funs,ok.frf⟩
section
variable{X:Cx}{pins:AO}{σ:St}{H:Hp}{s:Shared}{E:VS}
theorem Inv.wish(I:Inv X pins σ H s)(E:VS):Inv (X.wish E) pins σ H s:=⟨I.ok.wish E,I.os,I.bare,I.base,I.loc,I.cell,I.free,I.freeC,I.pin,I.hok,I.len⟩
theorem Inv.unwish(I:Inv (X.wish E) pins σ H s):Inv X pins σ H s:=⟨I.ok.unwish,I.os,I.bare,I.base,I.loc,I.cell,I.free,I.freeC,I.pin,I.hok,I.len⟩
theorem SP.unwish{D:Ends}{f:Flow}(h:SP (X.wish E) pins D f s'):SP X pins D f s':=by
 cases f with
 |next=>obtain⟨σ',H',I,q⟩:=h;exact⟨σ',H',I.unwish,q⟩
 |brk=>obtain⟨σ',H',I,q⟩:=h;exact⟨σ',H',I.unwish,q⟩
 |cont=>obtain⟨σ',H',I,q⟩:=h;exact⟨σ',H',I.unwish,q⟩
 |ret u=>obtain⟨v,σ',H',I,r,q⟩:=h;exact⟨v,σ',H',I.unwish,r,q⟩
theorem PSs.nox{st:List Stmt}{t:TS}(h:PSs X.nox st t):PSs X st t:=λpins s σ H D I hw=>
 JJ (h pins s σ H D (I.wish _) hw) (λ_ _ q=>q.unwish) λ_ _ z=>False.elim z
end
variable{c:Expr}{tc:TT}
section
variable{X:Cx}{st:Stmt}{rest:List Stmt}{t u:TS}{e:Expr}{te:TE}{pos:Pos}
def zsb:TS:=λD σ H=>D.nx σ H
def tSeq(t u:TS):TS:=λD σ H=>t {D with nx:=u D} σ H
theorem zoI:PSs X [] zsb:=λ_ _ σ H _ I h=>wpAny_execs_nil ⟨σ,H,I,h⟩
theorem ziK(h1:PS X st t)(h2:PSs X rest u):PSs X (st::rest) (tSeq t u):=by
 intro pins s σ H D I h;refine wpAny_execs_cons (thn (h1 pins s σ H {D with nx:=u D} I h) λf s1 q=>?_);cases f with
 |next=>
  obtain⟨σ',H',I',q⟩:=q;exact h2 pins s1 σ' H' D I' q
 |ret v=>exact q
 |brk=>exact q
 |cont=>exact q
theorem zoH(h1:PS X st t):PSs X [st] t:=by
 intro pins s σ H D I h;refine wpAny_execs_cons (thn (h1 pins s σ H D I h) λf s1 q=>?_);cases f with
 |next=>exact wpAny_execs_nil q
 |ret v=>exact q
 |brk=>exact q
 |cont=>exact q
def zsf:TS:=λD σ H=>D.ct σ H
theorem zhP:PS X (.Continue pos) zsf:=λ_ _ σ H _ I h=>wpAny_Continue ⟨σ,H,I,h⟩
theorem Inv.quiet(I:Inv X pins σ H s):interactive X.env=false:=by simp[interactive,I.ok.kind]
def zsc(te:TE):TS:=λD σ H=>te σ H λ_ H1=>D.nx σ H1
theorem zkD(he:PE X e te)(hs:swapsWith e none pos.line X.env=pure false:=by rfl):PS X (.Expr e pos) (zsc te):=by intro pins s σ H D I h;exact wpAny_Expr_any (thn (he pins s σ H _ I h) λv s1 ⟨x,H1,I1,r1,q1⟩=>⟨σ,H1,I1,q1⟩) I.quiet hs
def tRet(te:TE):TS:=λD σ H=>te σ H D.rt
theorem zgS(he:PE X e te):PS X (.Return (some e) pos) (tRet te):=by intro pins s σ H D I h;exact wpAny_Return_some (thn (he pins s σ H _ I h) λv s1 ⟨x,H1,I1,r1,q1⟩=>⟨x,σ,H1,I1,r1,q1⟩)
def tIfS(c:TT)(t u:TS):TS:=λD σ H=>c σ H λb H1=>if b=true then t D σ H1 else u D σ H1
theorem zqx{a b:List Stmt}(hc:PT X c tc)(ha:PSs X a t)(hb:PSs X b u):PS X (.If c a b pos) (tIfS tc t u):=by
 intro pins s σ H D I h;refine wpAny_If (thn (hc pins s σ H _ I h) λd s1 ⟨H1,I1,q1⟩=>?_);cases d with
 |true=>exact ha pins s1 σ H1 D I1 q1
 |false=>exact hb pins s1 σ H1 D I1 q1
def zqb:TS:=λ_ _ _=>False
theorem zdR{sts:List Stmt}:PSs X sts zqb:=λ_ _ _ _ _ _ h=>h.elim
end
abbrev TG:=V->St->Hp->(St->Hp->Prop)->Prop
abbrev TGs:=List V->St->Hp->(St->Hp->Prop)->Prop
def PG(X:Cx)(target:Expr)(t:TG):Prop:=
 ∀(pins:AO) (s:Shared) (σ:St) (H:Hp) (v:V) (u:Value) (Q:St->Hp->Prop),Inv X pins σ H s->zT v u->t v σ H Q->
  wpAny (model X.prog X.w) X.A (assign target X.env u) (λ_ s'=>∃σ' H',Inv X pins σ' H' s'/\Q σ' H') X.xe s
def PGs(X:Cx)(ts:List Expr)(t:TGs):Prop:=
 ∀(pins:AO) (s:Shared) (σ:St) (H:Hp) (vs:List V) (us:List Value) (Q:St->Hp->Prop),Inv X pins σ H s->zS vs us->t vs σ H Q->
  wpAny (model X.prog X.w) X.A (assignInOrder ((assignEach ts X.env).map (·.2)) us) (λ_ s'=>∃σ' H',Inv X pins σ' H' s'/\Q σ' H') X.xe s
abbrev TSet:=V->V->V->Hp->(Hp->Prop)->Prop
def PSet(X:Cx)(t:TSet):Prop:=
 ∀(pins:AO) (s:Shared) (σ:St) (H:Hp) (o i v:V) (ov iv u:Value) (Q:Hp->Prop),Inv X pins σ H s->zT o ov->zT i iv->zT v u->t o i v H Q->
  wpAny (model X.prog X.w) X.A (setItem ov iv u) (λ_ s'=>∃H',Inv X pins σ H' s'/\Q H') X.xe s
variable{es:List Expr}{tg:Expr}{te:TE}{ta:TA}
section
variable{X:Cx}{pos:Pos}
def znn(i:Nat):TG:=λv σ H Q=>Q (σ.set i (some v)) H
theorem zoP(hN:X.N.Nodup)(hi:X.N[i]?=some x)(hx:Loc X.env.scope x)(hf:X.fn x=true\/X.env.scope.names.lookup x=some .local:=by first|exact .inl rfl|exact .inr rfl|assumption):PG X (.Name x pos) (znn i):=by intro pins s σ H v u Q I r h;exact wpAny_assign_Name (zdz I hN hi hx r (λs' I'=>⟨_,H,I',h⟩) hf)
def qC:TGs:=λvs σ H Q=>vs=[]/\Q σ H
def zQ(t:TG)(u:TGs):TGs:=λvs σ H Q=>∃v r,vs=v::r/\t v σ H λσ' H'=>u r σ' H' Q
theorem zoO:PGs X [] qC:=by
 intro pins s σ H vs us Q I r h;obtain⟨e,h⟩:=h;subst e;cases r
 exact assignInOrder_nil ⟨σ,H,I,h⟩
theorem zmJ{t:TG}{u:TGs}(h1:PG X e t)(h2:PGs X es u)(hs:(assignEach (e::es) X.env).map (·.2)=assign e X.env::(assignEach es X.env).map (·.2):=by rfl):PGs X (e::es) (zQ t u):=by
 intro pins s σ H vs us Q I r h;obtain⟨v,vr,e1,h⟩:=h;subst e1;cases r with
 |cons r rr=>
  rw[hs];refine assignInOrder_cons (thn (h1 pins s σ H _ _ _ I r h) λ_ s1 ⟨σ1,H1,I1,q1⟩=>?_);exact h2 pins s1 σ1 H1 _ _ Q I1 rr q1
def qO(K:Fg)(n:Nat)(t:TGs):TG:=λv σ H Q=>∃a xs,v=.ref a/\SqT K H a xs/\xs.length=n/\t xs σ H Q
theorem zqC{k:Nat}{t:TGs}{n:Nat}(hc:X.calm=true)(h:PGs X es t)(hn:(assignEach es X.env).length=n:=by rfl)(hst:(assignEach es X.env).findIdx? (·.1)=none:=by rfl):PG X (.Tuple es k pos) (qO X.K n t):=by
 intro pins s σ H v u Q I r hw;obtain⟨a,xs,e1,hq,hl,hw⟩:=hw;subst e1;cases r
 obtain⟨its,rv,ht,hz⟩:=I.tuple hq;refine assign_Tuple_tuple (I.ok.hd hc) ht (by simp[hn,←hl,rv.length]) hst λh' hx=>?_
 have I1:Inv X pins σ H {s with heap:=h'}:=I.kept (t':=s.toks) λb o e=>hx b o (Jv (Jf e)) e
 exact h pins _ σ H xs _ Q I1 (by simpa using rv) hw
def gSub(to ti:TE)(t:TSet):TG:=λv σ H Q=>to σ H λo H1=>ti σ H1 λi H2=>t o i v H2 λH3=>Q σ H3
theorem znT{o i:Expr}{to ti:TE}{t:TSet}(ho:PE X o to)(hi:PE X i ti)(hs:PSet X t)(ha:∀v,assign (.Subscript o i pos) X.env v=(do
   let ov ←holding [v] (eval o X.env);let iv ←holding [v,ov] (eval i X.env)
   standAt pos
   holding [v,ov,iv] (setItem ov iv v)
   release [v,ov,iv] []):=by intro _;rfl):PG X (.Subscript o i pos) (gSub to ti t):=by
 intro pins s σ H v u Q I r h;rw[ha];refine wpAny_bind (JH (thn (ho pins s σ H _ I h) λov s1 ⟨x,H1,I1,r1,q1⟩=>?_));refine wpAny_bind (JH (thn (hi pins s1 σ H1 _ I1 q1) λiv s2 ⟨y,H2,I2,r2,q2⟩=>?_));refine wpAny_bind (Qt (wpAny_bind (JH (thn (hs pins s2 σ H2 x y v ov iv u _ I2 r1 r2 r q2) λ_ s3 ⟨H3,I3,q3⟩=>?_))));exact wpAny_release ⟨σ,H3,I3,q3⟩
def tAsg(te:TE)(g:TG):TS:=λD σ H=>te σ H λx H1=>g x σ H1 D.nx
theorem ziL{g:TG}(he:PE X e te)(hg:PG X tg g)(hs:swapsWithSole [tg] e pos.line X.env=pure false:=by rfl)(hw:swappedStores [tg] e X.env=pure none:=by rfl)(h1:(assignEach [tg] X.env).map (·.2)=[assign tg X.env]:=by rfl):PS X (.Assign [tg] e pos) (tAsg te g):=by intro pins s σ H D I h;refine wpAny_Assign_stores (thn (he pins s σ H _ I h) λv s1 ⟨x,H1,I1,r1,q1⟩=>?_) hs hw;rw[h1];exact thn (hg pins s1 σ H1 x v _ I1 r1 q1) λ_ s2 q=>q
theorem znR{pos':Pos}(hN:X.N.Nodup)(hi:X.N[i]?=some x)(hx:Loc X.env.scope x)(he:PE X e te)(hs:swapsWith e (some (.Name x pos')) pos.line X.env=pure false:=by rfl)(hf:X.fn x=true\/X.env.scope.names.lookup x=some .local:=by first|exact .inl rfl|exact .inr rfl|assumption):
  PS X (.Assign [.Name x pos'] e pos) (tAsg te (znn i)):=by
 intro pins s σ H D I h;refine wpAny_Assign_Name (thn (he pins s σ H _ I h) λv s1 ⟨y,H1,I1,r1,q1⟩=>?_) hs;exact zdz I1 hN hi hx r1 (λs2 I2=>⟨_,H1,I2,q1⟩) hf
def tPar(i j:Nat)(ta:TA):TS:=λD σ H=>ta σ H λvs H1=>∃v w,vs=[v,w]/\D.nx ((σ.set i (some v)).set j (some w)) H1
theorem zqw{y:Str}{a b:Expr}{px py pt:Pos}{kt k2 pt2}(hc:X.calm=true)(hN:X.N.Nodup)(hi:X.N[i]?=some x)(hj:X.N[j]?=some y)(hij:i≠j)(hx:X.env.scope.names.lookup x=some .local)(hy:X.env.scope.names.lookup y=some .local)(ha:PA X [a,b] ta)(hw:swappedStores [.Tuple [.Name x px,.Name y py] kt pt] (.Tuple [a,b] k2 pt2) X.env=pure (some [x,y]))(hs:swapsWithSole [.Tuple [.Name x px,.Name y py] kt pt] (.Tuple [a,b] k2 pt2) pos.line X.env=pure false:=by rfl):
  PS X (.Assign [.Tuple [.Name x px,.Name y py] kt pt] (.Tuple [a,b] k2 pt2) pos) (tPar i j ta):=by
 intro pins s σ H D I h;rw[exec_Assign_arm];refine wpAny_bind (Qt ?_);rw[hs];refine wpAny_bind (Jc ?_);rw[if_neg (by decide)];refine wpAny_bind (Tuple_ (thn (ha _ pins s σ H _ I h) λus s1 ⟨vs,H1,I1,r1,q1⟩=>?_));obtain⟨v,w,e1,q1⟩:=q1;subst e1;obtain⟨u1,u2,rfl,rv,rw'⟩:∃u1 u2,us=[u1,u2]/\zT v u1/\zT w u2:=by
  cases r1 with
  |cons p q=>
   cases q with
   |cons p' q'=>
    cases q'
    exact⟨_,_,rfl,p,p'⟩
 refine JY ?_ (by show 2<=sizeLine;decide);have I2:Inv X pins σ H1 {s1 with heap:=s1.heap.push {cls:=.type "tuple",data:=.seq [u1,u2].toArray}}:=I1.kept (t':=s1.toks) λb o e=>Heap.get?_push_of_some _ e
 rw[hw];refine wpAny_bind (Jc ?_);show wpAny (model X.prog X.w) X.A (do rule "assign.swapped-stores";let items ←unpackItems (.ref s1.heap.objs.size) 2 none;assignInOrder [λv=>bindName X.env y v,λv=>bindName X.env x v] items.reverse;pure Flow.next) _ _ _;refine wpAny_bind (QX (wpAny_bind (unpackItems_tuple (items:=#[u1,u2]) (I.ok.hd hc) (IsTup.new s1.heap _) λh' hx'=>?_)));have I3:=I2.kept (h':=h') (t':=s1.toks) λb o e=>hx' b o (Jv (Jf e)) e
 show wpAny _ _ (assignInOrder [λv=>bindName X.env y v,λv=>bindName X.env x v] [u2,u1]>>=λ_=>pure Flow.next) _ _ _;refine wpAny_bind (assignInOrder_cons (wpAny_bindName (zdz I3 hN hj (.inl hy) rw' (λs2 I4=>?_) (.inr hy))));refine assignInOrder_cons (wpAny_bindName (zdz I4 hN hi (.inl hx) rv (λs3 I5=>assignInOrder_nil (Jc ?_)) (.inr hx)));rw[List.set_comm _ _ (Ne.symm hij)]at I5;exact⟨_,H1,I5,q1⟩
end
variable{body:List Stmt}{tb:TS}
section
variable{X:Cx}{pos:Pos}
def zqa(c:TT)(tb:TS):TS:=λD σ H=>∃W:Nat->St->Hp->Prop,(∃m,W m σ H)/\∀m σ H,W m σ H->
 c σ H λb H1=>if b=true then∃N:St->Hp->Prop,(∀σ' H',N σ' H'->∃m',m'<m/\W m' σ' H')/\tb {D with nx:=N,ct:=N,bk:=D.nx} σ H1 else D.nx σ H1
theorem zmC(hp:PassesOwn (model X.prog X.w) X.A X.env X.xe)(hc:PT X c tc)(hb:PSs X body tb):PS X (.While c body [] pos) (zqa tc tb):=by
 intro pins s σ H D I h;obtain⟨W,⟨m0,w0⟩,turn⟩:=h;refine wpAny_While (codeAny_whileLoop (λn s'=>∃σ' H',Inv X pins σ' H' s'/\W n σ' H') ?_ m0 ⟨σ,H,I,w0⟩);rintro n s1 ⟨σ1,H1,I1,w1⟩;refine QL hp (thn (hc pins s1 σ1 H1 _ I1 (turn n σ1 H1 w1)) λb s2 ⟨H2,I2,q2⟩=>?_);cases b with
 |true=>
  obtain⟨N,hN,q2⟩:=q2;rw[if_pos rfl];refine QL hp (thn (hb pins s2 σ1 H2 _ I2 q2) λf s3 q3=>?_);cases f with
  |next=>
   obtain⟨σ3,H3,I3,n3⟩:=q3;obtain⟨m',hm,w3⟩:=hN σ3 H3 n3;exact⟨m',hm,σ3,H3,I3,w3⟩
  |cont=>
   obtain⟨σ3,H3,I3,n3⟩:=q3;obtain⟨m',hm,w3⟩:=hN σ3 H3 n3;exact⟨m',hm,σ3,H3,I3,w3⟩
  |brk=>exact q3
  |ret v=>exact q3
 |false=>
  rw[if_neg JR];exact wpAny_execs_nil ⟨σ1,H2,I2,q2⟩
end
structure It where
 go:Nat->Hp->Prop
 yld:Nat->Hp->V->Hp->Prop
 stop:Nat->Hp->Prop
def yL(X:Cx)(pins:AO)(H:Hp)(b:Addr):Prop:=
 H b=none/\b≠X.env.locals/\b∉X.fs/\(b∈X.ex\/X.s₀.heap.objs.size<=b)/\(∀x c,X.env.cells.lookup x=some c->c≠b)/\∀p∈X.pn++pins,p.1≠b
theorem Inv.fpOk{H':Hp}{b:Addr}(I:Inv X pins σ H s)(hb:s.heap.objs.size<=b)(hn:H' b=none):yL X pins H' b:=by
 refine⟨hn,Nat.ne_of_gt (Js I.lt hb),I.nofs hb,.inr (Jt I.sz hb),λx c e z=>?_,λp hp z=>?_⟩
 ·obtain⟨v,q⟩:=I.cell x c e;exact absurd (Js q.lt (by rw[z];exact hb)) (JZ _)
 ·exact absurd (Js (Jf (I.pin p hp).1) (by rw[z];exact hb)) (JZ _)
structure Turn(P:Program)(w:World)(K:Fg)(tg:Expr)(J:It)(fp:List Addr)(it:Addr)(tn:Nat->Heap->Prop):Prop where
 mem:it∈fp
 obj:∀i h,tn i h->∀b∈fp,∃o,h.get? b=some o/\∀v,o.data≠.cell v
 keep:∀i h h',tn i h->(∀b∈fp,∀o,h.get? b=some o->h'.get? b=some o)->tn i h'
 item:∀(X:Cx),X.prog=P->X.w=w->X.K=K->X.calm=true->∀(i:Nat) (pins:AO) (s:Shared) (σ:St) (H:Hp) (E:VS),Inv X pins σ H s->(∀b∈fp,yL X pins H b)->tn i s.heap->J.go i H->
  wpAny (model P w) X.A (pyNext (.ref it)) (λr s1=>∃u,r=some u/\
   wpAny (model P w) X.A (letOwnedTupleGo tg (.ref it) u) (λ_ s2=>∃x H',Inv X pins σ H' s2/\zT x u/\J.yld i H x H'/\tn (i+1) s2.heap/\∀b∈fp,H' b=none) E s1) E s
 done:∀(X:Cx),X.prog=P->X.w=w->X.K=K->X.calm=true->∀(i:Nat) (pins:AO) (s:Shared) (σ:St) (H:Hp) (E:VS),Inv X pins σ H s->(∀b∈fp,yL X pins H b)->tn i s.heap->J.stop i H->
  wpAny (model P w) X.A (pyNext (.ref it)) (λr s1=>r=none/\Inv X pins σ H s1) E s
 self:∀(A:Around) (i:Nat) (s:Shared) (Q:VS) (E:VS),tn i s.heap->Q (.ref it) s->wpAny (model P w) A (pyIter (.ref it)) Q E s
abbrev TI:=St->Hp->(It->Hp->Prop)->Prop
def PIE(X:Cx)(pins:AO)(σ:St)(tg:Expr)(R:It->Hp->Prop)(itv:Value)(s2:Shared):Prop:=
 ∃(it:Addr) (fp:List Addr) (tn:Nat->Heap->Prop) (J:It) (H':Hp),itv=.ref it/\Inv X pins σ H' s2/\Turn X.prog X.w X.K tg J fp it tn/\tn 0 s2.heap/\(∀b∈fp,yL X pins H' b)/\R J H'
def PI(X:Cx)(tg iter:Expr)(wi:TI):Prop:=
 ∀(pins:AO) (s:Shared) (σ:St) (H:Hp) (R:It->Hp->Prop),Inv X pins σ H s->wi σ H R->
  wpAny (model X.prog X.w) X.A (eval iter X.env) (λv s1=>wpAny (model X.prog X.w) X.A (pyIter v) (PIE X pins σ tg R) X.xe s1) X.xe s
theorem znm{s:Shared}{it:Addr}{n:String}{vs:Array Value}(ho:s.heap.get? it=some o)(hc:o.cls=.type n)(hd:o.data=.fields vs)(hn:["enumerate","zip","dict_itemiterator","dict_reverseitemiterator","odict_iterator","itertools.zip_longest","itertools.pairwise"].contains n=false)(hQ:Q () s):wpAny M A (letOwnedTupleGo tg (.ref it) u) Q E s:=by
 unfold letOwnedTupleGo;cases tg<;>first
  |exact Jc hQ
  |(cases u<;>first
    |exact Jc hQ
    | (refine wpAny_bind (wpAny_load ho ?_)
       rw[hc,hd];show wpAny M A (if(["enumerate","zip","dict_itemiterator","dict_reverseitemiterator","odict_iterator","itertools.zip_longest","itertools.pairwise"].contains n&&vs[0]? ==some (rawInt _))=true then _ else _) Q E s;rw[if_neg (by intro h;rw[hn,Bool.false_and]at h;cases h)];exact Jc hQ))
def Itl(K:Fg)(a:Addr):It:=
 ⟨λi H=>∃xs x,SqL K H a xs/\xs[i]?=some x,λi H x H'=>H'=H/\∀xs,SqL K H a xs->xs[i]?=some x,λi H=>∃xs,SqL K H a xs/\xs.length<=i⟩
def Itt(K:Fg)(a:Addr):It:=
 ⟨λi H=>∃xs x,SqT K H a xs/\xs[i]?=some x,λi H x H'=>H'=H/\∀xs,SqT K H a xs->xs[i]?=some x,λi H=>∃xs,SqT K H a xs/\xs.length<=i⟩
def Itr(lo:Int)(n:Nat):It:=⟨λi _=>i<n,λi H x H'=>H'=H/\x=.int (lo+i),λi _=>n<=i⟩
theorem zkj(a it:Addr):Turn P w K tg (Itl K a) [it] it (λi h=>h.IsListIter it a i)where
 mem:=by simp
 obj:=λi h st b hb=>by
  have e:b=it:=by simpa using hb
  subst e;obtain⟨o,e,c,d⟩:=st;exact⟨o,e,λv z=>by rw[d]at z;cases z⟩
 keep:=λi h h' st k=>st.at λo e=>k it (by simp) o e
 item:=by
  intro X hP hw hK hc i pins s σ H E I hf st hg;subst hP hw hK;obtain⟨xs,x,hq,hx⟩:=hg;obtain⟨its,rv,p,hz⟩:=I.list hq;obtain⟨u,hu,ru⟩:=rv.get hx;obtain⟨f0,f1,f2,f3,f4,f5⟩:=hf it (by simp);refine wpAny_pyNext_list_item st p.isList (x:=u) (by simpa using hu) λh' st' sb=>?_
  have I1:Inv X pins σ H {s with heap:=h'}:=I.turned (t':=s.toks) (λb o hb e=>(sb.2 b hb).trans e) f0 f1 f3 f4 f5;obtain⟨o,e,c,d⟩:=id st';exact⟨u,rfl,znm (s:={s with heap:=h'}) e c d (by decide) ⟨x,H,I1,ru,⟨rfl,λys hy=>by rw[I.list_inj hy hq];exact hx⟩,st',λb hb=>(hf b hb).1⟩⟩
 done:=by intro X hP hw hK hc i pins s σ H E I hf st hg;subst hP hw hK;obtain⟨xs,hq,hx⟩:=hg;obtain⟨its,rv,p,hz⟩:=I.list hq;obtain⟨f0,f1,f2,f3,f4,f5⟩:=hf it (by simp);have hl:=rv.length;exact wpAny_pyNext_list_end (I.ok.hd hc) st p.isList (by simp;omega) λh' eb=>⟨rfl,I.turned (t':=s.toks) (λb o hb e=>eb b o hb e) f0 f1 f3 f4 f5⟩
 self:=λ_ _ _ _ _ st h=>wpAny_pyIter_listiter st h
theorem zjq(a it:Addr):Turn P w K tg (Itt K a) [it] it (λi h=>h.IsTupleIter it a i)where
 mem:=by simp
 obj:=λi h st b hb=>by
  have e:b=it:=by simpa using hb
  subst e;obtain⟨o,e,c,d⟩:=st;exact⟨o,e,λv z=>by rw[d]at z;cases z⟩
 keep:=λi h h' st k=>st.at λo e=>k it (by simp) o e
 item:=by
  intro X hP hw hK hc i pins s σ H E I hf st hg;subst hP hw hK;obtain⟨xs,x,hq,hx⟩:=hg;obtain⟨its,rv,p,hz⟩:=I.tuple hq;obtain⟨u,hu,ru⟩:=rv.get hx;obtain⟨f0,f1,f2,f3,f4,f5⟩:=hf it (by simp);refine wpAny_pyNext_tuple_item st (show s.heap.IsTuple a its.toArray from p) (x:=u) (by simpa using hu) λh' st' sb=>?_
  have I1:Inv X pins σ H {s with heap:=h'}:=I.turned (t':=s.toks) (λb o hb e=>(sb.2 b hb).trans e) f0 f1 f3 f4 f5;obtain⟨o,e,c,d⟩:=id st';exact⟨u,rfl,znm (s:={s with heap:=h'}) e c d (by decide) ⟨x,H,I1,ru,⟨rfl,λys hy=>by rw[I.tuple_inj hy hq];exact hx⟩,st',λb hb=>(hf b hb).1⟩⟩
 done:=by intro X hP hw hK hc i pins s σ H E I hf st hg;subst hP hw hK;obtain⟨xs,hq,hx⟩:=hg;obtain⟨its,rv,p,hz⟩:=I.tuple hq;obtain⟨f0,f1,f2,f3,f4,f5⟩:=hf it (by simp);have hl:=rv.length;exact wpAny_pyNext_tuple_end (I.ok.hd hc) st (show s.heap.IsTuple a its.toArray from p) (by simp;omega) λh' eb=>⟨rfl,I.turned (t':=s.toks) (λb o hb e=>eb b o hb e) f0 f1 f3 f4 f5⟩
 self:=λ_ _ _ _ _ st h=>wpAny_pyIter_tupleiter st h
theorem zjr(it:Addr)(lo:Int)(n:Nat):Turn P w K tg (Itr lo n) [it] it (λi h=>IsRangeIter h it (lo+(i:Nat)*1) ((n:Int) - (i:Nat)) 1)where
 mem:=by simp
 obj:=λi h st b hb=>by
  have e:b=it:=by simpa using hb
  subst e;exact⟨_,st,λv z=>by have z':Data.fields _=Data.cell v:=z;cases z'⟩
 keep:=λi h h' st k=>k it (by simp) _ st
 item:=by
  intro X hP hw hK hc i pins s σ H E I hf st hg;subst hP hw hK;obtain⟨f0,f1,f2,f3,f4,f5⟩:=hf it (by simp);have W:=Walks.range (prog:=X.prog) (w:=X.w) (I.ok.hd hc) it lo 1 n;refine W.item i s _ _ hg st λv h' tk hv st' kk=>?_
  obtain⟨t,rfl⟩:=hv;have I1:Inv X pins σ H {s with heap:=h',toks:=tk}:=I.turned (λb o hb e=>kk b o (by simpa using hb) e) f0 f1 f3 f4 f5;refine⟨_,rfl,znm (s:={s with heap:=h',toks:=tk}) (n:="range_iterator") st' rfl rfl (by decide) ⟨.int (lo+i),H,I1,⟨t,?_⟩,⟨rfl,rfl⟩,st',λb hb=>(hf b hb).1⟩⟩;rw[Int.mul_one]
 done:=by intro X hP hw hK hc i pins s σ H E I hf st hg;subst hP hw hK;obtain⟨f0,f1,f2,f3,f4,f5⟩:=hf it (by simp);exact wpAny_pyNext_range_end (I.ok.hd hc) st (by have:n<=i:=hg;omega) λh' eb=>⟨rfl,I.turned (t':=s.toks) (λb o hb e=>eb b o hb e) f0 f1 f3 f4 f5⟩
 self:=λ_ _ _ _ _ st h=>wpAny_pyIter_rangeiter st h
variable{l:Expr}{tl:TE}{p:Pos}{fp:List Addr}
section
variable{X:Cx}{tg:Expr}
def zsG(K:Fg)(tl:TE):TI:=λσ H R=>tl σ H λx H1=>∃a,x=.ref a/\(∃xs,SqL K H1 a xs)/\R (Itl K a) H1
def iTup(K:Fg)(tl:TE):TI:=λσ H R=>tl σ H λx H1=>∃a,x=.ref a/\(∃xs,SqT K H1 a xs)/\R (Itt K a) H1
theorem zhS(hl:PE X l tl):PI X tg l (zsG X.K tl):=by
 intro pins s σ H R I h;refine thn (hl pins s σ H _ I h) λv s1 h_=>?_
 obtain⟨x,H1,I1,r1,q1⟩:=h_;obtain⟨a,e,⟨xs,hq⟩,q⟩:=q1;subst e;cases r1
 obtain⟨its,rv,p,hz⟩:=I1.list hq;refine wpAny_pyIter_list p.isList ?_;refine⟨s1.heap.objs.size,[s1.heap.objs.size],_,_,H1,rfl,I1.kept (t':=s1.toks) λb o e=>Heap.get?_push_of_some _ e,zkj a _,⟨_,Heap.get?_push_size _ rfl,rfl,rfl⟩,λb hb=>?_,q⟩;have e:b=s1.heap.objs.size:=by simpa using hb
 subst e;exact I1.fpOk (Jd _) (I1.hok.fresh (Jd _))
theorem zqB(hl:PE X l tl):PI X tg l (iTup X.K tl):=by
 intro pins s σ H R I h;refine thn (hl pins s σ H _ I h) λv s1 h_=>?_
 obtain⟨x,H1,I1,r1,q1⟩:=h_;obtain⟨a,e,⟨xs,hq⟩,q⟩:=q1;subst e;cases r1
 obtain⟨its,rv,p,hz⟩:=I1.tuple hq;refine QY (show s1.heap.IsTuple a its.toArray from p) ?_;refine⟨s1.heap.objs.size,[s1.heap.objs.size],_,_,H1,rfl,I1.kept (t':=s1.toks) λb o e=>Heap.get?_push_of_some _ e,zjq a _,⟨_,Heap.get?_push_size _ rfl,rfl,rfl⟩,λb hb=>?_,q⟩;have e:b=s1.heap.objs.size:=by simpa using hb
 subst e;exact I1.fpOk (Jd _) (I1.hok.fresh (Jd _))
theorem ziI{R:It->Hp->Prop}{lo hi:Int}{t u v:Tok}{tk:Nat}(I:Inv X pins σ H s)(h1:-(2^62)<=lo)(h2:lo<2^62)(h3:-(2^62)<=hi)(h4:hi<2^62)(q:R (Itr lo (hi - lo).toNat) H):wpAny (model X.prog X.w) X.A (pyIter (.ref s.heap.objs.size)) (PIE X pins σ tg R) E {s with heap:=s.heap.push {cls:=.type "range",data:=.fields #[.int lo t,.int hi u,.int 1 v]},toks:=tk}:=by
 refine wpAny_pyIter_range (IsRange.new ..) (small_one h1 h2 h3 h4) ?_;have I1:Inv X pins σ H {s with heap:=s.heap.push {cls:=.type "range",data:=.fields #[.int lo t,.int hi u,.int 1 v]},toks:=tk}:=I.kept λb o e=>Heap.get?_push_of_some _ e
 refine⟨(s.heap.push {cls:=.type "range",data:=.fields #[.int lo t,.int hi u,.int 1 v]}).objs.size,[(s.heap.push {cls:=.type "range",data:=.fields #[.int lo t,.int hi u,.int 1 v]}).objs.size],_,_,H,rfl,
  I1.kept (t':=tk) λb o e=>Heap.get?_push_of_some _ e,zjr _ lo (hi - lo).toNat,?_,λb hb=>?_,q⟩
 ·have e1:lo+((0:Nat):Int)*1=lo:=by simp
  have e2:(((hi - lo).toNat:Nat):Int) - ((0:Nat):Int)=Builtin.Range.rangeSize lo hi 1:=by rw[rangeSize_one];split<;>omega
  show IsRangeIter _ _ (lo+((0:Nat):Int)*1) ((((hi - lo).toNat:Nat):Int) - ((0:Nat):Int)) 1;rw[e1,e2];exact Heap.get?_push_size _ rfl
 ·have e:b=(s.heap.push {cls:=.type "range",data:=.fields #[.int lo t,.int hi u,.int 1 v]}).objs.size:=by simpa using hb
  subst e;exact I1.fpOk (Jd _) (I1.hok.fresh (Jd _))
def zsF(ta:TA):TI:=λσ H R=>ta σ H λvs H1=>∃j:Int,vs=[.int j]/\ -(2^62)<=j/\j<2^62/\R (Itr 0 j.toNat) H1
def zsE(ta:TA):TI:=λσ H R=>ta σ H λvs H1=>∃i j:Int,vs=[.int i,.int j]/\(-(2^62)<=i/\i<2^62/\ -(2^62)<=j/\j<2^62)/\R (Itr i (j - i).toNat) H1
theorem zkH{a:Expr}(hg:Gl X "range")(hm:X.mg "range"=none)(ha:PA X [a] ta)(hs:starEach [a] X.env=[(false,eval a X.env)]:=by rfl):PI X tg (.Call (.Name "range" p) [a] [] pos) (zsF ta):=by
 intro pins s σ H R I h;refine Call_ (nK I hg hm boot_range (JE (thn (ha pos pins s σ H _ I h) λus s1 ⟨vs,H1,I1,r1,q1⟩=>?_) hs rfl));obtain⟨j,e,q1,q2,q⟩:=q1;subst e;cases r1 with
 |cons r rr=>
  cases rr
  obtain⟨t,rfl⟩:=r;exact call_range_1 (ziI I1 (by omega) (by omega) q1 q2 (by simpa using q))
theorem zkG{a b:Expr}(hg:Gl X "range")(hm:X.mg "range"=none)(ha:PA X [a,b] ta)(hs:starEach [a,b] X.env=[(false,eval a X.env),(false,eval b X.env)]:=by rfl)(hs2:starEach [b] X.env=[(false,eval b X.env)]:=by rfl):
  PI X tg (.Call (.Name "range" p) [a,b] [] pos) (zsE ta):=by
 intro pins s σ H R I h;refine Call_ (nK I hg hm boot_range (JE (thn (ha pos pins s σ H _ I h) λus s1 ⟨vs,H1,I1,r1,q1⟩=>?_) (by rw[hs,hs2]) (by rw[hs2];rfl)));obtain⟨i,j,e,⟨q1,q2,q3,q4⟩,q⟩:=q1;subst e;cases r1 with
 |cons r rr=>
  cases rr with
  |cons r' rr=>
   cases rr
   obtain⟨t,rfl⟩:=r;obtain⟨t',rfl⟩:=r';exact call_range_2 (ziI I1 q1 q2 q3 q4 q)
def tFor(wi:TI)(g:TG)(tb:TS):TS:=λD σ H=>wi σ H λJ H1=>∃W:Nat->Nat->St->Hp->Prop,(∃m,W 0 m σ H1)/\∀i m σ H,W i m σ H->
 (J.stop i H/\D.nx σ H)\/(J.go i H/\∃N:St->Hp->Prop,(∀σ' H',N σ' H'->∃m',m'<m/\W (i+1) m' σ' H')/\∀x H',J.yld i H x H'->g x σ H' λσ2 H2=>tb {D with nx:=N,ct:=N,bk:=D.nx} σ2 H2)
def zgU(fp:List Addr)(h:Heap):AO:=fp.filterMap λb=>(h.get? b).map λo=>(b,o)
theorem zaL{b:Addr}(hb:b∈fp)(e:h.get? b=some o):(b,o)∈zgU fp h:=List.mem_filterMap.mpr ⟨b,hb,by rw[e];rfl⟩
theorem zkT{p:Addr×Obj}(hp:p∈zgU fp h):p.1∈fp/\h.get? p.1=some p.2:=by
 obtain⟨b,hb,e⟩:=List.mem_filterMap.mp hp;cases q:h.get? b with
 |none=>rw[q]at e;cases e
 |some o=>
  rw[q]at e;have e':(b,o)=p:=Option.some.inj e;subst e';exact⟨hb,q⟩
theorem Inv.pinned(I:Inv X pins σ H s)(hf:∀b∈fp,yL X pins H b)(ho:∀b∈fp,∃o,s.heap.get? b=some o/\∀v,o.data≠.cell v):Inv X (pins++zgU fp s.heap) σ H s:=
 I.pins_of λp hp=>(JS.mp hp).elim (λz=>I.pin p (Ji _ z)) λz=>by
  obtain⟨hb,e⟩:=zkT z;obtain⟨f0,f1,f2,_⟩:=hf p.1 hb;obtain⟨o,e',d⟩:=ho p.1 hb;rw[e]at e';cases e'
  exact⟨e,f0,f1,f2,d⟩
theorem Inv.unpinned{pl:AO}(I:Inv X (pins++pl) σ H s):Inv X pins σ H s:=I.pins_of λp hp=>I.pin p (Ji _ (Jq _ hp))
theorem znS{iter:Expr}{wi:TI}{g:TG}(hp:PassesOwn (model X.prog X.w) X.A X.env X.xe)(hc:X.calm=true)(hi:PI X tg iter wi)(hg:PG X tg g)(hb:PSs X body tb)(hs:∀x,foldedSetIterable iter X.env x=pure x:=by intro _;rfl):PS X (.For tg iter body [] pos) (tFor wi g tb):=by
 intro pins s σ H D I h;refine wpAny_For (thn (hi pins s σ H _ I h) λv s1 h1=>thn h1 λitv s2 h2=>?_) hs;obtain⟨it,fp,tn,J,H2,e,I2,T,st2,f2,W,⟨m0,w0⟩,turn⟩:=h2;subst e;have stat:∀{H':Hp},(∀b∈fp,H' b=none)->∀b∈fp,yL X pins H' b:=λhn b hb=>⟨hn b hb,(f2 b hb).2⟩
 refine codeAny_forLoop_any (λn s'=>∃i σ' H',Inv X pins σ' H' s'/\tn i s'.heap/\(∀b∈fp,H' b=none)/\W i n σ' H') ?_ m0 ⟨0,σ,H2,I2,st2,λb hb=>(f2 b hb).1,w0⟩;rintro n s3 ⟨i,σ3,H3,I3,st3,fr3,w3⟩;rcases turn i n σ3 H3 w3 with⟨stop,qn⟩|⟨go,N,hN,step⟩
 ·refine QL hp (thn (T.done X rfl rfl rfl hc i pins s3 σ3 H3 X.xe I3 (stat fr3) st3 stop) λr s4 ⟨hr,I4⟩=>?_);subst hr;exact wpAny_execs_nil ⟨σ3,H3,I4,qn⟩
 ·refine QL hp (thn (T.item X rfl rfl rfl hc i pins s3 σ3 H3 X.xe I3 (stat fr3) st3 go) λr s4 ⟨u,hr,h4⟩=>?_);subst hr;refine QL hp (thn h4 λ_ s5 ⟨x,H5,I5,r5,y5,st5,fr5⟩=>?_);have I5':=I5.pinned (stat fr5) (T.obj _ _ st5);refine QL hp (thn (hg _ s5 σ3 H5 x u _ I5' r5 (step x H5 y5)) λ_ s6 ⟨σ6,H6,I6,q6⟩=>?_);refine QL hp (thn (hb _ s6 σ6 H6 _ I6 q6) λf s7 q7=>?_);have again:∀{σ7:St}{H7:Hp},Inv X (pins++zgU fp s5.heap) σ7 H7 s7->N σ7 H7->∃m,m<n/\∃i σ' H',Inv X pins σ' H' s7/\tn i s7.heap/\(∀b∈fp,H' b=none)/\W i m σ' H':=λ{σ7 H7} I7 n7=>by obtain⟨m',hm,w7⟩:=hN σ7 H7 n7;refine⟨m',hm,i+1,σ7,H7,I7.unpinned,T.keep _ _ _ st5 λb hb o e=>(I7.pin (b,o) (Ji _ (Ji _ (zaL hb e)))).1,λb hb=>?_,w7⟩;obtain⟨o,e,d⟩:=T.obj _ _ st5 b hb;exact(I7.pin (b,o) (Ji _ (Ji _ (zaL hb e)))).2.1
  cases f with
  |next=>obtain⟨σ7,H7,I7,n7⟩:=q7;exact again I7 n7
  |cont=>obtain⟨σ7,H7,I7,n7⟩:=q7;exact again I7 n7
  |brk=>obtain⟨σ7,H7,I7,q7⟩:=q7;exact⟨σ7,H7,I7.unpinned,q7⟩
  |ret v=>obtain⟨x7,σ7,H7,I7,r7,q7⟩:=q7;exact⟨x7,σ7,H7,I7.unpinned,r7,q7⟩
end
abbrev R2:=V->V->Hp->VK->Prop
def OpR(X:Cx)(f:Value->Value->Sem Value)(r:R2):Prop:=
 ∀(pins:AO) (s:Shared) (σ:St) (H:Hp) (x y:V) (v u:Value) (Q:VK),Inv X pins σ H s->zT x v->zT y u->r x y H Q->
  wpAny (model X.prog X.w) X.A (f v u) (EP X pins σ Q) X.xe s
def UnR(X:Cx)(f:Value->Sem Value)(r:V->Hp->VK->Prop):Prop:=
 ∀(pins:AO) (s:Shared) (σ:St) (H:Hp) (x:V) (v:Value) (Q:VK),Inv X pins σ H s->zT x v->r x H Q->
  wpAny (model X.prog X.w) X.A (f v) (EP X pins σ Q) X.xe s
def wB(X:Cx)(f:Value)(r:List V->Hp->VK->Prop):Prop:=
 ∀(pins:AO) (s:Shared) (σ:St) (H:Hp) (xs:List V) (us:List Value) (Q:VK),Inv X pins σ H s->zS xs us->r xs H Q->
  wpAny (model X.prog X.w) X.A (call f us) (EP X pins σ Q) X.xe s
def TruR(X:Cx)(r:V->Hp->(Bool->Hp->Prop)->Prop):Prop:=
 ∀(pins:AO) (s:Shared) (σ:St) (H:Hp) (x:V) (v:Value) (Q:Bool->Hp->Prop),Inv X pins σ H s->zT x v->r x H Q->
  wpAny (model X.prog X.w) X.A (truthy v) (TP X pins σ Q) X.xe s
def tOp(r:R2)(ta tb:TE):TE:=λσ H Q=>ta σ H λx H1=>tb σ H1 λy H2=>r x y H2 Q
def tUn(r:V->Hp->VK->Prop)(ta:TE):TE:=λσ H Q=>ta σ H λx H1=>r x H1 Q
def rI(C:Int->Int->Prop)(g:Int->Int->V):R2:=λx y H Q=>∃i j,x=.int i/\y=.int j/\C i j/\Q (g i j) H
def rI0(g:Int->Int->V):R2:=λx y H Q=>∃i j,x=.int i/\y=.int j/\Q (g i j) H
def rU(g:Int->V):V->Hp->VK->Prop:=λx H Q=>∃i,x=.int i/\Q (g i) H
variable{f:Value->Value->Sem Value}{g:Int->Int->Int}{r:R2}
section
variable{X:Cx}{a b c:Expr}{ta tb tc:TE}{pos:Pos}
theorem binT(ha:PE X a ta)(hb:PE X b tb){R:V->V->Hp->Prop}(I:Inv X pins σ H s)(h:ta σ H λx H1=>tb σ H1 λy H2=>R x y H2){Q:VS}(hf:∀v u s2 x y H2,Inv X pins σ H2 s2->zT x v->zT y u->R x y H2->wpAny (model X.prog X.w) X.A (f v u) Q X.xe s2):
  wpAny (model X.prog X.w) X.A (eval a X.env) (λv s₁=>wpAny (model X.prog X.w) X.A (eval b X.env) (λu s₂=>wpAny (model X.prog X.w) X.A (f v u) Q X.xe s₂) X.xe s₁) X.xe s:=by
 refine thn (ha pins s σ H _ I h) λv s1 h_=>?_
 obtain⟨x,H1,I1,r1,q1⟩:=h_;refine thn (hb pins s1 σ H1 _ I1 q1) λu s2 h_=>?_
 obtain⟨y,H2,I2,r2,q2⟩:=h_;exact hf v u s2 x y H2 I2 r1 r2 q2
theorem zsq{op:Operator}(ho:OpR X (binaryOp op) r)(ha:PE X a ta)(hb:PE X b tb):PE X (.BinOp a op b pos) (tOp r ta tb):=by intro pins s σ H Q I h;exact wpAny_BinOp (binT ha hb I h λv u s2 x y H2 I2 rx ry q=>ho pins s2 σ H2 x y v u Q I2 rx ry q)
theorem zsp{op:UnaryOp}{r:V->Hp->VK->Prop}(ho:UnR X (unaryOp op) r)(ha:PE X a ta):PE X (.UnaryOp op a pos) (tUn r ta):=by intro pins s σ H Q I h;exact UnaryOp_ (thn (ha pins s σ H _ I h) λv s1 ⟨x,H1,I1,r1,q1⟩=>ho pins s1 σ H1 x v Q I1 r1 q1)
theorem opI{C:Int->Int->Prop}(rule:∀(i j:Int) (t u:Tok) (s:Shared) (Q:VS) (E:VS),C i j->Q (.int (g i j) s.toks) {s with toks:=s.toks+1}->wpAny (model X.prog X.w) X.A (f (.int i t) (.int j u)) Q E s):
  OpR X f (rI C λi j=>.int (g i j)):=by
 intro pins s σ H x y v u Q I rx ry h;obtain⟨i,j,rfl,rfl,hc,q⟩:=h;obtain⟨t,rfl⟩:=rx;obtain⟨t',rfl⟩:=ry;exact rule i j t t' s _ _ hc ⟨.int (g i j),H,I.tok _,⟨_,rfl⟩,q⟩
theorem opI0(rule:∀(i j:Int) (t u:Tok) (s:Shared) (Q:VS) (E:VS),Q (.int (g i j) s.toks) {s with toks:=s.toks+1}->wpAny (model X.prog X.w) X.A (f (.int i t) (.int j u)) Q E s):
  OpR X f (rI0 λi j=>.int (g i j)):=by
 intro pins s σ H x y v u Q I rx ry h;obtain⟨i,j,rfl,rfl,q⟩:=h;obtain⟨t,rfl⟩:=rx;obtain⟨t',rfl⟩:=ry;exact rule i j t t' s _ _ ⟨.int (g i j),H,I.tok _,⟨_,rfl⟩,q⟩
theorem opB0{g:Int->Int->Bool}(rule:∀(i j:Int) (t u:Tok) (s:Shared) (Q:VS) (E:VS),Q (.bool (g i j)) s->wpAny (model X.prog X.w) X.A (f (.int i t) (.int j u)) Q E s):
  OpR X f (rI0 λi j=>.bl (g i j)):=by
 intro pins s σ H x y v u Q I rx ry h;obtain⟨i,j,rfl,rfl,q⟩:=h;obtain⟨t,rfl⟩:=rx;obtain⟨t',rfl⟩:=ry;exact rule i j t t' s _ _ ⟨.bl (g i j),H,I,rfl,q⟩
def CDiv(i j:Int):Prop:=0<j/\j<1073741824
def CPow(i j:Int):Prop:=0<=j/\j<=1000000/\i.natAbs<2^64
def CMul(i j:Int):Prop:=(-(2^64)<i/\i<2^64)\/(-(2^64)<j/\j<2^64)
theorem CMul.ok{i j:Int}(h:CMul i j):IntMulOk i j:=by
 rcases h with⟨h1,h2⟩|⟨h1,h2⟩
 ·exact .of_left (intBits_le_64 h1 h2)
 ·exact .of_right (intBits_le_64 h1 h2)
theorem zqY:OpR X (binaryOp .Add) (rI0 λi j=>.int (i+j)):=opI0 λ_ _ _ _ _ _ _ q=>add_int q
theorem zqP:OpR X (binaryOp .Sub) (rI0 λi j=>.int (i - j)):=opI0 λ_ _ _ _ _ _ _ q=>sub_int q
theorem zpc:OpR X (binaryOp .FloorDiv) (rI CDiv λi j=>.int (i/j)):=opI λi j _ _ _ _ _ hc q=>by have h1:(0:Int)<j:=hc.1;have h2:j<1073741824:=hc.2;exact floordiv_int (by omega) (by rw[Int.fdiv_eq_ediv_of_nonneg i (by omega)];exact q) (.inl (PyProof.noPylong_small (by omega)))
theorem zqS:OpR X (binaryOp .Mod) (rI (λ_ j=>0<j) λi j=>.int (i%j)):=opI λi j _ _ _ _ _ hc q=>by have h1:(0:Int)<j:=hc;exact mod_int' (by omega) (by rw[Int.fmod_eq_emod_of_nonneg i (by omega)];exact q)
theorem zqQ:OpR X (binaryOp .Pow) (rI CPow λi j=>.int (i^j.toNat)):=opI λ_ _ _ _ _ _ _ hc q=>pow_int_small hc.1 hc.2.1 hc.2.2 q
theorem unI{f:Value->Sem Value}{g:Int->Int}(rule:∀(i:Int) (t:Tok) (s:Shared) (Q:VS) (E:VS),Q (.int (g i) s.toks) {s with toks:=s.toks+1}->wpAny (model X.prog X.w) X.A (f (.int i t)) Q E s):
  UnR X f (rU λi=>.int (g i)):=by
 intro pins s σ H x v Q I rx h;obtain⟨i,rfl,q⟩:=h;obtain⟨t,rfl⟩:=rx;exact rule i t s _ _ ⟨.int (g i),H,I.tok _,⟨_,rfl⟩,q⟩
theorem zpW:UnR X (unaryOp .USub) (rU λi=>.int (-i)):=unI λ_ _ _ _ _ q=>neg_int q
end
variable{op:CmpOp}
section
variable{X:Cx}{a b c:Expr}{ta tb tc:TE}{pos:Pos}
theorem zog{Q:VK}{k k':Bool}(I:Inv X pins σ H s)(q:Q (.bl k) H)(e:k=k'):EP X pins σ Q (.bool k') s:=by subst e;exact⟨.bl k,H,I,rfl,q⟩
theorem zsu:OpR X (compareOp .Lt) (rI0 λi j=>.bl (decide (i<j))):=opB0 λ_ _ _ _ _ _ _ q=>lt_int q
theorem zsv:OpR X (compareOp .Gt) (rI0 λi j=>.bl (decide (j<i))):=opB0 λ_ _ _ _ _ _ _ q=>gt_int q
theorem zsw:OpR X (compareOp .GtE) (rI0 λi j=>.bl (decide (j<=i))):=opB0 λ_ _ _ _ _ _ _ q=>ge_int q
theorem zqT:OpR X (compareOp .Is) (λx y H Q=>y=.non/\Q (.bl (decide (x=.non))) H):=by
 intro pins s σ H x y v u Q I rx ry h;obtain⟨rfl,q⟩:=h;cases ry
 refine is_none_gen (zog I q ?_);cases x<;>first
  |(cases rx;rfl)
  |(obtain⟨t,rfl⟩:=rx;rfl)
theorem zpa:OpR X (compareOp .IsNot) (λx y H Q=>y=.non/\Q (.bl (!decide (x=.non))) H):=by
 intro pins s σ H x y v u Q I rx ry h;obtain⟨rfl,q⟩:=h;cases ry
 refine isnot_none_gen (zog I q ?_);cases x<;>first
  |(cases rx;rfl)
  |(obtain⟨t,rfl⟩:=rx;rfl)
theorem OpR.or{r':R2}(h:OpR X f r)(h':OpR X f r'):OpR X f (λx y H Q=>r x y H Q\/r' x y H Q):=by
 intro pins s σ H x y v u Q I rx ry q;rcases q with q|q
 ·exact h pins s σ H x y v u Q I rx ry q
 ·exact h' pins s σ H x y v u Q I rx ry q
theorem ziP(b:Expr)(h:op≠.In:=by decide)(h2:op≠.NotIn:=by decide):behindInMarks op b=false:=by
 have e1:(op==CmpOp.In)=false:=by cases op<;>first|rfl|exact absurd rfl h
 have e2:(op==CmpOp.NotIn)=false:=by cases op<;>first|rfl|exact absurd rfl h2
 cases b<;>simp[behindInMarks,e1,e2]
theorem zhT(ho:OpR X (compareOp op) r)(ha:PE X a ta)(hb:PE X b tb)(hm:behindInMarks op b=false):PE X (.Compare a [op] [b] pos) (tOp r ta tb):=by intro pins s σ H Q I h;exact wpAny_Compare1 (binT ha hb I h λv u s2 x y H2 I2 rx ry q=>ho pins s2 σ H2 x y v u Q I2 rx ry q) hm
def zrZ(t:TE):TT:=λσ H Q=>t σ H λx H'=>∃k,x=.bl k/\Q k H'
theorem zhO(ho:OpR X (compareOp op) r)(ha:PE X a ta)(hb:PE X b tb)(hm:behindInMarks op b=false):PT X (.Compare a [op] [b] pos) (zrZ (tOp r ta tb)):=by
 intro pins s σ H Q I h;refine wpAny_isTrue_Compare1 (thn (ha pins s σ H _ I h) λv s1 ⟨x,H1,I1,r1,q1⟩=>thn (hb pins s1 σ H1 _ I1 q1) λu s2 ⟨y,H2,I2,r2,q2⟩=>
  thn (ho pins s2 σ H2 x y v u _ I2 r1 r2 q2) λc s3 ⟨z,H3,I3,r3,k,e,q3⟩=>?_) hm
 subst e;cases r3
 exact QM ⟨H3,I3,q3⟩
def TruV(K:Fg)(x:V)(H:Hp)(k:Bool):Prop:=
 match x with
 | .non=>k=false
 | .bl b=>k=b
 | .int i=>k=(i !=0)
 | .str y=>y.length<=sizeLine/\k=((y.length:Int)!=0)
 | .byt y=>y.size<=sizeLine/\k=((y.size:Int)!=0)
 | .ref p=>(∃xs,SqL K H p xs/\k=!xs.isEmpty)\/(∃xs,SqT K H p xs/\k=!xs.isEmpty)\/∃kvs,H p=some (.dK kvs)/\k=!kvs.isEmpty
 |_=>False
theorem zjO{kvs:List (κ×V)}{vs:List (κ×Value)}(r:KV kvs vs):(!vs.isEmpty)=!kvs.isEmpty:=by cases r<;>rfl
theorem zfh{its:List Value}(r:zS xs its):(!its.toArray.isEmpty)=!xs.isEmpty:=by cases r<;>simp
theorem zfe:(sizeLine:Nat)<2^63:=by rw[Wd];decide
theorem zpZ:TruR X (λx H Q=>∃k,TruV X.K x H k/\Q k H):=by
 intro pins s σ H x v Q I rx h;obtain⟨k,e,q⟩:=h;have hl:=zfe;have hs:sizeLine=16777216:=Wd;cases x with
 |non=>
  cases rx
  have e':k=false:=e;subst e';exact truthy_none ⟨H,I,q⟩
 |bl b=>
  cases rx
  have e':k=b:=e;subst e';exact QM ⟨H,I,q⟩
 |int i=>
  obtain⟨t,rfl⟩:=rx;have e':k=(i !=0):=e;subst e';exact PySem.P.truthy_int ⟨H,I,q⟩
 |str y=>
  obtain⟨t,rfl⟩:=rx;obtain⟨hy,e'⟩:y.length<=sizeLine/\k=((y.length:Int)!=0):=e;subst e';exact PySem.P.truthy_str (by omega) ⟨H,I.tok _,q⟩
 |byt y=>
  obtain⟨t,rfl⟩:=rx;obtain⟨hy,e'⟩:y.size<=sizeLine/\k=((y.size:Int)!=0):=e;subst e';exact PySem.W.truthy_bytes (by omega) ⟨H,I.tok _,q⟩
 |ref p=>
  cases rx
  have e':(∃xs,SqL X.K H p xs/\k=!xs.isEmpty)\/(∃xs,SqT X.K H p xs/\k=!xs.isEmpty)\/∃kvs,H p=some (.dK kvs)/\k=!kvs.isEmpty:=e;rcases e' with⟨xs,hx,e'⟩|⟨xs,hx,e'⟩|⟨kvs,hx,e'⟩
  ·subst e';obtain⟨its,r,pl,hz⟩:=I.list hx;have hlen:=r.length;exact wpAny_truthy_list pl.isList (by simp only[List.size_toArray];omega) ⟨H,I.tok _,by rw[zfh r];exact q⟩
  ·subst e';obtain⟨its,r,pl,hz⟩:=I.tuple hx;have hlen:=r.length;exact truthy_tuple pl (by simp only[List.size_toArray];omega) ⟨H,I.tok _,by rw[zfh r];exact q⟩
  ·subst e';obtain⟨hz,hS,vs,r,m⟩:kvs.length<=sizeLine/\(p==sysModules)=false/\∃vs,KV kvs vs/\s.heap.DictOf (yE X.prog X.w) p vs:=I.hok p _ hx;have hlen:kvs.length=vs.length:=Paired.length r;exact wpAny_truthy_dict hS m (by omega) ⟨H,I.tok _,by rw[zjO r];exact q⟩
 |_=>exact(show False from e).elim
theorem zmB(ha:PE X a ta)(he:∀whole,isTrue a X.env whole=(do let v ←whole;standAt a.pos;holding [v] (truthy v))):
  PT X a (λσ H Q=>ta σ H λx H'=>∃k,TruV X.K x H' k/\Q k H'):=by
 intro pins s σ H Q I h;exact isTrue_plain (thn (ha pins s σ H _ I h) λv s1 ⟨x,H1,I1,r1,q1⟩=>zpZ pins s1 σ H1 x v Q I1 r1 q1) (he _)
theorem zjD:OpR X (binaryOp .Add) (λx y H Q=>∃i j,x=.str i/\y=.str j/\i.length+j.length<=sizeLine/\Q (.str (i++j)) H):=by intro pins s σ H x y v u Q I rx ry h;obtain⟨i,j,rfl,rfl,hz,q⟩:=h;obtain⟨t,rfl⟩:=rx;obtain⟨t',rfl⟩:=ry;exact add_str (λt' tk=>⟨.str (i++j),H,I.tok _,⟨_,rfl⟩,q⟩) hz
theorem gF{x:V}(r:zS [x] us):∃u,us=[u]/\zT x u:=by
 cases r with
 |cons r1 r2=>cases r2;exact⟨_,rfl,r1⟩
theorem zos{x y:V}(r:zS [x,y] us):∃u w',us=[u,w']/\zT x u/\zT y w':=by
 cases r with
 |cons r1 r2=>
  cases r2 with
  |cons r3 r4=>cases r4;exact⟨_,_,rfl,r1,r3⟩
theorem zlW:wB X (.type "int") (λxs H Q=>(∃i,xs=[.int i]/\Q (.int i) H)\/∃k,xs=[.bl k]/\Q (.int (if k then 1 else 0)) H):=by
 intro pins s σ H xs us Q I r h;rcases h with⟨i,rfl,q⟩|⟨k,rfl,q⟩
 ·obtain⟨u,rfl,t,rfl⟩:=gF r;exact call_int_int ⟨.int i,H,I,⟨_,rfl⟩,q⟩
 ·obtain⟨u,rfl,r1⟩:=gF r;cases r1
  exact call_int_bool ⟨.int (if k then 1 else 0),H,I.tok _,⟨_,rfl⟩,q⟩
end
structure ObjM(h:Heap)(x dx C:Addr)(mA:SV):Prop where
 obj:h.get? x=some (PySem.W.instObj C dx)
 ns:h.Ns1 dx mA
 ne:dx≠x
variable{dx:Addr}{mA:SV}
theorem zle(n:h.Ns1 dx mA):∃od,h.get? dx=some od/\∀name,PySem.W.lookIn name od=some (mA name):=by
 obtain⟨o,es,ep,ho,hd,hk,_,hm⟩:=n;refine⟨o,ho,λname=>?_⟩;have e:=hm name;unfold nsFind findBy at e;rw[←Array.find?_toList]at e;unfold PySem.W.lookIn;rw[hd];dsimp only;split
 ·rename_i y q;rw[q]at e;exact JV some e
 ·rename_i q;rw[q]at e;have a:es.toList.any (·.refKey)=false:=by rw[List.any_eq_false];intro y hy;obtain⟨z,t,hkey⟩:=hk y (Array.mem_toList_iff.mp hy);simp[DictEntry.refKey,hkey]
  have a':¬es.toList.any (·.refKey)=true:=by rw[a];exact JR
  rw[if_neg a'];exact JV some e
variable{C:Addr}
theorem ObjM.look{x:Addr}(I:ObjM h x dx C mA):∃od,PySem.W.InstAt h x (PySem.W.instObj C dx) C (some od)/\∀name,PySem.W.lookIn name od=some (mA name):=
 let⟨od,ho,hl⟩:=zle I.ns
 ⟨od,⟨I.obj,rfl,rfl,ho⟩,hl⟩
section
variable{prog:Program}{w:World}{A:Around}{E:VS}{s:Shared}{K:Fg}{x dx C f:Addr}{mA:SV}{name:Str}{v:Value}
end
theorem gD.some_of{v:V}{o:Option Value}(r:gD (some v) o):∃u,o=some u/\zT v u:=by
 cases o with
 |none=>exact(show False from r).elim
 |some u=>exact⟨u,rfl,r⟩
section
variable{P:Program}{w:World}{H H':Hp}{h h':Heap}{a C dx:Addr}{fs fs':List (Str×V)}
theorem zpp(hok:HOk P w H h)(e:H a=some (.ins C dx fs)):∃mA,ObjM h a dx C mA/\(∀f,gD (fs.lookup f) (mA f))/\PySem.Within mA (fs.map (·.1))/\fs.length<=1000/\H dx=some (.own a):=by obtain⟨d,z,ne,ob,mA,n,r,q⟩:=(show jV P w H h a (.ins C dx fs)from hok a _ e);exact⟨mA,⟨ob,n,ne⟩,r,q,z,d⟩
end
structure Cls(K:Fg)(C:Addr):Prop where
 pg:PySem.W.plainGet K C Str.empty=true
 hd:PySem.W.hasDictIn K C=true
 po:PySem.W.plainOver K C=true
 sa:PySem.W.findIn K (.ref C) "__setattr__"=some (some (.builtin "object.__setattr__"))
theorem Cls.get(c:Cls K C)(f:Str):PySem.W.plainGet K C f=true:=c.pg
section
variable{X:Cx}{pins:AO}{σ:St}{H:Hp}{s:Shared}{a C dx:Addr}{fs:List (Str×V)}{f:Str}{v:V}{A:Around}{E:VS}
end
section
variable{X:Cx}{o e value:Expr}{f:Str}{pos pos' tpos:Pos}{ta tv:TE}
end
section
variable{X:Cx}{pins:AO}{σ:St}{H:Hp}{s:Shared}{A:Around}{E:VS}{Q:VS}{c:Value}{b:Bool}
inductive wS(K:Fg)(H:Hp):V->Value->Prop where
 |non:wS K H .non (.type "NoneType")
 |bl (x:Bool):wS K H (.bl x) (.type "bool")
 |int (i:Int):wS K H (.int i) (.type "int")
 |str (x:Str):wS K H (.str x) (.type "str")
 |flt (x:UInt64):wS K H (.flt x) (.type "float")
 |lst {a:Addr}{xs:List V} (e:H a=some (.lst xs)):wS K H (.ref a) (.type "list")
 |frz {a:Addr}{o:Obj} {xs:List V}(e:H a=some (.frz o (.lst xs))):wS K H (.ref a) (.type "list")
 |tup {a:Addr}{xs:List V} (e:H a=some (.tup xs)):wS K H (.ref a) (.type "tuple")
 |dK {a:Addr}{kvs:List (Key×V)} (e:Rd H a (.dK kvs)):wS K H (.ref a) (.type "dict")
 |dT {a:Addr}{kvs:List (List Key×V)} (e:Rd H a (.dT kvs)):wS K H (.ref a) (.type "dict")
 |ins {a C dx:Addr}{fs:List (Str×V)} (e:H a=some (.ins C dx fs)) (cl:Cls K C) (ha:PySem.W.findIn K (.ref C) "__class__"=some (some (.builtin "object.__class__")))
   (hn:PySem.W.specialIn K (.builtin "object.__class__") "__get__"=some (some (.builtin "getset_descriptor.__get__"))) (htk:PySem.W.takesIn K (.builtin "object.__class__")=some true)
   (hm:PySem.W.mroIn K C (.type "object")=some true):wS K H (.ref a) (.ref C)
theorem zlj{x:V}{t:Value}(I:Inv X pins σ H s)(rx:zT x u)(ty:wS X.K H x t)(e:PySem.W.kitOne X.K t c=some b)(h:∀tk,Q (.bool b) {s with toks:=tk}):
  wpAny (model X.prog X.w) A (call (.builtin "isinstance") [u,c]) Q E s:=by
 cases ty with
 |non=>cases(show u=Value.none from rx);exact Qb PySem.W.kitx_none I.kIn True.intro e (λz=>nomatch z) h
 |bl y=>cases(show u=Value.bool y from rx);exact Qb PySem.W.kitx_bool I.kIn True.intro e (λz=>nomatch z) h
 |int i=>obtain⟨t,q⟩:=(show∃t,u=Value.int i t from rx);cases q;exact Qb PySem.W.kitx_int I.kIn True.intro e (λz=>nomatch z) h
 |str y=>obtain⟨t,q⟩:=(show∃t,u=Value.str y t from rx);cases q;exact Qb PySem.W.kitx_str I.kIn True.intro e (λz=>nomatch z) h
 |flt y=>obtain⟨t,q⟩:=(show∃t,u=Value.float y t from rx);cases q;exact Qb PySem.W.kitx_float I.kIn True.intro e (λz=>nomatch z) h
 |@lst a xs ea=>
  cases(show u=Value.ref a from rx)
  obtain⟨_,_,n,_,h1⟩:=(show jV X.prog X.w H s.heap a (.lst xs)from I.hok a _ ea);exact Qb PySem.W.kitx_list I.kIn ⟨_,h1,rfl⟩ e (λz=>nomatch z) h
 |@frz a ob xs ea=>
  cases(show u=Value.ref a from rx)
  obtain⟨_,_,_,n,_,h1⟩:=(show jV X.prog X.w H s.heap a (.frz ob (.lst xs))from I.hok a _ ea);exact Qb PySem.W.kitx_list I.kIn ⟨_,h1,rfl⟩ e (λz=>nomatch z) h
 |@tup a xs ea=>
  cases(show u=Value.ref a from rx)
  obtain⟨_,_,_,p⟩:=(show jV X.prog X.w H s.heap a (.tup xs)from I.hok a _ ea);obtain⟨o,h1,h2,_⟩:=p;exact Qb PySem.W.kitx_tuple I.kIn ⟨o,h1,h2⟩ e (λz=>nomatch z) h
 |@dK a kvs ea=>
  cases(show u=Value.ref a from rx)
  obtain⟨_,_,vs,_,p⟩:=(show jV X.prog X.w H s.heap a (.dK kvs)from ea.ok I.hok);obtain⟨o,es,ep,h1,h2,_⟩:=p;exact Qb PySem.W.kitx_dict I.kIn ⟨o,h1,h2.1⟩ e (λz=>nomatch z) h
 |@dT a kvs ea=>
  cases(show u=Value.ref a from rx)
  obtain⟨_,_,xs,_,o,es,ep,h1,h2,_⟩:=(show jV X.prog X.w H s.heap a (.dT kvs)from ea.ok I.hok);exact Qb PySem.W.kitx_dict I.kIn ⟨o,h1,h2.1⟩ e (λz=>nomatch z) h
 |@ins a C dx fs ea cl ha hn htk hm=>
  cases(show u=Value.ref a from rx)
  obtain⟨mA,O,_⟩:=zpp I.hok ea;obtain⟨od,J,_⟩:=O.look;exact Qb (PySem.W.kitx_own (cl.get _) cl.hd ha hn htk hm) I.kIn J e (λz=>nomatch z) h
end
structure jI(k:Nat)(A:Around):Prop where
 hd:A.handled=none
 dp:A.depth+3*k+5<recursionLimit
 un:A.units+16*k+200<cLine
 gd:A.guards=some []
theorem jI.mono{k:Nat}(r:jI k A)(h:j<=k):jI j A:=⟨r.hd,by have:=r.dp;omega,by have:=r.un;omega,r.gd⟩
theorem jI.deeper{k:Nat}(r:jI (k+1) A)(env:Env):jI k (A.deeper env):=
 ⟨r.hd,by have:=r.dp;show A.depth+1+3*k+5<_;omega,by have:=r.un;show A.units+3+16*k+200<_;omega,r.gd⟩
theorem jI.in1{k:Nat}{A:Around}(r:jI (k+1) A):jI k A.in1:=
 ⟨r.hd,by have:=r.dp;show A.depth+3*k+5<_;omega,by have:=r.un;show A.units+1+16*k+200<_;omega,r.gd⟩
theorem jI.depth{k:Nat}(r:jI k A):A.depth<recursionLimit:=by have:=r.dp;omega
def tNil:TA:=λ_ H Q=>Q [] H
def zsg(ta:TE)(tr:TA):TA:=λσ H Q=>ta σ H λx H1=>tr σ H1 λxs H2=>Q (x::xs) H2
section
variable{X:Cx}{e:Expr}{es:List Expr}{te:TE}{t:TA}{pos:Pos}
theorem wO:PA X [] tNil:=λ_ _ _ _ H Q I h=>Calls.spliced_nil ⟨[],H,I,.nil,h⟩
theorem yW(ha:PE X e te)(hr:PA X es t)(hs:starEach (e::es) X.env=(false,eval e X.env)::starEach es X.env:=by rfl):PA X (e::es) (zsg te t):=by intro pos pins s σ H Q I h;rw[hs];show wpAny _ _ (spliced ((false,eval e X.env)::backTo pos (starEach es X.env))) _ _ s;refine QK (thn (ha pins s σ H _ I h) λu s1 ⟨x,H1,I1,r1,q1⟩=>?_);exact thn (hr pos pins s1 σ H1 _ I1 q1) λus s2 ⟨xs,H2,I2,r2,q2⟩=>⟨x::xs,H2,I2,.cons r1 r2,q2⟩
def tTup(t:TA):TE:=λσ H Q=>t σ H λxs H1=>xs.length<=sizeLine/\∀p,H1 p=none->Q (.ref p) (upd H1 p (.tup xs))
def tLst(t:TA):TE:=λσ H Q=>t σ H λxs H1=>xs.length<=sizeLine/\∀p,H1 p=none->Q (.ref p) (upd H1 p (.lst xs))
theorem zqE{x1}(h:PA X es t):PE X (.Tuple es x1 pos) (tTup t):=by intro pins s σ H Q I hq;refine wpAny_Tuple_spliced (thn (h pos pins s σ H _ I hq) λus s1 ⟨xs,H1,I1,r,z,q⟩=>⟨by rw[←r.length];exact z,?_⟩);have hf:H1 s1.heap.objs.size=none:=I1.hok.fresh (Jd _);refine⟨.ref s1.heap.objs.size,upd H1 s1.heap.objs.size (.tup xs),I1.laid (t':=s1.toks) (λb u e=>Heap.get?_push_of_some _ e) (Jd _) ?_,rfl,q _ hf⟩;exact⟨z,us,r,⟨_,Heap.get?_push_size _ rfl,rfl,_,rfl⟩⟩
theorem zqL(h:PA X es t):PE X (.List es pos) (tLst t):=by intro pins s σ H Q I hq;refine wpAny_List_spliced (thn (h pos pins s σ H _ I hq) λus s1 ⟨xs,H1,I1,r,z,q⟩=>⟨by rw[←r.length];exact z,?_⟩);have hf:H1 s1.heap.objs.size=none:=I1.hok.fresh (Jd _);refine⟨.ref s1.heap.objs.size,upd H1 s1.heap.objs.size (.lst xs),I1.laid (t':=s1.toks) (λb u e=>Heap.get?_push_of_some _ e) (Jd _) ?_,rfl,q _ hf⟩;exact⟨z,us,0,r,Heap.get?_push_size _ rfl⟩
end
abbrev Sp:=List V->Hp->VK->XK->Prop
abbrev CXT:=List Env->Hp->Shared->XK->VS
structure Env0(P:Program)(w:World)(K:Fg)(mg:SV)(base:Heap)(A:Around)(outer:List Env)(s:Shared)(H:Hp):Prop where
 frames:A.frames=some outer
 mod:Mod K mg base
 bs:∀b o,base.get? b=some o->s.heap.get? b=some o/\H b=none
 bsz:base.objs.size<=s.heap.objs.size
 funs:s.heap.FunFrames base outer
 frf:∀b∈frs outer,H b=none
 hok:HOk P w H s.heap
 bare:AllBare s.gens
def CE(outer:List Env)(P:Program)(w:World)(H:Hp)(s:Shared)(Q:VK)(u:Value)(s':Shared):Prop:=
 ∃v H',s'.os=s.os/\AllBare s'.gens/\Un (frs outer) [] H H' s.heap s'.heap/\HOk P w H' s'.heap/\zT v u/\Q v H'
def CR(CX:CXT)(outer:List Env)(P:Program)(w:World)(H:Hp)(s:Shared)(Q:VK)(E:XK)(r:Result)(s':Shared):Prop:=
 match r with
 | .ok (.ret u)=>CE outer P w H s Q u s'
 | .ok _=>False
 | .error e=>CX outer H s E e s'
structure xU(P:Program)(w:World)(K:Fg)(mg:SV)(base:Heap)(CX:CXT)(k:Nat)(f:Addr)(fd:FuncData)(ps:List Str)(sp:Sp):Prop where
 len:∀vs H Q E,sp vs H Q E->vs.length=ps.length
 run:∀(A:Around) (outer:List Env) (s:Shared) (H:Hp) (args:Args) (us:List Value) (vs:List V) (Q:VK) (E:XK),jI k A->Env0 P w K mg base A outer s H->BindsTo s fd args (ps.zip us)->zS vs us->sp vs H Q E->
  codeAny (model P w) A (.call (.ref f) args) (CR CX outer P w H s Q E) s
variable{mg:SV}{base:Heap}{CX:CXT}{fd:FuncData}{ps:List Str}{sp:Sp}
theorem xU.mono{k:Nat}{f:Addr}(F:xU P w K mg base CX j f fd ps sp)(h:j<=k):
  xU P w K mg base CX k f fd ps sp:=⟨F.len,λA outer s H args us vs Q E hr=>F.run A outer s H args us vs Q E (hr.mono h)⟩
section
variable{X:Cx}{pins:AO}{σ:St}{H:Hp}{s s':Shared}
theorem Inv.env0(I:Inv X pins σ H s):Env0 X.prog X.w X.K X.mg X.base X.A X.stack s H:=
 ⟨I.ok.frames,I.ok.mod,I.bs,Jt I.ok.bsz I.sz,I.stack,I.stkFree,I.hok,I.bare⟩
theorem Inv.after{Q:VK}(I:Inv X pins σ H s)(h:CE X.stack X.prog X.w H s Q u s'):EP X pins σ Q u s':=by obtain⟨v,H',os,bare,un,hok,r,q⟩:=h;obtain⟨hh,g,d,t,os'⟩:=s';obtain rfl:os'=s.os:=os;exact⟨v,H',I.call (h':=hh) (g':=g) (d':=d) (t':=t) (ch:=[]) un hok bare (λb z=>absurd z (by simp)),r,q⟩
end
def zmp(sp:Sp)(dvs:List V)(E:XK)(t:TA):TE:=λσ H Q=>t σ H λvs H1=>sp (vs++dvs) H1 Q E
def gW(K:Fg)(fd:FuncData)(ps:List Str)(ds:List Value):Prop:=
 ∀(s:Shared) (us:List Value),K.In s.heap->(us++ds).length=ps.length->BindsTo s fd ⟨us,[]⟩ (ps.zip (us++ds))
theorem gW.all(h:∀us:List Value,us.length=ps.length->bindArgs fd ⟨us,[]⟩=pure (ps.zip us)):gW K fd ps []:=λs us _ hl=>by rw[JB]at hl ⊢;exact .of_eq (h us hl)
def zmh(CX:CXT)(X:Cx)(E:XK):Prop:=∀(pins:AO) (σ:St) (H:Hp) (s:Shared) (e:Value) (s':Shared),Inv X pins σ H s->CX X.stack H s E e s'->X.xe e s'
section
variable{X:Cx}{CX:CXT}{k:Nat}{f C:Addr}{fd:FuncData}{ps:List Str}{sp:Sp}{dvs:List V}{ds:List Value}{E:XK}{x m:Str}{p pos apos:Pos}{e o:Expr}{es:List Expr}{ta:TE}{t:TA}
theorem zqp{Q:VK}{vs:List V}(F:xU X.prog X.w X.K X.mg X.base CX k f fd ps sp)(hr:jI k X.A)(hb:gW X.K fd ps ds)(hd:zS dvs ds)(hx:zmh CX X E)(I:Inv X pins σ H s)(r:zS vs us)(h:sp (vs++dvs) H Q E):wpAny (model X.prog X.w) X.A (call (.ref f) us) (EP X pins σ Q) X.xe s:=by
 have r2:zS (vs++dvs) (us++ds):=r.append hd;have hl:(us++ds).length=ps.length:=by rw[←r2.length];exact F.len _ _ _ _ h
 refine wpAny_call (codeAny_mono (F.run X.A X.stack s H ⟨us,[]⟩ (us++ds) (vs++dvs) Q E hr I.env0 (hb s us I.kIn hl) r2 h) λr s' hq=>?_);cases r with
 |error e=>exact hx pins σ H s e s' I hq
 |ok fl=>
  cases fl with
  |ret u=>exact I.after hq
  |next=>exact False.elim hq
  |brk=>exact False.elim hq
  |cont=>exact False.elim hq
theorem zhU(F:xU X.prog X.w X.K X.mg X.base CX k f fd ps sp)(hr:jI k X.A)(hg:Gl X x)(hm:X.mg x=some (.ref f))(hk:PySem.W.keepIn X.K (.ref f)=true)(hb:gW X.K fd ps ds)(hd:zS dvs ds)(hx:zmh CX X E)(ha:PA X (e::es) t)(hdb:(x==("__debug__":Str))=false:=by decide)(he:starEach (e::es) X.env=(false,eval e X.env)::starEach es X.env:=by rfl)(hpl:(backTo pos (starEach es X.env)).any (·.1)=false:=by rfl):
  PE X (.Call (.Name x p) (e::es) [] pos) (zmp sp dvs E t):=by
 intro pins s σ H Q I h;refine QZ (zlg I hg hm ?_ hdb);refine PySem.W.callWith_K (h₀:=X.base) I.ok.mod.kin hk (thn (ha pos pins s σ H _ I h) λus s1 ⟨vs,H1,I1,r,q⟩=>⟨I1.kIn,?_⟩) he hpl;exact zqp F hr hb hd hx I1 r q
end
section
variable{X:Cx}{CX:CXT}{k:Nat}{f C:Addr}{fd:FuncData}{ps ks:List Str}{sp:Sp}{E:XK}{x m:Str}{p pos apos kpos:Pos}{e o:Expr}{es:List Expr}{kws:List Keyword}{te ta:TE}{t tk:TA}{nm:Option Str}
variable{g:List Value->List Value->List Value}{gV:List V->List V->List V}
end
structure zbb(N P:List Str)(sc:Scope):Prop where
 kind:sc.kind=.function
 co:sc.isCoroutine=false
 gen:sc.isGenerator=false
 nd:N.Nodup
 pre:N.take P.length=P
 par:∀x∈P,sc.names.lookup x=some .local\/sc.names.lookup x=some .cell
 nofree:∀y∈sc.names,y.2≠.free
variable{kindOf:Str->Option NameKind}
theorem zhA:∀{binds:List (Str×Value)}{m:SV},(∀v,(x,v)∉binds)->bindL kindOf binds m x=m x
 |[],_,_=>rfl
 |(n,v)::r,m,h=>by
  unfold bindL;rw[zhA λw hw=>h w (Je _ hw)];split
  ·have:x≠n:=by rintro rfl;exact h v JK
   simp[this]
  ·rfl
theorem zhC:∀{binds:List (Str×Value)}{m:SV},(∀v,(x,v)∉binds)->bindC kindOf binds m x=m x
 |[],_,_=>rfl
 |(n,v)::r,m,h=>by
  unfold bindC;rw[zhC λw hw=>h w (Je _ hw)];split
  ·rfl
  ·have:x≠n:=by rintro rfl;exact h v JK
   simp[this]
theorem zhB{v:Value}:∀{P:List Str}{vs:List Value} {i:Nat}{m:SV},P.Nodup->P[i]?=some x->vs[i]?=some v->kindOf x=some .local->
  bindL kindOf (P.zip vs) m x=some v
 |[],_,_,_,_,h,_,_=>by simp at h
 |_::_,[],_,_,_,_,h,_=>by simp at h
 |p::P,w::vs,0,m,nd,h1,h2,hk=>by simp at h1 h2;subst h1;subst h2;show bindL kindOf ((p,w)::P.zip vs) m p=_;unfold bindL;rw[zhA λv hv=>(QU.mp nd).1 (QB hv).1,if_pos hk];simp
 |p::P,w::vs,i+1,m,nd,h1,h2,hk=>by show bindL kindOf ((p,w)::P.zip vs) m x=_;unfold bindL;exact zhB (i:=i) (QU.mp nd).2 (by simpa using h1) (by simpa using h2) hk
theorem zhD{v:Value}:∀{P:List Str}{vs:List Value} {i:Nat}{m:SV},P.Nodup->P[i]?=some x->vs[i]?=some v->kindOf x≠some .local->
  bindC kindOf (P.zip vs) m x=some v
 |[],_,_,_,_,h,_,_=>by simp at h
 |_::_,[],_,_,_,_,h,_=>by simp at h
 |p::P,w::vs,0,m,nd,h1,h2,hk=>by simp at h1 h2;subst h1;subst h2;show bindC kindOf ((p,w)::P.zip vs) m p=_;unfold bindC;rw[zhC λv hv=>(QU.mp nd).1 (QB hv).1,if_neg hk];simp
 |p::P,w::vs,i+1,m,nd,h1,h2,hk=>by show bindC kindOf ((p,w)::P.zip vs) m x=_;unfold bindC;exact zhD (i:=i) (QU.mp nd).2 (by simpa using h1) (by simpa using h2) hk
def start(N:List Str)(vs:List V):St:=vs.map some++List.replicate (N.length - vs.length) none
noncomputable def gS(CX:CXT)(P:Program)(w:World)(K:Fg)(mg:SV)(base:Heap)(N:List Str)(qual:Str)(scope:Scope)(f:Addr)(cd:Value)(A:Around)(outer:List Env)(s:Shared)(H:Hp)(E:XK):Cx where
 prog:=P
 w:=w
 K:=K
 mg:=mg
 base:=base
 A:=A.deeper (envOfC qual scope s.heap.objs.size f cd)
 N:=N
 s₀:=s
 H₀:=H
 env:=envOfC qual scope s.heap.objs.size f cd
 outer:=outer
 stack:=envOfC qual scope s.heap.objs.size f cd::outer
 ex:=[]
 calm:=true
 fn:=λ_=>true
 pn:=[]
 xe:=λe s'=>wpAny (model P w) (A.deeper (envOfC qual scope s.heap.objs.size f cd)) (leaving (envOfC qual scope s.heap.objs.size f cd) e) (λ_ s''=>CX outer H s E e s'') (λe' s''=>CX outer H s E e' s'') s'
theorem zjm{sc:Scope}{n:Nat}(h:sc.names.lookup x=some .cell):∃c,(cellsFrom n sc.names []).lookup x=some c:=by have q:=PySem.W.cellsFrom_some sc.names n [] (.inl h);exact Option.isSome_iff_exists.mp q
variable{qual:Str}{scope:Scope}
theorem zlk{f:Addr}{cd:Value}{outer:List Env}{s1:Shared}{E:XK}{vs:List V}(S:zbb N ps scope)(hd:A.handled=none)(e0:Env0 P w K mg base A outer s H)(hl:vs.length=ps.length)(r:zS vs us)(x:InCallC s s.heap.objs.size (bindL (envOfC qual scope s.heap.objs.size f cd).kindOf (ps.zip us) λ_=>none) (cellsFrom (s.heap.objs.size+1) scope.names []) (bindC (envOfC qual scope s.heap.objs.size f cd).kindOf (ps.zip us) λ_=>none) s1):
  Inv (gS CX P w K mg base N qual scope f cd A outer s H E) [] (start N vs) H s1:=by
 have hpl:ps.length<=N.length:=by have:=JV List.length S.pre;rw[Jw]at this;omega
 obtain⟨h1,tk,rfl,hk⟩:=x.done;have noA:∀b:Addr,b∉(gS CX P w K mg base N qual scope f cd A outer s H E).ex:=λb z=>absurd (show b∈([]:List Addr)from z) (by simp)
 refine⟨⟨e0.mod,S.kind,rfl,rfl,Jd _,λy z c h1 h2=>?_,λy hy=>?_,λy c _ h=>?_,λ_=>hd,Around.frames_deeper e0.frames,.inr ⟨rfl,rfl⟩,λb z=>absurd z (noA b),e0.bs,e0.bsz,λb _ _=>noA b,λb z=>absurd z (noA b),e0.funs,e0.frf⟩,
  rfl,e0.bare,Un.kept hk,⟨_,x.toInCall.ns,λi y v h1 h2 h3=>?_⟩,λy c h=>⟨_,x.cell y c h⟩,e0.hok.fresh (Jd _),λy c h=>?_,λp hp=>absurd (show p∈([]:AO)from hp) (by simp),e0.hok.kept hk,?_⟩
 ·exact name_of_addr x.apart (Qr h1) (Qr h2)
 ·have hy:scope.names.lookup y=some .cell\/scope.names.lookup y=some .free:=hy;rcases hy with hy|hy
  ·exact zjm hy
  ·exact absurd rfl (S.nofree _ (Qr hy))
 ·exact Nat.le_of_lt (x.above y c (Qr h))
 ·have hi:i<vs.length:=by
   unfold start at h2;by_cases hi:i<vs.length
   ·exact hi
   ·rw[List.getElem?_append_right (by simpa using hi)]at h2;rw[List.getElem?_replicate]at h2;split at h2<;>cases h2
  have ha:vs[i]?=some v:=by
   unfold start at h2;rw[List.getElem?_append_left (by simpa using hi),List.getElem?_map]at h2;cases e:vs[i]? with
   |none=>rw[e]at h2;cases h2
   |some a=>rw[e]at h2;cases h2;rfl
  obtain⟨u,hu,rv⟩:=r.get ha;have hp:ps[i]?=some y:=by rw[←S.pre,List.getElem?_take_of_lt (by omega)];exact h1
  have ndP:ps.Nodup:=by rw[←S.pre];exact S.nd.sublist (List.take_sublist _ _)
  refine⟨u,rv,?_⟩;rcases S.par y (List.mem_of_getElem? hp)with k|k
  ·exact .inl ⟨k,zhB ndP hp hu k⟩
  ·obtain⟨c,e⟩:=zjm (n:=s.heap.objs.size+1) k;refine .inr ⟨.inl k,c,e,?_⟩;have q:=x.cell y c e;rw[zhD ndP hp hu (by show scope.names.lookup y≠_;rw[k];decide)]at q;exact q
 ·exact e0.hok.fresh (Nat.le_of_lt (x.above y c (Qr h)))
 ·unfold start;show _=N.length;rw[Jm,Ja,List.length_replicate];omega
theorem zsI{k:Nat}{f:Addr}{name:Str}{params:Arguments}{dV kV doc pm cdv ct oc:Value}{an od:Option Addr}{osl:Array (Option Value)}(lk:K.lookup f=some ⟨oc,od,.func (PySem.W.fnOf name qual params body scope dV kV doc pm an cdv ct),osl⟩)(hcd:PySem.W.codeIn K cdv qual=true)(S:zbb N ps scope)(len:∀vs H Q E,sp vs H Q E->vs.length=ps.length)(hbody:∀(A:Around) (outer:List Env) (s:Shared) (H:Hp) (vs:List V) (Q:VK) (E:XK),jI k (A.deeper (envOfC qual scope s.heap.objs.size f cdv))->sp vs H Q E->
   ∃t,PSs (gS CX P w K mg base N qual scope f cdv A outer s H E) body t/\t {nx:=λ_ H'=>Q .non H',rt:=Q} (start N vs) H):
  xU P w K mg base CX (k+1) f (PySem.W.fnOf name qual params body scope dV kV doc pm an cdv ct) ps sp:=by
 refine⟨len,λA outer s H args us vs Q E hr e0 hb r hsp=>?_⟩;have hl:=len _ _ _ _ hsp;have KX:K.In s.heap:=e0.mod.kin.keeps λb o e=>(e0.bs b o e).1
 have lim:s.heap.NoLimit:=e0.mod.nolimit.keeps λb o e=>(e0.bs b o e).1
 have hkind:∀y∈ps.zip us,scope.names.lookup y.1=some .local\/(scope.names.lookup y.1=some .cell/\((cellsFrom (s.heap.objs.size+1) scope.names []).lookup y.1).isSome=true):=λ⟨n,v⟩ hy=>by
  rcases S.par n (QB hy).1 with q|q
  ·exact .inl q
  ·exact .inr ⟨q,PySem.W.cellsFrom_some _ _ _ (.inl q)⟩
 refine codeAny_call_function hr.depth (KX _ _ lk) rfl S.co S.gen rfl (PySem.W.codeRec_of KX hcd) (hb _ _ _ _ ?_);refine wpAny_newFunctionEnv_cells S.kind hkind λenv he s1 x=>?_
 subst he;refine⟨lim.keeps x.toInCall.keep,codeAny_func ?_⟩;obtain⟨t,ht,hq⟩:=hbody A outer s H vs Q E (hr.deeper _) hsp;have I:Inv (gS CX P w K mg base N qual scope f cdv A outer s H E) [] (start N vs) H s1:=zlk S hr.hd e0 hl r x;refine JJ (ht [] s1 (start N vs) H _ I hq) (λfl s' hs=>?_) λe s' hs=>hs
 have fin:∀{σ':St}{H':Hp} {v:V}{u:Value},Inv (gS CX P w K mg base N qual scope f cdv A outer s H E) [] σ' H' s'->zT v u->Q v H'->CE outer P w H s Q u s':=
  λ{σ' H' v u} J rv q=>⟨v,H',J.os,J.bare,J.base,J.hok,rv,q⟩
 cases fl with
 |ret u=>
  obtain⟨v,σ',H',J,rv,q⟩:=hs;exact fin J rv q
 |next=>
  obtain⟨σ',H',J,q⟩:=hs;exact fin (v:=V.non) (u:=Value.none) J rfl q
 |brk=>
  obtain⟨_,_,_,q⟩:=hs;exact False.elim q
 |cont=>
  obtain⟨_,_,_,q⟩:=hs;exact False.elim q
section
variable{X:Cx}{x:Str}{p pos:Pos}{e:Expr}{es:List Expr}{t:TA}{id T:String}{r:List V->Hp->VK->Prop}
def tCB(r:List V->Hp->VK->Prop)(t:TA):TE:=λσ H Q=>t σ H λvs H1=>r vs H1 Q
theorem zfF(hc:wB X (.builtin id) r)(hg:Gl X x)(hm:X.mg x=none)(hv:bootBuiltins x=some (.builtin id))(ha:PA X (e::es) t)(hn:x≠"__name__":=by decide)(hdb:(x==("__debug__":Str))=false:=by decide)(he:starEach (e::es) X.env=(false,eval e X.env)::starEach es X.env:=by rfl)(hpl:(backTo pos (starEach es X.env)).any (·.1)=false:=by rfl):PE X (.Call (.Name x p) (e::es) [] pos) (tCB r t):=by intro pins s σ H Q I h;refine QZ (nK I hg hm hv ?_ hn hdb);exact PyProof.Rows.callWith_builtin1 (thn (ha pos pins s σ H _ I h) λus s1 ⟨vs,H1,I1,r1,q1⟩=>hc pins s1 σ H1 vs us Q I1 r1 q1) he hpl
theorem zkK(hc:wB X (.type T) r)(hg:Gl X x)(hm:X.mg x=none)(hv:bootBuiltins x=some (.type T))(ha:PA X (e::es) t)(hn:x≠"__name__":=by decide)(hdb:(x==("__debug__":Str))=false:=by decide)(he:starEach (e::es) X.env=(false,eval e X.env)::starEach es X.env:=by rfl)(hpl:(backTo pos (starEach es X.env)).any (·.1)=false:=by rfl):PE X (.Call (.Name x p) (e::es) [] pos) (tCB r t):=by intro pins s σ H Q I h;refine QZ (nK I hg hm hv ?_ hn hdb);exact JE (thn (ha pos pins s σ H _ I h) λus s1 ⟨vs,H1,I1,r1,q1⟩=>hc pins s1 σ H1 vs us Q I1 r1 q1) he hpl
end
end L2
namespace HT
def lexLt:List Int->List Int->Bool
 |[],[]=>false
 |[],_::_=>true
 |_::_,[]=>false
 |x::xs,y::ys=>if x=y then lexLt xs ys else decide (x<y)
theorem zjM(x y:Int)(xs ys:List Int):lexLt (x::xs) (y::ys)=if x=y then lexLt xs ys else decide (x<y):=rfl
theorem zfP:lexLt [] []=false:=rfl
theorem zeO(y:Int)(ys:List Int):lexLt [] (y::ys)=true:=rfl
theorem zeP(x:Int)(xs:List Int):lexLt (x::xs) []=false:=rfl
theorem znr(A:Around)(s:Shared)(a:Int)(t:Tok)(c:Int)(u:Tok):∃e,SeqAt.EqAt A s (.int a t) (.int c u) e/\(e=true↔a=c):=
 ⟨(a==c),SeqAt.EqAt.int_int a t c u,by simp⟩
section
open PySem.SeqAt
open PySem.AutoSeq1 (wpAny_loadPart')
open PySem.MeetsSeq PySem.MeetsSeq2 PySem.MeetsSeq3
end
variable{t sl:Addr}{Q:VS}{vl vu:Value}{lo hi:Option Int}
section
variable{prog:Program}{w:World}{A:Around}{E:VS}{s:Shared}
theorem cat_tup{b:Addr}{vs ws:List Value}(ht:IsTup s.heap t vs.toArray)(hb:IsTup s.heap b ws.toArray)(hv:vs≠[])(h1:ws=[]->Q (.ref t) s)(h2:ws≠[]->Q (.ref s.heap.objs.size) {s with heap:=s.heap.push {cls:=.type "tuple",data:=.seq (vs++ws).toArray}})(hsz:vs.length+ws.length<=sizeLine):wpAny (model prog w) A (binaryOp .Add (.ref t) (.ref b)) Q E s:=by
 obtain⟨⟨cls,dd,data,sl⟩,ho,hc,n,hd⟩:=id ht;obtain⟨⟨cls2,dd2,data2,sl2⟩,ho2,hc2,n2,hd2⟩:=id hb;simp only at hc hd hc2 hd2;subst hc hd hc2 hd2;have e:vs.toArray++ws.toArray=(vs++ws).toArray:=by simp
 by_cases hw:ws=[]
 ·exact concat_meets ⟨_,ho,rfl⟩ ⟨_,ho2,rfl⟩ noFill_tuple_add seq_tuple_add PySem.F.slot_tuple_add PySem.F.entry_tuple_add (PySem.F.args_tuple_add_2 _ _)
   (tuple_addW1 t b vs.toArray ws.toArray n n2 dd dd2 sl sl2 (by simpa using hv) (by simp[hw])) ⟨ho,ho2,h1 hw⟩
 ·refine concat_meets ⟨_,ho,rfl⟩ ⟨_,ho2,rfl⟩ noFill_tuple_add seq_tuple_add PySem.F.slot_tuple_add PySem.F.entry_tuple_add (PySem.F.args_tuple_add_2 _ _)
   (tuple_addW2 t b vs.toArray ws.toArray n n2 dd dd2 sl sl2 (by simpa using hv) (by simpa using hw) (by rw[Jb,Jb];exact hsz)) ⟨ho,ho2,?_⟩
  rw[e];exact h2 hw
noncomputable def sIx(n d:Nat):Option Int->Nat
 |none=>d
 |some v=>if v<0 then(v+(n:Int)).toNat else min v.toNat n
theorem sIx_none(n d:Nat):sIx n d none=d:=rfl
theorem sIx_nat(n d k:Nat):sIx n d (some (k:Int))=min k n:=by show(if(k:Int)<0 then((k:Int)+(n:Int)).toNat else min (k:Int).toNat n)=min k n;rw[if_neg (by omega),QN]
theorem zqo(n d:Nat)(hd:d<=n)(o:Option Int):sIx n d o<=n:=by
 cases o with
 |none=>exact hd
 |some v=>
  show(if v<0 then(v+(n:Int)).toNat else min v.toNat n)<=n;by_cases hv:v<0
  ·rw[if_pos hv];omega
  ·rw[if_neg hv];exact Nat.min_le_right _ _
theorem zlS(v:Int)(n d:Nat):(if v<0 then max (v+(n:Int)) 0 else min v (n:Int))=((sIx n d (some v):Nat):Int):=by
 show(if v<0 then max (v+(n:Int)) 0 else min v (n:Int))=(((if v<0 then(v+(n:Int)).toNat else min v.toNat n):Nat):Int);by_cases hv:v<0
 ·simp only[if_pos hv];omega
 ·simp only[if_neg hv];omega
theorem zjX(lo hi:Option Int)(n:Nat):Builtin.Slice.sliceAdjust lo hi 1 (n:Int)=(((sIx n 0 lo:Nat):Int),((sIx n n hi:Nat):Int)):=by
 have h1:¬((1:Int)<0):=by omega
 unfold Builtin.Slice.sliceAdjust;simp only[h1,if_false];refine Prod.ext ?_ ?_
 ·cases lo with
  |none=>rfl
  |some v=>exact zlS v n 0
 ·cases hi with
  |none=>rfl
  |some v=>exact zlS v n n
theorem zjz(i j:Nat):Builtin.Slice.slicePlaces (i:Int) (j:Int) 1=j - i:=by
 unfold Builtin.Slice.slicePlaces;have h1:(1:Int)>0:=by omega
 simp only[h1,if_true,Int.ediv_one]
 split<;>omega
theorem zeW{v:Value}{o:Option Int}{Q:Option Int->Shared->Prop}(p:IsPart v o)(h:Q o s):wpAny (model prog w) A (Builtin.Slice.slicePartIndex v) Q E s:=by
 cases p with
 |none=>exact slicePart_none h
 |int i t=>exact slicePart_int h
theorem zbE{n:Nat}{Q:Int×Int×Nat->Shared->Prop}(hs:s.heap.IsSliceOf sl vl vu .none)(pl:IsPart vl lo)(pu:IsPart vu hi)(h:Q (((sIx n 0 lo:Nat):Int),1,sIx n n hi - sIx n 0 lo) s):wpAny (model prog w) A (Builtin.Slice.sliceApplied (.ref sl) (pure (n:Int))) Q E s:=by obtain⟨os,hos,hcs,hds⟩:=id hs;unfold Builtin.Slice.sliceApplied Builtin.Slice.sliceFields;refine wpAny_bind (wpAny_bind (JW hos hds (x:=vl) rfl (wpAny_bind (JW hos hds (x:=vu) rfl (wpAny_bind (JW hos hds (x:=.none) rfl (Jc ?_)))))));refine wpAny_bind (slicePart_none ?_);show wpAny _ _ (if((1:Int)==0)=true then _ else _) _ _ s;rw[if_neg (by decide)];refine wpAny_bind (zeW pl (wpAny_bind (zeW pu (wpAny_bind (Jc ?_)))));show wpAny _ _ (match Builtin.Slice.sliceAdjust lo hi 1 (n:Int)with|(lo,hi)=>pure (lo,(1:Int),Builtin.Slice.slicePlaces lo hi 1)) _ _ s;rw[zjX lo hi n];show wpAny _ _ (pure (((sIx n 0 lo:Nat):Int),(1:Int),Builtin.Slice.slicePlaces ((sIx n 0 lo:Nat):Int) ((sIx n n hi:Nat):Int) 1)) _ _ s;rw[zjz];exact Jc h
theorem zmF(xs:Array Value)(i k:Nat):((List.range k).filterMap λ(m:Nat)=>xs[((i:Int)+(m:Int)*1).toNat]?).toArray=((xs.toList.drop i).take k).toArray:=by
 have e:(λ(m:Nat)=>xs[((i:Int)+(m:Int)*1).toNat]?)=λm=>xs[i+m]?:=by
  funext m
  have:((i:Int)+(m:Int)*1).toNat=i+m:=by omega
  rw[this]
 rw[e]
 have:=pick_run xs i k;rw[List.filterMap_map]at this;have e2:((λx=>xs[x]?)∘λx=>i+x)=λm=>xs[i+m]?:=rfl
 rw[e2]at this;rw[this]
theorem getItem_tuple_cut{items:Array Value}(ht:IsTup s.heap t items)(hs:s.heap.IsSliceOf sl vl vu .none)(pl:IsPart vl lo)(pu:IsPart vu hi)(hw:¬(sIx items.size 0 lo=0/\sIx items.size items.size hi=items.size))(h:Q (.ref s.heap.objs.size) {s with heap:=s.heap.push {cls:=.type "tuple",data:=.seq ((items.toList.drop (sIx items.size 0 lo)).take (sIx items.size items.size hi - sIx items.size 0 lo)).toArray}})(hsz:items.size<=sizeLine):wpAny (model prog w) A (getItem (.ref t) (.ref sl)) Q E s:=by
 have htake:sizeOk (.seq ((items.toList.drop (sIx items.size 0 lo)).take (sIx items.size items.size hi - sIx items.size 0 lo)).toArray):=by show((items.toList.drop (sIx items.size 0 lo)).take (sIx items.size items.size hi - sIx items.size 0 lo)).toArray.size<=sizeLine;rw[Jb,Jw,Qv,Array.length_toList];omega
 have hj:sIx items.size items.size hi<=items.size:=zqo _ _ (Jd _) hi;obtain⟨os,hos,hcs,hds⟩:=id hs;have hTs:s.TypeIs (.ref sl) "slice":=⟨os,hos,hcs⟩;unfold getItem
 try with_reducible refine JH ?_
 first|refine wpAny_bind (Jc ?_)|skip
 refine wpAny_bind (wpAny_sequenceKey ht.typeIs (by decide) ?_);refine wpAny_bind (wpAny_callSpecial?_slot (name:=Str.ofString "__getitem__") ht.typeIs QA
  (Qw QA ht.typeIs entry_tuple_getitem ?_ (args_tuple_getitem _ _)))
 show wpAny _ _ (Builtin.Tuple.tupleItemsOf (.ref t)>>=_) _ _ s;refine wpAny_bind (tupleItemsOf_ ht ?_);refine wpAny_bind (wpAny_typeOf hTs ?_);rw[if_pos (by decide)];refine wpAny_bind (zbE hs pl pu ?_);have hno:¬((((sIx items.size 0 lo:Nat):Int)==0&&(1:Int)==1&&(sIx items.size items.size hi - sIx items.size 0 lo)==items.size)=true):=by intro q;rw[Wi,Wi]at q;have q1:((sIx items.size 0 lo:Nat):Int)=0:=eq_of_beq q.1.1;have q2:sIx items.size items.size hi - sIx items.size 0 lo=items.size:=eq_of_beq q.2;exact hw ⟨by omega,by omega⟩
 show wpAny _ _ (if(((sIx items.size 0 lo:Nat):Int)==0&&(1:Int)==1&&(sIx items.size items.size hi - sIx items.size 0 lo)==items.size)=true then _ else _) _ _ s;rw[if_neg hno,zmF];first
  |exact wpAny_bind (m:=Builtin.Tuple.tupleExact _) (JY (Jc ⟨_,rfl,Jc h⟩) htake)
  |exact wpAny_bind (m:=Builtin.Tuple.tupleExact _) (JY (wpAny_bind (Jc (Jc ⟨_,rfl,Jc h⟩))) htake)
  |exact wpAny_bind (wpAny_bind (m:=Builtin.Tuple.tupleExact _) (JY (Jc (Jc ⟨_,rfl,Jc h⟩)) htake))
  |exact wpAny_bind (wpAny_bind (m:=Builtin.Tuple.tupleExact _) (JY (Jc ⟨_,rfl,Jc h⟩) htake))
end
end HT
namespace L2
abbrev TO:=St->Hp->(Option Int->Hp->Prop)->Prop
def PO(X:Cx)(e:Option Expr)(t:TO):Prop:=
 ∀(pins:AO) (s:Shared) (σ:St) (H:Hp) (Q:Option Int->Hp->Prop),Inv X pins σ H s->t σ H Q->
  wpAny (model X.prog X.w) X.A (evalPart e X.env) (λu s'=>∃o H',Inv X pins σ H' s'/\IsPart u o/\Q o H') X.xe s
def zov:TO:=λ_ H Q=>Q none H
def zsa(t:TE):TO:=λσ H Q=>t σ H λx H1=>∃i,x=.int i/\Q (some i) H1
theorem zcV{ns:List Int}:∀{us:List Value},zS (ns.map V.int) us->IntsAre us ns:=by
 induction ns with
 |nil=>intro us r;rw[Qs]at r;cases r;exact .nil
 |cons n ns ih=>
  intro us r;rw[Jg]at r;cases r with
  |cons r1 r2=>
   obtain⟨t,e⟩:=r1;subst e;exact .cons n t (ih r2)
variable{r:V->Option Int->Option Int->Hp->VK->Prop}{xs:List V}{us:List Value}
section
variable{X:Cx}{e:Expr}{te:TE}{lo hi:Option Expr}{tl th:TO}{pos p2:Pos}
theorem zoL:PO X none zov:=by intro pins s σ H Q I h;rw[evalPart_none];exact Jc ⟨none,H,I,.none,h⟩
theorem zoK(h:PE X e te):PO X (some e) (zsa te):=by
 intro pins s σ H Q I hw;rw[evalPart_some];refine thn (h pins s σ H _ I hw) λu s1 h_=>?_
 obtain⟨x,H1,I1,r1,q1⟩:=h_;obtain⟨i,rfl,q⟩:=q1;obtain⟨t,rfl⟩:=r1;exact⟨some i,H1,I1,.int i t,q⟩
def SlR(X:Cx)(r:V->Option Int->Option Int->Hp->VK->Prop):Prop:=
 ∀(pins:AO) (s:Shared) (σ:St) (H:Hp) (x:V) (v vl vu:Value) (lo hi:Option Int) (sl:Addr) (Q:VK),Inv X pins σ H s->zT x v->s.heap.IsSliceOf sl vl vu .none->IsPart vl lo->IsPart vu hi->r x lo hi H Q->
  ∃T id,typeLookup (.type T) "__getitem__"=pure (some (.builtin id))/\s.TypeIs v T/\wpAny (model X.prog X.w) X.A (getItem v (.ref sl)) (EP X pins σ Q) X.xe s
theorem SlR.or{r':V->Option Int->Option Int->Hp->VK->Prop}(h:SlR X r)(h':SlR X r'):SlR X (λx lo hi H Q=>r x lo hi H Q\/r' x lo hi H Q):=by
 intro pins s σ H x v vl vu lo hi sl Q I rx hs pl pu q;rcases q with q|q
 ·exact h pins s σ H x v vl vu lo hi sl Q I rx hs pl pu q
 ·exact h' pins s σ H x v vl vu lo hi sl Q I rx hs pl pu q
def tSl(r:V->Option Int->Option Int->Hp->VK->Prop)(te:TE)(tl th:TO):TE:=λσ H Q=>te σ H λx H1=>tl σ H1 λl H2=>th σ H2 λu H3=>r x l u H3 Q
theorem zmK(hr:SlR X r)(he:PE X e te)(hl:PO X lo tl)(hu:PO X hi th):PE X (.Subscript e (.Slice lo hi none p2) pos) (tSl r te tl th):=by
 intro pins s σ H Q I h;refine Subscript_ (thn (he pins s σ H _ I h) λv s1 ⟨x,H1,I1,r1,q1⟩=>?_);refine wpAny_Slice (thn (hl pins s1 σ H1 _ I1 q1) λvl s2 ⟨l,H2,I2,pl,q2⟩=>thn (hu pins s2 σ H2 _ I2 q2) λvu s3 ⟨u,H3,I3,pu,q3⟩=>?_);rw[evalPart_none];refine Jc ?_;have I4:Inv X pins σ H3 {s3 with heap:=s3.heap.push {cls:=.type "slice",data:=.fields #[vl,vu,.none]}}:=I3.kept (t':=s3.toks) λb ob q=>Heap.get?_push_of_some _ q
 obtain⟨T,id,hT,ht,hg⟩:=hr pins {s3 with heap:=s3.heap.push {cls:=.type "slice",data:=.fields #[vl,vu,.none]}} σ H3 x v vl vu l u s3.heap.objs.size Q I4 r1 (Heap.IsSliceOf.new ..) pl pu q3;show wpAny (model X.prog X.w) X.A (subscriptTail e (.Slice lo hi none p2) v (.ref s3.heap.objs.size)) (EP X pins σ Q) X.xe {s3 with heap:=s3.heap.push {cls:=.type "slice",data:=.fields #[vl,vu,.none]}};exact tail_any (ops:=[.ref s3.heap.objs.size,v]) ht hT hg (by with_unfolding_all rfl)
noncomputable def gT(xs:List V)(lo hi:Option Int):List V:=(xs.drop (HT.sIx xs.length 0 lo)).take (HT.sIx xs.length xs.length hi - HT.sIx xs.length 0 lo)
theorem zeA(xs:List V)(lo hi:Option Int):(gT xs lo hi).length<=xs.length:=by unfold gT;rw[Jw,Qv];omega
def rSlT(K:Fg):V->Option Int->Option Int->Hp->VK->Prop:=λx lo hi H Q=>∃a xs,x=.ref a/\SqT K H a xs/\
 ¬(HT.sIx xs.length 0 lo=0/\HT.sIx xs.length xs.length hi=xs.length)/\∀p,H p=none->Q (.ref p) (upd H p (.tup (gT xs lo hi)))
theorem zqj:SlR X (rSlT X.K):=by
 intro pins s σ H x v vl vu lo hi sl Q I rx hs pl pu h;obtain⟨a,xs,rfl,hx,hw,q⟩:=h;cases rx
 obtain⟨its,r,ht,hz⟩:=I.tuple hx;have hlen:its.toArray.size=xs.length:=by rw[Jb];exact r.length.symm
 refine⟨"tuple",_,PyProof.Rows.slot_tuple_getitem.lookup,ht.typeIs,?_⟩;refine HT.getItem_tuple_cut ht hs pl pu (by rw[hlen];exact hw) ?_ (by rw[hlen];exact hz);rw[hlen];refine⟨.ref s.heap.objs.size,_,I.laid (t':=s.toks) (o:=.tup (gT xs lo hi)) (λb ob q=>Heap.get?_push_of_some _ q) (Jd _) ?_,rfl,q _ (I.hok.fresh (Jd _))⟩;exact⟨Jt (zeA xs lo hi) hz,_,(r.drop (HT.sIx xs.length 0 lo)).take (HT.sIx xs.length xs.length hi - HT.sIx xs.length 0 lo),IsTup.new _ _⟩
def zsm(K:Fg):R2:=λx y H Q=>∃a b xs ys,x=.ref a/\y=.ref b/\SqT K H a xs/\SqT K H b ys/\xs≠[]/\xs.length+ys.length<=sizeLine/\
 (ys=[]->Q (.ref a) H)/\(ys≠[]->∀p,H p=none->Q (.ref p) (upd H p (.tup (xs++ys))))
theorem zS.nil_iff(r:zS xs us):us=[]↔xs=[]:=by
 cases r with
 |nil=>simp
 |cons _ _=>simp
theorem zpd:OpR X (binaryOp .Add) (zsm X.K):=by
 intro pins s σ H x y v u Q I rx ry h;obtain⟨a,b,xs,ys,rfl,rfl,ha,hb,hx,hz,q1,q2⟩:=h;cases rx
 cases ry
 obtain⟨its,r1,p1,_⟩:=I.tuple ha;obtain⟨its2,r2,p2,_⟩:=I.tuple hb;refine HT.cat_tup p1 p2 (λz=>hx (r1.nil_iff.mp z)) (λz=>⟨.ref a,H,I,rfl,q1 (r2.nil_iff.mp z)⟩) (λz=>?_) (by rw[←r1.length,←r2.length];exact hz);refine⟨.ref s.heap.objs.size,_,I.laid (t':=s.toks) (o:=.tup (xs++ys)) (λb ob q=>Heap.get?_push_of_some _ q) (Jd _) ?_,rfl,q2 (λw=>z (r2.nil_iff.mpr w)) _ (I.hok.fresh (Jd _))⟩;exact⟨by rw[Jm];exact hz,_,r1.append r2,IsTup.new _ _⟩
end
noncomputable def ixN(n:Nat)(i:Int):Option Nat:=if 0<=i then(if i<n then some i.toNat else none)else if -(n:Int)<=i then some (i+n).toNat else none
variable{α:Type}
noncomputable def atI(xs:List α)(i:Int):Option α:=(ixN xs.length i).bind λj=>xs[j]?
variable{n:Nat}{i:Int}
theorem zpm{j:Nat}(h:ixN n i=some j):seqIndex? i n=some j/\j<n/\ -(n:Int)<=i/\i<n:=by
 unfold ixN at h;by_cases h0:0<=i
 ·rw[if_pos h0]at h;by_cases h1:i<n
  ·rw[if_pos h1]at h;have e:i.toNat=j:=Option.some.inj h;exact⟨by rw[seqIndex_of h0 h1,e],by omega,by omega,h1⟩
  ·rw[if_neg h1]at h;cases h
 ·rw[if_neg h0]at h;by_cases h1:-(n:Int)<=i
  ·rw[if_pos h1]at h;have e:(i+n).toNat=j:=Option.some.inj h;exact⟨by rw[seqIndex_neg (by omega) h1,e],by omega,h1,by omega⟩
  ·rw[if_neg h1]at h;cases h
theorem ziu{xs:List α}{v:α}(h:atI xs i=some v):∃j,seqIndex? i xs.length=some j/\xs[j]?=some v/\j<xs.length/\ -(xs.length:Int)<=i/\i<xs.length:=by
 unfold atI at h;cases e:ixN xs.length i with
 |none=>rw[e]at h;cases h
 |some j=>
  rw[e]at h;obtain⟨h1,h2,h3,h4⟩:=zpm e;exact⟨j,h1,h,h2,h3,h4⟩
theorem vA{xs:List α}{j:Nat}{v:α}(h:xs[j]?=some v):atI xs (j:Int)=some v:=by
 have hj:j<xs.length:=(List.getElem?_eq_some_iff.mp h).1;have e:ixN xs.length (j:Int)=some j:=by unfold ixN;rw[if_pos (by omega),if_pos (by omega)];simp
 unfold atI;rw[e];exact h
theorem znF(xs:List α)(v:α):atI (xs++[v]) (-1)=some v:=by
 have hl:(xs++[v]).length=xs.length+1:=by simp
 have e:ixN (xs++[v]).length (-1)=some xs.length:=by
  unfold ixN;rw[hl,if_neg (by decide),if_pos (by omega)]
  congr 1
  omega
 unfold atI;rw[e];show(xs++[v])[xs.length]?=some v;simp
def zgy(b:Expr):Prop:=∀o i,subscripted b false o i=operate [o,i] (getItem o i)
def IxR(X:Cx)(r:R2):Prop:=
 ∀(value slice:Expr) (pins:AO) (s:Shared) (σ:St) (H:Hp) (x y:V) (v u:Value) (Q:VK),Inv X pins σ H s->zT x v->zT y u->r x y H Q->
  subscripted slice false v u=operate [v,u] (getItem v u)->wpAny (model X.prog X.w) X.A (subscriptTail value slice v u) (EP X pins σ Q) X.xe s
def MtR(X:Cx)(id:String)(r:V->List V->Hp->VK->Prop):Prop:=
 ∀(pins:AO) (s:Shared) (σ:St) (H:Hp) (x:V) (xs:List V) (v:Value) (us:List Value) (Q:VK),Inv X pins σ H s->zT x v->zS xs us->r x xs H Q->
  wpAny (model X.prog X.w) X.A (call (.builtin id) (v::us)) (EP X pins σ Q) X.xe s
variable{pins:AO}{σ:St}{H:Hp}{s:Shared}{its:List Value}
section
variable{X:Cx}{a b:Expr}{ta tb:TE}{pos:Pos}
theorem IxR.or{r r':R2}(h:IxR X r)(h':IxR X r'):IxR X (λx y H Q=>r x y H Q\/r' x y H Q):=by
 intro value slice pins s σ H x y v u Q I rx ry q hs;rcases q with q|q
 ·exact h value slice pins s σ H x y v u Q I rx ry q hs
 ·exact h' value slice pins s σ H x y v u Q I rx ry q hs
theorem zsr{r:R2}(hr:IxR X r)(ha:PE X a ta)(hb:PE X b tb)(hs:zgy b):PE X (.Subscript a b pos) (tOp r ta tb):=by intro pins s σ H Q I h;exact Subscript_ (binT ha hb I h λv u s2 x y H2 I2 rx ry q=>hr a b pins s2 σ H2 x y v u Q I2 rx ry q (hs _ _))
def rIxL(K:Fg):R2:=λx y H Q=>∃p xs i v,x=.ref p/\y=.int i/\SqL K H p xs/\atI xs i=some v/\Q v H
def rIxT(K:Fg):R2:=λx y H Q=>∃p xs i v,x=.ref p/\y=.int i/\SqT K H p xs/\atI xs i=some v/\Q v H
def rIxS:R2:=λx y H Q=>∃z i c,x=.str z/\y=.int i/\z.length<=sizeLine/\atI z.cps.toList i=some c/\Q (.str ⟨#[c]⟩) H
theorem zpl:IxR X (rIxL X.K):=by
 intro value slice pins s σ H x y v u Q I rx ry h hs;obtain⟨p,xs,i,z,rfl,rfl,hq,he,q⟩:=h;cases rx
 obtain⟨t,rfl⟩:=ry;obtain⟨its,r,pl,hz⟩:=I.list hq;obtain⟨j,h1,h2,h3,h4,h5⟩:=ziu he;obtain⟨w,ew,rw'⟩:=r.get h2;have hl:=r.length;have hn:=zfe;have fin:EP X pins σ Q w s:=⟨z,H,I,rw',q⟩;by_cases h0:0<=i
 ·have hj:i.toNat=j:=by rw[seqIndex_of h0 h5]at h1;exact Option.some.inj h1
  exact item_listR pl.isList h0 (by omega) (by rw[hj];simpa using ew) fin hs
 ·have hj:(i+(its.toArray.size:Int)).toNat=j:=by rw[seqIndex_neg (by omega) h4]at h1;rw[Jb,←hl];exact Option.some.inj h1
  exact subscriptTail_builtinR (x:=w) pl.isList.typeIs slot_list_getitem.lookup
   (wpAny_getItem_list_neg (Q:=λr s'=>r=w/\EP X pins σ Q r s') pl.isList (by omega) (by rw[Jb]<;>omega) (by omega) (by rw[hj];simpa using ew) ⟨rfl,fin⟩) hs
theorem zro:IxR X (rIxT X.K):=by
 intro value slice pins s σ H x y v u Q I rx ry h hs;obtain⟨p,xs,i,z,rfl,rfl,hq,he,q⟩:=h;cases rx
 obtain⟨t,rfl⟩:=ry;obtain⟨its,r,pl,hz⟩:=I.tuple hq;obtain⟨j,h1,h2,h3,h4,h5⟩:=ziu he;obtain⟨w,ew,rw'⟩:=r.get h2;have hl:=r.length;have hn:=zfe;have fin:EP X pins σ Q w s:=⟨z,H,I,rw',q⟩;exact subscriptTail_builtinR (x:=w) pl.typeIs slot_tuple_getitem.lookup
  (getItem_tuple (j:=j) (Q:=λr s'=>r=w/\EP X pins σ Q r s') pl (by omega) (by omega) (by rw[Jb,←hl];exact h1) (by simpa using ew) ⟨rfl,fin⟩) hs
theorem zrp:IxR X rIxS:=by
 intro value slice pins s σ H x y v u Q I rx ry h hs;obtain⟨z,i,c,rfl,rfl,hz,he,q⟩:=h;obtain⟨t,rfl⟩:=rx;obtain⟨t',rfl⟩:=ry;obtain⟨j,h1,h2,h3,h4,h5⟩:=ziu he;have hl:z.cps.toList.length=z.length:=by simp[Str.length]
 rw[hl]at h1 h4 h5;have hn:=zfe;exact tail_any (typeIs_str s z t) slot_str_getitem.lookup (getItem_str (c:=c) (by have e1:decide (i< -(2^63:Int))=false:=JA (by omega);have e2:decide (i≥2^63)=false:=JA (by omega);rw[e1,e2,Bool.or_false]) (by rw[h1];simpa using h2) ⟨.str ⟨#[c]⟩,H,I.tok _,⟨_,rfl⟩,q⟩) hs
theorem Inv.lst{pins:AO}{σ:St}{H:Hp}{s:Shared}{p:Addr}{xs:List V}(I:Inv X pins σ H s)(h:H p=some (.lst xs)):
  ∃(its:List Value) (n:Nat),zS xs its/\s.heap.get? p=some {cls:=.type "list",data:=.seq its.toArray n}/\xs.length<=sizeLine:=by
 obtain⟨z,its,n,r,e⟩:=I.hok p _ h;exact⟨its,n,r,e,z⟩
theorem Inv.lstUpd{p:Addr}{ys:List V}{its':List Value}{n':Nat}{f:Obj->Obj}(I:Inv X pins σ H s)(h:H p=some (.lst xs))(ho:s.heap.get? p=some {cls:=.type "list",data:=.seq its.toArray n})(hf:f {cls:=.type "list",data:=.seq its.toArray n}={cls:=.type "list",data:=.seq its'.toArray n'})(r:zS ys its')(hz:ys.length<=sizeLine)(t:Nat):
  Inv X pins σ (upd H p (.lst ys)) {s with heap:=s.heap.update p f,toks:=t}:=by
 have e:(s.heap.update p f).get? p=some {cls:=.type "list",data:=.seq its'.toArray n'}:=by rw[Heap.get?_update_self f ho (by rw[hf]<;>rfl),hf]
 refine I.write (x:=p) (e:=p) (by rw[h];trivial) (.inl rfl) (λb u hb q=>(Heap.get?_update_other _ _ (Ne.symm hb)).trans q) ⟨_,e⟩ ?_;exact⟨hz,its',n',r,e⟩
theorem zgF(lo hi:Option Int)(n:Nat):(sliceBounds lo hi none n).1=((HT.sIx n 0 lo:Nat):Int)/\(sliceBounds lo hi none n).2.1=((HT.sIx n n hi:Nat):Int)/\(sliceBounds lo hi none n).2.2=1:=by
 refine⟨?_,?_,rfl⟩
 ·cases lo with
  |none=>simp[sliceBounds,HT.sIx]
  |some i=>
   simp only[sliceBounds,HT.sIx,Option.getD_none,show(1:Int)>0 by decide,if_true];by_cases h:i<0
   ·simp only[h,if_true]<;>omega
   ·simp only[h,if_false]<;>omega
 ·cases hi with
  |none=>simp[sliceBounds,HT.sIx]
  |some i=>
   simp only[sliceBounds,HT.sIx,Option.getD_none,show(1:Int)>0 by decide,if_true];by_cases h:i<0
   ·simp only[h,if_true]<;>omega
   ·simp only[h,if_false]<;>omega
theorem zfA(its:List Value)(lo hi:Option Int):slicePick its.toArray lo hi none=((its.drop (HT.sIx its.length 0 lo)).take (HT.sIx its.length its.length hi - HT.sIx its.length 0 lo)).toArray:=by obtain⟨h1,h2,h3⟩:=zgF lo hi its.toArray.size;unfold slicePick;rw[h1,h2,h3];simp only[sliceRange_one,pick_run,List.size_toArray]<;>rfl
def rSlL(K:Fg):V->Option Int->Option Int->Hp->VK->Prop:=λx lo hi H Q=>∃a xs,x=.ref a/\SqL K H a xs/\∀p,H p=none->Q (.ref p) (upd H p (.lst (gT xs lo hi)))
theorem zoB:SlR X (rSlL X.K):=by
 intro pins s σ H x v vl vu lo hi sl Q I rx hs pl pu h;obtain⟨a,xs,rfl,hx,q⟩:=h;cases rx
 obtain⟨its,r,ht,hz⟩:=I.list hx;have hlen:=r.length;refine⟨"list",_,slot_list_getitem.lookup,ht.isList.typeIs,?_⟩;refine wpAny_getItem_list_slice ht.isList hs pl pu .none (by simp) ?_ (by rw[Jb]<;>omega);rw[zfA,←hlen];refine⟨.ref s.heap.objs.size,_,I.laid (t':=s.toks) (o:=.lst (gT xs lo hi)) (λb ob q=>Heap.get?_push_of_some _ q) (Jd _) ?_,rfl,q _ (I.hok.fresh (Jd _))⟩;exact⟨Jt (zeA xs lo hi) hz,_,0,(r.drop (HT.sIx xs.length 0 lo)).take (HT.sIx xs.length xs.length hi - HT.sIx xs.length 0 lo),Heap.get?_push_size _ rfl⟩
theorem zhy:wB X (.builtin "len") (λxs H Q=>∃p ys,xs=[.ref p]/\(SqL X.K H p ys\/SqT X.K H p ys)/\Q (.int ys.length) H):=by
 intro pins s σ H xs us Q I r h;obtain⟨p,ys,rfl,hq,q⟩:=h;obtain⟨u,rfl,rx⟩:=gF r;cases rx
 have hn:=zfe;rcases hq with hq|hq
 ·obtain⟨its,r',pl,hz⟩:=I.list hq;have hlen:=r'.length;exact Calls.call_len_list pl.isList (by simp only[List.size_toArray]<;>omega) ⟨.int ys.length,H,I.tok _,⟨s.toks+1,by rw[Jb,hlen]⟩,q⟩
 ·obtain⟨its,r',pl,hz⟩:=I.tuple hq;have hlen:=r'.length;exact len_tuple pl (by simp only[List.size_toArray]<;>omega) ⟨.int ys.length,H,I.tok _,⟨s.toks+1,by rw[Jb,hlen]⟩,q⟩
theorem zhx:wB X (.builtin "len") (λxs H Q=>∃z,xs=[.str z]/\z.length<=sizeLine/\Q (.int z.length) H):=by intro pins s σ H xs us Q I r h;obtain⟨z,rfl,hz,q⟩:=h;obtain⟨u,rfl,t,rfl⟩:=gF r;have hn:=zfe;exact len_str (by omega) ⟨.int z.length,H,I.tok _,⟨_,rfl⟩,q⟩
theorem wB.or{f:Value}{r r':List V->Hp->VK->Prop}(h:wB X f r)(h':wB X f r'):wB X f (λxs H Q=>r xs H Q\/r' xs H Q):=by
 intro pins s σ H xs us Q I rs q;rcases q with q|q
 ·exact h pins s σ H xs us Q I rs q
 ·exact h' pins s σ H xs us Q I rs q
theorem zhw:wB X (.type "list") (λxs H Q=>∃p ys,xs=[.ref p]/\(SqL X.K H p ys\/SqT X.K H p ys)/\∀l,H l=none->Q (.ref l) (upd H l (.lst ys))):=by
 intro pins s σ H xs us Q I r h;obtain⟨p,ys,rfl,hq,q⟩:=h;obtain⟨u,rfl,rx⟩:=gF r;cases rx
 have fin:∀(its:List Value),zS ys its->ys.length<=sizeLine->∀(h':Heap) (c':Nat),(∀b o',s.heap.get? b=some o'->h'.get? b=some o')->
   h'.get? s.heap.objs.size=some {cls:=.type "list",dict:=none,data:=.seq its.toArray c',slots:=#[]}->EP X pins σ Q (.ref s.heap.objs.size) {s with heap:=h'}:=λits r' hz h' c' kp e=>
  ⟨.ref s.heap.objs.size,_,I.laid (t':=s.toks) kp (Jd _) (show jV X.prog X.w _ h' _ (.lst ys)from⟨hz,its,c',r',e⟩),rfl,q _ (I.hok.fresh (Jd _))⟩
 rcases hq with hq|hq
 ·obtain⟨its,r',pl,hz⟩:=I.list hq;have hlen:=r'.length;obtain⟨o,ho,hc,n,hd⟩:=pl.isList;exact call_list_seq p (.inl rfl) ho hc hd (λh' c' kp e=>fin its r' hz h' c' kp e) (by simp only[List.size_toArray]<;>omega)
 ·obtain⟨its,r',pl,hz⟩:=I.tuple hq;have hlen:=r'.length;obtain⟨o,ho,hc,n,hd⟩:=pl;exact call_list_seq p (.inr rfl) ho hc hd (λh' c' kp e=>fin its r' hz h' c' kp e) (by simp only[List.size_toArray]<;>omega)
theorem zgp:wB X (.type "tuple") (λxs H Q=>∃p ys,xs=[.ref p]/\((SqL X.K H p ys/\∀l,H l=none->Q (.ref l) (upd H l (.tup ys)))\/(SqT X.K H p ys/\Q (.ref p) H))):=by
 intro pins s σ H xs us Q I r h;obtain⟨p,ys,rfl,h⟩:=h;obtain⟨u,rfl,rx⟩:=gF r;cases rx
 rcases h with⟨hq,q⟩|⟨hq,q⟩
 ·obtain⟨its,r',pl,hz⟩:=I.list hq;have hlen:=r'.length;refine call_tuple_list pl.isList (λh' kp=>?_) (by simp only[List.size_toArray]<;>omega);have I1:Inv X pins σ H {s with heap:=h'}:=I.kept (t':=s.toks) kp;have I2:Inv X pins σ (upd H h'.objs.size (.tup ys)) {s with heap:=h'.push {cls:=.type "tuple",data:=.seq its.toArray}}:=
   I1.laid (t':=s.toks) (λb o e=>Heap.get?_push_of_some _ e) (Jd _) (show jV X.prog X.w _ _ _ (.tup ys)from⟨hz,its,r',IsTup.new _ _⟩)
  exact⟨.ref h'.objs.size,_,I2,rfl,q _ (I1.hok.fresh (Jd _))⟩
 ·obtain⟨its,r',pl,hz⟩:=I.tuple hq;exact call_tuple_same pl ⟨.ref p,H,I,rfl,q⟩
def tyV(K:Fg)(T:String)(x:V)(H:Hp):Prop:=match x with
 | .str _=>T="str"
 | .int _=>T="int"
 | .ref p=>(T="list"/\∃xs,SqL K H p xs)\/(T="tuple"/\∃o,K.lookup p=some o/\o.cls=.type "tuple"/\o.dict=none)\/
   (T="dict"/\((∃kvs,H p=some (.dK kvs))\/∃kvs,H p=some (.dT kvs)))\/(T="set"/\∃S,H p=some (.set S))
 |_=>False
theorem znL{T:String}{x:V}{v:Value}(I:Inv X pins σ H s)(r:zT x v)(ty:tyV X.K T x H):
  s.TypeIs v T/\∀a,v=.ref a->∃ob,s.heap.get? a=some ob/\ob.dict=none:=by
 cases x with
 |str z=>
  obtain⟨t,rfl⟩:=r;cases(show T="str"from ty)
  exact⟨typeIs_str s z t,λ_ e=>nomatch e⟩
 |int i=>
  obtain⟨t,rfl⟩:=r;cases(show T="int"from ty)
  exact⟨typeIs_int s i t,λ_ e=>nomatch e⟩
 |ref p=>
  cases r
  rcases ty with⟨rfl,xs,hq⟩|⟨rfl,o,hk,hc,hd⟩|⟨rfl,hk⟩|⟨rfl,S,hk⟩
  ·obtain⟨its,_,pl,_⟩:=I.list hq;refine⟨pl.isList.typeIs,λa e=>?_⟩;cases e
   obtain⟨o,n,e,c,hd,_⟩:=pl;exact⟨o,e,hd⟩
  ·refine⟨⟨o,I.kIn p o hk,hc⟩,λa e=>?_⟩;cases e
   exact⟨o,I.kIn _ o hk,hd⟩
  ·have z:∃o,s.heap.get? p=some o/\o.ExactDict:=by
    rcases hk with⟨kvs,hk⟩|⟨kvs,hk⟩
    ·obtain⟨_,_,_,_,o,_,_,e,ex,_⟩:=I.hok p _ hk;exact⟨o,e,ex⟩
    ·obtain⟨_,_,_,_,o,_,_,e,ex,_⟩:=I.hok p _ hk;exact⟨o,e,ex⟩
   obtain⟨o,e,ex⟩:=z;refine⟨⟨o,e,ex.1⟩,λa e2=>?_⟩;cases e2
   exact⟨o,e,ex.2.1⟩
  ·obtain⟨o,_,_,_,e,ex,_⟩:=I.hok p _ hk;refine⟨⟨o,e,ex.1⟩,λa e2=>?_⟩;cases e2
   exact⟨o,e,ex.2.1⟩
 |_=>exact False.elim ty
def tBM0(K:Fg)(T:String)(r:V->List V->Hp->VK->Prop)(to:TE):TE:=λσ H Q=>to σ H λx H1=>tyV K T x H1/\r x [] H1 Q
def tBM(K:Fg)(T:String)(r:V->List V->Hp->VK->Prop)(to:TE)(t:TA):TE:=λσ H Q=>to σ H λx H1=>tyV K T x H1/\t σ H1 λxs H2=>r x xs H2 Q
variable{o e:Expr}{es:List Expr}{to:TE}{t:TA}{name:Str}{apos cpos:Pos}{T id:String}{r:V->List V->Hp->VK->Prop}
theorem znV(pa:PlainAttrs T)(slot:Slot T name id)(hty:typeOf (.builtin id)=pure (.type "method_descriptor"))(hm:MtR X id r)(ho:PE X o to)(hbase:attributeBase o name X.env (eval o X.env)=eval o X.env:=by rfl)(hline:(apos.endLine==cpos.line)=true:=by rfl):PE X (.Call (.Attribute o name apos) [] [] cpos) (tBM0 X.K T r to):=by intro pins s σ H Q I h;refine wpAny_Call_method0_late hbase hline (thn (ho pins s σ H _ I h) λv s1 ⟨x,H1,I1,r1,ty,q1⟩=>?_);obtain⟨h1,h2⟩:=znL I1 r1 ty;exact⟨T,id,pa,slot,hty,h1,h2,We rfl (PySem.evalArgs_none (hm pins s1 σ H1 x [] v [] Q I1 r1 .nil q1))⟩
theorem zoT(pa:PlainAttrs T)(slot:Slot T name id)(hty:typeOf (.builtin id)=pure (.type "method_descriptor"))(hm:MtR X id r)(ho:PE X o to)(ha:PA X (e::es) t)(hbase:attributeBase o name X.env (eval o X.env)=eval o X.env:=by rfl)(hfew:((backTo cpos (starEach (e::es) X.env)).all (λx=>!x.1)&&(backToKw cpos (keywordEach [] X.env)).all (λx=>x.1.isSome)
   &&decide ((e::es).length+([]:List Keyword).length+(if([]:List Keyword).isEmpty then 0 else 1)<30))=true:=by rfl)(hline:(apos.endLine==cpos.line)=true:=by rfl)(hs:starEach (e::es) X.env=(false,eval e X.env)::starEach es X.env:=by rfl)(hplain:(backTo cpos (starEach es X.env)).any (·.1)=false:=by rfl):
  PE X (.Call (.Attribute o name apos) (e::es) [] cpos) (tBM X.K T r to t):=by
 intro pins s σ H Q I h;refine wpAny_Call_method_late hbase hfew hline rfl (thn (ho pins s σ H _ I h) λv s1 ⟨x,H1,I1,r1,ty,q1⟩=>?_);obtain⟨h1,h2⟩:=znL I1 r1 ty;refine⟨T,id,pa,slot,hty,h1,h2,?_⟩;have hA:=ha cpos pins s1 σ H1 _ I1 q1;rw[hs]at hA ⊢;refine We (by show(false||(backTo cpos (starEach es X.env)).any (·.1))=false;rw[hplain]<;>rfl) (Calls.evalArgs_plain ?_);exact thn hA λus s2 ⟨vs,H2,I2,r2,q2⟩=>hm pins s2 σ H2 x vs v us Q I2 r1 r2 q2
/- xs.append(e),list.index on a module's tuple .. are MtR facts of 06m -/
end
def MtM(X:Cx)(id:String)(r:V->List V->Hp->VK->Prop):Prop:=
 ∀(pins:AO) (s:Shared) (σ:St) (H:Hp) (x:V) (xs:List V) (v:Value) (us:List Value) (Q:VK),Inv X pins σ H s->zT x v->zS xs us->r x xs H Q->
  wpAny (model X.prog X.w) X.A (call (.builtin id) (v::us)) (EP X pins σ Q) X.xe s
theorem zS.one:∀{x:V}{us:List Value},zS [x] us->∃u,us=[u]/\zT x u
 |_,_,.cons r .nil=>⟨_,rfl,r⟩
theorem zS.zero:∀{us:List Value},zS [] us->us=[]
 |_,.nil=>rfl
theorem zS.dropLast(h:zS xs us):zS xs.dropLast us.dropLast:=by
 induction h with
 |nil=>exact .nil
 |cons r t ih=>
  cases t with
  |nil=>exact .nil
  |cons q t'=>exact .cons r ih
theorem zS.eraseIdx:∀{xs:List V}{us:List Value} (i:Nat),zS xs us->zS (xs.eraseIdx i) (us.eraseIdx i)
 |_,_,_,.nil=>.nil
 |_,_,0,.cons _ t=>t
 |_,_,i+1,.cons r t=>.cons r (zS.eraseIdx i t)
theorem zS.reverse(h:zS xs us):zS xs.reverse us.reverse:=by
 induction h with
 |nil=>exact .nil
 |cons r t ih=>rw[QO,QO];exact zS.append ih (.cons r .nil)
theorem zjQ(l:List α):l.eraseIdx (l.length - 1)=l.dropLast:=by
 induction l with
 |nil=>rfl
 |cons a r ih=>
  cases r with
  |nil=>rfl
  |cons b r=>
   have e:(a::b::r).length - 1=((b::r).length - 1)+1:=by have h1:(a::b::r).length=r.length+2:=rfl;have h2:(b::r).length=r.length+1:=rfl;omega
   rw[e,List.eraseIdx_cons_succ,ih];all_goals rfl
theorem zhd:∀(l:List α) (i:Nat),(l.eraseIdx i).length<=l.length
 |[],_=>Jd _
 |_::_,0=>Nat.le_succ _
 |_::r,i+1=>Nat.succ_le_succ (zhd r i)
section
variable{X:Cx}{pins:AO}{σ:St}{H:Hp}{s:Shared}{l b:Addr}{xs ys zs:List V}
theorem Inv.lset{its':List Value}{f:Array Value->Array Value}{t':Nat}(I:Inv X pins σ H s)(hH:H l=some (.lst xs))(e:s.heap.get? l=some {cls:=.type "list",data:=.seq its.toArray n})(hf:f its.toArray=its'.toArray)(hv:zS ys its')(hz:ys.length<=sizeLine):
  Inv X pins σ (upd H l (.lst ys)) {s with heap:=s.heap.update l (Obj.mapSeq f),toks:=t'}:=by
 have q:=PySem.IsL.update e f;rw[hf]at q;refine I.write (x:=l) (e:=l) (by rw[hH];exact trivial) (.inl rfl) (λb' u hb hu=>(Heap.get?_update_other s.heap (Obj.mapSeq f) (Ne.symm hb)).trans hu) ⟨_,q⟩ ?_;exact⟨hz,its',_,hv,q⟩
theorem Inv.lnew{t':Nat}(I:Inv X pins σ H s)(hv:zS ys its)(hz:ys.length<=sizeLine):
  Inv X pins σ (upd H s.heap.objs.size (.lst ys)) {s with heap:=s.heap.push {cls:=.type "list",data:=.seq its.toArray},toks:=t'}:=
 I.laid (λ_ _ q=>Heap.get?_push_of_some _ q) (Jd _) ⟨hz,its,0,hv,Heap.get?_push_size _ rfl⟩
theorem Inv.fresh(I:Inv X pins σ H s):H s.heap.objs.size=none:=I.hok.fresh (Jd _)
theorem Inv.lstM(I:Inv X pins σ H s)(hH:H l=some (.lst xs)):xs.length<=sizeLine/\∃(its:List Value) (n:Nat),zS xs its/\xs.length=its.length/\s.heap.get? l=some {cls:=.type "list",data:=.seq its.toArray n}:=by obtain⟨z,its,n,r,e⟩:=I.hok l _ hH;exact⟨z,its,n,r,r.length,e⟩
theorem zmS(h:n<=sizeLine):Builtin.List.listTooLong n=false:=by unfold Builtin.List.listTooLong;exact JA (by omega)
end
section
variable{X:Cx}
def zoF:V->List V->Hp->VK->Prop:=λx vs H Q=>∃l xs y,x=.ref l/\vs=[y]/\H l=some (.lst xs)/\xs.length<sizeLine/\Q .non (upd H l (.lst (xs++[y])))
theorem zeb:MtM X "list.append" zoF:=by
 intro pins s σ H x vs v us Q I rx rv h;obtain⟨l,xs,y,rfl,rfl,hH,hz,q⟩:=h;cases rx
 obtain⟨u,rfl,ru⟩:=rv.one;obtain⟨z,its,n,r,hl,e⟩:=I.lstM hH;refine call_meets F.slot_list_append ⟨_,e,rfl⟩ F.entry_list_append (F.args_list_append_2 _ _) (PySem.list_append l its.toArray n u (by rw[Jb];omega)) ⟨e,?_⟩;refine⟨.non,_,I.lset (its':=its++[u]) hH e (by simp) (r.append (.cons ru .nil)) ?_,rfl,q⟩;rw[Jm,Qa];omega
def zoE:V->List V->Hp->VK->Prop:=λx vs H Q=>∃l b xs zs,x=.ref l/\vs=[.ref b]/\H l=some (.lst xs)/\H b=some (.lst zs)/\xs.length+zs.length<=sizeLine/\Q .non (upd H l (.lst (xs++zs)))
theorem zkU:MtM X "list.extend" zoE:=by
 intro pins s σ H x vs v us Q I rx rv h;obtain⟨l,b,xs,zs,rfl,rfl,hH,hB,hz,q⟩:=h;cases rx
 obtain⟨u,rfl,ru⟩:=rv.one;cases ru
 obtain⟨z,its,n,r,hl,e⟩:=I.lstM hH;obtain⟨z2,its2,n2,r2,hl2,e2⟩:=I.lstM hB;have hsz:its.toArray.size+its2.toArray.size<=sizeLine:=by rw[Jb,Jb];omega
 have hlong:¬(!its.toArray.isEmpty&&Builtin.List.listTooLong (its.toArray.size+its2.toArray.size))=true:=by rw[zmS hsz,Bool.and_false];exact JR
 refine call_meets F.slot_list_extend ⟨_,e,rfl⟩ F.entry_list_extend (F.args_list_extend_2 _ _)
  (AutoSeq1.list_extend_list_list_0 l its.toArray n b its2.toArray n2 hlong (by rw[Jb];omega) (by omega)) ⟨e,e2,?_⟩
 refine⟨.non,_,I.lset (its':=its++its2) hH e (by simp) (r.append r2) ?_,rfl,q⟩;rw[Jm];omega
def rPop:V->List V->Hp->VK->Prop:=λx vs H Q=>∃l xs y,x=.ref l/\vs=[]/\H l=some (.lst xs)/\xs[xs.length - 1]?=some y/\Q y (upd H l (.lst xs.dropLast))
theorem zrc:MtM X "list.pop" rPop:=by
 intro pins s σ H x vs v us Q I rx rv h;obtain⟨l,xs,y,rfl,rfl,hH,hy,q⟩:=h;cases rx
 have hus:=rv.zero;subst hus;obtain⟨z,its,n,r,hl,e⟩:=I.lstM hH;obtain⟨u,hu,ru⟩:=r.get hy;have hy':its.toArray[its.toArray.size - 1]?=some u:=by show its.toArray[its.length - 1]?=some u;rw[←Array.getElem?_toList,←hl];exact hu
 refine call_meets F.slot_list_pop ⟨_,e,rfl⟩ F.entry_list_pop (F.args_list_pop_1 _) (MeetsSeq.list_pop_last l its.toArray n u hy' (by rw[Jb];omega)) ⟨e,?_⟩;refine⟨y,_,I.lset (its':=its.dropLast) hH e ?_ r.dropLast ?_,ru,q⟩
 ·show its.toArray.eraseIdxIfInBounds (its.toArray.size - 1)=its.dropLast.toArray;rw[Jb,List.eraseIdxIfInBounds_toArray,zjQ]
 ·rw[List.length_dropLast];omega
def zqr:V->List V->Hp->VK->Prop:=λx vs H Q=>∃l xs i k y,x=.ref l/\vs=[.int i]/\H l=some (.lst xs)/\ -(2^63)<=i/\i<2^63/\seqIndex? i xs.length=some k/\xs[k]?=some y/\Q y (upd H l (.lst (xs.eraseIdx k)))
theorem zmZ:MtM X "list.pop" zqr:=by
 intro pins s σ H x vs v us Q I rx rv h;obtain⟨l,xs,i,k,y,rfl,rfl,hH,h1,h2,hk,hy,q⟩:=h;cases rx
 obtain⟨u,rfl,ru⟩:=rv.one;obtain⟨t,rfl⟩:=ru;obtain⟨z,its,n,r,hl,e⟩:=I.lstM hH;obtain⟨w,hw,rw'⟩:=r.get hy;refine call_meets F.slot_list_pop ⟨_,e,rfl⟩ F.entry_list_pop (F.args_list_pop_2 _ _)
  (MeetsSeq.list_pop_at l its.toArray n i t k w (fitsIndex_both h1 h2) (by rw[Jb,←hl];exact hk) (by rw[←Array.getElem?_toList];exact hw) (by rw[Jb];omega)) ⟨e,?_⟩
 refine⟨y,_,I.lset (its':=its.eraseIdx k) hH e ?_ (r.eraseIdx k) ?_,rw',q⟩
 ·show its.toArray.eraseIdxIfInBounds k=(its.eraseIdx k).toArray;rw[List.eraseIdxIfInBounds_toArray]
 ·have:=zhd xs k;omega
def zqs:V->List V->Hp->VK->Prop:=λx vs H Q=>∃l xs,x=.ref l/\vs=[]/\H l=some (.lst xs)/\Q .non (upd H l (.lst []))
theorem zna:MtM X "list.clear" zqs:=by
 intro pins s σ H x vs v us Q I rx rv h;obtain⟨l,xs,rfl,rfl,hH,q⟩:=h;cases rx
 have hus:=rv.zero;subst hus;obtain⟨z,its,n,r,hl,e⟩:=I.lstM hH;refine call_meets F.slot_list_clear ⟨_,e,rfl⟩ F.entry_list_clear (F.args_list_clear_1 _) (AutoSeq1.list_clear_list_0 l its.toArray n (by rw[Jb];omega)) ⟨e,?_⟩;exact⟨.non,_,I.lset (its':=[]) (ys:=[]) hH e rfl .nil (JD _),rfl,q⟩
def rCat:R2:=λx y H Q=>∃l b xs zs,x=.ref l/\y=.ref b/\H l=some (.lst xs)/\H b=some (.lst zs)/\xs.length+zs.length<=sizeLine/\∀p,H p=none->Q (.ref p) (upd H p (.lst (xs++zs)))
theorem znZ:OpR X (binaryOp .Add) rCat:=by
 intro pins s σ H x y v u Q I rx ry h;obtain⟨l,b,xs,zs,rfl,rfl,hH,hB,hz,q⟩:=h;cases rx
 cases ry
 obtain⟨z,its,n,r,hl,e⟩:=I.lstM hH;obtain⟨z2,its2,n2,r2,hl2,e2⟩:=I.lstM hB;refine PySem.P.add_list e e2 ?_ (by rw[Jb,Jb];omega);have ea:its.toArray++its2.toArray=(its++its2).toArray:=by simp
 rw[ea];exact⟨.ref _,_,I.lnew (t':=s.toks) (r.append r2) (by rw[Jm];omega),rfl,q _ I.fresh⟩
end
section
variable{prog:Program}{w:World}{A:Around}{E:VS}{s:Shared}
end
section
variable{X:Cx}
end
end L2
namespace Att
open PySem PySem.W PySem.Calls PyProof.Rows
variable{P:Params}{h:Heap}
theorem zen:∀(ns:List Int) (vs:List Value),WellAll P h vs (ns.map WData.int)->IntsAre vs ns:=by
 intro ns;induction ns with
 |nil=>
  intro vs w;rw[Qs]at w;cases w
  exact .nil
 |cons n ns ih=>
  intro vs w;rw[Jg]at w;cases w with
  |cons a b=>
   cases a
   exact .cons _ _ (ih _ b)
variable{l:OpenLaw}{n:Nat}
theorem zku(hn:l.most=some n){args:List WData}{vals:List Value}(hpre:l.row.toRowW.claim.pre args=true)(hwl:WellAll P h vals args):
  ∃a vs ns,vals=[Value.ref a]/\args=[WData.list (ns.map WData.int)]/\h.get? a=some {cls:=.type "list",data:=.seq vs.toArray}/\IntsAre vs ns/\ns.length<=n:=by
 have hsh:WShape.hasAll [] args [.list .int]=true:=(pre_splitW hpre).1;have hc:l.pre.holds [] {args:=args}=true:=(pre_splitW hpre).2;obtain⟨d,r,rfl,h1,h2⟩:=hasAllW_cons hsh;obtain rfl:=hasAllW_nil h2;obtain⟨xs,rfl,h3⟩:=hasW_list h1;obtain⟨ns,rfl⟩:=items_int h3;have hlen:ns.length<=n:=by
  unfold OpenLaw.pre at hc;have h4:(WTm.not (.lt (.lit (.int (n:Int))) (.len (.arg 0)))).holds [] {args:=[.list (ns.map .int)]}=true:=by have h4:=(holds_andW hc).1;rw[hn]at h4;exact h4
  have h5:=condW_of h4 (w_not (w_lt w_lit (w_len_list (w_arg rfl))));rw[Ja]at h5;refine Nat.le_of_not_lt λq=>?_
  have q':(n:Int)<((ns.length:Nat):Int):=by omega
  first
   |(rw[Qf q']at h5;exact absurd h5 (by decide))
   |(simp at h5;omega)
 cases hwl with
 |cons w1 w2=>
  cases w2
  cases w1 with
  |list ho hall=>exact⟨_,_,ns,rfl,rfl,ho,zen ns _ hall,hlen⟩
theorem zkE(l:OpenLaw)(args:List WData):l.row.toRowW.claim.post args (.bool true) args=true:=
 postW_of (r:=l.row.toRowW) (X:=(true==true))
  (show WShape.has [] (.bool true) .bool=true by first|rfl|decide|simp[WShape.has,WShape.arms,WShape.armsAll])
  (show(WTm.eq .res (.lit (.bool true))).value [] {args:=args,res:=some (.bool true),after:=args}=some (.bool (true==true))from w_eq_bool (w_res rfl) w_lit) rfl
theorem attach_call{q:Program}{loose:List Str}{XP:(SV)->Heap->Prop}{YP:World->Heap->Prop}{d:DefRec}(hn:l.most=some n)(hdf:d.params.defaults=[])(call:∀(w:World) (s₀ s₁:Shared) (mg mb:SV) (fa:Addr) (o:Obj) (pm cd doc:Value) (a:Addr) (vs:List Value) (ns:List Int),
   Ground q loose [] XP w s₀ mg mb s₁.heap->YP w s₁.heap->
   s₁.heap.get? fa=some o->o.data=.func (docDef d.name d.params d.body d.scope pm cd doc)->s₁.heap.CodeRec cd d.name->mg d.name=some (.ref fa)->
   s₁.heap.get? a=some {cls:=.type "list",data:=.seq vs.toArray}->IntsAre vs ns->ns.length<=n->PySem.W.WData.layableAll [PySem.W.WData.list (ns.map PySem.W.WData.int)]=true->s₁.gens=#[]->
   codeAny (model l.prog w) callerA (.call (.ref fa) ⟨[.ref a],[]⟩) (λr s'=>r=.ok (.ret (.bool true))/\OldK s₁.heap s'.heap/\s'.os=s₁.os/\AllBare s'.gens) s₁):
  WalkO q loose XP YP l.row.toRowW d [] (λf vs=>PySem.call f vs):=by
 intro w s₀ s₁ mg mb G Y fa o pm cd doc dV kV ho hd hcd hD hmg hg args vals as hpre hlay hrd hwl hlo;obtain rfl:dV=.none:=Dflts.none hD hdf;obtain rfl:kV=.none:=Dflts.noKw hD;obtain⟨a,vs,ns,rfl,rfl,hobj,hints,hlen⟩:=zku hn hpre hwl;refine enter_call (codeAny_mono (call w s₀ s₁ mg mb fa o pm cd doc a vs ns G Y ho (fd_plain hd) hcd hmg hobj hints hlen hlay hg) λr s' hq=>?_);obtain⟨rfl,h2,h3,h4⟩:=hq;exact⟨.inl ⟨.bool true,.bool true,[],rfl,λ_=>rfl,.bool true,zkE l _,λ_=>⟨List.Pairwise.nil,λ_ hm=>(nomatch hm)⟩⟩,h2,h3,h4⟩
section
variable{prog:Program}{w:World}{A:Around}{E:VS}{s:Shared}{K:Frag}
end
end Att
namespace L2
theorem zgC:∀{vs:List Value}{ns:List Int},IntsAre vs ns->zS (ns.map V.int) vs
 |_,_,.nil=>.nil
 |_,_,.cons n t h=>.cons ⟨t,rfl⟩ (zgC h)
def Only(H:Hp):Prop:=∀b,H b=none\/∃o xs,H b=some (.frz o (.lst xs))
theorem znf{P:Program}{w:World}{K:Fg}{mg mb:SV}{CX:CXT}{k:Nat}{fa a:Addr}{fd:FuncData}{x:Str}{sp:Sp}{s₁:Shared}{vs:List Value}{ns:List Int}(KX:K.In s₁.heap)(hns:s₁.heap.Ns mainGlobals mg)(hb:s₁.heap.Ns builtinsNs mb)(hbb:∀x:Str,x≠"__name__"->mb x=bootBuiltins x)(hlim:s₁.heap.NoLimit)(hg:s₁.gens=#[])(ha:s₁.heap.get? a=some {cls:=.type "list",data:=.seq vs.toArray})(hi:IntsAre vs ns)(hl:ns.length<=sizeLine)(hr:jI k callerA)(F:∀base:Heap,K.In base->base.Ns mainGlobals mg->xU P w K mg base CX k fa fd [x] sp)(hbind:∀(s:Shared) (u:Value),BindsTo s fd ⟨[u],[]⟩ [(x,u)])(hsp:∀H:Hp,Only H->SqL K H a (ns.map V.int)->sp [.ref a] H (λv _=>v=.bl true) λ_ _ _=>False)(hCX:∀H e s',CX [] H s₁ (λ_ _ _=>False) e s'->False):
  codeAny (model P w) callerA (.call (.ref fa) ⟨[.ref a],[]⟩) (λr s'=>r=.ok (.ret (.bool true))/\OldK s₁.heap s'.heap/\s'.os=s₁.os/\AllBare s'.gens) s₁:=by
 have rv:=zgC hi;have lenV:=hi.length;have core:∀H:Hp,Only H->SqL K H a (ns.map V.int)->HOk P w H s₁.heap->(∀b,H b≠none->b=a)->(H a≠none->K.lookup a=none)->
   codeAny (model P w) callerA (.call (.ref fa) ⟨[.ref a],[]⟩) (λr s'=>r=.ok (.ret (.bool true))/\OldK s₁.heap s'.heap/\s'.os=s₁.os/\AllBare s'.gens) s₁:=by
  intro H hO hS hok hA hK;have base_of:∀{b:Addr}{o:Obj},s₁.heap.get? b=some o->H b=none->(hidT s₁.heap H).get? b=some o:=λe n=>znl e n
  have noA:∀{b:Addr}{o:Obj} {es:Array DictEntry}{ep:Nat},s₁.heap.get? b=some o->o.data=.dict es ep->H b=none:=λ{b o es ep} e d=>by
   cases q:H b with
   |none=>rfl
   |some u=>
    have e':b=a:=hA b (by rw[q];simp);subst e';rw[ha]at e;cases e
    have d':Data.seq vs.toArray _=Data.dict es ep:=d;cases d'
  have nsK:∀{b:Addr}{m:SV},s₁.heap.Ns b m->(hidT s₁.heap H).Ns b m:=λ{b m} ⟨o,es,ep,e,d,r⟩=>⟨o,es,ep,base_of e (noA e d),d,r⟩
  have hKb:K.In (hidT s₁.heap H):=λb o e=>base_of (KX b o e) (by
   cases q:H b with
   |none=>rfl
   |some u=>
    have e':b=a:=hA b (by rw[q];simp);subst e';rw[hK (by rw[q];simp)]at e;cases e)
  have hM:Mod K mg (hidT s₁.heap H):=⟨hKb,nsK hns,⟨mb,nsK hb,hbb⟩,let⟨mc,h1,h2⟩:=hlim;⟨mc,nsK h1,h2⟩⟩;have e0:Env0 P w K mg (hidT s₁.heap H) callerA [] s₁ H:=⟨rfl,hM,λb o e=>zpf e,Nat.le_of_eq (zlr _ _),trivial,λb hb=>absurd (show b∈([]:List Addr)from hb) (by simp),hok,.of_eq hg⟩;refine codeAny_mono ((F _ hKb (nsK hns)).run callerA [] s₁ H ⟨[.ref a],[]⟩ [.ref a] [.ref a] _ _ hr e0 (hbind s₁ (.ref a)) (.cons rfl .nil) (hsp H hO hS)) λr s' h=>?_
  cases r with
  |error e=>exact(hCX H e s' h).elim
  |ok fl=>
   cases fl with
   |next=>exact False.elim h
   |brk=>exact False.elim h
   |cont=>exact False.elim h
   |ret u=>
    obtain⟨v,H',os,bare,un,hok',r',q⟩:=h;have q':v=.bl true:=q;subst q';obtain rfl:u=Value.bool true:=r';refine⟨rfl,OldK.of_keep λb o e=>?_,os,bare⟩;cases q:H b with
    |none=>exact un.keep b o e q (by intro z;exact absurd (show b∈([]:List Addr)from z) (by simp)) (by simp)
    |some u=>
     rcases hO b with z|⟨ob,xs,z⟩
     ·rw[q]at z;cases z
     ·have z2:=un.frzs b ob _ z;obtain⟨e1,_⟩:=hok b _ z;obtain⟨e2,_⟩:=hok' b _ z2;rw[e]at e1;cases e1
      exact e2
 cases hk:K.lookup a with
 |some o=>
  have e:=KX a o hk;rw[ha]at e;cases e
  refine core (λ_=>none) (λ_=>.inl rfl) (.inr ⟨_,vs.toArray,_,hk,rfl,rfl,rfl,by rw[Jb,lenV];exact hl,by simpa using rv⟩) (λb u z=>by have z':(none:Option HO)=some u:=z;cases z') (λb z=>absurd rfl z) λz=>absurd rfl z
 |none=>
  refine core (λb=>if b=a then some (.frz {cls:=.type "list",data:=.seq vs.toArray} (.lst (ns.map V.int)))else none) (λb=>?_) (.inl (.inr ⟨{cls:=.type "list",data:=.seq vs.toArray},if_pos rfl⟩)) (λb u z=>?_) (λb z=>?_) λ_=>hk
  ·by_cases hb:b=a
   ·exact .inr ⟨_,_,if_pos hb⟩
   ·exact .inl (if_neg hb)
  ·by_cases hb:b=a
   ·have z':=(if_pos hb).symm.trans z;cases z'
    subst hb;exact⟨ha,by rw[Ja];exact hl,vs,_,rv,ha⟩
   ·have z':=(if_neg hb).symm.trans z;cases z'
  ·by_cases hb:b=a
   ·exact hb
   ·exact absurd (if_neg hb) z
theorem walk_of{l:PySem.W.OpenLaw}{n k:Nat}{q:Program}{loose:List Str}{XP:(SV)->Heap->Prop}{YP:World->Heap->Prop}{d:DefRec}{K:Params->Fg}{CX:World->CXT}{sp:World->Sp}{x:Str}(hn:l.most=some n)(hn2:n<=sizeLine)(hdf:d.params.defaults=[])(hr:jI k callerA)(hY:∀(w:World) (h:Heap),YP w h->(K w.params).In h)(F:∀(w:World) (mg:SV) (fa:Addr) (h:Heap),(K w.params).In h->h.Ns mainGlobals mg->mg d.name=some (.ref fa)->
   ∃fd:FuncData,(∀(s:Shared) (u:Value),BindsTo s fd ⟨[u],[]⟩ [(x,u)])/\
    ∀base:Heap,(K w.params).In base->base.Ns mainGlobals mg->xU l.prog w (K w.params) mg base (CX w) k fa fd [x] (sp w))(hsp:∀(w:World) (H:Hp) (a:Addr) (ns:List Int),ns.length<=n->PySem.W.WData.layableAll [PySem.W.WData.list (ns.map PySem.W.WData.int)]=true->Only H->SqL (K w.params) H a (ns.map V.int)->sp w [.ref a] H (λv _=>v=.bl true) λ_ _ _=>False)(hCX:∀(w:World) (H:Hp) (s:Shared) (e:Value) (s':Shared),CX w [] H s (λ_ _ _=>False) e s'->False):
  PySem.W.WalkO q loose XP YP l.row.toRowW d [] (λf vs=>PySem.call f vs):=by
 refine Att.attach_call hn hdf λw s₀ s₁ mg mb fa o pm cd doc a vs ns G Y ho hd hcd hmg hobj hints hlen hlay hg=>?_
 have KX:=hY w _ Y;obtain⟨fd,hb,hF⟩:=F w mg fa _ KX G.T.g hmg;exact znf KX G.T.g G.T.b G.T.builtins G.T.nolimit hg hobj hints (Jt hlen hn2) hr hF hb (λH hO hS=>hsp w H a ns hlen hlay hO hS) λH e s'=>hCX w H s₁ e s'
end L2
/- THE LAST THEOREM (shape;LID,My.*are yours):
  My.Adr:a structure of the addresses that your layer names (classes,functions);My.Txt K t:a structure (Prop) of the equations over K;
  My.txt_mk:{K} {implicit addresses ..} (e1:nsIn K mainGlobals "law"=some (some (.ref f))) (e2:K.lookup f=some ⟨oc,od,.func (fnOf "law" "law" params body scope dV kV doc pm an cdv ct),sl⟩) (e3:codeIn K cdv "law"=true) ..:∃t,My.Txt K t
theorem PySem.Challenge.cw_LID_holds:PySem.Challenge.rw_LID.Holds:=by
 w_on;o_law;k_head;(case hw=>w_witness2)
 k_fill
 refine L2.walk_of (l:=PySem.Challenge.rw_LID) (n:=63) (k:=40) (x:="script") (CX:=λw=>..) (sp:=λ_=>My.sp_law) rfl (by decide) rfl ⟨rfl,by decide,by decide⟩ (λw h Y=>PySem.W.kIn_of Y) ?F ?S ?C
 case F=>
  intro w mg fa h KX G hmg;have T:∃t,My.Txt (L2.KOf KX) t:=by
   dsimp only[L2.KOf] -- K must stand as «<heap const> w.params» for k_is
   refine' My.txt_mk ?e1 ?e2 ?e3 ..
   (case e1=>PySem.W.k_is) -- in the order:a name->its address->its object->its parts
   (case e2=>PySem.W.k_is)
   ..
  obtain⟨t,T⟩:=T;have e0:=hmg.symm.trans (PySem.W.mg_of KX G T.law);cases e0 -- fa is the law's own address
  exact⟨_,λs u=>.of_eq rfl,λbase kb nb=>My.law_fn T kb nb⟩ -- if «.of_eq rfl» comes too early:refine' ⟨_,?b,λbase kb nb=>My.law_fn T kb nb⟩;exact λs u=>.of_eq rfl
 case S=>exact λw H a ns hl hO hS=>..
 case C=>exact ..
(the tactic k_is has no namespace:write k_is) -/
namespace L2
def zgf(s:Stmt):Arguments:=match s with
 | .FunctionDef _ a _ _ _ _ _ _ _ _=>a
 |_=>{posonlyargs:=[],args:=[],vararg:=none,kwonlyargs:=[],kw_defaults:=[],kwarg:=none,defaults:=[]}
def nN(s:Stmt):List Stmt:=match s with
 | .FunctionDef _ _ b _ _ _ _ _ _ _=>b
 |_=>[]
def kR(s:Stmt):Scope:=match s with
 | .FunctionDef _ _ _ _ _ _ sc _ _ _=>sc
 |_=>{kind:=.function,names:=[],isGenerator:=false,isCoroutine:=false}
abbrev CX0:CXT:=λ_ _ _ _ _ _=>False
abbrev E0:XK:=λ_ _ _=>False
variable{X:Cx}
theorem zoV:zmh CX0 X E0:=λ_ _ _ _ _ _ _ h=>h.elim
structure Fun(K:Fg)(x qual:Str)(st:Stmt)(f:Addr)(fd:FuncData):Prop where
 ex:∃(oc:Value) (od:Option Addr) (kV doc pm:Value) (an:Option Addr) (cdv ct:Value) (osl:Array (Option Value)),
  fd=PySem.W.fnOf x qual (zgf st) (nN st) (kR st) .none kV doc pm an cdv ct/\K.lookup f=some ⟨oc,od,.func fd,osl⟩/\PySem.W.codeIn K cdv qual=true
 kp:PySem.W.keepIn K (.ref f)=true
variable{x qual:Str}{f:Addr}{fd:FuncData}{N ps:List Str}
section
variable{P:Program}{w:World}{K:Fg}{mg:SV}{base:Heap}
theorem Fun.ok{st:Stmt}{k:Nat}{sp:Sp}(F:Fun K x qual st f fd)(S:zbb N ps (kR st))(len:∀vs H Q E,sp vs H Q E->vs.length=ps.length)(hbody:∀(cdv:Value) (A:Around) (outer:List Env) (s:Shared) (H:Hp) (vs:List V) (Q:VK) (E:XK),jI k (A.deeper (envOfC qual (kR st) s.heap.objs.size f cdv))->sp vs H Q E->
   ∃t,PSs (gS CX0 P w K mg base N qual (kR st) f cdv A outer s H E).nox (nN st) t/\t {nx:=λ_ H'=>Q .non H',rt:=Q} (start N vs) H):xU P w K mg base CX0 (k+1) f fd ps sp:=by
 obtain⟨oc,od,kV,doc,pm,an,cdv,ct,osl,rfl,lk,hcd⟩:=F.ex;refine zsI lk hcd S len λA outer s H vs Q E hr hsp=>?_
 obtain⟨t,h,q⟩:=hbody cdv A outer s H vs Q E hr hsp;exact⟨t,h.nox,q⟩
theorem Fun.binds{st:Stmt}(F:Fun K x qual st f fd)(h:∀(kV doc pm:Value) (an:Option Addr) (cdv ct:Value) (us:List Value),us.length=ps.length->bindArgs (PySem.W.fnOf x qual (zgf st) (nN st) (kR st) .none kV doc pm an cdv ct) ⟨us,[]⟩=pure (ps.zip us)):gW K fd ps []:=by obtain⟨oc,od,kV,doc,pm,an,cdv,ct,osl,rfl,lk,hcd⟩:=F.ex;exact .all (h kV doc pm an cdv ct)
end
section
variable{X:Cx}
end
variable{A B:Prop}
theorem iteF(h:B):if false=true then A else B:=by rw[if_neg JR];exact h
theorem iteT(h:A):if true=true then A else B:=by rw[if_pos rfl];exact h
def zP(H H':Hp):Prop:=∀b o,H b=some o->H' b=some o
theorem zP.refl(H:Hp):zP H H:=λ_ _ h=>h
variable{H H2:Hp}
theorem zP.trans{H1:Hp}(a:zP H H1)(b:zP H1 H2):zP H H2:=λc o h=>b c o (a c o h)
variable{H':Hp}
theorem zP.free(e:zP H H'){l:Addr}(h:H' l=Option.none):H l=Option.none:=by
 cases q:H l with
 |none=>rfl
 |some o=>
  rw[e l o q]at h;cases h
theorem zP.seq{K:Fg}{a:Addr}{xs:List V}(e:zP H H')(h:SqL K H a xs):SqL K H' a xs:=by
 rcases h with(h|⟨o,h⟩)|h
 ·exact .inl (.inl (e _ _ h))
 ·exact .inl (.inr ⟨o,e _ _ h⟩)
 ·exact .inr h
noncomputable def qK(env:Env):List (Str×NameKind)->List (Str×Addr)->List (Str×Addr)
 |[],acc=>acc
 |(n,k)::r,acc=>qK env r (if k=.free then(n,(env.cells.lookup n).getD 0)::acc else acc)
variable{env:Env}{scope:Scope}
theorem zda(h:∀y∈scope.names,y.2=.free->∃c,env.cells.lookup y.1=some c):closureFor scope env=pure (qK env scope.names []):=by
 unfold closureFor;have go:∀(l:List (Str×NameKind)) (acc:List (Str×Addr)),(∀y∈l,y.2=.free->∃c,env.cells.lookup y.1=some c)->
   (forIn l acc (λ(x:Str×NameKind) (r:List (Str×Addr))=>(match x with|(name,kind)=>if(kind== .free)=true then(do let c ←cellOf env name;pure (ForInStep.yield ((name,c)::r)))else(pure (ForInStep.yield r)):Sem (ForInStep (List (Str×Addr))))):Sem (List (Str×Addr)))=pure (qK env l acc):=by
  intro l;induction l with
  |nil=>intro acc _;rfl
  |cons a r ih=>
   intro acc hl;obtain⟨n,k⟩:=a;have hr:∀y∈r,y.2=.free->∃c,env.cells.lookup y.1=some c:=λy hy=>hl y (Je _ hy)
   rw[List.forIn_cons];by_cases hk:k=.free
   ·subst hk;obtain⟨c,hc⟩:=hl (n,.free) JK rfl;simp only[qK,if_true];have e:cellOf env n=pure c:=by unfold cellOf;rw[show env.cells.lookup n=some c from hc]
    simp only[e,beq_self_eq_true,if_true,pure_bind];rw[show env.cells.lookup n=some c from hc];exact ih _ hr
   ·have hb:(k==NameKind.free)=false:=by simpa using hk
    simp only[qK,if_neg hk,hb,Bool.false_eq_true,if_false,pure_bind];exact ih _ hr
 have:=go scope.names [] h;simpa using this
theorem zgm{env:Env}:∀(l:List (Str×NameKind)) (acc:List (Str×Addr)),(∀y∈l,y.2=.free->∃c,env.cells.lookup y.1=some c)->(∀x c,acc.lookup x=some c->env.cells.lookup x=some c)->
  ∀x c,(qK env l acc).lookup x=some c->env.cells.lookup x=some c
 |[],_,_,ha=>ha
 |(n,k)::r,acc,hl,ha=>by
  refine zgm r _ (λy hy=>hl y (Je _ hy)) ?_;intro x c hx;by_cases hk:k=.free
  ·rw[if_pos hk,JX]at hx;obtain⟨c',hc⟩:=hl (n,k) JK hk;cases e:x==n with
   |true=>
    rw[e]at hx;have ex:x=n:=eq_of_beq e;subst ex;have hc':env.cells.lookup x=some c':=hc;rw[hc']at hx ⊢;exact hx
   |false=>rw[e]at hx;exact ha x c hx
  ·rw[if_neg hk]at hx;exact ha x c hx
theorem zgn{env:Env}:∀(l:List (Str×NameKind)) (acc:List (Str×Addr)) (x:Str),((x,NameKind.free)∈l\/∃c,acc.lookup x=some c)->∃c,(qK env l acc).lookup x=some c
 |[],_,x,h=>by
  rcases h with h|h
  ·cases h
  ·exact h
 |(n,k)::r,acc,x,h=>by
  refine zgn r _ x ?_;rcases h with h|⟨c,h⟩
  ·rcases JC.mp h with h|h
   ·cases h
    refine .inr ⟨(env.cells.lookup n).getD 0,?_⟩;rw[if_pos rfl,JX];simp
   ·exact .inl h
  ·by_cases hk:k=.free
   ·rw[if_pos hk];cases e:x==n with
    |true=>exact .inr ⟨(env.cells.lookup n).getD 0,by rw[JX,e]⟩
    |false=>exact .inr ⟨c,by rw[JX,e];exact h⟩
   ·rw[if_neg hk];exact .inr ⟨c,h⟩
theorem zdc{names:List (Str×NameKind)}(hc:∀y∈names,y.2≠.cell){k:NameKind}(hk:k=.cell\/k=.free)(h:(names.map λ(p:Str×NameKind)=>if(p.2==NameKind.free&&env.scope.kind== .function&&env.kindOf p.1==some .cell)then(p.1,NameKind.cell)else(p.1,p.2)).lookup x=some k):(x,NameKind.free)∈names:=by
 obtain⟨⟨n,k0⟩,hm,e⟩:=Jk.mp (Qr h);have n0:=hc _ hm;simp only at e n0;by_cases hq:(k0==NameKind.free&&env.scope.kind== .function&&env.kindOf n==some .cell)=true
 ·rw[if_pos hq]at e;simp only[Bool.and_eq_true]at hq
  have:k0=.free:=eq_of_beq hq.1.1;subst this;cases e
  exact hm
 ·rw[if_neg hq]at e;cases e
  rcases hk with rfl|rfl
  ·exact absurd rfl n0
  ·exact hm
def jC(X:Cx)(N:List Str)(scope:Scope)(cl:List (Str×Addr))(C:Addr)(s0:Shared)(H0:Hp)(fp:List Addr):Cx:=
 {prog:=X.prog,w:=X.w,K:=X.K,mg:=X.mg,base:=X.base,A:=X.A,N:=N,s₀:=s0,H₀:=H0,env:=compEnvC scope cl C X.env,outer:=X.stack,stack:=X.stack,ex:=fp,fn:=λ_=>false,calm:=X.calm,pn:=[],xe:=λ_ _=>False}
inductive Cap(X:Cx)(scope:Scope):List Str->ON->Prop
 |nil:Cap X scope [] []
 |own {x N c}:Cap X scope N c->Cap X scope (x::N) (none::c)
 |cap {x j N c} (h:Cap X scope N c) (h1:X.N[j]?=some x:=by rfl) (h2:scope.names.lookup x=some .free:=by rfl) (h3:X.env.kindOf x=some .cell\/X.env.kindOf x=some .free:=by first|exact Or.inl rfl|exact Or.inr rfl):
   Cap X scope (x::N) (some j::c)
variable{c:ON}
theorem Cap.len(h:Cap X scope N c):c.length=N.length:=by
 induction h with
 |nil=>rfl
 |own _ ih=>simp[ih]
 |cap _ _ _ _ ih=>simp[ih]
theorem Cap.get(h:Cap X scope N c):∀{i j:Nat}{x:Str},c[i]?=some (some j)->N[i]?=some x->
  X.N[j]?=some x/\scope.names.lookup x=some .free/\(X.env.kindOf x=some .cell\/X.env.kindOf x=some .free):=by
 induction h with
 |nil=>intro i j x h;simp at h
 |own _ ih=>
  intro i j x h1 h2;cases i with
  |zero=>simp at h1
  |succ i=>exact ih (by simpa using h1) (by simpa using h2)
 |cap _ a b d ih=>
  intro i j x h1 h2;cases i with
  |zero=>simp at h1 h2;subst h1 h2;exact⟨a,b,d⟩
  |succ i=>exact ih (by simpa using h1) (by simpa using h2)
noncomputable def st0(cap:ON)(σ:St):St:=cap.map λo=>match o with
 |some j=>(σ[j]?).getD none
 |none=>none
structure yH(X:Cx)(scope:Scope):Prop where
 kind:scope.kind=.function
 cells:∀y∈scope.names,y.2≠.cell
 names:∀y∈scope.names,y.2=.local->scope.names.lookup y.1=some .local
 free:∀y∈scope.names,y.2=.free->X.env.kindOf y.1=some .cell\/X.env.kindOf y.1=some .free
theorem yH.mk'(h1:scope.kind=.function:=by rfl)(h2:(scope.names.all λy=>decide (y.2≠.cell))=true:=by rfl)(h3:(scope.names.all λy=>decide (y.2≠.local)||decide (scope.names.lookup y.1=some .local))=true:=by rfl)(h4:(scope.names.all λy=>decide (y.2≠.free)||(decide (X.env.kindOf y.1=some .cell)||decide (X.env.kindOf y.1=some .free)))=true:=by rfl):yH X scope where
 kind:=h1
 cells:=λy hy=>QE (JP.mp h2 y hy)
 names:=λy hy hl=>by
  have:=JP.mp h3 y hy;rw[Bool.or_eq_true]at this;rcases this with z|z
  ·exact absurd hl (QE z)
  ·exact QE z
 free:=λy hy hl=>by
  have:=JP.mp h4 y hy;rw[Bool.or_eq_true,Bool.or_eq_true]at this;rcases this with z|z|z
  ·exact absurd hl (QE z)
  ·exact .inl (QE z)
  ·exact .inr (QE z)
section
variable{X:Cx}{pins:AO}{σ:St}{H H3:Hp}{s s3:Shared}{N:List Str}{cap:ON}{scope:Scope}{fp:List Addr}{C:Addr}
theorem yH.cellsOf(S:yH X scope)(ok:X.Ok):∀y∈scope.names,y.2=.free->∃c,X.env.cells.lookup y.1=some c:=λy hy hf=>ok.has y.1 (S.free y hy hf)
theorem zpH(S:yH X scope)(I3:Inv X pins σ H3 s3)(f3:∀b∈fp,yL X pins H3 b)(hfp:∀b∈fp,b<s3.heap.objs.size)(hC:s3.heap.objs.size<=C):
  (jC X N scope (qK X.env scope.names []) C s3 H3 fp).Ok:=by
 have sub:=zgm (env:=X.env) scope.names [] (S.cellsOf I3.ok) (λx c h=>by simp at h);refine⟨I3.ok.mod,S.kind,I3.ok.glob,I3.ok.blt,hC,λx y c h1 h2=>I3.ok.inj x y c (sub x c h1) (sub y c h2),λx hx=>?_,λx c h=>absurd (show false=true from h) JR,I3.ok.hd,I3.ok.frames,.inl rfl,λb hb=>⟨?_,λx c h=>?_⟩,
  I3.bs,Jt I3.ok.bsz I3.sz,λb o e hb=>?_,λb hb=>?_,I3.stack,I3.stkFree⟩
 ·refine zgn scope.names [] x (.inl ?_);rcases hx with hx|hx
  ·exact zdc S.cells (.inl rfl) hx
  ·exact zdc S.cells (.inr rfl) hx
 ·exact Jv (Js (hfp b hb) hC)
 ·exact(f3 b hb).2.2.2.2.1 x c (sub x c h)
 ·obtain⟨_,_,_,h,_⟩:=f3 b hb;rcases h with h|h
  ·exact I3.ok.noex b o e h
  ·exact absurd (Js (Jf e) (Jt I3.ok.bsz h)) (JZ _)
 ·intro hz;obtain⟨_,h1,h2,_⟩:=f3 b hb;rcases JC.mp (I3.stkSub b hz)with z|z
  ·exact h1 z
  ·exact h2 z
theorem zni(S:yH X scope)(cp:Cap X scope N cap)(I3:Inv X pins σ H3 s3)(f3:∀b∈fp,yL X pins H3 b)(hfp:∀b∈fp,b<s3.heap.objs.size)(hC:s3.heap.objs.size<=C)(os:s.os=s3.os)(bare:AllBare s.gens)(un:Un (frs X.stack) fp H3 H s3.heap s.heap)(ns:∃m,s.heap.Ns C m)(fC:H C=none)(hok:HOk X.prog X.w H s.heap):
  Inv (jC X N scope (qK X.env scope.names []) C s3 H3 fp) [] (st0 cap σ) H s:=by
 have sub:=zgm (env:=X.env) scope.names [] (S.cellsOf I3.ok) (λx c h=>by simp at h);have cellK:∀x c,X.env.cells.lookup x=some c->∀v,s3.heap.IsCell c v->s.heap.IsCell c v:=λx c e v ⟨o,ho,hd⟩=>by
  obtain⟨sl,q⟩:=un.any ho (I3.freeC x c e) λz=>(f3 c z).2.2.2.2.1 x c e rfl
  exact⟨_,q,hd⟩
 obtain⟨m,hm⟩:=ns;refine⟨zpH S I3 f3 hfp hC,os,bare,un,⟨m,hm,λi x v h1 h2 h3=>?_⟩,λx c h=>?_,fC,λx c h=>?_,λp hp=>absurd (show p∈([]:AO)from hp) (by simp),hok,?_⟩
 ·unfold st0 at h2;rw[List.getElem?_map]at h2;cases e:cap[i]? with
  |none=>rw[e]at h2;cases h2
  |some o=>
   rw[e]at h2;cases o with
   |none=>simp at h2
   |some j=>
    obtain⟨a1,a2,a3⟩:=cp.get e h1;simp only[Option.map_some]at h2;have h2':(σ[j]?).getD none=some v:=Option.some.inj h2;have h2'':σ[j]?=some (some v):=by
     cases q:σ[j]? with
     |none=>rw[q]at h2';cases h2'
     |some z=>rw[q]at h2';simp at h2';rw[h2']
    obtain⟨m0,_,hl⟩:=I3.loc;have vis:Vis X.env.scope x:=by
     rcases a3 with z|z
     ·exact .inr (.inl z)
     ·exact .inr (.inr z)
    obtain⟨u,r,l⟩:=hl j x v a1 h2'' vis;refine⟨u,r,?_⟩;rcases l with⟨k,_⟩|⟨_,c,e1,z⟩
    ·rcases a3 with q|q
     ·rw[q]at k;cases k
     ·rw[q]at k;cases k
    ·obtain⟨c',hc'⟩:=zgn (env:=X.env) scope.names [] x (.inl (Qr a2))
     have:=sub x c' hc';rw[e1]at this;cases this
     refine .inr ⟨?_,c,hc',cellK x c e1 _ z⟩;have vis2:(jC X N scope (qK X.env scope.names []) C s3 H3 fp).env.kindOf x=some .local\/(jC X N scope (qK X.env scope.names []) C s3 H3 fp).env.kindOf x=some .cell\/(jC X N scope (qK X.env scope.names []) C s3 H3 fp).env.kindOf x=some .free:=h3;rcases vis2 with z1|z1
     ·-- a local name of the block is not free there
      exfalso;have z2:(scope.names.map λ(p:Str×NameKind)=>if(p.2==NameKind.free&&X.env.scope.kind== .function&&X.env.kindOf p.1==some .cell)then(p.1,NameKind.cell)else(p.1,p.2)).lookup x=some .local:=z1;have key:∀l:List (Str×NameKind),l.lookup x=some .free->(l.map λ(p:Str×NameKind)=>if(p.2==NameKind.free&&X.env.scope.kind== .function&&X.env.kindOf p.1==some .cell)then(p.1,NameKind.cell)else(p.1,p.2)).lookup x≠some .local:=by
       intro l;induction l with
       |nil=>intro h;simp at h
       |cons p l ih=>
        obtain⟨n,k⟩:=p;intro h;rw[Jg];cases ex:x==n with
        |true=>
         rw[JX,ex]at h;cases h
         intro q;by_cases hq:((NameKind.free==NameKind.free)&&X.env.scope.kind== .function&&X.env.kindOf n==some .cell)=true
         ·rw[if_pos hq,JX,ex]at q;cases q
         ·rw[if_neg hq,JX,ex]at q;cases q
        |false=>
         rw[JX,ex]at h;intro q;by_cases hq:((k==NameKind.free)&&X.env.scope.kind== .function&&X.env.kindOf n==some .cell)=true
         ·rw[if_pos hq,JX,ex]at q;exact ih h q
         ·rw[if_neg hq,JX,ex]at q;exact ih h q
      exact key _ a2 z2
     ·exact z1
 ·obtain⟨v,z⟩:=I3.cell x c (sub x c h);exact⟨v,cellK x c (sub x c h) v z⟩
 ·obtain⟨v,o,ho,_⟩:=I3.cell x c (sub x c h);exact un.free c o ho (I3.freeC x c (sub x c h)) λz=>(f3 c z).2.2.2.2.1 x c (sub x c h) rfl
 ·show(st0 cap σ).length=N.length;unfold st0;rw[Ja];exact cp.len
end
def PIf(Y:Cx)(ifs:List Expr)(t:TT):Prop:=
 ∀(pins:AO) (s:Shared) (σ:St) (H:Hp) (Q:Bool->Hp->Prop),Inv Y pins σ H s->t σ H Q->
  wpAny (model Y.prog Y.w) Y.A (forIn ifs true λc r=>if r=true then do let ok ←isTrue c Y.env (eval c Y.env);pure (ForInStep.yield ok)else pure (ForInStep.yield r)) (TP Y pins σ Q) Y.xe s
def tYes:TT:=λ_ H Q=>Q true H
variable{Y:Cx}
theorem zoN:PIf Y [] tYes:=λ_ _ _ H _ I h=>wpAny_tests_nil ⟨H,I,h⟩
theorem zoM{c:Expr}{t:TT}(h:PT Y c t):PIf Y [c] t:=λpins s σ H Q I hw=>wpAny_tests_one (h pins s σ H Q I hw)
variable{e:Expr}{newAcc:Sem Value}{act:Value->Env->Sem Unit}{ho:HO}{wi:TI}{p py spos:Pos}{y:Str}
section
variable{X:Cx}{pins:AO}{σ:St}{N:List Str}{cap:ON}{scope:Scope}{tg iter elt:Expr}{ifs:List Expr}{pos:Pos}{g:TG}{tt:TT}{te:TE}
abbrev TAct:=St->Hp->(Hp->Prop)->Prop
def PAct(Y:Cx)(act:Value->Env->Sem Unit)(D:Addr)(t:TAct):Prop:=
 ∀(pins:AO) (s:Shared) (σ:St) (H:Hp) (Q:Hp->Prop),Inv Y pins σ H s->t σ H Q->wpAny (model Y.prog Y.w) Y.A (act (.ref D) Y.env) (λ_ s'=>∃σ' H',Inv Y pins σ' H' s'/\Q H') Y.xe s
def zgA(J:It)(g:TG)(tt:TT)(ta:Addr->TAct)(ho:HO)(cap:ON)(σ:St)(H1:Hp)(Q:VK):Prop:=
 ∀D,H1 D=none->∃W:Nat->Nat->Hp->Prop,(∃m,W 0 m (upd H1 D ho))/\∀i m H,W i m H->
  ((J.stop i H/\Q (.ref D) H)\/(J.go i H/\∀x H',J.yld i H x H'->g x (st0 cap σ) H' λσ2 H2=>tt σ2 H2 λb H3=>
   if b=true then ta D σ2 H3 λH4=>∃m',m'<m/\W (i+1) m' H4 else∃m',m'<m/\W (i+1) m' H3))
structure zbD(X:Cx)(e tg iter:Expr)(ifs:List Expr)(newAcc:Sem Value)(act:Value->Env->Sem Unit)(ho:HO):Prop where
 new:∀(pins:AO) (σ:St) (H:Hp) (s:Shared) (Q:VS) (E:VS),Inv X pins σ H s->
  (∀ob:Obj,Inv X pins σ (upd H s.heap.objs.size ho) {s with heap:=s.heap.push ob}->Q (.ref s.heap.objs.size) {s with heap:=s.heap.push ob})->wpAny (model X.prog X.w) X.A newAcc Q E s
 turn:∀(it:Value) (D:Addr) (env:Env),compTurn e 0 it (.ref D) env=(do
   standAt iter.pos
   match←pyNext it with
   |none=>pure (.done .next)
   |some v=>
    letOwnedTupleGo tg it v
    assign tg env v
    let mut ok:=true
    for c in ifs do
     if ok then ok ←isTrue c env (eval c env)
    if ok then act (.ref D) env
    again (.compLoop e 0 it (.ref D) env))
 loop:∀(A:Around) (it:Value) (D:Addr) (env:Env) (Q:Fin->Shared->Prop) (E:VS) (s:Shared),wpAny (model X.prog X.w) A ((compTurn e 0 it (.ref D) env).onRaise λx=>do noteFrame x env;theTreesLotGoes x) Q E s->
  wpAny (model X.prog X.w) (A.under (.compLoop e 0 it (.ref D) env)) ((model X.prog X.w).den (.compLoop e 0 it (.ref D) env)) Q E s
 start:∀{it acc:Value}{env:Env} {A:Around}{R:Result->Shared->Prop} {s:Shared},codeAny (model X.prog X.w) A (.compLoop e 0 it acc env) R s->
  wpAny (model X.prog X.w) A (pyIter it) (λit' s'=>codeAny (model X.prog X.w) A (.compLoop e 0 it' acc env) R s') (notedBy (model X.prog X.w) A env λx s'=>R (.error x) s') s->codeAny (model X.prog X.w) A (.compStart e 0 it acc env) R s
theorem zeB{ta:Addr->TAct}{s2:Shared}{J:It}{fp:List Addr}{it:Addr}{tn:Nat->Heap->Prop}{Q:VK}{RR:Value->Addr->Result->Shared->Prop}{E:VS}(ck:zbD X e tg iter ifs newAcc act ho)(hc:X.calm=true)(S:yH X scope)(cp:Cap X scope N cap)(hg:∀C s0 H0 fp,PG (jC X N scope (qK X.env scope.names []) C s0 H0 fp) tg g)(ht:∀C s0 H0 fp,PIf (jC X N scope (qK X.env scope.names []) C s0 H0 fp) ifs tt)(he:∀C s0 H0 fp D,PAct (jC X N scope (qK X.env scope.names []) C s0 H0 fp) act D (ta D))(I2:Inv X pins σ H2 s2)(T:Turn X.prog X.w X.K tg J fp it tn)(st2:tn 0 s2.heap)(f2:∀b∈fp,yL X pins H2 b)(hw:zgA J g tt ta ho cap σ H2 Q)(hRR:∀D C H' s' m',Inv X pins σ H' s'->s'.heap.Ns C m'->H' C=none->C≠X.env.locals->X.s₀.heap.objs.size<=C->(∀x c,X.env.cells.lookup x=some c->c≠C)->(∀p∈X.pn++pins,p.1≠C)->Q (.ref D) H'->RR (.ref D) C (.ok .next) s'):
  wpAny (model X.prog X.w) X.A newAcc (λacc s3=>wpAny (model X.prog X.w) X.A (newFunctionEnv scope X.env.globals (qK X.env scope.names []) [] X.env.qual none .none (some X.env)) (λcenv s4=>
   codeAny (model X.prog X.w) X.A (.compStart e 0 (.ref it) acc {cenv with scope:=relabel scope X.env}) (RR acc cenv.locals) s4) E s3) E s2:=by
 refine ck.new pins σ H2 s2 _ _ I2 λob I3=>wpAny_newFunctionEnv S.cells (by intro y hy;simp at hy) (λh1 hns1 hsb1=>?_) S.kind
 dsimp only at hns1 hsb1 ⊢;have D0:H2 s2.heap.objs.size=none:=I2.fresh;obtain⟨W,⟨m0,w0⟩,turn⟩:=hw s2.heap.objs.size D0;generalize hs3:({s2 with heap:=s2.heap.push ob}:Shared)=s3 at I3;have e3:s3.heap=s2.heap.push ob:=by rw[←hs3]
 have z3:s3.heap.objs.size=s2.heap.objs.size+1:=by rw[e3,Qm]
 rw[←e3]at hns1 hsb1 ⊢;generalize hD:s2.heap.objs.size=D at*;generalize hC:s3.heap.objs.size=C at*;have fp2:∀b∈fp,b<D:=λb hb=>by obtain⟨o,e,_⟩:=T.obj 0 _ st2 b hb;rw[←hD];exact Jf e
 have f3:∀b∈fp,yL X pins (upd H2 D ho) b:=λb hb=>by obtain⟨a1,a2⟩:=f2 b hb;exact⟨by rw[zW (Jv (fp2 b hb))];exact a1,a2⟩
 have hfp:∀b∈fp,b<s3.heap.objs.size:=λb hb=>by rw[hC,z3];exact Nat.lt_succ_of_lt (fp2 b hb)
 have old:∀b o,s3.heap.get? b=some o->h1.get? b=some o:=λb o e=>
  hsb1.extBut b o (Jv (by rw[←hC];exact Jf e)) (Heap.get?_push_of_some _ e)
 have old2:∀b o,s2.heap.get? b=some o->s3.heap.get? b=some o:=λb o e=>by rw[e3];exact Heap.get?_push_of_some _ e
 have ds4:∀s4:Shared,s4={s2 with heap:=h1,toks:=s2.toks+([]:List (Str×Value)).length}->
   codeAny (model X.prog X.w) X.A (.compLoop e 0 (.ref it) (.ref D) (compEnvC scope (qK X.env scope.names []) C X.env)) (RR (.ref D) C) s4:=by
  intro s4 es4;have os4:s4.os=s3.os:=by rw[es4,←hs3]
  have bare4:AllBare s4.gens:=by rw[es4];exact I2.bare
  have heap4:s4.heap=h1:=by rw[es4]
  have st4:tn 0 s4.heap:=by rw[heap4];exact T.keep _ _ _ st2 λb _ o e=>old b o (old2 b o e)
  refine codeAny_loop rfl (λn s=>∃i H,s.os=s3.os/\AllBare s.gens/\Un (frs X.stack) fp (upd H2 D ho) H s3.heap s.heap/\(∃m,s.heap.Ns C m)/\H C=none/\HOk X.prog X.w H s.heap/\tn i s.heap/\(∀b∈fp,H b=none)/\W i n H)
   (λn s hI=>?_) m0 ⟨0,_,os4,bare4,by rw[heap4];exact Un.kept old,by rw[heap4];exact⟨_,hns1⟩,I3.hok.fresh (Nat.le_of_eq hC),by rw[heap4];exact I3.hok.kept old,st4,λb hb=>(f3 b hb).1,w0⟩
  obtain⟨i,H,os,bare,un,ns,fC,hok,st,fr,wi⟩:=hI;refine ck.loop _ _ _ _ _ _ _ ?_;refine wpAny_noted ?_;rw[ck.turn];have hCge:s3.heap.objs.size<=C:=Nat.le_of_eq hC;have IY:=zni S cp I3 f3 hfp hCge os bare un ns fC hok;generalize hYd:jC X N scope (qK X.env scope.names []) C s3 (upd H2 D ho) fp=Y at IY;have hYA:Y.A=X.A:=by rw[←hYd];rfl
  have hYenv:Y.env=compEnvC scope (qK X.env scope.names []) C X.env:=by rw[←hYd];rfl
  have hYp:Y.prog=X.prog:=by rw[←hYd];rfl
  have hYw:Y.w=X.w:=by rw[←hYd];rfl
  have hYK:Y.K=X.K:=by rw[←hYd];rfl
  have hYc:Y.calm=true:=by rw[←hYd];exact hc
  have hYxe:∀e s,¬Y.xe e s:=λe s z=>by rw[←hYd]at z;exact z
  have gY:PG Y tg g:=by rw[←hYd];exact hg _ _ _ _
  have tY:PIf Y ifs tt:=by rw[←hYd];exact ht _ _ _ _
  have eY:PAct Y act D (ta D):=by rw[←hYd];exact he _ _ _ _ _
  have stat:∀{H':Hp},(∀b∈fp,H' b=none)->∀b∈fp,yL Y [] H' b:=λ{H'} hn b hb=>by have okY:=IY.ok;refine⟨hn b hb,(okY.exf b (by rw[←hYd];exact hb)).1,okY.exfs b (by rw[←hYd];exact hb),.inl (by rw[←hYd];exact hb),λx c e=>(okY.exf b (by rw[←hYd];exact hb)).2 x c e,λp hp=>?_⟩;rw[←hYd]at hp;exact absurd (show p∈([]:AO)from hp) (by simp)
  have alt:=turn i n H wi;have base_of:∀{σ':St}{pins':AO} {H':Hp}{s':Shared},Inv Y pins' σ' H' s'->s'.os=s3.os/\AllBare s'.gens/\Un (frs X.stack) fp (upd H2 D ho) H' s3.heap s'.heap/\(∃m,s'.heap.Ns C m)/\H' C=none/\HOk X.prog X.w H' s'.heap:=λ{σ' pins' H' s'} I'=>by have b1:=I'.os;have b2:=I'.base;have b3:=I'.loc;have b4:=I'.free;have b5:=I'.hok;rw[←hYd]at b1 b2 b3 b4 b5;obtain⟨m,hm,_⟩:=b3;exact⟨b1,I'.bare,b2,⟨m,hm⟩,b4,b5⟩
  refine wpAny_bind (Qt (wpAny_bind ?_));rcases alt with⟨stop,qn⟩|⟨go,step⟩
  ·have h1:=T.done Y hYp hYw hYK hYc i [] s _ H (notedBy (model X.prog X.w) X.A (compEnvC scope (qK X.env scope.names []) C X.env) λe s'=>RR (.ref D) C (.error e) s') IY (stat fr) st stop;rw[hYA]at h1;refine JJ h1 (λr s5 h5=>?_) λ_ _ z=>z
   obtain⟨hr,I5⟩:=h5;subst hr;refine Jc ?_;obtain⟨os5,bare5,un5,⟨m5,ns5⟩,fC5,hok5⟩:=base_of I5;have IX:Inv X pins σ H s5:=I3.call' (ch:=fp) (by rw[os5]) un5 hok5 bare5 λb hb=>by obtain⟨_,a2,a3,a4,a5,a6⟩:=f3 b hb;exact⟨a4,a2,a5,a6⟩
   refine hRR D C H s5 m5 IX ns5 fC5 ?_ ?_ ?_ ?_ qn
   ·exact Nat.ne_of_gt (Js I3.lt hCge)
   ·exact Jt I3.sz hCge
   ·intro x c e z;obtain⟨v,q⟩:=I3.cell x c e;exact absurd (Js q.lt hCge) (by rw[z];exact JZ _)
   ·intro p hp z;exact absurd (Js (Jf (I3.pin p hp).1) hCge) (by rw[z];exact JZ _)
  ·have h1:=T.item Y hYp hYw hYK hYc i [] s _ H Y.xe IY (stat fr) st go;rw[hYA]at h1;refine JJ h1 (λr s5 h5=>?_) λe s' z=>absurd z (hYxe e s')
   obtain⟨u,hr,h5⟩:=h5;subst hr;refine wpAny_bind (JJ h5 (λ_ s6 h6=>?_) λe s' z=>absurd z (hYxe e s'));obtain⟨x,H6,I6,r6,y6,st6,fr6⟩:=h6;have I6':=I6.pinned (stat fr6) (T.obj _ _ st6);have h7:=gY _ s6 _ H6 x u _ I6' r6 (step x H6 y6);rw[hYA,hYenv,hYp,hYw]at h7;refine wpAny_bind (JJ h7 (λ_ s7 h7=>?_) λe s' z=>absurd z (hYxe e s'));obtain⟨σ7,H7,I7,q7⟩:=h7;have h8:=tY _ s7 σ7 H7 _ I7 q7;rw[hYA,hYenv,hYp,hYw]at h8;refine wpAny_bind (JJ h8 (λb s8 h8=>?_) λe s' z=>absurd z (hYxe e s'));obtain⟨H8,I8,q8⟩:=h8;have again:∀{σ9:St}{H9:Hp} {s9:Shared},Inv Y ([]++zgU fp s6.heap) σ9 H9 s9->(∃m',m'<n/\W (i+1) m' H9)->
     ∃m,m<n/\∃i H,s9.os=s3.os/\AllBare s9.gens/\Un (frs X.stack) fp (upd H2 D ho) H s3.heap s9.heap/\(∃m,s9.heap.Ns C m)/\H C=none/\HOk X.prog X.w H s9.heap/\tn i s9.heap/\(∀b∈fp,H b=none)/\W i m H:=λ{σ9 H9 s9} I9 ⟨m',hm,w9⟩=>by
    obtain⟨b1,b2,b3,b4,b5,b6⟩:=base_of I9;refine⟨m',hm,i+1,H9,b1,b2,b3,b4,b5,b6,T.keep _ _ _ st6 λb hb o e=>(I9.pin (b,o) (Ji _ (Ji _ (zaL hb e)))).1,λb hb=>?_,w9⟩;obtain⟨o,e,d⟩:=T.obj _ _ st6 b hb;exact(I9.pin (b,o) (Ji _ (Ji _ (zaL hb e)))).2.1
   cases b with
   |false=>
    simp only[Bool.false_eq_true,if_false]at q8 ⊢;exact Jc ⟨rfl,again I8 q8⟩
   |true=>
    simp only[if_true]at q8 ⊢;have h9:=eY _ s8 σ7 H8 _ I8 q8;rw[hYA,hYenv,hYp,hYw]at h9;refine wpAny_bind (JJ h9 (λ_ s9 h9=>?_) λe s' z=>absurd z (hYxe e s'));obtain⟨σ9,H9,I9,q9⟩:=h9;exact Jc ⟨rfl,again I9 q9⟩
 have st1:tn 0 h1:=T.keep _ _ _ st2 λb _ o e=>old b o (old2 b o e)
 exact ck.start (ds4 _ rfl) (T.self X.A 0 _ _ _ st1 (ds4 _ rfl))
noncomputable def actL(elt:Expr):Value->Env->Sem Unit:=λacc env=>do let _ ←call (.builtin "list.append") [acc,←eval elt env]
theorem zlT:zbD X (.ListComp elt [⟨tg,iter,ifs,0⟩] scope pos) tg iter ifs (newList []) (actL elt) (.lst [])where
 new:=λpins σ H s Q E I h=>JY (h _ (I.lnew (t':=s.toks) .nil (JD _)))
 turn:=λit D env=>by rw[compTurn_list];rfl
 loop:=λA it D env Q E s h=>h
 start:=λh0 h=>codeAny_compStart_list h0 h
def taL(te:TE)(D:Addr):TAct:=λσ H Q=>te σ H λv H4=>∃acc,H4 D=some (.lst acc)/\acc.length<sizeLine/\Q (upd H4 D (.lst (acc++[v])))
theorem zgX(he:PE Y elt te)(D:Addr):PAct Y (actL elt) D (taL te D):=by intro pins s σ H Q I h;unfold actL;refine wpAny_bind (thn (he pins s σ H _ I h) λv s9 ⟨v9,H9,I9,r9,acc,hD9,hlen,q9⟩=>?_);refine wpAny_bind (thn (zeb (X:=Y) _ s9 σ H9 (.ref D) [v9] (.ref D) [v] (λz Hz=>z=.non/\Hz=upd H9 D (.lst (acc++[v9]))) I9 rfl (.cons r9 .nil) ⟨D,acc,v9,rfl,rfl,hD9,hlen,rfl,rfl⟩) λ_ s10 h10=>?_);obtain⟨_,H10,I10,_,_,e10⟩:=h10;subst e10;exact Jc ⟨_,_,I10,q9⟩
def zpU(K:Fg)(J:It)(g:TG)(tt:TT)(te:TE)(cap:ON)(σ:St)(H1:Hp)(Q:VK):Prop:=zgA J g tt (taL te) (.lst []) cap σ H1 Q
noncomputable def ziE(wi:TI)(g:TG)(tt:TT)(ta:Addr->TAct)(ho:HO)(cap:ON):TE:=λσ H Q=>wi σ H λJ H1=>zgA J g tt ta ho cap σ H1 Q
noncomputable def zqe(K:Fg)(wi:TI)(g:TG)(tt:TT)(te:TE)(cap:ON):TE:=ziE wi g tt (taL te) (.lst []) cap
theorem zmN{ta:Addr->TAct}(ck:zbD X e tg iter ifs newAcc act ho)(N:List Str)(cap:ON)(cp:Cap X scope N cap)(hc:X.calm=true)(hi:PI X tg iter wi)(hg:∀C s0 H0 fp,PG (jC X N scope (qK X.env scope.names []) C s0 H0 fp) tg g)(ht:∀C s0 H0 fp,PIf (jC X N scope (qK X.env scope.names []) C s0 H0 fp) ifs tt)(he:∀C s0 H0 fp D,PAct (jC X N scope (qK X.env scope.names []) C s0 H0 fp) act D (ta D))(S:yH X scope)(hs:∀x,foldedSetIterable iter X.env x=pure x)(hcl:clausesOf e=[⟨tg,iter,ifs,0⟩])(hev:eval e X.env=comprehension e scope X.env p newAcc false (eval iter X.env)):
  PE X e (ziE wi g tt ta ho cap):=by
 intro pins s σ H Q I h;rw[hev];refine wpAny_comprehension_free (use:=none) hcl hs (zda (S.cellsOf I.ok)) S.kind S.names (thn (hi pins s σ H _ I h) λv s1 h1=>thn h1 λitv s2 h2=>?_);obtain⟨it,fp,tn,J,H2,e,I2,T,st2,f2,hw⟩:=h2;subst e;refine zeB (RR:=λacc C=>compPost (model X.prog X.w) X.A X.xe none (EP X pins σ Q) acc C) ck hc S cp hg ht he I2 T st2 f2 hw ?_;intro D C H' s' m' I' ns fC c1 c2 c3 c4 q;exact⟨m',ns,λh' hs'=>⟨.ref D,H',I'.turned (t':=s'.toks) (λb o hb e=>(hs'.2 b hb).trans e) fC c1 (.inr c2) c3 c4,rfl,q⟩⟩
theorem zdS{ta:Addr->TAct}{k:Nat}(ck:zbD X e tg iter ifs newAcc act ho)(N:List Str)(cap:ON)(cp:Cap X scope N cap)(hc:X.calm=true)(hN:X.N.Nodup)(hk:X.N[k]?=some y)(hy:Loc X.env.scope y)(hi:PI X tg iter wi)(hg:∀C s0 H0 fp,PG (jC X N scope (qK X.env scope.names []) C s0 H0 fp) tg g)(ht:∀C s0 H0 fp,PIf (jC X N scope (qK X.env scope.names []) C s0 H0 fp) ifs tt)(he:∀C s0 H0 fp D,PAct (jC X N scope (qK X.env scope.names []) C s0 H0 fp) act D (ta D))(S:yH X scope)(hs:∀x,foldedSetIterable iter X.env x=pure x)(hcl:clausesOf e=[⟨tg,iter,ifs,0⟩])(hev:∀use,evalThenUse e X.env use=(do let _ ←comprehension e scope X.env p newAcc false (eval iter X.env) (some use)))(hsw:swapsWith e (some (.Name y py)) spos.line X.env=pure true)(hf:X.fn y=true\/X.env.scope.names.lookup y=some .local):
  PS X (.Assign [.Name y py] e spos) (tAsg (ziE wi g tt ta ho cap) (znn k)):=by
 intro pins s σ H D0 I h;rw[exec_Assign_Name_used _ _ _ _ hsw];refine wpAny_bind (Qt (wpAny_bind ?_));rw[hev];refine wpAny_bind (JJ (wpAny_comprehension_free (use:=some (assign (.Name y py) X.env)) (Q:=λ_ s'=>SP X pins D0 .next s') hcl hs (zda (S.cellsOf I.ok)) S.kind S.names
  (thn (hi pins s σ H _ I h) λv s1 h1=>thn h1 λitv s2 h2=>?_)) (λ_ s' hq=>Jc (Jc hq)) λ_ _ e=>e)
 obtain⟨it,fp,tn,J,H2,e,I2,T,st2,f2,hw⟩:=h2;subst e;refine zeB (RR:=λacc C=>compPost (model X.prog X.w) X.A X.xe (some (assign (.Name y py) X.env)) (λ_ s'=>SP X pins D0 .next s') acc C) ck hc S cp hg ht he I2 T st2 f2 hw ?_;intro D C H' s' m' I' ns fC c1 c2 c3 c4 q;show wpAny _ X.A (assign (.Name y py) X.env (.ref D)) _ _ _;refine wpAny_assign_Name (zgE I' hN hk hy (v:=.ref D) rfl (λs'' I'' ⟨a,hsb,ha⟩=>?_) hf);have hCa:C≠a:=by
  rcases ha with z|z
  ·rw[z];exact c1
  ·exact λw=>c3 y a z w.symm
 refine⟨m',ns.sameBut hsb hCa,λh' hs'=>⟨_,H',I''.turned (t':=s''.toks) (λb o hb e=>(hs'.2 b hb).trans e) fC c1 (.inr c2) c3 c4,q⟩⟩
theorem zkJ(N:List Str)(cap:ON)(cp:Cap X scope N cap)(hc:X.calm=true)(hi:PI X tg iter wi)(hg:∀C s0 H0 fp,PG (jC X N scope (qK X.env scope.names []) C s0 H0 fp) tg g)(ht:∀C s0 H0 fp,PIf (jC X N scope (qK X.env scope.names []) C s0 H0 fp) ifs tt)(he:∀C s0 H0 fp,PE (jC X N scope (qK X.env scope.names []) C s0 H0 fp) elt te)(S:yH X scope:=by exact yH.mk')(hs:∀x,foldedSetIterable iter X.env x=pure x:=by intro _;rfl):
  PE X (.ListComp elt [⟨tg,iter,ifs,0⟩] scope pos) (zqe X.K wi g tt te cap):=
 zmN zlT N cap cp hc hi hg ht (λC s0 H0 fp D=>zgX (he C s0 H0 fp) D) S hs rfl (eval_ListComp ..)
theorem zjy{k:Nat}(N:List Str)(cap:ON)(cp:Cap X scope N cap)(hc:X.calm=true)(hN:X.N.Nodup)(hk:X.N[k]?=some y)(hy:Loc X.env.scope y)(hi:PI X tg iter wi)(hg:∀C s0 H0 fp,PG (jC X N scope (qK X.env scope.names []) C s0 H0 fp) tg g)(ht:∀C s0 H0 fp,PIf (jC X N scope (qK X.env scope.names []) C s0 H0 fp) ifs tt)(he:∀C s0 H0 fp,PE (jC X N scope (qK X.env scope.names []) C s0 H0 fp) elt te)(S:yH X scope:=by exact yH.mk')(hs:∀x,foldedSetIterable iter X.env x=pure x:=by intro _;rfl)(hsw:swapsWith (.ListComp elt [⟨tg,iter,ifs,0⟩] scope pos) (some (.Name y py)) spos.line X.env=pure true:=by rfl)(hf:X.fn y=true\/X.env.scope.names.lookup y=some .local:=by first|exact .inl rfl|exact .inr rfl|assumption):
  PS X (.Assign [.Name y py] (.ListComp elt [⟨tg,iter,ifs,0⟩] scope pos) spos) (tAsg (zqe X.K wi g tt te cap) (znn k)):=
 zdS zlT N cap cp hc hN hk hy hi hg ht (λC s0 H0 fp D=>zgX (he C s0 H0 fp) D) S hs rfl (λ_=>rfl) hsw hf
end
section
variable{X:Cx}{a b:Expr}{ta tb:TE}{pos:Pos}
def rIsi(K:Fg):List V->Hp->VK->Prop:=λxs H Q=>∃x T t k,xs=[x,.ty T]/\wS K H x t/\PySem.W.kitOne K t (.type T)=some k/\Q (.bl k) H
theorem znD:wB X (.builtin "isinstance") (rIsi X.K):=by
 intro pins s σ H xs us Q I r h;obtain⟨x,T,t,k,rfl,ty,e,q⟩:=h;obtain⟨u,c,rfl,r1,r2⟩:=zos r;cases(show c=Value.type T from r2)
 exact zlj I r1 ty e λtk=>⟨.bl k,H,I.tok _,rfl,q⟩
def zqt(K:Fg):R2:=λx y H Q=>∃a b ys,x=.ref a/\y=.ref b/\SqT K H a []/\SqT K H b ys/\Q (.ref b) H
theorem zmQ:OpR X (binaryOp .Add) (zqt X.K):=by
 intro pins s σ H x y v u Q I rx ry h;obtain⟨a,b,ys,rfl,rfl,ha,hb,q⟩:=h;cases rx
 cases ry
 obtain⟨its,r1,p1,_⟩:=I.tuple ha;obtain⟨its2,r2,p2,_⟩:=I.tuple hb;have e:its=[]:=by cases r1;rfl
 subst e;obtain⟨⟨cls,dd,data,sl⟩,ho,hc,n,hd⟩:=id p1;obtain⟨⟨cls2,dd2,data2,sl2⟩,ho2,hc2,n2,hd2⟩:=id p2;simp only at hc hd hc2 hd2;subst hc hd hc2 hd2;exact concat_meets ⟨_,ho,rfl⟩ ⟨_,ho2,rfl⟩ noFill_tuple_add seq_tuple_add PySem.F.slot_tuple_add PySem.F.entry_tuple_add (PySem.F.args_tuple_add_2 _ _)
   (tuple_addW0 a b _ its2.toArray n n2 dd dd2 sl sl2 (by simp)) ⟨ho,ho2,⟨.ref b,H,I.tok _,rfl,q⟩⟩
def zsn(K:Fg):R2:=λx y H Q=>∃a b xs ys,x=.ref a/\y=.ref b/\SqT K H a xs/\SqT K H b ys/\xs.length+ys.length<=sizeLine/\
 (xs=[]->Q (.ref b) H)/\(xs≠[]->ys=[]->Q (.ref a) H)/\(xs≠[]->ys≠[]->∀p,H p=none->Q (.ref p) (upd H p (.tup (xs++ys))))
theorem zpe:OpR X (binaryOp .Add) (zsn X.K):=by
 intro pins s σ H x y v u Q I rx ry h;obtain⟨a,b,xs,ys,rfl,rfl,ha,hb,hz,q0,q1,q2⟩:=h;by_cases e:xs=[]
 ·subst e;exact zmQ pins s σ H _ _ v u Q I rx ry ⟨a,b,ys,rfl,rfl,ha,hb,q0 rfl⟩
 ·exact zpd pins s σ H _ _ v u Q I rx ry ⟨a,b,xs,ys,rfl,rfl,ha,hb,e,hz,q1 e,q2 e⟩
theorem zko:∀l:List Int,(∀n∈l,0<=n)->0<=l.sum
 |[],_=>by simp
 |a::l,h=>by
  have h1:=zko l λn hn=>h n (Je _ hn)
  have h2:=h a JK;rw[Wk];omega
theorem ziD:∀(j:Nat) (l:List Int),(∀n∈l,0<=n)->0<=(l.take j).sum/\(l.take j).sum<=l.sum
 |0,l,h=>by have:=zko l h;simp;exact this
 |j+1,[],_=>by simp
 |j+1,a::l,h=>by
  have h1:=ziD j l λn hn=>h n (Je _ hn)
  have h2:=h a JK;rw[QH,Wk,Wk];omega
theorem zls:∀(j:Nat) (l:List Int),(∀n∈l,0<=n)->0<=l.getD j 0/\l.getD j 0<=l.sum
 |j,[],_=>by simp
 |0,a::l,h=>by
  have h1:=zko l λn hn=>h n (Je _ hn)
  have h2:=h a JK;rw[Wk];simp;omega
 |j+1,a::l,h=>by
  have h1:=zls j l λn hn=>h n (Je _ hn)
  have h2:=h a JK;rw[Wk];simp only[List.getD_cons_succ];omega
theorem zjv{l:List Int}(h:∀n∈l,0<=n)(hz:l.sum<2^62):PySem.SumFits l:=λj _=>by have h1:=ziD (j+1) l h;have h2:=zls j l h;unfold InLong;refine⟨⟨?_,?_⟩,⟨?_,?_⟩⟩<;>omega
theorem zlV(hc:X.calm=true):wB X (.builtin "sum") (λxs H Q=>∃(p:Addr) (ns:List Int),xs=[.ref p]/\SqL X.K H p (ns.map V.int)/\PySem.SumFits ns/\Q (.int ns.sum) H):=by
 intro pins s σ H xs us Q I r h;obtain⟨p,ns,rfl,hq,hz,q⟩:=h;obtain⟨u,rfl,rx⟩:=gF r;cases rx
 obtain⟨its,r',pl,_⟩:=I.list hq;have hi:IntsAre its ns:=zcV r';have hall:AllInts its.toArray:=hi.allInts;have nn:numsOf its.toArray.toList=ns:=by rw[show its.toArray.toList=its from rfl,hi.numsOf]
 obtain⟨xs,hx⟩:=hall.items;rw[hx,nums_intItems]at nn;have hl2:s.heap.IsList p (intItems xs):=by rw[←hx];exact pl.isList
 refine sum_intList (I.ok.hd hc) hl2 (λj hj=>?_) λh' tk t' hk=>?_
 ·rw[numAt_eq,preSum_eq,nn];exact hz j (by rw[←nn];simpa using hj)
 ·refine⟨.int ns.sum,H,I.kept hk,⟨t',?_⟩,q⟩;rw[preSum_eq,nn,JM (by rw[←nn];simp)]
end
section
variable{prog:Program}{w:World}{A:Around}
def maxD(ns:List Int)(d:Int):Int:=match ns with
 |[]=>d
 |n::r=>r.foldl max n
end
section
variable{X:Cx}{a b e:Expr}{es:List Expr}{ta tb:TE}{pos p kpos:Pos}{t tk:TA}
def rSlS:V->Option Int->Option Int->Hp->VK->Prop:=λx lo hi H Q=>∃z,x=.str z/\z.length<=sizeLine/\∀y:Str,y.length<=z.length->y=Txt.slice z lo hi->Q (.str y) H
theorem zqk:SlR X rSlS:=by
 intro pins s σ H x v vl vu lo hi sl Q I rx hs pl pu h;obtain⟨z,rfl,hz,q⟩:=h;obtain⟨t,rfl⟩:=rx;refine⟨"str",_,PySem.F.slot_str_getitem.lookup,typeIs_str s z t,?_⟩;obtain⟨o,ho,hc,hd⟩:=hs;have fin:∀(lo hi:Option Int),(∀y:Str,y.length<=z.length->y=Txt.slice z lo hi->Q (.str y) H)->(Txt.slice z lo hi).length<=sizeLine/\∀t' k,EP X pins σ Q (.str (Txt.slice z lo hi) t') {s with toks:=k}:=λlo hi q=>
  ⟨Jt (Txt.slice_le z lo hi) hz,λt' k=>⟨.str _,H,I.tok _,⟨_,rfl⟩,q _ (Txt.slice_le z lo hi) rfl⟩⟩
 cases pl with
 |none=>
  cases pu with
  |none=>exact wpAny_getItem_str_slice (l:=none) (u:=none) (st:=none) ⟨o,ho,hc,hd⟩ rfl (post_val_or_str (fin none none q))
  |int j uj=>exact wpAny_getItem_str_slice (l:=none) (u:=some (j,uj)) (st:=none) ⟨o,ho,hc,hd⟩ rfl (post_val_or_str (fin none (some j) q))
 |int i ui=>
  cases pu with
  |none=>exact wpAny_getItem_str_slice (l:=some (i,ui)) (u:=none) (st:=none) ⟨o,ho,hc,hd⟩ rfl (post_val_or_str (fin (some i) none q))
  |int j uj=>exact wpAny_getItem_str_slice (l:=some (i,ui)) (u:=some (j,uj)) (st:=none) ⟨o,ho,hc,hd⟩ rfl (post_val_or_str (fin (some i) (some j) q))
end
section
variable{X:Cx}{e st:Expr}{te ts:TE}{pos p2:Pos}
theorem zja{α β:Type}{f g:α->Option β}:∀{l:List α},(∀k∈l,f k=g k)->l.filterMap f=l.filterMap g
 |[],_=>rfl
 |a::l,h=>by rw[Qq,Qq,h a JK,zja λk hk=>h k (Je _ hk)]
theorem zkw(l:List Value):((List.range l.length).map λ(k:Nat)=>(((l.length:Int) - 1)+(-1)*(k:Int)).toNat).filterMap (λi=>l[i]?)=l.reverse:=by
 apply List.ext_getElem?;intro i;rw[List.filterMap_map];have e:((List.range l.length).filterMap ((λi=>l[i]?)∘λ(k:Nat)=>(((l.length:Int) - 1)+(-1)*(k:Int)).toNat))=(List.range l.length).filterMap λk=>l.reverse[k]?:=by
  refine zja λk hk=>?_
  have hk':k<l.length:=List.mem_range.mp hk;show l[(((l.length:Int) - 1)+(-1)*(k:Int)).toNat]?=l.reverse[k]?;rw[List.getElem?_reverse hk']
  congr 1
  omega
 rw[e];have e2:∀r:List Value,(List.range r.length).filterMap (λk=>r[k]?)=r:=by
  intro r;induction r with
  |nil=>rfl
  |cons a r ih=>
   rw[Jl,List.range_succ_eq_map,Qq];simp only[List.getElem?_cons_zero,List.filterMap_map]
   congr 1
 have e3:=e2 l.reverse;rw[Qh]at e3;rw[e3]
theorem zmE(its:List Value):slicePick its.toArray none none (some (-1))=its.reverse.toArray:=by
 unfold slicePick;have h1:sliceBounds none none (some (-1)) its.toArray.size=((its.length:Int) - 1,-1,-1):=by simp[sliceBounds]
 rw[h1];unfold sliceRange;simp only[show¬((-1:Int)>0) by decide,if_false];have hc:(if(its.length:Int) - 1> -1 then((its.length:Int) - 1 - -1 - -1 - 1)/(- -1)else 0).toNat=its.length:=by
  have e1:(- -1:Int)=1:=by decide
  rw[e1,Int.ediv_one]
  split<;>omega
 rw[hc]
 have:=zkw its;simp only[List.getElem?_toArray];rw[this]
def rRev(K:Fg):V->Hp->VK->Prop:=λx H Q=>∃a xs,x=.ref a/\SqL K H a xs/\∀p,H p=none->Q (.ref p) (upd H p (.lst xs.reverse))
def tRev(K:Fg)(te ts:TE):TE:=λσ H Q=>te σ H λx H1=>ts σ H1 λy H2=>y=.int (-1)/\rRev K x H2 Q
theorem zqH(he:PE X e te)(hs:PE X st ts):PE X (.Subscript e (.Slice none none (some st) p2) pos) (tRev X.K te ts):=by
 intro pins s σ H Q I h;refine Subscript_ (thn (he pins s σ H _ I h) λv s1 ⟨x,H1,I1,r1,q1⟩=>?_);refine wpAny_Slice ?_;rw[evalPart_none,evalPart_some];refine Jc (Jc (thn (hs pins s1 σ H1 _ I1 q1) λvs s3 ⟨y,H3,I3,r3,ey,q3⟩=>?_));subst ey;obtain⟨t,rfl⟩:=r3;have I4:Inv X pins σ H3 {s3 with heap:=s3.heap.push {cls:=.type "slice",data:=.fields #[.none,.none,.int (-1) t]}}:=I3.kept (t':=s3.toks) λb ob q=>Heap.get?_push_of_some _ q
 obtain⟨a,xs,rfl,hx,q⟩:=q3;cases r1
 obtain⟨its,r,ht,hz⟩:=I4.list hx;have hlen:=r.length;show wpAny (model X.prog X.w) X.A (subscriptTail e (.Slice none none (some st) p2) (.ref a) (.ref s3.heap.objs.size)) (EP X pins σ Q) X.xe {s3 with heap:=s3.heap.push {cls:=.type "slice",data:=.fields #[.none,.none,.int (-1) t]}};refine tail_any (ops:=[.ref a,.ref s3.heap.objs.size]) ht.isList.typeIs slot_list_getitem.lookup ?_ (by with_unfolding_all rfl);refine wpAny_getItem_list_slice ht.isList (Heap.IsSliceOf.new ..) .none .none (.int (-1) t) (by simp) ?_ (by rw[Jb]<;>omega);rw[zmE];exact⟨.ref _,_,I4.lnew (t':=s3.toks) r.reverse (by rw[Qh];exact hz),rfl,q _ I4.fresh⟩
end
end L2
namespace HT
section
open PySem.SeqAt
open PySem.AutoSeq1 (wpAny_loadPart')
open PySem.MeetsSeq PySem.MeetsSeq2 PySem.MeetsSeq3
theorem zmw(A:Around)(s:Shared)(a:Int)(t:Tok)(c:Int)(u:Tok)(prog:Program)(w:World)(E:VS)(Q:VS)(h:Q (.bool (decide (c<=a))) s):
  wpAny (model prog w) A (richCompare .GtE (.int a t) (.int c u)) Q E s:=
 (PyProof.Rows.ge_int h:wpAny (model prog w) A (compareOp .GtE (.int a t) (.int c u)) Q E s)
theorem zfy(l b:Addr)(items items2:Array Value)(n n2:Nat)(dd dd2:Option Addr)(sl sl2:Array (Option Value))(ns ms:List Int)(hi:IntsAre items.toList ns)(hj:IntsAre items2.toList ms):
  Meets (Builtin.«tuple.__ge__» ⟨[.ref l,.ref b],[]⟩)
   (λ_ R s=>s.heap.get? l=some {cls:=.type "tuple",dict:=dd,data:=.seq items n,slots:=sl}/\s.heap.get? b=some {cls:=.type "tuple",dict:=dd2,data:=.seq items2 n2,slots:=sl2}/\
    R (.ok (.ret (.bool (!lexLt ns ms)))) s):=
 .of_wp λprog w A R s h=>by
  obtain⟨hp,g,d,tk,os⟩:=s;obtain⟨hl,hb,h⟩:=h;have f2:=AutoSeq1.sub_tuple_tuple;have z1:items.size=ns.length:=by rw[←hi.length];simp
  have z2:items2.size=ms.length:=by rw[←hj.length];simp
  wp_walk using wpAny_loadPart' hl,wpAny_loadPart' hb,wpAny_forIn_list _ (λrest b s'=>b.1=none/\s'=⟨hp,g,d,tk,os⟩/\∃(vs ws:List Value) (ns' ms':List Int),rest=vs.zip ws/\
   IntsAre vs ns'/\IntsAre ws ms'/\ns'.length+items2.size=ms'.length+items.size/\R (.ok (.ret (.bool (!lexLt ns' ms')))) ⟨hp,g,d,tk,os⟩) _
  case turn=>
   rintro⟨y,x⟩ rest b s' ⟨hb',rfl,vs,ws,ns',ms',hz,hvi,hwi,hlen,hR⟩;cases hvi with
   |nil=>rw[List.zip_nil_left]at hz;cases hz
   |cons a t hvi'=>
    cases hwi with
    |nil=>rw[List.zip_nil_right]at hz;cases hz
    |cons c u hwi'=>
     rw[Qd]at hz;injection hz with hyx hrest;injection hyx with hy hx;subst hy hx;rw[zjM]at hR;simp only[List.length_cons]at hlen;obtain⟨e,he,hiff⟩:=znr A.in1 ⟨hp,g,d,tk,os⟩ a t c u;refine wpAny_bind (he prog w _ _ ?_);cases e with
     |true=>
      rw[if_pos (hiff.mp rfl)]at hR
      wp_walk
      exact⟨rfl,rfl,_,_,_,_,hrest,hvi',hwi',by omega,hR⟩
     |false=>
      rw[if_neg λq=>absurd (hiff.mpr q) JR]at hR;have hri:=zmw A.in1 ⟨hp,g,d,tk,os⟩ a t c u prog w;have e2:(!decide (a<c))=decide (c<=a):=by
       by_cases q:a<c
       ·rw[Qf q,JA (by omega)];rfl
       ·rw[JA q,Qf (by omega)];rfl
      rw[e2]at hR
      wp_walk using hri
      exact⟨_,rfl,by simpa using hR⟩
  case fin=>
   rintro⟨b1,b2⟩ s' ⟨hb',rfl,vs,ws,ns',ms',hz,hvi,hwi,hlen,hR⟩;simp only at hb';subst hb';have hv:lexLt ns' ms'=decide (items.size<items2.size):=by
    cases hvi with
    |nil=>
     cases hwi with
     |nil=>
      simp only[List.length_nil]at hlen;rw[zfP];exact(JA (by omega)).symm
     |cons c u hw=>
      simp only[List.length_nil,List.length_cons]at hlen;rw[zeO];exact(Qf (by omega)).symm
    |cons a t hv=>
     cases hwi with
     |nil=>
      simp only[List.length_nil,List.length_cons]at hlen;rw[zeP];exact(JA (by omega)).symm
     |cons c u hw=>
      rw[Qd]at hz;cases hz
   have e2:(!decide (items.size<items2.size))=decide (items.size≥items2.size):=by
    by_cases q:items.size<items2.size
    ·rw[Qf q,JA (by omega)];rfl
    ·rw[JA q,Qf (by omega)];rfl
   rw[hv,e2]at hR
   wp_walk
   exact⟨_,rfl,by simpa[Builtin.Tuple.tupleCompareSizes]using hR⟩
  case h=>
   exact⟨rfl,rfl,items.toList,items2.toList,ns,ms,rfl,hi,hj,by omega,h⟩
end
variable{l:Addr}{items:Array Value}{Q:VS}{i:Nat}
section
variable{prog:Program}{w:World}{A:Around}{E:VS}{s:Shared}
theorem ge_tupInts{b:Addr}{items2:Array Value}{ns ms:List Int}(hl:IsTup s.heap l items)(hb:IsTup s.heap b items2)(hi:IntsAre items.toList ns)(hj:IntsAre items2.toList ms)(hu:A.units<cLine)(h:Q (.bool (!lexLt ns ms)) s):wpAny (model prog w) A (compareOp .GtE (.ref l) (.ref b)) Q E s:=by
 obtain⟨⟨cls,dd,data,sl⟩,ho,hc,n,hd⟩:=id hl;obtain⟨⟨cls2,dd2,data2,sl2⟩,ho2,hc2,n2,hd2⟩:=id hb;simp only at hc hd hc2 hd2;subst hc hd hc2 hd2;exact richCompare_meets_room (op:=.GtE) ⟨_,ho,rfl⟩ ⟨_,ho2,rfl⟩ PySem.F.slot_tuple_ge PySem.F.entry_tuple_ge (PySem.F.args_tuple_ge_2 _ _) (zfy l b items items2 n n2 dd dd2 sl sl2 ns ms hi hj)
  ⟨ho,ho2,show Value.bool (!lexLt ns ms)≠Value.notImplemented/\Q (.bool (!lexLt ns ms)) s from⟨(λx=>nomatch x),h⟩⟩ hu
theorem zcS{it:Addr}{items}{x:Value}(hit:s.heap.IsTupleIter it l i)(hl:s.heap.IsTuple l items)(hx:items[i]?=some x)(hQ:∀h',h'.IsTupleIter it l (i+1)->Heap.SameBut it s.heap h'->Q x {s with heap:=h'}):
  wpAny (model prog w) A (Builtin.SmallTypes.nextOf (.ref it)) Q E s:=by
 obtain⟨o,ho,hc,hd⟩:=id hit;obtain⟨ol,hol,_,nl,hdl⟩:=hl;unfold Builtin.SmallTypes.nextOf;refine wpAny_bind (wpAny_callSpecial?_slot (name:=Str.ofString "__next__") hit.typeIs Qx
  (Qw Qx hit.typeIs PySem.F.entry_tuple_iterator_next ?_ (PySem.F.args_tuple_iterator_next_1 _)))
 show wpAny _ _ (field (.ref it) 0>>=_) _ _ s;refine wpAny_bind (JW ho hd (x:=.ref l) rfl ?_);show wpAny _ _ (if(Value.ref l==Value.none)=true then _ else _) _ _ s;rw[if_neg (show¬((Value.ref l==Value.none)=true)from JR)];show wpAny _ _ (field (.ref it) 1>>=_) _ _ s;refine wpAny_bind (JW ho hd (x:=.int i 0) rfl ?_);show wpAny _ _ (seqItems? (.ref l)>>=_) _ _ s;refine wpAny_bind (Qy hol hdl ?_);simp only[Int.toNat_natCast,hx];refine wpAny_bind (wpAny_setField ho hd (by simp) (Jc ⟨x,rfl,Jc (hQ _ ?_ (Heap.SameBut.update ..))⟩));exact⟨_,Heap.get?_update_self _ ho (Obj.isFreed_of_fields (Obj.data_mapFields hd _)),(Obj.cls_mapFields ..).trans hc,by rw[Obj.data_mapFields hd];simp[rawInt]⟩
theorem zdu{it:Addr}{items}(hh:A.handled=none)(hit:s.heap.IsTupleIter it l i)(hl:s.heap.IsTuple l items)(hx:items[i]?=none)(hE:∀h' e,Heap.ExtBut it s.heap h'->(∃o,h'.get? e=some o/\o.cls=.type "StopIteration")->E (.ref e) {s with heap:=h'}):
  wpAny (model prog w) A (Builtin.SmallTypes.nextOf (.ref it)) Q E s:=by
 obtain⟨o,ho,hc,hd⟩:=id hit;obtain⟨ol,hol,_,nl,hdl⟩:=hl;unfold Builtin.SmallTypes.nextOf;refine wpAny_bind (wpAny_callSpecial?_slot (name:=Str.ofString "__next__") hit.typeIs Qx
  (Qw Qx hit.typeIs PySem.F.entry_tuple_iterator_next ?_ (PySem.F.args_tuple_iterator_next_1 _)))
 show wpAny _ _ (field (.ref it) 0>>=_) _ _ s;refine wpAny_bind (JW ho hd (x:=.ref l) rfl ?_);show wpAny _ _ (if(Value.ref l==Value.none)=true then _ else _) _ _ s;rw[if_neg (show¬((Value.ref l==Value.none)=true)from JR)];show wpAny _ _ (field (.ref it) 1>>=_) _ _ s;refine wpAny_bind (JW ho hd (x:=.int i 0) rfl ?_);show wpAny _ _ (seqItems? (.ref l)>>=_) _ _ s;refine wpAny_bind (Qy hol hdl ?_);simp only[Int.toNat_natCast,hx];refine wpAny_bind (QX (wpAny_bind (wpAny_setField ho hd (by simp) ?_)));show wpAny _ _ (newExc (.type "StopIteration") []>>=_) _ _ _;refine wpAny_bind ?_;simp only[newExc,newTuple];refine wpAny_bind (JY ?_ (by size_fits));refine wpAny_bind (m:=firstArgMember _ _) (wpAny_of_eq (a:=Value.none) (by first|rfl|(simp only[firstArgMember];rfl)) ?_);refine JY ?_ (by size_fits);simp only[raiseNew];refine wpAny_bind (wpAny_handled ?_)
 first|rw[show A.in1.handled=none from hh]|rw[hh]
 refine wpAny_bind (Jc (wpAny_throw ?_));exact hE _ _ (((Heap.SameBut.update ..).extBut.push _).push _) ⟨_,Heap.get?_push_size _ rfl,rfl⟩
end
theorem drawsT{prog:Program}{w:World}{A:Around}(hh:A.handled=none)(it l:Addr)(hne:l≠it)(items:Array Value):
  Draws prog w A it [it,l] items.size (λi v=>items[i]?=some v) (λi h=>h.IsTupleIter it l i/\h.IsTuple l items)where
 live:=λ_ _ st=>let⟨o,ho,_⟩:=st.1;⟨o,ho⟩
 frame:=λ_ _ _ st hk=>⟨st.1.at λo e=>hk it (by simp) o e,let⟨o,ho,r⟩:=st.2;⟨o,hk l (by simp) o ho,r⟩⟩
 item:=λi s Q E hi st hQ=>by
  refine zcS st.1 st.2 (x:=items[i]) (by simp[hi]) λh' hit' hs'=>?_
  exact hQ _ h' s.toks (by simp[hi]) ⟨hit',let⟨o,ho,r⟩:=st.2;⟨o,hs'.extBut _ _ hne ho,r⟩⟩ hs'
 done:=λs Q E st hE=>zdu hh st.1 st.2 (by simp) hE
theorem zeQ(l:Addr)(items:Array Value)(n:Nat)(dct:Option Addr)(sl:Array (Option Value)):
  Meets (Builtin.«enumerate.__new__» ⟨[.type "enumerate",.ref l],[]⟩) (λ_ R s=>s.heap.get? l=some {cls:=.type "tuple",dict:=dct,data:=.seq items n,slots:=sl}/\
   R (.ok (.ret (.ref (s.heap.push {cls:=.type "tuple_iterator",data:=.fields #[.ref l,.int 0 0]}).objs.size)))
    {s with heap:=(s.heap.push {cls:=.type "tuple_iterator",data:=.fields #[.ref l,.int 0 0]}).push {cls:=.type "enumerate",data:=.fields #[.none,.bool false,.ref s.heap.objs.size,rawInt 0,.none,.none]}}):=
 .of_wp λprog w A R s h=>by
  obtain⟨hp,g,d,tk,os⟩:=s;obtain⟨hl,h⟩:=h;have hsub:=sub_enumerate;have hL:Heap.IsTuple (Shared.heap ⟨hp,g,d,tk,os⟩) l items:=⟨_,hl,rfl,n,rfl⟩
  wp_walk using QT hl
  refine wpAny_stack_any λst=>Jc ?_
  split
  ·rename_i c _ _ _ _ _;cases(c==Value.type "enumerate")
   ·wp_walk using QT hl,QY hL
    exact⟨_,rfl,h⟩
   ·wp_walk using QT hl,QY hL
    exact⟨_,rfl,h⟩
  ·wp_walk using QT hl,QY hL
   exact⟨_,rfl,h⟩
section
variable{prog:Program}{w:World}{A:Around}{E:VS}{s:Shared}
theorem call_enumerate_tuple(hL:s.heap.IsTuple l items)(h:∀h',IsEnum h' (s.heap.objs.size+1) s.heap.objs.size 0 .none->h'.IsTupleIter s.heap.objs.size l 0->h'.objs.size=s.heap.objs.size+2->
   (∀b o,s.heap.get? b=some o->h'.get? b=some o)->Q (.ref (s.heap.objs.size+1)) {s with heap:=h'}):
  wpAny (model prog w) A (call (.type "enumerate") [.ref l]) Q E s:=by
 obtain⟨⟨c,dct,dt,sl⟩,hl,hc,n,hd⟩:=hL
 replace hc:c=.type "tuple":=hc
 replace hd:dt=.seq items n:=hd
 subst hc hd;refine callType_new PySem.F.called_enumerate (by decide) (PySem.F.typeCall_enumerate_1 _) (PySem.F.newCall_enumerate_1 _) (λobj=>PySem.F.args_object_init_2 obj _) PySem.F.entry_enumerate_new
  (zeQ l items n dct sl) ⟨hl,?_⟩
 have hz:(s.heap.push {cls:=.type "tuple_iterator",data:=.fields #[.ref l,.int 0 0]}).objs.size=s.heap.objs.size+1:=Qm ..;show _/\_;rw[hz];have he:IsEnum ((s.heap.push {cls:=.type "tuple_iterator",data:=.fields #[.ref l,.int 0 0]}).push
   {cls:=.type "enumerate",data:=.fields #[.none,.bool false,.ref s.heap.objs.size,rawInt 0,.none,.none]}) (s.heap.objs.size+1) s.heap.objs.size 0 .none:=by
  have:=Heap.get?_push_size (s.heap.push {cls:=.type "tuple_iterator",data:=.fields #[.ref l,.int 0 0]})
   (o:={cls:=.type "enumerate",data:=.fields #[.none,.bool false,.ref s.heap.objs.size,rawInt 0,.none,.none]}) rfl
  rw[hz]at this;exact this
 refine⟨⟨_,he,rfl⟩,h _ he ⟨_,Heap.get?_push_of_some _ (Heap.get?_push_size _ rfl),rfl,rfl⟩ (by rw[Qm,hz]) λb o x=>Heap.get?_push_of_some _ (Heap.get?_push_of_some _ x)⟩
end
end HT
namespace L2
variable{elts:List Expr}{tpos:Pos}
section
variable{X:Cx}
def rGeT(K:Fg):R2:=λx y H Q=>∃a b ns ms,x=.ref a/\y=.ref b/\SqT K H a (ns.map V.int)/\SqT K H b (ms.map V.int)/\Q (.bl (!HT.lexLt ns ms)) H
theorem zqW(hu:X.A.units<cLine):OpR X (compareOp .GtE) (rGeT X.K):=by
 intro pins s σ H x y v u Q I rx ry h;obtain⟨a,b,ns,ms,rfl,rfl,ha,hb,q⟩:=h;cases rx
 cases ry
 obtain⟨its,r1,p1,_⟩:=I.tuple ha;obtain⟨its2,r2,p2,_⟩:=I.tuple hb;have i1:IntsAre its.toArray.toList ns:=zcV r1;have i2:IntsAre its2.toArray.toList ms:=zcV r2;exact HT.ge_tupInts p1 p2 i1 i2 hu ⟨.bl (!HT.lexLt ns ms),H,I,rfl,q⟩
def Ite(K:Fg)(a:Addr):It:=
 ⟨λi H=>∃xs x,SqT K H a xs/\xs[i]?=some x,λi H x H'=>∃p v,H p=none/\x=.ref p/\H'=upd H p (.tup [.int i,v])/\∀xs,SqT K H a xs->xs[i]?=some v,λi H=>∃xs,SqT K H a xs/\xs.length=i⟩
theorem zjf{X:Cx}{pins:AO}{σ:St}{H:Hp}{s:Shared}{h2:Heap}{i tk:Nat}{x:V}{x':Value}{e it:Addr}(I:Inv X pins σ H s)(fe:yL X pins H e)(fi:yL X pins H it)(ru:zT x x')(hTn:h2.get? s.heap.objs.size=some {cls:=.type "tuple",data:=.seq #[.int i tk,x']})(kk:∀b o,b≠e->b≠it->s.heap.get? b=some o->h2.get? b=some o):Inv X pins σ (upd H s.heap.objs.size (.tup [.int i,x])) {s with heap:=h2,toks:=tk+1}:=by
 have fr:H s.heap.objs.size=none:=I.fresh;have nE:∀b u,H b=some u->b≠e:=λb u q z=>by rw[z,fe.1]at q;cases q
 have nI:∀b u,H b=some u->b≠it:=λb u q z=>by rw[z,fi.1]at q;cases q
 have hok0:HOk X.prog X.w H h2:=λb u q=>by
  refine(I.hok b u q).stay (λc v hc q'=>kk c v ?_ ?_ q') (λ_ z=>z) λ_ _ z=>z
  ·rcases hc with z|z
   ·rw[z];exact nE b u q
   ·exact nE c _ z
  ·rcases hc with z|z
   ·rw[z];exact nI b u q
   ·exact nI c _ z
 have new:jV X.prog X.w (upd H s.heap.objs.size (.tup [.int i,x])) h2 s.heap.objs.size (.tup [.int i,x]):=
  ⟨by show 2<=sizeLine;rw[Wd];decide,[.int i tk,x'],.cons ⟨_,rfl⟩ (.cons ru .nil),⟨_,hTn,rfl,_,rfl⟩⟩
 have hok1:HOk X.prog X.w (upd H s.heap.objs.size (.tup [.int i,x])) h2:=λb u q=>by
  by_cases hb:b=s.heap.objs.size
  ·subst hb;rw[qR]at q;cases q;exact new
  ·rw[zW hb]at q;exact(hok0 b u q).stay (λ_ _ _ z=>z) (λc z=>by rw[zW (jE z fr)];exact z) λc xs z=>by rw[zW (jE z fr)];exact z
 refine I.step (g':=s.gens) (d':=s.drawn) (ch:=[e,it]) (λb hb=>?_) (λb o _ _ hcc q _=>kk b o (λz=>hcc (by simp[z])) (λz=>hcc (by simp[z])) q) (λb o _ _ hcc q _=>⟨o.slots,kk b o (λz=>hcc (by simp[z])) (λz=>hcc (by simp[z])) q⟩)
  (λb o _ q n=>by rw[zW (Jv (Jf q))];exact n) (λb o hcc q=>⟨o,kk b o (λz=>hcc (by simp[z])) (λz=>hcc (by simp[z])) q⟩) (λb xs q=>by rw[zW (jE q fr)];exact q) (λb o xs q=>by rw[zW (jE q fr)];exact q)
  (λb ps q=>⟨#[],by rw[zW (jE q fr),q];simp⟩) (λm hm=>?_) hok1 I.bare
 ·rcases JC.mp hb with rfl|hb
  ·exact⟨fe.2.2.2.1,fe.2.1,fe.2.2.2.2.1,fe.2.2.2.2.2⟩
  ·rw[Wc.mp hb];exact⟨fi.2.2.2.1,fi.2.1,fi.2.2.2.2.1,fi.2.2.2.2.2⟩
 ·obtain⟨o,es,ep,ho',r⟩:=hm;exact⟨o,es,ep,kk _ o (Ne.symm fe.2.1) (Ne.symm fi.2.1) ho',r⟩
theorem zjt{P:Program}{w:World}{K:Fg}{k:Nat}(a e it:Addr)(hei:e≠it):Turn P w K (.Tuple elts k tpos) (Ite K a) [e,it] e (λi h=>(∃old,IsEnum h e it i old)/\h.IsTupleIter it a i)where
 mem:=by simp
 obj:=λi h st b hb=>by
  obtain⟨⟨old,he⟩,o,e2,c,d⟩:=st;rcases JC.mp hb with rfl|hb
  ·exact⟨_,he,λv z=>by cases(show Data.fields _=Data.cell v from z)⟩
  ·rw[Wc.mp hb];exact⟨o,e2,λv z=>by rw[d]at z;cases z⟩
 keep:=λi h h' st k=>⟨let⟨old,he⟩:=st.1;⟨old,k e (by simp) _ he⟩,st.2.at λo e=>k it (by simp) o e⟩
 item:=by
  intro X hP hw hK hc i pins s σ H E I hf st hg;subst hP hw hK;obtain⟨xs,x,hq,hx⟩:=hg;obtain⟨its,rv,p,hz⟩:=I.tuple hq;obtain⟨u,hu,ru⟩:=rv.get hx;obtain⟨⟨old,he⟩,hit⟩:=st;have fe:=hf e (by simp);have fi:=hf it (by simp);have hai:a≠it:=by
   rintro rfl;obtain⟨o,e1,c1,_⟩:=id hit;obtain⟨o',e2,c2,_⟩:=id p;rw[e1]at e2;cases e2;rw[c1]at c2
   exact absurd c2 (by decide)
  have hae:a≠e:=by
   rintro rfl;obtain⟨o',e2,c2,_⟩:=id p;rw[he]at e2;cases e2
   exact absurd (show Value.type "enumerate"=Value.type "tuple"from c2) (by decide)
  have hilt:i<its.toArray.size:=by have:=(List.getElem?_eq_some_iff.mp hu).1;simpa using this
  refine wpAny_pyNext_enum_itemD (HT.drawsT (A:=X.A.in1) (I.ok.hd hc) it a hai its.toArray) he ⟨hit,p⟩ hilt hei (by simp[hei,Ne.symm hae]) λx' h' tk hP ho hs' hT hsz hk=>?_
  have ex:x'=u:=by
   have:its[i]?=some x':=by simpa using hP
   rw[hu]at this;exact(Option.some.inj this).symm
  subst ex;refine⟨_,rfl,?_⟩;refine wpAny_letOwnedTupleGo_enum ho λh2 he2 hs2=>?_
  have hTe:s.heap.objs.size≠e:=Nat.ne_of_gt (Jf he);have hTn:h2.get? s.heap.objs.size=some {cls:=.type "tuple",data:=.seq #[.int i tk,x']}:=(hs2.2 _ hTe).trans hT;have kk:∀b o,b≠e->b≠it->s.heap.get? b=some o->h2.get? b=some o:=λb o h1 h3 e=>(hs2.2 b h1).trans (hk b o h1 h3 e)
  have hit2:h2.IsTupleIter it a (i+1):=hs'.1.at λo e=>(hs2.2 it (Ne.symm hei)).trans e
  have fr:H s.heap.objs.size=none:=I.fresh;have I1:=zjf (i:=i) I fe fi ru hTn kk;refine⟨.ref s.heap.objs.size,_,I1,rfl,⟨s.heap.objs.size,x,fr,rfl,rfl,λys hy=>by rw[I.tuple_inj hy hq];exact hx⟩,⟨⟨x',by simpa using he2⟩,hit2⟩,λb hb=>?_⟩;have hbl:b≠s.heap.objs.size:=by
   rcases JC.mp hb with rfl|hb
   ·exact Ne.symm hTe
   ·rw[Wc.mp hb];obtain⟨o,e1,_⟩:=hit;exact Jv (Jf e1)
  rw[zW hbl];exact(hf b hb).1
 done:=by
  intro X hP hw hK hc i pins s σ H E I hf st hg;subst hP hw hK;obtain⟨xs,hq,hx⟩:=hg;obtain⟨its,rv,p,hz⟩:=I.tuple hq;obtain⟨⟨old,he⟩,hit⟩:=st;have fi:=hf it (by simp);have hai:a≠it:=by
   rintro rfl;obtain⟨o,e1,c1,_⟩:=id hit;obtain⟨o',e2,c2,_⟩:=id p;rw[e1]at e2;cases e2;rw[c1]at c2
   exact absurd c2 (by decide)
  have hn:its.toArray.size=i:=by rw[Jb,←rv.length];exact hx
  refine wpAny_pyNext_enum_endD (HT.drawsT (A:=X.A.in1) (I.ok.hd hc) it a hai its.toArray) he (by rw[hn];exact⟨hit,p⟩) λh' hx'=>⟨rfl,?_⟩
  obtain⟨f0,f1,f2,f3,f4,f5⟩:=fi;exact I.turned (t':=s.toks) (λb o hb e=>hx' b o hb e) f0 f1 f3 f4 f5
 self:=λA i s Q E st h=>by obtain⟨⟨old,he⟩,_⟩:=st;exact wpAny_pyIter_enum he h
noncomputable def zrv(K:Fg)(ta:TA):TI:=λσ H R=>ta σ H λvs H1=>∃a xs,vs=[.ref a]/\SqT K H1 a xs/\R (Ite K a) H1
theorem zmH{k:Nat}{p pos:Pos}{a:Expr}{ta:TA}(hg:Gl X "enumerate")(hm:X.mg "enumerate"=none)(ha:PA X [a] ta)(hs:starEach [a] X.env=[(false,eval a X.env)]:=by rfl):PI X (.Tuple elts k tpos) (.Call (.Name "enumerate" p) [a] [] pos) (zrv X.K ta):=by
 intro pins s σ H R I h;refine Call_ (nK I hg hm boot_enumerate (JE (thn (ha pos pins s σ H _ I h) λus s1 ⟨vs,H1,I1,r1,q1⟩=>?_) hs rfl));obtain⟨a,xs,e,hq,q⟩:=q1;subst e;obtain⟨u,rfl,ru⟩:=gF r1;cases ru
 obtain⟨its,rv,p,hz⟩:=I1.tuple hq;refine HT.call_enumerate_tuple p λh' he hit hsz hk=>?_
 have I2:Inv X pins σ H1 {s1 with heap:=h'}:=I1.kept (t':=s1.toks) hk;refine wpAny_pyIter_enum he ?_;refine⟨s1.heap.objs.size+1,[s1.heap.objs.size+1,s1.heap.objs.size],_,_,H1,rfl,I2,zjt a (s1.heap.objs.size+1) s1.heap.objs.size (Nat.succ_ne_self _),⟨⟨_,he⟩,hit⟩,λb hb=>?_,q⟩;rcases JC.mp hb with rfl|hb
 ·exact I1.fpOk (Nat.le_succ _) (I1.hok.fresh (Nat.le_succ _))
 ·rw[Wc.mp hb];exact I1.fpOk (Jd _) (I1.hok.fresh (Jd _))
end
section
variable{X:Cx}(K:Fg)
end
end L2
namespace FX
def Fly(h:Heap)(e:Addr)(cls:Value)(d:Option Addr)(tb:Option Addr)(fl:Value):Prop:=
 ∃oe vs,h.get? e=some oe/\oe.cls=cls/\oe.dict=d/\oe.data=.fields vs/\1<vs.size/\match tb with
  |none=>vs[1]?=some .none
  |some T=>vs[1]?=some (.ref T)/\T≠e/\∃oT ts,h.get? T=some oT/\oT.data=.fields ts/\ts[3]?=some fl
section
variable{M:Model}{A:Around}{E:VS}{s:Shared}
end
end FX
namespace FL
open L2
inductive KD where
 |int (i:Int)|str (x:Str)|tup (l:List Key)
 deriving DecidableEq
inductive D where
 |non|bl (b:Bool)|int (i:Int)|str (x:Str)|tup (l:List D)|lst (l:List D)|scr (ns:List Int)|dic (ks:List KD) (ds:List D)|exc (c:Str) (d:D)
def kdK:Key->KD
 | .inl i=>.int i
 | .inr x=>.str x
def wK(F:Hp)(a:Addr)(ks:List KD)(vs:List V):Prop:=
 (∃kvs:List (Key×V),F a=some (.dK kvs)/\ks=kvs.map (λp=>kdK p.1)/\vs=kvs.map (·.2))\/
 (∃kvs:List (List Key×V),F a=some (.dT kvs)/\(ks=kvs.map (λp=>KD.tup p.1)/\kvs≠[])/\vs=kvs.map (·.2))
def wA(F:Hp)(a:Addr)(ks:List KD)(vs:List V):Prop:=∃o,
 (∃kvs:List (Key×V),F a=some (.frz o (.dK kvs))/\ks=kvs.map (λp=>kdK p.1)/\vs=kvs.map (·.2))\/
 (∃kvs:List (List Key×V),F a=some (.frz o (.dT kvs))/\(ks=kvs.map (λp=>KD.tup p.1)/\kvs≠[])/\vs=kvs.map (·.2))
def nR(H:Hp)(a:Addr)(ks:List KD)(vs:List V):Prop:=wK H a ks vs\/wA H a ks vs
def zgx(F:Hp)(a:Addr)(l:List KD):Prop:=∃L,F a=some (.set L)/\l=L.map KD.str
def znq(c:Str):Str:=if c="NoPlace"then "place"else if c="NoRule"then "rule"else if c="TwoCounts"then "sign"else if c="TooLong"then "term"else "rules"
def ExcO(a C da:Addr):HO:=.ext λh=>∃oe vs,h.get? a=some oe/\oe.cls=.ref C/\oe.dict=some da/\oe.data=.fields vs
mutual
def Dat(K:Fg)(F:Hp):D->V->Prop
 | .non,v=>v=.non
 | .bl b,v=>v=.bl b
 | .int i,v=>v=.int i
 | .str x,v=>v=.str x
 | .tup l,v=>∃a vs,v=.ref a/\F a=some (.tup vs)/\zF K F l vs
 | .lst l,v=>∃a vs,v=.ref a/\F a=some (.lst vs)/\zF K F l vs
 | .scr ns,v=>∃a,v=.ref a/\SqL K F a (ns.map V.int)
 | .dic ks ds,v=>∃a vs,v=.ref a/\wA F a ks vs/\zF K F ds vs
 | .exc c d,v=>∃a C da u,v=.ref a/\F a=some (ExcO a C da)/\PySem.W.nsIn K mainGlobals c=some (some (.ref C))/\F da=some (.xd [(znq c,u)])/\Dat K F d u
def zF(K:Fg)(F:Hp):List D->List V->Prop
 |[],vs=>vs=[]
 |d::l,vs=>∃v r,vs=v::r/\Dat K F d v/\zF K F l r
end
section
variable{K:Fg}{F F' H H':Hp}
theorem wK.mono(s:zP F F'){a:Addr}{ks:List KD}{vs:List V}(h:wK F a ks vs):wK F' a ks vs:=by
 rcases h with⟨kvs,h,r⟩|⟨kvs,h,r⟩
 ·exact .inl ⟨kvs,s _ _ h,r⟩
 ·exact .inr ⟨kvs,s _ _ h,r⟩
theorem wA.mono(s:zP F F'){a:Addr}{ks:List KD}{vs:List V}(h:wA F a ks vs):wA F' a ks vs:=by
 obtain⟨o,⟨kvs,h,r⟩|⟨kvs,h,r⟩⟩:=h
 ·exact⟨o,.inl ⟨kvs,s _ _ h,r⟩⟩
 ·exact⟨o,.inr ⟨kvs,s _ _ h,r⟩⟩
theorem nR.mono(s:zP F F'){a:Addr}{ks:List KD}{vs:List V}(h:nR F a ks vs):nR F' a ks vs:=h.imp (wK.mono s) (wA.mono s)
theorem zgx.mono(s:zP F F'){a:Addr}{l:List KD}(h:zgx F a l):zgx F' a l:=by obtain⟨o,h,z⟩:=h;exact⟨o,s _ _ h,z⟩
theorem wK.some{a:Addr}{ks:List KD}{vs:List V}(h:wK F a ks vs):∃o,F a=some o:=by
 rcases h with⟨kvs,h,r⟩|⟨kvs,h,r⟩
 ·exact⟨_,h⟩
 ·exact⟨_,h⟩
theorem wA.some{a:Addr}{ks:List KD}{vs:List V}(h:wA F a ks vs):∃o,F a=some o:=by
 obtain⟨o,⟨kvs,h,r⟩|⟨kvs,h,r⟩⟩:=h
 ·exact⟨_,h⟩
 ·exact⟨_,h⟩
theorem nR.some{a:Addr}{ks:List KD}{vs:List V}(h:nR F a ks vs):∃o,F a=some o:=h.elim wK.some wA.some
theorem zgx.some{a:Addr}{l:List KD}(h:zgx F a l):∃o,F a=some o:=let⟨_,h,_⟩:=h;⟨_,h⟩
theorem wK.at{a:Addr}(e:F' a=F a){ks:List KD}{vs:List V}(h:wK F a ks vs):wK F' a ks vs:=by unfold wK at h ⊢;rw[e];exact h
theorem wA.at{a:Addr}(e:F' a=F a){ks:List KD}{vs:List V}(h:wA F a ks vs):wA F' a ks vs:=by unfold wA at h ⊢;rw[e];exact h
theorem nR.at{a:Addr}(e:F' a=F a){ks:List KD}{vs:List V}(h:nR F a ks vs):nR F' a ks vs:=h.imp (wK.at e) (wA.at e)
theorem zgx.at{a:Addr}(e:F' a=F a){l:List KD}(h:zgx F a l):zgx F' a l:=by unfold zgx at h ⊢;rw[e];exact h
mutual
theorem Dat.mono(t:zP F F'):∀{d:D}{v:V},Dat K F d v->Dat K F' d v
 | .non,_,h=>by simp only[Dat]at h ⊢;exact h
 | .bl _,_,h=>by simp only[Dat]at h ⊢;exact h
 | .int _,_,h=>by simp only[Dat]at h ⊢;exact h
 | .str _,_,h=>by simp only[Dat]at h ⊢;exact h
 | .tup l,_,h=>by simp only[Dat]at h ⊢;obtain⟨a,vs,e,h1,h2⟩:=h;exact⟨a,vs,e,t _ _ h1,zF.mono t h2⟩
 | .lst l,_,h=>by simp only[Dat]at h ⊢;obtain⟨a,vs,e,h1,h2⟩:=h;exact⟨a,vs,e,t _ _ h1,zF.mono t h2⟩
 | .scr l,_,h=>by simp only[Dat]at h ⊢;obtain⟨a,e,h1⟩:=h;exact⟨a,e,zP.seq t h1⟩
 | .dic _ l,_,h=>by simp only[Dat]at h ⊢;obtain⟨a,vs,e,h1,h2⟩:=h;exact⟨a,vs,e,h1.mono t,zF.mono t h2⟩
 | .exc c d,_,h=>by simp only[Dat]at h ⊢;obtain⟨a,C,da,u,e,h1,h2,h3,h4⟩:=h;exact⟨a,C,da,u,e,t _ _ h1,h2,t _ _ h3,Dat.mono t h4⟩
theorem zF.mono(t:zP F F'):∀{l:List D}{vs:List V},zF K F l vs->zF K F' l vs
 |[],_,h=>by simp only[zF]at h ⊢;exact h
 |d::l,_,h=>by simp only[zF]at h ⊢;obtain⟨v,r,e,h1,h2⟩:=h;exact⟨v,r,e,Dat.mono t h1,zF.mono t h2⟩
end
theorem zF.nil:zF K F [] []:=by simp only[zF]
theorem zF.cons{d:D}{l:List D}{v:V}{vs:List V}(h:Dat K F d v)(r:zF K F l vs):zF K F (d::l) (v::vs):=by simp only[zF];exact⟨v,vs,rfl,h,r⟩
theorem zF.nil_inv{vs:List V}(h:zF K F [] vs):vs=[]:=by simp only[zF]at h;exact h
theorem zF.cons_inv{d:D}{l:List D}{vs:List V}(h:zF K F (d::l) vs):∃v r,vs=v::r/\Dat K F d v/\zF K F l r:=by simp only[zF]at h;exact h
theorem Dat.non_inv{v:V}(h:Dat K F .non v):v=.non:=by simp only[Dat]at h;exact h
theorem Dat.bl_inv{b:Bool}{v:V}(h:Dat K F (.bl b) v):v=.bl b:=by simp only[Dat]at h;exact h
theorem Dat.int_inv{i:Int}{v:V}(h:Dat K F (.int i) v):v=.int i:=by simp only[Dat]at h;exact h
theorem Dat.str_inv{x:Str}{v:V}(h:Dat K F (.str x) v):v=.str x:=by simp only[Dat]at h;exact h
theorem Dat.tup_inv{l:List D}{v:V}(h:Dat K F (.tup l) v):∃a vs,v=.ref a/\F a=some (.tup vs)/\zF K F l vs:=by simp only[Dat]at h;exact h
theorem Dat.lst_inv{l:List D}{v:V}(h:Dat K F (.lst l) v):∃a vs,v=.ref a/\F a=some (.lst vs)/\zF K F l vs:=by simp only[Dat]at h;exact h
theorem Dat.scr_inv{l:List Int}{v:V}(h:Dat K F (.scr l) v):∃a,v=.ref a/\SqL K F a (l.map V.int):=by simp only[Dat]at h;exact h
theorem Dat.dic_inv{ks:List KD}{l:List D}{v:V}(h:Dat K F (.dic ks l) v):∃a vs,v=.ref a/\wA F a ks vs/\zF K F l vs:=by simp only[Dat]at h;exact h
theorem Dat.exc_inv{c:Str}{d:D}{v:V}(h:Dat K F (.exc c d) v):∃a C da u,v=.ref a/\F a=some (ExcO a C da)/\PySem.W.nsIn K mainGlobals c=some (some (.ref C))/\F da=some (.xd [(znq c,u)])/\Dat K F d u:=by simp only[Dat]at h;exact h
theorem Dat.non:Dat K F .non .non:=by simp only[Dat]
theorem Dat.bl(b:Bool):Dat K F (.bl b) (.bl b):=by simp only[Dat]
theorem Dat.int(i:Int):Dat K F (.int i) (.int i):=by simp only[Dat]
theorem Dat.str(x:Str):Dat K F (.str x) (.str x):=by simp only[Dat]
theorem Dat.tup{l:List D}{a:Addr}{vs:List V}(h:F a=some (.tup vs))(r:zF K F l vs):Dat K F (.tup l) (.ref a):=by simp only[Dat];exact⟨a,vs,rfl,h,r⟩
theorem Dat.lst{l:List D}{a:Addr}{vs:List V}(h:F a=some (.lst vs))(r:zF K F l vs):Dat K F (.lst l) (.ref a):=by simp only[Dat];exact⟨a,vs,rfl,h,r⟩
theorem Dat.scr{l:List Int}{a:Addr}(h:SqL K F a (l.map V.int)):Dat K F (.scr l) (.ref a):=by simp only[Dat];exact⟨a,rfl,h⟩
theorem Dat.dic{ks:List KD}{l:List D}{a:Addr}{vs:List V}(h:wA F a ks vs)(r:zF K F l vs):Dat K F (.dic ks l) (.ref a):=by simp only[Dat];exact⟨a,vs,rfl,h,r⟩
theorem zF.length:∀{l:List D}{vs:List V},zF K F l vs->vs.length=l.length
 |[],_,h=>by rw[h.nil_inv];rfl
 |_::l,_,h=>by obtain⟨v,r,rfl,_,h2⟩:=h.cons_inv;simp[zF.length h2]
theorem zF.get:∀{l:List D}{vs:List V} {i:Nat}{d:D},zF K F l vs->l[i]?=some d->∃v,vs[i]?=some v/\Dat K F d v
 |[],_,_,_,_,e=>by simp at e
 |_::l,_,i,d,h,e=>by
  obtain⟨v,r,rfl,h1,h2⟩:=h.cons_inv;cases i with
  |zero=>simp at e;subst e;exact⟨v,rfl,h1⟩
  |succ i=>
   obtain⟨u,e1,h3⟩:=zF.get (i:=i) h2 (by simpa using e);exact⟨u,by simpa using e1,h3⟩
theorem zF.get'{l:List D}{vs:List V}{i:Nat}{v:V}(h:zF K F l vs)(e:vs[i]?=some v):∃d,l[i]?=some d/\Dat K F d v:=by
 have hl:=h.length;have hi:i<l.length:=by rw[←hl];exact(List.getElem?_eq_some_iff.mp e).1
 obtain⟨u,e1,h1⟩:=h.get (List.getElem?_eq_getElem hi);rw[e]at e1;cases e1
 exact⟨_,List.getElem?_eq_getElem hi,h1⟩
theorem zF.append:∀{l m:List D}{vs us:List V},zF K F l vs->zF K F m us->zF K F (l++m) (vs++us)
 |[],_,_,_,h,k=>by rw[h.nil_inv];exact k
 |_::l,_,_,_,h,k=>by obtain⟨v,r,rfl,h1,h2⟩:=h.cons_inv;exact zF.cons h1 (zF.append h2 k)
theorem zF.snoc{l:List D}{vs:List V}{d:D}{v:V}(h:zF K F l vs)(k:Dat K F d v):zF K F (l++[d]) (vs++[v]):=h.append (zF.cons k zF.nil)
theorem zF.reverse:∀{l:List D}{vs:List V},zF K F l vs->zF K F l.reverse vs.reverse
 |[],_,h=>by rw[h.nil_inv];exact zF.nil
 |_::l,_,h=>by obtain⟨v,r,rfl,h1,h2⟩:=h.cons_inv;rw[QO,QO];exact(zF.reverse h2).snoc h1
theorem zF.take:∀{l:List D}{vs:List V} (n:Nat),zF K F l vs->zF K F (l.take n) (vs.take n)
 |_,_,0,_=>by simp;exact zF.nil
 |[],_,n+1,h=>by rw[h.nil_inv];simp;exact zF.nil
 |_::l,_,n+1,h=>by obtain⟨v,r,rfl,h1,h2⟩:=h.cons_inv;rw[QH,QH];exact zF.cons h1 (zF.take n h2)
theorem zF.drop:∀{l:List D}{vs:List V} (n:Nat),zF K F l vs->zF K F (l.drop n) (vs.drop n)
 |_,_,0,h=>by simpa using h
 |[],_,n+1,h=>by rw[h.nil_inv];simp;exact zF.nil
 |_::l,_,n+1,h=>by obtain⟨v,r,rfl,h1,h2⟩:=h.cons_inv;rw[List.drop_succ_cons,List.drop_succ_cons];exact zF.drop n h2
theorem zF.eraseIdx:∀{l:List D}{vs:List V} (n:Nat),zF K F l vs->zF K F (l.eraseIdx n) (vs.eraseIdx n)
 |[],_,_,h=>by rw[h.nil_inv];simp;exact zF.nil
 |_::l,_,n,h=>by
  obtain⟨v,r,rfl,h1,h2⟩:=h.cons_inv;cases n with
  |zero=>exact h2
  |succ n=>exact zF.cons h1 (zF.eraseIdx n h2)
theorem zF.dropLast{l:List D}{vs:List V}(h:zF K F l vs):zF K F l.dropLast vs.dropLast:=by rw[List.dropLast_eq_take,List.dropLast_eq_take,h.length];exact h.take _
theorem zF.ints:∀{ns:List Int}{vs:List V},zF K F (ns.map D.int) vs->vs=ns.map V.int
 |[],_,h=>h.nil_inv
 |n::ns,_,h=>by obtain⟨v,r,rfl,h1,h2⟩:=h.cons_inv;rw[h1.int_inv,zF.ints h2];rfl
theorem zF.ofInts:∀(ns:List Int),zF K F (ns.map D.int) (ns.map V.int)
 |[]=>zF.nil
 |n::ns=>zF.cons (Dat.int n) (zF.ofInts ns)
theorem zF.two{a b:D}{vs:List V}(h:zF K F [a,b] vs):∃v u,vs=[v,u]/\Dat K F a v/\Dat K F b u:=by obtain⟨v,r,rfl,h1,h2⟩:=h.cons_inv;obtain⟨u,r,rfl,h3,h4⟩:=h2.cons_inv;rw[h4.nil_inv];exact⟨v,u,rfl,h1,h3⟩
def zZ(K:Fg)(F H:Hp):D->V->Prop
 | .lst l,v=>∃a vs,v=.ref a/\H a=some (.lst vs)/\zF K F l vs
 | .dic ks ds,v=>∃a vs,v=.ref a/\nR H a ks vs/\zF K F ds vs
 |d,v=>Dat K F d v
theorem Dat.b(s:zP F H){d:D}{v:V}(h:Dat K F d v):zZ K F H d v:=by
 cases d with
 |lst l=>obtain⟨a,vs,e,h1,h2⟩:=h.lst_inv;exact⟨a,vs,e,s _ _ h1,h2⟩
 |dic ks l=>obtain⟨a,vs,e,h1,h2⟩:=h.dic_inv;exact⟨a,vs,e,.inr (h1.mono s),h2⟩
 |_=>exact h
theorem zZ.mono(f:zP F F')(g:zP H H'){d:D}{v:V}(h:zZ K F H d v):zZ K F' H' d v:=by
 cases d with
 |lst l=>obtain⟨a,vs,e,h1,h2⟩:=h;exact⟨a,vs,e,g _ _ h1,h2.mono f⟩
 |dic ks l=>obtain⟨a,vs,e,h1,h2⟩:=h;exact⟨a,vs,e,h1.mono g,h2.mono f⟩
 |_=>exact Dat.mono f h
def Own(K:Fg)(F H:Hp):D->Addr->Prop
 | .lst l,a=>∃vs,H a=some (.lst vs)/\zF K F l vs
 | .dic ks ds,a=>∃vs,wK H a ks vs/\zF K F ds vs
 |_,_=>False
theorem Own.mono(f:zP F F'){d:D}{a:Addr}(g:∀o,H a=some o->H' a=some o)(h:Own K F H d a):Own K F' H' d a:=by
 cases d with
 |lst l=>obtain⟨vs,h1,h2⟩:=h;exact⟨vs,g _ h1,h2.mono f⟩
 |dic ks l=>
  obtain⟨vs,h1,h2⟩:=h;obtain⟨o,e⟩:=h1.some;exact⟨vs,h1.at (by rw[e];exact g _ e),h2.mono f⟩
 |_=>exact h.elim
theorem Own.some{d:D}{a:Addr}(h:Own K F H d a):∃o,H a=some o:=by
 cases d with
 |lst l=>obtain⟨vs,h1,h2⟩:=h;exact⟨_,h1⟩
 |dic ks l=>obtain⟨vs,h1,h2⟩:=h;exact h1.some
 |_=>exact h.elim
theorem Own.b{d:D}{a:Addr}(h:Own K F H d a):zZ K F H d (.ref a):=by
 cases d with
 |lst l=>obtain⟨vs,h1,h2⟩:=h;exact⟨a,vs,rfl,h1,h2⟩
 |dic ks l=>obtain⟨vs,h1,h2⟩:=h;exact⟨a,vs,rfl,.inl h1,h2⟩
 |_=>exact h.elim
def wI(F H:Hp)(a:Addr):Hp:=λb=>if b=a then H a else F b
theorem zcH{a:Addr}:wI F H a a=H a:=by unfold wI;rw[if_pos rfl]
theorem zbz{a b:Addr}(h:b≠a):wI F H a b=F b:=by unfold wI;rw[if_neg h]
theorem zaW{a:Addr}(h:F a=none):zP F (wI F H a):=λb o e=>by rw[zbz (jE e h)];exact e
theorem zcb{a:Addr}(s:zP F H):zP (wI F H a) H:=λb o e=>by
 by_cases hb:b=a
 ·subst hb;rw[zcH]at e;exact e
 ·rw[zbz hb]at e;exact s _ _ e
noncomputable def zpn:Option HO->Bool
 |some (.dK _)=>true
 |some (.dT _)=>true
 |_=>false
def gE(H:Hp)(a:Addr)(H2:Hp):Prop:=(H2=H/\zpn (H a)=false)\/∃o u,H a=some u/\zpn (some u)=true/\H2=upd H a (.frz o u)
theorem gE.ne{H2:Hp}{a b:Addr}(f:gE H a H2)(h:b≠a):H2 b=H b:=by
 rcases f with⟨rfl,_⟩|⟨o,u,_,_,rfl⟩
 ·rfl
 ·exact zW h
theorem gE.same{H2:Hp}{a:Addr}(f:gE H a H2)(s:zP F H)(h:F a=none):zP F H2:=λb o e=>by rw[f.ne (jE e h)];exact s _ _ e
theorem Own.freeze{H2:Hp}{d:D}{a:Addr}(h:Own K F H d a)(hn:F a=none)(f:gE H a H2):Dat K (wI F H2 a) d (.ref a):=by
 have x:zP F (wI F H2 a):=zaW hn;cases d with
 |lst l=>
  obtain⟨vs,h1,h2⟩:=h;rcases f with⟨rfl,_⟩|⟨o,u,e,z,_⟩
  ·exact Dat.lst (by rw[zcH];exact h1) (h2.mono x)
  ·rw[h1]at e;cases e;cases z
 |dic ks l=>
  obtain⟨vs,h1,h2⟩:=h;refine Dat.dic ?_ (h2.mono x);rcases h1 with⟨kvs,h1,r⟩|⟨kvs,h1,r⟩
  ·rcases f with⟨_,z⟩|⟨o,u,e,z,rfl⟩
   ·rw[h1]at z;cases z
   ·rw[h1]at e;cases e
    exact⟨o,.inl ⟨kvs,by rw[zcH];exact qR,r⟩⟩
  ·rcases f with⟨_,z⟩|⟨o,u,e,z,rfl⟩
   ·rw[h1]at z;cases z
   ·rw[h1]at e;cases e
    exact⟨o,.inr ⟨kvs,by rw[zcH];exact qR,r⟩⟩
 |_=>exact h.elim
theorem zZ.frz{H2:Hp}{a:Addr}{d:D}{v:V}(h:zZ K F H d v)(x:zP F F')(f:gE H a H2)(hv:v≠.ref a):zZ K F' H2 d v:=by
 cases d with
 |lst l=>obtain⟨b,vs,e,h1,h2⟩:=h;exact⟨b,vs,e,by rw[f.ne λz=>hv (by rw[e,z])];exact h1,h2.mono x⟩
 |dic ks l=>obtain⟨b,vs,e,h1,h2⟩:=h;exact⟨b,vs,e,h1.at (f.ne λz=>hv (by rw[e,z])),h2.mono x⟩
 |_=>exact Dat.mono x h
theorem Own.fl{l:List D}{a:Addr}(h:Own K F H (.lst l) a):gE H a H:=by obtain⟨vs,h1,_⟩:=h;exact .inl ⟨rfl,by rw[h1];rfl⟩
end
inductive Sl where
 |dat (d:D)|ow (p:Bool) (d:D)|bor (d:D)
abbrev Sl.own(d:D):Sl:=.ow false d
abbrev Sl.inn(d:D):Sl:=.ow true d
def Sl.isDat:Sl->Bool
 | .dat _=>true
 |_=>false
abbrev St:=L2.St
abbrev En:=List (Option Sl)
abbrev EO(α:Type):=En->Option α
abbrev LO:=List D->Option D
def xC(ρ:En)(σ:St)(b:Addr):Prop:=∃(i:Nat) (p:Bool) (d:D),ρ[i]?=some (some (.ow p d))/\σ[i]?=some (some (.ref b))
structure Rel(K:Fg)(F H:Hp)(ρ:En)(σ:St):Prop where
 sub:zP F H
 dat:∀(i:Nat) (d:D),ρ[i]?=some (some (.dat d))->∃v,σ[i]?=some (some v)/\Dat K F d v
 bor:∀(i:Nat) (d:D),ρ[i]?=some (some (.bor d))->∃v,σ[i]?=some (some v)/\zZ K F H d v
 own:∀(i:Nat) (p:Bool) (d:D),ρ[i]?=some (some (.ow p d))->∃a,σ[i]?=some (some (.ref a))/\F a=none/\Own K F H d a
 inj:∀(i j:Nat) (p:Bool) (d:D) (s:Sl) (a:Addr),i≠j->ρ[i]?=some (some (.ow p d))->σ[i]?=some (some (.ref a))->ρ[j]?=some (some s)->s.isDat=false->σ[j]?≠some (some (.ref a))
 len:ρ.length=σ.length
structure zK(F H F' H':Hp):Prop where
 ff:zP F F'
 hh:zP H H'
 fh:zP F' H'
 nw:∀b o,H b=some o->F b=none->F' b=none
section
variable{K:Fg}{F F' F2 H H' H2:Hp}{ρ ρ' ρ2:En}{σ σ' σ2:St}
theorem zK.refl(s:zP F H):zK F H F H:=⟨zP.refl _,zP.refl _,s,λ_ _ _ n=>n⟩
theorem zK.trans(a:zK F H F' H')(b:zK F' H' F2 H2):zK F H F2 H2:=
 ⟨a.ff.trans b.ff,a.hh.trans b.hh,b.fh,λc o e n=>b.nw c o (a.hh _ _ e) (a.nw c o e n)⟩
theorem wW{p:Addr}(h:H p=none)(o:HO):zP H (upd H p o):=λb u q=>by rw[zW (jE q h)];exact q
theorem zK.frozen{p:Addr}{o:HO}(s:zP F H)(h:H p=none):zK F H (upd F p o) (upd H p o):=by
 refine⟨wW (s.free h) o,wW h o,λb u e=>?_,λb u e n=>?_⟩
 ·by_cases hb:b=p
  ·subst hb;rw[qR]at e ⊢;exact e
  ·rw[zW hb]at e ⊢;exact s _ _ e
 ·have hb:b≠p:=jE e h;rw[zW hb];exact n
theorem zK.fresh{p:Addr}{o:HO}(s:zP F H)(h:H p=none):zK F H F (upd H p o):=
 ⟨zP.refl _,wW h o,s.trans (wW h o),λb u e n=>n⟩
theorem zK.freeze{a:Addr}{H3:Hp}(g:zK F H F' H')(h:H a=none)(hn:F' a=none)(f:gE H' a H3):zK F H (wI F' H3 a) H3:=by
 refine⟨g.ff.trans (zaW hn),λb o e=>?_,zcb (f.same g.fh hn),λb o e n=>?_⟩
 ·rw[f.ne (jE e h)];exact g.hh _ _ e
 ·have hb:b≠a:=jE e h;rw[zbz hb];exact g.nw b o e n
theorem Rel.grow(r:Rel K F H ρ σ)(g:zK F H F' H'):Rel K F' H' ρ σ where
 sub:=g.fh
 dat:=λi d e=>let⟨v,h1,h2⟩:=r.dat i d e;⟨v,h1,h2.mono g.ff⟩
 bor:=λi d e=>let⟨v,h1,h2⟩:=r.bor i d e;⟨v,h1,h2.mono g.ff g.hh⟩
 own:=λi p d e=>by obtain⟨a,h1,h2,h3⟩:=r.own i p d e;obtain⟨o,ho⟩:=h3.some;exact⟨a,h1,g.nw a o ho h2,h3.mono g.ff λo e=>g.hh _ _ e⟩
 inj:=r.inj
 len:=r.len
structure jA(ρ:En)(σ:St)(F H:Hp)(ρ':En)(σ':St)(F' H':Hp):Prop where
 ff:zP F F'
 rest:∀b o,H b=some o->F b=none->¬xC ρ σ b->H' b=some o/\F' b=none
 own:∀b,xC ρ' σ' b->H b=none\/xC ρ σ b
 pin:∀(i:Nat) (d':D),ρ'[i]?=some (some (.ow true d'))->∃d,ρ[i]?=some (some (.ow true d))/\σ'[i]?=σ[i]?
 fh:zP F' H'
theorem zK.step(g:zK F H F' H'):jA ρ σ F H ρ σ F' H':=⟨g.ff,λb o e n _=>⟨g.hh _ _ e,g.nw b o e n⟩,λ_ h=>.inr h,λ_ d e=>⟨d,e,rfl⟩,g.fh⟩
theorem jA.back(a:jA ρ σ F H ρ' σ' F' H')(s:zP F H){b:Addr}(h:H' b=none\/xC ρ' σ' b):H b=none\/xC ρ σ b:=by
 rcases h with h|h
 ·cases e:H b with
  |none=>exact .inl rfl
  |some o=>
   cases f:F b with
   |some u=>have:=a.fh _ _ (a.ff _ _ f);rw[h]at this;cases this
   |none=>
    by_cases q:xC ρ σ b
    ·exact .inr q
    ·have:=(a.rest b o e f q).1;rw[h]at this;cases this
 ·exact a.own b h
theorem jA.trans(a:jA ρ σ F H ρ' σ' F' H')(b:jA ρ' σ' F' H' ρ2 σ2 F2 H2)(s:zP F H):jA ρ σ F H ρ2 σ2 F2 H2:=by
 refine⟨a.ff.trans b.ff,λc o e n q=>?_,λc h=>a.back s (b.own c h),λi d e=>?_,b.fh⟩
 rotate_left
 ·obtain⟨d1,e1,e2⟩:=b.pin i d e;obtain⟨d2,e3,e4⟩:=a.pin i d1 e1;exact⟨d2,e3,e2.trans e4⟩
 obtain⟨h1,h2⟩:=a.rest c o e n q;refine b.rest c o h1 h2 λz=>?_
 rcases a.own c z with y|y
 ·rw[e]at y;cases y
 ·exact q y
end
inductive Md where
 |fz|ow|br
def Res(K:Fg)(md:Md)(H F' H':Hp)(d:D)(v:V):Prop:=match md with
 | .fz=>Dat K F' d v
 | .ow=>∃a,v=.ref a/\H a=none/\F' a=none/\Own K F' H' d a
 | .br=>zZ K F' H' d v
noncomputable def rdE(K:Fg)(md:Md)(ρ:En)(d:D):TE:=λσ H Q=>∃F,Rel K F H ρ σ/\∀v F' H',zK F H F' H'->Res K md H F' H' d v->Q v H'
structure FP(K:Fg)(md:Md)(X:Cx)(e:Expr)(f:EO D):Prop where
 h:∀ρ d,f ρ=some d->PE X e (rdE K md ρ d)
theorem PE.imp{X:Cx}{e:Expr}{t t':TE}(h:PE X e t)(w:∀σ H Q,t' σ H Q->t σ H Q):PE X e t':=λpins s σ H Q I ht=>h pins s σ H Q I (w σ H Q ht)
theorem PT.imp{X:Cx}{e:Expr}{t t':TT}(h:PT X e t)(w:∀σ H Q,t' σ H Q->t σ H Q):PT X e t':=λpins s σ H Q I ht=>h pins s σ H Q I (w σ H Q ht)
theorem PW.imp{X:Cx}{e:Expr}{t t':TT}(h:PW X e t)(w:∀σ H Q,t' σ H Q->t σ H Q):PW X e t':=λwh pins s σ H Q I ht=>h wh pins s σ H Q I (w σ H Q ht)
theorem PA.imp{X:Cx}{e:List Expr}{t t':TA}(h:PA X e t)(w:∀σ H Q,t' σ H Q->t σ H Q):PA X e t':=λpos pins s σ H Q I ht=>h pos pins s σ H Q I (w σ H Q ht)
theorem PS.imp{X:Cx}{e:Stmt}{t t':TS}(h:PS X e t)(w:∀D σ H,t' D σ H->t D σ H):PS X e t':=λpins s σ H D I ht=>h pins s σ H D I (w D σ H ht)
theorem PSs.imp{X:Cx}{e:List Stmt}{t t':TS}(h:PSs X e t)(w:∀D σ H,t' D σ H->t D σ H):PSs X e t':=λpins s σ H D I ht=>h pins s σ H D I (w D σ H ht)
section
variable{K:Fg}{X:Cx}{e:Expr}{f:EO D}
theorem Res.fz_of_ow{H F' H' H3:Hp}{d:D}{v:V}{F:Hp}{a:Addr}(g:zK F H F' H')(h:Res K .ow H F' H' d v)(e:v=.ref a)(f:gE H' a H3):∃F2,zK F H F2 H3/\Dat K F2 d v:=by
 subst e;obtain⟨b,e,h1,h2,h3⟩:=h;cases e
 exact⟨_,g.freeze h1 h2 f,h3.freeze h2 f⟩
theorem Res.ow_ref{H F' H':Hp}{d:D}{v:V}(h:Res K .ow H F' H' d v):∃a,v=.ref a:=let⟨a,e,_⟩:=h;⟨a,e⟩
theorem Inv.frzTo{pins:AO}{σ:St}{H:Hp}{s:Shared}(I:Inv X pins σ H s)(a:Addr):∃H2,gE H a H2/\Inv X pins σ H2 s:=by
 cases h:zpn (H a)with
 |false=>exact⟨H,.inl ⟨rfl,h⟩,I⟩
 |true=>
  cases e:H a with
  |none=>rw[e]at h;cases h
  |some u=>
   rw[e]at h;have ok:=I.hok a u e;have mu:Mut (H a):=by rw[e];cases u<;>first|exact True.intro|cases h
   obtain⟨o,ho⟩:∃o,s.heap.get? a=some o:=by
    cases u<;>first
     |cases h;done
     |(obtain⟨_,_,_,_,o,_,_,q,_⟩:=ok;exact⟨o,q⟩)
   refine⟨_,.inr ⟨o,u,e,h,rfl⟩,?_⟩
   have:=I.write (o:=.frz o u) (t':=s.toks) (h':=s.heap) mu (.inl rfl) (λb u _ q=>q) ⟨o,ho⟩ ⟨ho,ok.stay (λb u _ q=>q) (λb q=>?_) λb xs q=>?_⟩
   ·exact this
   ·rw[zW λz=>by subst z;rw[e]at q;cases q;cases h];exact q
   ·rw[zW λz=>by subst z;rw[e]at q;cases q;cases h];exact q
theorem znU{t:TE}(h:PE X e t):PE X e (λσ H Q=>t σ H λv H'=>∃a,v=.ref a/\∀H2,gE H' a H2->Q v H2):=λpins s σ H Q I ht=>
 thn (h pins s σ H _ I ht) λv s1 ⟨x,H1,I1,r1,a,ea,q⟩=>by obtain⟨H2,f,I2⟩:=Inv.frzTo I1 a;exact⟨x,H2,I2,r1,q H2 f⟩
theorem FP.fz(h:FP K .ow X e f):FP K .fz X e f:=FP.mk λρ d hf=>PE.imp (znU (h.h ρ d hf)) λσ H Q ⟨F,r,q⟩=>⟨F,r,λv F' H' g hr=>by obtain⟨a,ea⟩:=hr.ow_ref;refine⟨a,ea,λH2 fz=>?_⟩;obtain⟨F2,g2,h2⟩:=Res.fz_of_ow g hr ea fz;exact q v F2 H2 g2 h2⟩
theorem FP.br(h:FP K .fz X e f):FP K .br X e f:=FP.mk λρ d hf=>PE.imp (h.h ρ d hf) λσ H Q ⟨F,r,q⟩=>⟨F,r,λv F' H' g hr=>q v F' H' g (Dat.b g.fh hr)⟩
theorem FP.ob(h:FP K .ow X e f):FP K .br X e f:=h.fz.br
end
noncomputable def gv(i:Nat)(ρ:En):Option D:=match ρ[i]? with
 |some (some (.dat d))=>some d
 |_=>none
noncomputable def gb(i:Nat)(ρ:En):Option D:=match ρ[i]? with
 |some (some (.dat d))=>some d
 |some (some (.ow _ d))=>some d
 |some (some (.bor d))=>some d
 |_=>none
theorem zpq{i:Nat}{ρ:En}{d:D}(h:gv i ρ=some d):ρ[i]?=some (some (.dat d)):=by unfold gv at h;split at h<;>first|(cases h;assumption)|cases h
theorem zpr{K:Fg}{F H:Hp}{i:Nat}{ρ:En}{σ:St}{d:D}(r:Rel K F H ρ σ)(h:gb i ρ=some d):∃v,σ[i]?=some (some v)/\zZ K F H d v:=by
 unfold gb at h;split at h
 ·rename_i e;cases h
  obtain⟨v,h1,h2⟩:=r.dat i _ e;exact⟨v,h1,h2.b r.sub⟩
 ·rename_i e;cases h
  obtain⟨a,h1,h2,h3⟩:=r.own i _ _ e;exact⟨_,h1,h3.b⟩
 ·rename_i e;cases h
  exact r.bor i _ e
 ·cases h
noncomputable def cst(d:D):EO D:=λ_=>some d
section
variable{K:Fg}{X:Cx}
theorem fv(i:Nat){x:Str}{pos:Pos}(hN:X.N[i]?=some x:=by rfl)(hv:Vis X.env.scope x:=by first|exact Or.inl rfl|exact Or.inr (Or.inl rfl)|exact Or.inr (Or.inr rfl))(hd:(x==("__debug__":Str))=false:=by decide)(hcd:(x==("__classdict__":Str))=false:=by decide):FP K .fz X (.Name x pos) (gv i):=FP.mk λρ d hf=>
 PE.imp (wN hN hv hd hcd) λσ H Q ⟨F,r,q⟩=>by obtain⟨v,h1,h2⟩:=r.dat i d (zpq hf);exact⟨v,h1,q v F H (zK.refl r.sub) h2⟩
theorem fb(i:Nat){x:Str}{pos:Pos}(hN:X.N[i]?=some x:=by rfl)(hv:Vis X.env.scope x:=by first|exact Or.inl rfl|exact Or.inr (Or.inl rfl)|exact Or.inr (Or.inr rfl))(hd:(x==("__debug__":Str))=false:=by decide)(hcd:(x==("__classdict__":Str))=false:=by decide):FP K .br X (.Name x pos) (gb i):=FP.mk λρ d hf=>
 PE.imp (wN hN hv hd hcd) λσ H Q ⟨F,r,q⟩=>by obtain⟨v,h1,h2⟩:=zpr r hf;exact⟨v,h1,q v F H (zK.refl r.sub) h2⟩
theorem jX{i j pos}:FP K .fz X (.Constant (.int i) j pos) (cst (.int i)):=FP.mk λρ d hf=>PE.imp zqM λσ H Q ⟨F,r,q⟩=>by cases hf;exact q (.int i) F H (zK.refl r.sub) (Dat.int (K:=K) (F:=F) i)
theorem fbl{i j pos}:FP K .fz X (.Constant (.bool i) j pos) (cst (.bl i)):=FP.mk λρ d hf=>PE.imp zss λσ H Q ⟨F,r,q⟩=>by cases hf;exact q (.bl i) F H (zK.refl r.sub) (Dat.bl (K:=K) (F:=F) i)
theorem fnon{j pos}:FP K .fz X (.Constant .none j pos) (cst .non):=FP.mk λρ d hf=>PE.imp zqK λσ H Q ⟨F,r,q⟩=>by cases hf;exact q .non F H (zK.refl r.sub) (Dat.non (K:=K) (F:=F))
theorem qI{i j pos}:FP K .fz X (.Constant (.str i) j pos) (cst (.str i)):=FP.mk λρ d hf=>PE.imp zqF λσ H Q ⟨F,r,q⟩=>by cases hf;exact q (.str i) F H (zK.refl r.sub) (Dat.str (K:=K) (F:=F) i)
theorem zsJ{x:Str}{d:D}{v:V}{u:Value}{pos:Pos}(hg:Gl X x)(hm:X.mg x=some u)(r:zT v u)(hd:∀F,Dat K F d v)(hdb:(x==("__debug__":Str))=false:=by decide):FP K .fz X (.Name x pos) (cst d):=FP.mk λρ d' hf=>
 PE.imp (zoQ hg hm r hdb) λσ H Q ⟨F,rr,q⟩=>by cases hf;exact q _ F H (zK.refl rr.sub) (hd F)
end
def Op2(K:Fg)(X:Cx)(f:Value->Value->Sem Value)(md:Md)(p:D->D->Option D):Prop:=
 ∃r:R2,OpR X f r/\∀x y d F H v u Q,p x y=some d->zP F H->zZ K F H x v->zZ K F H y u->(∀w F' H',zK F H F' H'->Res K md H F' H' d w->Q w H')->r v u H Q
def Ix2(K:Fg)(X:Cx)(md:Md)(p:D->D->Option D):Prop:=
 ∃r:R2,IxR X r/\∀x y d F H v u Q,p x y=some d->zP F H->zZ K F H x v->zZ K F H y u->(∀w F' H',zK F H F' H'->Res K md H F' H' d w->Q w H')->r v u H Q
noncomputable def c2(p:D->D->Option D)(fa fb:EO D):EO D:=λρ=>(fa ρ).bind λx=>(fb ρ).bind λy=>p x y
noncomputable def c1(p:D->Option D)(fa:EO D):EO D:=λρ=>(fa ρ).bind p
theorem zba{p:D->D->Option D}{fa fb:EO D}{ρ:En}{d:D}(h:c2 p fa fb ρ=some d):∃x y,fa ρ=some x/\fb ρ=some y/\p x y=some d:=by
 unfold c2 at h;cases e1:fa ρ with
 |none=>rw[e1]at h;cases h
 |some x=>
  cases e2:fb ρ with
  |none=>rw[e1,e2]at h;cases h
  |some y=>rw[e1,e2]at h;exact⟨x,y,rfl,rfl,h⟩
theorem zlY{p:D->Option D}{fa:EO D}{ρ:En}{d:D}(h:c1 p fa ρ=some d):∃x,fa ρ=some x/\p x=some d:=by
 unfold c1 at h;cases e1:fa ρ with
 |none=>rw[e1]at h;cases h
 |some x=>rw[e1]at h;exact⟨x,rfl,h⟩
section
variable{K:Fg}{X:Cx}{a b:Expr}{fa fb:EO D}{pos:Pos}{md:Md}{p:D->D->Option D}
theorem two{ta tb:TE}{ρ:En}{x y d:D}{r:R2}(ha:PE X a (rdE K .br ρ x))(hb:PE X b (rdE K .br ρ y))(hr:∀F H v u Q,zP F H->zZ K F H x v->zZ K F H y u->(∀w F' H',zK F H F' H'->Res K md H F' H' d w->Q w H')->r v u H Q)(σ:St)(H:Hp)(Q:VK)(h:rdE K md ρ d σ H Q):tOp r (rdE K .br ρ x) (rdE K .br ρ y) σ H Q:=by
 obtain⟨F,rl,q⟩:=h;refine⟨F,rl,λv F1 H1 g1 r1=>⟨F1,rl.grow g1,λu F2 H2 g2 r2=>?_⟩⟩;refine hr F2 H2 v u Q g2.fh (zZ.mono g2.ff g2.hh r1) r2 λw F3 H3 g3 r3=>?_
 have g:=g1.trans (g2.trans g3);refine q w F3 H3 g ?_;cases md with
 |fz=>exact r3
 |br=>exact r3
 |ow=>
  obtain⟨a,e,h1,h2,h3⟩:=r3;exact⟨a,e,(g1.hh.trans g2.hh).free h1,h2,h3⟩
theorem fop{op:Operator}(o:Op2 K X (binaryOp op) md p)(ha:FP K .br X a fa)(hb:FP K .br X b fb):FP K md X (.BinOp a op b pos) (c2 p fa fb):=FP.mk λρ d hf=>by obtain⟨x,y,e1,e2,e3⟩:=zba hf;obtain⟨r,ho,hr⟩:=o;exact PE.imp (zsq ho (ha.h ρ x e1) (hb.h ρ y e2)) (two (ta:=λ_ _ _=>True) (tb:=λ_ _ _=>True) (ha.h ρ x e1) (hb.h ρ y e2) λF H v u Q s h1 h2 k=>hr x y d F H v u Q e3 s h1 h2 k)
theorem fcmp{op:CmpOp}(o:Op2 K X (compareOp op) md p)(ha:FP K .br X a fa)(hb:FP K .br X b fb)(hm:behindInMarks op b=false):FP K md X (.Compare a [op] [b] pos) (c2 p fa fb):=FP.mk λρ d hf=>by obtain⟨x,y,e1,e2,e3⟩:=zba hf;obtain⟨r,ho,hr⟩:=o;exact PE.imp (zhT ho (ha.h ρ x e1) (hb.h ρ y e2) hm) (two (ta:=λ_ _ _=>True) (tb:=λ_ _ _=>True) (ha.h ρ x e1) (hb.h ρ y e2) λF H v u Q s h1 h2 k=>hr x y d F H v u Q e3 s h1 h2 k)
theorem fix(o:Ix2 K X md p)(ha:FP K .br X a fa)(hb:FP K .br X b fb)(hs:zgy b):FP K md X (.Subscript a b pos) (c2 p fa fb):=FP.mk λρ d hf=>by obtain⟨x,y,e1,e2,e3⟩:=zba hf;obtain⟨r,ho,hr⟩:=o;exact PE.imp (zsr ho (ha.h ρ x e1) (hb.h ρ y e2) hs) (two (ta:=λ_ _ _=>True) (tb:=λ_ _ _=>True) (ha.h ρ x e1) (hb.h ρ y e2) λF H v u Q s h1 h2 k=>hr x y d F H v u Q e3 s h1 h2 k)
end
mutual
noncomputable def eqD:D->D->Option Bool
 | .non,y=>match y with
  | .non=>some true
  | .bl _=>some false
  | .int _=>some false
  | .str _=>some false
  | .tup _=>some false
  | .lst _=>some false
  |_=>none
 | .bl a,y=>match y with
  | .bl b=>some (a==b)
  | .non=>some false
  |_=>none
 | .int a,y=>match y with
  | .int b=>some (a==b)
  | .non=>some false
  | .str _=>some false
  | .tup _=>some false
  |_=>none
 | .str a,y=>match y with
  | .str b=>some (a==b)
  | .non=>some false
  | .int _=>some false
  | .tup _=>some false
  | .lst _=>some false
  |_=>none
 | .tup l,y=>match y with
  | .tup m=>eqL l m
  | .non=>some false
  | .int _=>some false
  | .str _=>some false
  | .lst _=>some false
  |_=>none
 | .lst l,y=>match y with
  | .lst m=>eqL l m
  | .non=>some false
  | .str _=>some false
  | .tup _=>some false
  |_=>none
 | .scr _,_=>none
 | .dic _ _,_=>none
 | .exc _ _,_=>none
noncomputable def eqL:List D->List D->Option Bool
 |[],[]=>some true
 |a::l,b::m=>(eqD a b).bind λx=>(eqL l m).map λy=>x&&y
 |[],_::_=>some false
 |_::_,[]=>some false
end
mutual
def dep:D->Nat
 | .tup l=>qU l+1
 | .lst l=>qU l+1
 |_=>1
def qU:List D->Nat
 |[]=>0
 |a::l=>max (dep a) (qU l)
end
theorem zcZ:∀{l:List D}{d:D},d∈l->dep d<=qU l
 |_::_,_,h=>by
  rcases JC.mp h with rfl|h
  ·rw[qU];exact Nat.le_max_left _ _
  ·rw[qU];exact Jt (zcZ h) (Nat.le_max_right _ _)
def eAt(l m:List D)(j:Nat):Bool:=match l[j]?,m[j]? with
 |some a,some b=>(eqD a b).getD false
 |_,_=>false
theorem zcI:∀{l m:List D}{b:Bool},eqL l m=some b->
  (∀(j:Nat) (x y:D),l[j]?=some x->m[j]?=some y->eqD x y=some (eAt l m j))/\b=((List.range (min l.length m.length)).all (eAt l m)&&l.length==m.length)
 |[],[],b,h=>by simp[eqL]at h;subst h;simp
 |[],_::_,b,h=>by simp[eqL]at h;subst h;simp
 |_::_,[],b,h=>by simp[eqL]at h;subst h;simp
 |a::l,c::m,b,h=>by
  simp only[eqL]at h;cases e1:eqD a c with
  |none=>rw[e1]at h;cases h
  |some x=>
   cases e2:eqL l m with
   |none=>rw[e1,e2]at h;cases h
   |some y=>
    rw[e1,e2]at h;have hb:(x&&y)=b:=by simpa using h
    obtain⟨h1,h2⟩:=zcI e2;have s0:eAt (a::l) (c::m) 0=x:=by simp[eAt,e1]
    have sS:∀j,eAt (a::l) (c::m) (j+1)=eAt l m j:=λj=>by simp[eAt]
    refine⟨λj p q hp hq=>?_,?_⟩
    ·cases j with
     |zero=>simp at hp hq;subst hp hq;rw[s0];exact e1
     |succ j=>rw[sS];exact h1 j p q (by simpa using hp) (by simpa using hq)
    ·rw[←hb,h2];simp only[List.length_cons];rw[Nat.succ_min_succ,List.range_succ_eq_map,List.all_cons,List.all_map,s0];have e3:(List.range (min l.length m.length)).all (eAt (a::l) (c::m)∘Nat.succ)=(List.range (min l.length m.length)).all (eAt l m):=by congr 1
     rw[e3,Bool.and_assoc]
     congr 2
     simp
section
variable{K:Fg}{F:Hp}
def comp:D->Bool
 | .tup _=>true
 | .lst _=>true
 | .scr _=>true
 | .dic _ _=>true
 |_=>false
theorem Dat.ref{d:D}{v:V}(h:Dat K F d v)(hc:comp d=true):∃a,v=.ref a:=by
 cases d with
 |tup l=>obtain⟨a,_,e,_⟩:=h.tup_inv;exact⟨a,e⟩
 |lst l=>obtain⟨a,_,e,_⟩:=h.lst_inv;exact⟨a,e⟩
 |scr l=>obtain⟨a,e,_⟩:=h.scr_inv;exact⟨a,e⟩
 |dic k l=>obtain⟨a,_,e,_⟩:=h.dic_inv;exact⟨a,e⟩
 |_=>cases hc
theorem zrI:∀(n:Nat) (d1 d2 dx:D) (b1 b2:Bool) (v:V),dep d1<=n->Dat K F d1 v->Dat K F d2 v->eqD d1 dx=some b1->eqD d2 dx=some b2->b1=b2:=by
 intro n;induction n with
 |zero=>intro d1 d2 dx b1 b2 v h;cases d1<;>simp[dep]at h
 |succ n ih=>
  have L:∀(l1 l2 lx:List D) (b1 b2:Bool) (vs:List V),qU l1<=n->zF K F l1 vs->zF K F l2 vs->eqL l1 lx=some b1->eqL l2 lx=some b2->b1=b2:=by
   intro l1;induction l1 with
   |nil=>
    intro l2 lx b1 b2 vs _ h1 h2 e1 e2;rw[h1.nil_inv]at h2;cases l2 with
    |nil=>rw[e1]at e2;exact Option.some.inj e2
    |cons _ _=>obtain⟨_,_,e,_⟩:=h2.cons_inv;cases e
   |cons a l1 ih2=>
    intro l2 lx b1 b2 vs hn h1 h2 e1 e2;obtain⟨v,r,rfl,q1,q2⟩:=h1.cons_inv;cases l2 with
    |nil=>have:=h2.nil_inv;cases this
    |cons c l2=>
     obtain⟨v',r',ee,p1,p2⟩:=h2.cons_inv;cases ee
     cases lx with
     |nil=>simp[eqL]at e1 e2;rw[e1,e2]
     |cons x lx=>
      simp only[eqL]at e1 e2;simp only[qU]at hn;cases f1:eqD a x with
      |none=>rw[f1]at e1;cases e1
      |some y1=>
       cases f2:eqD c x with
       |none=>rw[f2]at e2;cases e2
       |some y2=>
        cases g1:eqL l1 lx with
        |none=>rw[f1,g1]at e1;cases e1
        |some z1=>
         cases g2:eqL l2 lx with
         |none=>rw[f2,g2]at e2;cases e2
         |some z2=>
          rw[f1,g1]at e1;rw[f2,g2]at e2;have k1:=ih a c x y1 y2 v (by omega) q1 p1 f1 f2;have k2:=ih2 l2 lx z1 z2 r (by omega) q2 p2 g1 g2;subst k1 k2;rw[e1]at e2;exact Option.some.inj e2
  intro d1 d2 dx b1 b2 v hn h1 h2 e1 e2;cases d1 with
  |non=>rw[h1.non_inv]at h2;cases d2<;>first|(obtain⟨_,_,_,_,z,_⟩:=Dat.exc_inv h2;cases z;done)|(obtain⟨_,z⟩:=Dat.ref h2 rfl;cases z;done)|(simp only[Dat]at h2;cases h2;done)|(simp only[Dat]at h2;(first|cases h2|skip);rw[e1]at e2;exact Option.some.inj e2)|(rw[e1]at e2;exact Option.some.inj e2)
  |bl b=>rw[h1.bl_inv]at h2;cases d2<;>first|(obtain⟨_,_,_,_,z,_⟩:=Dat.exc_inv h2;cases z;done)|(obtain⟨_,z⟩:=Dat.ref h2 rfl;cases z;done)|(simp only[Dat]at h2;cases h2;done)|(simp only[Dat]at h2;(first|cases h2|skip);rw[e1]at e2;exact Option.some.inj e2)|(rw[e1]at e2;exact Option.some.inj e2)
  |int b=>rw[h1.int_inv]at h2;cases d2<;>first|(obtain⟨_,_,_,_,z,_⟩:=Dat.exc_inv h2;cases z;done)|(obtain⟨_,z⟩:=Dat.ref h2 rfl;cases z;done)|(simp only[Dat]at h2;cases h2;done)|(simp only[Dat]at h2;(first|cases h2|skip);rw[e1]at e2;exact Option.some.inj e2)|(rw[e1]at e2;exact Option.some.inj e2)
  |str b=>rw[h1.str_inv]at h2;cases d2<;>first|(obtain⟨_,_,_,_,z,_⟩:=Dat.exc_inv h2;cases z;done)|(obtain⟨_,z⟩:=Dat.ref h2 rfl;cases z;done)|(simp only[Dat]at h2;cases h2;done)|(simp only[Dat]at h2;(first|cases h2|skip);rw[e1]at e2;exact Option.some.inj e2)|(rw[e1]at e2;exact Option.some.inj e2)
  |tup l1=>
   obtain⟨a,vs,rfl,f1,q1⟩:=h1.tup_inv;cases d2 with
   |tup l2=>
    obtain⟨a',vs',z,f2,q2⟩:=h2.tup_inv;cases z
    rw[f1]at f2;cases f2
    simp only[dep]at hn;cases dx<;>first|(simp only[eqD]at e1 e2;exact L l1 l2 _ b1 b2 vs (by omega) q1 q2 e1 e2)|(simp only[eqD]at e1 e2;cases e1;cases e2;rfl)|(simp only[eqD]at e1;cases e1)
   |lst l2=>obtain⟨a',vs',z,f2,q2⟩:=h2.lst_inv;cases z;rw[f1]at f2;cases f2
   |scr l2=>simp[eqD]at e2
   |dic k l2=>simp[eqD]at e2
   |exc c d=>simp[eqD]at e2
   |_=>simp only[Dat]at h2;cases h2
  |lst l1=>
   obtain⟨a,vs,rfl,f1,q1⟩:=h1.lst_inv;cases d2 with
   |lst l2=>
    obtain⟨a',vs',z,f2,q2⟩:=h2.lst_inv;cases z
    rw[f1]at f2;cases f2
    simp only[dep]at hn;cases dx<;>first|(simp only[eqD]at e1 e2;exact L l1 l2 _ b1 b2 vs (by omega) q1 q2 e1 e2)|(simp only[eqD]at e1 e2;cases e1;cases e2;rfl)|(simp only[eqD]at e1;cases e1)
   |tup l2=>obtain⟨a',vs',z,f2,q2⟩:=h2.tup_inv;cases z;rw[f1]at f2;cases f2
   |scr l2=>simp[eqD]at e2
   |dic k l2=>simp[eqD]at e2
   |exc c d=>simp[eqD]at e2
   |_=>simp only[Dat]at h2;cases h2
  |scr l=>simp[eqD]at e1
  |dic k l=>simp[eqD]at e1
  |exc c d=>simp[eqD]at e1
end
section
variable{X:Cx}{pins:AO}{σ:St}{H F:Hp}{s:Shared}{K:Fg}
theorem zgJ{d1 d2:D}{b:Bool}{v:V}(h1:Dat K F d1 v)(h2:Dat K F d2 v)(e:eqD d1 d2=some b):b=true:=by
 have key:∀(n:Nat) (d1 d2:D) (b:Bool) (v:V),dep d1<=n->Dat K F d1 v->Dat K F d2 v->eqD d1 d2=some b->b=true:=by
  intro n;induction n with
  |zero=>intro d1 d2 b v h;cases d1<;>simp[dep]at h
  |succ n ih=>
   have L:∀(l1 l2:List D) (b:Bool) (vs:List V),qU l1<=n->zF K F l1 vs->zF K F l2 vs->eqL l1 l2=some b->b=true:=by
    intro l1;induction l1 with
    |nil=>
     intro l2 b vs _ h1 h2 e;rw[h1.nil_inv]at h2;cases l2 with
     |nil=>simp[eqL]at e;exact e
     |cons _ _=>obtain⟨_,_,z,_⟩:=h2.cons_inv;cases z
    |cons a l1 ih2=>
     intro l2 b vs hn h1 h2 e;obtain⟨v,r,rfl,q1,q2⟩:=h1.cons_inv;cases l2 with
     |nil=>have:=h2.nil_inv;cases this
     |cons c l2=>
      obtain⟨v',r',ee,p1,p2⟩:=h2.cons_inv;cases ee
      simp only[eqL]at e;simp only[qU]at hn;cases f1:eqD a c with
      |none=>rw[f1]at e;cases e
      |some y1=>
       cases g1:eqL l1 l2 with
       |none=>rw[f1,g1]at e;cases e
       |some z1=>
        rw[f1,g1]at e;have e':(y1&&z1)=b:=by simpa using e
        rw[←e',ih a c y1 v (by omega) q1 p1 f1,ih2 l2 z1 r (by omega) q2 p2 g1];rfl
   intro d1 d2 b v hn h1 h2 e;cases d1 with
   |tup l1=>
    obtain⟨a,vs,rfl,f1,q1⟩:=h1.tup_inv;cases d2 with
    |tup l2=>
     obtain⟨a',vs',z,f2,q2⟩:=h2.tup_inv;cases z
     rw[f1]at f2;cases f2
     simp only[dep]at hn;simp only[eqD]at e;exact L l1 l2 b vs (by omega) q1 q2 e
    |lst l2=>obtain⟨a',vs',z,f2,q2⟩:=h2.lst_inv;cases z;rw[f1]at f2;cases f2
    |non=>have:=h2.non_inv;cases this
    |int _=>have:=h2.int_inv;cases this
    |str _=>have:=h2.str_inv;cases this
    |_=>simp[eqD]at e
   |lst l1=>
    obtain⟨a,vs,rfl,f1,q1⟩:=h1.lst_inv;cases d2 with
    |lst l2=>
     obtain⟨a',vs',z,f2,q2⟩:=h2.lst_inv;cases z
     rw[f1]at f2;cases f2
     simp only[dep]at hn;simp only[eqD]at e;exact L l1 l2 b vs (by omega) q1 q2 e
    |tup l2=>obtain⟨a',vs',z,f2,q2⟩:=h2.tup_inv;cases z;rw[f1]at f2;cases f2
    |non=>have:=h2.non_inv;cases this
    |int _=>have:=h2.int_inv;cases this
    |str _=>have:=h2.str_inv;cases this
    |_=>simp[eqD]at e
   |non=>
    have z:=h1.non_inv;subst z;cases d2<;>first|(obtain⟨_,_,_,_,z,_⟩:=Dat.exc_inv h2;cases z;done)|(simp[eqD]at e;exact e)|(obtain⟨_,z⟩:=Dat.ref h2 rfl;cases z;done)|(simp only[Dat]at h2;cases h2;done)
   |bl x=>
    have z:=h1.bl_inv;subst z;cases d2 with
    |bl y=>have z:=h2.bl_inv;cases z;simp[eqD]at e;exact e
    |non=>have z:=h2.non_inv;cases z
    |_=>simp[eqD]at e
   |int x=>
    have z:=h1.int_inv;subst z;cases d2 with
    |int y=>have z:=h2.int_inv;cases z;simp[eqD]at e;exact e
    |non=>have z:=h2.non_inv;cases z
    |str _=>have z:=h2.str_inv;cases z
    |tup _=>obtain⟨_,z⟩:=Dat.ref h2 rfl;cases z
    |_=>simp[eqD]at e
   |str x=>
    have z:=h1.str_inv;subst z;cases d2 with
    |str y=>have z:=h2.str_inv;cases z;simp[eqD]at e;exact e
    |non=>have z:=h2.non_inv;cases z
    |int _=>have z:=h2.int_inv;cases z
    |tup _=>obtain⟨_,z⟩:=Dat.ref h2 rfl;cases z
    |lst _=>obtain⟨_,z⟩:=Dat.ref h2 rfl;cases z
    |_=>simp[eqD]at e
   |_=>simp[eqD]at e
 exact key _ d1 d2 b v (Jd _) h1 h2 e
theorem Inv.tupAt(I:Inv X pins σ H s){a:Addr}{vs:List V}(h:H a=some (.tup vs)):∃its:List Value,zS vs its/\s.heap.IsTuple a its.toArray:=by obtain⟨its,r,p,_⟩:=I.tuple (SqT.of h);exact⟨its,r,p⟩
theorem Inv.lstAt(I:Inv X pins σ H s){a:Addr}{vs:List V}(h:H a=some (.lst vs)):∃its:List Value,zS vs its/\s.heap.IsList a its.toArray:=by obtain⟨its,r,p,_⟩:=I.list (SqL.of h);exact⟨its,r,p.isList⟩
theorem zbw{l:List D}{vs:List V}{its:List Value}(h:zF K F l vs)(r:zS vs its){j:Nat}(hj:j<its.toArray.size):∃d v,l[j]?=some d/\vs[j]?=some v/\Dat K F d v/\zT v its.toArray[j]:=by
 have hl:=r.length;have hj':j<vs.length:=by rw[hl];simpa using hj
 obtain⟨u,hu,ru⟩:=r.get (List.getElem?_eq_getElem hj');obtain⟨d,hd,hD⟩:=h.get' (List.getElem?_eq_getElem hj');refine⟨d,vs[j],hd,List.getElem?_eq_getElem hj',hD,?_⟩;have e:its.toArray[j]=u:=by have:its[j]?=some u:=hu;rw[List.getElem?_eq_getElem (by simpa using hj)]at this;simpa using Option.some.inj this
 rw[e];exact ru
theorem zcD(A:Around):A.in1.units<=A.units+1:=by have:=(jI.in1 (k:=0) (A:=A));exact Jd _
theorem zlz(I:Inv X pins σ H s)(sub:zP F H):∀(n:Nat) (d1 d2:D) (b:Bool) (v1 v2:V) (u1 u2:Value) (A:Around),dep d1<=n->eqD d1 d2=some b->Dat K F d1 v1->Dat K F d2 v2->zT v1 u1->zT v2 u2->A.units+n<cLine->SeqAt.EqAt A s u1 u2 b:=by
 intro n;induction n with
 |zero=>intro d1 d2 b v1 v2 u1 u2 A h;cases d1<;>simp[dep]at h
 |succ n ih=>
  intro d1 d2 b v1 v2 u1 u2 A hn e h1 h2 r1 r2 hu;have hu0:A.units<cLine:=by omega
  have hin:A.in1.units+n<cLine:=by have:=zcD A;omega
  cases d1 with
  |non=>
   rw[h1.non_inv]at r1;cases r1
   cases d2 with
   |non=>simp[eqD]at e;subst e;rw[h2.non_inv]at r2;cases r2;exact SeqAt.EqAt.same _
   |bl x=>simp[eqD]at e;subst e;rw[h2.bl_inv]at r2;cases r2;exact SeqAt.EqAt.none_bool x
   |int x=>simp[eqD]at e;subst e;rw[h2.int_inv]at r2;obtain⟨t,rfl⟩:=r2;exact SeqAt.EqAt.none_int x t
   |str x=>simp[eqD]at e;subst e;rw[h2.str_inv]at r2;obtain⟨t,rfl⟩:=r2;exact SeqAt.EqAt.none_str x t
   |tup l=>simp[eqD]at e;subst e;obtain⟨a,vs,rfl,f,_⟩:=h2.tup_inv;cases r2;obtain⟨its,_,p⟩:=Inv.tupAt I (sub _ _ f);exact SeqAt.EqAt.none_tuple p hu0
   |lst l=>simp[eqD]at e;subst e;obtain⟨a,vs,rfl,f,_⟩:=h2.lst_inv;cases r2;obtain⟨its,_,p⟩:=Inv.lstAt I (sub _ _ f);exact SeqAt.EqAt.none_list p hu0
   |_=>simp[eqD]at e
  |bl y=>
   rw[h1.bl_inv]at r1;cases r1
   cases d2 with
   |non=>simp[eqD]at e;subst e;rw[h2.non_inv]at r2;cases r2;exact SeqAt.EqAt.bool_none y
   |bl x=>simp only[eqD,Option.some.injEq]at e;subst e;rw[h2.bl_inv]at r2;cases r2;exact SeqAt.EqAt.bool_bool y x
   |_=>simp[eqD]at e
  |int y=>
   rw[h1.int_inv]at r1;obtain⟨t',rfl⟩:=r1;cases d2 with
   |non=>simp[eqD]at e;subst e;rw[h2.non_inv]at r2;cases r2;exact SeqAt.EqAt.int_none y t'
   |int x=>simp only[eqD,Option.some.injEq]at e;subst e;rw[h2.int_inv]at r2;obtain⟨t,rfl⟩:=r2;exact SeqAt.EqAt.int_int y t' x t
   |str x=>simp[eqD]at e;subst e;rw[h2.str_inv]at r2;obtain⟨t,rfl⟩:=r2;exact SeqAt.EqAt.int_str y t' x t
   |tup l=>simp[eqD]at e;subst e;obtain⟨a,vs,rfl,f,_⟩:=h2.tup_inv;cases r2;obtain⟨its,_,p⟩:=Inv.tupAt I (sub _ _ f);exact SeqAt.EqAt.int_tuple y t' p hu0
   |_=>simp[eqD]at e
  |str y=>
   rw[h1.str_inv]at r1;obtain⟨t',rfl⟩:=r1;cases d2 with
   |non=>simp[eqD]at e;subst e;rw[h2.non_inv]at r2;cases r2;exact SeqAt.EqAt.str_none y t'
   |int x=>simp[eqD]at e;subst e;rw[h2.int_inv]at r2;obtain⟨t,rfl⟩:=r2;exact SeqAt.EqAt.str_int y t' x t
   |str x=>simp only[eqD,Option.some.injEq]at e;subst e;rw[h2.str_inv]at r2;obtain⟨t,rfl⟩:=r2;exact SeqAt.EqAt.str_str y t' x t
   |tup l=>simp[eqD]at e;subst e;obtain⟨a,vs,rfl,f,_⟩:=h2.tup_inv;cases r2;obtain⟨its,_,p⟩:=Inv.tupAt I (sub _ _ f);exact SeqAt.EqAt.str_tuple y t' p hu0
   |lst l=>simp[eqD]at e;subst e;obtain⟨a,vs,rfl,f,_⟩:=h2.lst_inv;cases r2;obtain⟨its,_,p⟩:=Inv.lstAt I (sub _ _ f);exact SeqAt.EqAt.str_list y t' p hu0
   |_=>simp[eqD]at e
  |tup l1=>
   obtain⟨a,vs,rfl,f1,q1⟩:=id h1.tup_inv;cases r1
   obtain⟨its,rv,p⟩:=Inv.tupAt I (sub _ _ f1);cases d2 with
   |non=>simp[eqD]at e;subst e;rw[h2.non_inv]at r2;cases r2;exact SeqAt.EqAt.tuple_none p hu0
   |int x=>simp[eqD]at e;subst e;rw[h2.int_inv]at r2;obtain⟨t,rfl⟩:=r2;exact SeqAt.EqAt.tuple_int x t p hu0
   |str x=>simp[eqD]at e;subst e;rw[h2.str_inv]at r2;obtain⟨t,rfl⟩:=r2;exact SeqAt.EqAt.tuple_str x t p hu0
   |tup l2=>
    obtain⟨a2,vs2,rfl,f2,q2⟩:=id h2.tup_inv;cases r2
    by_cases ha:a=a2
    ·subst ha;rw[zgJ h1 h2 e];exact SeqAt.EqAt.same _
    obtain⟨its2,rv2,p2⟩:=Inv.tupAt I (sub _ _ f2);simp only[eqD]at e;obtain⟨hp,hb⟩:=zcI e;simp only[dep]at hn;have he:∀(j:Nat) (h1:j<its.toArray.size) (h2:j<its2.toArray.size),SeqAt.EqAt A.in1 s its.toArray[j] its2.toArray[j] (eAt l1 l2 j):=λj k1 k2=>by
     obtain⟨x,v,hx,_,dx,rx⟩:=zbw q1 rv k1;obtain⟨y,w,hy,_,dy,ry⟩:=zbw q2 rv2 k2
     have:=zcZ (List.mem_of_getElem? hx);exact ih x y _ v w _ _ A.in1 (by omega) (hp j x y hx hy) dx dy rx ry hin
    have z:=SeqAt.RcAt.tuples p p2 hu0 he;have e1:its.toArray.size=l1.length:=by rw[Jb,←rv.length,q1.length]
    have e2:its2.toArray.size=l2.length:=by rw[Jb,←rv2.length,q2.length]
    rw[e1,e2]at z;rw[hb];exact SeqAt.EqAt.of_refs ha z
   |lst l2=>simp[eqD]at e;subst e;obtain⟨a2,vs2,rfl,f2,_⟩:=h2.lst_inv;cases r2;obtain⟨its2,_,p2⟩:=Inv.lstAt I (sub _ _ f2);exact SeqAt.EqAt.tuple_list p p2 hu0
   |_=>simp[eqD]at e
  |lst l1=>
   obtain⟨a,vs,rfl,f1,q1⟩:=id h1.lst_inv;cases r1
   obtain⟨its,rv,p⟩:=Inv.lstAt I (sub _ _ f1);cases d2 with
   |non=>simp[eqD]at e;subst e;rw[h2.non_inv]at r2;cases r2;exact SeqAt.EqAt.list_none p hu0
   |str x=>simp[eqD]at e;subst e;rw[h2.str_inv]at r2;obtain⟨t,rfl⟩:=r2;exact SeqAt.EqAt.list_str x t p hu0
   |tup l2=>simp[eqD]at e;subst e;obtain⟨a2,vs2,rfl,f2,_⟩:=h2.tup_inv;cases r2;obtain⟨its2,_,p2⟩:=Inv.tupAt I (sub _ _ f2);exact SeqAt.EqAt.list_tuple p p2 hu0
   |lst l2=>
    obtain⟨a2,vs2,rfl,f2,q2⟩:=id h2.lst_inv;cases r2
    by_cases ha:a=a2
    ·subst ha;rw[zgJ h1 h2 e];exact SeqAt.EqAt.same _
    obtain⟨its2,rv2,p2⟩:=Inv.lstAt I (sub _ _ f2);simp only[eqD]at e;obtain⟨hp,hb⟩:=zcI e;simp only[dep]at hn;have he:∀(j:Nat) (h1:j<its.toArray.size) (h2:j<its2.toArray.size),SeqAt.EqAt A.in1 s its.toArray[j] its2.toArray[j] (eAt l1 l2 j):=λj k1 k2=>by
     obtain⟨x,v,hx,_,dx,rx⟩:=zbw q1 rv k1;obtain⟨y,w,hy,_,dy,ry⟩:=zbw q2 rv2 k2
     have:=zcZ (List.mem_of_getElem? hx);exact ih x y _ v w _ _ A.in1 (by omega) (hp j x y hx hy) dx dy rx ry hin
    have e1:its.toArray.size=l1.length:=by rw[Jb,←rv.length,q1.length]
    have e2:its2.toArray.size=l2.length:=by rw[Jb,←rv2.length,q2.length]
    by_cases hsz:l1.length=l2.length
    ·have z:=SeqAt.RcAt.lists p p2 (by rw[e1,e2,hsz]) hu0 he;rw[e1]at z;rw[hb,hsz,Nat.min_self,beq_self_eq_true,Bool.and_true,←hsz];exact SeqAt.EqAt.of_refs ha z
    ·have z:=SeqAt.RcAt.lists_lengths p p2 (by rw[e1,e2];simpa using hsz) hu0;have hb0:b=false:=by
      rw[hb]
      have:(l1.length==l2.length)=false:=by simpa using hsz
      rw[this,Bool.and_false]
     rw[hb0];exact SeqAt.EqAt.of_refs ha z
   |_=>simp[eqD]at e
  |_=>simp[eqD]at e
end
abbrev lim:Nat:=1000000
theorem gK{n:Nat}(h:n<=lim):n<=sizeLine:=by rw[Wd];unfold lim at h;omega
theorem zdf{n:Nat}(h:n<=lim):n<sizeLine:=by rw[Wd];unfold lim at h;omega
section
variable{K:Fg}{F H F' H':Hp}{v:V}
theorem zZ.non_inv(h:zZ K F H .non v):v=.non:=Dat.non_inv (K:=K) (F:=F) h
theorem zZ.bl_inv{i:Bool}(h:zZ K F H (.bl i) v):v=.bl i:=Dat.bl_inv (K:=K) (F:=F) h
theorem zZ.int_inv{i:Int}(h:zZ K F H (.int i) v):v=.int i:=Dat.int_inv (K:=K) (F:=F) h
theorem zZ.str_inv{i:Str}(h:zZ K F H (.str i) v):v=.str i:=Dat.str_inv (K:=K) (F:=F) h
theorem zZ.tup_inv{l:List D}(h:zZ K F H (.tup l) v):∃a vs,v=.ref a/\F a=some (.tup vs)/\zF K F l vs:=Dat.tup_inv (K:=K) (F:=F) h
theorem zZ.scr_inv{l:List Int}(h:zZ K F H (.scr l) v):∃a,v=.ref a/\SqL K F a (l.map V.int):=Dat.scr_inv (K:=K) (F:=F) h
theorem zZ.lst_inv{l:List D}(h:zZ K F H (.lst l) v):∃a vs,v=.ref a/\H a=some (.lst vs)/\zF K F l vs:=h
theorem zZ.dic_inv{ks:List KD}{l:List D}(h:zZ K F H (.dic ks l) v):∃a vs,v=.ref a/\nR H a ks vs/\zF K F l vs:=h
theorem zZ.exc_inv{c:Str}{d:D}(h:zZ K F H (.exc c d) v):∃a C da u,v=.ref a/\F a=some (ExcO a C da)/\PySem.W.nsIn K mainGlobals c=some (some (.ref C))/\F da=some (.xd [(znq c,u)])/\Dat K F d u:=Dat.exc_inv (K:=K) (F:=F) (c:=c) (d:=d) (v:=v) h
theorem Res.bl(b:Bool):Res K .fz H F' H' (.bl b) (.bl b):=Dat.bl (K:=K) (F:=F') b
theorem Res.int(b:Int):Res K .fz H F' H' (.int b) (.int b):=Dat.int (K:=K) (F:=F') b
theorem Res.str(b:Str):Res K .fz H F' H' (.str b) (.str b):=Dat.str (K:=K) (F:=F') b
end
noncomputable def qJ:D->D->Option D
 | .int a,.int b=>some (.int (a+b))
 | .str a,.str b=>if a.length+b.length<=lim then some (.str (a++b))else none
 | .tup a,.tup b=>if a.length+b.length<=lim then some (.tup (a++b))else none
 | .lst a,.lst b=>if a.length+b.length<=lim then some (.lst (a++b))else none
 |_,_=>none
noncomputable def xS:D->D->Option D
 | .lst a,.lst b=>if a.length+b.length<=lim then some (.lst (a++b))else none
 |_,_=>none
noncomputable def yM:D->D->Option D
 | .int a,.int b=>some (.int (a - b))
 |_,_=>none
def zfH(a b:Int):Prop:=((-(2^64)<a/\a<2^64)\/(-(2^64)<b/\b<2^64))\/(Builtin.Int.intBits a<=2^20/\Builtin.Int.intBits b<=2^20)
def zmR(b:Int):Prop:=0<b/\b<1073741824
def zgY(b:Int):Prop:=0<b
def zra(a b:Int):Prop:=0<=b/\b<=1000000/\a.natAbs<2^64
theorem yX{a b:Int}(h1:-18446744073709551616<b)(h2:b<18446744073709551616):zfH a b:=.inl (.inr ⟨h1,h2⟩)
theorem vP{a b:Int}(h1:-18446744073709551616<a)(h2:a<18446744073709551616):zfH a b:=.inl (.inl ⟨h1,h2⟩)
theorem xZ{b:Int}(h1:0<b)(h2:b<1073741824):zmR b:=⟨h1,h2⟩
theorem vQ{b:Int}(h1:0<b):zgY b:=h1
theorem vO{a b:Int}(h1:0<=b)(h2:b<=1000000)(h3:a.natAbs<18446744073709551616):zra a b:=⟨h1,h2,h3⟩
open Classical in
noncomputable def yD:D->D->Option D
 | .int a,.int b=>if zfH a b then some (.int (a*b))else none
 |_,_=>none
open Classical in
noncomputable def jY:D->D->Option D
 | .int a,.int b=>if zmR b then some (.int (a/b))else none
 |_,_=>none
open Classical in
noncomputable def jP:D->D->Option D
 | .int a,.int b=>if zgY b then some (.int (a%b))else none
 |_,_=>none
open Classical in
noncomputable def yU:D->D->Option D
 | .int a,.int b=>if zra a b then some (.int (a^b.toNat))else none
 |_,_=>none
section
variable{K:Fg}{X:Cx}
theorem kP{α:Type}{c:Prop}{_:Decidable c}{x y:α}(h:(if c then some x else none)=some y):c/\x=y:=by
 by_cases hc:c
 ·rw[if_pos hc]at h;exact⟨hc,Option.some.inj h⟩
 ·rw[if_neg hc]at h;cases h
theorem jN(hK:X.K=K:=by rfl):Op2 K X (binaryOp .Add) .fz qJ:=by
 subst hK;refine⟨_,zqY.or (zjD.or (zpe.or znZ)),λx y d F H v u Q e s h1 h2 k=>?_⟩;unfold qJ at e;split at e
 ·cases e
  refine .inl ⟨_,_,h1.int_inv,h2.int_inv,k _ F H (zK.refl s) (Res.int _)⟩
 ·obtain⟨hz,rfl⟩:=kP e;exact .inr (.inl ⟨_,_,h1.str_inv,h2.str_inv,gK hz,k _ F H (zK.refl s) (Res.str _)⟩)
 ·obtain⟨hz,rfl⟩:=kP e;obtain⟨a,xs,rfl,f1,q1⟩:=h1.tup_inv;obtain⟨b,ys,rfl,f2,q2⟩:=h2.tup_inv;refine .inr (.inr (.inl ⟨a,b,xs,ys,rfl,rfl,SqT.of (s _ _ f1),SqT.of (s _ _ f2),by rw[q1.length,q2.length];exact gK hz,λz=>?_,λ_ z=>?_,λ_ _ p hp=>?_⟩))
  ·subst z;refine k _ F H (zK.refl s) ?_
   have:_=([]:List D):=List.eq_nil_of_length_eq_zero (by rw[←q1.length];rfl);rw[this];exact h2
  ·subst z;refine k _ F H (zK.refl s) ?_
   have:_=([]:List D):=List.eq_nil_of_length_eq_zero (by rw[←q2.length];rfl);rw[this,JB];exact h1
  ·have g:=zK.frozen (o:=.tup (xs++ys)) s hp;exact k _ _ _ g (Dat.tup (K:=X.K) qR ((q1.mono g.ff).append (q2.mono g.ff)))
 ·obtain⟨hz,rfl⟩:=kP e;obtain⟨a,xs,rfl,f1,q1⟩:=h1;obtain⟨b,ys,rfl,f2,q2⟩:=h2;refine .inr (.inr (.inr ⟨a,b,xs,ys,rfl,rfl,f1,f2,by rw[q1.length,q2.length];exact gK hz,λp hp=>?_⟩));have g:=zK.frozen (o:=.lst (xs++ys)) s hp;exact k _ _ _ g (Dat.lst (K:=X.K) qR ((q1.mono g.ff).append (q2.mono g.ff)))
 ·cases e
theorem zst(hK:X.K=K:=by rfl):Op2 K X (binaryOp .Add) .ow xS:=by
 subst hK;refine⟨_,znZ,λx y d F H v u Q e s h1 h2 k=>?_⟩;unfold xS at e;split at e
 ·obtain⟨hz,rfl⟩:=kP e;obtain⟨a,xs,rfl,f1,q1⟩:=h1;obtain⟨b,ys,rfl,f2,q2⟩:=h2;refine⟨a,b,xs,ys,rfl,rfl,f1,f2,by rw[q1.length,q2.length];exact gK hz,λp hp=>?_⟩;exact k _ _ _ (zK.fresh s hp) ⟨p,rfl,hp,s.free hp,xs++ys,qR,q1.append q2⟩
 ·cases e
theorem zmO{f:Value->Value->Sem Value}{C:Int->Int->Prop}{g:Int->Int->Int}{p:D->D->Option D}(o:OpR X f (rI C λi j=>.int (g i j)))(h:∀x y d,p x y=some d->∃i j,x=.int i/\y=.int j/\C i j/\d=.int (g i j)):Op2 K X f .fz p:=by refine⟨_,o,λx y d F H v u Q e s h1 h2 k=>?_⟩;obtain⟨i,j,rfl,rfl,c,rfl⟩:=h x y d e;exact⟨i,j,h1.int_inv,h2.int_inv,c,k _ F H (zK.refl s) (Res.int _)⟩
theorem zoW:Op2 K X (binaryOp .Sub) .fz yM:=by
 refine⟨_,zqP,λx y d F H v u Q e s h1 h2 k=>?_⟩;unfold yM at e;split at e
 ·cases e
  exact⟨_,_,h1.int_inv,h2.int_inv,k _ F H (zK.refl s) (Res.int _)⟩
 ·cases e
theorem zpb:OpR X (binaryOp .Mult) (rI zfH λi j=>.int (i*j)):=opI λ_ _ _ _ _ _ _ hc q=>mul_int q (hc.elim (λh=>CMul.ok h) λh=>IntMulOk.of_bits h.1 h.2)
theorem zkN:Op2 K X (binaryOp .Mult) .fz yD:=zmO zpb λx y d e=>by
 unfold yD at e;split at e
 ·obtain⟨hz,rfl⟩:=kP e;exact⟨_,_,rfl,rfl,hz,rfl⟩
 ·cases e
theorem gI:Op2 K X (binaryOp .FloorDiv) .fz jY:=zmO zpc λx y d e=>by
 unfold jY at e;split at e
 ·obtain⟨hz,rfl⟩:=kP e;exact⟨_,_,rfl,rfl,hz,rfl⟩
 ·cases e
theorem wP:Op2 K X (binaryOp .Mod) .fz jP:=zmO zqS λx y d e=>by
 unfold jP at e;split at e
 ·obtain⟨hz,rfl⟩:=kP e;exact⟨_,_,rfl,rfl,hz,rfl⟩
 ·cases e
theorem zqN:Op2 K X (binaryOp .Pow) .fz yU:=zmO zqQ λx y d e=>by
 unfold yU at e;split at e
 ·obtain⟨hz,rfl⟩:=kP e;exact⟨_,_,rfl,rfl,hz,rfl⟩
 ·cases e
end
section
variable{X:Cx}{pins:AO}{σ:St}{H F:Hp}{s:Shared}{K:Fg}
theorem zoo(I:Inv X pins σ H s)(sub:zP F H)(d1 d2:D)(b:Bool)(v1 v2:V)(u1 u2:Value)(n:Nat)(hn:dep d1<=n)(e:eqD d1 d2=some b)(h1:zZ K F H d1 v1)(h2:zZ K F H d2 v2)(r1:zT v1 u1)(r2:zT v2 u2)(hu:X.A.units+n<cLine):SeqAt.RcAt X.A s u1 u2 b/\SeqAt.RcNeAt X.A s u1 u2 (!b):=by
 have d0:0<dep d1:=by cases d1<;>simp[dep]
 have hu0:X.A.units<cLine:=by omega
 have hin:X.A.in1.units+(n - 1)<cLine:=by have:=zcD X.A;omega
 cases d1 with
 |non=>
  rw[h1.non_inv]at r1;cases r1
  cases d2 with
  |non=>simp[eqD]at e;subst e;rw[h2.non_inv]at r2;cases r2;exact⟨SeqAt.RcAt.none_none,SeqAt.RcNeAt.none_none⟩
  |bl x=>simp[eqD]at e;subst e;rw[h2.bl_inv]at r2;cases r2;exact⟨SeqAt.RcAt.none_bool x,SeqAt.RcNeAt.none_bool x⟩
  |int x=>simp[eqD]at e;subst e;rw[h2.int_inv]at r2;obtain⟨t,rfl⟩:=r2;exact⟨SeqAt.RcAt.none_int x t,SeqAt.RcNeAt.none_int x t⟩
  |str x=>simp[eqD]at e;subst e;rw[h2.str_inv]at r2;obtain⟨t,rfl⟩:=r2;exact⟨SeqAt.RcAt.none_str x t,SeqAt.RcNeAt.none_str x t⟩
  |tup l=>simp[eqD]at e;subst e;obtain⟨a,vs,rfl,f,_⟩:=h2.tup_inv;cases r2;obtain⟨its,_,p⟩:=Inv.tupAt I (sub _ _ f);exact⟨SeqAt.RcAt.none_tuple p hu0,SeqAt.RcNeAt.none_tuple p hu0⟩
  |lst l=>simp[eqD]at e;subst e;obtain⟨a,vs,rfl,f,_⟩:=h2.lst_inv;cases r2;obtain⟨its,_,p⟩:=Inv.lstAt I f;exact⟨SeqAt.RcAt.none_list p hu0,SeqAt.RcNeAt.none_list p hu0⟩
  |_=>simp[eqD]at e
 |bl y=>
  rw[h1.bl_inv]at r1;cases r1
  cases d2 with
  |non=>simp[eqD]at e;subst e;rw[h2.non_inv]at r2;cases r2;exact⟨SeqAt.RcAt.bool_none y,SeqAt.RcNeAt.bool_none y⟩
  |bl x=>simp only[eqD,Option.some.injEq]at e;subst e;rw[h2.bl_inv]at r2;cases r2;exact⟨SeqAt.RcAt.bool_bool y x,SeqAt.RcNeAt.bool_bool y x⟩
  |_=>simp[eqD]at e
 |int y=>
  rw[h1.int_inv]at r1;obtain⟨t',rfl⟩:=r1;cases d2 with
  |non=>simp[eqD]at e;subst e;rw[h2.non_inv]at r2;cases r2;exact⟨SeqAt.RcAt.int_none y t',SeqAt.RcNeAt.int_none y t'⟩
  |int x=>simp only[eqD,Option.some.injEq]at e;subst e;rw[h2.int_inv]at r2;obtain⟨t,rfl⟩:=r2;exact⟨SeqAt.RcAt.int_int y t' x t,SeqAt.RcNeAt.int_int y t' x t⟩
  |str x=>simp[eqD]at e;subst e;rw[h2.str_inv]at r2;obtain⟨t,rfl⟩:=r2;exact⟨SeqAt.RcAt.int_str y t' x t,SeqAt.RcNeAt.int_str y t' x t⟩
  |tup l=>simp[eqD]at e;subst e;obtain⟨a,vs,rfl,f,_⟩:=h2.tup_inv;cases r2;obtain⟨its,_,p⟩:=Inv.tupAt I (sub _ _ f);exact⟨SeqAt.RcAt.int_tuple y t' p hu0,SeqAt.RcNeAt.int_tuple y t' p hu0⟩
  |_=>simp[eqD]at e
 |str y=>
  rw[h1.str_inv]at r1;obtain⟨t',rfl⟩:=r1;cases d2 with
  |non=>simp[eqD]at e;subst e;rw[h2.non_inv]at r2;cases r2;exact⟨SeqAt.RcAt.str_none y t',SeqAt.RcNeAt.str_none y t'⟩
  |int x=>simp[eqD]at e;subst e;rw[h2.int_inv]at r2;obtain⟨t,rfl⟩:=r2;exact⟨SeqAt.RcAt.str_int y t' x t,SeqAt.RcNeAt.str_int y t' x t⟩
  |str x=>simp only[eqD,Option.some.injEq]at e;subst e;rw[h2.str_inv]at r2;obtain⟨t,rfl⟩:=r2;exact⟨SeqAt.RcAt.str_str y t' x t,SeqAt.RcNeAt.str_str y t' x t⟩
  |tup l=>simp[eqD]at e;subst e;obtain⟨a,vs,rfl,f,_⟩:=h2.tup_inv;cases r2;obtain⟨its,_,p⟩:=Inv.tupAt I (sub _ _ f);exact⟨SeqAt.RcAt.str_tuple y t' p hu0,SeqAt.RcNeAt.str_tuple y t' p hu0⟩
  |lst l=>simp[eqD]at e;subst e;obtain⟨a,vs,rfl,f,_⟩:=h2.lst_inv;cases r2;obtain⟨its,_,p⟩:=Inv.lstAt I f;exact⟨SeqAt.RcAt.str_list y t' p hu0,SeqAt.RcNeAt.str_list y t' p hu0⟩
  |_=>simp[eqD]at e
 |tup l1=>
  obtain⟨a,vs,rfl,f1,q1⟩:=h1.tup_inv;cases r1
  obtain⟨its,rv,p⟩:=Inv.tupAt I (sub _ _ f1);cases d2 with
  |non=>simp[eqD]at e;subst e;rw[h2.non_inv]at r2;cases r2;exact⟨SeqAt.RcAt.tuple_none p hu0,SeqAt.RcNeAt.tuple_none p hu0⟩
  |int x=>simp[eqD]at e;subst e;rw[h2.int_inv]at r2;obtain⟨t,rfl⟩:=r2;exact⟨SeqAt.RcAt.tuple_int x t p hu0,SeqAt.RcNeAt.tuple_int x t p hu0⟩
  |str x=>simp[eqD]at e;subst e;rw[h2.str_inv]at r2;obtain⟨t,rfl⟩:=r2;exact⟨SeqAt.RcAt.tuple_str x t p hu0,SeqAt.RcNeAt.tuple_str x t p hu0⟩
  |tup l2=>
   obtain⟨a2,vs2,rfl,f2,q2⟩:=h2.tup_inv;cases r2
   obtain⟨its2,rv2,p2⟩:=Inv.tupAt I (sub _ _ f2);simp only[eqD]at e;obtain⟨hp,hb⟩:=zcI e;simp only[dep]at hn;have he:∀(j:Nat) (h1:j<its.toArray.size) (h2:j<its2.toArray.size),SeqAt.EqAt X.A.in1 s its.toArray[j] its2.toArray[j] (eAt l1 l2 j):=λj k1 k2=>by
    obtain⟨x,v,hx,_,dx,rx⟩:=zbw q1 rv k1;obtain⟨y,w,hy,_,dy,ry⟩:=zbw q2 rv2 k2
    have:=zcZ (List.mem_of_getElem? hx);exact zlz I sub (n - 1) x y _ v w _ _ X.A.in1 (by omega) (hp j x y hx hy) dx dy rx ry hin
   have z:=And.intro (SeqAt.RcAt.tuples p p2 hu0 he) (SeqAt.RcNeAt.tuples p p2 hu0 he);have e1:its.toArray.size=l1.length:=by rw[Jb,←rv.length,q1.length]
   have e2:its2.toArray.size=l2.length:=by rw[Jb,←rv2.length,q2.length]
   rw[e1,e2]at z;rw[hb];exact z
  |lst l2=>simp[eqD]at e;subst e;obtain⟨a2,vs2,rfl,f2,_⟩:=h2.lst_inv;cases r2;obtain⟨its2,_,p2⟩:=Inv.lstAt I f2;exact⟨SeqAt.RcAt.tuple_list p p2 hu0,SeqAt.RcNeAt.tuple_list p p2 hu0⟩
  |_=>simp[eqD]at e
 |lst l1=>
  obtain⟨a,vs,rfl,f1,q1⟩:=h1.lst_inv;cases r1
  obtain⟨its,rv,p⟩:=Inv.lstAt I f1;cases d2 with
  |non=>simp[eqD]at e;subst e;rw[h2.non_inv]at r2;cases r2;exact⟨SeqAt.RcAt.list_none p hu0,SeqAt.RcNeAt.list_none p hu0⟩
  |str x=>simp[eqD]at e;subst e;rw[h2.str_inv]at r2;obtain⟨t,rfl⟩:=r2;exact⟨SeqAt.RcAt.list_str x t p hu0,SeqAt.RcNeAt.list_str x t p hu0⟩
  |tup l2=>simp[eqD]at e;subst e;obtain⟨a2,vs2,rfl,f2,_⟩:=h2.tup_inv;cases r2;obtain⟨its2,_,p2⟩:=Inv.tupAt I (sub _ _ f2);exact⟨SeqAt.RcAt.list_tuple p p2 hu0,SeqAt.RcNeAt.list_tuple p p2 hu0⟩
  |lst l2=>
   obtain⟨a2,vs2,rfl,f2,q2⟩:=h2.lst_inv;cases r2
   obtain⟨its2,rv2,p2⟩:=Inv.lstAt I f2;simp only[eqD]at e;obtain⟨hp,hb⟩:=zcI e;simp only[dep]at hn;have he:∀(j:Nat) (h1:j<its.toArray.size) (h2:j<its2.toArray.size),SeqAt.EqAt X.A.in1 s its.toArray[j] its2.toArray[j] (eAt l1 l2 j):=λj k1 k2=>by
    obtain⟨x,v,hx,_,dx,rx⟩:=zbw q1 rv k1;obtain⟨y,w,hy,_,dy,ry⟩:=zbw q2 rv2 k2
    have:=zcZ (List.mem_of_getElem? hx);exact zlz I sub (n - 1) x y _ v w _ _ X.A.in1 (by omega) (hp j x y hx hy) dx dy rx ry hin
   have e1:its.toArray.size=l1.length:=by rw[Jb,←rv.length,q1.length]
   have e2:its2.toArray.size=l2.length:=by rw[Jb,←rv2.length,q2.length]
   by_cases hsz:l1.length=l2.length
   ·have z:=And.intro (SeqAt.RcAt.lists p p2 (by rw[e1,e2,hsz]) hu0 he) (SeqAt.RcNeAt.lists p p2 (by rw[e1,e2,hsz]) hu0 he);rw[e1]at z;rw[hb,hsz,Nat.min_self,beq_self_eq_true,Bool.and_true,←hsz];exact z
   ·have z:=And.intro (SeqAt.RcAt.lists_lengths p p2 (by rw[e1,e2];simpa using hsz) hu0) (SeqAt.RcNeAt.lists_lengths p p2 (by rw[e1,e2];simpa using hsz) hu0);have hb0:b=false:=by
     rw[hb]
     have:(l1.length==l2.length)=false:=by simpa using hsz
     rw[this,Bool.and_false]
    rw[hb0];exact z
  |_=>simp[eqD]at e
 |_=>simp[eqD]at e
end
noncomputable def eqB(x y:D):Option D:=if dep x<=100 then(eqD x y).map D.bl else none
noncomputable def neB(x y:D):Option D:=if dep x<=100 then(eqD x y).map λb=>D.bl (!b)else none
def rEqD(K:Fg)(f:Bool->Bool):R2:=λx y H Q=>∃F d1 d2 b,zP F H/\zZ K F H d1 x/\zZ K F H d2 y/\dep d1<=100/\eqD d1 d2=some b/\Q (.bl (f b)) H
section
variable{K:Fg}{X:Cx}
theorem zqX(hu:X.A.units+100<cLine):OpR X (compareOp .Eq) (rEqD K id):=by intro pins s σ H x y v u Q I rx ry h;obtain⟨F,d1,d2,b,sub,h1,h2,hn,e,q⟩:=h;exact(zoo I sub d1 d2 b x y v u 100 hn e h1 h2 rx ry hu).1 _ _ _ _ ⟨.bl b,H,I,rfl,q⟩
theorem zqR(hu:X.A.units+100<cLine):OpR X (compareOp .NotEq) (rEqD K not):=by intro pins s σ H x y v u Q I rx ry h;obtain⟨F,d1,d2,b,sub,h1,h2,hn,e,q⟩:=h;exact(zoo I sub d1 d2 b x y v u 100 hn e h1 h2 rx ry hu).2 _ _ _ _ ⟨.bl (!b),H,I,rfl,q⟩
theorem p_eq(hu:X.A.units+100<cLine):Op2 K X (compareOp .Eq) .fz eqB:=by
 refine⟨_,zqX (K:=K) hu,λx y d F H v u Q e s h1 h2 k=>?_⟩;unfold eqB at e;by_cases hc:dep x<=100
 ·rw[if_pos hc]at e;cases e1:eqD x y with
  |none=>rw[e1]at e;cases e
  |some b=>
   rw[e1]at e;cases e
   exact⟨F,x,y,b,s,h1,h2,hc,e1,k _ F H (zK.refl s) (Res.bl b)⟩
 ·rw[if_neg hc]at e;cases e
theorem p_ne(hu:X.A.units+100<cLine):Op2 K X (compareOp .NotEq) .fz neB:=by
 refine⟨_,zqR (K:=K) hu,λx y d F H v u Q e s h1 h2 k=>?_⟩;unfold neB at e;by_cases hc:dep x<=100
 ·rw[if_pos hc]at e;cases e1:eqD x y with
  |none=>rw[e1]at e;cases e
  |some b=>
   rw[e1]at e;cases e
   exact⟨F,x,y,b,s,h1,h2,hc,e1,k _ F H (zK.refl s) (Res.bl _)⟩
 ·rw[if_neg hc]at e;cases e
end
noncomputable def inL(x:D):List D->Option Bool
 |[]=>some false
 |d::l=>(eqD d x).bind λb=>(inL x l).map λc=>b||c
theorem ziY{x:D}:∀{l:List D}{b:Bool},inL x l=some b->(∀d∈l,∃c,eqD d x=some c)/\b=l.any λd=>(eqD d x).getD false
 |[],b,h=>by simp[inL]at h;subst h;simp
 |d::l,b,h=>by
  simp only[inL]at h;cases e1:eqD d x with
  |none=>rw[e1]at h;cases h
  |some c=>
   cases e2:inL x l with
   |none=>rw[e1,e2]at h;cases h
   |some c2=>
    rw[e1,e2]at h;have hb:(c||c2)=b:=by simpa using h
    obtain⟨h1,h2⟩:=ziY e2;refine⟨λy hy=>?_,?_⟩
    ·rcases JC.mp hy with rfl|hy
     ·exact⟨c,e1⟩
     ·exact h1 y hy
    ·rw[←hb,h2,QW,e1];rfl
theorem zmc{α β:Type}{e:α->Bool}{g:β->Bool}:∀{xs:List α}{ys:List β},xs.length=ys.length->(∀(k:Nat) x y,xs[k]?=some x->ys[k]?=some y->e x=g y)->xs.any e=ys.any g
 |[],[],_,_=>rfl
 |[],_::_,h,_=>by simp at h
 |_::_,[],h,_=>by simp at h
 |x::xs,y::ys,h,k=>by rw[QW,QW,k 0 x y rfl rfl,zmc (xs:=xs) (ys:=ys) (by simpa using h) λj a b ha hb=>k (j+1) a b (by simpa using ha) (by simpa using hb)]
section
variable{X:Cx}{pins:AO}{σ:St}{H F:Hp}{s:Shared}{K:Fg}
theorem znb(I:Inv X pins σ H s)(sub:zP F H){l:List D}{vs:List V}{its:List Value}{x:D}{v:V}{u:Value}{b:Bool}(q:zF K F l vs)(r:zS vs its)(hx:Dat K F x v)(ru:zT v u)(hd:qU l<=100)(e:inL x l=some b)(hu:X.A.in1.units+100<cLine):
  ∃f:Value->Bool,(∀y,y∈its.toArray->SeqAt.EqAt X.A.in1 s y u (f y))/\its.toArray.any f=b:=by
 obtain⟨h1,h2⟩:=ziY e;have hl:its.length=l.length:=by rw[←r.length,q.length]
 have at_:∀(k:Nat) (y:Value),its[k]?=some y->∃d w,l[k]?=some d/\Dat K F d w/\zT w y:=λk y hk=>by
  have hk':k<its.toArray.size:=by simpa using(List.getElem?_eq_some_iff.mp hk).1
  obtain⟨d,w,e1,_,e3,e4⟩:=zbw q r hk';refine⟨d,w,e1,e3,?_⟩
  have:its.toArray[k]=y:=by rw[List.getElem?_eq_getElem (by simpa using hk')]at hk;simpa using Option.some.inj hk
  rw[←this];exact e4
 refine⟨λy=>match(its.zip l).find? (λp=>p.1==y)with
  |some p=>(eqD p.2 x).getD false
  |none=>false,λy hy=>?_,?_⟩
 ·have hy':y∈its:=by simpa using hy
  obtain⟨k,hk⟩:=Qj.mp hy';cases f:(its.zip l).find? (λp=>p.1==y)with
  |none=>
   exfalso;have hk2:k<its.length:=(List.getElem?_eq_some_iff.mp hk).1
   have:=List.find?_eq_none.mp f (its[k],l[k]'(by omega)) (by
    have:(its.zip l)[k]?=some (its[k],l[k]'(by omega)):=by simp[List.getElem?_zip_eq_some,hk2]
    exact List.mem_of_getElem? this)
   rw[List.getElem?_eq_getElem hk2]at hk;have e0:=Option.some.inj hk;simp[e0]at this
  |some p=>
   have hp:=List.find?_some f;have hm:=List.mem_of_find?_eq_some f;obtain⟨j,hj⟩:=Qj.mp hm;obtain⟨j1,j2⟩:=List.getElem?_zip_eq_some.mp hj;have e1:p.1=y:=by simpa using hp
   obtain⟨d,w,e2,e3,e4⟩:=at_ j p.1 j1;rw[j2]at e2;cases e2
   obtain⟨c,hc⟩:=h1 p.2 (List.mem_of_getElem? j2)
   have:=zcZ (List.mem_of_getElem? j2);simp only[f,hc,Option.getD_some];exact zlz I sub 100 p.2 x c w v y u X.A.in1 (by omega) hc e3 hx (e1▸e4) ru hu
 ·rw[h2,List.any_toArray];refine zmc hl λk y d hk hd'=>?_
  cases f:(its.zip l).find? (λp=>p.1==y)with
  |none=>
   exfalso
   have:=List.find?_eq_none.mp f (y,d) (List.mem_of_getElem? (i:=k) (List.getElem?_zip_eq_some.mpr ⟨hk,hd'⟩));simp at this
  |some p=>
   have hp:=List.find?_some f;have hm:=List.mem_of_find?_eq_some f;obtain⟨j,hj⟩:=Qj.mp hm;obtain⟨j1,j2⟩:=List.getElem?_zip_eq_some.mp hj;have e1:p.1=y:=by simpa using hp
   obtain⟨d1,w1,e2,e3,e4⟩:=at_ j p.1 j1;rw[j2]at e2;cases e2
   obtain⟨d2,w2,f2,f3,f4⟩:=at_ k y hk;rw[hd']at f2;cases f2
   obtain⟨c1,hc1⟩:=h1 p.2 (List.mem_of_getElem? j2);obtain⟨c2,hc2⟩:=h1 d (List.mem_of_getElem? hd');rw[e1]at e4;have ew:=e4.inj f4;subst ew;simp only[f,hc1,hc2,Option.getD_some];exact zrI _ p.2 d x c1 c2 w1 (Jd _) e3 f3 hc1 hc2
end
noncomputable def inB(x y:D):Option D:=match y with
 | .lst l=>if qU l<=100 then(inL x l).map D.bl else none
 | .tup l=>if qU l<=100 then(inL x l).map D.bl else none
 |_=>none
noncomputable def yO(x y:D):Option D:=match y with
 | .lst l=>if qU l<=100 then(inL x l).map λb=>D.bl (!b)else none
 | .tup l=>if qU l<=100 then(inL x l).map λb=>D.bl (!b)else none
 |_=>none
def rInD(K:Fg)(f:Bool->Bool):R2:=λx y H Q=>∃F d l b a vs,zP F H/\Dat K F d x/\y=.ref a/\(H a=some (.lst vs)\/H a=some (.tup vs))/\zF K F l vs/\qU l<=100/\inL d l=some b/\Q (.bl (f b)) H
section
variable{K:Fg}{X:Cx}
theorem zqV(hu:X.A.units+101<cLine):OpR X (compareOp .In) (rInD K id):=by
 intro pins s σ H x y v u Q I rx ry h;obtain⟨F,d,l,b,a,vs,sub,h1,rfl,ho,q,hd,e,k⟩:=h;cases ry
 have hu':X.A.in1.units+100<cLine:=by have:=zcD X.A;omega
 rcases ho with ho|ho
 ·obtain⟨its,r,p⟩:=Inv.lstAt I ho;obtain⟨f,h3,h4⟩:=znb I sub q r h1 rx hd e hu';exact SeqAt.in_listAt f p h3 (by rw[h4];exact⟨.bl b,H,I,rfl,k⟩)
 ·obtain⟨its,r,p⟩:=Inv.tupAt I ho;obtain⟨f,h3,h4⟩:=znb I sub q r h1 rx hd e hu';exact SeqAt.in_tupleAt f p h3 (by rw[h4];exact⟨.bl b,H,I,rfl,k⟩)
theorem zkR(hu:X.A.units+101<cLine):OpR X (compareOp .NotIn) (rInD K not):=by
 intro pins s σ H x y v u Q I rx ry h;obtain⟨F,d,l,b,a,vs,sub,h1,rfl,ho,q,hd,e,k⟩:=h;cases ry
 have hu':X.A.in1.units+100<cLine:=by have:=zcD X.A;omega
 rcases ho with ho|ho
 ·obtain⟨its,r,p⟩:=Inv.lstAt I ho;obtain⟨f,h3,h4⟩:=znb I sub q r h1 rx hd e hu';exact SeqAt.notIn_listAt f p h3 (by rw[h4];exact⟨.bl (!b),H,I,rfl,k⟩)
 ·obtain⟨its,r,p⟩:=Inv.tupAt I ho;obtain⟨f,h3,h4⟩:=znb I sub q r h1 rx hd e hu';exact SeqAt.notIn_tupleAt f p h3 (by rw[h4];exact⟨.bl (!b),H,I,rfl,k⟩)
end
def nQ(K:Fg)(X:Cx)(f:Value->Value->Sem Value)(p:D->D->Option D):Prop:=
 ∃r:R2,OpR X f r/\∀x y d F H v u Q,p x y=some d->zP F H->Dat K F x v->zZ K F H y u->(∀w F' H',zK F H F' H'->Res K .fz H F' H' d w->Q w H')->r v u H Q
section
variable{K:Fg}{X:Cx}{a b:Expr}{fa fb:EO D}{pos:Pos}{p:D->D->Option D}
theorem zqO{f:Value->Value->Sem Value}{n:Bool->Bool}{p:D->D->Option D}(o:OpR X f (rInD K n))(h:∀x y d,p x y=some d->∃l b,(y=.lst l\/y=.tup l)/\qU l<=100/\inL x l=some b/\d=.bl (n b)):nQ K X f p:=by
 refine⟨_,o,λx y d F H v u Q e s h1 h2 k=>?_⟩;obtain⟨l,b,hy,hd,e1,rfl⟩:=h x y d e;rcases hy with rfl|rfl
 ·obtain⟨a,vs,rfl,f,q⟩:=h2.lst_inv;exact⟨F,x,l,b,a,vs,s,h1,rfl,.inl f,q,hd,e1,k _ F H (zK.refl s) (Res.bl _)⟩
 ·obtain⟨a,vs,rfl,f,q⟩:=h2.tup_inv;exact⟨F,x,l,b,a,vs,s,h1,rfl,.inr (s _ _ f),q,hd,e1,k _ F H (zK.refl s) (Res.bl _)⟩
theorem p_in(hu:X.A.units+101<cLine):nQ K X (compareOp .In) inB:=zqO (zqV hu) λx y d e=>by
 unfold inB at e;split at e
 ·split at e
  ·rename_i l hd;cases e1:inL x l with
   |none=>rw[e1]at e;cases e
   |some b=>rw[e1]at e;cases e;exact⟨l,b,.inl rfl,hd,e1,rfl⟩
  ·cases e
 ·split at e
  ·rename_i l hd;cases e1:inL x l with
   |none=>rw[e1]at e;cases e
   |some b=>rw[e1]at e;cases e;exact⟨l,b,.inr rfl,hd,e1,rfl⟩
  ·cases e
 ·cases e
theorem zoX(hu:X.A.units+101<cLine):nQ K X (compareOp .NotIn) yO:=zqO (zkR hu) λx y d e=>by
 unfold yO at e;split at e
 ·split at e
  ·rename_i l hd;cases e1:inL x l with
   |none=>rw[e1]at e;cases e
   |some b=>rw[e1]at e;cases e;exact⟨l,b,.inl rfl,hd,e1,rfl⟩
  ·cases e
 ·split at e
  ·rename_i l hd;cases e1:inL x l with
   |none=>rw[e1]at e;cases e
   |some b=>rw[e1]at e;cases e;exact⟨l,b,.inr rfl,hd,e1,rfl⟩
  ·cases e
 ·cases e
theorem zpY{ρ:En}{x y d:D}{r:R2}(ha:PE X a (rdE K .fz ρ x))(hb:PE X b (rdE K .br ρ y))(hr:∀F H v u Q,zP F H->Dat K F x v->zZ K F H y u->(∀w F' H',zK F H F' H'->Res K .fz H F' H' d w->Q w H')->r v u H Q)(σ:St)(H:Hp)(Q:VK)(h:rdE K .fz ρ d σ H Q):tOp r (rdE K .fz ρ x) (rdE K .br ρ y) σ H Q:=by
 obtain⟨F,rl,q⟩:=h;refine⟨F,rl,λv F1 H1 g1 r1=>⟨F1,rl.grow g1,λu F2 H2 g2 r2=>?_⟩⟩;refine hr F2 H2 v u Q g2.fh (Dat.mono g2.ff r1) r2 λw F3 H3 g3 r3=>?_
 exact q w F3 H3 (g1.trans (g2.trans g3)) r3
theorem zrE{op:CmpOp}(o:nQ K X (compareOp op) p)(ha:FP K .fz X a fa)(hb:FP K .br X b fb)(hm:behindInMarks op b=false):FP K .fz X (.Compare a [op] [b] pos) (c2 p fa fb):=FP.mk λρ d hf=>by obtain⟨x,y,e1,e2,e3⟩:=zba hf;obtain⟨r,ho,hr⟩:=o;exact PE.imp (zhT ho (ha.h ρ x e1) (hb.h ρ y e2) hm) (zpY (ha.h ρ x e1) (hb.h ρ y e2) λF H v u Q s h1 h2 k=>hr x y d F H v u Q e3 s h1 h2 k)
end
end FL
namespace HT
section
variable{prog:Program}{w:World}{A:Around}{E:VS}{s:Shared}
theorem getItem_tuple_whole{t sl:Addr}{items:Array Value}{vl vu:Value}{lo hi:Option Int}{Q:VS}(ht:IsTup s.heap t items)(hs:s.heap.IsSliceOf sl vl vu .none)(pl:IsPart vl lo)(pu:IsPart vu hi)(hw:sIx items.size 0 lo=0/\sIx items.size items.size hi=items.size)(h:Q (.ref t) s):wpAny (model prog w) A (getItem (.ref t) (.ref sl)) Q E s:=by
 obtain⟨os,hos,hcs,hds⟩:=id hs;have hTs:s.TypeIs (.ref sl) "slice":=⟨os,hos,hcs⟩;unfold getItem
 try with_reducible refine JH ?_
 first|refine wpAny_bind (Jc ?_)|skip
 refine wpAny_bind (wpAny_sequenceKey ht.typeIs (by decide) ?_);refine wpAny_bind (wpAny_callSpecial?_slot (name:=Str.ofString "__getitem__") ht.typeIs QA
  (Qw QA ht.typeIs entry_tuple_getitem ?_ (args_tuple_getitem _ _)))
 show wpAny _ _ (Builtin.Tuple.tupleItemsOf (.ref t)>>=_) _ _ s;refine wpAny_bind (tupleItemsOf_ ht ?_);refine wpAny_bind (wpAny_typeOf hTs ?_);rw[if_pos (by decide)];refine wpAny_bind (zbE hs pl pu ?_);have hyes:(((sIx items.size 0 lo:Nat):Int)==0&&(1:Int)==1&&(sIx items.size items.size hi - sIx items.size 0 lo)==items.size)=true:=by rw[hw.1,hw.2];simp
 show wpAny _ _ (if(((sIx items.size 0 lo:Nat):Int)==0&&(1:Int)==1&&(sIx items.size items.size hi - sIx items.size 0 lo)==items.size)=true then _ else _) _ _ s;rw[if_pos hyes];unfold Builtin.Tuple.tupleIsExact;refine wpAny_bind (wpAny_bind (wpAny_typeOf ht.typeIs (Jc ?_)));rw[if_pos (by decide)];refine wpAny_bind (QX ?_);exact Jc ⟨_,rfl,Jc h⟩
end
end HT
namespace L2
section
variable{X:Cx}{K:Fg}
def zsk(K:Fg):V->Option Int->Option Int->Hp->VK->Prop:=λx lo hi H Q=>∃a xs,x=.ref a/\SqT K H a xs/\
 ((HT.sIx xs.length 0 lo=0/\HT.sIx xs.length xs.length hi=xs.length)->Q (.ref a) H)/\∀p,H p=none->Q (.ref p) (upd H p (.tup (gT xs lo hi)))
theorem zoz:SlR X (λx lo hi H Q=>∃a xs,x=.ref a/\SqT X.K H a xs/\(HT.sIx xs.length 0 lo=0/\HT.sIx xs.length xs.length hi=xs.length)/\Q (.ref a) H):=by
 intro pins s σ H x v vl vu lo hi sl Q I rx hs pl pu h;obtain⟨a,xs,rfl,hx,hw,q⟩:=h;cases rx
 obtain⟨its,r,ht,hz⟩:=I.tuple hx;have hlen:its.toArray.size=xs.length:=by rw[Jb];exact r.length.symm
 refine⟨"tuple",_,PyProof.Rows.slot_tuple_getitem.lookup,ht.typeIs,?_⟩;exact HT.getItem_tuple_whole ht hs pl pu (by rw[hlen];exact hw) ⟨.ref a,H,I,rfl,q⟩
theorem zoA(hK:X.K=K:=by rfl):SlR X (zsk K):=by
 subst hK;intro pins s σ H x v vl vu lo hi sl Q I rx hs pl pu h;obtain⟨a,xs,rfl,hx,h1,h2⟩:=h;by_cases hw:HT.sIx xs.length 0 lo=0/\HT.sIx xs.length xs.length hi=xs.length
 ·exact zoz pins s σ H _ v vl vu lo hi sl Q I rx hs pl pu ⟨a,xs,rfl,hx,hw,h1 hw⟩
 ·exact zqj pins s σ H _ v vl vu lo hi sl Q I rx hs pl pu ⟨a,xs,rfl,hx,hw,h2⟩
end
end L2
namespace FL
open L2
noncomputable def xA(f:Int->Int->Bool):D->D->Option D
 | .int a,.int b=>some (.bl (f a b))
 |_,_=>none
abbrev ltD:=xA λi j=>decide (i<j)
abbrev gtD:=xA λi j=>decide (j<i)
noncomputable def yR:List D->Option (List Int)
 |[]=>some []
 | .int i::l=>(yR l).map (i::·)
 |_::_=>none
theorem zbx:∀{l:List D}{ns:List Int},yR l=some ns->l=ns.map D.int
 |[],ns,h=>by simp[yR]at h;subst h;rfl
 | .int i::l,ns,h=>by
  simp only[yR]at h;cases e:yR l with
  |none=>rw[e]at h;cases h
  |some ms=>rw[e]at h;cases h;rw[zbx e];rfl
 | .non::_,_,h=>by simp[yR]at h
 | .bl _::_,_,h=>by simp[yR]at h
 | .str _::_,_,h=>by simp[yR]at h
 | .tup _::_,_,h=>by simp[yR]at h
 | .lst _::_,_,h=>by simp[yR]at h
 | .scr _::_,_,h=>by simp[yR]at h
 | .dic _ _::_,_,h=>by simp[yR]at h
 | .exc _ _::_,_,h=>by simp[yR]at h
theorem zfi:∀(ns:List Int),yR (ns.map D.int)=some ns
 |[]=>rfl
 |n::ns=>by rw[Jg,yR,zfi ns];rfl
noncomputable def geD:D->D->Option D
 | .int a,.int b=>some (.bl (decide (b<=a)))
 | .tup a,.tup b=>(yR a).bind λns=>(yR b).map λms=>.bl (!HT.lexLt ns ms)
 |_,_=>none
def isNon:D->Bool
 | .non=>true
 |_=>false
noncomputable def isB(x y:D):Option D:=match y with
 | .non=>some (.bl (isNon x))
 |_=>none
noncomputable def xN(x y:D):Option D:=match y with
 | .non=>some (.bl (!isNon x))
 |_=>none
variable{F H:Hp}{v:V}{l:List D}
section
variable{K:Fg}{X:Cx}
theorem znY{f:Value->Value->Sem Value}{g:Int->Int->Bool}(o:OpR X f (rI0 λi j=>.bl (g i j))):Op2 K X f .fz (xA g):=by
 refine⟨_,o,λx y d F H v u Q e s h1 h2 k=>?_⟩;unfold xA at e;split at e
 ·cases e
  exact⟨_,_,h1.int_inv,h2.int_inv,k _ F H (zK.refl s) (Res.bl _)⟩
 ·cases e
theorem p_lt:Op2 K X (compareOp .Lt) .fz ltD:=znY zsu
theorem p_gt:Op2 K X (compareOp .Gt) .fz gtD:=znY zsv
theorem p_ge(hu:X.A.units+100<cLine)(hK:X.K=K:=by rfl):Op2 K X (compareOp .GtE) .fz geD:=by
 subst hK;refine⟨_,zsw.or (zqW (by omega)),λx y d F H v u Q e s h1 h2 k=>?_⟩;unfold geD at e;split at e
 ·cases e
  exact .inl ⟨_,_,h1.int_inv,h2.int_inv,k _ F H (zK.refl s) (Res.bl _)⟩
 ·rename_i l m;cases e1:yR l with
  |none=>rw[e1]at e;cases e
  |some ns=>
   cases e2:yR m with
   |none=>rw[e1,e2]at e;cases e
   |some ms=>
    rw[e1,e2]at e;cases e
    rw[zbx e1]at h1;rw[zbx e2]at h2;obtain⟨a,vs,rfl,f1,q1⟩:=h1.tup_inv;obtain⟨b,us,rfl,f2,q2⟩:=h2.tup_inv;rw[q1.ints]at f1;rw[q2.ints]at f2;exact .inr ⟨a,b,ns,ms,rfl,rfl,SqT.of (s _ _ f1),SqT.of (s _ _ f2),k _ F H (zK.refl s) (Res.bl _)⟩
 ·cases e
theorem zZ.isNon{d:D}(h:zZ K F H d v):decide (v=.non)=FL.isNon d:=by
 cases d with
 |non=>rw[h.non_inv];rfl
 |bl b=>rw[h.bl_inv];rfl
 |int b=>rw[h.int_inv];rfl
 |str b=>rw[h.str_inv];rfl
 |tup l=>obtain⟨a,vs,rfl,_⟩:=h.tup_inv;rfl
 |lst l=>obtain⟨a,vs,rfl,_⟩:=h.lst_inv;rfl
 |scr l=>obtain⟨a,rfl,_⟩:=h.scr_inv;rfl
 |dic k l=>obtain⟨a,vs,rfl,_⟩:=h.dic_inv;rfl
 |exc c d=>obtain⟨a,_,_,_,rfl,_⟩:=h.exc_inv;rfl
theorem p_is:Op2 K X (compareOp .Is) .fz isB:=by
 refine⟨_,zqT,λx y d F H v u Q e s h1 h2 k=>?_⟩;cases y<;>simp only[isB]at e<;>try(cases e;done)
 cases e
 refine⟨h2.non_inv,?_⟩;rw[h1.isNon];exact k _ F H (zK.refl s) (Res.bl _)
theorem zoY:Op2 K X (compareOp .IsNot) .fz xN:=by
 refine⟨_,zpa,λx y d F H v u Q e s h1 h2 k=>?_⟩;cases y<;>simp only[xN]at e<;>try(cases e;done)
 cases e
 refine⟨h2.non_inv,?_⟩;rw[h1.isNon];exact k _ F H (zK.refl s) (Res.bl _)
theorem zF.atI{vs:List V}(q:zF K F l vs){i:Int}{d:D}(h:L2.atI l i=some d):∃v,L2.atI vs i=some v/\Dat K F d v:=by
 unfold L2.atI at h ⊢;rw[q.length];cases e:ixN l.length i with
 |none=>rw[e]at h;cases h
 |some j=>
  rw[e]at h;exact q.get h
noncomputable def qA:D->D->Option D
 | .lst l,.int i=>L2.atI l i
 | .tup l,.int i=>L2.atI l i
 | .scr l,.int i=>(L2.atI l i).map D.int
 | .str z,.int i=>if z.length<=lim then(L2.atI z.cps.toList i).map λc=>.str ⟨#[c]⟩else none
 |_,_=>none
theorem p_ix(hK:X.K=K:=by rfl):Ix2 K X .fz qA:=by
 subst hK;refine⟨_,zpl.or (zro.or zrp),λx y d F H v u Q e s h1 h2 k=>?_⟩;unfold qA at e;split at e
 ·obtain⟨a,vs,rfl,f,q⟩:=h1.lst_inv;obtain⟨w,hw,dw⟩:=q.atI e;exact .inl ⟨a,vs,_,w,rfl,h2.int_inv,SqL.of f,hw,k _ F H (zK.refl s) dw⟩
 ·obtain⟨a,vs,rfl,f,q⟩:=h1.tup_inv;obtain⟨w,hw,dw⟩:=q.atI e;exact .inr (.inl ⟨a,vs,_,w,rfl,h2.int_inv,SqT.of (s _ _ f),hw,k _ F H (zK.refl s) dw⟩)
 ·rename_i ns i;obtain⟨a,rfl,f⟩:=h1.scr_inv;cases e1:L2.atI ns i with
  |none=>rw[e1]at e;cases e
  |some c=>
   rw[e1]at e;cases e
   refine .inl ⟨a,_,i,.int c,rfl,h2.int_inv,zP.seq s f,?_,k _ F H (zK.refl s) (Res.int _)⟩;unfold L2.atI at e1 ⊢;rw[Ja];cases e2:ixN ns.length i with
   |none=>rw[e2]at e1;cases e1
   |some j=>
    rw[e2]at e1;have e1':ns[j]?=some c:=e1;show(ns.map V.int)[j]?=_;rw[List.getElem?_map,e1'];rfl
 ·obtain⟨hz,e⟩:_/\_:=by
   split at e
   ·rename_i hz;exact⟨hz,e⟩
   ·cases e
  rename_i z i _;cases e1:L2.atI z.cps.toList i with
  |none=>rw[e1]at e;cases e
  |some c=>
   rw[e1]at e;cases e
   exact .inr (.inr ⟨z,i,c,h1.str_inv,h2.int_inv,gK hz,e1,k _ F H (zK.refl s) (Res.str _)⟩)
 ·cases e
end
variable{α:Type}
noncomputable def kH(xs:List α)(lo hi:Option Int):List α:=(xs.drop (HT.sIx xs.length 0 lo)).take (HT.sIx xs.length xs.length hi - HT.sIx xs.length 0 lo)
variable{K:Fg}
theorem zF.cut{vs:List V}(q:zF K F l vs)(lo hi:Option Int):zF K F (kH l lo hi) (gT vs lo hi):=by unfold kH gT;rw[q.length];exact(q.drop _).take _
noncomputable def jJ(x:D)(lo hi:Option Int):Option D:=match x with
 | .tup l=>some (.tup (kH l lo hi))
 | .lst l=>some (.lst (kH l lo hi))
 | .scr l=>some (.lst ((kH l lo hi).map D.int))
 | .str z=>if z.length<=lim then some (.str (Txt.slice z lo hi))else none
 |_=>none
noncomputable def vL(x:D)(lo hi:Option Int):Option D:=match x with
 | .lst l=>some (.lst (kH l lo hi))
 | .scr l=>some (.lst ((kH l lo hi).map D.int))
 |_=>none
theorem zpG{β:Type}(f:α->β)(l:List α)(lo hi:Option Int):kH (l.map f) lo hi=(kH l lo hi).map f:=by unfold kH;rw[Ja,List.map_take,List.map_drop]
theorem znz(l:List Int)(lo hi:Option Int):gT (l.map V.int) lo hi=(kH l lo hi).map V.int:=zpG _ _ _ _
noncomputable def rdO(K:Fg)(ρ:En)(o:Option Int):TO:=λσ H Q=>∃F,Rel K F H ρ σ/\∀F' H',zK F H F' H'->Q o H'
structure FPO(K:Fg)(X:Cx)(e:Option Expr)(f:EO (Option Int)):Prop where
 h:∀ρ o,f ρ=some o->PO X e (rdO K ρ o)
variable{X:Cx}
theorem PO.imp{e:Option Expr}{t t':TO}(h:PO X e t)(w:∀σ H Q,t' σ H Q->t σ H Q):PO X e t':=λpins s σ H Q I ht=>h pins s σ H Q I (w σ H Q ht)
noncomputable def jL:EO (Option Int):=λ_=>some none
noncomputable def jK(f:EO D):EO (Option Int):=λρ=>match f ρ with
 |some (.int i)=>some (some i)
 |_=>none
noncomputable def cS(p:D->Option Int->Option Int->Option D)(fa:EO D)(fl fh:EO (Option Int)):EO D:=λρ=>(fa ρ).bind λx=>(fl ρ).bind λlo=>(fh ρ).bind λhi=>p x lo hi
variable{f:EO D}{e:Expr}{md:Md}
section
variable{K:Fg}{X:Cx}{a:Expr}{fa:EO D}{pos p2:Pos}{lo hi:Option Expr}{fl fh:EO (Option Int)}
theorem vG:FPO K X none jL:=FPO.mk λρ o hf=>PO.imp zoL λσ H Q ⟨F,r,q⟩=>by cases hf;exact q F H (zK.refl r.sub)
theorem vF(h:FP K .fz X e f):FPO K X (some e) (jK f):=FPO.mk λρ o hf=>by
 unfold jK at hf;split at hf
 ·rename_i i e1;cases hf
  exact PO.imp (zoK (h.h ρ _ e1)) λσ H Q ⟨F,r,q⟩=>⟨F,r,λv F' H' g hr=>⟨i,Dat.int_inv (K:=K) (F:=F') hr,q F' H' g⟩⟩
 ·cases hf
def Sl3(K:Fg)(X:Cx)(md:Md)(p:D->Option Int->Option Int->Option D):Prop:=
 ∃r,SlR X r/\∀x lo hi d F H v Q,p x lo hi=some d->zP F H->zZ K F H x v->(∀w F' H',zK F H F' H'->Res K md H F' H' d w->Q w H')->r v lo hi H Q
theorem vJ{p:D->Option Int->Option Int->Option D}(o:Sl3 K X md p)(ha:FP K .br X a fa)(hl:FPO K X lo fl)(hh:FPO K X hi fh):FP K md X (.Subscript a (.Slice lo hi none p2) pos) (cS p fa fl fh):=FP.mk λρ d hf=>by
 unfold cS at hf;cases e1:fa ρ with
 |none=>rw[e1]at hf;cases hf
 |some x=>
  cases e2:fl ρ with
  |none=>rw[e1,e2]at hf;cases hf
  |some l=>
   cases e3:fh ρ with
   |none=>rw[e1,e2,e3]at hf;cases hf
   |some h=>
    rw[e1,e2,e3]at hf;obtain⟨r,ho,hr⟩:=o;refine PE.imp (zmK ho (ha.h ρ x e1) (hl.h ρ l e2) (hh.h ρ h e3)) λσ H Q h_=>?_
    obtain⟨F,rl,q⟩:=h_;refine⟨F,rl,λv F1 H1 g1 r1=>⟨F1,rl.grow g1,λF2 H2 g2=>⟨F2,(rl.grow g1).grow g2,λF3 H3 g3=>?_⟩⟩⟩;refine hr x l h d F3 H3 v Q hf g3.fh (zZ.mono (g2.trans g3).ff (g2.trans g3).hh r1) λw F4 H4 g4 r4=>?_
    have g:=g1.trans (g2.trans (g3.trans g4));refine q w F4 H4 g ?_;cases md with
    |fz=>exact r4
    |br=>exact r4
    |ow=>
     obtain⟨a,e,h1,h2,h3⟩:=r4;exact⟨a,e,(g1.hh.trans (g2.hh.trans g3.hh)).free h1,h2,h3⟩
theorem vE(hK:X.K=K:=by rfl):Sl3 K X .fz jJ:=by
 subst hK;refine⟨_,SlR.or (zoA rfl) (SlR.or zoB zqk),λx lo hi d F H v Q e s h1 k=>?_⟩;cases x<;>simp only[jJ]at e<;>try(cases e;done)
 ·obtain⟨hz,rfl⟩:=kP e;exact .inr (.inr ⟨_,h1.str_inv,gK hz,λy _ ey=>by subst ey;exact k _ F H (zK.refl s) (Res.str _)⟩)
 ·rename_i l;cases e
  obtain⟨a,vs,rfl,f,q⟩:=h1.tup_inv;refine .inl ⟨a,vs,rfl,SqT.of (s _ _ f),λhw=>?_,λp hp=>?_⟩
  ·refine k _ F H (zK.refl s) ?_;have e:kH l lo hi=l:=by unfold kH;rw[q.length]at hw;rw[hw.1,hw.2,QR,Nat.sub_zero,Qe]
   rw[e];exact h1
  ·have g:=zK.frozen (o:=.tup (gT vs lo hi)) s hp;exact k _ _ _ g (Dat.tup (K:=X.K) qR ((q.mono g.ff).cut lo hi))
 ·cases e
  obtain⟨a,vs,rfl,f,q⟩:=h1.lst_inv;refine .inr (.inl ⟨a,vs,rfl,SqL.of f,λp hp=>?_⟩);have g:=zK.frozen (o:=.lst (gT vs lo hi)) s hp;exact k _ _ _ g (Dat.lst (K:=X.K) qR ((q.mono g.ff).cut lo hi))
 ·rename_i ns;cases e
  obtain⟨a,rfl,f⟩:=h1.scr_inv;refine .inr (.inl ⟨a,_,rfl,zP.seq s f,λp hp=>?_⟩);rw[znz];have g:=zK.frozen (o:=.lst ((kH ns lo hi).map V.int)) s hp;exact k _ _ _ g (Dat.lst (K:=X.K) qR (zF.ofInts _))
noncomputable def xX:D->Option D
 | .lst l=>some (.lst l.reverse)
 |_=>none
noncomputable def xI(x y:D):Option D:=match y with
 | .int (-1)=>xX x
 |_=>none
theorem frev{st:Expr}{fs:EO D}(ha:FP K .br X a fa)(hs:FP K .fz X st fs)(hK:X.K=K:=by rfl):FP K .ow X (.Subscript a (.Slice none none (some st) p2) pos) (c2 xI fa fs):=FP.mk λρ d hf=>by
 subst hK;obtain⟨x,y,e1,e2,e3⟩:=zba hf;unfold xI at e3;split at e3
 ·cases x<;>simp only[xX]at e3<;>try(cases e3;done)
  cases e3
  refine PE.imp (zqH (ha.h ρ _ e1) (hs.h ρ _ e2)) λσ H Q h_=>?_
  obtain⟨F,rl,q⟩:=h_;refine⟨F,rl,λv F1 H1 g1 r1=>⟨F1,rl.grow g1,λu F2 H2 g2 r2=>⟨Dat.int_inv (K:=X.K) (F:=F2) r2,?_⟩⟩⟩;obtain⟨a,vs,rfl,f,qq⟩:=zZ.lst_inv (zZ.mono g2.ff g2.hh r1);refine⟨a,vs,rfl,SqL.of f,λp hp=>?_⟩;have g:=g1.trans (g2.trans (zK.fresh (o:=.lst vs.reverse) g2.fh hp));exact q _ _ _ g ⟨p,rfl,(g1.hh.trans g2.hh).free hp,g2.fh.free hp,vs.reverse,qR,qq.reverse⟩
 ·cases e3
end
def zjY(K:Fg)(F H:Hp):List D->List V->Prop
 |[],vs=>vs=[]
 |d::l,vs=>∃v r,vs=v::r/\zZ K F H d v/\zjY K F H l r
def ResL(K:Fg)(fz:Bool)(F' H':Hp)(ds:List D)(vs:List V):Prop:=if fz=true then zF K F' ds vs else zjY K F' H' ds vs
noncomputable def rdA(K:Fg)(fz:Bool)(ρ:En)(ds:List D):TA:=λσ H Q=>∃F,Rel K F H ρ σ/\∀vs F' H',zK F H F' H'->ResL K fz F' H' ds vs->Q vs H'
structure FPs(K:Fg)(fz:Bool)(X:Cx)(es:List Expr)(f:EO (List D)):Prop where
 h:∀ρ ds,f ρ=some ds->PA X es (rdA K fz ρ ds)
noncomputable def zD:EO (List D):=λ_=>some []
noncomputable def zB(f:EO D)(fs:EO (List D)):EO (List D):=λρ=>(f ρ).bind λd=>(fs ρ).map λl=>d::l
noncomputable def cL(p:LO)(fs:EO (List D)):EO D:=λρ=>(fs ρ).bind p
noncomputable def zR(l:List D):Option D:=if l.length<=lim then some (.tup l)else none
noncomputable def qS(l:List D):Option D:=if l.length<=lim then some (.lst l)else none
variable{ρ:En}
section
variable{K:Fg}{X:Cx}{e:Expr}{es:List Expr}{f:EO D}{fs:EO (List D)}{pos:Pos}{fz:Bool}
theorem zE:FPs K fz X [] zD:=FPs.mk λρ ds hf=>PA.imp wO λσ H Q ⟨F,r,q⟩=>by
 cases hf
 refine q [] F H (zK.refl r.sub) ?_;unfold ResL;split
 ·exact zF.nil
 ·rfl
theorem zcd{ds:List D}(h:zB f fs ρ=some ds):∃d l,f ρ=some d/\fs ρ=some l/\ds=d::l:=by
 unfold zB at h;cases e1:f ρ with
 |none=>rw[e1]at h;cases h
 |some d=>
  cases e2:fs ρ with
  |none=>rw[e1,e2]at h;cases h
  |some l=>rw[e1,e2]at h;cases h;exact⟨d,l,rfl,rfl,rfl⟩
theorem zC(h1:FP K .fz X e f)(h2:FPs K true X es fs)(hs:starEach (e::es) X.env=(false,eval e X.env)::starEach es X.env:=by rfl):FPs K true X (e::es) (zB f fs):=FPs.mk λρ ds hf=>by
 obtain⟨d,l,e1,e2,rfl⟩:=zcd hf;refine PA.imp (yW (h1.h ρ d e1) (h2.h ρ l e2) hs) λσ H Q h_=>?_
 obtain⟨F,r,q⟩:=h_;refine⟨F,r,λv F1 H1 g1 r1=>⟨F1,r.grow g1,λvs F2 H2 g2 r2=>?_⟩⟩;exact q (v::vs) F2 H2 (g1.trans g2) (zF.cons (Dat.mono g2.ff r1) r2)
theorem gO(h1:FP K .br X e f)(h2:FPs K false X es fs)(hs:starEach (e::es) X.env=(false,eval e X.env)::starEach es X.env:=by rfl):FPs K false X (e::es) (zB f fs):=FPs.mk λρ ds hf=>by
 obtain⟨d,l,e1,e2,rfl⟩:=zcd hf;refine PA.imp (yW (h1.h ρ d e1) (h2.h ρ l e2) hs) λσ H Q h_=>?_
 obtain⟨F,r,q⟩:=h_;refine⟨F,r,λv F1 H1 g1 r1=>⟨F1,r.grow g1,λvs F2 H2 g2 r2=>?_⟩⟩;exact q (v::vs) F2 H2 (g1.trans g2) ⟨v,vs,rfl,zZ.mono g2.ff g2.hh r1,r2⟩
theorem zeG{p:LO}{d:D}(h:cL p fs ρ=some d):∃l,fs ρ=some l/\p l=some d:=by
 unfold cL at h;cases e1:fs ρ with
 |none=>rw[e1]at h;cases h
 |some l=>rw[e1]at h;exact⟨l,rfl,h⟩
theorem zU{x1}(h:FPs K true X es fs):FP K .fz X (.Tuple es x1 pos) (cL zR fs):=FP.mk λρ d hf=>by
 obtain⟨l,e1,e2⟩:=zeG hf;obtain⟨hz,rfl⟩:=kP e2;refine PE.imp (zqE (h.h ρ l e1)) λσ H Q ⟨F,r,q⟩=>⟨F,r,λvs F1 H1 g1 r1=>⟨?_,λp hp=>?_⟩⟩
 ·rw[zF.length (K:=K) (F:=F1) r1];exact gK hz
 ·have g:=zK.frozen (o:=.tup vs) g1.fh hp;exact q _ _ _ (g1.trans g) (Dat.tup (K:=K) qR (zF.mono g.ff r1))
theorem jW(h:FPs K true X es fs):FP K .ow X (.List es pos) (cL qS fs):=FP.mk λρ d hf=>by
 obtain⟨l,e1,e2⟩:=zeG hf;obtain⟨hz,rfl⟩:=kP e2;refine PE.imp (zqL (h.h ρ l e1)) λσ H Q ⟨F,r,q⟩=>⟨F,r,λvs F1 H1 g1 r1=>⟨?_,λp hp=>?_⟩⟩
 ·rw[zF.length (K:=K) (F:=F1) r1];exact gK hz
 ·exact q _ _ _ (g1.trans (zK.fresh g1.fh hp)) ⟨p,rfl,g1.hh.free hp,g1.fh.free hp,vs,qR,r1⟩
end
def nT(K:Fg)(X:Cx)(f:Value)(md:Md)(p:LO):Prop:=
 ∃r,wB X f r/\∀ds d F H vs Q,p ds=some d->zP F H->zjY K F H ds vs->(∀w F' H',zK F H F' H'->Res K md H F' H' d w->Q w H')->r vs H Q
variable{y:Str}
section
variable{K:Fg}{X:Cx}{e:Expr}{es:List Expr}{f:EO D}{fs:EO (List D)}{pos p:Pos}{md:Md}{pf:LO}{x:Str}{id T:String}
theorem ziH{r:List V->Hp->VK->Prop}{d:D}(hr:∀F H vs Q,zP F H->zjY K F H l vs->(∀w F' H',zK F H F' H'->Res K md H F' H' d w->Q w H')->r vs H Q)(σ:St)(H:Hp)(Q:VK)(h:rdE K md ρ d σ H Q):tCB r (rdA K false ρ l) σ H Q:=by
 obtain⟨F,rl,q⟩:=h;refine⟨F,rl,λvs F1 H1 g1 r1=>hr F1 H1 vs Q g1.fh r1 λw F2 H2 g2 r2=>?_⟩;refine q w F2 H2 (g1.trans g2) ?_;cases md with
 |fz=>exact r2
 |br=>exact r2
 |ow=>
  obtain⟨a,e,h1,h2,h3⟩:=r2;exact⟨a,e,g1.hh.free h1,h2,h3⟩
theorem zjd(o:nT K X (.builtin id) md pf)(hg:Gl X x)(hm:X.mg x=none)(hv:bootBuiltins x=some (.builtin id))(ha:FPs K false X (e::es) fs)(hn:x≠"__name__":=by decide)(hdb:(x==("__debug__":Str))=false:=by decide)(he:starEach (e::es) X.env=(false,eval e X.env)::starEach es X.env:=by rfl)(hpl:(backTo pos (starEach es X.env)).any (·.1)=false:=by rfl):FP K md X (.Call (.Name x p) (e::es) [] pos) (cL pf fs):=FP.mk λρ d hf=>by obtain⟨l,e1,e2⟩:=zeG hf;obtain⟨r,ho,hr⟩:=o;exact PE.imp (zfF ho hg hm hv (ha.h ρ l e1) hn hdb he hpl) (ziH λF H vs Q s h k=>hr l d F H vs Q e2 s h k)
theorem zdm(o:nT K X (.type T) md pf)(hg:Gl X x)(hm:X.mg x=none)(hv:bootBuiltins x=some (.type T))(ha:FPs K false X (e::es) fs)(hn:x≠"__name__":=by decide)(hdb:(x==("__debug__":Str))=false:=by decide)(he:starEach (e::es) X.env=(false,eval e X.env)::starEach es X.env:=by rfl)(hpl:(backTo pos (starEach es X.env)).any (·.1)=false:=by rfl):FP K md X (.Call (.Name x p) (e::es) [] pos) (cL pf fs):=FP.mk λρ d hf=>by obtain⟨l,e1,e2⟩:=zeG hf;obtain⟨r,ho,hr⟩:=o;exact PE.imp (zkK ho hg hm hv (ha.h ρ l e1) hn hdb he hpl) (ziH λF H vs Q s h k=>hr l d F H vs Q e2 s h k)
theorem zjY.one{d:D}{vs:List V}(h:zjY K F H [d] vs):∃v,vs=[v]/\zZ K F H d v:=by obtain⟨v,r,rfl,h1,rfl⟩:=h;exact⟨v,rfl,h1⟩
noncomputable def jH:LO
 |[.lst l]=>some (.int l.length)
 |[.tup l]=>some (.int l.length)
 |[.scr l]=>some (.int l.length)
 |[.str z]=>if z.length<=lim then some (.int z.length)else none
 |_=>none
theorem zrQ(hK:X.K=K:=by rfl):nT K X (.builtin "len") .fz jH:=by
 subst hK;refine⟨_,wB.or zhy zhx,λds d F H vs Q e s h k=>?_⟩;unfold jH at e;split at e
 ·obtain⟨v,rfl,h1⟩:=h.one;cases e
  obtain⟨a,vs,rfl,f,q⟩:=h1.lst_inv;refine .inl ⟨a,vs,rfl,.inl (SqL.of f),?_⟩;rw[q.length];exact k _ F H (zK.refl s) (Res.int _)
 ·obtain⟨v,rfl,h1⟩:=h.one;cases e
  obtain⟨a,vs,rfl,f,q⟩:=h1.tup_inv;refine .inl ⟨a,vs,rfl,.inr (SqT.of (s _ _ f)),?_⟩;rw[q.length];exact k _ F H (zK.refl s) (Res.int _)
 ·obtain⟨v,rfl,h1⟩:=h.one;cases e
  obtain⟨a,rfl,f⟩:=h1.scr_inv;refine .inl ⟨a,_,rfl,.inl (zP.seq s f),?_⟩;rw[Ja];exact k _ F H (zK.refl s) (Res.int _)
 ·obtain⟨v,rfl,h1⟩:=h.one;obtain⟨hz,rfl⟩:=kP e;rw[h1.str_inv];exact .inr ⟨_,rfl,gK hz,k _ F H (zK.refl s) (Res.int _)⟩
 ·cases e
noncomputable def kY:LO
 |[.lst l]=>some (.tup l)
 |[.tup l]=>some (.tup l)
 |_=>none
theorem zeF(hK:X.K=K:=by rfl):nT K X (.type "tuple") .fz kY:=by
 subst hK;refine⟨_,zgp,λds d F H vs Q e s h k=>?_⟩;unfold kY at e;split at e
 ·obtain⟨v,rfl,h1⟩:=h.one;cases e
  obtain⟨a,vs,rfl,f,q⟩:=h1.lst_inv;refine⟨a,vs,rfl,.inl ⟨SqL.of f,λp hp=>?_⟩⟩;have g:=zK.frozen (o:=.tup vs) s hp;exact k _ _ _ g (Dat.tup (K:=X.K) qR (q.mono g.ff))
 ·obtain⟨v,rfl,h1⟩:=h.one;cases e
  obtain⟨a,vs,rfl,f,q⟩:=id h1.tup_inv;exact⟨a,vs,rfl,.inr ⟨SqT.of (s _ _ f),k _ F H (zK.refl s) h1⟩⟩
 ·cases e
noncomputable def xL:LO
 |[.lst l]=>some (.lst l)
 |[.tup l]=>some (.lst l)
 |_=>none
theorem zrO(hK:X.K=K:=by rfl):nT K X (.type "list") .ow xL:=by
 subst hK;refine⟨_,zhw,λds d F H vs Q e s h k=>?_⟩;unfold xL at e;split at e
 ·obtain⟨v,rfl,h1⟩:=h.one;cases e
  obtain⟨a,vs,rfl,f,q⟩:=h1.lst_inv;exact⟨a,vs,rfl,.inl (SqL.of f),λp hp=>k _ _ _ (zK.fresh s hp) ⟨p,rfl,hp,s.free hp,vs,qR,q⟩⟩
 ·obtain⟨v,rfl,h1⟩:=h.one;cases e
  obtain⟨a,vs,rfl,f,q⟩:=h1.tup_inv;exact⟨a,vs,rfl,.inr (SqT.of (s _ _ f)),λp hp=>k _ _ _ (zK.fresh s hp) ⟨p,rfl,hp,s.free hp,vs,qR,q⟩⟩
 ·cases e
def zqZ(ns:List Int):Prop:=(∀n∈ns,0<=n)/\ns.sum<2^62
open Classical in
noncomputable def sumD:LO
 |[.lst l]=>(yR l).bind λns=>if zqZ ns then some (.int ns.sum)else none
 |_=>none
theorem zsQ(hc:X.calm=true)(hK:X.K=K:=by rfl):nT K X (.builtin "sum") .fz sumD:=by
 subst hK;refine⟨_,zlV hc,λds d F H vs Q e s h k=>?_⟩;unfold sumD at e;split at e
 ·rename_i l;cases e1:yR l with
  |none=>rw[e1]at e;cases e
  |some ns=>
   rw[e1]at e;obtain⟨hz,rfl⟩:=kP e;obtain⟨v,rfl,h1⟩:=h.one;rw[zbx e1]at h1;obtain⟨a,vs,rfl,f,q⟩:=h1.lst_inv;rw[q.ints]at f;exact⟨a,ns,rfl,SqL.of f,zjv hz.1 hz.2,k _ F H (zK.refl s) (Res.int _)⟩
 ·cases e
noncomputable def vZ:LO
 |[.int i]=>some (.int (if i<0 then -i else i))
 |_=>none
noncomputable def xO:LO
 |[.int i]=>some (.int i)
 |[.bl k]=>some (.int (if k then 1 else 0))
 |_=>none
theorem zsR:nT K X (.type "int") .fz xO:=by
 refine⟨_,zlW,λds d F H vs Q e s h k=>?_⟩;unfold xO at e;split at e
 ·obtain⟨v,rfl,h1⟩:=h.one;cases e
  rw[h1.int_inv];exact .inl ⟨_,rfl,k _ F H (zK.refl s) (Res.int _)⟩
 ·obtain⟨v,rfl,h1⟩:=h.one;cases e
  rw[h1.bl_inv];exact .inr ⟨_,rfl,k _ F H (zK.refl s) (Res.int _)⟩
 ·cases e
noncomputable def vS(x y:D):Option D:=match x,y with
 | .lst l,.int d=>(yR l).map λns=>.int (maxD ns d)
 |_,_=>none
noncomputable def tyN:D->Option String
 | .non=>some "NoneType"
 | .bl _=>some "bool"
 | .int _=>some "int"
 | .str _=>some "str"
 | .tup _=>some "tuple"
 | .lst _=>some "list"
 | .dic _ _=>some "dict"
 |_=>none
def xM(k T:String):Bool:=k==T||(k=="bool"&&T=="int")
theorem zpk(K:Fg):(["NoneType","bool","int","str","tuple","list","dict"].all λk=>["bool","int","str","tuple","list","dict"].all λT=>PySem.W.kitOne K (.type k) (.type T)==some (xM k T))=true:=by kernel_rfl
theorem zrj(K:Fg){k T:String}(hk:k∈["NoneType","bool","int","str","tuple","list","dict"])(hT:T∈["bool","int","str","tuple","list","dict"]):PySem.W.kitOne K (.type k) (.type T)=some (xM k T):=by have h:=JP.mp (zpk K) k hk;exact eq_of_beq (JP.mp h T hT)
noncomputable def jF(T:String)(x:D):Option D:=(tyN x).map λk=>.bl (xM k T)
theorem zot{d:D}{k:String}(h:tyN d=some k):k∈["NoneType","bool","int","str","tuple","list","dict"]:=by cases d<;>simp only[tyN]at h<;>cases h<;>decide
theorem zpX{d:D}{k:String}(s:zP F H)(h:zZ K F H d v)(e:tyN d=some k):wS K H v (.type k):=by
 cases d<;>simp only[tyN]at e<;>cases e
 ·rw[h.non_inv];exact .non
 ·rw[h.bl_inv];exact .bl _
 ·rw[h.int_inv];exact .int _
 ·rw[h.str_inv];exact .str _
 ·obtain⟨a,vs,rfl,f,_⟩:=h.tup_inv;exact .tup (s _ _ f)
 ·obtain⟨a,vs,rfl,f,_⟩:=h.lst_inv;exact .lst f
 ·obtain⟨a,vs,rfl,f,_⟩:=h.dic_inv;rcases f with(⟨kvs,f,_⟩|⟨kvs,f,_⟩)|⟨o,⟨kvs,f,_⟩|⟨kvs,f,_⟩⟩
  ·exact .dK (.inl f)
  ·exact .dT (.inl f)
  ·exact .dK (.inr ⟨o,f⟩)
  ·exact .dT (.inr ⟨o,f⟩)
theorem vT{a:Expr}{fa:EO D}{T:String}{p2:Pos}(ha:FP K .br X a fa)(hg:Gl X "isinstance")(hm:X.mg "isinstance"=none)(hgT:Gl X y)(hmT:X.mg y=none)(hv:bootBuiltins y=some (.type T))(hT:T∈["bool","int","str","tuple","list","dict"]:=by decide)(hn:y≠"__name__":=by decide)(hd:(y==("__debug__":Str))=false:=by decide)(he:starEach [a,.Name y p2] X.env=(false,eval a X.env)::starEach [.Name y p2] X.env:=by rfl)(he2:starEach [.Name y p2] X.env=[(false,eval (.Name y p2) X.env)]:=by rfl)(hpl:(backTo pos (starEach [.Name y p2] X.env)).any (·.1)=false:=by rfl)(hK:X.K=K:=by rfl):
  FP K .fz X (.Call (.Name "isinstance" p) [a,.Name y p2] [] pos) (c1 (jF T) fa):=FP.mk λρ d hf=>by
 subst hK;obtain⟨x,e1,e2⟩:=zlY hf;unfold jF at e2;cases e3:tyN x with
 |none=>rw[e3]at e2;cases e2
 |some k=>
  rw[e3]at e2;cases e2
  refine PE.imp (zfF znD hg hm boot_isinstance (yW (ha.h ρ x e1) (yW (zoU (v:=.ty T) hgT hmT hv rfl hn hd) wO he2) he) (by decide) (by decide) he hpl) λσ H Q h_=>?_
  obtain⟨F,rl,q⟩:=h_;refine⟨F,rl,λv F1 H1 g1 r1=>⟨v,T,_,_,rfl,zpX g1.fh r1 e3,zrj X.K (zot e3) hT,q _ F1 H1 g1 (Res.bl _)⟩⟩
end
noncomputable def rdTp(K:Fg)(ρ:En)(b:Bool):TT:=λσ H Q=>∃F,Rel K F H ρ σ/\∀F' H',zK F H F' H'->Q b H'
structure FTp(K:Fg)(X:Cx)(e:Expr)(f:EO Bool):Prop where
 h:∀ρ b,f ρ=some b->PT X e (rdTp K ρ b)
structure FWp(K:Fg)(X:Cx)(e:Expr)(f:EO Bool):Prop where
 h:∀ρ b,f ρ=some b->PW X e (rdTp K ρ b)
noncomputable def rdT(K:Fg)(ρ:En)(b:Bool)(ρ':En):TT:=λσ H Q=>∃F,Rel K F H ρ σ/\∀F' H',Rel K F' H' ρ' σ->jA ρ σ F H ρ' σ F' H'->Q b H'
structure FT(K:Fg)(X:Cx)(e:Expr)(m:EO (Bool×En)):Prop where
 h:∀ρ b ρ',m ρ=some (b,ρ')->PT X e (rdT K ρ b ρ')
structure FW(K:Fg)(X:Cx)(e:Expr)(m:EO (Bool×En)):Prop where
 h:∀ρ b ρ',m ρ=some (b,ρ')->PW X e (rdT K ρ b ρ')
noncomputable def cT(f:EO D):EO Bool:=λρ=>match f ρ with
 |some (.bl b)=>some b
 |_=>none
noncomputable def kF(f g:EO Bool):EO Bool:=λρ=>(f ρ).bind λb=>if b=true then g ρ else some false
noncomputable def orP(f g:EO Bool):EO Bool:=λρ=>(f ρ).bind λb=>if b=true then some true else g ρ
noncomputable def yC(f:EO Bool):EO Bool:=λρ=>(f ρ).map λb=>!b
noncomputable def upT(f:EO Bool):EO (Bool×En):=λρ=>(f ρ).map λb=>(b,ρ)
noncomputable def andM(f g:EO (Bool×En)):EO (Bool×En):=λρ=>(f ρ).bind λp=>if p.1=true then g p.2 else some (false,p.2)
noncomputable def notM(f:EO (Bool×En)):EO (Bool×En):=λρ=>(f ρ).map λp=>(!p.1,p.2)
theorem ziq{b:Bool}(h:cT f ρ=some b):f ρ=some (.bl b):=by
 unfold cT at h;split at h
 ·rename_i e;cases h;exact e
 ·cases h
theorem zmd{f g:EO Bool}{b:Bool}(h:kF f g ρ=some b):(f ρ=some true/\g ρ=some b)\/(f ρ=some false/\b=false):=by
 unfold kF at h;cases e:f ρ with
 |none=>rw[e]at h;cases h
 |some c=>
  rw[e]at h;cases c with
  |true=>exact .inl ⟨rfl,h⟩
  |false=>exact .inr ⟨rfl,(Option.some.inj h).symm⟩
theorem zmP{f g:EO Bool}{b:Bool}(h:orP f g ρ=some b):(f ρ=some false/\g ρ=some b)\/(f ρ=some true/\b=true):=by
 unfold orP at h;cases e:f ρ with
 |none=>rw[e]at h;cases h
 |some c=>
  rw[e]at h;cases c with
  |false=>exact .inl ⟨rfl,h⟩
  |true=>exact .inr ⟨rfl,(Option.some.inj h).symm⟩
theorem zfI:PW X e (λ_ _ _=>False):=λ_ _ _ _ _ _ _ h=>h.elim
theorem ziT:PE X e (λ_ _ _=>False):=λ_ _ _ _ _ _ h=>h.elim
variable{op:CmpOp}
section
variable{K:Fg}{X:Cx}{a b e:Expr}{rest:List Expr}{fa fb f:EO D}{pos:Pos}{p:D->D->Option D}{t u:EO Bool}{m n:EO (Bool×En)}
theorem tcmp(o:Op2 K X (compareOp op) .fz p)(ha:FP K .br X a fa)(hb:FP K .br X b fb)(hm:behindInMarks op b=false):FTp K X (.Compare a [op] [b] pos) (cT (c2 p fa fb)):=FTp.mk λρ c hf=>by
 obtain⟨x,y,e1,e2,e3⟩:=zba (ziq hf);obtain⟨r,ho,hr⟩:=o;refine PT.imp (zhO ho (ha.h ρ x e1) (hb.h ρ y e2) hm) λσ H Q h_=>?_
 obtain⟨F,rl,q⟩:=h_;refine two (md:=.fz) (d:=.bl c) (ta:=λ_ _ _=>True) (tb:=λ_ _ _=>True) (ha.h ρ x e1) (hb.h ρ y e2) (λF H v u Q s h1 h2 k=>hr x y _ F H v u Q e3 s h1 h2 k) σ H _ ⟨F,rl,λv F' H' g h=>⟨c,Dat.bl_inv (K:=K) (F:=F') h,q F' H' g⟩⟩
theorem zrX(o:nQ K X (compareOp op) p)(ha:FP K .fz X a fa)(hb:FP K .br X b fb)(hm:behindInMarks op b=false):FTp K X (.Compare a [op] [b] pos) (cT (c2 p fa fb)):=FTp.mk λρ c hf=>by
 obtain⟨x,y,e1,e2,e3⟩:=zba (ziq hf);obtain⟨r,ho,hr⟩:=o;refine PT.imp (zhO ho (ha.h ρ x e1) (hb.h ρ y e2) hm) λσ H Q h_=>?_
 obtain⟨F,rl,q⟩:=h_;exact zpY (d:=.bl c) (ha.h ρ x e1) (hb.h ρ y e2) (λF H v u Q s h1 h2 k=>hr x y _ F H v u Q e3 s h1 h2 k) σ H _ ⟨F,rl,λv F' H' g h=>⟨c,Dat.bl_inv (K:=K) (F:=F') h,q F' H' g⟩⟩
theorem kI(h:FP K .fz X e f)(he:∀whole,isTrue e X.env whole=(do let v ←whole;standAt e.pos;holding [v] (truthy v)):=by intro _;rfl):FTp K X e (cT f):=FTp.mk λρ c hf=>
 PT.imp (znP (h.h ρ _ (ziq hf)) he) λσ H Q ⟨F,rl,q⟩=>⟨F,rl,λv F' H' g h=>⟨c,Dat.bl_inv (K:=K) (F:=F') h,q F' H' g⟩⟩
noncomputable def xF:D->Option Bool
 | .non=>some false
 | .bl b=>some b
 | .int i=>some (i !=0)
 | .str z=>if z.length<=lim then some ((z.length:Int)!=0)else none
 | .lst l=>some (!l.isEmpty)
 | .tup l=>some (!l.isEmpty)
 |_=>none
noncomputable def cTr(f:EO D):EO Bool:=λρ=>(f ρ).bind xF
theorem zF.empty{vs:List V}(q:zF K F l vs):vs.isEmpty=l.isEmpty:=by have:=q.length;cases l<;>cases vs<;>simp at this ⊢
theorem ttru(h:FP K .br X e f)(he:∀whole,isTrue e X.env whole=(do let v ←whole;standAt e.pos;holding [v] (truthy v)):=by intro _;rfl)(hK:X.K=K:=by rfl):FTp K X e (cTr f):=FTp.mk λρ c hf=>by
 subst hK;unfold cTr at hf;cases e1:f ρ with
 |none=>rw[e1]at hf;cases hf
 |some d=>
  rw[e1]at hf;have hf:xF d=some c:=hf;refine PT.imp (zmB (h.h ρ d e1) he) λσ H Q ⟨F,rl,q⟩=>⟨F,rl,λv F' H' g h=>⟨c,?_,q F' H' g⟩⟩
  have h:zZ X.K F' H' d v:=h;cases d<;>simp only[xF]at hf<;>try(cases hf;done)
  ·cases hf;rw[h.non_inv];rfl
  ·cases hf;rw[h.bl_inv];rfl
  ·cases hf;rw[h.int_inv];rfl
  ·obtain⟨hz,rfl⟩:=kP hf;rw[h.str_inv];exact⟨gK hz,rfl⟩
  ·cases hf
   obtain⟨a,vs,rfl,f,q⟩:=h.tup_inv;exact .inr (.inl ⟨vs,SqT.of (g.fh _ _ f),by rw[q.empty]⟩)
  ·cases hf
   obtain⟨a,vs,rfl,f,q⟩:=h.lst_inv;exact .inl ⟨vs,SqL.of f,by rw[q.empty]⟩
theorem zkm(h:FTp K X a t):FWp K X (.BoolOp .And [a] pos) t:=FWp.mk λρ c hf=>zkA (h.h ρ c hf)
theorem tor1(h:FTp K X a t):FWp K X (.BoolOp .Or [a] pos) t:=FWp.mk λρ c hf=>zqu (h.h ρ c hf)
theorem tand(h1:FTp K X a t)(h2:FWp K X (.BoolOp .And (b::rest) pos) u):FWp K X (.BoolOp .And (a::b::rest) pos) (kF t u):=FWp.mk λρ c hf=>by
 rcases zmd hf with⟨e1,e2⟩|⟨e1,rfl⟩
 ·exact PW.imp (ziJ (h1.h ρ _ e1) (h2.h ρ c e2)) λσ H Q ⟨F,rl,q⟩=>⟨F,rl,λF1 H1 g1=>iteT ⟨F1,rl.grow g1,λF2 H2 g2=>q F2 H2 (g1.trans g2)⟩⟩
 ·exact PW.imp (ziJ (h1.h ρ _ e1) zfI) λσ H Q ⟨F,rl,q⟩=>⟨F,rl,λF1 H1 g1=>iteF (q F1 H1 g1)⟩
theorem tor(h1:FTp K X a t)(h2:FWp K X (.BoolOp .Or (b::rest) pos) u):FWp K X (.BoolOp .Or (a::b::rest) pos) (orP t u):=FWp.mk λρ c hf=>by
 rcases zmP hf with⟨e1,e2⟩|⟨e1,rfl⟩
 ·exact PW.imp (zqv (h1.h ρ _ e1) (h2.h ρ c e2)) λσ H Q ⟨F,rl,q⟩=>⟨F,rl,λF1 H1 g1=>iteF ⟨F1,rl.grow g1,λF2 H2 g2=>q F2 H2 (g1.trans g2)⟩⟩
 ·exact PW.imp (zqv (h1.h ρ _ e1) zfI) λσ H Q ⟨F,rl,q⟩=>⟨F,rl,λF1 H1 g1=>iteT (q F1 H1 g1)⟩
theorem FWp.pt(h:FWp K X e t):FTp K X e t:=FTp.mk λρ c hf=>(h.h ρ c hf).pt
theorem tnot(h:FTp K X a t):FTp K X (.UnaryOp .Not a pos) (yC t):=FTp.mk λρ c hf=>by
 unfold yC at hf;cases e1:t ρ with
 |none=>rw[e1]at hf;cases hf
 |some d=>
  rw[e1]at hf;cases hf
  exact PT.imp (znQ (h.h ρ d e1)) λσ H Q ⟨F,rl,q⟩=>⟨F,rl,λF1 H1 g1=>q F1 H1 g1⟩
theorem FTp.up(h:FTp K X e t):FT K X e (upT t):=FT.mk λρ c ρ' hf=>by
 unfold upT at hf;cases e1:t ρ with
 |none=>rw[e1]at hf;cases hf
 |some d=>
  rw[e1]at hf;cases hf
  exact PT.imp (h.h ρ c e1) λσ H Q ⟨F,rl,q⟩=>⟨F,rl,λF1 H1 g1=>q F1 H1 (rl.grow g1) g1.step⟩
theorem zre(h:FT K X a m):FW K X (.BoolOp .And [a] pos) m:=FW.mk λρ c ρ' hf=>zkA (h.h ρ c ρ' hf)
theorem mand(h1:FT K X a m)(h2:FW K X (.BoolOp .And (b::rest) pos) n):FW K X (.BoolOp .And (a::b::rest) pos) (andM m n):=FW.mk λρ c ρ' hf=>by
 unfold andM at hf;cases e1:m ρ with
 |none=>rw[e1]at hf;cases hf
 |some q1=>
  obtain⟨b1,ρ1⟩:=q1;rw[e1]at hf;cases b1 with
  |true=>
   have hf:n ρ1=some (c,ρ'):=hf;exact PW.imp (ziJ (h1.h ρ _ _ e1) (h2.h ρ1 c ρ' hf)) λσ H Q ⟨F,rl,q⟩=>⟨F,rl,λF1 H1 r1 s1=>iteT ⟨F1,r1,λF2 H2 r2 s2=>q F2 H2 r2 (s1.trans s2 rl.sub)⟩⟩
  |false=>
   have hf:some (false,ρ1)=some (c,ρ'):=hf;cases hf
   exact PW.imp (ziJ (h1.h ρ _ _ e1) zfI) λσ H Q ⟨F,rl,q⟩=>⟨F,rl,λF1 H1 r1 s1=>iteF (q F1 H1 r1 s1)⟩
theorem FW.pt(h:FW K X e m):FT K X e m:=FT.mk λρ c ρ' hf=>(h.h ρ c ρ' hf).pt
theorem mnot(h:FT K X a m):FT K X (.UnaryOp .Not a pos) (notM m):=FT.mk λρ c ρ' hf=>by
 unfold notM at hf;cases e1:m ρ with
 |none=>rw[e1]at hf;cases hf
 |some q1=>
  rw[e1]at hf;cases hf
  exact PT.imp (znQ (h.h ρ _ _ e1)) λσ H Q ⟨F,rl,q⟩=>⟨F,rl,λF1 H1 r1 s1=>q F1 H1 r1 s1⟩
noncomputable def vY(f g:EO D):EO D:=λρ=>match f ρ with
 |some (.bl true)=>g ρ
 |some (.bl false)=>some (.bl false)
 |_=>none
noncomputable def orV(f g:EO D):EO D:=λρ=>match f ρ with
 |some (.bl true)=>some (.bl true)
 |some (.bl false)=>g ρ
 |_=>none
noncomputable def vR(f:EO D):EO D:=λρ=>match f ρ with
 |some (.bl b)=>some (.bl (!b))
 |_=>none
noncomputable def yQ:D->Option D
 | .int i=>some (.int (-i))
 |_=>none
theorem fneg(h:FP K .fz X a fa):FP K .fz X (.UnaryOp .USub a pos) (c1 yQ fa):=FP.mk λρ d hf=>by
 obtain⟨x,e1,e2⟩:=zlY hf;cases x<;>simp only[yQ]at e2<;>try(cases e2;done)
 cases e2
 exact PE.imp (zsp zpW (h.h ρ _ e1)) λσ H Q ⟨F,rl,q⟩=>⟨F,rl,λv F1 H1 g1 r1=>⟨_,Dat.int_inv (K:=K) (F:=F1) r1,q _ F1 H1 g1 (Res.int _)⟩⟩
end
open L2 FX
def ExcD(K:Fg)(F:Hp)(c:Str)(d:D)(C da:Addr):Prop:=∃u,PySem.W.nsIn K mainGlobals c=some (some (.ref C))/\F da=some (.xd [(znq c,u)])/\Dat K F d u
def Wish(X:Cx)(σ:St)(C da:Addr)(H:Hp):Prop:=∀(pins:AO) (a:Addr) (tb:Option Addr) (s:Shared),Inv X pins σ H s->Fly s.heap a (.ref C) (some da) tb .none->yL X pins H a->(∀T,tb=some T->yL X pins H T)->X.xe (.ref a) s
section
variable{X:Cx}{pins:AO}{σ:St}{H:Hp}{s:Shared}{h':Heap}
end
variable{a:Addr}{j:Nat}{sl:Option Sl}{ρ2:En}{σ2:St}
section
variable{K:Fg}{F H F' H':Hp}{ρ ρ':En}{σ σ':St}{i:Nat}
theorem zX{l:List α}{i:Nat}{x y:α}(h:(l.set i x)[j]?=some y):(j=i/\y=x)\/(j≠i/\l[j]?=some y):=by
 by_cases e:j=i
 ·subst e;rw[List.getElem?_set]at h;simp at h;exact .inl ⟨rfl,h.2.symm⟩
 ·rw[List.getElem?_set_ne (Ne.symm e)]at h;exact .inr ⟨e,h⟩
theorem zaI{l:List α}{i:Nat}{x:α}(h:i<l.length):(l.set i x)[i]?=some x:=by simp[h]
theorem zgI{l:List α}{i:Nat}{x y:α}(h:(l.set i x)[i]?=some y):i<l.length:=by have:=(List.getElem?_eq_some_iff.mp h).1;simpa using this
theorem Rel.setD(r:Rel K F H ρ σ){d:D}(h:Dat K F d v):Rel K F H (ρ.set i (some (.dat d))) (σ.set i (some v)):=by
 refine⟨r.sub,λj x e=>?_,λj x e=>?_,λj q x e=>?_,λj k q x s a ne e1 e2 e3 e4=>?_,by simp[r.len]⟩
 ·rcases zX e with⟨rfl,e'⟩|⟨ne,e'⟩
  ·cases e'
   exact⟨v,zaI (by rw[←r.len];exact zgI e),h⟩
  ·rw[List.getElem?_set_ne (Ne.symm ne)];exact r.dat j x e'
 ·rcases zX e with⟨rfl,e'⟩|⟨ne,e'⟩
  ·cases e'
  ·rw[List.getElem?_set_ne (Ne.symm ne)];exact r.bor j x e'
 ·rcases zX e with⟨rfl,e'⟩|⟨ne,e'⟩
  ·cases e'
  ·rw[List.getElem?_set_ne (Ne.symm ne)];exact r.own j q x e'
 ·rcases zX e1 with⟨rfl,e'⟩|⟨ne1,e1'⟩
  ·cases e'
  ·rcases zX e3 with⟨rfl,e'⟩|⟨ne3,e3'⟩
   ·cases e';cases e4
   ·rw[List.getElem?_set_ne (Ne.symm ne1)]at e2;rw[List.getElem?_set_ne (Ne.symm ne3)];exact r.inj j k q x s a ne e1' e2 e3' e4
theorem Rel.setN(r:Rel K F H ρ σ){v:Option V}:Rel K F H (ρ.set i none) (σ.set i v):=by
 refine⟨r.sub,λj x e=>?_,λj x e=>?_,λj q x e=>?_,λj k q x s a ne e1 e2 e3 e4=>?_,by simp[r.len]⟩
 ·rcases zX e with⟨rfl,e'⟩|⟨ne,e'⟩
  ·cases e'
  ·rw[List.getElem?_set_ne (Ne.symm ne)];exact r.dat j x e'
 ·rcases zX e with⟨rfl,e'⟩|⟨ne,e'⟩
  ·cases e'
  ·rw[List.getElem?_set_ne (Ne.symm ne)];exact r.bor j x e'
 ·rcases zX e with⟨rfl,e'⟩|⟨ne,e'⟩
  ·cases e'
  ·rw[List.getElem?_set_ne (Ne.symm ne)];exact r.own j q x e'
 ·rcases zX e1 with⟨rfl,e'⟩|⟨ne1,e1'⟩
  ·cases e'
  ·rcases zX e3 with⟨rfl,e'⟩|⟨ne3,e3'⟩
   ·cases e'
   ·rw[List.getElem?_set_ne (Ne.symm ne1)]at e2;rw[List.getElem?_set_ne (Ne.symm ne3)];exact r.inj j k q x s a ne e1' e2 e3' e4
theorem Rel.drop(r:Rel K F H ρ σ):Rel K F H (ρ.set i none) σ:=by
 by_cases hi:i<σ.length
 ·have h:=r.setN (i:=i) (v:=σ[i]);rw[List.set_getElem_self]at h;exact h
 ·have e:ρ.set i none=ρ:=List.set_eq_of_length_le (by rw[r.len];omega);rw[e];exact r
theorem Rel.setO(r0:Rel K F H ρ σ)(g:zK F H F' H'){d:D}(hn:H a=none)(hf:F' a=none)(ho:Own K F' H' d a)(nb:∀(j:Nat) (s:Sl),ρ[j]?=some (some s)->s.isDat=false->∃q x,s=.ow q x):
  Rel K F' H' (ρ.set i (some (.own d))) (σ.set i (some (.ref a))):=by
 have r:=r0.grow g;have nf:∀(j:Nat) s,ρ[j]?=some (some s)->s.isDat=false->σ[j]?≠some (some (.ref a)):=λj s e hs z=>by
  obtain⟨q,x,rfl⟩:=nb j s e hs;obtain⟨b,e1,_,e3⟩:=r0.own j q x e;rw[z]at e1;cases e1
  obtain⟨o,e4⟩:=e3.some;rw[hn]at e4;cases e4
 refine⟨r.sub,λj x e=>?_,λj x e=>?_,λj q x e=>?_,λj k q x s c ne e1 e2 e3 e4=>?_,by simp[r.len]⟩
 ·rcases zX e with⟨rfl,e'⟩|⟨ne,e'⟩
  ·cases e'
  ·rw[List.getElem?_set_ne (Ne.symm ne)];exact r.dat j x e'
 ·rcases zX e with⟨rfl,e'⟩|⟨ne,e'⟩
  ·cases e'
  ·rw[List.getElem?_set_ne (Ne.symm ne)];exact r.bor j x e'
 ·rcases zX e with⟨rfl,e'⟩|⟨ne,e'⟩
  ·cases e'
   exact⟨a,zaI (by rw[←r.len];exact zgI e),hf,ho⟩
  ·rw[List.getElem?_set_ne (Ne.symm ne)];exact r.own j q x e'
 ·rcases zX e1 with⟨rfl,e1'⟩|⟨ne1,e1'⟩
  ·cases e1'
   rw[zaI (by rw[←r.len];exact zgI e1)]at e2;cases e2
   rcases zX e3 with⟨rfl,e3'⟩|⟨ne3,e3'⟩
   ·exact absurd rfl ne
   ·rw[List.getElem?_set_ne (Ne.symm ne3)];exact nf k s e3' e4
  ·rw[List.getElem?_set_ne (Ne.symm ne1)]at e2;rcases zX e3 with⟨rfl,e3'⟩|⟨ne3,e3'⟩
   ·rw[zaI (by rw[←r.len];exact zgI e3)];intro z;cases z
    exact nf j _ e1' rfl e2
   ·rw[List.getElem?_set_ne (Ne.symm ne3)];exact r.inj j k q x s c ne e1' e2 e3' e4
theorem zdZ{v:Option V}{b:Addr}(h:xC (ρ.set i sl) (σ.set i v) b):(∃q d,sl=some (.ow q d)/\v=some (.ref b))\/xC ρ σ b:=by
 obtain⟨j,q,d,e1,e2⟩:=h;rcases zX e1 with⟨rfl,e1'⟩|⟨ne,e1'⟩
 ·rcases zX e2 with⟨_,e2'⟩|⟨ne,_⟩
  ·exact .inl ⟨q,d,e1'.symm,e2'.symm⟩
  ·exact absurd rfl ne
 ·rw[List.getElem?_set_ne (Ne.symm ne)]at e2;exact .inr ⟨j,q,d,e1',e2⟩
theorem zfb{b:Addr}(h:xC (ρ.set i none) σ b):xC ρ σ b:=by
 obtain⟨j,q,d,e1,e2⟩:=h;rcases zX e1 with⟨rfl,e1'⟩|⟨ne,e1'⟩
 ·cases e1'
 ·exact⟨j,q,d,e1',e2⟩
structure Kp(ρ:En)(σ:St)(ρ':En)(σ':St):Prop where
 own:∀b,xC ρ' σ' b->xC ρ σ b
 pin:∀(i:Nat) (d':D),ρ'[i]?=some (some (.ow true d'))->∃d,ρ[i]?=some (some (.ow true d))/\σ'[i]?=σ[i]?
theorem Kp.refl:Kp ρ σ ρ σ:=⟨λ_ h=>h,λ_ d e=>⟨d,e,rfl⟩⟩
theorem Kp.trans(a:Kp ρ σ ρ' σ')(b:Kp ρ' σ' ρ2 σ2):Kp ρ σ ρ2 σ2:=⟨λc h=>a.own c (b.own c h),λi d e=>by obtain⟨d1,e1,e2⟩:=b.pin i d e;obtain⟨d2,e3,e4⟩:=a.pin i d1 e1;exact⟨d2,e3,e2.trans e4⟩⟩
theorem zhR{v:Option V}(hs:∀d,sl≠some (.ow true d)):∀(j:Nat) (d':D),(ρ.set i sl)[j]?=some (some (.ow true d'))->∃d,ρ[j]?=some (some (.ow true d))/\(σ.set i v)[j]?=σ[j]?:=λj d' e=>by
 rcases zX e with⟨rfl,e'⟩|⟨ne,e'⟩
 ·exact absurd e'.symm (hs d')
 ·exact⟨d',e',List.getElem?_set_ne (Ne.symm ne)⟩
theorem ziN:∀(j:Nat) (d':D),(ρ.set i none)[j]?=some (some (.ow true d'))->∃d,ρ[j]?=some (some (.ow true d))/\σ[j]?=σ[j]?:=λj d' e=>by
 rcases zX e with⟨rfl,e'⟩|⟨ne,e'⟩
 ·cases e'
 ·exact⟨d',e',rfl⟩
theorem Kp.setD{d:D}{v:Option V}:Kp ρ σ (ρ.set i (some (.dat d))) (σ.set i v):=⟨λb z=>by
 rcases zdZ z with⟨_,_,z,_⟩|z
 ·cases z
 ·exact z,zhR λd h=>by cases h⟩
theorem jA.kp(a:jA ρ σ F H ρ' σ' F' H')(k:Kp ρ' σ' ρ2 σ2):jA ρ σ F H ρ2 σ2 F' H':=⟨a.ff,a.rest,λb z=>a.own b (k.own b z),λi d e=>by obtain⟨d1,e1,e2⟩:=k.pin i d e;obtain⟨d2,e3,e4⟩:=a.pin i d1 e1;exact⟨d2,e3,e2.trans e4⟩,a.fh⟩
end
inductive Fl where
 |nx (ρ:En)|rt (d:D) (ρ:En)|bk (ρ:En)|ct (ρ:En)|rs (c:Str) (d:D) (ρ:En)
def gC(K:Fg)(md:Md)(ρ:En)(σ:St)(H F' H':Hp)(d:D)(v:V):Prop:=match md with
 | .fz=>Dat K F' d v
 | .ow=>∃a,v=.ref a/\(H a=none\/xC ρ σ a)/\F' a=none/\Own K F' H' d a
 | .br=>False
noncomputable def rdS(X:Cx)(K:Fg)(md:Md)(ρ:En)(fl:Fl):TS:=λD σ H=>∃F,Rel K F H ρ σ/\match fl with
 | .nx ρ'=>∀σ' F' H',Rel K F' H' ρ' σ'->jA ρ σ F H ρ' σ' F' H'->D.nx σ' H'
 | .bk ρ'=>∀σ' F' H',Rel K F' H' ρ' σ'->jA ρ σ F H ρ' σ' F' H'->D.bk σ' H'
 | .ct ρ'=>∀σ' F' H',Rel K F' H' ρ' σ'->jA ρ σ F H ρ' σ' F' H'->D.ct σ' H'
 | .rt d ρ'=>∀v σ' F' H',Rel K F' H' ρ' σ'->jA ρ σ F H ρ' σ' F' H'->gC K md ρ σ H F' H' d v->D.rt v H'
 | .rs c d ρ'=>∀σ' F' H' C da,Rel K F' H' ρ' σ'->jA ρ σ F H ρ' σ' F' H'->ExcD K F' c d C da->Wish X σ' C da H'
structure FS(K:Fg)(md:Md)(X:Cx)(st:Stmt)(m:EO Fl):Prop where
 h:∀ρ fl,m ρ=some fl->PS X st (rdS X K md ρ fl)
structure FSs(K:Fg)(md:Md)(X:Cx)(sts:List Stmt)(m:EO Fl):Prop where
 h:∀ρ fl,m ρ=some fl->PSs X sts (rdS X K md ρ fl)
noncomputable def nxM:EO Fl:=λρ=>some (.nx ρ)
noncomputable def zG(m n:EO Fl):EO Fl:=λρ=>match m ρ with
 |some (.nx ρ1)=>n ρ1
 |r=>r
variable{ρ':En}{σ σ':St}{F' H':Hp}
theorem gC.back{F2 H2:Hp}{d:D}(a:jA ρ σ F H ρ' σ' F' H')(s:zP F H)(h:gC K md ρ' σ' H' F2 H2 d v):gC K md ρ σ H F2 H2 d v:=by
 cases md with
 |fz=>exact h
 |br=>exact h
 |ow=>
  obtain⟨b,e,h1,h2,h3⟩:=h;exact⟨b,e,a.back s h1,h2,h3⟩
theorem rdS.after{fl:Fl}{D:Ends}(s:zP F H)(r:Rel K F' H' ρ' σ')(a:jA ρ σ F H ρ' σ' F' H')(h:match fl with
   | .nx ρ'=>∀σ' F' H',Rel K F' H' ρ' σ'->jA ρ σ F H ρ' σ' F' H'->D.nx σ' H'
   | .bk ρ'=>∀σ' F' H',Rel K F' H' ρ' σ'->jA ρ σ F H ρ' σ' F' H'->D.bk σ' H'
   | .ct ρ'=>∀σ' F' H',Rel K F' H' ρ' σ'->jA ρ σ F H ρ' σ' F' H'->D.ct σ' H'
   | .rt d ρ'=>∀v σ' F' H',Rel K F' H' ρ' σ'->jA ρ σ F H ρ' σ' F' H'->gC K md ρ σ H F' H' d v->D.rt v H'
   | .rs c d ρ'=>∀σ' F' H' C da,Rel K F' H' ρ' σ'->jA ρ σ F H ρ' σ' F' H'->ExcD K F' c d C da->Wish X σ' C da H'):rdS X K md ρ' fl D σ' H':=by
 refine⟨F',r,?_⟩;cases fl with
 |nx ρ2=>exact λσ2 F2 H2 r2 s2=>h σ2 F2 H2 r2 (a.trans s2 s)
 |bk ρ2=>exact λσ2 F2 H2 r2 s2=>h σ2 F2 H2 r2 (a.trans s2 s)
 |ct ρ2=>exact λσ2 F2 H2 r2 s2=>h σ2 F2 H2 r2 (a.trans s2 s)
 |rt d ρ2=>exact λv σ2 F2 H2 r2 s2 q=>h v σ2 F2 H2 r2 (a.trans s2 s) (gC.back a s q)
 |rs c d ρ2=>exact λσ2 F2 H2 C da r2 s2 x=>h σ2 F2 H2 C da r2 (a.trans s2 s) x
variable{g:D->EO En}{p pos':Pos}{x:Str}{c tg:Expr}{es:List Expr}{gs:List D->EO En}
section
variable{K:Fg}{md:Md}{X:Cx}{st:Stmt}{rest:List Stmt}{m n:EO Fl}{e:Expr}{f:EO D}{pos:Pos}
theorem qY:FSs K md X [] nxM:=FSs.mk λρ fl hf=>by
 cases hf
 exact PSs.imp zoI λD σ H ⟨F,r,q⟩=>q σ F H r (zK.refl r.sub).step
theorem zN(h:FS K md X st m):FSs K md X [st] m:=FSs.mk λρ fl hf=>zoH (h.h ρ fl hf)
theorem zI(h1:FS K md X st m)(h2:FSs K md X rest n):FSs K md X (st::rest) (zG m n):=FSs.mk λρ fl hf=>by
 unfold zG at hf;split at hf
 ·rename_i ρ1 e1;refine PSs.imp (ziK (h1.h ρ _ e1) (h2.h ρ1 fl hf)) λD σ H ⟨F,r,q⟩=>⟨F,r,λσ1 F1 H1 r1 s1=>?_⟩
  exact rdS.after r.sub r1 s1 q
 ·rename_i hno;refine PSs.imp (ziK (h1.h ρ fl hf) zdR) λD σ H ⟨F,r,q⟩=>⟨F,r,?_⟩
  cases fl with
  |nx ρ1=>exact absurd hf (hno ρ1)
  |bk ρ1=>exact q
  |ct ρ1=>exact q
  |rt d ρ1=>exact q
  |rs c d ρ1=>exact q
theorem zoC:FS K md X (.Continue pos) (λρ=>some (.ct ρ)):=FS.mk λρ fl hf=>by
 cases hf
 exact PS.imp zhP λD σ H ⟨F,r,q⟩=>q σ F H r (zK.refl r.sub).step
theorem zkr:FS K md X st (λ_=>none):=FS.mk λρ fl hf=>by cases hf
noncomputable def xQ(f:EO D):EO Fl:=λρ=>(f ρ).map λ_=>.nx ρ
theorem zsj(he:FP K .fz X e f)(hs:swapsWith e none pos.line X.env=pure false:=by rfl):FS K md X (.Expr e pos) (xQ f):=FS.mk λρ fl hf=>by
 unfold xQ at hf;cases e1:f ρ with
 |none=>rw[e1]at hf;cases hf
 |some d=>
  rw[e1]at hf;cases hf
  exact PS.imp (zkD (he.h ρ d e1) hs) λD σ H ⟨F,r,q⟩=>⟨F,r,λv F1 H1 g1 _=>q σ F1 H1 (r.grow g1) g1.step⟩
noncomputable def zV(f:EO D):EO Fl:=λρ=>(f ρ).map λd=>.rt d ρ
theorem qN(he:FP K .fz X e f):FS K .fz X (.Return (some e) pos) (zV f):=FS.mk λρ fl hf=>by
 unfold zV at hf;cases e1:f ρ with
 |none=>rw[e1]at hf;cases hf
 |some d=>
  rw[e1]at hf;cases hf
  exact PS.imp (zgS (he.h ρ d e1)) λD σ H ⟨F,r,q⟩=>⟨F,r,λv F1 H1 g1 h=>q v σ F1 H1 (r.grow g1) g1.step h⟩
theorem zms(he:FP K .ow X e f):FS K .ow X (.Return (some e) pos) (zV f):=FS.mk λρ fl hf=>by
 unfold zV at hf;cases e1:f ρ with
 |none=>rw[e1]at hf;cases hf
 |some d=>
  rw[e1]at hf;cases hf
  refine PS.imp (zgS (he.h ρ d e1)) λD σ H ⟨F,r,q⟩=>⟨F,r,λv F1 H1 g1 ⟨a,e,h1,h2,h3⟩=>q v σ F1 H1 (r.grow g1) g1.step ⟨a,e,.inl h1,h2,h3⟩⟩
noncomputable def jR(i:Nat):EO Fl:=λρ=>match ρ[i]? with
 |some (some (.ow _ d))=>some (.rt d (ρ.set i none))
 |_=>none
theorem zhJ(i:Nat)(hN:X.N[i]?=some x:=by rfl)(hv:Vis X.env.scope x:=by first|exact Or.inl rfl|exact Or.inr (Or.inl rfl)|exact Or.inr (Or.inr rfl))(hd:(x==("__debug__":Str))=false:=by decide)(hcd:(x==("__classdict__":Str))=false:=by decide):FS K .ow X (.Return (some (.Name x p)) pos) (jR i):=FS.mk λρ fl hf=>by
 unfold jR at hf;split at hf
 ·rename_i pp d e1;cases hf
  refine PS.imp (zgS (wN hN hv hd hcd)) λD σ H h_=>?_
  obtain⟨F,r,q⟩:=h_;obtain⟨a,e2,h1,h2⟩:=r.own i pp d e1;refine⟨_,e2,q _ σ F H r.drop ?_ ⟨a,rfl,.inr ⟨i,pp,d,e1,e2⟩,h1,h2⟩⟩;exact⟨zP.refl _,λb o e n _=>⟨e,n⟩,λb h=>.inr (zfb h),ziN,r.sub⟩
 ·cases hf
theorem zmt(i:Nat)(hN:X.N[i]?=some x:=by rfl)(hv:Vis X.env.scope x:=by first|exact Or.inl rfl|exact Or.inr (Or.inl rfl)|exact Or.inr (Or.inr rfl))(hd:(x==("__debug__":Str))=false:=by decide)(hcd:(x==("__classdict__":Str))=false:=by decide):FS K .fz X (.Return (some (.Name x p)) pos) (jR i):=FS.mk λρ fl hf=>by
 unfold jR at hf;split at hf
 ·rename_i pp d e1;cases hf
  refine PS.imp (zgS (znU (wN hN hv hd hcd))) λD σ H h_=>?_
  obtain⟨F,r,q⟩:=h_;obtain⟨a,e2,h1,h2⟩:=r.own i pp d e1;have rd:=r.drop (i:=i);have ne:∀b,xC (ρ.set i none) σ b->b≠a:=λb ⟨j,q,x,j1,j2⟩ z=>by
   subst z;rcases zX j1 with⟨rfl,j1'⟩|⟨hne,j1'⟩
   ·cases j1'
   ·exact r.inj j i q x (.ow pp d) b hne j1' j2 e1 rfl e2
  refine⟨_,e2,a,rfl,λH2 fz=>?_⟩;have g:jA ρ σ F H (ρ.set i none) σ (wI F H2 a) H2:=by
   refine⟨zaW h1,λb o e n ho=>?_,λb h=>.inr (zfb h),ziN,zcb (fz.same r.sub h1)⟩;have hb:b≠a:=λz=>ho (by subst z;exact⟨i,pp,d,e1,e2⟩)
   exact⟨by rw[fz.ne hb];exact e,by rw[zbz hb];exact n⟩
  have rf:Rel K (wI F H2 a) H2 (ρ.set i none) σ:=by
   refine⟨zcb (fz.same r.sub h1),λj x e=>?_,λj x e=>?_,λj q x e=>?_,rd.inj,rd.len⟩
   ·obtain⟨v,h3,h4⟩:=rd.dat j x e;exact⟨v,h3,h4.mono (zaW h1)⟩
   ·obtain⟨v,h3,h4⟩:=rd.bor j x e;exact⟨v,h3,zZ.frz h4 (zaW h1) fz λz=>r.inj i j pp d (.bor x) a (λq=>by subst q;rcases zX e with⟨_,e'⟩|⟨hne,_⟩;cases e';exact hne rfl) e1 e2 (by rcases zX e with⟨_,e'⟩|⟨_,e'⟩;cases e';exact e') rfl (by rw[h3,z])⟩
   ·obtain⟨c,h3,h4,h5⟩:=rd.own j q x e;exact⟨c,h3,by rw[zbz (ne c ⟨j,q,x,e,h3⟩)];exact h4,h5.mono (zaW h1) λo e=>by rw[fz.ne (ne c ⟨j,q,x,by assumption,h3⟩)];exact e⟩
  exact q _ σ _ H2 rf g (h2.freeze h1 fz)
 ·cases hf
noncomputable def vM:EO Fl:=λρ=>some (.rt .non ρ)
noncomputable def ifM(t:EO (Bool×En))(m n:EO Fl):EO Fl:=λρ=>(t ρ).bind λp=>if p.1=true then m p.2 else n p.2
theorem sif{a b:List Stmt}{t:EO (Bool×En)}(hc:FT K X c t)(ha:FSs K md X a m)(hb:FSs K md X b n):FS K md X (.If c a b pos) (ifM t m n):=FS.mk λρ fl hf=>by
 unfold ifM at hf;cases e1:t ρ with
 |none=>rw[e1]at hf;cases hf
 |some p=>
  obtain⟨k,ρ1⟩:=p;rw[e1]at hf;cases k with
  |true=>
   refine PS.imp (zqx (hc.h ρ _ _ e1) (ha.h ρ1 fl hf) zdR) λD σ H ⟨F,r,q⟩=>⟨F,r,λF1 H1 r1 s1=>iteT (rdS.after r.sub r1 s1 q)⟩
  |false=>
   refine PS.imp (zqx (hc.h ρ _ _ e1) zdR (hb.h ρ1 fl hf)) λD σ H ⟨F,r,q⟩=>⟨F,r,λF1 H1 r1 s1=>iteF (rdS.after r.sub r1 s1 q)⟩
noncomputable def rdG(K:Fg)(ρ:En)(d:D)(ρ':En):TG:=λv σ H Q=>∃F,Rel K F H ρ σ/\Dat K F d v/\∀σ',Rel K F H ρ' σ'->Kp ρ σ ρ' σ'->Q σ' H
structure FG(K:Fg)(X:Cx)(tg:Expr)(g:D->EO En):Prop where
 h:∀ρ d ρ',g d ρ=some ρ'->PG X tg (rdG K ρ d ρ')
noncomputable def rdGs(K:Fg)(ρ:En)(ds:List D)(ρ':En):TGs:=λvs σ H Q=>∃F,Rel K F H ρ σ/\zF K F ds vs/\∀σ',Rel K F H ρ' σ'->Kp ρ σ ρ' σ'->Q σ' H
structure FGs(K:Fg)(X:Cx)(ts:List Expr)(g:List D->EO En):Prop where
 h:∀ρ ds ρ',g ds ρ=some ρ'->PGs X ts (rdGs K ρ ds ρ')
theorem PG.imp{t t':TG}(h:PG X tg t)(w:∀v σ H Q,t' v σ H Q->t v σ H Q):PG X tg t':=λpins s σ H v u Q I r ht=>h pins s σ H v u Q I r (w v σ H Q ht)
theorem PGs.imp{tg:List Expr}{t t':TGs}(h:PGs X tg t)(w:∀v σ H Q,t' v σ H Q->t v σ H Q):PGs X tg t':=λpins s σ H v u Q I r ht=>h pins s σ H v u Q I r (w v σ H Q ht)
noncomputable def gN(i:Nat):D->EO En:=λd ρ=>some (ρ.set i (some (.dat d)))
theorem qB(i:Nat)(hN:X.N.Nodup)(hi:X.N[i]?=some x:=by rfl)(hx:Loc X.env.scope x:=by first|exact Or.inl rfl|exact Or.inr rfl)(hf:X.fn x=true\/X.env.scope.names.lookup x=some .local:=by first|exact .inl rfl|exact .inr rfl|assumption):FG K X (.Name x pos) (gN i):=FG.mk λρ d ρ' hg=>by
 cases hg
 refine PG.imp (zoP hN hi hx hf) λv σ H Q ⟨F,r,h,q⟩=>q _ (r.setD h) Kp.setD
noncomputable def qC:List D->EO En:=λds ρ=>match ds with
 |[]=>some ρ
 |_=>none
noncomputable def zQ(g:D->EO En)(gs:List D->EO En):List D->EO En:=λds ρ=>match ds with
 |d::l=>(g d ρ).bind (gs l)
 |[]=>none
noncomputable def qO(gs:List D->EO En):D->EO En:=λd ρ=>match d with
 | .tup l=>gs l ρ
 |_=>none
theorem kQ:FGs K X [] qC:=FGs.mk λρ ds ρ' hg=>by
 unfold qC at hg;split at hg
 ·cases hg
  exact PGs.imp zoO λvs σ H Q ⟨F,r,h,q⟩=>⟨h.nil_inv,q σ r Kp.refl⟩
 ·cases hg
theorem qM(h1:FG K X e g)(h2:FGs K X es gs)(hs:(assignEach (e::es) X.env).map (·.2)=assign e X.env::(assignEach es X.env).map (·.2):=by rfl):FGs K X (e::es) (zQ g gs):=FGs.mk λρ ds ρ' hg=>by
 unfold zQ at hg;split at hg
 ·rename_i d l;cases e1:g d ρ with
  |none=>rw[e1]at hg;cases hg
  |some ρ1=>
   rw[e1]at hg;refine PGs.imp (zmJ (h1.h ρ d ρ1 e1) (h2.h ρ1 l ρ' hg) hs) λvs σ H Q h_=>?_
   obtain⟨F,r,h,q⟩:=h_;obtain⟨v,vr,e,d1,d2⟩:=h.cons_inv;exact⟨v,vr,e,F,r,d1,λσ1 r1 o1=>⟨F,r1,d2,λσ2 r2 o2=>q σ2 r2 (o1.trans o2)⟩⟩
 ·cases hg
theorem vH{k:Nat}{n:Nat}(hc:X.calm=true)(h:FGs K X es gs)(hl:∀ds ρ ρ',gs ds ρ=some ρ'->ds.length=n)(hn:(assignEach es X.env).length=n:=by rfl)(hst:(assignEach es X.env).findIdx? (·.1)=none:=by rfl)(hK:X.K=K:=by rfl):FG K X (.Tuple es k pos) (qO gs):=FG.mk λρ d ρ' hg=>by
 subst hK;unfold qO at hg;split at hg
 ·rename_i l;refine PG.imp (zqC hc (h.h ρ l ρ' hg) hn hst) λv σ H Q h_=>?_
  obtain⟨F,r,hd,q⟩:=h_;obtain⟨a,vs,rfl,f,qq⟩:=hd.tup_inv;exact⟨a,vs,rfl,SqT.of (r.sub _ _ f),by rw[qq.length];exact hl l ρ ρ' hg,F,r,qq,q⟩
 ·cases hg
theorem kO:∀ds ρ ρ',qC ds ρ=some ρ'->ds.length=0:=λds ρ ρ' h=>by
 unfold qC at h;split at h
 ·rfl
 ·cases h
theorem qL{n:Nat}(h:∀ds ρ ρ',gs ds ρ=some ρ'->ds.length=n):∀ds ρ ρ',zQ g gs ds ρ=some ρ'->ds.length=n+1:=λds ρ ρ' hg=>by
 unfold zQ at hg;split at hg
 ·rename_i d l;cases e1:g d ρ with
  |none=>rw[e1]at hg;cases hg
  |some ρ1=>rw[e1]at hg;rw[Jl,h l ρ1 ρ' hg]
 ·cases hg
noncomputable def kB(f:EO D)(g:D->EO En):EO Fl:=λρ=>(f ρ).bind λd=>(g d ρ).map Fl.nx
theorem nA(he:FP K .fz X e f)(hg:FG K X tg g)(hs:swapsWithSole [tg] e pos.line X.env=pure false:=by rfl)(hw:swappedStores [tg] e X.env=pure none:=by rfl)(h1:(assignEach [tg] X.env).map (·.2)=[assign tg X.env]:=by rfl):FS K md X (.Assign [tg] e pos) (kB f g):=FS.mk λρ fl hf=>by
 unfold kB at hf;cases e1:f ρ with
 |none=>rw[e1]at hf;cases hf
 |some d=>
  cases e2:g d ρ with
  |none=>rw[e1]at hf;simp[e2]at hf
  |some ρ1=>
   rw[e1]at hf;simp[e2]at hf;cases hf
   refine PS.imp (ziL (he.h ρ d e1) (hg.h ρ d ρ1 e2) hs hw h1) λD σ H ⟨F,r,q⟩=>⟨F,r,λv F1 H1 g1 h=>⟨F1,r.grow g1,h,λσ1 r1 o1=>?_⟩⟩
   have s1:=g1.step (ρ:=ρ) (σ:=σ);exact q σ1 F1 H1 r1 (s1.kp o1)
noncomputable def zY(i:Nat)(f:EO D):EO Fl:=λρ=>(f ρ).map λd=>.nx (ρ.set i (some (.dat d)))
theorem jB(i:Nat)(hN:X.N.Nodup)(he:FP K .fz X e f)(hi:X.N[i]?=some x:=by rfl)(hx:Loc X.env.scope x:=by first|exact Or.inl rfl|exact Or.inr rfl)(hs:swapsWith e (some (.Name x pos')) pos.line X.env=pure false:=by rfl)(hf:X.fn x=true\/X.env.scope.names.lookup x=some .local:=by first|exact .inl rfl|exact .inr rfl|assumption):
  FS K md X (.Assign [.Name x pos'] e pos) (zY i f):=FS.mk λρ fl hm=>by
 unfold zY at hm;cases e1:f ρ with
 |none=>rw[e1]at hm;cases hm
 |some d=>
  rw[e1]at hm;cases hm
  refine PS.imp (znR hN hi hx (he.h ρ d e1) hs hf) λD σ H ⟨F,r,q⟩=>⟨F,r,λv F1 H1 g1 h=>?_⟩
  have s1:=g1.step (ρ:=ρ) (σ:=σ);exact q _ F1 H1 ((r.grow g1).setD h) (s1.kp Kp.setD)
noncomputable def yP(ρ:En):Bool:=ρ.all λs=>match s with
 |some (.bor _)=>false
 |_=>true
theorem zgZ(h:yP ρ=true):∀(j:Nat) s,ρ[j]?=some (some s)->s.isDat=false->∃q x,s=.ow q x:=λj s e hs=>by
 have:=JP.mp h (some s) (List.mem_of_getElem? e);cases s with
 |dat d=>cases hs
 |ow q d=>exact⟨q,d,rfl⟩
 |bor d=>cases this
noncomputable def setO(i:Nat)(f:EO D):EO Fl:=λρ=>if yP ρ=true then(f ρ).map λd=>.nx (ρ.set i (some (.own d)))else none
theorem xG(i:Nat)(hN:X.N.Nodup)(he:FP K .ow X e f)(hi:X.N[i]?=some x:=by rfl)(hx:Loc X.env.scope x:=by first|exact Or.inl rfl|exact Or.inr rfl)(hs:swapsWith e (some (.Name x pos')) pos.line X.env=pure false:=by rfl)(hf:X.fn x=true\/X.env.scope.names.lookup x=some .local:=by first|exact .inl rfl|exact .inr rfl|assumption):
  FS K md X (.Assign [.Name x pos'] e pos) (setO i f):=FS.mk λρ fl hm=>by
 unfold setO at hm;split at hm
 ·rename_i nb;cases e1:f ρ with
  |none=>rw[e1]at hm;cases hm
  |some d=>
   rw[e1]at hm;cases hm
   refine PS.imp (znR hN hi hx (he.h ρ d e1) hs hf) λD σ H ⟨F,r,q⟩=>⟨F,r,λv F1 H1 g1 ⟨a,ev,h1,h2,h3⟩=>?_⟩
   subst ev;have s1:=g1.step (ρ:=ρ) (σ:=σ);refine q _ F1 H1 (r.setO g1 h1 h2 h3 (zgZ nb)) ⟨s1.ff,s1.rest,λb z=>?_,zhR (λd h=>by cases h),s1.fh⟩;rcases zdZ z with⟨_,_,_,z⟩|z
   ·cases z;exact .inl h1
   ·exact .inr z
 ·cases hm
end
variable{o:HO}{pp:Bool}
section
variable{K:Fg}{F H F' H':Hp}{ρ ρ':En}{σ σ':St}{i:Nat}
theorem zZ.upd{d:D}(h:zZ K F H d v)(hv:v≠.ref a):zZ K F (upd H a o) d v:=by
 cases d with
 |lst l=>obtain⟨b,vs,rfl,f,q⟩:=h.lst_inv;exact⟨b,vs,rfl,by rw[zW λz=>hv (by rw[z])];exact f,q⟩
 |dic k l=>obtain⟨b,vs,rfl,f,q⟩:=h.dic_inv;exact⟨b,vs,rfl,f.at (zW λz=>hv (by rw[z])),q⟩
 |_=>exact h
theorem Rel.mut(r:Rel K F H ρ σ){d d':D}{o:HO}(e:ρ[i]?=some (some (.ow pp d)))(hσ:σ[i]?=some (some (.ref a)))(ho:Own K F (upd H a o) d' a):
  Rel K F (upd H a o) (ρ.set i (some (.ow pp d'))) σ/\jA ρ σ F H (ρ.set i (some (.ow pp d'))) σ F (upd H a o):=by
 obtain⟨a',e1,fa,_⟩:=r.own i pp d e;rw[hσ]at e1;cases e1
 have sub:zP F (L2.upd H a o):=λb u h=>by rw[zW (jE h fa)];exact r.sub _ _ h
 have hi:i<ρ.length:=(List.getElem?_eq_some_iff.mp e).1;refine⟨⟨sub,λj x q=>?_,λj x q=>?_,λj qq x q=>?_,λj k qq x s c ne e1 e2 e3 e4=>?_,by simp[r.len]⟩,⟨zP.refl _,λb u h n no=>⟨?_,n⟩,λb h=>.inr ?_,λj x e'=>?_,sub⟩⟩
 ·rcases zX q with⟨rfl,q'⟩|⟨ne,q'⟩
  ·cases q'
  ·exact r.dat j x q'
 ·rcases zX q with⟨rfl,q'⟩|⟨ne,q'⟩
  ·cases q'
  ·obtain⟨v,h1,h2⟩:=r.bor j x q';refine⟨v,h1,h2.upd λz=>?_⟩;subst z;exact r.inj i j pp d _ a (Ne.symm ne) e hσ q' rfl h1
 ·rcases zX q with⟨rfl,q'⟩|⟨ne,q'⟩
  ·cases q'
   exact⟨a,hσ,fa,ho⟩
  ·obtain⟨c,h1,h2,h3⟩:=r.own j qq x q';have hc:c≠a:=λz=>by subst z;exact r.inj i j pp d _ c (Ne.symm ne) e hσ q' rfl h1
   exact⟨c,h1,h2,h3.mono (zP.refl _) λu hu=>by rw[zW hc];exact hu⟩
 ·rcases zX e1 with⟨rfl,e1'⟩|⟨ne1,e1'⟩
  ·rcases zX e3 with⟨rfl,e3'⟩|⟨ne3,e3'⟩
   ·exact absurd rfl ne
   ·exact r.inj j k pp d s c ne e e2 e3' e4
  ·rcases zX e3 with⟨rfl,e3'⟩|⟨ne3,e3'⟩
   ·exact r.inj j k qq x (.ow pp d) c ne e1' e2 e rfl
   ·exact r.inj j k qq x s c ne e1' e2 e3' e4
 ·rw[zW λz=>no (by subst z;exact⟨i,pp,d,e,hσ⟩)];exact h
 ·obtain⟨j,qq,x,j1,j2⟩:=h;rcases zX j1 with⟨rfl,j1'⟩|⟨ne,j1'⟩
  ·exact⟨j,pp,d,e,j2⟩
  ·exact⟨j,qq,x,j1',j2⟩
 ·rcases zX e' with⟨rfl,e''⟩|⟨ne,e''⟩
  ·cases e''
   exact⟨d,e,rfl⟩
  ·exact⟨x,e'',rfl⟩
end
noncomputable def rdX(K:Fg)(ρ:En)(d:D)(ρ':En):TE:=λσ H Q=>∃F,Rel K F H ρ σ/\∀v F' H',Rel K F' H' ρ' σ->jA ρ σ F H ρ' σ F' H'->Dat K F' d v->Q v H'
structure FX(K:Fg)(X:Cx)(e:Expr)(m:EO (D×En)):Prop where
 h:∀ρ d ρ',m ρ=some (d,ρ')->PE X e (rdX K ρ d ρ')
noncomputable def kE(i:Nat)(f:EO D):EO (D×En):=λρ=>match ρ[i]?,f ρ with
 |some (some (.ow pp (.lst l))),some d=>if l.length<lim then some (.non,ρ.set i (some (.ow pp (.lst (l++[d])))))else none
 |_,_=>none
noncomputable def yZ(i:Nat)(f:EO D):EO (D×En):=λρ=>match ρ[i]?,f ρ with
 |some (some (.ow pp (.lst l))),some (.lst m)=>if l.length+m.length<=lim then some (.non,ρ.set i (some (.ow pp (.lst (l++m)))))else none
 |_,_=>none
noncomputable def xK(i:Nat):EO (D×En):=λρ=>match ρ[i]? with
 |some (some (.ow pp (.lst l)))=>(l[l.length - 1]?).map λd=>(d,ρ.set i (some (.ow pp (.lst l.dropLast))))
 |_=>none
noncomputable def yV(i:Nat)(f:EO D):EO (D×En):=λρ=>match ρ[i]?,f ρ with
 |some (some (.ow pp (.lst l))),some (.int k)=>if -(2^63)<=k/\k<2^63 then(seqIndex? k l.length).bind λj=>(l[j]?).map λd=>(d,ρ.set i (some (.ow pp (.lst (l.eraseIdx j)))))else none
 |_,_=>none
noncomputable def clrM(i:Nat):EO (D×En):=λρ=>match ρ[i]? with
 |some (some (.ow pp (.lst l)))=>some (.non,ρ.set i (some (.ow pp (.lst []))))
 |_=>none
section
variable{K:Fg}{md:Md}{X:Cx}{e:Expr}{f:EO D}{pos:Pos}{x:Str}{p apos cpos:Pos}
theorem nU(i:Nat)(he:FP K .fz X e f)(hN:X.N[i]?=some x:=by rfl)(hv:Vis X.env.scope x:=by first|exact Or.inl rfl|exact Or.inr (Or.inl rfl)|exact Or.inr (Or.inr rfl))(hd:(x==("__debug__":Str))=false:=by decide)(hcd:(x==("__classdict__":Str))=false:=by decide)(hbase:attributeBase (.Name x p) "append" X.env (eval (.Name x p) X.env)=eval (.Name x p) X.env:=by rfl)(hfew:((backTo cpos (starEach [e] X.env)).all (λx=>!x.1)&&(backToKw cpos (keywordEach [] X.env)).all (λx=>x.1.isSome)&&decide (([e]:List Expr).length+([]:List Keyword).length+(if([]:List Keyword).isEmpty then 0 else 1)<30))=true:=by rfl)(hline:(apos.endLine==cpos.line)=true:=by rfl)(hs:starEach [e] X.env=(false,eval e X.env)::starEach [] X.env:=by rfl)(hplain:(backTo cpos (starEach [] X.env)).any (·.1)=false:=by rfl)(hK:X.K=K:=by rfl):
  FX K X (.Call (.Attribute (.Name x p) "append" apos) [e] [] cpos) (kE i f):=FX.mk λρ d ρ' hf=>by
 subst hK;unfold kE at hf;split at hf
 ·rename_i pp l dd e1 e2;obtain⟨hz,hf⟩:=kP hf;cases hf
  refine PE.imp (zoT QG PySem.F.slot_list_append PySem.F.type_list_append zeb (wN hN hv hd hcd) (yW (he.h ρ dd e2) wO hs) hbase hfew hline hs hplain) λσ H Q h_=>?_
  obtain⟨F,r,q⟩:=h_;obtain⟨a,h1,h2,vs,h3,h4⟩:=r.own i _ _ e1;refine⟨_,h1,.inl ⟨rfl,vs,SqL.of h3⟩,F,r,λv F1 H1 g1 r1=>?_⟩;have rg:=r.grow g1;obtain⟨a',h1',h2',vs',h3',h4'⟩:=rg.own i _ _ e1;rw[h1]at h1';cases h1'
  have h3'':=g1.hh _ _ h3;rw[h3']at h3'';cases h3''
  refine⟨a,vs,v,rfl,rfl,h3',by rw[h4'.length];exact zdf (Nat.le_of_lt hz),?_⟩;obtain⟨m1,m2⟩:=rg.mut (i:=i) (o:=.lst (vs++[v])) (d':=.lst (l++[dd])) e1 h1 ⟨_,qR,h4'.snoc r1⟩;exact q _ _ _ m1 (g1.step.trans m2 r.sub) (Dat.non (K:=X.K))
 ·cases hf
theorem zkc(i:Nat)(he:FP K .fz X e f)(hN:X.N[i]?=some x:=by rfl)(hv:Vis X.env.scope x:=by first|exact Or.inl rfl|exact Or.inr (Or.inl rfl)|exact Or.inr (Or.inr rfl))(hd:(x==("__debug__":Str))=false:=by decide)(hcd:(x==("__classdict__":Str))=false:=by decide)(hbase:attributeBase (.Name x p) "extend" X.env (eval (.Name x p) X.env)=eval (.Name x p) X.env:=by rfl)(hfew:((backTo cpos (starEach [e] X.env)).all (λx=>!x.1)&&(backToKw cpos (keywordEach [] X.env)).all (λx=>x.1.isSome)&&decide (([e]:List Expr).length+([]:List Keyword).length+(if([]:List Keyword).isEmpty then 0 else 1)<30))=true:=by rfl)(hline:(apos.endLine==cpos.line)=true:=by rfl)(hs:starEach [e] X.env=(false,eval e X.env)::starEach [] X.env:=by rfl)(hplain:(backTo cpos (starEach [] X.env)).any (·.1)=false:=by rfl)(hK:X.K=K:=by rfl):
  FX K X (.Call (.Attribute (.Name x p) "extend" apos) [e] [] cpos) (yZ i f):=FX.mk λρ d ρ' hf=>by
 subst hK;unfold yZ at hf;split at hf
 ·rename_i pp l m e1 e2;obtain⟨hz,hf⟩:=kP hf;cases hf
  refine PE.imp (zoT QG PySem.F.slot_list_extend PySem.F.type_list_extend zkU (wN hN hv hd hcd) (yW (he.h ρ _ e2) wO hs) hbase hfew hline hs hplain) λσ H Q h_=>?_
  obtain⟨F,r,q⟩:=h_;obtain⟨a,h1,h2,vs,h3,h4⟩:=r.own i _ _ e1;refine⟨_,h1,.inl ⟨rfl,vs,SqL.of h3⟩,F,r,λv F1 H1 g1 r1=>?_⟩;have rg:=r.grow g1;obtain⟨a',h1',h2',vs',h3',h4'⟩:=rg.own i _ _ e1;rw[h1]at h1';cases h1'
  have h3'':=g1.hh _ _ h3;rw[h3']at h3'';cases h3''
  obtain⟨b,us,rfl,f1,q1⟩:=Dat.lst_inv (K:=X.K) (F:=F1) r1;refine⟨a,b,vs,us,rfl,rfl,h3',g1.fh _ _ f1,by rw[h4'.length,q1.length];exact gK hz,?_⟩;obtain⟨m1,m2⟩:=rg.mut (i:=i) (o:=.lst (vs++us)) (d':=.lst (l++m)) e1 h1 ⟨_,qR,h4'.append q1⟩;exact q _ _ _ m1 (g1.step.trans m2 r.sub) (Dat.non (K:=X.K))
 ·cases hf
theorem xpop(i:Nat)(hN:X.N[i]?=some x:=by rfl)(hv:Vis X.env.scope x:=by first|exact Or.inl rfl|exact Or.inr (Or.inl rfl)|exact Or.inr (Or.inr rfl))(hd:(x==("__debug__":Str))=false:=by decide)(hcd:(x==("__classdict__":Str))=false:=by decide)(hbase:attributeBase (.Name x p) "pop" X.env (eval (.Name x p) X.env)=eval (.Name x p) X.env:=by rfl)(hline:(apos.endLine==cpos.line)=true:=by rfl)(hK:X.K=K:=by rfl):
  FX K X (.Call (.Attribute (.Name x p) "pop" apos) [] [] cpos) (xK i):=FX.mk λρ d ρ' hf=>by
 subst hK;unfold xK at hf;split at hf
 ·rename_i pp l e1;cases e2:l[l.length - 1]? with
  |none=>rw[e2]at hf;cases hf
  |some dd=>
   rw[e2]at hf;cases hf
   refine PE.imp (znV QG PySem.F.slot_list_pop PySem.F.type_list_pop zrc (wN hN hv hd hcd) hbase hline) λσ H Q h_=>?_
   obtain⟨F,r,q⟩:=h_;obtain⟨a,h1,h2,vs,h3,h4⟩:=r.own i _ _ e1;obtain⟨v,h5,h6⟩:=h4.get e2;refine⟨_,h1,.inl ⟨rfl,vs,SqL.of h3⟩,a,vs,v,rfl,rfl,h3,by rw[h4.length];exact h5,?_⟩;obtain⟨m1,m2⟩:=r.mut (i:=i) (o:=.lst vs.dropLast) (d':=.lst l.dropLast) e1 h1 ⟨_,qR,h4.dropLast⟩;exact q _ _ _ m1 m2 h6
 ·cases hf
theorem znJ(i:Nat)(he:FP K .fz X e f)(hN:X.N[i]?=some x:=by rfl)(hv:Vis X.env.scope x:=by first|exact Or.inl rfl|exact Or.inr (Or.inl rfl)|exact Or.inr (Or.inr rfl))(hd:(x==("__debug__":Str))=false:=by decide)(hcd:(x==("__classdict__":Str))=false:=by decide)(hbase:attributeBase (.Name x p) "pop" X.env (eval (.Name x p) X.env)=eval (.Name x p) X.env:=by rfl)(hfew:((backTo cpos (starEach [e] X.env)).all (λx=>!x.1)&&(backToKw cpos (keywordEach [] X.env)).all (λx=>x.1.isSome)&&decide (([e]:List Expr).length+([]:List Keyword).length+(if([]:List Keyword).isEmpty then 0 else 1)<30))=true:=by rfl)(hline:(apos.endLine==cpos.line)=true:=by rfl)(hs:starEach [e] X.env=(false,eval e X.env)::starEach [] X.env:=by rfl)(hplain:(backTo cpos (starEach [] X.env)).any (·.1)=false:=by rfl)(hK:X.K=K:=by rfl):
  FX K X (.Call (.Attribute (.Name x p) "pop" apos) [e] [] cpos) (yV i f):=FX.mk λρ d ρ' hf=>by
 subst hK;unfold yV at hf;split at hf
 ·rename_i pp l k e1 e2;split at hf
  ·rename_i hk;cases e3:seqIndex? k l.length with
   |none=>rw[e3]at hf;cases hf
   |some j=>
    cases e4:l[j]? with
    |none=>rw[e3]at hf;simp[e4]at hf
    |some dd=>
     rw[e3]at hf;simp[e4]at hf;obtain⟨hf1,hf2⟩:=hf;subst hf1 hf2;refine PE.imp (zoT QG PySem.F.slot_list_pop PySem.F.type_list_pop zmZ (wN hN hv hd hcd) (yW (he.h ρ _ e2) wO hs) hbase hfew hline hs hplain) λσ H Q h_=>?_
     obtain⟨F,r,q⟩:=h_;obtain⟨a,h1,h2,vs,h3,h4⟩:=r.own i _ _ e1;refine⟨_,h1,.inl ⟨rfl,vs,SqL.of h3⟩,F,r,λv F1 H1 g1 r1=>?_⟩;have rg:=r.grow g1;obtain⟨a',h1',h2',vs',h3',h4'⟩:=rg.own i _ _ e1;rw[h1]at h1';cases h1'
     have ev:=Dat.int_inv (K:=X.K) (F:=F1) r1;subst ev;obtain⟨w,h5,h6⟩:=h4'.get e4;refine⟨a,vs',k,j,w,rfl,rfl,h3',hk.1,hk.2,by rw[h4'.length];exact e3,h5,?_⟩;obtain⟨m1,m2⟩:=rg.mut (i:=i) (o:=.lst (vs'.eraseIdx j)) (d':=.lst (l.eraseIdx j)) e1 h1 ⟨_,qR,h4'.eraseIdx j⟩;exact q _ _ _ m1 (g1.step.trans m2 r.sub) h6
  ·cases hf
 ·cases hf
theorem zpR(i:Nat)(hN:X.N[i]?=some x:=by rfl)(hv:Vis X.env.scope x:=by first|exact Or.inl rfl|exact Or.inr (Or.inl rfl)|exact Or.inr (Or.inr rfl))(hd:(x==("__debug__":Str))=false:=by decide)(hcd:(x==("__classdict__":Str))=false:=by decide)(hbase:attributeBase (.Name x p) "clear" X.env (eval (.Name x p) X.env)=eval (.Name x p) X.env:=by rfl)(hline:(apos.endLine==cpos.line)=true:=by rfl)(hK:X.K=K:=by rfl):
  FX K X (.Call (.Attribute (.Name x p) "clear" apos) [] [] cpos) (clrM i):=FX.mk λρ d ρ' hf=>by
 subst hK;unfold clrM at hf;split at hf
 ·rename_i pp l e1;cases hf
  refine PE.imp (znV QG PySem.F.slot_list_clear PySem.F.type_list_clear zna (wN hN hv hd hcd) hbase hline) λσ H Q h_=>?_
  obtain⟨F,r,q⟩:=h_;obtain⟨a,h1,h2,vs,h3,h4⟩:=r.own i _ _ e1;refine⟨_,h1,.inl ⟨rfl,vs,SqL.of h3⟩,a,vs,rfl,rfl,h3,?_⟩;obtain⟨m1,m2⟩:=r.mut (i:=i) (o:=.lst []) (d':=.lst []) e1 h1 ⟨_,qR,zF.nil⟩;exact q _ _ _ m1 m2 (Dat.non (K:=X.K))
 ·cases hf
noncomputable def jT(m:EO (D×En)):EO Fl:=λρ=>(m ρ).map λp=>.nx p.2
theorem wV{m:EO (D×En)}(he:FX K X e m)(hs:swapsWith e none pos.line X.env=pure false:=by rfl):FS K md X (.Expr e pos) (jT m):=FS.mk λρ fl hf=>by
 unfold jT at hf;cases e1:m ρ with
 |none=>rw[e1]at hf;cases hf
 |some q1=>
  obtain⟨d,ρ1⟩:=q1;rw[e1]at hf;cases hf
  exact PS.imp (zkD (he.h ρ d ρ1 e1) hs) λD σ H ⟨F,r,q⟩=>⟨F,r,λv F1 H1 r1 s1 _=>q σ F1 H1 r1 s1⟩
noncomputable def xB(m:EO (D×En))(g:D->EO En):EO Fl:=λρ=>(m ρ).bind λp=>(g p.1 p.2).map Fl.nx
theorem zqn{m:EO (D×En)}(he:FX K X e m)(hg:FG K X tg g)(hs:swapsWithSole [tg] e pos.line X.env=pure false:=by rfl)(hw:swappedStores [tg] e X.env=pure none:=by rfl)(h1:(assignEach [tg] X.env).map (·.2)=[assign tg X.env]:=by rfl):FS K md X (.Assign [tg] e pos) (xB m g):=FS.mk λρ fl hf=>by
 unfold xB at hf;cases e1:m ρ with
 |none=>rw[e1]at hf;cases hf
 |some q1=>
  obtain⟨d,ρ1⟩:=q1;cases e2:g d ρ1 with
  |none=>rw[e1]at hf;simp[e2]at hf
  |some ρ2=>
   rw[e1]at hf;simp[e2]at hf;cases hf
   refine PS.imp (ziL (he.h ρ d ρ1 e1) (hg.h ρ1 d ρ2 e2) hs hw h1) λD σ H ⟨F,r,q⟩=>⟨F,r,λv F1 H1 r1 s1 h=>⟨F1,r1,h,λσ2 r2 o2=>?_⟩⟩
   exact q σ2 F1 H1 r2 (s1.kp o2)
noncomputable def cmpX(pp:D->D->Option D)(m:EO (D×En))(fb:EO D):EO (Bool×En):=λρ=>(m ρ).bind λq=>(fb q.2).bind λy=>match pp q.1 y with
 |some (.bl c)=>some (c,q.2)
 |_=>none
noncomputable def wU(m:EO (D×En)):EO (Bool×En):=λρ=>match m ρ with
 |some (.bl c,ρ1)=>some (c,ρ1)
 |_=>none
theorem zsz{m:EO (D×En)}{b:Expr}{fb:EO D}{pp:D->D->Option D}(o:Op2 K X (compareOp op) .fz pp)(ha:FX K X e m)(hb:FP K .br X b fb)(hm:behindInMarks op b=false):
  FT K X (.Compare e [op] [b] pos) (cmpX pp m fb):=FT.mk λρ c ρ' hf=>by
 unfold cmpX at hf;cases e1:m ρ with
 |none=>rw[e1]at hf;cases hf
 |some q1=>
  obtain⟨x,ρ1⟩:=q1;cases e2:fb ρ1 with
  |none=>rw[e1]at hf;simp[e2]at hf
  |some y=>
   rw[e1]at hf;simp only[Option.bind_some,e2]at hf;split at hf
   ·rename_i c' e3;cases hf
    obtain⟨r,ho,hr⟩:=o;refine PT.imp (zhO ho (ha.h ρ x _ e1) (hb.h _ y e2) hm) λσ H Q h_=>?_
    obtain⟨F,rl,q⟩:=h_;refine⟨F,rl,λv F1 H1 r1 s1 d1=>⟨F1,r1,λu F2 H2 g2 d2=>?_⟩⟩;refine hr x y _ F2 H2 v u _ e3 g2.fh ((d1.mono g2.ff).b g2.fh) d2 λw F3 H3 g3 d3=>⟨c,Dat.bl_inv (K:=K) (F:=F3) d3,?_⟩
    exact q F3 H3 ((r1.grow g2).grow g3) (s1.trans ((g2.trans g3).step) rl.sub)
   ·cases hf
theorem zmY{m:EO (D×En)}(h:FX K X e m)(he:∀whole,isTrue e X.env whole=(do let v ←whole;standAt e.pos;holding [v] (truthy v)):=by intro _;rfl):
  FT K X e (wU m):=FT.mk λρ c ρ' hf=>by
 unfold wU at hf;split at hf
 ·rename_i c' ρ1 e1;cases hf
  exact PT.imp (znP (h.h ρ _ _ e1) he) λσ H Q ⟨F,rl,q⟩=>⟨F,rl,λv F' H' r' s' h=>⟨c,Dat.bl_inv (K:=K) (F:=F') h,q F' H' r' s'⟩⟩
 ·cases hf
end
noncomputable def xD(t:EO (Bool×En))(b:EO Fl):Nat->EO Fl
 |0,_=>none
 |n+1,ρ=>match t ρ with
  |some (true,ρ1)=>match b ρ1 with
   |some (.nx ρ2)=>xD t b n ρ2
   |some (.ct ρ2)=>xD t b n ρ2
   |some (.bk ρ2)=>some (.nx ρ2)
   |some (.rt d ρ2)=>some (.rt d ρ2)
   |some (.rs c d ρ2)=>some (.rs c d ρ2)
   |none=>none
  |some (false,ρ1)=>some (.nx ρ1)
  |none=>none
variable{ι:Type}{body:List Stmt}
section
variable{K:Fg}{md:Md}{X:Cx}{pos:Pos}
theorem PT.any{c:Expr}{t:ι->TT}(h:∀i,PT X c (t i)):PT X c (λσ H Q=>∃i,t i σ H Q):=λpins s σ H Q I ⟨i,hi⟩=>h i pins s σ H Q I hi
theorem PSs.any{c:List Stmt}{t:ι->TS}(h:∀i,PSs X c (t i)):PSs X c (λD σ H=>∃i,t i D σ H):=λpins s σ H D I ⟨i,hi⟩=>h i pins s σ H D I hi
theorem PE.any{c:Expr}{t:ι->TE}(h:∀i,PE X c (t i)):PE X c (λσ H Q=>∃i,t i σ H Q):=λpins s σ H Q I ⟨i,hi⟩=>h i pins s σ H Q I hi
theorem PG.any{c:Expr}{t:ι->TG}(h:∀i,PG X c (t i)):PG X c (λv σ H Q=>∃i,t i v σ H Q):=λpins s σ H v u Q I r ⟨i,hi⟩=>h i pins s σ H v u Q I r hi
theorem PIf.any{c:List Expr}{t:ι->TT}(h:∀i,PIf X c (t i)):PIf X c (λσ H Q=>∃i,t i σ H Q):=λpins s σ H Q I ⟨i,hi⟩=>h i pins s σ H Q I hi
theorem ziF{t:EO (Bool×En)}{b:EO Fl}(n:Nat)(hp:PassesOwn (model X.prog X.w) X.A X.env X.xe)(hc:FT K X c t)(hb:FSs K md X body b):FS K md X (.While c body [] pos) (xD t b n):=FS.mk λρ fl hf=>by
 have hc':=PT.any (X:=X) (c:=c) (t:=λi:{q:En×Bool×En//t q.1=some q.2}=>rdT K i.1.1 i.1.2.1 i.1.2.2) λi=>hc.h _ _ _ i.2
 have hb':=PSs.any (X:=X) (c:=body) (t:=λi:{q:En×Fl//b q.1=some q.2}=>rdS X K md i.1.1 i.1.2) λi=>hb.h _ _ i.2
 refine PS.imp (zmC hp hc' hb') λD σ H h_=>?_
 obtain⟨F,r,q⟩:=h_;refine⟨λk σ1 H1=>∃ρ1 F1,Rel K F1 H1 ρ1 σ1/\jA ρ σ F H ρ1 σ1 F1 H1/\xD t b k ρ1=some fl,⟨n,ρ,F,r,(zK.refl r.sub).step,hf⟩,?_⟩;rintro k σ1 H1 ⟨ρ1,F1,r1,s1,e1⟩;cases k with
 |zero=>simp[xD]at e1
 |succ k=>
  simp only[xD]at e1;cases e2:t ρ1 with
  |none=>rw[e2]at e1;cases e1
  |some p=>
   obtain⟨c1,ρ2⟩:=p;rw[e2]at e1;refine⟨⟨(ρ1,c1,ρ2),e2⟩,F1,r1,λF2 H2 r2 s2=>?_⟩;have s12:=s1.trans s2 r.sub;cases c1 with
   |false=>
    have e1:some (Fl.nx ρ2)=some fl:=e1;cases e1
    exact iteF (q σ1 F2 H2 r2 s12)
   |true=>
    refine iteT ?_;refine⟨λσ' H'=>∃ρ3 F3,Rel K F3 H' ρ3 σ'/\jA ρ σ F H ρ3 σ' F3 H'/\xD t b k ρ3=some fl,λσ' H' z=>⟨k,Nat.lt_succ_self k,z⟩,?_⟩;cases e3:b ρ2 with
    |none=>simp only[e3]at e1;cases e1
    |some fl2=>
     simp only[e3]at e1;refine⟨⟨(ρ2,fl2),e3⟩,F2,r2,?_⟩;cases fl2 with
     |nx ρ3=>exact λσ3 F3 H3 r3 s3=>⟨ρ3,F3,r3,s12.trans s3 r.sub,e1⟩
     |ct ρ3=>exact λσ3 F3 H3 r3 s3=>⟨ρ3,F3,r3,s12.trans s3 r.sub,e1⟩
     |bk ρ3=>cases e1;exact λσ3 F3 H3 r3 s3=>q σ3 F3 H3 r3 (s12.trans s3 r.sub)
     |rt d ρ3=>cases e1;exact λv σ3 F3 H3 r3 s3 h=>q v σ3 F3 H3 r3 (s12.trans s3 r.sub) (gC.back s12 r.sub h)
     |rs c d ρ3=>cases e1;exact λσ3 F3 H3 C da r3 s3 x=>q σ3 F3 H3 C da r3 (s12.trans s3 r.sub) x
end
def zds(K:Fg)(J:It)(F:Hp)(ds:List D):Prop:=∀F2 H2,zP F F2->zP F2 H2->
 (∀i,i<ds.length->J.go i H2)/\(∀i x H3 d,ds[i]?=some d->J.yld i H2 x H3->∃F3,zK F2 H2 F3 H3/\Dat K F3 d x)/\J.stop ds.length H2
noncomputable def rdI(K:Fg)(ρ:En)(ds:List D):TI:=λσ H R=>∃F,Rel K F H ρ σ/\∀J F' H',zK F H F' H'->zds K J F' ds->R J H'
structure FI(K:Fg)(X:Cx)(tg iter:Expr)(f:EO (List D)):Prop where
 h:∀ρ ds,f ρ=some ds->PI X tg iter (rdI K ρ ds)
variable{iter:Expr}
theorem PI.imp{t t':TI}(h:PI X tg iter t)(w:∀σ H R,t' σ H R->t σ H R):PI X tg iter t':=λpins s σ H R I ht=>h pins s σ H R I (w σ H R ht)
noncomputable def itS:D->Option (List D)
 | .lst l=>some l
 | .tup l=>some l
 | .scr l=>some (l.map D.int)
 |_=>none
noncomputable def cI(f:EO D):EO (List D):=λρ=>(f ρ).bind itS
theorem zhe{vs:List V}{ds:List D}(h:∀F2 H2,zP F F2->zP F2 H2->SqL K H2 a vs)(q:zF K F ds vs):zds K (Itl K a) F ds:=λF2 H2 f2 h2=>by
 have hs:=h F2 H2 f2 h2;have hl:=q.length;refine⟨λi hi=>⟨vs,vs[i]'(by omega),hs,by simp⟩,λi x H3 d hd y=>?_,⟨vs,hs,by omega⟩⟩;obtain⟨rfl,y⟩:=y;obtain⟨v,hv,dv⟩:=q.get hd;rw[y vs hs]at hv;cases hv
 exact⟨F2,zK.refl h2,dv.mono f2⟩
theorem znh{vs:List V}{ds:List D}(h:F a=some (.tup vs))(q:zF K F ds vs):zds K (Itt K a) F ds:=λF2 H2 f2 h2=>by
 have hs:SqT K H2 a vs:=SqT.of (h2 _ _ (f2 _ _ h));have hl:=q.length;refine⟨λi hi=>⟨vs,vs[i]'(by omega),hs,by simp⟩,λi x H3 d hd y=>?_,⟨vs,hs,by omega⟩⟩;obtain⟨rfl,y⟩:=y;obtain⟨v,hv,dv⟩:=q.get hd;rw[y vs hs]at hv;cases hv
 exact⟨F2,zK.refl h2,dv.mono f2⟩
variable{n:Nat}{fi:EO (List D)}
section
variable{K:Fg}{md:Md}{X:Cx}{pos:Pos}{tg l:Expr}{f:EO D}
theorem kU(h:FP K .fz X l f)(hK:X.K=K:=by rfl):FI K X tg l (cI f):=FI.mk λρ ds hf=>by
 subst hK;unfold cI at hf;cases e1:f ρ with
 |none=>rw[e1]at hf;cases hf
 |some d=>
  rw[e1]at hf;have hf:itS d=some ds:=hf;cases d<;>simp only[itS]at hf<;>try(cases hf;done)
  ·cases hf
   refine PI.imp (zqB (h.h ρ _ e1)) λσ H R ⟨F,r,q⟩=>⟨F,r,λv F1 H1 g1 r1=>?_⟩
   obtain⟨a,vs,rfl,f1,q1⟩:=Dat.tup_inv (K:=X.K) (F:=F1) r1;exact⟨a,rfl,⟨vs,SqT.of (g1.fh _ _ f1)⟩,q _ F1 H1 g1 (znh f1 q1)⟩
  ·cases hf
   refine PI.imp (zhS (h.h ρ _ e1)) λσ H R ⟨F,r,q⟩=>⟨F,r,λv F1 H1 g1 r1=>?_⟩
   obtain⟨a,vs,rfl,f1,q1⟩:=Dat.lst_inv (K:=X.K) (F:=F1) r1;exact⟨a,rfl,⟨vs,SqL.of (g1.fh _ _ f1)⟩,q _ F1 H1 g1 (zhe (λF2 H2 a b=>SqL.of (b _ _ (a _ _ f1))) q1)⟩
  ·cases hf
   refine PI.imp (zhS (h.h ρ _ e1)) λσ H R ⟨F,r,q⟩=>⟨F,r,λv F1 H1 g1 r1=>?_⟩
   obtain⟨a,rfl,f1⟩:=Dat.scr_inv (K:=X.K) (F:=F1) r1;exact⟨a,rfl,⟨_,zP.seq g1.fh f1⟩,q _ F1 H1 g1 (zhe (λF2 H2 a b=>zP.seq b (zP.seq a f1)) (zF.ofInts _))⟩
def xJ(lo:Int)(n:Nat):List D:=(List.range n).map λ(k:Nat)=>D.int (lo+(k:Int))
theorem zfg{lo:Int}:zds K (Itr lo n) F (xJ lo n):=λF2 H2 f2 h2=>by
 refine⟨λi hi=>(show i<n by simpa[xJ]using hi),λi x H3 d hd y=>?_,by simp[xJ,Itr]⟩;obtain⟨rfl,rfl⟩:=y
 have:d=D.int (lo+(i:Int)):=by
  unfold xJ at hd;rw[List.getElem?_map]at hd;cases e:(List.range n)[i]? with
  |none=>rw[e]at hd;cases hd
  |some k=>
   rw[e]at hd
   have:=(List.getElem?_eq_some_iff.mp e).2;simp at this;subst this;exact(Option.some.inj hd).symm
 subst this;exact⟨F2,zK.refl h2,Dat.int (K:=K) (F:=F2) _⟩
def nF(j:Int):Prop:=-(2^62)<=j/\j<2^62
theorem yB{j:Int}(h1:-4611686018427387904<=j)(h2:j<4611686018427387904):nF j:=⟨h1,h2⟩
open Classical in
noncomputable def xH:D->Option (List D)
 | .int j=>if nF j then some (xJ 0 j.toNat)else none
 |_=>none
open Classical in
noncomputable def xW:D->D->Option (List D)
 | .int i,.int j=>if nF i/\nF j then some (xJ i (j - i).toNat)else none
 |_,_=>none
noncomputable def cR1(f:EO D):EO (List D):=λρ=>(f ρ).bind xH
noncomputable def cR2(f g:EO D):EO (List D):=λρ=>(f ρ).bind λx=>(g ρ).bind λy=>xW x y
theorem zci{a:Expr}(h:FP K .fz X a f)(hg:Gl X "range")(hm:X.mg "range"=none)(hs:starEach [a] X.env=[(false,eval a X.env)]:=by rfl):FI K X tg (.Call (.Name "range" p) [a] [] pos) (cR1 f):=FI.mk λρ ds hf=>by
 unfold cR1 at hf;cases e1:f ρ with
 |none=>rw[e1]at hf;cases hf
 |some d=>
  rw[e1]at hf;have hf:xH d=some ds:=hf;cases d<;>simp only[xH]at hf<;>try(cases hf;done)
  obtain⟨hz,rfl⟩:=kP hf;refine PI.imp (zkH hg hm (yW (h.h ρ _ e1) wO hs) hs) λσ H R ⟨F,r,q⟩=>⟨F,r,λv F1 H1 g1 r1=>?_⟩
  have ev:=Dat.int_inv (K:=K) (F:=F1) r1;subst ev;exact⟨_,rfl,hz.1,hz.2,q _ F1 H1 g1 zfg⟩
theorem zpo{a b:Expr}{g:EO D}(h:FP K .fz X a f)(h':FP K .fz X b g)(hg:Gl X "range")(hm:X.mg "range"=none)(hs:starEach [a,b] X.env=[(false,eval a X.env),(false,eval b X.env)]:=by rfl)(hs2:starEach [b] X.env=[(false,eval b X.env)]:=by rfl):
  FI K X tg (.Call (.Name "range" p) [a,b] [] pos) (cR2 f g):=FI.mk λρ ds hf=>by
 unfold cR2 at hf;cases e1:f ρ with
 |none=>rw[e1]at hf;cases hf
 |some d=>
  cases e2:g ρ with
  |none=>rw[e1]at hf;simp[e2]at hf
  |some d2=>
   rw[e1]at hf;simp only[Option.bind_some,e2]at hf;cases d<;>cases d2<;>simp only[xW]at hf<;>try(cases hf;done)
   obtain⟨hz,rfl⟩:=kP hf;refine PI.imp (zkG hg hm (yW (h.h ρ _ e1) (yW (h'.h ρ _ e2) wO hs2) (by rw[hs,hs2])) hs hs2) λσ H R ⟨F,r,q⟩=>⟨F,r,λv F1 H1 g1 r1=>⟨F1,r.grow g1,λu F2 H2 g2 r2=>?_⟩⟩
   have ev:=Dat.int_inv (K:=K) (F:=F1) r1;have eu:=Dat.int_inv (K:=K) (F:=F2) r2;subst ev eu;exact⟨_,_,rfl,⟨hz.1.1,hz.1.2,hz.2.1,hz.2.2⟩,q _ F2 H2 (g1.trans g2) zfg⟩
def vU:Nat->List D->List D
 |_,[]=>[]
 |k,d::l=>.tup [.int k,d]::vU (k+1) l
theorem zbk:∀(k:Nat) (l:List D) (i:Nat) (d:D),(vU k l)[i]?=some d->∃x,l[i]?=some x/\d=.tup [.int ((k+i:Nat):Int),x]
 |_,[],i,d,h=>by simp[vU]at h
 |k,x::l,0,d,h=>by simp[vU]at h;exact⟨x,rfl,by rw[←h];simp⟩
 |k,x::l,i+1,d,h=>by obtain⟨y,h1,h2⟩:=zbk (k+1) l i d (by simpa[vU]using h);exact⟨y,by simpa using h1,by rw[h2,show k+1+i=k+(i+1) by omega]⟩
theorem nM:∀(k:Nat) (l:List D),(vU k l).length=l.length
 |_,[]=>rfl
 |k,_::l=>by simp[vU,nM (k+1) l]
noncomputable def xT(f:EO D):EO (List D):=λρ=>match f ρ with
 |some (.tup l)=>some (vU 0 l)
 |_=>none
theorem zrt{elts:List Expr}{k:Nat}{tpos:Pos}{a:Expr}(h:FP K .fz X a f)(hg:Gl X "enumerate")(hm:X.mg "enumerate"=none)(hs:starEach [a] X.env=[(false,eval a X.env)]:=by rfl)(hK:X.K=K:=by rfl):
  FI K X (.Tuple elts k tpos) (.Call (.Name "enumerate" p) [a] [] pos) (xT f):=FI.mk λρ ds hf=>by
 subst hK;unfold xT at hf;split at hf
 ·rename_i l e1;cases hf
  refine PI.imp (zmH hg hm (yW (h.h ρ _ e1) wO hs) hs) λσ H R ⟨F,r,q⟩=>⟨F,r,λv F1 H1 g1 r1=>?_⟩
  obtain⟨a,vs,rfl,f1,q1⟩:=Dat.tup_inv (K:=X.K) (F:=F1) r1;refine⟨a,vs,rfl,SqT.of (g1.fh _ _ f1),q _ F1 H1 g1 λF2 H2 a2 b2=>?_⟩;have hs:SqT X.K H2 a vs:=SqT.of (b2 _ _ (a2 _ _ f1));have hl:=q1.length;refine⟨λi hi=>?_,λi x H3 d hd y=>?_,?_⟩
  ·rw[nM]at hi;exact⟨vs,vs[i]'(by omega),hs,by simp⟩
  ·obtain⟨x0,hx0,rfl⟩:=zbk 0 l i d hd;obtain⟨pp,vv,hpp,rfl,rfl,hv⟩:=y;obtain⟨w,hw,dw⟩:=q1.get hx0;rw[hv vs hs]at hw;cases hw
   have g:=zK.frozen (o:=.tup [.int (i:Int),vv]) b2 hpp;refine⟨_,g,Dat.tup (K:=X.K) qR ?_⟩;rw[QC];exact zF.cons (Dat.int (K:=X.K) _) (zF.cons ((dw.mono a2).mono g.ff) zF.nil)
  ·rw[nM];exact⟨vs,hs,by omega⟩
 ·cases hf
noncomputable def vK(g:D->EO En)(b:EO Fl):List D->EO Fl
 |[],ρ=>some (.nx ρ)
 |x::xs,ρ=>match g x ρ with
  |some ρ1=>match b ρ1 with
   |some (.nx ρ2)=>vK g b xs ρ2
   |some (.ct ρ2)=>vK g b xs ρ2
   |some (.bk ρ2)=>some (.nx ρ2)
   |some (.rt d ρ2)=>some (.rt d ρ2)
   |some (.rs c d ρ2)=>some (.rs c d ρ2)
   |none=>none
  |none=>none
noncomputable def jD(fi:EO (List D))(g:D->EO En)(b:EO Fl):EO Fl:=λρ=>(fi ρ).bind λds=>vK g b ds ρ
theorem yI{b:EO Fl}(hp:PassesOwn (model X.prog X.w) X.A X.env X.xe)(hc:X.calm=true)(hi:FI K X tg iter fi)(hg:FG K X tg g)(hb:FSs K md X body b)(hs:∀x,foldedSetIterable iter X.env x=pure x:=by intro _;rfl):FS K md X (.For tg iter body [] pos) (jD fi g b):=FS.mk λρ fl hf=>by
 unfold jD at hf;cases e1:fi ρ with
 |none=>rw[e1]at hf;cases hf
 |some ds=>
  rw[e1]at hf;have hf:vK g b ds ρ=some fl:=hf;have hg':=PG.any (X:=X) (c:=tg) (t:=λi:{q:En×D×En//g q.2.1 q.1=some q.2.2}=>rdG K i.1.1 i.1.2.1 i.1.2.2) λi=>hg.h _ _ _ i.2
  have hb':=PSs.any (X:=X) (c:=body) (t:=λi:{q:En×Fl//b q.1=some q.2}=>rdS X K md i.1.1 i.1.2) λi=>hb.h _ _ i.2
  refine PS.imp (znS hp hc (hi.h ρ ds e1) hg' hb' hs) λD σ H ⟨F,r,q⟩=>⟨F,r,λJ F0 H0 g0 ok=>?_⟩
  refine⟨λi k σ1 H1=>i<=ds.length/\k=ds.length - i/\∃ρ1 F1,Rel K F1 H1 ρ1 σ1/\jA ρ σ F H ρ1 σ1 F1 H1/\zP F0 F1/\vK g b (ds.drop i) ρ1=some fl,
   ⟨ds.length,JD _,rfl,ρ,F0,r.grow g0,g0.step,zP.refl _,hf⟩,?_⟩
  rintro i k σ1 H1 ⟨hi,rfl,ρ1,F1,r1,s1,ff1,e2⟩;obtain⟨o1,o2,o3⟩:=ok F1 H1 ff1 r1.sub;by_cases hlt:i<ds.length
  ·rw[Jx hlt]at e2;simp only[vK]at e2;refine .inr ⟨o1 i hlt,λσ' H'=>i+1<=ds.length/\∃ρ3 F3,Rel K F3 H' ρ3 σ'/\jA ρ σ F H ρ3 σ' F3 H'/\zP F0 F3/\vK g b (ds.drop (i+1)) ρ3=some fl,λσ' H' ⟨z1,z2⟩=>⟨ds.length - (i+1),by omega,z1,rfl,z2⟩,λx H2 y=>?_⟩;obtain⟨F2,g2,d2⟩:=o2 i x H2 _ (List.getElem?_eq_getElem hlt) y;have r2:=r1.grow g2;have s2:=s1.trans (g2.step (ρ:=ρ1) (σ:=σ1)) r.sub;cases e3:g ds[i] ρ1 with
   |none=>rw[e3]at e2;cases e2
   |some ρ2=>
    rw[e3]at e2;refine⟨⟨(ρ1,ds[i],ρ2),e3⟩,F2,r2,d2,λσ2 r2' ow=>?_⟩;have s2':jA ρ σ F H ρ2 σ2 F2 H2:=s2.kp ow;cases e4:b ρ2 with
    |none=>simp only[e4]at e2;cases e2
    |some fl2=>
     simp only[e4]at e2;refine⟨⟨(ρ2,fl2),e4⟩,F2,r2',?_⟩;cases fl2 with
     |nx ρ3=>exact λσ3 F3 H3 r3 s3=>⟨hlt,ρ3,F3,r3,s2'.trans s3 r.sub,ff1.trans (g2.ff.trans s3.ff),e2⟩
     |ct ρ3=>exact λσ3 F3 H3 r3 s3=>⟨hlt,ρ3,F3,r3,s2'.trans s3 r.sub,ff1.trans (g2.ff.trans s3.ff),e2⟩
     |bk ρ3=>cases e2;exact λσ3 F3 H3 r3 s3=>q σ3 F3 H3 r3 (s2'.trans s3 r.sub)
     |rt d ρ3=>cases e2;exact λv σ3 F3 H3 r3 s3 h=>q v σ3 F3 H3 r3 (s2'.trans s3 r.sub) (gC.back s2' r.sub h)
     |rs c d ρ3=>cases e2;exact λσ3 F3 H3 C da r3 s3 x=>q σ3 F3 H3 C da r3 (s2'.trans s3 r.sub) x
  ·have e:i=ds.length:=by omega
   subst e;rw[QI]at e2;have e2:some (Fl.nx ρ1)=some fl:=e2;cases e2
   exact .inl ⟨o3,q σ1 F1 H1 r1 s1⟩
end
noncomputable def kL:Option Sl->Option Sl
 |some (.ow _ d)=>some (.bor d)
 |s=>s
noncomputable def qH(cap:ON)(ρ:En):En:=cap.map λo=>match o with
 |some j=>kL ((ρ[j]?).getD none)
 |none=>none
variable{i:Nat}{cap:ON}
theorem zbo{s:Sl}(h:(qH cap ρ)[i]?=some (some s)):∃j s0,cap[i]?=some (some j)/\ρ[j]?=some (some s0)/\kL (some s0)=some s:=by
 unfold qH at h;rw[List.getElem?_map]at h;cases e:cap[i]? with
 |none=>rw[e]at h;cases h
 |some o=>
  rw[e]at h;cases o with
  |none=>cases h
  |some j=>
   have h:kL ((ρ[j]?).getD none)=some s:=Option.some.inj h;cases e2:ρ[j]? with
   |none=>rw[e2]at h;cases h
   |some o2=>
    rw[e2]at h;cases o2 with
    |none=>cases h
    |some s0=>exact⟨j,s0,rfl,e2,h⟩
theorem zdI{σ:St}(h:cap[i]?=some (some j))(e:σ[j]?=some (some v)):(st0 cap σ)[i]?=some (some v):=by unfold st0;rw[List.getElem?_map,h];simp[e]
theorem Rel.inner{cap:ON}(r:Rel K F H ρ σ):Rel K F H (qH cap ρ) (st0 cap σ):=by
 refine⟨r.sub,λi d h=>?_,λi d h=>?_,λi q d h=>?_,λi j q d s a ne h1=>?_,by simp[qH,st0]⟩
 ·obtain⟨j,s0,e1,e2,e3⟩:=zbo h;cases s0<;>simp[kL]at e3
  subst e3;obtain⟨v,h1,h2⟩:=r.dat j _ e2;exact⟨v,zdI e1 h1,h2⟩
 ·obtain⟨j,s0,e1,e2,e3⟩:=zbo h;cases s0<;>simp[kL]at e3<;>subst e3
  ·obtain⟨a,h1,_,h2⟩:=r.own j _ _ e2;exact⟨_,zdI e1 h1,h2.b⟩
  ·obtain⟨v,h1,h2⟩:=r.bor j _ e2;exact⟨v,zdI e1 h1,h2⟩
 ·obtain⟨j,s0,e1,e2,e3⟩:=zbo h;cases s0<;>simp[kL]at e3
 ·obtain⟨j,s0,e1,e2,e3⟩:=zbo h1;cases s0<;>simp[kL]at e3
noncomputable def yG(g:D->EO En)(t:EO Bool)(f:EO D)(ρi:En):List D->Option (List D)
 |[]=>some []
 |x::xs=>(g x ρi).bind λρ1=>(t ρ1).bind λb=>if b=true then(f ρ1).bind λd=>(yG g t f ρi xs).map λl=>d::l else yG g t f ρi xs
noncomputable def jQ(cap:ON)(fi:EO (List D))(g:D->EO En)(t:EO Bool)(f:EO D):EO D:=λρ=>(fi ρ).bind λds=>if ds.length<=lim then(yG g t f (qH cap ρ) ds).map D.lst else none
structure rdIf(K:Fg)(X:Cx)(ifs:List Expr)(t:EO Bool):Prop where
 h:∀ρ b,t ρ=some b->PIf X ifs (rdTp K ρ b)
noncomputable def qQ:EO Bool:=λ_=>some true
theorem wH{K:Fg}:rdIf K X [] qQ:=rdIf.mk λρ b h=>by
 cases h
 intro pins s σ H Q I ⟨F,r,q⟩;exact zoN pins s σ H Q I (q F H (zK.refl r.sub))
variable{t:EO Bool}
section
variable{K:Fg}{md:Md}{X:Cx}{pos:Pos}{tg iter elt:Expr}{ifs:List Expr}{scope:Scope}
theorem zlR{ds rs:List D}{Q:VK}(hm:yG g t f (qH cap ρ) ds=some rs)(hn:ds.length<=lim)(r:Rel K F H ρ σ)(q:∀v F' H',zK F H F' H'->Res K .ow H F' H' (.lst rs) v->Q v H'){J:It}{F1 H1:Hp}(g1:zK F H F1 H1)(ok:zds K J F1 ds):
  zpU K J (λv σ H Q=>∃i:{q:En×D×En//g q.2.1 q.1=some q.2.2},rdG K i.1.1 i.1.2.1 i.1.2.2 v σ H Q) (λσ H Q=>∃i:{q:En×Bool//t q.1=some q.2},rdTp K i.1.1 i.1.2 σ H Q) (λσ H Q=>∃i:{q:En×D//f q.1=some q.2},rdE K .fz i.1.1 i.1.2 σ H Q) cap σ H1 Q:=by
 intro a ha;refine⟨λi m H2=>∃acc,i<=ds.length/\m=ds.length - i/\∃F2 done left,zK F H F2 H2/\zP F1 F2/\(∀b o,H1 b=some o->H2 b=some o)/\F2 a=none/\H2 a=some (.lst acc)/\zF K F2 done acc/\acc.length<=i/\yG g t f (qH cap ρ) (ds.drop i)=some left/\rs=done++left,
  ⟨ds.length,[],JD _,rfl,F1,[],rs,⟨g1.ff,g1.hh.trans (wW ha _),g1.fh.trans (wW ha _),g1.nw⟩,zP.refl _,λb o e=>wW ha _ _ _ e,g1.fh.free ha,qR,zF.nil,JD _,hm,rfl⟩,?_⟩
 rintro i m H2 ⟨acc,hi,rfl,F2,done,left,g2,ff,hh,fa,hd,da,al,e1,e2⟩;obtain⟨o1,o2,o3⟩:=ok F2 H2 ff g2.fh;by_cases hlt:i<ds.length
 ·refine .inr ⟨o1 i hlt,λx H3 y=>?_⟩;obtain⟨F3,g3,d3⟩:=o2 i x H3 _ (List.getElem?_eq_getElem hlt) y;rw[Jx hlt]at e1;simp only[yG]at e1;have g23:=g2.trans g3;have hd3:=g3.hh _ _ hd;have fa3:=g3.nw a _ hd fa;cases e3:g ds[i] (qH cap ρ)with
  |none=>rw[e3]at e1;cases e1
  |some ρ1=>
   simp only[e3,Option.bind_some]at e1;refine⟨⟨(qH cap ρ,ds[i],ρ1),e3⟩,F3,(r.grow g23).inner,d3,λσ2 r2 _=>?_⟩;cases e4:t ρ1 with
   |none=>rw[e4]at e1;cases e1
   |some b=>
    simp only[e4,Option.bind_some]at e1;refine⟨⟨(ρ1,b),e4⟩,F3,r2,λF4 H4 g4=>?_⟩;have g24:=g23.trans g4;have hd4:=g4.hh _ _ hd3;have fa4:=g4.nw a _ hd3 fa3;have ff4:zP F1 F4:=ff.trans (g3.ff.trans g4.ff);have hh4:∀c o,H1 c=some o->H4 c=some o:=λc o e=>g4.hh _ _ (g3.hh _ _ (hh c o e))
    cases b with
    |false=>
     rw[if_neg JR]at e1;exact iteF ⟨ds.length - (i+1),by omega,acc,hlt,rfl,F4,done,left,g24,ff4,hh4,fa4,hd4,da.mono (g3.ff.trans g4.ff),by omega,e1,e2⟩
    |true=>
     rw[if_pos rfl]at e1;refine iteT ?_;cases e5:f ρ1 with
     |none=>rw[e5]at e1;cases e1
     |some d=>
      simp only[e5,Option.bind_some]at e1;cases e6:yG g t f (qH cap ρ) (ds.drop (i+1))with
      |none=>rw[e6]at e1;cases e1
      |some l=>
       rw[e6]at e1;cases e1
       refine⟨⟨(ρ1,d),e5⟩,F4,r2.grow g4,λv F5 H5 g5 d5=>?_⟩;have g25:=g24.trans g5;have hd5:=g5.hh _ _ hd4;have fa5:=g5.nw a _ hd4 fa4;have haH:H a=none:=g1.hh.free ha;refine⟨acc,hd5,zdf (by omega),ds.length - (i+1),by omega,_,hlt,rfl,F5,done++[d],l,?_,ff4.trans g5.ff,λc o e=>?_,fa5,qR,?_,by rw[Jm,Qa];omega,e6,by rw[e2];simp⟩
       ·refine⟨g25.ff,λc o e=>?_,λc o e=>?_,g25.nw⟩
        ·rw[zW (jE e haH)];exact g25.hh _ _ e
        ·rw[zW (jE e fa5)];exact g25.fh _ _ e
       ·rw[zW (jE e ha)];exact g5.hh _ _ (hh4 c o e)
       ·exact(da.mono (g3.ff.trans (g4.ff.trans g5.ff))).snoc d5
 ·have e:i=ds.length:=by omega
  subst e;rw[QI]at e1;have e1:some []=some left:=e1;cases e1
  rw[JB]at e2;subst e2;exact .inl ⟨o3,q _ F2 H2 g2 ⟨a,rfl,g1.hh.free ha,fa,acc,hd,da⟩⟩
theorem zfr{d:D}(h:jQ cap fi g t f ρ=some d):∃ds rs,fi ρ=some ds/\ds.length<=lim/\yG g t f (qH cap ρ) ds=some rs/\d=.lst rs:=by
 unfold jQ at h;cases e1:fi ρ with
 |none=>rw[e1]at h;cases h
 |some ds=>
  rw[e1]at h;simp only[Option.bind_some]at h;split at h
  ·rename_i hz;cases e2:yG g t f (qH cap ρ) ds with
   |none=>rw[e2]at h;cases h
   |some rs=>rw[e2]at h;cases h;exact⟨ds,rs,rfl,hz,e2,rfl⟩
  ·cases h
theorem zfZ(N:List Str)(cap:ON)(cp:Cap X scope N cap)(hc:X.calm=true)(hi:FI K X tg iter fi)(hg:∀C s0 H0 fp,FG K (jC X N scope (qK X.env scope.names []) C s0 H0 fp) tg g)(ht:∀C s0 H0 fp,rdIf K (jC X N scope (qK X.env scope.names []) C s0 H0 fp) ifs t)(he:∀C s0 H0 fp,FP K .fz (jC X N scope (qK X.env scope.names []) C s0 H0 fp) elt f)(S:yH X scope:=by exact yH.mk')(hs:∀x,foldedSetIterable iter X.env x=pure x:=by intro _;rfl)(hK:X.K=K:=by rfl):
  FP K .ow X (.ListComp elt [⟨tg,iter,ifs,0⟩] scope pos) (jQ cap fi g t f):=FP.mk λρ d hf=>by
 subst hK;obtain⟨ds,rs,e1,hz,e2,rfl⟩:=zfr hf;refine PE.imp (zkJ N cap cp hc (hi.h ρ ds e1) (λC s0 H0 fp=>PG.any λi:{q:En×D×En//g q.2.1 q.1=some q.2.2}=>(hg C s0 H0 fp).h _ _ _ i.2) (λC s0 H0 fp=>PIf.any λi:{q:En×Bool//t q.1=some q.2}=>(ht C s0 H0 fp).h _ _ i.2)
  (λC s0 H0 fp=>PE.any λi:{q:En×D//f q.1=some q.2}=>(he C s0 H0 fp).h _ _ i.2) S hs) λσ H Q ⟨F,r,q⟩=>?_
 exact⟨F,r,λJ F1 H1 g1 ok=>zlR e2 hz r q g1 ok⟩
theorem zqh(k:Nat){py spos:Pos}(N:List Str)(cap:ON)(cp:Cap X scope N cap)(hc:X.calm=true)(hN:X.N.Nodup)(hi:FI K X tg iter fi)(hg:∀C s0 H0 fp,FG K (jC X N scope (qK X.env scope.names []) C s0 H0 fp) tg g)(ht:∀C s0 H0 fp,rdIf K (jC X N scope (qK X.env scope.names []) C s0 H0 fp) ifs t)(he:∀C s0 H0 fp,FP K .fz (jC X N scope (qK X.env scope.names []) C s0 H0 fp) elt f)(hk:X.N[k]?=some y:=by rfl)(hy:Loc X.env.scope y:=by first|exact Or.inl rfl|exact Or.inr rfl)(S:yH X scope:=by exact yH.mk')(hs:∀x,foldedSetIterable iter X.env x=pure x:=by intro _;rfl)(hsw:swapsWith (.ListComp elt [⟨tg,iter,ifs,0⟩] scope pos) (some (.Name y py)) spos.line X.env=pure true:=by rfl)(hf:X.fn y=true\/X.env.scope.names.lookup y=some .local:=by first|exact .inl rfl|exact .inr rfl|assumption)(hK:X.K=K:=by rfl):
  FS K md X (.Assign [.Name y py] (.ListComp elt [⟨tg,iter,ifs,0⟩] scope pos) spos) (zY k (jQ cap fi g t f)):=FS.mk λρ fl hm=>by
 subst hK;unfold zY at hm;cases e0:jQ cap fi g t f ρ with
 |none=>rw[e0]at hm;cases hm
 |some d=>
  rw[e0]at hm;cases hm
  obtain⟨ds,rs,e1,hz,e2,rfl⟩:=zfr e0;refine PS.imp (zjy N cap cp hc hN hk hy (hi.h ρ ds e1) (λC s0 H0 fp=>PG.any λi:{q:En×D×En//g q.2.1 q.1=some q.2.2}=>(hg C s0 H0 fp).h _ _ _ i.2) (λC s0 H0 fp=>PIf.any λi:{q:En×Bool//t q.1=some q.2}=>(ht C s0 H0 fp).h _ _ i.2)
   (λC s0 H0 fp=>PE.any λi:{q:En×D//f q.1=some q.2}=>(he C s0 H0 fp).h _ _ i.2) S hs hsw hf) λD σ H ⟨F,r,q⟩=>?_
  refine⟨F,r,λJ F1 H1 g1 ok=>zlR e2 hz r (λv F2 H2 g2 h=>?_) g1 ok⟩;obtain⟨a0,ea,z1,z2,z3⟩:=h;obtain⟨F3,g3,h3⟩:=Res.fz_of_ow g2 ⟨a0,ea,z1,z2,z3⟩ ea z3.fl;have s3:=g3.step (ρ:=ρ) (σ:=σ);exact q _ F3 H2 ((r.grow g3).setD h3) (s3.kp Kp.setD)
end
noncomputable def SpD(K:Fg)(md:Md)(m:LO):Sp:=λvs H Q _=>∃F ds d,zP F H/\zF K F ds vs/\m ds=some d/\∀v F' H',zK F H F' H'->Res K md H F' H' d v->Q v H'
variable{qual:Str}{N:List Str}{mb:Nat->EO Fl}
section
variable{P:Program}{w:World}{K:Fg}{mg:SV}{base:Heap}{md:Md}{X:Cx}{k:Nat}{f:Addr}{fd:FuncData}{ps:List Str}{m:LO}{x:Str}{e:Expr}{es:List Expr}{fs:EO (List D)}{p pos:Pos}
theorem zsK(F:xU X.prog X.w X.K X.mg X.base CX0 k f fd ps (SpD K md m))(hr:jI k X.A)(hg:Gl X x)(hm:X.mg x=some (.ref f))(hk:PySem.W.keepIn X.K (.ref f)=true)(hb:gW X.K fd ps [])(ha:FPs K true X (e::es) fs)(H1:∀{t:TA},PA X (e::es) t->PE X (.Call (.Name x p) (e::es) [] pos) (zmp (SpD K md m) [] E0 t):=by exact λha=>zhU ‹_› ‹_› ‹_› ‹_› ‹_› ‹_› .nil zoV ha):
  FP K md X (.Call (.Name x p) (e::es) [] pos) (cL m fs):=FP.mk λρ d hf=>by
 obtain⟨l,e1,e2⟩:=zeG hf;refine PE.imp (H1 (ha.h ρ l e1)) λσ H Q ⟨F,r,q⟩=>⟨F,r,λvs F1 H1 g1 r1=>?_⟩
 refine⟨F1,l,d,g1.fh,by rw[JB];exact r1,e2,λv F2 H2 g2 h2=>q v F2 H2 (g1.trans g2) ?_⟩;cases md with
 |fz=>exact h2
 |br=>exact h2
 |ow=>
  obtain⟨a,e,h3,h4,h5⟩:=h2;exact⟨a,e,g1.hh.free h3,h4,h5⟩
noncomputable def jG(n:Nat)(ds:List D):En:=ds.map (λd=>some (.dat d))++List.replicate (n - ds.length) none
theorem Rel.start{N:List Str}{ds:List D}{vs:List V}(s:zP F H)(q:zF K F ds vs):Rel K F H (jG N.length ds) (L2.start N vs):=by
 have hl:=q.length;have key:∀(i:Nat) s,(jG N.length ds)[i]?=some (some s)->∃d,s=.dat d/\ds[i]?=some d:=λi s h=>by
  unfold jG at h;by_cases hi:i<ds.length
  ·rw[List.getElem?_append_left (by simpa using hi),List.getElem?_map,List.getElem?_eq_getElem hi]at h;cases h
   exact⟨_,rfl,List.getElem?_eq_getElem hi⟩
  ·rw[List.getElem?_append_right (by simpa using hi)]at h;rw[List.getElem?_replicate]at h;split at h<;>cases h
 refine⟨s,λi d h=>?_,λi d h=>?_,λi q d h=>?_,λi j q d s a ne h1=>?_,?_⟩
 ·obtain⟨d',e,hd⟩:=key i _ h;cases e
  obtain⟨v,hv,dv⟩:=q.get hd;refine⟨v,?_,dv⟩;unfold L2.start;have hi:i<vs.length:=(List.getElem?_eq_some_iff.mp hv).1;rw[List.getElem?_append_left (by simpa using hi),List.getElem?_map,hv];rfl
 ·obtain⟨d',e,_⟩:=key i _ h;cases e
 ·obtain⟨d',e,_⟩:=key i _ h;cases e
 ·obtain⟨d',e,_⟩:=key i _ h1;cases e
 ·unfold jG L2.start;simp[hl]
theorem zbn{ds:List D}{σ:St}{b:Addr}(h:xC (jG n ds) σ b):False:=by
 obtain⟨i,q,d,h,_⟩:=h;unfold jG at h;by_cases hi:i<ds.length
 ·rw[List.getElem?_append_left (by simpa using hi),List.getElem?_map,List.getElem?_eq_getElem hi]at h;cases h
 ·rw[List.getElem?_append_right (by simpa using hi)]at h;rw[List.getElem?_replicate]at h;split at h<;>cases h
theorem jA.grow{ds:List D}(a:jA (jG n ds) σ F H ρ' σ' F' H')(s:zP F H):zK F H F' H':=by
 refine⟨a.ff,λb o e=>?_,a.fh,λb o e n=>(a.rest b o e n zbn).2⟩;cases q:F b with
 |some u=>
  have:=s _ _ q;rw[e]at this;cases this
  exact a.fh _ _ (a.ff _ _ q)
 |none=>exact(a.rest b o e q zbn).1
theorem zrA{st:Stmt}(Fn:Fun K x qual st f fd)(S:zbb N ps (kR st))(hb:∀(n:Nat) (cdv:Value) (A:Around) (outer:List Env) (s:Shared) (H:Hp) (E:XK),jI k (A.deeper (envOfC qual (kR st) s.heap.objs.size f cdv))->FSs K md (gS CX0 P w K mg base N qual (kR st) f cdv A outer s H E).nox (nN st) (mb n))(hm:∀ds d,m ds=some d->ds.length=ps.length/\∃n,(∃ρ',mb n (jG N.length ds)=some (.rt d ρ'))\/(d=.non/\md=.fz/\∃ρ',mb n (jG N.length ds)=some (.nx ρ'))):xU P w K mg base CX0 (k+1) f fd ps (SpD K md m):=by
 refine Fn.ok S (λvs H Q E h=>?_) (λcdv A outer s H vs Q E hr h=>?_)
 ·obtain⟨F,ds,d,_,q,e,_⟩:=h;rw[q.length];exact(hm ds d e).1
 obtain⟨F,ds,d,sub,qd,e,k⟩:=h;obtain⟨_,n,h⟩:=hm ds d e;rcases h with⟨ρ',h⟩|⟨rfl,rfl,ρ',h⟩
 ·refine⟨_,(hb n cdv A outer s H E hr).h _ _ h,F,Rel.start sub qd,λv σ' F' H' r' s' res=>?_⟩;refine k v F' H' (s'.grow sub) ?_;cases md with
  |fz=>exact res
  |br=>exact res.elim
  |ow=>
   obtain⟨a,ea,h1,h2,h3⟩:=res;refine⟨a,ea,?_,h2,h3⟩;rcases h1 with h1|h1
   ·exact h1
   ·exact(zbn h1).elim
 ·refine⟨_,(hb n cdv A outer s H E hr).h _ _ h,F,Rel.start sub qd,λσ' F' H' r' s'=>?_⟩;exact k _ F' H' (s'.grow sub) (Dat.non (K:=K) (F:=F'))
end
variable{A:Around}
theorem wG{k:Nat}(hr:jI k A):A.units+100<cLine:=by have:=hr.un;omega
theorem u101{k:Nat}(hr:jI k A):A.units+101<cLine:=by have:=hr.un;omega
structure Glb(mg:SV):Prop where
 isi:mg "isinstance"=none
 str:mg "str"=none
 tuple:mg "tuple"=none
 list:mg "list"=none
 int:mg "int"=none
 bool:mg "bool"=none
 dict:mg "dict"=none
 len:mg "len"=none
 range:mg "range"=none
 enum:mg "enumerate"=none
 sum:mg "sum"=none
 max:mg "max"=none
 min:mg "min"=none
 abs:mg "abs"=none
 zip:mg "zip"=none
 reversed:mg "reversed"=none
 sorted:mg "sorted"=none
 set:mg "set"=none
 any:mg "any"=none
 all:mg "all"=none
structure Fk(P:Program)(w:World)(K:Fg)(mg:SV)(base:Heap)(x:Str)(ps:List Str)(md:Md)(k:Nat)(m:LO):Prop where
 ex:∃f fd,xU P w K mg base CX0 k f fd ps (SpD K md m)/\gW K fd ps []/\PySem.W.keepIn K (.ref f)=true/\mg x=some (.ref f)
section
variable{P:Program}{w:World}{K:Fg}{mg:SV}{base:Heap}{md:Md}{X:Cx}{k j:Nat}{ps:List Str}{m m':LO}{x:Str}{e:Expr}{es:List Expr}{fs:EO (List D)}{p pos:Pos}
theorem fk(G:Fk X.prog X.w X.K X.mg X.base x ps md k m)(hr:jI j X.A)(ha:FPs K true X (e::es) fs)(hle:k<=j:=by first|decide|omega)(hg:Gl X x:=by rfl)(hK:X.K=K:=by rfl)(H1:∀{f:Addr}{fd:FuncData} {t:TA},xU X.prog X.w X.K X.mg X.base CX0 k f fd ps (SpD K md m)->jI k X.A->Gl X x->X.mg x=some (.ref f)->PySem.W.keepIn X.K (.ref f)=true->gW X.K fd ps []->PA X (e::es) t->PE X (.Call (.Name x p) (e::es) [] pos) (zmp (SpD K md m) [] E0 t):=by exact λF hr hg hm hk hb ha=>zhU F hr hg hm hk hb .nil zoV ha):
  FP K md X (.Call (.Name x p) (e::es) [] pos) (cL m fs):=by
 subst hK;obtain⟨f,fd,F,hb,hk,hm⟩:=G.ex;exact zsK F (hr.mono hle) hg hm hk hb ha λha=>H1 F (hr.mono hle) hg hm hk hb ha
theorem Fk.mono(G:Fk P w K mg base x ps md k m)(h:k<=j):Fk P w K mg base x ps md j m:=by obtain⟨f,fd,F,r⟩:=G.ex;exact⟨f,fd,F.mono h,r⟩
theorem Fk.never{f:Addr}{fd:FuncData}(h:gW K fd ps []/\PySem.W.keepIn K (.ref f)=true/\mg x=some (.ref f))(hm:∀ds,m ds=none):Fk P w K mg base x ps md 0 m:=by
 refine⟨f,fd,⟨λvs H Q E h=>?_,λA outer s H args us vs Q E _ _ _ _ h=>?_⟩,h⟩
 ·obtain⟨F,ds,d,_,_,e,_⟩:=h;rw[hm]at e;cases e
 ·obtain⟨F,ds,d,_,_,e,_⟩:=h;rw[hm]at e;cases e
end
def zO:Nat:=1000000000
noncomputable def qG(mb:EO Fl)(np nn:Nat)(ds:List D):Option D:=if ds.length=np then(match mb (jG nn ds)with
 |some (.rt d _)=>some d
 |_=>none)else none
noncomputable def runN(mb:EO Fl)(np nn:Nat)(ds:List D):Option D:=if ds.length=np then(match mb (jG nn ds)with
 |some (.rt d _)=>some d
 |some (.nx _)=>some .non
 |_=>none)else none
variable{np nn:Nat}
theorem zkv:∀ds d,qG (mb zO) np nn ds=some d->ds.length=np/\∃n,(∃ρ',mb n (jG nn ds)=some (.rt d ρ'))\/(d=.non/\md=.fz/\∃ρ',mb n (jG nn ds)=some (.nx ρ')):=λds d h=>by
 unfold qG at h;split at h
 ·rename_i hl;refine⟨hl,zO,.inl ?_⟩;split at h
  ·rename_i d' ρ' e;cases h;exact⟨ρ',e⟩
  ·cases h
 ·cases h
theorem zoD:∀ds d,runN (mb zO) np nn ds=some d->ds.length=np/\∃n,(∃ρ',mb n (jG nn ds)=some (.rt d ρ'))\/(d=.non/\Md.fz=.fz/\∃ρ',mb n (jG nn ds)=some (.nx ρ')):=λds d h=>by
 unfold runN at h;split at h
 ·rename_i hl;refine⟨hl,zO,?_⟩;split at h
  ·rename_i d' ρ' e;cases h;exact .inl ⟨ρ',e⟩
  ·rename_i ρ' e;cases h;exact .inr ⟨rfl,rfl,ρ',e⟩
  ·cases h
 ·cases h
def ziw(ns:List Int):Prop:=∀n∈ns,Builtin.Int.intBits n<=2^20
theorem zne{ns:List Int}(h:PySem.W.WData.layableAll [PySem.W.WData.list (ns.map PySem.W.WData.int)]=true):ziw ns:=by
 have h1:=(PySem.W.layableW_iff.mp (JP.mp h (PySem.W.WData.list (ns.map PySem.W.WData.int)) (by simp))).2.2;rw[PySem.W.WData.weight]at h1;have key:∀l:List Int,PySem.W.WData.weightAll (l.map PySem.W.WData.int)<=2^20->ziw l:=by
  intro l;induction l with
  |nil=>intro _ n hn;cases hn
  |cons x l ih=>
   intro h n hn;rw[Jg,PySem.W.WData.weightAll]at h;rcases JC.mp hn with rfl|hn
   ·have:Builtin.Int.intBits n<=PySem.W.WData.weight (.int n):=by rw[PySem.W.WData.weight];exact Jd _
    omega
   ·exact ih (by omega) n hn
 exact key ns h1
theorem zpT{l:PySem.W.OpenLaw}{k:Nat}{q:Program}{loose:List Str}{XP:(SV)->Heap->Prop}{YP:World->Heap->Prop}{d:DefRec}{K:Params->Fg}{m:LO}(hn:l.most=some 63)(hdf:d.params.defaults=[])(hr:jI k callerA)(hY:∀(w:World) (h:Heap),YP w h->(K w.params).In h)(F:∀(w:World) (mg:SV) (fa:Addr) (h:Heap),(K w.params).In h->h.Ns mainGlobals mg->mg d.name=some (.ref fa)->
   ∃fd:FuncData,(∀(s:Shared) (u:Value),BindsTo s fd ⟨[u],[]⟩ [(x,u)])/\∀base:Heap,(K w.params).In base->base.Ns mainGlobals mg->xU l.prog w (K w.params) mg base CX0 k fa fd [x] (SpD (K w.params) .fz m))(H:∀ns:List Int,ns.length<=63->ziw ns->m [.scr ns]=some (.bl true)):PySem.W.WalkO q loose XP YP l.row.toRowW d [] (λf vs=>PySem.call f vs):=
 L2.walk_of (n:=63) (k:=k) (x:=x) (CX:=λ_=>CX0) (sp:=λw=>SpD (K w.params) .fz m) hn (by decide) hdf hr hY F
  (λw H' a ns hl hw _ hS=>⟨H',[.scr ns],.bl true,zP.refl _,zF.cons (Dat.scr hS) zF.nil,H ns hl (zne hw),λv F' H2 _ h=>Dat.bl_inv (K:=K w.params) (F:=F') h⟩) λ_ _ _ _ _ z=>z
structure Chg(F H:Hp)(a:Addr)(F' H':Hp):Prop where
 ff:zP F F'
 fh:zP F' H'
 rest:∀b o,H b=some o->F b=none->b≠a->H' b=some o/\F' b=none
 fa:F' a=none
section
variable{K:Fg}{F H F' H' F2 H2:Hp}{ρ ρ':En}{σ σ':St}{i:Nat}{a:Addr}
theorem Chg.trans(x:Chg F H a F' H')(y:Chg F' H' a F2 H2):Chg F H a F2 H2:=
 ⟨x.ff.trans y.ff,y.fh,λb o e n ne=>let⟨e1,n1⟩:=x.rest b o e n ne;y.rest b o e1 n1 ne,y.fa⟩
theorem zK.chg(g:zK F H F' H')(h:H a=some o)(n:F a=none):Chg F H a F' H':=⟨g.ff,g.fh,λb o e n _=>⟨g.hh _ _ e,g.nw b o e n⟩,g.nw a o h n⟩
theorem zZ.chg{d:D}(s:zP F H)(c:Chg F H a F' H')(h:zZ K F H d v)(hv:v≠.ref a):zZ K F' H' d v:=by
 have key:∀b o,b≠a->H b=some o->H' b=some o:=λb o ne e=>by
  cases f:F b with
  |some u=>
   have:=s _ _ f;rw[e]at this;cases this
   exact c.fh _ _ (c.ff _ _ f)
  |none=>exact(c.rest b o e f ne).1
 cases d with
 |lst l=>obtain⟨b,vs,rfl,f,q⟩:=h.lst_inv;exact⟨b,vs,rfl,key b _ (λz=>hv (by rw[z])) f,q.mono c.ff⟩
 |dic k l=>
  obtain⟨b,vs,rfl,f,q⟩:=h.dic_inv;obtain⟨o,ho⟩:=f.some;exact⟨b,vs,rfl,f.at (by rw[ho];exact key b _ (λz=>hv (by rw[z])) ho),q.mono c.ff⟩
 |_=>exact Dat.mono c.ff h
theorem Rel.chg(r:Rel K F H ρ σ){d d':D}(e:ρ[i]?=some (some (.ow pp d)))(hσ:σ[i]?=some (some (.ref a)))(c:Chg F H a F' H')(ho:Own K F' H' d' a):
  Rel K F' H' (ρ.set i (some (.ow pp d'))) σ/\jA ρ σ F H (ρ.set i (some (.ow pp d'))) σ F' H':=by
 refine⟨⟨c.fh,λj x q=>?_,λj x q=>?_,λj qq x q=>?_,λj k qq x s c ne e1 e2 e3 e4=>?_,by simp[r.len]⟩,⟨c.ff,λb u h n no=>c.rest b u h n (λz=>no (by subst z;exact⟨i,pp,d,e,hσ⟩)),λb h=>.inr ?_,λj x e'=>?_,c.fh⟩⟩
 ·rcases zX q with⟨rfl,q'⟩|⟨ne,q'⟩
  ·cases q'
  ·obtain⟨v,h1,h2⟩:=r.dat j x q';exact⟨v,h1,h2.mono c.ff⟩
 ·rcases zX q with⟨rfl,q'⟩|⟨ne,q'⟩
  ·cases q'
  ·obtain⟨v,h1,h2⟩:=r.bor j x q';refine⟨v,h1,h2.chg r.sub c λz=>?_⟩;subst z;exact r.inj i j pp d _ a (Ne.symm ne) e hσ q' rfl h1
 ·rcases zX q with⟨rfl,q'⟩|⟨ne,q'⟩
  ·cases q'
   exact⟨a,hσ,c.fa,ho⟩
  ·obtain⟨b,h1,h2,h3⟩:=r.own j qq x q';have hc:b≠a:=λz=>by subst z;exact r.inj i j pp d _ b (Ne.symm ne) e hσ q' rfl h1
   obtain⟨o,hob⟩:=h3.some;obtain⟨g1,g2⟩:=c.rest b o hob h2 hc;exact⟨b,h1,g2,h3.mono c.ff λu hu=>by rw[hob]at hu;cases hu;exact g1⟩
 ·rcases zX e1 with⟨rfl,e1'⟩|⟨ne1,e1'⟩
  ·rcases zX e3 with⟨rfl,e3'⟩|⟨ne3,e3'⟩
   ·exact absurd rfl ne
   ·exact r.inj j k pp d s c ne e e2 e3' e4
  ·rcases zX e3 with⟨rfl,e3'⟩|⟨ne3,e3'⟩
   ·exact r.inj j k qq x (.ow pp d) c ne e1' e2 e rfl
   ·exact r.inj j k qq x s c ne e1' e2 e3' e4
 ·obtain⟨j,qq,x,j1,j2⟩:=h;rcases zX j1 with⟨rfl,j1'⟩|⟨ne,j1'⟩
  ·exact⟨j,pp,d,e,j2⟩
  ·exact⟨j,qq,x,j1',j2⟩
 ·rcases zX e' with⟨rfl,e''⟩|⟨ne,e''⟩
  ·cases e''
   exact⟨d,e,rfl⟩
  ·exact⟨x,e'',rfl⟩
theorem Rel.setI(r:Rel K F H ρ σ){pp:Bool}{d:D}(nf:∀(j:Nat) (s:Sl),ρ[j]?=some (some s)->s.isDat=true)(hf:F a=none)(ho:Own K F H d a):Rel K F H (ρ.set i (some (.ow pp d))) (σ.set i (some (.ref a))):=by
 have no:∀(j:Nat) (s:Sl),ρ[j]?=some (some s)->s.isDat=false->False:=λj s e hs=>by rw[nf j s e]at hs;cases hs
 refine⟨r.sub,λj x e=>?_,λj x e=>?_,λj q x e=>?_,λj k q x s c ne e1 e2 e3 e4=>?_,by simp[r.len]⟩
 ·rcases zX e with⟨rfl,e'⟩|⟨ne,e'⟩
  ·cases e'
  ·rw[List.getElem?_set_ne (Ne.symm ne)];exact r.dat j x e'
 ·rcases zX e with⟨rfl,e'⟩|⟨ne,e'⟩
  ·cases e'
  ·exact(no j _ e' rfl).elim
 ·rcases zX e with⟨rfl,e'⟩|⟨ne,e'⟩
  ·cases e'
   exact⟨a,zaI (by rw[←r.len];exact zgI e),hf,ho⟩
  ·exact(no j _ e' rfl).elim
 ·rcases zX e3 with⟨rfl,e3'⟩|⟨ne3,e3'⟩
  ·rcases zX e1 with⟨rfl,e1'⟩|⟨ne1,e1'⟩
   ·exact absurd rfl ne
   ·exact(no j _ e1' rfl).elim
  ·exact(no k _ e3' e4).elim
end
noncomputable def SpX(K:Fg)(j:Nat)(m:D->List D->Option (D×D)):Sp:=λvs H Q _=>∃F a us ds c d c',vs=us.take j++.ref a::us.drop j/\j<=us.length/\zP F H/\F a=none/\Own K F H c a/\zF K F ds us/\m c ds=some (d,c')/\
 ∀v F' H',Chg F H a F' H'->Own K F' H' c' a->Dat K F' d v->Q v H'
noncomputable def kM(nn j:Nat)(c:D)(ds:List D):En:=(jG nn (ds.take j++.non::ds.drop j)).set j (some (.inn c))
theorem zkp(N:List Str)(xs ys:List V)(u v:V):(L2.start N (xs++v::ys)).set xs.length (some u)=L2.start N (xs++u::ys):=by unfold L2.start;simp[List.set_append]
noncomputable def kZ(mb:EO Fl)(np nn j:Nat)(c:D)(ds:List D):Option (D×D):=if ds.length+1=np/\j<=ds.length then(match mb (kM nn j c ds)with
 |some (.rt d ρ')=>(match ρ'[j]? with
  |some (some (.ow true c'))=>some (d,c')
  |_=>none)
 |_=>none)else none
structure FkX(P:Program)(w:World)(K:Fg)(mg:SV)(base:Heap)(x:Str)(ps:List Str)(j k:Nat)(m:D->List D->Option (D×D)):Prop where
 ex:∃f fd,xU P w K mg base CX0 k f fd ps (SpX K j m)/\gW K fd ps []/\PySem.W.keepIn K (.ref f)=true/\mg x=some (.ref f)
variable{m:D->List D->Option (D×D)}{pos:Pos}{jj:Nat}
section
variable{P:Program}{w:World}{K:Fg}{mg:SV}{base:Heap}{X:Cx}{k j:Nat}{f:Addr}{fd:FuncData}{ps:List Str}{x:Str}
theorem zrz{st:Stmt}(Fn:Fun K x qual st f fd)(S:zbb N ps (kR st))(np nn j:Nat)(hnp:ps.length=np)(hnn:N.length=nn)(hb:∀(n:Nat) (cdv:Value) (A:Around) (outer:List Env) (s:Shared) (H:Hp) (E:XK),jI k (A.deeper (envOfC qual (kR st) s.heap.objs.size f cdv))->FSs K .fz (gS CX0 P w K mg base N qual (kR st) f cdv A outer s H E).nox (nN st) (mb n)):
  xU P w K mg base CX0 (k+1) f fd ps (SpX K j (kZ (mb zO) np nn j)):=by
 subst hnp hnn;have hlen:∀(us:List V) (v:V),j<=us.length->(us.take j++v::us.drop j).length=us.length+1:=λus v h=>by rw[Jm,Jl,Jw,Qv];omega
 have inv:∀{c:D}{ds:List D} {d c':D},kZ (mb zO) ps.length N.length j c ds=some (d,c')->ds.length+1=ps.length/\j<=ds.length/\∃ρ',mb zO (kM N.length j c ds)=some (.rt d ρ')/\ρ'[j]?=some (some (.ow true c')):=λ{c ds d c'} h=>by
  unfold kZ at h;split at h
  ·rename_i hl;split at h
   ·rename_i d' ρ' e;split at h
    ·rename_i c2 e2;cases h;exact⟨hl.1,hl.2,ρ',e,e2⟩
    ·cases h
   ·cases h
  ·cases h
 refine Fn.ok S (λvs H Q E h=>?_) (λcdv A outer s H vs Q E hr h=>?_)
 ·obtain⟨F,a,us,ds,c,d,c',rfl,hj,_,_,_,q,e,_⟩:=h;rw[hlen us _ hj,q.length];exact(inv e).1
 obtain⟨F,a,us,ds,c,d,c',rfl,hj,sub,fa,ho,qd,e,kq⟩:=h;obtain⟨h1,h2,ρ',h3,h4⟩:=inv e;have q0:zF K F (ds.take j++.non::ds.drop j) (us.take j++.non::us.drop j):=(qd.take j).append (zF.cons Dat.non (qd.drop j));have r0:=Rel.start (N:=N) sub q0;have tl:(us.take j).length=j:=by rw[Jw];omega
 have r1:Rel K F H (kM N.length j c ds) (L2.start N (us.take j++.ref a::us.drop j)):=by
  have:=Rel.setI (i:=j) (pp:=true) r0 (λi s e=>by
   unfold jG at e;by_cases hi:i<(ds.take j++D.non::ds.drop j).length
   ·rw[List.getElem?_append_left (by simpa using hi),List.getElem?_map,List.getElem?_eq_getElem hi]at e;cases e;rfl
   ·rw[List.getElem?_append_right (by simpa using hi),List.getElem?_replicate]at e;split at e<;>cases e) fa ho
  have e2:=zkp N (us.take j) (us.drop j) (.ref a) .non;rw[tl]at e2;rw[e2]at this;exact this
 refine⟨_,(hb zO cdv A outer s H E hr).h _ _ h3,F,r1,λv σ' F' H' r' s' res=>?_⟩;obtain⟨d0,p1,p2⟩:=s'.pin j c' h4;obtain⟨b,g1,g2,g3⟩:=r'.own j true c' h4;have sj:(L2.start N (us.take j++.ref a::us.drop j))[j]?=some (some (.ref a)):=by unfold L2.start;rw[List.getElem?_append_left (by rw[Ja,hlen us _ hj];omega),List.getElem?_map,List.getElem?_append_right (by omega),tl];simp
 rw[p2,sj]at g1;cases g1
 have only:∀b,xC (kM N.length j c ds) (L2.start N (us.take j++.ref a::us.drop j)) b->b=a:=λb ⟨i,pp,x,i1,i2⟩=>by
  unfold kM at i1;rcases zX i1 with⟨rfl,_⟩|⟨ne,i1'⟩
  ·rw[sj]at i2;cases i2;rfl
  ·exact(zbn (σ:=L2.start N (us.take j++.ref a::us.drop j)) ⟨i,pp,x,i1',i2⟩).elim
 exact kq v F' H' ⟨s'.ff,s'.fh,λb o e n ne=>s'.rest b o e n λz=>ne (only b z),g2⟩ g3 res
theorem FkX.mono{j':Nat}(G:FkX P w K mg base x ps j k m)(h:k<=j'):FkX P w K mg base x ps j j' m:=by obtain⟨f,fd,F,r⟩:=G.ex;exact⟨f,fd,F.mono h,r⟩
theorem FkX.never{f:Addr}{fd:FuncData}(h:gW K fd ps []/\PySem.W.keepIn K (.ref f)=true/\mg x=some (.ref f))(hm:∀c ds,m c ds=none):FkX P w K mg base x ps j 0 m:=by
 refine⟨f,fd,⟨λvs H Q E h=>?_,λA outer s H args us vs Q E _ _ _ _ h=>?_⟩,h⟩
 ·obtain⟨F,a,us,ds,c,d,c',_,_,_,_,_,_,e,_⟩:=h;rw[hm]at e;cases e
 ·obtain⟨F,a,us,ds,c,d,c',_,_,_,_,_,_,e,_⟩:=h;rw[hm]at e;cases e
noncomputable def kS(m:D->List D->Option (D×D))(i:Nat)(fs:EO (List D)):EO (D×En):=λρ=>match ρ[i]?,fs ρ with
 |some (some (.ow p c)),some ds=>(m c ds).map λq=>(q.1,ρ.set i (some (.ow p q.2)))
 |_,_=>none
theorem zjU{fs:EO (List D)}{d:D}(h:kS m i fs ρ=some (d,ρ')):∃p c ds c',ρ[i]?=some (some (.ow p c))/\fs ρ=some ds/\m c ds=some (d,c')/\ρ'=ρ.set i (some (.ow p c')):=by
 unfold kS at h;split at h
 ·rename_i p c ds e1 e2;cases e3:m c ds with
  |none=>rw[e3]at h;cases h
  |some q=>
   rw[e3]at h;cases h
   exact⟨p,c,ds,q.2,e1,e2,e3,rfl⟩
 ·cases h
theorem zeU(i:Nat){p1:Pos}{e':Expr}{fe fe':EO D}(G:FkX X.prog X.w X.K X.mg X.base x ps 2 k m)(hr:jI jj X.A)(he:FP K .fz X e fe)(he':FP K .fz X e' fe')(hle:k<=jj:=by first|decide|omega)(hg:Gl X x:=by rfl)(hK:X.K=K:=by rfl)(hN:X.N[i]?=some y:=by rfl)(hv:Vis X.env.scope y:=by first|exact Or.inl rfl|exact Or.inr (Or.inl rfl)|exact Or.inr (Or.inr rfl))(hd:(y==("__debug__":Str))=false:=by decide)(hcd:(y==("__classdict__":Str))=false:=by decide)(hs:starEach [.Name y p1] X.env=(false,eval (.Name y p1) X.env)::starEach [] X.env:=by rfl)(hs1:starEach [e',.Name y p1] X.env=(false,eval e' X.env)::starEach [.Name y p1] X.env:=by rfl)(hs0:starEach [e,e',.Name y p1] X.env=(false,eval e X.env)::starEach [e',.Name y p1] X.env:=by rfl)(H1:∀{f:Addr}{fd:FuncData} {t:TA},xU X.prog X.w X.K X.mg X.base CX0 k f fd ps (SpX K 2 m)->jI k X.A->Gl X x->X.mg x=some (.ref f)->PySem.W.keepIn X.K (.ref f)=true->gW X.K fd ps []->PA X [e,e',.Name y p1] t->PE X (.Call (.Name x p) [e,e',.Name y p1] [] pos) (zmp (SpX K 2 m) [] E0 t):=by exact λF hr hg hm hk hb ha=>zhU F hr hg hm hk hb .nil zoV ha):
  FX K X (.Call (.Name x p) [e,e',.Name y p1] [] pos) (kS m i (zB fe (zB fe' zD))):=FX.mk λρ d ρ' hf=>by
 subst hK;obtain⟨pp,c,ds,c',e1,e2,e3,rfl⟩:=zjU hf;obtain⟨d1,l,e4,e5,rfl⟩:=zcd e2;obtain⟨d2,l2,e6,e7,rfl⟩:=zcd e5;have e7:some []=some l2:=e7;cases e7
 obtain⟨f,fd,F,hb,hk,hm⟩:=G.ex;refine PE.imp (H1 F (hr.mono hle) hg hm hk hb (yW (he.h ρ d1 e4) (yW (he'.h ρ d2 e6) (yW (wN hN hv hd hcd) wO hs) hs1) hs0)) λσ H Q h_=>?_
 obtain⟨Fz,r,q⟩:=h_;refine⟨Fz,r,λv F1 H1 g1 r1=>⟨F1,r.grow g1,λu F2 H2 g2 r2=>?_⟩⟩;have rg:=(r.grow g1).grow g2;obtain⟨a,h1,h2,h3⟩:=rg.own i pp c e1;refine⟨_,h1,F2,a,[v,u],[d1,d2],c,d,c',rfl,Jd _,g2.fh,h2,h3,zF.cons (Dat.mono g2.ff r1) (zF.cons r2 zF.nil),e3,λv' F' H' ch ho hd'=>?_⟩;obtain⟨x1,x2⟩:=rg.chg e1 h1 ch ho;exact q v' F' H' x1 ((g1.trans g2).step.trans x2 r.sub) hd'
noncomputable def yN(m:EO (D×En)):EO Fl:=λρ=>(m ρ).map λq=>.rt q.1 q.2
theorem zox{m:EO (D×En)}(he:FX K X e m):FS K .fz X (.Return (some e) pos) (yN m):=FS.mk λρ fl hf=>by
 unfold yN at hf;cases e1:m ρ with
 |none=>rw[e1]at hf;cases hf
 |some q1=>
  obtain⟨d,ρ1⟩:=q1;rw[e1]at hf;cases hf
  exact PS.imp (zgS (he.h ρ d ρ1 e1)) λD σ H ⟨F,r,q⟩=>⟨F,r,λv F1 H1 r1 s1 h=>q v σ F1 H1 r1 s1 h⟩
end
noncomputable def yJ(jj:Nat)(ρ:En):Option D:=match ρ[jj]? with
 |some (some (.ow true c))=>some c
 |_=>none
theorem zfj{c:D}(h:yJ jj ρ=some c):ρ[jj]?=some (some (.ow true c)):=by
 unfold yJ at h;split at h
 ·rename_i e;cases h;exact e
 ·cases h
section
variable{K:Fg}{X:Cx}{pos:Pos}{tg iter elt:Expr}{scope:Scope}
theorem Rel.innerX{cap:ON}{jj:Nat}{p:Bool}{c:D}(r:Rel K F H ρ σ)(e:ρ[i]?=some (some (.ow p c)))(hc:cap[jj]?=some (some i))(ho:∀k,cap[k]?=some (some i)->k=jj):
  Rel K F H ((qH cap ρ).set jj (some (.inn c))) (st0 cap σ):=by
 have b:=r.inner (cap:=cap);obtain⟨a,h1,h2,h3⟩:=r.own i p c e;have hs:=zdI (σ:=σ) hc h1;refine⟨r.sub,λj x q=>?_,λj x q=>?_,λj qq x q=>?_,λj k qq x s d ne e1 e2 e3 e4=>?_,by simp[b.len]⟩
 ·rcases zX q with⟨rfl,q'⟩|⟨ne,q'⟩
  ·cases q'
  ·exact b.dat j x q'
 ·rcases zX q with⟨rfl,q'⟩|⟨ne,q'⟩
  ·cases q'
  ·exact b.bor j x q'
 ·rcases zX q with⟨rfl,q'⟩|⟨ne,q'⟩
  ·cases q';exact⟨a,hs,h2,h3⟩
  ·exact b.own j qq x q'
 ·rcases zX e1 with⟨rfl,e1'⟩|⟨ne1,e1'⟩
  ·rcases zX e3 with⟨rfl,e3'⟩|⟨ne3,e3'⟩
   ·exact absurd rfl ne
   ·rw[hs]at e2;cases e2
    obtain⟨l,s0,l1,l2,l3⟩:=zbo e3';have hl:l≠i:=λz=>ne3 (ho k (by rw[l1,z]))
    intro z;have zz:σ[l]?=some (some (.ref a)):=by
     unfold st0 at z;rw[List.getElem?_map,l1]at z;simp at z;cases e5:σ[l]? with
     |none=>rw[e5]at z;cases z
     |some y=>rw[e5]at z;simp at z;rw[z]
    refine r.inj i l p c s0 a (Ne.symm hl) e h1 l2 ?_ zz;cases s0<;>simp[kL]at l3
    ·subst l3;cases e4
    ·rfl
    ·rfl
  ·obtain⟨l,s0,l1,l2,l3⟩:=zbo e1';cases s0<;>simp[kL]at l3
theorem zmr{y z:Option Sl}(ho:∀k,cap[k]?=some (some i)->k=jj):(qH cap (ρ.set i y)).set jj z=(qH cap ρ).set jj z:=by
 apply List.ext_getElem?;intro k;by_cases hk:k=jj
 ·subst hk;rw[List.getElem?_set,List.getElem?_set];simp[qH]
 ·rw[List.getElem?_set_ne (Ne.symm hk),List.getElem?_set_ne (Ne.symm hk)];unfold qH;rw[List.getElem?_map,List.getElem?_map];cases e:cap[k]? with
  |none=>rfl
  |some o=>
   cases o with
   |none=>rfl
   |some j=>
    have hj:j≠i:=λz=>hk (ho k (by rw[e,z]))
    simp[List.getElem?_set_ne (Ne.symm hj)]
end
end FL
namespace HT
def ZS(h:Heap)(z TI TO:Addr):Prop:=∃f0 f1,h.get? z=some {cls:=.type "zip",dict:=none,data:=.fields #[f0,f1,.bool false,.ref TI,.ref TO],slots:=#[]}/\(f0=.none\/∃T:Nat,f0=rawInt T)
variable{Q:Option Value->Shared->Prop}{z i1 i2 l1 l2 l:Addr}{n1 n2 i:Nat}{P1 P2:Nat->Value->Prop}{S1 S2:Nat->Heap->Prop}{h:Heap}{items:Array Value}
section
variable{prog:Program}{w:World}{A:Around}{E:VS}{s:Shared}
theorem zcP{a:Addr}{Q:Option Obj->Shared->Prop}(h:Q (s.heap.get? a) s):wpAny (model prog w) A (loadIfAlive a) Q E s:=by exact λ_ _ _=>h
theorem zoe{TI TO:Addr}{Q:Bool->Shared->Prop}(hz:ZS s.heap z TI TO)(h1:Q true s)(h2:∀h',ZS h' z TI TO->Heap.SameBut z s.heap h'->Q false {s with heap:=h'}):
  wpAny (model prog w) A (Builtin.SmallTypes.ownedTupleIsFree (.ref z)) Q E s:=by
 obtain⟨f0,f1,hz,hf⟩:=hz;unfold Builtin.SmallTypes.ownedTupleIsFree;rcases hf with rfl|⟨T,rfl⟩
 ·exact wpAny_bind (JW hz rfl (x:=.none) rfl (Jc h1))
 ·refine wpAny_bind (JW hz rfl (x:=rawInt T) rfl ?_);show wpAny _ _ (loadIfAlive _>>=_) _ _ _;refine wpAny_bind (zcP ?_);split
  ·exact Jc h1
  ·refine wpAny_bind (JW hz rfl (x:=f1) rfl ?_);split
   ·refine wpAny_bind (Qk hz (by simp) λh' hz' hs'=>Jc (h2 h' ⟨_,_,hz',.inr ⟨T,rfl⟩⟩ hs'))
   ·exact Jc (h2 s.heap ⟨_,_,hz,.inr ⟨T,rfl⟩⟩ ⟨rfl,λ_ _=>rfl⟩)
theorem zjZ{TI TO:Addr}{Q:VS}(D:ZipApart z TI TO i1 i2 l1 l2)(D1:Draws prog w A i1 [i1,l1] n1 P1 S1)(D2:Draws prog w A i2 [i2,l2] n2 P2 S2)(hz:ZS s.heap z TI TO)(hTI:IsPair s.heap TI (.ref i1) (.ref i2))(hTO:∃a b,IsPair s.heap TO a b)(st1:S1 i s.heap)(st2:S2 i s.heap)(hi1:i<n1)(hi2:i<n2)(hQ:∀x y h' tk,P1 i x->P2 i y->ZS h' z TI TO->(∃a b,IsPair h' TO a b)->S1 (i+1) h'->S2 (i+1) h'->IsPair h' s.heap.objs.size x y->h'.objs.size=s.heap.objs.size+1->
   (∀c o,c≠z->c≠TO->c≠i1->c≠i2->s.heap.get? c=some o->h'.get? c=some o)->Q (.ref s.heap.objs.size) {s with heap:=h',toks:=tk}):
  wpAny (model prog w) A (Builtin.«zip.__next__» ⟨[.ref z],[]⟩) (λfin s'=>∃v,fin=.done (.ret v)/\Q v s') E s:=by
 obtain⟨f0,f1,hz0,hf⟩:=id hz;obtain⟨o1,live1⟩:=D1.live _ _ st1;obtain⟨o2,live2⟩:=D2.live _ _ st2;have F1:∀{k:Nat}{h h':Heap} {c:Addr},S1 k h->Heap.SameBut c h h'->i1≠c->l1≠c->S1 k h':=λst hs e1 e2=>D1.frame _ _ _ st λb hb o e=>by
  rcases JC.mp hb with rfl|hb
  ·exact hs.extBut _ _ e1 e
  ·rw[Wc.mp hb]at e ⊢;exact hs.extBut _ _ e2 e
 have F2:∀{k:Nat}{h h':Heap} {c:Addr},S2 k h->Heap.SameBut c h h'->i2≠c->l2≠c->S2 k h':=λst hs e1 e2=>D2.frame _ _ _ st λb hb o e=>by
  rcases JC.mp hb with rfl|hb
  ·exact hs.extBut _ _ e1 e
  ·rw[Wc.mp hb]at e ⊢;exact hs.extBut _ _ e2 e
 show wpAny _ _ (field (.ref z) 2>>=_) _ _ _;refine wpAny_bind (JW hz0 rfl (x:=.bool false) rfl ?_);show wpAny _ _ (field (.ref z) 3>>=_) _ _ _;refine wpAny_bind (JW hz0 rfl (x:=.ref TI) rfl ?_);refine wpAny_bind (Qy hTI rfl ?_);show wpAny _ _ (Builtin.SmallTypes.ownedTupleIsFree (.ref z)>>=_) _ _ _;refine wpAny_bind (zoe hz ?_ λh₁ hz₁ hs₁=>?_)
 ·simp only[if_true];obtain⟨a,b,hTO⟩:=hTO;refine wpAny_bind (QX ?_);refine wpAny_bind (JW hz0 rfl (x:=.ref TO) rfl ?_);refine wpAny_bind (Qk hz0 (by simp) λh₁ hz₁ hs₁=>?_);refine wpAny_bind ?_;simp only[List.zipIdx_cons,List.zipIdx_nil,List.forIn_cons,List.forIn_nil];refine wpAny_bind (wpAny_bind (wpAny_onRaise ?_));show wpAny _ _ (Builtin.SmallTypes.nextOf (.ref i1)>>=_) _ _ _;refine wpAny_bind (D1.item i {s with heap:=h₁} _ _ hi1 (F1 st1 hs₁ D.i1z D.l1z) λx h₂ tk₂ px st1' hs₂=>Jc ?_);have hTO₂:IsPair h₂ TO a b:=hs₂.extBut _ _ D.TOi1 (hs₁.extBut _ _ D.TOz hTO);refine wpAny_bind (Qy hTO₂ rfl ?_);refine wpAny_bind (wpAny_updateSeq_pair hTO₂ λh₃ hTO₃ hs₃=>?_)
  replace hTO₃:IsPair h₃ TO x b:=hTO₃
  refine wpAny_bind (wpAny_letGo (Jc ?_));refine wpAny_bind (wpAny_bind (wpAny_onRaise ?_));show wpAny _ _ (Builtin.SmallTypes.nextOf (.ref i2)>>=_) _ _ _;refine wpAny_bind (D2.item i {s with heap:=h₃,toks:=tk₂} _ _ hi2 (F2 (F2 (F2 st2 hs₁ D.i2z D.l2z) hs₂ D.i12.symm D.l2i1) hs₃ D.TOi2.symm D.l2TO) λy h₄ tk₄ py st2' hs₄=>Jc ?_);have hTO₄:IsPair h₄ TO x b:=hs₄.extBut _ _ D.TOi2 hTO₃;refine wpAny_bind (Qy hTO₄ rfl ?_);refine wpAny_bind (wpAny_updateSeq_pair hTO₄ λh₅ hTO₅ hs₅=>?_)
  replace hTO₅:IsPair h₅ TO x y:=hTO₅
  refine wpAny_bind (wpAny_letGo (Jc (Jc ?_)));refine wpAny_bind (Qy hTO₅ rfl ?_);refine wpAny_bind (wpAny_newTuple ?_);have hsz:h₅.objs.size=s.heap.objs.size:=by rw[hs₅.1,hs₄.1,hs₃.1,hs₂.1,hs₁.1]
  have hz₅:=hs₅.extBut _ _ D.TOz.symm (hs₄.extBut _ _ D.i2z.symm (hs₃.extBut _ _ D.TOz.symm (hs₂.extBut _ _ D.i1z.symm hz₁)));have hk₅:∀c o,c≠z->c≠TO->c≠i1->c≠i2->s.heap.get? c=some o->h₅.get? c=some o:=λc o c1 c2 c3 c4 e=>
   hs₅.extBut _ _ c2 (hs₄.extBut _ _ c4 (hs₃.extBut _ _ c2 (hs₂.extBut _ _ c3 (hs₁.extBut _ _ c1 e))))
  have h1₅:S1 (i+1) h₅:=F1 (F1 (F1 st1' hs₃ D.TOi1.symm D.l1TO) hs₄ D.i12 D.l1i2) hs₅ D.TOi1.symm D.l1TO;have h2₅:S2 (i+1) h₅:=F2 st2' hs₅ D.TOi2.symm D.l2TO;have hzlt:z<h₅.objs.size:=Jf hz₅;show wpAny _ _ (Builtin.SmallTypes.ownedTupleHandOut (.ref z) (.ref h₅.objs.size)>>=_) _ _ _;refine wpAny_bind ?_;unfold Builtin.SmallTypes.ownedTupleHandOut;have hz₆:=Heap.get?_push_of_some {cls:=.type "tuple",data:=.seq #[x,y]} hz₅;refine wpAny_bind (Qk hz₆ (by simp) λh₇ hz₇ hs₇=>?_);refine Qk hz₇ (by simp) λh₈ hz₈ hs₈=>?_
  have up:∀c o,c≠z->h₅.get? c=some o->h₈.get? c=some o:=λc o c1 e=>hs₈.extBut _ _ c1 (hs₇.extBut _ _ c1 (Heap.get?_push_of_some _ e))
  have hT₈:IsPair h₈ h₅.objs.size x y:=hs₈.extBut _ _ (Nat.ne_of_gt hzlt) (hs₇.extBut _ _ (Nat.ne_of_gt hzlt) (Heap.get?_push_size _ rfl));have hz8:h₈.objs.size=h₅.objs.size+1:=by rw[hs₈.1,hs₇.1,Qm]
  rw[hsz]at hT₈ hz8;refine Jc ⟨_,rfl,?_⟩;show Q (.ref h₅.objs.size) _;rw[hsz];refine hQ x y h₈ tk₄ px py ⟨_,_,hz₈,.inr ⟨_,rfl⟩⟩ ⟨_,_,up _ _ D.TOz hTO₅⟩ (D1.frame _ _ _ h1₅ λb hb o e=>up b o ?_ e) (D2.frame _ _ _ h2₅ λb hb o e=>up b o ?_ e) hT₈ hz8 λc o c1 c2 c3 c4 e=>up c o c1 (hk₅ c o c1 c2 c3 c4 e)
  ·rcases JC.mp hb with rfl|hb
   ·exact D.i1z
   ·rw[Wc.mp hb];exact D.l1z
  ·rcases JC.mp hb with rfl|hb
   ·exact D.i2z
   ·rw[Wc.mp hb];exact D.l2z
 ·simp only[Bool.false_eq_true,if_false];obtain⟨a,b,hTO⟩:=hTO;rw[←Array.forIn_toList];refine wpAny_bind ?_;simp only[List.forIn_cons,List.forIn_nil];refine wpAny_bind (wpAny_bind (JH ?_));show wpAny _ _ (Builtin.SmallTypes.nextOf (.ref i1)>>=_) _ _ _;refine wpAny_bind (D1.item i {s with heap:=h₁} _ _ hi1 (F1 st1 hs₁ D.i1z D.l1z) λx h₂ tk₂ px st1' hs₂=>Jc (Jc ?_));refine wpAny_bind (wpAny_bind (JH ?_));show wpAny _ _ (Builtin.SmallTypes.nextOf (.ref i2)>>=_) _ _ _;refine wpAny_bind (D2.item i {s with heap:=h₂,toks:=tk₂} _ _ hi2 (F2 (F2 st2 hs₁ D.i2z D.l2z) hs₂ D.i12.symm D.l2i1) λy h₄ tk₄ py st2' hs₄=>Jc (Jc (Jc ?_)));show wpAny _ _ (newTuple [x,y]>>=_) _ _ _;refine wpAny_bind (wpAny_newTuple ?_);have hsz:h₄.objs.size=s.heap.objs.size:=by rw[hs₄.1,hs₂.1,hs₁.1]
  obtain⟨g0,g1,hz₁',hg⟩:=hz₁;have hz₄:=hs₄.extBut _ _ D.i2z.symm (hs₂.extBut _ _ D.i1z.symm hz₁');refine Jc ⟨_,rfl,?_⟩;show Q (.ref h₄.objs.size) _;have up:∀c o,h₄.get? c=some o->(h₄.push {cls:=.type "tuple",data:=.seq #[x,y]}).get? c=some o:=λc o e=>Heap.get?_push_of_some _ e
  have hT:IsPair (h₄.push {cls:=.type "tuple",data:=.seq #[x,y]}) h₄.objs.size x y:=Heap.get?_push_size _ rfl;have hz8:(h₄.push {cls:=.type "tuple",data:=.seq #[x,y]}).objs.size=h₄.objs.size+1:=Qm ..;rw[hsz]at hT hz8 ⊢;exact hQ x y _ tk₄ px py ⟨_,_,up _ _ hz₄,hg⟩ ⟨_,_,up _ _ (hs₄.extBut _ _ D.TOi2 (hs₂.extBut _ _ D.TOi1 (hs₁.extBut _ _ D.TOz hTO)))⟩ (D1.frame _ _ _ (F1 st1' hs₄ D.i12 D.l1i2) λb hb o e=>up b o e) (D2.frame _ _ _ st2' λb hb o e=>up b o e) hT hz8
   λc o c1 c2 c3 c4 e=>up c o (hs₄.extBut _ _ c4 (hs₂.extBut _ _ c3 (hs₁.extBut _ _ c1 e)))
theorem zml{TI TO:Addr}{Q:Fin->Shared->Prop}(D:ZipApart z TI TO i1 i2 l1 l2)(D1:Draws prog w A i1 [i1,l1] n1 P1 S1)(D2:Draws prog w A i2 [i2,l2] n2 P2 S2)(hz:ZS s.heap z TI TO)(hTI:IsPair s.heap TI (.ref i1) (.ref i2))(hTO:∃a b,IsPair s.heap TO a b)(st1:S1 i s.heap)(st2:S2 i s.heap)(he:i=n1\/(i<n1/\i=n2))(hE:∀h' e tk,(∀c o,c≠z->c≠TO->c≠i1->c≠i2->s.heap.get? c=some o->h'.get? c=some o)->(∃o,h'.get? e=some o/\o.cls=.type "StopIteration")->E (.ref e) {s with heap:=h',toks:=tk}):
  wpAny (model prog w) A (Builtin.«zip.__next__» ⟨[.ref z],[]⟩) Q E s:=by
 obtain⟨f0,f1,hz0,hf⟩:=id hz;have F1:∀{k:Nat}{h h':Heap} {c:Addr},S1 k h->Heap.SameBut c h h'->i1≠c->l1≠c->S1 k h':=λst hs e1 e2=>D1.frame _ _ _ st λb hb o e=>by
  rcases JC.mp hb with rfl|hb
  ·exact hs.extBut _ _ e1 e
  ·rw[Wc.mp hb]at e ⊢;exact hs.extBut _ _ e2 e
 have F2:∀{k:Nat}{h h':Heap} {c:Addr},S2 k h->Heap.SameBut c h h'->i2≠c->l2≠c->S2 k h':=λst hs e1 e2=>D2.frame _ _ _ st λb hb o e=>by
  rcases JC.mp hb with rfl|hb
  ·exact hs.extBut _ _ e1 e
  ·rw[Wc.mp hb]at e ⊢;exact hs.extBut _ _ e2 e
 show wpAny _ _ (field (.ref z) 2>>=_) _ _ _;refine wpAny_bind (JW hz0 rfl (x:=.bool false) rfl ?_);show wpAny _ _ (field (.ref z) 3>>=_) _ _ _;refine wpAny_bind (JW hz0 rfl (x:=.ref TI) rfl ?_);refine wpAny_bind (Qy hTI rfl ?_);show wpAny _ _ (Builtin.SmallTypes.ownedTupleIsFree (.ref z)>>=_) _ _ _;refine wpAny_bind (zoe hz ?_ λh₁ hz₁ hs₁=>?_)
 ·simp only[if_true];obtain⟨a,b,hTO⟩:=hTO;refine wpAny_bind (QX ?_);refine wpAny_bind (JW hz0 rfl (x:=.ref TO) rfl ?_);refine wpAny_bind (Qk hz0 (by simp) λh₁ hz₁ hs₁=>?_);refine wpAny_bind ?_;simp only[List.zipIdx_cons,List.zipIdx_nil,List.forIn_cons,List.forIn_nil];refine wpAny_bind (wpAny_bind (wpAny_onRaise ?_));show wpAny _ _ (Builtin.SmallTypes.nextOf (.ref i1)>>=_) _ _ _;rcases he with rfl|⟨hlt,rfl⟩
  ·refine wpAny_bind (D1.done {s with heap:=h₁} _ _ (F1 st1 hs₁ D.i1z D.l1z) λh₂ e hs₂ he=>?_);obtain⟨oe,hoe,hce⟩:=he;have hz₂:=hs₂ _ _ D.i1z.symm hz₁;have hez:e≠z:=λx=>by subst x;rw[hz₂]at hoe;cases hoe;simp at hce
   exact Qk hz₂ (by simp) λh₃ _ hs₃=>hE h₃ e s.toks (λc o c1 _ c3 _ x=>hs₃.extBut _ _ c1 (hs₂ _ _ c3 (hs₁.extBut _ _ c1 x))) ⟨oe,hs₃.extBut _ _ hez hoe,hce⟩
  ·refine wpAny_bind (D1.item i {s with heap:=h₁} _ _ hlt (F1 st1 hs₁ D.i1z D.l1z) λx h₂ tk₂ px st1' hs₂=>Jc ?_);have hTO₂:IsPair h₂ TO a b:=hs₂.extBut _ _ D.TOi1 (hs₁.extBut _ _ D.TOz hTO);refine wpAny_bind (Qy hTO₂ rfl ?_);refine wpAny_bind (wpAny_updateSeq_pair hTO₂ λh₃ hTO₃ hs₃=>?_);refine wpAny_bind (wpAny_letGo (Jc ?_));refine wpAny_bind (wpAny_bind (wpAny_onRaise ?_));show wpAny _ _ (Builtin.SmallTypes.nextOf (.ref i2)>>=_) _ _ _;refine wpAny_bind (D2.done {s with heap:=h₃,toks:=tk₂} _ _ (F2 (F2 (F2 st2 hs₁ D.i2z D.l2z) hs₂ D.i12.symm D.l2i1) hs₃ D.TOi2.symm D.l2TO) λh₄ e hs₄ he=>?_);obtain⟨oe,hoe,hce⟩:=he;have hz₄:=hs₄ _ _ D.i2z.symm (hs₃.extBut _ _ D.TOz.symm (hs₂.extBut _ _ D.i1z.symm hz₁));have hez:e≠z:=λx=>by subst x;rw[hz₄]at hoe;cases hoe;simp at hce
   exact Qk hz₄ (by simp) λh₅ _ hs₅=>hE h₅ e tk₂ (λc o c1 c2 c3 c4 x=>hs₅.extBut _ _ c1 (hs₄ _ _ c4 (hs₃.extBut _ _ c2 (hs₂.extBut _ _ c3 (hs₁.extBut _ _ c1 x))))) ⟨oe,hs₅.extBut _ _ hez hoe,hce⟩
 ·simp only[Bool.false_eq_true,if_false];rw[←Array.forIn_toList];refine wpAny_bind ?_;simp only[List.forIn_cons,List.forIn_nil];refine wpAny_bind (wpAny_bind (JH ?_));show wpAny _ _ (Builtin.SmallTypes.nextOf (.ref i1)>>=_) _ _ _;rcases he with rfl|⟨hlt,rfl⟩
  ·refine wpAny_bind (D1.done {s with heap:=h₁} _ _ (F1 st1 hs₁ D.i1z D.l1z) λh₂ e hs₂ he=>?_);exact hE h₂ e s.toks (λc o c1 _ c3 _ x=>hs₂ _ _ c3 (hs₁.extBut _ _ c1 x)) he
  ·refine wpAny_bind (D1.item i {s with heap:=h₁} _ _ hlt (F1 st1 hs₁ D.i1z D.l1z) λx h₂ tk₂ px st1' hs₂=>Jc (Jc ?_));refine wpAny_bind (wpAny_bind (JH ?_));show wpAny _ _ (Builtin.SmallTypes.nextOf (.ref i2)>>=_) _ _ _;refine wpAny_bind (D2.done {s with heap:=h₂,toks:=tk₂} _ _ (F2 (F2 st2 hs₁ D.i2z D.l2z) hs₂ D.i12.symm D.l2i1) λh₄ e hs₄ he=>?_);exact hE h₄ e tk₂ (λc o c1 _ c3 c4 x=>hs₄ _ _ c4 (hs₂.extBut _ _ c3 (hs₁.extBut _ _ c1 x))) he
structure ZSt(z TI TO i1 i2:Addr)(S1 S2:Nat->Heap->Prop)(i:Nat)(h:Heap):Prop where
 zs:ZS h z TI TO
 ti:IsPair h TI (.ref i1) (.ref i2)
 to:∃a b,IsPair h TO a b
 s1:S1 i h
 s2:S2 i h
theorem next_zip{TI TO:Addr}(D:ZipApart z TI TO i1 i2 l1 l2)(D1:Draws prog w A.in1 i1 [i1,l1] n1 P1 S1)(D2:Draws prog w A.in1 i2 [i2,l2] n2 P2 S2)(st:ZSt z TI TO i1 i2 S1 S2 i s.heap)(hi1:i<n1)(hi2:i<n2)(hQ:∀x y h' tk,P1 i x->P2 i y->ZSt z TI TO i1 i2 S1 S2 (i+1) h'->IsPair h' s.heap.objs.size x y->h'.objs.size=s.heap.objs.size+1->
   (∀c o,c∉[z,TO,i1,i2]->s.heap.get? c=some o->h'.get? c=some o)->Q (some (.ref s.heap.objs.size)) {s with heap:=h',toks:=tk}):
  wpAny (model prog w) A (pyNext (.ref z)) Q E s:=by
 obtain⟨f0,f1,hz0,hf⟩:=id st.zs;have hT:s.TypeIs (.ref z) "zip":=⟨_,hz0,rfl⟩;unfold pyNext;exact wpAny_bind (wpAny_attempt (wpAny_callSpecial?_slot (name:=Str.ofString "__next__") hT Wg
  (Qw Wg hT PySem.F.entry_zip_next
   (zjZ D D1 D2 st.zs st.ti st.to st.s1 st.s2 hi1 hi2 λx y h' tk a1 a2 a3 a4 a5 a6 a7 a8 a9=>Jc (hQ x y h' tk a1 a2 ⟨a3,a9 _ _ D.TIz D.TITO D.TIi1 D.TIi2 st.ti,a4,a5,a6⟩ a7 a8
    λc o hc e=>a9 c o (λz=>hc (by simp[z])) (λz=>hc (by simp[z])) (λz=>hc (by simp[z])) (λz=>hc (by simp[z])) e)) (PySem.F.args_zip_next_1 _))))
theorem end_zip{TI TO:Addr}(D:ZipApart z TI TO i1 i2 l1 l2)(D1:Draws prog w A.in1 i1 [i1,l1] n1 P1 S1)(D2:Draws prog w A.in1 i2 [i2,l2] n2 P2 S2)(st:ZSt z TI TO i1 i2 S1 S2 i s.heap)(he:i=n1\/(i<n1/\i=n2))(hQ:∀h' tk,(∀c o,c∉[z,TO,i1,i2]->s.heap.get? c=some o->h'.get? c=some o)->Q none {s with heap:=h',toks:=tk}):wpAny (model prog w) A (pyNext (.ref z)) Q E s:=by
 obtain⟨f0,f1,hz0,hf⟩:=id st.zs;have hT:s.TypeIs (.ref z) "zip":=⟨_,hz0,rfl⟩;unfold pyNext;refine wpAny_bind (wpAny_attempt (wpAny_callSpecial?_slot (name:=Str.ofString "__next__") hT Wg
  (Qw Wg hT PySem.F.entry_zip_next (zml D D1 D2 st.zs st.ti st.to st.s1 st.s2 he λh' e tk hk he=>?_) (PySem.F.args_zip_next_1 _))))
 obtain⟨o,ho,hc⟩:=he;refine wpAny_bind (wpAny_isInstance (T:="StopIteration") (b:=true) ⟨o,ho,hc⟩ isSubtype_stop ?_);exact Jc (hQ _ _ λc o hc e=>hk c o (λz=>hc (by simp[z])) (λz=>hc (by simp[z])) (λz=>hc (by simp[z])) (λz=>hc (by simp[z])) e)
def SqI(b:Bool)(h:Heap)(l:Addr)(items:Array Value):Prop:=match b with
 |true=>h.IsList l items
 |false=>h.IsTuple l items
def itI(b:Bool)(l:Addr)(k:Nat):Obj:={cls:=.type (match b with|true=>"list_iterator"|false=>"tuple_iterator"),data:=.fields #[.ref l,.int k 0]}
def StI(b:Bool)(it l:Addr)(items:Array Value):Nat->Heap->Prop:=λi h=>match b with
 |true=>h.IsListIter it l i/\h.IsList l items
 |false=>h.IsTupleIter it l i/\h.IsTuple l items
theorem drawsI{prog:Program}{w:World}{A:Around}(hh:A.handled=none)(b:Bool)(it l:Addr)(hne:l≠it)(items:Array Value):
  Draws prog w A it [it,l] items.size (λi v=>items[i]?=some v) (StI b it l items):=by
 cases b
 ·exact drawsT hh it l hne items
 ·exact Draws.list hh it l hne items
theorem SqI.at{b:Bool}{h':Heap}(x:SqI b h l items)(k:∀o,h.get? l=some o->h'.get? l=some o):SqI b h' l items:=by
 cases b
 ·obtain⟨o,ho,r⟩:=x;exact⟨o,k o ho,r⟩
 ·exact Heap.IsList.at x k
theorem zkz{b:Bool}{Q:VS}(hl:SqI b s.heap l items)(hQ:Q (.ref s.heap.objs.size) {s with heap:=s.heap.push (itI b l 0)}):wpAny (model prog w) A (pyIter (.ref l)) Q E s:=by
 cases b
 ·exact QY hl hQ
 ·exact wpAny_pyIter_list hl hQ
theorem stI0{b:Bool}{it:Addr}(h1:h.get? it=some (itI b l 0))(h2:SqI b h l items):StI b it l items 0 h:=by
 cases b
 ·exact⟨⟨_,h1,rfl,rfl⟩,h2⟩
 ·exact⟨⟨_,h1,rfl,rfl⟩,h2⟩
def zH2(b1 b2:Bool)(h:Heap)(l1 l2:Addr):Heap:=(h.push (itI b1 l1 0)).push (itI b2 l2 0)
def zH4(b1 b2:Bool)(h:Heap)(l1 l2:Addr):Heap:=((zH2 b1 b2 h l1 l2).push {cls:=.type "tuple",data:=.seq #[.ref h.objs.size,.ref (h.push (itI b1 l1 0)).objs.size]}).push {cls:=.type "tuple",data:=.seq #[.none,.none]}
def zH5(b1 b2:Bool)(h:Heap)(l1 l2:Addr):Heap:=(zH4 b1 b2 h l1 l2).push {cls:=.type "zip",data:=.fields #[.none,.bool false,.bool false,.ref (zH2 b1 b2 h l1 l2).objs.size,.ref ((zH2 b1 b2 h l1 l2).push {cls:=.type "tuple",data:=.seq #[.ref h.objs.size,.ref (h.push (itI b1 l1 0)).objs.size]}).objs.size]}
theorem zkV(b1 b2:Bool)(l1 l2:Addr)(xs ys:Array Value):
  Meets (Builtin.«zip.__new__» ⟨[.type "zip",.ref l1,.ref l2],[]⟩) (λ_ R s=>SqI b1 s.heap l1 xs/\SqI b2 s.heap l2 ys/\
   R (.ok (.ret (.ref (zH4 b1 b2 s.heap l1 l2).objs.size))) {s with heap:=zH5 b1 b2 s.heap l1 l2}):=
 .of_wp λprog w A R s h=>by
  obtain⟨hp,g,d,tk,os⟩:=s;obtain⟨hl1,hl2,h⟩:=h;have hsub:=sub_zip;have hL1:SqI b1 (Shared.heap ⟨hp,g,d,tk,os⟩) l1 xs:=hl1;have hL2:SqI b2 (Shared.heap ⟨hp.push (itI b1 l1 0),g,d,tk,os⟩) l2 ys:=hl2.at λo e=>Heap.get?_push_of_some _ e
  wp_walk using zkz hL1,zkz hL2
  exact⟨_,rfl,h⟩
theorem call_zip{b1 b2:Bool}{xs ys:Array Value}{Q:VS}(hl1:SqI b1 s.heap l1 xs)(hl2:SqI b2 s.heap l2 ys)(h:∀h',ZSt (s.heap.objs.size+4) (s.heap.objs.size+2) (s.heap.objs.size+3) s.heap.objs.size (s.heap.objs.size+1) (StI b1 s.heap.objs.size l1 xs) (StI b2 (s.heap.objs.size+1) l2 ys) 0 h'->h'.objs.size=s.heap.objs.size+5->
   (∀c o,s.heap.get? c=some o->h'.get? c=some o)->Q (.ref (s.heap.objs.size+4)) {s with heap:=h'}):
  wpAny (model prog w) A (call (.type "zip") [.ref l1,.ref l2]) Q E s:=by
 refine callType_new PySem.F.called_zip (by decide) (PySem.F.typeCall_zip_2 _ _) (PySem.F.newCall_zip_2 _ _) (λobj=>PySem.F.args_object_init_3 obj _ _) PySem.F.entry_zip_new
  (zkV b1 b2 l1 l2 xs ys) ⟨hl1,hl2,?_⟩
 have z1:(s.heap.push (itI b1 l1 0)).objs.size=s.heap.objs.size+1:=Qm ..;have z2:(zH2 b1 b2 s.heap l1 l2).objs.size=s.heap.objs.size+2:=by unfold zH2;rw[Qm,z1]
 have z3:((zH2 b1 b2 s.heap l1 l2).push {cls:=.type "tuple",data:=.seq #[.ref s.heap.objs.size,.ref (s.heap.push (itI b1 l1 0)).objs.size]}).objs.size=s.heap.objs.size+3:=by rw[Qm,z2]
 have z4:(zH4 b1 b2 s.heap l1 l2).objs.size=s.heap.objs.size+4:=by unfold zH4;rw[Qm,z3]
 have z5:(zH5 b1 b2 s.heap l1 l2).objs.size=s.heap.objs.size+5:=by unfold zH5;rw[Qm,z4]
 have fr:∀(b:Bool) (l:Addr) (k:Nat),(itI b l k).isFreed=false:=λb l k=>by cases b<;>rfl
 have g5:(zH5 b1 b2 s.heap l1 l2).get? (zH4 b1 b2 s.heap l1 l2).objs.size=some _:=Heap.get?_push_size _ rfl;have g4:(zH5 b1 b2 s.heap l1 l2).get? _=some _:=Heap.get?_push_of_some _ (Heap.get?_push_size (((zH2 b1 b2 s.heap l1 l2).push {cls:=.type "tuple",data:=.seq #[.ref s.heap.objs.size,.ref (s.heap.push (itI b1 l1 0)).objs.size]})) rfl);have g3:(zH5 b1 b2 s.heap l1 l2).get? _=some _:=Heap.get?_push_of_some _ (Heap.get?_push_of_some _ (Heap.get?_push_size (zH2 b1 b2 s.heap l1 l2) rfl));have g2:(zH5 b1 b2 s.heap l1 l2).get? _=some _:=Heap.get?_push_of_some _ (Heap.get?_push_of_some _ (Heap.get?_push_of_some _ (Heap.get?_push_size (s.heap.push (itI b1 l1 0)) (fr b2 l2 0))));have g1:(zH5 b1 b2 s.heap l1 l2).get? _=some _:=Heap.get?_push_of_some _ (Heap.get?_push_of_some _ (Heap.get?_push_of_some _ (Heap.get?_push_of_some _ (Heap.get?_push_size s.heap (fr b1 l1 0)))));have kp:∀c o,s.heap.get? c=some o->(zH5 b1 b2 s.heap l1 l2).get? c=some o:=λc o x=>Heap.get?_push_of_some _ (Heap.get?_push_of_some _ (Heap.get?_push_of_some _ (Heap.get?_push_of_some _ (Heap.get?_push_of_some _ x))))
 show _/\_;rw[z2,z3,z4]at g5;rw[z1,z2]at g3;rw[z3]at g4;rw[z1]at g2;rw[z4];exact⟨⟨_,g5,rfl⟩,h _ ⟨⟨_,_,g5,.inl rfl⟩,g3,⟨_,_,g4⟩,stI0 g1 (hl1.at λo e=>kp _ o e),stI0 g2 (hl2.at λo e=>kp _ o e)⟩ z5 kp⟩
end
end HT
namespace PySem.F
theorem zip_no_len:typeLookup (.type "zip") "__len__"=pure none:=by rw[typeLookup_type,builtinLookup_eq_fast];kernel_rfl
theorem zip_no_hint:typeLookup (.type "zip") "__length_hint__"=pure none:=by rw[typeLookup_type,builtinLookup_eq_fast];kernel_rfl
end PySem.F
namespace HT
theorem pyIter_zs{prog:Program}{w:World}{A:Around}{E:VS}{s:Shared}{z TI TO:Addr}{Q:VS}(hz:ZS s.heap z TI TO)(h:Q (.ref z) s):wpAny (model prog w) A (pyIter (.ref z)) Q E s:=by obtain⟨f0,f1,hz,_⟩:=hz;have hT:s.TypeIs (.ref z) "zip":=⟨_,hz,rfl⟩;refine wpAny_pyIter_slot hT PySem.F.slot_zip_iter (Qw PySem.F.slot_zip_iter hT PySem.F.entry_zip_iter ?_ (PySem.F.args_zip_iter_1 _));show wpAny _ _ (ret (.ref z)) _ _ s;exact Jc ⟨_,rfl,"zip",_,hT,PySem.F.slot_zip_next.lookup,h⟩
end HT
namespace L2
section
variable{X:Cx}{pins:AO}{σ:St}{H:Hp}{s:Shared}{h':Heap}{ch:List Addr}
theorem Inv.turnedL{t':Nat}(I:Inv X pins σ H s)(hf:∀b∈ch,yL X pins H b)(k:∀b o,b∉ch->s.heap.get? b=some o->h'.get? b=some o):Inv X pins σ H {s with heap:=h',toks:=t'}:=by
 have nch:∀b u,H b=some u->b∉ch:=λb u e z=>by rw[(hf b z).1]at e;cases e
 refine I.step (g':=s.gens) (d':=s.drawn) (ch:=ch) (λb hb=>?_) (λb o _ _ hc e _=>k b o hc e) (λb o _ _ hc e _=>⟨o.slots,k b o hc e⟩) (λ_ _ _ _ n=>n)
  (λb o hc e=>⟨o,k b o hc e⟩) (λ_ _ e=>e) (λ_ _ _ e=>e) (λb ps e=>⟨#[],by rw[e];simp⟩) (λm hm=>?_) (λb u e=>?_) I.bare
 ·obtain⟨f0,f1,f2,f3,f4,f5⟩:=hf b hb;exact⟨f3,f1,f4,f5⟩
 ·obtain⟨o,es,ep,ho,r⟩:=hm;exact⟨o,es,ep,k _ o (λz=>(hf _ z).2.1 rfl) ho,r⟩
 ·refine(I.hok b u e).stay (λc v hc q=>k c v ?_ q) (λ_ q=>q) λ_ _ q=>q
  rcases hc with z|z
  ·rw[z];exact nch b u e
  ·exact nch c _ z
theorem Inv.pairL{t':Nat}{x y:Value}{vx vy:V}(I:Inv X pins σ H s)(hf:∀b∈ch,yL X pins H b)(k:∀b o,b∉ch->s.heap.get? b=some o->h'.get? b=some o)(hT:IsPair h' s.heap.objs.size x y)(rx:zT vx x)(ry:zT vy y):
  Inv X pins σ (upd H s.heap.objs.size (.tup [vx,vy])) {s with heap:=h',toks:=t'}:=by
 have nch:∀b u,H b=some u->b∉ch:=λb u e z=>by rw[(hf b z).1]at e;cases e
 have fr:H s.heap.objs.size=none:=I.fresh;have hok0:HOk X.prog X.w H h':=λb u q=>by
  refine(I.hok b u q).stay (λc v hc q'=>k c v ?_ q') (λ_ z=>z) λ_ _ z=>z
  rcases hc with z|z
  ·rw[z];exact nch b u q
  ·exact nch c _ z
 have new:jV X.prog X.w (upd H s.heap.objs.size (.tup [vx,vy])) h' s.heap.objs.size (.tup [vx,vy]):=
  ⟨by show 2<=sizeLine;rw[Wd];decide,[x,y],.cons rx (.cons ry .nil),⟨_,hT,rfl,_,rfl⟩⟩
 have hok1:HOk X.prog X.w (upd H s.heap.objs.size (.tup [vx,vy])) h':=λb u q=>by
  by_cases hb:b=s.heap.objs.size
  ·subst hb;rw[qR]at q;cases q;exact new
  ·rw[zW hb]at q;exact(hok0 b u q).stay (λ_ _ _ z=>z) (λc z=>by rw[zW (jE z fr)];exact z) λc xs z=>by rw[zW (jE z fr)];exact z
 refine I.step (g':=s.gens) (d':=s.drawn) (ch:=ch) (λb hb=>?_) (λb o _ _ hc e _=>k b o hc e) (λb o _ _ hc e _=>⟨o.slots,k b o hc e⟩)
  (λb o _ q n=>by rw[zW (Jv (Jf q))];exact n) (λb o hc e=>⟨o,k b o hc e⟩) (λb xs q=>by rw[zW (jE q fr)];exact q) (λb o xs q=>by rw[zW (jE q fr)];exact q)
  (λb ps q=>⟨#[],by rw[zW (jE q fr),q];simp⟩) (λm hm=>?_) hok1 I.bare
 ·obtain⟨f0,f1,f2,f3,f4,f5⟩:=hf b hb;exact⟨f3,f1,f4,f5⟩
 ·obtain⟨o,es,ep,ho,r⟩:=hm;exact⟨o,es,ep,k _ o (λz=>(hf _ z).2.1 rfl) ho,r⟩
end
def SqB(b:Bool)(K:Fg)(H:Hp)(a:Addr)(xs:List V):Prop:=match b with
 |true=>SqL K H a xs
 |false=>SqT K H a xs
variable{H:Hp}{s:Shared}{xs:List V}
theorem Inv.sq{X:Cx}{pins:AO}{σ:St}{b:Bool}{a:Addr}(I:Inv X pins σ H s)(h:SqB b X.K H a xs):∃its,zS xs its/\HT.SqI b s.heap a its.toArray/\xs.length<=sizeLine:=by
 cases b
 ·obtain⟨its,r,p,z⟩:=I.tuple h;exact⟨its,r,p,z⟩
 ·obtain⟨its,r,p,z⟩:=I.list h;exact⟨its,r,p.isList,z⟩
def zdE(S:Addr):List (V×V)->List V->Hp->(Hp->Prop)->Prop
 |[],_,H,R=>R H
 |(x,y)::l,acc,H,R=>∀T,H T=none->zdE S l (acc++[.ref T]) (upd (upd H T (.tup [x,y])) S (.lst (acc++[.ref T]))) R
variable{S:Addr}
theorem zeT{R R':Hp->Prop}(w:∀H,R H->R' H):∀{l:List (V×V)}{acc:List V} {H:Hp},zdE S l acc H R->zdE S l acc H R'
 |[],_,_,h=>w _ h
 |(x,y)::l,acc,H,h=>λT hT=>zeT w (h T hT)
variable{z i1 i2 l1 l2:Addr}{b1 b2:Bool}{its1 its2:List Value}{ys:List V}
section
variable{X:Cx}{pins:AO}{σ:St}
theorem zsA{TI TO:Addr}{A:Around}{R:Result->Shared->Prop}{res:Value}(D:ZipApart z TI TO i1 i2 l1 l2)(hA:A.in1.in1.handled=none)(rx:zS xs its1)(ry:zS ys its2)(hn:xs.length<=sizeLine)(nS:S∉[z,TI,TO,i1,i2,l1,l2]):
  ∀(l:List (V×V)) (i:Nat) (s:Shared) (H:Hp) (acc:List V),l=(xs.zip ys).drop i->i<=xs.length->i<=ys.length->acc.length=i->Inv X pins σ H s->(∀b∈[z,TO,i1,i2],yL X pins H b)->H S=some (.lst acc)->
  HT.ZSt z TI TO i1 i2 (HT.StI b1 i1 l1 its1.toArray) (HT.StI b2 i2 l2 its2.toArray) i s.heap->zdE S l acc H (λH'=>∀s',Inv X pins σ H' s'->R (.ok (.ret res)) s')->
  codeAny (model X.prog X.w) A (.builtin "list.extend.loop" ⟨[.ref S,.ref z,res],[]⟩) R s:=by
 have D1:=HT.drawsI (prog:=X.prog) (w:=X.w) (A:=A.in1.in1) hA b1 i1 l1 D.l1i1 its1.toArray;have D2:=HT.drawsI (prog:=X.prog) (w:=X.w) (A:=A.in1.in1) hA b2 i2 l2 D.l2i2 its2.toArray;have e1:=rx.length;have e2:=ry.length;intro l;induction l with
 |nil=>
  intro i s H acc hl hi1 hi2 ha I hf hS st q;have hz:(xs.zip ys).length<=i:=by have:=JV List.length hl;rw[Qv,Qi]at this;omega
  rw[Wa]at hz;refine codeAny_builtin PySem.F.entry_extend_loop ?_;rw[Around.under_plainId QQ _];show wpAny _ A.in1 (pyNext (.ref z)>>=_) _ _ s;refine wpAny_bind (HT.end_zip D D1 D2 st (by simp only[List.size_toArray];omega) λh' tk hk=>Jc ?_);exact q _ (I.turnedL hf hk)
 |cons p l ih=>
  obtain⟨x,y⟩:=p;intro i s H acc hl hi1 hi2 ha I hf hS st q;have hlen:i<(xs.zip ys).length:=by have:=JV List.length hl;rw[Qv,Jl]at this;omega
  have hl2:=hl;rw[Jx hlen]at hl2;injection hl2 with hp hl3;have hlen':=hlen;rw[Wa]at hlen';have hx:xs[i]?=some x:=by rw[List.getElem_zip]at hp;injection hp with hp1 hp2;rw[hp1];simp
  have hy:ys[i]?=some y:=by rw[List.getElem_zip]at hp;injection hp with hp1 hp2;rw[hp2];simp
  obtain⟨u,hu,ru⟩:=rx.get hx;obtain⟨v,hv,rv⟩:=ry.get hy;refine codeAny_builtin PySem.F.entry_extend_loop ?_;rw[Around.under_plainId QQ _];show wpAny _ A.in1 (pyNext (.ref z)>>=_) _ _ s;refine wpAny_bind (HT.next_zip D D1 D2 st (by simp only[List.size_toArray];omega) (by simp only[List.size_toArray];omega) λx' y' h' tk px py st' hT hsz hk=>?_);have ex:x'=u:=by
   have:its1[i]?=some x':=by simpa using px
   rw[hu]at this;exact(Option.some.inj this).symm
  have ey:y'=v:=by
   have:its2[i]?=some y':=by simpa using py
   rw[hv]at this;exact(Option.some.inj this).symm
  subst ex ey;have I1:Inv X pins σ (upd H s.heap.objs.size (.tup [x,y])) {s with heap:=h',toks:=tk}:=I.pairL hf hk hT ru rv;have fr:H s.heap.objs.size=none:=I.fresh;have hST:S≠s.heap.objs.size:=jE hS fr;have hS1:upd H s.heap.objs.size (.tup [x,y]) S=some (.lst acc):=by rw[zW hST];exact hS
  obtain⟨its,n,r,ho,hz⟩:=I1.lst hS1;show wpAny _ A.in1 (updateSeq S (·.push (.ref s.heap.objs.size))>>=_) _ _ _;refine wpAny_bind ?_;have hal:its.length=i:=by rw[←r.length];exact ha
  refine wpAny_updateSeq ho rfl (Jc ⟨plainId_quiet QQ _,?_⟩) (by simp only[List.size_toArray];omega) (by simp only[Array.size_push,List.size_toArray];omega);have I2:=I1.lstUpd hS1 ho (f:=Obj.mapSeq (·.push (.ref s.heap.objs.size))) (its':=its++[.ref s.heap.objs.size]) (ys:=acc++[.ref s.heap.objs.size]) (by simp[Obj.mapSeq];rfl) (r.append (.cons (show zT (.ref s.heap.objs.size) (.ref s.heap.objs.size)from rfl) .nil)) (by rw[Jm,Qa];omega) tk;refine ih (i+1) _ _ (acc++[.ref s.heap.objs.size]) hl3 (by omega) (by omega) (by rw[Jm,Qa,ha]) I2 (λb hb=>?_) qR ?_ (q _ fr)
  ·obtain⟨f0,f1⟩:=hf b hb;refine⟨?_,f1⟩;have hbS:b≠S:=λz=>nS (by subst z;simp at hb ⊢;rcases hb with h|h|h|h<;>simp[h])
   have hbT:b≠s.heap.objs.size:=by
    intro z;subst z;obtain⟨q1,q2,q3,_⟩:=st.zs;obtain⟨a1,a2,q4⟩:=st.to;obtain⟨o1,q5⟩:=D1.live _ _ st.s1;obtain⟨o2,q6⟩:=D2.live _ _ st.s2;simp at hb;rcases hb with h|h|h|h
    ·rw[←h]at q3;exact JZ _ (Jf q3)
    ·rw[←h]at q4;exact JZ _ (Jf q4)
    ·rw[←h]at q5;exact JZ _ (Jf q5)
    ·rw[←h]at q6;exact JZ _ (Jf q6)
   rw[zW hbS,zW hbT];exact f0
  ·have kk:∀c o,c≠S->h'.get? c=some o->(h'.update S (Obj.mapSeq (·.push (.ref s.heap.objs.size)))).get? c=some o:=λc o hc e=>(Heap.get?_update_other _ _ (Ne.symm hc)).trans e
   obtain⟨q1,q2,q3,q3'⟩:=st'.zs;obtain⟨a1,a2,q4⟩:=st'.to;refine⟨⟨q1,q2,kk _ _ (λz=>nS (by simp[←z])) q3,q3'⟩,kk _ _ (λz=>nS (by simp[←z])) st'.ti,⟨a1,a2,kk _ _ (λz=>nS (by simp[←z])) q4⟩,D1.frame _ _ _ st'.s1 λb hb o e=>kk b o ?_ e,D2.frame _ _ _ st'.s2 λb hb o e=>kk b o ?_ e⟩
   ·intro z;subst z;simp at hb;exact nS (by rcases hb with h|h<;>simp[h])
   ·intro z;subst z;simp at hb;exact nS (by rcases hb with h|h<;>simp[h])
theorem zgq{TI TO:Addr}{Q:VK}(D:ZipApart z TI TO i1 i2 l1 l2)(hc:X.calm=true)(rx:zS xs its1)(ry:zS ys its2)(hn:xs.length<=sizeLine)(I:Inv X pins σ H s)(hf:∀b∈[z,TO,i1,i2],yL X pins H b)(st:HT.ZSt z TI TO i1 i2 (HT.StI b1 i1 l1 its1.toArray) (HT.StI b2 i2 l2 its2.toArray) 0 s.heap)(q:∀S,H S=none->zdE S (xs.zip ys) [] (upd H S (.lst [])) λH'=>Q (.ref S) H'):
  wpAny (model X.prog X.w) X.A (call (.type "list") [.ref z]) (EP X pins σ Q) X.xe s:=by
 have hh:X.A.in1.in1.in1.in1.handled=none:=I.ok.hd hc;have D1:=HT.drawsI (prog:=X.prog) (w:=X.w) (A:=X.A.in1.in1.in1.in1) hh b1 i1 l1 D.l1i1 its1.toArray;have D2:=HT.drawsI (prog:=X.prog) (w:=X.w) (A:=X.A.in1.in1.in1.in1) hh b2 i2 l2 D.l2i2 its2.toArray;have lt:∀b∈[z,TI,TO,i1,i2,l1,l2],b<s.heap.objs.size:=λb hb=>by
  obtain⟨q1,q2,q3,_⟩:=st.zs;obtain⟨a1,a2,q4⟩:=st.to;obtain⟨o1,q5⟩:=D1.live _ _ st.s1;obtain⟨o2,q6⟩:=D2.live _ _ st.s2;have q7:=st.ti;have q8:∃o,s.heap.get? l1=some o:=by
   have h:=st.s1;cases b1
   ·obtain⟨o,ho,_⟩:=h.2;exact⟨o,ho⟩
   ·obtain⟨o,ho,_⟩:=h.2;exact⟨o,ho⟩
  have q9:∃o,s.heap.get? l2=some o:=by
   have h:=st.s2;cases b2
   ·obtain⟨o,ho,_⟩:=h.2;exact⟨o,ho⟩
   ·obtain⟨o,ho,_⟩:=h.2;exact⟨o,ho⟩
  obtain⟨o8,q8⟩:=q8;obtain⟨o9,q9⟩:=q9;simp at hb;rcases hb with h|h|h|h|h|h|h<;>rw[h]
  ·exact Jf q3
  ·exact Jf q7
  ·exact Jf q4
  ·exact Jf q5
  ·exact Jf q6
  ·exact Jf q8
  ·exact Jf q9
 have nS:s.heap.objs.size∉[z,TI,TO,i1,i2,l1,l2]:=λhm=>JZ _ (lt _ hm)
 have mv:∀(h1 h2:Heap),(∀b o,b≠s.heap.objs.size->h1.get? b=some o->h2.get? b=some o)->HT.ZSt z TI TO i1 i2 (HT.StI b1 i1 l1 its1.toArray) (HT.StI b2 i2 l2 its2.toArray) 0 h1->HT.ZSt z TI TO i1 i2 (HT.StI b1 i1 l1 its1.toArray) (HT.StI b2 i2 l2 its2.toArray) 0 h2:=λh1 h2 k st=>by
  obtain⟨q1,q2,q3,q3'⟩:=st.zs;obtain⟨a1,a2,q4⟩:=st.to;refine⟨⟨q1,q2,k _ _ (λz=>nS (by simp[←z])) q3,q3'⟩,k _ _ (λz=>nS (by simp[←z])) st.ti,⟨a1,a2,k _ _ (λz=>nS (by simp[←z])) q4⟩,D1.frame _ _ _ st.s1 λb hb o e=>k b o ?_ e,D2.frame _ _ _ st.s2 λb hb o e=>k b o ?_ e⟩
  ·intro z;subst z;simp at hb;exact nS (by rcases hb with h|h<;>simp[h])
  ·intro z;subst z;simp at hb;exact nS (by rcases hb with h|h<;>simp[h])
 have fr:H s.heap.objs.size=none:=I.fresh;refine callType_codes (Q₁:=λobj s₁=>obj=.ref s.heap.objs.size/\s₁={s with heap:=s.heap.push {cls:=.type "list",data:=.seq #[]}}) PySem.F.called_list (PySem.F.typeCall_list_1 _) PySem.F.entry_list_init
  (code_list_new _ ⟨rfl,rfl⟩) λobj s₁ h₁=>?_
 obtain⟨rfl,rfl⟩:=h₁;have hS:(s.heap.push {cls:=.type "list",data:=.seq #[]}).get? s.heap.objs.size=some {cls:=.type "list",data:=.seq #[]}:=Heap.get?_push_size _ rfl;have st1:HT.ZSt z TI TO i1 i2 (HT.StI b1 i1 l1 its1.toArray) (HT.StI b2 i2 l2 its2.toArray) 0 (s.heap.push {cls:=.type "list",data:=.seq #[]}):=mv _ _ (λb o _ e=>Heap.get?_push_of_some _ e) st;refine⟨⟨_,hS,rfl⟩,PySem.F.args_list_init_2 _ _,?_⟩;show wpAny _ X.A.in1.in1 (do let old ←Builtin.List.listItems (.ref s.heap.objs.size);Builtin.List.listUpdate (.ref s.heap.objs.size) (λ_=>#[]);letGo old.toList.reverse;Builtin.List.listExtendWith (.ref s.heap.objs.size) (.ref z) .none) _ _ _;refine wpAny_bind ?_;unfold Builtin.List.listItems;refine wpAny_bind (Qy hS rfl (Jc ?_));show wpAny _ X.A.in1.in1 (updateSeq s.heap.objs.size (λ_=>#[])>>=λ_=>letGo (#[]:Array Value).toList.reverse>>=λ_=>Builtin.List.listExtendWith (.ref s.heap.objs.size) (.ref z) .none) _ _ _;refine wpAny_bind (wpAny_updateSeq hS rfl ?_);have hS₂:=Heap.get?_update_self (Obj.mapSeq λ_=>(#[]:Array Value)) hS rfl;refine wpAny_bind (wpAny_letGo ?_);have st2:=mv _ ((s.heap.push {cls:=.type "list",data:=.seq #[]}).update s.heap.objs.size (Obj.mapSeq λ_=>(#[]:Array Value))) (λb o hb e=>(Heap.get?_update_other _ _ (Ne.symm hb)).trans e) st1;obtain⟨q1,q2,q3,q3'⟩:=id st2.zs;unfold Builtin.List.listExtendWith;refine wpAny_bind (wpAny_typeOf (T:="zip") ⟨_,q3,rfl⟩ ?_);have hSz:s.heap.objs.size≠z:=λe=>nS (by simp[e])
 have h1:Builtin.List.listSameRef (.ref s.heap.objs.size) (.ref z)=false:=by simp[Builtin.List.listSameRef,hSz]
 have h2:(Value.type "zip"==Value.type "list")=false:=by decide
 have h3:(Value.type "zip"==Value.type "tuple")=false:=by decide
 simp only[h1,h2,h3,Bool.or_false,Bool.false_eq_true,if_false];refine wpAny_bind (HT.pyIter_zs st2.zs ?_);refine wpAny_bind (JH ?_);unfold Builtin.List.listLengthHint;refine wpAny_bind (wpAny_specialOf (T:="zip") ⟨_,q3,rfl⟩ PySem.F.zip_no_len ?_);show wpAny _ X.A.in1.in1 (specialOf (Value.ref z) (Str.ofString "__length_hint__")>>=_) _ _ _;refine wpAny_bind (wpAny_specialOf (T:="zip") ⟨_,q3,rfl⟩ PySem.F.zip_no_hint ?_);refine Jc ?_;show wpAny _ X.A.in1.in1 (rule "list.extend.makes-room">>=λ_=>Builtin.List.listTouch (.ref s.heap.objs.size)>>=λ_=>
  again (.builtin "list.extend.loop" ⟨[.ref s.heap.objs.size,.ref z,.none],[]⟩)) _ _ _
 refine wpAny_bind (QX ?_);refine wpAny_bind ?_;show wpAny _ X.A.in1.in1 (updateSeq s.heap.objs.size (·.push .none)>>=λ_=>updateSeq s.heap.objs.size (·.pop)) _ _ _;refine wpAny_bind (wpAny_updateSeq hS₂ rfl ?_);have hS₃:=Heap.get?_update_self (Obj.mapSeq (·.push Value.none)) hS₂ rfl;refine wpAny_updateSeq (hz:=by seq_fits) hS₃ rfl ?_;have hS₄:=Heap.get?_update_self (Obj.mapSeq (·.pop)) hS₃ rfl;have st4:=mv _ ((((s.heap.push {cls:=.type "list",data:=.seq #[]}).update s.heap.objs.size (Obj.mapSeq λ_=>(#[]:Array Value))).update s.heap.objs.size (Obj.mapSeq (·.push Value.none))).update s.heap.objs.size (Obj.mapSeq (·.pop)))
  (λb o hb e=>(Heap.get?_update_other _ _ (Ne.symm hb)).trans ((Heap.get?_update_other _ _ (Ne.symm hb)).trans e)) st2
 have I4:Inv X pins σ (upd H s.heap.objs.size (.lst [])) {s with heap:=(((s.heap.push {cls:=.type "list",data:=.seq #[]}).update s.heap.objs.size (Obj.mapSeq λ_=>(#[]:Array Value))).update s.heap.objs.size (Obj.mapSeq (·.push Value.none))).update s.heap.objs.size (Obj.mapSeq (·.pop))}:=by
  refine I.laid (t':=s.toks) (λb u e=>?_) (Jd _) ?_
  ·have hb:b≠s.heap.objs.size:=Jv (Jf e);exact(Heap.get?_update_other _ _ (Ne.symm hb)).trans ((Heap.get?_update_other _ _ (Ne.symm hb)).trans ((Heap.get?_update_other _ _ (Ne.symm hb)).trans (Heap.get?_push_of_some _ e)))
  ·exact⟨JD _,[],_,.nil,hS₄⟩
 refine Jc ⟨plainId_quiet QQ _,zsA (A:=X.A.in1) D (I.ok.hd hc) rx ry hn nS _ 0 _ _ [] rfl (JD _) (JD _) rfl I4 (λb hb=>?_) qR st4 ?_⟩
 ·obtain⟨f0,f1⟩:=hf b hb;refine⟨?_,f1⟩;rw[zW λz=>nS (by subst z;simp at hb ⊢;rcases hb with h|h|h|h<;>simp[h])];exact f0
 ·exact zeT (λH' h s' I'=>⟨rfl,.ref s.heap.objs.size,H',I',rfl,h⟩) (q _ fr)
theorem zmk{a1 a2:Addr}{Q:VS}{E:VS}(I:Inv X pins σ H s)(h1:SqB b1 X.K H a1 xs)(h2:SqB b2 X.K H a2 ys)(k:∀z TI TO i1 i2 its1 its2 s',ZipApart z TI TO i1 i2 a1 a2->zS xs its1->zS ys its2->xs.length<=sizeLine->Inv X pins σ H s'->(∀b∈[z,TO,i1,i2],yL X pins H b)->HT.ZSt z TI TO i1 i2 (HT.StI b1 i1 a1 its1.toArray) (HT.StI b2 i2 a2 its2.toArray) 0 s'.heap->Q (.ref z) s'):
  wpAny (model X.prog X.w) X.A (call (.type "zip") [.ref a1,.ref a2]) Q E s:=by
 obtain⟨its1,r1,p1,z1⟩:=I.sq h1;obtain⟨its2,r2,p2,z2⟩:=I.sq h2;have lt:∀{b:Bool}{a:Addr} {its:Array Value},HT.SqI b s.heap a its->a<s.heap.objs.size:=λ{b a its} h=>by
  cases b
  ·obtain⟨o,e,_⟩:=h;exact Jf e
  ·obtain⟨o,e,_⟩:=h;exact Jf e
 refine HT.call_zip p1 p2 λh' st hsz hk=>?_
 refine k _ _ _ _ _ its1 its2 _ (zipApart_new (lt p1) (lt p2)) r1 r2 z1 (I.kept (t':=s.toks) hk) (λb hb=>?_) st;have hb':s.heap.objs.size<=b:=by simp only[List.mem_cons,List.not_mem_nil,or_false]at hb;rcases hb with h|h|h|h<;>rw[h]<;>first|exact Nat.le_add_right _ _|exact Jd _
 exact I.fpOk hb' (I.hok.fresh hb')
def zrY(K:Fg)(ta:TA):TE:=λσ H Q=>ta σ H λvs H1=>∃b1 b2 a1 a2 xs ys,vs=[.ref a1,.ref a2]/\SqB b1 K H1 a1 xs/\SqB b2 K H1 a2 ys/\∀S,H1 S=none->zdE S (xs.zip ys) [] (upd H1 S (.lst [])) (λH'=>Q (.ref S) H')
theorem zjA{a b:Expr}{ta:TA}{p p2 p3 pos:Pos}(hc:X.calm=true)(hg:Gl X "list")(hm:X.mg "list"=none)(hg2:Gl X "zip")(hm2:X.mg "zip"=none)(ha:PA X [a,b] ta)(hs:starEach [a,b] X.env=[(false,eval a X.env),(false,eval b X.env)]:=by rfl)(hs2:starEach [b] X.env=[(false,eval b X.env)]:=by rfl)(hs3:starEach [.Call (.Name "zip" p2) [a,b] [] p3] X.env=[(false,eval (.Call (.Name "zip" p2) [a,b] [] p3) X.env)]:=by rfl):
  PE X (.Call (.Name "list" p) [.Call (.Name "zip" p2) [a,b] [] p3] [] pos) (zrY X.K ta):=by
 intro pins s σ H Q I h;refine QZ (nK I hg hm boot_list ?_);refine JE ?_ hs3 rfl;rw[hs3];show wpAny _ _ (spliced ((false,eval (.Call (.Name "zip" p2) [a,b] [] p3) X.env)::backTo pos (starEach [] X.env))) _ _ s;refine QK (QZ (nK I hg2 hm2 boot_zip ?_));refine JE (thn (ha p3 pins s σ H _ I h) λus s1 ⟨vs,H1,I1,r1,q1⟩=>?_) (by rw[hs,hs2]) (by rw[hs2];rfl);obtain⟨b1,b2,a1,a2,xs,ys,rfl,e1,e2,q⟩:=q1;obtain⟨u1,u2,rfl,ru1,ru2⟩:=zos r1;cases ru1
 cases ru2
 refine zmk I1 e1 e2 λz TI TO i1 i2 its1 its2 s' D rx ry hn I' hf st=>?_
 exact Calls.spliced_nil (zgq D hc rx ry hn I' hf st q)
end
end L2
namespace HT
def ItS(b:Bool)(it l:Addr):Nat->Heap->Prop:=λi h=>match b with
 |true=>h.IsListIter it l i
 |false=>h.IsTupleIter it l i
variable{l:Addr}{i:Nat}{h:Heap}
theorem ItS.at{b:Bool}{it:Addr}{h':Heap}(x:ItS b it l i h)(k:∀o,h.get? it=some o->h'.get? it=some o):ItS b it l i h':=by
 cases b
 ·exact Heap.IsTupleIter.at x k
 ·exact Heap.IsListIter.at x k
theorem ItS.some{b:Bool}{it:Addr}(x:ItS b it l i h):∃o,h.get? it=some o/\∀v,o.data≠.cell v:=by
 cases b
 ·obtain⟨o,e,c,d⟩:=x;exact⟨o,e,λv z=>by rw[d]at z;cases z⟩
 ·obtain⟨o,e,c,d⟩:=x;exact⟨o,e,λv z=>by rw[d]at z;cases z⟩
variable{items:Array Value}
theorem ItS.st{b:Bool}{it:Addr}(x:ItS b it l i h)(y:SqI b h l items):StI b it l items i h:=by
 cases b
 ·exact⟨x,y⟩
 ·exact⟨x,y⟩
theorem StI.it{b:Bool}{it:Addr}(x:StI b it l items i h):ItS b it l i h:=by
 cases b
 ·exact x.1
 ·exact x.1
theorem go_zip{prog:Program}{w:World}{A:Around}{E:VS}{s:Shared}{tg:Expr}{z TI TO T:Addr}{Q:Unit->Shared->Prop}(hz:ZS s.heap z TI TO)(hQ:∀h',ZS h' z TI TO->Heap.SameBut z s.heap h'->Q () {s with heap:=h'}):wpAny (model prog w) A (letOwnedTupleGo tg (.ref z) (.ref T)) Q E s:=by
 have h0:Q () s:=hQ s.heap hz ⟨rfl,λ_ _=>rfl⟩;obtain⟨f0,f1,hz0,hf⟩:=hz;unfold letOwnedTupleGo;cases tg<;>first
  |exact Jc h0
  | (refine wpAny_bind (wpAny_load hz0 ?_)
     show wpAny _ A (if(["enumerate","zip","dict_itemiterator","dict_reverseitemiterator","odict_iterator","itertools.zip_longest","itertools.pairwise"].contains "zip"&&(#[f0,f1,.bool false,.ref TI,.ref TO]:Array Value)[0]? ==some (rawInt T))=true then _ else _) Q E s;refine wpAny_ite_split (λ_=>wpAny_bind (QX ?_)) (λ_=>Jc h0)
     show wpAny _ _ (setField (.ref z) 0 .none) Q E s;exact Qk hz0 (by simp) λh' hz' hs'=>hQ h' ⟨_,_,hz',.inl rfl⟩ hs')
end HT
namespace L2
def Itz(K:Fg)(b1 b2:Bool)(a1 a2:Addr):It:=
 ⟨λi H=>∃xs ys x y,SqB b1 K H a1 xs/\SqB b2 K H a2 ys/\xs[i]?=some x/\ys[i]?=some y,
  λi H x H'=>∃p v u,H p=none/\x=.ref p/\H'=upd H p (.tup [v,u])/\(∀xs,SqB b1 K H a1 xs->xs[i]?=some v)/\∀ys,SqB b2 K H a2 ys->ys[i]?=some u,
  λi H=>∃xs ys,SqB b1 K H a1 xs/\SqB b2 K H a2 ys/\i=min xs.length ys.length⟩
theorem Inv.sq_inj{X:Cx}{pins:AO}{σ:St}{H:Hp}{s:Shared}{b:Bool}{a:Addr}{xs ys:List V}(I:Inv X pins σ H s)(h1:SqB b X.K H a xs)(h2:SqB b X.K H a ys):xs=ys:=by
 cases b
 ·exact I.tuple_inj h1 h2
 ·exact I.list_inj h1 h2
variable{P:Program}{w:World}{K:Fg}{tg:Expr}
theorem zmn{b1 b2:Bool}{z TI TO i1 i2 a1 a2:Addr}(D:ZipApart z TI TO i1 i2 a1 a2):
  Turn P w K tg (Itz K b1 b2 a1 a2) [z,TI,TO,i1,i2] z (λi h=>HT.ZSt z TI TO i1 i2 (HT.ItS b1 i1 a1) (HT.ItS b2 i2 a2) i h)where
 mem:=by simp
 obj:=λi h st b hb=>by
  obtain⟨⟨f0,f1,hz,_⟩,ti,⟨p,q,to⟩,s1,s2⟩:=st;simp only[List.mem_cons,List.not_mem_nil,or_false]at hb;rcases hb with e|e|e|e|e<;>rw[e]
  ·exact⟨_,hz,λv y=>by cases(show Data.fields _=Data.cell v from y)⟩
  ·exact⟨_,ti,λv y=>by cases(show Data.seq _ _=Data.cell v from y)⟩
  ·exact⟨_,to,λv y=>by cases(show Data.seq _ _=Data.cell v from y)⟩
  ·exact s1.some
  ·exact s2.some
 keep:=λi h h' st k=>by obtain⟨⟨f0,f1,hz,hf⟩,ti,⟨p,q,to⟩,s1,s2⟩:=st;exact⟨⟨f0,f1,k z (by simp) _ hz,hf⟩,k TI (by simp) _ ti,⟨p,q,k TO (by simp) _ to⟩,s1.at λo e=>k i1 (by simp) o e,s2.at λo e=>k i2 (by simp) o e⟩
 item:=by
  intro X hP hw hK hc i pins s σ H E I hf st hg;subst hP hw hK;obtain⟨xs,ys,x,y,h1,h2,hx,hy⟩:=hg;obtain⟨its1,rx,p1,z1⟩:=I.sq h1;obtain⟨its2,ry,p2,z2⟩:=I.sq h2;obtain⟨u,hu,ru⟩:=rx.get hx;obtain⟨v,hv,rv⟩:=ry.get hy;have D1:=HT.drawsI (prog:=X.prog) (w:=X.w) (A:=X.A.in1) (I.ok.hd hc) b1 i1 a1 D.l1i1 its1.toArray;have D2:=HT.drawsI (prog:=X.prog) (w:=X.w) (A:=X.A.in1) (I.ok.hd hc) b2 i2 a2 D.l2i2 its2.toArray;have st':HT.ZSt z TI TO i1 i2 (HT.StI b1 i1 a1 its1.toArray) (HT.StI b2 i2 a2 its2.toArray) i s.heap:=⟨st.zs,st.ti,st.to,st.s1.st p1,st.s2.st p2⟩;have hl1:=(List.getElem?_eq_some_iff.mp hu).1;have hl2:=(List.getElem?_eq_some_iff.mp hv).1;have hf4:∀b∈[z,TO,i1,i2],yL X pins H b:=λb hb=>hf b (by simp only[List.mem_cons,List.not_mem_nil,or_false]at hb ⊢;rcases hb with e|e|e|e<;>simp[e])
  refine HT.next_zip D D1 D2 st' (by simpa using hl1) (by simpa using hl2) λx' y' h' tk px py st2 hT hsz hk=>⟨_,rfl,?_⟩
  have ex:x'=u:=by
   have:its1[i]?=some x':=by simpa using px
   rw[hu]at this;exact(Option.some.inj this).symm
  have ey:y'=v:=by
   have:its2[i]?=some y':=by simpa using py
   rw[hv]at this;exact(Option.some.inj this).symm
  subst ex ey;have I1:Inv X pins σ (upd H s.heap.objs.size (.tup [x,y])) {s with heap:=h',toks:=tk}:=I.pairL hf4 hk hT ru rv;have fr:H s.heap.objs.size=none:=I.fresh;have hlt:∀b∈[z,TI,TO,i1,i2],b≠s.heap.objs.size:=λb hb=>by obtain⟨⟨f0,f1,hz,_⟩,ti,⟨p,q,to⟩,s1,s2⟩:=st;obtain⟨o1,s1,_⟩:=s1.some;obtain⟨o2,s2,_⟩:=s2.some;simp only[List.mem_cons,List.not_mem_nil,or_false]at hb;rcases hb with e|e|e|e|e<;>rw[e]<;>apply Jv<;>first|exact Jf hz|exact Jf ti|exact Jf to|exact Jf s1|exact Jf s2
  refine HT.go_zip st2.zs λhh zs2 hs2=>?_
  have I2:Inv X pins σ (upd H s.heap.objs.size (.tup [x,y])) {s with heap:=hh,toks:=tk}:=I1.turnedL (ch:=[z]) (t':=tk) (λb hb=>by rw[Wc.mp hb];obtain⟨f0,f1⟩:=hf z (by simp);exact⟨by rw[zW (hlt z (by simp))];exact f0,f1⟩) λb o hb e=>hs2.extBut _ _ (λq=>hb (by simp[q])) e
  refine⟨.ref s.heap.objs.size,_,I2,rfl,⟨s.heap.objs.size,x,y,fr,rfl,rfl,λws hw=>by rw[I.sq_inj hw h1];exact hx,λws hw=>by rw[I.sq_inj hw h2];exact hy⟩,?_,λb hb=>?_⟩
  ·obtain⟨p,q,to⟩:=st2.to;exact⟨zs2,hs2.extBut _ _ D.TIz st2.ti,⟨p,q,hs2.extBut _ _ D.TOz to⟩,(HT.StI.it st2.s1).at λo e=>hs2.extBut _ _ D.i1z e,(HT.StI.it st2.s2).at λo e=>hs2.extBut _ _ D.i2z e⟩
  ·rw[zW (hlt b hb)];exact(hf b hb).1
 done:=by
  intro X hP hw hK hc i pins s σ H E I hf st hg;subst hP hw hK;obtain⟨xs,ys,h1,h2,he⟩:=hg;obtain⟨its1,rx,p1,z1⟩:=I.sq h1;obtain⟨its2,ry,p2,z2⟩:=I.sq h2;have e1:=rx.length;have e2:=ry.length;have D1:=HT.drawsI (prog:=X.prog) (w:=X.w) (A:=X.A.in1) (I.ok.hd hc) b1 i1 a1 D.l1i1 its1.toArray;have D2:=HT.drawsI (prog:=X.prog) (w:=X.w) (A:=X.A.in1) (I.ok.hd hc) b2 i2 a2 D.l2i2 its2.toArray;have st':HT.ZSt z TI TO i1 i2 (HT.StI b1 i1 a1 its1.toArray) (HT.StI b2 i2 a2 its2.toArray) i s.heap:=⟨st.zs,st.ti,st.to,st.s1.st p1,st.s2.st p2⟩;have hf4:∀b∈[z,TO,i1,i2],yL X pins H b:=λb hb=>hf b (by simp only[List.mem_cons,List.not_mem_nil,or_false]at hb ⊢;rcases hb with e|e|e|e<;>simp[e])
  exact HT.end_zip D D1 D2 st' (by simp only[List.size_toArray];omega) λh' tk hk=>⟨rfl,I.turnedL hf4 hk⟩
 self:=λA i s Q E st h=>HT.pyIter_zs st.zs h
variable{a:Expr}{ta:TA}{p pos:Pos}
section
variable{X:Cx}{pins:AO}{σ:St}
def iZip(K:Fg)(ta:TA):TI:=λσ H R=>ta σ H λvs H1=>∃b1 b2 a1 a2 xs ys,vs=[.ref a1,.ref a2]/\SqB b1 K H1 a1 xs/\SqB b2 K H1 a2 ys/\R (Itz K b1 b2 a1 a2) H1
theorem zqA{b:Expr}(hg:Gl X "zip")(hm:X.mg "zip"=none)(ha:PA X [a,b] ta)(hs:starEach [a,b] X.env=[(false,eval a X.env),(false,eval b X.env)]:=by rfl)(hs2:starEach [b] X.env=[(false,eval b X.env)]:=by rfl):PI X tg (.Call (.Name "zip" p) [a,b] [] pos) (iZip X.K ta):=by
 intro pins s σ H R I h;refine Call_ (nK I hg hm boot_zip (JE (thn (ha pos pins s σ H _ I h) λus s1 ⟨vs,H1,I1,r1,q1⟩=>?_) (by rw[hs,hs2]) (by rw[hs2];rfl)));obtain⟨b1,b2,a1,a2,xs,ys,rfl,e1,e2,q⟩:=q1;obtain⟨u1,u2,rfl,ru1,ru2⟩:=zos r1;cases ru1
 cases ru2
 obtain⟨its1,rx,p1,z1⟩:=I1.sq e1;obtain⟨its2,ry,p2,z2⟩:=I1.sq e2;have lt:∀{b:Bool}{a:Addr} {its:Array Value},HT.SqI b s1.heap a its->a<s1.heap.objs.size:=λ{b a its} h=>by
  cases b
  ·obtain⟨o,e,_⟩:=h;exact Jf e
  ·obtain⟨o,e,_⟩:=h;exact Jf e
 refine HT.call_zip p1 p2 λh' st hsz hk=>?_
 have I2:Inv X pins σ H1 {s1 with heap:=h'}:=I1.kept (t':=s1.toks) hk;refine HT.pyIter_zs st.zs ?_;refine⟨_,_,_,_,H1,rfl,I2,zmn (b1:=b1) (b2:=b2) (zipApart_new (lt p1) (lt p2)),⟨st.zs,st.ti,st.to,HT.StI.it st.s1,HT.StI.it st.s2⟩,λb hb=>?_,q⟩;have hb':s1.heap.objs.size<=b:=by simp only[List.mem_cons,List.not_mem_nil,or_false]at hb;rcases hb with h|h|h|h|h<;>rw[h]<;>first|exact Nat.le_add_right _ _|exact Jd _
 exact I1.fpOk hb' (I1.hok.fresh hb')
end
def Itrv(K:Fg)(a:Addr)(n:Nat):It:=
 ⟨λi H=>i<n/\∃xs,SqL K H a xs/\xs.length=n,λi H x H'=>H'=H/\∀xs,SqL K H a xs->xs[n - 1 - i]?=some x,λi H=>i=n⟩
theorem zmo(a it:Addr)(n:Nat):Turn P w K tg (Itrv K a n) [it] it (λi h=>i<=n/\h.IsRevIter it a ((n:Int) - 1 - i))where
 mem:=by simp
 obj:=λi h st b hb=>by obtain⟨_,o,e,c,d⟩:=st;rw[Wc.mp hb];exact⟨o,e,λv z=>by rw[d]at z;cases z⟩
 keep:=λi h h' st k=>⟨st.1,st.2.at λo e=>k it (by simp) o e⟩
 item:=by
  intro X hP hw hK hc i pins s σ H E I hf st hg;subst hP hw hK;obtain⟨hi,xs,hq,hn⟩:=hg;obtain⟨its,rv,p,hz⟩:=I.list hq;have hx:xs[n - 1 - i]?=some (xs[n - 1 - i]'(by omega)):=by simp
  obtain⟨u,hu,ru⟩:=rv.get hx;have fi:=hf it (by simp);have e:(n:Int) - 1 - i=((n - 1 - i:Nat):Int):=by omega
  have hit:=st.2;rw[e]at hit;refine wpAny_pyNext_rev_item hit p.isList (by simpa using hu) λh' hit' hs'=>⟨_,rfl,?_⟩
  obtain⟨o,ho,hc',hd⟩:=id hit';obtain⟨f0,f1,f2,f3,f4,f5⟩:=fi;refine znm ho hc' hd (by decide) ⟨_,H,I.turned (t':=s.toks) (λb o hb e=>hs'.extBut _ _ hb e) f0 f1 f3 f4 f5,ru,⟨rfl,λys hy=>by rw[I.list_inj hy hq];exact hx⟩,⟨by omega,?_⟩,λb hb=>(hf b hb).1⟩;have e2:(n:Int) - 1 - ((i+1:Nat):Int)=((n - 1 - i:Nat):Int) - 1:=by omega
  rw[e2];exact hit'
 done:=by
  intro X hP hw hK hc i pins s σ H E I hf st hg;subst hP hw hK;have hg:i=n:=hg;subst hg;have e:(i:Int) - 1 - i=-1:=by omega
  have hit:=st.2;rw[e]at hit;obtain⟨f0,f1,f2,f3,f4,f5⟩:=hf it (by simp);exact wpAny_pyNext_rev_end (I.ok.hd hc) hit λh' hx=>⟨rfl,I.turned (t':=s.toks) (λb o hb e=>hx b o hb e) f0 f1 f3 f4 f5⟩
 self:=λA i s Q E st h=>wpAny_pyIter_revIter st.2 h
section
variable{X:Cx}
def iRev(K:Fg)(ta:TA):TI:=λσ H R=>ta σ H λvs H1=>∃a xs,vs=[.ref a]/\SqL K H1 a xs/\R (Itrv K a xs.length) H1
theorem pi_rev(hg:Gl X "reversed")(hm:X.mg "reversed"=none)(ha:PA X [a] ta)(hs:starEach [a] X.env=[(false,eval a X.env)]:=by rfl):PI X tg (.Call (.Name "reversed" p) [a] [] pos) (iRev X.K ta):=by
 intro pins s σ H R I h;refine Call_ (nK I hg hm boot_reversed (JE (thn (ha pos pins s σ H _ I h) λus s1 ⟨vs,H1,I1,r1,q1⟩=>?_) hs rfl));obtain⟨a,xs,rfl,hq,q⟩:=q1;obtain⟨u,rfl,ru⟩:=gF r1;cases ru
 obtain⟨its,rv,p,hz⟩:=I1.list hq;refine call_reversed_list p.isList ?_;have hit:(s1.heap.push (revObj a ((its.toArray.size:Int) - 1))).IsRevIter s1.heap.objs.size a ((xs.length:Int) - 1 - (0:Nat)):=by refine⟨_,Heap.get?_push_size _ rfl,rfl,?_⟩;show Data.fields _=_;rw[Jb,←rv.length];simp
 have I2:Inv X pins σ H1 {s1 with heap:=s1.heap.push (revObj a ((its.toArray.size:Int) - 1))}:=I1.kept (t':=s1.toks) λb o e=>Heap.get?_push_of_some _ e
 refine wpAny_pyIter_revIter hit ?_;refine⟨_,_,_,_,H1,rfl,I2,zmo a _ xs.length,⟨JD _,hit⟩,λb hb=>?_,q⟩;rw[Wc.mp hb];exact I1.fpOk (Jd _) (I1.hok.fresh (Jd _))
end
end L2
namespace FL
open L2
def vD(xs ys:List D):List D:=List.zipWith (λx y=>.tup [x,y]) xs ys
noncomputable def zipD(x y:D):Option D:=(itS x).bind λa=>(itS y).map λb=>.lst (vD a b)
variable{a tg:Expr}{fa:EO D}{p:Pos}
section
variable{K:Fg}{X:Cx}{pos:Pos}
theorem Dat.seqB{F:Hp}{d:D}{v:V}{l:List D}(h:Dat K F d v)(e:itS d=some l):∃b a vs,v=.ref a/\(∀H,zP F H->SqB b K H a vs)/\zF K F l vs:=by
 cases d<;>simp only[itS]at e<;>try(cases e;done)
 ·cases e
  obtain⟨a,vs,rfl,f,q⟩:=h.tup_inv;exact⟨false,a,vs,rfl,λH s=>SqT.of (s _ _ f),q⟩
 ·cases e
  obtain⟨a,vs,rfl,f,q⟩:=h.lst_inv;exact⟨true,a,vs,rfl,λH s=>SqL.of (s _ _ f),q⟩
 ·cases e
  obtain⟨a,rfl,f⟩:=h.scr_inv;exact⟨true,a,_,rfl,λH s=>zP.seq s f,zF.ofInts _⟩
theorem znI{F H:Hp}{S:Addr}{R:Hp->Prop}(hS0:H S=none):∀(xs ys:List D) (vs us:List V) (acc:List V) (dn:List D) (F' H':Hp),zK F H F' H'->F' S=none->H' S=some (.lst acc)->zF K F' dn acc->zF K F' xs vs->zF K F' ys us->
  (∀F2 H2 acc2,zK F H F2 H2->F2 S=none->H2 S=some (.lst acc2)->zF K F2 (dn++vD xs ys) acc2->R H2)->zdE S (vs.zip us) acc H' R
 |[],ys,vs,us,acc,dn,F',H',g,fS,hS,da,dx,dy,q=>by rw[dx.nil_inv];exact q F' H' acc g fS hS (by simpa[vD]using da)
 |x::xs,[],vs,us,acc,dn,F',H',g,fS,hS,da,dx,dy,q=>by rw[dy.nil_inv,List.zip_nil_right];exact q F' H' acc g fS hS (by simpa[vD]using da)
 |x::xs,y::ys,vs,us,acc,dn,F',H',g,fS,hS,da,dx,dy,q=>by
  obtain⟨v,vs,rfl,h1,h2⟩:=dx.cons_inv;obtain⟨u,us,rfl,h3,h4⟩:=dy.cons_inv;intro T hT;have hTS:S≠T:=jE hS hT;have fT:F' T=none:=g.fh.free hT;have g2:=zK.frozen (o:=.tup [v,u]) g.fh hT;have fS2:upd F' T (.tup [v,u]) S=none:=by rw[zW hTS];exact fS
  have g3:zK F H (upd F' T (.tup [v,u])) (upd (upd H' T (.tup [v,u])) S (.lst (acc++[.ref T]))):=by have gg:=g.trans g2;exact⟨gg.ff,λb o e=>by rw[zW (jE e hS0)];exact gg.hh _ _ e,λb o e=>by rw[zW (jE e fS2)];exact gg.fh _ _ e,gg.nw⟩
  refine znI hS0 xs ys vs us (acc++[.ref T]) (dn++[.tup [x,y]]) _ _ g3 fS2 qR ((da.mono g2.ff).snoc (Dat.tup (K:=K) qR (zF.cons (h1.mono g2.ff) (zF.cons (h3.mono g2.ff) zF.nil)))) (h2.mono g2.ff) (h4.mono g2.ff) λF2 H2 acc2 a b c d=>q F2 H2 acc2 a b c ?_
  simpa[vD]using d
theorem zkb{x y d:D}(h:zipD x y=some d):∃a b,itS x=some a/\itS y=some b/\d=.lst (vD a b):=by
 unfold zipD at h;cases e1:itS x with
 |none=>rw[e1]at h;cases h
 |some a=>
  cases e2:itS y with
  |none=>rw[e1,e2]at h;cases h
  |some b=>rw[e1,e2]at h;cases h;exact⟨a,b,rfl,rfl,rfl⟩
theorem zrx{b:Expr}{fb:EO D}{p2 p3:Pos}(hc:X.calm=true)(hg:Gl X "list")(hm:X.mg "list"=none)(hg2:Gl X "zip")(hm2:X.mg "zip"=none)(ha:FP K .fz X a fa)(hb:FP K .fz X b fb)(hs:starEach [a,b] X.env=[(false,eval a X.env),(false,eval b X.env)]:=by rfl)(hs2:starEach [b] X.env=[(false,eval b X.env)]:=by rfl)(hs3:starEach [.Call (.Name "zip" p2) [a,b] [] p3] X.env=[(false,eval (.Call (.Name "zip" p2) [a,b] [] p3) X.env)]:=by rfl)(hK:X.K=K:=by rfl):
  FP K .ow X (.Call (.Name "list" p) [.Call (.Name "zip" p2) [a,b] [] p3] [] pos) (c2 zipD fa fb):=FP.mk λρ d hf=>by
 subst hK;obtain⟨x,y,e1,e2,e3⟩:=zba hf;obtain⟨xs,ys,i1,i2,rfl⟩:=zkb e3;refine PE.imp (zjA hc hg hm hg2 hm2 (yW (ha.h ρ x e1) (yW (hb.h ρ y e2) wO hs2) (by rw[hs,hs2])) hs hs2 hs3) λσ H Q h_=>?_
 obtain⟨F,rl,q⟩:=h_;refine⟨F,rl,λv F1 H1 g1 r1=>⟨F1,rl.grow g1,λu F2 H2 g2 r2=>?_⟩⟩;obtain⟨b1,a1,vs,rfl,s1,q1⟩:=Dat.seqB (K:=X.K) (F:=F1) r1 i1;obtain⟨b2,a2,us,rfl,s2,q2⟩:=Dat.seqB (K:=X.K) (F:=F2) r2 i2;refine⟨b1,b2,a1,a2,vs,us,rfl,s1 H2 (g2.ff.trans g2.fh),s2 H2 g2.fh,λS hS=>?_⟩;have g:=g1.trans g2;have g':zK F H F2 (upd H2 S (.lst [])):=g.trans (zK.fresh g2.fh hS);refine znI (g.hh.free hS) xs ys vs us [] [] F2 _ g' (g2.fh.free hS) qR zF.nil (q1.mono g2.ff) q2 λF3 H3 acc2 g3 f3 h3 d3=>?_
 exact q _ F3 H3 g3 ⟨S,rfl,g.hh.free hS,f3,acc2,h3,d3⟩
noncomputable def cZ(f g:EO D):EO (List D):=λρ=>(f ρ).bind λx=>(g ρ).bind λy=>(itS x).bind λa=>(itS y).map λb=>vD a b
theorem izip{b:Expr}{fb:EO D}(ha:FP K .fz X a fa)(hb:FP K .fz X b fb)(hg:Gl X "zip")(hm:X.mg "zip"=none)(hs:starEach [a,b] X.env=[(false,eval a X.env),(false,eval b X.env)]:=by rfl)(hs2:starEach [b] X.env=[(false,eval b X.env)]:=by rfl)(hK:X.K=K:=by rfl):
  FI K X tg (.Call (.Name "zip" p) [a,b] [] pos) (cZ fa fb):=FI.mk λρ ds hf=>by
 subst hK;unfold cZ at hf;cases e1:fa ρ with
 |none=>rw[e1]at hf;cases hf
 |some x=>
  cases e2:fb ρ with
  |none=>rw[e1]at hf;simp[e2]at hf
  |some y=>
   cases i1:itS x with
   |none=>rw[e1]at hf;simp[e2,i1]at hf
   |some xs=>
    cases i2:itS y with
    |none=>rw[e1]at hf;simp[e2,i1,i2]at hf
    |some ys=>
     rw[e1]at hf;simp[e2,i1,i2]at hf;subst hf;refine PI.imp (zqA hg hm (yW (ha.h ρ x e1) (yW (hb.h ρ y e2) wO hs2) (by rw[hs,hs2])) hs hs2) λσ H R h_=>?_
     obtain⟨F,rl,q⟩:=h_;refine⟨F,rl,λv F1 H1 g1 r1=>⟨F1,rl.grow g1,λu F2 H2 g2 r2=>?_⟩⟩;obtain⟨b1,a1,vs,rfl,s1,q1⟩:=Dat.seqB (K:=X.K) (F:=F1) r1 i1;obtain⟨b2,a2,us,rfl,s2,q2⟩:=Dat.seqB (K:=X.K) (F:=F2) r2 i2;refine⟨b1,b2,a1,a2,vs,us,rfl,s1 H2 (g2.ff.trans g2.fh),s2 H2 g2.fh,q _ F2 H2 (g1.trans g2) λF3 H3 f3 h3=>?_⟩;have t1:=s1 H3 (g2.ff.trans (f3.trans h3));have t2:=s2 H3 (f3.trans h3);have l1:=q1.length;have l2:=q2.length;refine⟨λi hi=>?_,λi x H4 d hd y=>?_,?_⟩
     ·have hi':i<xs.length/\i<ys.length:=by
       have:i<min xs.length ys.length:=by simpa[vD]using hi
       omega
      exact⟨vs,us,vs[i]'(by omega),us[i]'(by omega),t1,t2,by simp,by simp⟩
     ·obtain⟨pp,v,u,hp,rfl,rfl,k1,k2⟩:=y;have hi':i<xs.length/\i<ys.length:=by
       have:=(List.getElem?_eq_some_iff.mp hd).1
       have:i<min xs.length ys.length:=by simpa[vD]using this
       omega
      have hd':d=.tup [xs[i],ys[i]]:=by unfold vD at hd;rw[List.getElem?_eq_getElem (by rw[List.length_zipWith];omega)]at hd;simpa using hd.symm
      subst hd';obtain⟨w1,m1,n1⟩:=q1.get (List.getElem?_eq_getElem hi'.1);obtain⟨w2,m2,n2⟩:=q2.get (List.getElem?_eq_getElem hi'.2);rw[k1 vs t1]at m1;cases m1
      rw[k2 us t2]at m2;cases m2
      have g:=zK.frozen (o:=.tup [v,u]) h3 hp;exact⟨_,g,Dat.tup (K:=X.K) qR (zF.cons ((n1.mono (g2.ff.trans f3)).mono g.ff) (zF.cons ((n2.mono f3).mono g.ff) zF.nil))⟩
     ·exact⟨vs,us,t1,t2,by simp[vD];omega⟩
noncomputable def cRv(f:EO D):EO (List D):=λρ=>match f ρ with
 |some (.lst l)=>some l.reverse
 |_=>none
theorem irev(ha:FP K .fz X a fa)(hg:Gl X "reversed")(hm:X.mg "reversed"=none)(hs:starEach [a] X.env=[(false,eval a X.env)]:=by rfl)(hK:X.K=K:=by rfl):
  FI K X tg (.Call (.Name "reversed" p) [a] [] pos) (cRv fa):=FI.mk λρ ds hf=>by
 subst hK;unfold cRv at hf;split at hf
 ·rename_i l e1;cases hf
  refine PI.imp (L2.pi_rev hg hm (yW (ha.h ρ _ e1) wO hs) hs) λσ H R ⟨F,rl,q⟩=>⟨F,rl,λv F1 H1 g1 r1=>?_⟩
  obtain⟨a,vs,rfl,f1,q1⟩:=Dat.lst_inv (K:=X.K) (F:=F1) r1;have hl:=q1.length;refine⟨a,vs,rfl,SqL.of (g1.fh _ _ f1),q _ F1 H1 g1 λF2 H2 f2 h2=>?_⟩;have hs:SqL X.K H2 a vs:=SqL.of (h2 _ _ (f2 _ _ f1));refine⟨λi hi=>⟨by rw[Qh]at hi;omega,vs,hs,rfl⟩,λi x H3 d hd y=>?_,by show _=_;rw[Qh,hl]⟩;obtain⟨rfl,y⟩:=y;have hi:i<l.length:=by have:=(List.getElem?_eq_some_iff.mp hd).1;rwa[Qh]at this
  rw[List.getElem?_reverse hi]at hd;obtain⟨w,hw,dw⟩:=q1.get hd
  have:=y vs hs;rw[hl,hw]at this;cases this
  exact⟨F2,zK.refl h2,dw.mono f2⟩
 ·cases hf
noncomputable def vN(i:Nat)(fk fe:EO D):EO Fl:=λρ=>match ρ[i]?,fe ρ,fk ρ with
 |some (some (.ow pp (.lst l))),some d,some (.int k)=>(ixN l.length k).map λj=>.nx (ρ.set i (some (.ow pp (.lst (l.set j d)))))
 |_,_,_=>none
end
end FL
namespace L2
variable{o:Option V}{u:Value}{y:V}
section
variable{κ:Type}[DecidableEq κ]
noncomputable def yT(kvs:List (κ×V))(k:κ):Option V:=(kvs.find? λkv=>decide (kv.1=k)).map (·.2)
def kD(kvs:List (κ×V))(k:κ)(v:V):List (κ×V):=
 if(kvs.any λkv=>decide (kv.1=k))=true then kvs.map (λkv=>if kv.1=k then(kv.1,v)else kv)else kvs++[(k,v)]
theorem zdx{p:κ×V}{r:List (κ×V)}{k:κ}(e:p.1=k):yT (p::r) k=some p.2:=by simp[yT,List.find?_cons,e]
theorem zdy{p:κ×V}{r:List (κ×V)}{k:κ}(e:¬p.1=k):yT (p::r) k=yT r k:=by simp[yT,List.find?_cons,e]
theorem ziA(k:κ):∀kvs:List (κ×V),(kvs.any λkv=>decide (kv.1=k))=(yT kvs k).isSome
 |[]=>rfl
 |p::r=>by
  rw[QW];by_cases e:p.1=k
  ·simp only[zdx e,decide_eq_true e,Bool.true_or,Option.isSome_some]
  ·rw[zdy e,JA e,Bool.false_or];exact ziA k r
theorem zay(kvs:List (κ×V))(k:κ)(v:V):(kD kvs k v).length<=kvs.length+1:=by
 unfold kD;split
 ·rw[Ja];omega
 ·rw[Jm,Jl,Qi];omega
theorem gD.isSome_eq{u:Option Value}(r:gD o u):o.isSome=u.isSome:=by
 cases o with
 |none=>cases u with
  |none=>rfl
  |some _=>exact(show False from r).elim
 |some _=>cases u with
  |none=>exact(show False from r).elim
  |some _=>rfl
theorem gD.getD{u:Option Value}{d:V}{d':Value}(r:gD o u)(rd:zT d d'):zT (o.getD d) (u.getD d'):=by
 cases o with
 |none=>cases u with
  |none=>exact rd
  |some _=>exact(show False from r).elim
 |some _=>cases u with
  |none=>exact(show False from r).elim
  |some _=>exact r
theorem KV.val{kvs:List (κ×V)}{vs:List (κ×Value)}(r:KV kvs vs)(k:κ):gD (yT kvs k) (valueAt vs k):=by
 unfold KV at r;induction r with
 |nil=>exact True.intro
 |@cons p q ps qs h t ih=>
  obtain⟨h1,h2⟩:=h;by_cases e:p.1=k
  ·have e':q.1=k:=h1.symm.trans e;have b:valueAt (q::qs) k=some q.2:=by simp[valueAt,List.find?_cons,e']
   rw[zdx e,b];exact h2
  ·have e':¬q.1=k:=λz=>e (h1.trans z)
   have b:valueAt (q::qs) k=valueAt qs k:=by simp[valueAt,List.find?_cons,e']
   rw[zdy e,b];exact ih
theorem KV.any{kvs:List (κ×V)}{vs:List (κ×Value)}(r:KV kvs vs)(k:κ):(kvs.any λkv=>decide (kv.1=k))=vs.any λkv=>decide (kv.1=k):=by
 unfold KV at r;induction r with
 |nil=>rfl
 |cons h t ih=>rw[QW,QW,ih,h.1]
theorem KV.repl{kvs:List (κ×V)}{vs:List (κ×Value)}(r:KV kvs vs)(k:κ)(ry:zT y u):
  KV (kvs.map λkv=>if kv.1=k then(kv.1,y)else kv) (vs.map λkv=>if kv.1=k then(kv.1,u)else kv):=by
 unfold KV at r ⊢;induction r with
 |nil=>exact .nil
 |@cons p q ps qs h t ih=>
  rw[Jg,Jg];refine .cons ?_ ih;obtain⟨h1,h2⟩:=h;by_cases e:p.1=k
  ·rw[if_pos e,if_pos (h1.symm.trans e)];exact⟨h1,ry⟩
  ·rw[if_neg e,if_neg λz=>e (h1.trans z)];exact⟨h1,h2⟩
theorem KV.put{kvs:List (κ×V)}{vs:List (κ×Value)}(r:KV kvs vs)(k:κ)(ry:zT y u):KV (kD kvs k y) (stored vs k u):=by
 unfold kD stored;rw[r.any k];by_cases e:(vs.any λkv=>decide (kv.1=k))=true
 ·rw[if_pos e,if_pos e];exact r.repl k ry
 ·rw[if_neg e,if_neg e];exact Paired.snoc r ⟨rfl,ry⟩
theorem KV.length{kvs:List (κ×V)}{vs:List (κ×Value)}(r:KV kvs vs):kvs.length=vs.length:=Paired.length r
end
variable{P:Program}{w:World}
theorem zfQ{k:Key}(r:zT (kV k) u):(yE P w).is k u=true:=by
 cases k with
 |inl i=>obtain⟨t,e⟩:=(show∃t,u=Value.int i t from r);subst e;exact zia P w i t
 |inr x=>obtain⟨t,e⟩:=(show∃t,u=Value.str x t from r);subst e;exact zhZ P w x t
theorem zhf:∀{ks:List Key}{us:List Value},zS (ks.map kV) us->ItemsAre (yE P w) ks us
 |[],_,r=>by rw[Qs]at r;cases r;exact .nil
 |k::ks,_,r=>by
  rw[Jg]at r;cases r with
  |cons h t=>exact .cons (zfQ h) (zhf t)
abbrev KT(H:Hp):List (List Key×V)->List (List Key×Addr×Value)->Prop:=Paired λp q=>p.1=q.1/\H q.2.1=some (.tup (p.1.map kV))/\zT p.2 q.2.2
variable{H:Hp}{kvs:List (List Key×V)}{xs:List (List Key×Addr×Value)}
theorem KT.val(r:KT H kvs xs)(k:List Key):gD (yT kvs k) ((atKey xs k).map (·.2)):=by
 induction r with
 |nil=>exact True.intro
 |@cons p q ps qs h t ih=>
  obtain⟨h1,_,h2⟩:=h;by_cases e:p.1=k
  ·have e':q.1=k:=h1.symm.trans e;have b:atKey (q::qs) k=some q.2:=by simp[atKey,List.find?_cons,e']
   rw[zdx e,b];exact h2
  ·have e':¬q.1=k:=λz=>e (h1.trans z)
   have b:atKey (q::qs) k=atKey qs k:=by simp[atKey,List.find?_cons,e']
   rw[zdy e,b];exact ih
theorem KT.repl(r:KT H kvs xs)(k:List Key)(ry:zT y u):
  KT H (kvs.map λkv=>if kv.1=k then(kv.1,y)else kv) (xs.map (putAt k u)):=by
 induction r with
 |nil=>exact .nil
 |@cons p q ps qs h t ih=>
  rw[Jg,Jg];refine .cons ?_ ih;obtain⟨h1,h2,h3⟩:=h;unfold putAt;by_cases e:p.1=k
  ·rw[if_pos e,if_pos (h1.symm.trans e)];exact⟨h1,h2,ry⟩
  ·rw[if_neg e,if_neg λz=>e (h1.trans z)];exact⟨h1,h2,h3⟩
theorem KT.put(r:KT H kvs xs)(k:List Key){b:Addr}(hb:H b=some (.tup (k.map kV)))(ry:zT y u):
  KT H (kD kvs k y) (storedH xs k b u):=by
 have e:(kvs.any λkv=>decide (kv.1=k))=(atKey xs k).isSome:=by rw[ziA,(r.val k).isSome_eq,Option.isSome_map]
 unfold kD storedH;rw[e];by_cases q:(atKey xs k).isSome=true
 ·rw[if_pos q,if_pos q];exact r.repl k ry
 ·rw[if_neg q,if_neg q];exact Paired.snoc r ⟨rfl,hb,ry⟩
variable{H':Hp}
theorem KT.keeps(r:KT H kvs xs)(ht:∀b ys,H b=some (.tup ys)->H' b=some (.tup ys)):KT H' kvs xs:=
 Paired.mapP r λ_ _ z=>⟨z.1,ht _ _ z.2.1,z.2.2⟩
section
variable{P:Program}{w:World}{H:Hp}{h:Heap}{a:Addr}
theorem zqq{u:HO}(ok:HOk P w H h)(e:Rd H a u):jV P w H h a u:=e.ok ok
theorem zhq{kvs:List (Key×V)}(ok:HOk P w H h)(e:Rd H a (.dK kvs)):kvs.length<=sizeLine/\(a==sysModules)=false/\∃vs,KV kvs vs/\h.DictOf (yE P w) a vs:=
 show jV P w H h a (.dK kvs)from zqq ok e
theorem znv{kvs:List (Key×V)}(ok:HOk P w H h)(e:H a=some (.dK kvs)):kvs.length<=sizeLine/\(a==sysModules)=false/\∃vs,KV kvs vs/\h.DictOf (yE P w) a vs:=zhq ok (.inl e)
theorem zff{ks:List Key}(ok:HOk P w H h)(e:H a=some (.tup (ks.map kV))):(tupleKind (yE P w)).is h ks a:=by obtain⟨_,its,r,o,h1,h2,n,h3⟩:=(show jV P w H h a (.tup (ks.map kV))from ok a _ e);exact⟨o,its.toArray,n,h1,h2,h3,by simpa using zhf r⟩
theorem zil(ok:HOk P w H h)(e:Rd H a (.dT kvs)):kvs.length<=sizeLine/\(a==sysModules)=false/\
  ∃xs,KT H kvs xs/\h.DictOfH (tupleKind (yE P w)) a xs:=by
 obtain⟨z,y,xs,r,o,es,ep,h1,h2,h3,h4,h5⟩:=(show jV P w H h a (.dT kvs)from zqq ok e);refine⟨z,y,xs,r,o,es,ep,h1,h2,h3,h4,λx hx=>?_,h5⟩;have all:∀{l:List (List Key×V)}{m:List (List Key×Addr×Value)},KT H l m->∀x∈m,(tupleKind (yE P w)).is h x.1 x.2.1:=by
  intro l m q;induction q with
  |nil=>intro x hx;exact nomatch hx
  |@cons p q ps qs hq t ih=>
   intro x hx;rcases JC.mp hx with e|hx
   ·subst e;exact zff ok (by rw[←hq.1];exact hq.2.1)
   ·exact ih x hx
 exact all r x hx
theorem zsO(ok:HOk P w H h)(e:H a=some (.dT kvs)):kvs.length<=sizeLine/\(a==sysModules)=false/\
  ∃xs,KT H kvs xs/\h.DictOfH (tupleKind (yE P w)) a xs:=zil ok (.inl e)
end
def DGet(H:Hp)(a:Addr)(y:V)(r:Option V):Prop:=
 (∃kvs k,Rd H a (.dK kvs)/\y=kV k/\r=yT kvs k)\/∃kvs k b,Rd H a (.dT kvs)/\y=.ref b/\H b=some (.tup (k.map kV))/\r=yT kvs k
def DPut(H:Hp)(a:Addr)(y v:V)(H':Hp):Prop:=
 (∃kvs k,H a=some (.dK kvs)/\y=kV k/\kvs.length<sizeLine/\H'=upd H a (.dK (kD kvs k v)))\/
 ∃kvs k b,H a=some (.dT kvs)/\y=.ref b/\H b=some (.tup (k.map kV))/\kvs.length<sizeLine/\H'=upd H a (.dT (kD kvs k v))
variable{a:Addr}
theorem DPut.k{kvs:List (Key×V)}{k:Key}{v:V}(e:H a=some (.dK kvs))(hl:kvs.length<sizeLine):DPut H a (kV k) v (upd H a (.dK (kD kvs k v))):=.inl ⟨kvs,k,e,rfl,hl,rfl⟩
variable{Q:VS}{h':Heap}
section
variable{X:Cx}{pins:AO}{σ:St}{H:Hp}{s:Shared}{a:Addr}{y v:V}{u r:Value}{o:Option V}{A:Around}{E:VS}
theorem Inv.big(I:Inv X pins σ H s):sysModules<s.heap.objs.size:=by have h:mainGlobals<s.heap.objs.size:=(I.mod.glob.keeps I.bk).lt;exact Nat.lt_trans (by decide) h
theorem zlQ(hu:A.units+1<cLine)(I:Inv X pins σ H s)(g:DGet H a y (some v))(ry:zT y u)(h:∀w' s',Inv X pins σ H s'->zT v w'->Q w' s'):
  wpAny (model X.prog X.w) A (getItem (.ref a) u) Q E s:=by
 rcases g with⟨kvs,k,e,ey,l⟩|⟨kvs,k,b,e,ey,eb,l⟩
 ·subst ey;obtain⟨z,hd,vs,rel,dd⟩:=zhq I.hok e;obtain⟨w',hw,rw'⟩:=gD.some_of (v:=v) (o:=valueAt vs k) (by rw[l];exact rel.val k);exact wpAny_getItem_of (zfQ ry) dd.mapOf hw (h w' _ (I.tok _) rw')
 ·subst ey;cases(show u=Value.ref b from ry)
  obtain⟨z,hd,xs,rel,dd⟩:=zil I.hok e;obtain⟨w',hw,rw'⟩:=gD.some_of (v:=v) (o:=(atKey xs k).map (·.2)) (by rw[l];exact rel.val k);obtain⟨p,hp,hp2⟩:=Qz.mp hw;refine wpAny_getItem_heap (Wb hu) (zff I.hok eb) dd hp ?_;rw[hp2];exact h w' _ (I.tok _) rw'
theorem d_in(hu:A.units+1<cLine)(I:Inv X pins σ H s)(g:DGet H a y o)(ry:zT y u)(h:∀s',Inv X pins σ H s'->Q (.bool o.isSome) s'):
  wpAny (model X.prog X.w) A (compareOp .In u (.ref a)) Q E s:=by
 rcases g with⟨kvs,k,e,ey,l⟩|⟨kvs,k,b,e,ey,eb,l⟩
 ·subst ey;obtain⟨z,hd,vs,rel,dd⟩:=zhq I.hok e;refine wpAny_in_of (zfQ ry) hd dd.mapOf ?_;rw[←(rel.val k).isSome_eq,←l];exact h _ (I.tok _)
 ·subst ey;cases(show u=Value.ref b from ry)
  obtain⟨z,hd,xs,rel,dd⟩:=zil I.hok e;refine wpAny_in_heap (Wb hu) (zff I.hok eb) hd dd ?_;have q:=(rel.val k).isSome_eq;rw[Option.isSome_map]at q;rw[←q,←l];exact h _ (I.tok _)
theorem zpF(hu:A.units+1<cLine)(I:Inv X pins σ H s)(g:DGet H a y o)(ry:zT y u)(h:∀s',Inv X pins σ H s'->Q (.bool (!o.isSome)) s'):
  wpAny (model X.prog X.w) A (compareOp .NotIn u (.ref a)) Q E s:=by
 rcases g with⟨kvs,k,e,ey,l⟩|⟨kvs,k,b,e,ey,eb,l⟩
 ·subst ey;obtain⟨z,hd,vs,rel,dd⟩:=zhq I.hok e;refine wpAny_notIn_of (zfQ ry) hd dd.mapOf ?_;rw[←(rel.val k).isSome_eq,←l];exact h _ (I.tok _)
 ·subst ey;cases(show u=Value.ref b from ry)
  obtain⟨z,hd,xs,rel,dd⟩:=zil I.hok e;refine wpAny_notIn_heap (Wb hu) (zff I.hok eb) hd dd ?_;have q:=(rel.val k).isSome_eq;rw[Option.isSome_map]at q;rw[←q,←l];exact h _ (I.tok _)
theorem zez{t':Nat}{ob:HO}(I:Inv X pins σ H s)(mu:Mut (H a))(hs:Heap.SameBut a s.heap h')(he:∃q,h'.get? a=some q)(new:jV X.prog X.w (upd H a ob) h' a ob):
  Inv X pins σ (upd H a ob) {s with heap:=h',toks:=t'}:=
 I.write (x:=a) (e:=a) mu (.inl rfl) (λb q hb z=>(hs.2 b hb).trans z) he new
theorem zjg{kvs:List (Key×V)}{vs:List (Key×Value)}(z:kvs.length<=sizeLine)(hd:(a==sysModules)=false)(rel:KV kvs vs)(dd:h'.DictOf (yE P w) a vs):
  jV P w H' h' a (.dK kvs):=⟨z,hd,vs,rel,dd⟩
theorem zlP{Q:Unit->Shared->Prop}(hu:A.units+1<cLine)(I:Inv X pins σ H s)(g:DPut H a y v H')(ry:zT y u)(rv:zT v r)(h:∀s',Inv X pins σ H' s'->Q () s'):
  wpAny (model X.prog X.w) A (setItem (.ref a) u r) Q E s:=by
 rcases g with⟨kvs,k,e,ey,l,eH⟩|⟨kvs,k,b,e,ey,eb,l,eH⟩
 ·subst ey eH;obtain⟨z,hd,vs,rel,dd⟩:=znv I.hok e;have hz:vs.length<=sizeLine:=by rw[←rel.length];exact z
  have hl:(kD kvs k v).length<=sizeLine:=by have:=zay kvs k v;omega
  refine wpAny_setItem_pairs (hsz:=hz) (zfQ ry) dd λh' dd' hs=>h _ ?_
  have he:∃q,h'.get? a=some q:=let⟨q,_,_,hq,_⟩:=dd';⟨q,hq⟩
  exact zez I (by rw[e];exact True.intro) hs he (zjg hl hd (rel.put k rv) dd')
 ·subst ey eH;cases(show u=Value.ref b from ry)
  obtain⟨z,hd,xs,rel,dd⟩:=zsO I.hok e;have hz:xs.length<=sizeLine:=by rw[←Paired.length rel];exact z
  have hl:(kD kvs k v).length<=sizeLine:=by have:=zay kvs k v;omega
  refine wpAny_setItem_heap (hsz:=hz) (Wb hu) (zff I.hok eb) dd λh' dd' hs=>h _ ?_
  obtain⟨q,es,ep,hq,h2,h3,h4,_,h5⟩:=dd';refine zez I (by rw[e];exact True.intro) hs ⟨q,hq⟩ ⟨hl,hd,_,(rel.put k eb rv).keeps λc ys ec=>?_,q,es,ep,hq,h2,h3,h4,h5⟩;rw[zW (zsy ec e λz=>nomatch z)];exact ec
end
section
variable{X:Cx}{pins:AO}{σ:St}{H:Hp}{s:Shared}{a:Addr}{kvs:List (Key×V)}{k:Key}{u:Value}{A:Around}{E:VS}
theorem zsP(I:Inv X pins σ H s)(e:Rd H a (.dK kvs))(h:∀t s',Inv X pins σ H s'->Q (.int kvs.length t) s'):wpAny (model X.prog X.w) A (call (.builtin "len") [.ref a]) Q E s:=by obtain⟨z,hd,vs,rel,dd⟩:=zhq I.hok e;refine call_len_dict hd dd (by rw[←rel.length];rw[Wd]at z;omega) ?_;rw[←rel.length];exact h _ _ (I.tok _)
end
def NoSl(i:Expr):Prop:=∀ov iv,subscripted i false ov iv=operate [ov,iv] (getItem ov iv)
variable{s:Shared}{pos:Pos}
theorem zow{prog:Program}{A:Around}{E:VS}{env:Env}{value slice:Expr}{T id:String}(hl:typeLookup (.type T) "__getitem__"=pure (some (.builtin id)))(hs:NoSl slice)(h:wpAny (model prog w) A (eval value env) (λo s₁=>wpAny (model prog w) A (eval slice env) (λi s₂=>s₂.TypeIs o T/\wpAny (model prog w) A (getItem o i) Q E s₂) E s₁) E s):
  wpAny (model prog w) A (eval (.Subscript value slice pos) env) Q E s:=by
 refine Subscript_ (JJ h (λo s₁ h₁=>JJ h₁ (λi s₂ h₂=>?_) λ_ _ x=>x) λ_ _ x=>x);obtain⟨hT,h₂⟩:=h₂;unfold subscriptTail;refine wpAny_bind ?_;rw[getitemInPython_of_ne hT.not_modules];refine wpAny_bind (wpAny_specialOf hT hl ?_);have fin:wpAny (model prog w) A (subscripted slice false o i) (λr s₃=>wpAny (model prog w) A (letTemporaryGo value o r>>=λ_=>pure r) Q E s₃) E s₂:=by rw[hs o i];exact wpAny_operating (JJ h₂ (λr s₃ h₃=>wpAny_bind (wpAny_letTemporaryGo (Jc h₃))) λ_ _ x=>x)
 first
  |exact Jc (wpAny_bind fin)
  |exact wpAny_bind (Jc (wpAny_bind fin))
  |exact wpAny_bind fin
variable{X:Cx}{pins:AO}{σ:St}
theorem zim(I:Inv X pins σ H s)(g:DGet H a y o):s.TypeIs (.ref a) "dict":=by
 rcases g with⟨kvs,k,e,_,_⟩|⟨kvs,k,b,e,_,_,_⟩
 ·obtain⟨_,_,vs,_,dd⟩:=zhq I.hok e;exact dd.typeIs
 ·obtain⟨_,_,xs,_,dd⟩:=zil I.hok e;exact dd.typeIs
def zse(td ty:TE):TE:=λσ H Q=>td σ H λx H1=>ty σ H1 λy H2=>∃a v,x=.ref a/\DGet H2 a y (some v)/\Q v H2
section
variable{X:Cx}{o i e value:Expr}{pos pos' tpos:Pos}{td ty tv:TE}
theorem zoS(hu:X.A.units+1<cLine)(ho:PE X o td)(hi:PE X i ty)(hs:NoSl i):PE X (.Subscript o i pos) (zse td ty):=by intro pins s σ H Q I h;refine zow PySem.F.slot_dict_getitem.lookup hs (thn (ho pins s σ H _ I h) λu s1 ⟨x,H1,I1,rx,q1⟩=>thn (hi pins s1 σ H1 _ I1 q1) λiv s2 ⟨y,H2,I2,ry,a,v,ex,g,q2⟩=>?_);subst ex;obtain rfl:u=Value.ref a:=rx;exact⟨zim I2 g,zlQ hu I2 g ry λw' s3 I3 rw'=>⟨v,H2,I3,rw',q2⟩⟩
end
theorem zge(h:Heap)(hb:sysModules<h.objs.size):jV P w H (h.push {cls:=.type "dict",data:=.dict #[]}) h.objs.size (.dK []):=
 ⟨JD _,beq_eq_false_iff_ne.mpr (Ne.symm (Jv hb)),[],.nil,Heap.DictOf.new h⟩
def zqc:TE:=λ_ H Q=>∀p,H p=none->Q (.ref p) (upd H p (.dK []))
section
variable{X:Cx}{pos:Pos}
theorem zmL:PE X (.Dict [] [] pos) zqc:=λpins s σ H Q I h=>
 wpAny_Dict_empty ⟨.ref s.heap.objs.size,_,I.laid (a:=s.heap.objs.size) (o:=.dK []) (t':=s.toks) (λ_ _ q=>Heap.get?_push_of_some _ q) (Jd _) (zge s.heap I.big),rfl,h _ (I.hok.fresh (Jd _))⟩
end
def zkn:List (TE×TE)->St->Hp->(List (V×V)->Hp->Prop)->Prop
 |[],_,H,Q=>Q [] H
 |(tk,tv)::r,σ,H,Q=>tk σ H λx H1=>tv σ H1 λy H2=>zkn r σ H2 λps H3=>Q ((x,y)::ps) H3
abbrev VV:List (V×V)->List (Value×Value)->Prop:=Paired λp q=>zT p.1 q.1/\zT p.2 q.2
def PPs(X:Cx)(pos:Pos)(keys:List (Option Expr))(values:List Expr)(trs:List (TE×TE)):Prop:=
 ∀(pins:AO) (s:Shared) (σ:St) (H:Hp) (Q:List (V×V)->Hp->Prop),Inv X pins σ H s->zkn trs σ H Q->
  wpAny (model X.prog X.w) X.A (evalPairs (pairTrees keys values X.env pos)) (λvs s'=>∃ps H',Inv X pins σ H' s'/\VV ps vs/\Q ps H') X.xe s
theorem zoJ:PPs X pos [] [] []:=λpins s σ H Q I h=>pairTrees_nil_walk ⟨[],H,I,.nil,h⟩
variable{trs:List (TE×TE)}
theorem zmD{k v:Expr}{ks:List (Option Expr)}{vs:List Expr}{tk tv:TE}(hk:PE X k tk)(hv:PE X v tv)(hr:PPs X pos ks vs trs):
  PPs X pos (some k::ks) (v::vs) ((tk,tv)::trs):=λpins s σ H Q I h=>
 pairTrees_cons_walk (thn (hk pins s σ H _ I h) λu s1 ⟨x,H1,I1,rx,q1⟩=>thn (hv pins s1 σ H1 _ I1 q1) λw2 s2 ⟨y,H2,I2,ry,q2⟩=>
  thn (hr pins s2 σ H2 _ I2 q2) λws s3 ⟨ps,H3,I3,rel,q3⟩=>⟨(x,y)::ps,H3,I3,.cons ⟨rx,ry⟩ rel,q3⟩)
def zed(kvs more:List (Key×V)):List (Key×V):=more.foldl (λacc kv=>kD acc kv.1 kv.2) kvs
theorem KV.merge:∀{more:List (Key×V)}{rs:List (Key×Value)} {kvs:List (Key×V)}{vs:List (Key×Value)},KV more rs->KV kvs vs->KV (zed kvs more) (merged vs rs):=by
 intro more rs kvs vs r;unfold KV at r;induction r generalizing kvs vs with
 |nil=>intro q;exact q
 |@cons p q ps qs h t ih=>
  intro r0;have e:KV (kD kvs p.1 p.2) (stored vs q.1 q.2):=by have:=r0.put p.1 h.2;rw[←h.1];exact this
  exact ih e
theorem zcy:∀(more kvs:List (Key×V)),(zed kvs more).length<=kvs.length+more.length
 |[],kvs=>by show kvs.length<=kvs.length+0;omega
 |p::r,kvs=>by have h1:=zcy r (kD kvs p.1 p.2);have h2:=zay kvs p.1 p.2;show(zed (kD kvs p.1 p.2) r).length<=_;rw[Jl];omega
theorem zfu{P:Program}{w:World}:∀{kvs:List (Key×V)}{ws:List (Value×Value)},VV (kvs.map λkv=>(kV kv.1,kv.2)) ws->∃rs,Carries (yE P w) ws rs/\KV kvs rs
 |[],_,r=>by rw[Qs]at r;cases r;exact⟨[],True.intro,.nil⟩
 |p::kvs,_,r=>by
  rw[Jg]at r;cases r with
  |@cons a b as bs h t=>
   obtain⟨rs,c,q⟩:=zfu (P:=P) (w:=w) t;obtain⟨b1,b2⟩:=b;exact⟨(p.1,b2)::rs,⟨zfQ h.1,rfl,c⟩,.cons ⟨rfl,h.2⟩ q⟩
def zsd(trs:List (TE×TE)):TE:=λσ H Q=>∀p,H p=none->zkn trs σ (upd H p (.dK [])) λps H2=>H2 p=some (.dK [])/\∃kvs:List (Key×V),ps=kvs.map (λkv=>(kV kv.1,kv.2))/\kvs.length<=15/\Q (.ref p) (upd H2 p (.dK (zed [] kvs)))
theorem zoR{keys:List (Option Expr)}{values:List Expr}(h:PPs X pos keys values trs)(hall:keys.all (·.isSome)=true)(hl:keys.length=values.length)(h0:keys≠[])(h15:keys.length<=15):PE X (.Dict keys values pos) (zsd trs):=by
 intro pins s σ H Q I q;have hn:=I.hok.fresh (Jd s.heap.objs.size);have I1:=I.laid (a:=s.heap.objs.size) (o:=.dK []) (h':=s.heap.push {cls:=.type "dict",data:=.dict #[]}) (t':=s.toks) (λ_ _ q=>Heap.get?_push_of_some _ q) (Jd _) (zge s.heap I.big);refine wpAny_Dict_walk (knd:=yE X.prog X.w) hall hl h0 h15 (thn (h pins _ σ _ _ I1 (q _ hn)) λws s2 ⟨ps,H2,I2,rel,e,kvs,ep,lk,q2⟩=>?_);subst ep;obtain⟨rs,c,rk⟩:=zfu (P:=X.prog) (w:=X.w) rel;obtain⟨z,hd,vs0,r0,dd⟩:=znv I2.hok e;cases r0
 refine⟨rs,c,dd,λh' dd' hs=>⟨.ref s.heap.objs.size,_,?_,rfl,q2⟩⟩;have hz:(zed [] kvs).length<=sizeLine:=by have h1:=zcy kvs [];rw[Qi]at h1;rw[Wd];omega
 have he:∃q,h'.get? s.heap.objs.size=some q:=let⟨q,_,_,hq,_⟩:=dd';⟨q,hq⟩
 exact zez I2 (by rw[e];exact True.intro) hs he (zjg hz hd (rk.merge .nil) dd')
structure M2(X:Cx)(o:Expr)(m:Str)(apos:Pos)(e f:Expr)(cpos:Pos):Prop where
 base:attributeBase o m X.env (eval o X.env)=eval o X.env
 few:((backTo cpos (starEach [e,f] X.env)).all (λx=>!x.1)&&(backToKw cpos (keywordEach [] X.env)).all (λx=>x.1.isSome)
  &&decide (([e,f]:List Expr).length+([]:List Keyword).length+(if([]:List Keyword).isEmpty then 0 else 1)<30))=true
 line:(apos.endLine==cpos.line)=true
 trees:backTo cpos (starEach [e,f] X.env)=[(false,eval e X.env),(false,eval f X.env)]
def IsD(H:Hp)(a:Addr):Prop:=(∃kvs,Rd H a (.dK kvs))\/∃kvs,Rd H a (.dT kvs)
theorem zof(I:Inv X pins σ H s)(d:IsD H a):
  s.TypeIs (.ref a) "dict"/\(∀b,Value.ref a=.ref b->∃ob,s.heap.get? b=some ob/\ob.dict=none)/\(a==sysModules)=false:=by
 rcases d with⟨kvs,e⟩|⟨kvs,e⟩
 ·obtain⟨_,hd,vs,_,dd⟩:=zhq I.hok e;refine⟨dd.typeIs,λb q=>?_,hd⟩;cases q
  obtain⟨ob,_,_,h1,h2,_⟩:=dd;exact⟨ob,h1,h2.2.1⟩
 ·obtain⟨_,hd,xs,_,dd⟩:=zil I.hok e;refine⟨dd.typeIs,λb q=>?_,hd⟩;cases q
  obtain⟨ob,_,_,h1,h2,_⟩:=dd;exact⟨ob,h1,h2.2.1⟩
section
variable{X:Cx}{pins:AO}{σ:St}{H:Hp}{s:Shared}{a:Addr}{y d:V}{u r:Value}{o:Option V}{A:Around}{E:VS}
theorem zrL(hu:A.units+1<cLine)(I:Inv X pins σ H s)(g:DGet H a y o)(ry:zT y u)(rd:zT d r)(h:∀w' s',Inv X pins σ H s'->zT (o.getD d) w'->Q w' s'):
  wpAny (model X.prog X.w) A (call (.builtin "dict.get") [.ref a,u,r]) Q E s:=by
 rcases g with⟨kvs,k,e,ey,l⟩|⟨kvs,k,b,e,ey,eb,l⟩
 ·subst ey;obtain⟨z,hd,vs,rel,dd⟩:=zhq I.hok e;refine call_meetsIn PySem.F.slot_dict_get dd.typeIs PySem.F.entry_dict_get (PySem.F.args_dict_get_3 _ _ _) (meets_dict_get_default (yE X.prog X.w) a (zfQ ry) hd r) ⟨_,dd.mapOf,h _ _ (I.tok _) ?_⟩;rw[l];exact(rel.val k).getD rd
 ·subst ey;cases(show u=Value.ref b from ry)
  obtain⟨z,hd,xs,rel,dd⟩:=zil I.hok e;refine call_meetsIn PySem.F.slot_dict_get dd.typeIs PySem.F.entry_dict_get (PySem.F.args_dict_get_3 _ _ _) (meetsH_dict_get_default (tupleKind (yE X.prog X.w)) a b hd r) ⟨Wb hu,k,xs,zff I.hok eb,dd,h _ _ (I.tok _) ?_⟩;rw[l];exact(rel.val k).getD rd
end
def zqd(td ty tx:TE):TE:=λσ H Q=>td σ H λx H1=>∃a,x=.ref a/\IsD H1 a/\ty σ H1 λy H2=>tx σ H2 λz H3=>∃o,DGet H3 a y o/\Q (o.getD z) H3
section
variable{X:Cx}{o e f:Expr}{apos cpos:Pos}{td ty tx:TE}
theorem zmM(hu:X.A.units+1<cLine)(ho:PE X o td)(he:PE X e ty)(hf:PE X f tx)(m:M2 X o "get" apos e f cpos):PE X (.Call (.Attribute o "get" apos) [e,f] [] cpos) (zqd td ty tx):=by
 intro pins s σ H Q I h;refine wpAny_Call_method m.base m.few m.line PySem.F.plainAttrs_dict PySem.F.slot_dict_get PySem.F.type_dict_get (thn (ho pins s σ H _ I h) λu s1 ⟨x,H1,I1,rx,a,ex,d,q1⟩=>?_);subst ex;obtain rfl:u=Value.ref a:=rx;obtain⟨t1,t2,_⟩:=zof I1 d;refine⟨t1,t2,?_⟩;rw[m.trees];refine We rfl (Calls.evalArgs_plain (QK (thn (he pins s1 σ H1 _ I1 q1) λiv s2 ⟨y,H2,I2,ry,q2⟩=>
  QK (thn (hf pins s2 σ H2 _ I2 q2) λfv s3 ⟨z,H3,I3,rz,ov,g,q3⟩=>Calls.spliced_nil ?_))))
 exact zrL hu I3 g ry rz λw' s4 I4 rw'=>⟨_,H3,I4,rw',q3⟩
end
section
variable{X:Cx}{pins:AO}{σ:St}{H:Hp}{s:Shared}{a:Addr}{kvs:List (Key×V)}{A:Around}{E:VS}
end
section
variable{X:Cx}{pins:AO}{σ:St}{H:Hp}{s:Shared}{a:Addr}{y:V}{u:Value}{A:Around}{E:VS}
end
end L2
namespace FL
open L2
noncomputable def jS:D->Option Key
 | .int i=>some (.inl i)
 | .str x=>some (.inr x)
 |_=>none
theorem zik{a b:Key}(h:kdK a=kdK b):a=b:=by cases a<;>cases b<;>simp[kdK]at h<;>rw[h]
def kds(kvs:List (Key×V)):List KD:=kvs.map λp=>kdK p.1
noncomputable def xE(ks:List KD)(ds:List D)(k:KD):Option D:=((ks.zip ds).find? λp=>decide (p.1=k)).map (·.2)
def xY(ks:List KD)(ds:List D)(k:KD)(d:D):List KD×List D:=
 if(ks.any λx=>decide (x=k))=true then(ks,(ks.zip ds).map λp=>if p.1=k then d else p.2)else(ks++[k],ds++[d])
variable{a:Addr}{F H:Hp}{v:V}{ks:List KD}{e:Expr}{fe:EO D}
section
variable{K:Fg}{X:Cx}{pos:Pos}
theorem zaF{d:D}{k:Key}(h:jS d=some k)(r:Dat K F d v):v=kV k:=by
 cases d<;>simp only[jS]at h<;>cases h
 ·rw[r.int_inv];rfl
 ·rw[r.str_inv];rfl
theorem zcQ{F:Hp}(k:Key):∀(kvs:List (Key×V)) (ds:List D),zF K F ds (kvs.map (·.2))->(xE (kds kvs) ds (kdK k)=none/\yT kvs k=none)\/∃d v,xE (kds kvs) ds (kdK k)=some d/\yT kvs k=some v/\Dat K F d v
 |[],ds,h=>.inl ⟨by simp[xE,kds],rfl⟩
 |(a,v)::kvs,[],h=>by have:=h.nil_inv;simp at this
 |(a,v)::kvs,d::ds,h=>by
  obtain⟨v',r,e,h1,h2⟩:=h.cons_inv;simp at e;obtain⟨rfl,rfl⟩:=e;by_cases hk:a=k
  ·subst hk;exact .inr ⟨d,v,by simp[xE,kds],zdx rfl,h1⟩
  ·have hk':¬kdK a=kdK k:=λz=>hk (zik z)
   have e1:xE (kds ((a,v)::kvs)) (d::ds) (kdK k)=xE (kds kvs) ds (kdK k):=by simp[xE,kds,List.find?_cons,hk']
   rw[e1,zdy (p:=(a,v)) hk];exact zcQ k kvs ds h2
theorem zmb(k:Key):∀kvs:List (Key×V),((kds kvs).any λx=>decide (x=kdK k))=(kvs.any λkv=>decide (kv.1=k))
 |[]=>rfl
 |(a,v)::kvs=>by
  have ih:=zmb k kvs;by_cases hk:a=k
  ·subst hk;simp[kds]
  ·have hk':¬kdK a=kdK k:=λz=>hk (zik z)
   simp only[kds,List.map_cons,List.any_cons,hk',hk,decide_false,Bool.false_or];exact ih
theorem zkC(k:Key){d:D}(hd:Dat K F d v):∀(kvs:List (Key×V)) (ds:List D),zF K F ds (kvs.map (·.2))->
  zF K F (((kds kvs).zip ds).map λp=>if p.1=kdK k then d else p.2) ((kvs.map λkv=>if kv.1=k then(kv.1,v)else kv).map (·.2))
 |[],ds,h=>by simp[kds];exact zF.nil
 |(a,u)::kvs,[],h=>by have:=h.nil_inv;simp at this
 |(a,u)::kvs,c::ds,h=>by
  obtain⟨v',r,e,h1,h2⟩:=h.cons_inv;simp at e;obtain⟨rfl,rfl⟩:=e;have ih:=zkC k hd kvs ds h2;simp only[kds,List.map_cons,List.zip_cons_cons];by_cases hk:a=k
  ·subst hk;rw[if_pos rfl,if_pos rfl];exact zF.cons hd ih
  ·have hk':¬kdK a=kdK k:=λz=>hk (zik z)
   rw[if_neg hk',if_neg hk];exact zF.cons h1 ih
theorem zfE{F:Hp}(k:Key){d:D}(hd:Dat K F d v)(kvs:List (Key×V))(ds:List D)(h:zF K F ds (kvs.map (·.2))):
  (xY (kds kvs) ds (kdK k) d).1=kds (kD kvs k v)/\zF K F (xY (kds kvs) ds (kdK k) d).2 ((kD kvs k v).map (·.2)):=by
 unfold xY kD;rw[zmb];split
 ·refine⟨?_,zkC k hd kvs ds h⟩;unfold kds;rw[Jn];apply JQ;intro p _;simp only[Function.comp]
  split<;>rfl
 ·exact⟨by simp[kds],by rw[JF];exact h.snoc hd⟩
theorem zex{vs:List V}(h:wK H a ks vs)(hk:∀l,KD.tup l∉ks):∃kvs,H a=some (.dK kvs)/\ks=kds kvs/\vs=kvs.map (·.2):=by
 rcases h with⟨kvs,h,e1,e2⟩|⟨kvs,h,⟨e1,e3⟩,e2⟩
 ·exact⟨kvs,h,e1,e2⟩
 ·cases kvs with
  |nil=>exact absurd rfl e3
  |cons p r=>exact absurd (by rw[e1];simp) (hk p.1)
theorem zjh{vs:List V}(h:nR H a ks vs)(hk:∀l,KD.tup l∉ks):∃kvs,Rd H a (.dK kvs)/\ks=kds kvs/\vs=kvs.map (·.2):=by
 rcases h with h|⟨o,⟨kvs,h,e1,e2⟩|⟨kvs,h,⟨e1,e3⟩,e2⟩⟩
 ·obtain⟨kvs,h,r⟩:=zex h hk;exact⟨kvs,.inl h,r⟩
 ·exact⟨kvs,.inr ⟨o,h⟩,e1,e2⟩
 ·cases kvs with
  |nil=>exact absurd rfl e3
  |cons p r=>exact absurd (by rw[e1];simp) (hk p.1)
theorem Rd.mono{H':Hp}{u:HO}(s:zP H H')(h:Rd H a u):Rd H' a u:=h.imp (s _ _) λ⟨o,h⟩=>⟨o,s _ _ h⟩
def kOk(ks:List KD):Bool:=ks.all λx=>match x with
 | .tup _=>false
 |_=>true
theorem zcC(h:kOk ks=true):∀l,KD.tup l∉ks:=λl hl=>by have:=JP.mp h _ hl;cases this
theorem zlx:FP K .ow X (.Dict [] [] pos) (cst (.dic [] [])):=FP.mk λρ d hf=>by
 cases hf
 refine PE.imp zmL λσ H Q ⟨F,r,q⟩ p hp=>?_
 exact q _ _ _ (zK.fresh r.sub hp) ⟨p,rfl,hp,r.sub.free hp,[],.inl ⟨[],qR,rfl,rfl⟩,zF.nil⟩
noncomputable def c3(p:D->D->D->Option D)(fa fb fc:EO D):EO D:=λρ=>(fa ρ).bind λx=>(fb ρ).bind λy=>(fc ρ).bind λz=>p x y z
theorem zpL{p:D->D->D->Option D}{fa fb fc:EO D}{ρ:En}{d:D}(h:c3 p fa fb fc ρ=some d):∃x y z,fa ρ=some x/\fb ρ=some y/\fc ρ=some z/\p x y z=some d:=by
 unfold c3 at h;cases e1:fa ρ with
 |none=>rw[e1]at h;cases h
 |some x=>
  cases e2:fb ρ with
  |none=>rw[e1]at h;simp[e2]at h
  |some y=>
   cases e3:fc ρ with
   |none=>rw[e1]at h;simp[e2,e3]at h
   |some z=>rw[e1]at h;simp[e2,e3]at h;exact⟨x,y,z,rfl,rfl,rfl,h⟩
noncomputable def yY(x y z:D):Option D:=match x,jS y with
 | .dic ks ds,some k=>if kOk ks=true then some ((xE ks ds (kdK k)).getD z)else none
 |_,_=>none
theorem fget{o f:Expr}{fo ff:EO D}{apos cpos:Pos}(hu:X.A.units+100<cLine)(ho:FP K .br X o fo)(he:FP K .fz X e fe)(hf:FP K .fz X f ff)(m1:attributeBase o "get" X.env (eval o X.env)=eval o X.env:=by rfl)(m2:((backTo cpos (starEach [e,f] X.env)).all (λx=>!x.1)&&(backToKw cpos (keywordEach [] X.env)).all (λx=>x.1.isSome)&&decide (([e,f]:List Expr).length+([]:List Keyword).length+(if([]:List Keyword).isEmpty then 0 else 1)<30))=true:=by rfl)(m3:(apos.endLine==cpos.line)=true:=by rfl)(m4:backTo cpos (starEach [e,f] X.env)=[(false,eval e X.env),(false,eval f X.env)]:=by rfl):
  FP K .fz X (.Call (.Attribute o "get" apos) [e,f] [] cpos) (c3 yY fo fe ff):=FP.mk λρ d hf'=>by
 obtain⟨x,y,z,e1,e2,e3,e4⟩:=zpL hf';refine PE.imp (zmM (by omega) (ho.h ρ x e1) (he.h ρ y e2) (hf.h ρ z e3) ⟨m1,m2,m3,m4⟩) λσ H Q h_=>?_
 obtain⟨F,rl,q⟩:=h_;unfold yY at e4;split at e4
 ·rename_i ks ds k ek;obtain⟨hk,rfl⟩:=kP e4;refine⟨F,rl,λv F1 H1 g1 r1=>?_⟩;obtain⟨a,vs,rfl,f1,q1⟩:=zZ.dic_inv r1;obtain⟨kvs,h1,rfl,rfl⟩:=zjh f1 (zcC hk);refine⟨a,rfl,.inl ⟨kvs,h1⟩,F1,rl.grow g1,λu F2 H2 g2 r2=>⟨F2,(rl.grow g1).grow g2,λw F3 H3 g3 r3=>?_⟩⟩;have eu:=zaF (K:=K) ek r2;subst eu;refine⟨yT kvs k,.inl ⟨kvs,k,Rd.mono (g2.hh.trans g3.hh) h1,rfl,rfl⟩,q _ F3 H3 (g1.trans (g2.trans g3)) ?_⟩;rcases zcQ (K:=K) (F:=F3) k kvs ds (q1.mono (g2.ff.trans g3.ff))with⟨n1,n2⟩|⟨d,v,n1,n2,n3⟩
  ·rw[n1,n2];exact r3
  ·rw[n1,n2];exact n3
 ·cases e4
noncomputable def vV:LO
 |[.dic ks ds]=>if kOk ks=true then some (.dic ks ds)else none
 |_=>none
def zsl:V->V->V->Hp->(Hp->Prop)->Prop:=λo i v H Q=>∃a H',o=.ref a/\DPut H a i v H'/\Q H'
theorem ziG(hu:X.A.units+1<cLine):PSet X zsl:=by
 intro pins s σ H o i v ov iv u Q I ro ri rv h;obtain⟨a,H',rfl,g,q⟩:=h;cases ro
 exact zlP hu I g ri rv λs' I'=>⟨H',I',q⟩
noncomputable def yA(i:Nat)(fk fe:EO D):EO Fl:=λρ=>match ρ[i]?,fe ρ,(fk ρ).bind jS with
 |some (some (.ow pp (.dic ks ds))),some d,some k=>if kOk ks=true/\ks.length<lim then some (.nx (ρ.set i (some (.ow pp (.dic (xY ks ds (kdK k) d).1 (xY ks ds (kdK k) d).2)))))else none
 |_,_,_=>none
theorem zoy{md:Md}(i:Nat){x:Str}{p p2:Pos}{ke:Expr}{fk:EO D}(hu:X.A.units+100<cLine)(he:FP K .fz X e fe)(hk:FP K .fz X ke fk)(hN:X.N[i]?=some x:=by rfl)(hv:Vis X.env.scope x:=by first|exact Or.inl rfl|exact Or.inr (Or.inl rfl)|exact Or.inr (Or.inr rfl))(hd:(x==("__debug__":Str))=false:=by decide)(hcd:(x==("__classdict__":Str))=false:=by decide)(H1:∀{to ti:TE}{t:TSet},PE X (.Name x p) to->PE X ke ti->PSet X t->PG X (.Subscript (.Name x p) ke p2) (gSub to ti t):=by exact λa b c=>znT a b c)(hs:swapsWithSole [.Subscript (.Name x p) ke p2] e pos.line X.env=pure false:=by rfl)(hw:swappedStores [.Subscript (.Name x p) ke p2] e X.env=pure none:=by rfl)(h1:(assignEach [.Subscript (.Name x p) ke p2] X.env).map (·.2)=[assign (.Subscript (.Name x p) ke p2) X.env]:=by rfl)(hK:X.K=K:=by rfl):
  FS K md X (.Assign [.Subscript (.Name x p) ke p2] e pos) (yA i fk fe):=FS.mk λρ fl hf=>by
 subst hK;unfold yA at hf;split at hf
 ·rename_i pp ks ds d k e1 e2 e3;obtain⟨⟨hk1,hk2⟩,hf⟩:=kP hf;cases hf
  cases e4:fk ρ with
  |none=>rw[e4]at e3;cases e3
  |some y=>
   rw[e4]at e3;have e3:jS y=some k:=e3;refine PS.imp (ziL (he.h ρ d e2) (H1 (wN hN hv hd hcd) (hk.h ρ y e4) (ziG (by omega))) hs hw h1) λD σ H h_=>?_
   obtain⟨F,r,q⟩:=h_;obtain⟨a,h1,h2,h3⟩:=r.own i pp _ e1;refine⟨F,r,λv F1 H1 g1 r1=>⟨_,h1,F1,r.grow g1,λu F2 H2 g2 r2=>?_⟩⟩;have rg:=(r.grow g1).grow g2;obtain⟨a',h1',h2',vs,h3',h4'⟩:=rg.own i pp _ e1;rw[h1]at h1';cases h1'
   obtain⟨kvs,g3,rfl,rfl⟩:=zex h3' (zcC hk1);have ev:=zaF (K:=X.K) e3 r2;subst ev;have hl:kvs.length<sizeLine:=by
    have:(kds kvs).length=kvs.length:=by simp[kds]
    exact zdf (by omega)
   obtain⟨m0,m00⟩:=zfE (K:=X.K) (F:=F2) k (Dat.mono g2.ff r1) kvs ds h4';refine⟨a,_,rfl,DPut.k g3 hl,?_⟩;obtain⟨m1,m2⟩:=rg.mut (i:=i) (o:=.dK (kD kvs k v)) (d':=.dic (xY (kds kvs) ds (kdK k) d).1 (xY (kds kvs) ds (kdK k) d).2) e1 h1 ⟨_,.inl ⟨kD kvs k v,qR,m0,rfl⟩,m00⟩;exact q σ _ _ m1 ((g1.trans g2).step.trans m2 r.sub)
 ·cases hf
noncomputable def yF(i:Nat)(m:EO Fl):EO Fl:=λρ=>match ρ[i]? with
 |some (some (.ow false d))=>m (ρ.set i (some (.dat d)))
 |_=>none
theorem Rel.frz{F H:Hp}{ρ:En}{σ:St}{i:Nat}{d:D}(r:Rel K F H ρ σ)(e:ρ[i]?=some (some (.ow false d))):
  ∃a,∀H2,gE H a H2->∃F',Rel K F' H2 (ρ.set i (some (.dat d))) σ/\jA ρ σ F H (ρ.set i (some (.dat d))) σ F' H2:=by
 obtain⟨a,h1,h2,h3⟩:=r.own i false d e;refine⟨a,λH2 fz=>?_⟩;have x:zP F (wI F H2 a):=zaW h2;have hi:i<ρ.length:=(List.getElem?_eq_some_iff.mp e).1;refine⟨wI F H2 a,⟨zcb (fz.same r.sub h2),λj y q=>?_,λj y q=>?_,λj qq y q=>?_,λj k qq y s c ne e1 e2 e3 e4=>?_,by simp[r.len]⟩,⟨x,λb o hb n no=>?_,λb hb=>.inr ?_,λj y e'=>?_,zcb (fz.same r.sub h2)⟩⟩
 ·rcases zX q with⟨rfl,q'⟩|⟨ne,q'⟩
  ·cases q';exact⟨_,h1,h3.freeze h2 fz⟩
  ·obtain⟨v,g1,g2⟩:=r.dat j y q';exact⟨v,g1,g2.mono x⟩
 ·rcases zX q with⟨rfl,q'⟩|⟨ne,q'⟩
  ·cases q'
  ·obtain⟨v,g1,g2⟩:=r.bor j y q';exact⟨v,g1,g2.frz x fz λz=>r.inj i j false d _ a (Ne.symm ne) e h1 q' rfl (by rw[g1,z])⟩
 ·rcases zX q with⟨rfl,q'⟩|⟨ne,q'⟩
  ·cases q'
  ·obtain⟨b,g1,g2,g3⟩:=r.own j qq y q';have hb:b≠a:=λz=>by subst z;exact r.inj i j false d _ b (Ne.symm ne) e h1 q' rfl g1
   exact⟨b,g1,by rw[zbz hb];exact g2,g3.mono x λo e=>by rw[fz.ne hb];exact e⟩
 ·rcases zX e1 with⟨rfl,e1'⟩|⟨ne1,e1'⟩
  ·cases e1'
  ·rcases zX e3 with⟨rfl,e3'⟩|⟨ne3,e3'⟩
   ·cases e3';cases e4
   ·exact r.inj j k qq y s c ne e1' e2 e3' e4
 ·have hb':b≠a:=λz=>no (by subst z;exact⟨i,false,d,e,h1⟩)
  exact⟨by rw[fz.ne hb'];exact hb,by rw[zbz hb'];exact n⟩
 ·obtain⟨j,qq,y,j1,j2⟩:=hb;rcases zX j1 with⟨rfl,j1'⟩|⟨ne,j1'⟩
  ·cases j1'
  ·exact⟨j,qq,y,j1',j2⟩
 ·rcases zX e' with⟨rfl,e''⟩|⟨ne,e''⟩
  ·cases e''
  ·exact⟨y,e'',rfl⟩
end
end FL
namespace L2
end L2
namespace FL
open L2
variable{e:Expr}{fe:EO D}
section
variable{K:Fg}{X:Cx}{pos:Pos}
theorem zqy{st:Stmt}{t:TS}(h:PS X st t):PS X st (λD σ H=>∃a,∀H2,gE H a H2->t D σ H2):=λpins s σ H D I ⟨a,ht⟩=>by obtain⟨H2,f,I2⟩:=Inv.frzTo I a;exact h pins s σ H2 D I2 (ht H2 f)
theorem sfrz{md:Md}(i:Nat){st:Stmt}{m:EO Fl}(h:FS K md X st m):FS K md X st (yF i m):=FS.mk λρ fl hf=>by
 unfold yF at hf;split at hf
 ·rename_i d e1;refine PS.imp (zqy (h.h _ fl hf)) λD σ H h_=>?_
  obtain⟨F,r,q⟩:=h_;obtain⟨a,hf2⟩:=r.frz e1;refine⟨a,λH2 fz=>?_⟩;obtain⟨F',r',s'⟩:=hf2 H2 fz;exact rdS.after r.sub r' s' q
 ·cases hf
def zks(z:Str):List D:=z.cps.toList.map λc=>D.str ⟨#[c]⟩
noncomputable def cSg(f:EO D):EO (List D):=λρ=>match f ρ with
 |some (.str z)=>some (zks z)
 |_=>none
noncomputable def xR(y z:D):Option D:=(jS y).map λk=>.dic [kdK k] [z]
theorem zrC{k:Expr}{fk:EO D}(hk:FP K .fz X k fk)(he:FP K .fz X e fe):FP K .ow X (.Dict [some k] [e] pos) (c2 xR fk fe):=FP.mk λρ d hf=>by
 obtain⟨y,z,e1,e2,e3⟩:=zba hf;unfold xR at e3;cases e4:jS y with
 |none=>rw[e4]at e3;cases e3
 |some kk=>
  rw[e4]at e3;cases e3
  refine PE.imp (zoR (zmD (hk.h ρ y e1) (he.h ρ z e2) zoJ) rfl rfl (by simp) (by simp)) λσ H Q ⟨F,r,q⟩ p hp=>?_
  have g0:=zK.fresh (o:=.dK []) r.sub hp;have fp:F p=none:=r.sub.free hp;refine⟨F,r.grow g0,λv F1 H1 g1 r1=>⟨F1,(r.grow g0).grow g1,λu F2 H2 g2 r2=>?_⟩⟩;have ev:=zaF (K:=K) e4 r1;subst ev;have hp1:=g1.hh _ _ (qR (H:=H) (a:=p) (o:=.dK []));have hp2:=g2.hh _ _ hp1;have fp1:=g1.nw _ _ qR fp;have fp2:=g2.nw _ _ hp1 fp1;refine⟨hp2,[(kk,u)],rfl,by simp,?_⟩;have gg:=g0.trans (g1.trans g2);have g3:zK F H F2 (upd H2 p (.dK (zed [] [(kk,u)]))):=⟨gg.ff,λb o e=>by rw[zW (jE e hp)];exact gg.hh _ _ e,λb o e=>by rw[zW (jE e fp2)];exact gg.fh _ _ e,gg.nw⟩;have em:zed [] [(kk,u)]=[(kk,u)]:=rfl;exact q _ F2 _ g3 ⟨p,rfl,hp,fp2,[u],.inl ⟨[(kk,u)],by rw[em];exact qR,rfl,rfl⟩,zF.cons r2 zF.nil⟩
end
variable{f:Expr}{apos cpos:Pos}
section
variable{K:Fg}{X:Cx}{pos:Pos}
def rInK(f:Bool->Bool):R2:=λy x H Q=>∃a o,x=.ref a/\DGet H a y o/\Q (.bl (f o.isSome)) H
theorem zqU(hu:X.A.units+100<cLine):OpR X (compareOp .In) (rInK id):=by
 intro pins s σ H x y v u Q I rx ry h;obtain⟨a,o,rfl,g,q⟩:=h;cases ry
 exact d_in (by omega) I g rx λs' I'=>⟨.bl o.isSome,H,I',rfl,q⟩
theorem zkQ(hu:X.A.units+100<cLine):OpR X (compareOp .NotIn) (rInK not):=by
 intro pins s σ H x y v u Q I rx ry h;obtain⟨a,o,rfl,g,q⟩:=h;cases ry
 exact zpF (by omega) I g rx λs' I'=>⟨.bl (!o.isSome),H,I',rfl,q⟩
noncomputable def inK(f:Bool->Bool)(y x:D):Option D:=match x,jS y with
 | .dic ks ds,some k=>if kOk ks=true then some (.bl (f (xE ks ds (kdK k)).isSome))else none
 |_,_=>none
theorem znX{op:CmpOp}{f:Bool->Bool}(o:OpR X (compareOp op) (rInK f)):nQ K X (compareOp op) (inK f):=by
 refine⟨_,o,λy x d F H v u Q e s h1 h2 k=>?_⟩;unfold inK at e;split at e
 ·rename_i ks ds kk ek;obtain⟨hk,rfl⟩:=kP e;obtain⟨a,vs,rfl,f1,q1⟩:=zZ.dic_inv h2;obtain⟨kvs,g1,rfl,rfl⟩:=zjh f1 (zcC hk);have ev:=zaF (K:=K) ek h1;subst ev;refine⟨a,yT kvs kk,rfl,.inl ⟨kvs,kk,g1,rfl,rfl⟩,?_⟩;have hs:(yT kvs kk).isSome=(xE (kds kvs) ds (kdK kk)).isSome:=by rcases zcQ (K:=K) (F:=F) kk kvs ds q1 with⟨n1,n2⟩|⟨d,v,n1,n2,_⟩<;>rw[n1,n2]<;>rfl
  rw[hs];exact k _ F H (zK.refl s) (Res.bl _)
 ·cases e
theorem zfG(hu:X.A.units+101<cLine):nQ K X (compareOp .In) (inK id):=znX (zqU (by omega))
theorem zjB(hu:X.A.units+101<cLine):nQ K X (compareOp .NotIn) (inK not):=znX (zkQ (by omega))
noncomputable def gL(x y:D):Option D:=match x,jS y with
 | .dic ks ds,some k=>if kOk ks=true then xE ks ds (kdK k)else none
 |_,_=>none
theorem fixK{a b:Expr}{fa fb:EO D}(hu:X.A.units+100<cLine)(ha:FP K .br X a fa)(hb:FP K .fz X b fb)(hs:NoSl b):FP K .fz X (.Subscript a b pos) (c2 gL fa fb):=FP.mk λρ d hf=>by
 obtain⟨x,y,e1,e2,e3⟩:=zba hf;refine PE.imp (zoS (by omega) (ha.h ρ x e1) (hb.h ρ y e2) hs) λσ H Q h_=>?_
 obtain⟨F,rl,q⟩:=h_;unfold gL at e3;split at e3
 ·rename_i ks ds k ek;obtain⟨hk,e3⟩:kOk ks=true/\_:=by
   split at e3
   ·rename_i hz;exact⟨hz,e3⟩
   ·cases e3
  refine⟨F,rl,λv F1 H1 g1 r1=>⟨F1,rl.grow g1,λu F2 H2 g2 r2=>?_⟩⟩;obtain⟨a,vs,rfl,f1,q1⟩:=zZ.dic_inv (zZ.mono g2.ff g2.hh r1);obtain⟨kvs,h1,rfl,rfl⟩:=zjh f1 (zcC hk);have ev:=zaF (K:=K) ek r2;subst ev;rcases zcQ (K:=K) (F:=F2) k kvs ds q1 with⟨n1,n2⟩|⟨d',v,n1,n2,n3⟩
  ·rw[n1]at e3;cases e3
  ·rw[n1]at e3;cases e3
   exact⟨a,v,rfl,by rw[←n2];exact .inl ⟨kvs,k,h1,rfl,rfl⟩,q _ F2 H2 (g1.trans g2) n3⟩
 ·cases e3
theorem znw{pins:AO}{σ:St}{H:Hp}{s:Shared}{a:Addr}{kvs:List (Key×V)}{k:Key}{d:V}{u r:Value}{A:Around}{E:VS}{Q:VS}(I:Inv X pins σ H s)(e:H a=some (.dK kvs))(hl:kvs.length<sizeLine)(ry:zT (kV k) u)(rr:zT d r)(h1:∀v,yT kvs k=some v->∀w' s',Inv X pins σ H s'->zT v w'->Q w' s')(h2:yT kvs k=none->∀s',Inv X pins σ (upd H a (.dK (kD kvs k d))) s'->Q r s'):
  wpAny (model X.prog X.w) A (call (.builtin "dict.setdefault") [.ref a,u,r]) Q E s:=by
 obtain⟨z,hd,vs,rel,dd⟩:=znv I.hok e;refine call_meetsIn PySem.F.slot_dict_setdefault dd.typeIs PySem.F.entry_dict_setdefault (PySem.F.args_dict_setdefault_3 _ _ _) (PySem.kt_meets_setdefault (yE X.prog X.w) a (zfQ ry) hd r)
  ⟨vs,dd,by rw[←rel.length];exact z,λw' hw=>?_,λhn h' dd' hs=>?_⟩
 ·have vr:=rel.val k;rw[hw]at vr;cases e2:yT kvs k with
  |none=>rw[e2]at vr;exact vr.elim
  |some v=>rw[e2]at vr;exact h1 v e2 w' _ (I.tok _) vr
 ·have vr:=rel.val k;rw[hn]at vr;cases e2:yT kvs k with
  |some v=>rw[e2]at vr;exact vr.elim
  |none=>
   have he:∃q,h'.get? a=some q:=let⟨q,_,_,hq,_⟩:=dd';⟨q,hq⟩
   have hl':(kD kvs k d).length<=sizeLine:=by have:=zay kvs k d;omega
   exact h2 e2 _ (zez I (by rw[e];exact True.intro) hs he (zjg hl' hd (rel.put k rr) dd'))
def tSdf(td ty tx:TE):TE:=λσ H Q=>td σ H λx H1=>∃a,x=.ref a/\IsD H1 a/\ty σ H1 λy H2=>tx σ H2 λz H3=>∃kvs k,H3 a=some (.dK kvs)/\y=kV k/\kvs.length<sizeLine/\
 (∀v,yT kvs k=some v->Q v H3)/\(yT kvs k=none->Q z (upd H3 a (.dK (kD kvs k z))))
theorem zqG{o:Expr}{td ty tx:TE}(ho:PE X o td)(he:PE X e ty)(hf:PE X f tx)(m:M2 X o "setdefault" apos e f cpos):PE X (.Call (.Attribute o "setdefault" apos) [e,f] [] cpos) (tSdf td ty tx):=by
 intro pins s σ H Q I h;refine wpAny_Call_method m.base m.few m.line PySem.F.plainAttrs_dict PySem.F.slot_dict_setdefault PySem.F.type_dict_setdefault (thn (ho pins s σ H _ I h) λu s1 ⟨x,H1,I1,rx,a,ex,d,q1⟩=>?_);subst ex;obtain rfl:u=Value.ref a:=rx;obtain⟨t1,t2,_⟩:=zof I1 d;refine⟨t1,t2,?_⟩;rw[m.trees];refine We rfl (Calls.evalArgs_plain (QK (thn (he pins s1 σ H1 _ I1 q1) λiv s2 ⟨y,H2,I2,ry,q2⟩=>
  QK (thn (hf pins s2 σ H2 _ I2 q2) λfv s3 ⟨z,H3,I3,rz,kvs,k,ea,ey,hl,q3,q4⟩=>Calls.spliced_nil ?_))))
 subst ey;exact znw I3 ea hl ry rz (λv hv w' s4 I4 rw'=>⟨v,H3,I4,rw',q3 v hv⟩) λhn s4 I4=>⟨z,_,I4,rz,q4 hn⟩
noncomputable def sdfM(i:Nat)(fe ff:EO D):EO (D×En):=λρ=>match ρ[i]?,(fe ρ).bind jS,ff ρ with
 |some (some (.ow pp (.dic ks ds))),some k,some z=>if kOk ks=true/\ks.length<lim then(match xE ks ds (kdK k)with
  |some d=>some (d,ρ)
  |none=>some (z,ρ.set i (some (.ow pp (.dic (xY ks ds (kdK k) z).1 (xY ks ds (kdK k) z).2)))))else none
 |_,_,_=>none
theorem zop(i:Nat){x:Str}{p:Pos}{ff:EO D}(hu:X.A.units+100<cLine)(he:FP K .fz X e fe)(hf:FP K .fz X f ff)(hN:X.N[i]?=some x:=by rfl)(hv:Vis X.env.scope x:=by first|exact Or.inl rfl|exact Or.inr (Or.inl rfl)|exact Or.inr (Or.inr rfl))(hd:(x==("__debug__":Str))=false:=by decide)(hcd:(x==("__classdict__":Str))=false:=by decide)(m1:attributeBase (.Name x p) "setdefault" X.env (eval (.Name x p) X.env)=eval (.Name x p) X.env:=by rfl)(m2:((backTo cpos (starEach [e,f] X.env)).all (λx=>!x.1)&&(backToKw cpos (keywordEach [] X.env)).all (λx=>x.1.isSome)&&decide (([e,f]:List Expr).length+([]:List Keyword).length+(if([]:List Keyword).isEmpty then 0 else 1)<30))=true:=by rfl)(m3:(apos.endLine==cpos.line)=true:=by rfl)(m4:backTo cpos (starEach [e,f] X.env)=[(false,eval e X.env),(false,eval f X.env)]:=by rfl)(hK:X.K=K:=by rfl):
  FX K X (.Call (.Attribute (.Name x p) "setdefault" apos) [e,f] [] cpos) (sdfM i fe ff):=FX.mk λρ d ρ' hm=>by
 subst hK;unfold sdfM at hm;split at hm
 ·rename_i pp ks ds k z e1 e2 e3;obtain⟨hk,hm⟩:(kOk ks=true/\ks.length<lim)/\_:=by
   split at hm
   ·rename_i hz;exact⟨hz,hm⟩
   ·cases hm
  cases e4:fe ρ with
  |none=>rw[e4]at e2;cases e2
  |some y=>
   rw[e4]at e2;have e2:jS y=some k:=e2;refine PE.imp (zqG (wN hN hv hd hcd) (he.h ρ y e4) (hf.h ρ z e3) ⟨m1,m2,m3,m4⟩) λσ H Q h_=>?_
   obtain⟨F,r,q⟩:=h_;obtain⟨a,h1,h2,vs0,h3,h4⟩:=r.own i pp _ e1;obtain⟨kvs0,g0,_,_⟩:=zex h3 (zcC hk.1);refine⟨_,h1,a,rfl,.inl ⟨kvs0,.inl g0⟩,F,r,λv F1 H1 g1 r1=>⟨F1,r.grow g1,λu F2 H2 g2 r2=>?_⟩⟩;have rg:=(r.grow g1).grow g2;obtain⟨a',h1',h2',vs,h3',h4'⟩:=rg.own i pp _ e1;rw[h1]at h1';cases h1'
   obtain⟨kvs,g3,rfl,rfl⟩:=zex h3' (zcC hk.1);have ev:=zaF (K:=X.K) e2 r1;subst ev;have hl:kvs.length<sizeLine:=by
    have:(kds kvs).length=kvs.length:=by simp[kds]
    exact zdf (by omega)
   have st:=(g1.trans g2).step (ρ:=ρ) (σ:=σ);refine⟨kvs,k,g3,rfl,hl,λv' hv'=>?_,λhn=>?_⟩
   ·rcases zcQ (K:=X.K) (F:=F2) k kvs ds h4' with⟨n1,n2⟩|⟨d',w,n1,n2,n3⟩
    ·rw[n2]at hv';cases hv'
    ·rw[n2]at hv';cases hv'
     rw[n1]at hm;cases hm
     exact q _ F2 H2 rg st n3
   ·rcases zcQ (K:=X.K) (F:=F2) k kvs ds h4' with⟨n1,n2⟩|⟨d',w,n1,n2,n3⟩
    ·rw[n1]at hm;cases hm
     obtain⟨m0,m00⟩:=zfE (K:=X.K) (F:=F2) k r2 kvs ds h4';obtain⟨w1,w2⟩:=rg.mut (i:=i) (o:=.dK (kD kvs k u)) (d':=.dic (xY (kds kvs) ds (kdK k) d).1 (xY (kds kvs) ds (kdK k) d).2) e1 h1 ⟨_,.inl ⟨kD kvs k u,qR,m0,rfl⟩,m00⟩;exact q _ F2 _ w1 (st.trans w2 r.sub) r2
    ·rw[n2]at hn;cases hn
 ·cases hm
end
end FL
namespace L2
variable{P:Program}{w:World}
theorem zsD{k:Key}{u:Value}(h:(yE P w).is k u=true):zT (kV k) u:=by
 rw[zjE]at h;rcases zab h with⟨i,t,rfl,rfl⟩|⟨x,t,rfl,rfl⟩
 ·exact⟨t,rfl⟩
 ·exact⟨t,rfl⟩
theorem KV.get{κ:Type}:∀{kvs:List (κ×V)}{vs:List (κ×Value)} {i:Nat}{p:κ×V},KV kvs vs->kvs[i]?=some p->∃u,vs[i]?=some (p.1,u)/\zT p.2 u
 |_,_,_,_,.nil,e=>by simp at e
 |_,_,0,p,.cons (b:=q) r _,e=>by simp at e;subst e;exact⟨q.2,by rw[List.getElem?_cons_zero,r.1],r.2⟩
 |_,_,i+1,p,.cons _ t,e=>by obtain⟨u,h1,h2⟩:=KV.get (i:=i) (p:=p) (show KV _ _ from t) (by simpa using e);exact⟨u,by simpa using h1,h2⟩
variable{H:Hp}{h:Heap}{o:Obj}{es:Array DictEntry}{ep:Nat}{kvs:List (Key×V)}
theorem zlt{d:Addr}(ok:HOk P w H h)(e:H d=some (.frz o (.dK kvs)))(hd:o.data=.dict es ep):
  (d==sysModules)=false/\∃vs,KV kvs vs/\h.DictAt (yE P w) d vs ep:=by
 obtain⟨ho,_,hs,vs,rel,o',es',ep',e1,e2,e3,e4⟩:=(show jV P w H h d (.frz o (.dK kvs))from ok d _ e);rw[ho]at e1;cases e1
 rw[hd]at e3;cases e3
 exact⟨hs,vs,rel,o,es,ho,e2,hd,e4⟩
theorem znp{d:Addr}(ok:HOk P w H h)(e:H d=some (.frz o (.dK kvs))):∃es ep,o.data=.dict es ep:=by
 obtain⟨ho,_,hs,vs,rel,o',es',ep',e1,e2,e3,e4⟩:=(show jV P w H h d (.frz o (.dK kvs))from ok d _ e);rw[ho]at e1;cases e1
 exact⟨es',ep',e3⟩
def Iti(d:Addr)(o:Obj)(kvs:List (Key×V)):It:=
 ⟨λi H=>H d=some (.frz o (.dK kvs))/\i<kvs.length,λi H x H'=>∃p q,H q=none/\x=.ref q/\kvs[i]?=some p/\H'=upd H q (.tup [kV p.1,p.2]),λi H=>H d=some (.frz o (.dK kvs))/\i=kvs.length⟩
theorem zeR:entryFor table "dict_itemiterator.__iter__"=some Builtin.«dict_keyiterator.__iter__»:=
 entryFor_alias (id':="dict_keyiterator.__iter__") (by kernel_rfl) rfl (by decide+kernel) (by kernel_rfl)
variable{elts:List Expr}{x1:Nat}{tp:Pos}
theorem zjs{K:Fg}{d it:Addr}(hd:o.data=.dict es ep):
  Turn P w K (.Tuple elts x1 tp) (Iti d o kvs) [it] it (λi h=>∃ok ov,IsItemIter h it d i kvs.length ep ok ov)where
 mem:=by simp
 obj:=λi h st b hb=>by rw[Wc.mp hb];obtain⟨ok,ov,e⟩:=st;exact⟨_,e,λv z=>by cases(show Data.fields _=Data.cell v from z)⟩
 keep:=λi h h' st k=>let⟨ok,ov,e⟩:=st;⟨ok,ov,k it (by simp) _ e⟩
 item:=by
  intro X hP hw hK hc i pins s σ H E I hf st hg;subst hP hw hK;obtain⟨e,hi⟩:=hg;obtain⟨_,vs,rel,dd⟩:=zlt I.hok e hd;obtain⟨u,hu,ru⟩:=rel.get (List.getElem?_eq_getElem hi);have hl:=rel.length;obtain⟨ok,ov,st⟩:=st;rw[hl]at st;refine wpAny_pyNext_items_item st dd hu λkey h' hk st' ht hz hk'=>⟨_,rfl,?_⟩
  have I1:Inv X pins σ (upd H s.heap.objs.size (.tup [kV kvs[i].1,kvs[i].2])) {s with heap:=h'}:=I.pairL (t':=s.toks) (ch:=[it]) hf (λb o hb e=>hk' b o (λz=>hb (by simp[z])) e) ht (zsD hk) ru;refine wpAny_letOwnedTupleGo_items st' λh2 st2 sb=>?_
  have fr:H s.heap.objs.size=none:=I.fresh;have hlt:it≠s.heap.objs.size:=Jv (Jf st);have I2:Inv X pins σ (upd H s.heap.objs.size (.tup [kV kvs[i].1,kvs[i].2])) {s with heap:=h2}:=I1.turnedL (ch:=[it]) (t':=s.toks) (λb hb=>by rw[Wc.mp hb];obtain⟨f0,f1⟩:=hf it (by simp);exact⟨by rw[zW hlt];exact f0,f1⟩) λb o hb e=>sb.extBut _ _ (λq=>hb (by simp[q])) e
  rw[←hl]at st2;exact⟨.ref s.heap.objs.size,_,I2,rfl,⟨_,_,fr,rfl,List.getElem?_eq_getElem hi,rfl⟩,⟨_,_,st2⟩,λb hb=>by rw[Wc.mp hb,zW hlt];exact(hf it (by simp)).1⟩
 done:=by intro X hP hw hK hc i pins s σ H E I hf st hg;subst hP hw hK;obtain⟨e,hi⟩:=hg;obtain⟨_,vs,rel,dd⟩:=zlt I.hok e hd;obtain⟨f0,f1,f2,f3,f4,f5⟩:=hf it (by simp);have hl:=rel.length;obtain⟨ok,ov,st⟩:=st;rw[hl]at st;exact wpAny_pyNext_items_end (I.ok.hd hc) st dd (by simp;omega) λh' eb=>⟨rfl,I.turned (t':=s.toks) (λb o hb e=>eb b o hb e) f0 f1 f3 f4 f5⟩
 self:=λA i s Q E st h=>by obtain⟨ok,ov,st⟩:=st;have hT:s.TypeIs (.ref it) "dict_itemiterator":=⟨_,st,rfl⟩;refine wpAny_pyIter_slot hT PySem.F.slot_dict_itemiterator_iter (Qw PySem.F.slot_dict_itemiterator_iter hT zeR ?_ (PySem.F.args_dict_itemiterator_iter_1 _));show wpAny _ _ (ret (.ref it)) _ _ s;exact Jc ⟨_,rfl,"dict_itemiterator",_,hT,PySem.F.slot_dict_itemiterator_next.lookup,h⟩
def zru(tl:TE):TI:=λσ H R=>tl σ H λv H1=>∃d o kvs,v=.ref d/\H1 d=some (.frz o (.dK kvs))/\R (Iti d o kvs) H1
theorem zmG{X:Cx}{apos cpos:Pos}{l:Expr}{tl:TE}(hl:PE X l tl)(hbase:attributeBase l "items" X.env (eval l X.env)=eval l X.env:=by rfl)(hline:(apos.endLine==cpos.line)=true:=by rfl):
  PI X (.Tuple elts x1 tp) (.Call (.Attribute l "items" apos) [] [] cpos) (zru tl):=by
 intro pins s σ H R I h;refine wpAny_Call_method (T:="dict") (id:="dict.items") hbase rfl hline PySem.F.plainAttrs_dict PySem.F.slot_dict_items PySem.F.type_dict_items (thn (hl pins s σ H _ I h) λv s1 ⟨x,H1,I1,r1,d,o,kvs,ex,e,q⟩=>?_);subst ex;cases r1
 obtain⟨es,ep,hd⟩:=znp I1.hok e;obtain⟨hs,vs,rel,dd⟩:=zlt I1.hok e hd;have hl:=rel.length;refine⟨dd.dictOf.typeIs,dd.dictOf.mapOf.noDict,?_⟩;show wpAny _ _ (callWith cpos (.builtin "dict.items") [.ref d] [] []) _ _ s1;refine method_meetsIn PySem.F.slot_dict_items PySem.F.entry_dict_items rfl (PySem.evalArgs_none ⟨rfl,dd.dictOf.typeIs,PySem.F.args_dict_items_1 _,_,meets_dict_items (yE X.prog X.w) d hs,⟨vs,dd.dictOf⟩,?_⟩);have I2:Inv X pins σ H1 {s1 with heap:=s1.heap.push {cls:=.type "dict_items",data:=.fields #[.ref d]}}:=I1.kept (t':=s1.toks) λb o e=>Heap.get?_push_of_some _ e
 generalize hs2:({s1 with heap:=s1.heap.push {cls:=.type "dict_items",data:=.fields #[.ref d]}}:Shared)=s2 at I2;have e2:s2.heap=s1.heap.push {cls:=.type "dict_items",data:=.fields #[.ref d]}:=by rw[←hs2]
 refine wpAny_pyIter_items (knd:=yE X.prog X.w) (d:=d) (kvs:=vs) (ep:=ep) ⟨_,by rw[e2];exact Heap.get?_push_size _ rfl,rfl,rfl⟩ (by rw[e2];exact dd.push _) ?_;refine⟨s2.heap.objs.size,[s2.heap.objs.size],_,_,H1,rfl,I2.kept (t':=s2.toks) λb o e=>Heap.get?_push_of_some _ e,zjs hd,⟨_,_,by rw[hl];exact Heap.get?_push_size _ rfl⟩,λb hb=>?_,q⟩;rw[Wc.mp hb];exact I2.fpOk (Jd _) (I2.hok.fresh (Jd _))
end L2
namespace FL
open L2
def kdD:KD->D
 | .int i=>.int i
 | .str x=>.str x
 | .tup l=>.tup (l.map λk=>match k with| .inl i=>.int i| .inr x=>.str x)
variable{F:Hp}
theorem zsC{K:Fg}(k:Key):Dat K F (kdD (kdK k)) (kV k):=by
 cases k with
 |inl i=>exact Dat.int i
 |inr x=>exact Dat.str x
noncomputable def itKs:D->Option (List D)
 | .dic ks _=>if kOk ks=true then some (ks.map kdD)else none
 |_=>none
noncomputable def itIs:D->Option (List D)
 | .dic ks ds=>if kOk ks=true then some (List.zipWith (λk d=>.tup [kdD k,d]) ks ds)else none
 |_=>none
noncomputable def cIs(f:EO D):EO (List D):=λρ=>(f ρ).bind itIs
section
variable{K:Fg}{X:Cx}{pos:Pos}{tg l:Expr}{f:EO D}
theorem zrK{a:Addr}{ks:List KD}{vs:List V}(h:wA F a ks vs)(hk:∀l,KD.tup l∉ks):∃o kvs,F a=some (.frz o (.dK kvs))/\ks=kds kvs/\vs=kvs.map (·.2):=by
 obtain⟨o,⟨kvs,h,e1,e2⟩|⟨kvs,h,⟨e1,e3⟩,e2⟩⟩:=h
 ·exact⟨o,kvs,h,e1,e2⟩
 ·cases kvs with
  |nil=>exact absurd rfl e3
  |cons p r=>exact absurd (by rw[e1];simp) (hk p.1)
theorem zrs{elts:List Expr}{x1:Nat}{tp apos cpos:Pos}(h:FP K .fz X l f)(hbase:attributeBase l "items" X.env (eval l X.env)=eval l X.env:=by rfl)(hline:(apos.endLine==cpos.line)=true:=by rfl):
  FI K X (.Tuple elts x1 tp) (.Call (.Attribute l "items" apos) [] [] cpos) (cIs f):=FI.mk λρ ds hf=>by
 unfold cIs at hf;cases e1:f ρ with
 |none=>rw[e1]at hf;cases hf
 |some d=>
  rw[e1]at hf;have hf:itIs d=some ds:=hf;cases d<;>simp only[itIs]at hf<;>try(cases hf;done)
  rename_i ks es _;obtain⟨hk,rfl⟩:=kP hf;refine PI.imp (zmG (h.h ρ _ e1) hbase hline) λσ H R ⟨F,r,q⟩=>⟨F,r,λv F1 H1 g1 r1=>?_⟩
  obtain⟨a,vs,rfl,f1,q1⟩:=Dat.dic_inv (K:=K) (F:=F1) r1;obtain⟨o,kvs,f2,rfl,rfl⟩:=zrK f1 (zcC hk);have hl:=q1.length;rw[Ja]at hl;have hz:(List.zipWith (λk d=>D.tup [kdD k,d]) (kds kvs) es).length=kvs.length:=by simp[kds,hl]
  refine⟨a,o,kvs,rfl,g1.fh _ _ f2,q _ F1 H1 g1 λF2 H2 s2 h2=>⟨λi hi=>⟨h2 _ _ (s2 _ _ f2),by rw[hz]at hi;exact hi⟩,λi x H3 d hd y=>?_,⟨h2 _ _ (s2 _ _ f2),hz⟩⟩⟩;obtain⟨p,b,hb,rfl,e2,rfl⟩:=y;obtain⟨dv,e3,e4⟩:=q1.get' (i:=i) (v:=p.2) (by rw[List.getElem?_map,e2];rfl);have hd':d=.tup [kdD (kdK p.1),dv]:=by rw[List.getElem?_zipWith,e3]at hd;unfold kds at hd;rw[List.getElem?_map,e2]at hd;exact(Option.some.inj hd).symm
  subst hd';have g:=zK.frozen (o:=.tup [kV p.1,p.2]) h2 hb;exact⟨_,g,Dat.tup qR (zF.cons (zsC p.1) (zF.cons (e4.mono (s2.trans g.ff)) zF.nil))⟩
end
end FL
namespace L2
section
variable{X:Cx}{pins:AO}{σ:St}{N:List Str}{cap:ON}{scope:Scope}{tg iter kx vx:Expr}{ifs:List Expr}{pos:Pos}{g:TG}{tt:TT}{tk tv:TE}
noncomputable def actD(kx vx:Expr):Value->Env->Sem Unit:=λacc env=>match acc with
 | .ref D=>do
  let kv ←eval kx env;let vv ←holding [kv] (eval vx env)
  standAt {kx.pos with endLine:=vx.pos.endLine,endCol:=vx.pos.endCol}
  holding [kv,vv] (dictSet D kv vv)
 |_=>pure ()
theorem zpJ:zbD X (.DictComp kx vx [⟨tg,iter,ifs,0⟩] scope pos) tg iter ifs newDict (actD kx vx) (.dK [])where
 new:=λpins σ H s Q E I h=>JY (h _ (I.laid (a:=s.heap.objs.size) (o:=.dK []) (t':=s.toks) (λ_ _ q=>Heap.get?_push_of_some _ q) (Jd _) (zge s.heap I.big)))
 turn:=λit D env=>by rw[compTurn_dict];rfl
 loop:=λA it D env Q E s h=>h
 start:=λh0 h=>codeAny_compStart_dict h0 h
def taD(tk tv:TE)(D:Addr):TAct:=λσ H Q=>tk σ H λx H1=>tv σ H1 λv H2=>∃k kvs,x=kV k/\H2 D=some (.dK kvs)/\kvs.length<sizeLine/\Q (upd H2 D (.dK (kD kvs k v)))
theorem zkM{Y:Cx}(hk:PE Y kx tk)(hv:PE Y vx tv)(D:Addr):PAct Y (actD kx vx) D (taD tk tv D):=by
 intro pins s σ H Q I h;show wpAny _ _ (eval kx Y.env>>=_) _ _ _;refine wpAny_bind (thn (hk pins s σ H _ I h) λu s1 ⟨x,H1,I1,r1,q1⟩=>?_);refine wpAny_bind (JH (thn (hv pins s1 σ H1 _ I1 q1) λw s2 ⟨v,H2,I2,r2,k,kvs,ex,e,hl,q⟩=>?_));subst ex;refine wpAny_bind (Qt (JH ?_));obtain⟨z,hd,vs,rel,dd⟩:=znv I2.hok e;have hz:vs.length<=sizeLine:=by rw[←rel.length];exact z
 have hl':(kD kvs k v).length<=sizeLine:=by have:=zay kvs k v;omega
 refine wpAny_dictSet_pairs (hsz:=hz) (zfQ r1) dd λh' dd' hs=>⟨σ,_,?_,q⟩
 have he:∃q,h'.get? D=some q:=let⟨q,_,_,hq,_⟩:=dd';⟨q,hq⟩
 exact zez I2 (by rw[e];exact True.intro) hs he (zjg hl' hd (rel.put k r2) dd')
end
end L2
namespace FL
open L2
noncomputable def wQ(g:D->EO En)(t:EO Bool)(fk fv:EO D)(ρi:En):List D->List KD×List D->Option (List KD×List D)
 |[],acc=>some acc
 |x::xs,acc=>(g x ρi).bind λρ1=>(t ρ1).bind λb=>if b=true then(fk ρ1).bind λy=>(jS y).bind λk=>(fv ρ1).bind λd=>wQ g t fk fv ρi xs (xY acc.1 acc.2 (kdK k) d)else wQ g t fk fv ρi xs acc
noncomputable def zcf(cap:ON)(fi:EO (List D))(g:D->EO En)(t:EO Bool)(fk fv:EO D):EO D:=λρ=>(fi ρ).bind λds=>if ds.length<=lim then(wQ g t fk fv (qH cap ρ) ds ([],[])).map λp=>.dic p.1 p.2 else none
variable{cap:ON}{g:D->EO En}{t:EO Bool}{ρ:En}{fi:EO (List D)}
section
variable{K:Fg}{md:Md}{X:Cx}{pos:Pos}{tg iter kx vx:Expr}{ifs:List Expr}{scope:Scope}
theorem znA{fk fv:EO D}{ds:List D}{rs:List KD×List D}{σ:St}{H F:Hp}{Q:VK}(hm:wQ g t fk fv (qH cap ρ) ds ([],[])=some rs)(hn:ds.length<=lim)(r:Rel K F H ρ σ)(q:∀v F' H',zK F H F' H'->Res K .ow H F' H' (.dic rs.1 rs.2) v->Q v H'){J:It}{F1 H1:Hp}(g1:zK F H F1 H1)(ok:zds K J F1 ds):
  zgA J (λv σ H Q=>∃i:{q:En×D×En//g q.2.1 q.1=some q.2.2},rdG K i.1.1 i.1.2.1 i.1.2.2 v σ H Q) (λσ H Q=>∃i:{q:En×Bool//t q.1=some q.2},rdTp K i.1.1 i.1.2 σ H Q)
   (taD (λσ H Q=>∃i:{q:En×D//fk q.1=some q.2},rdE K .fz i.1.1 i.1.2 σ H Q) λσ H Q=>∃i:{q:En×D//fv q.1=some q.2},rdE K .fz i.1.1 i.1.2 σ H Q) (.dK []) cap σ H1 Q:=by
 intro a ha;refine⟨λi m H2=>∃acc,i<=ds.length/\m=ds.length - i/\∃F2 done,zK F H F2 H2/\zP F1 F2/\(∀b o,H1 b=some o->H2 b=some o)/\F2 a=none/\H2 a=some (.dK acc)/\zF K F2 done (acc.map (·.2))/\acc.length<=i/\wQ g t fk fv (qH cap ρ) (ds.drop i) (kds acc,done)=some rs,
  ⟨ds.length,[],JD _,rfl,F1,[],⟨g1.ff,g1.hh.trans (wW ha _),g1.fh.trans (wW ha _),g1.nw⟩,zP.refl _,λb o e=>wW ha _ _ _ e,g1.fh.free ha,qR,zF.nil,JD _,hm⟩,?_⟩
 rintro i m H2 ⟨acc,hi,rfl,F2,done,g2,ff,hh,fa,hd,da,al,e1⟩;obtain⟨o1,o2,o3⟩:=ok F2 H2 ff g2.fh;by_cases hlt:i<ds.length
 ·refine .inr ⟨o1 i hlt,λx H3 y=>?_⟩;obtain⟨F3,g3,d3⟩:=o2 i x H3 _ (List.getElem?_eq_getElem hlt) y;rw[Jx hlt]at e1;simp only[wQ]at e1;have g23:=g2.trans g3;have hd3:=g3.hh _ _ hd;have fa3:=g3.nw a _ hd fa;cases e3:g ds[i] (qH cap ρ)with
  |none=>rw[e3]at e1;cases e1
  |some ρ1=>
   simp only[e3,Option.bind_some]at e1;refine⟨⟨(qH cap ρ,ds[i],ρ1),e3⟩,F3,(r.grow g23).inner,d3,λσ2 r2 _=>?_⟩;cases e4:t ρ1 with
   |none=>rw[e4]at e1;cases e1
   |some b=>
    simp only[e4,Option.bind_some]at e1;refine⟨⟨(ρ1,b),e4⟩,F3,r2,λF4 H4 g4=>?_⟩;have g24:=g23.trans g4;have hd4:=g4.hh _ _ hd3;have fa4:=g4.nw a _ hd3 fa3;have ff4:zP F1 F4:=ff.trans (g3.ff.trans g4.ff);have hh4:∀c o,H1 c=some o->H4 c=some o:=λc o e=>g4.hh _ _ (g3.hh _ _ (hh c o e))
    cases b with
    |false=>
     rw[if_neg JR]at e1;exact iteF ⟨ds.length - (i+1),by omega,acc,hlt,rfl,F4,done,g24,ff4,hh4,fa4,hd4,da.mono (g3.ff.trans g4.ff),by omega,e1⟩
    |true=>
     rw[if_pos rfl]at e1;refine iteT ?_;cases e5:fk ρ1 with
     |none=>rw[e5]at e1;cases e1
     |some y=>
      simp only[e5,Option.bind_some]at e1;cases e6:jS y with
      |none=>rw[e6]at e1;cases e1
      |some k=>
       simp only[e6,Option.bind_some]at e1;cases e7:fv ρ1 with
       |none=>rw[e7]at e1;cases e1
       |some d=>
        simp only[e7,Option.bind_some]at e1;refine⟨⟨(ρ1,y),e5⟩,F4,r2.grow g4,λu F5 H5 g5 d5=>⟨⟨(ρ1,d),e7⟩,F5,(r2.grow g4).grow g5,λv F6 H6 g6 d6=>?_⟩⟩;have eu:=zaF (K:=K) e6 d5;subst eu;have g46:=g5.trans g6;have g26:=g24.trans g46;have hd6:=g46.hh _ _ hd4;have fa6:=g46.nw a _ hd4 fa4;have haH:H a=none:=g1.hh.free ha;obtain⟨p1,p2⟩:=zfE k d6 acc done (da.mono (g3.ff.trans (g4.ff.trans g46.ff)));have pl:=zay acc k v;refine⟨k,acc,rfl,hd6,zdf (by omega),ds.length - (i+1),by omega,_,hlt,rfl,F6,_,?_,ff4.trans g46.ff,λc o e=>?_,fa6,qR,p2,by omega,?_⟩
        ·refine⟨g26.ff,λc o e=>?_,λc o e=>?_,g26.nw⟩
         ·rw[zW (jE e haH)];exact g26.hh _ _ e
         ·rw[zW (jE e fa6)];exact g26.fh _ _ e
        ·rw[zW (jE e ha)];exact g46.hh _ _ (hh4 c o e)
        ·rw[←p1];exact e1
 ·have e:i=ds.length:=by omega
  subst e;rw[QI]at e1;have e1:some (kds acc,done)=some rs:=e1;cases e1
  exact .inl ⟨o3,q _ F2 H2 g2 ⟨a,rfl,g1.hh.free ha,fa,_,.inl ⟨acc,hd,rfl,rfl⟩,da⟩⟩
theorem zio{fk fv:EO D}{d:D}(h:zcf cap fi g t fk fv ρ=some d):∃ds rs,fi ρ=some ds/\ds.length<=lim/\wQ g t fk fv (qH cap ρ) ds ([],[])=some rs/\d=.dic rs.1 rs.2:=by
 unfold zcf at h;cases e1:fi ρ with
 |none=>rw[e1]at h;cases h
 |some ds=>
  rw[e1]at h;simp only[Option.bind_some]at h;split at h
  ·rename_i hz;cases e2:wQ g t fk fv (qH cap ρ) ds ([],[])with
   |none=>rw[e2]at h;cases h
   |some rs=>rw[e2]at h;cases h;exact⟨ds,rs,rfl,hz,e2,rfl⟩
  ·cases h
theorem zkq(k:Nat){y:Str}{py spos:Pos}{fk fv:EO D}(N:List Str)(cap:ON)(cp:Cap X scope N cap)(hc:X.calm=true)(hN:X.N.Nodup)(hi:FI K X tg iter fi)(hg:∀C s0 H0 fp,FG K (jC X N scope (qK X.env scope.names []) C s0 H0 fp) tg g)(ht:∀C s0 H0 fp,rdIf K (jC X N scope (qK X.env scope.names []) C s0 H0 fp) ifs t)(hkx:∀C s0 H0 fp,FP K .fz (jC X N scope (qK X.env scope.names []) C s0 H0 fp) kx fk)(hv:∀C s0 H0 fp,FP K .fz (jC X N scope (qK X.env scope.names []) C s0 H0 fp) vx fv)(hk:X.N[k]?=some y:=by rfl)(hy:Loc X.env.scope y:=by first|exact Or.inl rfl|exact Or.inr rfl)(S:yH X scope:=by exact yH.mk')(hs:∀x,foldedSetIterable iter X.env x=pure x:=by intro _;rfl)(hsw:swapsWith (.DictComp kx vx [⟨tg,iter,ifs,0⟩] scope pos) (some (.Name y py)) spos.line X.env=pure true:=by rfl)(hf:X.fn y=true\/X.env.scope.names.lookup y=some .local:=by first|exact .inl rfl|exact .inr rfl|assumption):
  FS K md X (.Assign [.Name y py] (.DictComp kx vx [⟨tg,iter,ifs,0⟩] scope pos) spos) (setO k (zcf cap fi g t fk fv)):=FS.mk λρ fl hm=>by
 unfold setO at hm;split at hm
 ·rename_i nb;cases e0:zcf cap fi g t fk fv ρ with
  |none=>rw[e0]at hm;cases hm
  |some d=>
   rw[e0]at hm;cases hm
   obtain⟨ds,rs,e1,hz,e2,rfl⟩:=zio e0;refine PS.imp (zdS zpJ N cap cp hc hN hk hy (hi.h ρ ds e1) (λC s0 H0 fp=>PG.any λi:{q:En×D×En//g q.2.1 q.1=some q.2.2}=>(hg C s0 H0 fp).h _ _ _ i.2) (λC s0 H0 fp=>PIf.any λi:{q:En×Bool//t q.1=some q.2}=>(ht C s0 H0 fp).h _ _ i.2)
    (λC s0 H0 fp D0=>zkM (PE.any λi:{q:En×D//fk q.1=some q.2}=>(hkx C s0 H0 fp).h _ _ i.2) (PE.any λi:{q:En×D//fv q.1=some q.2}=>(hv C s0 H0 fp).h _ _ i.2) D0) S hs rfl (λ_=>rfl) hsw hf) λD σ H ⟨F,r,q⟩=>?_
   refine⟨F,r,λJ F1 H1 g1 ok=>znA e2 hz r (λv F2 H2 g2 ⟨a,ev,h1,h2,h3⟩=>?_) g1 ok⟩;subst ev;have s1:=g2.step (ρ:=ρ) (σ:=σ);refine q _ F2 H2 (r.setO g2 h1 h2 h3 (zgZ nb)) ⟨s1.ff,s1.rest,λb z=>?_,zhR (λd h=>by cases h),s1.fh⟩;rcases zdZ z with⟨_,_,_,z⟩|z
   ·cases z;exact .inl h1
   ·exact .inr z
 ·cases hm
end
end FL
namespace HT
open PySem.Calls
end HT
namespace L2
section
variable{X:Cx}
end
end L2
namespace FL
open L2
noncomputable def repD:D->D->Option D
 | .tup [d],.int k=>if 0<=k/\k<=3 then some (.tup (List.replicate k.toNat d))else none
 |_,_=>none
variable{x:Str}
section
variable{K:Fg}{X:Cx}{md:Md}{pos:Pos}
noncomputable def nC(i j:Nat)(fs:EO (List D)):EO Fl:=λρ=>match fs ρ with
 |some [x,y]=>some (.nx ((ρ.set i (some (.dat x))).set j (some (.dat y))))
 |_=>none
theorem spar(i j:Nat){y:Str}{a b:Expr}{fs:EO (List D)}{px py pt:Pos}{kt k2 pt2}(hc:X.calm=true)(hN:X.N.Nodup)(ha:FPs K true X [a,b] fs)(hij:i≠j:=by decide)(hi:X.N[i]?=some x:=by rfl)(hj:X.N[j]?=some y:=by rfl)(hx:X.env.scope.names.lookup x=some .local:=by rfl)(hy:X.env.scope.names.lookup y=some .local:=by rfl)(hw:swappedStores [.Tuple [.Name x px,.Name y py] kt pt] (.Tuple [a,b] k2 pt2) X.env=pure (some [x,y]):=by rfl)(hs:swapsWithSole [.Tuple [.Name x px,.Name y py] kt pt] (.Tuple [a,b] k2 pt2) pos.line X.env=pure false:=by rfl):
  FS K md X (.Assign [.Tuple [.Name x px,.Name y py] kt pt] (.Tuple [a,b] k2 pt2) pos) (nC i j fs):=FS.mk λρ fl hm=>by
 unfold nC at hm;split at hm
 ·rename_i d1 d2 e1;cases hm
  refine PS.imp (zqw hc hN hi hj hij hx hy (ha.h ρ _ e1) hw hs) λD σ H ⟨F,r,q⟩=>⟨F,r,λvs F1 H1 g1 r1=>?_⟩
  obtain⟨v,w,rfl,h1,h2⟩:=zF.two (show zF K F1 [d1,d2] vs from r1);have s1:=g1.step (ρ:=ρ) (σ:=σ);exact⟨v,w,rfl,q _ F1 H1 (((r.grow g1).setD h1).setD h2) (s1.kp (Kp.setD.trans Kp.setD))⟩
 ·cases hm
end
section
variable{P:Program}{w:World}{K:Fg}{mg:SV}{base:Heap}{X:Cx}{k j:Nat}{ps:List Str}{x:Str}
end
noncomputable def ixX(p:D->D->Option D)(m:EO (D×En))(fb:EO D):EO (D×En):=λρ=>(m ρ).bind λq=>(fb q.2).bind λy=>(p q.1 y).map λd=>(d,q.2)
section
variable{K:Fg}{md:Md}{X:Cx}{a b e:Expr}{fa fb:EO D}{m:EO (D×En)}{p:D->D->Option D}{pos:Pos}
theorem zng{ρ:En}{d:D}{ρ':En}(h:ixX p m fb ρ=some (d,ρ')):∃x y,m ρ=some (x,ρ')/\fb ρ'=some y/\p x y=some d:=by
 unfold ixX at h;cases e1:m ρ with
 |none=>rw[e1]at h;cases h
 |some q=>
  obtain⟨x,ρ1⟩:=q;rw[e1]at h;simp only[Option.bind_some]at h;cases e2:fb ρ1 with
  |none=>rw[e2]at h;cases h
  |some y=>
   rw[e2]at h;simp only[Option.bind_some]at h;cases e3:p x y with
   |none=>rw[e3]at h;cases h
   |some d'=>rw[e3]at h;cases h;exact⟨x,y,rfl,e2,e3⟩
end
section
variable{K:Fg}{X:Cx}{e:Expr}{es:List Expr}{m:EO (D×En)}{fs:EO (List D)}{gs:EO (List D×En)}{pos p:Pos}{x:Str}{ps:List Str}{k j:Nat}{mm:LO}
end
noncomputable def zmz(i:Nat)(fk:EO D)(m:EO (D×En)):EO Fl:=λρ=>(m ρ).bind λq=>yA i fk (λ_=>some q.1) q.2
section
variable{K:Fg}{X:Cx}{pos:Pos}
theorem zqi{md:Md}(i:Nat){p p2:Pos}{ke e:Expr}{fk:EO D}{m:EO (D×En)}(hu:X.A.units+100<cLine)(he:FX K X e m)(hk:FP K .fz X ke fk)(hN:X.N[i]?=some x:=by rfl)(hv:Vis X.env.scope x:=by first|exact Or.inl rfl|exact Or.inr (Or.inl rfl)|exact Or.inr (Or.inr rfl))(hd:(x==("__debug__":Str))=false:=by decide)(hcd:(x==("__classdict__":Str))=false:=by decide)(H1:∀{to ti:TE}{t:TSet},PE X (.Name x p) to->PE X ke ti->PSet X t->PG X (.Subscript (.Name x p) ke p2) (gSub to ti t):=by exact λa b c=>znT a b c)(hs:swapsWithSole [.Subscript (.Name x p) ke p2] e pos.line X.env=pure false:=by rfl)(hw:swappedStores [.Subscript (.Name x p) ke p2] e X.env=pure none:=by rfl)(h1:(assignEach [.Subscript (.Name x p) ke p2] X.env).map (·.2)=[assign (.Subscript (.Name x p) ke p2) X.env]:=by rfl)(hK:X.K=K:=by rfl):
  FS K md X (.Assign [.Subscript (.Name x p) ke p2] e pos) (zmz i fk m):=FS.mk λρ0 fl hf=>by
 subst hK;unfold zmz at hf;cases e0:m ρ0 with
 |none=>rw[e0]at hf;cases hf
 |some q0=>
 obtain⟨d,ρ⟩:=q0;rw[e0]at hf;simp only[Option.bind_some]at hf;unfold yA at hf;split at hf
 ·rename_i pp ks ds d' k e1 e2 e3;cases e2
  obtain⟨⟨hk1,hk2⟩,hf⟩:=kP hf;cases hf
  cases e4:fk ρ with
  |none=>rw[e4]at e3;cases e3
  |some y=>
   rw[e4]at e3;have e3:jS y=some k:=e3;refine PS.imp (ziL (he.h ρ0 d ρ e0) (H1 (wN hN hv hd hcd) (hk.h ρ y e4) (ziG (by omega))) hs hw h1) λD σ H h_=>?_
   obtain⟨F,r,q⟩:=h_;refine⟨F,r,λv F1 H1 rl1 s1 r1=>?_⟩;obtain⟨a,h1,h2,h3⟩:=rl1.own i pp _ e1;refine⟨_,h1,F1,rl1,λu F2 H2 g2 r2=>?_⟩;have rg:=rl1.grow g2;obtain⟨a',h1',h2',vs,h3',h4'⟩:=rg.own i pp _ e1;rw[h1]at h1';cases h1'
   obtain⟨kvs,g3,rfl,rfl⟩:=zex h3' (zcC hk1);have ev:=zaF (K:=X.K) e3 r2;subst ev;have hl:kvs.length<sizeLine:=by
    have:(kds kvs).length=kvs.length:=by simp[kds]
    exact zdf (by omega)
   obtain⟨m0,m00⟩:=zfE (K:=X.K) (F:=F2) k (Dat.mono g2.ff r1) kvs ds h4';refine⟨a,_,rfl,DPut.k g3 hl,?_⟩;obtain⟨m1,m2⟩:=rg.mut (i:=i) (o:=.dK (kD kvs k v)) (d':=.dic (xY (kds kvs) ds (kdK k) d).1 (xY (kds kvs) ds (kdK k) d).2) e1 h1 ⟨_,.inl ⟨kD kvs k v,qR,m0,rfl⟩,m00⟩;exact q σ _ _ m1 ((s1.trans g2.step r.sub).trans m2 r.sub)
 ·cases hf
end
end FL
namespace L2
section
variable{X:Cx}
theorem zlX(hc:X.calm=true):wB X (.builtin "all") (λxs H Q=>∃(p:Addr) (bs:List Bool),xs=[.ref p]/\SqL X.K H p (bs.map V.bl)/\Q (.bl (bs.all id)) H):=by
 intro pins s σ H xs us Q I r h;obtain⟨p,bs,rfl,hq,q⟩:=h;obtain⟨u,rfl,rx⟩:=gF r;cases rx
 obtain⟨its,r',pl,_⟩:=I.list hq;have hh:X.A.handled=none:=I.ok.hd hc;obtain⟨ol,hol,_⟩:=id pl.isList;have hll:p<s.heap.objs.size:=Jf hol;have hlen:its.toArray.size=bs.length:=by rw[Jb,←r'.length,Ja]
 have hlI:p≠s.heap.objs.size:=Jv hll;have W:=Walks.list (prog:=X.prog) (w:=X.w) (A:=X.A.in1) hh s.heap.objs.size p hlI its.toArray;rw[hlen]at W;refine call_all_walk (wpAny_pyIter_list pl.isList ⟨s.heap.objs.size,_,_,bs.length,_,_,λi=>(bs[i]?).getD true,rfl,W,⟨⟨_,Heap.get?_push_size _ rfl,rfl,rfl⟩,pl.isList.at λo e=>Heap.get?_push_of_some _ e⟩,λi v s Q E hP hQ=>?_,λh' tk hk=>?_⟩)
 ·have hv:its[i]?=some v:=by simpa using hP
  have hi:i<bs.length:=by have:=(List.getElem?_eq_some_iff.mp hv).1;rw[Jb]at hlen;omega
  obtain⟨u,e1,r1⟩:=r'.get (i:=i) (x:=.bl bs[i]) (by simp[hi]);rw[hv]at e1;cases e1
  have r1:v=.bool bs[i]:=r1;subst r1;have hQ:Q ((bs[i]?).getD true) s:=hQ;rw[List.getElem?_eq_getElem hi]at hQ;exact QM hQ
 ·refine⟨.bl (bs.all id),H,I.kept (λb o e=>hk b o (by have:b<s.heap.objs.size:=Jf e;have n:b≠s.heap.objs.size:=Jv this;simpa using n) (Heap.get?_push_of_some _ e)),?_,q⟩
  show Value.bool _=Value.bool _
  congr 1
  rw[Bool.eq_iff_iff,JP,JP];constructor
  ·intro h x hx;obtain⟨i,hi,rfl⟩:=List.getElem_of_mem hx
   have:=h i (List.mem_range.mpr hi);simpa[hi]using this
  ·intro h i hi;have hi:=List.mem_range.mp hi;simpa[hi]using h _ (JO hi)
end
end L2
namespace FL
open L2
noncomputable def zgr:List D->Option (List Bool)
 |[]=>some []
 | .bl b::l=>(zgr l).map (b::·)
 |_::_=>none
theorem zjW:∀{l:List D}{ns:List Bool},zgr l=some ns->l=ns.map D.bl:=by
 intro l;induction l with
 |nil=>intro ns h;simp[zgr]at h;subst h;rfl
 |cons d l ih=>
  intro ns h;cases d<;>simp only[zgr]at h<;>try(cases h;done)
  cases e:zgr l with
  |none=>rw[e]at h;cases h
  |some ms=>rw[e]at h;cases h;rw[ih e];rfl
theorem zhz:∀(ns:List Bool),zgr (ns.map D.bl)=some ns
 |[]=>rfl
 |b::l=>by rw[Jg,zgr,zhz l];rfl
noncomputable def allD:LO
 |[.lst l]=>(zgr l).map λbs=>.bl (bs.all id)
 |_=>none
section
variable{K:Fg}{F H:Hp}{X:Cx}
theorem zF.bls:∀{bs:List Bool}{vs:List V},zF K F (bs.map D.bl) vs->vs=bs.map V.bl
 |[],vs,h=>h.nil_inv
 |b::l,vs,h=>by
  obtain⟨v,r,e,h1,h2⟩:=h.cons_inv
  have:=Dat.bl_inv (K:=K) (F:=F) h1;rw[e,this,zF.bls h2];rfl
theorem zsS(hc:X.calm=true)(hK:X.K=K:=by rfl):nT K X (.builtin "all") .fz allD:=by
 subst hK;refine⟨_,zlX hc,λds d F H vs Q e s h k=>?_⟩;unfold allD at e;split at e
 ·rename_i l;cases e1:zgr l with
  |none=>rw[e1]at e;cases e
  |some bs=>
   rw[e1]at e;cases e
   obtain⟨v,rfl,h1⟩:=h.one;rw[zjW e1]at h1;obtain⟨a,vs,rfl,f,q⟩:=h1.lst_inv;rw[q.bls]at f;exact⟨a,bs,rfl,SqL.of f,k _ F H (zK.refl s) (Res.bl _)⟩
 ·cases e
end
end FL
namespace L2
section
variable{X:Cx}{tg iter tg2 iter2 elt:Expr}{scope:Scope}{pos:Pos}{wi:TI}{g2:TG}{te:TE}
abbrev lc2(elt tg iter tg2 iter2:Expr)(scope:Scope)(pos:Pos):Expr:=.ListComp elt [⟨tg,iter,[],0⟩,⟨tg2,iter2,[],0⟩] scope pos
noncomputable def actN(e iter2:Expr):Value->Env->Sem Unit:=λacc env=>do
 let x ←eval iter2 env
 standAt iter2.pos
 let x ←foldedSetIterable iter2 env x;let _ ←runOwn (.compStart e 1 (←holding [x] (pyIter x)) acc env) env
theorem zpI:zbD X (lc2 elt tg iter tg2 iter2 scope pos) tg iter [] (newList []) (actN (lc2 elt tg iter tg2 iter2 scope pos) iter2) (.lst [])where
 new:=λpins σ H s Q E I h=>JY (h _ (I.lnew (t':=s.toks) .nil (JD _)))
 turn:=λit D env=>by simp only[actN,bind_assoc,pure_bind];rfl
 loop:=λA it D env Q E s h=>h
 start:=λh0 h=>codeAny_compStart_list h0 h
theorem zrV(it acc:Value)(env:Env):
  compTurn (lc2 elt tg iter tg2 iter2 scope pos) 1 it acc env=(standAt iter2.pos>>=λ_=>pyNext it>>=λr=>match r with
   |none=>pure (.done .next)
   |some v=>letOwnedTupleGo tg2 it v>>=λ_=>assign tg2 env v>>=λ_=>
    (eval elt env>>=λx=>call (.builtin "list.append") [acc,x]>>=λ_=>pure ())>>=λ_=>
     again (.compLoop (lc2 elt tg iter tg2 iter2 scope pos) 1 it acc env)):=by rfl
theorem zqg{prog:Program}{w:World}{A:Around}{R:Result->Shared->Prop}{s:Shared}{it acc:Value}{env:Env}(h0:codeAny (model prog w) A (.compLoop (lc2 elt tg iter tg2 iter2 scope pos) 1 it acc env) R s)(h:wpAny (model prog w) A (pyIter it) (λit' s'=>codeAny (model prog w) A (.compLoop (lc2 elt tg iter tg2 iter2 scope pos) 1 it' acc env) R s')
   (notedBy (model prog w) A env λx s'=>R (.error x) s') s):
  codeAny (model prog w) A (.compStart (lc2 elt tg iter tg2 iter2 scope pos) 1 it acc env) R s:=by
 refine codeAny_of_tree ?_;show wpAny _ _ ((compStart (lc2 elt tg iter tg2 iter2 scope pos) 1 it acc env).onRaise λx=>do noteFrame x env;standAt theWindowsPlace) _ _ s;refine wpAny_notedAt ?_;unfold compStart;show wpAny _ _ (ask>>=_) _ _ s;refine wpAny_bind (wpAny_askSetting (wpAny_ite ?_));split
 ·first
   |exact wpAny_bind (Jc (Jc (And.intro rfl h0)))
   |exact Jc (And.intro rfl h0)
 ·first
   |exact wpAny_bind (QX (wpAny_bind (Qt (wpAny_bind (JJ h (λit' s' h'=>Jc (And.intro rfl h')) λ_ _ x=>x)))))
   |(refine wpAny_bind (QX ?_);show wpAny _ _ (standAt iter2.pos>>=_) _ _ s;exact wpAny_bind (Qt (wpAny_bind (JJ h (λit' s' h'=>Jc (And.intro rfl h')) λ_ _ x=>x))))
def taN(wi:TI)(g2:TG)(te:TE)(D:Addr):TAct:=λσ H Q=>wi σ H λJ H1=>∃W:Nat->Nat->St->Hp->Prop,(∃m,W 0 m σ H1)/\∀i m σ' H',W i m σ' H'->
 ((J.stop i H'/\Q H')\/(J.go i H'/\∀x H'',J.yld i H' x H''->g2 x σ' H'' λσ2 H2=>taL te D σ2 H2 λH4=>∃m',m'<m/\W (i+1) m' σ2 H4))
theorem znH{Y:Cx}(he:PE Y elt te)(D:Addr)(pins:AO)(s:Shared)(σ:St)(H:Hp)(Q:Hp->Prop)(I:Inv Y pins σ H s)(h:taL te D σ H Q):
  wpAny (model Y.prog Y.w) Y.A (eval elt Y.env>>=λx=>call (.builtin "list.append") [.ref D,x]>>=λ_=>pure ()) (λ_ s'=>∃H',Inv Y pins σ H' s'/\Q H') Y.xe s:=by
 refine wpAny_bind (thn (he pins s σ H _ I h) λv s9 ⟨v9,H9,I9,r9,acc,hD9,hlen,q9⟩=>?_);refine wpAny_bind (thn (zeb (X:=Y) _ s9 σ H9 (.ref D) [v9] (.ref D) [v] (λz Hz=>z=.non/\Hz=upd H9 D (.lst (acc++[v9]))) I9 rfl (.cons r9 .nil) ⟨D,acc,v9,rfl,rfl,hD9,hlen,rfl,rfl⟩) λ_ s10 h10=>?_);obtain⟨_,H10,I10,_,_,e10⟩:=h10;subst e10;exact Jc ⟨_,I10,q9⟩
theorem zkL{Y:Cx}(hxe:∀e s,¬Y.xe e s)(hc:Y.calm=true)(hi:PI Y tg2 iter2 wi)(hg:PG Y tg2 g2)(he:PE Y elt te)(hs:∀x,foldedSetIterable iter2 Y.env x=pure x)(D:Addr):
  PAct Y (actN (lc2 elt tg iter tg2 iter2 scope pos) iter2) D (taN wi g2 te D):=by
 intro pins s σ H Q I h;unfold actN;refine wpAny_bind (thn (hi pins s σ H _ I h) λv s1 h1=>?_);refine wpAny_bind (Qt ?_);rw[hs];refine wpAny_bind (Jc ?_);refine wpAny_bind (JH (thn h1 λitv s2 h2=>?_));obtain⟨it,fp,tn,J,H2,e,I2,T,st2,f2,W,⟨m0,w0⟩,turn⟩:=h2;subst e;refine wpAny_bind (wpAny_runOwn ?_);have stat:∀{H':Hp},(∀b∈fp,H' b=none)->∀b∈fp,yL Y pins H' b:=λhn b hb=>⟨hn b hb,(f2 b hb).2⟩
 have lp:∀{R:Result->Shared->Prop},(∀σ' H' s',Inv Y pins σ' H' s'->Q H'->R (.ok .next) s')->codeAny (model Y.prog Y.w) Y.A (.compLoop (lc2 elt tg iter tg2 iter2 scope pos) 1 (.ref it) (.ref D) Y.env) R s2:=by
  intro R hR;refine codeAny_loop rfl (λn s'=>∃i σ' H',Inv Y pins σ' H' s'/\tn i s'.heap/\(∀b∈fp,H' b=none)/\W i n σ' H') ?_ m0 ⟨0,σ,H2,I2,st2,λb hb=>(f2 b hb).1,w0⟩;rintro n s3 ⟨i,σ3,H3,I3,st3,fr3,w3⟩;show wpAny _ Y.A ((compTurn (lc2 elt tg iter tg2 iter2 scope pos) 1 (.ref it) (.ref D) Y.env).onRaise λx=>do noteFrame x Y.env;theTreesLotGoes x) _ _ s3;refine wpAny_noted ?_;rw[zrV];refine wpAny_bind (Qt (wpAny_bind ?_));rcases turn i n σ3 H3 w3 with⟨stop,qn⟩|⟨go,step⟩
  ·refine JJ (T.done Y rfl rfl rfl hc i pins s3 σ3 H3 Y.xe I3 (stat fr3) st3 stop) (λr s4 h4=>?_) λe s' z=>absurd z (hxe e s')
   obtain⟨hr,I4⟩:=h4;subst hr;exact Jc (hR σ3 H3 s4 I4 qn)
  ·refine JJ (T.item Y rfl rfl rfl hc i pins s3 σ3 H3 Y.xe I3 (stat fr3) st3 go) (λr s4 h4=>?_) λe s' z=>absurd z (hxe e s')
   obtain⟨u,hr,h4⟩:=h4;subst hr;refine wpAny_bind (JJ h4 (λ_ s5 h5=>?_) λe s' z=>absurd z (hxe e s'));obtain⟨x,H5,I5,r5,y5,st5,fr5⟩:=h5;have I5':=I5.pinned (stat fr5) (T.obj _ _ st5);refine wpAny_bind (JJ (hg _ s5 σ3 H5 x u _ I5' r5 (step x H5 y5)) (λ_ s6 h6=>?_) λe s' z=>absurd z (hxe e s'));obtain⟨σ6,H6,I6,q6⟩:=h6;refine wpAny_bind (JJ (znH he D _ s6 σ6 H6 _ I6 q6) (λ_ s7 h7=>?_) λe s' z=>absurd z (hxe e s'));obtain⟨H7,I7,m',hm,w7⟩:=h7;refine Jc ⟨rfl,m',hm,i+1,σ6,H7,I7.unpinned,T.keep _ _ _ st5 λb hb o e=>(I7.pin (b,o) (Ji _ (Ji _ (zaL hb e)))).1,λb hb=>?_,w7⟩;obtain⟨o,e,d⟩:=T.obj _ _ st5 b hb;exact(I7.pin (b,o) (Ji _ (Ji _ (zaL hb e)))).2.1
 have fin:∀σ' H' s',Inv Y pins σ' H' s'->Q H'->wpAny (model Y.prog Y.w) Y.A (pure ()) (λ_ s'=>∃σ' H',Inv Y pins σ' H' s'/\Q H') Y.xe s':=λσ' H' s' I' q'=>Jc ⟨σ',H',I',q'⟩
 exact zqg (lp fin) (T.self Y.A 0 _ _ _ st2 (lp fin))
variable{pins:AO}{σ:St}{N:List Str}{cap:ON}{ifs:List Expr}{g:TG}{tt:TT}
theorem zkI{e:Expr}{newAcc:Sem Value}{act:Value->Env->Sem Unit}{ho:HO}{ta:Addr->TAct}{wi:TI}{gs:List Comprehension}(ck:zbD X e tg iter ifs newAcc act ho)(N:List Str)(cap:ON)(cp:Cap X scope N cap)(hc:X.calm=true)(hi:PI X tg iter wi)(hg:∀C s0 H0 fp,PG (jC X N scope (qK X.env scope.names []) C s0 H0 fp) tg g)(ht:∀C s0 H0 fp,PIf (jC X N scope (qK X.env scope.names []) C s0 H0 fp) ifs tt)(he:∀C s0 H0 fp D,PAct (jC X N scope (qK X.env scope.names []) C s0 H0 fp) act D (ta D))(S:yH X scope)(hs:∀x,foldedSetIterable iter X.env x=pure x)(hcl:clausesOf e=⟨tg,iter,ifs,0⟩::gs){p:Pos}(hev:eval e X.env=comprehension e scope X.env p newAcc false (eval iter X.env)):
  PE X e (ziE wi g tt ta ho cap):=by
 intro pins s σ H Q I h;rw[hev];refine wpAny_comprehension_free (use:=none) hcl hs (zda (S.cellsOf I.ok)) S.kind S.names (thn (hi pins s σ H _ I h) λv s1 h1=>thn h1 λitv s2 h2=>?_);obtain⟨it,fp,tn,J,H2,e,I2,T,st2,f2,hw⟩:=h2;subst e;refine zeB (RR:=λacc C=>compPost (model X.prog X.w) X.A X.xe none (EP X pins σ Q) acc C) ck hc S cp hg ht he I2 T st2 f2 hw ?_;intro D C H' s' m' I' ns fC c1 c2 c3 c4 q;exact⟨m',ns,λh' hs'=>⟨.ref D,H',I'.turned (t':=s'.toks) (λb o hb e=>(hs'.2 b hb).trans e) fC c1 (.inr c2) c3 c4,rfl,q⟩⟩
end
end L2
namespace FL
open L2
noncomputable def datO(ρ:En):Bool:=ρ.all λs=>match s with
 |none=>true
 |some (.dat _)=>true
 |_=>false
variable{ρ:En}
theorem zgj(h:datO ρ=true){i:Nat}{s:Sl}(e:ρ[i]?=some (some s)):∃d,s=.dat d:=by
 have:=JP.mp h _ (List.mem_of_getElem? e);cases s with
 |dat d=>exact⟨d,rfl⟩
 |ow p d=>cases this
 |bor d=>cases this
variable{F H:Hp}{σ:St}
theorem Rel.dats{K:Fg}{F' H':Hp}(r:Rel K F H ρ σ)(h:datO ρ=true)(f:zP F F')(g:zP F' H'):Rel K F' H' ρ σ:=by
 refine⟨g,λi d e=>?_,λi d e=>?_,λi p d e=>?_,λi j p d s a ne e1=>?_,r.len⟩
 ·obtain⟨v,h1,h2⟩:=r.dat i d e;exact⟨v,h1,h2.mono f⟩
 ·obtain⟨d',z⟩:=zgj h e;cases z
 ·obtain⟨d',z⟩:=zgj h e;cases z
 ·obtain⟨d',z⟩:=zgj h e1;cases z
noncomputable def innM(g2:D->EO En)(f:EO D):List D->EO (List D)
 |[],_=>some []
 |y::ys,ρ=>(g2 y ρ).bind λρ'=>if datO ρ'=true then(f ρ').bind λd=>(innM g2 f ys ρ').map λl=>d::l else none
noncomputable def nD(g:D->EO En)(fi2:EO (List D))(g2:D->EO En)(f:EO D)(ρi:En):List D->Option (List D)
 |[]=>some []
 |x::xs=>(g x ρi).bind λρ1=>if datO ρ1=true then(fi2 ρ1).bind λys=>(innM g2 f ys ρ1).bind λl=>(nD g fi2 g2 f ρi xs).map λr=>l++r else none
noncomputable def zhu(cap:ON)(fi:EO (List D))(g:D->EO En)(fi2:EO (List D))(g2:D->EO En)(f:EO D):EO D:=λρ=>(fi ρ).bind λds=>(nD g fi2 g2 f (qH cap ρ) ds).bind λrs=>if rs.length<=lim then some (.lst rs)else none
variable{cap:ON}{fi fi2:EO (List D)}{g g2:D->EO En}{f:EO D}
theorem zin{d:D}(h:zhu cap fi g fi2 g2 f ρ=some d):∃ds rs,fi ρ=some ds/\nD g fi2 g2 f (qH cap ρ) ds=some rs/\rs.length<=lim/\d=.lst rs:=by
 unfold zhu at h;cases e1:fi ρ with
 |none=>rw[e1]at h;cases h
 |some ds=>
  rw[e1]at h;simp only[Option.bind_some]at h;cases e2:nD g fi2 g2 f (qH cap ρ) ds with
  |none=>rw[e2]at h;cases h
  |some rs=>
   rw[e2]at h;simp only[Option.bind_some]at h;obtain⟨hz,rfl⟩:=kP h;exact⟨ds,rs,rfl,e2,hz,rfl⟩
theorem PI.any{X:Cx}{tg iter:Expr}{ι:Type}{t:ι->TI}(h:∀i,PI X tg iter (t i)):PI X tg iter (λσ H R=>∃i,t i σ H R):=λpins s σ H R I ⟨i,ht⟩=>h i pins s σ H R I ht
variable{rs:List D}
section
variable{K:Fg}{md:Md}{X:Cx}{pos:Pos}{tg iter tg2 iter2 elt:Expr}{scope:Scope}
abbrev anyG(K:Fg)(g:D->EO En):TG:=λv σ H Q=>∃i:{q:En×D×En//g q.2.1 q.1=some q.2.2},rdG K i.1.1 i.1.2.1 i.1.2.2 v σ H Q
abbrev anyE(K:Fg)(f:EO D):TE:=λσ H Q=>∃i:{q:En×D//f q.1=some q.2},rdE K .fz i.1.1 i.1.2 σ H Q
abbrev anyI(K:Fg)(f:EO (List D)):TI:=λσ H R=>∃i:{q:En×List D//f q.1=some q.2},rdI K i.1.1 i.1.2 σ H R
theorem zrr{ρ1:En}{ys l done rest:List D}{a:Addr}{acc:List V}{Q:Hp->Prop}(hi:fi2 ρ1=some ys)(hm:innM g2 f ys ρ1=some l)(r:Rel K F H ρ1 σ)(hd:datO ρ1=true)(fa:F a=none)(ha:H a=some (.lst acc))(da:zF K F done acc)(hrs:rs=done++(l++rest))(hz:rs.length<=lim)(q:∀F' H' acc',zP F F'->(∀b o,b≠a->H b=some o->H' b=some o)->zP F' H'->(∀b o,H b=some o->F b=none->F' b=none)->F' a=none->H' a=some (.lst acc')->zF K F' (done++l) acc'->Q H'):
  taN (anyI K fi2) (anyG K g2) (anyE K f) a σ H Q:=by
 refine⟨⟨(ρ1,ys),hi⟩,F,r,λJ F1 H1 g1 ok=>?_⟩;refine⟨λi m σ' H'=>i<=ys.length/\m=ys.length - i/\∃F' ρ' acc' dn left,Rel K F' H' ρ' σ'/\datO ρ'=true/\zP F1 F'/\(∀b o,b≠a->H1 b=some o->H' b=some o)/\(∀b o,H1 b=some o->F1 b=none->F' b=none)/\F' a=none/\H' a=some (.lst acc')/\zF K F' (done++dn) acc'/\innM g2 f (ys.drop i) ρ'=some left/\l=dn++left,
  ⟨ys.length,JD _,rfl,F1,ρ1,acc,[],l,r.grow g1,hd,zP.refl _,λb o _ e=>e,λb o _ e=>e,g1.nw a _ ha fa,g1.hh _ _ ha,by rw[JB];exact da.mono g1.ff,by rw[QR];exact hm,rfl⟩,?_⟩
 rintro i m σ' H' ⟨hi',rfl,F',ρ',acc',dn,left,r',hd',ff,hh,nw,fa',ha',da',e1,e2⟩;obtain⟨o1,o2,o3⟩:=ok F' H' ff r'.sub;by_cases hlt:i<ys.length
 ·refine .inr ⟨o1 i hlt,λx H3 y=>?_⟩;obtain⟨F3,g3,d3⟩:=o2 i x H3 _ (List.getElem?_eq_getElem hlt) y;rw[Jx hlt]at e1;simp only[innM]at e1;cases e3:g2 ys[i] ρ' with
  |none=>rw[e3]at e1;cases e1
  |some ρ2=>
   simp only[e3,Option.bind_some]at e1;obtain⟨hd2,e1⟩:datO ρ2=true/\_:=by
    split at e1
    ·rename_i hz;exact⟨hz,e1⟩
    ·cases e1
   refine⟨⟨(ρ',ys[i],ρ2),e3⟩,F3,r'.grow g3,d3,λσ2 r2 _=>?_⟩;cases e5:f ρ2 with
   |none=>rw[e5]at e1;cases e1
   |some d=>
    simp only[e5,Option.bind_some]at e1;cases e6:innM g2 f (ys.drop (i+1)) ρ2 with
    |none=>rw[e6]at e1;cases e1
    |some l2=>
     rw[e6]at e1;cases e1
     refine⟨⟨(ρ2,d),e5⟩,F3,r2,λv F5 H5 g5 d5=>?_⟩;have ha3:=g3.hh _ _ ha';have fa3:=g3.nw a _ ha' fa';have ha5:=g5.hh _ _ ha3;have fa5:=g5.nw a _ ha3 fa3;have al:acc'.length<lim:=by
      have h1:=da'.length;have h2:rs.length=done.length+(dn.length+(l2.length+1)+rest.length):=by rw[hrs,e2];simp;omega
      rw[Jm]at h1;omega
     have sub5:zP F5 (upd H5 a (.lst (acc'++[v]))):=λb o e=>by rw[zW (jE e fa5)];exact g5.fh _ _ e
     refine⟨acc',ha5,zdf (Nat.le_of_lt al),ys.length - (i+1),by omega,hlt,rfl,F5,ρ2,acc'++[v],dn++[d],l2,r2.dats hd2 g5.ff sub5,hd2,ff.trans (g3.ff.trans g5.ff),λb o ne e=>?_,λb o e n=>?_,fa5,qR,?_,e6,by rw[e2];simp⟩
     ·rw[zW ne];exact g5.hh _ _ (g3.hh _ _ (hh b o ne e))
     ·by_cases hb:b=a
      ·rw[hb];exact fa5
      ·exact g5.nw b o (g3.hh _ _ (hh b o hb e)) (g3.nw b o (hh b o hb e) (nw b o e n))
     ·rw[←JG];exact(da'.mono (g3.ff.trans g5.ff)).snoc d5
 ·have e:i=ys.length:=by omega
  subst e;rw[QI]at e1;have e1:some []=some left:=e1;cases e1
  rw[JB]at e2;subst e2;refine .inl ⟨o3,q F' H' acc' (g1.ff.trans ff) (λb o ne e=>hh b o ne (g1.hh _ _ e)) r'.sub (λb o e n=>nw b o (g1.hh _ _ e) (g1.nw b o e n)) fa' ha' da'⟩
theorem znB{ds:List D}{Q:VK}(hm:nD g fi2 g2 f (qH cap ρ) ds=some rs)(hz:rs.length<=lim)(r:Rel K F H ρ σ)(q:∀v F' H',zK F H F' H'->Res K .ow H F' H' (.lst rs) v->Q v H'){J:It}{F1 H1:Hp}(g1:zK F H F1 H1)(ok:zds K J F1 ds):
  zgA J (anyG K g) (λσ H Q=>∃i:{q:En×Bool//qQ q.1=some q.2},rdTp K i.1.1 i.1.2 σ H Q) (taN (anyI K fi2) (anyG K g2) (anyE K f)) (.lst []) cap σ H1 Q:=by
 intro a ha;refine⟨λi m H2=>i<=ds.length/\m=ds.length - i/\∃F2 acc done left,zK F H F2 H2/\zP F1 F2/\(∀b o,H1 b=some o->H2 b=some o)/\F2 a=none/\H2 a=some (.lst acc)/\zF K F2 done acc/\nD g fi2 g2 f (qH cap ρ) (ds.drop i)=some left/\rs=done++left,
  ⟨ds.length,JD _,rfl,F1,[],[],rs,⟨g1.ff,g1.hh.trans (wW ha _),g1.fh.trans (wW ha _),g1.nw⟩,zP.refl _,λb o e=>wW ha _ _ _ e,g1.fh.free ha,qR,zF.nil,by rw[QR];exact hm,rfl⟩,?_⟩
 rintro i m H2 ⟨hi,rfl,F2,acc,done,left,gg,ff,hh,fa,hd,da,e1,e2⟩;obtain⟨o1,o2,o3⟩:=ok F2 H2 ff gg.fh;have haH:H a=none:=g1.hh.free ha;by_cases hlt:i<ds.length
 ·refine .inr ⟨o1 i hlt,λx H3 y=>?_⟩;obtain⟨F3,g3,d3⟩:=o2 i x H3 _ (List.getElem?_eq_getElem hlt) y;rw[Jx hlt]at e1;simp only[nD]at e1;have g23:=gg.trans g3;have hd3:=g3.hh _ _ hd;have fa3:=g3.nw a _ hd fa;cases e3:g ds[i] (qH cap ρ)with
  |none=>rw[e3]at e1;cases e1
  |some ρ1=>
   simp only[e3,Option.bind_some]at e1;obtain⟨hd1,e1⟩:datO ρ1=true/\_:=by
    split at e1
    ·rename_i hz;exact⟨hz,e1⟩
    ·cases e1
   refine⟨⟨(qH cap ρ,ds[i],ρ1),e3⟩,F3,(r.grow g23).inner,d3,λσ2 r2 _=>?_⟩;refine⟨⟨(ρ1,true),rfl⟩,F3,r2,λF4 H4 g4=>iteT ?_⟩;cases e4:fi2 ρ1 with
   |none=>rw[e4]at e1;cases e1
   |some ys=>
    simp only[e4,Option.bind_some]at e1;cases e5:innM g2 f ys ρ1 with
    |none=>rw[e5]at e1;cases e1
    |some l=>
     simp only[e5,Option.bind_some]at e1;cases e6:nD g fi2 g2 f (qH cap ρ) (ds.drop (i+1))with
     |none=>rw[e6]at e1;cases e1
     |some rest=>
      rw[e6]at e1;cases e1
      have g24:=g23.trans g4;refine zrr e4 e5 (r2.grow g4) hd1 (g4.nw a _ hd3 fa3) (g4.hh _ _ hd3) (da.mono (g3.ff.trans g4.ff)) e2 hz λF5 H5 acc5 f5 h5 s5 n5 fa5 ha5 da5=>?_
      refine⟨ds.length - (i+1),by omega,hlt,rfl,F5,acc5,done++l,rest,⟨g24.ff.trans f5,λb o e=>?_,s5,λb o e n=>?_⟩,ff.trans (g3.ff.trans (g4.ff.trans f5)),λb o e=>?_,fa5,ha5,da5,e6,by rw[e2];simp⟩
      ·exact h5 b o (jE e haH) (g24.hh _ _ e)
      ·exact n5 b o (g24.hh _ _ e) (g24.nw b o e n)
      ·exact h5 b o (jE e ha) (g4.hh _ _ (g3.hh _ _ (hh b o e)))
 ·have e:i=ds.length:=by omega
  subst e;rw[QI]at e1;have e1:some []=some left:=e1;cases e1
  rw[JB]at e2;subst e2;exact .inl ⟨o3,q _ F2 H2 gg ⟨a,rfl,haH,fa,acc,hd,da⟩⟩
theorem zrD(N:List Str)(cap:ON)(cp:Cap X scope N cap)(hc:X.calm=true)(hi:FI K X tg iter fi)(hg:∀C s0 H0 fp,FG K (jC X N scope (qK X.env scope.names []) C s0 H0 fp) tg g)(hi2:∀C s0 H0 fp,FI K (jC X N scope (qK X.env scope.names []) C s0 H0 fp) tg2 iter2 fi2)(hg2:∀C s0 H0 fp,FG K (jC X N scope (qK X.env scope.names []) C s0 H0 fp) tg2 g2)(he:∀C s0 H0 fp,FP K .fz (jC X N scope (qK X.env scope.names []) C s0 H0 fp) elt f)(S:yH X scope:=by exact yH.mk')(hs:∀x,foldedSetIterable iter X.env x=pure x:=by intro _;rfl)(hs2:∀C s0 H0 fp x,foldedSetIterable iter2 (jC X N scope (qK X.env scope.names []) C s0 H0 fp).env x=pure x:=by intro _ _ _ _ _;rfl)(hK:X.K=K:=by rfl):
  FP K .ow X (lc2 elt tg iter tg2 iter2 scope pos) (zhu cap fi g fi2 g2 f):=FP.mk λρ d hf=>by
 subst hK;obtain⟨ds,rs,e1,e2,hz,rfl⟩:=zin hf;refine PE.imp (zkI (zpI (elt:=elt) (tg:=tg) (iter:=iter) (tg2:=tg2) (iter2:=iter2) (scope:=scope) (pos:=pos)) N cap cp hc (hi.h ρ ds e1) (λC s0 H0 fp=>PG.any λi:{q:En×D×En//g q.2.1 q.1=some q.2.2}=>(hg C s0 H0 fp).h _ _ _ i.2) (λC s0 H0 fp=>PIf.any λi:{q:En×Bool//qQ q.1=some q.2}=>(wH (K:=X.K)).h _ _ i.2)
  (λC s0 H0 fp A=>zkL (Y:=jC X N scope (qK X.env scope.names []) C s0 H0 fp) (λe s z=>z) hc (PI.any λi:{q:En×List D//fi2 q.1=some q.2}=>(hi2 C s0 H0 fp).h _ _ i.2) (PG.any λi:{q:En×D×En//g2 q.2.1 q.1=some q.2.2}=>(hg2 C s0 H0 fp).h _ _ _ i.2) (PE.any λi:{q:En×D//f q.1=some q.2}=>(he C s0 H0 fp).h _ _ i.2) (hs2 C s0 H0 fp) A) S hs rfl (eval_ListComp ..)) λσ H Q ⟨F,r,q⟩=>?_
 exact⟨F,r,λJ F1 H1 g1 ok=>znB e2 hz r q g1 ok⟩
end
end FL
namespace L2
variable{elts:List Expr}{tpos:Pos}
section
variable{X:Cx}
def ItEl(K:Fg)(a:Addr):It:=
 ⟨λi H=>∃xs x,SqL K H a xs/\xs[i]?=some x,λi H x H'=>∃p v,H p=none/\x=.ref p/\H'=upd H p (.tup [.int i,v])/\∀xs,SqL K H a xs->xs[i]?=some v,λi H=>∃xs,SqL K H a xs/\xs.length=i⟩
theorem zju{P:Program}{w:World}{K:Fg}{k:Nat}(a e it:Addr)(hei:e≠it):Turn P w K (.Tuple elts k tpos) (ItEl K a) [e,it] e (λi h=>(∃old,IsEnum h e it i old)/\h.IsListIter it a i)where
 mem:=by simp
 obj:=λi h st b hb=>by
  obtain⟨⟨old,he⟩,o,e2,c,d⟩:=st;rcases JC.mp hb with rfl|hb
  ·exact⟨_,he,λv z=>by cases(show Data.fields _=Data.cell v from z)⟩
  ·rw[Wc.mp hb];exact⟨o,e2,λv z=>by rw[d]at z;cases z⟩
 keep:=λi h h' st k=>⟨let⟨old,he⟩:=st.1;⟨old,k e (by simp) _ he⟩,st.2.at λo e=>k it (by simp) o e⟩
 item:=by
  intro X hP hw hK hc i pins s σ H E I hf st hg;subst hP hw hK;obtain⟨xs,x,hq,hx⟩:=hg;obtain⟨its,rv,p,hz⟩:=I.list hq
  replace p:=p.isList
  obtain⟨u,hu,ru⟩:=rv.get hx;obtain⟨⟨old,he⟩,hit⟩:=st;have fe:=hf e (by simp);have fi:=hf it (by simp);have hai:a≠it:=by
   rintro rfl;obtain⟨o,e1,c1,_⟩:=id hit;obtain⟨o',e2,c2,_⟩:=id p;rw[e1]at e2;cases e2;rw[c1]at c2
   exact absurd c2 (by decide)
  have hae:a≠e:=by
   rintro rfl;obtain⟨o',e2,c2,_⟩:=id p;rw[he]at e2;cases e2
   exact absurd (show Value.type "enumerate"=Value.type "list"from c2) (by decide)
  have hilt:i<its.toArray.size:=by have:=(List.getElem?_eq_some_iff.mp hu).1;simpa using this
  refine wpAny_pyNext_enum_itemD (Draws.list (A:=X.A.in1) (I.ok.hd hc) it a hai its.toArray) he ⟨hit,p⟩ hilt hei (by simp[hei,Ne.symm hae]) λx' h' tk hP ho hs' hT hsz hk=>?_
  have ex:x'=u:=by
   have:its[i]?=some x':=by simpa using hP
   rw[hu]at this;exact(Option.some.inj this).symm
  subst ex;refine⟨_,rfl,?_⟩;refine wpAny_letOwnedTupleGo_enum ho λh2 he2 hs2=>?_
  have hTe:s.heap.objs.size≠e:=Nat.ne_of_gt (Jf he);have hTn:h2.get? s.heap.objs.size=some {cls:=.type "tuple",data:=.seq #[.int i tk,x']}:=(hs2.2 _ hTe).trans hT;have kk:∀b o,b≠e->b≠it->s.heap.get? b=some o->h2.get? b=some o:=λb o h1 h3 e=>(hs2.2 b h1).trans (hk b o h1 h3 e)
  have hit2:h2.IsListIter it a (i+1):=hs'.1.at λo e=>(hs2.2 it (Ne.symm hei)).trans e
  have fr:H s.heap.objs.size=none:=I.fresh;have I1:=zjf (i:=i) I fe fi ru hTn kk;refine⟨.ref s.heap.objs.size,_,I1,rfl,⟨s.heap.objs.size,x,fr,rfl,rfl,λys hy=>by rw[I.list_inj hy hq];exact hx⟩,⟨⟨x',by simpa using he2⟩,hit2⟩,λb hb=>?_⟩;have hbl:b≠s.heap.objs.size:=by
   rcases JC.mp hb with rfl|hb
   ·exact Ne.symm hTe
   ·rw[Wc.mp hb];obtain⟨o,e1,_⟩:=hit;exact Jv (Jf e1)
  rw[zW hbl];exact(hf b hb).1
 done:=by
  intro X hP hw hK hc i pins s σ H E I hf st hg;subst hP hw hK;obtain⟨xs,hq,hx⟩:=hg;obtain⟨its,rv,p,hz⟩:=I.list hq
  replace p:=p.isList
  obtain⟨⟨old,he⟩,hit⟩:=st;have fi:=hf it (by simp);have hai:a≠it:=by
   rintro rfl;obtain⟨o,e1,c1,_⟩:=id hit;obtain⟨o',e2,c2,_⟩:=id p;rw[e1]at e2;cases e2;rw[c1]at c2
   exact absurd c2 (by decide)
  have hn:its.toArray.size=i:=by rw[Jb,←rv.length];exact hx
  refine wpAny_pyNext_enum_endD (Draws.list (A:=X.A.in1) (I.ok.hd hc) it a hai its.toArray) he (by rw[hn];exact⟨hit,p⟩) λh' hx'=>⟨rfl,?_⟩
  obtain⟨f0,f1,f2,f3,f4,f5⟩:=fi;exact I.turned (t':=s.toks) (λb o hb e=>hx' b o hb e) f0 f1 f3 f4 f5
 self:=λA i s Q E st h=>by obtain⟨⟨old,he⟩,_⟩:=st;exact wpAny_pyIter_enum he h
noncomputable def zrw(K:Fg)(ta:TA):TI:=λσ H R=>ta σ H λvs H1=>∃a xs,vs=[.ref a]/\SqL K H1 a xs/\R (ItEl K a) H1
theorem zmI{k:Nat}{p pos:Pos}{a:Expr}{ta:TA}(hg:Gl X "enumerate")(hm:X.mg "enumerate"=none)(ha:PA X [a] ta)(hs:starEach [a] X.env=[(false,eval a X.env)]:=by rfl):PI X (.Tuple elts k tpos) (.Call (.Name "enumerate" p) [a] [] pos) (zrw X.K ta):=by
 intro pins s σ H R I h;refine Call_ (nK I hg hm boot_enumerate (JE (thn (ha pos pins s σ H _ I h) λus s1 ⟨vs,H1,I1,r1,q1⟩=>?_) hs rfl));obtain⟨a,xs,e,hq,q⟩:=q1;subst e;obtain⟨u,rfl,ru⟩:=gF r1;cases ru
 obtain⟨its,rv,p,hz⟩:=I1.list hq
 replace p:=p.isList
 refine call_enumerate_list p λh' he hit hsz hk=>?_
 have I2:Inv X pins σ H1 {s1 with heap:=h'}:=I1.kept (t':=s1.toks) hk;refine wpAny_pyIter_enum he ?_;refine⟨s1.heap.objs.size+1,[s1.heap.objs.size+1,s1.heap.objs.size],_,_,H1,rfl,I2,zju a (s1.heap.objs.size+1) s1.heap.objs.size (Nat.succ_ne_self _),⟨⟨_,he⟩,hit⟩,λb hb=>?_,q⟩;rcases JC.mp hb with rfl|hb
 ·exact I1.fpOk (Nat.le_succ _) (I1.hok.fresh (Nat.le_succ _))
 ·rw[Wc.mp hb];exact I1.fpOk (Jd _) (I1.hok.fresh (Jd _))
end
end L2
namespace FL
open L2
section
variable{K:Fg}{md:Md}{X:Cx}{f:EO D}{pos:Pos}
noncomputable def cEnL(f:EO D):EO (List D):=λρ=>match f ρ with
 |some (.lst l)=>some (vU 0 l)
 |_=>none
theorem zln{elts:List Expr}{k:Nat}{tpos p:Pos}{a:Expr}(h:FP K .fz X a f)(hg:Gl X "enumerate")(hm:X.mg "enumerate"=none)(hs:starEach [a] X.env=[(false,eval a X.env)]:=by rfl)(hK:X.K=K:=by rfl):
  FI K X (.Tuple elts k tpos) (.Call (.Name "enumerate" p) [a] [] pos) (cEnL f):=FI.mk λρ ds hf=>by
 subst hK;unfold cEnL at hf;split at hf
 ·rename_i l e1;cases hf
  refine PI.imp (zmI hg hm (yW (h.h ρ _ e1) wO hs) hs) λσ H R ⟨F,r,q⟩=>⟨F,r,λv F1 H1 g1 r1=>?_⟩
  obtain⟨a,vs,rfl,f1,q1⟩:=Dat.lst_inv (K:=X.K) (F:=F1) r1;refine⟨a,vs,rfl,SqL.of (g1.fh _ _ f1),q _ F1 H1 g1 λF2 H2 a2 b2=>?_⟩;have hs:SqL X.K H2 a vs:=SqL.of (b2 _ _ (a2 _ _ f1));have hl:=q1.length;refine⟨λi hi=>?_,λi x H3 d hd y=>?_,?_⟩
  ·rw[nM]at hi;exact⟨vs,vs[i]'(by omega),hs,by simp⟩
  ·obtain⟨x0,hx0,rfl⟩:=zbk 0 l i d hd;obtain⟨pp,vv,hpp,rfl,rfl,hv⟩:=y;obtain⟨w,hw,dw⟩:=q1.get hx0;rw[hv vs hs]at hw;cases hw
   have g:=zK.frozen (o:=.tup [.int (i:Int),vv]) b2 hpp;refine⟨_,g,Dat.tup (K:=X.K) qR ?_⟩;rw[QC];exact zF.cons (Dat.int (K:=X.K) _) (zF.cons ((dw.mono a2).mono g.ff) zF.nil)
  ·rw[nM];exact⟨vs,hs,by omega⟩
 ·cases hf
end
end FL
namespace HD
open PySem PySem.W PySem.Calls PyProof.Rows
noncomputable def bal(S:SharedT->Thread->Option (SharedT×Thread))(ok:Thread->Bool)(d:Nat):SharedT->Thread->Option (SharedT×Thread):=
 @Nat.rec (λ_=>SharedT->Thread->Option (SharedT×Thread)) (λs t=>match through t with
  |true=>some (s,t)
  |false=>match ok t with
   |false=>none
   |true=>S s t)
  (λ_ ih s t=>match ih s t with
   |none=>none
   |some (s',t')=>match through t' with
    |true=>some (s',t')
    |false=>ih s' t') d
section
variable{tb:String->Option Builtin}{p:Program}{w:World}{n₀:Nat}{ann:Option Value}
theorem zgD:∀{n m:Nat}{s s' s2:Shared} {t t' t2:Thread},topGo tb p w n₀ ann n s t=some (s',t')->topGo tb p w n₀ ann m s' t'=some (s2,t2)->topGo tb p w n₀ ann (n+m) s t=some (s2,t2)
 |0,m,s,s',s2,t,t',t2,h,k=>by
  obtain⟨rfl,rfl⟩:s=s'/\t=t':=by simpa[topGo]using h
  rw[QC];exact k
 |n+1,m,s,s',s2,t,t',t2,h,k=>by
  rw[show n+1+m=n+m+1 by omega];unfold topGo at h ⊢;cases ht:through t with
  |true=>rw[ht]at h;cases h
  |false=>
   rw[ht]at h;cases hk:stepOk n₀ ann t with
   |false=>rw[hk]at h;cases h
   |true=>
    rw[hk]at h;cases hs:step (denote tb) p w s t with
    |halt o s₂=>rw[hs]at h;cases h
    |go s₂ t₂=>rw[hs]at h;exact zgD h k
theorem zma:∀(d:Nat) {s s':SharedT}{t t':Thread},bal (stepT (denote tb) p w) (stepOk n₀ ann) d s t=some (s',t')->∃n,n<=2^d/\topGo tb p w n₀ ann n s.abs t=some (s'.abs,t')
 |0,s,s',t,t',h=>by
  have h:(match through t with
   |true=>some (s,t)
   |false=>match stepOk n₀ ann t with
    |false=>none
    |true=>stepT (denote tb) p w s t)=some (s',t'):=h
  cases ht:through t with
  |true=>rw[ht]at h;cases h;exact⟨0,JD _,rfl⟩
  |false=>
   rw[ht]at h;cases hk:stepOk n₀ ann t with
   |false=>rw[hk]at h;cases h
   |true=>
    rw[hk]at h;refine⟨1,by simp,?_⟩;unfold topGo;rw[ht,hk,stepT_spec h];rfl
 |d+1,s,s',t,t',h=>by
  have h:(match bal (stepT (denote tb) p w) (stepOk n₀ ann) d s t with
   |none=>none
   |some (s',t')=>match through t' with
    |true=>some (s',t')
    |false=>bal (stepT (denote tb) p w) (stepOk n₀ ann) d s' t')=some (s',t'):=h
  cases e:bal (stepT (denote tb) p w) (stepOk n₀ ann) d s t with
  |none=>rw[e]at h;cases h
  |some r=>
   obtain⟨s1,t1⟩:=r;rw[e]at h;obtain⟨n,hn,g⟩:=zma d e;cases ht:through t1 with
   |true=>simp only[ht]at h;cases h;exact⟨n,by rw[Nat.pow_succ];omega,g⟩
   |false=>
    simp only[ht]at h;obtain⟨m,hm,g2⟩:=zma d h;exact⟨n+m,by rw[Nat.pow_succ];omega,zgD g g2⟩
theorem zpN{d:Nat}{s s':SharedT}{t t':Thread}(h:bal (stepT (denote tb) p w) (stepOk n₀ ann) d s t=some (s',t'))(ht:through t'=true){N:Nat}(hN:2^d+1<=N):
  topRun tb p w n₀ ann N s.abs t=some s'.abs:=by
 obtain⟨n,hn,g⟩:=zma d h;have k:topRun tb p w n₀ ann 1 s'.abs t'=some s'.abs:=by unfold topRun;rw[ht]
 have r:=topRun_mono (N - (n+1)) _ _ _ _ (go_top g k);rwa[show n+1+(N - (n+1))=N by omega]at r
end
def zrq(l:List Obj):Nat->BT->BT:=@List.rec Obj (λ_=>Nat->BT->BT) (λ_ t=>t) (λo _ ih n t=>ih (n+1) (t.ins n o)) l
def zpM(P:Params):BT:=zrq (boot_heap P).objs.toList 0 .nil
theorem znE(P:Params):absHeap (zpM P) 11 {}=boot_heap P:=by kernel_rfl
theorem zjV(P:Params):((boot_heap P).isNs mainGlobals,(boot_heap P).objs.size,(boot_heap P).nsMap mainGlobals "__annotations__")=(true,11,some (.ref 6)):=by kernel_rfl
section
variable{p q:Program}{loose:List Str}{Xt:Shared->Bool}{α:Type}{Yf:Shared->α}{Ya:World->α}{N d:Nat}
def bootS(w:World)(os:OsState):SharedT:=⟨zpM w.params,11,{},⟨[]⟩,boot_drawn,boot_toks,os⟩
def looks(p q:Program)(loose:List Str)(Xt:Shared->Bool)(Yf:Shared->α)(sn:Program->List Str->List Str->(Shared->Bool)->Bool->Shared->β)(im:List Stmt->List Str)(w:World)(r:SharedT×Thread):Bool×Bool×β×α:=
 (through r.2,staticsOk (im p.main.body) (boot_heap w.params) r.1.abs.heap&&namesBound p r.1.abs.heap&&gensDone r.1.abs&&laidKept (boot_heap w.params) r.1.abs.heap,sn q loose (im p.main.body) Xt true r.1.abs,Yf r.1.abs)
theorem left_of(e:opening p=plainProg p.main.scope.names)(hN:Nat.ble 600 N=true)(hd:Nat.ble (2^d+1) N=true)(f:∀s,fenceModules? p s=some s)(h:∀w:World,(λos:OsState=>(bal (stepT (denote treeTable) p w) (stepOk 11 (some (.ref 6))) d (bootS w os) (topStub p)).map (looks p q loose Xt Yf openSeen importedModules w))=λ_=>some (true,true,openGood q loose,Ya w)):
  LeftO p q loose Xt Yf Ya N:=λw=>by
 obtain⟨⟨hp,gs,dr,k,os⟩,e1,e2⟩:=Qz.mp (boot_open e hN f w);obtain⟨rfl,rfl,rfl,rfl⟩:hp=boot_heap w.params/\gs=⟨[]⟩/\dr=boot_drawn/\k=boot_toks:=by simpa using e2
 obtain⟨⟨s,t⟩,b1,b2⟩:=Qz.mp (congrFun (h w) os);have l1:=JV (λx=>x.1) b2;have l2:=JV (λx=>x.2.1) b2;have l3:=JV (λx=>x.2.2.1) b2;have l4:=JV (λx=>x.2.2.2) b2;dsimp only[looks]at l1 l2 l3 l4;have r:=zpN b1 l1 (Nat.le_of_ble_eq_true hd);have ea:(bootS w os).abs=⟨boot_heap w.params,⟨[]⟩,boot_drawn,boot_toks,os⟩:=by show Shared.mk (absHeap (zpM w.params) 11 {}) _ _ _ _=_;rw[znE];rfl
 rw[ea]at r;have z:=zjV w.params;simp only[Prod.mk.injEq]at z;obtain⟨z1,z2,z3⟩:=z;have t':topFrom treeTable p w N ⟨boot_heap w.params,⟨[]⟩,boot_drawn,boot_toks,os⟩=some s.abs:=by unfold topFrom;dsimp only;rw[z1,z2,z3,r];show(match staticsOk (importedModules p.main.body) (boot_heap w.params) s.abs.heap&&namesBound p s.abs.heap&&gensDone s.abs&&laidKept (boot_heap w.params) s.abs.heap with|true=>_|false=>_)=_;rw[l2]
 unfold openEnds;rw[e1];show(topFrom treeTable p w N _).map _=_;rw[t'];exact JV some (Prod.ext l3 l4)
end
end HD
namespace FL
open L2
def znG(h:Heap):Fg:=(List.range h.objs.size).filterMap λa=>(h.get? a).map λo=>(a,o)
theorem allIn_in(h:Heap):(znG h).In h:=by
 intro a o;unfold znG;generalize List.range h.objs.size=l;induction l with
 |nil=>intro e;cases e
 |cons b l ih=>
  rw[Qq];cases e:h.get? b with
  |none=>exact ih
  |some u=>
   intro q;have q:List.lookup a ((b,u)::List.filterMap (λa=>Option.map (λo=>(a,o)) (h.get? a)) l)=some o:=q;rw[JX]at q;cases z:a==b with
   |true=>rw[z]at q;cases q;rw[beq_iff_eq.mp z];exact e
   |false=>rw[z]at q;exact ih q
abbrev FnT:=Str×Str×Arguments×FuncBody×Scope×Addr×List (Str×Addr)×Value×Addr
def fnT(fd:FuncData):FnT:=(fd.name,fd.qualname,fd.params,fd.body,fd.scope,fd.globals,fd.closure,fd.defaults,fd.builtins)
noncomputable def fnv(K:Fg)(n:Str):Option (FnT×Bool):=match PySem.W.nsIn K mainGlobals n with
 |some (some (.ref f))=>(match K.lookup f with
  |some ⟨_,_,.func fd,_⟩=>some (fnT fd,PySem.W.codeIn K fd.code n&&PySem.W.keepIn K (.ref f))
  |_=>none)
 |_=>none
def stN:Stmt->Str
 | .FunctionDef n ..=>n
 | .ClassDef n ..=>n
 |_=>⟨#[]⟩
noncomputable def fnx(p:Program)(i:Nat):Option (FnT×Bool):=
 let st:=p.main.body.getD i (.Pass ⟨0,0,0,0⟩)
 some (fnT (PySem.W.fnOf (stN st) (stN st) (zgf st) (nN st) (kR st) .none .none .none .none none .none .none),true)
variable{K:Fg}{p:Program}{n:Str}
theorem zlu{i:Nat}(st:Stmt)(hst:p.main.body.getD i (.Pass ⟨0,0,0,0⟩)=st)(hn:stN st=n)(e:fnv K (stN (p.main.body.getD i (.Pass ⟨0,0,0,0⟩)))=fnx p i):
  ∃f fd,PySem.W.nsIn K mainGlobals n=some (some (.ref f))/\Fun K n n st f fd:=by
 subst hst;unfold fnx at e;dsimp only at e;rw[hn]at e;unfold fnv at e;split at e
 ·rename_i f e1;split at e
  ·rename_i oc od fd osl e2;have e3:=Option.some.inj e;have e4:=JV Prod.fst e3;have e5:=JV Prod.snd e3;dsimp only at e4 e5;obtain⟨c,k⟩:=Bool.and_eq_true_iff.mp e5;refine⟨f,fd,e1,⟨oc,od,fd.kwdefaults,fd.doc,fd.pyModule,fd.annotations,fd.code,fd.closureTuple,osl,?_,e2,c⟩,k⟩;obtain⟨a1,a2,a3,a4,a5,a6,a7,a8,a9,a10,a11,a12,a13,a14,a15⟩:=fd;unfold fnT at e4;simp only[Prod.mk.injEq]at e4;obtain⟨rfl,rfl,rfl,rfl,rfl,rfl,rfl,rfl,rfl⟩:=e4;rfl
  ·cases e
 ·cases e
def kC(p:Program)(i:Nat):Stmt:=p.main.body.getD i (.Pass ⟨0,0,0,0⟩)
def biN:List Str:=["isinstance","str","tuple","list","int","bool","dict","len","range","enumerate","sum","max","min","abs","zip","reversed","sorted","set","any","all"]
abbrev FaT:=List (Option (FnT×Bool))×List (Option (Option Value))
def faV(p:Program)(I:List Nat)(K:Fg):FaT:=(I.map λi=>fnv K (stN (p.main.body.getD i (.Pass ⟨0,0,0,0⟩))),biN.map λn=>PySem.W.nsIn K mainGlobals n)
def faX(p:Program)(I:List Nat):FaT:=(I.map λi=>fnx p i,biN.map λ_=>some none)
theorem zld{α β:Type}{f g:α->β}:∀{l:List α},l.map f=l.map g->∀i∈l,f i=g i
 |[],_,_,h=>nomatch h
 |a::l,e,i,h=>by
  injection e with e1 e2;cases h with
  |head=>exact e1
  |tail _ h=>exact zld e2 i h
variable{I:List Nat}
theorem zrG(A:faV p I K=faX p I)(i:Nat)(hi:i∈I)(hn:stN (kC p i)=n):
  ∃f fd,PySem.W.nsIn K mainGlobals n=some (some (.ref f))/\Fun K n n (kC p i) f fd:=zlu _ rfl hn (zld (JV Prod.fst A) i hi)
theorem zrF{h:Heap}{mg:SV}(A:faV p I K=faX p I)(X:K.In h)(G:h.Ns mainGlobals mg):Glb mg:=by
 have z:∀n∈biN,mg n=none:=λn hn=>PySem.W.mg_none_of X G (zld (f:=λn=>PySem.W.nsIn K mainGlobals n) (g:=λ_=>some none) (JV Prod.snd A) n hn)
 simp only[biN,List.forall_mem_cons]at z;obtain⟨z1,z2,z3,z4,z5,z6,z7,z8,z9,z10,z11,z12,z13,z14,z15,z16,z17,z18,z19,z20,_⟩:=z;exact⟨z1,z2,z3,z4,z5,z6,z7,z8,z9,z10,z11,z12,z13,z14,z15,z16,z17,z18,z19,z20⟩
section
variable{K:Fg}{F H:Hp}{P:Program}{w:World}{h:Heap}
end
section
variable{X:Cx}{k:Nat}{F H:Hp}{pins:AO}{σ:St}{s:Shared}
variable{e:Expr}{f:EO D}{ρ:En}{d:D}{x z:Str}{j j':Int}{p1 p2 p3 pos:Pos}
end
end FL
namespace FX
section
variable{prog:Program}{w:World}{A:Around}{E:VS}{h:Heap}{g:Array GenState}{d:Drawn}{t:Nat}{os:OsState}
variable{nm q:Str}{C N:Addr}{bs bm:List Value}{hdct:Bool}{sn:List Str}{sub:List Value}{ab:Bool}{col:Option Bool}{dd:Option Addr}{k0 k1 k2 k3 k5:Option Value}
end
open PySem Builtin Builtin.ObjectAttr
section
variable{prog:Program}{w:World}{A:Around}{E:VS}{h:Heap}{g:Array GenState}{d:Drawn}{t:Nat}{os:OsState}
variable{nm q:Str}{C N x:Addr}{bs bm:List Value}{hdct:Bool}{sn:List Str}{sub:List Value}{ab:Bool}{col:Option Bool}{dd:Option Addr}{k0 k1 k2 k3 k5:Option Value}{newId:String}{mN mA:SV}{name:Str}{v:Value}{ns:List Str}
end
end FX
namespace FL
open L2
section
variable{X:Cx}{pins:AO}{σ:St}{H:Hp}{s:Shared}{Q:VK}{C fI:Addr}{k:Nat}{fd:FuncData}{ps:List Str}{fld:Str}
variable{e1 e2:Expr}{t:TA}{p pos apos cpos:Pos}{x:Str}
end
section
variable{X:Cx}{pins:AO}{σ:St}{H:Hp}{s:Shared}{k:Nat}{fld:Str}{o value:Expr}{p pos:Pos}
end
section
variable{P:Program}{w:World}{K:Fg}{mg:SV}{base:Heap}{k:Nat}{C fI:Addr}{fd:FuncData}{qual pn fld:Str}{st:Stmt}
end
end FL
namespace FX
section
variable{M:Model}{A:Around}{E:VS}{env:Env}
variable{nm q:Str}{C N:Addr}{bs bm:List Value}{hdct:Bool}{sn:List Str}{sub:List Value}{ab:Bool}{col:Option Bool}{dd:Option Addr}{k0 k1 k2 k3 k5:Option Value}{newId:String}
end
end FX
namespace FL
open L2
section
variable{X:Cx}{pins:AO}{σ:St}{F H:Hp}{s:Shared}{k j:Nat}{c:Str}{e:Expr}{f:EO D}{p pos rp:Pos}{K:Fg}{md:Md}
end
section
variable{P:Program}{w:World}{K:Fg}{mg:SV}{base:Heap}{md:Md}{X:Cx}{k j:Nat}{ps:List Str}{m:List D->Option Rs}{x:Str}{e:Expr}{es:List Expr}{fs:EO (List D)}{p pos:Pos}{f:Addr}{fd:FuncData}
end
section
variable{X:Cx}{pins pins':AO}{σ:St}{H:Hp}{s:Shared}{E:VS}{a C CE fE da:Addr}{K:Fg}{md:Md}
end
end FL
namespace FX
open PySem.W
section
variable{prog:Program}{w:World}{A:Around}{E:VS}{s:Shared}{K:Frag}{x C:Addr}{ox:Obj}{od:Option Obj}{name:Str}
end
end FX
namespace FL
open L2
section
variable{X:Cx}{pins:AO}{σ:St}{F H:Hp}{s:Shared}{K:Fg}{c:Str}{C a da:Addr}{e:Expr}{f:EO D}{p pos:Pos}
end
section
variable{X:Cx}{pins:AO}{σ:St}{F H:Hp}{s:Shared}{K:Fg}{c:Str}{C CE fE a da:Addr}{e:Expr}{f:EO D}{p pos:Pos}{k:Nat}{fd:FuncData}{pn:Str}
end
section
variable{X:Cx}{K:Fg}{md:Md}{j:Nat}{c:Str}{L:List Str}{e:Expr}{f:EO D}{p pos rp p2:Pos}
end
section
variable{X:Cx}{k j:Nat}{ps:List Str}{md:Md}{m:LO}{K:Fg}{x:Str}{a b:Expr}{f:EO D}{h:EO (Str×D)}{p pos:Pos}
end
end FL
namespace FX
variable{t:Addr}{items:Array Value}
section
variable{prog:Program}{w:World}{A:Around}{E:VS}{s:Shared}
theorem zhp{it:Addr}(hne:t≠it):∀(n i:Nat) (s:Shared) (Q:List Value->Shared->Prop),s.heap.IsListIter it t i->s.heap.IsList t items->i+n<=items.size->
  (∀h':Heap,h'.IsListIter it t (i+n)->Heap.SameBut it s.heap h'->Q ((items.toList.drop i).take n) {s with heap:=h'})->wpAny (model prog w) A (draw (.ref it) n) Q E s
 |0,i,s,Q,hit,_,_,hQ=>by show wpAny _ _ (pure []) Q E s;exact Jc (by simpa using hQ s.heap hit (Heap.SameBut.refl ..))
 |n+1,i,s,Q,hit,ht,hle,hQ=>by
  have hlt:i<items.size:=by omega
  show wpAny _ _ (pyNext (.ref it)>>=_) Q E s;refine wpAny_bind (wpAny_pyNext_list_item hit ht (x:=items[i]) (by simp[hlt]) λh₁ hit₁ hs₁=>?_);refine wpAny_bind (JH (zhp hne n (i+1) _ _ hit₁ (ht.extBut hs₁.extBut hne) (by omega) λh₂ hit₂ hs₂=>Jc ?_));have hd:items.toList.drop i=items[i]::items.toList.drop (i+1):=by simp[List.drop_eq_getElem_cons,hlt]
  have:=hQ h₂ (by rw[show i+(n+1)=i+1+n by omega];exact hit₂) (hs₁.trans hs₂);rw[hd,QH]at this;exact this
theorem zdt{Q:List Value->Shared->Prop}(hh:A.handled=none)(ht:s.heap.IsList t items)(hQ:∀h',Heap.ExtBut s.heap.objs.size s.heap h'->Q items.toList {s with heap:=h'}):wpAny (model prog w) A (unpackItems (.ref t) items.size none) Q E s:=by
 have hlt:t≠s.heap.objs.size:=by obtain⟨o,ho,_⟩:=ht;exact Jv (Jf ho)
 unfold unpackItems;refine wpAny_bind ?_;unfold notIterableAtAll;refine wpAny_bind (wpAny_specialOf ht.typeIs PySem.slot_list_iter.lookup ?_);refine Jc ?_;simp only[Bool.false_eq_true,if_false];refine wpAny_bind (JH (wpAny_pyIter_list ht ?_));refine wpAny_bind (JH (zhp hlt items.size 0 _ _ ⟨_,Heap.get?_push_size _ rfl,rfl,rfl⟩ (ht.push _) (by omega) λh₁ hit₁ hs₁=>?_));have hall:List.take items.size (List.drop 0 items.toList)=items.toList:=by rw[QR];exact JM (by simp)
 rw[hall];rw[if_neg (by simp)];have ht₁:h₁.IsList t items:=(ht.push _).extBut hs₁.extBut hlt;refine wpAny_bind (JH (wpAny_pyNext_list_end hh hit₁ ht₁ (by simp) λh₂ he₂=>?_));simp only[Option.isSome_none,Bool.false_eq_true,if_false];refine Jc (hQ h₂ λb o hb e=>he₂ b o hb (hs₁.extBut b o hb (Heap.get?_push_of_some _ e)))
theorem assign_Tuple_list{env:Env}{elts:List Expr}{x1}{pos:Pos}{Q:Unit->Shared->Prop}(hh:A.handled=none)(ht:s.heap.IsList t items)(hn:(assignEach elts env).length=items.size)(hstar:(assignEach elts env).findIdx? (·.1)=none)(h:∀h',Heap.ExtBut s.heap.objs.size s.heap h'->wpAny (model prog w) A (assignInOrder ((assignEach elts env).map (·.2)) items.toList) Q E {s with heap:=h'}):
  wpAny (model prog w) A (assign (.Tuple elts x1 pos) env (.ref t)) Q E s:=by
 rw[assign_Tuple];refine wpAny_bind (Qt ?_);unfold unpack;rw[hn,hstar];exact wpAny_bind (JH (zdt hh ht h))
end
end FX
namespace FL
open L2
variable{es:List Expr}{n:Nat}
section
variable{X:Cx}{K:Fg}{pos:Pos}
def zsH(K:Fg)(n:Nat)(t:TGs):TG:=λv σ H Q=>∃a xs,v=.ref a/\SqL K H a xs/\xs.length=n/\t xs σ H Q
theorem zqD{k:Nat}{t:TGs}(hc:X.calm=true)(h:PGs X es t)(hn:(assignEach es X.env).length=n:=by rfl)(hst:(assignEach es X.env).findIdx? (·.1)=none:=by rfl):PG X (.Tuple es k pos) (zsH X.K n t):=by
 intro pins s σ H v u Q I r hw;obtain⟨a,xs,e1,hq,hl,hw⟩:=hw;subst e1;cases r
 obtain⟨its,rv,ht,hz⟩:=I.list hq;refine FX.assign_Tuple_list (I.ok.hd hc) ht.isList (by simp[hn,←hl,rv.length]) hst λh' hx=>?_
 have I1:Inv X pins σ H {s with heap:=h'}:=I.kept (t':=s.toks) λb o e=>hx b o (Jv (Jf e)) e
 exact h pins _ σ H xs _ Q I1 (by simpa using rv) hw
noncomputable def yK(gs:List D->EO En):D->EO En:=λd ρ=>match d with
 | .lst l=>gs l ρ
 |_=>none
theorem glst{k:Nat}{gs:List D->EO En}(hc:X.calm=true)(h:FGs K X es gs)(hl:∀ds ρ ρ',gs ds ρ=some ρ'->ds.length=n)(hn:(assignEach es X.env).length=n:=by rfl)(hst:(assignEach es X.env).findIdx? (·.1)=none:=by rfl)(hK:X.K=K:=by rfl):FG K X (.Tuple es k pos) (yK gs):=FG.mk λρ d ρ' hg=>by
 subst hK;unfold yK at hg;split at hg
 ·rename_i l;refine PG.imp (zqD hc (h.h ρ l ρ' hg) hn hst) λv σ H Q h_=>?_
  obtain⟨F,r,hd,q⟩:=h_;obtain⟨a,vs,rfl,f,qq⟩:=hd.lst_inv;exact⟨a,vs,rfl,SqL.of (r.sub _ _ f),by rw[qq.length];exact hl l ρ ρ' hg,F,r,qq,q⟩
 ·cases hg
end
structure ZZ where
 P:Program
 w:World
 K:Fg
 mg:SV
 base:Heap
variable{us:List Value}
theorem us1(h:us.length=1):∃a,us=[a]:=List.length_eq_one_iff.mp h
theorem us2(h:us.length=2):∃a b,us=[a,b]:=by
 cases us with
 |nil=>cases h
 |cons a l=>obtain⟨b,rfl⟩:=us1 (Nat.succ.inj h);exact⟨a,b,rfl⟩
theorem us3(h:us.length=3):∃a b c,us=[a,b,c]:=by
 cases us with
 |nil=>cases h
 |cons a l=>obtain⟨b,c,rfl⟩:=us2 (Nat.succ.inj h);exact⟨a,b,c,rfl⟩
theorem us4(h:us.length=4):∃a b c d,us=[a,b,c,d]:=by
 cases us with
 |nil=>cases h
 |cons a l=>obtain⟨b,c,d,rfl⟩:=us3 (Nat.succ.inj h);exact⟨a,b,c,d,rfl⟩
abbrev FNs(p:Program)(I:List Nat)(Z:ZZ):Prop:=∀i∈I,∀n,stN (kC p i)=n->∃f fd,Z.mg n=some (.ref f)/\Fun Z.K n n (kC p i) f fd
abbrev BQ(x:Str)(st:Stmt)(ps:List Str):Prop:=∀(kV doc pm:Value) (an:Option Addr) (cdv ct:Value) (us:List Value),us.length=ps.length->bindArgs (PySem.W.fnOf x x (zgf st) (nN st) (kR st) .none kV doc pm an cdv ct) ⟨us,[]⟩=pure (ps.zip us)
structure Df(p:Program)(I:List Nat)(i:Nat)(x:Str)(ps:List Str):Prop where
 hi:i∈I
 hn:stN (kC p i)=x
 hB:BQ x (kC p i) ps
variable{x:Str}
theorem dfo{p:Program}{I:List Nat}{i:Nat}{ps:List Str}(hi:i∈I:=by decide)(hn:stN (kC p i)=x:=by rfl)(hB:BQ x (kC p i) ps:=by
   intro _ _ _ _ _ _ us hl;first
    |(obtain⟨_,rfl⟩:=us1 hl;rfl)
    |(obtain⟨_,_,rfl⟩:=us2 hl;rfl)
    |(obtain⟨_,_,_,rfl⟩:=us3 hl;rfl)
    |(obtain⟨_,_,_,_,rfl⟩:=us4 hl;rfl)
    |(obtain⟨_,_,_,_,_,rfl⟩:=us5 hl;rfl)
    |(obtain⟨_,_,_,_,_,_,rfl⟩:=us6 hl;rfl)):Df p I i x ps:=⟨hi,hn,hB⟩
abbrev Fq(Z:ZZ):=Fk Z.P Z.w Z.K Z.mg Z.base
abbrev FqX(Z:ZZ):=FkX Z.P Z.w Z.K Z.mg Z.base
section
variable{p:Program}{I:List Nat}{Z:ZZ}{x:Str}{ps:List Str}{md:Md}{k np nn j:Nat}{mb:Nat->EO Fl}{m:LO}
theorem zry{h:Heap}(A:faV p I Z.K=faX p I)(X:Z.K.In h)(G:h.Ns mainGlobals Z.mg):FNs p I Z:=λi hi n hn=>by obtain⟨f,fd,a,F⟩:=zrG A i hi hn;exact⟨f,fd,PySem.W.mg_of X G a,F⟩
theorem mkM(F:FNs p I Z)(i:Nat)(N:List Str)(hb:N.Nodup->∀(f:Addr) (n:Nat) (cdv:Value) (A:Around) (outer:List Env) (s:Shared) (H:Hp) (E:XK),jI k (A.deeper (envOfC x (kR (kC p i)) s.heap.objs.size f cdv))->FSs Z.K md (gS CX0 Z.P Z.w Z.K Z.mg Z.base N x (kR (kC p i)) f cdv A outer s H E).nox (nN (kC p i)) (mb n))(S:zbb N ps (kR (kC p i)))(hi:i∈I)(hn:stN (kC p i)=x)(hB:BQ x (kC p i) ps)(hm:∀ds d,m ds=some d->ds.length=ps.length/\∃n,(∃ρ',mb n (jG N.length ds)=some (.rt d ρ'))\/(d=.non/\md=.fz/\∃ρ',mb n (jG N.length ds)=some (.nx ρ'))):
  Fq Z x ps md (k+1) m:=by
 obtain⟨f,fd,a,F⟩:=F i hi x hn;exact⟨_,_,zrA F S (hb S.nd f) hm,F.binds hB,F.kp,a⟩
theorem mkF(F:FNs p I Z)(i:Nat)(N:List Str)(hb:N.Nodup->∀(f:Addr) (n:Nat) (cdv:Value) (A:Around) (outer:List Env) (s:Shared) (H:Hp) (E:XK),jI k (A.deeper (envOfC x (kR (kC p i)) s.heap.objs.size f cdv))->FSs Z.K md (gS CX0 Z.P Z.w Z.K Z.mg Z.base N x (kR (kC p i)) f cdv A outer s H E).nox (nN (kC p i)) (mb n))(hnp:ps.length=np:=by rfl)(hnn:N.length=nn:=by rfl)(S:zbb N ps (kR (kC p i)):=by exact⟨rfl,rfl,rfl,by decide+kernel,rfl,by decide+kernel,by decide+kernel⟩)(T:Df p I i x ps:=by exact dfo):
  Fq Z x ps md (k+1) (qG (mb zO) np nn):=by
 subst hnp hnn;exact mkM F i N hb S T.hi T.hn T.hB zkv
theorem mkN(F:FNs p I Z)(i:Nat)(N:List Str)(hb:N.Nodup->∀(f:Addr) (n:Nat) (cdv:Value) (A:Around) (outer:List Env) (s:Shared) (H:Hp) (E:XK),jI k (A.deeper (envOfC x (kR (kC p i)) s.heap.objs.size f cdv))->FSs Z.K .fz (gS CX0 Z.P Z.w Z.K Z.mg Z.base N x (kR (kC p i)) f cdv A outer s H E).nox (nN (kC p i)) (mb n))(hnp:ps.length=np:=by rfl)(hnn:N.length=nn:=by rfl)(S:zbb N ps (kR (kC p i)):=by exact⟨rfl,rfl,rfl,by decide+kernel,rfl,by decide+kernel,by decide+kernel⟩)(T:Df p I i x ps:=by exact dfo):
  Fq Z x ps .fz (k+1) (runN (mb zO) np nn):=by
 subst hnp hnn;exact mkM F i N hb S T.hi T.hn T.hB zoD
theorem mkX(F:FNs p I Z)(i:Nat)(N:List Str)(hb:N.Nodup->∀(f:Addr) (n:Nat) (cdv:Value) (A:Around) (outer:List Env) (s:Shared) (H:Hp) (E:XK),jI k (A.deeper (envOfC x (kR (kC p i)) s.heap.objs.size f cdv))->FSs Z.K .fz (gS CX0 Z.P Z.w Z.K Z.mg Z.base N x (kR (kC p i)) f cdv A outer s H E).nox (nN (kC p i)) (mb n))(hnp:ps.length=np:=by rfl)(hnn:N.length=nn:=by rfl)(S:zbb N ps (kR (kC p i)):=by exact⟨rfl,rfl,rfl,by decide+kernel,rfl,by decide+kernel,by decide+kernel⟩)(T:Df p I i x ps:=by exact dfo):
  FqX Z x ps j (k+1) (kZ (mb zO) np nn j):=by
 obtain⟨f,fd,a,F⟩:=F i T.hi x T.hn;exact⟨_,_,zrz F S np nn j hnp hnn (hb S.nd f),F.binds T.hB,F.kp,a⟩
theorem recF{mn:Nat->LO}(F:FNs p I Z)(i:Nat)(kb R:Nat)(hs:∀n,Fq Z x ps md (kb+n) (mn n)->Fq Z x ps md (kb+n+1) (mn (n+1)))(h0:∀ds,mn 0 ds=none:=by intro _;rfl)(T:Df p I i x ps:=by exact dfo):Fq Z x ps md (kb+R) (mn R):=by
 obtain⟨f,fd,a,F⟩:=F i T.hi x T.hn;induction R with
 |zero=>exact(Fk.never ⟨F.binds T.hB,F.kp,a⟩ h0).mono (JD _)
 |succ n ih=>exact hs n ih
theorem recX{mn:Nat->D->List D->Option (D×D)}(F:FNs p I Z)(i:Nat)(kb R:Nat)(hs:∀n,FqX Z x ps j (kb+n) (mn n)->FqX Z x ps j (kb+n+1) (mn (n+1)))(h0:∀c ds,mn 0 c ds=none:=by intro _ _;rfl)(T:Df p I i x ps:=by exact dfo):FqX Z x ps j (kb+R) (mn R):=by
 obtain⟨f,fd,a,F⟩:=F i T.hi x T.hn;induction R with
 |zero=>exact(FkX.never ⟨F.binds T.hB,F.kp,a⟩ h0).mono (JD _)
 |succ n ih=>exact hs n ih
end
section
variable{p:Program}{I J:List Nat}{Z:ZZ}{h:Heap}{CE fE:Addr}{fdE:FuncData}{pE c:Str}{L:List Str}
end
variable{op:CmpOp}
section
variable{K:Fg}{X:Cx}{a b:Expr}{fa fb:EO D}{p:D->D->Option D}{pos p2 p3:Pos}{md:Md}{k:Nat}
theorem bi{i j}{pos:Pos}:FP K .br X (.Constant (.int i) j pos) (cst (.int i)):=FP.br jX
theorem bop{op:Operator}(o:Op2 K X (binaryOp op) .fz p)(ha:FP K .br X a fa)(hb:FP K .br X b fb):FP K .br X (.BinOp a op b pos) (c2 p fa fb):=FP.br (fop o ha hb)
theorem fiz(ha:FP K .br X a fa)(hb:FP K .br X b fb)(hK:X.K=K:=by rfl)(hs:zgy b:=by exact λ_ _=>rfl):FP K .fz X (.Subscript a b pos) (c2 qA fa fb):=fix (p_ix hK) ha hb hs
theorem biz(ha:FP K .br X a fa)(hb:FP K .br X b fb)(hK:X.K=K:=by rfl)(hs:zgy b:=by exact λ_ _=>rfl):FP K .br X (.Subscript a b pos) (c2 qA fa fb):=FP.br (fix (p_ix hK) ha hb hs)
theorem fcq(o:Op2 K X (compareOp op) md p)(ha:FP K .br X a fa)(hb:FP K .br X b fb)(h:op≠.In:=by decide)(h2:op≠.NotIn:=by decide):FP K md X (.Compare a [op] [b] pos) (c2 p fa fb):=fcmp o ha hb (ziP _ h h2)
theorem tcq(o:Op2 K X (compareOp op) .fz p)(ha:FP K .br X a fa)(hb:FP K .br X b fb)(h:op≠.In:=by decide)(h2:op≠.NotIn:=by decide):FTp K X (.Compare a [op] [b] pos) (cT (c2 p fa fb)):=tcmp o ha hb (ziP _ h h2)
theorem tcf(o:nQ K X (compareOp op) p)(ha:FP K .fz X a fa)(hb:FP K .br X b fb)(hm:behindInMarks op b=false:=by with_unfolding_all rfl):FTp K X (.Compare a [op] [b] pos) (cT (c2 p fa fb)):=zrX o ha hb hm
theorem peq(hr:jI k X.A):Op2 K X (compareOp .Eq) .fz eqB:=p_eq (wG hr)
theorem pne(hr:jI k X.A):Op2 K X (compareOp .NotEq) .fz neB:=p_ne (wG hr)
theorem pinn(hr:jI k X.A):nQ K X (compareOp .In) inB:=p_in (u101 hr)
theorem pnin(hr:jI k X.A):nQ K X (compareOp .NotIn) yO:=zoX (u101 hr)
theorem fln(B:Glb X.mg)(ha:FP K .br X a fa)(hg:Gl X "len":=by rfl)(hK:X.K=K:=by rfl)(hs:starEach [a] X.env=(false,eval a X.env)::starEach [] X.env:=by rfl):FP K .fz X (.Call (.Name "len" p2) [a] [] pos) (cL jH (zB fa zD)):=zjd (zrQ hK) hg B.len PySem.boot_len (gO ha zE hs) (by decide) (by decide) hs
theorem bln(B:Glb X.mg)(ha:FP K .br X a fa)(hg:Gl X "len":=by rfl)(hK:X.K=K:=by rfl)(hs:starEach [a] X.env=(false,eval a X.env)::starEach [] X.env:=by rfl):FP K .br X (.Call (.Name "len" p2) [a] [] pos) (cL jH (zB fa zD)):=FP.br (fln B ha hg hK hs)
def ndb(l:List Str):Bool:=decide l.Nodup
theorem gnm(i:Nat)(hN:ndb X.N=true:=by kernel_rfl)(hi:X.N[i]?=some x:=by rfl)(hx:Loc X.env.scope x:=by first|exact Or.inl rfl|exact Or.inr rfl)(hf:X.fn x=true\/X.env.scope.names.lookup x=some .local:=by first|exact .inl rfl|exact .inr rfl|assumption):FG K X (.Name x pos) (gN i):=qB i (QE hN) hi hx hf
end
end FL
namespace L2
section
variable{X:Cx}
theorem zjT(hc:X.calm=true):wB X (.type "list") (λxs H Q=>∃z:Str,xs=[.str z]/\z.length<=sizeLine/\∀l,H l=none->Q (.ref l) (upd H l (.lst (z.cps.toList.map λc=>V.str ⟨#[c]⟩)))):=by
 intro pins s σ H xs us Q I rv h;obtain⟨z,rfl,hz,q⟩:=h;obtain⟨u,rfl,t,rfl⟩:=rv.one;refine call_list_str (I.ok.hd hc) z t (λh' tk acc c k hS hi=>?_) hz;have hn:(z.cps.toList.map λc=>V.str ⟨#[c]⟩).length<=sizeLine:=by rw[Ja,Array.length_toList];exact hz
 have I2:=I.laid (t':=tk) (o:=.lst (z.cps.toList.map λc=>V.str ⟨#[c]⟩)) k (Jd _) (show jV X.prog X.w _ _ _ (.lst _)from⟨hn,acc.toList,c,?_,by simpa using hS⟩)
 ·exact⟨.ref _,_,I2,rfl,q _ I.fresh⟩
 ·have key:∀(cs:List Nat) (us:List Value),us.length=cs.length->(∀(j:Nat) (v:Value),us[j]?=some v->∃(c:Nat) (u:Tok),cs[j]?=some c/\v=Value.str ⟨#[c]⟩ u)->zS (cs.map λc=>V.str ⟨#[c]⟩) us:=by
   intro cs;induction cs with
   |nil=>
    intro us hl _;cases us with
    |nil=>exact .nil
    |cons a l=>cases hl
   |cons c cs ih=>
    intro us hl hv;cases us with
    |nil=>cases hl
    |cons a l=>
     obtain⟨c',u,e1,rfl⟩:=hv 0 a rfl;cases e1
     exact .cons ⟨u,rfl⟩ (ih l (Nat.succ.inj hl) λj v e=>hv (j+1) v e)
  refine key _ _ (by simpa using hi.1) λj v e=>?_
  obtain⟨c,u,e1,e2⟩:=hi.2 j v (by simpa using e);exact⟨c,u,by simpa using e1,e2⟩
end
end L2
namespace FL
open L2
noncomputable def zlf:LO
 |[.str z]=>if z.length<=lim then some (.lst (zks z))else none
 |_=>none
theorem zpK{K:Fg}{X:Cx}(hc:X.calm=true):nT K X (.type "list") .ow zlf:=by
 refine⟨_,zjT hc,λds d F H vs Q e s h k=>?_⟩;unfold zlf at e;split at e
 ·rename_i z;obtain⟨hz,rfl⟩:=kP e;obtain⟨v,rfl,h1⟩:=h.one;rw[h1.str_inv];refine⟨z,rfl,gK hz,λl hl=>k _ _ _ (zK.fresh s hl) ⟨l,rfl,hl,s.free hl,_,qR,?_⟩⟩;have key:∀cs:List Nat,zF K F (cs.map λc=>D.str ⟨#[c]⟩) (cs.map λc=>V.str ⟨#[c]⟩):=by
   intro cs;induction cs with
   |nil=>exact zF.nil
   |cons c cs ih=>exact zF.cons (Dat.str (K:=K) (F:=F) _) ih
  exact key _
 ·cases e
noncomputable def andX(f:EO D)(m:EO (D×En)):EO (D×En):=λρ=>match f ρ with
 |some (.bl true)=>m ρ
 |some (.bl false)=>some (.bl false,ρ)
 |_=>none
noncomputable def orX(f:EO D)(m:EO (D×En)):EO (D×En):=λρ=>match f ρ with
 |some (.bl true)=>some (.bl true,ρ)
 |some (.bl false)=>m ρ
 |_=>none
section
variable{K:Fg}{X:Cx}{a b:Expr}{rest:List Expr}{fa:EO D}{m:EO (D×En)}{pos:Pos}
theorem xone{op}(h:FX K X a m):FX K X (.BoolOp op [a] pos) m:=FX.mk λρ d ρ' hf=>zqJ (h.h ρ d ρ' hf)
theorem xand(h1:FP K .fz X a fa)(h2:FX K X (.BoolOp .And (b::rest) pos) m):FX K X (.BoolOp .And (a::b::rest) pos) (andX fa m):=FX.mk λρ d ρ' hf=>by
 unfold andX at hf;split at hf
 ·rename_i e1;exact PE.imp (znW (h1.h ρ _ e1) (h2.h ρ d ρ' hf)) λσ H Q ⟨F,rl,q⟩=>⟨F,rl,λv F1 H1 g1 r1=>⟨true,Dat.bl_inv (K:=K) (F:=F1) r1,iteT ⟨F1,rl.grow g1,λu F2 H2 rl2 s2 d2=>q u F2 H2 rl2 (g1.step.trans s2 rl.sub) d2⟩⟩⟩
 ·rename_i e1;cases hf
  exact PE.imp (znW (h1.h ρ _ e1) ziT) λσ H Q ⟨F,rl,q⟩=>⟨F,rl,λv F1 H1 g1 r1=>⟨false,Dat.bl_inv (K:=K) (F:=F1) r1,iteF (q _ F1 H1 (rl.grow g1) g1.step (Dat.bl (K:=K) (F:=F1) false))⟩⟩
 ·cases hf
theorem xor(h1:FP K .fz X a fa)(h2:FX K X (.BoolOp .Or (b::rest) pos) m):FX K X (.BoolOp .Or (a::b::rest) pos) (orX fa m):=FX.mk λρ d ρ' hf=>by
 unfold orX at hf;split at hf
 ·rename_i e1;cases hf
  exact PE.imp (zqI (h1.h ρ _ e1) ziT) λσ H Q ⟨F,rl,q⟩=>⟨F,rl,λv F1 H1 g1 r1=>⟨true,Dat.bl_inv (K:=K) (F:=F1) r1,iteT (q _ F1 H1 (rl.grow g1) g1.step (Dat.bl (K:=K) (F:=F1) true))⟩⟩
 ·rename_i e1;exact PE.imp (zqI (h1.h ρ _ e1) (h2.h ρ d ρ' hf)) λσ H Q ⟨F,rl,q⟩=>⟨F,rl,λv F1 H1 g1 r1=>⟨false,Dat.bl_inv (K:=K) (F:=F1) r1,iteF ⟨F1,rl.grow g1,λu F2 H2 rl2 s2 d2=>q u F2 H2 rl2 (g1.step.trans s2 rl.sub) d2⟩⟩⟩
 ·cases hf
end
end FL
namespace TS
section
variable{P:Program}{w:World}{A:Around}{E:VS}{s:Shared}{a:Addr}
end
section
variable{P:Program}{w:World}{A:Around}{R:Result->Shared->Prop}{I:Addr}{fp wr:List Addr}{G:Array GenState->Array GenState->Prop}{n:Nat}{PP:Nat->Value->Prop}{Stt:Nat->Shared->Prop}
end
section
variable{P:Program}{w:World}{A:Around}{E:VS}{s:Shared}{a:Addr}
end
section
variable{M:Model}{P:Program}{w:World}{A:Around}{E:VS}{s:Shared}{a:Addr}
end
section
variable{P:Program}{w:World}{A:Around}{E:VS}{s:Shared}{a it:Addr}{o:Obj}{es:Array (Int×Value)}{ep:Nat}{t:SetTable}{ex:List Addr}{vs:List Value}{i:Nat}
end
section
variable{P:Program}{w:World}{A:Around}{E:VS}{s:Shared}{a it:Addr}{o:Obj}{es:Array (Int×Value)}{ep:Nat}{t:SetTable}{ex:List Addr}{vs:List Value}{i:Nat}
end
section
variable{P:Program}{w:World}{A:Around}{E:VS}{s:Shared}{a it:Addr}{o:Obj}{es:Array (Int×Value)}{ep:Nat}{t:SetTable}{ex:List Addr}{vs:List Value}{i:Nat}
end
end TS
namespace L2
section
variable{X:Cx}
end
end L2
namespace TS
end TS
namespace L2
section
variable{X:Cx}
end
end L2
namespace FL
open L2
section
variable{K:Fg}{X:Cx}{e:Expr}{f:EO D}{pos:Pos}{x:Str}{p apos cpos:Pos}
end
end FL
namespace L2
section
variable{X:Cx}
end
end L2
namespace FL
open L2
section
variable{K:Fg}{X:Cx}{a:Expr}{fa:EO D}{p p2 pos pos2:Pos}
end
section
variable{p:Program}{I:List Nat}{Z:ZZ}{x:Str}{ps:List Str}{k np nn:Nat}{mb:Nat->EO Fl}
end
open Classical in
noncomputable def zfW(i:Nat)(l:List D)(g:D->EO En)(b:EO Fl):List D->EO Fl
 |[],ρ=>some (.nx ρ)
 |x::xs,ρ=>match g x ρ with
  |none=>none
  |some ρ1=>match b ρ1 with
   |none=>none
   |some (.nx ρ2)=>match ρ2[i]? with
    |some (some (.ow true (.lst l2)))=>if l2=l then zfW i l g b xs ρ2 else none
    |_=>none
   |some (.ct ρ2)=>none
   |some (.bk ρ2)=>none
   |some (.rt d ρ2)=>some (.rt d ρ2)
   |some (.rs c d ρ2)=>some (.rs c d ρ2)
noncomputable def unpin(i:Nat)(ρ:En):En:=match ρ[i]? with
 |some (some (.ow _ d))=>ρ.set i (some (.ow false d))
 |_=>ρ
def unpF(i:Nat):Fl->Fl
 | .nx ρ=>.nx (unpin i ρ)
 | .ct ρ=>.ct (unpin i ρ)
 | .bk ρ=>.bk (unpin i ρ)
 | .rt d ρ=>.rt d (unpin i ρ)
 | .rs c d ρ=>.rs c d (unpin i ρ)
noncomputable def forO(i:Nat)(g:D->EO En)(b:EO Fl):EO Fl:=λρ=>match ρ[i]? with
 |some (some (.ow false (.lst l)))=>(zfW i l g b l (ρ.set i (some (.ow true (.lst l))))).map (unpF i)
 |_=>none
variable{j:Nat}{l:D}{x:Str}{g:D->EO En}
section
variable{K:Fg}{X:Cx}{md:Md}{F H F' H':Hp}{ρ ρ':En}{σ σ':St}{i:Nat}
theorem zbH{s:Sl}(h:(unpin i ρ)[j]?=some (some s)):(j≠i/\ρ[j]?=some (some s))\/(j=i/\((∃p d,ρ[i]?=some (some (.ow p d))/\s=.ow false d)\/(ρ[i]?=some (some s)/\∀p d,s≠.ow p d))):=by
 unfold unpin at h;split at h
 ·rename_i p d e;rcases zX h with⟨rfl,q⟩|⟨ne,q⟩
  ·cases q;exact .inr ⟨rfl,.inl ⟨p,d,e,rfl⟩⟩
  ·exact .inl ⟨ne,q⟩
 ·rename_i hn;by_cases e:j=i
  ·subst e;refine .inr ⟨rfl,.inr ⟨h,λp d z=>?_⟩⟩;subst z;exact hn p d h
  ·exact .inl ⟨e,h⟩
theorem zdH{p:Bool}{d:D}(h:(unpin i ρ)[j]?=some (some (.ow p d))):∃p',ρ[j]?=some (some (.ow p' d)):=by
 rcases zbH h with⟨_,q⟩|⟨rfl,⟨p',d',e,z⟩|⟨e,n⟩⟩
 ·exact⟨p,q⟩
 ·cases z;exact⟨p',e⟩
 ·exact absurd rfl (n p d)
theorem Rel.unpin(r:Rel K F H ρ σ):Rel K F H (unpin i ρ) σ:=by
 refine⟨r.sub,λj d e=>?_,λj d e=>?_,λj p d e=>?_,λj k p d s a ne e1 e2 e3 e4=>?_,?_⟩
 ·rcases zbH e with⟨_,q⟩|⟨rfl,⟨_,_,_,z⟩|⟨q,_⟩⟩
  ·exact r.dat j d q
  ·cases z
  ·exact r.dat _ d q
 ·rcases zbH e with⟨_,q⟩|⟨rfl,⟨_,_,_,z⟩|⟨q,_⟩⟩
  ·exact r.bor j d q
  ·cases z
  ·exact r.bor _ d q
 ·obtain⟨p',q⟩:=zdH e;exact r.own j p' d q
 ·obtain⟨p',q⟩:=zdH e1;rcases zbH e3 with⟨_,q3⟩|⟨rfl,⟨p3,d3,q3,z⟩|⟨q3,_⟩⟩
  ·exact r.inj j k p' d s a ne q e2 q3 e4
  ·exact r.inj j _ p' d _ a ne q e2 q3 rfl
  ·exact r.inj j _ p' d s a ne q e2 q3 e4
 ·unfold FL.unpin;split
  ·rw[List.length_set];exact r.len
  ·exact r.len
theorem zhH{b:Addr}:xC (unpin i ρ) σ b↔xC ρ σ b:=by
 constructor
 ·rintro⟨j,p,d,e1,e2⟩;obtain⟨p',q⟩:=zdH e1;exact⟨j,p',d,q,e2⟩
 ·rintro⟨j,p,d,e1,e2⟩;by_cases e:j=i
  ·subst e;refine⟨j,false,d,?_,e2⟩;unfold unpin;rw[e1];exact zaI (List.getElem?_eq_some_iff.mp e1).1
  ·refine⟨j,p,d,?_,e2⟩;unfold unpin;split
   ·rw[List.getElem?_set_ne (Ne.symm e)];exact e1
   ·exact e1
theorem zdX{b:Addr}(e:ρ[i]?=some (some (.ow false l))):xC (ρ.set i (some (.ow true l))) σ b↔xC ρ σ b:=by
 constructor
 ·rintro⟨j,p,d,e1,e2⟩;rcases zX e1 with⟨rfl,q⟩|⟨ne,q⟩
  ·cases q;exact⟨j,false,l,e,e2⟩
  ·exact⟨j,p,d,q,e2⟩
 ·rintro⟨j,p,d,e1,e2⟩;by_cases z:j=i
  ·subst z;rw[e]at e1;cases e1
   exact⟨j,true,_,zaI (List.getElem?_eq_some_iff.mp e).1,e2⟩
  ·exact⟨j,p,d,by rw[List.getElem?_set_ne (Ne.symm z)];exact e1,e2⟩
theorem Rel.pinned(r:Rel K F H ρ σ)(e:ρ[i]?=some (some (.ow false l))):Rel K F H (ρ.set i (some (.ow true l))) σ:=by
 refine⟨r.sub,λj d q=>?_,λj d q=>?_,λj p d q=>?_,λj k p d s a ne e1 e2 e3 e4=>?_,by rw[List.length_set];exact r.len⟩
 ·rcases zX q with⟨rfl,q'⟩|⟨_,q'⟩
  ·cases q'
  ·exact r.dat j d q'
 ·rcases zX q with⟨rfl,q'⟩|⟨_,q'⟩
  ·cases q'
  ·exact r.bor j d q'
 ·rcases zX q with⟨rfl,q'⟩|⟨_,q'⟩
  ·cases q';exact r.own j false l e
  ·exact r.own j p d q'
 ·have h1:∃p',ρ[j]?=some (some (.ow p' d)):=by
   rcases zX e1 with⟨rfl,q⟩|⟨_,q⟩
   ·cases q;exact⟨false,e⟩
   ·exact⟨p,q⟩
  obtain⟨p',h1⟩:=h1;rcases zX e3 with⟨rfl,q⟩|⟨_,q⟩
  ·cases q;exact r.inj j _ p' d _ a ne h1 e2 e rfl
  ·exact r.inj j k p' d s a ne h1 e2 q e4
theorem jA.unpin(e:ρ[i]?=some (some (.ow false l)))(s:jA (ρ.set i (some (.ow true l))) σ F H ρ' σ' F' H'):jA ρ σ F H (unpin i ρ') σ' F' H':=by
 refine⟨s.ff,λb o h n q=>s.rest b o h n λz=>q ((zdX e).mp z),λb z=>?_,λj d z=>?_,s.fh⟩
 ·exact(s.own b (zhH.mp z)).imp id (zdX e).mp
 ·rcases zbH z with⟨ne,q⟩|⟨rfl,⟨_,_,_,w⟩|⟨_,n⟩⟩
  ·obtain⟨d1,e1,e2⟩:=s.pin j d q;rw[List.getElem?_set_ne (Ne.symm ne)]at e1;exact⟨d1,e1,e2⟩
  ·cases w
  ·exact absurd rfl (n true d)
theorem gC.pin{d:D}{v:V}(e:ρ[i]?=some (some (.ow false l)))(h:gC K md (ρ.set i (some (.ow true l))) σ H F' H' d v):gC K md ρ σ H F' H' d v:=by
 cases md with
 |fz=>exact h
 |br=>exact h
 |ow=>
  obtain⟨a,e1,h1,h2⟩:=h;exact⟨a,e1,h1.imp id (zdX e).mp,h2⟩
theorem zsi(i:Nat){tg:Expr}{body:List Stmt}{p pos:Pos}{b:EO Fl}(hp:PassesOwn (model X.prog X.w) X.A X.env X.xe)(hc:X.calm=true)(hg:FG K X tg g)(hb:FSs K md X body b)(hN:X.N[i]?=some x:=by rfl)(hv:Vis X.env.scope x:=by first|exact Or.inl rfl|exact Or.inr (Or.inl rfl)|exact Or.inr (Or.inr rfl))(hd:(x==("__debug__":Str))=false:=by decide)(hcd:(x==("__classdict__":Str))=false:=by decide)(hs:∀y,foldedSetIterable (.Name x p) X.env y=pure y:=by intro _;rfl)(hK:X.K=K:=by rfl):FS K md X (.For tg (.Name x p) body [] pos) (forO i g b):=FS.mk λρ fl hf=>by
 subst hK;unfold forO at hf;split at hf
 ·rename_i l e0;obtain⟨fl0,hf0,rfl⟩:=Qz.mp hf;have hg':=PG.any (X:=X) (c:=tg) (t:=λi:{q:En×D×En//g q.2.1 q.1=some q.2.2}=>rdG X.K i.1.1 i.1.2.1 i.1.2.2) λi=>hg.h _ _ _ i.2
  have hb':=PSs.any (X:=X) (c:=body) (t:=λi:{q:En×Fl//b q.1=some q.2}=>rdS X X.K md i.1.1 i.1.2) λi=>hb.h _ _ i.2
  refine PS.imp (znS hp hc (zhS (wN hN hv hd hcd)) hg' hb' hs) λD σ H h_=>?_
  obtain⟨F,r,q⟩:=h_;obtain⟨a,hσ,fa,vs,ha,dl⟩:=r.own i false _ e0;refine⟨.ref a,hσ,a,rfl,⟨vs,SqL.of ha⟩,?_⟩;refine⟨λn k σ1 H1=>n<=l.length/\k=l.length - n/\∃ρ1 F1,Rel X.K F1 H1 ρ1 σ1/\jA (ρ.set i (some (.ow true (.lst l)))) σ F H ρ1 σ1 F1 H1/\ρ1[i]?=some (some (.ow true (.lst l)))/\zfW i l g b (l.drop n) ρ1=some fl0,
   ⟨l.length,JD _,rfl,_,F,r.pinned e0,(zK.refl r.sub).step,zaI (List.getElem?_eq_some_iff.mp e0).1,hf0⟩,?_⟩
  rintro n k σ1 H1 ⟨hn,rfl,ρ1,F1,r1,s1,p1,e2⟩;obtain⟨_,_,hσ1⟩:=s1.pin i _ p1;obtain⟨a',h1,_,vs1,ha1,dl1⟩:=r1.own i true _ p1;rw[hσ1,hσ]at h1;cases h1
  have hl1:=dl1.length;by_cases hlt:n<l.length
  ·rw[Jx hlt]at e2;simp only[zfW]at e2;refine .inr ⟨⟨vs1,vs1[n]'(by omega),SqL.of ha1,by simp⟩,λσ' H'=>n+1<=l.length/\∃ρ3 F3,Rel X.K F3 H' ρ3 σ'/\jA (ρ.set i (some (.ow true (.lst l)))) σ F H ρ3 σ' F3 H'/\ρ3[i]?=some (some (.ow true (.lst l)))/\zfW i l g b (l.drop (n+1)) ρ3=some fl0,λσ' H' ⟨z1,z2⟩=>⟨l.length - (n+1),by omega,z1,rfl,z2⟩,λx H2 y=>?_⟩;obtain⟨rfl,y⟩:=y;obtain⟨v,hv',dv⟩:=dl1.get (List.getElem?_eq_getElem hlt);rw[y vs1 (SqL.of ha1)]at hv';cases hv'
   cases e3:g l[n] ρ1 with
   |none=>rw[e3]at e2;cases e2
   |some ρ2=>
    simp only[e3]at e2;refine⟨⟨(ρ1,l[n],ρ2),e3⟩,F1,r1,dv,λσ2 r2' ow=>?_⟩;have s2':=s1.kp ow;cases e4:b ρ2 with
    |none=>simp only[e4]at e2;cases e2
    |some fl2=>
     simp only[e4]at e2;refine⟨⟨(ρ2,fl2),e4⟩,F1,r2',?_⟩;cases fl2 with
     |nx ρ3=>
      simp only at e2;split at e2
      ·rename_i l2 e5;split at e2
       ·rename_i e6;subst e6;exact λσ3 F3 H3 r3 s3=>⟨hlt,ρ3,F3,r3,s2'.trans s3 r.sub,e5,e2⟩
       ·cases e2
      ·cases e2
     |ct ρ3=>cases e2
     |bk ρ3=>cases e2
     |rt d ρ3=>
      cases e2
      exact λv σ3 F3 H3 r3 s3 h=>q v σ3 F3 H3 r3.unpin (jA.unpin e0 (s2'.trans s3 r.sub)) (gC.pin e0 (gC.back s2' r.sub h))
     |rs c d ρ3=>
      cases e2
      exact λσ3 F3 H3 C da r3 s3 x=>q σ3 F3 H3 C da r3.unpin (jA.unpin e0 (s2'.trans s3 r.sub)) x
  ·have e:n=l.length:=by omega
   subst e;rw[QI]at e2;simp only[zfW]at e2;cases e2
   exact .inl ⟨⟨vs1,SqL.of ha1,by omega⟩,q σ1 F1 H1 r1.unpin (jA.unpin e0 s1)⟩
 ·cases hf
end
noncomputable def nP(g:D->EO En)(t:EO (Bool×En))(f:EO D)(ρi:En)(jj:Nat):D->List D->Option (List D×D)
 |c,[]=>some ([],c)
 |c,x::xs=>(g x (ρi.set jj (some (.inn c)))).bind λρ1=>(t ρ1).bind λq=>(yJ jj q.2).bind λc2=>if q.1=true then(f q.2).bind λd=>(nP g t f ρi jj c2 xs).map λr=>(d::r.1,r.2)else nP g t f ρi jj c2 xs
noncomputable def zjl(i jj:Nat)(cap:ON)(fi:EO (List D))(g:D->EO En)(t:EO (Bool×En))(f:EO D):EO (D×En):=λρ=>match ρ[i]?,fi ρ with
 |some (some (.ow p c)),some ds=>if ds.length<=lim then(nP g t f (qH cap ρ) jj c ds).map λr=>(.lst r.1,ρ.set i (some (.ow p r.2)))else none
 |_,_=>none
variable{i:Nat}{m:EO (Bool×En)}{f:EO D}{ρ:En}
section
variable{K:Fg}{X:Cx}{pos:Pos}{tg iter elt:Expr}{scope:Scope}
theorem znC{jj:Nat}{cap:ON}{ds rs:List D}{c0 c9:D}{p:Bool}{σ:St}{H F:Hp}{Q:VK}(hcap:cap[jj]?=some (some i))(ho:∀k,cap[k]?=some (some i)->k=jj)(e1:ρ[i]?=some (some (.ow p c0)))(e3:nP g m f (qH cap ρ) jj c0 ds=some (rs,c9))(hn:ds.length<=lim)(r:Rel K F H ρ σ)(q:∀v F' H',Rel K F' H' (ρ.set i (some (.ow p c9))) σ->jA ρ σ F H (ρ.set i (some (.ow p c9))) σ F' H'->Dat K F' (.lst rs) v->Q v H'){J:It}{F1 H1:Hp}(g1:zK F H F1 H1)(ok:zds K J F1 ds):
  zpU K J (λv σ H Q=>∃i:{q:En×D×En//g q.2.1 q.1=some q.2.2},rdG K i.1.1 i.1.2.1 i.1.2.2 v σ H Q) (λσ H Q=>∃i:{q:En×Bool×En//m q.1=some q.2},rdT K i.1.1 i.1.2.1 i.1.2.2 σ H Q) (λσ H Q=>∃i:{q:En×D//f q.1=some q.2},rdE K .fz i.1.1 i.1.2 σ H Q) cap σ H1 Q:=by
 obtain⟨a,hσ,fa0,own0⟩:=r.own i p c0 e1;obtain⟨oa,hoa⟩:=own0.some;intro dd hdd;have hdH:H dd=none:=g1.hh.free hdd;have hda:dd≠a:=λz=>by rw[z,hoa]at hdH;cases hdH
 have g1':zK F H F1 (upd H1 dd (.lst [])):=g1.trans (zK.fresh g1.fh hdd);refine⟨λn mm H2=>∃acc,n<=ds.length/\mm=ds.length - n/\∃F2 done left c,Chg F H a F2 H2/\Own K F2 H2 c a/\zP F1 F2/\F2 dd=none/\H2 dd=some (.lst acc)/\zF K F2 done acc/\acc.length<=n/\nP g m f (qH cap ρ) jj c (ds.drop n)=some (left,c9)/\rs=done++left,
  ⟨ds.length,[],JD _,rfl,F1,[],rs,c0,g1'.chg hoa fa0,own0.mono g1'.ff λo e=>g1'.hh _ _ e,zP.refl _,g1.fh.free hdd,qR,zF.nil,JD _,e3,rfl⟩,?_⟩
 rintro n mm H2 ⟨acc,hi,rfl,F2,done,left,c,ch,own2,ff,fd,hd,da,al,e4,e5⟩;obtain⟨o1,o2,o3⟩:=ok F2 H2 ff ch.fh;by_cases hlt:n<ds.length
 ·refine .inr ⟨o1 n hlt,λx H3 y=>?_⟩;obtain⟨F3,g3,d3⟩:=o2 n x H3 _ (List.getElem?_eq_getElem hlt) y;rw[Jx hlt]at e4;simp only[nP]at e4;obtain⟨o2a,ho2a⟩:=own2.some;have ch3:Chg F H a F3 H3:=ch.trans (g3.chg ho2a ch.fa);have own3:=own2.mono g3.ff (λo e=>g3.hh _ _ e);obtain⟨r3,_⟩:=r.chg e1 hσ ch3 own3;have hil:i<ρ.length:=(List.getElem?_eq_some_iff.mp e1).1;have rin:=r3.innerX (cap:=cap) (jj:=jj) (zaI hil) hcap ho;rw[zmr ho]at rin;cases e6:g ds[n] ((qH cap ρ).set jj (some (.inn c)))with
  |none=>rw[e6]at e4;cases e4
  |some ρ1=>
   simp only[e6,Option.bind_some]at e4;refine⟨⟨(_,ds[n],ρ1),e6⟩,F3,rin,d3,λσ2 r2 kp=>?_⟩;cases e7:m ρ1 with
   |none=>rw[e7]at e4;cases e4
   |some q1=>
    obtain⟨bb,ρ2⟩:=q1;simp only[e7,Option.bind_some]at e4;cases e8:yJ jj ρ2 with
    |none=>rw[e8]at e4;cases e4
    |some c2=>
     simp only[e8,Option.bind_some]at e4;refine⟨⟨(ρ1,bb,ρ2),e7⟩,F3,r2,λF4 H4 r4 s4=>?_⟩;have hsi:(st0 cap σ)[jj]?=some (some (.ref a)):=zdI hcap hσ;obtain⟨x1,p1,p2⟩:=s4.pin jj c2 (zfj e8);obtain⟨x2,p3,p4⟩:=kp.pin jj x1 p1;obtain⟨b,b1,b2,b3⟩:=r4.own jj true c2 (zfj e8);rw[p4,hsi]at b1;cases b1
     have only:∀b,xC ρ1 σ2 b->b=a:=λb z=>by
      obtain⟨k,pp,x,k1,k2⟩:=kp.own b z;rcases zX k1 with⟨rfl,_⟩|⟨ne,k1'⟩
      ·rw[hsi]at k2;cases k2;rfl
      ·obtain⟨l,s0,l1,l2,l3⟩:=zbo k1';cases s0<;>simp[kL]at l3
     have ch4:Chg F3 H3 a F4 H4:=⟨s4.ff,s4.fh,λb o e n ne=>s4.rest b o e n λz=>ne (only b z),b2⟩;have hd3:=g3.hh _ _ hd;have fd3:=g3.nw _ _ hd fd;obtain⟨hd4,fd4⟩:=ch4.rest dd _ hd3 fd3 hda;cases bb with
     |false=>
      simp only[Bool.false_eq_true,if_false]at e4 ⊢;exact⟨ds.length - (n+1),by omega,acc,hlt,rfl,F4,done,left,c2,ch3.trans ch4,b3,ff.trans (g3.ff.trans ch4.ff),fd4,hd4,da.mono (g3.ff.trans ch4.ff),by omega,e4,e5⟩
     |true=>
      simp only[if_true]at e4 ⊢;cases e10:f ρ2 with
      |none=>rw[e10]at e4;cases e4
      |some d1=>
       simp only[e10,Option.bind_some]at e4;cases e9:nP g m f (qH cap ρ) jj c2 (ds.drop (n+1))with
       |none=>rw[e9]at e4;cases e4
       |some l=>
        obtain⟨l,c8⟩:=l;rw[e9]at e4;cases e4
        refine⟨⟨(ρ2,d1),e10⟩,F4,r4,λv F5 H5 g5 d5=>?_⟩;obtain⟨o4,ho4⟩:=b3.some;have ch5:Chg F3 H3 a F5 H5:=ch4.trans (g5.chg ho4 ch4.fa);have hd5:=g5.hh _ _ hd4;have fd5:=g5.nw _ _ hd4 fd4;have b5:=b3.mono g5.ff (λo e=>g5.hh _ _ e);refine⟨acc,hd5,zdf (by omega),ds.length - (n+1),by omega,_,hlt,rfl,F5,done++[d1],l,c2,?_,b5.mono (zP.refl _) (λo e=>by rw[zW (Ne.symm hda)];exact e),ff.trans (g3.ff.trans ch5.ff),fd5,qR,(da.mono (g3.ff.trans ch5.ff)).snoc d5,by rw[Jm,Qa];omega,e9,by rw[e5];simp⟩;have chh:=ch3.trans ch5;exact⟨chh.ff,λb o e=>by rw[zW (jE e fd5)];exact chh.fh _ _ e,λb o e n ne=>by obtain⟨z1,z2⟩:=chh.rest b o e n ne;exact⟨by rw[zW (jE e hdH)];exact z1,z2⟩,chh.fa⟩
 ·have e:n=ds.length:=by omega
  subst e;rw[QI]at e4;have e4:some ([],c)=some (left,c9):=e4;cases e4
  rw[JB]at e5;subst e5;have x:zP F2 (wI F2 H2 dd):=zaW fd;have chf:Chg F H a (wI F2 H2 dd) H2:=⟨ch.ff.trans x,zcb ch.fh,λb o e n ne=>by obtain⟨z1,z2⟩:=ch.rest b o e n ne;exact⟨z1,by rw[zbz (jE e hdH)];exact z2⟩,by rw[zbz (Ne.symm hda)];exact ch.fa⟩
  obtain⟨rf,sf⟩:=r.chg e1 hσ chf (own2.mono x λo e=>e);exact .inl ⟨o3,q _ _ _ rf sf (Own.freeze (d:=.lst rs) ⟨acc,hd,da⟩ fd (Own.fl (K:=K) (F:=F2) (l:=rs) ⟨acc,hd,da⟩))⟩
theorem zpQ(i jj:Nat){fi:EO (List D)}{c:Expr}(N:List Str)(cap:ON)(cp:Cap X scope N cap)(hc:X.calm=true)(hi:FI K X tg iter fi)(hg:∀C s0 H0 fp,FG K (jC X N scope (qK X.env scope.names []) C s0 H0 fp) tg g)(ht:∀C s0 H0 fp,FT K (jC X N scope (qK X.env scope.names []) C s0 H0 fp) c m)(he:∀C s0 H0 fp,FP K .fz (jC X N scope (qK X.env scope.names []) C s0 H0 fp) elt f)(hcap:cap[jj]?=some (some i):=by rfl)(hol:(List.range cap.length).all (λk=>cap[k]? !=some (some i)||k==jj)=true:=by rfl)(S:yH X scope:=by exact yH.mk')(hs:∀x,foldedSetIterable iter X.env x=pure x:=by intro _;rfl)(hK:X.K=K:=by rfl):
  FX K X (.ListComp elt [⟨tg,iter,[c],0⟩] scope pos) (zjl i jj cap fi g m f):=FX.mk λρ d ρ' hf=>by
 subst hK;have ho:∀k,cap[k]?=some (some i)->k=jj:=λk hk=>by have h:=JP.mp hol k (List.mem_range.mpr (List.getElem?_eq_some_iff.mp hk).1);simpa[hk]using h
 unfold zjl at hf;split at hf
 ·rename_i p c0 ds e1 e2;split at hf
  ·rename_i hn;cases e3:nP g m f (qH cap ρ) jj c0 ds with
   |none=>rw[e3]at hf;cases hf
   |some rr=>
    obtain⟨rs,c9⟩:=rr;rw[e3]at hf;cases hf
    refine PE.imp (zkJ N cap cp hc (hi.h ρ ds e2) (λC s0 H0 fp=>PG.any λi:{q:En×D×En//g q.2.1 q.1=some q.2.2}=>(hg C s0 H0 fp).h _ _ _ i.2) (λC s0 H0 fp=>PIf.any λi:{q:En×Bool×En//m q.1=some q.2}=>zoM ((ht C s0 H0 fp).h _ _ _ i.2))
     (λC s0 H0 fp=>PE.any λi:{q:En×D//f q.1=some q.2}=>(he C s0 H0 fp).h _ _ i.2) S hs) λσ H Q ⟨F,r,q⟩=>?_
    exact⟨F,r,λJ F1 H1 g1 ok=>znC hcap ho e1 e3 hn r q g1 ok⟩
  ·cases hf
 ·cases hf
end
section
variable{K:Fg}{X:Cx}{a b:Expr}{p:D->D->Option D}{m:EO (D×En)}{fb:EO D}{pos:Pos}
theorem zrU{op:CmpOp}(o:Op2 K X (compareOp op) .fz p)(ha:FX K X a m)(hb:FP K .br X b fb)(hm:behindInMarks op b=false):FX K X (.Compare a [op] [b] pos) (ixX p m fb):=FX.mk λρ d ρ' hf=>by
 obtain⟨x,y,e1,e2,e3⟩:=zng hf;obtain⟨r,ho,hr⟩:=o;refine PE.imp (zhT ho (ha.h ρ x ρ' e1) (hb.h ρ' y e2) hm) λσ H Q h_=>?_
 obtain⟨F,rl,q⟩:=h_;refine⟨F,rl,λv F1 H1 rl1 s1 d1=>⟨F1,rl1,λu F2 H2 g2 r2=>?_⟩⟩;refine hr x y d F2 H2 v u _ e3 g2.fh ((d1.mono g2.ff).b g2.fh) r2 λw F3 H3 g3 d3=>?_
 exact q w F3 H3 ((rl1.grow g2).grow g3) (s1.trans (g2.trans g3).step rl.sub) d3
noncomputable def oneX(pf:LO)(m:EO (D×En)):EO (D×En):=λρ=>(m ρ).bind λq=>(pf [q.1]).map λd=>(d,q.2)
theorem zpS{id:String}{pf:LO}{p1:Pos}(o:nT K X (.builtin id) .fz pf)(hg:Gl X x)(hm:X.mg x=none)(hv:bootBuiltins x=some (.builtin id))(ha:FX K X a m)(hn:x≠"__name__":=by decide)(hdb:(x==("__debug__":Str))=false:=by decide)(he:starEach [a] X.env=(false,eval a X.env)::starEach [] X.env:=by rfl)(hpl:(backTo pos (starEach [] X.env)).any (·.1)=false:=by rfl):FX K X (.Call (.Name x p1) [a] [] pos) (oneX pf m):=FX.mk λρ d ρ' hf=>by
 unfold oneX at hf;obtain⟨⟨y,ρ1⟩,e1,e2⟩:=Option.bind_eq_some_iff.mp hf;obtain⟨d',e3,e4⟩:=Qz.mp e2;cases e4
 obtain⟨r,ho,hr⟩:=o;refine PE.imp (zfF ho hg hm hv (yW (ha.h ρ y _ e1) wO he) hn hdb he hpl) λσ H Q ⟨F,rl,q⟩=>⟨F,rl,λv F1 H1 rl1 s1 d1=>?_⟩
 exact hr [y] d F1 H1 [v] Q e3 rl1.sub ⟨v,[],rfl,d1.b rl1.sub,rfl⟩ λw F2 H2 g2 r2=>q w F2 H2 (rl1.grow g2) (s1.trans g2.step rl.sub) r2
end
section
variable{X:Cx}{K:Fg}{pos:Pos}
theorem zrB{y i:Str}(hm:∃t,X.mg y=some (.str i t))(hg:Gl X y:=by rfl)(hdb:(y==("__debug__":Str))=false:=by decide):FP K .fz X (.Name y pos) (cst (.str i)):=by obtain⟨t,e⟩:=hm;exact zsJ (v:=.str i) hg e ⟨t,rfl⟩ (λ_=>Dat.str _) hdb
end
noncomputable def tsV(gs:List (Str×Str))(K:Fg):List (Option Str):=gs.map λq=>match PySem.W.nsIn K mainGlobals q.1 with
 |some (some (.str i _))=>some i
 |_=>none
abbrev FaU:=FaT×List (Option Str)
def feV(p:Program)(I:List Nat)(gs:List (Str×Str))(K:Fg):FaU:=(faV p I K,tsV gs K)
def feX(p:Program)(I:List Nat)(gs:List (Str×Str)):FaU:=(faX p I,gs.map λq=>some q.2)
def YP5(p:Program)(I:List Nat)(gs:List (Str×Str))(_:World)(h:Heap):Prop:=∃K:Fg,K.In h/\feV p I gs K=feX p I gs
variable{p:Program}{I:List Nat}{gs:List (Str×Str)}
theorem YP5.keeps(w:World)(h h':Heap)(y:YP5 p I gs w h)(k:∀b o,h.get? b=some o->h'.get? b=some o):YP5 p I gs w h':=
 let⟨K,X,A⟩:=y;⟨K,λa o e=>k _ _ (X a o e),A⟩
theorem walkE5{l:PySem.W.OpenLaw}{k:Nat}{q:Program}{loose:List Str}{XP:(SV)->Heap->Prop}{d:DefRec}{m:LO}(hn:l.most=some 63)(hdf:d.params.defaults=[])(hr:jI k callerA)(F:∀(K:Fg) (w:World) (mg:SV) (fa:Addr) (h:Heap),feV p I gs K=feX p I gs->K.In h->h.Ns mainGlobals mg->mg d.name=some (.ref fa)->
   ∃fd:FuncData,(∀(s:Shared) (u:Value),BindsTo s fd ⟨[u],[]⟩ [(x,u)])/\∀base:Heap,K.In base->base.Ns mainGlobals mg->xU l.prog w K mg base CX0 k fa fd [x] (SpD K .fz m))(H:∀ns:List Int,ns.length<=63->ziw ns->m [.scr ns]=some (.bl true)):PySem.W.WalkO q loose XP (YP5 p I gs) l.row.toRowW d [] (λf vs=>PySem.call f vs):=by
 intro w s0 s1 mg mb G Y;obtain⟨K,hK,A⟩:=Y;exact zpT (K:=λ_=>K) (YP:=λ_ h'=>K.In h') hn hdf hr (λ_ _ z=>z) (λw mg fa h=>F K w mg fa h A) H w s0 s1 mg mb ⟨G.T,G.B,G.D,G.TE,G.TD,G.W,G.X,G.cls,G.has,G.apart,G.once,G.K⟩ hK
theorem zrW{K:Fg}{h:Heap}{mg:SV}(A:feV p I gs K=feX p I gs)(X:K.In h)(G:h.Ns mainGlobals mg)(n i:Str)(hq:(n,i)∈gs):∃t,mg n=some (.str i t):=by
 have z:tsV gs K=gs.map λq=>some q.2:=JV Prod.snd A
 unfold tsV at z;have e:=List.map_inj_left.mp z (n,i) hq;simp only at e;split at e
 ·rename_i i' t e1;cases e
  exact⟨t,PySem.W.mg_of X G e1⟩
 ·cases e
section
variable{K:Fg}{X:Cx}
noncomputable def lenK:LO
 |[.dic ks _]=>if kOk ks=true then some (.int ks.length)else none
 |_=>none
theorem zrP:nT K X (.builtin "len") .fz lenK:=by
 refine⟨λxs H Q=>∃a kvs,xs=[.ref a]/\Rd H a (.dK kvs)/\Q (.int kvs.length) H,?_,λds d F H vs Q e s h k=>?_⟩
 ·intro pins s σ H xs us Q I r h;obtain⟨a,kvs,rfl,e,q⟩:=h;obtain⟨u,rfl,ru⟩:=gF r;cases ru
  exact zsP I e λt s' I'=>⟨.int kvs.length,_,I',⟨t,rfl⟩,q⟩
 ·unfold lenK at e;split at e
  ·obtain⟨v,rfl,h1⟩:=h.one;obtain⟨hk,rfl⟩:=kP e;obtain⟨a,vs,rfl,f1,q1⟩:=zZ.dic_inv h1;obtain⟨kvs,h2,rfl,rfl⟩:=zjh f1 (zcC hk);refine⟨a,kvs,rfl,h2,?_⟩;have kl:(kds kvs).length=kvs.length:=by simp[kds]
   rw[←kl];exact k _ F H (zK.refl s) (Res.int _)
  ·cases e
end
abbrev zhc(n:Nat):EO Fl:=
 (zG (ifM (upT (cT (c2 ltD (gb 1) (cL jH (zB (gb 0) zD))))) (zV (c2 qA (gb 0) (gb 1))) nxM) (zV (cst (.int 0))))
def zag:LO:=qG (zhc zO) 2 2
abbrev zdr(m__law_count:LO)(n:Nat):EO D:=
 (cL m__law_count (zB (gv 0) zD))
abbrev zjK(m__law_count:LO)(n:Nat):EO Fl:=
 (zG (ifM (upT (cT (c1 (jF "str") (gb 0)))) (zV (cst (.int 1))) nxM) (zV (c2 qJ (cst (.int 1)) (cL sumD (zB (jQ [none] (cI (cS jJ (gb 0) (jK (cst (.int 1))) jL)) (gN 0) qQ (zdr m__law_count n)) zD)))))
def zax:Nat->LO
 |0=>λ_=>none
 |n+1=>qG (zjK (zax n) zO) 1 1
def zej:LO:=zax 100
abbrev zie(n:Nat):EO Fl:=
 (zV (c1 (jF "str") (gb 0)))
def gA:LO:=qG (zie zO) 1 1
abbrev zeN(n:Nat):EO Fl:=
 (zG (ifM (upT (cT (cL gA (zB (gv 0) zD)))) (zV (cL zR zD)) nxM) (zV (cS jJ (gb 0) (jK (cst (.int 1))) jL)))
def zah:LO:=qG (zeN zO) 1 1
abbrev zdb(n:Nat):EO D:=
 (cL zR (zB (c2 qJ (gb 2) (cL zR (zB (gv 0) zD))) (zB (gv 1) zD)))
abbrev zbg(n:Nat):EO Fl:=
 (zG (xB (xK 2) (qO (zQ (gN 3) (zQ (gN 4) qC)))) (zG (jT (kE 1 (cL zR (zB (gv 3) (zB (gv 4) zD))))) (zG (zY 5 (jQ [none,none,some 3] (xT (cL zah (zB (gv 4) zD))) (qO (zQ (gN 0) (zQ (gN 1) qC))) qQ (zdb n))) (jT (yZ 2 (c2 xI (gb 5) (c1 yQ (cst (.int 1)))))))))
abbrev zee(n:Nat):EO Fl:=
 (zG (setO 1 (cL qS zD)) (zG (setO 2 (cL qS (zB (cL zR (zB (cL zR zD) (zB (gv 0) zD))) zD))) (zG (xD (upT (cTr (gb 2))) (zbg n) n) (jR 1))))
def zac:LO:=qG (zee zO) 1 6
abbrev zek(n:Nat):EO Fl:=
 (zG (zY 4 (cL zah (zB (c2 qA (gb 2) (c1 yQ (cst (.int 1)))) zD))) (zG (ifM (upT (orP (cT (c2 ltD (gb 3) (cst (.int 0)))) (cT (c2 geD (gb 3) (cL jH (zB (gb 4) zD)))))) (λ_=>none) nxM) (jT (kE 2 (c2 qA (gb 4) (gb 3))))))
abbrev zkW(n:Nat):EO Fl:=
 (zG (setO 2 (cL qS (zB (gv 0) zD))) (zG (jD (cI (gv 1)) (gN 3) (zek n)) (jR 2)))
def zdA:LO:=qG (zkW zO) 2 5
abbrev zem(n:Nat):EO Fl:=
 (zY 4 (c2 qJ (c2 qJ (cS jJ (gb 5) jL (jK (c2 qJ (gb 6) (cst (.int 1))))) (cL zR (zB (gv 4) zD))) (cS jJ (gb 5) (jK (c2 qJ (gb 6) (cst (.int 2)))) jL)))
abbrev zla(n:Nat):EO Fl:=
 (zG (zY 3 (cS jJ (cL zdA (zB (gv 0) (zB (gv 1) zD))) jL (jK (c1 yQ (cst (.int 1)))))) (zG (zY 4 (gv 2)) (zG (jD (cRv (c2 zipD (gv 3) (gv 1))) (qO (zQ (gN 5) (zQ (gN 6) qC))) (zem n)) (zV (gv 4)))))
def zcv:LO:=qG (zla zO) 3 7
abbrev zeD(kK:LO)(n:Nat):EO D:=
 (cL kK (zB (gv 0) (zB (gv 1) zD)))
abbrev zlc(kK:LO)(n:Nat):EO Fl:=
 (zG (ifM (upT (cT (cL gA (zB (gv 0) zD)))) (zV (c3 yY (gb 1) (gv 0) (gv 0))) nxM) (zV (c2 qJ (cL zR (zB (c2 qA (gb 0) (cst (.int 0))) zD)) (cL kY (zB (jQ [none,some 1] (cI (cS jJ (gb 0) (jK (cst (.int 1))) jL)) (gN 0) qQ (zeD kK n)) zD)))))
def zaN:Nat->LO
 |0=>λ_=>none
 |n+1=>qG (zlc (zaN n) zO) 2 2
def kK:LO:=zaN 100
abbrev zef(n:Nat):EO Fl:=
 (zG (ifM (upT (orP (cT (cL gA (zB (gv 0) zD))) (cT (cL gA (zB (gv 1) zD))))) (zV (cst .non)) nxM) (zG (ifM (upT (orP (cT (c2 neB (c2 qA (gb 0) (cst (.int 0))) (c2 qA (gb 1) (cst (.int 0))))) (cT (c2 neB (cL jH (zB (gb 0) zD)) (cL jH (zB (gb 1) zD)))))) (zV (cst .non)) nxM) (zV (c2 zipD (cS jJ (gb 0) (jK (cst (.int 1))) jL) (cS jJ (gb 1) (jK (cst (.int 1))) jL)))))
def zaa:LO:=qG (zef zO) 2 2
abbrev zbU(n:Nat):EO D:=
 (gv 0)
abbrev zbV(n:Nat):EO D:=
 (cL kK (zB (gv 1) (zB (c2 xR (gv 2) (gv 3)) zD)))
abbrev zfJ(n:Nat):EO Fl:=
 (zG (setO 3 (zcf [none,none,some 1,some 2] (cIs (gv 0)) (qO (zQ (gN 0) (zQ (gN 1) qC))) qQ (zbU n) (zbV n))) (zG (yA 3 (gv 1) (gv 2)) (jR 3)))
def zao:LO:=qG (zfJ zO) 3 4
abbrev zce(n:Nat):EO Fl:=
 (ifM (upT (kF (cT (cL gA (zB (gv 3) zD))) (cT (c2 yO (gv 3) (gb 1))))) (jT (kE 1 (gv 3))) nxM)
abbrev zhb(n:Nat):EO Fl:=
 (zG (setO 1 (cL qS zD)) (zG (jD (cI (cL zac (zB (gv 0) zD))) (qO (zQ (gN 2) (zQ (gN 3) qC))) (zce n)) (jR 1)))
def zae:LO:=qG (zhb zO) 1 4
abbrev zbO(n:Nat):EO Fl:=
 (zG (xB (yV 3 (cst (.int 0))) (qO (zQ (gN 4) (zQ (gN 5) qC)))) (zG (nC 6 7 (zB (cL kK (zB (gv 4) (zB (gv 2) zD))) (zB (cL kK (zB (gv 5) (zB (gv 2) zD))) zD))) (zG (ifM (upT (cT (c2 eqB (gb 6) (gb 7)))) (λρ=>some (.ct ρ)) nxM) (zG (ifM (upT (cT (cL gA (zB (gv 7) zD)))) (nC 6 7 (zB (gv 7) (zB (gv 6) zD))) nxM) (zG (ifM (upT (cT (cL gA (zB (gv 6) zD)))) (zG (ifM (upT (cT (c2 inB (gv 6) (cL zae (zB (gv 7) zD))))) (zV (cst .non)) nxM) (zG (zY 2 (cL zao (zB (gv 2) (zB (gv 6) (zB (gv 7) zD))))) λρ=>some (.ct ρ))) nxM) (zG (zY 8 (cL zaa (zB (gv 6) (zB (gv 7) zD)))) (zG (ifM (upT (cT (c2 isB (gb 8) (cst .non)))) (zV (cst .non)) nxM) (setO 3 (c2 xS (gb 8) (gb 3))))))))))
abbrev zfM(n:Nat):EO Fl:=
 (zG (zY 2 (cst (.dic [] []))) (zG (setO 3 (cL qS (zB (cL zR (zB (gv 0) (zB (gv 1) zD))) zD))) (zG (xD (upT (cTr (gb 3))) (zbO n) n) (zV (gv 2)))))
def zaE:LO:=qG (zfM zO) 2 9
abbrev zaV(n:Nat):EO Fl:=
 (ifM (andM (upT (yC (cT (cL gA (zB (gv 5) zD))))) (cmpX neB (sdfM 1 (c2 qA (gb 5) (cst (.int 0))) (cL jH (zB (gb 5) zD))) (cL jH (zB (gb 5) zD)))) (jT (kE 2 (c2 qA (gb 5) (cst (.int 0))))) nxM)
abbrev zaU(n:Nat):EO Fl:=
 (jD (cI (cL zac (zB (gv 3) zD))) (qO (zQ (gN 4) (zQ (gN 5) qC))) (zaV n))
abbrev zdv(n:Nat):EO Fl:=
 (zG (setO 1 (cst (.dic [] []))) (zG (setO 2 (cL qS zD)) (zG (jD (cI (gv 0)) (gN 3) (zaU n)) (jR 2))))
def zaw:LO:=qG (zdv zO) 1 6
abbrev zdq(n:Nat):EO D:=
 (c2 inB (gv 0) (gb 1))
abbrev zjI(n:Nat):EO Fl:=
 (zG (ifM (upT (cT (cL gA (zB (gv 0) zD)))) (zV (cst (.bl false))) nxM) (zG (zY 2 (cL zae (zB (gv 0) zD))) (zV (cL allD (zB (jQ [none,some 2] (cI (cL zae (zB (gv 1) zD))) (gN 0) qQ (zdq n)) zD)))))
def zcw:LO:=qG (zjI zO) 2 3
abbrev zcM(n:Nat):EO D:=
 (gv 1)
abbrev zib(n:Nat):EO Fl:=
 (zV (zhu [none,none] (cI (gv 0)) (gN 0) (cI (gv 0)) (gN 1) (zcM n)))
def zca:LO:=qG (zib zO) 1 1
abbrev zbN(n:Nat):EO Fl:=
 (zG (kB (gv 2) (qO (zQ (gN 3) (zQ (gN 4) qC)))) (ifM (upT (yC (cT (cL zcw (zB (gv 3) (zB (gv 4) zD)))))) (λ_=>none) nxM))
abbrev zfL(n:Nat):EO Fl:=
 (zG (jD (cI (gv 0)) (gN 2) (zbN n)) (zG (zY 5 (cL zaw (zB (c2 qJ (cL zca (zB (gv 0) zD)) (gb 1)) zD))) (ifM (upT (cTr (gb 5))) (λ_=>none) nxM)))
def zaD:LO:=runN (zfL zO) 2 6
abbrev zbK(n:Nat):EO Fl:=
 (zG (zY 9 (c2 qJ (c2 qJ (c2 jY (gb 2) (c2 qJ (gb 8) (cst (.int 3)))) (c2 yD (gb 8) (gb 8))) (c2 yD (cL xO (zB (c2 eqB (gb 8) (gb 4)) zD)) (gb 6)))) (zY 7 (c2 qJ (gb 7) (c2 qA (gb 1) (c2 jP (gb 9) (cst (.int 26)))))))
abbrev zdg(n:Nat):EO Fl:=
 (zG (zY 7 (cst (.str ""))) (zG (jD (cR1 (gv 3)) (gN 8) (zbK n)) (jT (kE 5 (cL zR (zB (gv 7) (zB (c2 qA (cL qS (zB (cst (.int 0)) (zB (cst (.int 1)) (zB (cst (.int 2)) (zB (c2 jP (c2 jY (gb 2) (cst (.int 64))) (cst (.int 4))) zD))))) (gb 6)) zD)))))))
abbrev zjG(n:Nat):EO Fl:=
 (zG (zY 1 (cst (.str "abcdefghijklmnopqrstuvwxyz"))) (zG (zY 2 (c2 jP (gb 0) (cst (.int 2147483629)))) (zG (zY 3 (c2 qJ (cst (.int 1)) (c2 jP (gb 2) (cst (.int 8))))) (zG (zY 4 (c2 jP (c2 jY (gb 2) (cst (.int 8))) (gb 3))) (zG (setO 5 (cL qS zD)) (zG (jD (cR1 (cst (.int 4))) (gN 6) (zdg n)) (jR 5)))))))
def zcu:LO:=qG (zjG zO) 1 10
abbrev zid(n:Nat):EO Fl:=
 (zG (ifM (upT (cT (c2 eqB (c2 jP (gb 0) (cst (.int 3))) (cst (.int 0))))) (zV (c2 jP (c2 jY (gb 0) (cst (.int 3))) (c2 yU (cst (.int 10)) (cst (.int 60))))) nxM) (zV (c2 jP (c2 yD (c2 jY (gb 0) (cst (.int 3))) (cst (.int 27182818284590452353602874713526624977572470936999595749669))) (c2 yU (cst (.int 10)) (cst (.int 60))))))
def zbe:LO:=qG (zid zO) 1 1
abbrev zel(m__law_term:LO)(n:Nat):EO Fl:=
 (zG (kB (cL m__law_term (zB (gv 0) (zB (c2 yM (gb 1) (cst (.int 1))) (zB (gv 2) (zB (gv 3) zD))))) (yK (zQ (gN 10) (zQ (gN 0) qC)))) (jT (kE 8 (gv 10))))
abbrev zkY(m__law_term:LO)(n:Nat):EO Fl:=
 (zG (zY 4 (c2 qJ (cL jH (zB (gb 2) zD)) (cL jH (zB (gb 3) zD)))) (zG (zY 5 (c2 jP (gb 0) (gb 4))) (zG (zY 0 (c2 jY (gb 0) (gb 4))) (zG (ifM (upT (cT (c2 ltD (gb 5) (cL jH (zB (gb 3) zD))))) (zV (cL qS (zB (c2 qA (gb 3) (gb 5)) (zB (gv 0) zD)))) nxM) (zG (kB (c2 qA (gb 2) (c2 yM (gb 5) (cL jH (zB (gb 3) zD)))) (qO (zQ (gN 6) (zQ (gN 7) qC)))) (zG (ifM (upT (kF (cT (c2 eqB (gb 1) (cst (.int 0)))) (cT (c2 gtD (gb 7) (cst (.int 0)))))) (zV (cL qS (zB (cL zR (zB (c2 qA (c2 qA (gb 2) (cst (.int 0))) (cst (.int 0))) zD)) (zB (gv 0) zD)))) nxM) (zG (setO 8 (cL qS zD)) (zG (jD (cR1 (gv 7)) (gN 9) (zel m__law_term n)) (zV (cL qS (zB (c2 qJ (cL zR (zB (gv 6) zD)) (cL kY (zB (gb 8) zD))) (zB (gv 0) zD))))))))))))
def zap:Nat->LO
 |0=>λ_=>none
 |n+1=>qG (zkY (zap n) zO) 4 11
def zct:LO:=zap 100
abbrev zcB(m__law_blanks:LO)(n:Nat):EO Fl:=
 (ifM (upT (cT (c2 yO (gv 3) (gb 1)))) (jT (kE 1 (gv 3))) nxM)
abbrev zcA(m__law_blanks:LO)(n:Nat):EO Fl:=
 (jD (cI (cL m__law_blanks (zB (gv 2) zD))) (gN 3) (zcB m__law_blanks n))
abbrev zih(m__law_blanks:LO)(n:Nat):EO Fl:=
 (zG (ifM (upT (cT (c1 (jF "str") (gb 0)))) (zV (cL qS (zB (gv 0) zD))) nxM) (zG (setO 1 (cL qS zD)) (zG (jD (cI (cS jJ (gb 0) (jK (cst (.int 1))) jL)) (gN 2) (zcA m__law_blanks n)) (jR 1))))
def zaf:Nat->LO
 |0=>λ_=>none
 |n+1=>qG (zih (zaf n) zO) 1 4
def zbf:LO:=zaf 100
abbrev zlb(n:Nat):EO Fl:=
 (zG (zY 2 (cL zR (zB (c2 qA (c2 qA (gb 0) (cst (.int 0))) (cst (.int 0))) zD))) (zG (zY 3 (c2 qA (c2 qA (gb 0) (cst (.int 1))) (cst (.int 0)))) (zG (zY 4 (c2 qA (c2 qA (gb 0) (cst (.int 2))) (cst (.int 0)))) (zG (zY 5 (cL qS (zB (cL zR (zB (cL zR (zB (gv 4) (zB (cL zR (zB (gv 4) (zB (cst (.str "X")) (zB (cst (.str "Y")) zD)))) (zB (cst (.str "Z")) zD)))) (zB (cL zR (zB (gv 4) (zB (cst (.str "X")) (zB (cL zR (zB (gv 4) (zB (cst (.str "Y")) (zB (cst (.str "Z")) zD)))) zD)))) zD))) (zB (cL zR (zB (cL zR (zB (gv 4) (zB (gv 2) (zB (cst (.str "X")) zD)))) (zB (cst (.str "X")) zD))) (zB (cL zR (zB (cL zR (zB (gv 4) (zB (cst (.str "X")) (zB (gv 2) zD)))) (zB (cst (.str "X")) zD))) zD))))) (zG (zY 5 (c2 qJ (gb 5) (cL qS (zB (cL zR (zB (cL zR (zB (gv 3) (zB (cL zR (zB (gv 3) (zB (cst (.str "X")) zD))) zD))) (zB (cst (.str "X")) zD))) (zB (cL zR (zB (cL zR (zB (gv 3) (zB (gv 2) zD))) (zB (gv 2) zD))) (zB (cL zR (zB (cL zR (zB (gv 3) (zB (cL zR (zB (gv 4) (zB (cst (.str "X")) (zB (cst (.str "Y")) zD)))) zD))) (zB (cL zR (zB (gv 4) (zB (cL zR (zB (gv 3) (zB (cst (.str "Y")) zD))) (zB (cL zR (zB (gv 3) (zB (cst (.str "X")) zD))) zD)))) zD))) zD)))))) (zG (zY 5 (c2 qJ (gb 5) (cL qS (zB (cL zR (zB (cL zR (zB (gv 4) (zB (cL zR (zB (gv 3) (zB (cst (.str "X")) zD))) (zB (cst (.str "X")) zD)))) (zB (gv 2) zD))) (zB (cL zR (zB (cL zR (zB (gv 3) (zB (cL zR (zB (gv 3) (zB (cst (.str "X")) zD))) zD))) (zB (cL zR (zB (gv 3) (zB (cst (.str "X")) zD))) zD))) (zB (cL zR (zB (cL zR (zB (gv 4) (zB (cst (.str "X")) (zB (cst (.str "X")) zD)))) (zB (cst (.str "X")) zD))) zD)))))) (zG (zY 5 (c2 qJ (gb 5) (cL qS (zB (cL zR (zB (cL zR (zB (gv 4) (zB (cL zR (zB (gv 3) (zB (cst (.str "X")) zD))) (zB (cst (.str "Y")) zD)))) (zB (cL zR (zB (gv 3) (zB (cL zR (zB (gv 4) (zB (cst (.str "X")) (zB (cst (.str "Y")) zD)))) zD))) zD))) (zB (cL zR (zB (cL zR (zB (gv 4) (zB (cst (.str "X")) (zB (cL zR (zB (gv 3) (zB (cst (.str "Y")) zD))) zD)))) (zB (cL zR (zB (gv 3) (zB (cL zR (zB (gv 4) (zB (cst (.str "X")) (zB (cst (.str "Y")) zD)))) zD))) zD))) zD))))) (zG (zY 5 (c2 qJ (gb 5) (cL qS (zB (cL zR (zB (cL zR (zB (gv 3) (zB (cL zR (zB (gv 4) (zB (cst (.str "X")) (zB (cst (.str "Y")) zD)))) zD))) (zB (cst (.str "Y")) zD))) (zB (cL zR (zB (cL zR (zB (gv 4) (zB (cL zR (zB (gv 4) (zB (cst (.str "X")) (zB (cst (.str "Y")) zD)))) (zB (cst (.str "Y")) zD)))) (zB (cst (.str "X")) zD))) (zB (cL zR (zB (cL zR (zB (gv 3) (zB (cst (.str "X")) zD))) (zB (cL zR (zB (gv 4) (zB (cst (.str "X")) (zB (gv 2) zD)))) zD))) zD)))))) (zV (c2 qA (gb 5) (c2 jP (gb 1) (cst (.int 14)))))))))))))
def zdB:LO:=qG (zlb zO) 2 6
abbrev zkZ(n:Nat):EO Fl:=
 (zG (ifM (upT (cT (c2 gtD (c2 jP (gb 0) (cst (.int 3))) (cst (.int 0))))) (zV (cL zdB (zB (gv 1) (zB (c2 jY (gb 0) (cst (.int 3))) zD)))) nxM) (zG (kB (cL zct (zB (cL zbe (zB (c2 jY (gb 0) (cst (.int 3))) zD)) (zB (cst (.int 2)) (zB (gv 1) (zB (cL qS (zB (cst (.str "A")) (zB (cst (.str "B")) (zB (cst (.str "X")) zD)))) zD))))) (yK (zQ (gN 2) (zQ (gN 3) qC)))) (zG (ifM (upT (orP (cT (c1 (jF "str") (gb 2))) (cT (c2 gtD (cL zej (zB (gv 2) zD)) (cst (.int 12)))))) (zY 2 (cL zR (zB (c2 qA (c2 qA (gb 1) (cst (.int 1))) (cst (.int 0))) (zB (cst (.str "A")) zD)))) nxM) (zG (zY 4 (c2 qA (cL zct (zB (c2 qJ (gb 3) (c2 jP (c2 jY (gb 0) (cst (.int 9))) (cst (.int 1000)))) (zB (cst (.int 1)) (zB (gv 1) (zB (cL zbf (zB (gv 2) zD)) zD))))) (cst (.int 0)))) (zV (cL zR (zB (gv 2) (zB (gv 4) zD))))))))
def zbu:LO:=qG (zkZ zO) 2 5
abbrev zeC(m__law_told:LO)(n:Nat):EO D:=
 (cL m__law_told (zB (gv 0) (zB (gv 1) zD)))
abbrev zkX(m__law_told:LO)(n:Nat):EO Fl:=
 (zG (ifM (upT (cT (c1 (jF "str") (gb 0)))) (zV (c2 gL (gb 1) (gv 0))) nxM) (zV (c2 qJ (cL zR (zB (c2 qA (gb 0) (cst (.int 0))) zD)) (cL kY (zB (jQ [none,some 1] (cI (cS jJ (gb 0) (jK (cst (.int 1))) jL)) (gN 0) qQ (zeC m__law_told n)) zD)))))
def zaM:Nat->LO
 |0=>λ_=>none
 |n+1=>qG (zkX (zaM n) zO) 2 2
def zcs:LO:=zaM 100
abbrev zbP(n:Nat):EO Fl:=
 (zG (zmz 3 (gv 4) (yV 2 (c2 jP (gb 1) (cL jH (zB (gb 2) zD))))) (zY 1 (c2 qJ (c2 jY (gb 1) (cst (.int 7))) (cst (.int 3)))))
abbrev zfN(n:Nat):EO Fl:=
 (zG (setO 2 (cL zlf (zB (cst (.str "ABCDEFGHIJKLMNOPQRSTUVWXYZ")) zD))) (zG (setO 3 (cst (.dic [] []))) (zG (jD (cI (cL qS (zB (cst (.str "X")) (zB (cst (.str "Y")) (zB (cst (.str "A")) (zB (cst (.str "Z")) (zB (cst (.str "B")) zD))))))) (gN 4) (zbP n)) (yF 3 (zV (cL zR (zB (cL zcs (zB (c2 qA (gb 0) (cst (.int 0))) (zB (gv 3) zD))) (zB (cL zcs (zB (c2 qA (gb 0) (cst (.int 1))) (zB (gv 3) zD))) zD))))))))
def zaT:LO:=qG (zfN zO) 2 5
abbrev zdp(n:Nat):EO D:=
 (cL zbu (zB (cL zag (zB (gv 2) (zB (c2 qJ (cst (.int 2)) (gb 0)) zD))) (zB (gv 1) zD)))
abbrev zdo(n:Nat):EO D:=
 (cL zaT (zB (c2 qA (gb 1) (gb 0)) (zB (c2 qJ (c2 jY (cL zag (zB (gv 2) (zB (cst (.int 1)) zD))) (cst (.int 33))) (c2 yD (cst (.int 5)) (gb 0))) zD)))
abbrev zjH(n:Nat):EO Fl:=
 (zG (zY 2 (cL zcu (zB (cL zag (zB (gv 0) (zB (cst (.int 0)) zD))) zD))) (zG (zY 3 (c2 jY (c2 qJ (c2 jP (cL zag (zB (gv 0) (zB (cst (.int 1)) zD))) (c2 qJ (c2 yD (cst (.int 8)) (gb 1)) (cst (.int 1)))) (cst (.int 7))) (cst (.int 8)))) (zG (zY 4 (jQ [none,some 2,some 0] (cR1 (gv 3)) (gN 0) qQ (zdp n))) (zV (cL qS (zB (gv 2) (zB (jQ [none,some 4,some 0] (cR1 (gv 3)) (gN 0) qQ (zdo n)) zD)))))))
def zaP:LO:=qG (zjH zO) 2 5
theorem ziZ{g:D->EO En}{b:EO Fl}(I:Nat->En->Prop):∀(xs:List D) (k:Nat) (ρ:En),I k ρ->
  (∀(i:Nat) x ρ,xs[i]?=some x->I (k+i) ρ->∃ρ1 ρ2,g x ρ=some ρ1/\(b ρ1=some (.nx ρ2)\/b ρ1=some (.ct ρ2))/\I (k+i+1) ρ2)->∃ρ',vK g b xs ρ=some (.nx ρ')/\I (k+xs.length) ρ'
 |[],k,ρ,h,_=>⟨ρ,rfl,h⟩
 |x::xs,k,ρ,h,hs=>by
  obtain⟨ρ1,ρ2,e1,e2,h2⟩:=hs 0 x ρ rfl h;obtain⟨ρ',e3,h3⟩:=ziZ I xs (k+1) ρ2 h2 λi y σ hy hi=>by have:=hs (i+1) y σ (by simpa using hy) (by rw[show k+(i+1)=k+1+i by omega];exact hi);rw[show k+(i+1)+1=k+1+i+1 by omega]at this;exact this
  refine⟨ρ',?_,by rw[Jl,show k+(xs.length+1)=k+1+xs.length by omega];exact h3⟩;simp only[vK,e1];rcases e2 with e2|e2<;>(rw[e2];exact e3)
theorem zps{b:EO Fl}{xs:List D}(I:Nat->En->Prop)(h0:I 0 ρ)(hs:∀(i:Nat) x ρ,xs[i]?=some x->I i ρ->∃ρ1 ρ2,g x ρ=some ρ1/\(b ρ1=some (.nx ρ2)\/b ρ1=some (.ct ρ2))/\I (i+1) ρ2):∃ρ',vK g b xs ρ=some (.nx ρ')/\I xs.length ρ':=by
 have:=ziZ (g:=g) (b:=b) I xs 0 ρ h0 λi x σ hx hi=>by rw[QC]at hi ⊢;exact hs i x σ hx hi
 rw[QC]at this;exact this
theorem yS{g:D->EO En}{b:EO Fl}{xs:List D}{ρ:En}(I:Nat->En->Prop)(h0:I 0 ρ)(hs:∀(i:Nat) x ρ,xs[i]?=some x->I i ρ->∃ρ2,((g x ρ).bind b=some (.nx ρ2)\/(g x ρ).bind b=some (.ct ρ2))/\I (i+1) ρ2):∃ρ',vK g b xs ρ=some (.nx ρ')/\I xs.length ρ':=
 zps I h0 λi x ρ hx hi=>by
  obtain⟨ρ2,e,h⟩:=hs i x ρ hx hi;cases e1:g x ρ with
  |none=>rw[e1]at e;rcases e with e|e<;>cases e
  |some ρ1=>rw[e1]at e;exact⟨ρ1,ρ2,rfl,e,h⟩
theorem zcl{t:EO (Bool×En)}{b:EO Fl}(I:Nat->En->Prop)(Post:En->Prop)(hs:∀m ρ,I m ρ->(∃ρ1,t ρ=some (false,ρ1)/\Post ρ1)\/(∃ρ1 ρ2 m',t ρ=some (true,ρ1)/\(b ρ1=some (.nx ρ2)\/b ρ1=some (.ct ρ2))/\m'<m/\I m' ρ2)):
  ∀(n m:Nat) (ρ:En),I m ρ->m<n->∃ρ',xD t b n ρ=some (.nx ρ')/\Post ρ'
 |0,_,_,_,h=>absurd h (Nat.not_lt_zero _)
 |n+1,m,ρ,h,hn=>by
  rcases hs m ρ h with⟨ρ1,e,p⟩|⟨ρ1,ρ2,m',e,e2,hm,h2⟩
  ·exact⟨ρ1,by simp only[xD,e],p⟩
  ·obtain⟨ρ',e3,p⟩:=zcl I Post hs n m' ρ2 h2 (by omega);refine⟨ρ',?_,p⟩;simp only[xD,e];rcases e2 with e2|e2<;>(rw[e2];exact e3)
theorem zeV{t:EO (Bool×En)}{b:EO Fl}(I:Nat->En->Prop)(Post:Fl->Prop)(hs:∀m ρ,I m ρ->(∃ρ1,t ρ=some (false,ρ1)/\Post (.nx ρ1))\/(∃ρ1 ρ2 m',t ρ=some (true,ρ1)/\(b ρ1=some (.nx ρ2)\/b ρ1=some (.ct ρ2))/\m'<m/\I m' ρ2)\/(∃ρ1 d ρ2,t ρ=some (true,ρ1)/\b ρ1=some (.rt d ρ2)/\Post (.rt d ρ2))):
  ∀(n m:Nat) (ρ:En),I m ρ->m<n->∃fl,xD t b n ρ=some fl/\Post fl
 |0,_,_,_,h=>absurd h (Nat.not_lt_zero _)
 |n+1,m,ρ,h,hn=>by
  rcases hs m ρ h with⟨ρ1,e,p⟩|⟨ρ1,ρ2,m',e,e2,hm,h2⟩|⟨ρ1,d,ρ2,e,e2,p⟩
  ·exact⟨_,by simp only[xD,e],p⟩
  ·obtain⟨ρ',e3,p⟩:=zeV I Post hs n m' ρ2 h2 (by omega);refine⟨ρ',?_,p⟩;simp only[xD,e];rcases e2 with e2|e2<;>(rw[e2];exact e3)
  ·exact⟨_,by simp only[xD,e,e2],p⟩
theorem zaK{g:D->EO En}{t:EO Bool}{f:EO D}{ρ:En}:∀{xs ys:List D},xs.length=ys.length->(∀(i:Nat) x y,xs[i]?=some x->ys[i]?=some y->∃ρ1,g x ρ=some ρ1/\t ρ1=some true/\f ρ1=some y)->yG g t f ρ xs=some ys
 |[],[],_,_=>rfl
 |[],_::_,h,_=>by simp at h
 |_::_,[],h,_=>by simp at h
 |x::xs,y::ys,h,k=>by
  obtain⟨ρ1,e1,e2,e3⟩:=k 0 x y rfl rfl
  have:=zaK (g:=g) (t:=t) (f:=f) (ρ:=ρ) (xs:=xs) (ys:=ys) (by simpa using h) λi a b ha hb=>k (i+1) a b (by simpa using ha) (by simpa using hb)
  simp[yG,e1,e2,e3,this]
theorem zan{lo:Int}{n:Nat}{d:D}(h:(xJ lo n)[i]?=some d):i<n/\d=.int (lo+(i:Int)):=by
 unfold xJ at h;rw[List.getElem?_map]at h;cases e:(List.range n)[i]? with
 |none=>rw[e]at h;cases h
 |some k=>
  rw[e]at h;have h1:=List.getElem?_eq_some_iff.mp e;have h2:=h1.2;simp at h2;subst h2;exact⟨by simpa using h1.1,(Option.some.inj h).symm⟩
theorem gG(lo:Int)(n:Nat):(xJ lo n).length=n:=by simp[xJ]
variable{α:Type}
theorem at0(a:α)(l:List α):atI (a::l) 0=some a:=vA (j:=0) rfl
theorem at1(a b:α)(l:List α):atI (a::b::l) 1=some b:=vA (j:=1) rfl
theorem at2(a b c:α)(l:List α):atI (a::b::c::l) 2=some c:=vA (j:=2) rfl
theorem at3(a b c d:α)(l:List α):atI (a::b::c::d::l) 3=some d:=vA (j:=3) rfl
local macro_rules|`(tactic|simp! [$xs,*]$[$loc]?)=>`(tactic|simp[$xs,*,qG,jG,zG,zY,setO,yP,kB,xB,xQ,jT,zV,jR,vM,ifM,upT,cT,cTr,xF,kF,orP,yC,vY,orV,vR,c1,c2,cL,cS,zB,zD,cst,gv,gb,gN,qC,zQ,qO,jL,jK,jQ,qQ,cI,cR1,cR2,xT,jD,itS,xH,xW,kE,yZ,xK,yV,zR,qS,nxM,jF,tyN,xM,lim,kL,qH,yQ,xI,xX,kY,xL,jH,qA,jJ,vL,qJ,xS,yM,yD,jY,jP,yU,xA,geD,isB,xN,isNon,vZ,xO,kZ,kM,kS,yN,vN,yA,jS,yF,c3,yY,vV,xR,cSg,yJ,itS,Sl.inn,Sl.own,vS,eqB,neB,inB,yO,yX,vP,xZ,vQ,vO,yB,at0,at1,at2,at3]$[$loc]?)
local macro_rules|`(tactic|dsimp! [$xs,*]$[$loc]?)=>`(tactic|simp[$xs,*,qG,jG,zG,zY,setO,kB,xB,xQ,jT,zV,jR,vM,ifM,upT,cT,cTr,xF,kF,orP,yC,vY,orV,vR,c1,c2,cL,cS,zB,zD,cst,gv,gb,gN,qC,zQ,qO,jL,jK,jQ,qQ,cI,cR1,cR2,xT,jD,itS,xH,xW,kE,yZ,xK,yV,zR,qS,nxM,jF,tyN,xM,lim,kL,qH,yQ,xI,xX,kY,xL,jH,qA,jJ,vL,qJ,xS,yM,yD,jY,jP,yU,xA,geD,isB,xN,isNon,vZ,xO,kZ,kM,kS,yN,vN,yA,jS,yF,c3,yY,vV,xR,cSg,yJ,itS,Sl.inn,Sl.own,vS,inB,yO,yX,vP,xZ,vQ,vO,yB,at0,at1,at2,at3]$[$loc]?)
inductive T where
 |bl (x:Str)|nd (s:Str) (ts:List T)
mutual
def T.d:T->D
 | .bl x=>.str x
 | .nd s ts=>.tup (.str s::T.ds ts)
def T.ds:List T->List D
 |[]=>[]
 |t::r=>t.d::T.ds r
end
theorem zrJ:∀ts:List T,T.ds ts=ts.map T.d
 |[]=>by simp[T.ds]
 |t::r=>by rw[T.ds,zrJ r,Jg]
theorem qZ(s:Str)(ts:List T):(T.nd s ts).d=.tup (.str s::ts.map T.d):=by rw[T.d,zrJ]
theorem qW(x:Str):(T.bl x).d=.str x:=by rw[T.d]
mutual
def T.size:T->Nat
 | .bl _=>1
 | .nd _ ts=>1+T.sizes ts
def T.sizes:List T->Nat
 |[]=>0
 |t::r=>t.size+T.sizes r
end
mutual
def T.depth:T->Nat
 | .bl _=>1
 | .nd _ ts=>1+T.depths ts
def T.depths:List T->Nat
 |[]=>0
 |t::r=>max t.depth (T.depths r)
end
def T.isBl:T->Bool
 | .bl _=>true
 | .nd _ _=>false
def T.kids:T->List T
 | .bl _=>[]
 | .nd _ ts=>ts
theorem zgH(t:T):t.size=1+T.sizes t.kids:=by cases t<;>simp[T.size,T.kids,T.sizes]
theorem zbX(t:T):0<t.size:=by rw[zgH];omega
theorem zad:∀a b:List T,T.sizes (a++b)=T.sizes a+T.sizes b
 |[],b=>by simp[T.sizes]
 |t::a,b=>by simp only[List.cons_append,T.sizes,zad a b];omega
theorem gZ:∀a:List T,a.length<=T.sizes a
 |[]=>by simp
 |t::a=>by have:=zbX t;have:=gZ a;simp only[List.length_cons,T.sizes];omega
theorem vW:∀{ts:List T}{t:T},t∈ts->t.depth<=T.depths ts
 |_::_,_,h=>by
  rcases JC.mp h with rfl|h
  ·rw[T.depths];exact Nat.le_max_left _ _
  ·rw[T.depths];exact Jt (vW h) (Nat.le_max_right _ _)
theorem nV:∀{ts:List T}{t:T},t∈ts->t.size<=T.sizes ts
 |_::_,_,h=>by
  rcases JC.mp h with rfl|h
  ·rw[T.sizes];omega
  ·rw[T.sizes];have:=nV h;omega
theorem gB(t:T):0<t.depth:=by cases t<;>simp[T.depth]<;>omega
mutual
theorem zlL:∀t:T,dep t.d<=t.depth+1
 | .bl x=>by simp[T.d,dep]
 | .nd s ts=>by have:=zlM ts;simp only[T.d,dep,qU,T.depth];omega
theorem zlM:∀ts:List T,qU (T.ds ts)<=T.depths ts+1
 |[]=>by simp[T.ds,qU]
 |t::r=>by have h1:=zlL t;have h2:=zlM r;simp only[T.ds,qU,T.depths];omega
end
def idx(p:List Int):Nat->List T->List (List Int×T)
 |_,[]=>[]
 |k,t::r=>(p++[(k:Int)],t)::idx p (k+1) r
mutual
def qX(p:List Int):T->List (List Int×T)
 | .bl x=>[(p,.bl x)]
 | .nd s ts=>(p,.nd s ts)::kN p 0 ts
def kN(p:List Int)(k:Nat):List T->List (List Int×T)
 |[]=>[]
 |t::r=>qX (p++[(k:Int)]) t++kN p (k+1) r
end
theorem zdV(p:List Int)(t:T):qX p t=(p,t)::kN p 0 t.kids:=by cases t<;>simp[qX,T.kids,kN]
def kW(ws:List (List Int×T)):List (List Int×T):=ws.flatMap λq=>qX q.1 q.2
theorem zjc(p:List Int):∀(k:Nat) (ts:List T),kW (idx p k ts)=kN p k ts
 |_,[]=>by simp[idx,kW,kN]
 |k,t::r=>by have:=zjc p (k+1) r;unfold kW at this;simp only[idx,kW,kN,List.flatMap_cons,this]
theorem zeq(a b:List (List Int×T)):kW (a++b)=kW a++kW b:=by simp[kW]
theorem zfT(p:List Int):∀(k:Nat) (ts:List T),(idx p k ts).length=ts.length
 |_,[]=>rfl
 |k,t::r=>by simp[idx,zfT p (k+1) r]
def xV(ws:List (List Int×T)):Nat:=T.sizes (ws.map (·.2))
theorem zlo(p:List Int):∀(k:Nat) (ts:List T),(idx p k ts).map (·.2)=ts
 |_,[]=>rfl
 |k,t::r=>by simp[idx,zlo p (k+1) r]
theorem zco:∀a:List T,T.sizes a.reverse=T.sizes a
 |[]=>rfl
 |t::a=>by rw[QO,zad,zco a];simp only[T.sizes];omega
mutual
theorem zbc(p:List Int):∀t:T,(qX p t).length=t.size
 | .bl x=>by simp[qX,T.size]
 | .nd s ts=>by simp[qX,T.size,zdW p 0 ts];omega
theorem zdW(p:List Int):∀(k:Nat) (ts:List T),(kN p k ts).length=T.sizes ts
 |_,[]=>by simp[kN,T.sizes]
 |k,t::r=>by simp[kN,T.sizes,zbc (p++[(k:Int)]) t,zdW p (k+1) r]
end
noncomputable def qF:T->List Int->Option T
 |t,[]=>some t
 | .bl _,_::_=>none
 | .nd _ ts,k::r=>if 0<=k then(match ts[k.toNat]? with|some t=>qF t r|none=>none)else none
theorem zav:∀(p q:List Int) (t u:T),qF t p=some u->qF t (p++q)=qF u q
 |[],q,t,u,h=>by simp[qF]at h;subst h;rfl
 |k::p,q,.bl _,u,h=>by simp[qF]at h
 |k::p,q,.nd s ts,u,h=>by
  simp only[List.cons_append,qF]at h ⊢;split at h
  ·rename_i h0;rw[if_pos h0];cases e:ts[k.toNat]? with
   |none=>rw[e]at h;cases h
   |some t'=>rw[e]at h;simp only at h ⊢;exact zav p q t' u h
  ·cases h
mutual
theorem zgT(t0:T)(p:List Int):∀t:T,qF t0 p=some t->∀q∈qX p t,qF t0 q.1=some q.2
 | .bl x,h,q,hq=>by simp only[qX,List.mem_singleton]at hq;subst hq;exact h
 | .nd s ts,h,q,hq=>by
  simp only[qX,List.mem_cons]at hq;rcases hq with rfl|hq
  ·exact h
  ·refine zfa t0 p 0 ts (λi t hi=>?_) q hq;rw[zav p _ t0 _ h]
   have:(0:Int)<=((0+i:Nat):Int):=by omega
   simp only[qF,if_pos this];rw[QN,QC,hi]
theorem zfa(t0:T)(p:List Int):∀(k:Nat) (ts:List T),(∀i t,ts[i]?=some t->qF t0 (p++[((k+i:Nat):Int)])=some t)->∀q∈kN p k ts,qF t0 q.1=some q.2
 |_,[],_,q,hq=>by simp[kN]at hq
 |k,t::r,h,q,hq=>by
  simp only[kN,List.mem_append]at hq;rcases hq with hq|hq
  ·exact zgT t0 (p++[(k:Int)]) t (by have:=h 0 t rfl;simpa using this) q hq
  ·refine zfa t0 p (k+1) r (λi t' hi=>?_) q hq
   have:=h (i+1) t' (by simpa using hi);rw[show k+1+i=k+(i+1) by omega];exact this
end
mutual
theorem zdT(p:List Int):∀t:T,∀q∈qX p t,q.1.length<p.length+t.size
 | .bl x,q,hq=>by simp only[qX,List.mem_singleton]at hq;subst hq;simp[T.size]
 | .nd s ts,q,hq=>by
  simp only[qX,List.mem_cons]at hq;rcases hq with rfl|hq
  ·have:=zbX (.nd s ts);simp only;omega
  ·have:=zdd p 0 ts q hq;simp only[T.size];omega
theorem zdd(p:List Int):∀(k:Nat) (ts:List T),∀q∈kN p k ts,q.1.length<p.length+1+T.sizes ts
 |_,[],q,hq=>by simp[kN]at hq
 |k,t::r,q,hq=>by
  simp only[kN,List.mem_append]at hq;rcases hq with hq|hq
  ·have:=zdT (p++[(k:Int)]) t q hq;rw[Jm,Qa]at this;simp only[T.sizes];omega
  ·have:=zdd p (k+1) r q hq;simp only[T.sizes];omega
end
def pd(q:List Int×T):D:=.tup [.tup (q.1.map D.int),q.2.d]
theorem gP(t:T):gA [t.d]=some (.bl t.isBl):=by cases t<;>simp! [gA,T.d,T.isBl]
theorem gU{α:Type}(a:α)(l:List α):kH (a::l) (some 1) none=l:=by simp[kH,HT.sIx]
theorem zbA(t:T):zah [t.d]=some (.tup (t.kids.map T.d)):=by
 cases t with
 |bl x=>simp! [zah,gP,T.isBl,T.kids]
 |nd s ts=>
  simp! [zah,gP,T.isBl,T.kids]
  simp[qZ,gU]
theorem zbG(a b:List (List Int×T)):xV (a++b)=xV a+xV b:=by simp[xV,zad]
theorem zck(a:List (List Int×T)):xV a.reverse=xV a:=by unfold xV;rw[List.map_reverse,zco]
theorem zkd(p:List Int)(k:Nat)(ts:List T):xV (idx p k ts)=T.sizes ts:=by unfold xV;rw[zlo]
theorem zjb:∀l:List (List Int×T),l.length<=(kW l).length
 |[]=>by simp[kW]
 |a::l=>by
  have:=zbX a.2
  have:=zjb l;have e5:kW (a::l)=qX a.1 a.2++kW l:=by simp[kW]
  rw[e5,Jm,zbc,Jl];omega
theorem zep:∀l:List (List Int×T),(kW l).length=xV l
 |[]=>by simp[kW,xV,T.sizes]
 |a::l=>by
  have e5:kW (a::l)=qX a.1 a.2++kW l:=by simp[kW]
  have:=zep l;rw[e5,Jm,zbc,this];simp[xV,T.sizes]
theorem zlq(p:List Int):∀(k:Nat) (ts:List T) (i:Nat) (q:List Int×T),(idx p k ts)[i]?=some q->∃t,ts[i]?=some t/\q=(p++[((k+i:Nat):Int)],t)
 |_,[],i,q,h=>by simp[idx]at h
 |k,t::r,0,q,h=>by simp[idx]at h;exact⟨t,rfl,by rw[←h];simp⟩
 |k,t::r,i+1,q,h=>by obtain⟨u,h1,h2⟩:=zlq p (k+1) r i q (by simpa[idx]using h);exact⟨u,by simpa using h1,by rw[h2,show k+1+i=k+(i+1) by omega]⟩
theorem zjP(p:List Int)(t x:D)(y z u:Option Sl)(ks:List T)(hp:p.length<=999999):
  yG (qO (zQ (gN 0) (zQ (gN 1) qC))) qQ (cL zR (zB (c2 qJ (gb 2) (cL zR (zB (gv 0) zD))) (zB (gv 1) zD))) [none,none,some (.dat (.tup (p.map D.int)))] (vU 0 (ks.map T.d))=some ((idx p 0 ks).map pd):=by
 refine zaK (by simp[nM,zfT]) λi a b ha hb=>?_
 obtain⟨d0,h1,rfl⟩:=zbk 0 _ i a ha;rw[List.getElem?_map]at h1 hb;cases e1:(idx p 0 ks)[i]? with
 |none=>rw[e1]at hb;cases hb
 |some q=>
  rw[e1]at hb;obtain⟨t0,h2,rfl⟩:=zlq p 0 ks i q e1;rw[h2]at h1;cases h1
  cases hb
  have:p.length+1<=1000000:=by omega
  refine⟨[some (.dat (.int ((0+i:Nat):Int))),some (.dat t0.d),some (.dat (.tup (p.map D.int)))],?_,rfl,?_⟩
  ·simp[qG,jG,zG,zY,setO,yP,kB,xB,xQ,jT,zV,jR,vM,ifM,upT,cT,cTr,xF,kF,orP,yC,vY,orV,vR,c1,c2,cL,cS,zB,zD,cst,gv,gb,gN,qC,zQ,qO,jL,jK,jQ,qQ,cI,cR1,cR2,xT,jD,itS,xH,xW,kE,yZ,xK,yV,zR,qS,nxM,jF,tyN,xM,lim,kL,qH,yQ,xI,xX,kY,xL,jH,qA,jJ,vL,qJ,xS,yM,yD,jY,jP,yU,xA,geD,isB,xN,isNon,vZ,xO,kZ,kM,kS,yN,vN,yA,jS,yF,c3,yY,vV,xR,cSg,yJ,itS,Sl.inn,Sl.own,vS,eqB,neB,inB,yO,yX,vP,xZ,vQ,vO,yB,at0,at1,at2,at3]
  ·simp! [pd,this]
theorem zaZ(t:T)(hz:t.size<=900000):zac [t.d]=some (.lst ((qX [] t).map pd)):=by
 have W:=zcl (t:=upT (cTr (gb 2)))
  (b:=zbg zO)
  (λm ρ=>∃(fs ws:List (List Int×T)) (x3 x4 x5:Option Sl),ρ=[some (.dat t.d),some (.own (.lst (fs.map pd))),some (.own (.lst (ws.map pd))),x3,x4,x5]/\m=xV ws/\fs++kW ws.reverse=qX [] t)
  (λρ=>∃x2 x3 x4 x5,ρ=[some (.dat t.d),some (.own (.lst ((qX [] t).map pd))),x2,x3,x4,x5]) ?_ zO t.size
  [some (.dat t.d),some (.own (.lst [])),some (.own (.lst [pd ([],t)])),none,none,none] ⟨[],[([],t)],none,none,none,rfl,by simp[xV,T.sizes],by simp[kW]⟩ (by unfold zO;omega)
 ·obtain⟨ρ',e,x2,x3,x4,x5,rfl⟩:=W;have e0:pd ([],t)=.tup [.tup [],t.d]:=rfl;rw[e0]at e
  simp! [zac]at e ⊢
  rw[e];simp
 ·rintro m ρ ⟨fs,ws,x3,x4,x5,rfl,rfl,inv⟩;rcases List.eq_nil_or_concat ws with rfl|⟨ws',⟨p,t1⟩,rfl⟩
  ·refine .inl ⟨_,by simp[qG,jG,zG,zY,setO,yP,kB,xB,xQ,jT,zV,jR,vM,ifM,upT,cT,cTr,xF,kF,orP,yC,vY,orV,vR,c1,c2,cL,cS,zB,zD,cst,gv,gb,gN,qC,zQ,qO,jL,jK,jQ,qQ,cI,cR1,cR2,xT,jD,itS,xH,xW,kE,yZ,xK,yV,zR,qS,nxM,jF,tyN,xM,lim,kL,qH,yQ,xI,xX,kY,xL,jH,qA,jJ,vL,qJ,xS,yM,yD,jY,jP,yU,xA,geD,isB,xN,isNon,vZ,xO,kZ,kM,kS,yN,vN,yA,jS,yF,c3,yY,vV,xR,cSg,yJ,itS,Sl.inn,Sl.own,vS,eqB,neB,inB,yO,yX,vP,xZ,vQ,vO,yB,at0,at1,at2,at3];rfl,?_⟩;have e:fs=qX [] t:=by simpa[kW]using inv
   rw[e];exact⟨_,_,_,_,rfl⟩
  ·rw[List.concat_eq_append]at inv ⊢;have el:fs.length+xV (ws'++[(p,t1)])=t.size:=by rw[←zbc [] t,←inv,Jm,zep,zck]
   have ew:xV [(p,t1)]=t1.size:=by simp[xV,T.sizes]
   have ek:=zgH t1;rw[zbG,ew]at el;have hm:(p,t1)∈qX [] t:=by rw[←inv];refine Ji _ ?_;rw[List.reverse_append,zeq];refine Jq _ ?_;show(p,t1)∈kW [(p,t1)];unfold kW;rw[QF,List.flatMap_nil,JB,zdV];exact JK
   have pl:=zdT [] t _ hm;simp only[List.length_nil]at pl;have kl:=gZ t1.kids;have wl:ws'.length<=xV ws':=by rw[←zep];exact zjb _
   refine .inr ⟨_,[some (.dat t.d),some (.own (.lst ((fs++[(p,t1)]).map pd))),some (.own (.lst ((ws'++(idx p 0 t1.kids).reverse).map pd))),some (.dat (.tup (p.map D.int))),some (.dat t1.d),some (.dat (.lst ((idx p 0 t1.kids).map pd)))],xV (ws'++(idx p 0 t1.kids).reverse),by simp[qG,jG,zG,zY,setO,yP,kB,xB,xQ,jT,zV,jR,vM,ifM,upT,cT,cTr,xF,kF,orP,yC,vY,orV,vR,c1,c2,cL,cS,zB,zD,cst,gv,gb,gN,qC,zQ,qO,jL,jK,jQ,qQ,cI,cR1,cR2,xT,jD,itS,xH,xW,kE,yZ,xK,yV,zR,qS,nxM,jF,tyN,xM,lim,kL,qH,yQ,xI,xX,kY,xL,jH,qA,jJ,vL,qJ,xS,yM,yD,jY,jP,yU,xA,geD,isB,xN,isNon,vZ,xO,kZ,kM,kS,yN,vN,yA,jS,yF,c3,yY,vV,xR,cSg,yJ,itS,Sl.inn,Sl.own,vS,eqB,neB,inB,yO,yX,vP,xZ,vQ,vO,yB,at0,at1,at2,at3];rfl,.inl ?_,?_,fs++[(p,t1)],ws'++(idx p 0 t1.kids).reverse,_,_,_,rfl,rfl,?_⟩
   ·have c:=zjP p t.d t.d none none none t1.kids (by omega);have h1:fs.length<1000000:=by omega
    have h2:t1.kids.length<=1000000:=by omega
    have h3:ws'.length+t1.kids.length<=1000000:=by omega
    simp! [pd,zbA,nM,zfT,h1,h2,h3]at c ⊢
    rw[c]
    simp! [pd,zbA,nM,zfT,h1,h2,h3]
   ·rw[zbG,zbG,zck,zkd,ew];omega
   ·rw[←inv];simp only[List.reverse_append,List.reverse_reverse,zeq,List.append_assoc,List.reverse_cons,List.reverse_nil,List.nil_append];rw[zjc];have e5:kW [(p,t1)]=(p,t1)::kN p 0 t1.kids:=by unfold kW;rw[QF,List.flatMap_nil,JB,zdV]
    rw[e5];simp
def cellOf(ns:List Int)(k:Int):Int:=ns.getD k.toNat 0
theorem zjp{α:Type}{l:List α}{k:Int}(h0:0<=k)(h1:k<(l.length:Int)):atI l k=l[k.toNat]?:=by unfold atI ixN;rw[if_pos h0,if_pos h1];rfl
theorem zlJ(ns:List Int)(k:Int)(h0:0<=k):zag [.scr ns,.int k]=some (.int (cellOf ns k)):=by
 by_cases h:k<(ns.length:Int)
 ·have e:ns[k.toNat]?=some (cellOf ns k):=by unfold cellOf;rw[List.getD_eq_getElem?_getD,List.getElem?_eq_getElem (by omega)];rfl
  simp! [zag,h,zjp h0 h,e]
 ·have e:cellOf ns k=0:=by unfold cellOf;rw[List.getD_eq_getElem?_getD,List.getElem?_eq_none (by omega)];rfl
  simp! [zag,h,e]
theorem zrh{z:Str}(h:z.cps.toList.length=26)(n:Int):∃c,atI z.cps.toList (n%26)=some c:=by have h0:0<=n%26:=JI _ (by decide);have h1:n%26<26:=JT _ (by decide);refine⟨z.cps.toList[(n%26).toNat]'(by omega),?_⟩;rw[zjp h0 (by rw[h];exact_mod_cast h1),List.getElem?_eq_getElem (by omega)]
theorem len1(c:Nat):(⟨#[c]⟩:Str).length=1:=rfl
theorem zod(a b:Str):(a++b).length=a.length+b.length:=by simp[Str.length,PySem.Str.cps_append]
theorem alen:(Str.ofString "abcdefghijklmnopqrstuvwxyz").cps.toList.length=26:=by decide+kernel
theorem zsT:(Str.ofString "abcdefghijklmnopqrstuvwxyz").length=26:=by decide+kernel
theorem zsV:(Str.ofString "ABCDEFGHIJKLMNOPQRSTUVWXYZ").length=26:=by decide+kernel
theorem elen:(Str.ofString "").length=0:=by decide+kernel
def sd(p:Str×Int):D:=.tup [.str p.1,.int p.2]
theorem zbC{α β:Type}(f:α->β)(l:List α)(i:Int):atI (l.map f) i=(atI l i).map f:=by unfold atI;rw[Ja];cases ixN l.length i<;>simp
theorem zgk{α:Type}(h:α->D)(P:Nat->α->Prop){g:D->EO En}{f:EO D}{ρ:En}:∀{xs:List D}(k:Nat),(∀(i:Nat) x,xs[i]?=some x->∃ρ1 y,g x ρ=some ρ1/\f ρ1=some (h y)/\P (k+i) y)->∃ys:List α,yG g qQ f ρ xs=some (ys.map h)/\ys.length=xs.length/\∀(i:Nat) y,ys[i]?=some y->P (k+i) y
 |[],_,_=>⟨[],rfl,rfl,λ_ _ h=>by simp at h⟩
 |x::xs,k,q=>by
  obtain⟨ρ1,y,e1,e2,e3⟩:=q 0 x rfl;obtain⟨ys,h1,h2,h3⟩:=zgk h P (g:=g) (f:=f) (ρ:=ρ) (xs:=xs) (k+1) λi z hz=>by have:=q (i+1) z (by simpa using hz);rw[show k+1+i=k+(i+1) by omega];exact this
  refine⟨y::ys,by simp[yG,e1,e2,h1,qQ],by simp[h2],λi z hz=>?_⟩;cases i with
  |zero=>simp at hz;subst hz;exact e3
  |succ i=>
   have:=h3 i z (by simpa using hz);rw[show k+(i+1)=k+1+i by omega];exact this
structure zeI(ps:SI):Prop where
 lo:2<=ps.length
 hi:ps.length<=5
 cnt:∀p∈ps,0<=p.2/\p.2<=3
 fst:∀p,ps[0]?=some p->p.2=0
 wd:∀p∈ps,p.1.length<=16
theorem zny{α:Type}(us:List α)(i:Int):kH us (some i) none=us.drop (HT.sIx us.length 0 (some i)):=by unfold kH;show List.take (us.length - _) _=_;exact JM (by rw[Qv];exact Jd _)
theorem zrM{α:Type}(us:List α)(k:Nat)(hk:k<=us.length):kH us none (some (k:Int))=us.take k:=by unfold kH;rw[HT.sIx_nat,HT.sIx_none,QR,Nat.sub_zero,Nat.min_eq_left hk]
def szs(ts:List T):List Int:=ts.map λt=>(t.size:Int)
theorem zhI:∀ts:List T,(szs ts).sum=(T.sizes ts:Int)
 |[]=>rfl
 |t::r=>by have:=zhI r;unfold szs at this ⊢;rw[Jg,Wk,this,T.sizes];omega
theorem zqf(ts:List T)(h:T.sizes ts<=1000000):zqZ (szs ts):=by
 refine⟨λn hn=>?_,?_⟩
 ·unfold szs at hn;obtain⟨t,_,rfl⟩:=Jk.mp hn;omega
 ·rw[zhI];show(T.sizes ts:Int)<4611686018427387904;omega
theorem zlI:∀(n:Nat) (t:T),t.depth<=n->t.size<=1000000->zax n [t.d]=some (.int t.size)
 |0,t,h,_=>by have:=gB t;omega
 |n+1,.bl x,h,_=>by simp! [zax,qW,T.size]
 |n+1,.nd s ts,h,hz=>by
  rw[T.depth]at h;rw[T.size]at hz;have kl:=gZ ts;have hl:ts.length<=1000000:=by omega
  have w1:yG (gN 0) qQ (zdr (zax n) zO) [none] (ts.map T.d)=some ((szs ts).map D.int):=by
   refine zaK (by simp[szs]) λi x y hx hy=>?_
   unfold szs at hy;rw[List.getElem?_map]at hx;rw[Jn,List.getElem?_map]at hy;cases e:ts[i]? with
   |none=>rw[e]at hx;cases hx
   |some t=>
    rw[e]at hx hy;cases hx;cases hy
    have hm:=List.mem_of_getElem? e;have d1:=vW hm;have d2:=nV hm;exact⟨_,rfl,rfl,by simp! [zlI n t (by omega) (by omega)]⟩
  have io:=zfi (szs ts);have ok:=zqf ts (by omega)
  simp! [zax,qZ,gU,w1,hl,io,ok,sumD,zhI,T.size]
inductive WT(ps:SI)(bs:List Str):T->Prop
 |bl {x:Str}(h:x∈bs):WT ps bs (.bl x)
 |nd {s:Str}{ts:List T} (h:(s,(ts.length:Int))∈ps) (hs:∀t∈ts,WT ps bs t):WT ps bs (.nd s ts)
mutual
def plc:T->List (List Int)
 | .bl _=>[[]]
 | .nd _ ts=>[]::plcL 0 ts
def plcL(k:Nat):List T->List (List Int)
 |[]=>[]
 |t::r=>(plc t).map ((k:Int)::·)++plcL (k+1) r
end
mutual
theorem zkF:∀t:T,(plc t).length=t.size
 | .bl x=>by simp[plc,T.size]
 | .nd s ts=>by simp[plc,T.size,ziM 0 ts];omega
theorem ziM:∀(k:Nat) (ts:List T),(plcL k ts).length=T.sizes ts
 |_,[]=>by simp[plcL,T.sizes]
 |k,t::r=>by simp[plcL,T.sizes,zkF t,ziM (k+1) r]
end
def pD(p:List Int):D:=.tup (p.map D.int)
theorem gH{t u:T}{k:Int}{p:List Int}(h:qF t (k::p)=some u):∃s ts c,t=.nd s ts/\0<=k/\ts[k.toNat]?=some c/\qF c p=some u:=by
 cases t with
 |bl x=>simp[qF]at h
 |nd s ts=>
  simp only[qF]at h;split at h
  ·rename_i h0;cases e:ts[k.toNat]? with
   |none=>rw[e]at h;cases h
   |some c=>rw[e]at h;exact⟨s,ts,c,rfl,h0,e,h⟩
  ·cases h
theorem zdY{s:Str}{ts:List T}{c:T}{k:Int}{p:List Int}(h0:0<=k)(e:ts[k.toNat]?=some c):qF (.nd s ts) (k::p)=qF c p:=by simp only[qF,if_pos h0,e]
def jO:T->List Int->List T
 |t,[]=>[t]
 | .bl x,_::_=>[.bl x]
 | .nd s ts,k::p=>.nd s ts::(match ts[k.toNat]? with|some c=>jO c p|none=>[])
theorem zhF{s:Str}{ts:List T}{c:T}{k:Int}{p:List Int}(e:ts[k.toNat]?=some c):jO (.nd s ts) (k::p)=.nd s ts::jO c p:=by simp only[jO,e]
theorem zcm:∀(p:List Int) (t u:T),qF t p=some u->(jO t p).length=p.length+1
 |[],t,u,h=>by cases t<;>simp[jO]
 |k::p,t,u,h=>by obtain⟨s,ts,c,rfl,h0,e,h2⟩:=gH h;rw[zhF e,Jl,zcm p c u h2,Jl]
theorem zcn:∀(p:List Int) (t u:T),qF t p=some u->∀i,i<=p.length->(jO t p)[i]?=qF t (p.take i)
 |[],t,u,h,i,hi=>by
  have:i=0:=by simpa using hi
  subst this;cases t<;>simp[jO,qF]
 |k::p,t,u,h,0,hi=>by obtain⟨s,ts,c,rfl,h0,e,h2⟩:=gH h;rw[zhF e];simp[qF]
 |k::p,t,u,h,i+1,hi=>by obtain⟨s,ts,c,rfl,h0,e,h2⟩:=gH h;rw[zhF e,QH,zdY h0 e];simpa using zcn p c u h2 i (by simpa using hi)
theorem zsM(t u:T)(p:List Int)(h:qF t p=some u)(hp:p.length<=1000):zdA [t.d,pD p]=some (.lst ((jO t p).map T.d)):=by
 obtain⟨ρ',e1,k,j,rfl,_,_⟩:=yS (g:=gN 3) (b:=zek zO) (xs:=p.map D.int) (ρ:=[some (.dat t.d),some (.dat (.tup (p.map D.int))),some (.own (.lst [t.d])),none,none])
  (λi ρ=>∃(k j:Option Sl),ρ=[some (.dat t.d),some (.dat (.tup (p.map D.int))),some (.own (.lst (((jO t p).take (i+1)).map T.d))),k,j]/\(k=none\/∃d,k=some (.dat d))/\(j=none\/∃d,j=some (.dat d))) ⟨none,none,by cases p<;>cases t<;>simp[jO],.inl rfl,.inl rfl⟩ (by
   rintro i x ρ hx ⟨k,j,rfl,hk,hj⟩;rw[List.getElem?_map]at hx;cases e:p[i]? with
   |none=>rw[e]at hx;cases hx
   |some a=>
    rw[e]at hx;cases hx
    have hi:i<p.length:=(List.getElem?_eq_some_iff.mp e).1;have ea:p[i]=a:=by rw[List.getElem?_eq_getElem hi]at e;exact Option.some.inj e
    have hl:=zcm p t u h;have w1:=zcn p t u h i (by omega);have w2:=zcn p t u h (i+1) (by omega);have i1:i<(jO t p).length:=by omega
    have i2:i+1<(jO t p).length:=by omega
    rw[List.getElem?_eq_getElem i1]at w1;rw[List.getElem?_eq_getElem i2]at w2;have sp:p=p.take i++(a::p.drop (i+1)):=by rw[←ea,←Jx hi,Wh]
    have h2:=h;rw[sp,zav _ _ _ _ w1.symm]at h2;obtain⟨s,ts,c',ew,h0,e2,hc2⟩:=gH h2;have tk:p.take (i+1)=p.take i++[a]:=by rw[Jp hi,ea]
    have w3:(jO t p)[i+1]=c':=by
     rw[tk,zav _ _ _ _ w1.symm,ew,zdY h0 e2]at w2
     have:qF c' []=some c':=by cases c'<;>rfl
     rw[this]at w2;exact Option.some.inj w2
    have t1:(jO t p).take (i+1)=(jO t p).take i++[T.nd s ts]:=by rw[Jp i1,ew]
    have t2:(jO t p).take (i+1+1)=((jO t p).take i++[T.nd s ts])++[c']:=by rw[Jp i2,w3,t1]
    refine⟨[some (.dat t.d),some (.dat (.tup (p.map D.int))),some (.own (.lst (((jO t p).take (i+1+1)).map T.d))),some (.dat (.int a)),some (.dat (.tup (ts.map T.d)))],.inl ?_,_,_,rfl,.inr ⟨_,rfl⟩,.inr ⟨_,rfl⟩⟩;rw[t1,t2];have tl:((jO t p).take i).length<=1000:=by rw[Jw];omega
    generalize (jO t p).take i=A at tl ⊢;have al:atI (A.map T.d++[(T.nd s ts).d]) (-1)=some (T.nd s ts).d:=znF _ _;have ei:=zbA (T.nd s ts);have hal:a.toNat<ts.length:=(List.getElem?_eq_some_iff.mp e2).1;have g1:¬a<0:=by omega
    have g2:¬(ts.length:Int)<=a:=by omega
    have g3:atI (ts.map T.d) a=some c'.d:=by
     have e3:a=((a.toNat:Nat):Int):=by omega
     rw[e3];exact vA (by simp[e2])
    have z1:A.length+1<1000000:=by omega
    have hkids:(T.nd s ts).kids=ts:=rfl;rw[hkids]at ei;rcases hk with rfl|⟨dk,rfl⟩<;>rcases hj with rfl|⟨dj,rfl⟩<;>simp! [al,ei,g1,g2,g3,z1])
 rw[Ja,JM (by rw[zcm p t u h];exact Jd _)]at e1
 simp! [zdA,pD,e1]
def qE:T->List Int->T->T
 |_,[],n=>n
 | .bl x,_::_,_=>.bl x
 | .nd s ts,k::p,n=>match ts[k.toNat]? with
  |some c=>.nd s (ts.set k.toNat (qE c p n))
  |none=>.nd s ts
theorem zbr(t n:T):qE t [] n=n:=by cases t<;>rfl
theorem zdQ{s:Str}{ts:List T}{c n:T}{k:Int}{p:List Int}(e:ts[k.toNat]?=some c):qE (.nd s ts) (k::p) n=.nd s (ts.set k.toNat (qE c p n)):=by simp only[qE,e]
mutual
theorem zcg:∀(p:List Int) (t u:T),qF t p=some u->u.size<=t.size
 |[],t,u,h=>by
  have:some t=some u:=by cases t<;>simpa[qF]using h
  rw[Option.some.inj this];exact Jd _
 |k::p,t,u,h=>by
  obtain⟨s,ts,c,rfl,h0,e,h2⟩:=gH h
  have:=zcg p c u h2
  have:=nV (List.mem_of_getElem? e);rw[T.size];omega
end
theorem zgG:∀(ts:List T) (i:Nat) (c x:T),ts[i]?=some c->T.sizes (ts.set i x)+c.size=T.sizes ts+x.size
 |[],i,c,x,h=>by simp at h
 |t::r,0,c,x,h=>by simp at h;subst h;simp only[List.set_cons_zero,T.sizes];omega
 |t::r,i+1,c,x,h=>by have:=zgG r i c x (by simpa using h);simp only[List.set_cons_succ,T.sizes];omega
theorem zfo:∀(ts:List T) (i:Nat) (x:T),T.depths (ts.set i x)<=max (T.depths ts) x.depth
 |[],i,x=>by simp[T.depths]
 |t::r,0,x=>by simp only[List.set_cons_zero,T.depths];omega
 |t::r,i+1,x=>by have:=zfo r i x;simp only[List.set_cons_succ,T.depths];omega
theorem zdP:∀(p:List Int) (t n:T),(qE t p n).size<=t.size+n.size
 |[],t,n=>by rw[zbr];omega
 |k::p,.bl x,n=>by simp[qE,T.size]
 |k::p,.nd s ts,n=>by
  simp only[qE];cases e:ts[k.toNat]? with
  |none=>simp
  |some c=>
   have h1:=zdP p c n;have h2:=zgG ts k.toNat c (qE c p n) e;simp only[T.size];omega
theorem zbZ:∀(p:List Int) (t n:T),(qE t p n).depth<=t.depth+n.depth
 |[],t,n=>by rw[zbr];omega
 |k::p,.bl x,n=>by simp[qE,T.depth]
 |k::p,.nd s ts,n=>by
  simp only[qE];cases e:ts[k.toNat]? with
  |none=>simp
  |some c=>
   have h1:=zbZ p c n;have h2:=zfo ts k.toNat (qE c p n);have h3:=vW (List.mem_of_getElem? e);simp only[T.depth];omega
theorem zbt:∀(p:List Int) (t u:T),qF t p=some u->p.length<=t.depth
 |[],t,u,h=>by simp
 |k::p,t,u,h=>by obtain⟨s,ts,c,rfl,h0,e,h2⟩:=gH h;have h1:=zbt p c u h2;have h3:=vW (List.mem_of_getElem? e);rw[T.depth,Jl];omega
theorem zkt{α:Type}(l:List α)(i:Nat)(x:α)(h:i<l.length):l.take i++x::l.drop (i+1)=l.set i x:=by rw[List.set_eq_take_append_cons_drop,if_pos h]
theorem zoj{α:Type}(l:List α)(i:Int)(h0:0<=i)(h:i.toNat<=l.length):kH l none (some i)=l.take i.toNat:=by
 have:i=((i.toNat:Nat):Int):=by omega
 rw[this,zrM l _ (by omega),QN]
theorem zok{α:Type}(l:List α)(i:Int)(h0:0<=i)(h:i.toNat<=l.length):kH l (some i) none=l.drop i.toNat:=by
 have e:i=((i.toNat:Nat):Int):=by omega
 rw[zny,e,HT.sIx_nat,QN,Nat.min_eq_left h]
theorem zrd{s:Str}{ts:List T}{k:Nat}(hk:k<ts.length)(x:T):(D.str s::ts.map T.d).take (k+1)++x.d::(D.str s::ts.map T.d).drop (k+2)=D.str s::(ts.set k x).map T.d:=by rw[QH,Ql,List.drop_succ_cons,zkt _ k _ (by simpa using hk),List.map_set]
theorem zhV{t u:T}{p:List Int}(h:qF t p=some u)(i:Nat):∃c,qF t (p.take i)=some c:=by
 by_cases hi:i<=p.length
 ·have w:=zcn p t u h i hi;rw[←w,List.getElem?_eq_getElem (by rw[zcm p t u h];omega)];exact⟨_,rfl⟩
 ·rw[JM (by omega)];exact⟨u,h⟩
theorem zlD(t u n:T)(p:List Int)(h:qF t p=some u)(hp:p.length<=1000)(hz:t.size<=450000):zcv [t.d,pD p,n.d]=some (qE t p n).d:=by
 have e1:=zsM t u p h hp;have hl:=zcm p t u h;have cutW:kH ((jO t p).map T.d) none (some (-1))=((jO t p).take p.length).map T.d:=by
  have:HT.sIx ((jO t p).map T.d).length ((jO t p).map T.d).length (some (-1))=p.length:=by rw[Ja,hl];simp[HT.sIx];omega
  unfold kH;rw[this,HT.sIx_none,QR,Nat.sub_zero,List.map_take]
 have zl:(vD (((jO t p).take p.length).map T.d) (p.map D.int)).length=p.length:=by simp[vD];omega
 have zg:∀i,(hi:i<p.length)->∀w,qF t (p.take i)=some w->(vD (((jO t p).take p.length).map T.d) (p.map D.int))[i]?=some (.tup [w.d,.int p[i]]):=λi hi w hw=>by
  have w1:=zcn p t u h i (by omega);rw[hw]at w1;have i1:i<(jO t p).length:=by omega
  rw[List.getElem?_eq_getElem i1]at w1;rw[List.getElem?_eq_getElem (by rw[zl];exact hi)];simp[vD,Option.some.inj w1]
 obtain⟨ρ',f1,c,a,b,rfl,h1,h2⟩:=yS (g:=qO (zQ (gN 5) (zQ (gN 6) qC))) (b:=zem zO) (xs:=(vD (((jO t p).take p.length).map T.d) (p.map D.int)).reverse) (ρ:=[some (.dat t.d),some (.dat (pD p)),some (.dat n.d),some (.dat (.lst (((jO t p).take p.length).map T.d))),some (.dat n.d),none,none])
  (λi ρ=>∃(c:T) (a b:Option Sl),ρ=[some (.dat t.d),some (.dat (pD p)),some (.dat n.d),some (.dat (.lst (((jO t p).take p.length).map T.d))),some (.dat (qE c (p.drop (p.length - i)) n).d),a,b]/\qF t (p.take (p.length - i))=some c/\i<=p.length) ⟨u,none,none,by simp[zbr],by simpa using h,JD _⟩ (by
   rintro i x ρ hx ⟨c,a,b,rfl,hc,hi⟩;have hi2:i<p.length:=by have:=(List.getElem?_eq_some_iff.mp hx).1;rwa[Qh,zl]at this
   obtain⟨w,hw⟩:=zhV h (p.length - 1 - i);rw[List.getElem?_reverse (by rw[zl];exact hi2),zl]at hx;have hj:p.length - 1 - i<p.length:=by omega
   rw[zg _ hj w hw]at hx;cases hx
   have ej:p.length - i=p.length - 1 - i+1:=by omega
   rw[ej,Jp hj,zav _ _ _ _ hw]at hc;generalize hk:p[p.length - 1 - i]=k at hc;obtain⟨s,ts,c',rfl,h0,e,h3⟩:=gH hc;have h3:some c'=some c:=by cases c'<;>simpa[qF]using h3
   cases h3
   have hlt:k.toNat<ts.length:=(List.getElem?_eq_some_iff.mp e).1;have sz:=zcg _ _ _ hw;rw[T.size]at sz;have tl:=gZ ts;have dr:p.drop (p.length - (i+1))=k::p.drop (p.length - i):=by rw[show p.length - (i+1)=p.length - 1 - i by omega,Jx hj,hk,←ej]
   refine⟨[some (.dat t.d),some (.dat (pD p)),some (.dat n.d),some (.dat (.lst (((jO t p).take p.length).map T.d))),some (.dat (qE (.nd s ts) (p.drop (p.length - (i+1))) n).d),some (.dat (T.nd s ts).d),some (.dat (.int k))],.inl ?_,T.nd s ts,_,_,rfl,?_,by omega⟩
   ·rw[dr,zdQ e];rw[ej];generalize qE c (p.drop (p.length - 1 - i+1)) n=y;rw[qZ,qZ];have k1:(k+1).toNat=k.toNat+1:=by omega
    have k2:(k+2).toNat=k.toNat+2:=by omega
    have c1':kH (D.str s::ts.map T.d) none (some (k+1))=(D.str s::ts.map T.d).take (k.toNat+1):=by rw[zoj _ _ (by omega) (by simp;omega),k1]
    have c2':kH (D.str s::ts.map T.d) (some (k+2)) none=(D.str s::ts.map T.d).drop (k.toNat+2):=by rw[zok _ _ (by omega) (by simp;omega),k2]
    have md:=zrd (s:=s) hlt y;rw[←md];have l1:((D.str s::ts.map T.d).take (k.toNat+1)).length<=450001:=by rw[Jw];simp;omega
    have l2:((D.str s::ts.map T.d).drop (k.toNat+2)).length<=450001:=by rw[Qv];simp;omega
    generalize (D.str s::ts.map T.d)=L at c1' c2' l1 l2 ⊢;generalize L.take (k.toNat+1)=AA at c1' l1 ⊢;generalize L.drop (k.toNat+2)=BB at c2' l2 ⊢;have z1:AA.length+1<=1000000:=by omega
    have z2:AA.length+1+BB.length<=1000000:=by omega
    simp! [c1',c2',z1,z2]
   ·rw[show p.length - (i+1)=p.length - 1 - i by omega];exact hw)
 rw[Qh,zl,Nat.sub_self,QR]at f1;rw[Qh,zl,Nat.sub_self,List.take_zero]at h1;have h1:some t=some c:=by cases t<;>simpa[qF]using h1
 cases h1
 generalize hW:((jO t p).take p.length).map T.d=W at cutW f1;unfold pD at e1 f1 ⊢
 simp! [zcv,e1,cutW,cRv,zipD,f1]
mutual
theorem zpu:∀t:T,eqD t.d t.d=some true
 | .bl x=>by simp[qW,eqD]
 | .nd s ts=>by simp[qZ,eqD,eqL,zly ts]
theorem zly:∀ts:List T,eqL (ts.map T.d) (ts.map T.d)=some true
 |[]=>by simp[eqL]
 |t::ts=>by simp[eqL,zpu t,zly ts]
end
theorem zga:∀p q:List Int,eqL (p.map D.int) (q.map D.int)=some (decide (p=q))
 |[],[]=>by simp[eqL]
 |[],_::_=>by simp[eqL]
 |_::_,[]=>by simp[eqL]
 |a::p,b::q=>by
  simp only[List.map_cons,eqL,eqD,zga p q];by_cases h:a=b
  ·subst h;simp
  ·simp[h]
theorem zdD(p:List Int):qU (p.map D.int)<=1:=by
 induction p with
 |nil=>simp[qU]
 |cons x l ih=>simp only[List.map_cons,qU,dep];omega
theorem zsx(p q:List Int):neB (pD p) (pD q)=some (.bl (!decide (p=q))):=by
 have e:=zga p q;have d:=zdD p;have d':qU (p.map D.int)+1<=100:=by omega
 simp[neB,pD,eqD,e,dep,d']
abbrev Fil:=List (Str×T)
def fks(φ:Fil):List KD:=φ.map λp=>KD.str p.1
def fds(φ:Fil):List D:=φ.map λp=>p.2.d
def zJ(φ:Fil):D:=.dic (fks φ) (fds φ)
noncomputable def zH(φ:Fil)(x:Str):Option T:=(φ.find? λp=>decide (p.1=x)).map (·.2)
theorem gM(φ:Fil):kOk (fks φ)=true:=by unfold kOk fks;rw[List.all_map];exact JP.mpr λp _=>rfl
theorem zcG(x:Str):∀φ:Fil,xE (fks φ) (fds φ) (.str x)=(zH φ x).map T.d
 |[]=>by simp[xE,fks,zH]
 |(y,t)::φ=>by
  have ih:=zcG x φ;by_cases h:y=x
  ·subst h;simp[xE,fks,fds,zH]
  ·have h':¬KD.str y=KD.str x:=λz=>h (by cases z;rfl)
   simp only[xE,fks,fds,zH,List.map_cons,List.zip_cons_cons,List.find?_cons,h,h',decide_false]at ih ⊢;exact ih
mutual
def zA(φ:Fil):T->T
 | .bl x=>(zH φ x).getD (.bl x)
 | .nd s ts=>.nd s (zM φ ts)
def zM(φ:Fil):List T->List T
 |[]=>[]
 |t::r=>zA φ t::zM φ r
end
theorem qT(φ:Fil):∀ts:List T,zM φ ts=ts.map (zA φ)
 |[]=>by simp[zM]
 |t::r=>by simp[zM,qT φ r]
theorem zaC{φ:Fil}{x:Str}{t:T}(h:zH φ x=some t):∃p∈φ,p.1=x/\p.2=t:=by
 unfold zH at h;cases e:φ.find? λp=>decide (p.1=x)with
 |none=>rw[e]at h;cases h
 |some p=>
  rw[e]at h;cases h
  exact⟨p,List.mem_of_find?_eq_some e,by simpa using List.find?_some e,rfl⟩
mutual
theorem zcX{φ:Fil}{m:Nat}(hm:∀p∈φ,p.2.depth<=m):∀t:T,(zA φ t).depth<=t.depth+m
 | .bl x=>by
  rw[zA];cases e:zH φ x with
  |none=>simp[T.depth]
  |some t=>
   obtain⟨p,hp,_,rfl⟩:=zaC e
   have:=hm p hp
   simp;omega
 | .nd s ts=>by have:=zeu hm ts;rw[zA];simp only[T.depth];omega
theorem zeu{φ:Fil}{m:Nat}(hm:∀p∈φ,p.2.depth<=m):∀ts:List T,T.depths (zM φ ts)<=T.depths ts+m
 |[]=>by simp[zM,T.depths]
 |t::r=>by have h1:=zcX hm t;have h2:=zeu hm r;rw[zM];simp only[T.depths];omega
end
theorem wJ:∀t:T,zA [] t=t:=by
 intro t
 have:∀n (t:T),t.depth<=n->zA [] t=t:=by
  intro n;induction n with
  |zero=>intro t h;have:=gB t;omega
  |succ n ih=>
   intro t h;cases t with
   |bl x=>simp[zA,zH]
   |nd s ts=>
    rw[T.depth]at h;rw[zA,qT]
    congr 1
    have:∀x∈ts,zA [] x=x:=λx hx=>ih x (by have:=vW hx;omega)
    rw[JQ this,List.map_id']
 exact this _ t (Jd _)
def putF(φ:Fil)(x:Str)(t:T):Fil:=if(φ.any λp=>decide (p.1=x))=true then φ.map (λp=>if p.1=x then(p.1,t)else p)else φ++[(x,t)]
theorem znO(φ:Fil)(x:Str)(t:T):xY (fks φ) (fds φ) (.str x) t.d=(fks (putF φ x t),fds (putF φ x t)):=by
 have ha:((fks φ).any λy=>decide (y=KD.str x))=(φ.any λp=>decide (p.1=x)):=by
  unfold fks;rw[List.any_map]
  congr 1
  funext p
  simp
 unfold xY putF;rw[ha];split
 ·have h1:fks (φ.map λp=>if p.1=x then(p.1,t)else p)=fks φ:=by
   unfold fks;rw[Jn];apply JQ;intro p _;simp only[Function.comp]
   split<;>rfl
  have h2:((fks φ).zip (fds φ)).map (λp=>if p.1=KD.str x then t.d else p.2)=fds (φ.map λp=>if p.1=x then(p.1,t)else p):=by
   unfold fks fds;rw[List.zip_map',Jn,Jn];apply JQ;intro p _;simp only[Function.comp,KD.str.injEq]
   split<;>rfl
  rw[h1,h2]
 ·simp[fks,fds]
theorem wD{φ:Fil}(h:(φ.map (·.1)).Nodup):∀p∈φ,zH φ p.1=some p.2:=by
 induction φ with
 |nil=>intro p hp;cases hp
 |cons q φ ih=>
  intro p hp;rw[Jg,QU]at h;rcases JC.mp hp with rfl|hp
  ·simp[zH]
  ·have hne:¬q.1=p.1:=λz=>h.1 (by rw[z];exact Jk.mpr ⟨p,hp,rfl⟩)
   have:=ih h.2 p hp;unfold zH at this ⊢;rw[List.find?_cons];simp only[hne,decide_false];exact this
theorem zch:∀(l b:List Str),l.Nodup->(∀x∈l,x∈b)->l.length<=b.length
 |[],b,_,_=>JD _
 |x::l,b,h,hs=>by
  rw[QU]at h;have hx:=hs x (by simp)
  have:=zch l (b.erase x) h.2 λy hy=>(List.mem_erase_of_ne λz=>h.1 (by rw[←z];exact hy)).mpr (hs y (Je _ hy))
  rw[List.length_erase_of_mem hx]at this
  have:=List.length_pos_of_mem hx;rw[Jl];omega
theorem zcW(x:Str):∀bs:List Str,inL (.str x) (bs.map D.str)=some (decide (x∈bs))
 |[]=>by simp[inL]
 |b::bs=>by
  simp only[List.map_cons,inL,eqD,zcW x bs];by_cases h:b=x
  ·subst h;simp
  ·have h2:(b==x)=false:=by simpa using h
   have h3:¬x=b:=λz=>h z.symm
   simp[h2,h3]
theorem zcL(l:List Str):qU (l.map D.str)<=1:=by
 induction l with
 |nil=>simp[qU]
 |cons x l ih=>simp only[List.map_cons,qU,dep];omega
noncomputable def nb(s:Option Sl):Bool:=match s with
 |some (.bor _)=>false
 |_=>true
theorem nH(s:Option Sl)(ρ:En):yP (s::ρ)=(nb s&&yP ρ):=rfl
theorem nG:yP []=true:=rfl
theorem nZ(d:D):nb (some (.dat d))=true:=rfl
theorem nY(q:Bool)(d:D):nb (some (.ow q d))=true:=rfl
theorem zhY:nb none=true:=rfl
open Classical in
mutual
theorem eqT:∀t u:T,eqD t.d u.d=some (decide (t=u))
 | .bl x,.bl y=>by
  simp only[qW,eqD];by_cases h:x=y
  ·subst h;simp
  ·have h2:(x==y)=false:=by simpa using h
   simp[h,h2]
 | .bl x,.nd s ts=>by simp[qW,qZ,eqD]
 | .nd s ts,.bl x=>by simp[qW,qZ,eqD]
 | .nd s ts,.nd r us=>by
  simp only[qZ,eqD,eqL,eqTs ts us];by_cases h:s=r
  ·subst h;simp
  ·have h2:(s==r)=false:=by simpa using h
   simp[h,h2]
theorem eqTs:∀ts us:List T,eqL (ts.map T.d) (us.map T.d)=some (decide (ts=us))
 |[],[]=>by simp[eqL]
 |[],_::_=>by simp[eqL]
 |_::_,[]=>by simp[eqL]
 |t::ts,u::us=>by simp only[List.map_cons,eqL,eqT t u,eqTs ts us];simp[Bool.decide_and]
end
noncomputable def nX:T->T->Option (List (T×T))
 | .nd s ts,.nd r us=>if s=r/\ts.length=us.length then some (ts.zip us)else none
 |_,_=>none
def ptD(p:T×T):D:=.tup [p.1.d,p.2.d]
noncomputable def zgW(o:Option (List (T×T))):D:=match o with
 |some l=>.lst (l.map ptD)
 |none=>.non
theorem zgV(ts us:List T):vD (ts.map T.d) (us.map T.d)=(ts.zip us).map ptD:=by
 unfold vD;induction ts generalizing us with
 |nil=>simp
 |cons t ts ih=>
  cases us with
  |nil=>simp
  |cons u us=>simp[ptD,ih us]
theorem zob(x y:Str):neB (.str x) (.str y)=some (.bl (!decide (x=y))):=by
 by_cases h:x=y
 ·subst h;simp[neB,eqD,dep]
 ·have h2:(x==y)=false:=by simpa using h
  simp[neB,eqD,dep,h,h2]
theorem zha(x y:Int):neB (.int x) (.int y)=some (.bl (!decide (x=y))):=by
 by_cases h:x=y
 ·subst h;simp[neB,eqD,dep]
 ·have h2:(x==y)=false:=by simpa using h
  simp[neB,eqD,dep,h,h2]
theorem zmA{φ:Fil}{x:Str}(u:T)(h:zH φ x=none):putF φ x u=φ++[(x,u)]:=by
 unfold putF;rw[if_neg];intro z;obtain⟨p,hp,hq⟩:=List.any_eq_true.mp z;unfold zH at h;cases e:φ.find? λp=>decide (p.1=x)with
 |some q=>rw[e]at h;cases h
 |none=>exact absurd hq (List.find?_eq_none.mp e p hp)
noncomputable def fitR(o:Option Fil):D:=match o with
 |some φ=>zJ φ
 |none=>.non
theorem eq_T(t u:T)(h:t.depth<=90):eqB t.d u.d=some (.bl (@decide (t=u) (Classical.propDecidable _))):=by
 have e:=eqT t u;have d:=zlL t;have d':dep t.d<=100:=by omega
 simp[eqB,e,d']
mutual
def bks:T->List Str
 | .bl x=>[x]
 | .nd _ ts=>kA [] ts
def kA(acc:List Str):List T->List Str
 |[]=>acc
 |t::ts=>kA (acc++(bks t).filter λx=>!decide (x∈acc)) ts
end
mutual
theorem zis:∀t:T,(bks t).length<=t.size
 | .bl x=>by simp[bks,T.size]
 | .nd s ts=>by have:=zgu ts [];simp[bks,T.size]at this ⊢;omega
theorem zgu:∀(ts:List T) (l:List Str),(kA l ts).length<=l.length+T.sizes ts
 |[],l=>by simp[kA]
 |t::ts,l=>by have h1:=zgu ts (l++(bks t).filter λx=>!decide (x∈l));have h2:=zis t;have h3:=List.length_filter_le (λx=>!decide (x∈l)) (bks t);rw[Jm]at h1;rw[kA,T.sizes];omega
end
mutual
theorem zaH{φ:Fil}{m:Nat}(h1:1<=m)(hm:∀p∈φ,p.2.size<=m):∀t:T,(zA φ t).size<=t.size*m
 | .bl x=>by
  rw[zA];cases e:zH φ x with
  |none=>simp[T.size];exact h1
  |some t=>
   obtain⟨p,hp,_,rfl⟩:=zaC e
   have:=hm p hp;simp[T.size];exact this
 | .nd s ts=>by have:=zfl h1 hm ts;rw[zA];simp only[T.size,Nat.add_mul];omega
theorem zfl{φ:Fil}{m:Nat}(h1:1<=m)(hm:∀p∈φ,p.2.size<=m):∀ts:List T,T.sizes (zM φ ts)<=T.sizes ts*m
 |[]=>by simp[zM,T.sizes]
 |t::r=>by have h2:=zaH h1 hm t;have h3:=zfl h1 hm r;rw[zM];simp only[T.sizes,Nat.add_mul];omega
end
mutual
theorem zom{ps:SI}{bs:List Str}:∀t:T,WT ps bs t->∀x∈bks t,x∈bs
 | .bl y,h,x,hx=>by simp[bks]at hx;subst hx;cases h with|bl h=>exact h
 | .nd s ts,h,x,hx=>by
  cases h with
  |nd h hs=>
   rw[bks]at hx;rcases zmf ts hs [] x hx with h|h
   ·cases h
   ·exact h
theorem zmf{ps:SI}{bs:List Str}:∀ts:List T,(∀t∈ts,WT ps bs t)->∀(l:List Str) (x:Str),x∈kA l ts->x∈l\/x∈bs
 |[],h,l,x,hx=>by rw[kA]at hx;exact .inl hx
 |t::ts,h,l,x,hx=>by
  rw[kA]at hx;rcases zmf ts (λu hu=>h u (Je _ hu)) _ x hx with h1|h1
  ·rcases JS.mp h1 with h2|h2
   ·exact .inl h2
   ·exact .inr (zom t (h t (by simp)) x (Qc.mp h2).1)
  ·exact .inr h1
end
mutual
def vs:T->List Str
 | .bl x=>[x]
 | .nd _ ts=>vsL ts
def vsL:List T->List Str
 |[]=>[]
 |t::r=>vs t++vsL r
end
theorem wT{x:Str}:∀{ts:List T},x∈vsL ts↔∃t∈ts,x∈vs t
 |[]=>by simp[vsL]
 |t::r=>by simp[vsL,List.mem_append,wT (ts:=r)]
mutual
theorem zgt{x:Str}:∀t:T,x∈bks t↔x∈vs t
 | .bl y=>by simp[bks,vs]
 | .nd s ts=>by rw[bks,vs,zjn ts];simp
theorem zjn{x:Str}:∀(ts:List T) (l:List Str),x∈kA l ts↔x∈l\/x∈vsL ts
 |[],l=>by simp[kA,vsL]
 |t::r,l=>by rw[kA,zjn r,JS,Qc,zgt t,vsL,JS];by_cases h:x∈l<;>simp[h]
end
mutual
def wid:T->Nat
 | .bl _=>0
 | .nd _ ts=>max ts.length (wids ts)
def wids:List T->Nat
 |[]=>0
 |t::r=>max (wid t) (wids r)
end
theorem zdF:∀{ts:List T}{t:T},t∈ts->wid t<=wids ts
 |_::_,_,h=>by
  rcases JC.mp h with rfl|h
  ·rw[wids];exact Nat.le_max_left _ _
  ·rw[wids];exact Jt (zdF h) (Nat.le_max_right _ _)
mutual
theorem zaS:∀t:T,wid t<=t.size
 | .bl _=>by simp[wid]
 | .nd s ts=>by have h1:=zgz ts;have h2:=gZ ts;rw[wid,T.size];omega
theorem zgz:∀ts:List T,wids ts<=T.sizes ts
 |[]=>by simp[wids]
 |t::r=>by have h1:=zaS t;have h2:=zgz r;rw[wids,T.sizes];omega
end
mutual
theorem zaX{φ:Fil}{m:Nat}(hm:∀p∈φ,wid p.2<=m):∀t:T,wid t<=m->wid (zA φ t)<=m
 | .bl x,_=>by
  rw[zA];cases e:zH φ x with
  |none=>simp[wid]
  |some t=>
   obtain⟨p,hp,_,rfl⟩:=zaC e;exact hm p hp
 | .nd s ts,h=>by
  rw[wid]at h
  have:=zhj hm ts (by omega);rw[zA,wid]
  have:(zM φ ts).length=ts.length:=by rw[qT];simp
  omega
theorem zhj{φ:Fil}{m:Nat}(hm:∀p∈φ,wid p.2<=m):∀ts:List T,wids ts<=m->wids (zM φ ts)<=m
 |[],_=>by simp[zM,wids]
 |t::r,h=>by rw[wids]at h;have h1:=zaX hm t (by omega);have h2:=zhj hm r (by omega);rw[zM,wids];omega
end
inductive Sub:T->T->Prop
 |refl (t:T):Sub t t
 |kid {s:Str}{ts:List T} {u t:T}(h:t∈ts) (r:Sub u t):Sub u (.nd s ts)
theorem Sub.trans{a b c:T}(h1:Sub a b)(h2:Sub b c):Sub a c:=by
 induction h2 with
 |refl=>exact h1
 |kid h _ ih=>exact .kid h (ih h1)
theorem Sub.size{u t:T}(h:Sub u t):u.size<=t.size:=by
 induction h with
 |refl=>exact Jd _
 |kid h _ ih=>have:=nV h;rw[T.size];omega
theorem Sub.depth{u t:T}(h:Sub u t):u.depth<=t.depth:=by
 induction h with
 |refl=>exact Jd _
 |kid h _ ih=>have:=vW h;rw[T.depth];omega
theorem Sub.vs{u t:T}(h:Sub u t):∀x∈vs u,x∈FL.vs t:=by
 induction h with
 |refl=>exact λ_ h=>h
 |kid h _ ih=>intro x hx;rw[FL.vs,wT];exact⟨_,h,ih x hx⟩
theorem Sub.wid{u t:T}(h:Sub u t):wid u<=FL.wid t:=by
 induction h with
 |refl=>exact Jd _
 |kid h _ ih=>have:=zdF h;rw[FL.wid];omega
mutual
theorem zkg{x:Str}:∀t:T,x∈vs t->Sub (.bl x) t
 | .bl y,h=>by simp[vs]at h;subst h;exact .refl _
 | .nd s ts,h=>by rw[vs]at h;obtain⟨t,ht,hs⟩:=zkh ts h;exact .kid ht hs
theorem zkh{x:Str}:∀ts:List T,x∈vsL ts->∃t∈ts,Sub (.bl x) t
 |[],h=>by simp[vsL]at h
 |t::r,h=>by
  rw[vsL,JS]at h;rcases h with h|h
  ·exact⟨t,by simp,zkg t h⟩
  ·obtain⟨u,hu,hs⟩:=zkh r h;exact⟨u,Je _ hu,hs⟩
end
theorem zfX{u t:T}(φ:Fil)(h:Sub u t):Sub (zA φ u) (zA φ t):=by
 induction h with
 |refl=>exact .refl _
 |kid h _ ih=>
  rw[zA,qT];exact .kid (List.mem_map_of_mem h) ih
mutual
theorem zcc{φ ψ:Fil}:∀t:T,(∀x∈vs t,zA φ (.bl x)=zA ψ (.bl x))->zA φ t=zA ψ t
 | .bl x,h=>h x (by simp[vs])
 | .nd s ts,h=>by rw[zA,zA,zer ts (by rw[vs]at h;exact h)]
theorem zer{φ ψ:Fil}:∀ts:List T,(∀x∈vsL ts,zA φ (.bl x)=zA ψ (.bl x))->zM φ ts=zM ψ ts
 |[],_=>by simp[zM]
 |t::r,h=>by rw[vsL]at h;rw[zM,zM,zcc t λx hx=>h x (Jq _ hx),zer r λx hx=>h x (Ji _ hx)]
end
def jU(σ φ:Fil):Prop:=∀x,zA σ (zA φ (.bl x))=zA σ (.bl x)
mutual
theorem kJ{σ φ:Fil}(h:jU σ φ):∀t:T,zA σ (zA φ t)=zA σ t
 | .bl x=>h x
 | .nd s ts=>by
  have e:∀us:List T,zA σ (.nd s us)=.nd s (zM σ us):=λus=>by rw[zA]
  have e2:zA φ (.nd s ts)=.nd s (zM φ ts):=by rw[zA]
  rw[e2,e,e,zbY h ts]
theorem zbY{σ φ:Fil}(h:jU σ φ):∀ts:List T,zM σ (zM φ ts)=zM σ ts
 |[]=>by simp[zM]
 |t::r=>by rw[zM,zM,zM,kJ h t,zbY h r]
end
mutual
theorem zdG{φ:Fil}{x:Str}:∀t:T,x∈vs (zA φ t)↔∃y∈vs t,x∈vs (zA φ (.bl y))
 | .bl y=>by simp[vs]
 | .nd s ts=>by rw[zA,vs,vs,ziz ts]
theorem ziz{φ:Fil}{x:Str}:∀ts:List T,x∈vsL (zM φ ts)↔∃y∈vsL ts,x∈vs (zA φ (.bl y))
 |[]=>by simp[zM,vsL]
 |t::r=>by
  rw[zM,vsL,vsL,JS,zdG t,ziz r];constructor
  ·rintro(⟨y,h1,h2⟩|⟨y,h1,h2⟩)
   ·exact⟨y,Jq _ h1,h2⟩
   ·exact⟨y,Ji _ h1,h2⟩
  ·rintro⟨y,h1,h2⟩;rcases JS.mp h1 with h1|h1
   ·exact .inl ⟨y,h1,h2⟩
   ·exact .inr ⟨y,h1,h2⟩
end
theorem kX{φ:Fil}{x:Str}(h:zH φ x=none):zA φ (.bl x)=.bl x:=by rw[zA,h];rfl
theorem xP{φ:Fil}{x:Str}{t:T}(h:zH φ x=some t):zA φ (.bl x)=t:=by rw[zA,h];rfl
theorem vI{φ:Fil}{x:Str}:zH φ x=none↔x∉φ.map (·.1):=by
 unfold zH;rw[Option.map_eq_none_iff,List.find?_eq_none];constructor
 ·intro h hm;obtain⟨p,hp,rfl⟩:=Jk.mp hm;exact h p hp (by simp)
 ·intro h p hp e;exact h (Jk.mpr ⟨p,hp,by simpa using e⟩)
def Idem(φ:Fil):Prop:=∀p∈φ,∀x∈vs p.2,zH φ x=none
theorem Idem.vs{φ:Fil}(h:Idem φ){t:T}{x:Str}(hx:x∈FL.vs (zA φ t)):zH φ x=none:=by
 obtain⟨y,hy,h2⟩:=(zdG t).mp hx;cases e:zH φ y with
 |none=>
  rw[kX e]at h2;simp[FL.vs]at h2;rw[h2];exact e
 |some u=>
  rw[xP e]at h2;obtain⟨p,hp,_,rfl⟩:=zaC e;exact h p hp x h2
theorem zfY{φ:Fil}{t:T}(h:∀x∈vs t,zH φ x=none):zA φ t=t:=by
 have:=zcc (φ:=φ) (ψ:=[]) t λx hx=>by rw[kX (h x hx),kX rfl]
 rw[this,wJ]
theorem Idem.resp{φ:Fil}(h:Idem φ):jU φ φ:=λx=>zfY λy hy=>h.vs hy
def wbF(φ:Fil)(x:Str)(r:T):Fil:=φ.map λp=>(p.1,zA [(x,r)] p.2)
def wb(φ:Fil)(x:Str)(r:T):Fil:=wbF φ x r++[(x,r)]
theorem zfU(φ:Fil)(x:Str)(r:T)(y:Str):zH (wbF φ x r) y=(zH φ y).map (zA [(x,r)]):=by
 induction φ with
 |nil=>rfl
 |cons p φ ih=>
  unfold zH wbF at ih ⊢;by_cases h:p.1=y
  ·simp[h]
  ·simp only[List.map_cons,List.find?_cons,h,decide_false];exact ih
theorem nL(x:Str)(r:T)(y:Str):zH [(x,r)] y=if y=x then some r else none:=by
 by_cases h:y=x
 ·subst h;simp[zH]
 ·have h':¬x=y:=λz=>h z.symm
  simp[zH,h,h']
theorem zno(φ ψ:Fil)(y:Str):zH (φ++ψ) y=(zH φ y).or (zH ψ y):=by unfold zH;rw[List.find?_append];cases φ.find? λp=>decide (p.1=y)<;>simp
theorem zfV{φ:Fil}{x:Str}(hx:zH φ x=none)(r:T)(y:Str):zA (wb φ x r) (.bl y)=zA [(x,r)] (zA φ (.bl y)):=by
 have e:zH (wb φ x r) y=((zH φ y).map (zA [(x,r)])).or (zH [(x,r)] y):=by unfold wb;rw[zno,zfU]
 cases e1:zH φ y with
 |some u=>
  rw[e1]at e;rw[xP e1,xP (t:=zA [(x,r)] u) (by rw[e];rfl)]
 |none=>
  rw[e1]at e;rw[kX e1];rw[zA,zA,e];rfl
theorem zbT{φ:Fil}{x:Str}(hx:zH φ x=none)(r:T):∀t:T,zA (wb φ x r) t=zA [(x,r)] (zA φ t):=by
 have key:∀n (t:T),t.depth<=n->zA (wb φ x r) t=zA [(x,r)] (zA φ t):=by
  intro n;induction n with
  |zero=>intro t h;have:=gB t;omega
  |succ n ih=>
   intro t h;cases t with
   |bl y=>exact zfV hx r y
   |nd s ts=>
    rw[T.depth]at h;simp only[zA]
    congr 1
    rw[qT,qT,qT,Jn];exact JQ λt ht=>ih t (by have:=vW ht;omega)
 exact λt=>key _ t (Jd _)
theorem zfw(φ:Fil)(x:Str)(r:T):(wb φ x r).map (·.1)=φ.map (·.1)++[x]:=by unfold wb wbF;rw[JF,Jn];rfl
theorem zoq{φ:Fil}{x:Str}{r:T}(h:Idem φ)(hx:zH φ x=none)(hr:∀y∈vs r,zH φ y=none)(ho:x∉vs r):Idem (wb φ x r):=by
 have none_of:∀y,zH φ y=none->y≠x->zH (wb φ x r) y=none:=λy h1 h2=>by
  rw[vI,zfw,JS,Wc];rintro(z|z)
  ·exact vI.mp h1 z
  ·exact h2 z
 intro p hp y hy;unfold wb at hp;rcases JS.mp hp with hp|hp
 ·unfold wbF at hp;obtain⟨q,hq,rfl⟩:=Jk.mp hp;obtain⟨z,hz,h2⟩:=(zdG q.2).mp hy;by_cases e:z=x
  ·subst e;rw[xP (t:=r) (by rw[nL,if_pos rfl])]at h2;exact none_of y (hr y h2) λw=>ho (by rw[←w];exact h2)
  ·rw[kX (by rw[nL,if_neg e])]at h2;simp[vs]at h2;subst h2;exact none_of y (h q hq y hz) e
 ·rw[Wc.mp hp]at hy;exact none_of y (hr y hy) λw=>ho (by rw[←w];exact hy)
theorem zhK{φ:Fil}{x:Str}{r:T}(hx:zH φ x=none)(σ:Fil):jU σ (wb φ x r)↔jU σ φ/\zA σ (.bl x)=zA σ r:=by
 have one:zA σ (.bl x)=zA σ r->jU σ [(x,r)]:=λh y=>by
  by_cases e:y=x
  ·subst e;rw[xP (t:=r) (by rw[nL,if_pos rfl])];exact h.symm
  ·rw[kX (by rw[nL,if_neg e])]
 constructor
 ·intro h;have hxr:zA σ (.bl x)=zA σ r:=by have:=h x;rw[zfV hx,kX hx,xP (t:=r) (by rw[nL,if_pos rfl])]at this;exact this.symm
  refine⟨λy=>?_,hxr⟩
  have:=h y;rw[zfV hx,kJ (one hxr)]at this;exact this
 ·rintro⟨h,hxr⟩ y;rw[zfV hx,kJ (one hxr)];exact h y
def qV(a b u:T):Prop:=Sub u a\/Sub u b
theorem qV.sub{a b u v:T}(h:qV a b u)(s:Sub v u):qV a b v:=h.imp s.trans s.trans
def From(a b:T)(φ:Fil)(E:Str->T):Prop:=∀p∈φ,qV a b (E p.1)/\p.2=zA φ (E p.1)/\∀z,E p.1=.bl z->zH φ z=none
theorem From.norm{a b:T}{φ:Fil}{E:Str->T}(h:From a b φ E){u:T}(hu:qV a b u):∃u',qV a b u'/\zA φ u'=zA φ u/\∀z,u'=.bl z->zH φ z=none:=by
 cases u with
 |nd s ts=>exact⟨_,hu,rfl,λz e=>by cases e⟩
 |bl x=>
  cases e:zH φ x with
  |none=>exact⟨_,hu,rfl,λz ez=>by cases ez;exact e⟩
  |some t=>
   obtain⟨p,hp,rfl,rfl⟩:=zaC e;obtain⟨h1,h2,h3⟩:=h p hp;exact⟨E p.1,h1,by rw[xP e];exact h2.symm,h3⟩
mutual
theorem zev{φ:Fil}{m:Nat}:∀t:T,(∀z∈vs t,∀v,zH φ z=some v->v.depth<=m)->(zA φ t).depth<=t.depth+m
 | .bl x,h=>by
  cases e:zH φ x with
  |none=>rw[kX e];omega
  |some v=>rw[xP e];have:=h x (by simp[vs]) v e;omega
 | .nd s ts,h=>by
  rw[vs]at h
  have:=zdl ts h;rw[zA,T.depth,T.depth];omega
theorem zdl{φ:Fil}{m:Nat}:∀ts:List T,(∀z∈vsL ts,∀v,zH φ z=some v->v.depth<=m)->T.depths (zM φ ts)<=T.depths ts+m
 |[],_=>by simp[zM,T.depths]
 |t::r,h=>by
  rw[vsL]at h;have h1:=zev t λz hz=>h z (Jq _ hz)
  have h2:=zdl r λz hz=>h z (Ji _ hz)
  rw[zM,T.depths,T.depths];omega
end
mutual
theorem zbj{φ:Fil}{m:Nat}(h1:1<=m):∀t:T,(∀z∈vs t,∀v,zH φ z=some v->v.size<=m)->(zA φ t).size<=t.size*m
 | .bl x,h=>by
  cases e:zH φ x with
  |none=>rw[kX e];simp[T.size];exact h1
  |some v=>rw[xP e];have:=h x (by simp[vs]) v e;simp[T.size];exact this
 | .nd s ts,h=>by
  rw[vs]at h
  have:=zes h1 ts h;rw[zA,T.size,T.size,Nat.add_mul];omega
theorem zes{φ:Fil}{m:Nat}(h1:1<=m):∀ts:List T,(∀z∈vsL ts,∀v,zH φ z=some v->v.size<=m)->T.sizes (zM φ ts)<=T.sizes ts*m
 |[],_=>by simp[zM,T.sizes]
 |t::r,h=>by
  rw[vsL]at h;have h2:=zbj h1 t λz hz=>h z (Jq _ hz)
  have h3:=zes h1 r λz hz=>h z (Ji _ hz)
  rw[zM,T.sizes,T.sizes,Nat.add_mul];omega
end
theorem From.lt{a b:T}{φ:Fil}{E:Str->T}(h:From a b φ E){p:Str×T}(hp:p∈φ){z:Str}(hz:z∈vs (E p.1)){v:T}(hv:zH φ z=some v):v.size<p.2.size:=by
 obtain⟨h1,h2,h3⟩:=h p hp;cases e:E p.1 with
 |bl y=>
  rw[e]at hz;simp[vs]at hz;subst hz;rw[h3 _ e]at hv;cases hv
 |nd s ts=>
  rw[e]at hz h2;rw[vs,wT]at hz;obtain⟨t,ht,hz⟩:=hz;have s1:=(zfX φ (zkg t hz)).size;rw[xP hv]at s1;rw[h2,zA,T.size,qT]
  have:=nV (List.mem_map_of_mem (f:=zA φ) ht);omega
theorem From.bound{a b:T}{φ:Fil}{E:Str->T}{d s:Nat}(h:From a b φ E)(nd:(φ.map (·.1)).Nodup)(hd:∀u,qV a b u->u.depth<=d)(hs:∀u,qV a b u->u.size<=s)(s1:1<=s):
  ∀(n:Nat) (vis:List Str),vis.Nodup->(∀v∈vis,v∈φ.map (·.1))->n=φ.length - vis.length->∀p∈φ,(∀v∈vis,∀t,zH φ v=some t->p.2.size<t.size)->p.2.depth<=n*d/\p.2.size<=s^n:=by
 intro n;induction n with
 |zero=>
  intro vis hn hv hl p hp hlt;exfalso;have np:p.1∉vis:=λz=>by have:=hlt p.1 z p.2 (wD nd p hp);omega
  have:=zch (p.1::vis) (φ.map (·.1)) (QU.mpr ⟨np,hn⟩) λx hx=>by
   rcases JC.mp hx with rfl|hx
   ·exact Jk.mpr ⟨p,hp,rfl⟩
   ·exact hv x hx
  rw[Jl,Ja]at this;omega
 |succ n ih=>
  intro vis hn hv hl p hp hlt;have np:p.1∉vis:=λz=>by have:=hlt p.1 z p.2 (wD nd p hp);omega
  obtain⟨h1,h2,h3⟩:=h p hp;have key:∀z∈vs (E p.1),∀v,zH φ z=some v->v.depth<=n*d/\v.size<=s^n:=by
   intro z hz v hv';obtain⟨q,hq,rfl,rfl⟩:=zaC hv';refine ih (p.1::vis) (QU.mpr ⟨np,hn⟩) (λx hx=>?_) (by rw[Jl];omega) q hq λx hx t ht=>?_
   ·rcases JC.mp hx with rfl|hx
    ·exact Jk.mpr ⟨p,hp,rfl⟩
    ·exact hv x hx
   ·have l1:=h.lt hp hz hv';rcases JC.mp hx with rfl|hx
    ·rw[wD nd p hp]at ht;cases ht;exact l1
    ·have:=hlt x hx t ht;omega
  have d1:=zev (φ:=φ) (m:=n*d) (E p.1) λz hz v hv=>(key z hz v hv).1
  have z1:=zbj (φ:=φ) (m:=s^n) (Nat.pos_of_ne_zero (by intro e;rw[Nat.pow_eq_zero]at e;omega)) (E p.1) λz hz v hv=>(key z hz v hv).2
  rw[←h2]at d1 z1
  have:=hd _ h1;have z2:=hs _ h1;refine⟨by rw[Nat.succ_mul];omega,Jt z1 ?_⟩;rw[Nat.pow_succ,Nat.mul_comm];exact Qg (Jd _) z2
def jM(χ:Fil)(f:T×T->T)(W:List (T×T)):Nat:=T.sizes (W.map λw=>zA χ (f w))
structure MA(a b:T)(φ:Fil)(W:List (T×T)):Prop where
 nd:(φ.map (·.1)).Nodup
 idem:Idem φ
 fr:∃E,From a b φ E
 ws:∀w∈W,∃u1 u2 ψ,qV a b u1/\qV a b u2/\jU φ ψ/\w.1=zA ψ u1/\w.2=zA ψ u2
 eqv:∀σ,zA σ a=zA σ b↔jU σ φ/\∀w∈W,zA σ w.1=zA σ w.2
 s1:∀χ,jU χ φ->jM χ (·.1) W<=(zA χ a).size
 s2:∀χ,jU χ φ->jM χ (·.2) W<=(zA χ b).size
 vk:∀p∈φ,p.1∈vs a\/p.1∈vs b
 vv:∀p∈φ,∀y∈vs p.2,y∈vs a\/y∈vs b
theorem jU.nil(σ:Fil):jU σ []:=λx=>by rw[wJ]
theorem MA.start(a b:T):MA a b [] [(a,b)]where
 nd:=by simp
 idem:=λp hp=>by cases hp
 fr:=⟨λ_=>a,λp hp=>by cases hp⟩
 ws:=λw hw=>by rw[Wc.mp hw];exact⟨a,b,[],.inl (.refl _),.inr (.refl _),jU.nil _,(wJ _).symm,(wJ _).symm⟩
 eqv:=λσ=>by simp[jU.nil]
 s1:=λχ _=>by simp[jM,T.sizes]
 s2:=λχ _=>by simp[jM,T.sizes]
 vk:=λp hp=>by cases hp
 vv:=λp hp=>by cases hp
theorem zau(χ:Fil)(f:T×T->T)(w:T×T)(W:List (T×T)):jM χ f (w::W)=(zA χ (f w)).size+jM χ f W:=by simp[jM,T.sizes]
theorem zcj(χ:Fil)(f:T×T->T)(V W:List (T×T)):jM χ f (V++W)=jM χ f V+jM χ f W:=by simp[jM,zad]
theorem zmm(χ:Fil)(f:T×T->T)(W:List (T×T)):W.length<=jM χ f W:=by have:=gZ (W.map λw=>zA χ (f w));rw[Ja]at this;exact this
section
variable{a b:T}{φ:Fil}{W:List (T×T)}{w:T×T}
theorem MA.drop(h:MA a b φ (w::W))(e:zA φ w.1=zA φ w.2):MA a b φ W where
 nd:=h.nd
 idem:=h.idem
 fr:=h.fr
 ws:=λv hv=>h.ws v (Je _ hv)
 eqv:=λσ=>by
  rw[h.eqv σ];constructor
  ·rintro⟨h1,h2⟩;exact⟨h1,λv hv=>h2 v (Je _ hv)⟩
  ·rintro⟨h1,h2⟩;refine⟨h1,λv hv=>?_⟩;rcases JC.mp hv with rfl|hv
   ·rw[←kJ h1 v.1,←kJ h1 v.2,e]
   ·exact h2 v hv
 s1:=λχ hχ=>by have:=h.s1 χ hχ;rw[zau]at this;omega
 s2:=λχ hχ=>by have:=h.s2 χ hχ;rw[zau]at this;omega
 vk:=h.vk
 vv:=h.vv
theorem MA.orig(h:MA a b φ (w::W)):∃u1 u2,qV a b u1/\qV a b u2/\zA φ w.1=zA φ u1/\zA φ w.2=zA φ u2/\(∀z,u1=.bl z->zH φ z=none)/\(∀z,u2=.bl z->zH φ z=none):=by obtain⟨E,hE⟩:=h.fr;obtain⟨u1,u2,ψ,o1,o2,r,e1,e2⟩:=h.ws w (by simp);obtain⟨v1,p1,q1,n1⟩:=hE.norm o1;obtain⟨v2,p2,q2,n2⟩:=hE.norm o2;exact⟨v1,v2,p1,p2,by rw[e1,kJ r,q1],by rw[e2,kJ r,q2],n1,n2⟩
theorem zka{α β:Type}:∀{l:List α}{m:List β} {p:α×β},p∈l.zip m->∃i:Nat,l[i]?=some p.1/\m[i]?=some p.2
 |[],_,p,h=>by simp at h
 |_::_,[],p,h=>by simp at h
 |x::l,y::m,p,h=>by
  rw[Qd]at h;rcases JC.mp h with rfl|h
  ·exact⟨0,rfl,rfl⟩
  ·obtain⟨i,h1,h2⟩:=zka h;exact⟨i+1,by simpa using h1,by simpa using h2⟩
theorem zbS(σ:Fil):∀(ts us:List T),ts.length=us.length->(zM σ ts=zM σ us↔∀p∈ts.zip us,zA σ p.1=zA σ p.2)
 |[],[],_=>by simp
 |[],_::_,h=>by simp at h
 |_::_,[],h=>by simp at h
 |t::ts,u::us,h=>by have ih:=zbS σ ts us (by simpa using h);rw[zM,zM,Qd,List.cons.injEq,ih];simp
theorem MA.pair{s:Str}{ts us:List T}(h:MA a b φ (w::W))(e1:zA φ w.1=.nd s ts)(e2:zA φ w.2=.nd s us)(hl:ts.length=us.length):MA a b φ (ts.zip us++W)where
 nd:=h.nd
 idem:=h.idem
 fr:=h.fr
 ws:=λv hv=>by
  rcases JS.mp hv with hv|hv
  ·obtain⟨u1,u2,o1,o2,q1,q2,n1,n2⟩:=h.orig;rw[e1]at q1;rw[e2]at q2;cases u1 with
   |bl z=>rw[kX (n1 z rfl)]at q1;cases q1
   |nd s1 ts1=>
    cases u2 with
    |bl z=>rw[kX (n2 z rfl)]at q2;cases q2
    |nd s2 us2=>
     rw[zA]at q1 q2;injection q1 with _ q1;injection q2 with _ q2;rw[qT]at q1 q2;obtain⟨i,g1,g2⟩:=zka hv;rw[q1,List.getElem?_map]at g1;rw[q2,List.getElem?_map]at g2;cases k1:ts1[i]? with
     |none=>rw[k1]at g1;cases g1
     |some x=>
      cases k2:us2[i]? with
      |none=>rw[k2]at g2;cases g2
      |some y=>
       rw[k1]at g1;rw[k2]at g2;exact⟨x,y,φ,o1.sub (.kid (List.mem_of_getElem? k1) (.refl _)),o2.sub (.kid (List.mem_of_getElem? k2) (.refl _)),h.idem.resp,(Option.some.inj g1).symm,(Option.some.inj g2).symm⟩
  ·exact h.ws v (Je _ hv)
 eqv:=λσ=>by
  rw[h.eqv σ];have key:jU σ φ->(zA σ w.1=zA σ w.2↔∀p∈ts.zip us,zA σ p.1=zA σ p.2):=λhr=>by rw[←zbS σ ts us hl,←kJ hr w.1,←kJ hr w.2,e1,e2,zA,zA];simp
  constructor
  ·rintro⟨h1,h2⟩;refine⟨h1,λv hv=>?_⟩;rcases JS.mp hv with hv|hv
   ·exact(key h1).mp (h2 w (by simp)) v hv
   ·exact h2 v (Je _ hv)
  ·rintro⟨h1,h2⟩;refine⟨h1,λv hv=>?_⟩;rcases JC.mp hv with rfl|hv
   ·exact(key h1).mpr λp hp=>h2 p (Jq _ hp)
   ·exact h2 v (Ji _ hv)
 s1:=λχ hχ=>by
  have:=h.s1 χ hχ;rw[zau,←kJ hχ w.1,e1,zA,T.size]at this;rw[zcj];have e:jM χ (·.1) (ts.zip us)=T.sizes (zM χ ts):=by
   unfold jM;rw[qT]
   congr 1
   have:(ts.zip us).map (λw=>zA χ w.1)=((ts.zip us).map (·.1)).map (zA χ):=by rw[Jn];rfl
   rw[this,QJ (by omega)]
  omega
 s2:=λχ hχ=>by
  have:=h.s2 χ hχ;rw[zau,←kJ hχ w.2,e2,zA,T.size]at this;rw[zcj];have e:jM χ (·.2) (ts.zip us)=T.sizes (zM χ us):=by
   unfold jM;rw[qT]
   congr 1
   have:(ts.zip us).map (λw=>zA χ w.2)=((ts.zip us).map (·.2)).map (zA χ):=by rw[Jn];rfl
   rw[this,List.map_snd_zip (by omega)]
  omega
 vk:=h.vk
 vv:=h.vv
theorem qV.vs{u:T}(h:qV a b u){x:Str}(hx:x∈vs u):x∈FL.vs a\/x∈FL.vs b:=h.imp (λs=>s.vs x hx) λs=>s.vs x hx
theorem MA.vsT(h:MA a b φ W){u:T}(hu:qV a b u){y:Str}(hy:y∈vs (zA φ u)):y∈vs a\/y∈vs b:=by
 obtain⟨z,hz,h2⟩:=(zdG u).mp hy;cases e:zH φ z with
 |none=>
  rw[kX e]at h2;simp[vs]at h2;subst h2;exact hu.vs hz
 |some v=>
  rw[xP e]at h2;obtain⟨p,hp,_,rfl⟩:=zaC e;exact h.vv p hp y h2
theorem MA.bind{x:Str}{r:T}(h:MA a b φ (w::W))(e:(zA φ w.1=.bl x/\zA φ w.2=r)\/(zA φ w.2=.bl x/\zA φ w.1=r))(ho:x∉vs r):MA a b (wb φ x r) W:=by
 have hx:zH φ x=none:=by rcases e with⟨e,_⟩|⟨e,_⟩<;>exact h.idem.vs (t:=_) (by rw[e];simp[vs])
 have hr:∀y∈vs r,zH φ y=none:=λy hy=>by rcases e with⟨_,e⟩|⟨_,e⟩<;>exact h.idem.vs (t:=_) (by rw[e];exact hy)
 obtain⟨u1,u2,o1,o2,q1,q2,n1,n2⟩:=h.orig;obtain⟨ux,ur,ox,our,qx,qr,nx,nr⟩:∃ux ur,qV a b ux/\qV a b ur/\zA φ ux=.bl x/\zA φ ur=r/\(∀z,ux=.bl z->zH φ z=none)/\(∀z,ur=.bl z->zH φ z=none):=by
  rcases e with⟨e1,e2⟩|⟨e1,e2⟩
  ·exact⟨u1,u2,o1,o2,by rw[←q1,e1],by rw[←q2,e2],n1,n2⟩
  ·exact⟨u2,u1,o2,o1,by rw[←q2,e1],by rw[←q1,e2],n2,n1⟩
 have one_r:zA [(x,r)] r=r:=zfY λy hy=>by rw[nL,if_neg λz=>ho (by rw[←z];exact hy)]
 have none_of:∀y,zH φ y=none->y≠x->zH (wb φ x r) y=none:=λy h1 h2=>by
  rw[vI,zfw,JS,Wc];rintro(z|z)
  ·exact vI.mp h1 z
  ·exact h2 z
 have resp:∀χ,jU χ (wb φ x r)->jU χ φ:=λχ hχ=>((zhK hx χ).mp hχ).1
 have nur:∀z,ur=.bl z->zH (wb φ x r) z=none:=λz ez=>by
  refine none_of z (nr z ez) λw=>?_
  rw[ez,kX (nr z ez),w]at qr;exact ho (by rw[←qr];simp[vs])
 refine⟨?_,zoq h.idem hx hr ho,?_,λv hv=>?_,λσ=>?_,λχ hχ=>?_,λχ hχ=>?_,λp hp=>?_,λp hp y hy=>?_⟩
 ·rw[zfw,Qp];refine⟨h.nd,by simp,λy hy z hz=>?_⟩;rw[Wc.mp hz];rintro rfl;exact vI.mp hx hy
 ·obtain⟨E,hE⟩:=h.fr
  classical
  refine⟨λy=>if y=x\/E y=.bl x then ur else E y,λp hp=>?_⟩;have fur:zA (wb φ x r) ur=r:=by rw[zbT hx,qr,one_r]
  unfold wb at hp;rcases JS.mp hp with hp|hp
  ·unfold wbF at hp;obtain⟨q,hq,rfl⟩:=Jk.mp hp;obtain⟨g1,g2,g3⟩:=hE q hq;have hqx:q.1≠x:=λz=>vI.mp hx (Jk.mpr ⟨q,hq,z⟩)
   simp only[hqx,false_or];by_cases hc:E q.1=.bl x
   ·rw[if_pos hc];refine⟨our,?_,nur⟩;rw[fur,g2,hc,kX hx,xP (t:=r) (by rw[nL,if_pos rfl])]
   ·rw[if_neg hc];refine⟨g1,?_,λz ez=>none_of z (g3 z ez) λw=>hc (by rw[ez,w])⟩;rw[zbT hx,←g2]
  ·rw[Wc.mp hp];simp only[true_or,if_true];exact⟨our,fur.symm,nur⟩
 ·obtain⟨v1,v2,ψ,g1,g2,g3,g4,g5⟩:=h.ws v (Je _ hv);exact⟨v1,v2,ψ,g1,g2,λy=>by rw[zbT hx,zbT hx,g3 y],g4,g5⟩
 ·rw[h.eqv σ,zhK hx];have key:jU σ φ->(zA σ w.1=zA σ w.2↔zA σ (.bl x)=zA σ r):=λhr=>by
   rw[←kJ hr w.1,←kJ hr w.2];rcases e with⟨e1,e2⟩|⟨e1,e2⟩
   ·rw[e1,e2]
   ·rw[e1,e2];exact eq_comm
  constructor
  ·rintro⟨h1,h2⟩;exact⟨⟨h1,(key h1).mp (h2 w (by simp))⟩,λv hv=>h2 v (Je _ hv)⟩
  ·rintro⟨⟨h1,h3⟩,h2⟩;refine⟨h1,λv hv=>?_⟩;rcases JC.mp hv with rfl|hv
   ·exact(key h1).mpr h3
   ·exact h2 v hv
 ·have:=h.s1 χ (resp χ hχ);rw[zau]at this;omega
 ·have:=h.s2 χ (resp χ hχ);rw[zau]at this;omega
 ·unfold wb at hp;rcases JS.mp hp with hp|hp
  ·unfold wbF at hp;obtain⟨q,hq,rfl⟩:=Jk.mp hp;exact h.vk q hq
  ·rw[Wc.mp hp];cases ux with
   |bl z=>
    rw[kX (nx z rfl)]at qx;cases qx
    exact ox.vs (by simp[vs])
   |nd s ts=>rw[zA]at qx;cases qx
 ·have hrv:∀y∈vs r,y∈vs a\/y∈vs b:=λy hy=>h.vsT our (by rw[qr];exact hy)
  unfold wb at hp;rcases JS.mp hp with hp|hp
  ·unfold wbF at hp;obtain⟨q,hq,rfl⟩:=Jk.mp hp;obtain⟨z,hz,h2⟩:=(zdG q.2).mp hy;by_cases ez:z=x
   ·subst ez;rw[xP (t:=r) (by rw[nL,if_pos rfl])]at h2;exact hrv y h2
   ·rw[kX (by rw[nL,if_neg ez])]at h2;simp[vs]at h2;subst h2;exact h.vv q hq y hz
  ·rw[Wc.mp hp]at hy;exact hrv y hy
theorem ziO{x:Str}{r:T}(hx:x∈vs r)(hne:r≠.bl x)(σ:Fil):zA σ (.bl x)≠zA σ r:=λe=>by
 cases r with
 |bl y=>
  simp[vs]at hx;subst hx;exact hne rfl
 |nd s ts=>
  rw[vs,wT]at hx;obtain⟨t,ht,hx⟩:=hx;have s1:=(zfX σ (zkg t hx)).size;have e2:(zA σ (.bl x)).size=(zA σ (.nd s ts)).size:=by rw[e]
  rw[e2,zA,T.size,qT]at s1
  have:=nV (List.mem_map_of_mem (f:=zA σ) ht);omega
theorem MA.noUni(h:MA a b φ (w::W))(hn:∀σ,zA σ (zA φ w.1)≠zA σ (zA φ w.2)):∀σ,zA σ a≠zA σ b:=λσ e=>by obtain⟨h1,h2⟩:=(h.eqv σ).mp e;exact hn σ (by rw[kJ h1,kJ h1];exact h2 w (by simp))
theorem MA.done(h:MA a b φ []):(∀σ,zA σ a=zA σ b↔jU σ φ)/\zA φ a=zA φ b:=by
 have:∀σ,zA σ a=zA σ b↔jU σ φ:=λσ=>by rw[h.eqv σ];simp
 exact⟨this,(this φ).mpr h.idem.resp⟩
end
theorem gQ(φ:Fil):∀(n:Nat) (t:T),t.depth<=n->wid t<=1000->zaN n [t.d,zJ φ]=some (zA φ t).d
 |0,t,h,_=>by have:=gB t;omega
 |n+1,.bl x,h,_=>by
  have ib:=gP (.bl x);have ok:=gM φ;have fv:=zcG x φ;have hd:((zH φ x).map T.d).getD (.str x)=(zA φ (.bl x)).d:=by rw[zA];cases zH φ x<;>simp[qW]
  rw[←hd];simp only[qW]at ib ⊢
  simp! [zaN,zJ,ib,T.isBl,ok,fv,kdK]
 |n+1,.nd s ts,h,hz=>by
  rw[T.depth]at h;rw[wid]at hz;have hl:ts.length<=1000000:=by omega
  have ib:=gP (.nd s ts);have w1:yG (gN 0) qQ (zeD (zaN n) zO) [none,some (.dat (zJ φ))] (ts.map T.d)=some ((zM φ ts).map T.d):=by
   rw[qT];refine zaK (by simp) λi x y hx hy=>?_
   rw[List.getElem?_map]at hx;rw[Jn,List.getElem?_map]at hy;cases e:ts[i]? with
   |none=>rw[e]at hx;cases hx
   |some t=>
    rw[e]at hx hy;cases hx;cases hy
    have hm:=List.mem_of_getElem? e;have d1:=vW hm;have d2:=zdF hm;exact⟨_,rfl,rfl,by simp! [gQ φ n t (by omega) (by omega)]⟩
  have fl:(zM φ ts).length=ts.length:=by rw[qT];simp
  have z1:1+ts.length<=1000000:=by omega
  rw[zA,qZ,qZ];rw[qZ]at ib
  simp! [zaN,ib,T.isBl,gU,w1,hl,fl,z1]
def ded(l:List Str):List Str:=l.foldl (λacc x=>if x∈acc then acc else acc++[x]) []
def qP(acc l:List Str):List Str:=l.foldl (λacc x=>if x∈acc then acc else acc++[x]) acc
theorem zgg{x:Str}:∀(l acc:List Str),x∈qP acc l↔x∈acc\/x∈l
 |[],acc=>by simp[qP]
 |y::l,acc=>by
  have ih:=zgg (x:=x) l (if y∈acc then acc else acc++[y]);unfold qP at ih ⊢;rw[List.foldl_cons,ih];by_cases h:y∈acc
  ·rw[if_pos h];constructor
   ·rintro(h1|h1)
    ·exact .inl h1
    ·exact .inr (Je _ h1)
   ·rintro(h1|h1)
    ·exact .inl h1
    ·rcases JC.mp h1 with rfl|h1
     ·exact .inl h
     ·exact .inr h1
  ·rw[if_neg h];simp[or_assoc]
theorem zgi:∀(l acc:List Str),(qP acc l).length<=acc.length+l.length
 |[],acc=>by simp[qP]
 |y::l,acc=>by
  have ih:=zgi l (if y∈acc then acc else acc++[y]);unfold qP at ih ⊢;rw[List.foldl_cons,Jl];by_cases h:y∈acc
  ·rw[if_pos h]at ih ⊢;omega
  ·rw[if_neg h]at ih ⊢;rw[Jm,Qa]at ih;omega
def blp:List (List Int×T)->List Str
 |[]=>[]
 |(_,.bl x)::r=>x::blp r
 |(_,.nd _ _)::r=>blp r
theorem zgs:∀a b:List (List Int×T),blp (a++b)=blp a++blp b
 |[],b=>by simp[blp]
 |(_,.bl x)::r,b=>by rw[Ql,blp,blp,zgs r b,Ql]
 |(_,.nd _ _)::r,b=>by rw[Ql,blp,blp,zgs r b]
mutual
theorem zfv(p:List Int):∀t:T,blp (qX p t)=vs t
 | .bl x=>by simp[qX,blp,vs]
 | .nd s ts=>by rw[qX,blp,zeH p 0 ts,vs]
theorem zeH(p:List Int):∀(k:Nat) (ts:List T),blp (kN p k ts)=vsL ts
 |_,[]=>by simp[kN,blp,vsL]
 |k,t::r=>by rw[kN,zgs,zfv (p++[(k:Int)]) t,zeH p (k+1) r,vsL]
end
theorem zir:∀l:List (List Int×T),(blp l).length<=l.length
 |[]=>by simp[blp]
 |(_,.bl x)::r=>by have:=zir r;simp[blp];exact this
 |(_,.nd _ _)::r=>by have:=zir r;simp[blp];omega
theorem zaz(t:T)(hz:t.size<=900000):zae [t.d]=some (.lst ((ded (vs t)).map D.str)):=by
 have pp:=zaZ t hz;have hl:=zbc [] t;obtain⟨ρ',f1,k2,k3,rfl⟩:=yS (g:=qO (zQ (gN 2) (zQ (gN 3) qC))) (b:=zce zO) (xs:=(qX [] t).map pd) (ρ:=[some (.dat t.d),some (.own (.lst [])),none,none])
  (λi ρ=>∃k2 k3:Option Sl,ρ=[some (.dat t.d),some (.own (.lst ((qP [] (blp ((qX [] t).take i))).map D.str))),k2,k3]) ⟨none,none,by simp[qP,blp]⟩ (by
   rintro i x ρ hx ⟨k2,k3,rfl⟩;rw[List.getElem?_map]at hx;cases e:(qX [] t)[i]? with
   |none=>rw[e]at hx;cases hx
   |some q=>
    rw[e]at hx;cases hx
    have hi:i<(qX [] t).length:=(List.getElem?_eq_some_iff.mp e).1;have eq:(qX [] t)[i]=q:=by rw[List.getElem?_eq_getElem hi]at e;exact Option.some.inj e
    have tk:(qX [] t).take (i+1)=(qX [] t).take i++[q]:=by rw[Jp hi,eq]
    have l1:=zgi (blp ((qX [] t).take i)) [];have l2:=zir ((qX [] t).take i);rw[Jw]at l2;simp only[List.length_nil,Nat.zero_add]at l1;obtain⟨p,u⟩:=q;have ib:=gP u;rw[tk,zgs];generalize hacc:qP [] (blp ((qX [] t).take i))=acc at l1;have da:qP [] (blp ((qX [] t).take i)++blp [(p,u)])=qP acc (blp [(p,u)]):=by rw[←hacc];unfold qP;rw[List.foldl_append]
    rw[da];cases u with
    |nd s ts=>
     simp only[T.isBl]at ib;refine⟨[some (.dat t.d),some (.own (.lst ((qP acc (blp [(p,T.nd s ts)])).map D.str))),some (.dat (.tup (p.map D.int))),some (.dat (T.nd s ts).d)],.inl ?_,_,_,rfl⟩
     simp! [pd,ib,blp,qP]
    |bl y=>
     simp only[T.isBl]at ib;have i1:=zcW y acc;have dd:=zcL acc;have dz:qU (acc.map D.str)<=100:=by omega
     rw[qW]at ib;refine⟨[some (.dat t.d),some (.own (.lst ((qP acc (blp [(p,T.bl y)])).map D.str))),some (.dat (.tup (p.map D.int))),some (.dat (.str y))],.inl ?_,_,_,rfl⟩;by_cases hy:y∈acc
     ·simp! [pd,qW,ib,blp,qP,i1,dz,hy]
     ·have z1:acc.length<1000000:=by omega
      simp! [pd,qW,ib,blp,qP,i1,dz,hy,z1])
 rw[Ja,Qe,zfv]at f1;have e0:qP [] (vs t)=ded (vs t):=rfl;rw[e0]at f1
 simp! [zae,pp,f1]
theorem jZ{x:Str}(l:List Str):x∈ded l↔x∈l:=by have e:ded l=qP [] l:=rfl;rw[e,zgg];simp
theorem zdO(φ:Fil)(x:Str)(t:T)(h:zH φ x=none):xY (fks φ) (fds φ) (.str x) t.d=(fks (φ++[(x,t)]),fds (φ++[(x,t)])):=by have:=znO φ x t;rw[zmA t h]at this;exact this
theorem zhk(φ:Fil)(x:Str)(r:T)(hx:zH φ x=none)(nd:(φ.map (·.1)).Nodup)(hd:∀p∈φ,p.2.depth<=90)(hw:∀p∈φ,wid p.2<=1000)(hl:φ.length<=1000):zao [zJ φ,.str x,r.d]=some (zJ (wb φ x r)):=by
 have its:itIs (zJ φ)=some (φ.map λp=>.tup [.str p.1,p.2.d]):=by
  have ok:=gM φ;simp only[itIs,zJ,ok,if_true]
  congr 1
  unfold fks fds;rw[List.zipWith_map,List.zipWith_self];rfl
 have go:∀(done rest:Fil),(((done++rest).map (·.1)).Nodup)->(∀p∈rest,p.2.depth<=90/\wid p.2<=1000)->
   wQ (qO (zQ (gN 0) (zQ (gN 1) qC))) qQ (zbU zO) (zbV zO) [none,none,some (.dat (.str x)),some (.dat r.d)] (rest.map λp=>.tup [.str p.1,p.2.d]) (fks (wbF done x r),fds (wbF done x r))=some (fks (wbF (done++rest) x r),fds (wbF (done++rest) x r)):=by
  intro done rest;induction rest generalizing done with
  |nil=>intro _ _;simp[wQ]
  |cons p rest ih=>
   intro hn hp;have hf:kK [p.2.d,zJ [(x,r)]]=some (zA [(x,r)] p.2).d:=gQ _ 100 p.2 (by have:=(hp p (by simp)).1;omega) (hp p (by simp)).2;have f0:zJ [(x,r)]=.dic [.str x] [r.d]:=rfl;rw[f0]at hf;have hnp:zH (wbF done x r) p.1=none:=by
    rw[zfU]
    have:zH done p.1=none:=by rw[vI];intro z;rw[JF,Jg,Qp]at hn;exact hn.2.2 p.1 z p.1 (by simp) rfl
    rw[this];rfl
   have pa:=zdO (wbF done x r) p.1 (zA [(x,r)] p.2) hnp;have e2:wbF done x r++[(p.1,zA [(x,r)] p.2)]=wbF (done++[p]) x r:=by simp[wbF]
   rw[e2]at pa;have ih':=ih (done++[p]) (by simpa using hn) (λq hq=>hp q (Je _ hq));rw[JG,List.singleton_append]at ih';rw[←ih'];simp only[List.map_cons,wQ]
   simp! [hf,kdK,pa]
 have g0:=go [] φ (by simpa using nd) (λp hp=>⟨hd p hp,hw p hp⟩);rw[List.nil_append]at g0;have b0:(fks (wbF [] x r),fds (wbF [] x r))=(([],[]):List KD×List D):=rfl;rw[b0]at g0;have hnx:zH (wbF φ x r) x=none:=by rw[zfU,hx];rfl
 have pa:=zdO (wbF φ x r) x r hnx;have ok:=gM (wbF φ x r);have kl:(fks (wbF φ x r)).length<1000000:=by simp[fks,wbF];omega
 have hl':List.length φ<=1000000:=by omega
 have ew:zJ (wb φ x r)=.dic (fks (wbF φ x r++[(x,r)])) (fds (wbF φ x r++[(x,r)])):=rfl;rw[ew]
 simp! [zao,cIs,its,zcf,hl',g0,kdK,ok,kl,pa]
theorem zlF(a b:T):zaa [a.d,b.d]=some (zgW (nX a b)):=by
 have i1:=gP a;have i2:=gP b;cases a with
 |bl x=>
  simp only[T.isBl]at i1
  dsimp! [zaa,i1,nX,zgW]
 |nd s ts=>
  simp only[T.isBl]at i1;cases b with
  |bl y=>
   simp only[T.isBl]at i2
   dsimp! [zaa,i1,i2,nX,zgW]
  |nd r us=>
   simp only[T.isBl]at i2;rw[qZ]at i1 i2;have n1:=zob s r;have n2:=zha ((ts.length:Int)+1) ((us.length:Int)+1);have pm:=zgV ts us;rw[qZ,qZ];by_cases h1:s=r
   ·subst h1;by_cases h2:ts.length=us.length
    ·have h3:((ts.length:Int)+1=(us.length:Int)+1):=by omega
     simp only[h3,decide_true,Bool.not_true]at n2;have n1':neB (D.str s) (D.str s)=some (.bl false):=by simpa using n1
     have h4:(ts.length:Int)=(us.length:Int):=by omega
     dsimp! [zaa,i1,i2,n1',h4,n2,zipD,gU,pm,nX,zgW,h2]
    ·have h3:¬((ts.length:Int)+1=(us.length:Int)+1):=by omega
     simp only[h3,decide_false,Bool.not_false]at n2;have n1':neB (D.str s) (D.str s)=some (.bl false):=by simpa using n1
     dsimp! [zaa,i1,i2,n1',n2,nX,zgW,h2]
   ·simp only[h1,decide_false,Bool.not_false]at n1
    dsimp! [zaa,i1,i2,n1,nX,zgW,h1]
theorem zlw:∀(φ:Fil) (t:T),t.depth<=(zA φ t).depth/\wid t<=wid (zA φ t):=by
 intro φ;have key:∀n (t:T),t.depth<=n->t.depth<=(zA φ t).depth/\wid t<=wid (zA φ t):=by
  intro n;induction n with
  |zero=>intro t h;have:=gB t;omega
  |succ n ih=>
   intro t h;cases t with
   |bl x=>have:=gB (zA φ (.bl x));simp[T.depth,wid];omega
   |nd s ts=>
    rw[T.depth]at h;rw[zA,qT];simp only[T.depth,wid,List.length_map]
    have:∀l:List T,(∀t∈l,t∈ts)->T.depths l<=T.depths (l.map (zA φ))/\FL.wids l<=FL.wids (l.map (zA φ)):=by
     intro l;induction l with
     |nil=>intro _;simp[T.depths,FL.wids]
     |cons t l ihl=>
      intro hl;have h1:=ih t (by have:=vW (hl t (by simp));omega);have h2:=ihl λu hu=>hl u (Je _ hu)
      simp only[List.map_cons,T.depths,FL.wids];omega
    have:=this ts λt ht=>ht
    omega
 exact λt=>key _ t (Jd _)
def zsU(a b:T)(o:Option Fil):Prop:=match o with
 |some φ=>MA a b φ []
 |none=>∀σ,zA σ a≠zA σ b
theorem zmT{φ:Fil}{x:Str}{V:List Str}{K:Nat}(hn:(φ.map (·.1)).Nodup)(hx:zH φ x=none)(hV:∀y,y=x\/y∈φ.map (·.1)->y∈V)(hK:V.length<=K):φ.length<K:=by
 have:=zch (x::φ.map (·.1)) V (QU.mpr ⟨vI.mp hx,hn⟩) λy hy=>by
  rcases JC.mp hy with rfl|hy
  ·exact hV _ (.inl rfl)
  ·exact hV _ (.inr hy)
 rw[Jl,Ja]at this;omega
structure Bd(a b:T)(K B:Nat):Prop where
 len:∀{φ:Fil}{W:List (T×T)},MA a b φ W->φ.length<=K
 lt:∀{φ:Fil}{W:List (T×T)} {u v:T}{y:Str},MA a b φ W->qV a b u->qV a b v->zA φ u=.bl y->φ.length<K/\(zA φ v).size<=900000
 tm:∀{φ:Fil}{W:List (T×T)} {u:T},MA a b φ W->qV a b u->(zA φ u).depth<=80/\wid (zA φ u)<=1000
 wl:∀{φ:Fil}{W:List (T×T)},MA a b φ W->W.length<=950000/\jM φ (·.1) W<=B
 vl:∀{φ:Fil}{W:List (T×T)},MA a b φ W->∀p∈φ,p.2.depth<=80/\wid p.2<=1000/\p.2.size<=900000
 fuel:(K+1)*(B+1)<1000000000
 kk:K<=1000
theorem zcJ(a b:T){K Bn:Nat}(S:Bd a b K Bn):∃o:Option Fil,zaE [a.d,b.d]=some (fitR o)/\zsU a b o:=by
 obtain⟨fl,e1,P⟩:=zeV (t:=upT (cTr (gb 3))) (b:=zbO zO)
  (λm ρ=>∃(φ:Fil) (W:List (T×T)) (s4 s5 s6 s7 s8:Option Sl),ρ=[some (.dat a.d),some (.dat b.d),some (.dat (zJ φ)),some (.own (.lst (W.map ptD))),s4,s5,s6,s7,s8]/\MA a b φ W/\m=(K - φ.length)*(Bn+1)+jM φ (·.1) W/\nb s4=true/\nb s5=true/\nb s6=true/\nb s7=true/\nb s8=true)
  (λfl=>(∃φ a' b' c d' e f g h,fl=.nx [a',b',some (.dat (zJ φ)),c,d',e,f,g,h]/\MA a b φ [])\/(∃ρ,fl=.rt .non ρ/\∀σ,zA σ a≠zA σ b)) (by
   rintro m ρ ⟨φ,W,s4,s5,s6,s7,s8,rfl,hM,rfl,n4,n5,n6,n7,n8⟩;cases W with
   |nil=>
    left;exact⟨[some (.dat a.d),some (.dat b.d),some (.dat (zJ φ)),some (.own (.lst [])),s4,s5,s6,s7,s8],by simp[qG,jG,zG,zY,setO,kB,xB,xQ,jT,zV,jR,vM,ifM,upT,cT,cTr,xF,kF,orP,yC,vY,orV,vR,c1,c2,cL,cS,zB,zD,cst,gv,gb,gN,qC,zQ,qO,jL,jK,jQ,qQ,cI,cR1,cR2,xT,jD,itS,xH,xW,kE,yZ,xK,yV,zR,qS,nxM,jF,tyN,xM,lim,kL,qH,yQ,xI,xX,kY,xL,jH,qA,jJ,vL,qJ,xS,yM,yD,jY,jP,yU,xA,geD,isB,xN,isNon,vZ,xO,kZ,kM,kS,yN,vN,yA,jS,yF,c3,yY,vV,xR,cSg,yJ,itS,Sl.inn,Sl.own,vS,inB,yO,yX,vP,xZ,vQ,vO,yB,at0,at1,at2,at3],.inl ⟨φ,_,_,_,_,_,_,_,_,rfl,hM⟩⟩
   |cons w W=>
    obtain⟨w1,w2⟩:=w;right;have hlen:=S.len hM;have wl:=S.wl hM;rw[Jl]at wl;have six:seqIndex? 0 (W.length+1)=some 0:=by simp[seqIndex?]
    have r0:upT (cTr (gb 3)) [some (.dat a.d),some (.dat b.d),some (.dat (zJ φ)),some (.own (.lst (((w1,w2)::W).map ptD))),s4,s5,s6,s7,s8]=some (true,[some (.dat a.d),some (.dat b.d),some (.dat (zJ φ)),some (.own (.lst (((w1,w2)::W).map ptD))),s4,s5,s6,s7,s8]):=by simp[qG,jG,zG,zY,setO,kB,xB,xQ,jT,zV,jR,vM,ifM,upT,cT,cTr,xF,kF,orP,yC,vY,orV,vR,c1,c2,cL,cS,zB,zD,cst,gv,gb,gN,qC,zQ,qO,jL,jK,jQ,qQ,cI,cR1,cR2,xT,jD,itS,xH,xW,kE,yZ,xK,yV,zR,qS,nxM,jF,tyN,xM,lim,kL,qH,yQ,xI,xX,kY,xL,jH,qA,jJ,vL,qJ,xS,yM,yD,jY,jP,yU,xA,geD,isB,xN,isNon,vZ,xO,kZ,kM,kS,yN,vN,yA,jS,yF,c3,yY,vV,xR,cSg,yJ,itS,Sl.inn,Sl.own,vS,inB,yO,yX,vP,xZ,vQ,vO,yB,at0,at1,at2,at3]
    have pp:ptD (w1,w2)=.tup [w1.d,w2.d]:=rfl;obtain⟨v1,v2,ψ,o1,o2,rp,ew1,ew2⟩:=hM.ws (w1,w2) (by simp);have eL:zA φ w1=zA φ v1:=by have e:w1=zA ψ v1:=ew1;rw[e,kJ rp]
    have eR:zA φ w2=zA φ v2:=by have e:w2=zA ψ v2:=ew2;rw[e,kJ rp]
    obtain⟨dL,wL⟩:=S.tm hM o1;obtain⟨dR,wR⟩:=S.tm hM o2;have g1:=zlw φ w1;have g2:=zlw φ w2;rw[←eL]at dL wL;rw[←eR]at dR wR;have fL:kK [w1.d,zJ φ]=some (zA φ w1).d:=gQ φ 100 w1 (by omega) (by omega);have fR:kK [w2.d,zJ φ]=some (zA φ w2).d:=gQ φ 100 w2 (by omega) (by omega);have hw0:jM φ (·.1) ((w1,w2)::W)=(zA φ w1).size+jM φ (·.1) W:=zau ..;have hsz:=zbX (zA φ w1);have nbs:∀(x4 x5 x6 x7:D) (φ':Fil) (V:List (T×T)),yP [some (.dat a.d),some (.dat b.d),some (.dat (zJ φ')),some (.own (.lst (V.map ptD))),some (.dat x4),some (.dat x5),some (.dat x6),some (.dat x7),s8]=true:=λ_ _ _ _ _ _=>by simp[nH,nG,nZ,nY,n8]
    generalize hLL:zA φ w1=L at*;generalize hRR:zA φ w2=R at*;have eq:=eq_T L R (by omega);by_cases hLR:L=R
    ·-- alike already
     left;simp only[hLR,decide_true]at eq;refine⟨_,[some (.dat a.d),some (.dat b.d),some (.dat (zJ φ)),some (.own (.lst (W.map ptD))),some (.dat w1.d),some (.dat w2.d),some (.dat L.d),some (.dat R.d),s8],(K - φ.length)*(Bn+1)+jM φ (·.1) W,r0,.inr ?_,by omega,φ,W,_,_,_,_,_,rfl,hM.drop (by simp only;rw[hLL,hRR,hLR]),rfl,rfl,rfl,rfl,rfl,n8⟩;rw[hLR];rw[hLR]at fL;simp only[List.map_cons]
     dsimp! [pp,six,fL,fR,nC,eq]
    ·simp only[hLR,decide_false]at eq;have bind:∀(x:Str) (r:T),((L=.bl x/\R=r)\/(R=.bl x/\L=r))->x∉vs r->φ.length<K->MA a b (wb φ x r) W/\zao [zJ φ,.str x,r.d]=some (zJ (wb φ x r)):=by
      intro x r e ho hk0;have hm:=hM.bind (x:=x) (r:=r) (by simp only;rw[hLL,hRR];exact e) ho;have hx:zH φ x=none:=by
       rcases e with⟨e,_⟩|⟨e,_⟩
       ·exact hM.idem.vs (t:=w1) (by rw[hLL,e];simp[vs])
       ·exact hM.idem.vs (t:=w2) (by rw[hRR,e];simp[vs])
      have hv:=S.vl hM;have hk:=S.kk;exact⟨hm,zhk φ x r hx hM.nd (λp hp=>by have:=(hv p hp).1;omega) (λp hp=>(hv p hp).2.1) (by omega)⟩
     have measure:∀(x:Str) (r:T),MA a b (wb φ x r) W->φ.length<K->(K - (wb φ x r).length)*(Bn+1)+jM (wb φ x r) (·.1) W<(K - φ.length)*(Bn+1)+jM φ (·.1) ((w1,w2)::W):=by
      intro x r hm hk;have hl3:(wb φ x r).length=φ.length+1:=by simp[wb,wbF]
      have:=(S.wl hm).2;rw[hl3];have e:(K - φ.length)*(Bn+1)=(K - (φ.length+1))*(Bn+1)+(Bn+1):=by rw[←Nat.succ_mul];congr 1;omega
      omega
     have noneL:∀(x:Str) (r:T),((L=.bl x/\R=r)\/(R=.bl x/\L=r))->x∈vs r->∀σ,zA σ a≠zA σ b:=by
      intro x r e ho;refine hM.noUni λσ=>?_
      simp only;rw[hLL,hRR];rcases e with⟨e1,e2⟩|⟨e1,e2⟩
      ·rw[e1,e2];exact ziO ho (λz=>hLR (by rw[e1,e2,z])) σ
      ·rw[e1,e2];exact λz=>ziO ho (λz=>hLR (by rw[e1,e2,z])) σ z.symm
     have ibR:=gP R;have ibL:=gP L;have fin:∀(x:Str) (r:T),((L=.bl x/\R=r)\/(R=.bl x/\L=r))->∀(B:EO Fl),
       (∀(fl:Fl),(if x∈vs r then fl=.rt .non [some (.dat a.d),some (.dat b.d),some (.dat (zJ φ)),some (.own (.lst (W.map ptD))),some (.dat w1.d),some (.dat w2.d),some (.dat (.str x)),some (.dat r.d),s8]
        else fl=.ct [some (.dat a.d),some (.dat b.d),some (.dat (zJ (wb φ x r))),some (.own (.lst (W.map ptD))),some (.dat w1.d),some (.dat w2.d),some (.dat (.str x)),some (.dat r.d),s8])->
        (r.size<=900000)->(x∉vs r->zao [zJ φ,.str x,r.d]=some (zJ (wb φ x r)))->B [some (.dat a.d),some (.dat b.d),some (.dat (zJ φ)),some (.own (.lst (((w1,w2)::W).map ptD))),s4,s5,s6,s7,s8]=some fl)->
       (∃ρ1 ρ2 m',upT (cTr (gb 3)) [some (.dat a.d),some (.dat b.d),some (.dat (zJ φ)),some (.own (.lst (((w1,w2)::W).map ptD))),s4,s5,s6,s7,s8]=some (true,ρ1)/\(B ρ1=some (.nx ρ2)\/B ρ1=some (.ct ρ2))/\m'<(K - φ.length)*(Bn+1)+jM φ (·.1) ((w1,w2)::W)/\
        ∃(φ:Fil) (W:List (T×T)) (s4 s5 s6 s7 s8:Option Sl),ρ2=[some (.dat a.d),some (.dat b.d),some (.dat (zJ φ)),some (.own (.lst (W.map ptD))),s4,s5,s6,s7,s8]/\MA a b φ W/\m'=(K - φ.length)*(Bn+1)+jM φ (·.1) W/\nb s4=true/\nb s5=true/\nb s6=true/\nb s7=true/\nb s8=true)\/
       (∃ρ1 d' ρ2,upT (cTr (gb 3)) [some (.dat a.d),some (.dat b.d),some (.dat (zJ φ)),some (.own (.lst (((w1,w2)::W).map ptD))),s4,s5,s6,s7,s8]=some (true,ρ1)/\B ρ1=some (.rt d' ρ2)/\
        ((∃φ a' b' c d'' e f g h,Fl.rt d' ρ2=.nx [a',b',some (.dat (zJ φ)),c,d'',e,f,g,h]/\MA a b φ [])\/(∃ρ,Fl.rt d' ρ2=.rt .non ρ/\∀σ,zA σ a≠zA σ b))):=by
      intro x r e B hB;have lt:φ.length<K/\r.size<=900000:=by
       rcases e with⟨e1,e2⟩|⟨e1,e2⟩
       ·have:=S.lt hM o1 o2 (y:=x) (by rw[←eL,e1]);rw[←eR,e2]at this;exact this
       ·have:=S.lt hM o2 o1 (y:=x) (by rw[←eR,e1]);rw[←eL,e2]at this;exact this
      by_cases ho:x∈vs r
      ·right;exact⟨_,.non,_,r0,hB _ (by rw[if_pos ho]) lt.2 λz=>absurd ho z,.inr ⟨_,rfl,noneL x r e ho⟩⟩
      ·left;obtain⟨b1,b4⟩:=bind x r e ho lt.1;exact⟨_,_,_,r0,.inr (hB _ (by rw[if_neg ho]) lt.2 λ_=>b4),measure x r b1 lt.1,wb φ x r,W,_,_,_,_,_,rfl,b1,rfl,rfl,rfl,rfl,rfl,n8⟩
     cases R with
     |bl y=>
      simp only[T.isBl]at ibR;rw[qW]at ibR fR eq;refine fin y L (.inr ⟨rfl,rfl⟩) _ λfl hfl hz hw=>?_
      have bo:=zaz L hz;have iD:=zcW y (ded (vs L));have dz:qU ((ded (vs L)).map D.str)<=100:=by have:=zcL (ded (vs L));omega
      by_cases ho:y∈vs L
      ·rw[if_pos ho]at hfl;rw[Qf ((jZ (vs L)).mpr ho)]at iD;rw[hfl];simp only[List.map_cons]
       dsimp! [pp,six,fL,fR,nC,eq,ibR,bo,iD,dz,T.isBl,qW]
      ·rw[if_neg ho]at hfl;rw[JA λz=>ho ((jZ (vs L)).mp z)]at iD;have hw:=hw ho;rw[hfl];simp only[List.map_cons]
       dsimp! [pp,six,fL,fR,nC,eq,ibR,bo,iD,dz,hw,qW]
     |nd r us=>
      simp only[T.isBl]at ibR;cases L with
      |bl y=>
       simp only[T.isBl]at ibL;rw[qW]at ibL fL eq;refine fin y (.nd r us) (.inl ⟨rfl,rfl⟩) _ λfl hfl hz hw=>?_
       have bo:=zaz (.nd r us) hz;have iD:=zcW y (ded (vs (.nd r us)));have dz:qU ((ded (vs (.nd r us))).map D.str)<=100:=by have:=zcL (ded (vs (.nd r us)));omega
       by_cases ho:y∈vs (.nd r us)
       ·rw[if_pos ho]at hfl;rw[Qf ((jZ _).mpr ho)]at iD;rw[hfl];simp only[List.map_cons]
        dsimp! [pp,six,fL,fR,nC,eq,ibR,ibL,bo,iD,dz,qW]
       ·rw[if_neg ho]at hfl;rw[JA λz=>ho ((jZ _).mp z)]at iD;have hw:=hw ho;rw[hfl];simp only[List.map_cons]
        dsimp! [pp,six,fL,fR,nC,eq,ibR,ibL,bo,iD,dz,hw,qW]
      |nd q ts=>
       simp only[T.isBl]at ibL;have ep:=zlF (.nd q ts) (.nd r us);by_cases hc:q=r/\ts.length=us.length
       ·obtain⟨rfl,hl⟩:=hc;left;have hp:nX (.nd q ts) (.nd q us)=some (ts.zip us):=by simp[nX,hl]
        rw[hp]at ep;simp only[zgW]at ep;have hm:=hM.pair hLL hRR hl;have wl2:=(S.wl hm).1;have ws:jM φ (·.1) (ts.zip us++W)<jM φ (·.1) ((w1,w2)::W):=by
         rw[zcj,hw0,T.size];have e:jM φ (·.1) (ts.zip us)=T.sizes ts:=by
          unfold jM;have e1:(ts.zip us).map (λw=>zA φ w.1)=((ts.zip us).map (·.1)).map (zA φ):=by rw[Jn];rfl
          rw[e1,QJ (by omega)]
          congr 1
          have:∀t∈ts,zA φ t=t:=λt ht=>zfY λy hy=>hM.idem.vs (t:=w1) (by rw[hLL,vs,wT];exact⟨t,ht,hy⟩)
          rw[JQ this,List.map_id']
         omega
        refine⟨_,[some (.dat a.d),some (.dat b.d),some (.dat (zJ φ)),some (.own (.lst ((ts.zip us++W).map ptD))),some (.dat w1.d),some (.dat w2.d),some (.dat (T.nd q ts).d),some (.dat (T.nd q us).d),some (.dat (.lst ((ts.zip us).map ptD)))],(K - φ.length)*(Bn+1)+jM φ (·.1) (ts.zip us++W),r0,.inl ?_,by omega,φ,ts.zip us++W,_,_,_,_,_,rfl,hm,rfl,rfl,rfl,rfl,rfl,rfl⟩;rw[Jm]at wl2;simp only[List.map_cons,List.map_append];have z1:(ts.zip us).length+W.length<=1000000:=by omega
        simp only[List.length_zip]at z1
        dsimp! [pp,six,fL,fR,nC,eq,ibR,ibL,ep,z1,nH,nG,nZ,nY,n8]
       ·right;have hp:nX (.nd q ts) (.nd r us)=none:=by simp only[nX,if_neg hc]
        rw[hp]at ep;simp only[zgW]at ep;refine⟨_,.non,[some (.dat a.d),some (.dat b.d),some (.dat (zJ φ)),some (.own (.lst (W.map ptD))),some (.dat w1.d),some (.dat w2.d),some (.dat (T.nd q ts).d),some (.dat (T.nd r us).d),some (.dat .non)],r0,?_,.inr ⟨_,rfl,hM.noUni λσ=>?_⟩⟩
        ·simp only[List.map_cons]
         dsimp! [pp,six,fL,fR,nC,eq,ibR,ibL,ep]
        ·simp only;rw[hLL,hRR,zA,zA];intro z;injection z with z1 z2;refine hc ⟨z1,?_⟩
         have:=JV List.length z2;rw[qT,qT]at this;simpa using this) zO (K*(Bn+1)+jM [] (·.1) [(a,b)]) [some (.dat a.d),some (.dat b.d),some (.dat (zJ [])),some (.own (.lst ([(a,b)].map ptD))),none,none,none,none,none] ⟨[],[(a,b)],none,none,none,none,none,rfl,MA.start a b,rfl,rfl,rfl,rfl,rfl,rfl⟩ (by
    have:=S.wl (MA.start a b);have h2:=S.fuel;have e:(K+1)*(Bn+1)=K*(Bn+1)+(Bn+1):=by rw[Nat.add_mul,Nat.one_mul]
    unfold zO
    omega)
 have fe:zJ []=.dic [] []:=rfl;rcases P with⟨φ,a',b',c,d',e,f,g,h,rfl,hm⟩|⟨ρ,rfl,hm⟩
 ·refine⟨some φ,?_,hm⟩;simp only[fe,List.map_cons,List.map_nil,ptD]at e1
  dsimp! [zaE,nH,nG,nZ,nY,zhY,e1,fitR]
 ·refine⟨none,?_,hm⟩;simp only[fe,List.map_cons,List.map_nil,ptD]at e1
  dsimp! [zaE,nH,nG,nZ,nY,zhY,e1,fitR]
theorem zhE{ps:SI}{bs:List Str}{t:T}(h:WT ps bs t):∀x∈vs t,x∈bs:=λx hx=>zom t h x ((zgt t).mpr hx)
def rD(r:T×T):D:=.tup [r.1.d,r.2.d]
structure zmg(rs:List (T×T)):Prop where
 len:rs.length<=9
 lz:∀r∈rs,r.1.size<=20/\r.1.depth<=20
 rz:∀r∈rs,r.2.size<=40/\r.2.depth<=12
mutual
theorem zeY:∀(t:T) (p:List Int),(qX p t).map (·.1)=(plc t).map (p++·)
 | .bl x,p=>by simp[qX,plc]
 | .nd s ts,p=>by rw[qX,plc,Jg,Jg,zdU ts p 0,JB]
theorem zdU:∀(ts:List T) (p:List Int) (k:Nat),(kN p k ts).map (·.1)=(plcL k ts).map (p++·)
 |[],p,k=>by simp[kN,plcL]
 |t::r,p,k=>by
  rw[kN,plcL,JF,JF,zeY t,zdU r p (k+1),Jn]
  congr 1
  apply JQ;intro q _;simp
end
theorem zqz(t:T):plc t=(qX [] t).map (·.1):=by rw[zeY t []];simp
theorem zhQ(t:T):(qX [] t).length=t.size:=by rw[←zkF t,zqz t,Ja]
theorem zbs{t:T}{q:List Int×T}(h:q∈qX [] t):qF t q.1=some q.2:=zgT t [] t (by cases t<;>rfl) q h
theorem zme{ps:SI}{bs:List Str}:∀(p:List Int) (t u:T),qF t p=some u->WT ps bs t->WT ps bs u
 |[],t,u,h,w=>by
  have:some t=some u:=by cases t<;>simpa[qF]using h
  cases this;exact w
 |k::p,t,u,h,w=>by
  obtain⟨s,ts,c,rfl,h0,e,h2⟩:=gH h;cases w with
  |nd hs hk=>exact zme p c u h2 (hk c (List.mem_of_getElem? e))
mutual
theorem znK:∀t:T,(vs t).length<=t.size
 | .bl x=>by simp[vs,T.size]
 | .nd s ts=>by rw[vs,T.size];have:=zki ts;omega
theorem zki:∀ts:List T,(vsL ts).length<=T.sizes ts
 |[]=>by simp[vsL,T.sizes]
 |t::r=>by rw[vsL,T.sizes,Jm];have:=znK t;have:=zki r;omega
end
theorem zlG(l r:T)(hl:l.isBl=false)(hv:∀x∈vs r,x∈vs l)(zl:l.size<=1000)(zr:r.size<=1000):zcw [l.d,r.d]=some (.bl true):=by
 have ib:=gP l;rw[hl]at ib;have b1:=zaz l (by omega);have b2:=zaz r (by omega);have ln:(ded (vs r)).length<=1000000:=by
  have:=zgi (vs r) [];have h2:=znK r
  have:(ded (vs r)).length<=(vs r).length:=by simpa[ded,qP]using this
  omega
 have cm:yG (gN 0) qQ (zdq zO) [none,some (.dat (.lst ((ded (vs l)).map D.str)))] ((ded (vs r)).map D.str)=some (((ded (vs r)).map λ_=>true).map D.bl):=by
  refine zaK (by simp) λi x y hx hy=>?_
  rw[List.getElem?_map]at hx;rw[Jn,List.getElem?_map]at hy;cases e:(ded (vs r))[i]? with
  |none=>rw[e]at hx;cases hx
  |some z=>
   rw[e]at hx hy;cases hx;cases hy
   have hz:z∈ded (vs l):=(jZ _).mpr (hv z ((jZ _).mp (List.mem_of_getElem? e)));have i1:=zcW z (ded (vs l));rw[Qf hz]at i1;have dz:qU ((ded (vs l)).map D.str)<=100:=by have:=zcL (ded (vs l));omega
   exact⟨_,rfl,rfl,by simp! [i1,dz]⟩
 have bo:=zhz ((ded (vs r)).map λ_=>true);have al:((ded (vs r)).map λ_=>true).all id=true:=by simp
 generalize ((ded (vs r)).map λ_=>true)=BB at cm bo al;generalize ded (vs r)=RR at b2 ln cm;have cm':yG (gN 0) qQ (c2 inB (gv 0) (gb 1)) [none,some (.dat (.lst ((ded (vs l)).map D.str)))] (RR.map D.str)=some (BB.map D.bl):=cm
 simp! [zcw,ib,b1,b2,ln,cm',allD,bo,al]
theorem zpw(rs:List (T×T))(hr:rs.length<=100):zca [.lst (rs.map rD)]=some (.lst ((rs.flatMap λr=>[r.1,r.2]).map T.d)):=by
 have key:∀rs:List (T×T),nD (gN 0) (cI (gv 0)) (gN 1) (zcM zO) [none,none] (rs.map rD)=some ((rs.flatMap λr=>[r.1,r.2]).map T.d):=by
  intro rs;induction rs with
  |nil=>rfl
  |cons r rs ih=>
   rw[Jg,nD,ih]
   simp! [rD,datO,innM]
 have k:=key rs;have ln:((rs.flatMap λr=>[r.1,r.2]).map T.d).length<=1000000:=by
  have:∀rs:List (T×T),(rs.flatMap λr=>[r.1,r.2]).length=2*rs.length:=by
   intro rs;induction rs with
   |nil=>rfl
   |cons r rs ih=>rw[QF,Jm,ih];simp;omega
  rw[Ja,this];omega
 generalize ((rs.flatMap λr=>[r.1,r.2]).map T.d)=SS at k ln ⊢;have k':nD (gN 0) (cI (gv 0)) (gN 1) (gv 1) [none,none] (rs.map rD)=some SS:=k
 simp! [zca,zhu,k',ln]
abbrev Cnt:=SI
def cks(C:Cnt):List KD:=C.map λp=>KD.str p.1
def cds(C:Cnt):List D:=C.map λp=>D.int p.2
noncomputable def cval(C:Cnt)(x:Str):Option Int:=(C.find? λp=>decide (p.1=x)).map (·.2)
theorem zrN(C:Cnt):kOk (cks C)=true:=by unfold kOk cks;rw[List.all_map];exact JP.mpr λp _=>rfl
theorem zoi(x:Str):∀C:Cnt,xE (cks C) (cds C) (.str x)=(cval C x).map D.int
 |[]=>by simp[xE,cks,cval]
 |(y,t)::C=>by
  have ih:=zoi x C;by_cases h:y=x
  ·subst h;simp[xE,cks,cds,cval]
  ·have h':¬KD.str y=KD.str x:=λz=>h (by cases z;rfl)
   simp only[xE,cks,cds,cval,List.map_cons,List.zip_cons_cons,List.find?_cons,h,h',decide_false]at ih ⊢;exact ih
theorem znx{C:Cnt}{x:Str}{k:Int}(h:cval C x=some k):(x,k)∈C:=by
 unfold cval at h;cases e:C.find? λp=>decide (p.1=x)with
 |none=>rw[e]at h;cases h
 |some q=>
  rw[e]at h;cases h
  have h1:=List.find?_some e;have h2:=List.mem_of_find?_eq_some e;simp at h1;rw[←h1];exact h2
theorem zhs{C:Cnt}{x:Str}(h:cval C x=none):x∉C.map (·.1):=by intro hx;obtain⟨q,hq,rfl⟩:=Jk.mp hx;unfold cval at h;rw[Option.map_eq_none_iff,List.find?_eq_none]at h;exact h q hq (by simp)
theorem cput{C:Cnt}{x:Str}(h:cval C x=none)(k:Int):xY (cks C) (cds C) (.str x) (.int k)=(cks (C++[(x,k)]),cds (C++[(x,k)])):=by
 have hn:=zhs h;have ha:((cks C).any λy=>decide (y=KD.str x))=false:=by rw[List.any_eq_false];intro y hy;obtain⟨q,hq,rfl⟩:=Jk.mp hy;simp only[decide_eq_true_eq,KD.str.injEq];intro z;exact hn (Jk.mpr ⟨q,hq,z⟩)
 unfold xY;rw[ha];simp[cks,cds]
structure CO(ps:SI)(C:Cnt):Prop where
 nd:(C.map (·.1)).Nodup
 mem:∀c∈C,(c.1,c.2 - 1)∈ps
theorem CO.len{ps:SI}{C:Cnt}(h:CO ps C):C.length<=ps.length:=by
 have:=zch (C.map (·.1)) (ps.map (·.1)) h.nd λx hx=>by obtain⟨c,hc,rfl⟩:=Jk.mp hx;exact Jk.mpr ⟨_,h.mem c hc,rfl⟩
 simpa using this
theorem zlA(ps:SI)(bs:List Str)(hps:ps.length<=100)(ap:∀s k k',(s,k)∈ps->(s,k')∈ps->k=k')(us:List T)(hu:∀u∈us,WT ps bs u/\u.size<=1000):zaw [.lst (us.map T.d)]=some (.lst []):=by
 obtain⟨ρ',f1,C,k3,k4,k5,rfl,_⟩:=yS (g:=gN 3) (b:=zaU zO) (xs:=us.map T.d) (ρ:=[some (.dat (.lst (us.map T.d))),some (.own (.dic [] [])),some (.own (.lst [])),none,none,none])
  (λi ρ=>∃(C:Cnt) (k3 k4 k5:Option Sl),ρ=[some (.dat (.lst (us.map T.d))),some (.own (.dic (cks C) (cds C))),some (.own (.lst [])),k3,k4,k5]/\CO ps C) ⟨[],none,none,none,rfl,by simp,λc hc=>by cases hc⟩ (by
   rintro i x ρ hx ⟨C,k3,k4,k5,rfl,hC⟩;obtain⟨u,hu',rfl⟩:=Jk.mp (List.mem_of_getElem? hx);obtain⟨hw,hz⟩:=hu u hu';have pp:=zaZ u (by omega);obtain⟨ρ2,f2,C2,k4',k5',rfl,hC2⟩:=yS (g:=qO (zQ (gN 4) (zQ (gN 5) qC))) (b:=zaV zO) (xs:=(qX [] u).map pd) (ρ:=[some (.dat (.lst (us.map T.d))),some (.own (.dic (cks C) (cds C))),some (.own (.lst [])),some (.dat u.d),k4,k5])
    (λi ρ=>∃(C:Cnt) (k4 k5:Option Sl),ρ=[some (.dat (.lst (us.map T.d))),some (.own (.dic (cks C) (cds C))),some (.own (.lst [])),some (.dat u.d),k4,k5]/\CO ps C) ⟨C,k4,k5,rfl,hC⟩ (by
     rintro j y ρ hy ⟨C,k4,k5,rfl,hC⟩;obtain⟨q,hq,rfl⟩:=Jk.mp (List.mem_of_getElem? hy);have hp:=zbs hq;have wq:=zme _ _ _ hp hw;have zq:=zcg _ _ _ hp;have ib:=gP q.2;obtain⟨qp,qt⟩:=q;simp only at wq zq ib hp;cases wq with
     |bl h=>
      rename_i x;refine⟨[some (.dat (.lst (us.map T.d))),some (.own (.dic (cks C) (cds C))),some (.own (.lst [])),some (.dat u.d),some (.dat (.tup (qp.map D.int))),some (.dat (.str x))],.inl ?_,C,_,_,rfl,hC⟩;simp only[T.isBl,qW]at ib
      simp! [pd,qW,ib,andM]
     |nd h hk=>
      rename_i s ts;simp only[T.isBl,qZ]at ib;have cv:=zoi s C;have ok:=zrN C;have cl:=hC.len;have kl:(cks C).length<1000000:=by simp[cks];omega
      have ne:neB (.int ((ts.length:Int)+1)) (.int ((ts.length:Int)+1))=some (.bl false):=by simpa using zha ((ts.length:Int)+1) ((ts.length:Int)+1)
      have tl:ts.length+1<=1000000:=by rw[T.size]at zq;have:=gZ ts;omega
      cases e:cval C s with
      |some k=>
       rw[e]at cv;have hk2:=hC.mem _ (znx e)
       have:k - 1=(ts.length:Int):=ap s _ _ hk2 h;have ek:k=(ts.length:Int)+1:=by omega
       subst ek;refine⟨[some (.dat (.lst (us.map T.d))),some (.own (.dic (cks C) (cds C))),some (.own (.lst [])),some (.dat u.d),some (.dat (.tup (qp.map D.int))),some (.dat (.tup (.str s::ts.map T.d)))],.inl ?_,C,_,_,rfl,hC⟩
       dsimp! [pd,qZ,ib,andM,cmpX,sdfM,cv,ok,kl,kdK,ne,tl,atI,ixN]
      |none=>
       rw[e]at cv;have cp:=cput e ((ts.length:Int)+1);refine⟨[some (.dat (.lst (us.map T.d))),some (.own (.dic (cks (C++[(s,(ts.length:Int)+1)])) (cds (C++[(s,(ts.length:Int)+1)])))),some (.own (.lst [])),some (.dat u.d),some (.dat (.tup (qp.map D.int))),some (.dat (.tup (.str s::ts.map T.d)))],.inl ?_,C++[(s,(ts.length:Int)+1)],_,_,rfl,?_⟩
       ·dsimp! [pd,qZ,ib,andM,cmpX,sdfM,cv,ok,kl,kdK,cp,ne,tl,atI,ixN]
       ·refine⟨?_,λc hc=>?_⟩
        ·rw[JF,Qp];refine⟨hC.nd,by simp,λa ha b hb=>?_⟩;simp at hb;subst hb;rintro rfl;exact zhs e ha
        ·rcases JS.mp hc with hc|hc
         ·exact hC.mem c hc
         ·rw[Wc.mp hc];simpa using h)
   refine⟨[some (.dat (.lst (us.map T.d))),some (.own (.dic (cks C2) (cds C2))),some (.own (.lst [])),some (.dat u.d),k4',k5'],.inl ?_,C2,_,_,_,rfl,hC2⟩;simp only[Sl.own]at f2
   simp! [pp,f2])
 simp only[Sl.own]at f1
 simp! [zaw,f1]
theorem WT.mono{ps:SI}{bs cs:List Str}(hb:∀x∈bs,x∈cs){t:T}(h:WT ps bs t):WT ps cs t:=by
 induction h with
 |bl hx=>exact .bl (hb _ hx)
 |nd hs _ ih=>exact .nd hs ih
theorem ziv:(Str.ofString "abcdefghijklmnopqrstuvwxyz").cps.toList.Nodup:=by decide+kernel
theorem zjN{a b:Int}{c:Nat}(h1:atI (Str.ofString "abcdefghijklmnopqrstuvwxyz").cps.toList (a%26)=some c)(h2:atI (Str.ofString "abcdefghijklmnopqrstuvwxyz").cps.toList (b%26)=some c):a%26=b%26:=by
 have a0:0<=a%26:=JI _ (by decide);have a1:a%26<26:=JT _ (by decide);have b0:0<=b%26:=JI _ (by decide);have b1:b%26<26:=JT _ (by decide);rw[zjp a0 (by rw[alen];exact_mod_cast a1)]at h1;rw[zjp b0 (by rw[alen];exact_mod_cast b1)]at h2
 have:=(List.getElem?_inj (by rw[alen];omega) ziv).mp (h1.trans h2.symm);omega
theorem zhr:∀rs:List (T×T),(∀r∈rs,r.1.depth<=20/\r.2.depth<=20)->qU (rs.map rD)<=30
 |[],_=>by simp[qU]
 |r::rs,h=>by
  have h1:=zhr rs λy hy=>h y (Je _ hy)
  have h2:=h r (by simp);have h3:=zlL r.1;have h4:=zlL r.2;simp only[List.map_cons,qU,rD,dep];omega
theorem zje:∀rs:List (T×T),eqL (rs.map rD) (rs.map rD)=some true
 |[]=>by simp[eqL]
 |r::rs=>by simp[eqL,rD,eqD,zpu r.1,zpu r.2,zje rs]
theorem zas(t:T):t.depth<=t.size:=by
 have key:∀n (t:T),t.size<=n->t.depth<=t.size:=by
  intro n;induction n with
  |zero=>intro t h;have:=zbX t;omega
  |succ n ih=>
   intro t h;cases t with
   |bl x=>simp[T.depth,T.size]
   |nd s ts=>
    rw[T.size]at h
    have:∀l:List T,T.sizes l<=n->T.depths l<=T.sizes l:=by
     intro l;induction l with
     |nil=>intro _;simp[T.depths]
     |cons t l ihl=>intro h;rw[T.sizes]at h;have:=ih t (by omega);have:=ihl (by omega);rw[T.depths,T.sizes];omega
    have:=this ts (by omega);rw[T.depth,T.size];omega
 exact key _ t (Jd _)
def lows:List Nat:=(Str.ofString "abcdefghijklmnopqrstuvwxyz").cps.toList
def zix(x:Str):Prop:=∀c∈x.cps.toList,c∈lows
def Lo(x:Str):Prop:=1<=x.length/\zix x
theorem zrg{a b:Str}(h:zix a)(k:zix b):zix (a++b):=λc hc=>by
 have e:(a++b).cps.toList=a.cps.toList++b.cps.toList:=by show(a.cps++b.cps).toList=_;simp
 rw[e]at hc;rcases JS.mp hc with z|z
 ·exact h c z
 ·exact k c z
theorem zrf{n:Int}{c:Nat}(h:atI (Str.ofString "abcdefghijklmnopqrstuvwxyz").cps.toList n=some c):zix ⟨#[c]⟩:=λb hb=>by
 have:b=c:=by simpa using hb
 subst this;unfold atI at h;cases e:ixN (Str.ofString "abcdefghijklmnopqrstuvwxyz").cps.toList.length n with
 |none=>rw[e]at h;cases h
 |some j=>rw[e]at h;exact List.mem_of_getElem? h
def WP(n0:Int)(a k:Nat)(x:Str):Prop:=zix x/\∃cc,atI (Str.ofString "abcdefghijklmnopqrstuvwxyz").cps.toList ((n0/((a:Int)+3)+(a:Int)*(a:Int)+(k:Int))%26)=some cc/\x.cps.toList[a]?=some cc
theorem znN{x:Str}{c:Nat}{i:Nat}:(x++⟨#[c]⟩).cps.toList[i]?=if i<x.length then x.cps.toList[i]? else if i=x.length then some c else none:=by
 have e:(x++⟨#[c]⟩).cps.toList=x.cps.toList++[c]:=by show(x.cps++#[c]).toList=_;simp
 have l:x.length=x.cps.toList.length:=by show x.cps.size=_;simp
 rw[e,l,List.getElem?_append];split
 ·rfl
 ·rename_i h;split
  ·rename_i h2;subst h2;simp
  ·rename_i h2;rw[List.getElem?_eq_none (by rw[Qa];omega)]
theorem zns(c n0:Int)(F:List D)(L a k:Nat)(hL:L<=8)(ha:a<L)(hk:k<4)(h0:0<=n0)(k8 k9:Option Sl):
  ∃(x:Str) (k8' k9':Option Sl),vK (gN 8) (zbK zO) (xJ 0 L) [some (.dat (.int c)),some (.dat (.str "abcdefghijklmnopqrstuvwxyz")),some (.dat (.int n0)),some (.dat (.int L)),some (.dat (.int a)),some (.own (.lst F)),some (.dat (.int k)),some (.dat (.str "")),k8,k9]=
   some (.nx [some (.dat (.int c)),some (.dat (.str "abcdefghijklmnopqrstuvwxyz")),some (.dat (.int n0)),some (.dat (.int L)),some (.dat (.int a)),some (.own (.lst F)),some (.dat (.int k)),some (.dat (.str x)),k8',k9'])/\x.length=L/\WP n0 a k x:=by
 obtain⟨ρ',f1,x,k8',k9',rfl,h1,h2,h3⟩:=yS (g:=gN 8) (b:=zbK zO) (xs:=xJ 0 L) (ρ:=[some (.dat (.int c)),some (.dat (.str "abcdefghijklmnopqrstuvwxyz")),some (.dat (.int n0)),some (.dat (.int L)),some (.dat (.int a)),some (.own (.lst F)),some (.dat (.int k)),some (.dat (.str "")),k8,k9])
  (λi ρ=>∃(x:Str) (k8 k9:Option Sl),ρ=[some (.dat (.int c)),some (.dat (.str "abcdefghijklmnopqrstuvwxyz")),some (.dat (.int n0)),some (.dat (.int L)),some (.dat (.int a)),some (.own (.lst F)),some (.dat (.int k)),some (.dat (.str x)),k8,k9]/\x.length=min i L/\zix x/\(a<i->∃cc,atI (Str.ofString "abcdefghijklmnopqrstuvwxyz").cps.toList ((n0/((a:Int)+3)+(a:Int)*(a:Int)+(k:Int))%26)=some cc/\x.cps.toList[a]?=some cc))
  ⟨"",k8,k9,rfl,by rw[elen];simp,by intro c hc;exact absurd hc (by decide+revert+kernel),λh=>by omega⟩ (by
   rintro i y ρ hy ⟨x,k8,k9,rfl,h1,h2,h3⟩;obtain⟨hi,rfl⟩:=zan hy;have i8:i<8:=by omega
   obtain⟨bb,hbb⟩:∃bb,decide (i=a)=bb:=⟨_,rfl⟩;have o3:zmR (0+(i:Int)+3):=xZ (by omega) (by omega);have o1:zfH (0+(i:Int)) (0+(i:Int)):=yX (by omega) (by omega);have o2:zfH (if bb=true then 1 else 0) (k:Int):=yX (by omega) (by omega);obtain⟨cc,hcc⟩:=zrh alen (n0/(0+(i:Int)+3)+(0+(i:Int))*(0+(i:Int))+(if bb=true then 1 else 0)*(k:Int));have hl:x.length+1<=1000000:=by omega
   have eb:eqB (.int (0+(i:Int))) (.int (a:Int))=some (.bl bb):=by
    have e:((0+(i:Int))==(a:Int))=decide (i=a):=by
     by_cases h:i=a
     ·subst h;simp
     ·have:¬(0+(i:Int))=(a:Int):=by omega
      simp only[h,decide_false];exact beq_eq_false_iff_ne.mpr this
    have d:dep (.int (0+(i:Int)))<=100:=by simp[dep]
    unfold eqB;rw[if_pos d,eqD,e,hbb];rfl
   refine⟨[some (.dat (.int c)),some (.dat (.str "abcdefghijklmnopqrstuvwxyz")),some (.dat (.int n0)),some (.dat (.int L)),some (.dat (.int a)),some (.own (.lst F)),some (.dat (.int k)),some (.dat (.str (x++⟨#[cc]⟩))),some (.dat (.int (0+(i:Int)))),some (.dat (.int (n0/(0+(i:Int)+3)+(0+(i:Int))*(0+(i:Int))+(if bb=true then 1 else 0)*(k:Int))))],.inl ?_,x++⟨#[cc]⟩,_,_,rfl,by rw[zod,len1];omega,zrg h2 (zrf hcc),λh=>?_⟩
   ·generalize (0+(i:Int))=I0 at*;simp[eb,o3,o1,o2,zsT,hcc,len1,hl,qG,jG,zG,zY,setO,kB,xB,xQ,jT,zV,jR,vM,ifM,upT,cT,cTr,xF,kF,orP,yC,vY,orV,vR,c1,c2,cL,cS,zB,zD,cst,gv,gb,gN,qC,zQ,qO,jL,jK,jQ,qQ,cI,cR1,cR2,xT,jD,itS,xH,xW,kE,yZ,xK,yV,zR,qS,nxM,jF,tyN,xM,lim,kL,qH,yQ,xI,xX,kY,xL,jH,qA,jJ,vL,qJ,xS,yM,yD,jY,jP,yU,xA,geD,isB,xN,vZ,xO,kZ,kM,kS,yN,vN,yA,jS,yF,c3,yY,vV,xR,cSg,yJ,itS,Sl.inn,Sl.own,vS,inB,yO,yX,vP,xZ,vQ,vO,yB,at0,at1,at2,at3]
   ·by_cases e:a=i
    ·subst e;refine⟨cc,?_,?_⟩
     ·have:bb=true:=by rw[←hbb];simp
      subst this;simpa using hcc
     ·rw[znN,if_neg (by omega),if_pos (by omega)]
    ·obtain⟨c',e1,e2⟩:=h3 (by omega);refine⟨c',e1,?_⟩;rw[znN,if_pos (by omega)];exact e2)
 rw[gG]at h1 h3;exact⟨x,k8',k9',f1,by omega,h2,h3 ha⟩
theorem zlB(c:Int):∃(w0 w1 w2 w3:Str) (d3:Int),zcu [.int c]=some (.lst ([(w0,0),(w1,1),(w2,2),(w3,d3)].map sd))/\0<=d3/\d3<=3/\[w0,w1,w2,w3].Nodup/\∀x∈[w0,w1,w2,w3],Lo x/\x.length<=8:=by
 obtain⟨n0,e0⟩:∃n0:Int,c%2147483629=n0:=⟨_,rfl⟩;have h0:0<=n0:=by rw[←e0];exact JI _ (by decide)
 have m0:0<=n0%8:=JI _ (by decide);have m1:n0%8<8:=JT _ (by decide);obtain⟨L,eL⟩:∃L:Nat,1+n0%8=(L:Int):=⟨(1+n0%8).toNat,by omega⟩;have a0:0<=n0/8%(L:Int):=JI _ (by omega);have a1:n0/8%(L:Int)<(L:Int):=JT _ (by omega);obtain⟨a,ea⟩:∃a:Nat,n0/8%(L:Int)=(a:Int):=⟨(n0/8%(L:Int)).toNat,by omega⟩;have q0:0<=n0/64%4:=JI _ (by decide);have q1:n0/64%4<4:=JT _ (by decide);obtain⟨d3,e3⟩:∃d3:Int,n0/64%4=d3:=⟨_,rfl⟩;have omL:zgY (L:Int):=by show(0:Int)<_;omega
 have orL:nF (L:Int):=yB (by omega) (by omega);have zL:L<=1000000:=by omega
 obtain⟨ρ',f1,F,k6,k7,k8,k9,rfl,hl,hF⟩:=yS (g:=gN 6) (b:=zdg zO) (xs:=xJ 0 4) (ρ:=[some (.dat (.int c)),some (.dat (.str "abcdefghijklmnopqrstuvwxyz")),some (.dat (.int n0)),some (.dat (.int L)),some (.dat (.int a)),some (.own (.lst [])),none,none,none,none])
  (λi ρ=>∃(F:SI) (k6 k7 k8 k9:Option Sl),ρ=[some (.dat (.int c)),some (.dat (.str "abcdefghijklmnopqrstuvwxyz")),some (.dat (.int n0)),some (.dat (.int L)),some (.dat (.int a)),some (.own (.lst (F.map sd))),k6,k7,k8,k9]/\F.length=i/\∀j p,F[j]?=some p->(p.1.length=L/\WP n0 a j p.1)/\[0,1,2,d3][j]?=some p.2)
  ⟨[],none,none,none,none,rfl,rfl,λj p h=>by simp at h⟩ (by
   rintro i y ρ hy ⟨F,k6,k7,k8,k9,rfl,hl,hF⟩;obtain⟨hi,rfl⟩:=zan hy;obtain⟨x,k8',k9',g1,g2,g3⟩:=zns c n0 (F.map sd) L a i (by omega) (by omega) hi h0 k8 k9;obtain⟨v,ev⟩:∃v:Int,[0,1,2,d3][i]?=some v:=⟨_,List.getElem?_eq_getElem (by simpa using hi)⟩;have av:atI [D.int 0,.int 1,.int 2,.int d3] (i:Int)=some (.int v):=by have:[D.int 0,.int 1,.int 2,.int d3]=[0,1,2,d3].map D.int:=rfl;rw[this,zbC,vA ev];rfl
   have fl:F.length<1000000:=by omega
   rw[Int.zero_add];refine⟨[some (.dat (.int c)),some (.dat (.str "abcdefghijklmnopqrstuvwxyz")),some (.dat (.int n0)),some (.dat (.int L)),some (.dat (.int a)),some (.own (.lst ((F++[(x,v)]).map sd))),some (.dat (.int i)),some (.dat (.str x)),k8',k9'],.inl ?_,F++[(x,v)],_,_,_,_,rfl,by simp[hl],λj p h=>?_⟩
   ·simp only[Sl.own]at g1
    simp! [orL,zL,gG,g1,e3,av,fl,sd]
   ·rw[List.getElem?_append]at h;split at h
    ·exact hF j p h
    ·rename_i hj
     have:j=i:=by have:=(List.getElem?_eq_some_iff.mp h).1;simp at this;omega
     subst this;rw[hl,Nat.sub_self]at h;cases h
     exact⟨⟨g2,g3⟩,ev⟩)
 rw[gG]at hl
 match F,hl,hF,f1 with
 |[p0,p1,p2,p3],_,hF,f1=>
  obtain⟨⟨l0,u0⟩,v0⟩:=hF 0 p0 rfl;obtain⟨⟨l1,u1⟩,v1⟩:=hF 1 p1 rfl;obtain⟨⟨l2,u2⟩,v2⟩:=hF 2 p2 rfl;obtain⟨⟨l3,u3⟩,v3⟩:=hF 3 p3 rfl;obtain⟨w0,x0⟩:=p0;obtain⟨w1,x1⟩:=p1;obtain⟨w2,x2⟩:=p2;obtain⟨w3,x3⟩:=p3;simp only at*;cases v0;cases v1;cases v2;cases v3
  have ne:∀(i j:Nat) (x:Str),i<4->j<4->WP n0 a i x->WP n0 a j x->i=j:=by
   rintro i j x hi hj ⟨_,c1,a1,b1⟩ ⟨_,c2,a2,b2⟩;rw[b1]at b2;cases b2
   have:=zjN a1 a2;omega
  refine⟨w0,w1,w2,w3,d3,?_,by omega,by omega,?_,?_⟩
  ·simp only[Sl.own]at f1;have o8:zgY (8:Int):=by show(0:Int)<_;decide
   simp! [zcu,e0,eL,omL,ea,f1]
  ·simp only[List.nodup_cons,List.mem_cons,List.not_mem_nil,or_false,not_or,not_false_eq_true,List.nodup_nil,and_true];refine⟨⟨λe=>?_,λe=>?_,λe=>?_⟩,⟨λe=>?_,λe=>?_⟩,λe=>?_⟩
   ·subst e;have:=ne 0 1 _ (by omega) (by omega) u0 u1;omega
   ·subst e;have:=ne 0 2 _ (by omega) (by omega) u0 u2;omega
   ·subst e;have:=ne 0 3 _ (by omega) (by omega) u0 u3;omega
   ·subst e;have:=ne 1 2 _ (by omega) (by omega) u1 u2;omega
   ·subst e;have:=ne 1 3 _ (by omega) (by omega) u1 u3;omega
   ·subst e;have:=ne 2 3 _ (by omega) (by omega) u2 u3;omega
  ·intro x hx;simp at hx;rcases hx with rfl|rfl|rfl|rfl
   ·exact⟨⟨by omega,u0.1⟩,by omega⟩
   ·exact⟨⟨by omega,u1.1⟩,by omega⟩
   ·exact⟨⟨by omega,u2.1⟩,by omega⟩
   ·exact⟨⟨by omega,u3.1⟩,by omega⟩
theorem zjS(c:Int)(h:Builtin.Int.intBits c<=2^20):∃n:Int,zbe [.int c]=some (.int n)/\0<=n:=by
 have om:zgY (10^60:Int):=by show(0:Int)<_;decide
 have ok:zfH (c/3) 27182818284590452353602874713526624977572470936999595749669:=.inr ⟨intBits_le_of_natAbs (by omega) h,by decide+kernel⟩;by_cases e:c%3=0
 ·exact⟨c/3%10^60,by simp! [zbe,e,eqD,dep],JI _ (by decide)⟩
 ·exact⟨c/3*27182818284590452353602874713526624977572470936999595749669%10^60,by simp! [zbe,e,ok,eqD,dep],JI _ (by decide)⟩
def wC:Nat->Nat
 |0=>1
 |k+1=>1+3*wC k
theorem zmq:∀k,1<=wC k
 |0=>by simp[wC]
 |k+1=>by rw[wC];omega
theorem zgc{ps:SI}(S:zeI ps)(bs:List Str)(hb:bs.length<=100):∀(f nest:Nat) (n:Int),nest<f->nest<=20->0<=n->
  ∃(t:T) (n':Int),zap f [.int n,.int nest,.lst (ps.map sd),.lst (bs.map D.str)]=some (.lst [t.d,.int n'])/\0<=n'/\WT ps bs t/\t.depth<=nest+1/\t.size<=wC nest
 |0,nest,n,h,_,_=>by omega
 |f+1,nest,n,hf,h20,hn=>by
  have lo:=S.lo;have hi:=S.hi;obtain⟨m,em⟩:∃m:Nat,m=ps.length+bs.length:=⟨_,rfl⟩;have em':(ps.length:Int)+(bs.length:Int)=(m:Int):=by omega
  have q0:0<=n%(m:Int):=JI _ (by omega);have q1:n%(m:Int)<(m:Int):=JT _ (by omega);have d0:0<=n/(m:Int):=Int.ediv_nonneg hn (by omega);have om:zgY (m:Int):=by show(0:Int)<_;omega
  have od:zmR (m:Int):=xZ (by omega) (by omega);obtain⟨k,ek⟩:∃k:Nat,n%(m:Int)=(k:Int):=⟨(n%(m:Int)).toNat,by omega⟩;have zp:ps.length<=1000000:=by omega
  have zb:bs.length<=1000000:=by omega
  obtain⟨n1,en1⟩:∃n1,n/(m:Int)=n1:=⟨_,rfl⟩;rw[en1]at d0;have lp:(ps.map sd).length=ps.length:=Ja _;have lb:(bs.map D.str).length=bs.length:=Ja _;by_cases hk:k<bs.length
  ·obtain⟨x,ex⟩:∃x,bs[k]?=some x:=⟨_,List.getElem?_eq_getElem hk⟩;have ax:atI (bs.map D.str) (k:Int)=some (.str x):=by rw[zbC,vA ex];rfl
   have lt:(k:Int)<(bs.length:Int):=by omega
   refine⟨.bl x,n1,?_,d0,.bl (List.mem_of_getElem? ex),by simp[T.depth],by rw[T.size];exact zmq _⟩;generalize ps.map sd=PS at lp ⊢;generalize bs.map D.str=BS at ax lb ⊢
   simp! [zap,lp,lb,zp,zb,em',om,od,ek,en1,lt,ltD,ax,qW]
  ·obtain⟨j,ej⟩:∃j:Nat,j=k - bs.length:=⟨_,rfl⟩;have jl:j<ps.length:=by omega
   have ej':(k:Int) - (bs.length:Int)=(j:Int):=by omega
   obtain⟨⟨w,c⟩,ew⟩:∃p,ps[j]?=some p:=⟨_,List.getElem?_eq_getElem jl⟩;have wm:=List.mem_of_getElem? ew;have aw:atI (ps.map sd) (j:Int)=some (.tup [.str w,.int c]):=by rw[zbC,vA ew];rfl
   obtain⟨hc0,hc3⟩:=S.cnt _ wm;simp only at hc0 hc3;have lt:¬(k:Int)<(bs.length:Int):=by omega
   obtain⟨⟨w0,c0⟩,ew0⟩:∃p,ps[0]?=some p:=⟨_,List.getElem?_eq_getElem (by omega)⟩;have hc00:=S.fst _ ew0;simp only at hc00;subst hc00;have aw0:atI (ps.map sd) 0=some (.tup [.str w0,.int 0]):=by rw[zbC,show atI ps 0=atI ps ((0:Nat):Int)from rfl,vA ew0];rfl
   by_cases hz:nest=0/\0<c
   ·obtain⟨rfl,hcp⟩:=hz;refine⟨.nd w0 [],n1,?_,d0,.nd (List.mem_of_getElem? ew0) (λ_ h=>by cases h),by simp[T.depth,T.depths],by simp[T.size,T.sizes,wC]⟩;generalize ps.map sd=PS at lp aw aw0 ⊢;generalize bs.map D.str=BS at lb ⊢
    simp! [zap,lp,lb,zp,zb,em',om,od,ek,en1,lt,ltD,gtD,ej',aw,hcp,aw0,qZ,eqD,dep]
   ·obtain⟨cN,ec⟩:∃cN:Nat,c=(cN:Int):=⟨c.toNat,by omega⟩;subst ec;have orc:nF (cN:Int):=yB (by omega) (by omega);have zc:cN<=1000000:=by omega
    have cd:¬((nest:Int)=0/\0<(cN:Int)):=λh=>hz ⟨by omega,h.2⟩
    obtain⟨ρ',f1,ts,n2,k9,k10,rfl,t1,t2,t3⟩:=yS (g:=gN 9) (b:=zel (zap f) zO) (xs:=xJ 0 cN) (ρ:=[some (.dat (.int n1)),some (.dat (.int nest)),some (.dat (.lst (ps.map sd))),some (.dat (.lst (bs.map D.str))),some (.dat (.int m)),some (.dat (.int k)),some (.dat (.str w)),some (.dat (.int cN)),some (.own (.lst [])),none,none])
     (λi ρ=>∃(ts:List T) (n2:Int) (k9 k10:Option Sl),ρ=[some (.dat (.int n2)),some (.dat (.int nest)),some (.dat (.lst (ps.map sd))),some (.dat (.lst (bs.map D.str))),some (.dat (.int m)),some (.dat (.int k)),some (.dat (.str w)),some (.dat (.int cN)),some (.own (.lst (ts.map T.d))),k9,k10]/\ts.length=i/\0<=n2/\∀t∈ts,WT ps bs t/\t.depth<=nest/\t.size<=wC (nest - 1)) ⟨[],n1,none,none,rfl,rfl,d0,λt h=>by cases h⟩ (by
      rintro i y ρ hy ⟨ts,n2,k9,k10,rfl,t1,t2,t3⟩;obtain⟨hi',rfl⟩:=zan hy;have np:1<=nest:=by
       rcases Nat.eq_zero_or_pos nest with h|h
       ·exact absurd ⟨h,by omega⟩ hz
       ·exact h
      obtain⟨t,n',e1,e2,e3,e4,e5⟩:=zgc S bs hb f (nest - 1) n2 (by omega) (by omega) t2;have en:(nest:Int) - 1=((nest - 1:Nat):Int):=by omega
      have tl:ts.length<1000000:=by omega
      refine⟨[some (.dat (.int n')),some (.dat (.int nest)),some (.dat (.lst (ps.map sd))),some (.dat (.lst (bs.map D.str))),some (.dat (.int m)),some (.dat (.int k)),some (.dat (.str w)),some (.dat (.int cN)),some (.own (.lst ((ts++[t]).map T.d))),some (.dat (.int (0+(i:Int)))),some (.dat t.d)],.inl ?_,ts++[t],n',_,_,rfl,by simp[t1],e2,λu hu=>?_⟩
      ·simp! [en,e1,yK,tl]
      ·rcases JS.mp hu with h|h
       ·exact t3 u h
       ·rw[Wc.mp h];exact⟨e3,by omega,e5⟩)
    rw[gG]at t1;have szs:T.sizes ts<=cN*wC (nest - 1):=by
     have:∀l:List T,(∀t∈l,t.size<=wC (nest - 1))->T.sizes l<=l.length*wC (nest - 1):=by
      intro l;induction l with
      |nil=>intro _;simp[T.sizes]
      |cons u l ih=>intro h;rw[T.sizes,Jl,Nat.succ_mul];have:=ih λv hv=>h v (Je _ hv);have:=h u (by simp);omega
     have:=this ts λt h=>(t3 t h).2.2
     rwa[t1]at this
    have dps:T.depths ts<=nest:=by
     have:∀l:List T,(∀t∈l,t.depth<=nest)->T.depths l<=nest:=by
      intro l;induction l with
      |nil=>intro _;simp[T.depths]
      |cons u l ih=>intro h;rw[T.depths];have:=ih λv hv=>h v (Je _ hv);have:=h u (by simp);omega
     exact this ts λt h=>(t3 t h).2.1
    refine⟨.nd w ts,n2,?_,t2,.nd (by rw[t1];exact wm) λt h=>(t3 t h).1,by rw[T.depth];omega,?_⟩
    ·have zt:1+ts.length<=1000000:=by omega
     have tl2:(ts.map T.d).length=ts.length:=Ja _;simp only[Sl.own]at f1;rw[qZ];generalize ps.map sd=PS at lp aw aw0 f1 ⊢;generalize bs.map D.str=BS at lb f1 ⊢;generalize ts.map T.d=TS at f1 tl2 ⊢;by_cases h0:(nest:Int)=0
     ·have h0':¬0<cN:=λh=>cd ⟨h0,by omega⟩
      rw[h0]at f1
      simp! [zap,lp,lb,zp,zb,em',om,od,ek,en1,lt,ltD,gtD,ej',aw,h0,h0',orc,zc,gG,f1,tl2,zt,eqD,dep]
     ·have h00:¬nest=0:=λh=>h0 (by omega)
      simp! [zap,lp,lb,zp,zb,em',om,od,ek,en1,lt,ltD,gtD,ej',aw,h0,h00,orc,zc,gG,f1,tl2,zt,eqD,dep]
    ·rw[T.size];rcases Nat.eq_zero_or_pos nest with h|h
     ·subst h
      have:cN=0:=by
       rcases Nat.eq_zero_or_pos cN with h|h
       ·exact h
       ·exact absurd ⟨by omega,by omega⟩ cd
      subst this;simp only[wC];omega
     ·obtain⟨q,rfl⟩:∃q,nest=q+1:=⟨nest - 1,by omega⟩;rw[wC]
      have:cN*wC (q+1 - 1)<=3*wC q:=Nat.mul_le_mul_right _ (by omega);omega
mutual
theorem zol:∀t:T,(bks t).Nodup
 | .bl x=>by simp[bks]
 | .nd s ts=>by rw[bks];exact zlZ ts [] (by simp)
theorem zlZ:∀(ts:List T) (acc:List Str),acc.Nodup->(kA acc ts).Nodup
 |[],acc,h=>by rw[kA];exact h
 |t::ts,acc,h=>by
  rw[kA];refine zlZ ts _ ?_;rw[Qp];refine⟨h,(zol t).sublist List.filter_sublist,λa ha b hb=>?_⟩;rintro rfl
  have:=(Qc.mp hb).2;simp[ha]at this
end
theorem zcY:∀(n:Nat) (t:T),t.depth<=n->t.size<=900000->zaf n [t.d]=some (.lst ((bks t).map D.str))
 |0,t,h,_=>by have:=gB t;omega
 |n+1,.bl x,h,_=>by simp! [zaf,qW,bks]
 |n+1,.nd s ts,h,hz=>by
  rw[T.depth]at h;rw[T.size]at hz;obtain⟨ρ',f1,k2,k3,rfl⟩:=yS (g:=gN 2) (b:=zcA (zaf n) zO) (xs:=ts.map T.d) (ρ:=[some (.dat (.tup (.str s::ts.map T.d))),some (.own (.lst [])),none,none])
   (λi ρ=>∃(k2 k3:Option Sl),ρ=[some (.dat (.tup (.str s::ts.map T.d))),some (.own (.lst ((kA [] (ts.take i)).map D.str))),k2,k3]) ⟨none,none,by simp[kA]⟩ (by
    rintro i x ρ hx ⟨k2,k3,rfl⟩;rw[List.getElem?_map]at hx;cases e:ts[i]? with
    |none=>rw[e]at hx;cases hx
    |some t=>
     rw[e]at hx;cases hx
     have hi:i<ts.length:=(List.getElem?_eq_some_iff.mp e).1;have et:ts[i]=t:=by rw[List.getElem?_eq_getElem hi]at e;exact Option.some.inj e
     have hm:=List.mem_of_getElem? e;have d1:=vW hm;have d2:=nV hm;have e1:=zcY n t (by omega) (by omega);have tk:ts.take (i+1)=ts.take i++[t]:=by rw[Jp hi,et]
     have e5:kA [] (ts.take (i+1))=kA [] (ts.take i)++(bks t).filter λx=>!decide (x∈kA [] (ts.take i)):=by
      have app:∀(a b:List T) (l:List Str),kA l (a++b)=kA (kA l a) b:=by
       intro a;induction a with
       |nil=>intro b l;simp[kA]
       |cons c a ih=>intro b l;rw[Ql,kA,kA,ih]
      rw[tk,app,kA,kA]
     have l1:=zgu (ts.take i) [];have e6:T.sizes (ts.take i)+t.size<=T.sizes ts:=by
      have:T.sizes ts=T.sizes (ts.take (i+1))+T.sizes (ts.drop (i+1)):=by rw[←zad,Wh]
      rw[tk,zad]at this;simp only[T.sizes]at this;omega
     have l2:=zis t;have nd:=zol t;rw[e5];generalize kA [] (ts.take i)=acc at l1 ⊢;simp only[List.length_nil,Nat.zero_add]at l1;generalize bks t=B at*;obtain⟨ρ2,f2,k3',rfl⟩:=yS (g:=gN 3) (b:=zcB (zaf n) zO) (xs:=B.map D.str) (ρ:=[some (.dat (.tup (.str s::ts.map T.d))),some (.own (.lst (acc.map D.str))),some (.dat t.d),k3])
      (λj ρ=>∃(k3:Option Sl),ρ=[some (.dat (.tup (.str s::ts.map T.d))),some (.own (.lst ((acc++(B.take j).filter λx=>!decide (x∈acc)).map D.str))),some (.dat t.d),k3]) ⟨k3,by simp⟩ (by
       rintro j y ρ hy ⟨k3,rfl⟩;rw[List.getElem?_map]at hy;cases ey:B[j]? with
       |none=>rw[ey]at hy;cases hy
       |some y=>
        rw[ey]at hy;cases hy
        have hj:j<B.length:=(List.getElem?_eq_some_iff.mp ey).1;have eyj:B[j]=y:=by rw[List.getElem?_eq_getElem hj]at ey;exact Option.some.inj ey
        have tkB:B.take (j+1)=B.take j++[y]:=by rw[Jp hj,eyj]
        have fr:y∉B.take j:=by
         intro hm;obtain⟨q,hq⟩:=Qj.mp hm;rw[List.getElem?_take]at hq;split at hq
         ·have:=(List.getElem?_inj hj nd).mp (ey.trans hq.symm);omega
         ·cases hq
        rw[tkB,List.filter_append];have fl:=List.length_filter_le (λx=>!decide (x∈acc)) (B.take j);have tlB:(B.take j).length<=B.length:=by rw[Jw];omega
        have mem:y∈acc++(B.take j).filter (λx=>!decide (x∈acc))↔y∈acc:=by
         rw[JS];constructor
         ·rintro(h|h)
          ·exact h
          ·exact absurd (Qc.mp h).1 fr
         ·exact .inl
        have i1:=zcW y (acc++(B.take j).filter λx=>!decide (x∈acc));have dz:qU ((acc++(B.take j).filter λx=>!decide (x∈acc)).map D.str)<=100:=by have:=zcL (acc++(B.take j).filter λx=>!decide (x∈acc));omega
        have zl:(acc++(B.take j).filter λx=>!decide (x∈acc)).length<1000000:=by rw[Jm];omega
        by_cases h:y∈acc
        ·have fe:[y].filter (λx=>!decide (x∈acc))=[]:=by simp[h]
         rw[fe,JB];rw[Qf (mem.mpr h)]at i1;generalize (acc++(B.take j).filter λx=>!decide (x∈acc))=AC at*;exact⟨[some (.dat (.tup (.str s::ts.map T.d))),some (.own (.lst (AC.map D.str))),some (.dat t.d),some (.dat (.str y))],.inl (by simp! [i1,dz]),_,rfl⟩
        ·have fe:[y].filter (λx=>!decide (x∈acc))=[y]:=by simp[h]
         rw[fe,←JG];rw[JA λz=>h (mem.mp z)]at i1;generalize (acc++(B.take j).filter λx=>!decide (x∈acc))=AC at*;exact⟨[some (.dat (.tup (.str s::ts.map T.d))),some (.own (.lst ((AC++[y]).map D.str))),some (.dat t.d),some (.dat (.str y))],.inl (by simp! [i1,dz,zl]),_,rfl⟩)
     rw[Ja,Qe]at f2;refine⟨[some (.dat (.tup (.str s::ts.map T.d))),some (.own (.lst ((acc++B.filter λx=>!decide (x∈acc)).map D.str))),some (.dat t.d),k3'],.inl ?_,_,_,rfl⟩;simp only[Sl.own]at f2
     simp! [e1,f2])
  rw[Ja,Qe]at f1;simp only[Sl.own]at f1
  simp! [zaf,qZ,gU,f1,bks]
def menu(w0 f g:Str):List (T×T):=
 let a:T:=.nd w0 [];let X:T:=.bl "X";let Y:T:=.bl "Y";let Z:T:=.bl "Z"
 [(.nd g [.nd g [X,Y],Z],.nd g [X,.nd g [Y,Z]]),(.nd g [a,X],X),(.nd g [X,a],X),(.nd f [.nd f [X]],X),(.nd f [a],a),(.nd f [.nd g [X,Y]],.nd g [.nd f [Y],.nd f [X]]),
  (.nd g [.nd f [X],X],a),(.nd f [.nd f [X]],.nd f [X]),(.nd g [X,X],X),(.nd g [.nd f [X],Y],.nd f [.nd g [X,Y]]),(.nd g [X,.nd f [Y]],.nd f [.nd g [X,Y]]),(.nd f [.nd g [X,Y]],Y),(.nd g [.nd g [X,Y],Y],X),(.nd f [X],.nd g [X,a])]
structure Ru(ps:SI)(bs:List Str)(r:T×T):Prop where
 nb:r.1.isBl=false
 vs:∀x∈vs r.2,x∈vs r.1
 w1:WT ps bs r.1
 w2:WT ps bs r.2
 z1:r.1.size<=12
 z2:r.2.size<=5
 d1:r.1.depth<=3
 b1:∃V:List Str,V.length<=3/\∀x∈FL.vs r.1,x∈V
def bl5:List Str:=["A","B","X","Y","Z"]
theorem zph(w0 f g w3:Str)(d3:Int):∀r∈menu w0 f g,Ru [(w0,0),(f,1),(g,2),(w3,d3)] bl5 r:=by
 have wa:WT [(w0,0),(f,1),(g,2),(w3,d3)] bl5 (.nd w0 []):=.nd (by simp) (λ_ h=>by cases h);have wX:WT [(w0,0),(f,1),(g,2),(w3,d3)] bl5 (.bl "X"):=.bl (by simp[bl5]);have wY:WT [(w0,0),(f,1),(g,2),(w3,d3)] bl5 (.bl "Y"):=.bl (by simp[bl5]);have wZ:WT [(w0,0),(f,1),(g,2),(w3,d3)] bl5 (.bl "Z"):=.bl (by simp[bl5]);have wf:∀t,WT [(w0,0),(f,1),(g,2),(w3,d3)] bl5 t->WT [(w0,0),(f,1),(g,2),(w3,d3)] bl5 (.nd f [t]):=λt h=>.nd (by simp) (λu hu=>by rw[Wc.mp hu];exact h)
 have wg:∀t u,WT [(w0,0),(f,1),(g,2),(w3,d3)] bl5 t->WT [(w0,0),(f,1),(g,2),(w3,d3)] bl5 u->WT [(w0,0),(f,1),(g,2),(w3,d3)] bl5 (.nd g [t,u]):=λt u h k=>.nd (by simp) (λv hv=>by simp at hv;rcases hv with rfl|rfl<;>assumption)
 intro r hr;simp only[menu,List.mem_cons,List.not_mem_nil,or_false]at hr;rcases hr with rfl|rfl|rfl|rfl|rfl|rfl|rfl|rfl|rfl|rfl|rfl|rfl|rfl|rfl;all_goals
  refine⟨rfl,by simp[vs,vsL],?_,?_,by simp[T.size,T.sizes],by simp[T.size,T.sizes],by simp[T.depth,T.depths],["X","Y","Z"],by simp,by simp[vs,vsL]⟩
 all_goals
  repeat' first|exact wa|exact wX|exact wY|exact wZ|apply wf|apply wg
theorem znu(w0 f g w3:Str)(d3 p:Int):∃r∈menu w0 f g,zdB [.lst ([(w0,0),(f,1),(g,2),(w3,d3)].map sd),.int p]=some (rD r):=by
 have q0:0<=p%14:=JI _ (by decide);have q1:p%14<14:=JT _ (by decide);obtain⟨k,ek⟩:∃k:Nat,p%14=(k:Int):=⟨(p%14).toNat,by omega⟩;have kl:k<(menu w0 f g).length:=by simp[menu];omega
 obtain⟨r,er⟩:∃r,(menu w0 f g)[k]?=some r:=⟨_,List.getElem?_eq_getElem kl⟩;refine⟨r,List.mem_of_getElem? er,?_⟩;have al:atI ((menu w0 f g).map rD) (k:Int)=some (rD r):=by rw[zbC,vA er];rfl
 generalize rD r=RR at al ⊢;simp only[menu,rD,List.map_cons,List.map_nil,qZ,qW]at al
 simp! [zdB,sd,ek,al]
theorem znt(c:Int)(hc:Builtin.Int.intBits c<=2^20)(w0 f g w3:Str)(d3:Int)(S:zeI [(w0,0),(f,1),(g,2),(w3,d3)]):∃r:T×T,zbu [.int c,.lst ([(w0,0),(f,1),(g,2),(w3,d3)].map sd)]=some (rD r)/\Ru [(w0,0),(f,1),(g,2),(w3,d3)] bl5 r:=by
 have q0:0<=c%3:=JI _ (by decide);by_cases h3:0<c%3
 ·obtain⟨r,hr,e⟩:=znu w0 f g w3 d3 (c/3);refine⟨r,?_,zph w0 f g w3 d3 r hr⟩;generalize [(w0,(0:Int)),(f,1),(g,2),(w3,d3)].map sd=PS at e ⊢
  simp! [zbu,gtD,h3,e]
 ·have b3:Builtin.Int.intBits (c/3)<=2^20:=intBits_le_of_natAbs (by omega) hc;obtain⟨n,en,n0⟩:=zjS (c/3) b3;obtain⟨l,n1,e1,n10,wl,dl,zl⟩:=zgc S ["A","B","X"] (by simp) 100 2 n (by omega) (by omega) n0
  replace e1:zct [.int n,.int 2,.lst ([(w0,0),(f,1),(g,2),(w3,d3)].map sd),.lst [.str "A",.str "B",.str "X"]]=some (.lst [l.d,.int n1]):=e1
  replace zl:l.size<=13:=by simpa[wC]using zl
  have s0:0<=c/9%1000:=JI _ (by decide);obtain⟨l',el,hl1,hl2,hl3,hl4⟩:∃l':T,((l.isBl=true\/12<l.size)/\l'=.nd f [.bl "A"]\/¬(l.isBl=true\/12<l.size)/\l'=l)/\l'.isBl=false/\WT [(w0,0),(f,1),(g,2),(w3,d3)] ["A","B","X"] l'/\l'.size<=12/\l'.depth<=3:=by
   by_cases h:l.isBl=true\/12<l.size
   ·exact⟨_,.inl ⟨h,rfl⟩,rfl,.nd (by simp) (λu hu=>by rw[Wc.mp hu];exact .bl (by simp)),by simp[T.size,T.sizes],by simp[T.depth,T.depths]⟩
   ·exact⟨_,.inr ⟨h,rfl⟩,by simpa using λz=>h (.inl z),wl,Nat.le_of_not_lt λz=>h (.inr z),dl⟩
  have bo:zbf [l'.d]=some (.lst ((bks l').map D.str)):=zcY 100 l' (by omega) (by omega);have bl:=zis l';obtain⟨r,n2,e2,_,wr,dr,zr⟩:=zgc S (bks l') (by omega) 100 1 (n1+c/9%1000) (by omega) (by omega) (by omega)
  replace e2:zct [.int (n1+c/9%1000),.int 1,.lst ([(w0,0),(f,1),(g,2),(w3,d3)].map sd),.lst ((bks l').map D.str)]=some (.lst [r.d,.int n2]):=e2
  replace zr:r.size<=4:=by simpa[wC]using zr
  have vr:∀x∈vs r,x∈vs l':=λx hx=>(zgt l').mp (zhE wr x hx)
  have b5:∀x∈(["A","B","X"]:List Str),x∈bl5:=by simp[bl5]
  refine⟨(l',r),?_,hl1,vr,hl2.mono b5,wr.mono λx hx=>b5 x (zhE hl2 x ((zgt l').mp hx)),hl3,by simp only;omega,hl4,["A","B","X"],by simp,zhE hl2⟩;have cn':zej [l.d]=some (.int l.size):=zlI 100 l (by omega) (by omega);have s1:atI ([(w0,(0:Int)),(f,1),(g,2),(w3,d3)].map sd) 1=some (.tup [.str f,.int 1]):=rfl;generalize [(w0,(0:Int)),(f,1),(g,2),(w3,d3)].map sd=PS at e1 e2 s1 ⊢;generalize (bks l').map D.str=BB at bo e2;rcases el with⟨h,rfl⟩|⟨h,rfl⟩
  ·simp only[qZ,qW,List.map_cons,List.map_nil]at bo;cases l with
   |bl x=>
    rw[qW]at e1
    simp! [zbu,gtD,h3,en,e1,yK,s1,bo,e2,rD,qZ,qW]
   |nd s ts=>
    have hz:12<(T.nd s ts).size:=by simpa[T.isBl]using h
    have hz':(12:Int)<((T.nd s ts).size:Int):=by omega
    rw[qZ]at e1 cn';generalize (T.nd s ts).size=SZ at cn' hz hz'
    simp! [zbu,gtD,h3,en,e1,yK,cn',hz,hz',s1,bo,e2,rD,qZ,qW]
  ·cases l' with
   |bl x=>simp[T.isBl]at hl1
   |nd s ts=>
    have hz:¬12<(T.nd s ts).size:=λz=>h (.inr z)
    have hz':¬(12:Int)<((T.nd s ts).size:Int):=by omega
    rw[qZ]at e1 cn' bo;rw[rD,qZ];generalize (T.nd s ts).size=SZ at cn' hz hz'
    simp! [zbu,gtD,h3,en,e1,yK,cn',hz,hz',bo,e2]
theorem zgb(φ:Fil):∀(n:Nat) (t:T),t.depth<=n->t.size<=1000->(∀x∈vs t,∃u,zH φ x=some u)->zaM n [t.d,zJ φ]=some (zA φ t).d
 |0,t,h,_,_=>by have:=gB t;omega
 |n+1,.bl x,h,_,hv=>by
  have ok:=gM φ;have fv:=zcG x φ;obtain⟨u,hu⟩:=hv x (by simp[vs]);rw[hu]at fv;have hd:(zA φ (.bl x)).d=u.d:=by rw[zA,hu];rfl
  rw[hd]
  simp! [zaM,zJ,qW,ok,fv,kdK,gL]
 |n+1,.nd s ts,h,hz,hv=>by
  rw[T.depth]at h;rw[T.size]at hz;have kl:=gZ ts;have hl:ts.length<=1000000:=by omega
  have w1:yG (gN 0) qQ (zeC (zaM n) zO) [none,some (.dat (zJ φ))] (ts.map T.d)=some ((zM φ ts).map T.d):=by
   rw[qT];refine zaK (by simp) λi x y hx hy=>?_
   rw[List.getElem?_map]at hx;rw[Jn,List.getElem?_map]at hy;cases e:ts[i]? with
   |none=>rw[e]at hx;cases hx
   |some t=>
    rw[e]at hx hy;cases hx;cases hy
    have hm:=List.mem_of_getElem? e;have d1:=vW hm;have d2:=nV hm;have e1:=zgb φ n t (by omega) (by omega) λx hx=>hv x (by rw[vs,wT];exact⟨t,hm,hx⟩)
    exact⟨_,rfl,rfl,by simp! [e1]⟩
  have fl:(zM φ ts).length=ts.length:=by rw[qT];simp
  have z1:1+ts.length<=1000000:=by omega
  rw[zA,qZ,qZ]
  simp! [zaM,gU,w1,hl,fl,z1]
def nm5:List Str:=["X","Y","A","Z","B"]
def U26:List Str:=(Str.ofString "ABCDEFGHIJKLMNOPQRSTUVWXYZ").cps.toList.map λc=>⟨#[c]⟩
theorem zgw:U26.length=26:=by decide+kernel
theorem zon:U26.Nodup:=by decide+kernel
def nmF(ys:List Str):Fil:=nm5.zip (ys.map T.bl)
theorem zmU{ys:List Str}{x y:Str}(h:nm5[ys.length]?=some x):nmF (ys++[y])=nmF ys++[(x,.bl y)]:=by
 have l:ys.length<5:=(List.getElem?_eq_some_iff.mp h).1
 match ys,l,h with
 |[],_,h=>cases h;rfl
 |[a],_,h=>cases h;rfl
 |[a,b],_,h=>cases h;rfl
 |[a,b,c],_,h=>cases h;rfl
 |[a,b,c,d],_,h=>cases h;rfl
 |a::b::c::d::e::r,l,_=>simp only[List.length_cons]at l;omega
theorem zoa:nm5.Nodup:=by decide+kernel
theorem zhm(r:T×T)(h1:r.1.size<=90)(h2:r.2.size<=90)(v1:∀x∈vs r.1,x∈bl5)(v2:∀x∈vs r.2,x∈bl5)(c:Int):
  ∃ys:List Str,ys.length=5/\ys.Nodup/\(∀y∈ys,y∈U26)/\zaT [rD r,.int c]=some (rD (zA (nmF ys) r.1,zA (nmF ys) r.2)):=by
 obtain⟨ρ',f1,L,ys,c',k4,rfl,q1,q2,q3,q4⟩:=yS (g:=gN 4) (b:=zbP zO) (xs:=nm5.map D.str) (ρ:=[some (.dat (rD r)),some (.dat (.int c)),some (.own (.lst (U26.map D.str))),some (.own (.dic [] [])),none])
  (λi ρ=>∃(L ys:List Str) (c':Int) (k4:Option Sl),ρ=[some (.dat (rD r)),some (.dat (.int c')),some (.own (.lst (L.map D.str))),some (.own (zJ (nmF ys))),k4]/\L.length=26 - i/\ys.length=i/\(L++ys).Nodup/\∀y∈L++ys,y∈U26)
  ⟨U26,[],c,none,rfl,zgw,rfl,by simpa using zon,by simp⟩ (by
   rintro i z ρ hz ⟨L,ys,c',k4,rfl,q1,q2,q3,q4⟩;rw[List.getElem?_map]at hz;cases ex:nm5[i]? with
   |none=>rw[ex]at hz;cases hz
   |some x=>
    rw[ex]at hz;cases hz
    have il:i<5:=(List.getElem?_eq_some_iff.mp ex).1;have p0:0<=c'%(L.length:Int):=JI _ (by omega);have p1:c'%(L.length:Int)<(L.length:Int):=JT _ (by omega);obtain⟨j,ej⟩:∃j:Nat,c'%(L.length:Int)=(j:Int):=⟨(c'%(L.length:Int)).toNat,by omega⟩;have jl:j<L.length:=by omega
    obtain⟨y,ey⟩:∃y,L[j]?=some y:=⟨_,List.getElem?_eq_getElem jl⟩;have om:zgY (L.length:Int):=by show(0:Int)<_;omega
    have zL:L.length<=1000000:=by omega
    have si:seqIndex? (j:Int) L.length=some j:=by have h:seqIndex? (j:Int) L.length=some (j:Int).toNat:=PySem.StrLaws.seqIndex_nonneg (by omega) (by omega);simpa using h
    have b1:(j:Int)<9223372036854775808:=by omega
    have b2:-9223372036854775808<=(j:Int):=by omega
    have gy:(L.map D.str)[j]?=some (.str y):=by rw[List.getElem?_map,ey];rfl
    have er:(L.map D.str).eraseIdx j=(L.eraseIdx j).map D.str:=by rw[QV,QV,JF,List.map_take,List.map_drop]
    have nx:nm5[ys.length]?=some x:=by rw[q2];exact ex
    have fn:zH (nmF ys) x=none:=by
     rw[vI];intro hm;unfold nmF at hm;obtain⟨p,hp,e⟩:=Jk.mp hm;obtain⟨k,hk⟩:=Qj.mp hp;rw[List.getElem?_zip_eq_some]at hk;have k1:=hk.1;have k2:=(List.getElem?_eq_some_iff.mp hk.2).1;rw[Ja]at k2;rw[e]at k1
     have:=(List.getElem?_inj (by simp[nm5];omega) zoa).mp (nx.trans k1.symm);omega
    have pd:=znO (nmF ys) x (.bl y);have pf:putF (nmF ys) x (.bl y)=nmF (ys++[y]):=by rw[zmU nx];unfold putF;rw[if_neg];intro h;obtain⟨p,hp,e⟩:=List.any_eq_true.mp h;exact(vI.mp fn) (Jk.mpr ⟨p,hp,by simpa using e⟩)
    rw[pf,qW]at pd;have ok:=gM (nmF ys);have kl:(fks (nmF ys)).length<1000000:=by unfold fks nmF;rw[Ja,Wa,Ja];omega
    have lm:(L.map D.str).length=L.length:=Ja _;refine⟨[some (.dat (rD r)),some (.dat (.int (c'/7+3))),some (.own (.lst ((L.eraseIdx j).map D.str))),some (.own (zJ (nmF (ys++[y])))),some (.dat (.str x))],.inl ?_,L.eraseIdx j,ys++[y],_,_,rfl,by rw[List.length_eraseIdx];simp[jl];omega,by simp[q2],?_,?_⟩
    ·generalize L.map D.str=LL at gy er lm;rw[←er];simp only[zJ]
     simp! [zmz,lm,zL,om,ej,b1,b2,si,gy,kdK,ok,kl,pd]
    ·have pm:((L.eraseIdx j)++(ys++[y])).Perm (L++ys):=by
      have ey':L[j]=y:=by rw[List.getElem?_eq_getElem jl]at ey;exact Option.some.inj ey
      have h1:(y::L.eraseIdx j).Perm L:=by
       have e:L=L.take j++y::L.drop (j+1):=by rw[←ey'];simp
       rw[QV]
       conv=>rhs;rw[e]
       exact List.perm_middle.symm
      have:((L.eraseIdx j)++(ys++[y])).Perm (y::L.eraseIdx j++ys):=by rw[←JG];exact List.perm_append_comm
      exact this.trans (h1.append_right ys)
     exact pm.nodup_iff.mpr q3
    ·intro u hu;rcases JS.mp hu with h|h
     ·exact q4 u (Jq _ (List.mem_of_mem_eraseIdx h))
     ·rcases JS.mp h with h|h
      ·exact q4 u (Ji _ h)
      ·rw[Wc.mp h];exact q4 y (Jq _ (List.mem_of_getElem? ey)))
 have ys5:ys.length=5:=by rw[q2];rfl
 refine⟨ys,ys5,(Qp.mp q3).2.1,λy hy=>q4 y (Ji _ hy),?_⟩;have fv:∀x∈bl5,∃u,zH (nmF ys) x=some u:=by
  intro x hx;cases e:zH (nmF ys) x with
  |some u=>exact⟨u,rfl⟩
  |none=>
   have:=vI.mp e;have hm:x∈nm5:=by simp only[bl5,nm5,List.mem_cons,List.not_mem_nil,or_false]at hx ⊢;rcases hx with h|h|h|h|h<;>simp[h]
   exact absurd (by unfold nmF;rw[QJ (by rw[Ja,ys5];decide)];exact hm) this
 have t1:zcs [r.1.d,zJ (nmF ys)]=some (zA (nmF ys) r.1).d:=zgb _ 100 r.1 (by have:=zas r.1;omega) (by omega) λx hx=>fv x (v1 x hx)
 have t2:zcs [r.2.d,zJ (nmF ys)]=some (zA (nmF ys) r.2).d:=zgb _ 100 r.2 (by have:=zas r.2;omega) (by omega) λx hx=>fv x (v2 x hx)
 have ls:zlf [.str "ABCDEFGHIJKLMNOPQRSTUVWXYZ"]=some (.lst (U26.map D.str)):=by
  have l:(Str.ofString "ABCDEFGHIJKLMNOPQRSTUVWXYZ").length<=lim:=by decide+kernel
  simp only[zlf,if_pos l];unfold U26 zks;rw[Jn];rfl
 have nmm:nm5.map D.str=[.str "X",.str "Y",.str "A",.str "Z",.str "B"]:=rfl;rw[nmm]at f1;simp only[Sl.own,zJ]at f1 t1 t2;generalize U26.map D.str=UU at ls f1;simp only[rD]at f1 ⊢
 simp! [zaT,ls,f1,t1,t2]
mutual
theorem wF{φ:Fil}{x:Str}:∀t:T,x∈vs (zA φ t)↔∃y∈vs t,x∈vs (zA φ (.bl y))
 | .bl z=>by simp[vs]
 | .nd s ts=>by rw[zA,vs,vs];exact zgB ts
theorem zgB{φ:Fil}{x:Str}:∀ts:List T,x∈vsL (zM φ ts)↔∃y∈vsL ts,x∈vs (zA φ (.bl y))
 |[]=>by simp[zM,vsL]
 |t::r=>by
  rw[zM,vsL,vsL,JS,wF t,zgB r];constructor
  ·rintro(⟨y,h1,h2⟩|⟨y,h1,h2⟩)
   ·exact⟨y,Jq _ h1,h2⟩
   ·exact⟨y,Ji _ h1,h2⟩
  ·rintro⟨y,h1,h2⟩;rcases JS.mp h1 with h|h
   ·exact .inl ⟨y,h,h2⟩
   ·exact .inr ⟨y,h,h2⟩
end
theorem WT.named{ps:SI}{bs us:List Str}{φ:Fil}(hφ:∀x∈bs,∃y∈us,zH φ x=some (.bl y)){t:T}(h:WT ps bs t):WT ps us (zA φ t):=by
 induction h with
 |bl h=>
  obtain⟨y,hy,e⟩:=hφ _ h;rw[zA,e];exact .bl hy
 |nd h hs ih=>
  rw[zA,qT];refine .nd (by rw[Ja];exact h) λu hu=>?_
  obtain⟨v,hv,rfl⟩:=Jk.mp hu;exact ih v hv
mutual
theorem zcK{φ:Fil}:∀t:T,(∀x∈vs t,∃y,zA φ (.bl x)=.bl y)->(zA φ t).depth=t.depth
 | .bl x,h=>by obtain⟨y,e⟩:=h x (by simp[vs]);rw[e];simp[T.depth]
 | .nd s ts,h=>by rw[zA,T.depth,T.depth,zfp ts (by rw[vs]at h;exact h)]
theorem zfp{φ:Fil}:∀ts:List T,(∀x∈vsL ts,∃y,zA φ (.bl x)=.bl y)->T.depths (zM φ ts)=T.depths ts
 |[],_=>by simp[zM]
 |t::r,h=>by rw[vsL]at h;rw[zM,T.depths,T.depths,zcK t λx hx=>h x (Jq _ hx),zfp r λx hx=>h x (Ji _ hx)]
end
structure Rv(ps:SI)(r:T×T):Prop where
 nb:r.1.isBl=false
 vs:∀x∈vs r.2,x∈vs r.1
 w1:WT ps U26 r.1
 w2:WT ps U26 r.2
 z1:r.1.size<=12
 z2:r.2.size<=5
 d1:r.1.depth<=3
 b1:∃V:List Str,V.length<=3/\∀x∈FL.vs r.1,x∈V
theorem Ru.named{ps:SI}{r:T×T}(h:Ru ps bl5 r){ys:List Str}(h5:ys.length=5)(hu:∀y∈ys,y∈U26):Rv ps (zA (nmF ys) r.1,zA (nmF ys) r.2):=by
 obtain⟨a,b,c,d,e,rfl⟩:∃a b c d e,ys=[a,b,c,d,e]:=by
  match ys,h5 with
  |[a,b,c,d,e],_=>exact⟨a,b,c,d,e,rfl⟩
 have hφ:∀x∈bl5,∃y∈U26,zH (nmF [a,b,c,d,e]) x=some (.bl y):=by
  intro x hx;simp only[bl5,List.mem_cons,List.not_mem_nil,or_false]at hx;have f:zH (nmF [a,b,c,d,e]) "X"=some (.bl a)/\zH (nmF [a,b,c,d,e]) "Y"=some (.bl b)/\zH (nmF [a,b,c,d,e]) "A"=some (.bl c)/\zH (nmF [a,b,c,d,e]) "Z"=some (.bl d)/\zH (nmF [a,b,c,d,e]) "B"=some (.bl e):=by have nd:((nmF [a,b,c,d,e]).map (·.1)).Nodup:=zoa;exact⟨wD nd ("X",.bl a) (by simp[nmF,nm5]),wD nd ("Y",.bl b) (by simp[nmF,nm5]),wD nd ("A",.bl c) (by simp[nmF,nm5]),wD nd ("Z",.bl d) (by simp[nmF,nm5]),wD nd ("B",.bl e) (by simp[nmF,nm5])⟩
  obtain⟨f1,f2,f3,f4,f5⟩:=f;rcases hx with rfl|rfl|rfl|rfl|rfl
  ·exact⟨c,hu c (by simp),f3⟩
  ·exact⟨e,hu e (by simp),f5⟩
  ·exact⟨a,hu a (by simp),f1⟩
  ·exact⟨b,hu b (by simp),f2⟩
  ·exact⟨d,hu d (by simp),f4⟩
 have hm:∀p∈nmF [a,b,c,d,e],p.2.size<=1:=by intro p hp;simp only[nmF,nm5,List.map_cons,List.map_nil,List.zip_cons_cons,List.zip_nil_right,List.mem_cons,List.not_mem_nil,or_false]at hp;rcases hp with rfl|rfl|rfl|rfl|rfl<;>simp[T.size]
 have s1:=zaH (φ:=nmF [a,b,c,d,e]) (m:=1) (by omega) hm r.1;have s2:=zaH (φ:=nmF [a,b,c,d,e]) (m:=1) (by omega) hm r.2;have z1:=h.z1;have z2:=h.z2;refine⟨?_,λx hx=>?_,h.w1.named hφ,h.w2.named hφ,by simp only;omega,by simp only;omega,?_,?_⟩
 ·have:=h.nb;simp only;cases e:r.1 with
  |bl x=>rw[e]at this;simp[T.isBl]at this
  |nd s ts=>simp[zA,T.isBl]
 ·obtain⟨y,h1,h2⟩:=(wF r.2).mp hx;exact(wF r.1).mpr ⟨y,h.vs y h1,h2⟩
 ·have:=h.d1;rw[zcK r.1 λx hx=>by obtain⟨y,_,e⟩:=hφ x (zhE h.w1 x hx);exact⟨y,xP e⟩];exact this
 ·obtain⟨V,v1,v2⟩:=h.b1;refine⟨V.map λx=>match zA (nmF [a,b,c,d,e]) (.bl x)with| .bl y=>y| .nd _ _=>x,by simpa using v1,λx hx=>?_⟩;obtain⟨y,h1,h2⟩:=(wF r.1).mp hx;obtain⟨z,_,e⟩:=hφ y (zhE h.w1 y h1);refine Jk.mpr ⟨y,v2 y h1,?_⟩;rw[xP e]at h2 ⊢;simp[FL.vs]at h2;exact h2.symm
theorem zjL{ns:List Int}(h:ziw ns)(k:Int):Builtin.Int.intBits (cellOf ns k)<=2^20:=by
 unfold cellOf;rw[List.getD_eq_getElem?_getD];cases e:ns[k.toNat]? with
 |none=>simp[Builtin.Int.intBits]
 |some v=>exact h v (List.mem_of_getElem? e)
theorem zlC(ns:List Int)(hL:ziw ns)(most:Nat)(hm:most<=9):∃(w0 f g w3:Str) (d3:Int) (rs:List (T×T)),
  zaP [.scr ns,.int most]=some (.lst [.lst ([(w0,0),(f,1),(g,2),(w3,d3)].map sd),.lst (rs.map rD)])/\zeI [(w0,0),(f,1),(g,2),(w3,d3)]/\[w0,f,g,w3].Nodup/\(∀x∈[w0,f,g,w3],Lo x/\x.length<=8)/\rs.length<=most/\∀r∈rs,Rv [(w0,0),(f,1),(g,2),(w3,d3)] r:=by
 have c0:=zlJ ns 0 (by omega);have c1':=zlJ ns 1 (by omega);obtain⟨w0,f,g,w3,d3,es,h0,h3,hnd,hlo⟩:=zlB (cellOf ns 0);have S:zeI [(w0,0),(f,1),(g,2),(w3,d3)]:=by
  refine⟨by simp,by simp,λp hp=>?_,λp hp=>?_,λp hp=>?_⟩
  ·simp at hp;rcases hp with rfl|rfl|rfl|rfl<;>simp only<;>omega
  ·cases hp;rfl
  ·simp at hp;rcases hp with rfl|rfl|rfl|rfl
   ·have:=(hlo w0 (by simp)).2;simp only;omega
   ·have:=(hlo f (by simp)).2;simp only;omega
   ·have:=(hlo g (by simp)).2;simp only;omega
   ·have:=(hlo w3 (by simp)).2;simp only;omega
 have m0:0<=cellOf ns 1%(8*(most:Int)+1):=JI _ (by omega);have m1:cellOf ns 1%(8*(most:Int)+1)<8*(most:Int)+1:=JT _ (by omega);obtain⟨m,em⟩:∃m:Nat,(cellOf ns 1%(8*(most:Int)+1)+7)/8=(m:Int):=⟨((cellOf ns 1%(8*(most:Int)+1)+7)/8).toNat,by omega⟩;have ml:m<=most:=by omega
 have om:zgY (8*(most:Int)+1):=by show(0:Int)<_;omega
 have ok8:zfH 8 (most:Int):=yX (by omega) (by omega);have orm:nF (m:Int):=yB (by omega) (by omega);have zm:m<=1000000:=by omega
 obtain⟨rs,r1,r2,r3⟩:=zgk rD (λ_ r=>Ru [(w0,0),(f,1),(g,2),(w3,d3)] bl5 r) (g:=gN 0) (f:=zdp zO) (ρ:=[none,some (.dat (.lst ([(w0,0),(f,1),(g,2),(w3,d3)].map sd))),some (.dat (.scr ns))]) (xs:=xJ 0 m) 0 (by intro i x hx;obtain⟨hi,rfl⟩:=zan hx;rw[Int.zero_add];have ci:=zlJ ns (2+(i:Int)) (by omega);obtain⟨r,e,hr⟩:=znt (cellOf ns (2+(i:Int))) (zjL hL _) w0 f g w3 d3 S;generalize [(w0,(0:Int)),(f,1),(g,2),(w3,d3)].map sd=PS at e ⊢;exact⟨_,r,rfl,by simp! [ci,e],hr⟩)
 rw[gG]at r2;obtain⟨qs,s1,s2,s3⟩:=zgk rD (λ_ r=>Rv [(w0,0),(f,1),(g,2),(w3,d3)] r) (g:=gN 0) (f:=zdo zO) (ρ:=[none,some (.dat (.lst (rs.map rD))),some (.dat (.scr ns))]) (xs:=xJ 0 m) 0 (by
  intro i x hx;obtain⟨hi,rfl⟩:=zan hx;rw[Int.zero_add];obtain⟨r,er⟩:∃r,rs[i]?=some r:=⟨_,List.getElem?_eq_getElem (by omega)⟩;have ar:atI (rs.map rD) (i:Int)=some (rD r):=by rw[zbC,vA er];rfl
  have hr:=r3 i r er;have z1:=hr.z1;have z2:=hr.z2;have ok5:zfH 5 (i:Int):=yX (by omega) (by omega);obtain⟨ys,y1,_,y3,y4⟩:=zhm r (by omega) (by omega) (λx hx=>zhE hr.w1 x hx) (λx hx=>zhE hr.w2 x hx) (cellOf ns 1/33+5*(i:Int));refine⟨_,(zA (nmF ys) r.1,zA (nmF ys) r.2),rfl,?_,hr.named y1 y3⟩;generalize rs.map rD=RS at ar ⊢
  simp! [ar,c1',ok5,y4])
 rw[gG]at s2;refine⟨w0,f,g,w3,d3,qs,?_,S,hnd,hlo,by omega,λr hr=>?_⟩
 ·generalize [(w0,(0:Int)),(f,1),(g,2),(w3,d3)].map sd=PS at es r1 ⊢;generalize rs.map rD=RS at r1 s1;generalize qs.map rD=QS at s1 ⊢
  simp! [zaP,c0,es,c1',ok8,om,em,orm,zm,gG,r1,s1]
 ·obtain⟨i,hi⟩:=Qj.mp hr;exact s3 i r hi
mutual
theorem zbI{α β γ:Fil}:∀t:T,(∀x∈vs t,zA β (zA α (.bl x))=zA γ (.bl x))->zA β (zA α t)=zA γ t
 | .bl x,h=>h x (by simp[vs])
 | .nd s ts,h=>by
  have e:∀(σ:Fil) (us:List T),zA σ (.nd s us)=.nd s (zM σ us):=λσ us=>by rw[zA]
  rw[e,e,e,zcR ts (by rw[vs]at h;exact h)]
theorem zcR{α β γ:Fil}:∀ts:List T,(∀x∈vsL ts,zA β (zA α (.bl x))=zA γ (.bl x))->zM β (zM α ts)=zM γ ts
 |[],_=>by simp[zM]
 |t::r,h=>by rw[zM,zM,zM,zbI t λx hx=>h x (by rw[vsL];exact Jq _ hx),zcR r λx hx=>h x (by rw[vsL];exact Ji _ hx)]
end
mutual
theorem zpO{α β:Fil}:∀t:T,zA β (zA α t)=t->∀x∈vs t,zA β (zA α (.bl x))=.bl x
 | .bl y,h,x,hx=>by simp[vs]at hx;subst hx;exact h
 | .nd s ts,h,x,hx=>by
  have e:∀(σ:Fil) (us:List T),zA σ (.nd s us)=.nd s (zM σ us):=λσ us=>by rw[zA]
  rw[e,e]at h;rw[vs]at hx;exact zgv ts (by injection h) x hx
theorem zgv{α β:Fil}:∀ts:List T,zM β (zM α ts)=ts->∀x∈vsL ts,zA β (zA α (.bl x))=.bl x
 |[],_,x,hx=>by simp[vsL]at hx
 |t::r,h,x,hx=>by
  rw[zM,zM]at h;injection h with h1 h2;rw[vsL]at hx;rcases JS.mp hx with hx|hx
  ·exact zpO t h1 x hx
  ·exact zgv r h2 x hx
end
mutual
theorem zpV{α:Fil}{ρ:Str->Str}:∀t:T,(∀x∈vs t,zA α (.bl x)=.bl (ρ x))->vs (zA α t)=(vs t).map ρ
 | .bl x,h=>by rw[h x (by simp[vs])];simp[vs]
 | .nd s ts,h=>by rw[zA,vs,vs,zhG ts (by rw[vs]at h;exact h)]
theorem zhG{α:Fil}{ρ:Str->Str}:∀ts:List T,(∀x∈vsL ts,zA α (.bl x)=.bl (ρ x))->vsL (zM α ts)=(vsL ts).map ρ
 |[],_=>by simp[zM,vsL]
 |t::r,h=>by rw[zM,vsL,vsL,JF,zpV t λx hx=>h x (by rw[vsL];exact Jq _ hx),zhG r λx hx=>h x (by rw[vsL];exact Ji _ hx)]
end
theorem zgh{ρ:Str->Str}:∀(l acc:List Str),(∀x∈acc++l,∀y∈acc++l,ρ x=ρ y->x=y)->qP (acc.map ρ) (l.map ρ)=(qP acc l).map ρ
 |[],acc,_=>by simp[qP]
 |x::l,acc,h=>by
  have mem:ρ x∈acc.map ρ↔x∈acc:=by
   constructor
   ·intro hm;obtain⟨y,hy,e⟩:=Jk.mp hm;rw[←h y (by simp[hy]) x (by simp) e];exact hy
   ·exact λhm=>Jk.mpr ⟨x,hm,rfl⟩
  have e1:qP (acc.map ρ) ((x::l).map ρ)=qP (if ρ x∈acc.map ρ then acc.map ρ else acc.map ρ++[ρ x]) (l.map ρ):=rfl;have e2:qP acc (x::l)=qP (if x∈acc then acc else acc++[x]) l:=rfl;rw[e1,e2];by_cases hx:x∈acc
  ·rw[if_pos (mem.mpr hx),if_pos hx];exact zgh l acc λa ha b hb=>h a (by simp at ha ⊢;rcases ha with h|h<;>simp[h]) b (by simp at hb ⊢;rcases hb with h|h<;>simp[h])
  ·rw[if_neg λz=>hx (mem.mp z),if_neg hx]
   have:=zgh (ρ:=ρ) l (acc++[x]) λa ha b hb=>h a (by simpa using ha) b (by simpa using hb)
   rw[JF]at this;exact this
theorem zpz{ρ:Str->Str}(l:List Str)(h:∀x∈l,∀y∈l,ρ x=ρ y->x=y):ded (l.map ρ)=(ded l).map ρ:=zgh l [] (by simpa using h)
theorem zdk{ρ:Str->Str}{x:Str}:∀(D:List Str) (M:List T),(∀y∈D,ρ y=ρ x->y=x)->zH ((D.map ρ).zip M) (ρ x)=zH (D.zip M) x
 |[],M,_=>by simp[zH]
 |d::D,[],_=>by simp[zH]
 |d::D,m::M,h=>by
  have ih:=zdk D M λy hy=>h y (Je _ hy)
  unfold zH at ih ⊢;simp only[List.map_cons,List.zip_cons_cons,List.find?_cons];by_cases e:d=x
  ·subst e;simp
  ·have:¬ρ d=ρ x:=λz=>e (h d (by simp) z)
   simp only[e,this,decide_false];exact ih
def nmC(L V:List Str):Fil:=(ded V).zip (L.map T.bl)
def vX(L:List Str)(ts:List T):List T:=zM (nmC L (vsL ts)) ts
theorem zgo{L:List Str}{α β:Fil}{ts:List T}(hl:(ded (vsL ts)).length<=L.length)(h:zM β (zM α ts)=ts):vX L (zM α ts)=vX L ts:=by
 have hb:=zgv ts h;have ex:∀x∈vsL ts,∃y,zA α (.bl x)=.bl y/\zA β (.bl y)=.bl x:=λx hx=>by
  have:=hb x hx;cases e:zA α (.bl x)with
  |bl y=>rw[e]at this;exact⟨y,rfl,this⟩
  |nd s us=>rw[e,zA]at this;cases this
 let ρ:Str->Str:=λx=>match zA α (.bl x)with
  | .bl y=>y
  | .nd _ _=>x
 have hρ:∀x∈vsL ts,zA α (.bl x)=.bl (ρ x):=λx hx=>by
  obtain⟨y,e,_⟩:=ex x hx
  have:ρ x=y:=by show(match zA α (.bl x)with| .bl y=>y| .nd _ _=>x)=y;rw[e]
  rw[e,this]
 have inj:∀x∈vsL ts,∀y∈vsL ts,ρ x=ρ y->x=y:=λx hx y hy e=>by have h1:=hb x hx;have h2:=hb y hy;rw[hρ x hx]at h1;rw[hρ y hy,←e,h1]at h2;exact T.bl.inj h2
 unfold vX;have e1:vsL (zM α ts)=(vsL ts).map ρ:=zhG ts hρ;rw[e1];refine zcR ts λx hx=>?_
 rw[hρ x hx];have fv:zH (nmC L ((vsL ts).map ρ)) (ρ x)=zH (nmC L (vsL ts)) x:=by unfold nmC;rw[zpz _ inj];exact zdk _ _ λy hy e=>inj y ((jZ _).mp hy) x hx e
 rw[zA,zA,fv];have hm:x∈ded (vsL ts):=(jZ _).mpr hx;cases e:zH (nmC L (vsL ts)) x with
 |some u=>rfl
 |none=>
  have:=vI.mp e;unfold nmC at this;rw[QJ (by rw[Ja];exact hl)]at this;exact absurd hm this
def wE(V:List Str)(f:Str->T):Fil:=V.map λx=>(x,f x)
theorem zhh(f:Str->T)(x:Str):∀V:List Str,zH (wE V f) x=if x∈V then some (f x)else none
 |[]=>by simp[zH,wE]
 |y::V=>by
  have ih:=zhh f x V;unfold zH wE at ih ⊢;simp only[List.map_cons,List.find?_cons];by_cases e:y=x
  ·subst e;simp
  ·have e':¬x=y:=λz=>e z.symm
   simp only[e,decide_false,List.mem_cons,e',false_or];exact ih
theorem zak{V:List Str}{α β:Fil}(t:T)(h:∀x∈vs t,x∈V):zA (wE V λx=>zA β (zA α (.bl x))) t=zA β (zA α t):=by
 symm;refine zbI t λx hx=>?_
 have:zA (wE V λx=>zA β (zA α (.bl x))) (.bl x)=zA β (zA α (.bl x)):=by rw[zA,zhh,if_pos (h x hx)];rfl
 exact this.symm
theorem zec{a b:T}{φ δ ε φ':Fil}(hφ:MA a b φ [])(hφ':MA (zA δ a) (zA δ b) φ' []){V:List Str}(va:∀x∈vs a,x∈V)(vb:∀x∈vs b,x∈V)(hε:∀x∈V,zA ε (zA δ (.bl x))=.bl x){base:List T}(hv:∀t∈base,∀x∈vs t,x∈V){L:List Str}(hl:(ded (vsL (zM φ base))).length<=L.length):vX L (zM φ' (zM δ base))=vX L (zM φ base):=by
 have back:∀t:T,(∀x∈vs t,x∈V)->zA ε (zA δ t)=t:=λt h=>by
  have:=zbI (α:=δ) (β:=ε) (γ:=[]) t λx hx=>by rw[hε x (h x hx),wJ]
  rw[this,wJ]
 have u1:zA (wE V λx=>zA φ' (zA δ (.bl x))) a=zA (wE V λx=>zA φ' (zA δ (.bl x))) b:=by rw[zak a va,zak b vb];exact(hφ'.eqv φ').mpr ⟨hφ'.idem.resp,λw h=>by cases h⟩
 have r1:jU (wE V λx=>zA φ' (zA δ (.bl x))) φ:=((hφ.eqv _).mp u1).1;obtain⟨V',hV'⟩:∃V':List Str,∀t:T,(∀x∈vs t,x∈V)->∀y∈vs (zA δ t),y∈V':=
  ⟨V.flatMap λx=>vs (zA δ (.bl x)),λt h y hy=>by obtain⟨x,hx,hy⟩:=(wF t).mp hy;exact List.mem_flatMap.mpr ⟨x,h x hx,hy⟩⟩
 have u2:zA (wE V' λy=>zA φ (zA ε (.bl y))) (zA δ a)=zA (wE V' λy=>zA φ (zA ε (.bl y))) (zA δ b):=by rw[zak _ (hV' a va),zak _ (hV' b vb),back a va,back b vb];exact(hφ.eqv φ).mpr ⟨hφ.idem.resp,λw h=>by cases h⟩
 have r2:jU (wE V' λy=>zA φ (zA ε (.bl y))) φ':=((hφ'.eqv _).mp u2).1;have k1:zM φ' (zM δ base)=zM (wE V λx=>zA φ' (zA δ (.bl x))) (zM φ base):=by rw[zbY r1];simp only[qT,List.map_map];apply JQ;intro t ht;exact(zak t (hv t ht)).symm
 have k2:zM (wE V' λy=>zA φ (zA ε (.bl y))) (zM φ' (zM δ base))=zM φ base:=by rw[zbY r2];simp only[qT,List.map_map];apply JQ;intro t ht;show zA _ (zA δ t)=_;rw[zak _ (hV' t (hv t ht)),back t (hv t ht)]
 rw[k1]at k2 ⊢;exact zgo hl k2
theorem From.bound2{a b:T}{φ:Fil}{E:Str->T}(h:From a b φ E)(nd:(φ.map (·.1)).Nodup)(h4:∀u,qV a b u->u=a\/u=b\/u.size<=4)(ha:a.size<=12)(hb:b.size<=12):
  ∀(n:Nat) (vis:List Str) (ca cb:Nat),vis.Nodup->(∀v∈vis,v∈φ.map (·.1))->n=φ.length - vis.length->(ca=3\/ca=1/\∃v∈vis,E v=a)->(cb=3\/cb=1/\∃v∈vis,E v=b)->
   ∀p∈φ,(∀v∈vis,∀t,zH φ v=some t->p.2.size<t.size)->p.2.size<=4^n*(ca*cb):=by
 intro n;induction n with
 |zero=>
  intro vis ca cb hn hv hl _ _ p hp hlt;exfalso;have np:p.1∉vis:=λz=>by have:=hlt p.1 z p.2 (wD nd p hp);omega
  have:=zch (p.1::vis) (φ.map (·.1)) (QU.mpr ⟨np,hn⟩) λx hx=>by
   rcases JC.mp hx with rfl|hx
   ·exact Jk.mpr ⟨p,hp,rfl⟩
   ·exact hv x hx
  rw[Jl,Ja]at this;omega
 |succ n ih=>
  intro vis ca cb hn hv hl hca hcb p hp hlt;have np:p.1∉vis:=λz=>by have:=hlt p.1 z p.2 (wD nd p hp);omega
  obtain⟨h1,h2,h3⟩:=h p hp;have key:∀ca' cb',(ca'=3\/ca'=1/\∃v∈p.1::vis,E v=a)->(cb'=3\/cb'=1/\∃v∈p.1::vis,E v=b)->∀z∈vs (E p.1),∀v,zH φ z=some v->v.size<=4^n*(ca'*cb'):=by
   intro ca' cb' k1 k2 z hz v hv';obtain⟨q,hq,rfl,rfl⟩:=zaC hv';refine ih (p.1::vis) ca' cb' (QU.mpr ⟨np,hn⟩) (λx hx=>?_) (by rw[Jl];omega) k1 k2 q hq λx hx t ht=>?_
   ·rcases JC.mp hx with rfl|hx
    ·exact Jk.mpr ⟨p,hp,rfl⟩
    ·exact hv x hx
   ·have l1:=h.lt hp hz hv';rcases JC.mp hx with rfl|hx
    ·rw[wD nd p hp]at ht;cases ht;exact l1
    ·have:=hlt x hx t ht;omega
  have fresh:∀c:T,E p.1=c->∀v∈vis,E v≠c:=λc e v hvv ev=>by
   obtain⟨q,hq,e1⟩:=Jk.mp (hv v hvv);have e2:=(h q hq).2.1
   have:=hlt v hvv q.2 (by rw[←e1];exact wD nd q hq);rw[e1,ev,←e,←h2]at e2;rw[e2]at this;omega
  have up:∀{c:Nat}{t:T},(c=3\/c=1/\∃v∈vis,E v=t)->(c=3\/c=1/\∃v∈p.1::vis,E v=t):=λk=>k.imp id λ⟨k1,v,k2,k3⟩=>⟨k1,v,Je _ k2,k3⟩
  have pp:1<=4^n:=Nat.pos_of_ne_zero (by intro e;rw[Nat.pow_eq_zero]at e;omega);have ca1:1<=ca:=by rcases hca with h|h<;>omega
  have cb1:1<=cb:=by rcases hcb with h|h<;>omega
  have e4:(4:Nat)^(n+1)=4*4^n:=by rw[Nat.pow_succ,Nat.mul_comm]
  rw[e4];rcases h4 _ h1 with e|e|e
  ·have c3:ca=3:=by
    rcases hca with k|⟨_,v,k1,k2⟩
    ·exact k
    ·exact absurd k2 (fresh a e v k1)
   have z:=zbj (φ:=φ) (m:=4^n*(1*cb)) (Nat.mul_pos pp (Nat.mul_pos (by omega) cb1)) (E p.1) (key 1 cb (.inr ⟨rfl,p.1,by simp,e⟩) (up hcb));rw[←h2]at z;refine Jt z (Jt (Qg (by rw[e];exact ha) (Jd _)) ?_);rw[c3];generalize 4^n=N;rw[Nat.one_mul,show(4*N*(3*cb))=12*(N*cb) by rw[Nat.mul_assoc,Nat.mul_left_comm N 3 cb,←Nat.mul_assoc]];exact Jd _
  ·have c3:cb=3:=by
    rcases hcb with k|⟨_,v,k1,k2⟩
    ·exact k
    ·exact absurd k2 (fresh b e v k1)
   have z:=zbj (φ:=φ) (m:=4^n*(ca*1)) (Nat.mul_pos pp (Nat.mul_pos ca1 (by omega))) (E p.1) (key ca 1 (up hca) (.inr ⟨rfl,p.1,by simp,e⟩));rw[←h2]at z;refine Jt z (Jt (Qg (by rw[e];exact hb) (Jd _)) ?_);rw[c3];generalize 4^n=N;rw[Nat.mul_one,show(4*N*(ca*3))=12*(N*ca) by rw[Nat.mul_comm ca 3,Nat.mul_assoc,Nat.mul_left_comm N 3 ca,←Nat.mul_assoc]];exact Jd _
  ·have z:=zbj (φ:=φ) (m:=4^n*(ca*cb)) (Nat.mul_pos pp (Nat.mul_pos ca1 cb1)) (E p.1) (key ca cb (up hca) (up hcb));rw[←h2]at z;refine Jt z (Jt (Qg e (Jd _)) ?_);rw[Nat.mul_assoc];exact Jd _
structure vC(a b:T):Prop where
 h4:∀u,qV a b u->u=a\/u=b\/u.size<=4
 hd:∀u,qV a b u->u.depth<=3
 za:a.size<=12
 zb:b.size<=12
 ks:∃V:List Str,V.length<=6/\∀x,x∈vs a\/x∈vs b->x∈V
section
variable{a b:T}{φ:Fil}{W:List (T×T)}
theorem vC.zu(S:vC a b){u:T}(hu:qV a b u):u.size<=12:=by have:=S.za;have:=S.zb;rcases S.h4 u hu with rfl|rfl|h<;>omega
theorem vC.len(S:vC a b)(h:MA a b φ W):φ.length<=6:=by
 obtain⟨V,h1,h2⟩:=S.ks
 have:=zch (φ.map (·.1)) V h.nd λx hx=>by obtain⟨p,hp,rfl⟩:=Jk.mp hx;exact h2 _ (h.vk p hp)
 rw[Ja]at this;omega
theorem vC.vals(S:vC a b)(h:MA a b φ W):∀p∈φ,p.2.depth<=18/\p.2.size<=36864:=λp hp=>by
 obtain⟨E,hE⟩:=h.fr;have hl:=S.len h;obtain⟨h1,_⟩:=hE.bound h.nd S.hd (λu hu=>S.zu hu) (by omega) φ.length [] (by simp) (by simp) (by simp) p hp (by simp);have h2:=hE.bound2 h.nd S.h4 S.za S.zb φ.length [] 3 3 (by simp) (by simp) (by simp) (.inl rfl) (.inl rfl) p hp (by simp)
 have:=Nat.pow_le_pow_right (n:=4) (by omega) hl;exact⟨by omega,by omega⟩
theorem vC.tz(S:vC a b)(h:MA a b φ W)(u:T):(zA φ u).depth<=u.depth+18/\(zA φ u).size<=u.size*36864:=
 ⟨zcX (λp hp=>(S.vals h p hp).1) u,zaH (by omega) (λp hp=>(S.vals h p hp).2) u⟩
theorem vC.wids(S:vC a b)(h:MA a b φ W):∀p∈φ,wid p.2<=12:=by
 obtain⟨E,hE⟩:=h.fr;have key:∀n (p:Str×T),p∈φ->p.2.size<=n->wid p.2<=12:=by
  intro n;induction n with
  |zero=>intro p _ hn;have:=zbX p.2;omega
  |succ n ih=>
   intro p hp hn;obtain⟨h1,h2,h3⟩:=hE p hp;rw[h2];have e:zA φ (E p.1)=zA (φ.filter λq=>decide (q.2.size<p.2.size)) (E p.1):=by
    refine zcc _ λz hz=>?_
    have lt:=λv hv=>hE.lt hp hz (v:=v) hv
    have fv:zH (φ.filter λq=>decide (q.2.size<p.2.size)) z=zH φ z:=by
     cases e:zH φ z with
     |none=>
      rw[vI]at e ⊢;exact λhm=>e (by obtain⟨q,hq,eq⟩:=Jk.mp hm;exact Jk.mpr ⟨q,(Qc.mp hq).1,eq⟩)
     |some v=>
      obtain⟨q,hq,rfl,rfl⟩:=zaC e;exact wD (h.nd.sublist (List.filter_sublist.map _)) q (Qc.mpr ⟨hq,by simpa using lt _ e⟩)
    rw[zA,zA,fv]
   rw[e];refine zaX (λq hq=>?_) _ ?_
   ·obtain⟨q1,q2⟩:=Qc.mp hq;exact ih q q1 (by simp at q2;omega)
   ·have:=zaS (E p.1)
    have:=S.zu h1;omega
 exact λp hp=>key _ p hp (Jd _)
theorem vC.bd(S:vC a b):Bd a b 6 442368 where
 len:=λh=>S.len h
 lt:=λ{φ W u v y} h hu hv e=>by
  obtain⟨V,q1,q2⟩:=S.ks;have hy:zH φ y=none:=h.idem.vs (t:=u) (by rw[e];simp[vs]);refine⟨zmT h.nd hy (λz hz=>?_) q1,?_⟩
  ·rcases hz with rfl|hz
   ·exact q2 _ (h.vsT hu (by rw[e];simp[vs]))
   ·obtain⟨p,hp,rfl⟩:=Jk.mp hz;exact q2 _ (h.vk p hp)
  ·have:=(S.tz h v).2
   have:=Qg (S.zu hv) (Jd 36864);omega
 tm:=λ{φ W u} h hu=>by
  have:=(S.tz h u).1
  have:=S.hd u hu
  have:=zaX (m:=12) (S.wids h) u (by have:=zaS u;have:=S.zu hu;omega);exact⟨by omega,by omega⟩
 wl:=λ{φ W} h=>by
  have l1:=zmm φ (·.1) W;have s1:=h.s1 φ h.idem.resp
  have:=(S.tz h a).2
  have:=Qg S.za (Jd 36864);exact⟨by omega,by omega⟩
 vl:=λh p hp=>by
  have:=S.vals h p hp
  have:=S.wids h p hp;exact⟨by omega,by omega,by omega⟩
 fuel:=by decide
 kk:=by decide
end
structure LK(a b:T)(κ φ:Fil):Prop where
 keys:κ.map (·.1)=φ.map (·.1)
 tie:∀p∈κ,zA φ (.bl p.1)=zA φ p.2/\qV a b p.2
 ord:∀(i:Nat) (x y:Str),κ[i]?=some (x,.bl y)->∀(j:Nat) (q:Str×T),κ[j]?=some q->q.1=y->i<j
theorem LK.none_iff{a b:T}{κ φ:Fil}(h:LK a b κ φ)(x:Str):zH κ x=none↔zH φ x=none:=by rw[vI,vI,h.keys]
theorem LK.len{a b:T}{κ φ:Fil}(h:LK a b κ φ):κ.length=φ.length:=by have:=JV List.length h.keys;simpa using this
theorem zby:∀{κ:Fil}{x:Str} {t:T},zH κ x=some t->∃i,κ[i]?=some (x,t)/\κ.findIdx? (λp=>decide (p.1=x))=some i
 |[],x,t,h=>by simp[zH]at h
 |p::κ,x,t,h=>by
  unfold zH at h;by_cases e:p.1=x
  ·rw[List.find?_cons]at h;simp only[e,decide_true]at h;refine⟨0,?_,by rw[List.findIdx?_cons];simp[e]⟩;have h:p.2=t:=Option.some.inj h;rw[List.getElem?_cons_zero,←e,←h]
  ·rw[List.find?_cons]at h;simp only[e,decide_false]at h;obtain⟨i,h1,h2⟩:=zby (κ:=κ) (show zH κ x=some t from h);exact⟨i+1,by simpa using h1,by rw[List.findIdx?_cons];simp[e,h2]⟩
theorem znk{κ:Fil}{x:Str}(h:zH κ x=none):κ.findIdx? (λp=>decide (p.1=x))=none:=by
 unfold zH at h;rw[Option.map_eq_none_iff]at h;rw[List.findIdx?_eq_none_iff];intro p hp
 have:=List.find?_eq_none.mp h p hp;simpa using this
def lkm(κ:Fil):T->Nat
 | .bl x=>match κ.findIdx? (λp=>decide (p.1=x))with
  |some i=>κ.length - i
  |none=>0
 | .nd _ _=>0
theorem ziV{a b:T}{κ φ:Fil}(h:LK a b κ φ){x:Str}{t:T}(e:zH κ x=some t):lkm κ t<lkm κ (.bl x):=by
 obtain⟨i,h1,h2⟩:=zby e;have hi:i<κ.length:=(List.getElem?_eq_some_iff.mp h1).1;have ex:lkm κ (.bl x)=κ.length - i:=by simp only[lkm,h2]
 cases t with
 |nd s ts=>rw[ex];simp only[lkm];omega
 |bl y=>
  cases e2:zH κ y with
  |none=>rw[ex];simp only[lkm,znk e2];omega
  |some u=>
   obtain⟨j,g1,g2⟩:=zby e2
   have:=h.ord i x y h1 j _ g1 rfl;have hj:j<κ.length:=(List.getElem?_eq_some_iff.mp g1).1;rw[ex];simp only[lkm,g2];omega
theorem MA.pairRaw{a b:T}{φ:Fil}{W:List (T×T)}{t u:T}{s:Str}{ts us:List T}(h:MA a b φ ((t,u)::W))(o1:qV a b (.nd s ts))(o2:qV a b (.nd s us))(e1:zA φ (.nd s ts)=zA φ t)(e2:zA φ (.nd s us)=zA φ u)(hl:ts.length=us.length):MA a b φ (ts.zip us++W)where
 nd:=h.nd
 idem:=h.idem
 fr:=h.fr
 ws:=λv hv=>by
  rcases JS.mp hv with hv|hv
  ·exact⟨v.1,v.2,[],o1.sub (.kid (QB hv).1 (.refl _)),o2.sub (.kid (QB hv).2 (.refl _)),jU.nil _,(wJ _).symm,(wJ _).symm⟩
  ·exact h.ws v (Je _ hv)
 eqv:=λσ=>by
  rw[h.eqv σ];have key:jU σ φ->(zA σ t=zA σ u↔∀p∈ts.zip us,zA σ p.1=zA σ p.2):=λhr=>by rw[←zbS σ ts us hl,←kJ hr t,←kJ hr u,←e1,←e2,kJ hr,kJ hr,zA,zA];simp
  constructor
  ·rintro⟨h1,h2⟩;refine⟨h1,λv hv=>?_⟩;rcases JS.mp hv with hv|hv
   ·exact(key h1).mp (h2 (t,u) (by simp)) v hv
   ·exact h2 v (Je _ hv)
  ·rintro⟨h1,h2⟩;refine⟨h1,λv hv=>?_⟩;rcases JC.mp hv with rfl|hv
   ·exact(key h1).mpr λp hp=>h2 p (Jq _ hp)
   ·exact h2 v (Ji _ hv)
 s1:=λχ hχ=>by
  have:=h.s1 χ hχ;rw[zau,←kJ hχ (t,u).1]at this;simp only at this;rw[←e1,kJ hχ,zA,T.size]at this;rw[zcj];have e:jM χ (·.1) (ts.zip us)=T.sizes (zM χ ts):=by
   unfold jM;rw[qT]
   congr 1
   have:(ts.zip us).map (λw=>zA χ w.1)=((ts.zip us).map (·.1)).map (zA χ):=by rw[Jn];rfl
   rw[this,QJ (by omega)]
  omega
 s2:=λχ hχ=>by
  have:=h.s2 χ hχ;rw[zau,←kJ hχ (t,u).2]at this;simp only at this;rw[←e2,kJ hχ,zA,T.size]at this;rw[zcj];have e:jM χ (·.2) (ts.zip us)=T.sizes (zM χ us):=by
   unfold jM;rw[qT]
   congr 1
   have:(ts.zip us).map (λw=>zA χ w.2)=((ts.zip us).map (·.2)).map (zA χ):=by rw[Jn];rfl
   rw[this,List.map_snd_zip (by omega)]
  omega
 vk:=h.vk
 vv:=h.vv
theorem LK.bind{a b:T}{κ φ:Fil}{x:Str}{o:T}(h:LK a b κ φ)(hx:zH φ x=none)(ho:qV a b o)(hn:∀z,o=.bl z->zH κ z=none)(hs:x∉vs (zA φ o)):LK a b (κ++[(x,o)]) (wb φ x (zA φ o))where
 keys:=by rw[JF,h.keys,zfw];rfl
 tie:=λp hp=>by
  rcases JS.mp hp with hp|hp
  ·obtain⟨t1,t2⟩:=h.tie p hp;exact⟨by rw[zbT hx,zbT hx,t1],t2⟩
  ·rw[Wc.mp hp];refine⟨?_,ho⟩;rw[zbT hx,zbT hx,kX hx,xP (t:=zA φ o) (by rw[nL,if_pos rfl])];exact(zfY λy hy=>by rw[nL,if_neg λz=>hs (by rw[←z];exact hy)]).symm
 ord:=λi z y hi j q hj hq=>by
  rcases Nat.lt_or_ge i κ.length with hil|hil
  ·rw[List.getElem?_append_left hil]at hi;rcases Nat.lt_or_ge j κ.length with hjl|hjl
   ·rw[List.getElem?_append_left hjl]at hj;exact h.ord i z y hi j q hj hq
   ·omega
  ·rw[List.getElem?_append_right hil]at hi;have i0:i=κ.length:=by have:=(List.getElem?_eq_some_iff.mp hi).1;simp at this;omega
   subst i0;simp at hi;obtain⟨rfl,rfl⟩:=hi;rcases Nat.lt_or_ge j κ.length with hjl|hjl
   ·rw[List.getElem?_append_left hjl]at hj;exfalso
    have:=hn y rfl;rw[vI]at this;exact this (Jk.mpr ⟨q,List.mem_of_getElem? hj,hq⟩)
   ·rw[List.getElem?_append_right hjl]at hj;have j0:j - κ.length=0:=by have:=(List.getElem?_eq_some_iff.mp hj).1;simp at this;omega
    rw[j0]at hj;simp at hj;subst hj;simp only at hq;subst hq;exfalso;rw[kX hx]at hs;exact hs (by simp[vs])
def zrT(a b:T)(m:D->List D->Option (D×D))(dl:Nat)(t u:T):Prop:=∀(κ φ:Fil) (W:List (T×T)),MA a b φ ((t,u)::W)->LK a b κ φ->qV a b t->qV a b u->(∀χ,jU χ φ->(zA χ t).depth+dl<=(zA χ a).depth)->
 ∃(r:Bool) (κ':Fil),m (zJ κ) [t.d,u.d]=some (.bl r,zJ κ')/\(if r=true then∃φ',MA a b φ' W/\LK a b κ' φ'/\(∀χ,jU χ φ'->jU χ φ)else∀σ,zA σ a≠zA σ b)
abbrev zcN(m__law_filled:LO)(n:Nat):EO D:=
 (cL m__law_filled (zB (gv 0) (zB (gv 1) zD)))
abbrev zif(m__law_filled:LO)(n:Nat):EO Fl:=
 (zG (ifM (upT (cT (c1 (jF "str") (gb 0)))) (zV (c3 yY (gb 1) (gv 0) (gv 0))) nxM) (zV (c2 qJ (cL zR (zB (c2 qA (gb 0) (cst (.int 0))) zD)) (cL kY (zB (jQ [none,some 1] (cI (cS jJ (gb 0) (jK (cst (.int 1))) jL)) (gN 0) qQ (zcN m__law_filled n)) zD)))))
def zar:Nat->LO
 |0=>λ_=>none
 |n+1=>qG (zif (zar n) zO) 2 2
def zcT:LO:=zar 100
abbrev zbv(n:Nat):EO Fl:=
 (ifM (upT (cT (c2 (inK not) (gv 4) (gb 2)))) (yA 2 (gv 4) (c2 qA (gb 1) (cL lenK (zB (gb 2) zD)))) nxM)
abbrev zcz(n:Nat):EO Fl:=
 (jD (cI (cL zbf (zB (gv 3) zD))) (gN 4) (zbv n))
abbrev zcO(n:Nat):EO D:=
 (cL zcT (zB (gv 0) (zB (gv 1) zD)))
abbrev zig(n:Nat):EO Fl:=
 (zG (setO 2 (cst (.dic [] []))) (zG (jD (cI (gv 0)) (gN 3) (zcz n)) (yF 2 (zV (jQ [none,some 2] (cI (gv 0)) (gN 0) qQ (zcO n))))))
def zai:LO:=qG (zig zO) 2 5
abbrev zdi(m__law_inner:LO)(n:Nat):EO Fl:=
 (jT (kE 1 (cL qS (zB (c2 qJ (cL zR (zB (c2 yM (gb 2) (cst (.int 1))) zD)) (gb 3)) (zB (gv 4) zD)))))
abbrev zdh(m__law_inner:LO)(n:Nat):EO Fl:=
 (jD (cI (cL m__law_inner (zB (c2 qA (gb 0) (gb 2)) zD))) (yK (zQ (gN 3) (zQ (gN 4) qC))) (zdi m__law_inner n))
abbrev zjJ(m__law_inner:LO)(n:Nat):EO Fl:=
 (zG (ifM (upT (cT (c1 (jF "str") (gb 0)))) (zV (cL qS zD)) nxM) (zG (setO 1 (cL qS (zB (cL qS (zB (cL zR zD) (zB (gv 0) zD))) zD))) (zG (jD (cR2 (cst (.int 1)) (cL jH (zB (gb 0) zD))) (gN 2) (zdh m__law_inner n)) (jR 1))))
def zam:Nat->LO
 |0=>λ_=>none
 |n+1=>qG (zjJ (zam n) zO) 1 5
def zei:LO:=zam 100
abbrev zht(m__law_in:D->List D->Option (D×D))(n:Nat):EO (Bool×En):=
 (wU (kS m__law_in 2 (zB (gv 1) (zB (gv 0) zD))))
abbrev zhv(m__law_in:D->List D->Option (D×D))(n:Nat):EO D:=
 (gv 0)
abbrev zpi(m__law_in:D->List D->Option (D×D))(n:Nat):EO Fl:=
 (zG (ifM (upT (cT (c1 (jF "str") (gb 1)))) (yN (orX (c2 eqB (gb 1) (gb 0)) (andX (c2 (inK id) (gv 1) (gb 2)) (kS m__law_in 2 (zB (gv 0) (zB (c2 gL (gb 2) (gv 1)) zD)))))) nxM) (yN (ixX gtD (oneX jH (zjl 2 2 [none,some 0,some 2] (cI (cS jJ (gb 1) (jK (cst (.int 1))) jL)) (gN 0) (zht m__law_in n) (zhv m__law_in n))) (cst (.int 0)))))
def zaA:Nat->D->List D->Option (D×D)
 |0=>λ_ _=>none
 |n+1=>kZ (zpi (zaA n) zO) 3 3 2
def gJ:D->List D->Option (D×D):=zaA 160
abbrev zbR(m__law_in m__law_alike:D->List D->Option (D×D))(n:Nat):EO Fl:=
 (zY 0 (c2 gL (gb 2) (gv 0)))
abbrev zbQ(m__law_in m__law_alike:D->List D->Option (D×D))(n:Nat):EO Fl:=
 (zY 1 (c2 gL (gb 2) (gv 1)))
abbrev zdj(m__law_in m__law_alike:D->List D->Option (D×D))(n:Nat):EO Fl:=
 (ifM (notM (wU (kS m__law_alike 2 (zB (gv 3) (zB (gv 4) zD))))) (zV (cst (.bl false))) nxM)
abbrev zfc(m__law_in m__law_alike:D->List D->Option (D×D))(n:Nat):EO Fl:=
 (zG (xD (upT (kF (cT (c1 (jF "str") (gb 0))) (cT (c2 (inK id) (gv 0) (gb 2))))) (zbR m__law_in m__law_alike n) n) (zG (xD (upT (kF (cT (c1 (jF "str") (gb 1))) (cT (c2 (inK id) (gv 1) (gb 2))))) (zbQ m__law_in m__law_alike n) n) (zG (ifM (upT (cT (c2 eqB (gb 0) (gb 1)))) (zV (cst (.bl true))) nxM) (zG (ifM (upT (cT (c1 (jF "str") (gb 0)))) (zG (ifM (wU (kS m__law_in 2 (zB (gv 0) (zB (gv 1) zD)))) (zV (cst (.bl false))) nxM) (zG (yA 2 (gv 0) (gv 1)) (zV (cst (.bl true))))) nxM) (zG (ifM (upT (cT (c1 (jF "str") (gb 1)))) (yN (kS m__law_alike 2 (zB (gv 1) (zB (gv 0) zD)))) nxM) (zG (ifM (upT (orP (cT (c2 neB (c2 qA (gb 0) (cst (.int 0))) (c2 qA (gb 1) (cst (.int 0))))) (cT (c2 neB (cL jH (zB (gb 0) zD)) (cL jH (zB (gb 1) zD)))))) (zV (cst (.bl false))) nxM) (zG (jD (cZ (cS jJ (gb 0) (jK (cst (.int 1))) jL) (cS jJ (gb 1) (jK (cst (.int 1))) jL)) (qO (zQ (gN 3) (zQ (gN 4) qC))) (zdj m__law_in m__law_alike n)) (zV (cst (.bl true))))))))))
def kT:Nat->D->List D->Option (D×D)
 |0=>λ_ _=>none
 |n+1=>kZ (zfc gJ (kT n) zO) 3 5 2
def zcx:D->List D->Option (D×D):=kT 30
abbrev znc(m__law_put:LO)(n:Nat):EO Fl:=
 (zG (ifM (upT (cT (c2 eqB (gb 1) (cL zR zD)))) (zV (gv 2)) nxM) (zG (zY 3 (c2 qJ (c2 qA (gb 1) (cst (.int 0))) (cst (.int 1)))) (zV (c2 qJ (c2 qJ (cS jJ (gb 0) jL (jK (gv 3))) (cL zR (zB (cL m__law_put (zB (c2 qA (gb 0) (gb 3)) (zB (cS jJ (gb 1) (jK (cst (.int 1))) jL) (zB (gv 2) zD)))) zD))) (cS jJ (gb 0) (jK (c2 qJ (gb 3) (cst (.int 1)))) jL)))))
def zbJ:Nat->LO
 |0=>λ_=>none
 |n+1=>qG (znc (zbJ n) zO) 3 4
def zii:LO:=zbJ 100
abbrev zdn(m__law_whole:LO)(n:Nat):EO D:=
 (cL m__law_whole (zB (gv 0) (zB (gv 1) zD)))
abbrev zjF(m__law_whole:LO)(n:Nat):EO Fl:=
 (zG (ifM (upT (cT (c1 (jF "str") (gb 0)))) (zG (ifM (upT (cT (c2 (inK id) (gv 0) (gb 1)))) (zV (cL m__law_whole (zB (c2 gL (gb 1) (gv 0)) (zB (gv 1) zD)))) nxM) (zV (gv 0))) nxM) (zV (c2 qJ (cL zR (zB (c2 qA (gb 0) (cst (.int 0))) zD)) (cL kY (zB (jQ [none,some 1] (cI (cS jJ (gb 0) (jK (cst (.int 1))) jL)) (gN 0) qQ (zdn m__law_whole n)) zD)))))
def zal:Nat->LO
 |0=>λ_=>none
 |n+1=>qG (zjF (zal n) zO) 2 2
def zbd:LO:=zal 200
abbrev zbW(n:Nat):EO D:=
 (cL zbd (zB (gv 0) (zB (gv 1) zD)))
abbrev zaQ(n:Nat):EO Fl:=
 (zG (kB (cL zai (zB (c2 qA (gb 0) (gb 7)) (zB (cst (.str "NOPQRSTUVWXYZ")) zD))) (yK (zQ (gN 8) (zQ (gN 9) qC)))) (zG (setO 10 (cst (.dic [] []))) (ifM (andM (upT (orP (cT (c2 neB (gb 2) (gb 7))) (cT (c2 neB (gb 5) (cL zR zD))))) (wU (kS zcx 10 (zB (gv 6) (zB (gv 8) zD))))) (zG (zY 11 (cL qS (zB (gv 3) (zB (gv 4) (zB (cL zii (zB (gv 3) (zB (gv 5) (zB (gv 9) zD)))) zD))))) (zG (yF 10 (zY 11 (jQ [none,some 10] (cI (gv 11)) (gN 0) qQ (zbW n)))) (zG (kB (cL zai (zB (gv 11) (zB (cst (.str "ABCDEFGHIJKLMNOPQRSTUVWXYZ")) zD))) (yK (zQ (gN 12) (zQ (gN 13) (zQ (gN 14) qC))))) (jT (kE 1 (cL zR (zB (gv 2) (zB (gv 7) (zB (gv 5) (zB (gv 12) (zB (gv 13) (zB (gv 14) zD)))))))))))) nxM)))
abbrev zbM(n:Nat):EO Fl:=
 (jD (cR1 (cL jH (zB (gb 0) zD))) (gN 7) (zaQ n))
abbrev zbL(n:Nat):EO Fl:=
 (zG (kB (cL zai (zB (c2 qA (gb 0) (gb 2)) (zB (cst (.str "ABCDEFGHIJKLM")) zD))) (yK (zQ (gN 3) (zQ (gN 4) qC)))) (jD (cI (cL zei (zB (gv 3) zD))) (yK (zQ (gN 5) (zQ (gN 6) qC))) (zbM n)))
abbrev zfK(n:Nat):EO Fl:=
 (zG (setO 1 (cL qS zD)) (zG (jD (cR1 (cL jH (zB (gb 0) zD))) (gN 2) (zbL n)) (jR 1)))
def zaq:LO:=qG (zfK zO) 1 15
abbrev zfs(n:Nat):EO D:=
 (gv 0)
abbrev zft(n:Nat):EO D:=
 (c2 qJ (gb 0) (gb 0))
abbrev znd(n:Nat):EO Fl:=
 (zG (kB (gv 0) (qO (zQ (gN 1) (zQ (gN 2) qC)))) (zG (setO 3 (zcf [none] (cI (cL zae (zB (gv 1) zD))) (gN 0) qQ (zfs n) (zft n))) (yF 3 (zV (cL zR (zB (cL kK (zB (gv 1) (zB (gv 3) zD))) (zB (cL kK (zB (gv 2) (zB (gv 3) zD))) zD)))))))
def zfO:LO:=qG (znd zO) 1 4
abbrev zbl(n:Nat):EO D:=
 (gv 1)
abbrev zbm(n:Nat):EO D:=
 (c2 qA (cst (.str "ABCDEFGHIJKLMNOPQRSTUVWXYZ")) (gb 0))
abbrev zeg(n:Nat):EO Fl:=
 (zG (kB (gv 0) (qO (zQ (gN 4) (zQ (gN 5) qC)))) (zG (kB (cL zfO (zB (gv 1) zD)) (qO (zQ (gN 6) (zQ (gN 7) qC)))) (zG (zY 8 (cL zaE (zB (gv 3) (zB (gv 6) zD)))) (zG (ifM (upT (cT (c2 isB (gb 8) (cst .non)))) (zV (cst .non)) nxM) (zG (zY 9 (cL kK (zB (gv 4) (zB (gv 8) zD)))) (zG (zY 10 (cL zcv (zB (gv 9) (zB (gv 2) (zB (cL kK (zB (gv 7) (zB (gv 8) zD))) zD))))) (zG (setO 11 (zcf [none,none] (cEnL (cL zae (zB (gv 9) zD))) (qO (zQ (gN 0) (zQ (gN 1) qC))) qQ (zbl n) (zbm n))) (yF 11 (zV (cL zR (zB (cL kK (zB (gv 9) (zB (gv 11) zD))) (zB (cL kK (zB (cL kK (zB (gv 5) (zB (gv 8) zD))) (zB (gv 11) zD))) (zB (cL kK (zB (gv 10) (zB (gv 11) zD))) zD)))))))))))))
def zaj:LO:=qG (zeg zO) 4 12
abbrev zbF(n:Nat):EO Fl:=
 (zG (ifM (upT (kF (cT (c2 eqB (gb 5) (gb 1))) (cT (c2 eqB (gb 2) (cL zR zD))))) (λρ=>some (.ct ρ)) nxM) (zG (zY 7 (cL zaj (zB (c2 qA (gb 0) (gb 1)) (zB (gv 6) (zB (gv 2) (zB (gv 3) zD)))))) (ifM (upT (cT (c2 xN (gb 7) (cst .non)))) (jT (kE 4 (c2 qJ (cL zR (zB (gv 1) (zB (gv 5) (zB (gv 2) zD)))) (gb 7)))) nxM)))
abbrev zeM(n:Nat):EO Fl:=
 (zG (setO 4 (cL qS zD)) (zG (jD (cEnL (gv 0)) (qO (zQ (gN 5) (zQ (gN 6) qC))) (zbF n)) (jR 4)))
def zaJ:LO:=qG (zeM zO) 4 8
abbrev zbi(n:Nat):EO Fl:=
 (ifM (upT (yC (cT (cL gA (zB (gv 6) zD))))) (jT (yZ 1 (cL zaJ (zB (gv 0) (zB (gv 2) (zB (gv 5) (zB (gv 6) zD))))))) nxM)
abbrev zbh(n:Nat):EO Fl:=
 (jD (cI (cL zac (zB (gv 3) zD))) (qO (zQ (gN 5) (zQ (gN 6) qC))) (zbi n))
abbrev zeh(n:Nat):EO Fl:=
 (zG (setO 1 (cL qS zD)) (zG (jD (cEnL (gv 0)) (qO (zQ (gN 2) (zQ (qO (zQ (gN 3) (zQ (gN 4) qC))) qC))) (zbh n)) (jR 1)))
def zaB:LO:=qG (zeh zO) 1 7
abbrev zic(n:Nat):EO Fl:=
 (zG (xQ (cL zaD (zB (gv 0) (zB (cL qS zD) zD)))) (zV (cL zaB (zB (gv 0) zD))))
def nJ:LO:=qG (zic zO) 1 1
abbrev zcU(m__law_rules m__law_overlaps nJ:LO)(n:Nat):EO Fl:=
 (ifM (upT (orP (yC (cT (c1 (jF "tuple") (gb 6)))) (orP (cT (c1 (jF "bool") (c2 qA (gb 6) (cst (.int 0))))) (cT (c1 (jF "bool") (c2 qA (gb 6) (cst (.int 1)))))))) (zV (cst (.bl false))) nxM)
abbrev ziU(m__law_rules m__law_overlaps nJ:LO)(n:Nat):EO Fl:=
 (zG (kB (cL m__law_rules (zB (gv 0) (zB (cst (.int 4)) zD))) (yK (zQ (gN 1) (zQ (gN 2) qC)))) (zG (zY 3 (cL xL (zB (gb 2) zD))) (zG (zY 4 (cL m__law_overlaps (zB (gv 2) zD))) (zG (setO 5 (cL nJ (zB (gv 3) zD))) (zG (ifM (upT (orP (yC (cT (c1 (jF "list") (gb 5)))) (orP (cT (c2 neB (gb 5) (gb 4))) (cT (c2 neB (gb 3) (gb 2)))))) (zV (cst (.bl false))) nxM) (zG (forO 5 (gN 6) (zcU m__law_rules m__law_overlaps nJ n)) (zG (jT (clrM 5)) (zV (c2 eqB (cL nJ (zB (gv 3) zD)) (gb 4))))))))))
def m_law41:LO:=qG (ziU zaP zaq nJ zO) 1 7
theorem zfq{α:Type}{h:α->D}{P:α->Bool}{g:D->EO En}{t:EO (Bool×En)}{f:EO D}{ρi:En}{jj:Nat}{c:D}:∀L:List α,(∀x∈L,∃ρ1 ρ2,g (h x) (ρi.set jj (some (.inn c)))=some ρ1/\t ρ1=some (P x,ρ2)/\yJ jj ρ2=some c/\f ρ2=some (h x))->nP g t f ρi jj c (L.map h)=some ((L.filter P).map h,c)
 |[],_=>by simp[nP]
 |x::L,H=>by
  obtain⟨ρ1,ρ2,e1,e2,e3,e4⟩:=H x (by simp);have ih:=zfq L λy hy=>H y (Je _ hy)
  simp only[List.map_cons,nP,e1,Option.bind_some,e2,e3,e4,ih];cases hp:P x<;>simp[hp]
theorem zfd(κ:Fil)(t:T):lkm κ t<=κ.length:=by
 cases t with
 |nd s ts=>simp[lkm]
 |bl x=>simp only[lkm];split<;>omega
theorem zlH{a b:T}{κ φ:Fil}(S:vC a b)(h:LK a b κ φ)(hl:κ.length<=6)(x:Str)(hx:zH κ x=none):∀(n:Nat) (t:T),(zA φ t).depth*7+lkm κ t<=n->qV a b t->
  zaA n (zJ κ) [.str x,t.d]=some (.bl (decide (x∈vs (zA φ t))),zJ κ)
 |0,t,hd,_=>by have:=gB (zA φ t);omega
 |n+1,t,hd,ht=>by
  have ok:=gM κ;cases t with
  |bl z=>
   have fv:=zcG z κ;by_cases e:z=x
   ·subst e
    have:z∈vs (zA φ (.bl z)):=by rw[kX ((h.none_iff z).mp hx)];simp[vs]
    rw[qW]
    dsimp! [zaA,orX,eqB,eqD,dep,this]
   ·have e2:(z==x)=false:=by simpa using e
    cases ez:zH κ z with
    |none=>
     rw[ez]at fv
     have:¬x∈vs (zA φ (.bl z)):=by rw[kX ((h.none_iff z).mp ez)];simp only[vs,List.mem_singleton];exact λw=>e w.symm
     rw[qW];simp only[zJ]
     dsimp! [zaA,orX,andX,eqB,eqD,dep,e2,this,inK,ok,fv,kdK]
    |some u=>
     rw[ez]at fv;obtain⟨i,g1,_⟩:=zby ez;obtain⟨t1,t2⟩:=h.tie _ (List.mem_of_getElem? g1);have lt:=ziV h ez;have ih:=zlH S h hl x hx n u (by rw[←t1];simp only;omega) t2;rw[←t1]at ih;simp only[zJ]at ih ⊢;rw[qW]
     dsimp! [zaA,orX,andX,eqB,eqD,dep,e2,inK,gL,ok,fv,kdK,ih]
  |nd s ts=>
   have hz:=S.zu ht;rw[T.size]at hz;have tl:=gZ ts;rw[zA,T.depth,qT]at hd;have kid:∀v∈ts,zaA n (zJ κ) [.str x,v.d]=some (.bl (decide (x∈vs (zA φ v))),zJ κ):=λv hv=>by
    refine zlH S h hl x hx n v ?_ (ht.sub (.kid hv (.refl _)))
    have:=vW (List.mem_map_of_mem (f:=zA φ) hv)
    have:=zfd κ v;omega
   have cm:=zfq (h:=T.d) (P:=λv=>decide (x∈vs (zA φ v))) (g:=gN 0) (t:=zht (zaA n) zO) (f:=zhv (zaA n) zO) (ρi:=[none,some (.dat (.str x)),some (.bor (zJ κ))]) (jj:=2) (c:=zJ κ) ts (λv hv=>by have kv:=kid v hv;exact⟨[some (.dat v.d),some (.dat (.str x)),some (.inn (zJ κ))],[some (.dat v.d),some (.dat (.str x)),some (.inn (zJ κ))],by simp[qG,jG,zG,zY,setO,kB,xB,xQ,jT,zV,jR,vM,ifM,upT,cT,cTr,xF,kF,orP,yC,vY,orV,vR,c1,c2,cL,cS,zB,zD,cst,gv,gb,gN,qC,zQ,qO,jL,jK,jQ,qQ,cI,cR1,cR2,xT,jD,itS,xH,xW,kE,yZ,xK,yV,zR,qS,nxM,jF,tyN,xM,lim,kL,qH,yQ,xI,xX,kY,xL,jH,qA,jJ,vL,qJ,xS,yM,yD,jY,jP,yU,xA,geD,isB,xN,isNon,vZ,xO,kZ,kM,kS,yN,vN,yA,jS,yF,c3,yY,vV,xR,cSg,yJ,itS,Sl.inn,Sl.own,vS,inB,yO,yX,vP,xZ,vQ,vO,yB,at0,at1,at2,at3],by dsimp! [wU,kv],by simp[yJ],by simp[qG,jG,zG,zY,setO,kB,xB,xQ,jT,zV,jR,vM,ifM,upT,cT,cTr,xF,kF,orP,yC,vY,orV,vR,c1,c2,cL,cS,zB,zD,cst,gv,gb,gN,qC,zQ,qO,jL,jK,jQ,qQ,cI,cR1,cR2,xT,jD,itS,xH,xW,kE,yZ,xK,yV,zR,qS,nxM,jF,tyN,xM,lim,kL,qH,yQ,xI,xX,kY,xL,jH,qA,jJ,vL,qJ,xS,yM,yD,jY,jP,yU,xA,geD,isB,xN,isNon,vZ,xO,kZ,kM,kS,yN,vN,yA,jS,yF,c3,yY,vV,xR,cSg,yJ,itS,Sl.inn,Sl.own,vS,inB,yO,yX,vP,xZ,vQ,vO,yB,at0,at1,at2,at3]⟩)
   have lz:ts.length<=1000000:=by omega
   have any_eq:decide (0<((ts.filter λv=>decide (x∈vs (zA φ v))).length:Int))=decide (x∈vs (zA φ (.nd s ts))):=by
    rw[Bool.eq_iff_iff,decide_eq_true_eq,decide_eq_true_eq,zA,vs,wT,qT];constructor
    ·intro h0;obtain⟨v,hv⟩:=List.exists_mem_of_length_pos (l:=ts.filter λv=>decide (x∈vs (zA φ v))) (by omega);obtain⟨h1,h2⟩:=Qc.mp hv;exact⟨_,List.mem_map_of_mem h1,by simpa using h2⟩
    ·rintro⟨v',hv',h2⟩;obtain⟨v,hv,rfl⟩:=Jk.mp hv'
     have:=List.length_pos_of_mem (Qc (p:=λv=>decide (x∈vs (zA φ v))) |>.mpr ⟨hv,by simpa using h2⟩);omega
   rw[qZ,←any_eq];generalize (ts.filter λv=>decide (x∈vs (zA φ v)))=FF at cm ⊢
   dsimp! [zaA,ixX,oneX,zjl,gU,lz,cm,gtD]
theorem zmv{a b:T}{κ φ:Fil}(h:LK a b κ φ)(hl:κ.length<=1000)(t:T)(ht:qV a b t)(m1 m2:D->List D->Option (D×D))(s1:D)(s3 s4:Option Sl):
  ∃u,xD (upT (kF (cT (c1 (jF "str") (gb 0))) (cT (c2 (inK id) (gv 0) (gb 2))))) (zbR m1 m2 zO) zO [some (.dat t.d),some (.dat s1),some (.inn (zJ κ)),s3,s4]=some (.nx [some (.dat u.d),some (.dat s1),some (.inn (zJ κ)),s3,s4])/\zA φ u=zA φ t/\qV a b u/\(∀z,u=.bl z->zH κ z=none)/\((∀z,t=.bl z->zH κ z=none)->u=t):=by
 obtain⟨ρ',e1,u,rfl,h1,h2,h3,h4⟩:=zcl (t:=upT (kF (cT (c1 (jF "str") (gb 0))) (cT (c2 (inK id) (gv 0) (gb 2))))) (b:=zbR m1 m2 zO)
  (λm ρ=>∃c:T,ρ=[some (.dat c.d),some (.dat s1),some (.inn (zJ κ)),s3,s4]/\zA φ c=zA φ t/\qV a b c/\m=lkm κ c/\((∀z,t=.bl z->zH κ z=none)->c=t))
  (λρ=>∃u:T,ρ=[some (.dat u.d),some (.dat s1),some (.inn (zJ κ)),s3,s4]/\zA φ u=zA φ t/\qV a b u/\(∀z,u=.bl z->zH κ z=none)/\((∀z,t=.bl z->zH κ z=none)->u=t)) (by
   rintro m ρ ⟨c,rfl,h1,h2,rfl,h3⟩;have ok:=gM κ;cases c with
   |nd s ts=>exact .inl ⟨_,by simp! [qZ];rfl,.nd s ts,by simp[qZ],h1,h2,(λz e=>by cases e),h3⟩
   |bl x=>
    have fv:=zcG x κ;cases e:zH κ x with
    |none=>
     rw[e]at fv;refine .inl ⟨[some (.dat (.str x)),some (.dat s1),some (.inn (zJ κ)),s3,s4],?_,.bl x,by simp[qW],h1,h2,(λz ez=>by cases ez;exact e),h3⟩;simp only[qW,zJ]
     simp! [inK,ok,fv,kdK]
    |some u=>
     rw[e]at fv;obtain⟨i,g1,_⟩:=zby e;obtain⟨t1,t2⟩:=h.tie _ (List.mem_of_getElem? g1);refine .inr ⟨[some (.dat (.str x)),some (.dat s1),some (.inn (zJ κ)),s3,s4],[some (.dat u.d),some (.dat s1),some (.inn (zJ κ)),s3,s4],lkm κ u,?_,.inl ?_,ziV h e,u,rfl,by rw[←h1];exact t1.symm,t2,rfl,λhn=>absurd (hn x (h3 hn).symm) (by rw[e];simp)⟩
     ·simp only[qW,zJ]
      simp! [inK,ok,fv,kdK]
     ·simp only[zJ]
      simp! [gL,ok,fv,kdK]) zO (lkm κ t) [some (.dat t.d),some (.dat s1),some (.inn (zJ κ)),s3,s4] ⟨t,rfl,rfl,ht,rfl,λ_=>rfl⟩ (by
   have:=zfd κ t;unfold zO;omega)
 exact⟨u,e1,h1,h2,h3,h4⟩
theorem zmu{a b:T}{κ φ:Fil}(h:LK a b κ φ)(hl:κ.length<=1000)(t:T)(ht:qV a b t)(m1 m2:D->List D->Option (D×D))(s1:D)(s3 s4:Option Sl):
  ∃u,xD (upT (kF (cT (c1 (jF "str") (gb 1))) (cT (c2 (inK id) (gv 1) (gb 2))))) (zbQ m1 m2 zO) zO [some (.dat s1),some (.dat t.d),some (.inn (zJ κ)),s3,s4]=some (.nx [some (.dat s1),some (.dat u.d),some (.inn (zJ κ)),s3,s4])/\zA φ u=zA φ t/\qV a b u/\(∀z,u=.bl z->zH κ z=none)/\((∀z,t=.bl z->zH κ z=none)->u=t):=by
 obtain⟨ρ',e1,u,rfl,h1,h2,h3,h4⟩:=zcl (t:=upT (kF (cT (c1 (jF "str") (gb 1))) (cT (c2 (inK id) (gv 1) (gb 2))))) (b:=zbQ m1 m2 zO)
  (λm ρ=>∃c:T,ρ=[some (.dat s1),some (.dat c.d),some (.inn (zJ κ)),s3,s4]/\zA φ c=zA φ t/\qV a b c/\m=lkm κ c/\((∀z,t=.bl z->zH κ z=none)->c=t))
  (λρ=>∃u:T,ρ=[some (.dat s1),some (.dat u.d),some (.inn (zJ κ)),s3,s4]/\zA φ u=zA φ t/\qV a b u/\(∀z,u=.bl z->zH κ z=none)/\((∀z,t=.bl z->zH κ z=none)->u=t)) (by
   rintro m ρ ⟨c,rfl,h1,h2,rfl,h3⟩;have ok:=gM κ;cases c with
   |nd s ts=>exact .inl ⟨_,by simp! [qZ];rfl,.nd s ts,by simp[qZ],h1,h2,(λz e=>by cases e),h3⟩
   |bl x=>
    have fv:=zcG x κ;cases e:zH κ x with
    |none=>
     rw[e]at fv;refine .inl ⟨[some (.dat s1),some (.dat (.str x)),some (.inn (zJ κ)),s3,s4],?_,.bl x,by simp[qW],h1,h2,(λz ez=>by cases ez;exact e),h3⟩;simp only[qW,zJ]
     simp! [inK,ok,fv,kdK]
    |some u=>
     rw[e]at fv;obtain⟨i,g1,_⟩:=zby e;obtain⟨t1,t2⟩:=h.tie _ (List.mem_of_getElem? g1);refine .inr ⟨[some (.dat s1),some (.dat (.str x)),some (.inn (zJ κ)),s3,s4],[some (.dat s1),some (.dat u.d),some (.inn (zJ κ)),s3,s4],lkm κ u,?_,.inl ?_,ziV h e,u,rfl,by rw[←h1];exact t1.symm,t2,rfl,λhn=>absurd (hn x (h3 hn).symm) (by rw[e];simp)⟩
     ·simp only[qW,zJ]
      simp! [inK,ok,fv,kdK]
     ·simp only[zJ]
      simp! [gL,ok,fv,kdK]) zO (lkm κ t) [some (.dat s1),some (.dat t.d),some (.inn (zJ κ)),s3,s4] ⟨t,rfl,rfl,ht,rfl,λ_=>rfl⟩ (by
   have:=zfd κ t;unfold zO;omega)
 exact⟨u,e1,h1,h2,h3,h4⟩
theorem zrb{a b:T}{κ φ:Fil}(h:LK a b κ φ)(hl:κ.length<=1000)(n:Nat)(t u:T)(ht:qV a b t)(hu:qV a b u):∃p q,zA φ p=zA φ t/\qV a b p/\(∀z,p=.bl z->zH κ z=none)/\zA φ q=zA φ u/\qV a b q/\(∀z,q=.bl z->zH κ z=none)/\
  kT (n+1) (zJ κ) [t.d,u.d]=kT (n+1) (zJ κ) [p.d,q.d]:=by
 obtain⟨p,w1,p1,p2,p3,_⟩:=zmv h hl t ht gJ (kT n) u.d none none;obtain⟨q,w2,q1,q2,q3,_⟩:=zmu h hl u hu gJ (kT n) p.d none none;obtain⟨p',w3,_,_,_,e3⟩:=zmv h hl p p2 gJ (kT n) q.d none none;obtain⟨q',w4,_,_,_,e4⟩:=zmu h hl q q2 gJ (kT n) p.d none none;rw[e3 p3]at w3;rw[e4 q3]at w4;refine⟨p,q,p1,p2,p3,q1,q2,q3,?_⟩;have s1:kM 5 2 (zJ κ) [t.d,u.d]=[some (.dat t.d),some (.dat u.d),some (.inn (zJ κ)),none,none]:=by simp[kM,jG]
 have s2:kM 5 2 (zJ κ) [p.d,q.d]=[some (.dat p.d),some (.dat q.d),some (.inn (zJ κ)),none,none]:=by simp[kM,jG]
 unfold kT kZ;rw[s1,s2];unfold zfc;simp only[zG,w1,w2,w3,w4,List.length_cons,List.length_nil]
theorem zri{a b:T}{κ φ:Fil}{W:List (T×T)}(S:vC a b)(hM:MA a b φ W)(hK:LK a b κ φ){x:Str}{o:T}(hx:zH κ x=none)(ox:qV a b (.bl x))(oo:qV a b o)(no:∀z,o=.bl z->zH κ z=none)(hne:T.bl x≠o)(n:Nat):
  kT (n+1) (zJ κ) [.str x,o.d]=some (if x∈vs (zA φ o)then(.bl false,zJ κ)else(.bl true,zJ (κ++[(x,o)]))):=by
 have hl:=S.len hM;have kl:=hK.len;obtain⟨p',w3,_,_,_,e3⟩:=zmv hK (by omega) (.bl x) ox gJ (kT n) o.d none none;obtain⟨q',w4,_,_,_,e4⟩:=zmu hK (by omega) o oo gJ (kT n) (.str x) none none;rw[e3 (λz e=>by cases e;exact hx),qW]at w3;rw[e4 no]at w4;have eqf:eqB (.str x) o.d=some (.bl false):=by have:=eq_T (.bl x) o (by simp[T.depth]);rw[qW]at this;simpa[hne]using this
 have es:gJ (zJ κ) [.str x,o.d]=some (.bl (decide (x∈vs (zA φ o))),zJ κ):=zlH S hK (by omega) x hx 160 o (by
  have h1:=(S.tz hM o).1;have h2:=S.hd o oo;have h3:=zfd κ o
  omega) oo
 have ok:=gM κ;have kl2:(fks κ).length<1000000:=by simp[fks];omega
 have pa:=zdO κ x o hx;by_cases hs:x∈vs (zA φ o)
 ·simp only[hs,decide_true]at es;simp only[hs,if_true]
  dsimp! [kT,w3,w4,eqf,wU,es]
 ·simp only[hs,decide_false]at es;simp only[hs,if_false];simp only[zJ]at w3 w4 es ⊢
  dsimp! [kT,w3,w4,eqf,wU,es,ok,kl2,pa,kdK]
theorem zoc{a b:T}(m:D->List D->Option (D×D))(dl:Nat)(A B:D)(W:List (T×T)):∀(P:List (T×T)),(∀w∈P,zrT a b m dl w.1 w.2)->(∀w∈P,qV a b w.1/\qV a b w.2)->∀(κ φ:Fil) (k3 k4:Option Sl),MA a b φ (P++W)->LK a b κ φ->(∀χ,jU χ φ->∀w∈P,(zA χ w.1).depth+dl<=(zA χ a).depth)->
  ∃(r:Bool) (κ':Fil) (k3' k4':Option Sl),vK (qO (zQ (gN 3) (zQ (gN 4) qC))) (zdj gJ m zO) (P.map ptD) [some (.dat A),some (.dat B),some (.inn (zJ κ)),k3,k4]=
   some (if r=true then .nx [some (.dat A),some (.dat B),some (.inn (zJ κ')),k3',k4']else .rt (.bl false) [some (.dat A),some (.dat B),some (.inn (zJ κ')),k3',k4'])/\
   (if r=true then∃φ',MA a b φ' W/\LK a b κ' φ'/\(∀χ,jU χ φ'->jU χ φ)else∀σ,zA σ a≠zA σ b)
 |[],_,_,κ,φ,k3,k4,hM,hK,_=>⟨true,κ,k3,k4,by simp[vK],by rw[if_pos rfl];exact⟨φ,by simpa using hM,hK,λχ h=>h⟩⟩
 |(t,u)::P,hm,ho,κ,φ,k3,k4,hM,hK,hd=>by
  have hM':MA a b φ ((t,u)::(P++W)):=by simpa using hM
  obtain⟨o1,o2⟩:=ho (t,u) (by simp);obtain⟨r,κ1,t1,t2⟩:=hm (t,u) (by simp) κ φ _ hM' hK o1 o2 (λχ hχ=>hd χ hχ (t,u) (by simp));simp only at t1;have pp:ptD (t,u)=.tup [t.d,u.d]:=rfl;cases r with
  |false=>
   refine⟨false,κ1,some (.dat t.d),some (.dat u.d),?_,by simpa using t2⟩
   dsimp! [vK,pp,notM,wU,t1]
  |true=>
   rw[if_pos rfl]at t2;obtain⟨φ1,g1,g2,g3⟩:=t2;obtain⟨r,κ2,k3',k4',f1,f2⟩:=zoc m dl A B W P (λw hw=>hm w (Je _ hw)) (λw hw=>ho w (Je _ hw)) κ1 φ1 (some (.dat t.d)) (some (.dat u.d)) g1 g2 (λχ hχ w hw=>hd χ (g3 χ hχ) w (Je _ hw));refine⟨r,κ2,k3',k4',?_,?_⟩
   ·rw[←f1]
    dsimp! [vK,pp,notM,wU,t1]
   ·cases r with
    |false=>simpa using f2
    |true=>
     rw[if_pos rfl]at f2 ⊢;obtain⟨φ2,p1,p2,p3⟩:=f2;exact⟨φ2,p1,p2,λχ hχ=>g3 χ (p3 χ hχ)⟩
theorem zho{a b:T}(S:vC a b):∀(n:Nat) (t u:T) (dl:Nat),30<=n+dl->zrT a b (kT n) dl t u
 |0,t,u,dl,hn=>by intro κ φ W hM hK ot ou hd;exfalso;have h1:=hd φ hM.idem.resp;have h2:=(S.tz hM a).1;have h3:=S.hd a (.inl (.refl a));omega
 |n+1,t,u,dl,hn=>by
  intro κ φ W hM hK ot ou hd;have hlen:=S.len hM;have kl:=hK.len;have n0:1<=n:=by have h1:=hd φ hM.idem.resp;have h2:=(S.tz hM a).1;have h3:=S.hd a (.inl (.refl a));omega
  obtain⟨p,q,r2,r3,r4,z2,z3,z4,nrm⟩:=zrb hK (by omega) n t u ot ou;rw[nrm];have none_p:∀z,p=.bl z->zH φ z=none:=λz e=>(hK.none_iff z).mp (r4 z e)
  have none_q:∀z,q=.bl z->zH φ z=none:=λz e=>(hK.none_iff z).mp (z4 z e)
  have bind:∀(x:Str) (o:T),((p=.bl x/\q=o)\/(q=.bl x/\p=o))->p≠q->∀k,1<=k->
    ∃(r:Bool) (κ':Fil),kT k (zJ κ) [.str x,o.d]=some (.bl r,zJ κ')/\(if r=true then∃φ',MA a b φ' W/\LK a b κ' φ'/\(∀χ,jU χ φ'->jU χ φ)else∀σ,zA σ a≠zA σ b):=by
   intro x o e hne k hk;have hx:zH φ x=none:=by
    rcases e with⟨e,_⟩|⟨e,_⟩
    ·exact none_p x e
    ·exact none_q x e
   have ox:qV a b (.bl x):=by
    rcases e with⟨e,_⟩|⟨e,_⟩
    ·rw[←e];exact r3
    ·rw[←e];exact z3
   have oo:qV a b o:=by
    rcases e with⟨_,e⟩|⟨_,e⟩
    ·rw[←e];exact z3
    ·rw[←e];exact r3
   have no:∀z,o=.bl z->zH κ z=none:=λz ez=>by
    rcases e with⟨_,e⟩|⟨_,e⟩
    ·exact z4 z (by rw[e,ez])
    ·exact r4 z (by rw[e,ez])
   have hne2:T.bl x≠o:=by
    rcases e with⟨e1,e2⟩|⟨e1,e2⟩
    ·rw[←e1,←e2];exact hne
    ·rw[←e1,←e2];exact λz=>hne z.symm
   have lf:=zri S hM hK ((hK.none_iff x).mpr hx) ox oo no hne2 (k - 1);rw[show k - 1+1=k by omega]at lf;have ee:(zA φ (t,u).1=.bl x/\zA φ (t,u).2=zA φ o)\/(zA φ (t,u).2=.bl x/\zA φ (t,u).1=zA φ o):=by
    simp only;rcases e with⟨e1,e2⟩|⟨e1,e2⟩
    ·left;rw[←r2,←z2,e1,e2];exact⟨kX hx,rfl⟩
    ·right;rw[←r2,←z2,e1,e2];exact⟨kX hx,rfl⟩
   by_cases hs:x∈vs (zA φ o)
   ·rw[if_pos hs]at lf;refine⟨false,κ,lf,?_⟩;rw[if_neg (by simp)];refine hM.noUni λσ=>?_
    have hne3:zA φ o≠.bl x:=by
     intro w;cases o with
     |nd s ts=>rw[zA]at w;cases w
     |bl y=>
      have hy:=(hK.none_iff y).mp (no y rfl);rw[kX hy]at w;exact hne2 w.symm
    rcases ee with⟨e1,e2⟩|⟨e1,e2⟩
    ·rw[e1,e2];exact ziO hs hne3 σ
    ·rw[e1,e2];exact λw=>ziO hs hne3 σ w.symm
   ·rw[if_neg hs]at lf;refine⟨true,κ++[(x,o)],lf,?_⟩;rw[if_pos rfl];exact⟨wb φ x (zA φ o),hM.bind ee hs,hK.bind hx oo no hs,λχ hχ=>((zhK hx χ).mp hχ).1⟩
  obtain⟨p',w3,_,_,_,e3⟩:=zmv hK (by omega) p r3 gJ (kT n) q.d none none;obtain⟨q',w4,_,_,_,e4⟩:=zmu hK (by omega) q z3 gJ (kT n) p.d none none;rw[e3 r4]at w3;rw[e4 z4]at w4;have eq0:=eq_T p q (by have:=S.hd p r3;omega);by_cases hpq:p=q
  ·refine⟨true,κ,?_,?_⟩
   ·simp only[hpq,decide_true]at eq0;rw[hpq]at w3 w4 ⊢
    dsimp! [kT,w3,w4,eq0]
   ·rw[if_pos rfl];exact⟨φ,hM.drop (by simp only;rw[←r2,←z2,hpq]),hK,λχ h=>h⟩
  ·simp only[hpq,decide_false]at eq0;cases p with
   |bl x=>
    have:=bind x q (.inl ⟨rfl,rfl⟩) hpq (n+1) (by omega);rw[qW];exact this
   |nd s ts=>
    cases q with
    |bl x=>
     obtain⟨r,κ',l1,l2⟩:=bind x (.nd s ts) (.inr ⟨rfl,rfl⟩) hpq n n0;refine⟨r,κ',?_,l2⟩;rw[qW,qZ]at*
     dsimp! [kT,w3,w4,eq0,l1]
    |nd r us=>
     rw[qZ,qZ]at*;have n1:=zob s r;have n2:=zha ((ts.length:Int)+1) ((us.length:Int)+1);by_cases hc:s=r/\ts.length=us.length
     ·obtain⟨rfl,hl⟩:=hc;have n1':neB (D.str s) (D.str s)=some (.bl false):=by simpa using n1
      have h3:((ts.length:Int)+1=(us.length:Int)+1):=by omega
      simp only[h3,decide_true,Bool.not_true]at n2;have h4:us.length=ts.length:=hl.symm;have n3:neB (.int ((ts.length:Int)+1)) (.int ((ts.length:Int)+1))=some (.bl false):=by simpa using zha ((ts.length:Int)+1) ((ts.length:Int)+1)
      have hM2:=hM.pairRaw r3 z3 r2 z2 hl;obtain⟨rr,κ',k3,k4,f1,f2⟩:=zoc (kT n) (dl+1) (.tup (.str s::ts.map T.d)) (.tup (.str s::us.map T.d)) W (ts.zip us) (λw _=>zho S n _ _ (dl+1) (by omega)) (λw hw=>⟨r3.sub (.kid (QB hw).1 (.refl _)),z3.sub (.kid (QB hw).2 (.refl _))⟩) κ φ none none hM2 hK (λχ hχ w hw=>by
       have h5:=hd χ hχ;have h6:zA χ t=zA χ (.nd s ts):=by rw[←kJ hχ t,←r2,kJ hχ]
       rw[h6,zA,T.depth,qT]at h5
       have:=vW (List.mem_map_of_mem (f:=zA χ) (QB hw).1)
       omega)
      rw[←zgV]at f1;cases rr with
      |false=>
       simp only[Bool.false_eq_true,if_false]at f1 f2;refine⟨false,κ',?_,by simpa using f2⟩
       dsimp! [kT,w3,w4,eq0,n1',h4,n3,cZ,gU,f1]
      |true=>
       simp only[if_true]at f1 f2;refine⟨true,κ',?_,by simpa using f2⟩
       dsimp! [kT,w3,w4,eq0,n1',h4,n3,cZ,gU,f1]
     ·refine⟨false,κ,?_,?_⟩
      ·by_cases h1:s=r
       ·subst h1;have h3:¬((ts.length:Int)+1=(us.length:Int)+1):=λz=>hc ⟨rfl,by omega⟩
        simp only[h3,decide_false,Bool.not_false]at n2;have n1':neB (D.str s) (D.str s)=some (.bl false):=by simpa using n1
        dsimp! [kT,w3,w4,eq0,n1',n2]
       ·simp only[h1,decide_false,Bool.not_false]at n1
        dsimp! [kT,w3,w4,eq0,n1]
      ·have:∀σ,zA σ a≠zA σ b:=hM.noUni λσ=>by
        simp only;rw[←r2,←z2,zA,zA,zA,zA];intro z;injection z with y1 y2;refine hc ⟨y1,?_⟩
        have:=JV List.length y2;simpa[qT]using this
       simpa using this
theorem zfm(φ:Fil):∀(n:Nat) (t:T),t.depth<=n->wid t<=1000->zar n [t.d,zJ φ]=some (zA φ t).d
 |0,t,h,_=>by have:=gB t;omega
 |n+1,.bl x,h,_=>by
  have ok:=gM φ;have fv:=zcG x φ;have hd:((zH φ x).map T.d).getD (.str x)=(zA φ (.bl x)).d:=by rw[zA];cases zH φ x<;>simp[qW]
  rw[←hd];simp only[qW]
  simp! [zar,zJ,ok,fv,kdK]
 |n+1,.nd s ts,h,hz=>by
  rw[T.depth]at h;rw[wid]at hz;have hl:ts.length<=1000000:=by omega
  have w1:yG (gN 0) qQ (zcN (zar n) zO) [none,some (.dat (zJ φ))] (ts.map T.d)=some ((zM φ ts).map T.d):=by
   rw[qT];refine zaK (by simp) λi x y hx hy=>?_
   rw[List.getElem?_map]at hx;rw[Jn,List.getElem?_map]at hy;cases e:ts[i]? with
   |none=>rw[e]at hx;cases hx
   |some t=>
    rw[e]at hx hy;cases hx;cases hy
    have hm:=List.mem_of_getElem? e;have d1:=vW hm;have d2:=zdF hm;exact⟨_,rfl,rfl,by simp! [zfm φ n t (by omega) (by omega)]⟩
  have fl:(zM φ ts).length=ts.length:=by rw[qT];simp
  have z1:1+ts.length<=1000000:=by omega
  rw[zA,qZ,qZ]
  simp! [zar,gU,w1,hl,fl,z1]
theorem zew{a b:T}{κ φ:Fil}(S:vC a b)(h:LK a b κ φ)(hl:κ.length<=6):∀(n:Nat) (t:T),(zA φ t).depth*7+lkm κ t<=n->wid t<=1000->
  zal n [t.d,zJ κ]=some (zA φ t).d
 |0,t,hd,_=>by have:=gB (zA φ t);omega
 |n+1,.bl z,hd,_=>by
  have ok:=gM κ;have fv:=zcG z κ;cases ez:zH κ z with
  |none=>
   rw[ez]at fv;rw[kX ((h.none_iff z).mp ez),qW];simp only[zJ]
   dsimp! [zal,inK,ok,fv,kdK]
  |some u=>
   rw[ez]at fv;obtain⟨i,g1,_⟩:=zby ez;obtain⟨t1,t2⟩:=h.tie _ (List.mem_of_getElem? g1);have lt:=ziV h ez;have ih:=zew S h hl n u (by rw[←t1];simp only;omega) (by have:=zaS u;have hz2:u.size<=12:=S.zu t2;omega);rw[←t1]at ih;simp only[zJ]at ih ⊢;rw[qW]
   dsimp! [zal,inK,gL,ok,fv,kdK,ih]
 |n+1,.nd s ts,hd,hz=>by
  rw[wid]at hz;rw[zA,T.depth,qT]at hd;have hl':ts.length<=1000000:=by omega
  have w1:yG (gN 0) qQ (zdn (zal n) zO) [none,some (.dat (zJ κ))] (ts.map T.d)=some ((zM φ ts).map T.d):=by
   rw[qT];refine zaK (by simp) λi x y hx hy=>?_
   rw[List.getElem?_map]at hx;rw[Jn,List.getElem?_map]at hy;cases e:ts[i]? with
   |none=>rw[e]at hx;cases hx
   |some t=>
    rw[e]at hx hy;cases hx;cases hy
    have hm:=List.mem_of_getElem? e;have d1:=vW (List.mem_map_of_mem (f:=zA φ) hm);have d2:=zdF hm;have d3:=zfd κ t;exact⟨_,rfl,rfl,by simp! [zew S h hl n t (by omega) (by omega)]⟩
  have fl:(zM φ ts).length=ts.length:=by rw[qT];simp
  have z1:1+ts.length<=1000000:=by omega
  rw[zA,qZ,qZ]
  simp! [zal,gU,w1,hl',fl,z1]
theorem zlE:∀(m:Nat) (p:List Int) (t u n:T),p.length<m->p.length<=90->qF t p=some u->t.size<=1000->zbJ m [t.d,pD p,n.d]=some (qE t p n).d
 |0,p,t,u,n,h,_,_,_=>by omega
 |m+1,[],t,u,n,h,_,_,_=>by
  rw[zbr]
  simp! [zbJ,pD,eqD,eqL,dep,qU]
 |m+1,k::p,t,u,n,h,h9,hp,hz=>by
  obtain⟨s,ts,c,rfl,h0,e,h2⟩:=gH hp;have hl:k.toNat<ts.length:=(List.getElem?_eq_some_iff.mp e).1;have h3:=nV (List.mem_of_getElem? e);rw[T.size]at hz;have tl:=gZ ts;rw[Jl]at h h9;have ih:=zlE m p c u n (by omega) (by omega) h2 (by omega);have a1:atI (D.str s::ts.map T.d) (k+1)=some c.d:=by
   have e3:k+1=((k.toNat+1:Nat):Int):=by omega
   rw[e3];exact vA (by simp[e])
  have k1:(k+1).toNat=k.toNat+1:=by omega
  have k2:(k+1+1).toNat=k.toNat+2:=by omega
  have c1':kH (D.str s::ts.map T.d) none (some (k+1))=(D.str s::ts.map T.d).take (k.toNat+1):=by rw[zoj _ _ (by omega) (by simp;omega),k1]
  have c2':kH (D.str s::ts.map T.d) (some (k+1+1)) none=(D.str s::ts.map T.d).drop (k.toNat+2):=by rw[zok _ _ (by omega) (by simp;omega),k2]
  have md:=zrd (s:=s) hl (qE c p n);rw[zdQ e,qZ,qZ,←md];have l1:((D.str s::ts.map T.d).take (k.toNat+1)).length<=1001:=by rw[Jw];simp;omega
  have l2:((D.str s::ts.map T.d).drop (k.toNat+2)).length<=1001:=by rw[Qv];simp;omega
  have dp:=zdD p;generalize (D.str s::ts.map T.d)=L at a1 c1' c2' l1 l2 ⊢;generalize L.take (k.toNat+1)=AA at c1' l1 ⊢;generalize L.drop (k.toNat+2)=BB at c2' l2 ⊢;have z1:AA.length+1<=1000000:=by omega
  have z2:AA.length+1+BB.length<=1000000:=by omega
  have dz:dep (D.tup (D.int k::p.map D.int))<=100:=by simp only[dep,qU];omega
  unfold pD at ih ⊢;have ep:eqB (.tup ((k::p).map D.int)) (.tup [])=some (.bl false):=by simp only[List.map_cons,eqB,eqD,eqL,dep,qU]at dz ⊢;rw[if_pos (by omega)];rfl
  simp only[List.map_cons]at ep ⊢
  dsimp! [zbJ,ep,gU,a1,c1',c2',ih,z1,z2]
mutual
def inr:T->List (List Int×T)
 | .bl _=>[]
 | .nd s ts=>([],.nd s ts)::kG 0 ts
def kG(k:Nat):List T->List (List Int×T)
 |[]=>[]
 |t::r=>(inr t).map (λq=>((k:Int)::q.1,q.2))++kG (k+1) r
end
mutual
theorem zeZ(p:List Int):∀t:T,(qX p t).filter (λq=>!q.2.isBl)=(inr t).map λq=>(p++q.1,q.2)
 | .bl x=>by simp[qX,inr,T.isBl]
 | .nd s ts=>by rw[qX,inr,List.filter_cons_of_pos (by simp[T.isBl]),zde p 0 ts];simp
theorem zde(p:List Int)(k:Nat):∀ts:List T,(kN p k ts).filter (λq=>!q.2.isBl)=(kG k ts).map λq=>(p++q.1,q.2)
 |[]=>by simp[kN,kG]
 |t::r=>by rw[kN,kG,List.filter_append,zeZ _ t,zde p (k+1) r,JF,Jn];simp
end
theorem zlm(t:T):inr t=(qX [] t).filter (λq=>!q.2.isBl):=by rw[zeZ];simp
theorem zeo:∀(k:Nat) (a b:List T),kG k (a++b)=kG k a++kG (k+a.length) b
 |_,[],b=>by simp[kG]
 |k,t::a,b=>by rw[Ql,kG,kG,zeo (k+1) a b,JG,Jl,show k+1+a.length=k+(a.length+1) by omega]
mutual
theorem zfR:∀t:T,(inr t).length<=t.size
 | .bl _=>by simp[inr]
 | .nd s ts=>by have:=zfS 0 ts;simp only[inr,List.length_cons,T.size];omega
theorem zfS:∀(k:Nat) (ts:List T),(kG k ts).length<=T.sizes ts
 |_,[]=>by simp[kG]
 |k,t::r=>by have:=zfR t;have:=zfS (k+1) r;simp only[kG,List.length_append,List.length_map,T.sizes];omega
end
mutual
theorem zll{δ:Fil}:∀t:T,(∀x∈vs t,∃y,zA δ (.bl x)=.bl y)->inr (zA δ t)=(inr t).map λq=>(q.1,zA δ q.2)
 | .bl x,h=>by obtain⟨y,e⟩:=h x (by simp[vs]);rw[e];simp[inr]
 | .nd s ts,h=>by
  have e:zA δ (.nd s ts)=.nd s (zM δ ts):=by rw[zA]
  rw[e,inr,inr,ziX 0 ts (by rw[vs]at h;exact h),Jg,e]
theorem ziX{δ:Fil}:∀(k:Nat) (ts:List T),(∀x∈vsL ts,∃y,zA δ (.bl x)=.bl y)->kG k (zM δ ts)=(kG k ts).map λq=>(q.1,zA δ q.2)
 |_,[],_=>by simp[zM,kG]
 |k,t::r,h=>by rw[vsL]at h;rw[zM,kG,kG,zll t λx hx=>h x (Jq _ hx),ziX (k+1) r λx hx=>h x (Ji _ hx),JF,Jn,Jn];rfl
end
def qD(q:List Int×T):D:=.lst [pD q.1,q.2.d]
theorem znj{t:T}{q:List Int×T}(h:q∈inr t):q.1.length<=t.depth:=by rw[zlm]at h;exact zbt _ _ _ (zbs (Qc.mp h).1)
theorem zhn:∀(n:Nat) (t:T),t.depth<=n->t.depth<=90->t.size<=1000->zam n [t.d]=some (.lst ((inr t).map qD))
 |0,t,h,_,_=>by have:=gB t;omega
 |n+1,.bl x,h,_,_=>by simp! [zam,qW,inr]
 |n+1,.nd s ts,h,hd,hz=>by
  rw[T.depth]at h hd;rw[T.size]at hz;have kl:=gZ ts;obtain⟨ρ',f1,k2,k3,k4,rfl⟩:=yS (g:=gN 2) (b:=zdh (zam n) zO) (xs:=xJ 1 ts.length) (ρ:=[some (.dat (.tup (.str s::ts.map T.d))),some (.own (.lst [qD ([],.nd s ts)])),none,none,none])
   (λi ρ=>∃(k2 k3 k4:Option Sl),ρ=[some (.dat (.tup (.str s::ts.map T.d))),some (.own (.lst ((([],.nd s ts)::kG 0 (ts.take i)).map qD))),k2,k3,k4]) ⟨none,none,none,by simp[kG]⟩ (by
    rintro i x ρ hx ⟨k2,k3,k4,rfl⟩;obtain⟨hi,rfl⟩:=zan hx;have hm:ts[i]∈ts:=JO hi;have d1:=vW hm;have d2:=nV hm;have e1:=zhn n ts[i] (by omega) (by omega) (by omega);have e2:atI (D.str s::ts.map T.d) (1+(i:Int))=some ts[i].d:=by rw[show(1:Int)+(i:Int)=((i+1:Nat):Int) by omega];exact vA (by simp[hi])
    have tk:ts.take (i+1)=ts.take i++[ts[i]]:=by rw[Jp hi]
    have e5:kG 0 (ts.take (i+1))=kG 0 (ts.take i)++(inr ts[i]).map (λq=>((i:Int)::q.1,q.2)):=by rw[tk,zeo];simp only[kG,List.append_nil,List.length_take];rw[show 0+min i ts.length=i by omega]
    have l1:=zfS 0 (ts.take i);have l2:T.sizes (ts.take i)<=T.sizes ts:=by
     have:T.sizes ts=T.sizes (ts.take i)+T.sizes (ts.drop i):=by rw[←zad,Wh]
     omega
    have l3:=zfR ts[i];have pl:∀q∈inr ts[i],q.1.length<=90:=λq hq=>by have:=znj hq;omega
    rw[e5];generalize hA:(([],T.nd s ts)::kG 0 (ts.take i))=A;have lA:A.length<=1001:=by rw[←hA,Jl];omega
    have eA:(([],T.nd s ts)::(kG 0 (ts.take i)++(inr ts[i]).map λq=>((i:Int)::q.1,q.2)))=A++(inr ts[i]).map (λq=>((i:Int)::q.1,q.2)):=by rw[←hA];rfl
    rw[eA];generalize inr ts[i]=B at*;obtain⟨ρ2,f2,k3',k4',rfl⟩:=yS (g:=yK (zQ (gN 3) (zQ (gN 4) qC))) (b:=zdi (zam n) zO) (xs:=B.map qD) (ρ:=[some (.dat (.tup (.str s::ts.map T.d))),some (.own (.lst (A.map qD))),some (.dat (.int (1+(i:Int)))),k3,k4])
     (λj ρ=>∃(k3 k4:Option Sl),ρ=[some (.dat (.tup (.str s::ts.map T.d))),some (.own (.lst ((A++(B.take j).map λq=>((i:Int)::q.1,q.2)).map qD))),some (.dat (.int (1+(i:Int)))),k3,k4]) ⟨k3,k4,by simp⟩ (by
      rintro j y ρ hy ⟨k3,k4,rfl⟩;rw[List.getElem?_map]at hy;cases ey:B[j]? with
      |none=>rw[ey]at hy;cases hy
      |some q=>
       rw[ey]at hy;cases hy
       have hj:j<B.length:=(List.getElem?_eq_some_iff.mp ey).1;have eq:B[j]=q:=by rw[List.getElem?_eq_getElem hj]at ey;exact Option.some.inj ey
       have tkB:B.take (j+1)=B.take j++[q]:=by rw[Jp hj,eq]
       have ql:=pl q (List.mem_of_getElem? ey);have z1:1+q.1.length<=1000000:=by omega
       have z2:(A++(B.take j).map λq=>((i:Int)::q.1,q.2)).length<1000000:=by rw[Jm,Ja,Jw];omega
       refine⟨[some (.dat (.tup (.str s::ts.map T.d))),some (.own (.lst ((A++(B.take (j+1)).map λq=>((i:Int)::q.1,q.2)).map qD))),some (.dat (.int (1+(i:Int)))),some (.dat (pD q.1)),some (.dat q.2.d)],.inl ?_,_,_,rfl⟩;have eL:(A++(B.take (j+1)).map λq=>((i:Int)::q.1,q.2)).map qD=(A++(B.take j).map λq=>((i:Int)::q.1,q.2)).map qD++[qD ((i:Int)::q.1,q.2)]:=by rw[tkB];simp
       rw[eL];have z3:((A++(B.take j).map λq=>((i:Int)::q.1,q.2)).map qD).length<1000000:=by rw[Ja];exact z2
       generalize (A++(B.take j).map λq=>((i:Int)::q.1,q.2)).map qD=AA at z3 ⊢;have i1:(1:Int)+(i:Int) - 1=(i:Int):=by omega
       simp! [qD,pD,yK,i1,z1,z3])
    rw[Ja,Qe]at f2;refine⟨[some (.dat (.tup (.str s::ts.map T.d))),some (.own (.lst ((A++B.map λq=>((i:Int)::q.1,q.2)).map qD))),some (.dat (.int (1+(i:Int)))),k3',k4'],.inl ?_,_,_,_,rfl⟩;generalize (A++B.map λq=>((i:Int)::q.1,q.2)).map qD=AA at f2 ⊢;generalize A.map qD=A0 at f2 ⊢;generalize B.map qD=B0 at f2 e1
    simp! [e2,e1,f2])
  rw[gG,Qe]at f1;have ro1:nF 1:=yB (by decide) (by decide);have ro2:nF ((ts.length:Int)+1):=yB (by omega) (by omega);have q0:qD ([],.nd s ts)=.lst [.tup [],.tup (.str s::ts.map T.d)]:=by simp[qD,pD,qZ]
  rw[q0]at f1;have iq:(inr (.nd s ts)).map qD=((([],.nd s ts)::kG 0 ts).map qD):=by rw[inr]
  rw[iq];generalize (([],T.nd s ts)::kG 0 ts).map qD=LL at f1 ⊢
  simp! [zam,qZ,f1,ro1,ro2]
theorem zaR(acc l:List Str)(x:Str):qP acc (l++[x])=if x∈qP acc l then qP acc l else qP acc l++[x]:=by unfold qP;rw[List.foldl_append];rfl
theorem zjj(acc l m:List Str):qP acc (l++m)=qP (qP acc l) m:=by unfold qP;rw[List.foldl_append]
theorem zey(l m:List Str):ded (l++m)=qP (ded l) m:=zjj [] l m
theorem zfz{α:Type}{P:List α->Prop}(h0:P [])(h1:∀l x,P l->P (l++[x]))(l:List α):P l:=by
 have:∀n (l:List α),l.length=n->P l:=by
  intro n;induction n with
  |zero=>intro l hl;rw[List.length_eq_zero_iff.mp hl];exact h0
  |succ n ih=>
   intro l hl;rcases List.eq_nil_or_concat l with rfl|⟨l',x,rfl⟩
   ·exact h0
   ·rw[List.concat_eq_append]at hl ⊢;exact h1 _ _ (ih l' (by simpa using hl))
 exact this _ l rfl
theorem zbB(acc l:List Str):qP acc l=acc++(ded l).filter λx=>!decide (x∈acc):=by
 refine zfz (P:=λl=>qP acc l=acc++(ded l).filter λx=>!decide (x∈acc)) ?_ ?_ l
 ·simp[qP,ded]
 ·intro l x ih;have e:ded (l++[x])=if x∈ded l then ded l else ded l++[x]:=zaR [] l x
  have m:x∈qP acc l↔x∈acc\/x∈l:=zgg l acc;have m2:x∈ded l↔x∈l:=jZ l;rw[zaR,e];by_cases hl:x∈l
  ·rw[if_pos (m.mpr (.inr hl)),if_pos (m2.mpr hl)];exact ih
  ·rw[if_neg λz=>hl (m2.mp z)];by_cases ha:x∈acc
   ·rw[if_pos (m.mpr (.inl ha)),ih];simp[List.filter_append,ha]
   ·rw[if_neg λz=>(m.mp z).elim ha hl,ih];simp[List.filter_append,ha]
theorem zpB(acc l:List Str)(h:acc.Nodup):(qP acc l).Nodup:=by
 refine zfz (P:=λl=>(qP acc l).Nodup) h ?_ l;intro l x ih;rw[zaR];split
 ·exact ih
 ·rename_i hx;rw[Qp];exact⟨ih,by simp,λa ha b hb=>by rw[Wc.mp hb];rintro rfl;exact hx ha⟩
theorem nO(l:List Str):(ded l).Nodup:=zpB [] l (by simp)
theorem zpC(acc l:List Str)(h:(acc++l).Nodup):qP acc l=acc++l:=by revert h;refine zfz (P:=λl=>(acc++l).Nodup->qP acc l=acc++l) (λ_=>by simp[qP]) ?_ l;intro l x ih h;rw[←JG,Qp]at h;rw[zaR,ih h.1,if_neg (λz=>h.2.2 x z x (by simp) rfl),JG]
theorem zpA(l:List Str):ded (ded l)=ded l:=zpC [] (ded l) (by simpa using nO l)
theorem zji(acc l:List Str):qP acc (ded l)=qP acc l:=by rw[zbB,zbB,zpA]
mutual
theorem zit:∀t:T,bks t=ded (vs t)
 | .bl x=>by simp[bks,vs,ded]
 | .nd s ts=>by rw[bks,vs,zjo [] ts];rfl
theorem zjo(acc:List Str):∀ts:List T,kA acc ts=qP acc (vsL ts)
 |[]=>by simp[kA,vsL,qP]
 |t::ts=>by rw[kA,vsL,zjo _ ts,zjj,zit t,zbB acc (vs t)]
end
theorem zlN{l m:List Str}(h:∀x∈m,x∈l):ded (l++m)=ded l:=by
 rw[zey,zbB];rw[List.filter_eq_nil_iff.mpr,JB];intro x hx
 have:x∈ded l:=(jZ l).mpr (h x ((jZ m).mp hx));simp[this]
theorem zat{l V:List Str}(h:∀x∈l,x∈V):(ded l).length<=V.length:=zch _ _ (nO l) λx hx=>h x ((jZ l).mp hx)
def lts(z:Str):List Str:=z.cps.toList.map λc=>⟨#[c]⟩
theorem zpj(z:Str):(lts z).length=z.length:=by simp[lts,Str.length]
theorem zlp{z y:Str}{i:Nat}(h:(lts z)[i]?=some y):∃c,atI z.cps.toList (i:Int)=some c/\y=⟨#[c]⟩:=by
 unfold lts at h;rw[List.getElem?_map]at h;cases e:z.cps.toList[i]? with
 |none=>rw[e]at h;cases h
 |some c=>
  rw[e]at h;cases h
  exact⟨c,vA e,rfl⟩
theorem ziy{α β:Type}:∀(W:List α) (M:List β) (y:α) (m:β),M[W.length]?=some m->(W++[y]).zip M=W.zip M++[(y,m)]
 |[],m0::M,y,m,h=>by simp at h;simp[h]
 |[],[],y,m,h=>by simp at h
 |w::W,[],y,m,h=>by simp at h
 |w::W,m0::M,y,m,h=>by simp at h;simp[ziy W M y m h]
theorem zmW{L V:List Str}(h:(ded V).length<=L.length)(x:Str):zH (nmC L V) x=none↔x∉V:=by rw[vI];unfold nmC;rw[QJ (by rw[Ja];exact h),jZ]
theorem zpg{L V:List Str}(h:(ded V).length<=L.length):(nmC L V).length=(ded V).length:=by unfold nmC;rw[Wa,Ja];omega
theorem zpt(φ:Fil):(fks φ).length=φ.length:=by simp[fks]
theorem zmV{L V:List Str}{y z:Str}(hy:y∉V)(hz:L[(ded V).length]?=some z):nmC L (V++[y])=nmC L V++[(y,.bl z)]:=by
 unfold nmC;have e:ded (V++[y])=if y∈ded V then ded V else ded V++[y]:=zaR [] V y
 rw[e,if_neg λz=>hy ((jZ V).mp z)];exact ziy _ _ _ _ (by rw[List.getElem?_map,hz];rfl)
theorem zmX{L V:List Str}{y:Str}(hy:y∈V):nmC L (V++[y])=nmC L V:=by
 unfold nmC;have e:ded (V++[y])=if y∈ded V then ded V else ded V++[y]:=zaR [] V y
 rw[e,if_pos ((jZ V).mpr hy)]
theorem zlU(C:D)(z:Str)(N:Nat)(V B:List Str)(hl:(ded (V++B)).length<=(lts z).length)(hz:(lts z).length<=26)(k3 k4:Option Sl):
  ∃k4',vK (gN 4) (zbv N) (B.map D.str) [some (.dat C),some (.dat (.str z)),some (.own (zJ (nmC (lts z) V))),k3,k4]=some (.nx [some (.dat C),some (.dat (.str z)),some (.own (zJ (nmC (lts z) (V++B)))),k3,k4']):=by
 obtain⟨ρ',f1,k4',rfl⟩:=yS (g:=gN 4) (b:=zbv N) (xs:=B.map D.str) (ρ:=[some (.dat C),some (.dat (.str z)),some (.own (zJ (nmC (lts z) V))),k3,k4])
  (λj ρ=>∃k4,ρ=[some (.dat C),some (.dat (.str z)),some (.own (zJ (nmC (lts z) (V++B.take j)))),k3,k4]) ⟨k4,by simp⟩ (by
   rintro j x ρ hx ⟨k4,rfl⟩;rw[List.getElem?_map]at hx;cases e:B[j]? with
   |none=>rw[e]at hx;cases hx
   |some y=>
    rw[e]at hx;cases hx
    have hj:j<B.length:=(List.getElem?_eq_some_iff.mp e).1;have ey:B[j]=y:=by rw[List.getElem?_eq_getElem hj]at e;exact Option.some.inj e
    have tk:V++B.take (j+1)=(V++B.take j)++[y]:=by rw[Jp hj,ey,JG]
    have sub:∀x∈(V++B.take j)++[y],x∈V++B:=λx hx=>by
     rw[←tk]at hx;rcases JS.mp hx with h|h
     ·exact Jq _ h
     ·exact Ji _ (Wj h)
    have l1:(ded ((V++B.take j)++[y])).length<=(lts z).length:=Jt (zat (V:=ded (V++B)) λx hx=>(jZ _).mpr (sub x hx)) hl;have l0:(ded (V++B.take j)).length<=(lts z).length:=Jt (zat (V:=ded (V++B)) λx hx=>(jZ _).mpr (sub x (Jq _ hx))) hl;refine⟨[some (.dat C),some (.dat (.str z)),some (.own (zJ (nmC (lts z) (V++B.take (j+1))))),k3,some (.dat (.str y))],.inl ?_,_,rfl⟩;rw[tk];have nn:=zmW l0 y;have nl:=zpg l0;have ks:=@zmV (lts z) (V++B.take j) y;have kk:=@zmX (lts z) (V++B.take j) y;have dl:y∉V++B.take j->(ded ((V++B.take j)++[y])).length=(ded (V++B.take j)).length+1:=λh=>by
     have e:ded ((V++B.take j)++[y])=if y∈ded (V++B.take j)then ded (V++B.take j)else ded (V++B.take j)++[y]:=zaR [] _ y
     rw[e,if_neg λz=>h ((jZ _).mp z)];simp
    generalize V++B.take j=U at*;have ok:=gM (nmC (lts z) U);have fv:=zcG y (nmC (lts z) U);by_cases hy:y∈U
    ·rw[kk hy];cases ef:zH (nmC (lts z) U) y with
     |none=>exact absurd hy (nn.mp ef)
     |some u=>
      rw[ef]at fv;simp only[zJ]
      simp! [inK,ok,fv,kdK]
    ·have ef:=nn.mpr hy;have lt:(ded U).length<(lts z).length:=by have:=dl hy;omega
     obtain⟨w,hw⟩:∃w,(lts z)[(ded U).length]?=some w:=⟨_,List.getElem?_eq_getElem lt⟩;rw[ks hy hw];obtain⟨c,il,rfl⟩:=zlp hw;have zl:z.length<=1000000:=by rw[←zpj];omega
     rw[ef]at fv;have pa:=zdO (nmC (lts z) U) y (.bl ⟨#[c]⟩) ef;rw[qW]at pa;have kl:(fks (nmC (lts z) U)).length=(ded U).length:=by rw[zpt,nl]
     have k6:(ded U).length<1000000:=by omega
     generalize nmC (lts z) U++[(y,T.bl ⟨#[c]⟩)]=XX at pa ⊢;simp only[zJ]
     simp! [inK,lenK,ok,fv,kl,k6,il,zl,pa,kdK])
 rw[Ja,Qe]at f1;exact⟨k4',f1⟩
theorem zfn(z:Str)(ts:List T)(C:D)(hc:C=.tup (ts.map T.d)\/C=.lst (ts.map T.d))(hd:∀t∈ts,t.depth<=90/\t.size<=900000/\wid t<=1000)(hl:(ded (vsL ts)).length<=(lts z).length)(hz:(lts z).length<=26)(tl:ts.length<=10):
  zai [C,.str z]=some (.lst ((vX (lts z) ts).map T.d)):=by
 obtain⟨ρ',f1,k3,k4,rfl⟩:=yS (g:=gN 3) (b:=zcz zO) (xs:=ts.map T.d) (ρ:=[some (.dat C),some (.dat (.str z)),some (.own (zJ (nmC (lts z) []))),none,none])
  (λi ρ=>∃k3 k4,ρ=[some (.dat C),some (.dat (.str z)),some (.own (zJ (nmC (lts z) (vsL (ts.take i))))),k3,k4]) ⟨none,none,by simp[vsL]⟩ (by
   rintro i x ρ hx ⟨k3,k4,rfl⟩;rw[List.getElem?_map]at hx;cases e:ts[i]? with
   |none=>rw[e]at hx;cases hx
   |some t=>
    rw[e]at hx;cases hx
    have hi:i<ts.length:=(List.getElem?_eq_some_iff.mp e).1;have et:ts[i]=t:=by rw[List.getElem?_eq_getElem hi]at e;exact Option.some.inj e
    have hm:=List.mem_of_getElem? e;obtain⟨d1,d2,d3⟩:=hd t hm;have e1:zbf [t.d]=some (.lst ((bks t).map D.str)):=zcY 100 t (by omega) d2;have va:∀a b:List T,vsL (a++b)=vsL a++vsL b:=by
     intro a b;induction a with
     |nil=>simp[vsL]
     |cons c a ih=>rw[Ql,vsL,vsL,ih,JG]
    have tk:vsL (ts.take (i+1))=vsL (ts.take i)++vs t:=by rw[Jp hi,et,va];simp[vsL]
    have e2:∀V:List Str,nmC (lts z) (V++bks t)=nmC (lts z) (V++vs t):=λV=>by unfold nmC;rw[zey,zey,zit,zji]
    have e3:ded (vsL (ts.take i)++bks t)=ded (vsL (ts.take i)++vs t):=by rw[zey,zey,zit,zji]
    have l1:(ded (vsL (ts.take i)++bks t)).length<=(lts z).length:=by rw[e3,←tk];refine Jt (zat (V:=ded (vsL ts)) λx hx=>(jZ _).mpr ?_) hl;obtain⟨u,hu,h⟩:=wT.mp hx;exact wT.mpr ⟨u,Wj hu,h⟩
    obtain⟨k4',f2⟩:=zlU C z zO (vsL (ts.take i)) (bks t) l1 hz (some (.dat t.d)) k4;rw[e2,←tk]at f2;refine⟨_,.inl ?_,some (.dat t.d),k4',rfl⟩;generalize (bks t).map D.str=BB at e1 f2;simp only[Sl.own]at f2 ⊢
    simp! [e1,f2])
 rw[Ja,Qe]at f1;have w1:yG (gN 0) qQ (zcO zO) [none,some (.dat (zJ (nmC (lts z) (vsL ts))))] (ts.map T.d)=some ((vX (lts z) ts).map T.d):=by
  unfold vX;rw[qT];refine zaK (by simp) λi x y hx hy=>?_
  rw[List.getElem?_map]at hx;rw[Jn,List.getElem?_map]at hy;cases e:ts[i]? with
  |none=>rw[e]at hx;cases hx
  |some t=>
   rw[e]at hx hy;cases hx;cases hy
   obtain⟨d1,d2,d3⟩:=hd t (List.mem_of_getElem? e)
   have:=zfm (nmC (lts z) (vsL ts)) 100 t (by omega) d3;have this:zcT [t.d,zJ (nmC (lts z) (vsL ts))]=_:=this;exact⟨_,rfl,rfl,by simp! [this]⟩
 have z0:zJ (nmC (lts z) [])=.dic [] []:=rfl;rw[z0]at f1;have tl':ts.length<=1000000:=by omega
 simp only[Sl.own]at f1;rcases hc with rfl|rfl
 ·simp! [zai,f1,w1,tl']
 ·simp! [zai,f1,w1,tl']
structure LL(t:T):Prop where
 w:wid t<=3
 z:t.size<=12
 d:t.depth<=3
theorem zqm:∀ts:List T,T.depths ts<=1->T.sizes ts<=ts.length
 |[],_=>by simp[T.sizes]
 |t::r,h=>by
  rw[T.depths]at h;have ih:=zqm r (by omega)
  have:t.size=1:=by
   cases t with
   |bl x=>simp[T.size]
   |nd s us=>
    rw[T.depth]at h;cases us with
    |nil=>simp[T.size,T.sizes]
    |cons u us=>have:=gB u;rw[T.depths]at h;omega
  rw[T.sizes,Jl];omega
theorem zql(t:T)(hd:t.depth<=2)(hw:wid t<=3):t.size<=4:=by
 cases t with
 |bl x=>simp[T.size]
 |nd s ts=>
  rw[T.depth]at hd;rw[wid]at hw
  have:=zqm ts (by omega);rw[T.size];omega
theorem Sub.lt{u t:T}(h:Sub u t):u=t\/u.depth<t.depth:=by
 cases h with
 |refl=>exact .inl rfl
 |kid hm hs=>right;have:=hs.depth;have:=vW hm;rw[T.depth];omega
theorem LL.sub{u t:T}(h:LL t)(s:Sub u t):LL u:=by have:=s.wid;have:=s.size;have:=s.depth;exact⟨by have:=h.w;omega,by have:=h.z;omega,by have:=h.d;omega⟩
theorem znM{a b:T}(ha:LL a)(hb:LL b)(ks:∃V:List Str,V.length<=6/\∀x,x∈vs a\/x∈vs b->x∈V):vC a b where
 h4:=λu hu=>by
  rcases hu with h|h
  ·rcases h.lt with e|e
   ·exact .inl e
   ·exact .inr (.inr (zql u (by have:=ha.d;omega) (ha.sub h).w))
  ·rcases h.lt with e|e
   ·exact .inr (.inl e)
   ·exact .inr (.inr (zql u (by have:=hb.d;omega) (hb.sub h).w))
 hd:=λu hu=>hu.elim (λh=>(ha.sub h).d) λh=>(hb.sub h).d
 za:=ha.z
 zb:=hb.z
 ks:=ks
def fwd(P:List (Str×Str)):Fil:=P.map λp=>(p.1,T.bl p.2)
def bwd(P:List (Str×Str)):Fil:=P.map λp=>(p.2,T.bl p.1)
theorem zcF{P:List (Str×Str)}(h:(P.map (·.1)).Nodup){p:Str×Str}(hp:p∈P):zA (fwd P) (.bl p.1)=.bl p.2:=
 xP (wD (by unfold fwd;rw[Jn];exact h) (p.1,T.bl p.2) (Jk.mpr ⟨p,hp,rfl⟩))
theorem zrR{P:List (Str×Str)}(h:(P.map (·.2)).Nodup){p:Str×Str}(hp:p∈P):zA (bwd P) (.bl p.2)=.bl p.1:=
 xP (wD (by unfold bwd;rw[Jn];exact h) (p.2,T.bl p.1) (Jk.mpr ⟨p,hp,rfl⟩))
theorem zcE(P:List (Str×Str)):∀p∈fwd P,p.2.size<=1/\wid p.2<=3:=λp hp=>by obtain⟨q,_,rfl⟩:=Jk.mp hp;simp[T.size,wid]
theorem LL.ren{P:List (Str×Str)}{t:T}(h:LL t)(hn:(P.map (·.1)).Nodup)(hv:∀x∈vs t,x∈P.map (·.1)):LL (zA (fwd P) t):=by
 have s:=zaH (φ:=fwd P) (m:=1) (by omega) (λp hp=>(zcE P p hp).1) t;have d:=zcK (φ:=fwd P) t λx hx=>by obtain⟨p,hp,rfl⟩:=Jk.mp (hv x hx);exact⟨_,zcF hn hp⟩
 exact⟨zaX (λp hp=>(zcE P p hp).2) t h.w,by have:=h.z;omega,by have:=h.d;omega⟩
def nmP(L V:List Str):List (Str×Str):=(ded V).zip L
theorem zea(L V:List Str):nmC L V=fwd (nmP L V):=by unfold nmC nmP fwd;rw[List.zip_map_right];rfl
theorem ziS{L V:List Str}(h:(ded V).length<=L.length):(nmP L V).map (·.1)=ded V:=QJ h
theorem ziR(L V:List Str):∃m,(nmP L V).map (·.2)=L.take m:=by
 have:∀(W L:List Str),∃m,(W.zip L).map (·.2)=L.take m:=by
  intro W;induction W with
  |nil=>intro L;exact⟨0,by simp⟩
  |cons w W ih=>
   intro L;cases L with
   |nil=>exact⟨0,by simp⟩
   |cons y L=>obtain⟨m,e⟩:=ih L;exact⟨m+1,by simp[e]⟩
 exact this _ _
def dbl(x:Str):Str:=x++x
def gR(V:List Str):Fil:=(ded V).map λx=>(x,T.bl (dbl x))
theorem zlO{V:List Str}{x:Str}(h:x∈V):zA (gR V) (.bl x)=.bl (dbl x):=
 xP (wD (by unfold gR;rw[Jn];simpa[Function.comp_def]using nO V) (x,T.bl (dbl x)) (Jk.mpr ⟨x,(jZ V).mpr h,rfl⟩))
def One(x:Str):Prop:=∃c,x=⟨#[c]⟩
theorem zpP:∀x∈U26,One x:=λx hx=>by unfold U26 at hx;obtain⟨c,_,rfl⟩:=Jk.mp hx;exact⟨c,rfl⟩
theorem zpD{x:Str}(h:One x):(dbl x).length=2:=by obtain⟨c,rfl⟩:=h;unfold dbl;rw[zod];rfl
theorem zkS{x:Str}(h:One x):x.length=1:=by obtain⟨c,rfl⟩:=h;rfl
theorem zpE{x y:Str}(hx:One x)(hy:One y)(e:dbl x=dbl y):x=y:=by
 obtain⟨c,rfl⟩:=hx;obtain⟨d,rfl⟩:=hy
 have:=JV (λz:Str=>z.cps.toList) e;simp[dbl,PySem.Str.cps_append]at this;rw[this]
def A13:List Str:=U26.take 13
def N13:List Str:=U26.drop 13
theorem zmj:A13.length=13:=by decide+kernel
theorem zmi:N13.length=13:=by decide+kernel
def nmB(l l2:T):List (Str×Str):=nmP A13 (vs l)++(nmP N13 (vs l2)).map λp=>(dbl p.1,p.2)
structure wM(l l2:T):Prop where
 o1:∀x∈vs l,One x
 o2:∀x∈vs l2,One x
 n1:∃V:List Str,V.length<=3/\∀x∈vs l,x∈V
 n2:∃V:List Str,V.length<=3/\∀x∈vs l2,x∈V
section
variable{l l2:T}(A:wM l l2)
include A
theorem wM.m1:(ded (vs l)).length<=3:=by obtain⟨V,h,h2⟩:=A.n1;have:=zat h2;omega
theorem wM.m2:(ded (vs l2)).length<=3:=by obtain⟨V,h,h2⟩:=A.n2;have:=zat h2;omega
theorem wM.k1:(nmP A13 (vs l)).map (·.1)=ded (vs l):=ziS (by have:=A.m1;rw[zmj];omega)
theorem wM.k2:(nmP N13 (vs l2)).map (·.1)=ded (vs l2):=ziS (by have:=A.m2;rw[zmi];omega)
theorem wM.keys:(nmB l l2).map (·.1)=ded (vs l)++(ded (vs l2)).map dbl:=by unfold nmB;rw[JF,A.k1,Jn,←A.k2,Jn];rfl
theorem wM.knd:((nmB l l2).map (·.1)).Nodup:=by
 rw[A.keys,Qp];refine⟨nO _,?_,λx hx y hy=>?_⟩
 ·unfold List.Nodup;rw[List.pairwise_map];exact(nO (vs l2)).imp_of_mem λhx hy ne e=>ne (zpE (A.o2 _ ((jZ _).mp hx)) (A.o2 _ ((jZ _).mp hy)) e)
 ·obtain⟨z,hz,rfl⟩:=Jk.mp hy;have h1:=zkS (A.o1 x ((jZ _).mp hx));have h2:=zpD (A.o2 z ((jZ _).mp hz));rintro rfl;omega
theorem wM.vnd:((nmB l l2).map (·.2)).Nodup:=by
 obtain⟨m,e1⟩:=ziR A13 (vs l);obtain⟨n,e2⟩:=ziR N13 (vs l2);have e3:((nmP N13 (vs l2)).map λp=>(dbl p.1,p.2)).map (·.2)=N13.take n:=by rw[Jn,←e2];rfl
 unfold nmB;rw[JF,e1,e3]
 have:(A13++N13).Nodup:=by unfold A13 N13;rw[Wh];exact zon
 exact this.sublist ((List.take_sublist _ _).append (List.take_sublist _ _))
theorem wM.f1{t:T}(h:∀x∈vs t,x∈vs l):zA (fwd (nmB l l2)) t=zA (nmC A13 (vs l)) t:=by
 refine zcc t λx hx=>?_
 have:x∈(nmP A13 (vs l)).map (·.1):=by rw[A.k1,jZ];exact h x hx
 obtain⟨p,hp,rfl⟩:=Jk.mp this;rw[zea,zcF A.knd (Jq _ hp),zcF (by rw[A.k1];exact nO _) hp]
theorem wM.f2{t:T}(h:∀x∈vs t,x∈vs l2):zA (fwd (nmB l l2)) (zA (gR (vs l2)) t)=zA (nmC N13 (vs l2)) t:=by
 refine zbI t λx hx=>?_
 have hx2:=h x hx
 have:x∈(nmP N13 (vs l2)).map (·.1):=by rw[A.k2,jZ];exact hx2
 obtain⟨p,hp,rfl⟩:=Jk.mp this;rw[zlO hx2,zea,zcF (by rw[A.k2];exact nO _) hp];exact zcF A.knd (p:=(dbl p.1,p.2)) (Ji _ (Jk.mpr ⟨p,hp,rfl⟩))
theorem wM.back:∀x∈(nmB l l2).map (·.1),zA (bwd (nmB l l2)) (zA (fwd (nmB l l2)) (.bl x))=.bl x:=λx hx=>by obtain⟨p,hp,rfl⟩:=Jk.mp hx;rw[zcF A.knd hp,zrR A.vnd hp]
theorem wM.in1{x:Str}(h:x∈vs l):x∈(nmB l l2).map (·.1):=by rw[A.keys];exact Jq _ ((jZ _).mpr h)
theorem wM.in2{t:T}(h:∀x∈vs t,x∈vs l2){y:Str}(hy:y∈vs (zA (gR (vs l2)) t)):y∈(nmB l l2).map (·.1):=by obtain⟨x,hx,h2⟩:=(wF t).mp hy;rw[zlO (h x hx)]at h2;simp[vs]at h2;rw[A.keys,h2];exact Ji _ (Jk.mpr ⟨x,(jZ _).mpr (h x hx),rfl⟩)
theorem wM.klen:((nmB l l2).map (·.1)).length<=6:=by
 rw[A.keys,Jm,Ja]
 have:=A.m1;have:=A.m2;omega
end
open Classical in
noncomputable def tri(a b:T)(base:List T):Option (List T):=if h:∃φ,MA a b φ []then some (vX U26 (zM h.choose base))else none
section
variable{a b:T}{base:List T}{V:List Str}(va:∀x∈vs a,x∈V)(vb:∀x∈vs b,x∈V)(hv:∀t∈base,∀x∈vs t,x∈V)(hV:V.length<=26)
theorem MA.vsB{φ:Fil}(va:∀x∈vs a,x∈V)(vb:∀x∈vs b,x∈V)(h:MA a b φ []){t:T}(ht:∀x∈vs t,x∈V):∀x∈vs (zA φ t),x∈V:=λx hx=>by
 obtain⟨y,hy,h2⟩:=(wF t).mp hx;cases e:zH φ y with
 |none=>rw[kX e]at h2;simp[vs]at h2;rw[h2];exact ht y hy
 |some u=>
  rw[xP e]at h2;obtain⟨p,hp,_,rfl⟩:=zaC e;exact(h.vv p hp x h2).elim (va x) (vb x)
include va vb hv hV in
theorem MA.bl26{φ:Fil}(h:MA a b φ []):(ded (vsL (zM φ base))).length<=U26.length:=by rw[zgw];refine Jt (zat (V:=V) λx hx=>?_) hV;obtain⟨t,ht,hx⟩:=wT.mp hx;rw[qT]at ht;obtain⟨u,hu,rfl⟩:=Jk.mp ht;exact h.vsB va vb (hv u hu) x hx
theorem zlv(ts:List T):zM [] ts=ts:=by
 rw[qT]
 conv=>rhs;rw[←List.map_id ts]
 exact JQ λt _=>wJ t
include va vb hv hV in
theorem ziB{φ:Fil}(h:MA a b φ []):tri a b base=some (vX U26 (zM φ base)):=by
 have ex:∃φ,MA a b φ []:=⟨φ,h⟩;unfold tri;rw[dif_pos ex]
 have:=zec (δ:=[]) (ε:=[]) (φ':=φ) ex.choose_spec (by rw[wJ,wJ];exact h) va vb (λx _=>by rw[wJ,wJ]) hv (L:=U26) (ex.choose_spec.bl26 va vb hv hV);rw[zlv]at this;rw[this]
theorem ziC(h:∀σ,zA σ a≠zA σ b):tri a b base=none:=by unfold tri;rw[dif_neg];rintro⟨φ,hM⟩;exact h φ hM.done.2
include va vb hv hV in
theorem zou{δ ε:Fil}(hε:∀x∈V,zA ε (zA δ (.bl x))=.bl x)(ex:∀σ,zA σ a=zA σ b->∃φ,MA a b φ []):
  (∀φ',MA (zA δ a) (zA δ b) φ' []->tri a b base=some (vX U26 (zM φ' (zM δ base))))/\((∀σ,zA σ (zA δ a)≠zA σ (zA δ b))->tri a b base=none):=by
 refine⟨λφ' hφ'=>?_,λhn=>?_⟩
 ·have u1:zA (wE V λx=>zA φ' (zA δ (.bl x))) a=zA (wE V λx=>zA φ' (zA δ (.bl x))) b:=by rw[zak a va,zak b vb];exact hφ'.done.2
  obtain⟨φ,hφ⟩:=ex _ u1;rw[ziB va vb hv hV hφ,zec hφ hφ' va vb hε hv (hφ.bl26 va vb hv hV)]
 ·refine ziC λσ e=>?_
  have back:∀t:T,(∀x∈vs t,x∈V)->zA ε (zA δ t)=t:=λt h=>by
   have:=zbI (α:=δ) (β:=ε) (γ:=[]) t λx hx=>by rw[hε x (h x hx),wJ]
   rw[this,wJ]
  obtain⟨V',hV'⟩:∃V':List Str,∀t:T,(∀x∈vs t,x∈V)->∀y∈vs (zA δ t),y∈V':=
   ⟨V.flatMap λx=>vs (zA δ (.bl x)),λt h y hy=>by obtain⟨x,hx,hy⟩:=(wF t).mp hy;exact List.mem_flatMap.mpr ⟨x,h x hx,hy⟩⟩
  refine hn (wE V' λy=>zA σ (zA ε (.bl y))) ?_;rw[zak _ (hV' a va),zak _ (hV' b vb),back a va,back b vb];exact e
end
theorem zdC(φ:Fil)(n:T):∀(p:List Int) (t u:T),qF t p=some u->zA φ (qE t p n)=qE (zA φ t) p (zA φ n)
 |[],t,u,_=>by rw[zbr,zbr]
 |k::p,t,u,h=>by
  obtain⟨s,ts,c,rfl,h0,e,h2⟩:=gH h;have e2:(zM φ ts)[k.toNat]?=some (zA φ c):=by rw[qT,List.getElem?_map,e];rfl
  rw[zdQ e,zA,zA,zdQ e2,qT,qT,List.map_set,zdC φ n p c u h2]
theorem zet(φ:Fil):∀(p:List Int) (t u:T),qF t p=some u->qF (zA φ t) p=some (zA φ u)
 |[],t,u,h=>by
  have h:some t=some u:=by cases t<;>simpa[qF]using h
  cases h
  cases e:zA φ t<;>rfl
 |k::p,t,u,h=>by
  obtain⟨s,ts,c,rfl,h0,e,h2⟩:=gH h;have e2:(zM φ ts)[k.toNat]?=some (zA φ c):=by rw[qT,List.getElem?_map,e];rfl
  rw[zA,zdY h0 e2];exact zet φ p c u h2
theorem zcr:∀(p:List Int) (t u:T),qF t p=some u->Sub u t
 |[],t,u,h=>by
  have h:some t=some u:=by cases t<;>simpa[qF]using h
  cases h;exact .refl _
 |k::p,t,u,h=>by obtain⟨s,ts,c,rfl,h0,e,h2⟩:=gH h;exact .kid (List.mem_of_getElem? e) (zcr p c u h2)
theorem zkB{n:T}{x:Str}:∀(p:List Int) (t:T),x∈vs (qE t p n)->x∈vs t\/x∈vs n
 |[],t,h=>by rw[zbr]at h;exact .inr h
 |k::p,t,h=>by
  cases t with
  |bl y=>exact .inl (by simpa[qE]using h)
  |nd s ts=>
   cases e:ts[k.toNat]? with
   |none=>exact .inl (by simpa[qE,e]using h)
   |some c=>
    rw[zdQ e,vs,wT]at h;obtain⟨t,ht,h⟩:=h;rcases List.mem_or_eq_of_mem_set ht with h1|h1
    ·exact .inl (by rw[vs,wT];exact⟨t,h1,h⟩)
    ·rw[h1]at h;rcases zkB p c h with h|h
     ·exact .inl (by rw[vs,wT];exact⟨c,List.mem_of_getElem? e,h⟩)
     ·exact .inr h
theorem zgl{α:Type}{h:α->D}{k:α->Str}{v:α->T}{g:D->EO En}{t:EO Bool}{fk fe:EO D}{ρ:En}:∀(W:List α) (done:Fil),(done.map (·.1)++W.map k).Nodup->(∀x∈W,∃ρ1,g (h x) ρ=some ρ1/\t ρ1=some true/\fk ρ1=some (.str (k x))/\fe ρ1=some (v x).d)->
  wQ g t fk fe ρ (W.map h) (fks done,fds done)=some (fks (done++W.map λx=>(k x,v x)),fds (done++W.map λx=>(k x,v x)))
 |[],done,_,_=>by simp[wQ]
 |x::W,done,hn,H=>by
  obtain⟨ρ1,e1,e2,e3,e4⟩:=H x (by simp);have fn:zH done (k x)=none:=by rw[vI];intro z;rw[Qp]at hn;exact hn.2.2 (k x) z (k x) (by simp) rfl
  have pa:=zdO done (k x) (v x) fn;have ih:=zgl W (done++[(k x,v x)]) (by simpa using hn) λy hy=>H y (Je _ hy)
  rw[JG,List.singleton_append]at ih;rw[Jg,Jg,←ih];simp[wQ,e1,e2,e3,e4,jS,kdK,pa]
structure Rx(r:T×T):Prop where
 nb:r.1.isBl=false
 vr:∀x∈vs r.2,x∈vs r.1
 ll:LL r.1
 z2:r.2.size<=5
 on:∀x∈vs r.1,One x
 n3:∃V:List Str,V.length<=3/\∀x∈vs r.1,x∈V
theorem zrS{ps:SI}{bs:List Str}(hc:∀p∈ps,p.2<=3){t:T}(h:WT ps bs t):wid t<=3:=by
 induction h with
 |bl _=>simp[wid]
 |@nd s ts hs _ ih=>
  have h1:=hc _ hs
  have:∀l:List T,(∀t∈l,wid t<=3)->wids l<=3:=by
   intro l;induction l with
   |nil=>intro _;simp[wids]
   |cons t l ihl=>intro h;rw[wids];have:=h t (by simp);have:=ihl λu hu=>h u (Je _ hu);omega
  have:=this ts ih;rw[wid];simp only at h1;omega
theorem Rv.rx{ps:SI}(S:zeI ps){r:T×T}(h:Rv ps r):Rx r:=
 ⟨h.nb,h.vs,⟨zrS (λp hp=>(S.cnt p hp).2) h.w1,h.z1,h.d1⟩,h.z2,λx hx=>zpP x (zhE h.w1 x hx),h.b1⟩
theorem Rx.apart{r q:T×T}(h:Rx r)(k:Rx q):wM r.1 q.1:=⟨h.on,k.on,h.n3,k.n3⟩
theorem Rx.d2{r:T×T}(h:Rx r):r.2.depth<=5/\wid r.2<=5:=by have:=h.z2;have:=zas r.2;have:=zaS r.2;omega
abbrev dl(r:T×T):T:=zA (gR (vs r.1)) r.1
abbrev dr(r:T×T):T:=zA (gR (vs r.1)) r.2
theorem zjk(V:List Str):gR V=fwd ((ded V).map λx=>(x,dbl x)):=by unfold gR fwd;rw[Jn];rfl
theorem Rx.lld{r:T×T}(h:Rx r):LL (dl r):=by
 unfold dl;rw[zjk];refine h.ll.ren ?_ λx hx=>?_
 ·rw[Jn];simpa[Function.comp_def]using nO (vs r.1)
 ·rw[Jn];simpa[Function.comp_def]using(jZ _).mpr hx
theorem Rx.zd{r:T×T}(h:Rx r):(dr r).size<=5:=by
 unfold dr;rw[zjk];have s:=zaH (φ:=fwd ((ded (vs r.1)).map λx=>(x,dbl x))) (m:=1) (by omega) (λp hp=>(zcE _ p hp).1) r.2
 have:=h.z2;omega
theorem zpy(r:T×T)(h:Rx r):zfO [rD r]=some (.tup [(dl r).d,(dr r).d]):=by
 have bo:=zaz r.1 (by have:=h.ll.z;omega);have cd:=zgl (h:=D.str) (k:=id) (v:=λx=>T.bl (dbl x)) (g:=gN 0) (t:=qQ) (fk:=zfs zO) (fe:=zft zO) (ρ:=[none]) (ded (vs r.1)) [] (by simpa using nO (vs r.1)) (λx hx=>by
  have l1:=zkS (h.on x ((jZ _).mp hx));have l2:x.length+x.length<=1000000:=by omega
  refine⟨[some (.dat (.str x))],by simp[qG,jG,zG,zY,setO,yP,kB,xB,xQ,jT,zV,jR,vM,ifM,upT,cT,cTr,xF,kF,orP,yC,vY,orV,vR,c1,c2,cL,cS,zB,zD,cst,gv,gb,gN,qC,zQ,qO,jL,jK,jQ,qQ,cI,cR1,cR2,xT,jD,itS,xH,xW,kE,yZ,xK,yV,zR,qS,nxM,jF,tyN,xM,lim,kL,qH,yQ,xI,xX,kY,xL,jH,qA,jJ,vL,qJ,xS,yM,yD,jY,jP,yU,xA,geD,isB,xN,isNon,vZ,xO,kZ,kM,kS,yN,vN,yA,jS,yF,c3,yY,vV,xR,cSg,yJ,itS,Sl.inn,Sl.own,vS,eqB,neB,inB,yO,yX,vP,xZ,vQ,vO,yB,at0,at1,at2,at3],by simp[qG,jG,zG,zY,setO,yP,kB,xB,xQ,jT,zV,jR,vM,ifM,upT,cT,cTr,xF,kF,orP,yC,vY,orV,vR,c1,c2,cL,cS,zB,zD,cst,gv,gb,gN,qC,zQ,qO,jL,jK,jQ,qQ,cI,cR1,cR2,xT,jD,itS,xH,xW,kE,yZ,xK,yV,zR,qS,nxM,jF,tyN,xM,lim,kL,qH,yQ,xI,xX,kY,xL,jH,qA,jJ,vL,qJ,xS,yM,yD,jY,jP,yU,xA,geD,isB,xN,isNon,vZ,xO,kZ,kM,kS,yN,vN,yA,jS,yF,c3,yY,vV,xR,cSg,yJ,itS,Sl.inn,Sl.own,vS,eqB,neB,inB,yO,yX,vP,xZ,vQ,vO,yB,at0,at1,at2,at3],by simp[qG,jG,zG,zY,setO,yP,kB,xB,xQ,jT,zV,jR,vM,ifM,upT,cT,cTr,xF,kF,orP,yC,vY,orV,vR,c1,c2,cL,cS,zB,zD,cst,gv,gb,gN,qC,zQ,qO,jL,jK,jQ,qQ,cI,cR1,cR2,xT,jD,itS,xH,xW,kE,yZ,xK,yV,zR,qS,nxM,jF,tyN,xM,lim,kL,qH,yQ,xI,xX,kY,xL,jH,qA,jJ,vL,qJ,xS,yM,yD,jY,jP,yU,xA,geD,isB,xN,isNon,vZ,xO,kZ,kM,kS,yN,vN,yA,jS,yF,c3,yY,vV,xR,cSg,yJ,itS,Sl.inn,Sl.own,vS,eqB,neB,inB,yO,yX,vP,xZ,vQ,vO,yB,at0,at1,at2,at3],?_⟩;rw[qW]
  simp! [dbl,l2])
 have e0:([]:Fil)++(ded (vs r.1)).map (λx=>(id x,T.bl (dbl x)))=gR (vs r.1):=by simp[gR]
 rw[e0]at cd;have b0:(fks [],fds [])=(([],[]):List KD×List D):=rfl;rw[b0]at cd;have f1:kK [r.1.d,zJ (gR (vs r.1))]=some (dl r).d:=gQ _ 100 r.1 (by have:=h.ll.d;omega) (by have:=h.ll.w;omega);have f2:kK [r.2.d,zJ (gR (vs r.1))]=some (dr r).d:=gQ _ 100 r.2 (by have:=h.d2;omega) (by have:=h.d2;omega);obtain⟨V,v1,v2⟩:=h.n3;have vl:=zat v2;have zl:(ded (vs r.1)).length<=1000000:=by omega
 simp only[zJ]at f1 f2;generalize (dl r).d=X1 at f1 ⊢;generalize (dr r).d=X2 at f2 ⊢;have lm:((ded (vs r.1)).map D.str).length<=1000000:=by rw[Ja];exact zl
 generalize (ded (vs r.1)).map D.str=WW at bo cd lm
 simp! [zfO,rD,bo,zcf,lm,cd,f1,f2]
noncomputable def gX(r q:T×T)(p:List Int)(u:T):Option (List T):=tri u (dl q) [r.1,r.2,qE r.1 p (dr q)]
noncomputable def zkf:Option (List T)->D
 |none=>.non
 |some ts=>.tup (ts.map T.d)
section
variable{r q:T×T}{p:List Int}{u:T}
theorem zfx(hr:Rx r)(hq:Rx q)(hp:qF r.1 p=some u):vC u (dl q):=by have A:=hr.apart hq;have su:=zcr p r.1 u hp;exact znM (hr.ll.sub su) hq.lld ⟨_,A.klen,λx hx=>hx.elim (λh=>A.in1 (su.vs x h)) λh=>A.in2 (λ_ z=>z) h⟩
theorem zke(hr:Rx r)(hq:Rx q)(hp:qF r.1 p=some u):(∀x∈vs u,x∈(nmB r.1 q.1).map (·.1))/\(∀x∈vs (dl q),x∈(nmB r.1 q.1).map (·.1))/\∀t∈[r.1,r.2,qE r.1 p (dr q)],∀x∈vs t,x∈(nmB r.1 q.1).map (·.1):=by
 have A:=hr.apart hq;have su:=zcr p r.1 u hp;refine⟨λx h=>A.in1 (su.vs x h),λx h=>A.in2 (λ_ z=>z) h,λt ht x hx=>?_⟩;simp only[List.mem_cons,List.not_mem_nil,or_false]at ht;rcases ht with rfl|rfl|rfl
 ·exact A.in1 hx
 ·exact A.in1 (hr.vr x hx)
 ·rcases zkB p r.1 hx with h|h
  ·exact A.in1 h
  ·exact A.in2 hq.vr h
theorem zor(hr:Rx r)(hq:Rx q)(hp:qF r.1 p=some u)(σ:Fil)(e:zA σ u=zA σ (dl q)):∃φ,MA u (dl q) φ []:=by
 obtain⟨o,_,hA⟩:=zcJ u (dl q) (zfx hr hq hp).bd;cases o with
 |none=>exact absurd e (hA σ)
 |some φ=>exact⟨φ,hA⟩
theorem zsN(hr:Rx r)(hq:Rx q)(hp:qF r.1 p=some u):zaj [rD r,rD q,pD p,u.d]=some (zkf (gX r q p u)):=by
 have S:=zfx hr hq hp;obtain⟨va,vb,vB⟩:=zke hr hq hp;have kl:=(hr.apart hq).klen;have ea:=zpy q hq;have pl:=zbt p r.1 u hp;obtain⟨o,em,hA⟩:=zcJ u (dl q) S.bd;cases o with
 |none=>
  have tn:gX r q p u=none:=ziC hA;rw[tn];simp only[fitR]at em;generalize rD q=RQ at ea ⊢;generalize (dl q).d=X1 at ea em;generalize (dr q).d=X2 at ea
  simp! [zaj,rD,ea,em,zkf]
 |some φ=>
  have hM:MA u (dl q) φ []:=hA;have ts:gX r q p u=some (vX U26 (zM φ [r.1,r.2,qE r.1 p (dr q)])):=ziB va vb vB (by omega) hM;rw[ts];have ll:=hr.ll;have d2:=hr.d2;have zd:=hq.zd;have dd:=zas (dr q);have wd:=zaS (dr q);have wv:=S.wids hM;obtain⟨pk1,pk2⟩:=S.tz hM r.1;have pkz:(zA φ r.1).size<=442368:=Jt pk2 (Qg ll.z (Jd 36864));have pkd:(zA φ r.1).depth<=21:=by have:=ll.d;omega
  have pkw:wid (zA φ r.1)<=1000:=zaX (λp hp=>by have:=wv p hp;omega) r.1 (by have:=ll.w;omega);have f1:kK [r.1.d,zJ φ]=some (zA φ r.1).d:=gQ φ 100 r.1 (by have:=ll.d;omega) (by have:=ll.w;omega);have f2:kK [(dr q).d,zJ φ]=some (zA φ (dr q)).d:=gQ φ 100 (dr q) (by omega) (by omega);have f3:kK [r.2.d,zJ φ]=some (zA φ r.2).d:=gQ φ 100 r.2 (by omega) (by omega);have pt:zcv [(zA φ r.1).d,pD p,(zA φ (dr q)).d]=some (qE (zA φ r.1) p (zA φ (dr q))).d:=zlD _ (zA φ u) _ p (zet φ p r.1 u hp) (by have:=ll.d;omega) (by omega);rw[←zdC φ (dr q) p r.1 u hp]at pt;have lz:=zdP p r.1 (dr q);have ld:=zbZ p r.1 (dr q);have lw:=zaS (qE r.1 p (dr q));have lod:(zA φ (qE r.1 p (dr q))).depth<=40:=by have:=(S.tz hM (qE r.1 p (dr q))).1;have:=ll.d;omega
  have low:wid (zA φ (qE r.1 p (dr q)))<=1000:=zaX (λp hp=>by have:=wv p hp;omega) _ (by have:=ll.z;omega);have upd':(zA φ r.2).depth<=40:=by have:=(S.tz hM r.2).1;omega
  have upw:wid (zA φ r.2)<=1000:=zaX (λp hp=>by have:=wv p hp;omega) _ (by omega);have bo:=zaz (zA φ r.1) (by omega);have sub2:∀x∈vs (zA φ r.2),x∈vs (zA φ r.1):=λx hx=>by obtain⟨y,h1,h2⟩:=(wF r.2).mp hx;exact(wF r.1).mpr ⟨y,hr.vr y h1,h2⟩
  have sub3:∀x∈vs (zA φ (qE r.1 p (dr q))),x∈vs (zA φ r.1):=λx hx=>by
   rw[zdC φ (dr q) p r.1 u hp]at hx;rcases zkB p _ hx with h|h
   ·exact h
   ·obtain⟨y,h1,h2⟩:=(wF (dr q)).mp h;obtain⟨z,h3,h4⟩:=(wF q.2).mp h1;have h5:x∈vs (zA φ (dl q)):=(wF (dl q)).mpr ⟨y,(wF q.1).mpr ⟨z,hq.vr z h3,h4⟩,h2⟩;rw[←hM.done.2]at h5;exact(zfX φ (zcr p r.1 u hp)).vs x h5
  have ev:vsL (zM φ [r.1,r.2,qE r.1 p (dr q)])=vs (zA φ r.1)++(vs (zA φ r.2)++(vs (zA φ (qE r.1 p (dr q)))++[])):=by simp[zM,vsL]
  have eD:ded (vsL (zM φ [r.1,r.2,qE r.1 p (dr q)]))=ded (vs (zA φ r.1)):=by
   rw[ev];refine zlN λx hx=>?_
   simp only[List.append_nil,List.mem_append]at hx;exact hx.elim (sub2 x) (sub3 x)
  have b26:=hM.bl26 va vb vB (by omega);rw[eD]at b26;have ec:vX U26 (zM φ [r.1,r.2,qE r.1 p (dr q)])=[zA (nmC U26 (vs (zA φ r.1))) (zA φ r.1),zA (nmC U26 (vs (zA φ r.1))) (zA φ r.2),zA (nmC U26 (vs (zA φ r.1))) (zA φ (qE r.1 p (dr q)))]:=by
   have:nmC U26 (vsL (zM φ [r.1,r.2,qE r.1 p (dr q)]))=nmC U26 (vs (zA φ r.1)):=by unfold nmC;rw[eD]
   unfold vX;rw[this];simp[zM]
  rw[ec];generalize hV:vs (zA φ r.1)=V at*;have en:vU 0 ((ded V).map D.str)=(ded V).zipIdx.map λw=>.tup [.int (w.2:Int),.str w.1]:=by
   have:∀(W:List Str) (k:Nat),vU k (W.map D.str)=(W.zipIdx k).map λw=>.tup [.int (w.2:Int),.str w.1]:=by
    intro W;induction W with
    |nil=>intro k;simp[vU]
    |cons w W ih=>intro k;simp[vU,ih]
   exact this _ _
  have u26:lts "ABCDEFGHIJKLMNOPQRSTUVWXYZ"=U26:=rfl;have cd:=zgl (h:=λw:Str×Nat=>D.tup [.int (w.2:Int),.str w.1]) (k:=(·.1)) (v:=λw=>T.bl (U26.getD w.2 "")) (g:=qO (zQ (gN 0) (zQ (gN 1) qC))) (t:=qQ) (fk:=zbl zO) (fe:=zbm zO) (ρ:=[none,none]) (ded V).zipIdx [] (by simpa using nO V) (λw hw=>by
   have hi:=List.mem_zipIdx hw;have hl:w.2<U26.length:=by have:=hi.2.1;omega
   have hg:(lts "ABCDEFGHIJKLMNOPQRSTUVWXYZ")[w.2]?=some (U26.getD w.2 ""):=by rw[u26,List.getElem?_eq_getElem hl,List.getD_eq_getElem?_getD,List.getElem?_eq_getElem hl];rfl
   obtain⟨c,h1,h2⟩:=zlp hg;refine⟨[some (.dat (.int (w.2:Int))),some (.dat (.str w.1))],by simp[qG,jG,zG,zY,setO,yP,kB,xB,xQ,jT,zV,jR,vM,ifM,upT,cT,cTr,xF,kF,orP,yC,vY,orV,vR,c1,c2,cL,cS,zB,zD,cst,gv,gb,gN,qC,zQ,qO,jL,jK,jQ,qQ,cI,cR1,cR2,xT,jD,itS,xH,xW,kE,yZ,xK,yV,zR,qS,nxM,jF,tyN,xM,lim,kL,qH,yQ,xI,xX,kY,xL,jH,qA,jJ,vL,qJ,xS,yM,yD,jY,jP,yU,xA,geD,isB,xN,isNon,vZ,xO,kZ,kM,kS,yN,vN,yA,jS,yF,c3,yY,vV,xR,cSg,yJ,itS,Sl.inn,Sl.own,vS,eqB,neB,inB,yO,yX,vP,xZ,vQ,vO,yB,at0,at1,at2,at3],by simp[qG,jG,zG,zY,setO,yP,kB,xB,xQ,jT,zV,jR,vM,ifM,upT,cT,cTr,xF,kF,orP,yC,vY,orV,vR,c1,c2,cL,cS,zB,zD,cst,gv,gb,gN,qC,zQ,qO,jL,jK,jQ,qQ,cI,cR1,cR2,xT,jD,itS,xH,xW,kE,yZ,xK,yV,zR,qS,nxM,jF,tyN,xM,lim,kL,qH,yQ,xI,xX,kY,xL,jH,qA,jJ,vL,qJ,xS,yM,yD,jY,jP,yU,xA,geD,isB,xN,isNon,vZ,xO,kZ,kM,kS,yN,vN,yA,jS,yF,c3,yY,vV,xR,cSg,yJ,itS,Sl.inn,Sl.own,vS,eqB,neB,inB,yO,yX,vP,xZ,vQ,vO,yB,at0,at1,at2,at3],by simp[qG,jG,zG,zY,setO,yP,kB,xB,xQ,jT,zV,jR,vM,ifM,upT,cT,cTr,xF,kF,orP,yC,vY,orV,vR,c1,c2,cL,cS,zB,zD,cst,gv,gb,gN,qC,zQ,qO,jL,jK,jQ,qQ,cI,cR1,cR2,xT,jD,itS,xH,xW,kE,yZ,xK,yV,zR,qS,nxM,jF,tyN,xM,lim,kL,qH,yQ,xI,xX,kY,xL,jH,qA,jJ,vL,qJ,xS,yM,yD,jY,jP,yU,xA,geD,isB,xN,isNon,vZ,xO,kZ,kM,kS,yN,vN,yA,jS,yF,c3,yY,vV,xR,cSg,yJ,itS,Sl.inn,Sl.own,vS,eqB,neB,inB,yO,yX,vP,xZ,vQ,vO,yB,at0,at1,at2,at3],?_⟩;rw[qW,h2];have zl:(Str.ofString "ABCDEFGHIJKLMNOPQRSTUVWXYZ").length<=1000000:=by rw[zsV];omega
   simp! [h1,zl])
  have enm:(ded V).zipIdx.map (λw=>(w.1,T.bl (U26.getD w.2 "")))=nmC U26 V:=by
   unfold nmC;apply List.ext_getElem?;intro i;rw[List.getElem?_map,List.getElem?_zipIdx];cases e:(ded V)[i]? with
   |none=>
    symm;rw[Option.map_none,Option.map_none,List.getElem?_eq_none_iff,Wa]
    have:=List.getElem?_eq_none_iff.mp e;omega
   |some x=>
    have hi:i<(ded V).length:=(List.getElem?_eq_some_iff.mp e).1;symm;rw[Option.map_some,Option.map_some,List.getElem?_zip_eq_some];have hl:i<U26.length:=by omega
    refine⟨by simpa using e,?_⟩;simp[List.getElem?_eq_getElem hl,List.getD_eq_getElem?_getD]
  rw[List.nil_append,enm]at cd;have b0:(fks [],fds [])=(([],[]):List KD×List D):=rfl;rw[b0]at cd;have g1:kK [(zA φ r.1).d,zJ (nmC U26 V)]=some (zA (nmC U26 V) (zA φ r.1)).d:=gQ _ 100 _ (by omega) pkw;have g2:kK [(zA φ r.2).d,zJ (nmC U26 V)]=some (zA (nmC U26 V) (zA φ r.2)).d:=gQ _ 100 _ (by omega) upw;have g3:kK [(zA φ (qE r.1 p (dr q))).d,zJ (nmC U26 V)]=some (zA (nmC U26 V) (zA φ (qE r.1 p (dr q)))).d:=gQ _ 100 _ (by omega) low;simp only[fitR]at em;simp only[zkf,List.map_cons,List.map_nil];generalize (zA (nmC U26 V) (zA φ r.1)).d=Y1 at g1 ⊢;generalize (zA (nmC U26 V) (zA φ r.2)).d=Y2 at g2 ⊢;generalize (zA (nmC U26 V) (zA φ (qE r.1 p (dr q)))).d=Y3 at g3 ⊢;generalize (zA φ (qE r.1 p (dr q))).d=Z3 at g3 pt;generalize (zA φ (dr q)).d=Z4 at f2 pt;generalize (zA φ r.1).d=Z1 at g1 f1 pt bo;generalize (zA φ r.2).d=Z2 at g2 f3;generalize rD q=RQ at ea ⊢;generalize (dl q).d=X1 at ea em;generalize (dr q).d=X2 at ea f2;generalize nmC U26 V=NN at*;have lm:(vU 0 ((ded V).map D.str)).length<=1000000:=by rw[nM,Ja];have:=zgw;omega
  rw[←en]at cd;generalize (ded V).map D.str=WW at bo cd lm;simp only[zJ]at em f1 f2 f3 g1 g2 g3
  simp! [zaj,rD,ea,em,f1,f2,f3,pt,bo,cEnL,zcf,lm,cd,g1,g2,g3]
end
abbrev Ov:=Nat×Nat×List Int×List T
def ovD(x:Ov):D:=.tup (.int (x.1:Int)::.int (x.2.1:Int)::pD x.2.2.1::x.2.2.2.map T.d)
open Classical in
def ovE(r:T×T)(k:Nat)(p:List Int)(u:T)(q:(T×T)×Nat):List Ov:=if k=q.2/\p=[]then[]else match gX r q.1 p u with
 |some ts=>[(k,q.2,p,ts)]
 |none=>[]
def ovA(r:T×T)(k:Nat)(p:List Int)(u:T)(rs:List (T×T)):List Ov:=rs.zipIdx.flatMap (ovE r k p u)
def ovP(r:T×T)(k:Nat)(rs:List (T×T))(ps:List (List Int×T)):List Ov:=ps.flatMap λw=>ovA r k w.1 w.2 rs
def ovR(rs:List (T×T))(qs:List ((T×T)×Nat)):List Ov:=qs.flatMap λq=>ovP q.1 q.2 rs (inr q.1.1)
theorem zhW(r:T×T)(k:Nat)(p:List Int)(u:T)(q:(T×T)×Nat):(ovE r k p u q).length<=1:=by
 unfold ovE;split
 ·simp
 ·split<;>simp
theorem zaG{α β:Type}{f:α->List β}{n:Nat}:∀l:List α,(∀x∈l,(f x).length<=n)->(l.flatMap f).length<=l.length*n
 |[],_=>by simp
 |x::l,h=>by
  rw[QF,Jm,Jl,Nat.add_mul]
  have:=h x (by simp)
  have:=zaG l λy hy=>h y (Je _ hy)
  omega
theorem zhX(r:T×T)(k:Nat)(p:List Int)(u:T)(rs:List (T×T)):(ovA r k p u rs).length<=rs.length:=by
 have:=zaG (f:=ovE r k p u) rs.zipIdx λq _=>zhW r k p u q
 rw[JU]at this;unfold ovA;omega
theorem zkP(r:T×T)(k:Nat)(rs:List (T×T))(ps:List (List Int×T)):(ovP r k rs ps).length<=ps.length*rs.length:=zaG ps λw _=>zhX r k w.1 w.2 rs
theorem zdw{α:Type}{l:List α}{i:Nat}(h:i<l.length):l.zipIdx.take (i+1)=l.zipIdx.take i++[(l[i],i)]:=by
 have hl:i<l.zipIdx.length:=by rw[JU];exact h
 rw[Jp hl];simp
theorem zsL(p:List Int):eqB (pD p) (.tup [])=some (.bl (decide (p=[]))):=by
 have h:=zga p [];have d:=zdD p;have d':dep (pD p)<=100:=by unfold pD;simp only[dep];omega
 have hh:eqL (p.map D.int) []=some (decide (p=[])):=h;unfold pD at d' ⊢;simp[eqB,eqD,hh,dep,qU]at d' ⊢;omega
theorem zrH(i j:Nat):eqB (.int (i:Int)) (.int (j:Int))=some (.bl (decide (i=j))):=by
 by_cases h:i=j
 ·subst h;simp[eqB,eqD,dep]
 ·have h':((i:Int)==(j:Int))=false:=by simpa using λz:(i:Int)=j=>h (by omega)
  simp[eqB,eqD,dep,h',h]
theorem zkk{a b:T}{base ts:List T}(h:tri a b base=some ts):ts.length=base.length:=by
 unfold tri at h;split at h
 ·cases h;unfold vX;rw[qT,qT,Ja,Ja]
 ·cases h
section
variable{rs:List (T×T)}(R:∀r∈rs,Rx r)(hl:rs.length<=9)
include R hl
theorem zgd{r:T×T}{k:Nat}(hk:rs[k]?=some r)(p:List Int)(u:T)(hp:qF r.1 p=some u):zaJ [.lst (rs.map rD),.int (k:Int),pD p,u.d]=some (.lst ((ovA r k p u rs).map ovD)):=by
 have hr:=R r (List.mem_of_getElem? hk);have ak:atI (rs.map rD) (k:Int)=some (rD r):=by rw[zbC,vA hk];rfl
 obtain⟨ρ',f1,k5,k6,k7,rfl⟩:=yS (g:=qO (zQ (gN 5) (zQ (gN 6) qC))) (b:=zbF zO) (xs:=vU 0 (rs.map rD)) (ρ:=[some (.dat (.lst (rs.map rD))),some (.dat (.int (k:Int))),some (.dat (pD p)),some (.dat u.d),some (.own (.lst [])),none,none,none])
  (λi ρ=>∃k5 k6 k7:Option Sl,ρ=[some (.dat (.lst (rs.map rD))),some (.dat (.int (k:Int))),some (.dat (pD p)),some (.dat u.d),some (.own (.lst (((rs.zipIdx.take i).flatMap (ovE r k p u)).map ovD))),k5,k6,k7]) ⟨none,none,none,by simp⟩ (by
   rintro i x ρ hx ⟨k5,k6,k7,rfl⟩;obtain⟨y,hy,rfl⟩:=zbk 0 _ i x hx;have hi:i<rs.length:=by have:=(List.getElem?_eq_some_iff.mp hy).1;simpa using this
   rw[List.getElem?_map,List.getElem?_eq_getElem hi]at hy;cases hy
   rw[QC];have hq:=R _ (JO hi);have ld:=zsN hr hq hp;have ek:=zrH i k;have ep:=zsL p;have al:((rs.zipIdx.take i).flatMap (ovE r k p u)).length<=9:=by
    have:=zaG (f:=ovE r k p u) (rs.zipIdx.take i) λq _=>zhW r k p u q
    rw[Jw,JU]at this;omega
   have st:(rs.zipIdx.take (i+1)).flatMap (ovE r k p u)=(rs.zipIdx.take i).flatMap (ovE r k p u)++ovE r k p u (rs[i],i):=by rw[zdw hi];simp
   rw[st];have aln:(((rs.zipIdx.take i).flatMap (ovE r k p u)).map ovD).length<1000000:=by rw[Ja];omega
   rw[JF];generalize ((rs.zipIdx.take i).flatMap (ovE r k p u)).map ovD=AA at aln ⊢;by_cases hc:k=i/\p=[]
   ·obtain⟨rfl,rfl⟩:=hc;have e0:ovE r k [] u (rs[k],k)=[]:=by simp[ovE]
    rw[e0];simp only[decide_true]at ek ep;refine⟨[some (.dat (.lst (rs.map rD))),some (.dat (.int (k:Int))),some (.dat (pD [])),some (.dat u.d),some (.own (.lst AA)),some (.dat (.int (k:Int))),some (.dat (rD rs[k])),k7],.inr ?_,some (.dat (.int (k:Int))),some (.dat (rD rs[k])),k7,by simp⟩
    dsimp! [ek,ep]
   ·have e1:ovE r k p u (rs[i],i)=match gX r rs[i] p u with
     |some ts=>[(k,i,p,ts)]
     |none=>[]:=by unfold ovE;rw[if_neg hc]
    rw[e1];have pre:∃b1 b2:Bool,(b1&&b2)=false/\eqB (.int (i:Int)) (.int (k:Int))=some (.bl b1)/\eqB (pD p) (.tup [])=some (.bl b2):=by refine⟨_,_,?_,ek,ep⟩;rw[Bool.eq_false_iff];intro h;simp only[Bool.and_eq_true,decide_eq_true_eq]at h;exact hc ⟨h.1.symm,h.2⟩
    obtain⟨b1,b2,hcc,q1,q2⟩:=pre;cases et:gX r rs[i] p u with
    |none=>
     rw[et]at ld;simp only[zkf]at ld;refine⟨[some (.dat (.lst (rs.map rD))),some (.dat (.int (k:Int))),some (.dat (pD p)),some (.dat u.d),some (.own (.lst AA)),some (.dat (.int (i:Int))),some (.dat (rD rs[i])),some (.dat .non)],.inl ?_,some (.dat (.int (i:Int))),some (.dat (rD rs[i])),some (.dat .non),by simp⟩;generalize rD rs[i]=RI at ld ⊢;cases b1<;>cases b2<;>simp at hcc<;>dsimp! [q1,q2,ak,ld]
    |some ts=>
     rw[et]at ld;simp only[zkf]at ld;have tl:ts.length=3:=zkk et;have z1:3+ts.length<=1000000:=by omega
     refine⟨[some (.dat (.lst (rs.map rD))),some (.dat (.int (k:Int))),some (.dat (pD p)),some (.dat u.d),some (.own (.lst (AA++[ovD (k,i,p,ts)]))),some (.dat (.int (i:Int))),some (.dat (rD rs[i])),some (.dat (.tup (ts.map T.d)))],.inl ?_,some (.dat (.int (i:Int))),some (.dat (rD rs[i])),some (.dat (.tup (ts.map T.d))),by simp⟩;generalize rD rs[i]=RI at ld ⊢;cases b1<;>cases b2<;>simp at hcc<;>dsimp! [q1,q2,ak,ld,ovD,z1,aln])
 rw[nM,Ja]at f1;have e2:rs.zipIdx.take rs.length=rs.zipIdx:=JM (by rw[JU];exact Jd _);rw[e2]at f1;unfold ovA
 simp! [zaJ,cEnL,f1]
end
theorem zhi{α β:Type}{f:α->List β}{l:List α}{i:Nat}(h:i<l.length):(l.take (i+1)).flatMap f=(l.take i).flatMap f++f l[i]:=by rw[Jp h,List.flatMap_append,QF,List.flatMap_nil,JB]
theorem ziW{t:T}{w:List Int×T}(h:w∈inr t):qF t w.1=some w.2/\w.2.isBl=false:=by rw[zlm]at h;obtain⟨h1,h2⟩:=Qc.mp h;exact⟨zbs h1,by simpa using h2⟩
theorem zjC(r:T×T)(k:Nat)(rs:List (T×T))(ps:List (List Int×T)):(ps.flatMap λw=>if w.2.isBl=true then[]else ovA r k w.1 w.2 rs)=ovP r k rs (ps.filter λw=>!w.2.isBl):=by
 unfold ovP;induction ps with
 |nil=>rfl
 |cons w ps ih=>
  rw[QF,ih];cases h:w.2.isBl
  ·rw[List.filter_cons_of_pos (by simp[h])];simp[h]
  ·rw[List.filter_cons_of_neg (by simp[h])];simp[h]
section
variable{rs:List (T×T)}(R:∀r∈rs,Rx r)(hl:rs.length<=9)
include R hl
theorem zkO(qs:List ((T×T)×Nat))(hq:∀q∈qs,Rx q.1):(ovR rs qs).length<=qs.length*108:=zaG qs λq h=>by
 have h1:=zkP q.1 q.2 rs (inr q.1.1);have h2:=zfR q.1.1;have h3:=(hq q h).ll.z
 have:=Qg (Jt h2 h3) hl;omega
theorem zeS:zaB [.lst (rs.map rD)]=some (.lst ((ovR rs rs.zipIdx).map ovD)):=by
 obtain⟨ρ',f1,k2,k3,k4,k5,k6,rfl⟩:=yS (g:=qO (zQ (gN 2) (zQ (qO (zQ (gN 3) (zQ (gN 4) qC))) qC))) (b:=zbh zO) (xs:=vU 0 (rs.map rD)) (ρ:=[some (.dat (.lst (rs.map rD))),some (.own (.lst [])),none,none,none,none,none])
  (λi ρ=>∃k2 k3 k4 k5 k6:Option Sl,ρ=[some (.dat (.lst (rs.map rD))),some (.own (.lst ((ovR rs (rs.zipIdx.take i)).map ovD))),k2,k3,k4,k5,k6]) ⟨none,none,none,none,none,by simp[ovR]⟩ (by
   rintro i x ρ hx ⟨k2,k3,k4,k5,k6,rfl⟩;obtain⟨y,hy,rfl⟩:=zbk 0 _ i x hx;have hi:i<rs.length:=by have:=(List.getElem?_eq_some_iff.mp hy).1;simpa using this
   rw[List.getElem?_map,List.getElem?_eq_getElem hi]at hy;cases hy
   rw[QC];have hr:=R _ (JO hi);have hk:rs[i]?=some rs[i]:=List.getElem?_eq_getElem hi;have lz:=hr.ll.z;have pp:=zaZ rs[i].1 (by omega);have pl:=zhQ rs[i].1;have st:ovR rs (rs.zipIdx.take (i+1))=ovR rs (rs.zipIdx.take i)++ovP rs[i] i rs (inr rs[i].1):=by unfold ovR;rw[zdw hi];simp
   have al:(ovR rs (rs.zipIdx.take i)).length<=9*108:=by
    have:=zkO R hl (rs.zipIdx.take i) λq hq=>by have:=List.mem_zipIdx (Wj hq);exact R _ (by rw[this.2.2];exact JO _)
    rw[Jw,JU]at this;omega
   rw[st,zlm,←zjC];generalize hP:qX [] rs[i].1=P at*;have hpt:∀w∈P,qF rs[i].1 w.1=some w.2:=λw hw=>by rw[←hP]at hw;exact zbs hw
   generalize ovR rs (rs.zipIdx.take i)=AA at al ⊢;obtain⟨ρ2,f2,k5',k6',rfl⟩:=yS (g:=qO (zQ (gN 5) (zQ (gN 6) qC))) (b:=zbi zO) (xs:=P.map pd) (ρ:=[some (.dat (.lst (rs.map rD))),some (.own (.lst (AA.map ovD))),some (.dat (.int (i:Int))),some (.dat rs[i].1.d),some (.dat rs[i].2.d),k5,k6])
    (λj ρ=>∃k5 k6:Option Sl,ρ=[some (.dat (.lst (rs.map rD))),some (.own (.lst ((AA++(P.take j).flatMap λw=>if w.2.isBl=true then[]else ovA rs[i] i w.1 w.2 rs).map ovD))),some (.dat (.int (i:Int))),some (.dat rs[i].1.d),some (.dat rs[i].2.d),k5,k6]) ⟨k5,k6,by simp⟩ (by
     rintro j z ρ hz ⟨k5,k6,rfl⟩;have hj:j<P.length:=by have:=(List.getElem?_eq_some_iff.mp hz).1;simpa using this
     rw[List.getElem?_map,List.getElem?_eq_getElem hj]at hz;cases hz
     have hp:=hpt _ (JO hj);have oa:=zgd R hl hk P[j].1 P[j].2 hp;have ib:=gP P[j].2;have ol:=zhX rs[i] i P[j].1 P[j].2 rs;rw[zhi hj,←JG];have bl:((P.take j).flatMap λw=>if w.2.isBl=true then[]else ovA rs[i] i w.1 w.2 rs).length<=108:=by
      have:=zaG (n:=9) (f:=λw:List Int×T=>if w.2.isBl=true then[]else ovA rs[i] i w.1 w.2 rs) (P.take j) λw _=>by
       have:=zhX rs[i] i w.1 w.2 rs;show(if w.2.isBl=true then[]else ovA rs[i] i w.1 w.2 rs).length<=9;split
       ·simp
       ·omega
      rw[Jw]at this
      have:min j P.length*9<=12*9:=Qg (by omega) (Jd _);omega
     have zz:(AA++(P.take j).flatMap λw=>if w.2.isBl=true then[]else ovA rs[i] i w.1 w.2 rs).length+(ovA rs[i] i P[j].1 P[j].2 rs).length<=1000000:=by rw[Jm];omega
     generalize (AA++(P.take j).flatMap λw=>if w.2.isBl=true then[]else ovA rs[i] i w.1 w.2 rs)=BB at zz ⊢;have pp0:pd P[j]=.tup [pD P[j].1,P[j].2.d]:=rfl;cases hb:P[j].2.isBl with
     |true=>
      rw[hb]at ib;refine⟨[some (.dat (.lst (rs.map rD))),some (.own (.lst (BB.map ovD))),some (.dat (.int (i:Int))),some (.dat rs[i].1.d),some (.dat rs[i].2.d),some (.dat (pD P[j].1)),some (.dat P[j].2.d)],.inl ?_,some (.dat (pD P[j].1)),some (.dat P[j].2.d),by simp⟩
      simp! [pp0,ib]
     |false=>
      rw[hb]at ib;refine⟨[some (.dat (.lst (rs.map rD))),some (.own (.lst (BB.map ovD++(ovA rs[i] i P[j].1 P[j].2 rs).map ovD))),some (.dat (.int (i:Int))),some (.dat rs[i].1.d),some (.dat rs[i].2.d),some (.dat (pD P[j].1)),some (.dat P[j].2.d)],.inl ?_,some (.dat (pD P[j].1)),some (.dat P[j].2.d),by simp⟩;have zz':(BB.map ovD).length+((ovA rs[i] i P[j].1 P[j].2 rs).map ovD).length<=1000000:=by rw[Ja,Ja];exact zz
      generalize (ovA rs[i] i P[j].1 P[j].2 rs).map ovD=CC at oa zz' ⊢;generalize BB.map ovD=B0 at zz' ⊢
      simp! [pp0,ib,oa,zz'])
   rw[Ja,Qe]at f2;refine⟨[some (.dat (.lst (rs.map rD))),some (.own (.lst ((AA++P.flatMap λw=>if w.2.isBl=true then[]else ovA rs[i] i w.1 w.2 rs).map ovD))),some (.dat (.int (i:Int))),some (.dat rs[i].1.d),some (.dat rs[i].2.d),k5',k6'],.inl ?_,_,_,_,_,_,rfl⟩;generalize (AA++P.flatMap λw=>if w.2.isBl=true then[]else ovA rs[i] i w.1 w.2 rs).map ovD=DD at f2 ⊢;generalize AA.map ovD=A0 at f2 ⊢;have rd:rD rs[i]=.tup [rs[i].1.d,rs[i].2.d]:=rfl;generalize P.map pd=PP at f2 pp;simp only[Sl.own]at f2 ⊢
   simp! [rd,pp,f2])
 rw[nM,Ja]at f1;have e2:rs.zipIdx.take rs.length=rs.zipIdx:=JM (by rw[JU];exact Jd _);rw[e2]at f1
 simp! [zaB,cEnL,f1]
end
theorem zpx(ps:SI)(bs:List Str)(hps:ps.length<=100)(ap:∀s k k',(s,k)∈ps->(s,k')∈ps->k=k')(rs:List (T×T))(R:zmg rs)(hr:∀r∈rs,r.1.isBl=false/\(∀x∈vs r.2,x∈vs r.1)/\WT ps bs r.1/\WT ps bs r.2):
  zaD [.lst (rs.map rD),.lst []]=some .non:=by
 have rl:=R.len;have sd:=zpw rs (by omega);have ln:(rs.flatMap λr=>[r.1,r.2]).length<=100:=by
  have:=zaG (n:=2) (f:=λr:T×T=>[r.1,r.2]) rs λ_ _=>by simp
  omega
 have tw:=zlA ps bs hps ap (rs.flatMap λr=>[r.1,r.2]) (λu hu=>by
  obtain⟨r,hr',hu⟩:=List.mem_flatMap.mp hu;have h1:=hr r hr';have h2:=R.lz r hr';have h3:=R.rz r hr';simp at hu;rcases hu with rfl|rfl
  ·exact⟨h1.2.2.1,by omega⟩
  ·exact⟨h1.2.2.2,by omega⟩)
 obtain⟨ρ',f1,k2,k3,k4,rfl⟩:=yS (g:=gN 2) (b:=zbN zO) (xs:=rs.map rD) (ρ:=[some (.dat (.lst (rs.map rD))),some (.dat (.lst [])),none,none,none,none])
  (λi ρ=>∃k2 k3 k4:Option Sl,ρ=[some (.dat (.lst (rs.map rD))),some (.dat (.lst [])),k2,k3,k4,none]) ⟨none,none,none,rfl⟩ (by
   rintro i x ρ hx ⟨k2,k3,k4,rfl⟩;obtain⟨r,hr',rfl⟩:=Jk.mp (List.mem_of_getElem? hx);have h1:=hr r hr';have h2:=R.lz r hr';have h3:=R.rz r hr';have ir:=zlG r.1 r.2 h1.1 h1.2.1 (by omega) (by omega);refine⟨[some (.dat (.lst (rs.map rD))),some (.dat (.lst [])),some (.dat (rD r)),some (.dat r.1.d),some (.dat r.2.d),none],.inl ?_,_,_,_,rfl⟩
   simp! [rD,ir])
 have l2:((rs.flatMap λr=>[r.1,r.2]).map T.d).length<=1000000:=by rw[Ja];omega
 generalize (rs.flatMap λr=>[r.1,r.2]).map T.d=SS at sd tw l2
 simp! [zaD,runN,f1,sd,l2,tw]
theorem zjR{rs:List (T×T)}(R:∀r∈rs,Rx r)(hl:rs.length<=9)(hm:zaD [.lst (rs.map rD),.lst []]=some .non):nJ [.lst (rs.map rD)]=some (.lst ((ovR rs rs.zipIdx).map ovD)):=by
 have ea:=zeS R hl;generalize (ovR rs rs.zipIdx).map ovD=OO at ea ⊢
 simp! [nJ,hm,ea]
theorem ltsA:lts "ABCDEFGHIJKLM"=A13:=by decide+kernel
theorem ltsN:lts "NOPQRSTUVWXYZ"=N13:=by decide+kernel
theorem ltsU:lts "ABCDEFGHIJKLMNOPQRSTUVWXYZ"=U26:=rfl
abbrev fA(r:T×T):Fil:=nmC A13 (vs r.1)
abbrev fN(r:T×T):Fil:=nmC N13 (vs r.1)
theorem zeE{L:List Str}(hL:L.length=13)(z:Str)(hz:lts z=L)(r:T×T)(h:Rx r):zai [rD r,.str z]=some (.lst [(zA (nmC L (vs r.1)) r.1).d,(zA (nmC L (vs r.1)) r.2).d]):=by
 obtain⟨V,v1,v2⟩:=h.n3;have vl:=zat v2;have ed:ded (vsL [r.1,r.2])=ded (vs r.1):=by
  have:vsL [r.1,r.2]=vs r.1++(vs r.2++[]):=by simp[vsL]
  rw[this];exact zlN λx hx=>h.vr x (by simpa using hx)
 have ec:=zfn z [r.1,r.2] (rD r) (.inl rfl) (λt ht=>by
  have:=h.ll.z;have:=h.ll.d;have:=h.ll.w;have:=h.z2;have:=h.d2;simp only[List.mem_cons,List.not_mem_nil,or_false]at ht;rcases ht with rfl|rfl
  ·exact⟨by omega,by omega,by omega⟩
  ·exact⟨by omega,by omega,by omega⟩) (by rw[ed,hz];omega) (by rw[hz];omega) (by simp)
 rw[ec,hz]
 have:nmC L (vsL [r.1,r.2])=nmC L (vs r.1):=by unfold nmC;rw[ed]
 unfold vX;rw[this];simp[zM]
theorem zhg{P:List (Str×Str)}(hn:(P.map (·.1)).Nodup){t:T}(hv:∀x∈vs t,x∈P.map (·.1)):∀x∈vs (zA (fwd P) t),x∈P.map (·.2):=λx hx=>by obtain⟨y,hy,h2⟩:=(wF t).mp hx;obtain⟨p,hp,rfl⟩:=Jk.mp (hv y hy);rw[zcF hn hp]at h2;simp[vs]at h2;rw[h2];exact Jk.mpr ⟨p,hp,rfl⟩
section
variable{r q:T×T}{p:List Int}{u:T}
theorem zpv(hr:Rx r)(hq:Rx q)(hp:qF r.1 p=some u):zii [(zA (fA r) r.1).d,pD p,(zA (fN q) q.2).d]=some (qE (zA (fA r) r.1) p (zA (fN q) q.2)).d/\
  ∃(b:Bool) (κ:Fil),zcx (.dic [] []) [(zA (fA r) u).d,(zA (fN q) q.1).d]=some (.bl b,zJ κ)/\
   (if b=true then∃(X Y Z:D) (ts:List T),zbd [(zA (fA r) r.1).d,zJ κ]=some X/\zbd [(zA (fA r) r.2).d,zJ κ]=some Y/\zbd [(qE (zA (fA r) r.1) p (zA (fN q) q.2)).d,zJ κ]=some Z/\
     zai [.lst [X,Y,Z],.str "ABCDEFGHIJKLMNOPQRSTUVWXYZ"]=some (.lst (ts.map T.d))/\gX r q p u=some ts
    else gX r q p u=none):=by
 have A:=hr.apart hq;have su:=zcr p r.1 u hp;obtain⟨va,vb,vB⟩:=zke hr hq hp;have kl:=A.klen;have knd:=A.knd;have e1:zA (fA r) u=zA (fwd (nmB r.1 q.1)) u:=(A.f1 λx h=>su.vs x h).symm;have e2:zA (fA r) r.1=zA (fwd (nmB r.1 q.1)) r.1:=(A.f1 λx h=>h).symm;have e3:zA (fA r) r.2=zA (fwd (nmB r.1 q.1)) r.2:=(A.f1 hr.vr).symm;have e4:zA (fN q) q.1=zA (fwd (nmB r.1 q.1)) (dl q):=(A.f2 λx h=>h).symm;have e5:zA (fN q) q.2=zA (fwd (nmB r.1 q.1)) (dr q):=(A.f2 hq.vr).symm;rw[e1,e2,e3,e4,e5];have e6:qE (zA (fwd (nmB r.1 q.1)) r.1) p (zA (fwd (nmB r.1 q.1)) (dr q))=zA (fwd (nmB r.1 q.1)) (qE r.1 p (dr q)):=(zdC _ _ p r.1 u hp).symm;have law:=zou va vb vB (by omega) A.back (λσ e=>zor hr hq hp σ e);have lu:LL (zA (fwd (nmB r.1 q.1)) u):=(hr.ll.sub su).ren knd va;have lq:LL (zA (fwd (nmB r.1 q.1)) (dl q)):=hq.lld.ren knd vb;have S:vC (zA (fwd (nmB r.1 q.1)) u) (zA (fwd (nmB r.1 q.1)) (dl q)):=znM lu lq ⟨(nmB r.1 q.1).map (·.2),by rw[Ja]at kl ⊢;exact kl,λx hx=>hx.elim (zhg knd va x) (zhg knd vb x)⟩;have sz:∀t:T,(zA (fwd (nmB r.1 q.1)) t).size<=t.size:=λt=>by have:=zaH (φ:=fwd (nmB r.1 q.1)) (m:=1) (by omega) (λp hp=>(zcE _ p hp).1) t;omega
 have dz:∀t:T,(∀x∈vs t,x∈(nmB r.1 q.1).map (·.1))->(zA (fwd (nmB r.1 q.1)) t).depth=t.depth:=λt h=>zcK t λx hx=>by obtain⟨p,hp,rfl⟩:=Jk.mp (h x hx);exact⟨_,zcF knd hp⟩
 have pl:=zbt p r.1 u hp;have llz:=hr.ll.z;have lld:=hr.ll.d;have d2:=hr.d2;have z2:=hr.z2;have zd:=hq.zd;have pz:=zdP p r.1 (dr q);have pd:=zbZ p r.1 (dr q);have dd:=zas (dr q);refine⟨?_,?_⟩
 ·have s1:=sz r.1;exact zlE 100 p _ (zA (fwd (nmB r.1 q.1)) u) _ (by omega) (by omega) (zet _ p r.1 u hp) (by omega)
 rw[e6];obtain⟨b,κ,m1,m2⟩:=zho S 30 _ _ 0 (by omega) [] [] [] (MA.start _ _) ⟨rfl,(λp hp=>by cases hp),(λi x y h=>by simp at h)⟩ (.inl (.refl _)) (.inr (.refl _)) (λχ _=>by omega);have m1:zcx (.dic [] []) [(zA (fwd (nmB r.1 q.1)) u).d,(zA (fwd (nmB r.1 q.1)) (dl q)).d]=some (.bl b,zJ κ):=m1;refine⟨b,κ,m1,?_⟩;cases b with
 |false=>
  simp only[Bool.false_eq_true,if_false]at m2 ⊢;exact law.2 m2
 |true=>
  simp only[if_true]at m2 ⊢;obtain⟨φ,hM,hK,_⟩:=m2;have kl6:κ.length<=6:=by rw[hK.len];exact S.len hM
  have wv:=S.wids hM;have bd:∀t∈[r.1,r.2,qE r.1 p (dr q)],t.size<=17/\t.depth<=8:=λt ht=>by
   simp only[List.mem_cons,List.not_mem_nil,or_false]at ht;rcases ht with rfl|rfl|rfl
   ·exact⟨by omega,by omega⟩
   ·exact⟨by omega,by omega⟩
   ·exact⟨by omega,by omega⟩
  have big:∀t∈[r.1,r.2,qE r.1 p (dr q)],(zA φ (zA (fwd (nmB r.1 q.1)) t)).depth<=26/\(zA φ (zA (fwd (nmB r.1 q.1)) t)).size<=900000/\wid (zA φ (zA (fwd (nmB r.1 q.1)) t))<=1000/\wid (zA (fwd (nmB r.1 q.1)) t)<=1000:=λt ht=>by obtain⟨b1,b2⟩:=bd t ht;have s1:=sz t;have s2:=dz t (vB t ht);have s3:=S.tz hM (zA (fwd (nmB r.1 q.1)) t);have s4:(zA (fwd (nmB r.1 q.1)) t).size*36864<=17*36864:=Qg (by omega) (Jd _);have s5:=zaS (zA (fwd (nmB r.1 q.1)) t);exact⟨by omega,by omega,zaX (λp hp=>by have:=wv p hp;omega) _ (by omega),by omega⟩
  have wh:∀t∈[r.1,r.2,qE r.1 p (dr q)],zbd [(zA (fwd (nmB r.1 q.1)) t).d,zJ κ]=some (zA φ (zA (fwd (nmB r.1 q.1)) t)).d:=λt ht=>zew S hK kl6 200 _ (by
   have:=(big t ht).1
   have:=zfd κ (zA (fwd (nmB r.1 q.1)) t)
   omega) (big t ht).2.2.2
  have vB':∀t∈zM (fwd (nmB r.1 q.1)) [r.1,r.2,qE r.1 p (dr q)],∀x∈vs t,x∈(nmB r.1 q.1).map (·.2):=λt ht=>by rw[qT]at ht;obtain⟨t',ht',rfl⟩:=Jk.mp ht;exact zhg knd (vB t' ht')
  have b26:=hM.bl26 (base:=zM (fwd (nmB r.1 q.1)) [r.1,r.2,qE r.1 p (dr q)]) (zhg knd va) (zhg knd vb) vB' (by rw[Ja]at kl ⊢;omega);have ec:=zfn "ABCDEFGHIJKLMNOPQRSTUVWXYZ" (zM φ (zM (fwd (nmB r.1 q.1)) [r.1,r.2,qE r.1 p (dr q)])) _ (.inr rfl) (λt ht=>by
   rw[qT,qT,Jn]at ht;obtain⟨t',ht',rfl⟩:=Jk.mp ht
   have:=big t' ht';exact⟨by simp only[Function.comp];omega,by simp only[Function.comp];omega,by simp only[Function.comp];omega⟩) (by rw[ltsU];exact b26) (by rw[ltsU,zgw];omega) (by rw[qT,qT];simp)
  rw[ltsU]at ec;refine⟨_,_,_,_,wh r.1 (by simp),wh r.2 (by simp),wh (qE r.1 p (dr q)) (by simp),?_,law.1 φ hM⟩;have el:(zM φ (zM (fwd (nmB r.1 q.1)) [r.1,r.2,qE r.1 p (dr q)])).map T.d=[(zA φ (zA (fwd (nmB r.1 q.1)) r.1)).d,(zA φ (zA (fwd (nmB r.1 q.1)) r.2)).d,(zA φ (zA (fwd (nmB r.1 q.1)) (qE r.1 p (dr q)))).d]:=by simp[zM]
  rw[el]at ec;exact ec
end
section
variable{rs:List (T×T)}(R:∀r∈rs,Rx r)(hl:rs.length<=9)
include R hl
theorem zsB{r:T×T}{k:Nat}(hk:rs[k]?=some r)(p:List Int)(u:T)(hp:qF r.1 p=some u)(AA:List Ov)(hA:AA.length<=10000)(k7 k8 k9 k10 k11 k12 k13 k14:Option Sl)(nk:yP [k7,k8,k9,k10,k11,k12,k13,k14]=true):
  ∃k7' k8' k9' k10' k11' k12' k13' k14',yP [k7',k8',k9',k10',k11',k12',k13',k14']=true/\
   vK (gN 7) (zaQ zO) (xJ 0 rs.length) [some (.dat (.lst (rs.map rD))),some (.own (.lst (AA.map ovD))),some (.dat (.int (k:Int))),some (.dat (zA (fA r) r.1).d),some (.dat (zA (fA r) r.2).d),some (.dat (pD p)),some (.dat (zA (fA r) u).d),k7,k8,k9,k10,k11,k12,k13,k14]=
   some (.nx [some (.dat (.lst (rs.map rD))),some (.own (.lst ((AA++ovA r k p u rs).map ovD))),some (.dat (.int (k:Int))),some (.dat (zA (fA r) r.1).d),some (.dat (zA (fA r) r.2).d),some (.dat (pD p)),some (.dat (zA (fA r) u).d),k7',k8',k9',k10',k11',k12',k13',k14']):=by
 have hr:=R r (List.mem_of_getElem? hk);obtain⟨ρ',f1,k7',k8',k9',k10',k11',k12',k13',k14',rfl,nk'⟩:=yS (g:=gN 7) (b:=zaQ zO) (xs:=xJ 0 rs.length) (ρ:=[some (.dat (.lst (rs.map rD))),some (.own (.lst (AA.map ovD))),some (.dat (.int (k:Int))),some (.dat (zA (fA r) r.1).d),some (.dat (zA (fA r) r.2).d),some (.dat (pD p)),some (.dat (zA (fA r) u).d),k7,k8,k9,k10,k11,k12,k13,k14])
  (λi ρ=>∃k7 k8 k9 k10 k11 k12 k13 k14:Option Sl,ρ=[some (.dat (.lst (rs.map rD))),some (.own (.lst ((AA++(rs.zipIdx.take i).flatMap (ovE r k p u)).map ovD))),some (.dat (.int (k:Int))),some (.dat (zA (fA r) r.1).d),some (.dat (zA (fA r) r.2).d),some (.dat (pD p)),some (.dat (zA (fA r) u).d),k7,k8,k9,k10,k11,k12,k13,k14]/\yP [k7,k8,k9,k10,k11,k12,k13,k14]=true)
  ⟨k7,k8,k9,k10,k11,k12,k13,k14,by simp,nk⟩ (by
   rintro i x ρ hx ⟨k7,k8,k9,k10,k11,k12,k13,k14,rfl,nk⟩;obtain⟨hi,rfl⟩:=zan hx;rw[Int.zero_add];simp only[nH,nG,Bool.and_eq_true]at nk;obtain⟨n7,n8,n9,n10,n11,n12,n13,n14,_⟩:=nk;have hq:=R _ (JO hi);have ai:atI (rs.map rD) (i:Int)=some (rD rs[i]):=by rw[zbC,vA (List.getElem?_eq_getElem hi)];rfl
   have cr:=zeE zmi "NOPQRSTUVWXYZ" ltsN rs[i] hq;obtain⟨pt,b,κ,al,wy⟩:=zpv hr hq hp;have n1:=zha (k:Int) (i:Int);have n2:=zsx p [];have n2':neB (pD p) (.tup [])=some (.bl (!decide (p=[]))):=n2;have st:(rs.zipIdx.take (i+1)).flatMap (ovE r k p u)=(rs.zipIdx.take i).flatMap (ovE r k p u)++ovE r k p u (rs[i],i):=by rw[zdw hi];simp
   have bl:((rs.zipIdx.take i).flatMap (ovE r k p u)).length<=9:=by
    have:=zaG (f:=ovE r k p u) (rs.zipIdx.take i) λq _=>zhW r k p u q
    rw[Jw,JU]at this;omega
   rw[st,←JG];have zl:(AA++(rs.zipIdx.take i).flatMap (ovE r k p u)).length<1000000:=by rw[Jm];omega
   generalize AA++(rs.zipIdx.take i).flatMap (ovE r k p u)=BB at zl ⊢;have zl':(BB.map ovD).length<1000000:=by rw[Ja];exact zl
   by_cases hc:k=i/\p=[]
   ·obtain⟨rfl,rfl⟩:=hc;have e0:ovE r k [] u (rs[k],k)=[]:=by simp[ovE]
    rw[e0,JB];simp only[decide_true,Bool.not_true]at n1 n2';refine⟨[some (.dat (.lst (rs.map rD))),some (.own (.lst (BB.map ovD))),some (.dat (.int (k:Int))),some (.dat (zA (fA r) r.1).d),some (.dat (zA (fA r) r.2).d),some (.dat (pD [])),some (.dat (zA (fA r) u).d),some (.dat (.int (k:Int))),some (.dat (zA (fN rs[k]) rs[k].1).d),some (.dat (zA (fN rs[k]) rs[k].2).d),some (.own (.dic [] [])),k11,k12,k13,k14],.inl ?_,_,_,_,_,_,_,_,_,rfl,?_⟩
    ·generalize BB.map ovD=B0
     dsimp! [ai,cr,yK,andM,n1,n2',nH,nG,nZ,nY,n7,n8,n9,n10,n11,n12,n13,n14]
    ·simp[nH,nG,nZ,nY,n11,n12,n13,n14]
   ·have e1:ovE r k p u (rs[i],i)=match gX r rs[i] p u with
     |some ts=>[(k,i,p,ts)]
     |none=>[]:=by unfold ovE;rw[if_neg hc];try rfl
    rw[e1];obtain⟨b1,b2,hbb,q1,q2⟩:∃b1 b2:Bool,(b1||b2)=true/\neB (.int (k:Int)) (.int (i:Int))=some (.bl b1)/\neB (pD p) (.tup [])=some (.bl b2):=by
     refine⟨_,_,?_,n1,n2'⟩;simp only[Bool.or_eq_true,Bool.not_eq_true',decide_eq_false_iff_not];by_cases h:k=i
     ·exact .inr λz=>hc ⟨h,z⟩
     ·exact .inl λz=>h (by omega)
    cases b with
    |false=>
     simp only[Bool.false_eq_true,if_false]at wy;rw[wy,JB];refine⟨[some (.dat (.lst (rs.map rD))),some (.own (.lst (BB.map ovD))),some (.dat (.int (k:Int))),some (.dat (zA (fA r) r.1).d),some (.dat (zA (fA r) r.2).d),some (.dat (pD p)),some (.dat (zA (fA r) u).d),some (.dat (.int (i:Int))),some (.dat (zA (fN rs[i]) rs[i].1).d),some (.dat (zA (fN rs[i]) rs[i].2).d),some (.own (zJ κ)),k11,k12,k13,k14],.inl ?_,_,_,_,_,_,_,_,_,rfl,?_⟩
     ·generalize BB.map ovD=B0;cases b1<;>cases b2<;>simp at hbb<;>dsimp! [ai,cr,yK,andM,wU,q1,q2,al,nH,nG,nZ,nY,n7,n8,n9,n10,n11,n12,n13,n14]
     ·simp[nH,nG,nZ,nY,n11,n12,n13,n14]
    |true=>
     simp only[if_true]at wy;obtain⟨X,Y,Z,ts,w1,w2,w3,w4,w5⟩:=wy;have tl:ts.length=3:=zkk w5;obtain⟨t1,t2,t3,rfl⟩:∃t1 t2 t3,ts=[t1,t2,t3]:=by
      match ts,tl with
      |[a,b,c],_=>exact⟨a,b,c,rfl⟩
     rw[w5];have cm:yG (gN 0) qQ (zbW zO) [none,some (.dat (zJ κ))] [(zA (fA r) r.1).d,(zA (fA r) r.2).d,(qE (zA (fA r) r.1) p (zA (fN rs[i]) rs[i].2)).d]=some [X,Y,Z]:=by simp! [yG,w1,w2,w3]
     simp only[List.map_cons,List.map_nil]at w4;refine⟨[some (.dat (.lst (rs.map rD))),some (.own (.lst (BB.map ovD++[ovD (k,i,p,[t1,t2,t3])]))),some (.dat (.int (k:Int))),some (.dat (zA (fA r) r.1).d),some (.dat (zA (fA r) r.2).d),some (.dat (pD p)),some (.dat (zA (fA r) u).d),some (.dat (.int (i:Int))),some (.dat (zA (fN rs[i]) rs[i].1).d),some (.dat (zA (fN rs[i]) rs[i].2).d),some (.dat (zJ κ)),some (.dat (.lst [X,Y,Z])),some (.dat t1.d),some (.dat t2.d),some (.dat t3.d)],.inl ?_,some (.dat (.int (i:Int))),some (.dat (zA (fN rs[i]) rs[i].1).d),some (.dat (zA (fN rs[i]) rs[i].2).d),some (.dat (zJ κ)),some (.dat (.lst [X,Y,Z])),some (.dat t1.d),some (.dat t2.d),some (.dat t3.d),by simp,rfl⟩;generalize BB.map ovD=B0 at zl' ⊢;generalize (qE (zA (fA r) r.1) p (zA (fN rs[i]) rs[i].2)).d=PT at pt cm;cases b1<;>cases b2<;>simp at hbb<;>dsimp! [ai,cr,yK,andM,wU,q1,q2,al,pt,cm,w4,ovD,zl',nH,nG,nZ,nY,n7,n8,n9,n10,n11,n12,n13,n14])
 rw[gG]at f1;have e2:rs.zipIdx.take rs.length=rs.zipIdx:=JM (by rw[JU];exact Jd _);rw[e2]at f1;exact⟨_,_,_,_,_,_,_,_,nk',f1⟩
theorem zhl:zaq [.lst (rs.map rD)]=some (.lst ((ovR rs rs.zipIdx).map ovD)):=by
 obtain⟨ρ',f1,k2,k3,k4,k5,k6,k7,k8,k9,k10,k11,k12,k13,k14,rfl,_⟩:=yS (g:=gN 2) (b:=zbL zO) (xs:=xJ 0 rs.length) (ρ:=[some (.dat (.lst (rs.map rD))),some (.own (.lst [])),none,none,none,none,none,none,none,none,none,none,none,none,none])
  (λi ρ=>∃k2 k3 k4 k5 k6 k7 k8 k9 k10 k11 k12 k13 k14:Option Sl,ρ=[some (.dat (.lst (rs.map rD))),some (.own (.lst ((ovR rs (rs.zipIdx.take i)).map ovD))),k2,k3,k4,k5,k6,k7,k8,k9,k10,k11,k12,k13,k14]/\yP [k7,k8,k9,k10,k11,k12,k13,k14]=true)
  ⟨none,none,none,none,none,none,none,none,none,none,none,none,none,by simp[ovR],rfl⟩ (by
   rintro i x ρ hx ⟨k2,k3,k4,k5,k6,k7,k8,k9,k10,k11,k12,k13,k14,rfl,nk⟩;obtain⟨hi,rfl⟩:=zan hx;rw[Int.zero_add];have hr:=R _ (JO hi);have hk:rs[i]?=some rs[i]:=List.getElem?_eq_getElem hi;have ai:atI (rs.map rD) (i:Int)=some (rD rs[i]):=by rw[zbC,vA hk];rfl
   have cr:=zeE zmj "ABCDEFGHIJKLM" ltsA rs[i] hr;have lz:=hr.ll.z;have A:=hr.apart hr;have fz:(zA (fA rs[i]) rs[i].1).size<=12:=by have:=zaH (φ:=fA rs[i]) (m:=1) (by omega) (λp hp=>by unfold fA at hp;rw[zea]at hp;exact(zcE _ p hp).1) rs[i].1;omega
   have fd:=zas (zA (fA rs[i]) rs[i].1);have inn:zei [(zA (fA rs[i]) rs[i].1).d]=some (.lst ((inr (zA (fA rs[i]) rs[i].1)).map qD)):=zhn 100 _ (by omega) (by omega) (by omega);have ir:inr (zA (fA rs[i]) rs[i].1)=(inr rs[i].1).map λq=>(q.1,zA (fA rs[i]) q.2):=zll rs[i].1 λx hx=>by
    have:x∈(nmP A13 (vs rs[i].1)).map (·.1):=by rw[A.k1,jZ];exact hx
    obtain⟨p,hp,rfl⟩:=Jk.mp this;exact⟨p.2,by unfold fA;rw[zea];exact zcF (by rw[A.k1];exact nO _) hp⟩
   rw[ir,Jn]at inn;have st:ovR rs (rs.zipIdx.take (i+1))=ovR rs (rs.zipIdx.take i)++ovP rs[i] i rs (inr rs[i].1):=by unfold ovR;rw[zdw hi];simp
   have al:(ovR rs (rs.zipIdx.take i)).length<=9*108:=by
    have:=zkO R hl (rs.zipIdx.take i) λq hq=>by have:=List.mem_zipIdx (Wj hq);exact R _ (by rw[this.2.2];exact JO _)
    rw[Jw,JU]at this;omega
   rw[st];have pl:=zfR rs[i].1;have hpt:∀w∈inr rs[i].1,qF rs[i].1 w.1=some w.2:=λw hw=>(ziW hw).1
   generalize ovR rs (rs.zipIdx.take i)=AA at al ⊢;generalize inr rs[i].1=P at pl hpt inn ⊢;obtain⟨ρ2,f2,k5',k6',k7',k8',k9',k10',k11',k12',k13',k14',rfl,nk'⟩:=yS (g:=yK (zQ (gN 5) (zQ (gN 6) qC))) (b:=zbM zO) (xs:=P.map (qD∘λq=>(q.1,zA (fA rs[i]) q.2))) (ρ:=[some (.dat (.lst (rs.map rD))),some (.own (.lst (AA.map ovD))),some (.dat (.int (i:Int))),some (.dat (zA (fA rs[i]) rs[i].1).d),some (.dat (zA (fA rs[i]) rs[i].2).d),k5,k6,k7,k8,k9,k10,k11,k12,k13,k14])
    (λj ρ=>∃k5 k6 k7 k8 k9 k10 k11 k12 k13 k14:Option Sl,ρ=[some (.dat (.lst (rs.map rD))),some (.own (.lst ((AA++ovP rs[i] i rs (P.take j)).map ovD))),some (.dat (.int (i:Int))),some (.dat (zA (fA rs[i]) rs[i].1).d),some (.dat (zA (fA rs[i]) rs[i].2).d),k5,k6,k7,k8,k9,k10,k11,k12,k13,k14]/\yP [k7,k8,k9,k10,k11,k12,k13,k14]=true)
    ⟨k5,k6,k7,k8,k9,k10,k11,k12,k13,k14,by simp[ovP],nk⟩ (by
     rintro j z ρ hz ⟨k5,k6,k7,k8,k9,k10,k11,k12,k13,k14,rfl,nk⟩;have hj:j<P.length:=by have:=(List.getElem?_eq_some_iff.mp hz).1;simpa using this
     rw[List.getElem?_map,List.getElem?_eq_getElem hj]at hz;cases hz
     have hp:=hpt _ (JO hj);have bl:(ovP rs[i] i rs (P.take j)).length<=108:=by
      have:=zkP rs[i] i rs (P.take j);rw[Jw]at this
      have:min j P.length*rs.length<=12*9:=Qg (by omega) hl;omega
     have st2:ovP rs[i] i rs (P.take (j+1))=ovP rs[i] i rs (P.take j)++ovA rs[i] i P[j].1 P[j].2 rs:=zhi hj;obtain⟨k7',k8',k9',k10',k11',k12',k13',k14',nk',f3⟩:=zsB R hl hk P[j].1 P[j].2 hp (AA++ovP rs[i] i rs (P.take j)) (by rw[Jm];omega) k7 k8 k9 k10 k11 k12 k13 k14 nk;rw[JG,←st2]at f3;refine⟨_,.inl ?_,some (.dat (pD P[j].1)),some (.dat (zA (fA rs[i]) P[j].2).d),k7',k8',k9',k10',k11',k12',k13',k14',rfl,nk'⟩;have q0:qD (P[j].1,zA (fA rs[i]) P[j].2)=.lst [pD P[j].1,(zA (fA rs[i]) P[j].2).d]:=rfl;have ro:nF (rs.length:Int):=yB (by omega) (by omega);generalize (AA++ovP rs[i] i rs (P.take (j+1))).map ovD=D1 at f3 ⊢;generalize (AA++ovP rs[i] i rs (P.take j)).map ovD=D2 at f3 ⊢;simp only[Function.comp,q0];simp only[Sl.own]at f3 ⊢
     dsimp! [yK,ro,f3])
   rw[Ja,Qe]at f2;refine⟨_,.inl ?_,some (.dat (.int (i:Int))),some (.dat (zA (fA rs[i]) rs[i].1).d),some (.dat (zA (fA rs[i]) rs[i].2).d),k5',k6',k7',k8',k9',k10',k11',k12',k13',k14',rfl,nk'⟩;generalize (AA++ovP rs[i] i rs P).map ovD=D1 at f2 ⊢;generalize AA.map ovD=D2 at f2 ⊢;generalize P.map (qD∘λq=>(q.1,zA (fA rs[i]) q.2))=PP at f2 inn;simp only[Sl.own]at f2 ⊢
   dsimp! [ai,cr,yK,inn,f2])
 rw[gG]at f1;have e2:rs.zipIdx.take rs.length=rs.zipIdx:=JM (by rw[JU];exact Jd _);rw[e2]at f1;have ro:nF (rs.length:Int):=yB (by omega) (by omega);have z0:yP [some (.dat (.lst (rs.map rD))),none,none,none,none,none,none,none,none,none,none,none,none,none,none]=true:=rfl
 simp! [zaq,ro,f1]
end
theorem zkl{r q:T×T}{p:List Int}{u:T}(hr:Rx r)(hq:Rx q)(hp:qF r.1 p=some u){ts:List T}(h:gX r q p u=some ts):∀t∈ts,t.depth<=30:=by
 have S:=zfx hr hq hp;unfold gX tri at h;split at h
 ·rename_i ex;cases h
  have hM:=ex.choose_spec;intro t ht;unfold vX at ht;rw[qT,qT,Jn]at ht;obtain⟨t',ht',rfl⟩:=Jk.mp ht;have h1:=(S.tz hM t').1;have h2:=zcX (φ:=nmC U26 (vsL (List.map (zA ex.choose) [r.1,r.2,qE r.1 p (dr q)]))) (m:=1) (λp hp=>by rw[zea]at hp;obtain⟨w,_,rfl⟩:=Jk.mp hp;simp[T.depth]) (zA ex.choose t')
  have h3:=zbZ p r.1 (dr q);have h4:=hq.zd;have h5:=zas (dr q);have h6:=hr.ll.d;have h7:=hr.d2;have h8:t'.depth<=8:=by simp only[List.mem_cons,List.not_mem_nil,or_false]at ht';rcases ht' with rfl|rfl|rfl<;>omega
  simp only[Function.comp];omega
 ·cases h
theorem zoZ{rs:List (T×T)}(R:∀r∈rs,Rx r){x:Ov}(h:x∈ovR rs rs.zipIdx):∀t∈x.2.2.2,t.depth<=30:=by
 unfold ovR at h;obtain⟨q,hq,h⟩:=List.mem_flatMap.mp h;unfold ovP at h;obtain⟨w,hw,h⟩:=List.mem_flatMap.mp h;unfold ovA at h;obtain⟨q2,hq2,h⟩:=List.mem_flatMap.mp h;have g1:=List.mem_zipIdx hq;have g2:=List.mem_zipIdx hq2;have r1:Rx q.1:=R _ (by rw[g1.2.2];exact JO _);have r2:Rx q2.1:=R _ (by rw[g2.2.2];exact JO _);unfold ovE at h;split at h
 ·cases h
 ·split at h
  ·rename_i ts e;rw[Wc.mp h];exact zkl r1 r2 (ziW hw).1 e
  ·cases h
theorem zoh:∀L:List Ov,eqL (L.map ovD) (L.map ovD)=some true
 |[]=>by simp[eqL]
 |x::L=>by have h1:=zga x.2.2.1 x.2.2.1;have h2:=zly x.2.2.2;simp[eqL,ovD,pD,eqD,h1,h2,zoh L]
theorem zlK:∀L:List Ov,(∀x∈L,∀t∈x.2.2.2,t.depth<=30)->qU (L.map ovD)<=90
 |[],_=>by simp[qU]
 |x::L,h=>by
  have h1:=zlK L λy hy=>h y (Je _ hy)
  have h2:∀ts:List T,(∀t∈ts,t.depth<=30)->qU (ts.map T.d)<=60:=by
   intro ts;induction ts with
   |nil=>intro _;simp[qU]
   |cons t ts ih=>
    intro hh
    have:=hh t (by simp)
    have:=zlL t
    have:=ih λu hu=>hh u (Je _ hu)
    simp only[List.map_cons,qU];omega
  have h3:=h2 x.2.2.2 (h x (by simp));have h4:=zdD x.2.2.1;simp only[List.map_cons,qU,ovD,pD,dep];omega
theorem zfk(A B C E F:D)(L:List D)(m1 m2 m3:LO)(N:Nat):∀(xs:List D) (k6:Option Sl),(∀x∈xs,∃y:Ov,x=ovD y)->
  ∃k6',zfW 5 L (gN 6) (zcU m1 m2 m3 N) xs [some (.dat A),some (.dat B),some (.dat C),some (.dat E),some (.dat F),some (.ow true (.lst L)),k6]=some (.nx [some (.dat A),some (.dat B),some (.dat C),some (.dat E),some (.dat F),some (.ow true (.lst L)),k6'])
 |[],k6,_=>⟨k6,by simp[zfW]⟩
 |x::xs,k6,h=>by
  obtain⟨y,rfl⟩:=h x (by simp);obtain⟨k6',ih⟩:=zfk A B C E F L m1 m2 m3 N xs (some (.dat (ovD y))) λz hz=>h z (Je _ hz)
  refine⟨k6',?_⟩;rw[←ih];have b1:gN 6 (ovD y) [some (.dat A),some (.dat B),some (.dat C),some (.dat E),some (.dat F),some (.ow true (.lst L)),k6]=some [some (.dat A),some (.dat B),some (.dat C),some (.dat E),some (.dat F),some (.ow true (.lst L)),some (.dat (ovD y))]:=by simp[qG,jG,zG,zY,setO,kB,xB,xQ,jT,zV,jR,vM,ifM,upT,cT,cTr,xF,kF,orP,yC,vY,orV,vR,c1,c2,cL,cS,zB,zD,cst,gv,gb,gN,qC,zQ,qO,jL,jK,jQ,qQ,cI,cR1,cR2,xT,jD,itS,xH,xW,kE,yZ,xK,yV,zR,qS,nxM,jF,tyN,xM,lim,kL,qH,yQ,xI,xX,kY,xL,jH,qA,jJ,vL,qJ,xS,yM,yD,jY,jP,yU,xA,geD,isB,xN,isNon,vZ,xO,kZ,kM,kS,yN,vN,yA,jS,yF,c3,yY,vV,xR,cSg,yJ,itS,Sl.inn,Sl.own,vS,inB,yO,yX,vP,xZ,vQ,vO,yB,at0,at1,at2,at3]
  have b2:zcU m1 m2 m3 N [some (.dat A),some (.dat B),some (.dat C),some (.dat E),some (.dat F),some (.ow true (.lst L)),some (.dat (ovD y))]=some (.nx [some (.dat A),some (.dat B),some (.dat C),some (.dat E),some (.dat F),some (.ow true (.lst L)),some (.dat (ovD y))]):=by
   have a0:atI (D.int (y.1:Int)::D.int (y.2.1:Int)::pD y.2.2.1::y.2.2.2.map T.d) 0=some (.int (y.1:Int)):=vA (j:=0) rfl;have a1:atI (D.int (y.1:Int)::D.int (y.2.1:Int)::pD y.2.2.1::y.2.2.2.map T.d) 1=some (.int (y.2.1:Int)):=vA (j:=1) rfl;unfold ovD;generalize (D.int (y.1:Int)::D.int (y.2.1:Int)::pD y.2.2.1::y.2.2.2.map T.d)=YY at a0 a1 ⊢
   dsimp! [a0,a1]
  simp[zfW,b1,b2]
theorem FACT41:∀ns:List Int,ns.length<=63->ziw ns->m_law41 [.scr ns]=some (.bl true):=by
 intro ns _ hL;obtain⟨w0,f,g,w3,d3,rs,er,S,nd,_,rl,RV⟩:=zlC ns hL 4 (by omega);have R:∀r∈rs,Rx r:=λr hr=>(RV r hr).rx S
 have RO:zmg rs:=⟨by omega,λr hr=>by have:=(RV r hr).z1;have:=(RV r hr).d1;exact⟨by omega,by omega⟩,λr hr=>by have:=(RV r hr).z2;have:=zas r.2;exact⟨by omega,by omega⟩⟩;have ap:∀s k k',(s,k)∈[(w0,(0:Int)),(f,1),(g,2),(w3,d3)]->(s,k')∈[(w0,(0:Int)),(f,1),(g,2),(w3,d3)]->k=k':=by
  intro s k k' h1 h2;simp only[List.nodup_cons,List.mem_cons,List.not_mem_nil,or_false,not_or]at nd;simp only[List.mem_cons,List.not_mem_nil,or_false,Prod.mk.injEq]at h1 h2
  grind
 have mu:=zpx [(w0,0),(f,1),(g,2),(w3,d3)] U26 (by simp) ap rs RO λr hr=>⟨(RV r hr).nb,(RV r hr).vs,(RV r hr).w1,(RV r hr).w2⟩
 have eo:=zjR R (by omega) mu;have el:=zhl R (by omega);have mem:=λx hx=>zoZ R (x:=x) hx
 have q:=zoh (ovR rs rs.zipIdx);have dz:=zlK (ovR rs rs.zipIdx) mem;have qr:=zje rs;have dr:=zhr rs λr hr=>⟨by have:=(RO.lz r hr).2;omega,by have:=(RO.rz r hr).2;omega⟩
 have hov:∀x∈(ovR rs rs.zipIdx).map ovD,∃y:Ov,x=ovD y:=λx hx=>by obtain⟨y,_,e⟩:=Jk.mp hx;exact⟨y,e.symm⟩
 have er:zaP [.scr ns,.int 4]=_:=er;generalize [(w0,(0:Int)),(f,1),(g,2),(w3,d3)].map sd=PS at er;generalize rs.map rD=RR at*;generalize (ovR rs rs.zipIdx).map ovD=OO at*;have qe:eqB (.lst OO) (.lst OO)=some (.bl true):=by
  have:qU OO<=99:=by omega
  simp[eqB,eqD,dep,this,q]
 have qn:neB (.lst OO) (.lst OO)=some (.bl false):=by
  have:qU OO<=99:=by omega
  simp[neB,eqD,dep,this,q]
 have rn:neB (.lst RR) (.lst RR)=some (.bl false):=by
  have:qU RR<=99:=by omega
  simp[neB,eqD,dep,this,qr]
 obtain⟨k6',fl⟩:=zfk (.scr ns) (.lst PS) (.lst RR) (.lst RR) (.lst OO) OO zaP zaq nJ zO OO none hov
 dsimp! [m_law41,er,yK,el,eo,qn,rn,forO,fl,unpF,unpin,clrM,qe,nH,nG,nZ,nY,zhY]
abbrev pwk:Program:=PySem.Challenge.pw_endmeet_k41_overlaps
abbrev rwk:PySem.W.OpenLaw:=PySem.Challenge.rw_endmeet_k41_overlaps
def fnI:List Nat:=[6,7,8,9,10,11,13,14,15,16,18,19,20,21,24,25,26,27,28,30,31,32,33,34,35,36,37,38,39,40,41,42,43,44,45,46,47,48,49]
def qwk:Program:={pwk with main:={pwk.main with body:=[kC pwk 49]}}
def lzk:List Str:=pwk.main.body.dropLast.filterMap λst=>match st with
 | .FunctionDef n ..=>some n
 | .ClassDef n ..=>some n
 | .Assign [.Name n _] _ _=>if n=="__name__"then none else some n
 |_=>none
def tlI:List (Str×Str):=[("LETTERS","ABCDEFGHIJKLMNOPQRSTUVWXYZ")]
structure Gls(mg:SV):Prop where
 LETTERS:∃t,mg "LETTERS"=some (.str "ABCDEFGHIJKLMNOPQRSTUVWXYZ" t)
structure YZ(Z:ZZ):Prop where
 B:Glb Z.mg
 F:FNs pwk fnI Z
 GL:Gls Z.mg
variable{Z:ZZ}
theorem zgO(Y:YZ Z):Fq Z "_law_signs" ["_law_cell_here"] .ow 1 zcu:=
 mkF Y.F 31 ["_law_cell_here","_law_letters","_law_number_here","_law_long","_law_at","_law_found","_law_k","_law_word","_law_j","_law_place"] λnd _ n _ _ _ _ _ _ hr=>zI (jB 1 nd qI) (zI (jB 2 nd (fop wP (fb 0) bi)) (zI (jB 3 nd (fop jN bi (bop wP (fb 2) bi))) (zI (jB 4 nd (fop wP (bop gI (fb 2) bi) (fb 3))) (zI (xG 5 nd (jW zE)) (zI (yI PassesOwn.never rfl (zci jX rfl Y.B.range) (qB 6 nd) (zI (jB 7 nd qI) (zI (yI PassesOwn.never rfl (zci (fv 3) rfl Y.B.range) (qB 8 nd) (zI (jB 9 nd (fop jN (bop jN (bop gI (fb 2) (bop jN (fb 8) bi)) (bop zkN (fb 8) (fb 8))) (bop zkN (FP.br (zdm zsR rfl Y.B.int PyProof.Rows.boot_int (gO (FP.br (fcq (peq hr) (fb 8) (fb 4))) zE))) (fb 6)))) (zN (jB 7 nd (fop jN (fb 7) (biz (fb 1) (bop wP (fb 9) bi))))))) (zN (wV (nU 5 (zU (zC (fv 7) (zC (fiz (FP.ob (jW (zC jX (zC jX (zC jX (zC (fop wP (bop gI (fb 2) bi) bi) zE)))))) (fb 6)) zE))))))))) (zN (zhJ 5)))))))
theorem zbp(Y:YZ Z):Fq Z "_law_cell" ["_law_script","_law_k"] .fz 1 zag:=
 mkF Y.F 30 ["_law_script","_law_k"] λnd _ n _ _ _ _ _ _ hr=>zI (sif (FTp.up (tcq p_lt (fb 1) (bln Y.B (fb 0)))) (zN (qN (fiz (fb 0) (fb 1)))) qY) (zN (qN jX))
theorem zdL(Y:YZ Z):Fq Z "_law_term" ["_law_number_here","_law_nest","_law_signs_here","_law_blanks_here"] .fz 100 zct:=
 recF Y.F 32 0 100 λ_ ih=>mkF Y.F 32 ["_law_number_here","_law_nest","_law_signs_here","_law_blanks_here","_law_many","_law_pick","_law_sign","_law_count","_law_parts","_law_k","_law_part"] λnd _ n _ _ _ _ _ _ hr=>zI (jB 4 nd (fop jN (bln Y.B (fb 2)) (bln Y.B (fb 3)))) (zI (jB 5 nd (fop wP (fb 0) (fb 4))) (zI (jB 0 nd (fop gI (fb 0) (fb 4))) (zI (sif (FTp.up (tcq p_lt (fb 5) (bln Y.B (fb 3)))) (zN (qN (FP.fz (jW (zC (fiz (fb 3) (fb 5)) (zC (fv 0) zE)))))) qY) (zI (nA (fiz (fb 2) (bop zoW (fb 5) (bln Y.B (fb 3)))) (vH rfl (qM (qB 6 nd) (qM (qB 7 nd) kQ)) (qL (qL kO)))) (zI (sif (FTp.up (FWp.pt (tand (tcq (peq hr) (fb 1) bi) (zkm (tcq p_gt (fb 7) bi))))) (zN (qN (FP.fz (jW (zC (zU (zC (fiz (biz (fb 2) bi) bi) zE)) (zC (fv 0) zE)))))) qY) (zI (xG 8 nd (jW zE)) (zI (yI PassesOwn.never rfl (zci (fv 7) rfl Y.B.range) (qB 9 nd) (zI (nA (fk ih hr (zC (fv 0) (zC (fop zoW (fb 1) bi) (zC (fv 2) (zC (fv 3) zE))))) (glst rfl (qM (qB 10 nd) (qM (qB 0 nd) kQ)) (qL (qL kO)))) (zN (wV (nU 8 (fv 10)))))) (zN (qN (FP.fz (jW (zC (fop jN (FP.br (zU (zC (fv 6) zE))) (FP.br (zdm zeF rfl Y.B.tuple Qn (gO (fb 8) zE)))) (zC (fv 0) zE)))))))))))))
theorem zhN(Y:YZ Z):Fq Z "_law_menu" ["_law_signs_here","_law_pick"] .fz 1 zdB:=
 mkF Y.F 36 ["_law_signs_here","_law_pick","_law_a","_law_f","_law_g","_law_some"] λnd _ n _ _ _ _ _ _ hr=>zI (jB 2 nd (zU (zC (fiz (biz (fb 0) bi) bi) zE))) (zI (jB 3 nd (fiz (biz (fb 0) bi) bi)) (zI (jB 4 nd (fiz (biz (fb 0) bi) bi)) (zI (jB 5 nd (FP.fz (jW (zC (zU (zC (zU (zC (fv 4) (zC (zU (zC (fv 4) (zC qI (zC qI zE)))) (zC qI zE)))) (zC (zU (zC (fv 4) (zC qI (zC (zU (zC (fv 4) (zC qI (zC qI zE)))) zE)))) zE))) (zC (zU (zC (zU (zC (fv 4) (zC (fv 2) (zC qI zE)))) (zC qI zE))) (zC (zU (zC (zU (zC (fv 4) (zC qI (zC (fv 2) zE)))) (zC qI zE))) zE)))))) (zI (jB 5 nd (fop jN (fb 5) (FP.ob (jW (zC (zU (zC (zU (zC (fv 3) (zC (zU (zC (fv 3) (zC qI zE))) zE))) (zC qI zE))) (zC (zU (zC (zU (zC (fv 3) (zC (fv 2) zE))) (zC (fv 2) zE))) (zC (zU (zC (zU (zC (fv 3) (zC (zU (zC (fv 4) (zC qI (zC qI zE)))) zE))) (zC (zU (zC (fv 4) (zC (zU (zC (fv 3) (zC qI zE))) (zC (zU (zC (fv 3) (zC qI zE))) zE)))) zE))) zE))))))) (zI (jB 5 nd (fop jN (fb 5) (FP.ob (jW (zC (zU (zC (zU (zC (fv 4) (zC (zU (zC (fv 3) (zC qI zE))) (zC qI zE)))) (zC (fv 2) zE))) (zC (zU (zC (zU (zC (fv 3) (zC (zU (zC (fv 3) (zC qI zE))) zE))) (zC (zU (zC (fv 3) (zC qI zE))) zE))) (zC (zU (zC (zU (zC (fv 4) (zC qI (zC qI zE)))) (zC qI zE))) zE))))))) (zI (jB 5 nd (fop jN (fb 5) (FP.ob (jW (zC (zU (zC (zU (zC (fv 4) (zC (zU (zC (fv 3) (zC qI zE))) (zC qI zE)))) (zC (zU (zC (fv 3) (zC (zU (zC (fv 4) (zC qI (zC qI zE)))) zE))) zE))) (zC (zU (zC (zU (zC (fv 4) (zC qI (zC (zU (zC (fv 3) (zC qI zE))) zE)))) (zC (zU (zC (fv 3) (zC (zU (zC (fv 4) (zC qI (zC qI zE)))) zE))) zE))) zE)))))) (zI (jB 5 nd (fop jN (fb 5) (FP.ob (jW (zC (zU (zC (zU (zC (fv 3) (zC (zU (zC (fv 4) (zC qI (zC qI zE)))) zE))) (zC qI zE))) (zC (zU (zC (zU (zC (fv 4) (zC (zU (zC (fv 4) (zC qI (zC qI zE)))) (zC qI zE)))) (zC qI zE))) (zC (zU (zC (zU (zC (fv 3) (zC qI zE))) (zC (zU (zC (fv 4) (zC qI (zC (fv 2) zE)))) zE))) zE))))))) (zN (qN (fiz (fb 5) (bop wP (fb 1) bi)))))))))))
theorem zfC(Y:YZ Z):Fq Z "_law_number" ["_law_cell_here"] .fz 1 zbe:=
 mkF Y.F 33 ["_law_cell_here"] λnd _ n _ _ _ _ _ _ hr=>zI (sif (FTp.up (tcq (peq hr) (bop wP (fb 0) bi) bi)) (zN (qN (fop wP (bop gI (fb 0) bi) (bop zqN bi bi)))) qY) (zN (qN (fop wP (bop zkN (bop gI (fb 0) bi) bi) (bop zqN bi bi))))
theorem zhL(Y:YZ Z):Fq Z "_law_size" ["_law_term_here"] .fz 100 zej:=
 recF Y.F 35 0 100 λ_ ih=>mkF Y.F 35 ["_law_term_here"] λnd _ n _ _ _ _ _ _ hr=>zI (sif (FTp.up (kI (vT (fb 0) rfl Y.B.isi rfl Y.B.str Jy))) (zN (qN jX)) qY) (zN (qN (fop jN bi (FP.br (zjd (zsQ rfl) rfl Y.B.sum PyProof.Rows.boot_sum (gO (FP.ob (zfZ ["_law_part"] [none] (.own .nil) rfl (kU (vJ vE (fb 0) (vF jX) vG)) (λ_ _ _ _=>gnm 0) (λ_ _ _ _=>wH) λ_ _ _ _=>fk ih hr (zC (fv 0) zE))) zE))))))
theorem zcq(Y:YZ Z):Fq Z "_law_blanks" ["_law_term_here"] .ow 100 zbf:=
 recF Y.F 34 0 100 λ_ ih=>mkF Y.F 34 ["_law_term_here","_law_found","_law_part","_law_blank"] λnd _ n _ _ _ _ _ _ hr=>zI (sif (FTp.up (kI (vT (fb 0) rfl Y.B.isi rfl Y.B.str Jy))) (zN (zms (jW (zC (fv 0) zE)))) qY) (zI (xG 1 nd (jW zE)) (zI (yI PassesOwn.never rfl (kU (vJ vE (fb 0) (vF jX) vG)) (qB 2 nd) (zN (yI PassesOwn.never rfl (kU (FP.fz (fk ih hr (zC (fv 2) zE)))) (qB 3 nd) (zN (sif (FTp.up (tcf (pnin hr) (fv 3) (fb 1))) (zN (wV (nU 1 (fv 3)))) qY))))) (zN (zhJ 1))))
theorem zhM(Y:YZ Z):Fq Z "_law_rule" ["_law_cell_here","_law_signs_here"] .fz 101 zbu:=
 mkF Y.F 37 ["_law_cell_here","_law_signs_here","_law_left","_law_rest","_law_right"] λnd _ n _ _ _ _ _ _ hr=>zI (sif (FTp.up (tcq p_gt (bop wP (fb 0) bi) bi)) (zN (qN (fk (zhN Y) hr (zC (fv 1) (zC (fop gI (fb 0) bi) zE))))) qY) (zI (nA (fk (zdL Y) hr (zC (fk (zfC Y) hr (zC (fop gI (fb 0) bi) zE)) (zC jX (zC (fv 1) (zC (FP.fz (jW (zC qI (zC qI (zC qI zE))))) zE))))) (glst rfl (qM (qB 2 nd) (qM (qB 3 nd) kQ)) (qL (qL kO)))) (zI (sif (FTp.up (FWp.pt (tor (kI (vT (fb 2) rfl Y.B.isi rfl Y.B.str Jy)) (tor1 (tcq p_gt (FP.br (fk (zhL Y) hr (zC (fv 2) zE))) bi))))) (zN (jB 2 nd (zU (zC (fiz (biz (fb 1) bi) bi) (zC qI zE))))) qY) (zI (jB 4 nd (fiz (FP.br (fk (zdL Y) hr (zC (fop jN (fb 3) (bop wP (bop gI (fb 0) bi) bi)) (zC jX (zC (fv 1) (zC (FP.fz (fk (zcq Y) hr (zC (fv 2) zE))) zE)))))) bi)) (zN (qN (zU (zC (fv 2) (zC (fv 4) zE))))))))
theorem zdK(Y:YZ Z):Fq Z "_law_told" ["_law_term_here","_law_names"] .fz 100 zcs:=
 recF Y.F 38 0 100 λ_ ih=>mkF Y.F 38 ["_law_term_here","_law_names"] λnd _ n _ _ _ _ _ _ hr=>zI (sif (FTp.up (kI (vT (fb 0) rfl Y.B.isi rfl Y.B.str Jy))) (zN (qN (fixK (wG hr) (fb 1) (fv 0) λ_ _=>rfl))) qY) (zN (qN (fop jN (FP.br (zU (zC (fiz (fb 0) bi) zE))) (FP.br (zdm zeF rfl Y.B.tuple Qn (gO (FP.ob (zfZ ["_law_part","_law_names"] [none,some 1] (.own (.cap .nil)) rfl (kU (vJ vE (fb 0) (vF jX) vG)) (λ_ _ _ _=>gnm 0) (λ_ _ _ _=>wH) λ_ _ _ _=>fk ih hr (zC (fv 0) (zC (fv 1) zE)))) zE))))))
theorem zdN(Y:YZ Z):Fq Z "_law_lettered" ["_law_rule_here","_law_cell_here"] .fz 101 zaT:=
 mkF Y.F 39 ["_law_rule_here","_law_cell_here","_law_letters","_law_names","_law_blank"] λnd _ n _ _ _ _ _ _ hr=>zI (xG 2 nd (zdm (zpK rfl) rfl Y.B.list PyProof.Rows.boot_list (gO (FP.br qI) zE))) (zI (xG 3 nd zlx) (zI (yI PassesOwn.never rfl (kU (FP.fz (jW (zC qI (zC qI (zC qI (zC qI (zC qI zE)))))))) (qB 4 nd) (zI (zqi 3 (wG hr) (znJ 2 (fop wP (fb 1) (bln Y.B (fb 2)))) (fv 4)) (zN (jB 1 nd (fop jN (bop gI (fb 1) bi) bi))))) (zN (sfrz 3 (qN (zU (zC (fk (zdK Y) hr (zC (fiz (fb 0) bi) (zC (fv 3) zE))) (zC (fk (zdK Y) hr (zC (fiz (fb 0) bi) (zC (fv 3) zE))) zE))))))))
theorem zgP(Y:YZ Z):Fq Z "_law_rules" ["_law_script","_law_most"] .fz 102 zaP:=
 mkF Y.F 40 ["_law_script","_law_most","_law_signs_here","_law_many","_law_rules_here"] λnd _ n _ _ _ _ _ _ hr=>zI (jB 2 nd (FP.fz (fk (zgO Y) hr (zC (fk (zbp Y) hr (zC (fv 0) (zC jX zE))) zE)))) (zI (jB 3 nd (fop gI (bop jN (bop wP (FP.br (fk (zbp Y) hr (zC (fv 0) (zC jX zE)))) (bop jN (bop zkN bi (fb 1)) bi)) bi) bi)) (zI (jB 4 nd (FP.fz (zfZ ["_law_k","_law_signs_here","_law_script"] [none,some 2,some 0] (.own (.cap (.cap .nil))) rfl (zci (fv 3) rfl Y.B.range) (λ_ _ _ _=>gnm 0) (λ_ _ _ _=>wH) λ_ _ _ _=>fk (zhM Y) hr (zC (fk (zbp Y) hr (zC (fv 2) (zC (fop jN bi (fb 0)) zE))) (zC (fv 1) zE))))) (zN (qN (FP.fz (jW (zC (fv 2) (zC (FP.fz (zfZ ["_law_k","_law_rules_here","_law_script"] [none,some 4,some 0] (.own (.cap (.cap .nil))) rfl (zci (fv 3) rfl Y.B.range) (λ_ _ _ _=>gnm 0) (λ_ _ _ _=>wH) λ_ _ _ _=>fk (zdN Y) hr (zC (fiz (fb 1) (fb 0)) (zC (fop jN (bop gI (FP.br (fk (zbp Y) hr (zC (fv 2) (zC jX zE)))) bi) (bop zkN bi (fb 0))) zE)))) zE))))))))
theorem zfD(Y:YZ Z):Fq Z "_law_filled" ["_law_term_here","_law_filling"] .fz 100 zcT:=
 recF Y.F 41 0 100 λ_ ih=>mkF Y.F 41 ["_law_term_here","_law_filling"] λnd _ n _ _ _ _ _ _ hr=>zI (sif (FTp.up (kI (vT (fb 0) rfl Y.B.isi rfl Y.B.str Jy))) (zN (qN (fget (wG hr) (fb 1) (fv 0) (fv 0)))) qY) (zN (qN (fop jN (FP.br (zU (zC (fiz (fb 0) bi) zE))) (FP.br (zdm zeF rfl Y.B.tuple Qn (gO (FP.ob (zfZ ["_law_part","_law_filling"] [none,some 1] (.own (.cap .nil)) rfl (kU (vJ vE (fb 0) (vF jX) vG)) (λ_ _ _ _=>gnm 0) (λ_ _ _ _=>wH) λ_ _ _ _=>fk ih hr (zC (fv 0) (zC (fv 1) zE)))) zE))))))
theorem zbq(Y:YZ Z):Fq Z "_law_called" ["_law_terms","_law_letters"] .fz 101 zai:=
 mkF Y.F 45 ["_law_terms","_law_letters","_law_names","_law_term_here","_law_blank"] λnd _ n _ _ _ _ _ _ hr=>zI (xG 2 nd zlx) (zI (yI PassesOwn.never rfl (kU (fv 0)) (qB 3 nd) (zN (yI PassesOwn.never rfl (kU (FP.fz (fk (zcq Y) hr (zC (fv 3) zE)))) (qB 4 nd) (zN (sif (FTp.up (tcf (zjB (u101 hr)) (fv 4) (fb 2))) (zN (zoy 2 (wG hr) (fiz (fb 1) (FP.br (zjd zrP rfl Y.B.len PySem.boot_len (gO (fb 2) zE)))) (fv 4))) qY))))) (zN (sfrz 2 (qN (FP.fz (zfZ ["_law_term_here","_law_names"] [none,some 2] (.own (.cap .nil)) rfl (kU (fv 0)) (λ_ _ _ _=>gnm 0) (λ_ _ _ _=>wH) λ_ _ _ _=>fk (zfD Y) hr (zC (fv 0) (zC (fv 1) zE))))))))
theorem zgQ(Y:YZ Z):Fq Z "_law_inner" ["_law_term_here"] .ow 100 zei:=
 recF Y.F 46 0 100 λ_ ih=>mkF Y.F 46 ["_law_term_here","_law_found","_law_k","_law_place","_law_part"] λnd _ n _ _ _ _ _ _ hr=>zI (sif (FTp.up (kI (vT (fb 0) rfl Y.B.isi rfl Y.B.str Jy))) (zN (zms (jW zE))) qY) (zI (xG 1 nd (jW (zC (FP.fz (jW (zC (zU zE) (zC (fv 0) zE)))) zE))) (zI (yI PassesOwn.never rfl (zpo jX (fln Y.B (fb 0)) rfl Y.B.range) (qB 2 nd) (zN (yI PassesOwn.never rfl (kU (FP.fz (fk ih hr (zC (fiz (fb 0) (fb 2)) zE)))) (glst rfl (qM (qB 3 nd) (qM (qB 4 nd) kQ)) (qL (qL kO))) (zN (wV (nU 1 (FP.fz (jW (zC (fop jN (FP.br (zU (zC (fop zoW (fb 2) bi) zE))) (fb 3)) (zC (fv 4) zE)))))))))) (zN (zhJ 1))))
theorem zky(Y:YZ Z):FqX Z "_law_in" ["_law_blank","_law_term_here","_law_filling"] 2 160 gJ:=
 recX Y.F 42 0 160 λ_ ih=>mkX Y.F 42 ["_law_blank","_law_term_here","_law_filling"] λnd _ n _ _ _ _ _ _ hr=>zI (sif (FTp.up (kI (vT (fb 1) rfl Y.B.isi rfl Y.B.str Jy))) (zN (zox (xor (fcq (peq hr) (fb 1) (fb 0)) (xone (xand (zrE (zfG (u101 hr)) (fv 1) (fb 2) (by with_unfolding_all rfl)) (xone (zeU 2 ih hr (fv 0) (fixK (wG hr) (fb 2) (fv 1) λ_ _=>rfl)))))))) qY) (zN (zox (zrU p_gt (zpS zrQ rfl Y.B.len PySem.boot_len (zpQ 2 2 ["_law_part","_law_blank","_law_filling"] [none,some 0,some 2] (.own (.cap (.cap .nil))) rfl (kU (vJ vE (fb 1) (vF jX) vG)) (λ_ _ _ _=>gnm 0) (λ_ _ _ _=>zmY (zeU 2 ih hr (fv 1) (fv 0))) λ_ _ _ _=>fv 0)) bi (ziP _))))
theorem zgR(Y:YZ Z):FqX Z "_law_alike" ["_law_one","_law_other","_law_filling"] 2 190 zcx:=
 recX Y.F 43 160 30 λ_ ih=>mkX Y.F 43 ["_law_one","_law_other","_law_filling","_law_left","_law_right"] λnd _ n _ _ _ _ _ _ hr=>zI (ziF n PassesOwn.never (FTp.up (FWp.pt (tand (kI (vT (fb 0) rfl Y.B.isi rfl Y.B.str Jy)) (zkm (tcf (zfG (u101 hr)) (fv 0) (fb 2)))))) (zN (jB 0 nd (fixK (wG hr) (fb 2) (fv 0) λ_ _=>rfl)))) (zI (ziF n PassesOwn.never (FTp.up (FWp.pt (tand (kI (vT (fb 1) rfl Y.B.isi rfl Y.B.str Jy)) (zkm (tcf (zfG (u101 hr)) (fv 1) (fb 2)))))) (zN (jB 1 nd (fixK (wG hr) (fb 2) (fv 1) λ_ _=>rfl)))) (zI (sif (FTp.up (tcq (peq hr) (fb 0) (fb 1))) (zN (qN fbl)) qY) (zI (sif (FTp.up (kI (vT (fb 0) rfl Y.B.isi rfl Y.B.str Jy))) (zI (sif (zmY (zeU 2 (zky Y) hr (fv 0) (fv 1))) (zN (qN fbl)) qY) (zI (zoy 2 (wG hr) (fv 1) (fv 0)) (zN (qN fbl)))) qY) (zI (sif (FTp.up (kI (vT (fb 1) rfl Y.B.isi rfl Y.B.str Jy))) (zN (zox (zeU 2 ih hr (fv 1) (fv 0)))) qY) (zI (sif (FTp.up (FWp.pt (tor (tcq (pne hr) (biz (fb 0) bi) (biz (fb 1) bi)) (tor1 (tcq (pne hr) (bln Y.B (fb 0)) (bln Y.B (fb 1))))))) (zN (qN fbl)) qY) (zI (yI PassesOwn.never rfl (izip (vJ vE (fb 0) (vF jX) vG) (vJ vE (fb 1) (vF jX) vG) rfl Y.B.zip) (vH rfl (qM (qB 3 nd) (qM (qB 4 nd) kQ)) (qL (qL kO))) (zN (sif (mnot (zmY (zeU 2 ih hr (fv 3) (fv 4)))) (zN (qN fbl)) qY))) (zN (qN fbl))))))))
theorem zjx(Y:YZ Z):Fq Z "_law_put" ["_law_term_here","_law_place","_law_new"] .fz 100 zii:=
 recF Y.F 47 0 100 λ_ ih=>mkF Y.F 47 ["_law_term_here","_law_place","_law_new","_law_at"] λnd _ n _ _ _ _ _ _ hr=>zI (sif (FTp.up (tcq (peq hr) (fb 1) (FP.br (zU zE)))) (zN (qN (fv 2))) qY) (zI (jB 3 nd (fop jN (biz (fb 1) bi) bi)) (zN (qN (fop jN (bop jN (FP.br (vJ vE (fb 0) vG (vF (fv 3)))) (FP.br (zU (zC (fk ih hr (zC (fiz (fb 0) (fb 3)) (zC (vJ vE (fb 1) (vF jX) vG) (zC (fv 2) zE)))) zE)))) (FP.br (vJ vE (fb 0) (vF (fop jN (fb 3) bi)) vG))))))
theorem zgN(Y:YZ Z):Fq Z "_law_whole" ["_law_term_here","_law_filling"] .fz 200 zbd:=
 recF Y.F 44 0 200 λ_ ih=>mkF Y.F 44 ["_law_term_here","_law_filling"] λnd _ n _ _ _ _ _ _ hr=>zI (sif (FTp.up (kI (vT (fb 0) rfl Y.B.isi rfl Y.B.str Jy))) (zI (sif (FTp.up (tcf (zfG (u101 hr)) (fv 0) (fb 1))) (zN (qN (fk ih hr (zC (fixK (wG hr) (fb 1) (fv 0) λ_ _=>rfl) (zC (fv 1) zE))))) qY) (zN (qN (fv 0)))) qY) (zN (qN (fop jN (FP.br (zU (zC (fiz (fb 0) bi) zE))) (FP.br (zdm zeF rfl Y.B.tuple Qn (gO (FP.ob (zfZ ["_law_part","_law_filling"] [none,some 1] (.own (.cap .nil)) rfl (kU (vJ vE (fb 0) (vF jX) vG)) (λ_ _ _ _=>gnm 0) (λ_ _ _ _=>wH) λ_ _ _ _=>fk ih hr (zC (fv 0) (zC (fv 1) zE)))) zE))))))
theorem zdM(Y:YZ Z):Fq Z "_law_overlaps" ["_law_rules_here"] .ow 201 zaq:=
 mkF Y.F 48 ["_law_rules_here","_law_found","_law_k","_law_left","_law_right","_law_place","_law_part","_law_j","_law_within","_law_outer","_law_filling","_law_three","_law_peak","_law_upper","_law_lower"] λnd _ n _ _ _ _ _ _ hr=>zI (xG 1 nd (jW zE)) (zI (yI PassesOwn.never rfl (zci (fln Y.B (fb 0)) rfl Y.B.range) (qB 2 nd) (zI (nA (fk (zbq Y) hr (zC (fiz (fb 0) (fb 2)) (zC qI zE))) (glst rfl (qM (qB 3 nd) (qM (qB 4 nd) kQ)) (qL (qL kO)))) (zN (yI PassesOwn.never rfl (kU (FP.fz (fk (zgQ Y) hr (zC (fv 3) zE)))) (glst rfl (qM (qB 5 nd) (qM (qB 6 nd) kQ)) (qL (qL kO))) (zN (yI PassesOwn.never rfl (zci (fln Y.B (fb 0)) rfl Y.B.range) (qB 7 nd) (zI (nA (fk (zbq Y) hr (zC (fiz (fb 0) (fb 7)) (zC qI zE))) (glst rfl (qM (qB 8 nd) (qM (qB 9 nd) kQ)) (qL (qL kO)))) (zI (xG 10 nd zlx) (zN (sif (FW.pt (mand (FTp.up (FWp.pt (tor (tcq (pne hr) (fb 2) (fb 7)) (tor1 (tcq (pne hr) (fb 5) (FP.br (zU zE))))))) (zre (zmY (zeU 10 (zgR Y) hr (fv 6) (fv 8)))))) (zI (jB 11 nd (FP.fz (jW (zC (fv 3) (zC (fv 4) (zC (fk (zjx Y) hr (zC (fv 3) (zC (fv 5) (zC (fv 9) zE)))) zE)))))) (zI (sfrz 10 (zqh 11 ["_law_term_here","_law_filling"] [none,some 10] (.own (.cap .nil)) rfl nd (kU (fv 11)) (λ_ _ _ _=>gnm 0) (λ_ _ _ _=>wH) λ_ _ _ _=>fk (zgN Y) hr (zC (fv 0) (zC (fv 1) zE)))) (zI (nA (fk (zbq Y) hr (zC (fv 11) (zC qI zE))) (glst rfl (qM (qB 12 nd) (qM (qB 13 nd) (qM (qB 14 nd) kQ))) (qL (qL (qL kO))))) (zN (wV (nU 1 (zU (zC (fv 2) (zC (fv 7) (zC (fv 5) (zC (fv 12) (zC (fv 13) (zC (fv 14) zE))))))))))))) qY)))))))))) (zN (zhJ 1)))
theorem nW(Y:YZ Z):Fq Z "is_blank" ["term"] .fz 1 gA:=
 mkF Y.F 6 ["term"] λnd _ n _ _ _ _ _ _ hr=>zN (qN (vT (fb 0) rfl Y.B.isi rfl Y.B.str Jy))
theorem zcp(Y:YZ Z):Fq Z "inner_parts" ["term"] .fz 2 zah:=
 mkF Y.F 7 ["term"] λnd _ n _ _ _ _ _ _ hr=>zI (sif (FTp.up (kI (fk (nW Y) hr (zC (fv 0) zE)))) (zN (qN (zU zE))) qY) (zN (qN (vJ vE (fb 0) (vF jX) vG)))
theorem zaY(Y:YZ Z):Fq Z "placed_parts" ["term"] .fz 3 zac:=
 mkF Y.F 8 ["term","found","waiting","place","part","inner"] λnd _ n _ _ _ _ _ _ hr=>zI (xG 1 nd (jW zE)) (zI (xG 2 nd (jW (zC (zU (zC (zU zE) (zC (fv 0) zE))) zE))) (zI (ziF n PassesOwn.never (FTp.up (ttru (fb 2))) (zI (zqn (xpop 2) (vH rfl (qM (qB 3 nd) (qM (qB 4 nd) kQ)) (qL (qL kO)))) (zI (wV (nU 1 (zU (zC (fv 3) (zC (fv 4) zE))))) (zI (zqh 5 ["at","held","place"] [none,none,some 3] (.own (.own (.cap .nil))) rfl nd (zrt (fk (zcp Y) hr (zC (fv 4) zE)) rfl Y.B.enum) (λ_ _ _ _=>vH rfl (qM (gnm 0) (qM (gnm 1) kQ)) (qL (qL kO))) (λ_ _ _ _=>wH) λ_ _ _ _=>zU (zC (fop jN (fb 2) (FP.br (zU (zC (fv 0) zE)))) (zC (fv 1) zE))) (zN (wV (zkc 2 (FP.fz (frev (fb 5) (fneg jX)))))))))) (zN (zmt 1))))
theorem zdJ(Y:YZ Z):Fq Z "twofold_signs" ["terms"] .ow 4 zaw:=
 mkF Y.F 20 ["terms","counts","found","term","place","part"] λnd _ n _ _ _ _ _ _ hr=>zI (xG 1 nd zlx) (zI (xG 2 nd (jW zE)) (zI (yI PassesOwn.never rfl (kU (fv 0)) (qB 3 nd) (zN (yI PassesOwn.never rfl (kU (fk (zaY Y) hr (zC (fv 3) zE))) (vH rfl (qM (qB 4 nd) (qM (qB 5 nd) kQ)) (qL (qL kO))) (zN (sif (FW.pt (mand (FTp.up (tnot (kI (fk (nW Y) hr (zC (fv 5) zE))))) (zre (zsz (pne hr) (zop 1 (wG hr) (fiz (fb 5) bi) (fln Y.B (fb 5))) (bln Y.B (fb 5)) (ziP _))))) (zN (wV (nU 2 (fiz (fb 5) bi)))) qY))))) (zN (zhJ 2))))
theorem zaO(Y:YZ Z):Fq Z "blanks_of" ["term"] .fz 4 zae:=
 mkF Y.F 9 ["term","found","place","part"] λnd _ n _ _ _ _ _ _ hr=>zI (xG 1 nd (jW zE)) (zI (yI PassesOwn.never rfl (kU (fk (zaY Y) hr (zC (fv 0) zE))) (vH rfl (qM (qB 2 nd) (qM (qB 3 nd) kQ)) (qL (qL kO))) (zN (sif (FTp.up (FWp.pt (tand (kI (fk (nW Y) hr (zC (fv 3) zE))) (zkm (tcf (pnin hr) (fv 3) (fb 1)))))) (zN (wV (nU 1 (fv 3)))) qY))) (zN (zmt 1)))
theorem zkx(Y:YZ Z):Fq Z "is_rule" ["left","right"] .fz 5 zcw:=
 mkF Y.F 18 ["left","right","known"] λnd _ n _ _ _ _ _ _ hr=>zI (sif (FTp.up (kI (fk (nW Y) hr (zC (fv 0) zE)))) (zN (qN fbl)) qY) (zI (jB 2 nd (fk (zaO Y) hr (zC (fv 0) zE))) (zN (qN (zjd (zsS rfl) rfl Y.B.all PyProof.Rows.boot_all (gO (FP.ob (zfZ ["blank","known"] [none,some 2] (.own (.cap .nil)) rfl (kU (fk (zaO Y) hr (zC (fv 1) zE))) (λ_ _ _ _=>gnm 0) (λ_ _ _ _=>wH) λ_ _ _ _=>zrE (pinn hr) (fv 0) (fb 1) (by with_unfolding_all rfl))) zE)))))
theorem zjw(Y:YZ Z):Fq Z "sides_of" ["rules"] .ow 1 zca:=
 mkF Y.F 19 ["rules"] λnd _ n _ _ _ _ _ _ hr=>zN (zms (zrD ["rule","side"] [none,none] (.own (.own .nil)) rfl (kU (fv 0)) (λ_ _ _ _=>gnm 0) (λ_ _ _ _=>kU (fv 0)) (λ_ _ _ _=>gnm 1) λ_ _ _ _=>fv 1))
theorem zgL(Y:YZ Z):Fq Z "must_rules" ["rules","terms"] .fz 6 zaD:=
 mkN Y.F 21 ["rules","terms","rule","left","right","twofold"] λnd _ n _ _ _ _ _ _ hr=>zI (yI PassesOwn.never rfl (kU (fv 0)) (qB 2 nd) (zI (nA (fv 2) (vH rfl (qM (qB 3 nd) (qM (qB 4 nd) kQ)) (qL (qL kO)))) (zN (sif (FTp.up (tnot (kI (fk (zkx Y) hr (zC (fv 3) (zC (fv 4) zE)))))) (zN zkr) qY)))) (zI (jB 5 nd (FP.fz (fk (zdJ Y) hr (zC (fop jN (FP.ob (fk (zjw Y) hr (zC (fv 0) zE))) (fb 1)) zE)))) (zN (sif (FTp.up (ttru (fb 5))) (zN zkr) qY)))
theorem nB(Y:YZ Z):Fq Z "filled" ["term","filling"] .fz 101 kK:=
 recF Y.F 13 1 100 λ_ ih=>mkF Y.F 13 ["term","filling"] λnd _ n _ _ _ _ _ _ hr=>zI (sif (FTp.up (kI (fk (nW Y) hr (zC (fv 0) zE)))) (zN (qN (fget (wG hr) (fb 1) (fv 0) (fv 0)))) qY) (zN (qN (fop jN (FP.br (zU (zC (fiz (fb 0) bi) zE))) (FP.br (zdm zeF rfl Y.B.tuple Qn (gO (FP.ob (zfZ ["part","filling"] [none,some 1] (.own (.cap .nil)) rfl (kU (vJ vE (fb 0) (vF jX) vG)) (λ_ _ _ _=>gnm 0) (λ_ _ _ _=>wH) λ_ _ _ _=>fk ih hr (zC (fv 0) (zC (fv 1) zE)))) zE))))))
theorem zoG(Y:YZ Z):Fq Z "apart" ["rule"] .fz 102 zfO:=
 mkF Y.F 24 ["rule","left","right","names"] λnd _ n _ _ _ _ _ _ hr=>zI (nA (fv 0) (vH rfl (qM (qB 1 nd) (qM (qB 2 nd) kQ)) (qL (qL kO)))) (zI (zkq 3 ["blank"] [none] (.own .nil) rfl nd (kU (fk (zaO Y) hr (zC (fv 1) zE))) (λ_ _ _ _=>gnm 0) (λ_ _ _ _=>wH) (λ_ _ _ _=>fv 0) λ_ _ _ _=>fop jN (fb 0) (fb 0)) (zN (sfrz 3 (qN (zU (zC (fk (nB Y) hr (zC (fv 1) (zC (fv 3) zE))) (zC (fk (nB Y) hr (zC (fv 2) (zC (fv 3) zE))) zE)))))))
theorem zeJ(Y:YZ Z):Fq Z "paired_parts" ["one","other"] .fz 2 zaa:=
 mkF Y.F 14 ["one","other"] λnd _ n _ _ _ _ _ _ hr=>zI (sif (FTp.up (FWp.pt (tor (kI (fk (nW Y) hr (zC (fv 0) zE))) (tor1 (kI (fk (nW Y) hr (zC (fv 1) zE))))))) (zN (qN fnon)) qY) (zI (sif (FTp.up (FWp.pt (tor (tcq (pne hr) (biz (fb 0) bi) (biz (fb 1) bi)) (tor1 (tcq (pne hr) (bln Y.B (fb 0)) (bln Y.B (fb 1))))))) (zN (qN fnon)) qY) (zN (qN (FP.fz (zrx rfl rfl Y.B.list rfl Y.B.zip (vJ vE (fb 0) (vF jX) vG) (vJ vE (fb 1) (vF jX) vG))))))
theorem zgK(Y:YZ Z):Fq Z "with_blank" ["filling","blank","term"] .fz 102 zao:=
 mkF Y.F 15 ["filling","blank","term","made"] λnd _ n _ _ _ _ _ _ hr=>zI (zkq 3 ["known","held","blank","term"] [none,none,some 1,some 2] (.own (.own (.cap (.cap .nil)))) rfl nd (zrs (fv 0)) (λ_ _ _ _=>vH rfl (qM (gnm 0) (qM (gnm 1) kQ)) (qL (qL kO))) (λ_ _ _ _=>wH) (λ_ _ _ _=>fv 0) λ_ _ _ _=>fk (nB Y) hr (zC (fv 1) (zC (FP.fz (zrC (fv 2) (fv 3))) zE))) (zI (zoy 3 (wG hr) (fv 2) (fv 1)) (zN (zmt 3)))
theorem zgM(Y:YZ Z):Fq Z "made_alike" ["one","other"] .fz 103 zaE:=
 mkF Y.F 16 ["one","other","filling","waiting","first","second","left","right","pairs"] λnd _ n _ _ _ _ _ _ hr=>zI (jB 2 nd (FP.fz zlx)) (zI (xG 3 nd (jW (zC (zU (zC (fv 0) (zC (fv 1) zE))) zE))) (zI (ziF n PassesOwn.never (FTp.up (ttru (fb 3))) (zI (zqn (znJ 3 jX) (vH rfl (qM (qB 4 nd) (qM (qB 5 nd) kQ)) (qL (qL kO)))) (zI (spar 6 7 rfl nd (zC (fk (nB Y) hr (zC (fv 4) (zC (fv 2) zE))) (zC (fk (nB Y) hr (zC (fv 5) (zC (fv 2) zE))) zE))) (zI (sif (FTp.up (tcq (peq hr) (fb 6) (fb 7))) (zN zoC) qY) (zI (sif (FTp.up (kI (fk (nW Y) hr (zC (fv 7) zE)))) (zN (spar 6 7 rfl nd (zC (fv 7) (zC (fv 6) zE)))) qY) (zI (sif (FTp.up (kI (fk (nW Y) hr (zC (fv 6) zE)))) (zI (sif (FTp.up (tcf (pinn hr) (fv 6) (FP.br (fk (zaO Y) hr (zC (fv 7) zE))))) (zN (qN fnon)) qY) (zI (jB 2 nd (fk (zgK Y) hr (zC (fv 2) (zC (fv 6) (zC (fv 7) zE))))) (zN zoC))) qY) (zI (jB 8 nd (fk (zeJ Y) hr (zC (fv 6) (zC (fv 7) zE)))) (zI (sif (FTp.up (tcq p_is (fb 8) (FP.br fnon))) (zN (qN fnon)) qY) (zN (xG 3 nd (fop zst (fb 8) (fb 3)))))))))))) (zN (qN (fv 2)))))
theorem zmx(Y:YZ Z):Fq Z "way_to" ["term","place"] .fz 3 zdA:=
 mkF Y.F 10 ["term","place","way","number","inner"] λnd _ n _ _ _ _ _ _ hr=>zI (xG 2 nd (jW (zC (fv 0) zE))) (zI (yI PassesOwn.never rfl (kU (fv 1)) (qB 3 nd) (zI (jB 4 nd (fk (zcp Y) hr (zC (fiz (fb 2) (FP.br (fneg jX))) zE))) (zI (sif (FTp.up (FWp.pt (tor (tcq p_lt (fb 3) bi) (tor1 (tcq (p_ge (wG hr)) (fb 3) (bln Y.B (fb 4))))))) (zN zkr) qY) (zN (wV (nU 2 (fiz (fb 4) (fb 3)))))))) (zN (zmt 2)))
theorem zmy(Y:YZ Z):Fq Z "put_at" ["term","place","new"] .fz 4 zcv:=
 mkF Y.F 11 ["term","place","new","wholes","made","whole","number"] λnd _ n _ _ _ _ _ _ hr=>zI (jB 3 nd (vJ vE (FP.br (fk (zmx Y) hr (zC (fv 0) (zC (fv 1) zE)))) vG (vF (fneg jX)))) (zI (jB 4 nd (fv 2)) (zI (yI PassesOwn.never rfl (irev (FP.fz (zrx rfl rfl Y.B.list rfl Y.B.zip (fv 3) (fv 1))) rfl Y.B.reversed) (vH rfl (qM (qB 5 nd) (qM (qB 6 nd) kQ)) (qL (qL kO))) (zN (jB 4 nd (fop jN (bop jN (FP.br (vJ vE (fb 5) vG (vF (fop jN (fb 6) bi)))) (FP.br (zU (zC (fv 4) zE)))) (FP.br (vJ vE (fb 5) (vF (fop jN (fb 6) bi)) vG)))))) (zN (qN (fv 4)))))
theorem zeK(Y:YZ Z):Fq Z "led_two_ways" ["upper_rule","lower_rule","place","part"] .fz 104 zaj:=
 mkF Y.F 25 ["upper_rule","lower_rule","place","part","left","right","other_left","other_right","filling","peak","lower","names"] λnd _ n _ _ _ _ _ _ hr=>zI (nA (fv 0) (vH rfl (qM (qB 4 nd) (qM (qB 5 nd) kQ)) (qL (qL kO)))) (zI (nA (fk (zoG Y) hr (zC (fv 1) zE)) (vH rfl (qM (qB 6 nd) (qM (qB 7 nd) kQ)) (qL (qL kO)))) (zI (jB 8 nd (fk (zgM Y) hr (zC (fv 3) (zC (fv 6) zE)))) (zI (sif (FTp.up (tcq p_is (fb 8) (FP.br fnon))) (zN (qN fnon)) qY) (zI (jB 9 nd (fk (nB Y) hr (zC (fv 4) (zC (fv 8) zE)))) (zI (jB 10 nd (fk (zmy Y) hr (zC (fv 9) (zC (fv 2) (zC (fk (nB Y) hr (zC (fv 7) (zC (fv 8) zE))) zE))))) (zI (zkq 11 ["at","blank"] [none,none] (.own (.own .nil)) rfl nd (zln (fk (zaO Y) hr (zC (fv 9) zE)) rfl Y.B.enum) (λ_ _ _ _=>vH rfl (qM (gnm 0) (qM (gnm 1) kQ)) (qL (qL kO))) (λ_ _ _ _=>wH) (λ_ _ _ _=>fv 1) λ_ _ _ _=>fiz (FP.br (zrB Y.GL.LETTERS)) (fb 0)) (zN (sfrz 11 (qN (zU (zC (fk (nB Y) hr (zC (fv 9) (zC (fv 11) zE))) (zC (fk (nB Y) hr (zC (fk (nB Y) hr (zC (fv 5) (zC (fv 8) zE))) (zC (fv 11) zE))) (zC (fk (nB Y) hr (zC (fv 10) (zC (fv 11) zE))) zE)))))))))))))
theorem zfB(Y:YZ Z):Fq Z "overlaps_at" ["rules","number","place","part"] .ow 105 zaJ:=
 mkF Y.F 26 ["rules","number","place","part","found","other_number","other_rule","ways"] λnd _ n _ _ _ _ _ _ hr=>zI (xG 4 nd (jW zE)) (zI (yI PassesOwn.never rfl (zln (fv 0) rfl Y.B.enum) (vH rfl (qM (qB 5 nd) (qM (qB 6 nd) kQ)) (qL (qL kO))) (zI (sif (FTp.up (FWp.pt (tand (tcq (peq hr) (fb 5) (fb 1)) (zkm (tcq (peq hr) (fb 2) (FP.br (zU zE))))))) (zN zoC) qY) (zI (jB 7 nd (fk (zeK Y) hr (zC (fiz (fb 0) (fb 1)) (zC (fv 6) (zC (fv 2) (zC (fv 3) zE)))))) (zN (sif (FTp.up (tcq zoY (fb 7) (FP.br fnon))) (zN (wV (nU 4 (fop jN (FP.br (zU (zC (fv 1) (zC (fv 5) (zC (fv 2) zE))))) (fb 7))))) qY))))) (zN (zhJ 4)))
theorem zeL(Y:YZ Z):Fq Z "all_overlaps" ["rules"] .ow 106 zaB:=
 mkF Y.F 27 ["rules","found","number","left","right","place","part"] λnd _ n _ _ _ _ _ _ hr=>zI (xG 1 nd (jW zE)) (zI (yI PassesOwn.never rfl (zln (fv 0) rfl Y.B.enum) (vH rfl (qM (qB 2 nd) (qM (vH rfl (qM (qB 3 nd) (qM (qB 4 nd) kQ)) (qL (qL kO))) kQ)) (qL (qL kO))) (zN (yI PassesOwn.never rfl (kU (fk (zaY Y) hr (zC (fv 3) zE))) (vH rfl (qM (qB 5 nd) (qM (qB 6 nd) kQ)) (qL (qL kO))) (zN (sif (FTp.up (tnot (kI (fk (nW Y) hr (zC (fv 6) zE))))) (zN (wV (zkc 1 (FP.fz (fk (zfB Y) hr (zC (fv 0) (zC (fv 2) (zC (fv 5) (zC (fv 6) zE))))))))) qY))))) (zN (zhJ 1)))
theorem zeX(Y:YZ Z):Fq Z "overlaps" ["rules"] .ow 107 nJ:=
 mkF Y.F 28 ["rules"] λnd _ n _ _ _ _ _ _ hr=>zI (zsj (fk (zgL Y) hr (zC (fv 0) (zC (FP.fz (jW zE)) zE)))) (zN (zms (fk (zeL Y) hr (zC (fv 0) zE))))
theorem zso(Y:YZ Z){f:Addr}{fd:FuncData}(Fn:Fun Z.K "law" "law" (kC pwk 49) f fd):xU Z.P Z.w Z.K Z.mg Z.base CX0 202 f fd ["_law_script"] (SpD Z.K .fz m_law41):=
 have S:zbb ["_law_script","_law_signs_here","_law_rules_here","_law_handed","_law_due","_law_found","_law_one"] ["_law_script"] (kR (kC pwk 49)):=⟨rfl,rfl,rfl,by decide+kernel,rfl,by decide+kernel,by decide+kernel⟩;have nd:=S.nd
 zrA Fn S (mb:=ziU zaP zaq nJ) (λn _ _ _ _ _ _ hr=>zI (nA (fk (zgP Y) hr (zC (fv 0) (zC jX zE))) (glst rfl (qM (qB 1 nd) (qM (qB 2 nd) kQ)) (qL (qL kO)))) (zI (jB 3 nd (FP.fz (zdm zrO rfl Y.B.list PyProof.Rows.boot_list (gO (fb 2) zE)))) (zI (jB 4 nd (FP.fz (fk (zdM Y) hr (zC (fv 2) zE)))) (zI (xG 5 nd (fk (zeX Y) hr (zC (fv 3) zE))) (zI (sif (FTp.up (FWp.pt (tor (tnot (kI (vT (fb 5) rfl Y.B.isi rfl Y.B.list PyProof.Rows.boot_list))) (tor (tcq (pne hr) (fb 5) (fb 4)) (tor1 (tcq (pne hr) (fb 3) (fb 2))))))) (zN (qN fbl)) qY) (zI (zsi 5 PassesOwn.never rfl (qB 6 nd) (zN (sif (FTp.up (FWp.pt (tor (tnot (kI (vT (fb 6) rfl Y.B.isi rfl Y.B.tuple Qn))) (tor (kI (vT (biz (fb 6) bi) rfl Y.B.isi rfl Y.B.bool PyProof.Rows.boot_bool)) (tor1 (kI (vT (biz (fb 6) bi) rfl Y.B.isi rfl Y.B.bool PyProof.Rows.boot_bool))))))) (zN (qN fbl)) qY))) (zI (wV (zpR 5)) (zN (qN (fcq (peq hr) (FP.ob (fk (zeX Y) hr (zC (fv 3) zE))) (fb 4))))))))))) zkv
theorem all_mk{l:PySem.W.OpenLaw}{w:World}{K:Fg}{h:Heap}{mg:SV}{fa:Addr}(X:K.In h)(G:h.Ns mainGlobals mg)(hfa:mg "law"=some (.ref fa))(A00:feV pwk fnI tlI K=feX pwk fnI tlI):∃fd:FuncData,(∀(s:Shared) (v:Value),BindsTo s fd ⟨[v],[]⟩ [("_law_script",v)])/\∀base:Heap,K.In base->base.Ns mainGlobals mg->xU l.prog w K mg base CX0 202 fa fd ["_law_script"] (SpD K .fz m_law41):=by
 have A:faV pwk fnI K=faX pwk fnI:=JV Prod.fst A00;obtain⟨f,fd,a,F⟩:=zrG A 49 (by decide) (n:="law") rfl;cases hfa.symm.trans (PySem.W.mg_of X G a)
 refine⟨fd,?_,λbase _ _=>zso (Z:=⟨l.prog,w,K,mg,base⟩) ⟨zrF A X G,zry A X G,⟨zrW A00 X G "LETTERS" "ABCDEFGHIJKLMNOPQRSTUVWXYZ" (by simp[tlI])⟩⟩ F⟩
 ·obtain⟨oc,od,kV,doc,pm,an,cdv,ct,osl,rfl,lk,cd⟩:=F.ex;exact λs v=>.of_eq rfl
open PySem.W
theorem bigk:∀w:World,(λos:OsState=>(HD.bal (Fast.tw10156331382660048174 (Fast.tw11892475500146522536 Fast.tw14364793385576792824) pwk w) (Fast.tw6613529449190102663 11 (some (.ref 6))) 12 (HD.bootS w os) (topStub pwk)).map (HD.looks pwk qwk lzk (λs=>recOk rwk.row.toRowW.records s) (λs=>feV pwk fnI tlI (znG s.heap)) Fast.tw4187177175401517315 Fast.tw5923862056798008813 w))=λ_=>some (true,true,openGood qwk lzk,feX pwk fnI tlI):=by
 intro w
 kernel_rfl
theorem saidk:rwk.wellSaid=true:=by kernel_rfl
theorem leftk:LeftO pwk qwk lzk (λs=>recOk rwk.row.toRowW.records s) (λs=>feV pwk fnI tlI (znG s.heap)) (λ_=>feX pwk fnI tlI) 4796:=by refine HD.left_of (d:=12) (by kernel_rfl) (by decide) (by decide) (λs=>by kernel_rfl) ?_;rw[Fast.te10156331382660048174,Fast.te11892475500146522536,Fast.te14364793385576792824,Fast.te6613529449190102663,Fast.te4187177175401517315,Fast.te5923862056798008813];exact bigk
end FL
end
end
open PySem PySem.W PyProof.Rows
set_option maxRecDepth 100000 in
set_option maxHeartbeats 0 in
theorem PySem.Challenge.cw_endmeet_k41_overlaps_holds : PySem.Challenge.rw_endmeet_k41_overlaps.Holds := by
  refine holds_law FL.saidk fun said => ?_
  refine holds_open (q := FL.qwk) (loose := FL.lzk) (XP := fun _ _ => True) (YP := FL.YP5 FL.pwk FL.fnI FL.tlI) FL.leftk (fun w s e => ⟨_, FL.allIn_in s.heap, e⟩) FL.YP5.keeps (fun _ _ => trivial) (fun _ _ _ _ _ => trivial) (by rfl) (by rfl) (by rfl) (fun s e => recFacts_of e) (by rfl) said (by decide +kernel) ⟨rfl, rfl, rfl, rfl, rfl, by decide +kernel⟩ ?hw ?hc
  case hw => w_witness2
  case hc =>
    refine FL.walkE5 (l := PySem.Challenge.rw_endmeet_k41_overlaps) (k := 202) (x := "_law_script") (m := FL.m_law41) rfl rfl ⟨rfl, by decide, by decide, rfl⟩ ?F FL.FACT41
    intro K w mg fa h A KX G hmg
    exact FL.all_mk KX G hmg A
