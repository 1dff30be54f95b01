import PyProof.Rows.All
import Wide.All
import OpenK.AllK
import Wide.FinOn
import Lean
import PyProof.EqAt
import PyProof.EqKinds
import PyProof.TupleCall
import PyProof.NeKinds
import PyProof.WalkInts
import PyProof.SumWalkG
import KE.IntBitsLaws
import PyProof.FString
import PyProof.StrBlock
import KE.KxWritten
import KE.KxText
import PyProof.SliceStr2
import PyProof.TupleOfSeq
import PyProof.ReprRoads
import PyProof.ReprReads
import PyProof.ReprLen
import PySem.Challenge.RW_treewalkers_k02_trees_ways_and_parts
set_option Elab.async false
set_option linter.all false
set_option tactic.hygienic false
set_option maxRecDepth 100000
set_option exponentiation.threshold 10000
set_option maxHeartbeats 4000000
namespace Internal
namespace Qs
end Qs
open Option renaming some->My,none->SY
open Bool renaming true->S_,false->Ta
open List renaming range->Tc,replicate->Td
open PySem.SetTable renaming below->Te,runEnd->Tf,bits->Tg
noncomputable section
open PySem renaming wpAny_bind->ae,wpAny_pure->ag,wpAny_newObj_type->bD,wpAny_holding->bJ,wpAny_callSpecial?_slot->bN,wpAny_call_entry->bS,wpAny_truthy_bool->bU,wpAny_field->bX,wpAny_setState_of->cq,boot_len->cy,wpAny_seqItems->cE,mem_of_lookup->cR,wpAny_mono->cZ,wpAny_setField_rec->de,wpAny_passesOwn->dq,wpAny_attempt->eD,wpAny_Call_Name_kw->eG,wpAny_pyIter_list->eQ,wpAny_typeOf->eT,wpAny_setField->eX,wpAny_newList->fv,wpAny_onRaise->fw,wpAny_updateSeq_pair->fA,wpAny_execs_nil->fE,wpAny_pyIter_tuple->fK,wpAny_sequenceKey->fU,wpAny_call->f_
open List renaming length_map->af,size_toArray->au,mem_cons_self->av,mem_cons_of_mem->ax,mem_map->aA,mem_cons->aB,mem_range->aC,getElem?_eq_getElem->aF,getD_eq_getElem?_getD->aG,length_append->aH,nodup_iff_pairwise_ne->aI,getElem?_map->aK,map_map->aP,getElem?_eq_some_iff->aQ,map_cons->aR,mem_filter->aS,mem_append_right->aU,length_singleton->aX,map_append->aY,lookup_cons->a_,nodup_cons->bc,mem_append_left->bf,mem_of_getElem?->bg,mem_append->bh,mem_singleton->bp,pairwise_map->bq,not_mem_nil->bw,append_nil->bA,length_range->bE,filterMap_cons->bF,map_congr_left->bG,length_cons->bK,getElem?_append_right->bL,getElem?_append_left->bP,pairwise_iff_getElem->bQ,length_take->bR,all_eq_true->bT,append_assoc->bW,getElem?_eq_none->bY,length_filter_le->bZ,getElem_of_mem->b_,getElem?_cons_succ->cb,getElem?_set_ne->cf,getElem?_set_self->cg,nodup_range->cp,length_drop->cz,eq_nil_of_length_eq_zero->cB,foldl_cons->cJ,map_id->cP,replicate_succ->cS,getElem?_range->cT,getElem_mem->cX,mem_filterMap->cY,find?_cons->dw,map_nil->dB,mem_of_mem_take->dJ,length_pos_iff->dP,length_eq_zero_iff->dS,pairwise_singleton->dU,take_of_length_le->dY,flatten_cons->d8,mem_of_mem_drop->d9,take_length->eg,drop_eq_getElem_cons->el,length_reverse->en,getElem?_take_of_lt->eo,length_nil->eE,forIn_cons->eF,pairwise_cons->eK,map_singleton->eM,getElem?_cons_zero->eP,pairwise_lt_range->eV,all_map->eY,take_succ->eZ,reverse_cons->e_,replicate_append_replicate->fb,length_replicate->fc,singleton_append->fg,any_eq_true->fk,any_toArray->fo,countP_cons->ft,sum_cons->fx,of_mem_zip->fF,zip_cons_cons->fL,forIn_nil->fR,ext_getElem?->f7,nodup_nil->gA
open PySem.Heap renaming get?_push_of_some->ah,lt_size->ar,get?_push_size->aE,get?_none_of_le->cu,size_push->cG,get?_update_self->df
open Option.some renaming inj->ao
open Option renaming bind_some->aq,isSome_iff_exists->dM,getD_some->ee,toList_some->eJ,map_some->fC
open Bool renaming false_ne_true->aw,and_eq_true->aL,false_eq_true->aT,eq_iff_iff->bj,not_eq_true->bx,not_true->dN,and_true->dZ,and_false->fM,not_false->fO,false_and->gu
open Nat renaming le_refl->ay,lt_of_lt_of_le->aJ,ne_of_lt->aM,zero_le->aN,lt_irrefl->aW,le_trans->bC,ne_of_gt->bM,le_of_lt_succ->cA,not_lt_zero->cQ,lt_succ_of_lt->dE,lt_succ_self->dR,lt_of_le_of_lt->dX,le_of_lt->d_,le_add_right->ef,lt_trichotomy->eU,le_of_not_lt->fi,min_eq_right->fq,min_eq_left->fH,le_of_eq->fJ,not_lt->fS,le_succ->fY,max_eq_right->f9,mod_lt->gf,succ_pos->gm,max_eq_left->gn
open List.Nodup renaming length_le_of_subset->aD
open Classical renaming byContradiction->aV
open Array renaming getElem?_toList->aZ,length_toList->bt,getD_eq_getD_getElem?->bH,getElem?_eq_some_iff->cw,getElem?_eq_none->cW
open PyProof.Rows renaming slot_tuple_getitem->ba,callWith_type1->cU
open PySem.W renaming mg_none_of->br,mg_of->eA,cellsFrom_some->eR
open Ne renaming symm->bu
open PySem.PassesOwn renaming never->bB
open Int renaming toNat_natCast->bV,emod_nonneg->cn,emod_lt_of_pos->cL
open PySem.F renaming called_set->cm,plainAttrs_list->cC,slot_list_append->cM,type_list_append->cN,slot_tuple_iterator_next->da,args_tuple_add_2->eu,entry_tuple_add->eO,slot_tuple_add->eS,slot_zip_next->fG
open PySem.List renaming filterMap_getElem?_range_length->cF
open PySem.Heap.SameBut renaming update->cH
open PySem.Obj renaming data_mapFields->c_,isFreed_of_fields->fh,cls_mapFields->f6
open PySem.Calls renaming call_function_entry->dh
open PyProof.Rows.KeyOrd renaming kle_refl->dz,kle_of_klt->dF,kle_trans->eh,kle_of_not_klt->fe
open Function renaming comp_def->dH
open List.Pairwise renaming imp_of_mem->dO,filter->fy
open PyProof.Rows.F renaming plain_set_update_loop->dQ
open PySem.Value renaming isInt_shape->d3
open PySem.SetTable renaming toList_insertAt->eB
open PySem.Paired renaming length->fu,snoc->fZ
open PySem.Around renaming under_plainId->fz
open PySem.Code renaming quiet_builtin->fQ
open Prod renaming ext->gy
open List.Perm renaming refl->gz
abbrev ai:=@if_pos
abbrev ak:=@if_neg
abbrev cv:=@if_false
abbrev cK:=@congrArg
abbrev d4:=@if_true
abbrev gD:=PySem.Str->Option PySem.Value
abbrev gE:=PySem.Value->PySem.Shared->Prop
abbrev gF:=Option
abbrev gG:=PySem.W.Frag
abbrev gH:=PySem.Value
abbrev gJ:=PySem.Shared
abbrev gK:=List (Nat×Nat)
abbrev gL:=List (PySem.Addr×PySem.Obj)
local macro_rules | `(tactic| trivial)=>`(tactic| first | exact .inl rfl | exact .inr rfl | exact Or.inl rfl | exact Or.inr (Or.inl rfl) | exact Or.inr (Or.inr rfl) | exact Or.inr rfl | (show List.Nodup (_::_);decide +kernel) | exact⟨rfl,rfl,rfl,by decide +kernel,rfl,by decide +kernel,by decide +kernel⟩ | assumption)
namespace L2
open PySem PySem.Spec PyProof.Rows
abbrev Key:=Sum Int Str
def wo:Key->gH->Bool
 | .inl k,v=>Value.isInt k v
 | .inr x,v=>Value.isStrOf x v
def QZ (w:World):Key->Int
 | .inl k=>hashInt k
 | .inr x=>hashStr w x
theorem jL:∀ {k:Key} {v:gH},wo k v=S_->(∃ i t,k=Sum.inl i/\v=Value.int i t)\/(∃ x t,k=Sum.inr x/\v=Value.str x t)
 | .inl i,v,h=>by obtain⟨t,e⟩:=d3 (k:=i) (v:=v) h;exact .inl ⟨i,t,rfl,e⟩
 | .inr x,v,h=>by obtain⟨t,e⟩:=Value.isStrOf_shape (x:=x) (v:=v) h;exact .inr ⟨x,t,rfl,e⟩
theorem Fg (i:Int)(t:Tok):wo (.inl i) (.int i t)=S_:=by simp[wo,Value.isInt]
theorem Fh (x:Str)(t:Tok):wo (.inr x) (.str x t)=S_:=by simp[wo,Value.isStrOf]
theorem Mm (a b:Int):decide ((Sum.inl a:Key)=Sum.inl b)=(a==b):=by
 by_cases e:a=b
 ·subst e;simp
 ·have h:¬ (Sum.inl a:Key)=Sum.inl b:=λ q=>e (Sum.inl.inj q);rw[decide_eq_false h];exact(beq_eq_false_iff_ne.mpr e).symm
theorem Mn (a b:Str):decide ((Sum.inr a:Key)=Sum.inr b)=decide (a=b):=by
 by_cases e:a=b
 ·subst e;simp
 ·have h:¬ (Sum.inr a:Key)=Sum.inr b:=λ q=>e (Sum.inr.inj q);rw[decide_eq_false h,decide_eq_false e]
theorem Mo (a:Int)(b:Str):decide ((Sum.inl a:Key)=Sum.inr b)=Ta:=decide_eq_false (λ q=>nomatch q)
theorem Mp (a:Str)(b:Int):decide ((Sum.inr a:Key)=Sum.inl b)=Ta:=decide_eq_false (λ q=>nomatch q)
def jv (prog:Program)(w:World):PySem.KeyKind prog w Key where
 is:=wo
 hash:=QZ w
 inj:=λ v a b ha hb=>by
  rcases jL ha with⟨i,t,rfl,rfl⟩ | ⟨x,t,rfl,rfl⟩
  ·rcases jL hb with⟨j,u,rfl,e⟩ | ⟨y,u,rfl,e⟩
   ·injection e with e1 _;rw[e1]
   ·exact nomatch e
  ·rcases jL hb with⟨j,u,rfl,e⟩ | ⟨y,u,rfl,e⟩
   ·exact nomatch e
   ·injection e with e1 _;rw[e1]
 byValue:=λ k v h=>by
  rcases jL h with⟨i,t,rfl,rfl⟩ | ⟨x,t,rfl,rfl⟩<;>rfl
 pyHash:=λ hv h=>by
  rcases jL hv with⟨i,t,rfl,rfl⟩ | ⟨x,t,rfl,rfl⟩
  ·exact wpAny_pyHash_int h
  ·exact wpAny_pyHash_str h
 eqBool:=λ hu hv h=>by
  rcases jL hu with⟨i,t,rfl,rfl⟩ | ⟨x,t,rfl,rfl⟩
  ·rcases jL hv with⟨j,u,rfl,rfl⟩ | ⟨y,u,rfl,rfl⟩
   ·rw[Mm]at h;exact wpAny_eqBool_int h
   ·rw[Mo]at h;exact SeqAt.EqAt.int_str i t y u _ _ _ _ h
  ·rcases jL hv with⟨j,u,rfl,rfl⟩ | ⟨y,u,rfl,rfl⟩
   ·rw[Mp]at h;exact SeqAt.EqAt.str_int x t j u _ _ _ _ h
   ·rw[Mn]at h;exact wpAny_eqBool_str h
 «strs»:=λ k x t v h=>by
  rcases jL h with⟨i,u,rfl,e⟩ | ⟨y,u,rfl,e⟩
  ·exact nomatch e
  ·injection e with e1 _
   subst e1
   cases v<;>rfl
theorem Bh (prog:Program)(w:World)(i:Int)(t:Tok):(jv prog w).is (.inl i) (.int i t)=S_:=Fg i t
theorem Bi (prog:Program)(w:World)(x:Str)(t:Tok):(jv prog w).is (.inr x) (.str x t)=S_:=Fh x t
inductive V where
 | non | bl (b:Bool) | int (i:Int) | str (x:Str) | byt (b:Array UInt8) | flt (b:UInt64) | ref (a:Addr) | ty (n:String)
 deriving DecidableEq
def RelV:V->gH->Prop
 | .non,u=>u=Value.none
 | .bl b,u=>u=Value.bool b
 | .int i,u=>∃ t,u=Value.int i t
 | .str x,u=>∃ t,u=Value.str x t
 | .byt b,u=>∃ t,u=Value.bytes b t
 | .flt b,u=>∃ t,u=Value.float b t
 | .ref a,u=>u=Value.ref a
 | .ty n,u=>u=Value.type n
abbrev Vals:List V->List gH->Prop:=Paired RelV
theorem Vals.length {xs:List V}{us:List gH}(r:Vals xs us):xs.length=us.length:=fu r
theorem Vals.get:∀ {xs:List V} {us:List gH} {i:Nat} {x:V},Vals xs us->xs[i]?=My x->∃ u,us[i]?=My u/\RelV x u
 | _,_,_,_,.nil,e=>by simp at e
 | _,_,0,_,.cons r _,e=>by simp at e;subst e;exact⟨_,rfl,r⟩
 | _,_,i+1,x,.cons _ t,e=>by obtain⟨u,h1,h2⟩:=Vals.get (i:=i) (x:=x) t (by simpa using e);exact⟨u,by simpa using h1,h2⟩
theorem Vals.set {x:V}{u:gH}(r:RelV x u):∀ {xs:List V} {us:List gH} (i:Nat),Vals xs us->Vals (xs.set i x) (us.set i u)
 | _,_,_,.nil=>.nil
 | _,_,0,.cons _ t=>.cons r t
 | _,_,i+1,.cons q t=>.cons q (Vals.set r i t)
theorem Vals.append:∀ {xs ys:List V} {us ws:List gH},Vals xs us->Vals ys ws->Vals (xs++ys) (us++ws)
 | _,_,_,_,.nil,s=>s
 | _,_,_,_,.cons r t,s=>.cons r (Vals.append t s)
theorem Vals.take:∀ {xs:List V} {us:List gH} (n:Nat),Vals xs us->Vals (xs.take n) (us.take n)
 | _,_,0,_=>.nil
 | _,_,_+1,.nil=>.nil
 | _,_,n+1,.cons r t=>.cons r (Vals.take n t)
theorem Vals.drop:∀ {xs:List V} {us:List gH} (n:Nat),Vals xs us->Vals (xs.drop n) (us.drop n)
 | _,_,0,r=>r
 | _,_,_+1,.nil=>.nil
 | _,_,n+1,.cons _ t=>Vals.drop n t
def yw:gF V->gF gH->Prop
 | some v,My u=>RelV v u
 | none,SY=>True
 | _,_=>False
def KV {κ:Type}:List (κ×V)->List (κ×gH)->Prop:=Paired λ(p:κ×V) (q:κ×gH)=>p.1=q.1/\RelV p.2 q.2
def kV:Key->V
 | .inl i=>.int i
 | .inr x=>.str x
inductive HO where
 | lst (xs:List V)
 | tup (xs:List V)
 | dK (kvs:List (Key×V)) | dT (kvs:List (List Key×V))
 | set (S:Int->Bool) (n:Nat)
 | ins (C dx:Addr) (fs:List (Str×V))
 | own (x:Addr)
 | xd (fs:List (Str×V))
 | met (f x:Addr)
 | rng (lo hi:Int)
 | frz (o:Obj) (u:HO)
 | tbl (ps:Array gH)
 | ext (φ:Heap->Prop)
abbrev Hp:=Addr->gF HO
def upd (H:Hp)(a:Addr)(o:HO):Hp:=λ b=>if b=a then My o else H b
theorem gU {H:Hp}{a:Addr}{o:HO}:upd H a o a=My o:=by unfold upd;rw[ai rfl]
theorem g6 {H:Hp}{a b:Addr}{o:HO}(h:b≠a):upd H a o b=H b:=by unfold upd;rw[ak h]
theorem Jr {H:Hp}{a:Addr}{o u:HO}:upd (upd H a o) a u=upd H a u:=by funext b;unfold upd;split<;>rfl
theorem OP {H:Hp}{a b:Addr}{o u:HO}(h:H a=My o)(h':H b=My u)(d:o≠u):a≠b:=by intro e;subst e;rw[h]at h';exact d (ao h')
theorem ir {H:Hp}{a b:Addr}{o:HO}(h:H a=My o)(h':H b=SY):a≠b:=by intro e;subst e;rw[h]at h';cases h'
section
variable (P:Program)(w:World)
def jx (H:Hp)(h:Heap)(a:Addr):HO->Prop
 | .lst xs=>xs.length<=sizeLine/\∃ (its:List gH) (n:Nat),Vals xs its/\h.get? a=My {cls:=.type "list",data:=.seq its.toArray n}
 | .tup xs=>(xs.length<=sizeLine/\∃ o,h.get? a=My o/\o.dict=SY)/\∃ its:List gH,Vals xs its/\IsTup h a its.toArray
 | .dK kvs=>kvs.length<=sizeLine/\(a==sysModules)=Ta/\∃ vs,KV kvs vs/\h.DictOf (jv P w) a vs
 | .dT kvs=>kvs.length<=sizeLine/\(a==sysModules)=Ta/\∃ xs:List (List Key×Addr×gH),
   Paired (λ(p:List Key×V) (q:List Key×Addr×gH)=>p.1=q.1/\H q.2.1=My (.tup (p.1.map kV))/\RelV p.2 q.2.2) kvs xs /\
   ∃ o es ep,h.get? a=My o/\o.ExactDict/\o.data=.dict es ep/\es.toList=xs.map (entryOfKey (tupleKind (jv P w)))/\(xs.map (·.1)).Nodup
 | .set S n=>h.SetOf (intKind P w) a S n
 | .ins C dx fs=>H dx=My (.own a)/\fs.length<=1000/\dx≠a/\h.get? a=My (PySem.W.instObj C dx) /\
   ∃ mA,h.Ns1 dx mA/\(∀ f,yw (fs.lookup f) (mA f))/\PySem.Within mA (fs.map (·.1))
 | .own _=>∃ o,h.get? a=My o
 | .xd fs=>∃ mA,h.Ns1 a mA/\∀ f,yw (fs.lookup f) (mA f)
 | .rng lo hi=>∃ t u v,h.get? a=My {cls:=.type "range",data:=.fields #[.int lo t,.int hi u,.int 1 v]}
 | .frz o u=>h.get? a=My o/\jx H h a u
 | .tbl ps=>h.get? a=My {cls:=.none,data:=.fields ps}
 | .met f x=>h.get? a=My (PySem.W.methodObj (.ref f) (.ref x))
 | .ext φ=>φ h/\(∃ o,h.get? a=My o)/\∀ h1 h2:Heap,φ h1->(∀ o,h1.get? a=My o->h2.get? a=My o)->φ h2
def HOk (H:Hp)(h:Heap):Prop:=∀ a o,H a=My o->jx P w H h a o
end
section
variable {P:Program}{w:World}{H H':Hp}{h h':Heap}{a:Addr}{o:HO}
theorem jx.lt (x:jx P w H h a o):a<h.objs.size:=by
 cases o with
 | lst xs=>obtain⟨_,_,_,_,e⟩:=x;exact ar e
 | tup xs=>obtain⟨_,_,_,p⟩:=x;exact p.lt
 | dK kvs=>obtain⟨_,_,_,_,o,_,_,e,_⟩:=x;exact ar e
 | dT kvs=>obtain⟨_,_,_,_,o,_,_,e,_⟩:=x;exact ar e
 | set S n=>obtain⟨o,_,_,_,e,_⟩:=x;exact ar e
 | ins C dx fs=>obtain⟨_,_,_,e,_⟩:=x;exact ar e
 | own y=>obtain⟨_,e⟩:=x;exact ar e
 | xd fs=>obtain⟨_,⟨_,_,_,e,_⟩,_⟩:=x;exact ar e
 | rng lo hi=>obtain⟨_,_,_,e⟩:=x;exact ar e
 | frz ob u=>obtain⟨e,_⟩:=x;exact ar e
 | tbl ps=>exact ar (show h.get? a=My _ from x)
 | met f y=>exact ar (show h.get? a=My _ from x)
 | ext φ=>obtain⟨_,⟨_,e⟩,_⟩:=x;exact ar e
theorem Paired.Js {α β:Type}{F G:α->β->Prop}:∀ {l₁:List α} {l₂:List β},Paired F l₁ l₂->(∀ a b,F a b->G a b)->Paired G l₁ l₂
 | _,_,.nil,_=>.nil
 | _,_,.cons r t,f=>.cons (f _ _ r) (Paired.Js t f)
theorem Paired.imp' {α β:Type}{F G:α->β->Prop}(f:∀ a b,F a b->G a b){l₁:List α}{l₂:List β}(r:Paired F l₁ l₂):Paired G l₁ l₂:=Paired.Js r f
theorem jx.wq (x:jx P w H h a o)(k:∀ b u,(b=a\/H b=My (.own a))->h.get? b=My u->h'.get? b=My u)
  (ho:∀ b,H b=My (.own a)->H' b=My (.own a)) (ht:∀ b xs,H b=My (.tup xs)->H' b=My (.tup xs)):jx P w H' h' a o:=by
 induction o with
 | lst xs=>obtain⟨z,its,n,r,e⟩:=x;exact⟨z,its,n,r,k _ _ (.inl rfl) e⟩
 | tup xs=>obtain⟨⟨z,o2,e2,d2⟩,its,r,ob,e,c⟩:=x;exact⟨⟨z,o2,k _ _ (.inl rfl) e2,d2⟩,its,r,ob,k _ _ (.inl rfl) e,c⟩
 | dK kvs=>obtain⟨z,y,vs,r,ob,es,ep,e,c⟩:=x;exact⟨z,y,vs,r,ob,es,ep,k _ _ (.inl rfl) e,c⟩
 | dT kvs =>obtain⟨z,y,xs,r,ob,es,ep,e,c⟩:=x;exact⟨z,y,xs,Paired.Js r λ p q z=>⟨z.1,ht _ _ z.2.1,z.2.2⟩,ob,es,ep,k _ _ (.inl rfl) e,c⟩
 | set S n=>obtain⟨ob,es,ep,t,e,c⟩:=x;exact⟨ob,es,ep,t,k _ _ (.inl rfl) e,c⟩
 | ins C dx fs =>obtain⟨d,z,ne,e,mA,⟨od,es,ep,e2,c⟩,r⟩:=x;exact⟨ho _ d,z,ne,k _ _ (.inl rfl) e,mA,⟨od,es,ep,k _ _ (.inr d) e2,c⟩,r⟩
 | own y=>obtain⟨ob,e⟩:=x;exact⟨ob,k _ _ (.inl rfl) e⟩
 | xd fs=>obtain⟨mA,⟨od,es,ep,e,c⟩,r⟩:=x;exact⟨mA,⟨od,es,ep,k _ _ (.inl rfl) e,c⟩,r⟩
 | rng lo hi=>obtain⟨t,u,v,e⟩:=x;exact⟨t,u,v,k _ _ (.inl rfl) e⟩
 | frz ob u ih=>obtain⟨e,q⟩:=x;exact⟨k _ _ (.inl rfl) e,ih q⟩
 | tbl ps =>have e:h.get? a=My {cls:=.none,data:=.fields ps}:=x;show h'.get? a=My {cls:=.none,data:=.fields ps};exact k a _ (.inl rfl) e
 | met f y =>have e:h.get? a=My (PySem.W.methodObj (.ref f) (.ref y)):=x;show h'.get? a=My (PySem.W.methodObj (.ref f) (.ref y));exact k a _ (.inl rfl) e
 | ext φ=>obtain⟨p,⟨o,e⟩,st⟩:=x;exact⟨st _ _ p λ o q=>k _ _ (.inl rfl) q,⟨o,k _ _ (.inl rfl) e⟩,st⟩
theorem HOk.lt (x:HOk P w H h)(e:H a=My o):a<h.objs.size:=(x a o e).lt
theorem HOk.fresh (x:HOk P w H h)(e:h.objs.size<=a):H a=SY:=by
 cases q:H a with
 | none=>rfl
 | some u=>exact absurd (aJ (x.lt q) e) (aW _)
theorem HOk.kept (x:HOk P w H h)(k:∀ b u,h.get? b=My u->h'.get? b=My u):HOk P w H h':=λ a o e =>(x a o e).wq (λ b u _ q=>k b u q) (λ _ q=>q) λ _ _ q=>q
theorem HOk.laid (x:HOk P w H h)(k:∀ b u,h.get? b=My u->h'.get? b=My u)(hp:h.objs.size<=a)(new:jx P w (upd H a o) h' a o):HOk P w (upd H a o) h':=λ b u e=>by
 have hn:=x.fresh hp;by_cases hb:b=a
 ·subst hb;rw[gU]at e;cases e;exact new
 ·rw[g6 hb]at e;exact(x b u e).wq (λ c v _ q=>k c v q) (λ c q=>by rw[g6 (ir q hn)];exact q) λ c xs q=>by rw[g6 (ir q hn)];exact q
end
def Rd (H:Hp)(a:Addr)(u:HO):Prop:=H a=My u\/∃ o,H a=My (.frz o u)
theorem Rd.ok {P:Program}{w:World}{H:Hp}{h:Heap}{a:Addr}{u:HO}(r:Rd H a u)(x:HOk P w H h):jx P w H h a u:=by
 rcases r with r | ⟨o,r⟩
 ·exact x a u r
 ·obtain⟨_,q⟩:=x a _ r;exact q
def Mut:gF HO->Prop
 | some (.lst _)=>True
 | some (.dK _)=>True
 | some (.dT _)=>True
 | some (.set _ _)=>True
 | some (.ins _ _ _)=>True
 | some (.ext _)=>True
 | _=>False
section
variable {P:Program}{w:World}{H:Hp}{h h':Heap}{x e:Addr}{o':HO}
theorem HOk.write (ok:HOk P w H h)(mu:Mut (H x))(he:e=x\/H e=My (.own x))(k:∀ b u,b≠e->h.get? b=My u->h'.get? b=My u)(heo:∃ u,h'.get? e=My u)
  (new:jx P w (upd H x o') h' x o'):HOk P w (upd H x o') h':=λ b u q=>by
 have nown:∀ c y,H c=My (.own y)->c≠x:=λ c y r z=>by subst z;rw[r]at mu;exact mu
 have ntup:∀ c xs,H c=My (.tup xs)->c≠x:=λ c xs r z=>by subst z;rw[r]at mu;exact mu
 by_cases hb:b=x
 ·subst hb;rw[gU]at q;cases q;exact new
 ·rw[g6 hb]at q
  by_cases hbe:b=e
  ·have q':H b=My (.own x):=by
    rcases he with z | z
    ·exact absurd (hbe.trans z) hb
    ·rw[hbe];exact z
   rw[q]at q';cases q';obtain⟨v,hv⟩:=heo;exact⟨v,by rw[hbe];exact hv⟩
  ·refine(ok b u q).wq (λ c v hc r=>k c v ?_ r) (λ c r=>by rw[g6 (nown c b r)];exact r) λ c xs r=>by rw[g6 (ntup c xs r)];exact r
   rcases hc with rfl | hc
   ·exact hbe
   ·rintro rfl
    rcases he with z | z
    ·exact nown c b hc z
    ·rw[hc]at z;cases z;exact hb rfl
end
structure Un (fs ex:List Addr)(H H':Hp)(h h':Heap):Prop where
 keep:∀ b o,h.get? b=My o->H b=SY->b∉fs->b∉ex->h'.get? b=My o
 slot:∀ b o,h.get? b=My o->H b=SY->b∈fs->b∉ex->∃ sl,h'.get? b=My {o with slots:=sl}
 free:∀ b o,h.get? b=My o->H b=SY->b∉ex->H' b=SY
 there:∀ b o,h.get? b=My o->b∉ex->∃ o',h'.get? b=My o'
 ql:∀ b xs,H b=My (.tup xs)->H' b=My (.tup xs)
 qm:∀ b o u,H b=My (.frz o u)->H' b=My (.frz o u)
 ux:∀ b ps,H b=My (.tbl ps)->∃ more,H' b=My (.tbl (ps++more))
section
variable {fs fs' ex ex':List Addr}{H H1 H2:Hp}{h h1 h2 h':Heap}{a x e:Addr}{o:HO}
theorem Un.any (u:Un fs ex H H1 h h1){b:Addr}{ob:Obj}(q:h.get? b=My ob)(n:H b=SY)(hx:b∉ex):∃ sl,h1.get? b=My {ob with slots:=sl}:=by
 by_cases hb:b∈fs
 ·exact u.slot b ob q n hb hx
 ·exact⟨ob.slots,u.keep b ob q n hb hx⟩
theorem Un.kept (k:∀ b u,h.get? b=My u->h'.get? b=My u):Un fs ex H H h h' :=
 ⟨λ b ob q _ _ _=>k b ob q,λ b ob q _ _ _=>⟨ob.slots,k b ob q⟩,λ _ _ _ n _=>n,λ b ob q _=>⟨ob,k b ob q⟩,λ _ _ q=>q,λ _ _ _ q=>q,λ _ ps q=>⟨#[],by rw[q];simp⟩⟩
theorem Un.refl:Un fs ex H H h h:=Un.kept λ _ _ q=>q
theorem Un.laid (k:∀ b u,h.get? b=My u->h'.get? b=My u)(hp:h.objs.size<=a)(hn:H a=SY):Un fs ex H (upd H a o) h h' where
 keep:=λ b u q _ _ _=>k b u q
 slot:=λ b u q _ _ _=>⟨u.slots,k b u q⟩
 free:=λ b u q n _=>by rw[g6 (aM (aJ (ar q) hp))];exact n
 there:=λ b u q _=>⟨u,k b u q⟩
 ql:=λ b xs q=>by rw[g6 (ir q hn)];exact q
 qm:=λ b u xs q=>by rw[g6 (ir q hn)];exact q
 ux:=λ b ps q=>⟨#[],by rw[g6 (ir q hn),q];simp⟩
theorem Un.write (mu:Mut (H x))(he:e=x\/H e=My (.own x))(k:∀ b u,b≠e->h.get? b=My u->h'.get? b=My u)(heo:∃ u,h'.get? e=My u):Un fs ex H (upd H x o) h h':=by
 have hx:∀ b,H b=SY->b≠x:=λ b n z=>by subst z;rw[n]at mu;exact mu
 have hb:∀ b,H b=SY->b≠e:=λ b n z=>by
  subst z;rcases he with r | r
  ·exact hx b n r
  ·rw[n]at r;cases r
 have hm:∀ b u,H b=My u->¬ Mut (My u)->b≠x:=λ b u q nm z=>by subst z;rw[q]at mu;exact nm mu
 refine⟨λ b u q n _ _=>k b u (hb b n) q,λ b u q n _ _=>⟨u.slots,k b u (hb b n) q⟩,λ b u q n _=>by rw[g6 (hx b n)];exact n,λ b u q _=>?_,
  λ b xs q=>by rw[g6 (hm b _ q λ z=>z)];exact q,λ b u xs q=>by rw[g6 (hm b _ q λ z=>z)];exact q,λ b ps q=>⟨#[],by rw[g6 (hm b _ q λ z=>z),q];simp⟩⟩
 by_cases hbe:b=e
 ·subst hbe;exact heo
 ·exact⟨u,k b u hbe q⟩
end
def trk (h:Heap)(H:Hp):List Addr:=(Tc h.objs.size).filter λ a=>(H a).isSome
def zV (h:Heap)(H:Hp):Heap:=PySem.W.hideAll h (trk h H)
theorem Fi (h:Heap)(H:Hp):(zV h H).objs.size=h.objs.size:=PySem.W.hideAll_size _ _
theorem Gy {h:Heap}{H:Hp}{b:Addr}{o:Obj}(e:h.get? b=My o)(n:H b=SY):(zV h H).get? b=My o :=
 PySem.W.hideAll_get _ e λ hm=>by have q:(H b).isSome=S_:=(aS.mp hm).2;rw[n]at q;simp at q
theorem Jt {h:Heap}{H:Hp}{b:Addr}{o:Obj}(e:(zV h H).get? b=My o):h.get? b=My o/\H b=SY:=by
 have e':h.get? b=My o:=PySem.W.of_hideAll (trk h H) e;refine⟨e',?_⟩;cases q:H b with
 | none=>rfl
 | some x =>have hm:b∈trk h H:=aS.mpr ⟨aC.mpr (ar e'),by simp[q]⟩;have z:(zV h H).get? b=SY:=PySem.W.hideAll_none (trk h H) hm;rw[z]at e;cases e
def lg (g h:Heap)(L:Addr):gL:=(Tc h.objs.size).filterMap λ a=>if a=L\/(g.get? a).isSome=S_ then SY else (h.get? a).map λ o=>(a,o)
theorem Bj {g h:Heap}{L a:Addr}{o:Obj}(h1:a≠L)(h2:g.get? a=SY)(h3:h.get? a=My o):(a,o)∈lg g h L :=
 cY.mpr ⟨a,aC.mpr (ar h3),by simp[h1,h2,h3]⟩
set_option tactic.hygienic true in
theorem jA {g h:Heap}{L:Addr}{p:Addr×Obj}(hp:p∈lg g h L):p.1≠L/\g.get? p.1=SY/\h.get? p.1=My p.2:=by
 obtain⟨b,_,e⟩:=cY.mp hp;split at e
 ·cases e
 ·rename_i hn
  cases q:h.get? b with
  | none=>rw[q]at e;simp at e
  | some u =>
   rw[q]at e;simp only[fC,Option.some.injEq]at e;subst e;refine⟨λ z=>hn (.inl z),?_,q⟩;show g.get? b=SY;cases r:g.get? b with
   | none=>rfl
   | some v=>exact(hn (.inr (by simp[r]))).elim
structure Mod (K:gG)(mg:gD)(base:Heap):Prop where
 kin:K.In base
 glob:base.Ns mainGlobals mg
 blt:∃ mb,base.Ns builtinsNs mb/\∀ x:Str,x≠"__name__"->mb x=bootBuiltins x
 nolimit:base.NoLimit
set_option genInjectivity false in
set_option genSizeOf false in
structure Cx where
 prog:Program
 w:World
 K:gG
 mg:Str->gF gH
 base:Heap
 A:Around
 N:List Str
 s₀:gJ
 H₀:Hp
 env:Env
 outer:List Env
 stack:List Env
 ex:List Addr
 fn:Str->Bool
 calm:Bool
 pn:gL
 xe:gH->gJ->Prop
def frs (l:List Env):List Addr:=l.filterMap (·.frame)
abbrev Cx.fs (X:Cx):List Addr:=frs X.outer
def Vis (sc:Scope)(x:Str):Prop:=sc.names.lookup x=My .local\/sc.names.lookup x=My .cell\/sc.names.lookup x=My .free
def Loc (sc:Scope)(x:Str):Prop:=sc.names.lookup x=My .local\/sc.names.lookup x=My .cell
def Look (env:Env)(h:Heap)(m:gD)(x:Str)(u:gH):Prop :=
 (env.kindOf x=My .local/\m x=My u)\/((env.kindOf x=My .cell\/env.kindOf x=My .free)/\∃ c,env.cells.lookup x=My c/\h.IsCell c (My u))
structure Cx.Ok (X:Cx):Prop where
 mod:Mod X.K X.mg X.base
 kind:X.env.scope.kind=.function
 glob:X.env.globals=mainGlobals
 blt:X.env.builtins=builtinsNs
 above:X.s₀.heap.objs.size<=X.env.locals
 inj:∀ x y c,X.env.cells.lookup x=My c->X.env.cells.lookup y=My c->x=y
 has:∀ x,(X.env.kindOf x=My .cell\/X.env.kindOf x=My .free)->∃ c,X.env.cells.lookup x=My c
 cab:∀ x c,X.fn x=S_->X.env.cells.lookup x=My c->X.s₀.heap.objs.size<=c
 hd:X.calm=S_->X.A.handled=SY
 frames:X.A.frames=My X.stack
 stk:X.stack=X.outer\/(X.stack=X.env::X.outer/\X.env.frame=My X.env.locals)
 exf:∀ b∈X.ex,b≠X.env.locals/\∀ x c,X.env.cells.lookup x=My c->c≠b
 bs:∀ b o,X.base.get? b=My o->X.s₀.heap.get? b=My o/\X.H₀ b=SY
 bsz:X.base.objs.size<=X.s₀.heap.objs.size
 CN:∀ b o,X.base.get? b=My o->b∉X.ex
 Gz:∀ b∈X.ex,b∉X.fs
 uy:X.s₀.heap.FunFrames X.base X.outer
 frf:∀ b∈X.fs,X.H₀ b=SY
structure Inv (X:Cx)(pins:gL)(σ:List (gF V))(H:Hp)(s:gJ):Prop where
 ok:X.Ok
 os:s.os=X.s₀.os
 bare:AllBare s.gens
 base:Un X.fs X.ex X.H₀ H X.s₀.heap s.heap
 loc:∃ m,s.heap.Ns X.env.locals m/\∀ (i:Nat) (x:Str) (v:V),X.N[i]?=My x->σ[i]?=My (My v)->Vis X.env.scope x->∃ u,RelV v u/\Look X.env s.heap m x u
 cell:∀ x c,X.env.cells.lookup x=My c->∃ v,s.heap.IsCell c v
 free:H X.env.locals=SY
 my:∀ x c,X.env.cells.lookup x=My c->H c=SY
 pin:∀ p∈X.pn++pins,s.heap.get? p.1=My p.2/\H p.1=SY/\p.1≠X.env.locals/\p.1∉X.fs/\∀ v,p.2.data≠.cell v
 hok:HOk X.prog X.w H s.heap
 len:σ.length=X.N.length
section
variable {X:Cx}{pins:gL}{σ:List (gF V)}{H H':Hp}{s:gJ}{h':Heap}
theorem Cx.Ok.Q0 (ok:X.Ok){b:Addr}{o:Obj}(e:X.base.get? b=My o):b∉X.fs:=λ hb=>by have:=(ok.uy.mem hb).1;rw[e]at this;cases this
theorem Inv.bs (I:Inv X pins σ H s):∀ b o,X.base.get? b=My o->s.heap.get? b=My o/\H b=SY:=λ b o e =>⟨I.base.keep b o (I.ok.bs b o e).1 (I.ok.bs b o e).2 (I.ok.Q0 e) (I.ok.CN b o e),I.base.free b o (I.ok.bs b o e).1 (I.ok.bs b o e).2 (I.ok.CN b o e)⟩
theorem Inv.bk (I:Inv X pins σ H s):∀ b o,X.base.get? b=My o->s.heap.get? b=My o:=λ b o e=>(I.bs b o e).1
theorem Inv.mod (I:Inv X pins σ H s):Mod X.K X.mg X.base:=I.ok.mod
theorem Inv.kIn (I:Inv X pins σ H s):X.K.In s.heap:=I.ok.mod.kin.keeps I.bk
theorem Inv.fr (I:Inv X pins σ H s):∃ m,Fr X.base X.env.locals s.heap m :=
 let ⟨m,hn,_⟩:=I.loc
 ⟨m,hn,I.bk,bC I.ok.bsz I.ok.above⟩
theorem Inv.lt (I:Inv X pins σ H s):X.env.locals<s.heap.objs.size:=let ⟨_,hn,_⟩:=I.loc;hn.lt
theorem Inv.sz (I:Inv X pins σ H s):X.s₀.heap.objs.size<=s.heap.objs.size:=bC I.ok.above (d_ I.lt)
theorem Inv.Q1 (I:Inv X pins σ H s){a:Addr}(h:s.heap.objs.size<=a):a∉X.fs:=λ hb=>by obtain⟨_,o,ho,_⟩:=I.ok.uy.mem hb;exact absurd (aJ (ar ho) (bC I.sz h)) (aW _)
theorem Inv.cne (I:Inv X pins σ H s):∀ x c,X.env.cells.lookup x=My c->c≠X.env.locals:=λ x c e z=>by obtain⟨v,o,ho,hd⟩:=I.cell x c e;obtain⟨m,⟨o',es,ep,ho',hd',_⟩,_⟩:=I.loc;rw[z,ho']at ho;cases ho;rw[hd']at hd;cases hd
theorem Inv.uy (I:Inv X pins σ H s):s.heap.FunFrames X.base X.outer:=by
 have all:∀ (l:List Env),(∀ b∈frs l,b∈X.fs)->X.s₀.heap.FunFrames X.base l->s.heap.FunFrames X.base l:=by
  intro l;induction l with
  | nil=>intro _ _;trivial
  | cons env r ih =>intro hs hl;obtain⟨hk,⟨L,o,hf,hn,ho,hd⟩,hr⟩:=hl;have hL:L∈X.fs:=hs L (by unfold frs;rw[bF,hf];exact av);obtain⟨sl,e⟩:=I.base.slot L o ho (I.ok.frf L hL) hL λ z=>I.ok.Gz L z hL;exact⟨hk,⟨L,_,hf,hn,e,hd⟩,ih (λ b hb=>hs b (by unfold frs;rw[bF,hf];exact ax _ hb)) hr⟩
 exact all X.outer (λ _ hb=>hb) I.ok.uy
theorem Inv.stack (I:Inv X pins σ H s):s.heap.FunFrames X.base X.stack:=by
 rcases I.ok.stk with e | ⟨e,hf⟩
 ·rw[e];exact I.uy
 ·rw[e];obtain⟨m,hn,_⟩:=I.loc;refine .cons (by rw[I.ok.kind];decide) hf hn ?_ I.uy;exact cu (bC I.ok.bsz I.ok.above)
theorem Inv.wu (I:Inv X pins σ H s):∀ b∈frs X.stack,b∈X.env.locals::X.fs:=λ b hb=>by
 rcases I.ok.stk with e | ⟨e,hf⟩
 ·rw[e]at hb;exact ax _ hb
 ·rw[e]at hb;unfold frs at hb;rw[bF,hf]at hb;exact hb
theorem Inv.sN (I:Inv X pins σ H s):∀ b∈frs X.stack,H b=SY:=λ b hb=>by
 rcases aB.mp (I.wu b hb) with e | hb
 ·rw[e];exact I.free
 ·obtain⟨_,o,ho,_⟩:=I.ok.uy.mem hb;exact I.base.free b o ho (I.ok.frf b hb) λ z=>I.ok.Gz b z hb
theorem Inv.step {g':Array GenState}{t':Nat}{d':Drawn}{ch:List Addr}(I:Inv X pins σ H s)
  (hch:∀ b∈ch,(b∈X.ex\/X.s₀.heap.objs.size<=b)/\b≠X.env.locals/\(∀ x c,X.env.cells.lookup x=My c->c≠b)/\∀ p∈X.pn++pins,p.1≠b)
  (keep:∀ b o,b≠X.env.locals->b∉X.fs->b∉ch->s.heap.get? b=My o->H b=SY->h'.get? b=My o)
  (slot:∀ b o,b≠X.env.locals->b∈X.fs->b∉ch->s.heap.get? b=My o->H b=SY->∃ sl,h'.get? b=My {o with slots:=sl}) (free:∀ b o,b∉ch->s.heap.get? b=My o->H b=SY->H' b=SY)
  (there:∀ b o,b∉ch->s.heap.get? b=My o->∃ o',h'.get? b=My o')
  (ql:∀ b xs,H b=My (.tup xs)->H' b=My (.tup xs)) (qm:∀ b o u,H b=My (.frz o u)->H' b=My (.frz o u)) (ux:∀ b ps,H b=My (.tbl ps)->∃ more,H' b=My (.tbl (ps++more)))
  (ns:∀ m,s.heap.Ns X.env.locals m->h'.Ns X.env.locals m) (hok:HOk X.prog X.w H' h') (hg:AllBare g') :
  Inv X pins σ H' {s with heap:=h',gens:=g',drawn:=d',toks:=t'}:=by
 have neL:∀ b o,X.s₀.heap.get? b=My o->b≠X.env.locals:=λ b o e=>aM (aJ (ar e) I.ok.above);have neC:∀ b o,X.s₀.heap.get? b=My o->b∉X.ex->b∉ch:=λ b o e hx hb=>by
  rcases (hch b hb).1 with z | z
  ·exact hx z
  ·exact absurd (aJ (ar e) z) (aW _)
 have cellK:∀ x c,X.env.cells.lookup x=My c->∀ v,s.heap.IsCell c v->h'.IsCell c v:=λ x c e v ⟨o,ho,hd⟩=>by
  have nch:c∉ch:=λ z=>(hch c z).2.2.1 x c e rfl;by_cases hc:c∈X.fs
  ·obtain⟨sl,q⟩:=slot c o (I.cne x c e) hc nch ho (I.my x c e);exact⟨_,q,hd⟩
  ·exact⟨o,keep c o (I.cne x c e) hc nch ho (I.my x c e),hd⟩
 refine⟨I.ok,I.os,hg,⟨λ b o e n hb hx=>?_,λ b o e n hb hx=>?_,λ b o e n hx=>?_,λ b o e hx=>?_,λ b xs e=>ql b xs (I.base.ql b xs e),λ b o xs e=>qm b o xs (I.base.qm b o xs e),λ b ps e=>?_⟩,?_,λ x c e=>?_,?_,λ x c e=>?_,λ p hp=>?_,hok,I.len⟩
 ·exact keep b o (neL b o e) hb (neC b o e hx) (I.base.keep b o e n hb hx) (I.base.free b o e n hx)
 ·obtain⟨sl,e1⟩:=I.base.slot b o e n hb hx;obtain⟨sl',e2⟩:=slot b _ (neL b o e) hb (neC b o e hx) e1 (I.base.free b o e n hx);exact⟨sl',e2⟩
 ·obtain⟨o',e1⟩:=I.base.there b o e hx;exact free b o' (neC b o e hx) e1 (I.base.free b o e n hx)
 ·obtain⟨o',e1⟩:=I.base.there b o e hx;exact there b o' (neC b o e hx) e1
 ·obtain⟨m1,e1⟩:=I.base.ux b ps e;obtain⟨m2,e2⟩:=ux b _ e1;exact⟨m1++m2,by rw[e2,Array.append_assoc]⟩
 ·obtain⟨m,hn,hl⟩:=I.loc
  refine⟨m,ns m hn,λ i x v e1 e2 e3=>?_⟩;obtain⟨u,r,l⟩:=hl i x v e1 e2 e3;refine⟨u,r,?_⟩;rcases l with l | ⟨k,c,e,z⟩
  ·exact .inl l
  ·exact .inr ⟨k,c,e,cellK x c e _ z⟩
 ·obtain⟨v,z⟩:=I.cell x c e;exact⟨v,cellK x c e v z⟩
 ·obtain⟨m,⟨o,_,_,ho,_⟩,_⟩:=I.loc;exact free _ o (λ z=>(hch _ z).2.1 rfl) ho I.free
 ·obtain⟨v,o,ho,hd⟩:=I.cell x c e;exact free c o (λ z=>(hch c z).2.2.1 x c e rfl) ho (I.my x c e)
 ·obtain⟨e,n,ne,nf,d⟩:=I.pin p hp;have nch:p.1∉ch:=λ z=>(hch p.1 z).2.2.2 p hp rfl;exact⟨keep p.1 p.2 ne nf nch e n,free p.1 p.2 nch e n,ne,nf,d⟩
theorem Inv.un {t':Nat}(I:Inv X pins σ H s)(u:Un X.fs [] H H' s.heap h')(hok:HOk X.prog X.w H' h'):Inv X pins σ H' {s with heap:=h',toks:=t'}:=by obtain⟨m,⟨o,es,ep,ho,r⟩,_⟩:=id I.loc;obtain⟨sl,hL⟩:=u.any ho I.free (by simp);exact I.step (g':=s.gens) (d':=s.drawn) (ch:=[]) (λ _ z=>nomatch z) (λ b o _ hb _ e n=>u.keep b o e n hb (by simp)) (λ b o _ hb _ e n=>u.slot b o e n hb (by simp)) (λ b o _ e n=>u.free b o e n (by simp)) (λ b o _ e=>u.there b o e (by simp)) u.ql u.qm u.ux (λ m' hm=>by obtain⟨o',es',ep',ho',r'⟩:=hm;rw[ho]at ho';cases ho';exact⟨_,es',ep',hL,r'⟩) hok I.bare
theorem Inv.call {g':Array GenState}{t':Nat}{d':Drawn}{ch:List Addr}(I:Inv X pins σ H s)(u:Un (frs X.stack) ch H H' s.heap h')(hok:HOk X.prog X.w H' h')(hg:AllBare g')
  (hch:∀ b∈ch,(b∈X.ex\/X.s₀.heap.objs.size<=b)/\b≠X.env.locals/\(∀ x c,X.env.cells.lookup x=My c->c≠b)/\∀ p∈X.pn++pins,p.1≠b) :
  Inv X pins σ H' {s with heap:=h',gens:=g',drawn:=d',toks:=t'}:=by
 obtain⟨m,⟨o,es,ep,ho,r⟩,_⟩:=id I.loc;obtain⟨sl,hL⟩:=u.any ho I.free λ z=>(hch _ z).2.1 rfl;exact I.step (ch:=ch) hch (λ b o hL hb hc e n=>u.keep b o e n (λ z=>(aB.mp (I.wu b z)).elim hL hb) hc) (λ b o _ _ hc e n=>u.any e n hc) (λ b o hc e n=>u.free b o e n hc) (λ b o hc e=>u.there b o e hc) u.ql u.qm u.ux (λ m' hm=>by obtain⟨o',es',ep',ho',r'⟩:=hm;rw[ho]at ho';cases ho';exact⟨_,es',ep',hL,r'⟩) hok hg
theorem Inv.turned {t':Nat}{it:Addr}(I:Inv X pins σ H s)(k:∀ b o,b≠it->s.heap.get? b=My o->h'.get? b=My o)(hn:H it=SY)(hL:it≠X.env.locals)
  (h1:it∈X.ex\/X.s₀.heap.objs.size<=it) (h2:∀ x c,X.env.cells.lookup x=My c->c≠it) (h3:∀ p∈X.pn++pins,p.1≠it):Inv X pins σ H {s with heap:=h',toks:=t'}:=by
 have nit:∀ b u,H b=My u->b≠it:=λ b u e z=>by rw[z,hn]at e;cases e
 refine I.step (g':=s.gens) (d':=s.drawn) (ch:=[it]) (λ b hb=>?_) (λ b o _ _ hc e _=>k b o (λ z=>hc (by simp[z])) e) (λ b o _ _ hc e _=>⟨o.slots,k b o (λ z=>hc (by simp[z])) e⟩) (λ _ _ _ _ n=>n)
  (λ b o hc e=>⟨o,k b o (λ z=>hc (by simp[z])) e⟩) (λ _ _ e=>e) (λ _ _ _ e=>e) (λ b ps e=>⟨#[],by rw[e];simp⟩) (λ m hm=>?_) (λ b u e=>?_) I.bare
 ·have e:b=it:=by simpa using hb
  subst e;exact⟨h1,hL,h2,h3⟩
 ·obtain⟨o,es,ep,ho,r⟩:=hm;exact⟨o,es,ep,k _ o (bu hL) ho,r⟩
 ·refine(I.hok b u e).wq (λ c v hc q=>k c v ?_ q) (λ _ q=>q) λ _ _ q=>q
  rcases hc with z | z
  ·rw[z];exact nit b u e
  ·exact nit c _ z
theorem Inv.tok (I:Inv X pins σ H s)(t:Nat):Inv X pins σ H {s with toks:=t}:=I.un (h':=s.heap) (t':=t) Un.refl I.hok
theorem Inv.kept {t':Nat}(I:Inv X pins σ H s)(k:∀ b u,s.heap.get? b=My u->h'.get? b=My u):Inv X pins σ H {s with heap:=h',toks:=t'}:=I.un (Un.kept k) (I.hok.kept k)
theorem Inv.laid {a:Addr}{o:HO}{t':Nat}(I:Inv X pins σ H s)(k:∀ b u,s.heap.get? b=My u->h'.get? b=My u)(hp:s.heap.objs.size<=a)(new:jx X.prog X.w (upd H a o) h' a o) :
  Inv X pins σ (upd H a o) {s with heap:=h',toks:=t'}:=I.un (Un.laid k hp (I.hok.fresh hp)) (I.hok.laid k hp new)
theorem Inv.write {x e:Addr}{o:HO}{t':Nat}(I:Inv X pins σ H s)(mu:Mut (H x))(he:e=x\/H e=My (.own x))(k:∀ b u,b≠e->s.heap.get? b=My u->h'.get? b=My u)(heo:∃ u,h'.get? e=My u)
  (new:jx X.prog X.w (upd H x o) h' x o):Inv X pins σ (upd H x o) {s with heap:=h',toks:=t'}:=I.un (Un.write mu he k heo) (I.hok.write mu he k heo new)
theorem Inv.weak {σ':List (gF V)}(I:Inv X pins σ H s)(hl:σ'.length=σ.length)(w:∀ (i:Nat) v,σ'[i]?=My (My v)->σ[i]?=My (My v)):Inv X pins σ' H s :=
 ⟨I.ok,I.os,I.bare,I.base,let ⟨m,hn,hl'⟩:=I.loc;⟨m,hn,λ i x v e1 e2 e3=>hl' i x v e1 (w i v e2) e3⟩,I.cell,I.free,I.my,I.pin,I.hok,hl.trans I.len⟩
theorem Inv.vV {pins':gL}(I:Inv X pins σ H s)(h:∀ p∈pins',s.heap.get? p.1=My p.2/\H p.1=SY/\p.1≠X.env.locals/\p.1∉X.fs/\∀ v,p.2.data≠.cell v):Inv X pins' σ H s :=
 ⟨I.ok,I.os,I.bare,I.base,I.loc,I.cell,I.free,I.my,λ p hp=>(bh.mp hp).elim (λ z=>I.pin p (bf _ z)) (h p),I.hok,I.len⟩
theorem wx {N:List Str}(hN:N.Nodup){i j:Nat}{x:Str}(a:N[i]?=My x)(b:N[j]?=My x):i=j:=by obtain⟨h1,e1⟩:=aQ.mp a;obtain⟨h2,e2⟩:=aQ.mp b;exact(List.getElem_inj hN).mp (e1.trans e2.symm)
theorem y_ {M:Model}{A:Around}{E:gE}{i:Nat}{x:Str}{v:V}{u:gH}{Q:Unit->gJ->Prop}(I:Inv X pins σ H s)(hN:X.N.Nodup)(hi:X.N[i]?=My x)(hx:Loc X.env.scope x)(r:RelV v u)
  (h:∀ s',Inv X pins (σ.set i (My v)) H s'->(∃ a,Heap.SameBut a s.heap s'.heap/\(a=X.env.locals\/X.env.cells.lookup x=My a))->Q () s') (hf:X.fn x=S_\/X.env.scope.names.lookup x=My .local):wpAny M A (storeName X.env x u) Q E s:=by
 obtain⟨m,hn,hl⟩:=id I.loc;have hcls:(X.env.scope.kind==.class || (X.env.scope.kind==.module&&X.env.locals != X.env.globals))=Ta:=by rw[I.ok.kind];rfl
 have hiσ:i<σ.length:=by rw[I.len];exact(aQ.mp hi).1
 have cne:=I.cne;have tracked:∀ {a:Addr} {h':Heap},(∃ o,s.heap.get? a=My o/\H a=SY)->Heap.SameBut a s.heap h'->HOk X.prog X.w H h':=λ{a h'} ha hs b ob e=>by
  obtain⟨_,_,hfree⟩:=ha;refine(I.hok b ob e).wq (λ c w' hc q=>(hs.2 c ?_).trans q) (λ _ q=>q) λ _ _ q=>q;rintro rfl;rcases hc with rfl | hc
  ·rw[hfree]at e;cases e
  ·rw[hfree]at hc;cases hc
 rcases hx with hk | hk
 ·refine wpAny_storeName_local hk hn (λ h' hn' hs=>?_) hcls
  obtain⟨oL,_,_,hoL,_⟩:=id hn;refine h _ ⟨I.ok,I.os,I.bare,⟨λ b o e n hb hx=>?_,λ b o e n hb hx=>?_,I.base.free,λ b o e hx=>?_,I.base.ql,I.base.qm,I.base.ux⟩,⟨_,hn',λ j y v' e1 e2 e3=>?_⟩,λ y c e=>?_,I.free,I.my,λ p hp=>?_,tracked ⟨oL,hoL,I.free⟩ hs,by simpa using I.len⟩ ⟨_,hs,.inl rfl⟩
  ·exact(hs.2 b (aM (aJ (ar e) I.ok.above))).trans (I.base.keep b o e n hb hx)
  ·obtain⟨sl,e1⟩:=I.base.slot b o e n hb hx;exact⟨sl,(hs.2 b (aM (aJ (ar e) I.ok.above))).trans e1⟩
  ·obtain⟨o',e1⟩:=I.base.there b o e hx;exact⟨o',(hs.2 b (aM (aJ (ar e) I.ok.above))).trans e1⟩
  ·by_cases hj:j=i
   ·subst hj;rw[hi]at e1;cases e1;rw[cg hiσ]at e2;cases e2;exact⟨u,r,.inl ⟨hk,by simp⟩⟩
   ·rw[cf (bu hj)]at e2
    obtain⟨u',r',q⟩:=hl j y v' e1 e2 e3;refine⟨u',r',?_⟩;rcases q with⟨k,e⟩ | ⟨k,c,e,z⟩
    ·refine .inl ⟨k,?_⟩;have:y≠x:=λ e=>hj (wx hN e1 (e▸hi));simp[this,e]
    ·exact .inr ⟨k,c,e,z.sameBut hs (cne y c e)⟩
  ·obtain⟨w',z⟩:=I.cell y c e;exact⟨w',z.sameBut hs (cne y c e)⟩
  ·obtain⟨e,n,ne,nf,d⟩:=I.pin p hp;exact⟨(hs.2 p.1 ne).trans e,n,ne,nf,d⟩
 ·have hfn:X.fn x=S_:=by
   rcases hf with z | z
   ·exact z
   ·rw[z]at hk;cases hk
  obtain⟨c,hc⟩:=I.ok.has x (.inl hk);obtain⟨w',z⟩:=I.cell x c hc;refine wpAny_storeName_cell I.ok.kind hk hc z (λ h' hc' hs=>?_);obtain⟨oc,hoc,hocd⟩:=id z;refine h {s with heap:=h'} ⟨I.ok,I.os,I.bare,⟨λ b o e n hb hx=>?_,λ b o e n hb hx=>?_,I.base.free,λ b o e hx=>?_,I.base.ql,I.base.qm,I.base.ux⟩,⟨m,hn.sameBut hs (bu (cne x c hc)),λ j y v' e1 e2 e3=>?_⟩,λ y c' e=>?_,I.free,I.my,λ p hp=>?_,tracked ⟨oc,hoc,I.my x c hc⟩ hs,by simpa using I.len⟩ ⟨c,hs,.inr hc⟩
  ·exact(hs.2 b (aM (aJ (ar e) (I.ok.cab x c hfn hc)))).trans (I.base.keep b o e n hb hx)
  ·obtain⟨sl,e1⟩:=I.base.slot b o e n hb hx;exact⟨sl,(hs.2 b (aM (aJ (ar e) (I.ok.cab x c hfn hc)))).trans e1⟩
  ·obtain⟨o',e1⟩:=I.base.there b o e hx;exact⟨o',(hs.2 b (aM (aJ (ar e) (I.ok.cab x c hfn hc)))).trans e1⟩
  ·by_cases hj:j=i
   ·subst hj;rw[hi]at e1;cases e1;rw[cg hiσ]at e2;cases e2;exact⟨u,r,.inr ⟨.inl hk,c,hc,hc'⟩⟩
   ·rw[cf (bu hj)]at e2
    obtain⟨u',r',q⟩:=hl j y v' e1 e2 e3;refine⟨u',r',?_⟩;rcases q with q | ⟨k,c',e,z'⟩
    ·exact .inl q
    ·refine .inr ⟨k,c',e,z'.sameBut hs ?_⟩;rintro rfl;exact hj (wx hN e1 (I.ok.inj _ _ _ e hc▸hi))
  ·by_cases hcc:c'=c
   ·subst hcc;exact⟨_,hc'⟩
   ·obtain⟨w2,z2⟩:=I.cell y c' e;exact⟨w2,z2.sameBut hs hcc⟩
  ·obtain⟨e,n,ne,nf,d⟩:=I.pin p hp;refine⟨(hs.2 p.1 ?_).trans e,n,ne,nf,d⟩;intro q;rw[q,hoc]at e;have q':oc=p.2:=ao e;exact d w' (by rw[<-q'];exact hocd)
theorem sO {M:Model}{A:Around}{E:gE}{i:Nat}{x:Str}{v:V}{u:gH}{Q:Unit->gJ->Prop}(I:Inv X pins σ H s)(hN:X.N.Nodup)(hi:X.N[i]?=My x)(hx:Loc X.env.scope x)(r:RelV v u)
  (h:∀ s',Inv X pins (σ.set i (My v)) H s'->Q () s') (hf:X.fn x=S_\/X.env.scope.names.lookup x=My .local:=by trivial):wpAny M A (storeName X.env x u) Q E s :=
 y_ I hN hi hx r (λ s' I' _=>h s' I') hf
theorem Inv.OQ {s':gJ}{ch:List Addr}(I:Inv X pins σ H s)(ho:s'.os=s.os)(u:Un (frs X.stack) ch H H' s.heap s'.heap)(hok:HOk X.prog X.w H' s'.heap)(hg:AllBare s'.gens)
  (hch:∀ b∈ch,(b∈X.ex\/X.s₀.heap.objs.size<=b)/\b≠X.env.locals/\(∀ x c,X.env.cells.lookup x=My c->c≠b)/\∀ p∈X.pn++pins,p.1≠b):Inv X pins σ H' s':=by
 obtain⟨h',g',d',t',o'⟩:=s';have e:o'=s.os:=ho;subst e;exact I.call (g':=g') (t':=t') (d':=d') u hok hg hch
end
abbrev XK:=gH->gF Addr->Hp->Prop
abbrev St:=List (gF V)
abbrev VK:=V->Hp->Prop
abbrev TE:=St->Hp->VK->Prop
abbrev TT:=St->Hp->(Bool->Hp->Prop)->Prop
abbrev TA:=St->Hp->(List V->Hp->Prop)->Prop
set_option genInjectivity false in
set_option genSizeOf false in
structure Ends where
 nx:St->Hp->Prop
 rt:VK
 bk:St->Hp->Prop:=λ _ _=>False
 ct:St->Hp->Prop:=λ _ _=>False
abbrev TS:=Ends->St->Hp->Prop
def EP (X:Cx)(pins:gL)(σ:St)(Q:VK)(u:gH)(s':gJ):Prop:=∃ v H',Inv X pins σ H' s'/\RelV v u/\Q v H'
def TP (X:Cx)(pins:gL)(σ:St)(Q:Bool->Hp->Prop)(b:Bool)(s':gJ):Prop:=∃ H',Inv X pins σ H' s'/\Q b H'
def AP (X:Cx)(pins:gL)(σ:St)(Q:List V->Hp->Prop)(us:List gH)(s':gJ):Prop:=∃ vs H',Inv X pins σ H' s'/\Vals vs us/\Q vs H'
def SP (X:Cx)(pins:gL)(D:Ends)(f:Flow)(s':gJ):Prop :=
 match f with
 | .next=>∃ σ' H',Inv X pins σ' H' s'/\D.nx σ' H'
 | .brk=>∃ σ' H',Inv X pins σ' H' s'/\D.bk σ' H'
 | .cont=>∃ σ' H',Inv X pins σ' H' s'/\D.ct σ' H'
 | .ret u=>∃ v σ' H',Inv X pins σ' H' s'/\RelV v u/\D.rt v H'
def PE (X:Cx)(e:Expr)(t:TE):Prop :=
 ∀ (pins:gL) (s:gJ) (σ:St) (H:Hp) (Q:VK),Inv X pins σ H s->t σ H Q->wpAny (model X.prog X.w) X.A (eval e X.env) (EP X pins σ Q) X.xe s
def PT (X:Cx)(e:Expr)(t:TT):Prop :=
 ∀ (pins:gL) (s:gJ) (σ:St) (H:Hp) (Q:Bool->Hp->Prop),Inv X pins σ H s->t σ H Q->wpAny (model X.prog X.w) X.A (isTrue e X.env (eval e X.env)) (TP X pins σ Q) X.xe s
def PW (X:Cx)(e:Expr)(t:TT):Prop :=
 ∀ (whole:Sem gH) (pins:gL) (s:gJ) (σ:St) (H:Hp) (Q:Bool->Hp->Prop),Inv X pins σ H s->t σ H Q->wpAny (model X.prog X.w) X.A (isTrue e X.env whole) (TP X pins σ Q) X.xe s
theorem PW.pt {X:Cx}{e:Expr}{t:TT}(h:PW X e t):PT X e t:=h _
def PA (X:Cx)(es:List Expr)(t:TA):Prop :=
 ∀ (pos:Pos) (pins:gL) (s:gJ) (σ:St) (H:Hp) (Q:List V->Hp->Prop),Inv X pins σ H s->t σ H Q->wpAny (model X.prog X.w) X.A (spliced (backTo pos (starEach es X.env))) (AP X pins σ Q) X.xe s
def PS (X:Cx)(st:Stmt)(t:TS):Prop :=
 ∀ (pins:gL) (s:gJ) (σ:St) (H:Hp) (D:Ends),Inv X pins σ H s->t D σ H->wpAny (model X.prog X.w) X.A (exec st X.env) (SP X pins D) X.xe s
def PSs (X:Cx)(st:List Stmt)(t:TS):Prop :=
 ∀ (pins:gL) (s:gJ) (σ:St) (H:Hp) (D:Ends),Inv X pins σ H s->t D σ H->wpAny (model X.prog X.w) X.A (execs st X.env) (SP X pins D) X.xe s
theorem thn {α:Type}{t:Sem α}{Q Q':α->gJ->Prop}{M:Model}{A:Around}{E:gE}{s:gJ}(h:wpAny M A t Q E s)(hQ:∀ a s,Q a s->Q' a s):wpAny M A t Q' E s:=cZ h hQ λ _ _ x=>x
section
variable {X:Cx}
theorem bin {a b:Expr}{ta tb:TE}(ha:PE X a ta)(hb:PE X b tb){pins:gL}{s:gJ}{σ:St}{H:Hp}{R:V->V->Hp->Prop}(I:Inv X pins σ H s)(h:ta σ H λ x H1=>tb σ H1 λ y H2=>R x y H2)
  {α:Type} {Q:α->gJ->Prop} {f:gH->gH->Sem α}
  (hf:∀ v u s2 x y H2,Inv X pins σ H2 s2->RelV x v->RelV y u->R x y H2->wpAny (model X.prog X.w) X.A (f v u) Q X.xe s2) :
  wpAny (model X.prog X.w) X.A (eval a X.env) (λ v s₁=>wpAny (model X.prog X.w) X.A (eval b X.env) (λ u s₂=>wpAny (model X.prog X.w) X.A (f v u) Q X.xe s₂) X.xe s₁) X.xe s:=by
 refine thn (ha pins s σ H _ I h) λ v s1 ⟨x,H1,I1,r1,q1⟩=>?_;refine thn (hb pins s1 σ H1 _ I1 q1) λ u s2 ⟨y,H2,I2,r2,q2⟩=>?_;exact hf v u s2 x y H2 I2 r1 r2 q2
def hX (i:Nat):TE:=λ σ H Q=>∃ v,σ[i]?=My (My v)/\Q v H
def tC (v:V):TE:=λ _ H Q=>Q v H
theorem GA {i:Nat}{x:Str}{pos:Pos}(hN:X.N[i]?=My x)(hv:Vis X.env.scope x)(hd:(x==("__debug__":Str))=Ta:=by decide)(hcd:(x==("__classdict__":Str))=Ta:=by decide):PE X (.Name x pos) (hX i):=by
 intro pins s σ H Q I h;obtain⟨v,e,h⟩:=h;obtain⟨m,hn,hl⟩:=I.loc;obtain⟨u,r,l⟩:=hl i x v hN e hv;have fin:EP X pins σ Q u s:=⟨v,H,I,r,h⟩;rcases l with⟨hk,hm⟩ | ⟨hk,c,hc,hcell⟩
 ·exact wpAny_Name (wpAny_loadName_local I.ok.kind hk hn hm fin) hd
 ·rcases hk with hk | hk
  ·exact wpAny_Name (wpAny_loadName_cell I.ok.kind hk hc hcell fin) hd
  ·exact wpAny_Name (wpAny_loadName_free I.ok.kind hk hc hcell fin hcd) hd
theorem hJ {i j pos}:PE X (.Constant (.int i) j pos) (tC (.int i)):=λ _ _ _ H _ I h=>wpAny_Constant_int ⟨.int i,H,I.tok _,⟨_,rfl⟩,h⟩
theorem Bk {b j pos}:PE X (.Constant (.bool b) j pos) (tC (.bl b)):=λ _ _ _ H _ I h=>Constant_bool ⟨.bl b,H,I,rfl,h⟩
theorem zW {j pos}:PE X (.Constant .none j pos) (tC .non):=λ _ _ _ H _ I h=>Constant_none ⟨.non,H,I,rfl,h⟩
theorem CO {x j pos}:PE X (.Constant (.str x) j pos) (tC (.str x)):=λ _ _ _ H _ I h=>Calls.Constant_str ⟨.str x,H,I.tok _,⟨_,rfl⟩,h⟩
def Gl (X:Cx)(x:Str):Prop:=X.env.kindOf x=My .globalImplicit
theorem sP {E:gE}{pins:gL}{s:gJ}{σ:St}{H:Hp}{x:Str}{u:gH}{pos:Pos}{Q:gE}(I:Inv X pins σ H s)(hg:Gl X x)(hm:X.mg x=My u)(h:Q u s)
  (hd:(x==("__debug__":Str))=Ta:=by decide):wpAny (model X.prog X.w) X.A (eval (.Name x pos) X.env) Q E s :=
 Calls.Name_function_global I.ok.kind hg (Calls.loadGlobal_global (by rw[I.ok.glob];exact I.mod.glob.keeps I.bk) hm h) hd
theorem uz {E:gE}{pins:gL}{s:gJ}{σ:St}{H:Hp}{x:Str}{u:gH}{pos:Pos}{Q:gE}(I:Inv X pins σ H s)(hg:Gl X x)(hm:X.mg x=SY)(hv:bootBuiltins x=My u)(h:Q u s)
  (hn:x≠"__name__":=by decide) (hd:(x==("__debug__":Str))=Ta:=by decide):wpAny (model X.prog X.w) X.A (eval (.Name x pos) X.env) Q E s:=by
 obtain⟨mb,h1,h2⟩:=I.mod.blt;exact Calls.Name_function_global I.ok.kind hg (Calls.loadGlobal_builtin (by rw[I.ok.glob];exact I.mod.glob.keeps I.bk) hm (by rw[I.ok.blt];exact h1.keeps I.bk) ((h2 x hn).trans hv) h) hd
theorem D3 {x:Str}{v:V}{u:gH}{pos:Pos}(hg:Gl X x)(hm:X.mg x=My u)(r:RelV v u)(hd:(x==("__debug__":Str))=Ta:=by decide):PE X (.Name x pos) (tC v) :=
 λ _ _ _ H _ I h=>sP I hg hm ⟨v,H,I,r,h⟩ hd
theorem D4 {x:Str}{v:V}{u:gH}{pos:Pos}(hg:Gl X x)(hm:X.mg x=SY)(hv:bootBuiltins x=My u)(r:RelV v u)(hn:x≠"__name__":=by decide)(hd:(x==("__debug__":Str))=Ta:=by decide):PE X (.Name x pos) (tC v) :=
 λ _ _ _ H _ I h=>uz I hg hm hv ⟨v,H,I,r,h⟩ hn hd
variable {a b:Expr}{ta tb:TE}{pos:Pos}
def PC (X:Cx)(op:CmpOp)(a b:Expr)(t:TE):Prop :=
 ∀ (pins:gL) (s:gJ) (σ:St) (H:Hp) (Q:VK),Inv X pins σ H s->t σ H Q ->
  wpAny (model X.prog X.w) X.A (eval a X.env) (λ v s₁=>wpAny (model X.prog X.w) X.A (eval b X.env) (λ u s₂=>wpAny (model X.prog X.w) X.A (compareOp op v u) (EP X pins σ Q) X.xe s₂) X.xe s₁) X.xe s
def tB (t:TE):TT:=λ σ H Q=>t σ H λ x H1=>∃ c,x=.bl c/\Q c H1
theorem Mq {op:CmpOp}{t:TE}(h:PC X op a b t)(h1:behindInMarks op b=Ta):PT X (.Compare a [op] [b] pos) (tB t):=by intro pins s σ H Q I hw;refine wpAny_isTrue_Compare1 (thn (h pins s σ H _ I hw) λ v s1 h1=>thn h1 λ u s2 h2=>thn h2 λ c s3 ⟨x,H1,I1,r1,q1⟩=>?_) h1;obtain⟨d,rfl,q⟩:=q1;cases r1;exact bU ⟨H1,I1,q⟩
theorem Mr {e:Expr}{t:TE}(h:PE X e t)(he:∀ whole,isTrue e X.env whole=(do let v<-whole;standAt e.pos;holding [v] (truthy v)):=by intro _;rfl):PT X e (tB t):=by intro pins s σ H Q I hw;refine isTrue_plain (thn (h pins s σ H _ I hw) λ v s1 ⟨x,H1,I1,r1,q1⟩=>?_) (he _);obtain⟨d,rfl,q⟩:=q1;cases r1;exact bU ⟨H1,I1,q⟩
variable {tA tB':TT}{rest:List Expr}
def tOr (t u:TT):TT:=λ σ H Q=>t σ H λ c H1=>if c=S_ then Q S_ H1 else u σ H1 Q
def Q2 (t:TT):TT:=λ σ H Q=>t σ H λ c H1=>Q (!c) H1
theorem GB (ha:PT X a tA):PW X (.BoolOp .Or [a] pos) tA:=by
 intro wh pins s σ H Q I h;refine isTrue_or (thn (ha pins s σ H Q I h) λ c s1 e=>?_);cases c with
 | false=>exact isTrue_or_nil e
 | true=>exact e
theorem Lz (ha:PT X a tA)(hb:PW X (.BoolOp .Or (b::rest) pos) tB'):PW X (.BoolOp .Or (a::b::rest) pos) (tOr tA tB'):=by
 intro wh pins s σ H Q I h;refine isTrue_or (thn (ha pins s σ H _ I h) λ c s1 ⟨H1,I1,q1⟩=>?_);cases c with
 | true=>exact⟨H1,I1,q1⟩
 | false=>exact hb wh pins s1 σ H1 Q I1 q1
theorem CP (ha:PT X a tA):PT X (.UnaryOp .Not a pos) (Q2 tA):=by intro pins s σ H Q I h;exact isTrue_not (ha pins s σ H (λ c H1=>Q (!c) H1) I h)
def OR (ta tb:TE):TE:=λ σ H Q=>ta σ H λ x H1=>∃ c,x=.bl c/\if c=S_ then tb σ H1 Q else Q (.bl Ta) H1
def OS (ta:TE):TE:=λ σ H Q=>ta σ H λ x H1=>∃ c,x=.bl c/\Q (.bl (!c)) H1
theorem Ms {op}{t:TE}(h:PE X a t):PE X (.BoolOp op [a] pos) t:=λ pins s σ H Q I hw=>BoolOp_one (h pins s σ H Q I hw)
theorem Mt (ha:PE X a ta)(hb:PE X (.BoolOp .And (b::rest) pos) tb):PE X (.BoolOp .And (a::b::rest) pos) (OR ta tb):=by
 intro pins s σ H Q I h;refine BoolOp_and (thn (ha pins s σ H _ I h) λ v s1 ⟨x,H1,I1,r1,q1⟩=>?_);obtain⟨c,rfl,q1⟩:=q1;cases r1;refine bU ?_;cases c with
 | true=>exact hb pins s1 σ H1 Q I1 q1
 | false=>exact⟨.bl Ta,H1,I1,rfl,q1⟩
theorem Mu (ha:PE X a ta):PE X (.UnaryOp .Not a pos) (OS ta):=by intro pins s σ H Q I h;refine UnaryOp_ (thn (ha pins s σ H _ I h) λ v s1 ⟨x,H1,I1,r1,q1⟩=>?_);obtain⟨c,rfl,q1⟩:=q1;cases r1;exact not_of (bU ⟨.bl (!c),H1,I1,rfl,q1⟩)
def tIf (t:TT)(ta tb:TE):TE:=λ σ H Q=>t σ H λ c H1=>if c=S_ then ta σ H1 Q else tb σ H1 Q
theorem Bl {c:Expr}(hc:PT X c tA)(ha:PE X a ta)(hb:PE X b tb):PE X (.IfExp c a b pos) (tIf tA ta tb):=by
 intro pins s σ H Q I h;refine wpAny_IfExp (thn (hc pins s σ H _ I h) λ d s1 ⟨H1,I1,q1⟩=>?_);cases d with
 | true=>exact ha pins s1 σ H1 Q I1 q1
 | false=>exact hb pins s1 σ H1 Q I1 q1
end
def SqL (K:gG)(H:Hp)(a:Addr)(xs:List V):Prop :=
 Rd H a (.lst xs) \/
  ∃ (o:Obj) (its:Array gH) (n:Nat),K.lookup a=My o/\o.cls=.type "list"/\o.dict=SY/\o.data=.seq its n/\its.size<=sizeLine/\Vals xs its.toList
def SqT (K:gG)(H:Hp)(a:Addr)(xs:List V):Prop :=
 Rd H a (.tup xs) \/
  ∃ (o:Obj) (its:Array gH) (n:Nat),K.lookup a=My o/\(o.cls=.type "tuple"/\o.dict=SY)/\o.data=.seq its n/\its.size<=sizeLine/\Vals xs its.toList
def Q3:gH->gF V
 | .none=>My .non
 | .bool b=>My (.bl b)
 | .int i _=>My (.int i)
 | .str x _=>My (.str x)
 | .bytes b _=>My (.byt b)
 | .float b _=>My (.flt b)
 | .ref a=>My (.ref a)
 | .type n=>My (.ty n)
 | _=>SY
theorem RelV.abs {x:V}{u:gH}(r:RelV x u):Q3 u=My x:=by
 cases x with
 | non=>cases r;rfl
 | bl _=>cases r;rfl
 | int _=>obtain⟨t,rfl⟩:=r;rfl
 | str _=>obtain⟨t,rfl⟩:=r;rfl
 | byt _=>obtain⟨t,rfl⟩:=r;rfl
 | flt _=>obtain⟨t,rfl⟩:=r;rfl
 | ref _=>cases r;rfl
 | ty _=>cases r;rfl
theorem RelV.inj {x y:V}{u:gH}(r:RelV x u)(q:RelV y u):x=y:=ao (r.abs.symm.trans q.abs)
theorem Vals.inj:∀ {xs ys:List V} {us:List gH},Vals xs us->Vals ys us->xs=ys
 := by
  intro xs ys us h;induction h generalizing ys with
  | nil=>intro h';cases h';rfl
  | cons r t ih=>intro h';cases h' with | cons r' t'=>rw[r.inj r',ih t']
section
variable {X:Cx}{pins:gL}{σ:St}{H:Hp}{s:gJ}{a:Addr}{xs ys:List V}
theorem SqL.of {K:gG}(h:H a=My (.lst xs)):SqL K H a xs:=.inl (.inl h)
theorem SqT.of {K:gG}(h:H a=My (.tup xs)):SqT K H a xs:=.inl (.inl h)
theorem Inv.list (I:Inv X pins σ H s)(h:SqL X.K H a xs):∃ its:List gH,Vals xs its/\PlainL s.heap a its.toArray/\xs.length<=sizeLine:=by
 rcases h with h | ⟨o,its,n,hk,hc,hd,hs,hz,r⟩
 ·obtain⟨z,its,n,r,e⟩:=h.ok I.hok;exact⟨its,r,⟨_,n,e,rfl,rfl,rfl⟩,z⟩
 ·refine⟨its.toList,r,⟨o,n,I.kIn a o hk,hc,hd,by simpa using hs⟩,?_⟩;have e:=r.length;simp only[bt]at e;lia
theorem Inv.tuple (I:Inv X pins σ H s)(h:SqT X.K H a xs):∃ its:List gH,Vals xs its/\IsTup s.heap a its.toArray/\xs.length<=sizeLine:=by
 rcases h with h | ⟨o,its,n,hk,hc,hs,hz,r⟩
 ·obtain⟨z,its,r,p⟩:=h.ok I.hok;exact⟨its,r,p,z.1⟩
 ·refine⟨its.toList,r,⟨o,I.kIn a o hk,hc.1,n,by simpa using hs⟩,?_⟩;have e:=r.length;simp only[bt]at e;lia
theorem Inv.Bm (I:Inv X pins σ H s)(h:SqL X.K H a xs)(h':SqL X.K H a ys):xs=ys:=by
 obtain⟨its,r,⟨o,n,e,_,_,d⟩,_⟩:=I.list h;obtain⟨its',r',⟨o',n',e',_,_,d'⟩,_⟩:=I.list h';rw[e]at e';cases e';rw[d]at d';injection d' with d1 _;have:its=its':=by simpa using cK Array.toList d1
 subst this;exact r.inj r'
theorem Inv.uA (I:Inv X pins σ H s)(h:SqT X.K H a xs)(h':SqT X.K H a ys):xs=ys:=by
 obtain⟨its,r,⟨o,e,_,n,d⟩,_⟩:=I.tuple h;obtain⟨its',r',⟨o',e',_,n',d'⟩,_⟩:=I.tuple h';rw[e]at e';cases e';rw[d]at d';injection d' with d1 _;have:its=its':=by simpa using cK Array.toList d1
 subst this;exact r.inj r'
end
abbrev Cx.yy (X:Cx)(E:gE):Cx:={X with xe:=E}
abbrev Cx.nox (X:Cx):Cx:=X.yy λ _ _=>False
theorem Cx.Ok.yy {X:Cx}(ok:X.Ok)(E:gE):(X.yy E).Ok :=
 ⟨ok.mod,ok.kind,ok.glob,ok.blt,ok.above,ok.inj,ok.has,ok.cab,ok.hd,ok.frames,ok.stk,ok.exf,ok.bs,ok.bsz,ok.CN,ok.Gz,ok.uy,ok.frf⟩
theorem Cx.Ok.qr {X:Cx}{E:gE}(ok:(X.yy E).Ok):X.Ok :=
 ⟨ok.mod,ok.kind,ok.glob,ok.blt,ok.above,ok.inj,ok.has,ok.cab,ok.hd,ok.frames,ok.stk,ok.exf,ok.bs,ok.bsz,ok.CN,ok.Gz,ok.uy,ok.frf⟩
section
variable {X:Cx}{pins:gL}{σ:St}{H:Hp}{s:gJ}{E:gE}
theorem Inv.yy (I:Inv X pins σ H s)(E:gE):Inv (X.yy E) pins σ H s:=⟨I.ok.yy E,I.os,I.bare,I.base,I.loc,I.cell,I.free,I.my,I.pin,I.hok,I.len⟩
theorem Inv.qr (I:Inv (X.yy E) pins σ H s):Inv X pins σ H s:=⟨I.ok.qr,I.os,I.bare,I.base,I.loc,I.cell,I.free,I.my,I.pin,I.hok,I.len⟩
theorem SP.qr {D:Ends}{f:Flow}{s':gJ}(h:SP (X.yy E) pins D f s'):SP X pins D f s':=by
 cases f with
 | next=>obtain⟨σ',H',I,q⟩:=h;exact⟨σ',H',I.qr,q⟩
 | brk=>obtain⟨σ',H',I,q⟩:=h;exact⟨σ',H',I.qr,q⟩
 | cont=>obtain⟨σ',H',I,q⟩:=h;exact⟨σ',H',I.qr,q⟩
 | ret u=>obtain⟨v,σ',H',I,r,q⟩:=h;exact⟨v,σ',H',I.qr,r,q⟩
theorem PSs.nox {st:List Stmt}{t:TS}(h:PSs X.nox st t):PSs X st t:=λ pins s σ H D I hw =>cZ (h pins s σ H D (I.yy _) hw) (λ _ _ q=>q.qr) λ _ _ z=>False.elim z
end
section
variable {X:Cx}{st:Stmt}{rest:List Stmt}{t u:TS}{e:Expr}{te:TE}{pos:Pos}
def D5:TS:=λ D σ H=>D.nx σ H
def jc (t u:TS):TS:=λ D σ H=>t {D with nx:=u D} σ H
theorem nU:PSs X [] D5:=λ _ _ σ H _ I h=>fE ⟨σ,H,I,h⟩
theorem gZ (h1:PS X st t)(h2:PSs X rest u):PSs X (st::rest) (jc t u):=by
 intro pins s σ H D I h;refine wpAny_execs_cons (thn (h1 pins s σ H {D with nx:=u D} I h) λ f s1 q=>?_);cases f with
 | next =>obtain⟨σ',H',I',q⟩:=q;exact h2 pins s1 σ' H' D I' q
 | ret v=>exact q
 | brk=>exact q
 | cont=>exact q
theorem iK (h1:PS X st t):PSs X [st] t:=by
 intro pins s σ H D I h;refine wpAny_execs_cons (thn (h1 pins s σ H D I h) λ f s1 q=>?_);cases f with
 | next=>exact fE q
 | ret v=>exact q
 | brk=>exact q
 | cont=>exact q
theorem Inv.quiet {pins:gL}{σ:St}{H:Hp}{s:gJ}(I:Inv X pins σ H s):interactive X.env=Ta:=by simp[interactive,I.ok.kind]
def za (te:TE):TS:=λ D σ H=>te σ H λ _ H1=>D.nx σ H1
theorem rb (he:PE X e te)(hs:swapsWith e SY pos.line X.env=pure Ta:=by rfl):PS X (.Expr e pos) (za te):=by intro pins s σ H D I h;exact wpAny_Expr_any (thn (he pins s σ H _ I h) λ v s1 ⟨x,H1,I1,r1,q1⟩=>⟨σ,H1,I1,q1⟩) I.quiet hs
def zX (te:TE):TS:=λ D σ H=>te σ H D.rt
theorem lu (he:PE X e te):PS X (.Return (My e) pos) (zX te):=by intro pins s σ H D I h;exact wpAny_Return_some (thn (he pins s σ H _ I h) λ v s1 ⟨x,H1,I1,r1,q1⟩=>⟨x,σ,H1,I1,r1,q1⟩)
def Ju (c:TT)(t u:TS):TS:=λ D σ H=>c σ H λ b H1=>if b=S_ then t D σ H1 else u D σ H1
theorem sQ {c:Expr}{a b:List Stmt}{tc:TT}(hc:PT X c tc)(ha:PSs X a t)(hb:PSs X b u):PS X (.If c a b pos) (Ju tc t u):=by
 intro pins s σ H D I h;refine wpAny_If (thn (hc pins s σ H _ I h) λ d s1 ⟨H1,I1,q1⟩=>?_);cases d with
 | true=>exact ha pins s1 σ H1 D I1 q1
 | false=>exact hb pins s1 σ H1 D I1 q1
end
abbrev TG:=V->St->Hp->(St->Hp->Prop)->Prop
abbrev TGs:=List V->St->Hp->(St->Hp->Prop)->Prop
def PG (X:Cx)(target:Expr)(t:TG):Prop :=
 ∀ (pins:gL) (s:gJ) (σ:St) (H:Hp) (v:V) (u:gH) (Q:St->Hp->Prop),Inv X pins σ H s->RelV v u->t v σ H Q ->
  wpAny (model X.prog X.w) X.A (assign target X.env u) (λ _ s'=>∃ σ' H',Inv X pins σ' H' s'/\Q σ' H') X.xe s
def PGs (X:Cx)(ts:List Expr)(t:TGs):Prop :=
 ∀ (pins:gL) (s:gJ) (σ:St) (H:Hp) (vs:List V) (us:List gH) (Q:St->Hp->Prop),Inv X pins σ H s->Vals vs us->t vs σ H Q ->
  wpAny (model X.prog X.w) X.A (assignInOrder ((assignEach ts X.env).map (·.2)) us) (λ _ s'=>∃ σ' H',Inv X pins σ' H' s'/\Q σ' H') X.xe s
abbrev Mv:=V->V->V->Hp->(Hp->Prop)->Prop
def OT (X:Cx)(t:Mv):Prop :=
 ∀ (pins:gL) (s:gJ) (σ:St) (H:Hp) (o i v:V) (ov iv u:gH) (Q:Hp->Prop),Inv X pins σ H s->RelV o ov->RelV i iv->RelV v u->t o i v H Q ->
  wpAny (model X.prog X.w) X.A (setItem ov iv u) (λ _ s'=>∃ H',Inv X pins σ H' s'/\Q H') X.xe s
section
variable {X:Cx}{pos:Pos}
def iA (i:Nat):TG:=λ v σ H Q=>Q (σ.set i (My v)) H
theorem Jv {i:Nat}{x:Str}(hN:X.N.Nodup)(hi:X.N[i]?=My x)(hx:Loc X.env.scope x)(hf:X.fn x=S_\/X.env.scope.names.lookup x=My .local:=by trivial):PG X (.Name x pos) (iA i):=by intro pins s σ H v u Q I r h;exact wpAny_assign_Name (sO I hN hi hx r (λ s' I'=>⟨_,H,I',h⟩) hf)
def GC:TGs:=λ vs σ H Q=>vs=[]/\Q σ H
def u4 (t:TG)(u:TGs):TGs:=λ vs σ H Q=>∃ v r,vs=v::r/\t v σ H λ σ' H'=>u r σ' H' Q
theorem mU:PGs X [] GC:=by intro pins s σ H vs us Q I r h;obtain⟨e,h⟩:=h;subst e;cases r;exact assignInOrder_nil ⟨σ,H,I,h⟩
theorem je {e:Expr}{es:List Expr}{t:TG}{u:TGs}(h1:PG X e t)(h2:PGs X es u)
  (hs:(assignEach (e::es) X.env).map (·.2)=assign e X.env::(assignEach es X.env).map (·.2):=by rfl):PGs X (e::es) (u4 t u):=by
 intro pins s σ H vs us Q I r h;obtain⟨v,vr,e1,h⟩:=h;subst e1;cases r with
 | cons r rr =>rw[hs];refine assignInOrder_cons (thn (h1 pins s σ H _ _ _ I r h) λ _ s1 ⟨σ1,H1,I1,q1⟩=>?_);exact h2 pins s1 σ1 H1 _ _ Q I1 rr q1
def GF (K:gG)(n:Nat)(t:TGs):TG:=λ v σ H Q=>∃ a xs,v=.ref a/\SqT K H a xs/\xs.length=n/\t xs σ H Q
theorem pg {es:List Expr}{k:Nat}{t:TGs}{n:Nat}(hc:X.calm=S_)(h:PGs X es t)
  (hn:(assignEach es X.env).length=n:=by rfl) (hst:(assignEach es X.env).findIdx? (·.1)=SY:=by rfl):PG X (.Tuple es k pos) (GF X.K n t):=by
 intro pins s σ H v u Q I r hw;obtain⟨a,xs,e1,hq,hl,hw⟩:=hw;subst e1;cases r;obtain⟨its,rv,ht,hz⟩:=I.tuple hq;refine assign_Tuple_tuple (I.ok.hd hc) ht (by simp[hn,<-hl,rv.length]) hst λ h' hx=>?_;have I1:Inv X pins σ H {s with heap:=h'}:=I.kept (t':=s.toks) λ b o e=>hx b o (aM (ar e)) e;exact h pins _ σ H xs _ Q I1 (by simpa using rv) hw
def Mw (to ti:TE)(t:Mv):TG:=λ v σ H Q=>to σ H λ o H1=>ti σ H1 λ i H2=>t o i v H2 λ H3=>Q σ H3
theorem CQ {o i:Expr}{to ti:TE}{t:Mv}(ho:PE X o to)(hi:PE X i ti)(hs:OT X t)
  (ha:∀ v,assign (.Subscript o i pos) X.env v=(do
   let ov<-holding [v] (eval o X.env);let iv<-holding [v,ov] (eval i X.env)
   standAt pos
   holding [v,ov,iv] (setItem ov iv v)
   release [v,ov,iv] []):=by intro _;rfl):PG X (.Subscript o i pos) (Mw to ti t):=by
 intro pins s σ H v u Q I r h;rw[ha];refine ae (bJ (thn (ho pins s σ H _ I h) λ ov s1 ⟨x,H1,I1,r1,q1⟩=>?_));refine ae (bJ (thn (hi pins s1 σ H1 _ I1 q1) λ iv s2 ⟨y,H2,I2,r2,q2⟩=>?_));refine ae (wpAny_standAt (ae (bJ (thn (hs pins s2 σ H2 x y v ov iv u _ I2 r1 r2 r q2) λ _ s3 ⟨H3,I3,q3⟩=>?_))));exact wpAny_release ⟨σ,H3,I3,q3⟩
def j_ (te:TE)(g:TG):TS:=λ D σ H=>te σ H λ x H1=>g x σ H1 D.nx
theorem zY {tg e:Expr}{te:TE}{g:TG}(he:PE X e te)(hg:PG X tg g)(hs:swapsWithSole [tg] e pos.line X.env=pure Ta:=by rfl)(hw:swappedStores [tg] e X.env=pure SY:=by rfl)
  (h1:(assignEach [tg] X.env).map (·.2)=[assign tg X.env]:=by rfl):PS X (.Assign [tg] e pos) (j_ te g):=by
 intro pins s σ H D I h;refine wpAny_Assign_stores (thn (he pins s σ H _ I h) λ v s1 ⟨x,H1,I1,r1,q1⟩=>?_) hs hw;rw[h1];exact thn (hg pins s1 σ H1 x v _ I1 r1 q1) λ _ s2 q=>q
theorem iI {i:Nat}{x:Str}{e:Expr}{te:TE}{pos':Pos}(hN:X.N.Nodup)(hi:X.N[i]?=My x)(hx:Loc X.env.scope x)(he:PE X e te)(hs:swapsWith e (My (.Name x pos')) pos.line X.env=pure Ta:=by rfl)(hf:X.fn x=S_\/X.env.scope.names.lookup x=My .local:=by trivial) :
  PS X (.Assign [.Name x pos'] e pos) (j_ te (iA i)):=by
 intro pins s σ H D I h;refine wpAny_Assign_Name (thn (he pins s σ H _ I h) λ v s1 ⟨y,H1,I1,r1,q1⟩=>?_) hs;exact sO I1 hN hi hx r1 (λ s2 I2=>⟨_,H1,I2,q1⟩) hf
end
section
variable {X:Cx}{pos:Pos}
def CS (c:TT)(tb:TS):TS:=λ D σ H=>∃ W:Nat->St->Hp->Prop,(∃ m,W m σ H)/\∀ m σ H,W m σ H ->
 c σ H λ b H1=>if b=S_ then ∃ N:St->Hp->Prop,(∀ σ' H',N σ' H'->∃ m',m'<m/\W m' σ' H')/\tb {D with nx:=N,ct:=N,bk:=D.nx} σ H1 else D.nx σ H1
theorem wz {c:Expr}{body:List Stmt}{tc:TT}{tb:TS}(hp:PassesOwn (model X.prog X.w) X.A X.env X.xe)(hc:PT X c tc)(hb:PSs X body tb):PS X (.While c body [] pos) (CS tc tb):=by
 intro pins s σ H D I h;obtain⟨W,⟨m0,w0⟩,turn⟩:=h;refine wpAny_While (codeAny_whileLoop (λ n s'=>∃ σ' H',Inv X pins σ' H' s'/\W n σ' H') ?_ m0 ⟨σ,H,I,w0⟩);rintro n s1 ⟨σ1,H1,I1,w1⟩;refine dq hp (thn (hc pins s1 σ1 H1 _ I1 (turn n σ1 H1 w1)) λ b s2 ⟨H2,I2,q2⟩=>?_);cases b with
 | true =>
  obtain⟨N,hN,q2⟩:=q2;rw[ai rfl];refine dq hp (thn (hb pins s2 σ1 H2 _ I2 q2) λ f s3 q3=>?_);cases f with
  | next =>obtain⟨σ3,H3,I3,n3⟩:=q3;obtain⟨m',hm,w3⟩:=hN σ3 H3 n3;exact⟨m',hm,σ3,H3,I3,w3⟩
  | cont =>obtain⟨σ3,H3,I3,n3⟩:=q3;obtain⟨m',hm,w3⟩:=hN σ3 H3 n3;exact⟨m',hm,σ3,H3,I3,w3⟩
  | brk=>exact q3
  | ret v=>exact q3
 | false =>rw[ak aw];exact fE ⟨σ1,H2,I2,q2⟩
end
structure It where
 go:Nat->Hp->Prop
 yld:Nat->Hp->V->Hp->Prop
 stop:Nat->Hp->Prop
def vD (X:Cx)(pins:gL)(H:Hp)(b:Addr):Prop :=
 H b=SY/\b≠X.env.locals/\b∉X.fs/\(b∈X.ex\/X.s₀.heap.objs.size<=b)/\(∀ x c,X.env.cells.lookup x=My c->c≠b)/\∀ p∈X.pn++pins,p.1≠b
theorem Inv.Jw {X:Cx}{pins:gL}{σ:St}{H H':Hp}{s:gJ}{b:Addr}(I:Inv X pins σ H s)(hb:s.heap.objs.size<=b)(hn:H' b=SY):vD X pins H' b:=by
 refine⟨hn,bM (aJ I.lt hb),I.Q1 hb,.inr (bC I.sz hb),λ x c e z=>?_,λ p hp z=>?_⟩
 ·obtain⟨v,q⟩:=I.cell x c e;exact absurd (aJ q.lt (by rw[z];exact hb)) (aW _)
 ·exact absurd (aJ (ar (I.pin p hp).1) (by rw[z];exact hb)) (aW _)
structure Turn (P:Program)(w:World)(K:gG)(tg:Expr)(J:It)(fp:List Addr)(it:Addr)(tn:Nat->Heap->Prop):Prop where
 mem:it∈fp
 obj:∀ i h,tn i h->∀ b∈fp,∃ o,h.get? b=My o/\∀ v,o.data≠.cell v
 keep:∀ i h h',tn i h->(∀ b∈fp,∀ o,h.get? b=My o->h'.get? b=My o)->tn i h'
 item:∀ (X:Cx),X.prog=P->X.w=w->X.K=K->X.calm=S_->∀ (i:Nat) (pins:gL) (s:gJ) (σ:St) (H:Hp) (E:gE),Inv X pins σ H s->(∀ b∈fp,vD X pins H b)->tn i s.heap->J.go i H ->
  wpAny (model P w) X.A (pyNext (.ref it)) (λ r s1=>∃ u,r=My u /\
   wpAny (model P w) X.A (letOwnedTupleGo tg (.ref it) u) (λ _ s2=>∃ x H',Inv X pins σ H' s2/\RelV x u/\J.yld i H x H'/\tn (i+1) s2.heap/\∀ b∈fp,H' b=SY) E s1) E s
 done:∀ (X:Cx),X.prog=P->X.w=w->X.K=K->X.calm=S_->∀ (i:Nat) (pins:gL) (s:gJ) (σ:St) (H:Hp) (E:gE),Inv X pins σ H s->(∀ b∈fp,vD X pins H b)->tn i s.heap->J.stop i H ->
  wpAny (model P w) X.A (pyNext (.ref it)) (λ r s1=>r=SY/\Inv X pins σ H s1) E s
 self:∀ (A:Around) (i:Nat) (s:gJ) (Q:gE) (E:gE),tn i s.heap->Q (.ref it) s->wpAny (model P w) A (pyIter (.ref it)) Q E s
abbrev TI:=St->Hp->(It->Hp->Prop)->Prop
def PIE (X:Cx)(pins:gL)(σ:St)(tg:Expr)(R:It->Hp->Prop)(itv:gH)(s2:gJ):Prop :=
 ∃ (it:Addr) (fp:List Addr) (tn:Nat->Heap->Prop) (J:It) (H':Hp),itv=.ref it/\Inv X pins σ H' s2/\Turn X.prog X.w X.K tg J fp it tn/\tn 0 s2.heap/\(∀ b∈fp,vD X pins H' b)/\R J H'
def PI (X:Cx)(tg iter:Expr)(wi:TI):Prop :=
 ∀ (pins:gL) (s:gJ) (σ:St) (H:Hp) (R:It->Hp->Prop),Inv X pins σ H s->wi σ H R ->
  wpAny (model X.prog X.w) X.A (eval iter X.env) (λ v s1=>wpAny (model X.prog X.w) X.A (pyIter v) (PIE X pins σ tg R) X.xe s1) X.xe s
theorem GG {M : Model}{A : Around}{E : gH -> gJ -> Prop}{s : gJ}{tg : Expr}{it : Addr}{u : gH}{o : Obj}{n : String}{vs : Array gH}{Q : Unit -> gJ -> Prop}(ho : s.heap.get? it = My o)(hc : o.cls = .type n)(hd : o.data = .fields vs)
    (hn : ["enumerate", "zip", "dict_itemiterator", "dict_reverseitemiterator", "odict_iterator", "itertools.zip_longest", "itertools.pairwise"].contains n = Ta) (hQ : Q () s) : wpAny M A (letOwnedTupleGo tg (.ref it) u) Q E s := by
  unfold letOwnedTupleGo;cases tg <;> first
    | exact ag hQ
    | (cases u <;> first
        | exact ag hQ
        | (refine ae (wpAny_load ho ?_)
           rw[hc, hd];show wpAny M A (if (["enumerate", "zip", "dict_itemiterator", "dict_reverseitemiterator", "odict_iterator", "itertools.zip_longest", "itertools.pairwise"].contains n && vs[0]? == My (rawInt _)) = S_ then _ else _) Q E s;rw[ak (by intro h; rw[hn, gu]at h; cases h)];exact ag hQ))
def Itl (K:gG)(a:Addr):It :=
 ⟨λ i H=>∃ xs x,SqL K H a xs/\xs[i]?=My x,λ i H x H'=>H'=H/\∀ xs,SqL K H a xs->xs[i]?=My x,λ i H=>∃ xs,SqL K H a xs/\xs.length<=i⟩
def Itt (K:gG)(a:Addr):It :=
 ⟨λ i H=>∃ xs x,SqT K H a xs/\xs[i]?=My x,λ i H x H'=>H'=H/\∀ xs,SqT K H a xs->xs[i]?=My x,λ i H=>∃ xs,SqT K H a xs/\xs.length<=i⟩
def Itr (lo:Int)(n:Nat):It:=⟨λ i _=>i<n,λ i H x H'=>H'=H/\x=.int (lo+i),λ i _=>n<=i⟩
theorem Fj {P:Program}{w:World}{K:gG}{tg:Expr}(a it:Addr):Turn P w K tg (Itl K a) [it] it (λ i h=>h.IsListIter it a i) where
 mem:=by simp
 obj:=λ i h st b hb=>by
  have e:b=it:=by simpa using hb
  subst e;obtain⟨o,e,c,d⟩:=st;exact⟨o,e,λ v z=>by rw[d]at z;cases z⟩
 keep:=λ i h h' st k=>st.at λ o e=>k it (by simp) o e
 item:=by intro X hP hw hK hc i pins s σ H E I hf st hg;subst hP hw hK;obtain⟨xs,x,hq,hx⟩:=hg;obtain⟨its,rv,p,hz⟩:=I.list hq;obtain⟨u,hu,ru⟩:=rv.get hx;obtain⟨f0,f1,f2,f3,f4,f5⟩:=hf it (by simp);refine wpAny_pyNext_list_item st p.isList (x:=u) (by simpa using hu) λ h' st' sb=>?_;have I1:Inv X pins σ H {s with heap:=h'}:=I.turned (t':=s.toks) (λ b o hb e=>(sb.2 b hb).trans e) f0 f1 f3 f4 f5;obtain⟨o,e,c,d⟩:=id st';exact⟨u,rfl,GG (s:={s with heap:=h'}) e c d (by decide) ⟨x,H,I1,ru,⟨rfl,λ ys hy=>by rw[I.Bm hy hq];exact hx⟩,st',λ b hb=>(hf b hb).1⟩⟩
 done:=by intro X hP hw hK hc i pins s σ H E I hf st hg;subst hP hw hK;obtain⟨xs,hq,hx⟩:=hg;obtain⟨its,rv,p,hz⟩:=I.list hq;obtain⟨f0,f1,f2,f3,f4,f5⟩:=hf it (by simp);have hl:=rv.length;exact wpAny_pyNext_list_end (I.ok.hd hc) st p.isList (by simp;lia) λ h' eb=>⟨rfl,I.turned (t':=s.toks) (λ b o hb e=>eb b o hb e) f0 f1 f3 f4 f5⟩
 self:=λ _ _ _ _ _ st h=>wpAny_pyIter_listiter st h
theorem CT {P:Program}{w:World}{K:gG}{tg:Expr}(a it:Addr):Turn P w K tg (Itt K a) [it] it (λ i h=>h.IsTupleIter it a i) where
 mem:=by simp
 obj:=λ i h st b hb=>by
  have e:b=it:=by simpa using hb
  subst e;obtain⟨o,e,c,d⟩:=st;exact⟨o,e,λ v z=>by rw[d]at z;cases z⟩
 keep:=λ i h h' st k=>st.at λ o e=>k it (by simp) o e
 item:=by intro X hP hw hK hc i pins s σ H E I hf st hg;subst hP hw hK;obtain⟨xs,x,hq,hx⟩:=hg;obtain⟨its,rv,p,hz⟩:=I.tuple hq;obtain⟨u,hu,ru⟩:=rv.get hx;obtain⟨f0,f1,f2,f3,f4,f5⟩:=hf it (by simp);refine wpAny_pyNext_tuple_item st (show s.heap.IsTuple a its.toArray from p) (x:=u) (by simpa using hu) λ h' st' sb=>?_;have I1:Inv X pins σ H {s with heap:=h'}:=I.turned (t':=s.toks) (λ b o hb e=>(sb.2 b hb).trans e) f0 f1 f3 f4 f5;obtain⟨o,e,c,d⟩:=id st';exact⟨u,rfl,GG (s:={s with heap:=h'}) e c d (by decide) ⟨x,H,I1,ru,⟨rfl,λ ys hy=>by rw[I.uA hy hq];exact hx⟩,st',λ b hb=>(hf b hb).1⟩⟩
 done:=by intro X hP hw hK hc i pins s σ H E I hf st hg;subst hP hw hK;obtain⟨xs,hq,hx⟩:=hg;obtain⟨its,rv,p,hz⟩:=I.tuple hq;obtain⟨f0,f1,f2,f3,f4,f5⟩:=hf it (by simp);have hl:=rv.length;exact wpAny_pyNext_tuple_end (I.ok.hd hc) st (show s.heap.IsTuple a its.toArray from p) (by simp;lia) λ h' eb=>⟨rfl,I.turned (t':=s.toks) (λ b o hb e=>eb b o hb e) f0 f1 f3 f4 f5⟩
 self:=λ _ _ _ _ _ st h=>wpAny_pyIter_tupleiter st h
theorem CU {P:Program}{w:World}{K:gG}{tg:Expr}(it:Addr)(lo:Int)(n:Nat):Turn P w K tg (Itr lo n) [it] it (λ i h=>IsRangeIter h it (lo+(i:Nat)*1) ((n:Int)-(i:Nat)) 1) where
 mem:=by simp
 obj:=λ i h st b hb=>by
  have e:b=it:=by simpa using hb
  subst e;exact⟨_,st,λ v z=>by have z':Data.fields _=Data.cell v:=z;cases z'⟩
 keep:=λ i h h' st k=>k it (by simp) _ st
 item:=by intro X hP hw hK hc i pins s σ H E I hf st hg;subst hP hw hK;obtain⟨f0,f1,f2,f3,f4,f5⟩:=hf it (by simp);have W:=Walks.range (prog:=X.prog) (w:=X.w) (I.ok.hd hc) it lo 1 n;refine W.item i s _ _ hg st λ v h' tk hv st' kk=>?_;obtain⟨t,rfl⟩:=hv;have I1:Inv X pins σ H {s with heap:=h',toks:=tk}:=I.turned (λ b o hb e=>kk b o (by simpa using hb) e) f0 f1 f3 f4 f5;refine⟨_,rfl,GG (s:={s with heap:=h',toks:=tk}) (n:="range_iterator") st' rfl rfl (by decide) ⟨.int (lo+i),H,I1,⟨t,?_⟩,⟨rfl,rfl⟩,st',λ b hb=>(hf b hb).1⟩⟩;rw[Int.mul_one]
 done:=by intro X hP hw hK hc i pins s σ H E I hf st hg;subst hP hw hK;obtain⟨f0,f1,f2,f3,f4,f5⟩:=hf it (by simp);exact wpAny_pyNext_range_end (I.ok.hd hc) st (by have:n<=i:=hg;lia) λ h' eb=>⟨rfl,I.turned (t':=s.toks) (λ b o hb e=>eb b o hb e) f0 f1 f3 f4 f5⟩
 self:=λ _ _ _ _ _ st h=>wpAny_pyIter_rangeiter st h
section
variable {X:Cx}{tg:Expr}
def D6 (K:gG)(tl:TE):TI:=λ σ H R=>tl σ H λ x H1=>∃ a,x=.ref a/\(∃ xs,SqL K H1 a xs)/\R (Itl K a) H1
def Mx (K:gG)(tl:TE):TI:=λ σ H R=>tl σ H λ x H1=>∃ a,x=.ref a/\(∃ xs,SqT K H1 a xs)/\R (Itt K a) H1
theorem vW {l:Expr}{tl:TE}(hl:PE X l tl):PI X tg l (D6 X.K tl):=by
 intro pins s σ H R I h;refine thn (hl pins s σ H _ I h) λ v s1 ⟨x,H1,I1,r1,q1⟩=>?_;obtain⟨a,e,⟨xs,hq⟩,q⟩:=q1;subst e;cases r1;obtain⟨its,rv,p,hz⟩:=I1.list hq;refine eQ p.isList ?_;refine⟨s1.heap.objs.size,[s1.heap.objs.size],_,_,H1,rfl,I1.kept (t':=s1.toks) λ b o e=>ah _ e,Fj a _,⟨_,aE _ rfl,rfl,rfl⟩,λ b hb=>?_,q⟩;have e:b=s1.heap.objs.size:=by simpa using hb
 subst e;exact I1.Jw (ay _) (I1.hok.fresh (ay _))
theorem CV {l:Expr}{tl:TE}(hl:PE X l tl):PI X tg l (Mx X.K tl):=by
 intro pins s σ H R I h;refine thn (hl pins s σ H _ I h) λ v s1 ⟨x,H1,I1,r1,q1⟩=>?_;obtain⟨a,e,⟨xs,hq⟩,q⟩:=q1;subst e;cases r1;obtain⟨its,rv,p,hz⟩:=I1.tuple hq;refine fK (show s1.heap.IsTuple a its.toArray from p) ?_;refine⟨s1.heap.objs.size,[s1.heap.objs.size],_,_,H1,rfl,I1.kept (t':=s1.toks) λ b o e=>ah _ e,CT a _,⟨_,aE _ rfl,rfl,rfl⟩,λ b hb=>?_,q⟩;have e:b=s1.heap.objs.size:=by simpa using hb
 subst e;exact I1.Jw (ay _) (I1.hok.fresh (ay _))
theorem Bn {pins:gL}{σ:St}{H:Hp}{s:gJ}{R:It->Hp->Prop}{E:gE}{lo hi:Int}{t u v:Tok}{tk:Nat}(I:Inv X pins σ H s)(h1:-(2 ^ 62)<=lo)(h2:lo<2 ^ 62)(h3:-(2 ^ 62)<=hi)(h4:hi<2 ^ 62)
  (q:R (Itr lo (hi-lo).toNat) H):wpAny (model X.prog X.w) X.A (pyIter (.ref s.heap.objs.size)) (PIE X pins σ tg R) E {s with heap:=s.heap.push {cls:=.type "range",data:=.fields #[.int lo t,.int hi u,.int 1 v]},toks:=tk}:=by
 refine wpAny_pyIter_range (IsRange.new ..) (small_one h1 h2 h3 h4) ?_;have I1:Inv X pins σ H {s with heap:=s.heap.push {cls:=.type "range",data:=.fields #[.int lo t,.int hi u,.int 1 v]},toks:=tk}:=I.kept λ b o e=>ah _ e;refine⟨(s.heap.push {cls:=.type "range",data:=.fields #[.int lo t,.int hi u,.int 1 v]}).objs.size,[(s.heap.push {cls:=.type "range",data:=.fields #[.int lo t,.int hi u,.int 1 v]}).objs.size],_,_,H,rfl,
  I1.kept (t':=tk) λ b o e=>ah _ e,CU _ lo (hi-lo).toNat,?_,λ b hb=>?_,q⟩
 ·have e1:lo+((0:Nat):Int)*1=lo:=by simp
  have e2:(((hi-lo).toNat:Nat):Int)-((0:Nat):Int)=Builtin.Range.rangeSize lo hi 1:=by rw[rangeSize_one];split<;>lia
  show IsRangeIter _ _ (lo+((0:Nat):Int)*1) ((((hi-lo).toNat:Nat):Int)-((0:Nat):Int)) 1;rw[e1,e2];exact aE _ rfl
 ·have e:b=(s.heap.push {cls:=.type "range",data:=.fields #[.int lo t,.int hi u,.int 1 v]}).objs.size:=by simpa using hb
  subst e;exact I1.Jw (ay _) (I1.hok.fresh (ay _))
def zb (ta:TA):TI:=λ σ H R=>ta σ H λ vs H1=>∃ j:Int,vs=[.int j]/\-(2 ^ 62)<=j/\j<2 ^ 62/\R (Itr 0 j.toNat) H1
def LA (ta:TA):TI:=λ σ H R=>ta σ H λ vs H1=>∃ i j:Int,vs=[.int i,.int j]/\(-(2 ^ 62)<=i/\i<2 ^ 62/\-(2 ^ 62)<=j/\j<2 ^ 62)/\R (Itr i (j-i).toNat) H1
theorem lZ {a:Expr}{ta:TA}{p pos:Pos}(hg:Gl X "range")(hm:X.mg "range"=SY)(ha:PA X [a] ta)(hs:starEach [a] X.env=[(Ta,eval a X.env)]:=by rfl):PI X tg (.Call (.Name "range" p) [a] [] pos) (zb ta):=by
 intro pins s σ H R I h;refine Call_ (uz I hg hm boot_range (cU (thn (ha pos pins s σ H _ I h) λ us s1 ⟨vs,H1,I1,r1,q1⟩=>?_) hs rfl));obtain⟨j,e,q1,q2,q⟩:=q1;subst e;cases r1 with
 | cons r rr =>cases rr;obtain⟨t,rfl⟩:=r;exact call_range_1 (Bn I1 (by lia) (by lia) q1 q2 (by simpa using q))
theorem Fl {a b:Expr}{ta:TA}{p pos:Pos}(hg:Gl X "range")(hm:X.mg "range"=SY)(ha:PA X [a,b] ta)(hs:starEach [a,b] X.env=[(Ta,eval a X.env),(Ta,eval b X.env)]:=by rfl)(hs2:starEach [b] X.env=[(Ta,eval b X.env)]:=by rfl) :
  PI X tg (.Call (.Name "range" p) [a,b] [] pos) (LA ta):=by
 intro pins s σ H R I h;refine Call_ (uz I hg hm boot_range (cU (thn (ha pos pins s σ H _ I h) λ us s1 ⟨vs,H1,I1,r1,q1⟩=>?_) (by rw[hs,hs2]) (by rw[hs2];rfl)));obtain⟨i,j,e,⟨q1,q2,q3,q4⟩,q⟩:=q1;subst e;cases r1 with
 | cons r rr =>
  cases rr with
  | cons r' rr =>cases rr;obtain⟨t,rfl⟩:=r;obtain⟨t',rfl⟩:=r';exact call_range_2 (Bn I1 q1 q2 q3 q4 q)
def wG (wi:TI)(g:TG)(tb:TS):TS:=λ D σ H=>wi σ H λ J H1=>∃ W:Nat->Nat->St->Hp->Prop,(∃ m,W 0 m σ H1)/\∀ i m σ H,W i m σ H ->
 (J.stop i H/\D.nx σ H)\/(J.go i H/\∃ N:St->Hp->Prop,(∀ σ' H',N σ' H'->∃ m',m'<m/\W (i+1) m' σ' H')/\∀ x H',J.yld i H x H'->g x σ H' λ σ2 H2=>tb {D with nx:=N,ct:=N,bk:=D.nx} σ2 H2)
def uB (fp:List Addr)(h:Heap):gL:=fp.filterMap λ b=>(h.get? b).map λ o=>(b,o)
theorem ph {fp:List Addr}{h:Heap}{b:Addr}{o:Obj}(hb:b∈fp)(e:h.get? b=My o):(b,o)∈uB fp h:=cY.mpr ⟨b,hb,by rw[e];rfl⟩
theorem Fm {fp:List Addr}{h:Heap}{p:Addr×Obj}(hp:p∈uB fp h):p.1∈fp/\h.get? p.1=My p.2:=by
 obtain⟨b,hb,e⟩:=cY.mp hp;cases q:h.get? b with
 | none=>rw[q]at e;cases e
 | some o =>rw[q]at e;have e':(b,o)=p:=ao e;subst e';exact⟨hb,q⟩
theorem Inv.pinned {pins:gL}{σ:St}{H:Hp}{s:gJ}{fp:List Addr}(I:Inv X pins σ H s)(hf:∀ b∈fp,vD X pins H b)(ho:∀ b∈fp,∃ o,s.heap.get? b=My o/\∀ v,o.data≠.cell v):Inv X (pins++uB fp s.heap) σ H s :=
 I.vV λ p hp=>(bh.mp hp).elim (λ z=>I.pin p (aU _ z)) λ z=>by obtain⟨hb,e⟩:=Fm z;obtain⟨f0,f1,f2,_⟩:=hf p.1 hb;obtain⟨o,e',d⟩:=ho p.1 hb;rw[e]at e';cases e';exact⟨e,f0,f1,f2,d⟩
theorem Inv.wH {pins pl:gL}{σ:St}{H:Hp}{s:gJ}(I:Inv X (pins++pl) σ H s):Inv X pins σ H s:=I.vV λ p hp=>I.pin p (aU _ (bf _ hp))
theorem nB {iter:Expr}{body:List Stmt}{wi:TI}{g:TG}{tb:TS}{pos:Pos}(hp:PassesOwn (model X.prog X.w) X.A X.env X.xe)(hc:X.calm=S_)(hi:PI X tg iter wi)(hg:PG X tg g)(hb:PSs X body tb)
  (hs:∀ x,foldedSetIterable iter X.env x=pure x:=by intro _;rfl):PS X (.For tg iter body [] pos) (wG wi g tb):=by
 intro pins s σ H D I h;refine wpAny_For (thn (hi pins s σ H _ I h) λ v s1 h1=>thn h1 λ itv s2 h2=>?_) hs;obtain⟨it,fp,tn,J,H2,e,I2,T,st2,f2,W,⟨m0,w0⟩,turn⟩:=h2;subst e;have stat:∀ {H':Hp},(∀ b∈fp,H' b=SY)->∀ b∈fp,vD X pins H' b:=λ hn b hb=>⟨hn b hb,(f2 b hb).2⟩;refine codeAny_forLoop_any (λ n s'=>∃ i σ' H',Inv X pins σ' H' s'/\tn i s'.heap/\(∀ b∈fp,H' b=SY)/\W i n σ' H') ?_ m0 ⟨0,σ,H2,I2,st2,λ b hb=>(f2 b hb).1,w0⟩;rintro n s3 ⟨i,σ3,H3,I3,st3,fr3,w3⟩;rcases turn i n σ3 H3 w3 with⟨stop,qn⟩ | ⟨go,N,hN,step⟩
 ·refine dq hp (thn (T.done X rfl rfl rfl hc i pins s3 σ3 H3 X.xe I3 (stat fr3) st3 stop) λ r s4 ⟨hr,I4⟩=>?_);subst hr;exact fE ⟨σ3,H3,I4,qn⟩
 ·refine dq hp (thn (T.item X rfl rfl rfl hc i pins s3 σ3 H3 X.xe I3 (stat fr3) st3 go) λ r s4 ⟨u,hr,h4⟩=>?_)
  subst hr;refine dq hp (thn h4 λ _ s5 ⟨x,H5,I5,r5,y5,st5,fr5⟩=>?_);have I5':=I5.pinned (stat fr5) (T.obj _ _ st5);refine dq hp (thn (hg _ s5 σ3 H5 x u _ I5' r5 (step x H5 y5)) λ _ s6 ⟨σ6,H6,I6,q6⟩=>?_);refine dq hp (thn (hb _ s6 σ6 H6 _ I6 q6) λ f s7 q7=>?_);have again:∀ {σ7:St} {H7:Hp},Inv X (pins++uB fp s5.heap) σ7 H7 s7->N σ7 H7->∃ m,m<n/\∃ i σ' H',Inv X pins σ' H' s7/\tn i s7.heap/\(∀ b∈fp,H' b=SY)/\W i m σ' H':=λ{σ7 H7} I7 n7=>by obtain⟨m',hm,w7⟩:=hN σ7 H7 n7;refine⟨m',hm,i+1,σ7,H7,I7.wH,T.keep _ _ _ st5 λ b hb o e=>(I7.pin (b,o) (aU _ (aU _ (ph hb e)))).1,λ b hb=>?_,w7⟩;obtain⟨o,e,d⟩:=T.obj _ _ st5 b hb;exact(I7.pin (b,o) (aU _ (aU _ (ph hb e)))).2.1
  cases f with
  | next=>obtain⟨σ7,H7,I7,n7⟩:=q7;exact again I7 n7
  | cont=>obtain⟨σ7,H7,I7,n7⟩:=q7;exact again I7 n7
  | brk=>obtain⟨σ7,H7,I7,q7⟩:=q7;exact⟨σ7,H7,I7.wH,q7⟩
  | ret v=>obtain⟨x7,σ7,H7,I7,r7,q7⟩:=q7;exact⟨x7,σ7,H7,I7.wH,r7,q7⟩
end
theorem Bo {K:gG}{a:Addr}{xs:List V}{g:TG}{tb:TS}{D:Ends}{σ:St}{H:Hp}(Pv:Nat->St->Hp->Prop)(h0:Pv 0 σ H)(hl:∀ i σ H,i<=xs.length->Pv i σ H->SqL K H a xs)
  (hs:∀ i x σ H,xs[i]?=My x->Pv i σ H->g x σ H λ σ2 H2=>tb {D with nx:=Pv (i+1),ct:=Pv (i+1),bk:=D.nx} σ2 H2) (hd:∀ σ H,Pv xs.length σ H->D.nx σ H) :
  ∃ W:Nat->Nat->St->Hp->Prop,(∃ m,W 0 m σ H)/\∀ i m σ H,W i m σ H ->
   ((Itl K a).stop i H/\D.nx σ H)\/((Itl K a).go i H/\∃ N:St->Hp->Prop,(∀ σ' H',N σ' H'->∃ m',m'<m/\W (i+1) m' σ' H')/\∀ x H',(Itl K a).yld i H x H'->g x σ H' λ σ2 H2=>tb {D with nx:=N,ct:=N,bk:=D.nx} σ2 H2):=by
 refine⟨λ i m σ H=>m=xs.length-i/\i<=xs.length/\Pv i σ H,⟨xs.length,by simp,aN _,h0⟩,?_⟩;rintro i m σ H ⟨rfl,hi,p⟩;have q:=hl i σ H hi p;by_cases hlt:i<xs.length
 ·refine .inr ⟨⟨xs,xs[i],q,by simp[hlt]⟩,Pv (i+1),λ σ' H' p'=>⟨xs.length-(i+1),by lia,rfl,hlt,p'⟩,λ x H' y=>?_⟩;obtain⟨e,y⟩:=y;subst e;exact hs i x σ _ (y xs q) p
 ·have e:i=xs.length:=by lia
  subst e;exact .inl ⟨⟨xs,q,ay _⟩,hd σ H p⟩
theorem Jx {K:gG}{a:Addr}{xs:List V}{g:TG}{tb:TS}{D:Ends}{σ:St}{H:Hp}(Pv:Nat->St->Hp->Prop)(h0:Pv 0 σ H)(hl:∀ i σ H,i<=xs.length->Pv i σ H->SqT K H a xs)
  (hs:∀ i x σ H,xs[i]?=My x->Pv i σ H->g x σ H λ σ2 H2=>tb {D with nx:=Pv (i+1),ct:=Pv (i+1),bk:=D.nx} σ2 H2) (hd:∀ σ H,Pv xs.length σ H->D.nx σ H) :
  ∃ W:Nat->Nat->St->Hp->Prop,(∃ m,W 0 m σ H)/\∀ i m σ H,W i m σ H ->
   ((Itt K a).stop i H/\D.nx σ H)\/((Itt K a).go i H/\∃ N:St->Hp->Prop,(∀ σ' H',N σ' H'->∃ m',m'<m/\W (i+1) m' σ' H')/\∀ x H',(Itt K a).yld i H x H'->g x σ H' λ σ2 H2=>tb {D with nx:=N,ct:=N,bk:=D.nx} σ2 H2):=by
 refine⟨λ i m σ H=>m=xs.length-i/\i<=xs.length/\Pv i σ H,⟨xs.length,by simp,aN _,h0⟩,?_⟩;rintro i m σ H ⟨rfl,hi,p⟩;have q:=hl i σ H hi p;by_cases hlt:i<xs.length
 ·refine .inr ⟨⟨xs,xs[i],q,by simp[hlt]⟩,Pv (i+1),λ σ' H' p'=>⟨xs.length-(i+1),by lia,rfl,hlt,p'⟩,λ x H' y=>?_⟩;obtain⟨e,y⟩:=y;subst e;exact hs i x σ _ (y xs q) p
 ·have e:i=xs.length:=by lia
  subst e;exact .inl ⟨⟨xs,q,ay _⟩,hd σ H p⟩
theorem ng {lo:Int}{n:Nat}{g:TG}{tb:TS}{D:Ends}{σ:St}{H:Hp}(Pv:Nat->St->Hp->Prop)(h0:Pv 0 σ H)
  (hs:∀ i σ H,i<n->Pv i σ H->g (.int (lo+i)) σ H λ σ2 H2=>tb {D with nx:=Pv (i+1),ct:=Pv (i+1),bk:=D.nx} σ2 H2) (hd:∀ σ H,Pv n σ H->D.nx σ H) :
  ∃ W:Nat->Nat->St->Hp->Prop,(∃ m,W 0 m σ H)/\∀ i m σ H,W i m σ H ->
   ((Itr lo n).stop i H/\D.nx σ H)\/((Itr lo n).go i H/\∃ N:St->Hp->Prop,(∀ σ' H',N σ' H'->∃ m',m'<m/\W (i+1) m' σ' H')/\∀ x H',(Itr lo n).yld i H x H'->g x σ H' λ σ2 H2=>tb {D with nx:=N,ct:=N,bk:=D.nx} σ2 H2):=by
 refine⟨λ i m σ H=>m=n-i/\i<=n/\Pv i σ H,⟨n,by simp,aN _,h0⟩,?_⟩;rintro i m σ H ⟨rfl,hi,p⟩;by_cases hlt:i<n
 ·refine .inr ⟨hlt,Pv (i+1),λ σ' H' p'=>⟨n-(i+1),by lia,rfl,hlt,p'⟩,λ x H' y=>?_⟩;obtain⟨e,y⟩:=y;subst e y;exact hs i σ _ hlt p
 ·have e:i=n:=by lia
  subst e;exact .inl ⟨ay _,hd σ H p⟩
abbrev R2:=V->V->Hp->VK->Prop
def OpR (X:Cx)(f:gH->gH->Sem gH)(r:R2):Prop :=
 ∀ (pins:gL) (s:gJ) (σ:St) (H:Hp) (x y:V) (v u:gH) (Q:VK),Inv X pins σ H s->RelV x v->RelV y u->r x y H Q ->
  wpAny (model X.prog X.w) X.A (f v u) (EP X pins σ Q) X.xe s
def UnR (X:Cx)(f:gH->Sem gH)(r:V->Hp->VK->Prop):Prop :=
 ∀ (pins:gL) (s:gJ) (σ:St) (H:Hp) (x:V) (v:gH) (Q:VK),Inv X pins σ H s->RelV x v->r x H Q ->
  wpAny (model X.prog X.w) X.A (f v) (EP X pins σ Q) X.xe s
def jB (X:Cx)(f:gH)(r:List V->Hp->VK->Prop):Prop :=
 ∀ (pins:gL) (s:gJ) (σ:St) (H:Hp) (xs:List V) (us:List gH) (Q:VK),Inv X pins σ H s->Vals xs us->r xs H Q ->
  wpAny (model X.prog X.w) X.A (call f us) (EP X pins σ Q) X.xe s
def Q4 (X:Cx)(r:V->Hp->(Bool->Hp->Prop)->Prop):Prop :=
 ∀ (pins:gL) (s:gJ) (σ:St) (H:Hp) (x:V) (v:gH) (Q:Bool->Hp->Prop),Inv X pins σ H s->RelV x v->r x H Q ->
  wpAny (model X.prog X.w) X.A (truthy v) (TP X pins σ Q) X.xe s
def tOp (r:R2)(ta tb:TE):TE:=λ σ H Q=>ta σ H λ x H1=>tb σ H1 λ y H2=>r x y H2 Q
def tUn (r:V->Hp->VK->Prop)(ta:TE):TE:=λ σ H Q=>ta σ H λ x H1=>r x H1 Q
def rI (C:Int->Int->Prop)(g:Int->Int->V):R2:=λ x y H Q=>∃ i j,x=.int i/\y=.int j/\C i j/\Q (g i j) H
def rI0 (g:Int->Int->V):R2:=λ x y H Q=>∃ i j,x=.int i/\y=.int j/\Q (g i j) H
def rU (g:Int->V):V->Hp->VK->Prop:=λ x H Q=>∃ i,x=.int i/\Q (g i) H
section
variable {X:Cx}{a b c:Expr}{ta tb tc:TE}{pos:Pos}
theorem Mz (ha:PE X a ta)(hb:PE X b tb){pins:gL}{s:gJ}{σ:St}{H:Hp}{R:V->V->Hp->Prop}(I:Inv X pins σ H s)
  (h:ta σ H λ x H1=>tb σ H1 λ y H2=>R x y H2) {Q:gE} {f:gH->gH->Sem gH}
  (hf:∀ v u s2 x y H2,Inv X pins σ H2 s2->RelV x v->RelV y u->R x y H2->wpAny (model X.prog X.w) X.A (f v u) Q X.xe s2) :
  wpAny (model X.prog X.w) X.A (eval a X.env) (λ v s₁=>wpAny (model X.prog X.w) X.A (eval b X.env) (λ u s₂=>wpAny (model X.prog X.w) X.A (f v u) Q X.xe s₂) X.xe s₁) X.xe s:=by
 refine thn (ha pins s σ H _ I h) λ v s1 ⟨x,H1,I1,r1,q1⟩=>?_;refine thn (hb pins s1 σ H1 _ I1 q1) λ u s2 ⟨y,H2,I2,r2,q2⟩=>?_;exact hf v u s2 x y H2 I2 r1 r2 q2
theorem jC {op:Operator}{r:R2}(ho:OpR X (binaryOp op) r)(ha:PE X a ta)(hb:PE X b tb):PE X (.BinOp a op b pos) (tOp r ta tb):=by intro pins s σ H Q I h;exact wpAny_BinOp (Mz ha hb I h λ v u s2 x y H2 I2 rx ry q=>ho pins s2 σ H2 x y v u Q I2 rx ry q)
theorem D7 {op:UnaryOp}{r:V->Hp->VK->Prop}(ho:UnR X (unaryOp op) r)(ha:PE X a ta):PE X (.UnaryOp op a pos) (tUn r ta):=by intro pins s σ H Q I h;exact UnaryOp_ (thn (ha pins s σ H _ I h) λ v s1 ⟨x,H1,I1,r1,q1⟩=>ho pins s1 σ H1 x v Q I1 r1 q1)
theorem opI {f:gH->gH->Sem gH}{C:Int->Int->Prop}{g:Int->Int->Int}
  (rule:∀ (i j:Int) (t u:Tok) (s:gJ) (Q:gE) (E:gE),C i j->Q (.int (g i j) s.toks) {s with toks:=s.toks+1}->wpAny (model X.prog X.w) X.A (f (.int i t) (.int j u)) Q E s) :
  OpR X f (rI C λ i j=>.int (g i j)):=by
 intro pins s σ H x y v u Q I rx ry h;obtain⟨i,j,rfl,rfl,hc,q⟩:=h;obtain⟨t,rfl⟩:=rx;obtain⟨t',rfl⟩:=ry;exact rule i j t t' s _ _ hc ⟨.int (g i j),H,I.tok _,⟨_,rfl⟩,q⟩
theorem OU {f:gH->gH->Sem gH}{g:Int->Int->Int}
  (rule:∀ (i j:Int) (t u:Tok) (s:gJ) (Q:gE) (E:gE),Q (.int (g i j) s.toks) {s with toks:=s.toks+1}->wpAny (model X.prog X.w) X.A (f (.int i t) (.int j u)) Q E s) :
  OpR X f (rI0 λ i j=>.int (g i j)):=by
 intro pins s σ H x y v u Q I rx ry h;obtain⟨i,j,rfl,rfl,q⟩:=h;obtain⟨t,rfl⟩:=rx;obtain⟨t',rfl⟩:=ry;exact rule i j t t' s _ _ ⟨.int (g i j),H,I.tok _,⟨_,rfl⟩,q⟩
theorem MA {f:gH->gH->Sem gH}{g:Int->Int->Bool}
  (rule:∀ (i j:Int) (t u:Tok) (s:gJ) (Q:gE) (E:gE),Q (.bool (g i j)) s->wpAny (model X.prog X.w) X.A (f (.int i t) (.int j u)) Q E s) :
  OpR X f (rI0 λ i j=>.bl (g i j)):=by
 intro pins s σ H x y v u Q I rx ry h;obtain⟨i,j,rfl,rfl,q⟩:=h;obtain⟨t,rfl⟩:=rx;obtain⟨t',rfl⟩:=ry;exact rule i j t t' s _ _ ⟨.bl (g i j),H,I,rfl,q⟩
def Q5 (i j:Int):Prop:=0<j/\j<1073741824
def MB (i j:Int):Prop:=0<=j/\j<=1000000/\i.natAbs<2 ^ 64
def Jy (i j:Int):Prop:=(-(2 ^ 64)<i/\i<2 ^ 64)\/(-(2 ^ 64)<j/\j<2 ^ 64)
theorem Jy.ok {i j:Int}(h:Jy i j):IntMulOk i j:=by
 rcases h with⟨h1,h2⟩ | ⟨h1,h2⟩
 ·exact .of_left (intBits_le_64 h1 h2)
 ·exact .of_right (intBits_le_64 h1 h2)
theorem qt:OpR X (binaryOp .Add) (rI0 λ i j=>.int (i+j)):=OU λ _ _ _ _ _ _ _ q=>add_int q
theorem zZ:OpR X (binaryOp .Sub) (rI0 λ i j=>.int (i-j)):=OU λ _ _ _ _ _ _ _ q=>sub_int q
theorem uC:OpR X (binaryOp .Mult) (rI Jy λ i j=>.int (i*j)):=opI λ _ _ _ _ _ _ _ hc q=>mul_int q hc.ok
theorem Jz:OpR X (binaryOp .FloorDiv) (rI Q5 λ i j=>.int (i / j)):=opI λ i j _ _ _ _ _ hc q=>by have h1:(0:Int)<j:=hc.1;have h2:j<1073741824:=hc.2;exact floordiv_int (by lia) (by rw[Int.fdiv_eq_ediv_of_nonneg i (by lia)];exact q) (.inl (PyProof.noPylong_small (by lia)))
theorem z0:OpR X (binaryOp .Mod) (rI (λ _ j=>0<j) λ i j=>.int (i % j)):=opI λ i j _ _ _ _ _ hc q=>by have h1:(0:Int)<j:=hc;exact mod_int' (by lia) (by rw[Int.fmod_eq_emod_of_nonneg i (by lia)];exact q)
theorem z3:OpR X (binaryOp .Pow) (rI MB λ i j=>.int (i ^ j.toNat)):=opI λ _ _ _ _ _ _ _ hc q=>pow_int_small hc.1 hc.2.1 hc.2.2 q
theorem unI {f:gH->Sem gH}{g:Int->Int}
  (rule:∀ (i:Int) (t:Tok) (s:gJ) (Q:gE) (E:gE),Q (.int (g i) s.toks) {s with toks:=s.toks+1}->wpAny (model X.prog X.w) X.A (f (.int i t)) Q E s) :
  UnR X f (rU λ i=>.int (g i)):=by
 intro pins s σ H x v Q I rx h;obtain⟨i,rfl,q⟩:=h;obtain⟨t,rfl⟩:=rx;exact rule i t s _ _ ⟨.int (g i),H,I.tok _,⟨_,rfl⟩,q⟩
theorem z_:UnR X (unaryOp .USub) (rU λ i=>.int (-i)):=unI λ _ _ _ _ _ q=>neg_int q
end
def MC:V->V->Bool
 | .non,.non=>S_ | .non,.int _=>S_ | .int _,.non=>S_ | .non,.bl _=>S_ | .bl _,.non=>S_ | .non,.str _=>S_ | .str _,.non=>S_
 | .int _,.int _=>S_ | .bl _,.bl _=>S_ | .str _,.str _=>S_ | .byt _,.byt _=>S_
 | .int _,.str _=>S_ | .str _,.int _=>S_ | .bl _,.str _=>S_ | .str _,.bl _=>S_
 | _,_=>Ta
def rEq:R2:=λ x y H Q=>MC x y=S_/\Q (.bl (decide (x=y))) H
def rNe:R2:=λ x y H Q=>MC x y=S_/\Q (.bl (!decide (x=y))) H
theorem Aa {i j:Int}:decide (V.int i=V.int j)=(i==j):=by rw[bj];simp
theorem CW {i j:Bool}:decide (V.bl i=V.bl j)=(i==j):=by rw[bj];simp
theorem Ab {i j:Str}:decide (V.str i=V.str j)=(i==j):=by rw[bj];simp
theorem D8 {i j:Array UInt8}:decide (V.byt i=V.byt j)=(i.toList==j.toList):=by rw[bj];cases i;cases j;simp
section
variable {X:Cx}{a b c:Expr}{ta tb tc:TE}{pos:Pos}
theorem i_ {pins:gL}{σ:St}{H:Hp}{s:gJ}{Q:VK}{k k':Bool}(I:Inv X pins σ H s)(q:Q (.bl k) H)(e:k=k'):EP X pins σ Q (.bool k') s:=by subst e;exact⟨.bl k,H,I,rfl,q⟩
theorem LB:OpR X (compareOp .Eq) rEq:=by
 intro pins s σ H x y v u Q I rx ry h;obtain⟨hs,q⟩:=h;cases x with
 | non =>
  cases rx;cases y with
  | non=>cases ry;exact PySem.EqNone.eq_none_none (i_ I q (by simp))
  | bl j=>cases ry;exact PySem.EqNone.eq_none_bool (i_ I q (by simp))
  | int j=>obtain⟨t',rfl⟩:=ry;exact PySem.EqNone.eq_none_int (i_ I q (by simp))
  | str j=>obtain⟨t',rfl⟩:=ry;exact PySem.EqNone.eq_none_str (i_ I q (by simp))
  | _=>exact absurd (show Ta=S_ from hs) aw
 | bl i =>
  cases rx;cases y with
  | non=>cases ry;exact PySem.EqNone.eq_bool_none (i_ I q (by simp))
  | bl j=>cases ry;exact eq_bool (i_ I q CW)
  | str j=>obtain⟨t',rfl⟩:=ry;exact PySem.EqMixed.eq_bool_str (i_ I q (by simp))
  | _=>exact absurd (show Ta=S_ from hs) aw
 | int i =>
  obtain⟨t,rfl⟩:=rx;cases y with
  | non=>cases ry;exact PySem.EqNone.eq_int_none (i_ I q (by simp))
  | int j=>obtain⟨t',rfl⟩:=ry;exact eq_int (i_ I q Aa)
  | str j=>obtain⟨t',rfl⟩:=ry;exact PySem.EqMixed.eq_int_str (i_ I q (by simp))
  | _=>exact absurd (show Ta=S_ from hs) aw
 | str i =>
  obtain⟨t,rfl⟩:=rx;cases y with
  | non=>cases ry;exact PySem.EqNone.eq_str_none (i_ I q (by simp))
  | bl j=>cases ry;exact PySem.EqMixed.eq_str_bool (i_ I q (by simp))
  | int j=>obtain⟨t',rfl⟩:=ry;exact PySem.EqMixed.eq_str_int (i_ I q (by simp))
  | str j=>obtain⟨t',rfl⟩:=ry;exact eq_str (i_ I q Ab)
  | _=>exact absurd (show Ta=S_ from hs) aw
 | byt i =>
  obtain⟨t,rfl⟩:=rx;cases y with
  | byt j=>obtain⟨t',rfl⟩:=ry;exact PySem.W.eq_bytes (i_ I q D8)
  | _=>exact absurd (show Ta=S_ from hs) aw
 | _=>cases y<;>exact absurd (show Ta=S_ from hs) aw
theorem LC:OpR X (compareOp .NotEq) rNe:=by
 intro pins s σ H x y v u Q I rx ry h;obtain⟨hs,q⟩:=h;cases x with
 | non =>
  cases rx;cases y with
  | non=>cases ry;exact PySem.EqNone.ne_none_none (i_ I q (by simp))
  | bl j=>cases ry;exact PySem.EqNone.ne_none_bool (i_ I q (by simp))
  | int j=>obtain⟨t',rfl⟩:=ry;exact PySem.EqNone.ne_none_int (i_ I q (by simp))
  | str j=>obtain⟨t',rfl⟩:=ry;exact PySem.EqNone.ne_none_str (i_ I q (by simp))
  | _=>exact absurd (show Ta=S_ from hs) aw
 | bl i =>
  cases rx;cases y with
  | non=>cases ry;exact PySem.EqNone.ne_bool_none (i_ I q (by simp))
  | bl j=>cases ry;exact ne_bool (i_ I q (cK not CW))
  | str j=>obtain⟨t',rfl⟩:=ry;exact PySem.EqMixed.ne_bool_str (i_ I q (by simp))
  | _=>exact absurd (show Ta=S_ from hs) aw
 | int i =>
  obtain⟨t,rfl⟩:=rx;cases y with
  | non=>cases ry;exact PySem.EqNone.ne_int_none (i_ I q (by simp))
  | int j=>obtain⟨t',rfl⟩:=ry;exact ne_int (i_ I q (cK not Aa))
  | str j=>obtain⟨t',rfl⟩:=ry;exact PySem.EqMixed.ne_int_str (i_ I q (by simp))
  | _=>exact absurd (show Ta=S_ from hs) aw
 | str i =>
  obtain⟨t,rfl⟩:=rx;cases y with
  | non=>cases ry;exact PySem.EqNone.ne_str_none (i_ I q (by simp))
  | bl j=>cases ry;exact PySem.EqMixed.ne_str_bool (i_ I q (by simp))
  | int j=>obtain⟨t',rfl⟩:=ry;exact PySem.EqMixed.ne_str_int (i_ I q (by simp))
  | str j=>obtain⟨t',rfl⟩:=ry;exact ne_str (i_ I q (cK not Ab))
  | _=>exact absurd (show Ta=S_ from hs) aw
 | byt i =>
  obtain⟨t,rfl⟩:=rx;cases y with
  | byt j=>obtain⟨t',rfl⟩:=ry;exact PySem.W.ne_bytes (i_ I q (cK not D8))
  | _=>exact absurd (show Ta=S_ from hs) aw
 | _=>cases y<;>exact absurd (show Ta=S_ from hs) aw
theorem LD:OpR X (compareOp .Lt) (rI0 λ i j=>.bl (decide (i<j))):=MA λ _ _ _ _ _ _ _ q=>lt_int q
theorem OV:OpR X (compareOp .LtE) (rI0 λ i j=>.bl (decide (i<=j))):=MA λ _ _ _ _ _ _ _ q=>le_int q
theorem OW:OpR X (compareOp .GtE) (rI0 λ i j=>.bl (decide (j<=i))):=MA λ _ _ _ _ _ _ _ q=>ge_int q
theorem MD:OpR X (compareOp .Is) (λ x y H Q=>y=.non/\Q (.bl (decide (x=.non))) H):=by
 intro pins s σ H x y v u Q I rx ry h;obtain⟨rfl,q⟩:=h;cases ry;refine is_none_gen (i_ I q ?_);cases x<;>first
  | (cases rx;rfl)
  | (obtain⟨t,rfl⟩:=rx;rfl)
theorem wI (b:Expr){op:CmpOp}(h:op≠.In:=by decide)(h2:op≠.NotIn:=by decide):behindInMarks op b=Ta:=by
 have e1:(op==CmpOp.In)=Ta:=by cases op<;>first | rfl | exact absurd rfl h
 have e2:(op==CmpOp.NotIn)=Ta:=by cases op<;>first | rfl | exact absurd rfl h2
 cases b<;>simp[behindInMarks,e1,e2]
theorem JA {op:CmpOp}{r:R2}(ho:OpR X (compareOp op) r)(ha:PE X a ta)(hb:PE X b tb)(hm:behindInMarks op b=Ta):PE X (.Compare a [op] [b] pos) (tOp r ta tb):=by intro pins s σ H Q I h;exact wpAny_Compare1 (Mz ha hb I h λ v u s2 x y H2 I2 rx ry q=>ho pins s2 σ H2 x y v u Q I2 rx ry q) hm
def GH (t:TE):TT:=λ σ H Q=>t σ H λ x H'=>∃ k,x=.bl k/\Q k H'
theorem vX {op:CmpOp}{r:R2}(ho:OpR X (compareOp op) r)(ha:PE X a ta)(hb:PE X b tb)(hm:behindInMarks op b=Ta):PT X (.Compare a [op] [b] pos) (GH (tOp r ta tb)):=by
 intro pins s σ H Q I h;refine wpAny_isTrue_Compare1 (thn (ha pins s σ H _ I h) λ v s1 ⟨x,H1,I1,r1,q1⟩=>thn (hb pins s1 σ H1 _ I1 q1) λ u s2 ⟨y,H2,I2,r2,q2⟩ =>thn (ho pins s2 σ H2 x y v u _ I2 r1 r2 q2) λ c s3 ⟨z,H3,I3,r3,k,e,q3⟩=>?_) hm
 subst e;cases r3;exact bU ⟨H3,I3,q3⟩
def CY (r r':R2)(ta tb tc:TE):TE:=λ σ H Q=>ta σ H λ x H1=>tb σ H1 λ y H2=>r x y H2 λ z H3=>∃ k,z=.bl k /\
 (if k=S_ then tc σ H3 λ w' H4=>r' y w' H4 Q else Q (.bl Ta) H3)
theorem GI {op op':CmpOp}{r r':R2}(ho:OpR X (compareOp op) r)(ho':OpR X (compareOp op') r')(ha:PE X a ta)(hb:PE X b tb)(hc:PE X c tc)
  (hm:lastMarks [op,op'] [b,c]=Ta:=by with_unfolding_all rfl):PE X (.Compare a [op,op'] [b,c] pos) (CY r r' ta tb tc):=by
 intro pins s σ H Q I h;refine Compare_chain (thn (ha pins s σ H _ I h) λ v s1 ⟨x,H1,I1,r1,q1⟩=>chain_link (thn (hb pins s1 σ H1 _ I1 q1) λ u s2 ⟨y,H2,I2,r2,q2⟩ =>thn (ho pins s2 σ H2 x y v u _ I2 r1 r2 q2) λ d s3 ⟨z,H3,I3,r3,k,e,q3⟩=>?_)) hm
 subst e;cases r3;refine bU ?_;cases k with
 | false=>exact ite_ff ⟨.bl Ta,H3,I3,rfl,q3⟩
 | true=>exact ite_tt (chain_last (thn (hc pins s3 σ H3 _ I3 q3) λ w' s4 ⟨z',H4,I4,r4,q4⟩=>ho' pins s4 σ H4 y z' u w' Q I4 r2 r4 q4))
theorem GJ {op op':CmpOp}{r r':R2}(ho:OpR X (compareOp op) r)(ho':OpR X (compareOp op') r')(ha:PE X a ta)(hb:PE X b tb)(hc:PE X c tc)
  (hm:lastMarks [op,op'] [b,c]=Ta:=by with_unfolding_all rfl):PT X (.Compare a [op,op'] [b,c] pos) (GH (CY r r' ta tb tc)):=by
 intro pins s σ H Q I h;refine isTrue_chain (thn (ha pins s σ H _ I h) λ v s1 ⟨x,H1,I1,r1,q1⟩=>test_link (thn (hb pins s1 σ H1 _ I1 q1) λ u s2 ⟨y,H2,I2,r2,q2⟩ =>thn (ho pins s2 σ H2 x y v u _ I2 r1 r2 q2) λ d s3 ⟨z,H3,I3,r3,k,e,q3⟩=>?_)) hm
 subst e;cases r3;refine bU ?_;cases k with
 | false =>obtain⟨k',e',q'⟩:=q3;cases e';exact ite_ff ⟨H3,I3,q'⟩
 | true =>refine ite_tt (test_last (thn (hc pins s3 σ H3 _ I3 q3) λ w' s4 ⟨z',H4,I4,r4,q4⟩=>thn (ho' pins s4 σ H4 y z' u w' _ I4 r2 r4 q4) λ d' s5 ⟨z2,H5,I5,r5,k2,e2,q5⟩=>?_));subst e2;cases r5;exact bU ⟨H5,I5,q5⟩
def JB (K:gG)(x:V)(H:Hp)(k:Bool):Prop :=
 match x with
 | .non=>k=Ta
 | .bl b=>k=b
 | .int i=>k=(i != 0)
 | .str y=>y.length<=sizeLine/\k=((y.length:Int) != 0)
 | .byt y=>y.size<=sizeLine/\k=((y.size:Int) != 0)
 | .ref p=>(∃ xs,SqL K H p xs/\k=!xs.isEmpty)\/(∃ xs,SqT K H p xs/\k=!xs.isEmpty)\/∃ kvs,H p=My (.dK kvs)/\k=!kvs.isEmpty
 | _=>False
theorem CZ {κ:Type}{kvs:List (κ×V)}{vs:List (κ×gH)}(r:KV kvs vs):(!vs.isEmpty)=!kvs.isEmpty:=by cases r<;>rfl
theorem wJ {xs:List V}{its:List gH}(r:Vals xs its):(!its.toArray.isEmpty)=!xs.isEmpty:=by cases r<;>simp
theorem uD:(sizeLine:Nat)<2 ^ 63:=by rw[sizeLine_eq];decide
theorem ME:Q4 X (λ x H Q=>∃ k,JB X.K x H k/\Q k H):=by
 intro pins s σ H x v Q I rx h;obtain⟨k,e,q⟩:=h;have hl:=uD;have hs:sizeLine=16777216:=sizeLine_eq;cases x with
 | non =>cases rx;have e':k=Ta:=e;subst e';exact truthy_none ⟨H,I,q⟩
 | bl b =>cases rx;have e':k=b:=e;subst e';exact bU ⟨H,I,q⟩
 | int i =>obtain⟨t,rfl⟩:=rx;have e':k=(i != 0):=e;subst e';exact PySem.P.truthy_int ⟨H,I,q⟩
 | str y =>obtain⟨t,rfl⟩:=rx;obtain⟨hy,e'⟩:y.length<=sizeLine/\k=((y.length:Int) != 0):=e;subst e';exact PySem.P.truthy_str (by lia) ⟨H,I.tok _,q⟩
 | byt y =>obtain⟨t,rfl⟩:=rx;obtain⟨hy,e'⟩:y.size<=sizeLine/\k=((y.size:Int) != 0):=e;subst e';exact PySem.W.truthy_bytes (by lia) ⟨H,I.tok _,q⟩
 | ref p =>
  cases rx;have e':(∃ xs,SqL X.K H p xs/\k=!xs.isEmpty)\/(∃ xs,SqT X.K H p xs/\k=!xs.isEmpty)\/∃ kvs,H p=My (.dK kvs)/\k=!kvs.isEmpty:=e;rcases e' with⟨xs,hx,e'⟩ | ⟨xs,hx,e'⟩ | ⟨kvs,hx,e'⟩
  ·subst e';obtain⟨its,r,pl,hz⟩:=I.list hx;have hlen:=r.length;exact wpAny_truthy_list pl.isList (by simp only[au];lia) ⟨H,I.tok _,by rw[wJ r];exact q⟩
  ·subst e';obtain⟨its,r,pl,hz⟩:=I.tuple hx;have hlen:=r.length;exact truthy_tuple pl (by simp only[au];lia) ⟨H,I.tok _,by rw[wJ r];exact q⟩
  ·subst e';obtain⟨hz,hS,vs,r,m⟩:kvs.length<=sizeLine/\(p==sysModules)=Ta/\∃ vs,KV kvs vs/\s.heap.DictOf (jv X.prog X.w) p vs:=I.hok p _ hx;have hlen:kvs.length=vs.length:=fu r;exact wpAny_truthy_dict hS m (by lia) ⟨H,I.tok _,by rw[CZ r];exact q⟩
 | _=>exact(show False from e).elim
theorem wK (ha:PE X a ta)(he:∀ whole,isTrue a X.env whole=(do let v<-whole;standAt a.pos;holding [v] (truthy v))) :
  PT X a (λ σ H Q=>ta σ H λ x H'=>∃ k,JB X.K x H' k/\Q k H'):=by
 intro pins s σ H Q I h;exact isTrue_plain (thn (ha pins s σ H _ I h) λ v s1 ⟨x,H1,I1,r1,q1⟩=>ME pins s1 σ H1 x v Q I1 r1 q1) (he _)
theorem vals1 {x:V}{us:List gH}(r:Vals [x] us):∃ u,us=[u]/\RelV x u:=by
 cases r with
 | cons r1 r2=>cases r2;exact⟨_,rfl,r1⟩
theorem vals2 {x y:V}{us:List gH}(r:Vals [x,y] us):∃ u w',us=[u,w']/\RelV x u/\RelV y w':=by
 cases r with
 | cons r1 r2 =>
  cases r2 with
  | cons r3 r4=>cases r4;exact⟨_,_,rfl,r1,r3⟩
theorem uE (hc:X.calm=S_):jB X (.builtin "max") (λ xs H Q=>∃ i j,xs=[.int i,.int j]/\Q (.int (if j>i then j else i)) H):=by
 intro pins s σ H xs us Q I r h;obtain⟨i,j,rfl,q⟩:=h;obtain⟨u,w',rfl,⟨t,rfl⟩,⟨t',rfl⟩⟩:=vals2 r;refine max_two_ints (I.ok.hd hc) λ h' tk k=>⟨_,H,I.kept k,?_,q⟩;by_cases hj:j>i
 ·rw[ai hj,ai hj];exact⟨_,rfl⟩
 ·rw[ak hj,ak hj];exact⟨_,rfl⟩
theorem uF (hc:X.calm=S_):jB X (.builtin "min") (λ xs H Q=>∃ i j,xs=[.int i,.int j]/\Q (.int (if j<i then j else i)) H):=by
 intro pins s σ H xs us Q I r h;obtain⟨i,j,rfl,q⟩:=h;obtain⟨u,w',rfl,⟨t,rfl⟩,⟨t',rfl⟩⟩:=vals2 r;refine min_two_ints (I.ok.hd hc) λ h' tk k=>⟨_,H,I.kept k,?_,q⟩;by_cases hj:j<i
 ·rw[ai hj,ai hj];exact⟨_,rfl⟩
 ·rw[ak hj,ak hj];exact⟨_,rfl⟩
end
section
variable {prog:Program}{w:World}{A:Around}{E:gE}{s:gJ}{K:gG}{x dx C f:Addr}{mA:gD}{name:Str}{v:gH}
end
theorem yw.some_of {v:V}{o:gF gH}(r:yw (My v) o):∃ u,o=My u/\RelV v u:=by
 cases o with
 | none=>exact(show False from r).elim
 | some u=>exact⟨u,rfl,r⟩
section
variable {P:Program}{w:World}{H H':Hp}{h h':Heap}{a C dx:Addr}{fs fs':List (Str×V)}
end
section
variable {X:Cx}{pins:gL}{σ:St}{H:Hp}{s:gJ}{a C dx:Addr}{fs:List (Str×V)}{f:Str}{v:V}{A:Around}{E:gE}
end
section
variable {X:Cx}{o e value:Expr}{f:Str}{pos pos' tpos:Pos}{ta tv:TE}
end
section
variable {X:Cx}{pins:gL}{σ:St}{H:Hp}{s:gJ}{A:Around}{E:gE}{Q:gE}{c:gH}{b:Bool}
end
structure jt (k:Nat)(A:Around):Prop where
 hd:A.handled=SY
 dp:A.depth+3*k+5<recursionLimit
 un:A.units+16*k+200<cLine
 gd:A.guards=My []
theorem jt.mono {j k:Nat}{A:Around}(r:jt k A)(h:j<=k):jt j A:=⟨r.hd,by have:=r.dp;lia,by have:=r.un;lia,r.gd⟩
theorem jt.deeper {k:Nat}{A:Around}(r:jt (k+1) A)(env:Env):jt k (A.deeper env) :=
 ⟨r.hd,by have:=r.dp;show A.depth+1+3*k+5<_;lia,by have:=r.un;show A.units+3+16*k+200<_;lia,r.gd⟩
theorem jt.depth {k:Nat}{A:Around}(r:jt k A):A.depth<recursionLimit:=by have:=r.dp;lia
theorem jt.units {k:Nat}{A:Around}(r:jt k A):A.units+64<cLine:=by have:=r.un;lia
def iL:TA:=λ _ H Q=>Q [] H
def g0 (ta:TE)(tr:TA):TA:=λ σ H Q=>ta σ H λ x H1=>tr σ H1 λ xs H2=>Q (x::xs) H2
section
variable {X:Cx}{e:Expr}{es:List Expr}{te:TE}{t:TA}{pos:Pos}
theorem g9:PA X [] iL:=λ _ _ _ _ H Q I h=>Calls.spliced_nil ⟨[],H,I,.nil,h⟩
theorem gQ (ha:PE X e te)(hr:PA X es t)(hs:starEach (e::es) X.env=(Ta,eval e X.env)::starEach es X.env:=by rfl):PA X (e::es) (g0 te t):=by intro pos pins s σ H Q I h;rw[hs];show wpAny _ _ (spliced ((Ta,eval e X.env)::backTo pos (starEach es X.env))) _ _ s;refine Calls.spliced_cons (thn (ha pins s σ H _ I h) λ u s1 ⟨x,H1,I1,r1,q1⟩=>?_);exact thn (hr pos pins s1 σ H1 _ I1 q1) λ us s2 ⟨xs,H2,I2,r2,q2⟩=>⟨x::xs,H2,I2,.cons r1 r2,q2⟩
def yz (t:TA):TE:=λ σ H Q=>t σ H λ xs H1=>xs.length<=sizeLine/\∀ p,H1 p=SY->Q (.ref p) (upd H1 p (.tup xs))
def qu (t:TA):TE:=λ σ H Q=>t σ H λ xs H1=>xs.length<=sizeLine/\∀ p,H1 p=SY->Q (.ref p) (upd H1 p (.lst xs))
theorem qv {x1}(h:PA X es t):PE X (.Tuple es x1 pos) (yz t):=by intro pins s σ H Q I hq;refine wpAny_Tuple_spliced (thn (h pos pins s σ H _ I hq) λ us s1 ⟨xs,H1,I1,r,z,q⟩=>⟨by rw[<-r.length];exact z,?_⟩);have hf:H1 s1.heap.objs.size=SY:=I1.hok.fresh (ay _);refine⟨.ref s1.heap.objs.size,upd H1 s1.heap.objs.size (.tup xs),I1.laid (t':=s1.toks) (λ b u e=>ah _ e) (ay _) ?_,rfl,q _ hf⟩;exact⟨⟨z,_,aE _ rfl,rfl⟩,us,r,⟨_,aE _ rfl,rfl,_,rfl⟩⟩
theorem jV (h:PA X es t):PE X (.List es pos) (qu t):=by intro pins s σ H Q I hq;refine wpAny_List_spliced (thn (h pos pins s σ H _ I hq) λ us s1 ⟨xs,H1,I1,r,z,q⟩=>⟨by rw[<-r.length];exact z,?_⟩);have hf:H1 s1.heap.objs.size=SY:=I1.hok.fresh (ay _);refine⟨.ref s1.heap.objs.size,upd H1 s1.heap.objs.size (.lst xs),I1.laid (t':=s1.toks) (λ b u e=>ah _ e) (ay _) ?_,rfl,q _ hf⟩;exact⟨z,us,0,r,aE _ rfl⟩
end
abbrev Sp:=List V->Hp->VK->XK->Prop
abbrev CXT:=List Env->Hp->gJ->XK->gH->gJ->Prop
structure Fn (P:Program)(w:World)(K:gG)(mg:gD)(base:Heap)(A:Around)(outer:List Env)(s:gJ)(H:Hp):Prop where
 frames:A.frames=My outer
 mod:Mod K mg base
 bs:∀ b o,base.get? b=My o->s.heap.get? b=My o/\H b=SY
 bsz:base.objs.size<=s.heap.objs.size
 uy:s.heap.FunFrames base outer
 frf:∀ b∈frs outer,H b=SY
 hok:HOk P w H s.heap
 bare:AllBare s.gens
def CE (outer:List Env)(P:Program)(w:World)(H:Hp)(s:gJ)(Q:VK)(u:gH)(s':gJ):Prop :=
 ∃ v H',s'.os=s.os/\AllBare s'.gens/\Un (frs outer) [] H H' s.heap s'.heap/\HOk P w H' s'.heap/\RelV v u/\Q v H'
def CR (CX:CXT)(outer:List Env)(P:Program)(w:World)(H:Hp)(s:gJ)(Q:VK)(E:XK)(r:Result)(s':gJ):Prop :=
 match r with
 | .ok (.ret u)=>CE outer P w H s Q u s'
 | .ok _=>False
 | .error e=>CX outer H s E e s'
structure pj (P:Program)(w:World)(K:gG)(mg:gD)(base:Heap)(CX:CXT)(k:Nat)(f:Addr)(fd:FuncData)(ps:List Str)(sp:Sp):Prop where
 len:∀ vs H Q E,sp vs H Q E->vs.length=ps.length
 run:∀ (A:Around) (outer:List Env) (s:gJ) (H:Hp) (args:Args) (us:List gH) (vs:List V) (Q:VK) (E:XK),jt k A->Fn P w K mg base A outer s H->BindsTo s fd args (ps.zip us)->Vals vs us->sp vs H Q E ->
  codeAny (model P w) A (.call (.ref f) args) (CR CX outer P w H s Q E) s
section
variable {X:Cx}{pins:gL}{σ:St}{H:Hp}{s s':gJ}
theorem Inv.OX (I:Inv X pins σ H s):Fn X.prog X.w X.K X.mg X.base X.A X.stack s H :=
 ⟨I.ok.frames,I.ok.mod,I.bs,bC I.ok.bsz I.sz,I.stack,I.sN,I.hok,I.bare⟩
theorem Inv.after {Q:VK}{u:gH}(I:Inv X pins σ H s)(h:CE X.stack X.prog X.w H s Q u s'):EP X pins σ Q u s':=by obtain⟨v,H',os,bare,un,hok,r,q⟩:=h;obtain⟨hh,g,d,t,os'⟩:=s';obtain rfl:os'=s.os:=os;exact⟨v,H',I.call (h':=hh) (g':=g) (d':=d) (t':=t) (ch:=[]) un hok bare (λ b z=>absurd z (by simp)),r,q⟩
end
def jr (sp:Sp)(dvs:List V)(E:XK)(t:TA):TE:=λ σ H Q=>t σ H λ vs H1=>sp (vs++dvs) H1 Q E
def Binds (K:gG)(fd:FuncData)(ps:List Str)(ds:List gH):Prop :=
 ∀ (s:gJ) (us:List gH),K.In s.heap->(us++ds).length=ps.length->BindsTo s fd ⟨us,[]⟩ (ps.zip (us++ds))
theorem Binds.all {K:gG}{fd:FuncData}{ps:List Str}(h:∀ us:List gH,us.length=ps.length->bindArgs fd ⟨us,[]⟩=pure (ps.zip us)):Binds K fd ps []:=λ s us _ hl=>by rw[bA]at hl ⊢;exact .of_eq (h us hl)
def Passes (CX:CXT)(X:Cx)(E:XK):Prop:=∀ (pins:gL) (σ:St) (H:Hp) (s:gJ) (e:gH) (s':gJ),Inv X pins σ H s->CX X.stack H s E e s'->X.xe e s'
section
variable {X:Cx}{CX:CXT}{k:Nat}{f C:Addr}{fd:FuncData}{ps:List Str}{sp:Sp}{dvs:List V}{ds:List gH}{E:XK}{x m:Str}{p pos apos:Pos}{e o:Expr}{es:List Expr}{ta:TE}{t:TA}
theorem MF {pins:gL}{σ:St}{H:Hp}{s:gJ}{Q:VK}{us:List gH}{vs:List V}(F:pj X.prog X.w X.K X.mg X.base CX k f fd ps sp)(hr:jt k X.A)(hb:Binds X.K fd ps ds)(hd:Vals dvs ds)(hx:Passes CX X E)
  (I:Inv X pins σ H s) (r:Vals vs us) (h:sp (vs++dvs) H Q E):wpAny (model X.prog X.w) X.A (call (.ref f) us) (EP X pins σ Q) X.xe s:=by
 have r2:Vals (vs++dvs) (us++ds):=r.append hd;have hl:(us++ds).length=ps.length:=by rw[<-r2.length];exact F.len _ _ _ _ h
 refine f_ (codeAny_mono (F.run X.A X.stack s H ⟨us,[]⟩ (us++ds) (vs++dvs) Q E hr I.OX (hb s us I.kIn hl) r2 h) λ r s' hq=>?_);cases r with
 | error e=>exact hx pins σ H s e s' I hq
 | ok fl =>
  cases fl with
  | ret u=>exact I.after hq
  | next=>exact False.elim hq
  | brk=>exact False.elim hq
  | cont=>exact False.elim hq
theorem sR (F:pj X.prog X.w X.K X.mg X.base CX k f fd ps sp)(hr:jt k X.A)(hg:Gl X x)(hm:X.mg x=My (.ref f))(hk:PySem.W.keepIn X.K (.ref f)=S_)(hb:Binds X.K fd ps ds)(hd:Vals dvs ds)(hx:Passes CX X E)
  (ha:PA X (e::es) t) (hdb:(x==("__debug__":Str))=Ta:=by decide) (he:starEach (e::es) X.env=(Ta,eval e X.env)::starEach es X.env:=by rfl) (hpl:(backTo pos (starEach es X.env)).any (·.1)=Ta:=by rfl) :
  PE X (.Call (.Name x p) (e::es) [] pos) (jr sp dvs E t):=by
 intro pins s σ H Q I h;refine eG (sP I hg hm ?_ hdb);refine PySem.W.callWith_K (h₀:=X.base) I.ok.mod.kin hk (thn (ha pos pins s σ H _ I h) λ us s1 ⟨vs,H1,I1,r,q⟩=>⟨I1.kIn,?_⟩) he hpl;exact MF F hr hb hd hx I1 r q
end
section
variable {X:Cx}{CX:CXT}{k:Nat}{f C:Addr}{fd:FuncData}{ps ks:List Str}{sp:Sp}{E:XK}{x m:Str}{p pos apos kpos:Pos}{e o:Expr}{es:List Expr}{kws:List Keyword}{te ta:TE}{t tk:TA}{nm:gF Str}
variable {g:List gH->List gH->List gH}{gV:List V->List V->List V}
end
structure ie (N P:List Str)(sc:Scope):Prop where
 kind:sc.kind=.function
 co:sc.isCoroutine=Ta
 gen:sc.isGenerator=Ta
 nd:N.Nodup
 pre:N.take P.length=P
 par:∀ x∈P,sc.names.lookup x=My .local\/sc.names.lookup x=My .cell
 MG:∀ y∈sc.names,y.2≠.free
theorem zc {kindOf:Str->gF NameKind}{x:Str}:∀ {binds:List (Str×gH)} {m:gD},(∀ v,(x,v)∉binds)->bindL kindOf binds m x=m x
 | [],_,_=>rfl
 | (n,v)::r,m,h=>by
  unfold bindL;rw[zc λ w hw=>h w (ax _ hw)];split
  ·have:x≠n:=by rintro rfl;exact h v av
   simp[this]
  ·rfl
theorem zd {kindOf:Str->gF NameKind}{x:Str}:∀ {binds:List (Str×gH)} {m:gD},(∀ v,(x,v)∉binds)->bindC kindOf binds m x=m x
 | [],_,_=>rfl
 | (n,v)::r,m,h=>by
  unfold bindC;rw[zd λ w hw=>h w (ax _ hw)];split
  ·rfl
  ·have:x≠n:=by rintro rfl;exact h v av
   simp[this]
theorem ze {kindOf:Str->gF NameKind}{x:Str}{v:gH}:∀ {P:List Str} {vs:List gH} {i:Nat} {m:gD},P.Nodup->P[i]?=My x->vs[i]?=My v->kindOf x=My .local ->
  bindL kindOf (P.zip vs) m x=My v
 | [],_,_,_,_,h,_,_=>by simp at h
 | _::_,[],_,_,_,_,h,_=>by simp at h
 | p::P,w::vs,0,m,nd,h1,h2,hk=>by simp at h1 h2;subst h1;subst h2;show bindL kindOf ((p,w)::P.zip vs) m p=_;unfold bindL;rw[zc λ v hv=>(bc.mp nd).1 (fF hv).1,ai hk];simp
 | p::P,w::vs,i+1,m,nd,h1,h2,hk=>by show bindL kindOf ((p,w)::P.zip vs) m x=_;unfold bindL;exact ze (i:=i) (bc.mp nd).2 (by simpa using h1) (by simpa using h2) hk
theorem zh {kindOf:Str->gF NameKind}{x:Str}{v:gH}:∀ {P:List Str} {vs:List gH} {i:Nat} {m:gD},P.Nodup->P[i]?=My x->vs[i]?=My v->kindOf x≠My .local ->
  bindC kindOf (P.zip vs) m x=My v
 | [],_,_,_,_,h,_,_=>by simp at h
 | _::_,[],_,_,_,_,h,_=>by simp at h
 | p::P,w::vs,0,m,nd,h1,h2,hk=>by simp at h1 h2;subst h1;subst h2;show bindC kindOf ((p,w)::P.zip vs) m p=_;unfold bindC;rw[zd λ v hv=>(bc.mp nd).1 (fF hv).1,ak hk];simp
 | p::P,w::vs,i+1,m,nd,h1,h2,hk=>by show bindC kindOf ((p,w)::P.zip vs) m x=_;unfold bindC;exact zh (i:=i) (bc.mp nd).2 (by simpa using h1) (by simpa using h2) hk
def start (N:List Str)(vs:List V):St:=vs.map My++Td (N.length-vs.length) SY
def qo (CX:CXT)(P:Program)(w:World)(K:gG)(mg:gD)(base:Heap)(N:List Str)(qual:Str)(scope:Scope)(f:Addr)(cd:gH)(A:Around)(outer:List Env)(s:gJ)(H:Hp)(E:XK):Cx where
 prog:=P
 w:=w
 K:=K
 mg:=mg
 base:=base
 A:=A.deeper (envOfC qual scope s.heap.objs.size f cd)
 N:=N
 s₀:=s
 H₀:=H
 env:=envOfC qual scope s.heap.objs.size f cd
 outer:=outer
 stack:=envOfC qual scope s.heap.objs.size f cd::outer
 ex:=[]
 calm:=S_
 fn:=λ _=>S_
 pn:=[]
 xe:=λ e s'=>wpAny (model P w) (A.deeper (envOfC qual scope s.heap.objs.size f cd)) (leaving (envOfC qual scope s.heap.objs.size f cd) e) (λ _ s''=>CX outer H s E e s'') (λ e' s''=>CX outer H s E e' s'') s'
theorem Bp {sc:Scope}{n:Nat}{x:Str}(h:sc.names.lookup x=My .cell):∃ c,(cellsFrom n sc.names []).lookup x=My c:=by have q:=eR sc.names n [] (.inl h);exact dM.mp q
theorem zi {CX:CXT}{P:Program}{w:World}{K:gG}{mg:gD}{base:Heap}{N ps:List Str}{qual:Str}{scope:Scope}{f:Addr}{cd:gH}{A:Around}{outer:List Env}{s s1:gJ}{H:Hp}{E:XK}{us:List gH}{vs:List V}
  (S:ie N ps scope) (hd:A.handled=SY) (e0:Fn P w K mg base A outer s H) (hl:vs.length=ps.length) (r:Vals vs us)
  (x:InCallC s s.heap.objs.size (bindL (envOfC qual scope s.heap.objs.size f cd).kindOf (ps.zip us) λ _=>SY) (cellsFrom (s.heap.objs.size+1) scope.names []) (bindC (envOfC qual scope s.heap.objs.size f cd).kindOf (ps.zip us) λ _=>SY) s1) :
  Inv (qo CX P w K mg base N qual scope f cd A outer s H E) [] (start N vs) H s1:=by
 have hpl:ps.length<=N.length:=by have:=cK List.length S.pre;rw[bR]at this;lia
 obtain⟨h1,tk,rfl,hk⟩:=x.done;have noA:∀ b:Addr,b∉(qo CX P w K mg base N qual scope f cd A outer s H E).ex:=λ b z=>absurd (show b∈([]:List Addr) from z) (by simp);refine⟨⟨e0.mod,S.kind,rfl,rfl,ay _,λ y z c h1 h2=>?_,λ y hy=>?_,λ y c _ h=>?_,λ _=>hd,Around.frames_deeper e0.frames,.inr ⟨rfl,rfl⟩,λ b z=>absurd z (noA b),e0.bs,e0.bsz,λ b _ _=>noA b,λ b z=>absurd z (noA b),e0.uy,e0.frf⟩,
  rfl,e0.bare,Un.kept hk,⟨_,x.toInCall.ns,λ i y v h1 h2 h3=>?_⟩,λ y c h=>⟨_,x.cell y c h⟩,e0.hok.fresh (ay _),λ y c h=>?_,λ p hp=>absurd (show p∈([]:gL) from hp) (by simp),e0.hok.kept hk,?_⟩
 ·exact name_of_addr x.apart (cR h1) (cR h2)
 ·have hy:scope.names.lookup y=My .cell\/scope.names.lookup y=My .free:=hy
  rcases hy with hy | hy
  ·exact Bp hy
  ·exact absurd rfl (S.MG _ (cR hy))
 ·exact d_ (x.above y c (cR h))
 ·have hi:i<vs.length:=by
   unfold start at h2;by_cases hi:i<vs.length
   ·exact hi
   ·rw[bL (by simpa using hi)]at h2;rw[List.getElem?_replicate]at h2;split at h2<;>cases h2
  have ha:vs[i]?=My v:=by
   unfold start at h2;rw[bP (by simpa using hi),aK]at h2;cases e:vs[i]? with
   | none=>rw[e]at h2;cases h2
   | some a=>rw[e]at h2;cases h2;rfl
  obtain⟨u,hu,rv⟩:=r.get ha;have hp:ps[i]?=My y:=by rw[<-S.pre,eo (by lia)];exact h1
  have ndP:ps.Nodup:=by rw[<-S.pre];exact S.nd.sublist (List.take_sublist _ _)
  refine⟨u,rv,?_⟩;rcases S.par y (bg hp) with k | k
  ·exact .inl ⟨k,ze ndP hp hu k⟩
  ·obtain⟨c,e⟩:=Bp (n:=s.heap.objs.size+1) k;refine .inr ⟨.inl k,c,e,?_⟩;have q:=x.cell y c e;rw[zh ndP hp hu (by show scope.names.lookup y≠_;rw[k];decide)]at q;exact q
 ·exact e0.hok.fresh (d_ (x.above y c (cR h)))
 ·unfold start;show _=N.length;rw[aH,af,fc];lia
theorem LF {CX:CXT}{P:Program}{w:World}{K:gG}{mg:gD}{base:Heap}{k:Nat}{f:Addr}{name qual:Str}{params:Arguments}{body:List Stmt}{scope:Scope}{dV kV doc pm cdv ct oc:gH}{an od:gF Addr}
  {osl:Array (gF gH)} {N ps:List Str} {sp:Sp} (lk:K.lookup f=My ⟨oc,od,.func (PySem.W.fnOf name qual params body scope dV kV doc pm an cdv ct),osl⟩) (hcd:PySem.W.codeIn K cdv qual=S_) (S:ie N ps scope)
  (len:∀ vs H Q E,sp vs H Q E->vs.length=ps.length)
  (hbody:∀ (A:Around) (outer:List Env) (s:gJ) (H:Hp) (vs:List V) (Q:VK) (E:XK),jt k (A.deeper (envOfC qual scope s.heap.objs.size f cdv))->sp vs H Q E ->
   ∃ t,PSs (qo CX P w K mg base N qual scope f cdv A outer s H E) body t/\t {nx:=λ _ H'=>Q .non H',rt:=Q} (start N vs) H) :
  pj P w K mg base CX (k+1) f (PySem.W.fnOf name qual params body scope dV kV doc pm an cdv ct) ps sp:=by
 refine⟨len,λ A outer s H args us vs Q E hr e0 hb r hsp=>?_⟩;have hl:=len _ _ _ _ hsp;have KX:K.In s.heap:=e0.mod.kin.keeps λ b o e=>(e0.bs b o e).1;have lim:s.heap.NoLimit:=e0.mod.nolimit.keeps λ b o e=>(e0.bs b o e).1;have hkind:∀ y∈ps.zip us,scope.names.lookup y.1=My .local\/(scope.names.lookup y.1=My .cell/\((cellsFrom (s.heap.objs.size+1) scope.names []).lookup y.1).isSome=S_):=λ⟨n,v⟩ hy=>by
  rcases S.par n (fF hy).1 with q | q
  ·exact .inl q
  ·exact .inr ⟨q,eR _ _ _ (.inl q)⟩
 refine codeAny_call_function hr.depth (KX _ _ lk) rfl S.co S.gen rfl (PySem.W.codeRec_of KX hcd) (hb _ _ _ _ ?_);refine wpAny_newFunctionEnv_cells S.kind hkind λ env he s1 x=>?_;subst he;refine⟨lim.keeps x.toInCall.keep,codeAny_func ?_⟩;obtain⟨t,ht,hq⟩:=hbody A outer s H vs Q E (hr.deeper _) hsp;have I:Inv (qo CX P w K mg base N qual scope f cdv A outer s H E) [] (start N vs) H s1:=zi S hr.hd e0 hl r x;refine cZ (ht [] s1 (start N vs) H _ I hq) (λ fl s' hs=>?_) λ e s' hs=>hs;have fin:∀ {σ':St} {H':Hp} {v:V} {u:gH},Inv (qo CX P w K mg base N qual scope f cdv A outer s H E) [] σ' H' s'->RelV v u->Q v H'->CE outer P w H s Q u s' :=
  λ{σ' H' v u} J rv q=>⟨v,H',J.os,J.bare,J.base,J.hok,rv,q⟩
 cases fl with
 | ret u =>obtain⟨v,σ',H',J,rv,q⟩:=hs;exact fin J rv q
 | next =>obtain⟨σ',H',J,q⟩:=hs;exact fin (v:=V.non) (u:=Value.none) J rfl q
 | brk =>obtain⟨_,_,_,q⟩:=hs;exact False.elim q
 | cont =>obtain⟨_,_,_,q⟩:=hs;exact False.elim q
section
variable {X:Cx}{x:Str}{p pos:Pos}{e:Expr}{es:List Expr}{t:TA}{id T:String}{r:List V->Hp->VK->Prop}
def tCB (r:List V->Hp->VK->Prop)(t:TA):TE:=λ σ H Q=>t σ H λ vs H1=>r vs H1 Q
theorem jO (hc:jB X (.builtin id) r)(hg:Gl X x)(hm:X.mg x=SY)(hv:bootBuiltins x=My (.builtin id))(ha:PA X (e::es) t)(hn:x≠"__name__":=by decide)(hdb:(x==("__debug__":Str))=Ta:=by decide)
  (he:starEach (e::es) X.env=(Ta,eval e X.env)::starEach es X.env:=by rfl) (hpl:(backTo pos (starEach es X.env)).any (·.1)=Ta:=by rfl):PE X (.Call (.Name x p) (e::es) [] pos) (tCB r t):=by
 intro pins s σ H Q I h;refine eG (uz I hg hm hv ?_ hn hdb);exact PyProof.Rows.callWith_builtin1 (thn (ha pos pins s σ H _ I h) λ us s1 ⟨vs,H1,I1,r1,q1⟩=>hc pins s1 σ H1 vs us Q I1 r1 q1) he hpl
theorem kK (hc:jB X (.type T) r)(hg:Gl X x)(hm:X.mg x=SY)(hv:bootBuiltins x=My (.type T))(ha:PA X (e::es) t)(hn:x≠"__name__":=by decide)(hdb:(x==("__debug__":Str))=Ta:=by decide)
  (he:starEach (e::es) X.env=(Ta,eval e X.env)::starEach es X.env:=by rfl) (hpl:(backTo pos (starEach es X.env)).any (·.1)=Ta:=by rfl):PE X (.Call (.Name x p) (e::es) [] pos) (tCB r t):=by
 intro pins s σ H Q I h;refine eG (uz I hg hm hv ?_ hn hdb);exact cU (thn (ha pos pins s σ H _ I h) λ us s1 ⟨vs,H1,I1,r1,q1⟩=>hc pins s1 σ H1 vs us Q I1 r1 q1) he hpl
end
end L2
namespace HT
open PySem PyProof.Rows
def lexLt:List Int->List Int->Bool
 | [],[]=>Ta
 | [],_::_=>S_
 | _::_,[]=>Ta
 | x::xs,y::ys=>if x=y then lexLt xs ys else decide (x<y)
theorem C0 (x y:Int)(xs ys:List Int):lexLt (x::xs) (y::ys)=if x=y then lexLt xs ys else decide (x<y):=rfl
theorem yA:lexLt [] []=Ta:=rfl
theorem wL (y:Int)(ys:List Int):lexLt [] (y::ys)=S_:=rfl
theorem wM (x:Int)(xs:List Int):lexLt (x::xs) []=Ta:=rfl
theorem GK (A:Around)(s:gJ)(a:Int)(t:Tok)(c:Int)(u:Tok):∃ e,SeqAt.EqAt A s (.int a t) (.int c u) e/\(e=S_↔a=c) :=
 ⟨(a==c),SeqAt.EqAt.int_int a t c u,by simp⟩
theorem GL (A:Around)(s:gJ)(a:Int)(t:Tok)(c:Int)(u:Tok)(prog:Program)(w:World)(E:gE)(Q:gE)(h:Q (.bool (decide (a<c))) s) :
  wpAny (model prog w) A (richCompare .Lt (.int a t) (.int c u)) Q E s :=
 (PyProof.Rows.lt_int h:wpAny (model prog w) A (compareOp .Lt (.int a t) (.int c u)) Q E s)
section
open PySem.SeqAt
open PySem.AutoSeq1 (wpAny_loadPart')
open PySem.MeetsSeq PySem.MeetsSeq2 PySem.MeetsSeq3
theorem yD (l b:Addr)(items items2:Array gH)(n n2:Nat)(dd dd2:gF Addr)(sl sl2:Array (gF gH))(ns ms:List Int)(hi:IntsAre items.toList ns)(hj:IntsAre items2.toList ms) :
  Meets (Builtin.«tuple.__lt__» ⟨[.ref l,.ref b],[]⟩)
   (λ _ R s=>s.heap.get? l=My {cls:=.type "tuple",dict:=dd,data:=.seq items n,slots:=sl}/\s.heap.get? b=My {cls:=.type "tuple",dict:=dd2,data:=.seq items2 n2,slots:=sl2} /\
    R (.ok (.ret (.bool (lexLt ns ms)))) s) :=
 .of_wp λ prog w A R s h=>by
  obtain⟨hp,g,d,tk,os⟩:=s;obtain⟨hl,hb,h⟩:=h;have f2:=AutoSeq1.sub_tuple_tuple;have z1:items.size=ns.length:=by rw[<-hi.length];simp
  have z2:items2.size=ms.length:=by rw[<-hj.length];simp
  wp_walk using wpAny_loadPart' hl,wpAny_loadPart' hb,wpAny_forIn_list _ (λ rest b s'=>b.1=SY/\s'=⟨hp,g,d,tk,os⟩/\∃ (vs ws:List gH) (ns' ms':List Int),rest=vs.zip ws /\
   IntsAre vs ns'/\IntsAre ws ms'/\ns'.length+items2.size=ms'.length+items.size/\R (.ok (.ret (.bool (lexLt ns' ms')))) ⟨hp,g,d,tk,os⟩) _
  case turn =>
   rintro⟨y,x⟩ rest b s' ⟨hb',rfl,vs,ws,ns',ms',hz,hvi,hwi,hlen,hR⟩;cases hvi with
   | nil=>rw[List.zip_nil_left]at hz;cases hz
   | cons a t hvi' =>
    cases hwi with
    | nil=>rw[List.zip_nil_right]at hz;cases hz
    | cons c u hwi' =>
     rw[fL]at hz;injection hz with hyx hrest;injection hyx with hy hx;subst hy hx;rw[C0]at hR;simp only[bK]at hlen;obtain⟨e,he,hiff⟩:=GK A.in1 ⟨hp,g,d,tk,os⟩ a t c u;refine ae (he prog w _ _ ?_);cases e with
     | true =>
      rw[ai (hiff.mp rfl)]at hR
      wp_walk
      exact⟨rfl,rfl,_,_,_,_,hrest,hvi',hwi',by lia,hR⟩
     | false =>
      rw[ak (λ q=>absurd (hiff.mpr q) aw)]at hR;have hri:=GL A.in1 ⟨hp,g,d,tk,os⟩ a t c u prog w
      wp_walk using hri
      exact⟨_,rfl,by simpa using hR⟩
  case fin =>
   rintro⟨b1,b2⟩ s' ⟨hb',rfl,vs,ws,ns',ms',hz,hvi,hwi,hlen,hR⟩;simp only at hb';subst hb';have hv:lexLt ns' ms'=decide (items.size<items2.size):=by
    cases hvi with
    | nil =>
     cases hwi with
     | nil =>simp only[eE]at hlen;rw[yA];exact(decide_eq_false (by lia)).symm
     | cons c u hw =>simp only[eE,bK]at hlen;rw[wL];exact(decide_eq_true (by lia)).symm
    | cons a t hv =>
     cases hwi with
     | nil =>simp only[eE,bK]at hlen;rw[wM];exact(decide_eq_false (by lia)).symm
     | cons c u hw =>rw[fL]at hz;cases hz
   rw[hv]at hR
   wp_walk
   exact⟨_,rfl,by simpa [Builtin.Tuple.tupleCompareSizes] using hR⟩
  case h =>exact⟨rfl,rfl,items.toList,items2.toList,ns,ms,rfl,hi,hj,by lia,h⟩
end
section
variable {prog:Program}{w:World}{A:Around}{E:gE}{s:gJ}
theorem C1 {l b:Addr}{items items2:Array gH}{ns ms:List Int}{Q:gE}(hl:IsTup s.heap l items)(hb:IsTup s.heap b items2)(hi:IntsAre items.toList ns)(hj:IntsAre items2.toList ms)
  (hu:A.units<cLine) (h:Q (.bool (lexLt ns ms)) s):wpAny (model prog w) A (compareOp .Lt (.ref l) (.ref b)) Q E s:=by
 obtain⟨⟨cls,dd,data,sl⟩,ho,hc,n,hd⟩:=id hl;obtain⟨⟨cls2,dd2,data2,sl2⟩,ho2,hc2,n2,hd2⟩:=id hb;simp only at hc hd hc2 hd2;subst hc hd hc2 hd2;exact richCompare_meets_room (op:=.Lt) ⟨_,ho,rfl⟩ ⟨_,ho2,rfl⟩ PySem.F.slot_tuple_lt PySem.F.entry_tuple_lt (PySem.F.args_tuple_lt_2 _ _) (yD l b items items2 n n2 dd dd2 sl sl2 ns ms hi hj)
  ⟨ho,ho2,show Value.bool (lexLt ns ms)≠Value.notImplemented/\Q (.bool (lexLt ns ms)) s from ⟨(λ x=>nomatch x),h⟩⟩ hu
theorem JC {t b:Addr}{vs ws:List gH}{Q:gE}(ht:IsTup s.heap t vs.toArray)(hb:IsTup s.heap b ws.toArray)(hv:vs≠[])
  (h1:ws=[]->Q (.ref t) s) (h2:ws≠[]->Q (.ref s.heap.objs.size) {s with heap:=s.heap.push {cls:=.type "tuple",data:=.seq (vs++ws).toArray}})
  (hsz:vs.length+ws.length<=sizeLine):wpAny (model prog w) A (binaryOp .Add (.ref t) (.ref b)) Q E s:=by
 obtain⟨⟨cls,dd,data,sl⟩,ho,hc,n,hd⟩:=id ht;obtain⟨⟨cls2,dd2,data2,sl2⟩,ho2,hc2,n2,hd2⟩:=id hb;simp only at hc hd hc2 hd2;subst hc hd hc2 hd2;have e:vs.toArray++ws.toArray=(vs++ws).toArray:=by simp
 by_cases hw:ws=[]
 ·exact concat_meets ⟨_,ho,rfl⟩ ⟨_,ho2,rfl⟩ noFill_tuple_add seq_tuple_add eS eO (eu _ _)
   (tuple_addW1 t b vs.toArray ws.toArray n n2 dd dd2 sl sl2 (by simpa using hv) (by simp[hw])) ⟨ho,ho2,h1 hw⟩
 ·refine concat_meets ⟨_,ho,rfl⟩ ⟨_,ho2,rfl⟩ noFill_tuple_add seq_tuple_add eS eO (eu _ _)
   (tuple_addW2 t b vs.toArray ws.toArray n n2 dd dd2 sl sl2 (by simpa using hv) (by simpa using hw) (by rw[au,au];exact hsz)) ⟨ho,ho2,?_⟩
  rw[e];exact h2 hw
def sIx (n d:Nat):gF Int->Nat
 | none=>d
 | some v=>if v<0 then (v+(n:Int)).toNat else min v.toNat n
theorem wN (n d:Nat):sIx n d SY=d:=rfl
theorem nV (n d k:Nat):sIx n d (My (k:Int))=min k n:=by show(if (k:Int)<0 then ((k:Int)+(n:Int)).toNat else min (k:Int).toNat n)=min k n;rw[ak (by lia),bV]
theorem MH (n d:Nat)(hd:d<=n)(o:gF Int):sIx n d o<=n:=by
 cases o with
 | none=>exact hd
 | some v =>
  show(if v<0 then (v+(n:Int)).toNat else min v.toNat n)<=n;by_cases hv:v<0
  ·rw[ai hv];lia
  ·rw[ak hv];exact Nat.min_le_right _ _
theorem D9 (v:Int)(n d:Nat):(if v<0 then max (v+(n:Int)) 0 else min v (n:Int))=((sIx n d (My v):Nat):Int):=by
 show(if v<0 then max (v+(n:Int)) 0 else min v (n:Int))=(((if v<0 then (v+(n:Int)).toNat else min v.toNat n):Nat):Int);by_cases hv:v<0
 ·simp only[ai hv];lia
 ·simp only[ak hv];lia
theorem C2 (lo hi:gF Int)(n:Nat):Builtin.Slice.sliceAdjust lo hi 1 (n:Int)=(((sIx n 0 lo:Nat):Int),((sIx n n hi:Nat):Int)):=by
 have h1:¬ ((1:Int)<0):=by lia
 unfold Builtin.Slice.sliceAdjust;simp only[h1,cv];refine gy ?_ ?_
 ·cases lo with
  | none=>rfl
  | some v=>exact D9 v n 0
 ·cases hi with
  | none=>rfl
  | some v=>exact D9 v n n
theorem C3 (i j:Nat):Builtin.Slice.slicePlaces (i:Int) (j:Int) 1=j-i:=by
 unfold Builtin.Slice.slicePlaces;have h1:(1:Int)>0:=by lia
 simp only[h1,d4,Int.ediv_one];split<;>lia
theorem nC {v:gH}{o:gF Int}{Q:gF Int->gJ->Prop}(p:IsPart v o)(h:Q o s):wpAny (model prog w) A (Builtin.Slice.slicePartIndex v) Q E s:=by
 cases p with
 | none=>exact slicePart_none h
 | int i t=>exact slicePart_int h
theorem oK {sl:Addr}{vl vu:gH}{lo hi:gF Int}{n:Nat}{Q:Int×Int×Nat->gJ->Prop}(hs:s.heap.IsSliceOf sl vl vu .none)(pl:IsPart vl lo)(pu:IsPart vu hi)
  (h:Q (((sIx n 0 lo:Nat):Int),1,sIx n n hi-sIx n 0 lo) s):wpAny (model prog w) A (Builtin.Slice.sliceApplied (.ref sl) (pure (n:Int))) Q E s:=by
 obtain⟨os,hos,hcs,hds⟩:=id hs;unfold Builtin.Slice.sliceApplied Builtin.Slice.sliceFields;refine ae (ae (bX hos hds (x:=vl) rfl (ae (bX hos hds (x:=vu) rfl (ae (bX hos hds (x:=.none) rfl (ag ?_)))))));refine ae (slicePart_none ?_);show wpAny _ _ (if ((1:Int)==0)=S_ then _ else _) _ _ s;rw[ak (by decide)];refine ae (nC pl (ae (nC pu (ae (ag ?_)))));show wpAny _ _ (match Builtin.Slice.sliceAdjust lo hi 1 (n:Int) with | (lo,hi)=>pure (lo,(1:Int),Builtin.Slice.slicePlaces lo hi 1)) _ _ s;rw[C2 lo hi n];show wpAny _ _ (pure (((sIx n 0 lo:Nat):Int),(1:Int),Builtin.Slice.slicePlaces ((sIx n 0 lo:Nat):Int) ((sIx n n hi:Nat):Int) 1)) _ _ s;rw[C3];exact ag h
theorem GN (xs:Array gH)(i k:Nat):((Tc k).filterMap λ(m:Nat)=>xs[((i:Int)+(m:Int)*1).toNat]?).toArray=((xs.toList.drop i).take k).toArray:=by
 have e:(λ(m:Nat)=>xs[((i:Int)+(m:Int)*1).toNat]?)=λ m=>xs[i+m]?:=by
  funext m;have:((i:Int)+(m:Int)*1).toNat=i+m:=by lia
  rw[this]
 rw[e];have:=pick_run xs i k;rw[List.filterMap_map]at this;have e2:((λ x=>xs[x]?)∘λ x=>i+x)=λ m=>xs[i+m]?:=rfl;rw[e2]at this;rw[this]
theorem sS {t sl:Addr}{items:Array gH}{vl vu:gH}{lo hi:gF Int}{Q:gE}(ht:IsTup s.heap t items)(hs:s.heap.IsSliceOf sl vl vu .none)(pl:IsPart vl lo)(pu:IsPart vu hi)
  (hw:¬ (sIx items.size 0 lo=0/\sIx items.size items.size hi=items.size))
  (h:Q (.ref s.heap.objs.size) {s with heap:=s.heap.push {cls:=.type "tuple",data:=.seq ((items.toList.drop (sIx items.size 0 lo)).take (sIx items.size items.size hi-sIx items.size 0 lo)).toArray}})
  (hsz:items.size<=sizeLine):wpAny (model prog w) A (getItem (.ref t) (.ref sl)) Q E s:=by
 have htake:sizeOk (.seq ((items.toList.drop (sIx items.size 0 lo)).take (sIx items.size items.size hi-sIx items.size 0 lo)).toArray):=by show((items.toList.drop (sIx items.size 0 lo)).take (sIx items.size items.size hi-sIx items.size 0 lo)).toArray.size<=sizeLine;rw[au,bR,cz,bt];lia (config:={})
 have hj:sIx items.size items.size hi<=items.size:=MH _ _ (ay _) hi;obtain⟨os,hos,hcs,hds⟩:=id hs;have hTs:s.TypeIs (.ref sl) "slice":=⟨os,hos,hcs⟩;unfold getItem;try with_reducible refine bJ ?_
 first | refine ae (ag ?_) | skip
 refine ae (fU ht.typeIs (by decide) ?_);refine ae (bN (name:=Str.ofString "__getitem__") ht.typeIs ba
  (bS ba ht.typeIs entry_tuple_getitem ?_ (args_tuple_getitem _ _)))
 show wpAny _ _ (Builtin.Tuple.tupleItemsOf (.ref t)>>=_) _ _ s;refine ae (tupleItemsOf_ ht ?_);refine ae (eT hTs ?_);rw[ai (by decide)];refine ae (oK hs pl pu ?_);have hno:¬ ((((sIx items.size 0 lo:Nat):Int)==0&&(1:Int)==1&&(sIx items.size items.size hi-sIx items.size 0 lo)==items.size)=S_):=by intro q;rw[aL,aL]at q;have q1:((sIx items.size 0 lo:Nat):Int)=0:=eq_of_beq q.1.1;have q2:sIx items.size items.size hi-sIx items.size 0 lo=items.size:=eq_of_beq q.2;exact hw ⟨by lia (config:={}),by lia (config:={})⟩
 show wpAny _ _ (if (((sIx items.size 0 lo:Nat):Int)==0&&(1:Int)==1&&(sIx items.size items.size hi-sIx items.size 0 lo)==items.size)=S_ then _ else _) _ _ s;rw[ak hno,GN];first
  | exact ae (m:=Builtin.Tuple.tupleExact _) (bD (ag ⟨_,rfl,ag h⟩) htake)
  | exact ae (m:=Builtin.Tuple.tupleExact _) (bD (ae (ag (ag ⟨_,rfl,ag h⟩))) htake)
  | exact ae (ae (m:=Builtin.Tuple.tupleExact _) (bD (ag (ag ⟨_,rfl,ag h⟩)) htake))
  | exact ae (ae (m:=Builtin.Tuple.tupleExact _) (bD (ag ⟨_,rfl,ag h⟩) htake))
end
end HT
namespace L2
open PySem PySem.Spec PyProof.Rows
abbrev TO:=St->Hp->(gF Int->Hp->Prop)->Prop
def PO (X:Cx)(e:gF Expr)(t:TO):Prop :=
 ∀ (pins:gL) (s:gJ) (σ:St) (H:Hp) (Q:gF Int->Hp->Prop),Inv X pins σ H s->t σ H Q ->
  wpAny (model X.prog X.w) X.A (evalPart e X.env) (λ u s'=>∃ o H',Inv X pins σ H' s'/\IsPart u o/\Q o H') X.xe s
def JD:TO:=λ _ H Q=>Q SY H
def OY (t:TE):TO:=λ σ H Q=>t σ H λ x H1=>∃ i,x=.int i/\Q (My i) H1
theorem intsAre_of {ns:List Int}:∀ {us:List gH},Vals (ns.map V.int) us->IntsAre us ns:=by
 induction ns with
 | nil=>intro us r;rw[dB]at r;cases r;exact .nil
 | cons n ns ih =>
  intro us r;rw[aR]at r;cases r with
  | cons r1 r2 =>obtain⟨t,e⟩:=r1;subst e;exact .cons n t (ih r2)
section
variable {X:Cx}{e:Expr}{te:TE}{lo hi:gF Expr}{tl th:TO}{pos p2:Pos}
theorem Ac:PO X SY JD:=by intro pins s σ H Q I h;rw[evalPart_none];exact ag ⟨SY,H,I,.none,h⟩
theorem Ad (h:PE X e te):PO X (My e) (OY te):=by intro pins s σ H Q I hw;rw[evalPart_some];refine thn (h pins s σ H _ I hw) λ u s1 ⟨x,H1,I1,r1,q1⟩=>?_;obtain⟨i,rfl,q⟩:=q1;obtain⟨t,rfl⟩:=r1;exact⟨My i,H1,I1,.int i t,q⟩
def SlR (X:Cx)(r:V->gF Int->gF Int->Hp->VK->Prop):Prop :=
 ∀ (pins:gL) (s:gJ) (σ:St) (H:Hp) (x:V) (v vl vu:gH) (lo hi:gF Int) (sl:Addr) (Q:VK),Inv X pins σ H s->RelV x v->s.heap.IsSliceOf sl vl vu .none->IsPart vl lo->IsPart vu hi->r x lo hi H Q ->
  ∃ T id,typeLookup (.type T) "__getitem__"=pure (My (.builtin id))/\s.TypeIs v T/\wpAny (model X.prog X.w) X.A (getItem v (.ref sl)) (EP X pins σ Q) X.xe s
theorem SlR.or {r r':V->gF Int->gF Int->Hp->VK->Prop}(h:SlR X r)(h':SlR X r'):SlR X (λ x lo hi H Q=>r x lo hi H Q\/r' x lo hi H Q):=by
 intro pins s σ H x v vl vu lo hi sl Q I rx hs pl pu q;rcases q with q | q
 ·exact h pins s σ H x v vl vu lo hi sl Q I rx hs pl pu q
 ·exact h' pins s σ H x v vl vu lo hi sl Q I rx hs pl pu q
def tSl (r:V->gF Int->gF Int->Hp->VK->Prop)(te:TE)(tl th:TO):TE:=λ σ H Q=>te σ H λ x H1=>tl σ H1 λ l H2=>th σ H2 λ u H3=>r x l u H3 Q
theorem wO {r:V->gF Int->gF Int->Hp->VK->Prop}(hr:SlR X r)(he:PE X e te)(hl:PO X lo tl)(hu:PO X hi th):PE X (.Subscript e (.Slice lo hi SY p2) pos) (tSl r te tl th):=by intro pins s σ H Q I h;refine Subscript_ (thn (he pins s σ H _ I h) λ v s1 ⟨x,H1,I1,r1,q1⟩=>?_);refine wpAny_Slice (thn (hl pins s1 σ H1 _ I1 q1) λ vl s2 ⟨l,H2,I2,pl,q2⟩=>thn (hu pins s2 σ H2 _ I2 q2) λ vu s3 ⟨u,H3,I3,pu,q3⟩=>?_);rw[evalPart_none];refine ag ?_;have I4:Inv X pins σ H3 {s3 with heap:=s3.heap.push {cls:=.type "slice",data:=.fields #[vl,vu,.none]}}:=I3.kept (t':=s3.toks) λ b ob q=>ah _ q;obtain⟨T,id,hT,ht,hg⟩:=hr pins {s3 with heap:=s3.heap.push {cls:=.type "slice",data:=.fields #[vl,vu,.none]}} σ H3 x v vl vu l u s3.heap.objs.size Q I4 r1 (Heap.IsSliceOf.new ..) pl pu q3;show wpAny (model X.prog X.w) X.A (subscriptTail e (.Slice lo hi SY p2) v (.ref s3.heap.objs.size)) (EP X pins σ Q) X.xe {s3 with heap:=s3.heap.push {cls:=.type "slice",data:=.fields #[vl,vu,.none]}};exact tail_any (ops:=[.ref s3.heap.objs.size,v]) ht hT hg (by with_unfolding_all rfl)
def vE (xs:List V)(lo hi:gF Int):List V:=(xs.drop (HT.sIx xs.length 0 lo)).take (HT.sIx xs.length xs.length hi-HT.sIx xs.length 0 lo)
theorem u6 (xs:List V)(lo hi:gF Int):(vE xs lo hi).length<=xs.length:=by unfold vE;rw[bR,cz];lia
def Q6 (K:gG):V->gF Int->gF Int->Hp->VK->Prop:=λ x lo hi H Q=>∃ a xs,x=.ref a/\SqT K H a xs /\
 ¬ (HT.sIx xs.length 0 lo=0/\HT.sIx xs.length xs.length hi=xs.length)/\∀ p,H p=SY->Q (.ref p) (upd H p (.tup (vE xs lo hi)))
theorem C4:SlR X (Q6 X.K):=by
 intro pins s σ H x v vl vu lo hi sl Q I rx hs pl pu h;obtain⟨a,xs,rfl,hx,hw,q⟩:=h;cases rx;obtain⟨its,r,ht,hz⟩:=I.tuple hx;have hlen:its.toArray.size=xs.length:=by rw[au];exact r.length.symm
 refine⟨"tuple",_,ba.lookup,ht.typeIs,?_⟩;refine HT.sS ht hs pl pu (by rw[hlen];exact hw) ?_ (by rw[hlen];exact hz);rw[hlen];refine⟨.ref s.heap.objs.size,_,I.laid (t':=s.toks) (o:=.tup (vE xs lo hi)) (λ b ob q=>ah _ q) (ay _) ?_,rfl,q _ (I.hok.fresh (ay _))⟩;exact⟨⟨bC (u6 xs lo hi) hz,_,aE _ rfl,rfl⟩,_,(r.drop (HT.sIx xs.length 0 lo)).take (HT.sIx xs.length xs.length hi-HT.sIx xs.length 0 lo),IsTup.new _ _⟩
def Q7 (K:gG):R2:=λ x y H Q=>∃ a b ns ms,x=.ref a/\y=.ref b/\SqT K H a (ns.map V.int)/\SqT K H b (ms.map V.int)/\Q (.bl (HT.lexLt ns ms)) H
theorem MI (hu:X.A.units<cLine):OpR X (compareOp .Lt) (Q7 X.K):=by intro pins s σ H x y v u Q I rx ry h;obtain⟨a,b,ns,ms,rfl,rfl,ha,hb,q⟩:=h;cases rx;cases ry;obtain⟨its,r1,p1,_⟩:=I.tuple ha;obtain⟨its2,r2,p2,_⟩:=I.tuple hb;have i1:IntsAre its.toArray.toList ns:=intsAre_of r1;have i2:IntsAre its2.toArray.toList ms:=intsAre_of r2;exact HT.C1 p1 p2 i1 i2 hu ⟨.bl (HT.lexLt ns ms),H,I,rfl,q⟩
def OZ (K:gG):R2:=λ x y H Q=>∃ a b xs ys,x=.ref a/\y=.ref b/\SqT K H a xs/\SqT K H b ys/\xs≠[]/\xs.length+ys.length<=sizeLine /\
 (ys=[]->Q (.ref a) H)/\(ys≠[]->∀ p,H p=SY->Q (.ref p) (upd H p (.tup (xs++ys))))
theorem Vals.Ae {xs:List V}{us:List gH}(r:Vals xs us):us=[]↔xs=[]:=by
 cases r with
 | nil=>simp
 | cons _ _=>simp
theorem JE:OpR X (binaryOp .Add) (OZ X.K):=by intro pins s σ H x y v u Q I rx ry h;obtain⟨a,b,xs,ys,rfl,rfl,ha,hb,hx,hz,q1,q2⟩:=h;cases rx;cases ry;obtain⟨its,r1,p1,_⟩:=I.tuple ha;obtain⟨its2,r2,p2,_⟩:=I.tuple hb;refine HT.JC p1 p2 (λ z=>hx (r1.Ae.mp z)) (λ z=>⟨.ref a,H,I,rfl,q1 (r2.Ae.mp z)⟩) (λ z=>?_) (by rw[<-r1.length,<-r2.length];exact hz);refine⟨.ref s.heap.objs.size,_,I.laid (t':=s.toks) (o:=.tup (xs++ys)) (λ b ob q=>ah _ q) (ay _) ?_,rfl,q2 (λ w=>z (r2.Ae.mpr w)) _ (I.hok.fresh (ay _))⟩;exact⟨⟨by rw[aH];exact hz,_,aE _ rfl,rfl⟩,_,r1.append r2,IsTup.new _ _⟩
end
def ixN (n:Nat)(i:Int):gF Nat:=if 0<=i then (if i<n then My i.toNat else SY) else if -(n:Int)<=i then My (i+n).toNat else SY
def atI {α:Type}(xs:List α)(i:Int):gF α:=(ixN xs.length i).bind λ j=>xs[j]?
theorem D_ {n:Nat}{i:Int}{j:Nat}(h:ixN n i=My j):seqIndex? i n=My j/\j<n/\-(n:Int)<=i/\i<n:=by
 unfold ixN at h;by_cases h0:0<=i
 ·rw[ai h0]at h
  by_cases h1:i<n
  ·rw[ai h1]at h;have e:i.toNat=j:=ao h;exact⟨by rw[seqIndex_of h0 h1,e],by lia,by lia,h1⟩
  ·rw[ak h1]at h;cases h
 ·rw[ak h0]at h
  by_cases h1:-(n:Int)<=i
  ·rw[ai h1]at h;have e:(i+n).toNat=j:=ao h;exact⟨by rw[seqIndex_neg (by lia) h1,e],by lia,h1,by lia⟩
  ·rw[ak h1]at h;cases h
theorem Ea {α:Type}{xs:List α}{i:Int}{v:α}(h:atI xs i=My v):∃ j,seqIndex? i xs.length=My j/\xs[j]?=My v/\j<xs.length/\-(xs.length:Int)<=i/\i<xs.length:=by
 unfold atI at h;cases e:ixN xs.length i with
 | none=>rw[e]at h;cases h
 | some j =>rw[e]at h;obtain⟨h1,h2,h3,h4⟩:=D_ e;exact⟨j,h1,h,h2,h3,h4⟩
theorem lh {α:Type}{xs:List α}{j:Nat}{v:α}(h:xs[j]?=My v):atI xs (j:Int)=My v:=by
 have hj:j<xs.length:=(aQ.mp h).1;have e:ixN xs.length (j:Int)=My j:=by unfold ixN;rw[ai (by lia),ai (by lia)];simp
 unfold atI;rw[e];exact h
theorem sT {α:Type}(xs:List α)(v:α):atI (xs++[v]) (-1)=My v:=by
 have hl:(xs++[v]).length=xs.length+1:=by simp
 have e:ixN (xs++[v]).length (-1)=My xs.length:=by unfold ixN;rw[hl,ak (by decide),ai (by lia)];congr 1;lia
 unfold atI;rw[e];show(xs++[v])[xs.length]?=My v;simp
def Eb (b:Expr):Prop:=∀ o i,subscripted b Ta o i=operate [o,i] (getItem o i)
def IxR (X:Cx)(r:R2):Prop :=
 ∀ (value slice:Expr) (pins:gL) (s:gJ) (σ:St) (H:Hp) (x y:V) (v u:gH) (Q:VK),Inv X pins σ H s->RelV x v->RelV y u->r x y H Q ->
  subscripted slice Ta v u=operate [v,u] (getItem v u)->wpAny (model X.prog X.w) X.A (subscriptTail value slice v u) (EP X pins σ Q) X.xe s
def MtR (X:Cx)(id:String)(r:V->List V->Hp->VK->Prop):Prop :=
 ∀ (pins:gL) (s:gJ) (σ:St) (H:Hp) (x:V) (xs:List V) (v:gH) (us:List gH) (Q:VK),Inv X pins σ H s->RelV x v->Vals xs us->r x xs H Q ->
  wpAny (model X.prog X.w) X.A (call (.builtin id) (v::us)) (EP X pins σ Q) X.xe s
section
variable {X:Cx}{a b:Expr}{ta tb:TE}{pos:Pos}
theorem lD {r:R2}(hr:IxR X r)(ha:PE X a ta)(hb:PE X b tb)(hs:Eb b):PE X (.Subscript a b pos) (tOp r ta tb):=by intro pins s σ H Q I h;exact Subscript_ (Mz ha hb I h λ v u s2 x y H2 I2 rx ry q=>hr a b pins s2 σ H2 x y v u Q I2 rx ry q (hs _ _))
def pz (K:gG):R2:=λ x y H Q=>∃ p xs i v,x=.ref p/\y=.int i/\SqL K H p xs/\atI xs i=My v/\Q v H
def JF (K:gG):R2:=λ x y H Q=>∃ p xs i v,x=.ref p/\y=.int i/\SqT K H p xs/\atI xs i=My v/\Q v H
theorem kr:IxR X (pz X.K):=by
 intro value slice pins s σ H x y v u Q I rx ry h hs;obtain⟨p,xs,i,z,rfl,rfl,hq,he,q⟩:=h;cases rx;obtain⟨t,rfl⟩:=ry;obtain⟨its,r,pl,hz⟩:=I.list hq;obtain⟨j,h1,h2,h3,h4,h5⟩:=Ea he;obtain⟨w,ew,rw'⟩:=r.get h2;have hl:=r.length;have hn:=uD;have fin:EP X pins σ Q w s:=⟨z,H,I,rw',q⟩;by_cases h0:0<=i
 ·have hj:i.toNat=j:=by
   rw[seqIndex_of h0 h5]at h1;exact ao h1
  exact item_listR pl.isList h0 (by lia) (by rw[hj];simpa using ew) fin hs
 ·have hj:(i+(its.toArray.size:Int)).toNat=j:=by
   rw[seqIndex_neg (by lia) h4]at h1;rw[au,<-hl];exact ao h1
  exact subscriptTail_builtinR (x:=w) pl.isList.typeIs slot_list_getitem.lookup
   (wpAny_getItem_list_neg (Q:=λ r s'=>r=w/\EP X pins σ Q r s') pl.isList (by lia) (by rw[au]<;>lia) (by lia) (by rw[hj];simpa using ew) ⟨rfl,fin⟩) hs
theorem rY:IxR X (JF X.K):=by
 intro value slice pins s σ H x y v u Q I rx ry h hs;obtain⟨p,xs,i,z,rfl,rfl,hq,he,q⟩:=h;cases rx;obtain⟨t,rfl⟩:=ry;obtain⟨its,r,pl,hz⟩:=I.tuple hq;obtain⟨j,h1,h2,h3,h4,h5⟩:=Ea he;obtain⟨w,ew,rw'⟩:=r.get h2;have hl:=r.length;have hn:=uD;have fin:EP X pins σ Q w s:=⟨z,H,I,rw',q⟩;exact subscriptTail_builtinR (x:=w) pl.typeIs slot_tuple_getitem.lookup
  (getItem_tuple (j:=j) (Q:=λ r s'=>r=w/\EP X pins σ Q r s') pl (by lia) (by lia) (by rw[au,<-hl];exact h1) (by simpa using ew) ⟨rfl,fin⟩) hs
theorem C5 (its:List gH)(n j:Nat)(u:gH):Obj.mapSeq (·.setIfInBounds j u) {cls:=.type "list",data:=.seq its.toArray n}={cls:=.type "list",data:=.seq (its.set j u).toArray n}:=by simp[Obj.mapSeq]
theorem Inv.lst {pins:gL}{σ:St}{H:Hp}{s:gJ}{p:Addr}{xs:List V}(I:Inv X pins σ H s)(h:H p=My (.lst xs)) :
  ∃ (its:List gH) (n:Nat),Vals xs its/\s.heap.get? p=My {cls:=.type "list",data:=.seq its.toArray n}/\xs.length<=sizeLine:=by
 obtain⟨z,its,n,r,e⟩:=I.hok p _ h;exact⟨its,n,r,e,z⟩
theorem Inv.MJ {pins:gL}{σ:St}{H:Hp}{s:gJ}{p:Addr}{xs ys:List V}{its its':List gH}{n n':Nat}{f:Obj->Obj}(I:Inv X pins σ H s)(h:H p=My (.lst xs))
  (ho:s.heap.get? p=My {cls:=.type "list",data:=.seq its.toArray n}) (hf:f {cls:=.type "list",data:=.seq its.toArray n}={cls:=.type "list",data:=.seq its'.toArray n'}) (r:Vals ys its') (hz:ys.length<=sizeLine) (t:Nat) :
  Inv X pins σ (upd H p (.lst ys)) {s with heap:=s.heap.update p f,toks:=t}:=by
 have e:(s.heap.update p f).get? p=My {cls:=.type "list",data:=.seq its'.toArray n'}:=by rw[df f ho (by rw[hf]<;>rfl),hf]
 refine I.write (x:=p) (e:=p) (by rw[h];trivial) (.inl rfl) (λ b u hb q=>(Heap.get?_update_other _ _ (bu hb)).trans q) ⟨_,e⟩ ?_;exact⟨hz,its',n',r,e⟩
def GO:V->V->V->Hp->(Hp->Prop)->Prop:=λ o i v H Q=>∃ p xs k j,o=.ref p/\i=.int k/\H p=My (.lst xs)/\ixN xs.length k=My j/\Q (upd H p (.lst (xs.set j v)))
theorem set_list:OT X GO:=by
 intro pins s σ H o i v ov iv u Q I ro ri rv h;obtain⟨p,xs,k,j,rfl,rfl,hp,hj,q⟩:=h;cases ro;obtain⟨t,rfl⟩:=ri;obtain⟨its,n,r,ho,hz⟩:=I.lst hp;obtain⟨h1,h2,h3,h4⟩:=D_ hj;have hl:=r.length;have hn:=uD;have I':Inv X pins σ (upd H p (.lst (xs.set j v))) {s with heap:=s.heap.update p (Obj.mapSeq (·.setIfInBounds j u))} :=
  I.MJ hp ho (C5 its n j u) (r.set rv j) (by rw[List.length_set];exact hz) s.toks
 by_cases h0:0<=k
 ·have hk:k.toNat=j:=by
   rw[seqIndex_of h0 h4]at h1;exact ao h1
  exact PySem.W.ki_setAt ho h0 (by lia) (by rw[au,<-hl];exact h4) (by rw[hk];exact⟨_,I',q⟩)
 ·have hk:(k+(its.toArray.size:Int)).toNat=j:=by
   rw[seqIndex_neg (by lia) h3]at h1;rw[au,<-hl];exact ao h1
  exact PySem.W.ki_setBack ho (by lia) (by rw[au,<-hl];exact h3) (by lia) (by rw[hk];exact⟨_,I',q⟩)
theorem Af (lo hi:gF Int)(n:Nat):(sliceBounds lo hi SY n).1=((HT.sIx n 0 lo:Nat):Int)/\(sliceBounds lo hi SY n).2.1=((HT.sIx n n hi:Nat):Int)/\(sliceBounds lo hi SY n).2.2=1:=by
 refine⟨?_,?_,rfl⟩
 ·cases lo with
  | none=>simp[sliceBounds,HT.sIx]
  | some i =>
   simp only[sliceBounds,HT.sIx,Option.getD_none,show(1:Int)>0 by decide,d4];by_cases h:i<0
   ·simp only[h,d4]<;>lia
   ·simp only[h,cv]<;>lia
 ·cases hi with
  | none=>simp[sliceBounds,HT.sIx]
  | some i =>
   simp only[sliceBounds,HT.sIx,Option.getD_none,show(1:Int)>0 by decide,d4];by_cases h:i<0
   ·simp only[h,d4]<;>lia
   ·simp only[h,cv]<;>lia
theorem yE (its:List gH)(lo hi:gF Int):slicePick its.toArray lo hi SY=((its.drop (HT.sIx its.length 0 lo)).take (HT.sIx its.length its.length hi-HT.sIx its.length 0 lo)).toArray:=by obtain⟨h1,h2,h3⟩:=Af lo hi its.toArray.size;unfold slicePick;rw[h1,h2,h3];simp only[sliceRange_one,pick_run,au]<;>rfl
def Q8 (K:gG):V->gF Int->gF Int->Hp->VK->Prop:=λ x lo hi H Q=>∃ a xs,x=.ref a/\SqL K H a xs/\∀ p,H p=SY->Q (.ref p) (upd H p (.lst (vE xs lo hi)))
theorem QQ:SlR X (Q8 X.K):=by intro pins s σ H x v vl vu lo hi sl Q I rx hs pl pu h;obtain⟨a,xs,rfl,hx,q⟩:=h;cases rx;obtain⟨its,r,ht,hz⟩:=I.list hx;have hlen:=r.length;refine⟨"list",_,slot_list_getitem.lookup,ht.isList.typeIs,?_⟩;refine wpAny_getItem_list_slice ht.isList hs pl pu .none (by simp) ?_ (by rw[au]<;>lia);rw[yE,<-hlen];refine⟨.ref s.heap.objs.size,_,I.laid (t':=s.toks) (o:=.lst (vE xs lo hi)) (λ b ob q=>ah _ q) (ay _) ?_,rfl,q _ (I.hok.fresh (ay _))⟩;exact⟨bC (u6 xs lo hi) hz,_,0,(r.drop (HT.sIx xs.length 0 lo)).take (HT.sIx xs.length xs.length hi-HT.sIx xs.length 0 lo),aE _ rfl⟩
theorem kL:jB X (.builtin "len") (λ xs H Q=>∃ p ys,xs=[.ref p]/\(SqL X.K H p ys\/SqT X.K H p ys)/\Q (.int ys.length) H):=by
 intro pins s σ H xs us Q I r h;obtain⟨p,ys,rfl,hq,q⟩:=h;obtain⟨u,rfl,rx⟩:=vals1 r;cases rx;have hn:=uD;rcases hq with hq | hq
 ·obtain⟨its,r',pl,hz⟩:=I.list hq;have hlen:=r'.length;exact Calls.call_len_list pl.isList (by simp only[au]<;>lia) ⟨.int ys.length,H,I.tok _,⟨s.toks+1,by rw[au,hlen]⟩,q⟩
 ·obtain⟨its,r',pl,hz⟩:=I.tuple hq;have hlen:=r'.length;exact len_tuple pl (by simp only[au]<;>lia) ⟨.int ys.length,H,I.tok _,⟨s.toks+1,by rw[au,hlen]⟩,q⟩
theorem Ag:jB X (.type "list") (λ xs H Q=>∃ p ys,xs=[.ref p]/\(SqL X.K H p ys\/SqT X.K H p ys)/\∀ l,H l=SY->Q (.ref l) (upd H l (.lst ys))):=by
 intro pins s σ H xs us Q I r h;obtain⟨p,ys,rfl,hq,q⟩:=h;obtain⟨u,rfl,rx⟩:=vals1 r;cases rx;have fin:∀ (its:List gH),Vals ys its->ys.length<=sizeLine->∀ (h':Heap) (c':Nat),(∀ b o',s.heap.get? b=My o'->h'.get? b=My o') ->
   h'.get? s.heap.objs.size=My {cls:=.type "list",dict:=SY,data:=.seq its.toArray c',slots:=#[]}->EP X pins σ Q (.ref s.heap.objs.size) {s with heap:=h'}:=λ its r' hz h' c' kp e =>
  ⟨.ref s.heap.objs.size,_,I.laid (t':=s.toks) kp (ay _) (show jx X.prog X.w _ h' _ (.lst ys) from ⟨hz,its,c',r',e⟩),rfl,q _ (I.hok.fresh (ay _))⟩
 rcases hq with hq | hq
 ·obtain⟨its,r',pl,hz⟩:=I.list hq;have hlen:=r'.length;obtain⟨o,ho,hc,n,hd⟩:=pl.isList;exact call_list_seq p (.inl rfl) ho hc hd (λ h' c' kp e=>fin its r' hz h' c' kp e) (by simp only[au]<;>lia)
 ·obtain⟨its,r',pl,hz⟩:=I.tuple hq;have hlen:=r'.length;obtain⟨o,ho,hc,n,hd⟩:=pl;exact call_list_seq p (.inr rfl) ho hc hd (λ h' c' kp e=>fin its r' hz h' c' kp e) (by simp only[au]<;>lia)
theorem oC:jB X (.type "tuple") (λ xs H Q=>∃ p ys,xs=[.ref p]/\((SqL X.K H p ys/\∀ l,H l=SY->Q (.ref l) (upd H l (.tup ys)))\/(SqT X.K H p ys/\Q (.ref p) H))):=by
 intro pins s σ H xs us Q I r h;obtain⟨p,ys,rfl,h⟩:=h;obtain⟨u,rfl,rx⟩:=vals1 r;cases rx;rcases h with⟨hq,q⟩ | ⟨hq,q⟩
 ·obtain⟨its,r',pl,hz⟩:=I.list hq
  have hlen:=r'.length;refine call_tuple_list pl.isList (λ h' kp=>?_) (by simp only[au]<;>lia);have I1:Inv X pins σ H {s with heap:=h'}:=I.kept (t':=s.toks) kp;have I2:Inv X pins σ (upd H h'.objs.size (.tup ys)) {s with heap:=h'.push {cls:=.type "tuple",data:=.seq its.toArray}} :=
   I1.laid (t':=s.toks) (λ b o e=>ah _ e) (ay _) (show jx X.prog X.w _ _ _ (.tup ys) from ⟨⟨hz,_,aE _ rfl,rfl⟩,its,r',IsTup.new _ _⟩)
  exact⟨.ref h'.objs.size,_,I2,rfl,q _ (I1.hok.fresh (ay _))⟩
 ·obtain⟨its,r',pl,hz⟩:=I.tuple hq;exact call_tuple_same pl ⟨.ref p,H,I,rfl,q⟩
def tyV (K:gG)(T:String)(x:V)(H:Hp):Prop:=match x with
 | .str _=>T="str"
 | .int _=>T="int"
 | .ref p=>(T="list"/\∃ xs,SqL K H p xs)\/(T="tuple"/\∃ o,K.lookup p=My o/\o.cls=.type "tuple"/\o.dict=SY) \/
   (T="dict"/\((∃ kvs,H p=My (.dK kvs))\/∃ kvs,H p=My (.dT kvs)))\/(T="set"/\∃ S n,H p=My (.set S n))
 | _=>False
theorem MK {pins:gL}{σ:St}{H:Hp}{s:gJ}{T:String}{x:V}{v:gH}(I:Inv X pins σ H s)(r:RelV x v)(ty:tyV X.K T x H) :
  s.TypeIs v T/\∀ a,v=.ref a->∃ ob,s.heap.get? a=My ob/\ob.dict=SY:=by
 cases x with
 | str z =>obtain⟨t,rfl⟩:=r;cases (show T="str" from ty);exact⟨typeIs_str s z t,λ _ e=>nomatch e⟩
 | int i =>obtain⟨t,rfl⟩:=r;cases (show T="int" from ty);exact⟨typeIs_int s i t,λ _ e=>nomatch e⟩
 | ref p =>
  cases r;rcases ty with⟨rfl,xs,hq⟩ | ⟨rfl,o,hk,hc,hd⟩ | ⟨rfl,hk⟩ | ⟨rfl,S,n,hk⟩
  ·obtain⟨its,_,pl,_⟩:=I.list hq;refine⟨pl.isList.typeIs,λ a e=>?_⟩;cases e;obtain⟨o,n,e,c,hd,_⟩:=pl;exact⟨o,e,hd⟩
  ·refine⟨⟨o,I.kIn p o hk,hc⟩,λ a e=>?_⟩;cases e;exact⟨o,I.kIn _ o hk,hd⟩
  ·have z:∃ o,s.heap.get? p=My o/\o.ExactDict:=by
    rcases hk with⟨kvs,hk⟩ | ⟨kvs,hk⟩
    ·obtain⟨_,_,_,_,o,_,_,e,ex,_⟩:=I.hok p _ hk;exact⟨o,e,ex⟩
    ·obtain⟨_,_,_,_,o,_,_,e,ex,_⟩:=I.hok p _ hk;exact⟨o,e,ex⟩
   obtain⟨o,e,ex⟩:=z;refine⟨⟨o,e,ex.1⟩,λ a e2=>?_⟩;cases e2;exact⟨o,e,ex.2.1⟩
  ·obtain⟨o,_,_,_,e,ex,_⟩:=I.hok p _ hk;refine⟨⟨o,e,ex.1⟩,λ a e2=>?_⟩;cases e2;exact⟨o,e,ex.2.1⟩
 | _=>exact False.elim ty
def tBM (K:gG)(T:String)(r:V->List V->Hp->VK->Prop)(to:TE)(t:TA):TE:=λ σ H Q=>to σ H λ x H1=>tyV K T x H1/\t σ H1 λ xs H2=>r x xs H2 Q
variable {o e:Expr}{es:List Expr}{to:TE}{t:TA}{name:Str}{apos cpos:Pos}{T id:String}{r:V->List V->Hp->VK->Prop}
theorem u7 (pa:PlainAttrs T)(slot:Slot T name id)(hty:typeOf (.builtin id)=pure (.type "method_descriptor"))(hm:MtR X id r)(ho:PE X o to)(ha:PA X (e::es) t)
  (hbase:attributeBase o name X.env (eval o X.env)=eval o X.env:=by rfl)
  (hfew:((backTo cpos (starEach (e::es) X.env)).all (λ x=>!x.1)&&(backToKw cpos (keywordEach [] X.env)).all (λ x=>x.1.isSome)
   && decide ((e::es).length+([]:List Keyword).length+(if ([]:List Keyword).isEmpty then 0 else 1)<30))=S_:=by rfl)
  (hline:(apos.endLine==cpos.line)=S_:=by rfl) (hs:starEach (e::es) X.env=(Ta,eval e X.env)::starEach es X.env:=by rfl) (hplain:(backTo cpos (starEach es X.env)).any (·.1)=Ta:=by rfl) :
  PE X (.Call (.Attribute o name apos) (e::es) [] cpos) (tBM X.K T r to t):=by
 intro pins s σ H Q I h;refine wpAny_Call_method_late hbase hfew hline rfl (thn (ho pins s σ H _ I h) λ v s1 ⟨x,H1,I1,r1,ty,q1⟩=>?_);obtain⟨h1,h2⟩:=MK I1 r1 ty;refine⟨T,id,pa,slot,hty,h1,h2,?_⟩;have hA:=ha cpos pins s1 σ H1 _ I1 q1;rw[hs]at hA ⊢;refine Calls.callWith_builtin (by show(Ta || (backTo cpos (starEach es X.env)).any (·.1))=Ta;rw[hplain]<;>rfl) (Calls.evalArgs_plain ?_);exact thn hA λ us s2 ⟨vs,H2,I2,r2,q2⟩=>hm pins s2 σ H2 x vs v us Q I2 r1 r2 q2
end
def MtM (X:Cx)(id:String)(r:V->List V->Hp->VK->Prop):Prop :=
 ∀ (pins:gL) (s:gJ) (σ:St) (H:Hp) (x:V) (xs:List V) (v:gH) (us:List gH) (Q:VK),Inv X pins σ H s->RelV x v->Vals xs us->r x xs H Q ->
  wpAny (model X.prog X.w) X.A (call (.builtin id) (v::us)) (EP X pins σ Q) X.xe s
theorem Vals.one:∀ {x:V} {us:List gH},Vals [x] us->∃ u,us=[u]/\RelV x u
 := by
 intro x us h;cases h with
 | cons r q=>cases q;exact⟨_,rfl,r⟩
theorem Vals.eraseIdx:∀ {xs:List V} {us:List gH} (i:Nat),Vals xs us->Vals (xs.eraseIdx i) (us.eraseIdx i)
 | _,_,_,.nil=>.nil
 | _,_,0,.cons _ t=>t
 | _,_,i+1,.cons r t=>.cons r (Vals.eraseIdx i t)
theorem Vals.rep {xs:List V}{us:List gH}(h:Vals xs us):∀ k:Nat,Vals (Td k xs).flatten (Td k us).flatten
 | 0=>.nil
 | k+1=>by rw[cS,cS,d8,d8];exact Vals.append h (Vals.rep h k)
theorem zj {α:Type}:∀ (l:List α) (i:Nat),(l.eraseIdx i).length<=l.length
 | [],_=>ay _
 | _::_,0=>fY _
 | _::r,i+1=>Nat.succ_le_succ (zj r i)
theorem foldl_rep (its:List gH):∀ (k:Nat) (acc:List gH),
  List.foldl (λ x1 x2=>x1++x2) acc.toArray (Td k its.toArray)=(acc++(Td k its).flatten).toArray
 | 0,acc=>by simp
 | k+1,acc=>by
  have e:acc.toArray++its.toArray=(acc++its).toArray:=by simp
  have e2:(acc++its)++(Td k its).flatten=acc++(Td (k+1) its).flatten:=by rw[cS,d8,bW]
  rw[<-e2,<-foldl_rep its k (acc++its),<-e,cS,cJ]
section
variable {X:Cx}{pins:gL}{σ:St}{H:Hp}{s:gJ}{l b:Addr}{xs ys zs:List V}
theorem Inv.ML {its its':List gH}{n:Nat}{f:Array gH->Array gH}{t':Nat}(I:Inv X pins σ H s)(hH:H l=My (.lst xs))
  (e:s.heap.get? l=My {cls:=.type "list",data:=.seq its.toArray n}) (hf:f its.toArray=its'.toArray) (hv:Vals ys its') (hz:ys.length<=sizeLine) :
  Inv X pins σ (upd H l (.lst ys)) {s with heap:=s.heap.update l (Obj.mapSeq f),toks:=t'}:=by
 have q:=PySem.IsL.update e f;rw[hf]at q;refine I.write (x:=l) (e:=l) (by rw[hH];exact trivial) (.inl rfl) (λ b' u hb hu=>(Heap.get?_update_other s.heap (Obj.mapSeq f) (bu hb)).trans hu) ⟨_,q⟩ ?_;exact⟨hz,its',_,hv,q⟩
theorem Inv.O1 {its:List gH}{t':Nat}(I:Inv X pins σ H s)(hv:Vals ys its)(hz:ys.length<=sizeLine) :
  Inv X pins σ (upd H s.heap.objs.size (.lst ys)) {s with heap:=s.heap.push {cls:=.type "list",data:=.seq its.toArray},toks:=t'} :=
 I.laid (λ _ _ q=>ah _ q) (ay _) ⟨hz,its,0,hv,aE _ rfl⟩
theorem Inv.fresh (I:Inv X pins σ H s):H s.heap.objs.size=SY:=I.hok.fresh (ay _)
theorem Inv.C6 (I:Inv X pins σ H s)(hH:H l=My (.lst xs)):xs.length<=sizeLine/\∃ (its:List gH) (n:Nat),Vals xs its/\xs.length=its.length/\s.heap.get? l=My {cls:=.type "list",data:=.seq its.toArray n}:=by obtain⟨z,its,n,r,e⟩:=I.hok l _ hH;exact⟨z,its,n,r,r.length,e⟩
theorem Bq {n:Nat}(h:n<=sizeLine):Builtin.List.listTooLong n=Ta:=by unfold Builtin.List.listTooLong;exact decide_eq_false (by lia)
end
section
variable {X:Cx}
def rf:V->List V->Hp->VK->Prop:=λ x vs H Q=>∃ l xs y,x=.ref l/\vs=[y]/\H l=My (.lst xs)/\xs.length<sizeLine/\Q .non (upd H l (.lst (xs++[y])))
theorem oM:MtM X "list.append" rf:=by intro pins s σ H x vs v us Q I rx rv h;obtain⟨l,xs,y,rfl,rfl,hH,hz,q⟩:=h;cases rx;obtain⟨u,rfl,ru⟩:=rv.one;obtain⟨z,its,n,r,hl,e⟩:=I.C6 hH;refine call_meets F.slot_list_append ⟨_,e,rfl⟩ F.entry_list_append (F.args_list_append_2 _ _) (PySem.list_append l its.toArray n u (by rw[au];lia)) ⟨e,?_⟩;refine⟨.non,_,I.ML (its':=its++[u]) hH e (by simp) (r.append (.cons ru .nil)) ?_,rfl,q⟩;rw[aH,aX];lia
def JG:V->List V->Hp->VK->Prop:=λ x vs H Q=>∃ l b xs zs,x=.ref l/\vs=[.ref b]/\H l=My (.lst xs)/\H b=My (.lst zs)/\xs.length+zs.length<=sizeLine/\Q .non (upd H l (.lst (xs++zs)))
theorem OO:MtM X "list.extend" JG:=by
 intro pins s σ H x vs v us Q I rx rv h;obtain⟨l,b,xs,zs,rfl,rfl,hH,hB,hz,q⟩:=h;cases rx;obtain⟨u,rfl,ru⟩:=rv.one;cases ru;obtain⟨z,its,n,r,hl,e⟩:=I.C6 hH;obtain⟨z2,its2,n2,r2,hl2,e2⟩:=I.C6 hB;have hsz:its.toArray.size+its2.toArray.size<=sizeLine:=by rw[au,au];lia
 have hlong:¬ (!its.toArray.isEmpty&&Builtin.List.listTooLong (its.toArray.size+its2.toArray.size))=S_:=by rw[Bq hsz,fM];exact aw
 refine call_meets F.slot_list_extend ⟨_,e,rfl⟩ F.entry_list_extend (F.args_list_extend_2 _ _)
  (AutoSeq1.list_extend_list_list_0 l its.toArray n b its2.toArray n2 hlong (by rw[au];lia) (by lia)) ⟨e,e2,?_⟩
 refine⟨.non,_,I.ML (its':=its++its2) hH e (by simp) (r.append r2) ?_,rfl,q⟩;rw[aH];lia
def C7:V->List V->Hp->VK->Prop:=λ x vs H Q=>∃ l xs i k y,x=.ref l/\vs=[.int i]/\H l=My (.lst xs)/\-(2 ^ 63)<=i/\i<2 ^ 63/\seqIndex? i xs.length=My k/\xs[k]?=My y/\Q y (upd H l (.lst (xs.eraseIdx k)))
theorem GP:MtM X "list.pop" C7:=by
 intro pins s σ H x vs v us Q I rx rv h;obtain⟨l,xs,i,k,y,rfl,rfl,hH,h1,h2,hk,hy,q⟩:=h;cases rx;obtain⟨u,rfl,ru⟩:=rv.one;obtain⟨t,rfl⟩:=ru;obtain⟨z,its,n,r,hl,e⟩:=I.C6 hH;obtain⟨w,hw,rw'⟩:=r.get hy;refine call_meets F.slot_list_pop ⟨_,e,rfl⟩ F.entry_list_pop (F.args_list_pop_2 _ _)
  (MeetsSeq.list_pop_at l its.toArray n i t k w (fitsIndex_both h1 h2) (by rw[au,<-hl];exact hk) (by rw[<-aZ];exact hw) (by rw[au];lia)) ⟨e,?_⟩
 refine⟨y,_,I.ML (its':=its.eraseIdx k) hH e ?_ (r.eraseIdx k) ?_,rw',q⟩
 ·show its.toArray.eraseIdxIfInBounds k=(its.eraseIdx k).toArray;rw[List.eraseIdxIfInBounds_toArray]
 ·have:=zj xs k;lia
def MM:R2:=λ x y H Q=>∃ l b xs zs,x=.ref l/\y=.ref b/\H l=My (.lst xs)/\H b=My (.lst zs)/\xs.length+zs.length<=sizeLine/\∀ p,H p=SY->Q (.ref p) (upd H p (.lst (xs++zs)))
theorem GQ:OpR X (binaryOp .Add) MM:=by
 intro pins s σ H x y v u Q I rx ry h;obtain⟨l,b,xs,zs,rfl,rfl,hH,hB,hz,q⟩:=h;cases rx;cases ry;obtain⟨z,its,n,r,hl,e⟩:=I.C6 hH;obtain⟨z2,its2,n2,r2,hl2,e2⟩:=I.C6 hB;refine PySem.P.add_list e e2 ?_ (by rw[au,au];lia);have ea:its.toArray++its2.toArray=(its++its2).toArray:=by simp
 rw[ea];exact⟨.ref _,_,I.O1 (t':=s.toks) (r.append r2) (by rw[aH];lia),rfl,q _ I.fresh⟩
def O2:R2:=λ x y H Q=>∃ l k xs,x=.ref l/\y=.int k/\H l=My (.lst xs)/\-(2 ^ 63)<=k/\k<2 ^ 63/\xs.length*k.toNat<=sizeLine /\
 ∀ p,H p=SY->Q (.ref p) (upd H p (.lst (Td k.toNat xs).flatten))
theorem len_rep {α:Type}(xs:List α)(k:Nat):(Td k xs).flatten.length=k*xs.length:=by
 induction k with
 | zero=>simp
 | succ k ih=>rw[cS,d8,aH,ih,Nat.succ_mul,Nat.add_comm]
theorem GR:OpR X (binaryOp .Mult) O2:=by
 intro pins s σ H x y v u Q I rx ry h;obtain⟨l,k,xs,rfl,rfl,hH,h1,h2,hz,q⟩:=h;cases rx;obtain⟨t,rfl⟩:=ry;obtain⟨z,its,n,r,hl,e⟩:=I.C6 hH;have hlen:its.toArray.size*k.toNat<=sizeLine:=by rw[au,<-hl];exact hz
 have hcap:¬ its.toArray.size*k.toNat>(2 ^ 63-1) / 8:=by
  have:(sizeLine:Nat)<=(2 ^ 63-1) / 8:=by decide
  lia
 have hfit:¬ (!Builtin.List.listFitsIndex k)=S_:=by rw[fitsIndex_both h1 h2];exact aw
 have hlong:¬ Builtin.List.listTooLong (its.toArray.size*k.toNat)=S_:=by rw[Bq hlen];exact aw
 have hnew:List.foldl (λ x1 x2=>x1++x2) #[] (Td (if its.toArray.isEmpty=S_ then 0 else k.toNat) its.toArray)=(Td k.toNat its).flatten.toArray:=by
  have f0:∀ m:Nat,List.foldl (λ x1 x2=>x1++x2) #[] (Td m its.toArray)=(Td m its).flatten.toArray:=λ m=>by have:=foldl_rep its m [];rw[List.nil_append]at this;exact this
  rw[f0];cases its with
  | nil=>simp
  | cons a r'=>rw[ak (by simp)]
 refine wpAny_binaryOp_repeat_ref (T:="list") (U:="int") (by decide) ⟨_,e,rfl⟩ (λ s'=>typeIs_int s' k t) noFill_list_mul F.fills_int_mul F.slot_int_rmul repeat_list F.slot_int_index.lookup
  (call_meets F.slot_int_rmul (typeIs_int s k t) F.entry_int_rmul (F.args_int_rmul_2 _ _) (int___rmul___int_list k t l its.toArray n)
   ⟨e,rfl,⟨_,e,rfl⟩,call_meets F.slot_list_mul ⟨_,e,rfl⟩ F.entry_list_mul (F.args_list_mul_2 _ _) (AutoListH.list___mul___list_int_3 l its.toArray n k t hfit hcap hlong) ⟨e,?_⟩⟩)
 rw[hnew];exact⟨.ref _,_,I.O1 (t':=s.toks) (r.rep k.toNat) (by rw[len_rep,Nat.mul_comm];exact hz),rfl,q _ I.fresh⟩
end
section
variable {prog:Program}{w:World}{A:Around}{E:gE}{s:gJ}
end
section
variable {X:Cx}
end
section
variable {κ:Type}[DecidableEq κ]
def nD (kvs:List (κ×V))(k:κ):gF V:=(kvs.find? λ kv=>decide (kv.1=k)).map (·.2)
def putK (kvs:List (κ×V))(k:κ)(v:V):List (κ×V) :=
 if (kvs.any λ kv=>decide (kv.1=k))=S_ then kvs.map (λ kv=>if kv.1=k then (kv.1,v) else kv) else kvs++[(k,v)]
theorem sU {p:κ×V}{r:List (κ×V)}{k:κ}(e:p.1=k):nD (p::r) k=My p.2:=by simp[nD,dw,e]
theorem wQ {p:κ×V}{r:List (κ×V)}{k:κ}(e:¬ p.1=k):nD (p::r) k=nD r k:=by simp[nD,dw,e]
theorem wR (k:κ):∀ kvs:List (κ×V),(kvs.any λ kv=>decide (kv.1=k))=(nD kvs k).isSome
 | []=>rfl
 | p::r=>by
  rw[List.any_cons];by_cases e:p.1=k
  ·simp only[sU e,decide_eq_true e,Bool.true_or,Option.isSome_some]
  ·rw[wQ e,decide_eq_false e,Bool.false_or];exact wR k r
theorem qw (kvs:List (κ×V))(k:κ)(v:V):(putK kvs k v).length<=kvs.length+1:=by
 unfold putK;split
 ·rw[af];lia
 ·rw[aH,bK,eE];lia
theorem GS {kvs:List (κ×V)}{k:κ}(v:V)(h:nD kvs k=SY):putK kvs k v=kvs++[(k,v)]:=by unfold putK;rw[wR,h];exact ak (by decide)
theorem yw.uG {o:gF V}{u:gF gH}(r:yw o u):o.isSome=u.isSome:=by
 cases o with
 | none=>cases u with
  | none=>rfl
  | some _=>exact(show False from r).elim
 | some _=>cases u with
  | none=>exact(show False from r).elim
  | some _=>rfl
theorem KV.val {kvs:List (κ×V)}{vs:List (κ×gH)}(r:KV kvs vs)(k:κ):yw (nD kvs k) (valueAt vs k):=by
 unfold KV at r;induction r with
 | nil=>exact True.intro
 | @cons p q ps qs h t ih =>
  obtain⟨h1,h2⟩:=h;by_cases e:p.1=k
  ·have e':q.1=k:=h1.symm.trans e
   have b:valueAt (q::qs) k=My q.2:=by simp[valueAt,dw,e']
   rw[sU e,b];exact h2
  ·have e':¬ q.1=k:=λ z=>e (h1.trans z)
   have b:valueAt (q::qs) k=valueAt qs k:=by simp[valueAt,dw,e']
   rw[wQ e,b];exact ih
theorem KV.any {kvs:List (κ×V)}{vs:List (κ×gH)}(r:KV kvs vs)(k:κ):(kvs.any λ kv=>decide (kv.1=k))=vs.any λ kv=>decide (kv.1=k):=by
 unfold KV at r;induction r with
 | nil=>rfl
 | cons h t ih=>rw[List.any_cons,List.any_cons,ih,h.1]
theorem KV.MN {kvs:List (κ×V)}{vs:List (κ×gH)}(r:KV kvs vs)(k:κ){y:V}{u:gH}(ry:RelV y u) :
  KV (kvs.map λ kv=>if kv.1=k then (kv.1,y) else kv) (vs.map λ kv=>if kv.1=k then (kv.1,u) else kv):=by
 unfold KV at r ⊢;induction r with
 | nil=>exact .nil
 | @cons p q ps qs h t ih =>
  rw[aR,aR];refine .cons ?_ ih;obtain⟨h1,h2⟩:=h;by_cases e:p.1=k
  ·rw[ai e,ai (h1.symm.trans e)];exact⟨h1,ry⟩
  ·rw[ak e,ak (λ z=>e (h1.trans z))];exact⟨h1,h2⟩
theorem KV.put {kvs:List (κ×V)}{vs:List (κ×gH)}(r:KV kvs vs)(k:κ){y:V}{u:gH}(ry:RelV y u):KV (putK kvs k y) (stored vs k u):=by
 unfold putK stored;rw[r.any k];by_cases e:(vs.any λ kv=>decide (kv.1=k))=S_
 ·rw[ai e,ai e];exact r.MN k ry
 ·rw[ak e,ak e];exact fZ r ⟨rfl,ry⟩
theorem KV.length {kvs:List (κ×V)}{vs:List (κ×gH)}(r:KV kvs vs):kvs.length=vs.length:=fu r
end
theorem Br {P:Program}{w:World}{k:Key}{u:gH}(r:RelV (kV k) u):(jv P w).is k u=S_:=by
 cases k with
 | inl i=>obtain⟨t,e⟩:=(show ∃ t,u=Value.int i t from r);subst e;exact Bh P w i t
 | inr x=>obtain⟨t,e⟩:=(show ∃ t,u=Value.str x t from r);subst e;exact Bi P w x t
theorem zk {P:Program}{w:World}:∀ {ks:List Key} {us:List gH},Vals (ks.map kV) us->ItemsAre (jv P w) ks us
 | [],_,r=>by rw[dB]at r;cases r;exact .nil
 | k::ks,_,r=>by
  rw[aR]at r;cases r with
  | cons h t=>exact .cons (Br h) (zk t)
abbrev KT (H:Hp):List (List Key×V)->List (List Key×Addr×gH)->Prop:=Paired λ p q=>p.1=q.1/\H q.2.1=My (.tup (p.1.map kV))/\RelV p.2 q.2.2
theorem KT.val {H:Hp}{kvs:List (List Key×V)}{xs:List (List Key×Addr×gH)}(r:KT H kvs xs)(k:List Key):yw (nD kvs k) ((atKey xs k).map (·.2)):=by
 induction r with
 | nil=>exact True.intro
 | @cons p q ps qs h t ih =>
  obtain⟨h1,_,h2⟩:=h;by_cases e:p.1=k
  ·have e':q.1=k:=h1.symm.trans e
   have b:atKey (q::qs) k=My q.2:=by simp[atKey,dw,e']
   rw[sU e,b];exact h2
  ·have e':¬ q.1=k:=λ z=>e (h1.trans z)
   have b:atKey (q::qs) k=atKey qs k:=by simp[atKey,dw,e']
   rw[wQ e,b];exact ih
theorem KT.MN {H:Hp}{kvs:List (List Key×V)}{xs:List (List Key×Addr×gH)}(r:KT H kvs xs)(k:List Key){y:V}{u:gH}(ry:RelV y u) :
  KT H (kvs.map λ kv=>if kv.1=k then (kv.1,y) else kv) (xs.map (putAt k u)):=by
 induction r with
 | nil=>exact .nil
 | @cons p q ps qs h t ih =>
  rw[aR,aR];refine .cons ?_ ih;obtain⟨h1,h2,h3⟩:=h;unfold putAt;by_cases e:p.1=k
  ·rw[ai e,ai (h1.symm.trans e)];exact⟨h1,h2,ry⟩
  ·rw[ak e,ak (λ z=>e (h1.trans z))];exact⟨h1,h2,h3⟩
theorem KT.put {H:Hp}{kvs:List (List Key×V)}{xs:List (List Key×Addr×gH)}(r:KT H kvs xs)(k:List Key){b:Addr}{y:V}{u:gH}(hb:H b=My (.tup (k.map kV)))(ry:RelV y u) :
  KT H (putK kvs k y) (storedH xs k b u):=by
 have e:(kvs.any λ kv=>decide (kv.1=k))=(atKey xs k).isSome:=by rw[wR,(r.val k).uG,Option.isSome_map]
 unfold putK storedH;rw[e];by_cases q:(atKey xs k).isSome=S_
 ·rw[ai q,ai q];exact r.MN k ry
 ·rw[ak q,ak q];exact fZ r ⟨rfl,hb,ry⟩
theorem KT.keeps {H H':Hp}{kvs:List (List Key×V)}{xs:List (List Key×Addr×gH)}(r:KT H kvs xs)(ht:∀ b ys,H b=My (.tup ys)->H' b=My (.tup ys)):KT H' kvs xs :=
 Paired.Js r λ _ _ z=>⟨z.1,ht _ _ z.2.1,z.2.2⟩
section
variable {P:Program}{w:World}{H:Hp}{h:Heap}{a:Addr}
theorem LG {u:HO}(ok:HOk P w H h)(e:Rd H a u):jx P w H h a u:=e.ok ok
theorem zl {kvs:List (Key×V)}(ok:HOk P w H h)(e:Rd H a (.dK kvs)):kvs.length<=sizeLine/\(a==sysModules)=Ta/\∃ vs,KV kvs vs/\h.DictOf (jv P w) a vs :=
 show jx P w H h a (.dK kvs) from LG ok e
theorem LH {kvs:List (Key×V)}(ok:HOk P w H h)(e:H a=My (.dK kvs)):kvs.length<=sizeLine/\(a==sysModules)=Ta/\∃ vs,KV kvs vs/\h.DictOf (jv P w) a vs:=zl ok (.inl e)
theorem Ah {ks:List Key}(ok:HOk P w H h)(e:H a=My (.tup (ks.map kV))):(tupleKind (jv P w)).is h ks a:=by obtain⟨_,its,r,o,h1,h2,n,h3⟩:=(show jx P w H h a (.tup (ks.map kV)) from ok a _ e);exact⟨o,its.toArray,n,h1,h2,h3,by simpa using zk r⟩
theorem Ec {kvs:List (List Key×V)}(ok:HOk P w H h)(e:Rd H a (.dT kvs)):kvs.length<=sizeLine/\(a==sysModules)=Ta /\
  ∃ xs,KT H kvs xs/\h.DictOfH (tupleKind (jv P w)) a xs:=by
 obtain⟨z,y,xs,r,o,es,ep,h1,h2,h3,h4,h5⟩:=(show jx P w H h a (.dT kvs) from LG ok e);refine⟨z,y,xs,r,o,es,ep,h1,h2,h3,h4,λ x hx=>?_,h5⟩;have all:∀ {l:List (List Key×V)} {m:List (List Key×Addr×gH)},KT H l m->∀ x∈m,(tupleKind (jv P w)).is h x.1 x.2.1:=by
  intro l m q;induction q with
  | nil=>intro x hx;exact nomatch hx
  | @cons p q ps qs hq t ih =>
   intro x hx;rcases aB.mp hx with e | hx
   ·subst e;exact Ah ok (by rw[<-hq.1];exact hq.2.1)
   ·exact ih x hx
 exact all r x hx
theorem O3 {kvs:List (List Key×V)}(ok:HOk P w H h)(e:H a=My (.dT kvs)):kvs.length<=sizeLine/\(a==sysModules)=Ta /\
  ∃ xs,KT H kvs xs/\h.DictOfH (tupleKind (jv P w)) a xs:=Ec ok (.inl e)
end
def wU (H:Hp)(a:Addr)(y:V)(r:gF V):Prop :=
 (∃ kvs k,Rd H a (.dK kvs)/\y=kV k/\r=nD kvs k)\/∃ kvs k b,Rd H a (.dT kvs)/\y=.ref b/\H b=My (.tup (k.map kV))/\r=nD kvs k
def GU (H:Hp)(a:Addr)(y v:V)(H':Hp):Prop :=
 (∃ kvs k,H a=My (.dK kvs)/\y=kV k/\kvs.length<sizeLine/\H'=upd H a (.dK (putK kvs k v))) \/
 ∃ kvs k b,H a=My (.dT kvs)/\y=.ref b/\H b=My (.tup (k.map kV))/\kvs.length<sizeLine/\H'=upd H a (.dT (putK kvs k v))
theorem wU.k {H:Hp}{a:Addr}{kvs:List (Key×V)}{k:Key}(e:H a=My (.dK kvs)):wU H a (kV k) (nD kvs k):=.inl ⟨kvs,k,.inl e,rfl,rfl⟩
theorem GU.k {H:Hp}{a:Addr}{kvs:List (Key×V)}{k:Key}{v:V}(e:H a=My (.dK kvs))(hl:kvs.length<sizeLine):GU H a (kV k) v (upd H a (.dK (putK kvs k v))):=.inl ⟨kvs,k,e,rfl,hl,rfl⟩
section
variable {X:Cx}{pins:gL}{σ:St}{H:Hp}{s:gJ}{a:Addr}{y v:V}{u r:gH}{o:gF V}{A:Around}{E:gE}
theorem Inv.big (I:Inv X pins σ H s):sysModules<s.heap.objs.size:=by have h:mainGlobals<s.heap.objs.size:=(I.mod.glob.keeps I.bk).lt;exact Nat.lt_trans (by decide) h
theorem Fo {Q:gE}(hu:A.units+1<cLine)(I:Inv X pins σ H s)(g:wU H a y (My v))(ry:RelV y u)(h:∀ w' s',Inv X pins σ H s'->RelV v w'->Q w' s') :
  wpAny (model X.prog X.w) A (getItem (.ref a) u) Q E s:=by
 rcases g with⟨kvs,k,e,ey,l⟩ | ⟨kvs,k,b,e,ey,eb,l⟩
 ·subst ey;obtain⟨z,hd,vs,rel,dd⟩:=zl I.hok e;obtain⟨w',hw,rw'⟩:=yw.some_of (v:=v) (o:=valueAt vs k) (by rw[l];exact rel.val k);exact wpAny_getItem_of (Br ry) dd.mapOf hw (h w' _ (I.tok _) rw')
 ·subst ey;cases (show u=Value.ref b from ry);obtain⟨z,hd,xs,rel,dd⟩:=Ec I.hok e;obtain⟨w',hw,rw'⟩:=yw.some_of (v:=v) (o:=(atKey xs k).map (·.2)) (by rw[l];exact rel.val k);obtain⟨p,hp,hp2⟩:=Option.map_eq_some_iff.mp hw;refine wpAny_getItem_heap (tupleKind_room_in1 hu) (Ah I.hok eb) dd hp ?_;rw[hp2];exact h w' _ (I.tok _) rw'
theorem JH {Q:gE}(hu:A.units+1<cLine)(I:Inv X pins σ H s)(g:wU H a y o)(ry:RelV y u)(h:∀ s',Inv X pins σ H s'->Q (.bool (!o.isSome)) s') :
  wpAny (model X.prog X.w) A (compareOp .NotIn u (.ref a)) Q E s:=by
 rcases g with⟨kvs,k,e,ey,l⟩ | ⟨kvs,k,b,e,ey,eb,l⟩
 ·subst ey;obtain⟨z,hd,vs,rel,dd⟩:=zl I.hok e;refine wpAny_notIn_of (Br ry) hd dd.mapOf ?_;rw[<-(rel.val k).uG,<-l];exact h _ (I.tok _)
 ·subst ey;cases (show u=Value.ref b from ry);obtain⟨z,hd,xs,rel,dd⟩:=Ec I.hok e;refine wpAny_notIn_heap (tupleKind_room_in1 hu) (Ah I.hok eb) hd dd ?_;have q:=(rel.val k).uG;rw[Option.isSome_map]at q;rw[<-q,<-l];exact h _ (I.tok _)
theorem Ai {h':Heap}{t':Nat}{ob:HO}(I:Inv X pins σ H s)(mu:Mut (H a))(hs:Heap.SameBut a s.heap h')(he:∃ q,h'.get? a=My q)(new:jx X.prog X.w (upd H a ob) h' a ob) :
  Inv X pins σ (upd H a ob) {s with heap:=h',toks:=t'} :=
 I.write (x:=a) (e:=a) mu (.inl rfl) (λ b q hb z=>(hs.2 b hb).trans z) he new
theorem GV {P:Program}{w:World}{H':Hp}{h':Heap}{kvs:List (Key×V)}{vs:List (Key×gH)}(z:kvs.length<=sizeLine)(hd:(a==sysModules)=Ta)(rel:KV kvs vs)(dd:h'.DictOf (jv P w) a vs) :
  jx P w H' h' a (.dK kvs):=⟨z,hd,vs,rel,dd⟩
theorem Fp {H':Hp}{Q:Unit->gJ->Prop}(hu:A.units+1<cLine)(I:Inv X pins σ H s)(g:GU H a y v H')(ry:RelV y u)(rv:RelV v r)(h:∀ s',Inv X pins σ H' s'->Q () s') :
  wpAny (model X.prog X.w) A (setItem (.ref a) u r) Q E s:=by
 rcases g with⟨kvs,k,e,ey,l,eH⟩ | ⟨kvs,k,b,e,ey,eb,l,eH⟩
 ·subst ey eH
  obtain⟨z,hd,vs,rel,dd⟩:=LH I.hok e;have hz:vs.length<=sizeLine:=by rw[<-rel.length];exact z
  have hl:(putK kvs k v).length<=sizeLine:=by have:=qw kvs k v;lia
  refine wpAny_setItem_pairs (hsz:=hz) (Br ry) dd λ h' dd' hs=>h _ ?_;have he:∃ q,h'.get? a=My q:=let ⟨q,_,_,hq,_⟩:=dd';⟨q,hq⟩;exact Ai I (by rw[e];exact True.intro) hs he (GV hl hd (rel.put k rv) dd')
 ·subst ey eH
  cases (show u=Value.ref b from ry);obtain⟨z,hd,xs,rel,dd⟩:=O3 I.hok e;have hz:xs.length<=sizeLine:=by rw[<-fu rel];exact z
  have hl:(putK kvs k v).length<=sizeLine:=by have:=qw kvs k v;lia
  refine wpAny_setItem_heap (hsz:=hz) (tupleKind_room_in1 hu) (Ah I.hok eb) dd λ h' dd' hs=>h _ ?_;obtain⟨q,es,ep,hq,h2,h3,h4,_,h5⟩:=dd';refine Ai I (by rw[e];exact True.intro) hs ⟨q,hq⟩ ⟨hl,hd,_,(rel.put k eb rv).keeps λ c ys ec=>?_,q,es,ep,hq,h2,h3,h4,h5⟩;rw[g6 (OP ec e (λ z=>nomatch z))];exact ec
end
section
variable {X:Cx}{pins:gL}{σ:St}{H:Hp}{s:gJ}{a:Addr}{kvs:List (Key×V)}{k:Key}{u:gH}{A:Around}{E:gE}
theorem O4 {Q:gE}(I:Inv X pins σ H s)(e:Rd H a (.dK kvs))(h:∀ t s',Inv X pins σ H s'->Q (.int kvs.length t) s'):wpAny (model X.prog X.w) A (call (.builtin "len") [.ref a]) Q E s:=by obtain⟨z,hd,vs,rel,dd⟩:=zl I.hok e;refine call_len_dict hd dd (by rw[<-rel.length];rw[sizeLine_eq]at z;lia) ?_;rw[<-rel.length];exact h _ _ (I.tok _)
end
def MO (i:Expr):Prop:=∀ ov iv,subscripted i Ta ov iv=operate [ov,iv] (getItem ov iv)
theorem JI {prog:Program}{w:World}{A:Around}{E:gE}{s:gJ}{env:Env}{value slice:Expr}{pos:Pos}{T id:String}{Q:gE}
  (hl:typeLookup (.type T) "__getitem__"=pure (My (.builtin id))) (hs:MO slice)
  (h:wpAny (model prog w) A (eval value env) (λ o s₁=>wpAny (model prog w) A (eval slice env) (λ i s₂=>s₂.TypeIs o T/\wpAny (model prog w) A (getItem o i) Q E s₂) E s₁) E s) :
  wpAny (model prog w) A (eval (.Subscript value slice pos) env) Q E s:=by
 refine Subscript_ (cZ h (λ o s₁ h₁=>cZ h₁ (λ i s₂ h₂=>?_) λ _ _ x=>x) λ _ _ x=>x);obtain⟨hT,h₂⟩:=h₂;unfold subscriptTail;refine ae ?_;rw[getitemInPython_of_ne hT.not_modules];refine ae (wpAny_specialOf hT hl ?_);have fin:wpAny (model prog w) A (subscripted slice Ta o i) (λ r s₃=>wpAny (model prog w) A (letTemporaryGo value o r>>=λ _=>pure r) Q E s₃) E s₂:=by rw[hs o i];exact wpAny_operating (cZ h₂ (λ r s₃ h₃=>ae (wpAny_letTemporaryGo (ag h₃))) λ _ _ x=>x)
 first
  | exact ag (ae fin)
  | exact ae (ag (ae fin))
  | exact ae fin
theorem Bs {X:Cx}{pins:gL}{σ:St}{H:Hp}{s:gJ}{a:Addr}{y:V}{o:gF V}(I:Inv X pins σ H s)(g:wU H a y o):s.TypeIs (.ref a) "dict":=by
 rcases g with⟨kvs,k,e,_,_⟩ | ⟨kvs,k,b,e,_,_,_⟩
 ·obtain⟨_,_,vs,_,dd⟩:=zl I.hok e;exact dd.typeIs
 ·obtain⟨_,_,xs,_,dd⟩:=Ec I.hok e;exact dd.typeIs
def LI (td ty:TE):TE:=λ σ H Q=>td σ H λ x H1=>ty σ H1 λ y H2=>∃ a v,x=.ref a/\wU H2 a y (My v)/\Q v H2
def Ed (ty td:TE):TE:=λ σ H Q=>ty σ H λ y H1=>td σ H1 λ x H2=>∃ a o,x=.ref a/\wU H2 a y o/\Q (.bl (!o.isSome)) H2
def LJ (td ty tv:TE):TS:=λ D σ H=>tv σ H λ v H1=>td σ H1 λ x H2=>ty σ H2 λ y H3=>∃ a H4,x=.ref a/\GU H3 a y v H4/\D.nx σ H4
section
variable {X:Cx}{o i e value:Expr}{pos pos' tpos:Pos}{td ty tv:TE}
theorem Ee (hu:X.A.units+1<cLine)(ho:PE X o td)(hi:PE X i ty)(hs:MO i):PE X (.Subscript o i pos) (LI td ty):=by intro pins s σ H Q I h;refine JI PySem.F.slot_dict_getitem.lookup hs (thn (ho pins s σ H _ I h) λ u s1 ⟨x,H1,I1,rx,q1⟩=>thn (hi pins s1 σ H1 _ I1 q1) λ iv s2 ⟨y,H2,I2,ry,a,v,ex,g,q2⟩=>?_);subst ex;obtain rfl:u=Value.ref a:=rx;exact⟨Bs I2 g,Fo hu I2 g ry λ w' s3 I3 rw'=>⟨v,H2,I3,rw',q2⟩⟩
theorem Fq (hu:X.A.units+1<cLine)(hi:PE X i ty)(ho:PE X o td):PC X .NotIn i o (Ed ty td):=by intro pins s σ H Q I h;refine thn (hi pins s σ H _ I h) λ iv s1 ⟨y,H1,I1,ry,q1⟩=>thn (ho pins s1 σ H1 _ I1 q1) λ u s2 ⟨x,H2,I2,rx,a,ov,ex,g,q2⟩=>?_;subst ex;obtain rfl:u=Value.ref a:=rx;exact JH hu I2 g ry λ s3 I3=>⟨.bl (!ov.isSome),H2,I3,rfl,q2⟩
theorem JJ (hu:X.A.units+1<cLine)(ho:PE X o td)(hi:PE X i ty)(hv:PE X value tv)(hs:swapsWith value (My (.Subscript o i pos')) pos.line X.env=pure Ta) :
  PS X (.Assign [.Subscript o i pos'] value pos) (LJ td ty tv):=by
 intro pins s σ H D I h;refine wpAny_Assign_Subscript (thn (hv pins s σ H _ I h) λ r s1 ⟨v,H1,I1,rv,q1⟩=>thn (ho pins s1 σ H1 _ I1 q1) λ u s2 ⟨x,H2,I2,rx,q2⟩=>thn (hi pins s2 σ H2 _ I2 q2) λ iv s3 ⟨y,H3,I3,ry,a,H4,ex,g,q3⟩=>?_) hs;subst ex;obtain rfl:u=Value.ref a:=rx;exact Fp hu I3 g ry rv λ s4 I4=>⟨σ,H4,I4,q3⟩
end
theorem GW {P:Program}{w:World}{H:Hp}(h:Heap)(hb:sysModules<h.objs.size):jx P w H (h.push {cls:=.type "dict",data:=.dict #[]}) h.objs.size (.dK []) :=
 ⟨aN _,beq_eq_false_iff_ne.mpr (bu (aM hb)),[],.nil,Heap.DictOf.new h⟩
section
variable {X:Cx}{pos:Pos}
end
def C8:List (TE×TE)->St->Hp->(List (V×V)->Hp->Prop)->Prop
 | [],_,H,Q=>Q [] H
 | (tk,tv)::r,σ,H,Q=>tk σ H λ x H1=>tv σ H1 λ y H2=>C8 r σ H2 λ ps H3=>Q ((x,y)::ps) H3
abbrev VV:List (V×V)->List (gH×gH)->Prop:=Paired λ p q=>RelV p.1 q.1/\RelV p.2 q.2
def PPs (X:Cx)(pos:Pos)(keys:List (gF Expr))(values:List Expr)(trs:List (TE×TE)):Prop :=
 ∀ (pins:gL) (s:gJ) (σ:St) (H:Hp) (Q:List (V×V)->Hp->Prop),Inv X pins σ H s->C8 trs σ H Q ->
  wpAny (model X.prog X.w) X.A (evalPairs (pairTrees keys values X.env pos)) (λ vs s'=>∃ ps H',Inv X pins σ H' s'/\VV ps vs/\Q ps H') X.xe s
theorem JK {X:Cx}{pos:Pos}:PPs X pos [] [] []:=λ pins s σ H Q I h=>pairTrees_nil_walk ⟨[],H,I,.nil,h⟩
theorem GX {X:Cx}{pos:Pos}{k v:Expr}{ks:List (gF Expr)}{vs:List Expr}{tk tv:TE}{trs:List (TE×TE)}(hk:PE X k tk)(hv:PE X v tv)(hr:PPs X pos ks vs trs) :
  PPs X pos (My k::ks) (v::vs) ((tk,tv)::trs):=λ pins s σ H Q I h =>
 pairTrees_cons_walk (thn (hk pins s σ H _ I h) λ u s1 ⟨x,H1,I1,rx,q1⟩=>thn (hv pins s1 σ H1 _ I1 q1) λ w2 s2 ⟨y,H2,I2,ry,q2⟩ =>thn (hr pins s2 σ H2 _ I2 q2) λ ws s3 ⟨ps,H3,I3,rel,q3⟩=>⟨(x,y)::ps,H3,I3,.cons ⟨rx,ry⟩ rel,q3⟩)
def uH (kvs more:List (Key×V)):List (Key×V):=more.foldl (λ acc kv=>putK acc kv.1 kv.2) kvs
theorem KV.merge:∀ {more:List (Key×V)} {rs:List (Key×gH)} {kvs:List (Key×V)} {vs:List (Key×gH)},KV more rs->KV kvs vs->KV (uH kvs more) (merged vs rs):=by
 intro more rs kvs vs r;unfold KV at r;induction r generalizing kvs vs with
 | nil=>intro q;exact q
 | @cons p q ps qs h t ih =>
  intro r0;have e:KV (putK kvs p.1 p.2) (stored vs q.1 q.2):=by have:=r0.put p.1 h.2;rw[<-h.1];exact this
  exact ih e
theorem rN:∀ (more kvs:List (Key×V)),(uH kvs more).length<=kvs.length+more.length
 | [],kvs=>by show kvs.length<=kvs.length+0;lia
 | p::r,kvs=>by have h1:=rN r (putK kvs p.1 p.2);have h2:=qw kvs p.1 p.2;show(uH (putK kvs p.1 p.2) r).length<=_;rw[bK];lia
theorem wV {P:Program}{w:World}:∀ {kvs:List (Key×V)} {ws:List (gH×gH)},VV (kvs.map λ kv=>(kV kv.1,kv.2)) ws->∃ rs,Carries (jv P w) ws rs/\KV kvs rs
 | [],_,r=>by rw[dB]at r;cases r;exact⟨[],True.intro,.nil⟩
 | p::kvs,_,r=>by
  rw[aR]at r;cases r with
  | @cons a b as bs h t =>obtain⟨rs,c,q⟩:=wV (P:=P) (w:=w) t;obtain⟨b1,b2⟩:=b;exact⟨(p.1,b2)::rs,⟨Br h.1,rfl,c⟩,.cons ⟨rfl,h.2⟩ q⟩
def LK (trs:List (TE×TE)):TE:=λ σ H Q=>∀ p,H p=SY->C8 trs σ (upd H p (.dK [])) λ ps H2=>H2 p=My (.dK [])/\∃ kvs:List (Key×V),ps=kvs.map (λ kv=>(kV kv.1,kv.2))/\kvs.length<=15/\Q (.ref p) (upd H2 p (.dK (uH [] kvs)))
theorem JL {X:Cx}{pos:Pos}{keys:List (gF Expr)}{values:List Expr}{trs:List (TE×TE)}(h:PPs X pos keys values trs)(hall:keys.all (·.isSome)=S_)(hl:keys.length=values.length)(h0:keys≠[])
  (h15:keys.length<=15):PE X (.Dict keys values pos) (LK trs):=by
 intro pins s σ H Q I q;have hn:=I.hok.fresh (ay s.heap.objs.size);have I1:=I.laid (a:=s.heap.objs.size) (o:=.dK []) (h':=s.heap.push {cls:=.type "dict",data:=.dict #[]}) (t':=s.toks) (λ _ _ q=>ah _ q) (ay _) (GW s.heap I.big);refine wpAny_Dict_walk (knd:=jv X.prog X.w) hall hl h0 h15 (thn (h pins _ σ _ _ I1 (q _ hn)) λ ws s2 ⟨ps,H2,I2,rel,e,kvs,ep,lk,q2⟩=>?_);subst ep;obtain⟨rs,c,rk⟩:=wV (P:=X.prog) (w:=X.w) rel;obtain⟨z,hd,vs0,r0,dd⟩:=LH I2.hok e;cases r0;refine⟨rs,c,dd,λ h' dd' hs=>⟨.ref s.heap.objs.size,_,?_,rfl,q2⟩⟩;have hz:(uH [] kvs).length<=sizeLine:=by have h1:=rN kvs [];rw[eE]at h1;rw[sizeLine_eq];lia
 have he:∃ q,h'.get? s.heap.objs.size=My q:=let ⟨q,_,_,hq,_⟩:=dd';⟨q,hq⟩;exact Ai I2 (by rw[e];exact True.intro) hs he (GV hz hd (rk.merge .nil) dd')
section
variable {X:Cx}{pins:gL}{σ:St}{H:Hp}{s:gJ}{a:Addr}{y d:V}{u r:gH}{o:gF V}{A:Around}{E:gE}
end
section
variable {X:Cx}{o e f:Expr}{apos cpos:Pos}{td ty tx:TE}
end
section
variable {X:Cx}{pins:gL}{σ:St}{H:Hp}{s:gJ}{a:Addr}{kvs:List (Key×V)}{A:Around}{E:gE}
end
section
variable {X:Cx}{pins:gL}{σ:St}{H:Hp}{s:gJ}{a:Addr}{y:V}{u:gH}{A:Around}{E:gE}
end
end L2
namespace Att
open PySem PySem.W PySem.Calls PyProof.Rows
theorem vF {P:Params}{h:Heap}:∀ (ns:List Int) (vs:List gH),WellAll P h vs (ns.map WData.int)->IntsAre vs ns:=by
 intro ns;induction ns with
 | nil =>intro vs w;rw[dB]at w;cases w;exact .nil
 | cons n ns ih =>
  intro vs w;rw[aR]at w;cases w with
  | cons a b =>cases a;exact .cons _ _ (ih _ b)
theorem zm {l:OpenLaw}{n:Nat}(hn:l.most=My n){P:Params}{h:Heap}{args:List WData}{vals:List gH}
  (hpre:l.row.toRowW.claim.pre args=S_) (hwl:WellAll P h vals args) :
  ∃ a vs ns,vals=[Value.ref a]/\args=[WData.list (ns.map WData.int)]/\h.get? a=My {cls:=.type "list",data:=.seq vs.toArray}/\IntsAre vs ns/\ns.length<=n:=by
 have hsh:WShape.hasAll [] args [.list .int]=S_:=(pre_splitW hpre).1;have hc:l.pre.holds [] {args:=args}=S_:=(pre_splitW hpre).2;obtain⟨d,r,rfl,h1,h2⟩:=hasAllW_cons hsh;obtain rfl:=hasAllW_nil h2;obtain⟨xs,rfl,h3⟩:=hasW_list h1;obtain⟨ns,rfl⟩:=items_int h3;have hlen:ns.length<=n:=by
  unfold OpenLaw.pre at hc;have h4:(WTm.not (.lt (.lit (.int (n:Int))) (.len (.arg 0)))).holds [] {args:=[.list (ns.map .int)]}=S_:=by have h4:=(holds_andW hc).1;rw[hn]at h4;exact h4
  have h5:=condW_of h4 (w_not (w_lt w_lit (w_len_list (w_arg rfl))));rw[af]at h5;refine fi λ q=>?_;have q':(n:Int)<((ns.length:Nat):Int):=by lia
  first
   | (rw[decide_eq_true q']at h5;exact absurd h5 (by decide))
   | (simp at h5;lia)
 cases hwl with
 | cons w1 w2 =>
  cases w2;cases w1 with
  | list ho hall=>exact⟨_,_,ns,rfl,rfl,ho,vF ns _ hall,hlen⟩
theorem zo (l:OpenLaw)(args:List WData):l.row.toRowW.claim.post args (.bool S_) args=S_ :=
 postW_of (r:=l.row.toRowW) (X:=(S_==S_))
  (show WShape.has [] (.bool S_) .bool=S_ by first | rfl | decide | simp[WShape.has,WShape.arms,WShape.armsAll])
  (show(WTm.eq .res (.lit (.bool S_))).value [] {args:=args,res:=My (.bool S_),after:=args}=My (.bool (S_==S_)) from w_eq_bool (w_res rfl) w_lit) rfl
theorem attach {l:OpenLaw}{n:Nat}{q:Program}{loose:List Str}{XP:(Str->gF gH)->Heap->Prop}{YP:World->Heap->Prop}{d:DefRec}{x:Str}
  (hn:l.most=My n) (hdf:d.params.defaults=[])
  (hbind:∀ pm cd doc v:gH,bindArgs (docDef d.name d.params d.body d.scope pm cd doc) ⟨[v],[]⟩=pure [(x,v)])
  (hx:d.scope.names.lookup x=My .local\/d.scope.names.lookup x=My .cell)
  (hk:d.scope.kind=.function) (hco:d.scope.isCoroutine=Ta) (hgen:d.scope.isGenerator=Ta)
  (body:∀ (w:World) (s₀ s₁ s:gJ) (mg mb:gD) (fa:Addr) (o:Obj) (pm cd doc:gH) (a:Addr) (vs:List gH) (ns:List Int),
   Ground q loose [] XP w s₀ mg mb s₁.heap->YP w s₁.heap ->
   s₁.heap.get? fa=My o->o.data=.func (docDef d.name d.params d.body d.scope pm cd doc)->s₁.heap.CodeRec cd d.name->mg d.name=My (.ref fa) ->
   s₁.heap.get? a=My {cls:=.type "list",data:=.seq vs.toArray}->IntsAre vs ns->ns.length<=n ->
   s.gens=#[]->s.os=s₁.os ->
   Fr s₁.heap s₁.heap.objs.size s.heap (bindL (envOfC d.name d.scope s₁.heap.objs.size fa cd).kindOf [(x,.ref a)] λ _=>SY) ->
   Cl s₁.heap.objs.size (cellsFrom (s₁.heap.objs.size+1) d.scope.names []) s.heap (bindC (envOfC d.name d.scope s₁.heap.objs.size fa cd).kindOf [(x,.ref a)] λ _=>SY) ->
   wpAny (model l.prog w) (callerA.deeper (envOfC d.name d.scope s₁.heap.objs.size fa cd)) (execs d.body (envOfC d.name d.scope s₁.heap.objs.size fa cd))
    (λ f s'=>f=.ret (.bool S_)/\OldK s₁.heap s'.heap/\s'.os=s₁.os/\AllBare s'.gens) (λ _ _=>False) s) :
  WalkO q loose XP YP l.row.toRowW d [] (λ f vs=>PySem.call f vs):=by
 intro w s₀ s₁ mg mb G Y fa o pm cd doc dV kV ho hd hcd hD hmg hg args vals as hpre hlay hrd hwl hlo;obtain rfl:dV=.none:=Dflts.none hD hdf;obtain rfl:kV=.none:=Dflts.noKw hD;obtain⟨a,vs,ns,rfl,rfl,hobj,hints,hlen⟩:=zm hn hpre hwl;refine enter_call ?_;refine call_cells_ret (o:=o) (by rw[depth_caller];decide) ho (fd_plain hd) G.T.nolimit hcd (hbind pm cd doc (.ref a)) (λ y hy=>?_) (λ h₁ tk F X=>?_) hco hgen hk
 ·obtain rfl:y=(x,Value.ref a):=bp.mp hy
  rcases hx with e | e
  ·exact .inl e
  ·exact .inr ⟨e,cellsFrom_some _ _ _ (.inl e)⟩
 ·refine cZ (body w s₀ s₁ {s₁ with heap:=h₁,toks:=tk} mg mb fa o pm cd doc a vs ns G Y ho (fd_plain hd) hcd hmg hobj hints hlen hg rfl F X) (λ f s' hq=>?_) (λ _ _ hq=>hq);obtain⟨rfl,h2,h3,h4⟩:=hq;exact⟨.inl ⟨.bool S_,.bool S_,[],rfl,λ _=>rfl,.bool S_,zo l _,λ _=>⟨List.Pairwise.nil,λ _ hm=>(nomatch hm)⟩⟩,h2,h3,h4⟩
theorem Bt {l:OpenLaw}{n:Nat}{q:Program}{loose:List Str}{XP:(Str->gF gH)->Heap->Prop}{YP:World->Heap->Prop}{d:DefRec}
  (hn:l.most=My n) (hdf:d.params.defaults=[])
  (call:∀ (w:World) (s₀ s₁:gJ) (mg mb:gD) (fa:Addr) (o:Obj) (pm cd doc:gH) (a:Addr) (vs:List gH) (ns:List Int),
   Ground q loose [] XP w s₀ mg mb s₁.heap->YP w s₁.heap ->
   s₁.heap.get? fa=My o->o.data=.func (docDef d.name d.params d.body d.scope pm cd doc)->s₁.heap.CodeRec cd d.name->mg d.name=My (.ref fa) ->
   s₁.heap.get? a=My {cls:=.type "list",data:=.seq vs.toArray}->IntsAre vs ns->ns.length<=n->s₁.gens=#[] ->
   codeAny (model l.prog w) callerA (.call (.ref fa) ⟨[.ref a],[]⟩) (λ r s'=>r=.ok (.ret (.bool S_))/\OldK s₁.heap s'.heap/\s'.os=s₁.os/\AllBare s'.gens) s₁) :
  WalkO q loose XP YP l.row.toRowW d [] (λ f vs=>PySem.call f vs):=by
 intro w s₀ s₁ mg mb G Y fa o pm cd doc dV kV ho hd hcd hD hmg hg args vals as hpre hlay hrd hwl hlo;obtain rfl:dV=.none:=Dflts.none hD hdf;obtain rfl:kV=.none:=Dflts.noKw hD;obtain⟨a,vs,ns,rfl,rfl,hobj,hints,hlen⟩:=zm hn hpre hwl;refine enter_call (codeAny_mono (call w s₀ s₁ mg mb fa o pm cd doc a vs ns G Y ho (fd_plain hd) hcd hmg hobj hints hlen hg) λ r s' hq=>?_);obtain⟨rfl,h2,h3,h4⟩:=hq;exact⟨.inl ⟨.bool S_,.bool S_,[],rfl,λ _=>rfl,.bool S_,zo l _,λ _=>⟨List.Pairwise.nil,λ _ hm=>(nomatch hm)⟩⟩,h2,h3,h4⟩
section
variable {prog:Program}{w:World}{A:Around}{E:gE}{s:gJ}{K:Frag}
def jd (h:Heap):Heap:={h with objs:=#[]}
end
end Att
namespace L2
open PySem PySem.Spec PyProof.Rows
theorem zp:∀ {vs:List gH} {ns:List Int},IntsAre vs ns->Vals (ns.map V.int) vs
 | _,_,.nil=>.nil
 | _,_,.cons n t h=>.cons ⟨t,rfl⟩ (zp h)
def MP (H:Hp):Prop:=∀ b,H b=SY\/∃ o xs,H b=My (.frz o (.lst xs))
theorem GY {P:Program}{w:World}{K:gG}{mg mb:gD}{CX:CXT}{k:Nat}{fa a:Addr}{fd:FuncData}{x:Str}{sp:Sp}{s₁:gJ}{vs:List gH}{ns:List Int}
  (KX:K.In s₁.heap) (hns:s₁.heap.Ns mainGlobals mg) (hb:s₁.heap.Ns builtinsNs mb) (hbb:∀ x:Str,x≠"__name__"->mb x=bootBuiltins x) (hlim:s₁.heap.NoLimit) (hg:s₁.gens=#[])
  (ha:s₁.heap.get? a=My {cls:=.type "list",data:=.seq vs.toArray}) (hi:IntsAre vs ns) (hl:ns.length<=sizeLine) (hr:jt k callerA)
  (F:∀ base:Heap,K.In base->base.Ns mainGlobals mg->pj P w K mg base CX k fa fd [x] sp) (hbind:∀ (s:gJ) (u:gH),BindsTo s fd ⟨[u],[]⟩ [(x,u)])
  (hsp:∀ H:Hp,MP H->SqL K H a (ns.map V.int)->sp [.ref a] H (λ v _=>v=.bl S_) λ _ _ _=>False)
  (hCX:∀ H e s',CX [] H s₁ (λ _ _ _=>False) e s'->False) :
  codeAny (model P w) callerA (.call (.ref fa) ⟨[.ref a],[]⟩) (λ r s'=>r=.ok (.ret (.bool S_))/\OldK s₁.heap s'.heap/\s'.os=s₁.os/\AllBare s'.gens) s₁:=by
 have rv:=zp hi;have lenV:=hi.length;have core:∀ H:Hp,MP H->SqL K H a (ns.map V.int)->HOk P w H s₁.heap->(∀ b,H b≠SY->b=a)->(H a≠SY->K.lookup a=SY) ->
   codeAny (model P w) callerA (.call (.ref fa) ⟨[.ref a],[]⟩) (λ r s'=>r=.ok (.ret (.bool S_))/\OldK s₁.heap s'.heap/\s'.os=s₁.os/\AllBare s'.gens) s₁:=by
  intro H hO hS hok hA hK;have base_of:∀ {b:Addr} {o:Obj},s₁.heap.get? b=My o->H b=SY->(zV s₁.heap H).get? b=My o:=λ e n=>Gy e n;have noA:∀ {b:Addr} {o:Obj} {es:Array DictEntry} {ep:Nat},s₁.heap.get? b=My o->o.data=.dict es ep->H b=SY:=λ{b o es ep} e d=>by
   cases q:H b with
   | none=>rfl
   | some u =>have e':b=a:=hA b (by rw[q];simp);subst e';rw[ha]at e;cases e;have d':Data.seq vs.toArray _=Data.dict es ep:=d;cases d'
  have nsK:∀ {b:Addr} {m:gD},s₁.heap.Ns b m->(zV s₁.heap H).Ns b m:=λ{b m} ⟨o,es,ep,e,d,r⟩=>⟨o,es,ep,base_of e (noA e d),d,r⟩;have hKb:K.In (zV s₁.heap H):=λ b o e=>base_of (KX b o e) (by
   cases q:H b with
   | none=>rfl
   | some u =>have e':b=a:=hA b (by rw[q];simp);subst e';rw[hK (by rw[q];simp)]at e;cases e)
  have hM:Mod K mg (zV s₁.heap H):=⟨hKb,nsK hns,⟨mb,nsK hb,hbb⟩,let ⟨mc,h1,h2⟩:=hlim;⟨mc,nsK h1,h2⟩⟩;have e0:Fn P w K mg (zV s₁.heap H) callerA [] s₁ H:=⟨rfl,hM,λ b o e=>Jt e,fJ (Fi _ _),trivial,λ b hb=>absurd (show b∈([]:List Addr) from hb) (by simp),hok,.of_eq hg⟩;refine codeAny_mono ((F _ hKb (nsK hns)).run callerA [] s₁ H ⟨[.ref a],[]⟩ [.ref a] [.ref a] _ _ hr e0 (hbind s₁ (.ref a)) (.cons rfl .nil) (hsp H hO hS)) λ r s' h=>?_;cases r with
  | error e=>exact(hCX H e s' h).elim
  | ok fl =>
   cases fl with
   | next=>exact False.elim h
   | brk=>exact False.elim h
   | cont=>exact False.elim h
   | ret u =>
    obtain⟨v,H',os,bare,un,hok',r',q⟩:=h;have q':v=.bl S_:=q;subst q';obtain rfl:u=Value.bool S_:=r';refine⟨rfl,OldK.of_keep λ b o e=>?_,os,bare⟩;cases q:H b with
    | none=>exact un.keep b o e q (by intro z;exact absurd (show b∈([]:List Addr) from z) (by simp)) (by simp)
    | some u =>
     rcases hO b with z | ⟨ob,xs,z⟩
     ·rw[q]at z;cases z
     ·have z2:=un.qm b ob _ z;obtain⟨e1,_⟩:=hok b _ z;obtain⟨e2,_⟩:=hok' b _ z2;rw[e]at e1;cases e1;exact e2
 cases hk:K.lookup a with
 | some o =>have e:=KX a o hk;rw[ha]at e;cases e;refine core (λ _=>SY) (λ _=>.inl rfl) (.inr ⟨_,vs.toArray,_,hk,rfl,rfl,rfl,by rw[au,lenV];exact hl,by simpa using rv⟩) (λ b u z=>by have z':(SY:gF HO)=My u:=z;cases z') (λ b z=>absurd rfl z) λ z=>absurd rfl z
 | none =>
  refine core (λ b=>if b=a then My (.frz {cls:=.type "list",data:=.seq vs.toArray} (.lst (ns.map V.int))) else SY) (λ b=>?_) (.inl (.inr ⟨{cls:=.type "list",data:=.seq vs.toArray},ai rfl⟩)) (λ b u z=>?_) (λ b z=>?_) λ _=>hk
  ·by_cases hb:b=a
   ·exact .inr ⟨_,_,ai hb⟩
   ·exact .inl (ak hb)
  ·by_cases hb:b=a
   ·have z':=(ai hb).symm.trans z;cases z';subst hb;exact⟨ha,by rw[af];exact hl,vs,_,rv,ha⟩
   ·have z':=(ak hb).symm.trans z;cases z'
  ·by_cases hb:b=a
   ·exact hb
   ·exact absurd (ak hb) z
theorem Ef {l:PySem.W.OpenLaw}{n k:Nat}{q:Program}{loose:List Str}{XP:(Str->gF gH)->Heap->Prop}{YP:World->Heap->Prop}{d:DefRec}{K:Params->gG}{CX:World->CXT}{sp:World->Sp}{x:Str}
  (hn:l.most=My n) (hn2:n<=sizeLine) (hdf:d.params.defaults=[]) (hr:jt k callerA)
  (hY:∀ (w:World) (h:Heap),YP w h->(K w.params).In h)
  (F:∀ (w:World) (mg:gD) (fa:Addr) (h:Heap),(K w.params).In h->h.Ns mainGlobals mg->mg d.name=My (.ref fa) ->
   ∃ fd:FuncData,(∀ (s:gJ) (u:gH),BindsTo s fd ⟨[u],[]⟩ [(x,u)]) /\
    ∀ base:Heap,(K w.params).In base->base.Ns mainGlobals mg->pj l.prog w (K w.params) mg base (CX w) k fa fd [x] (sp w))
  (hsp:∀ (w:World) (H:Hp) (a:Addr) (ns:List Int),ns.length<=n->MP H->SqL (K w.params) H a (ns.map V.int)->sp w [.ref a] H (λ v _=>v=.bl S_) λ _ _ _=>False)
  (hCX:∀ (w:World) (H:Hp) (s:gJ) (e:gH) (s':gJ),CX w [] H s (λ _ _ _=>False) e s'->False) :
  PySem.W.WalkO q loose XP YP l.row.toRowW d [] (λ f vs=>PySem.call f vs):=by
 refine Att.Bt hn hdf λ w s₀ s₁ mg mb fa o pm cd doc a vs ns G Y ho hd hcd hmg hobj hints hlen hg=>?_;have KX:=hY w _ Y;obtain⟨fd,hb,hF⟩:=F w mg fa _ KX G.T.g hmg;exact GY KX G.T.g G.T.b G.T.builtins G.T.nolimit hg hobj hints (bC hlen hn2) hr hF hb (λ H hO hS=>hsp w H a ns hlen hO hS) λ H e s'=>hCX w H s₁ e s'
def sV (s:Stmt):Arguments:=match s with
 | .FunctionDef _ a _ _ _ _ _ _ _ _=>a
 | _=>{posonlyargs:=[],args:=[],vararg:=SY,kwonlyargs:=[],kw_defaults:=[],kwarg:=SY,defaults:=[]}
def iW (s:Stmt):List Stmt:=match s with
 | .FunctionDef _ _ b _ _ _ _ _ _ _=>b
 | _=>[]
def gW (s:Stmt):Scope:=match s with
 | .FunctionDef _ _ _ _ _ _ sc _ _ _=>sc
 | _=>{kind:=.function,names:=[],isGenerator:=Ta,isCoroutine:=Ta}
abbrev CX0:CXT:=λ _ _ _ _ _ _=>False
abbrev E0:XK:=λ _ _ _=>False
theorem LL {X:Cx}:Passes CX0 X E0:=λ _ _ _ _ _ _ _ h=>h.elim
structure Fun (K:gG)(x qual:Str)(st:Stmt)(f:Addr)(fd:FuncData):Prop where
 ex:∃ (oc:gH) (od:gF Addr) (kV doc pm:gH) (an:gF Addr) (cdv ct:gH) (osl:Array (gF gH)),
  fd=PySem.W.fnOf x qual (sV st) (iW st) (gW st) .none kV doc pm an cdv ct/\K.lookup f=My ⟨oc,od,.func fd,osl⟩/\PySem.W.codeIn K cdv qual=S_
 kp:PySem.W.keepIn K (.ref f)=S_
section
variable {P:Program}{w:World}{K:gG}{mg:gD}{base:Heap}
theorem Fun.ok {x qual:Str}{st:Stmt}{f:Addr}{fd:FuncData}{N ps:List Str}{k:Nat}{sp:Sp}(F:Fun K x qual st f fd)(S:ie N ps (gW st))(len:∀ vs H Q E,sp vs H Q E->vs.length=ps.length)
  (hbody:∀ (cdv:gH) (A:Around) (outer:List Env) (s:gJ) (H:Hp) (vs:List V) (Q:VK) (E:XK),jt k (A.deeper (envOfC qual (gW st) s.heap.objs.size f cdv))->sp vs H Q E ->
   ∃ t,PSs (qo CX0 P w K mg base N qual (gW st) f cdv A outer s H E).nox (iW st) t/\t {nx:=λ _ H'=>Q .non H',rt:=Q} (start N vs) H):pj P w K mg base CX0 (k+1) f fd ps sp:=by
 obtain⟨oc,od,kV,doc,pm,an,cdv,ct,osl,rfl,lk,hcd⟩:=F.ex;refine LF lk hcd S len λ A outer s H vs Q E hr hsp=>?_;obtain⟨t,h,q⟩:=hbody cdv A outer s H vs Q E hr hsp;exact⟨t,h.nox,q⟩
theorem MQ {x qual:Str}{st:Stmt}{f:Addr}{oc:gH}{od an:gF Addr}{osl:Array (gF gH)}{kV doc pm cdv ct:gH}(l:K.lookup f=My ⟨oc,od,.func (PySem.W.fnOf x qual (sV st) (iW st) (gW st) .none kV doc pm an cdv ct),osl⟩)
  (c:PySem.W.codeIn K cdv qual=S_) (k:PySem.W.keepIn K (.ref f)=S_):Fun K x qual st f (PySem.W.fnOf x qual (sV st) (iW st) (gW st) .none kV doc pm an cdv ct):=⟨⟨oc,od,kV,doc,pm,an,cdv,ct,osl,rfl,l,c⟩,k⟩
end
theorem O5 {A:Around}{k:Nat}(hr:jt k A):A.units+1<cLine:=dX (Nat.add_le_add_left (by decide:1<=64) _) hr.units
section
variable {X:Cx}
theorem pv (i:Nat){x:Str}{pos:Pos}(hN:X.N[i]?=My x:=by rfl)(hv:Vis X.env.scope x:=by trivial)(hd:(x==("__debug__":Str))=Ta:=by decide)
  (hcd:(x==("__classdict__":Str))=Ta:=by decide):PE X (.Name x pos) (hX i):=GA hN hv hd hcd
end
theorem GZ {A B:Prop}(h:B):if Ta=S_ then A else B:=by rw[ak aw];exact h
theorem G0 {A B:Prop}(h:A):if S_=S_ then A else B:=by rw[ai rfl];exact h
theorem MR {c A B:Prop}[Decidable c](h1:c->A)(h2:¬ c->B):if c then A else B:=by
 by_cases h:c
 ·rw[ai h];exact h1 h
 ·rw[ak h];exact h2 h
def gY (H H':Hp):Prop:=∀ b o,H b=My o->H' b=My o
theorem gY.refl (H:Hp):gY H H:=λ _ _ h=>h
theorem gY.trans {H H1 H2:Hp}(a:gY H H1)(b:gY H1 H2):gY H H2:=λ c o h=>b c o (a c o h)
theorem gY.free {H H':Hp}(e:gY H H'){l:Addr}(h:H' l=Option.none):H l=Option.none:=by
 cases q:H l with
 | none=>rfl
 | some o =>rw[e l o q]at h;cases h
theorem gY.seq {K:gG}{H H':Hp}{a:Addr}{xs:List V}(e:gY H H')(h:SqL K H a xs):SqL K H' a xs:=by
 rcases h with (h | ⟨o,h⟩) | h
 ·exact .inl (.inl (e _ _ h))
 ·exact .inl (.inr ⟨o,e _ _ h⟩)
 ·exact .inr h
section
variable {κ:Type}[DecidableEq κ]
theorem Aj:∀ {l:List κ} {k:κ},l.Nodup->¬ k∈l->(l++[k]).Nodup
 | [],k,_,_=>by simp
 | a::r,k,h,hk=>by
  obtain⟨h1,h2⟩:=bc.mp h;show(a::(r++[k])).Nodup;refine bc.mpr ⟨λ m=>?_,Aj h2 λ m=>hk (aB.mpr (Or.inr m))⟩;rcases bh.mp m with q | q
  ·exact h1 q
  ·exact hk (aB.mpr (Or.inl (bp.mp q).symm))
end
end L2
namespace Tb
open PySem
def Ri (xs:Array Nat):Prop:=∀ (a b x y:Nat),a<b->xs[a]?=My x->xs[b]?=My y->x<y
def Bel (xs:Array Nat)(j r:Nat):Prop:=r<=xs.size/\(∀ k x,k<r->xs[k]?=My x->x<j)/\(∀ k x,r<=k->xs[k]?=My x->j<=x)
theorem wW {xs:Array Nat}{j:Nat}(R:Ri xs):∀ (fuel lo hi:Nat),hi<=lo+fuel->lo<=hi->hi<=xs.size->(∀ k x,k<lo->xs[k]?=My x->x<j)->(∀ k x,hi<=k->xs[k]?=My x->j<=x)->Bel xs j (SetTable.below.go xs j fuel lo hi)
 | 0,lo,hi,h1,h2,h3,h4,h5=>by
  have e:lo=hi:=by lia
  subst e;exact⟨h3,h4,h5⟩
 | fuel+1,lo,hi,h1,h2,h3,h4,h5=>by
  unfold SetTable.below.go;by_cases hlt:lo<hi
  ·rw[ai hlt]
   have hm:(lo+hi) / 2<xs.size:=by lia
   obtain⟨v,hv⟩:∃ v,xs[(lo+hi) / 2]?=My v:=⟨xs[(lo+hi) / 2],by simp[hm]⟩;have hd:xs.getD ((lo+hi) / 2) j=v:=by rw[bH,hv];rfl
   dsimp only;rw[hd];by_cases hj:v<j
   ·rw[ai hj]
    refine wW R fuel _ _ (by lia) (by lia) h3 (λ k x hk e=>?_) h5;by_cases hk':k=(lo+hi) / 2
    ·subst hk';rw[hv]at e;cases e;exact hj
    ·exact Nat.lt_trans (R k _ x v (by lia) e hv) hj
   ·rw[ak hj]
    refine wW R fuel _ _ (by lia) (by lia) (by lia) h4 (λ k x hk e=>?_);by_cases hk':k=(lo+hi) / 2
    ·subst hk';rw[hv]at e;cases e;lia
    ·have:=R _ k v x (by lia) hv e;lia
  ·rw[ak hlt]
   have e:lo=hi:=by lia
   subst e;exact⟨h3,h4,h5⟩
theorem wX {xs:Array Nat}(R:Ri xs)(j:Nat):Bel xs j (Te xs j) :=
 wW R xs.size 0 xs.size (by lia) (aN _) (ay _) (λ k x hk=>absurd hk (cQ _)) λ k x hk e=>by rw[cW hk]at e;cases e
theorem below_at {xs:Array Nat}(R:Ri xs){i j:Nat}(e:xs[i]?=My j):Te xs j=i:=by
 obtain⟨h1,h2,h3⟩:=wX R j;rcases eU i (Te xs j) with h | h | h
 ·exact absurd (h2 i j h e) (aW _)
 ·exact h.symm
 ·have hi:i<xs.size:=(cw.mp e).1
  have hr:Te xs j<xs.size:=by lia
  have hv:xs[Te xs j]?=My xs[Te xs j]:=by simp[hr]
  have a:=R _ _ _ _ h hv e;have b:=h3 _ _ (ay _) hv;lia
def Occ (t:SetTable)(j:Nat):Prop:=∃ i:Nat,t.place[i]?=My j
theorem uI {t:SetTable}(R:Ri t.place){i j:Nat}(e:t.place[i]?=My j):t.slot j=.live i:=by unfold SetTable.slot;rw[below_at R e];dsimp only;rw[e];simp
theorem C9 {t:SetTable}(hd:t.dummies=#[]){j:Nat}(e:¬ Occ t j):t.slot j=.empty:=by
 unfold SetTable.slot;dsimp only;rw[ak,hd]
 ·have:SetTable.has #[] j=Ta:=by
   unfold SetTable.has;simp
  rw[this];rfl
 ·intro h;exact e ⟨_,by simpa using h⟩
def adv (mask:Nat)(p:SetTable.Probe):SetTable.Probe :=
 if p.more>0 then {p with j:=p.j+1,more:=p.more-1} else {p with j:=(SetTable.leap mask p.i p.perturb).1,more:=Tf mask (SetTable.leap mask p.i p.perturb).1-(SetTable.leap mask p.i p.perturb).1,i:=(SetTable.leap mask p.i p.perturb).1,perturb:=(SetTable.leap mask p.i p.perturb).2}
theorem wY (t:SetTable)(p:SetTable.Probe):t.advance p=adv t.mask p:=by unfold SetTable.advance adv;split<;>rfl
def walk (mask:Nat)(p:SetTable.Probe):Nat->SetTable.Probe
 | 0=>p
 | n+1=>adv mask (walk mask p n)
theorem G1 (mask:Nat)(p:SetTable.Probe):∀ n,walk mask (adv mask p) n=walk mask p (n+1)
 | 0=>rfl
 | n+1=>by show adv mask (walk mask (adv mask p) n)=adv mask (walk mask p (n+1));rw[G1 mask p n]
theorem sW (mask:Nat)(p:SetTable.Probe)(a:Nat):∀ n,walk mask (walk mask p a) n=walk mask p (a+n)
 | 0=>rfl
 | n+1=>by show adv mask (walk mask (walk mask p a) n)=adv mask (walk mask p (a+n));rw[sW mask p a n]
def st (mask:Nat)(h:Int):SetTable.Probe:={j:=Tg h % (mask+1),more:=Tf mask (Tg h % (mask+1))-Tg h % (mask+1),i:=Tg h % (mask+1),perturb:=Tg h,dummy:=SY}
theorem Fs (mask:Nat)(p:SetTable.Probe):(adv mask p).dummy=p.dummy:=by unfold adv;split<;>rfl
theorem wZ (mask:Nat)(p:SetTable.Probe):∀ n,(walk mask p n).dummy=p.dummy
 | 0=>rfl
 | n+1=>(Fs _ _).trans (wZ mask p n)
def bdy (mask i perturb:Nat):SetTable.Probe:={j:=i,more:=Tf mask i-i,i:=i,perturb:=perturb,dummy:=SY}
theorem Ft (mask i:Nat):Tf mask i-i<=9:=by unfold Tf;split<;>lia
theorem C_ (mask i perturb:Nat):∀ k,k<=Tf mask i-i->walk mask (bdy mask i perturb) k={j:=i+k,more:=Tf mask i-i-k,i:=i,perturb:=perturb,dummy:=SY}
 | 0,_=>rfl
 | k+1,h=>by show adv mask (walk mask (bdy mask i perturb) k)=_;rw[C_ mask i perturb k (by lia)];unfold adv;rw[ai (by show Tf mask i-i-k>0;lia)];show SetTable.Probe.mk (i+k+1) (Tf mask i-i-k-1) i perturb SY=SetTable.Probe.mk (i+(k+1)) (Tf mask i-i-(k+1)) i perturb SY;congr 1
theorem Bu (mask i perturb:Nat):walk mask (bdy mask i perturb) (Tf mask i-i+1)=bdy mask (SetTable.leap mask i perturb).1 (SetTable.leap mask i perturb).2:=by show adv mask (walk mask (bdy mask i perturb) (Tf mask i-i))=_;rw[C_ mask i perturb _ (ay _)];unfold adv;rw[ak (by show ¬ Tf mask i-i-(Tf mask i-i)>0;lia)];rfl
def lp (mask:Nat)(i perturb:Nat):Nat->Nat×Nat
 | 0=>(i,perturb)
 | n+1=>SetTable.leap mask (lp mask i perturb n).1 (lp mask i perturb n).2
theorem Eg (mask i perturb:Nat):∀ L,∃ n,n<=10*L/\walk mask (bdy mask i perturb) n=bdy mask (lp mask i perturb L).1 (lp mask i perturb L).2
 | 0=>⟨0,ay _,rfl⟩
 | L+1=>by
  obtain⟨n,hn,e⟩:=Eg mask i perturb L;refine⟨n+(Tf mask (lp mask i perturb L).1-(lp mask i perturb L).1+1),?_,?_⟩
  ·have:=Ft mask (lp mask i perturb L).1;lia
  ·rw[<-sW,e];exact Bu _ _ _
theorem Eh (mask i perturb:Nat):∀ L,(lp mask i perturb L).2=perturb / 32 ^ L
 | 0=>by simp[lp]
 | L+1=>by show(lp mask i perturb L).2 / 32=_;rw[Eh mask i perturb L,Nat.div_div_eq_div_mul,Nat.pow_succ]
theorem Dc (mask i perturb a:Nat):∀ L,lp mask i perturb (a+L)=lp mask (lp mask i perturb a).1 (lp mask i perturb a).2 L
 | 0=>rfl
 | L+1=>by show SetTable.leap mask (lp mask i perturb (a+L)).1 (lp mask i perturb (a+L)).2=_;rw[Dc mask i perturb a L];rfl
def lc (mask:Nat):Nat->Nat
 | 0=>0
 | n+1=>(lc mask n*5+1) % (mask+1)
def Mk (mask:Nat):Prop:=mask=7\/mask=31\/mask=127
theorem JM:∀ j,j<8->∃ k,k<8/\lc 7 k=j:=by decide +kernel
theorem G2:∀ j,j<32->∃ k,k<32/\lc 31 k=j:=by decide +kernel
theorem Fu:∀ j,j<128->∃ k,k<128/\lc 127 k=j:=by decide +kernel
theorem JN:lc 7 8=0/\lc 31 32=0/\lc 127 128=0:=by decide +kernel
theorem G3 {mask:Nat}(m:Mk mask){j:Nat}(h:j<=mask):∃ k,k<=mask/\lc mask k=j:=by
 rcases m with rfl | rfl | rfl
 ·obtain⟨k,h1,h2⟩:=JM j (by lia);exact⟨k,by lia,h2⟩
 ·obtain⟨k,h1,h2⟩:=G2 j (by lia);exact⟨k,by lia,h2⟩
 ·obtain⟨k,h1,h2⟩:=Fu j (by lia);exact⟨k,by lia,h2⟩
theorem G4 {mask:Nat}(m:Mk mask):∀ n,lc mask (mask+1+n)=lc mask n
 | 0=>by
  have:=JN;rcases m with rfl | rfl | rfl
  ·exact this.1
  ·exact this.2.1
  ·exact this.2.2
 | n+1=>by show(lc mask (mask+1+n)*5+1) % (mask+1)=(lc mask n*5+1) % (mask+1);rw[G4 m n]
theorem LM {mask:Nat}(a:Nat):∀ L,(lp mask (lc mask a) 0 L).1=lc mask (a+L)/\(lp mask (lc mask a) 0 L).2=0
 | 0=>⟨rfl,rfl⟩
 | L+1=>by
  obtain⟨h1,h2⟩:=LM (mask:=mask) a L;refine⟨?_,?_⟩
  ·show((lp mask (lc mask a) 0 L).1*5+1+(lp mask (lc mask a) 0 L).2 / 32) % (mask+1)=(lc mask (a+L)*5+1) % (mask+1);rw[h1,h2]
  ·show(lp mask (lc mask a) 0 L).2 / 32=0;rw[h2]
theorem JO (h:Int):Tg h<2 ^ 64:=by unfold Tg;have h1:=cn h (show(2 ^ 64:Int)≠0 by decide);have h2:=cL h (show(0:Int)<2 ^ 64 by decide);lia
theorem G5 {mask:Nat}(m:Mk mask)(i:Nat)(hi:i<=mask)(h:Int){j:Nat}(hj:j<=mask):∃ L,L<SetTable.turns mask/\(lp mask i (Tg h) L).1=j:=by
 have hp:(lp mask i (Tg h) 13).2=0:=by rw[Eh];have:=JO h;exact Nat.div_eq_of_lt (aJ this (by decide))
 have hlt:∀ L,(lp mask i (Tg h) (L+1)).1<=mask:=λ L=>by show((lp mask i (Tg h) L).1*5+1+(lp mask i (Tg h) L).2 / 32) % (mask+1)<=mask;exact cA (gf _ (gm _))
 obtain⟨a,ha,ea⟩:=G3 m (hlt 12);obtain⟨b,hb,eb⟩:=G3 m hj;obtain⟨L,hL,eL⟩:∃ L,L<=mask/\lc mask (a+L)=j:=by
  by_cases hab:a<=b
  ·exact⟨b-a,by lia,by rw[show a+(b-a)=b by lia];exact eb⟩
  ·refine⟨mask+1+b-a,by lia,?_⟩;rw[show a+(mask+1+b-a)=mask+1+b by lia,G4 m];exact eb
 refine⟨13+L,by unfold SetTable.turns;lia,?_⟩;rw[Dc,hp,<-ea];rw[(LM a L).1];exact eL
def Reach (mask:Nat)(h:Int)(occ:Nat->Prop)(j:Nat):Prop:=∃ n,(walk mask (st mask h) n).j=j/\∀ m,m<n->occ (walk mask (st mask h) m).j
theorem Reach.mono {mask:Nat}{h:Int}{occ occ':Nat->Prop}{j:Nat}(r:Reach mask h occ j)(k:∀ x,occ x->occ' x):Reach mask h occ' j :=
 let ⟨n,e,a⟩:=r
 ⟨n,e,λ m hm=>k _ (a m hm)⟩
structure TOk (t:SetTable)(hs:List Int):Prop where
 m:Mk t.mask
 d:t.dummies=#[]
 ri:Ri t.place
 le:∀ (i j:Nat),t.place[i]?=My j->j<=t.mask
 sz:t.place.size=hs.length
 ro:t.place.size<=t.mask
 rc:∀ (i j:Nat) (h:Int),t.place[i]?=My j->hs[i]?=My h->Reach t.mask h (Occ t) j
theorem bits_le (mask:Nat)(h:Int):Tg h % (mask+1)<=mask:=cA (gf _ (gm _))
theorem w6 {α:Type}[BEq α][LawfulBEq α]:∀ (l l':List α),l.Nodup->(∀ x,x∈l->x∈l')->l.length<=l'.length
 | [],l',_,_=>aN _
 | a::r,l',hn,hs=>by obtain⟨h1,h2⟩:=bc.mp hn;have ha:=hs a av;have:=w6 r (l'.erase a) h2 λ x hx=>(List.mem_erase_of_ne (show x≠a from λ e=>h1 (e▸hx))).mpr (hs x (ax _ hx));rw[List.length_erase_of_mem ha]at this;have hpos:0<l'.length:=List.length_pos_of_mem ha;rw[bK];lia
theorem Fv {xs:Array Nat}{mask:Nat}(R:Ri xs)(hs:xs.size<=mask):∃ j,j<=mask/\¬ ∃ i:Nat,xs[i]?=My j:=by
 refine aV λ hn=>?_;have all:∀ j,j<=mask->j∈xs.toList:=λ j hj=>by refine aV λ hm=>hn ⟨j,hj,λ⟨i,e⟩=>hm ?_⟩;rw[<-aZ]at e;exact bg e
 have:=w6 (Tc (mask+1)) xs.toList cp λ j hj=>all j (cA (aC.mp hj));simp at this;lia
theorem JP {t:SetTable}{hs:List Int}(T:TOk t hs)(h:Int):∃ e,e<10*SetTable.turns t.mask/\¬ Occ t (walk t.mask (st t.mask h) e).j:=by
 obtain⟨j,hj,hn⟩:=Fv T.ri T.ro;obtain⟨L,hL,e⟩:=G5 T.m _ (bits_le t.mask h) h hj;obtain⟨n,hn',e2⟩:=Eg t.mask (Tg h % (t.mask+1)) (Tg h) L;refine⟨n,by lia,?_⟩;have e3:(walk t.mask (st t.mask h) n).j=j:=by have:walk t.mask (st t.mask h) n=_:=e2;rw[this];exact e
 rw[e3];exact hn
theorem least {P:Nat->Prop}{e:Nat}(h:P e):∃ n,n<=e/\P n/\∀ m,m<n->¬ P m:=by
 induction e using Nat.strongRecOn with
 | ind e ih =>
  by_cases q:∃ m,m<e/\P m
  ·obtain⟨m,hm,pm⟩:=q;obtain⟨n,a,b,c⟩:=ih m hm pm;exact⟨n,by lia,b,c⟩
  ·exact⟨e,ay _,h,λ m hm pm=>q ⟨m,hm,pm⟩⟩
theorem Fw {t:SetTable}{hs:List Int}(T:TOk t hs)(h:Int):∃ e,e<10*SetTable.turns t.mask/\¬ Occ t (walk t.mask (st t.mask h) e).j/\∀ m,m<e->Occ t (walk t.mask (st t.mask h) m).j:=by obtain⟨e,he,hn⟩:=JP T h;obtain⟨n,h1,h2,h3⟩:=least (P:=λ n=>¬ Occ t (walk t.mask (st t.mask h) n).j) hn;exact⟨n,by lia,h2,λ m hm=>aV (h3 m hm)⟩
theorem Bv {t:SetTable}{hs:List Int}(T:TOk t hs){hashAt:Nat->Int}{h:Int}{e:Nat}(he:¬ Occ t (walk t.mask (st t.mask h) e).j)(hb:∀ m,m<e->Occ t (walk t.mask (st t.mask h) m).j) :
  ∀ (fuel n:Nat),n<=e->e<n+fuel->SetTable.probe.go t hashAt h fuel (walk t.mask (st t.mask h) n)=My (.empty (walk t.mask (st t.mask h) e).j SY)/\(∀ m,n<=m->m<e->∀ i:Nat,t.place[i]?=My (walk t.mask (st t.mask h) m).j->hashAt i≠h) \/
   ∃ m i:Nat,n<=m/\m<e/\t.place[i]?=My (walk t.mask (st t.mask h) m).j/\hashAt i=h/\(∀ m',n<=m'->m'<m->∀ i:Nat,t.place[i]?=My (walk t.mask (st t.mask h) m').j->hashAt i≠h) /\
    SetTable.probe.go t hashAt h fuel (walk t.mask (st t.mask h) n)=My (.candidate (walk t.mask (st t.mask h) m).j i (walk t.mask (st t.mask h) (m+1)))
 | 0,n,h1,h2=>by lia
 | fuel+1,n,h1,h2=>by
  by_cases q:n=e
  ·subst q;refine .inl ⟨?_,λ m a b=>by lia⟩;unfold SetTable.probe.go;rw[C9 T.d he];dsimp only;rw[wZ];rfl
  ·obtain⟨i,hi⟩:=hb n (by lia)
   by_cases hh:hashAt i=h
   ·refine .inr ⟨n,i,ay _,by lia,hi,hh,λ m' a b=>by lia,?_⟩;unfold SetTable.probe.go;rw[uI T.ri hi];dsimp only;rw[ai (by simpa using hh),wY];rfl
   ·have stp:SetTable.probe.go t hashAt h (fuel+1) (walk t.mask (st t.mask h) n)=SetTable.probe.go t hashAt h fuel (walk t.mask (st t.mask h) (n+1)):=by
     rw[SetTable.probe.go];rw[uI T.ri hi];dsimp only;rw[ak (by simpa using hh),wY];rfl
    have skip:∀ m',n<=m'->¬ n+1<=m'->∀ i:Nat,t.place[i]?=My (walk t.mask (st t.mask h) m').j->hashAt i≠h:=λ m' a b i' e'=>by
     have:m'=n:=by lia
     subst this;have:i'=i:=(below_at T.ri e').symm.trans (below_at T.ri hi);rw[this];exact hh
    rcases Bv T he hb fuel (n+1) (by lia) (by lia) with⟨a,b⟩ | ⟨m,i',a1,a2,a3,a4,a5,a6⟩
    ·refine .inl ⟨stp.trans a,λ m hm1 hm2=>?_⟩
     by_cases hm:n+1<=m
     ·exact b m hm hm2
     ·exact skip m hm1 hm
    ·refine .inr ⟨m,i',by lia,a2,a3,a4,λ m' hm1 hm2=>?_,stp.trans a6⟩
     by_cases hm:n+1<=m'
     ·exact a5 m' hm hm2
     ·exact skip m' hm1 hm
theorem Ei {α:Type}(xs:Array α)(p:Nat)(x:α)(hp:p<=xs.size)(k:Nat):(SetTable.insertAt xs p x)[k]?=if k<p then xs[k]? else if k=p then My x else xs[k-1]?:=by
 rw[<-aZ,eB,<-aZ,<-aZ];have hl:(xs.toList.take p).length=p:=by rw[bR];simp;lia
 by_cases h1:k<p
 ·rw[ai h1,bP (by lia),eo h1]
 ·rw[ak h1,bL (by lia),hl]
  by_cases h2:k=p
  ·rw[ai h2,h2,Nat.sub_self];rfl
  ·rw[ak h2];obtain⟨c,hc⟩:∃ c,k-p=c+1:=⟨k-p-1,by lia⟩;rw[hc,cb,List.getElem?_drop];congr 1;lia
theorem sX {α:Type}(xs:Array α)(p:Nat)(x:α):(SetTable.insertAt xs p x).size=xs.size+1:=by have:=(SetTable.insertAt_perm xs p x).length_eq;simpa using this
theorem MS {t:SetTable}{hs:List Int}(T:TOk t hs){h:Int}{e:Nat}(he:¬ Occ t (walk t.mask (st t.mask h) e).j)(hb:∀ m,m<e->Occ t (walk t.mask (st t.mask h) m).j)(hj:(walk t.mask (st t.mask h) e).j<=t.mask)(hr:t.place.size+1<=t.mask){led plain:Bool} :
  TOk {(t.put (walk t.mask (st t.mask h) e).j).1 with plain:=plain} ((SetTable.insertAt hs.toArray (Te t.place (walk t.mask (st t.mask h) e).j) h).toList):=by
 generalize hjj:(walk t.mask (st t.mask h) e).j=j at *;obtain⟨b1,b2,b3⟩:=wX T.ri j;generalize hp:Te t.place j=p at *;have pl:((t.put j).1).place=SetTable.insertAt t.place p j:=by rw[<-hp];rfl
 have dm:((t.put j).1).dummies=#[]:=by show(if SetTable.has t.dummies j then _ else _)=_;rw[ak,T.d];rw[T.d];simp[SetTable.has]
 have get:=Ei t.place p j b1;have old:∀ x,Occ t x->Occ {(t.put j).1 with plain:=plain} x:=λ x ⟨i,hi⟩=>by
  by_cases hip:i<p
  ·exact⟨i,by show(t.put j).1.place[i]?=_;rw[pl,get,ai hip];exact hi⟩
  ·refine⟨i+1,?_⟩;show(t.put j).1.place[i+1]?=_;rw[pl,get,ak (by lia),ak (by lia)];exact hi
 have gh:=Ei hs.toArray p h (by rw[au,<-T.sz];exact b1);refine⟨T.m,dm,?_,λ i x hx=>?_,?_,?_,λ i x h' hx hh=>?_⟩
 ·intro a b x y hab hx hy
  have hx:(t.put j).1.place[a]?=My x:=hx;have hy:(t.put j).1.place[b]?=My y:=hy;rw[pl,get]at hx hy;by_cases ha:a<p
  ·rw[ai ha]at hx
   by_cases hb':b<p
   ·rw[ai hb']at hy;exact T.ri a b x y hab hx hy
   ·rw[ak hb']at hy
    by_cases hb2:b=p
    ·rw[ai hb2]at hy;cases hy;exact b2 a x ha hx
    ·rw[ak hb2]at hy;exact T.ri a (b-1) x y (by lia) hx hy
  ·rw[ak ha]at hx
   rw[ak (by lia),ak (by lia)]at hy;by_cases ha2:a=p
   ·rw[ai ha2]at hx;cases hx
    have:=b3 (b-1) y (by lia) hy;rcases Nat.lt_or_eq_of_le this with q | q
    ·exact q
    ·exact absurd ⟨b-1,by rw[q];exact hy⟩ he
   ·rw[ak ha2]at hx;exact T.ri (a-1) (b-1) x y (by lia) hx hy
 ·have hx:(t.put j).1.place[i]?=My x:=hx
  rw[pl,get]at hx;show x<=t.mask;by_cases h1:i<p
  ·rw[ai h1]at hx;exact T.le i x hx
  ·rw[ak h1]at hx
   by_cases h2:i=p
   ·rw[ai h2]at hx;cases hx;exact hj
   ·rw[ak h2]at hx;exact T.le _ x hx
 ·show(t.put j).1.place.size=_;rw[pl,sX,bt,sX,T.sz];simp
 ·show(t.put j).1.place.size<=t.mask;rw[pl,sX];exact hr
 ·have hx:(t.put j).1.place[i]?=My x:=hx
  rw[aZ,gh]at hh;rw[pl,get]at hx;show Reach t.mask h' _ x;by_cases h1:i<p
  ·rw[ai h1]at hx hh;exact(T.rc i x h' hx (by simpa using hh)).mono old
  ·rw[ak h1]at hx hh
   by_cases h2:i=p
   ·rw[ai h2]at hx hh;cases hx;cases hh;exact⟨e,hjj,λ m hm=>old _ (hb m hm)⟩
   ·rw[ak h2]at hx hh;exact(T.rc (i-1) x h' hx (by simpa using hh)).mono old
def vG (owner:Array (gF Nat))(x:Nat):Prop:=∃ i:Nat,owner[x]?=My (My i)
theorem getD_none {owner:Array (gF Nat)}{x:Nat}(hx:x<owner.size):(owner.getD x (My 0)).isNone=S_↔¬ vG owner x:=by
 rw[bH];have e:owner[x]?=My owner[x]:=by simp[hx]
 rw[e,ee];unfold vG;rw[e];cases owner[x] with
 | none=>simp
 | some i=>simp
theorem qy {mask i:Nat}(hi:i<=mask):Tf mask i<=mask/\i<=Tf mask i:=by unfold Tf;split<;>lia
theorem Ej {mask:Nat}{owner:Array (gF Nat)}(hsz:owner.size=mask+1){h:Int}:∀ (fuel i perturb n0:Nat),walk mask (st mask h) n0=bdy mask i perturb->i<=mask->(∀ m,m<n0->vG owner (walk mask (st mask h) m).j) ->
  (∃ L,L<fuel/\¬ vG owner (lp mask i perturb L).1)->∃ j,SetTable.layClean.free mask owner fuel i perturb=My j/\¬ vG owner j/\j<=mask/\Reach mask h (vG owner) j
 | 0,i,perturb,n0,_,_,_,⟨L,hL,_⟩=>absurd hL (cQ _)
 | fuel+1,i,perturb,n0,hw,hi,hb,⟨L,hL,hl⟩=>by
  obtain⟨r1,r2⟩:=qy hi;have at_k:∀ k,k<=Tf mask i-i->(walk mask (st mask h) (n0+k)).j=i+k:=λ k hk=>by rw[<-sW,hw,C_ mask i perturb k hk]
  unfold SetTable.layClean.free;cases q:(Tc (Tf mask i+1-i)).find? λ k=>(owner.getD (i+k) (My 0)).isNone with
  | some k =>
   obtain⟨q1,q2,q3⟩:=List.find?_range_eq_some.mp q;have q2:=aC.mp q2;refine⟨i+k,rfl,(getD_none (by lia)).mp q1,by lia,n0+k,at_k k (by lia),λ m hm=>?_⟩;by_cases h1:m<n0
   ·exact hb m h1
   ·obtain⟨c,rfl⟩:∃ c,m=n0+c:=⟨m-n0,by lia⟩;rw[at_k c (by lia)];refine aV λ hn=>?_;have:=q3 c (by lia);rw[(getD_none (by lia)).mpr hn]at this;simp at this
  | none =>
   have all:=List.find?_range_eq_none.mp q;have occ:∀ k,k<=Tf mask i-i->vG owner (i+k):=λ k hk=>by refine aV λ hn=>?_;have:=all k (by lia);rw[(getD_none (by lia)).mpr hn]at this;simp at this
   dsimp only;refine Ej hsz fuel _ _ (n0+(Tf mask i-i+1)) ?_ ?_ (λ m hm=>?_) ?_
   ·rw[<-sW,hw,Bu]
   ·exact cA (gf _ (gm _))
   ·by_cases h1:m<n0
    ·exact hb m h1
    ·obtain⟨c,rfl⟩:∃ c,m=n0+c:=⟨m-n0,by lia⟩;rw[at_k c (by lia)];exact occ c (by lia)
   ·cases L with
    | zero=>exact absurd (occ 0 (aN _)) hl
    | succ L =>refine⟨L,by lia,?_⟩;have e:=Dc mask i perturb 1 L;rw[Nat.add_comm 1 L]at e;rw[e]at hl;exact hl
structure De (mask:Nat)(hs:List Int)(k:Nat)(owner:Array (gF Nat)):Prop where
 sz:owner.size=mask+1
 lt:∀ (j i:Nat),owner[j]?=My (My i)->i<k
 one:∀ (i:Nat),i<k->∃ j:Nat,owner[j]?=My (My i)
 inj:∀ (j j' i:Nat),owner[j]?=My (My i)->owner[j']?=My (My i)->j=j'
 rc:∀ (j i:Nat) (h:Int),owner[j]?=My (My i)->hs[i]?=My h->Reach mask h (vG owner) j
theorem De.room {mask:Nat}{hs:List Int}{k:Nat}{owner:Array (gF Nat)}(O:De mask hs k owner)(hk:k<=mask):∃ j,j<=mask/\¬ vG owner j:=by
 refine aV λ hn=>?_;have all:∀ j,j<=mask->vG owner j:=λ j hj=>aV λ h=>hn ⟨j,hj,h⟩;let f:Nat->Nat:=λ j=>((owner[j]?).getD SY).getD 0;have hf:∀ j,j<=mask->owner[j]?=My (My (f j)):=λ j hj=>by obtain⟨i,e⟩:=all j hj;show owner[j]?=My (My (((owner[j]?).getD SY).getD 0));rw[e];rfl
 have nd:((Tc (mask+1)).map f).Nodup:=by rw[aI,bq];refine(aI.mp cp).imp_of_mem λ{a b} ha hb ne e=>ne ?_;have ha:=hf a (cA (aC.mp ha));have hb:=hf b (cA (aC.mp hb));rw[e]at ha;exact O.inj a b _ ha hb
 have:=w6 _ (Tc k) nd λ x hx=>by obtain⟨j,hj,e⟩:=aA.mp hx;rw[<-e];exact aC.mpr (O.lt j _ (hf j (cA (aC.mp hj))))
 simp at this;lia
set_option tactic.hygienic true in
theorem Bw {mask:Nat}(m:Mk mask)(hs:List Int)(hn:hs.length<=mask):∀ (rest pre:List Int) (owner:Array (gF Nat)),hs=pre++rest->De mask hs pre.length owner ->
  ∃ owner',(rest.foldl (λ(acc:gF (Array (gF Nat)×Nat)) h=>do
   let (owner,k)<-acc;let j<-SetTable.layClean.free mask owner (SetTable.turns mask) (Tg h % (mask+1)) (Tg h)
   pure (owner.setIfInBounds j (My k),k+1)) (My (owner,pre.length)))=My (owner',hs.length)/\De mask hs hs.length owner'
 | [],pre,owner,e,O=>by rw[bA]at e;subst e;exact⟨owner,rfl,O⟩
 | h::rest,pre,owner,e,O=>by
  have hl:pre.length<hs.length:=by rw[e];simp
  obtain⟨j0,hj0,hn0⟩:=O.room (by lia);obtain⟨L,hL,eL⟩:=G5 m _ (bits_le mask h) h hj0;obtain⟨j,hf,nj,hj,rj⟩:=Ej O.sz (h:=h) (SetTable.turns mask) _ _ 0 rfl (bits_le mask h) (λ m hm=>absurd hm (cQ _)) ⟨L,hL,by rw[eL];exact hn0⟩;have hjs:j<owner.size:=by rw[O.sz];lia
  have get:∀ x:Nat,(owner.setIfInBounds j (My pre.length))[x]?=if j=x then My (My pre.length) else owner[x]?:=λ x=>by
   rw[Array.getElem?_setIfInBounds];by_cases q:j=x
   ·subst q;simp[hjs]
   ·simp[q]
  have mono:∀ x,vG owner x->vG (owner.setIfInBounds j (My pre.length)) x:=λ x ⟨i,hx⟩=>by
   by_cases q:j=x
   ·exact⟨_,by rw[get,ai q]⟩
   ·exact⟨i,by rw[get,ak q];exact hx⟩
  have O':De mask hs (pre++[h]).length (owner.setIfInBounds j (My pre.length)):=by
   rw[aH,aX];refine⟨by rw[Array.size_setIfInBounds];exact O.sz,λ x i hx=>?_,λ i hi=>?_,λ x y i hx hy=>?_,λ x i h' hx hh=>?_⟩
   ·rw[get]at hx
    split at hx
    ·cases hx;lia
    ·have:=O.lt x i hx;lia
   ·by_cases q:i=pre.length
    ·exact⟨j,by rw[get,ai rfl,q]⟩
    ·obtain⟨x,hx⟩:=O.one i (by lia);exact⟨x,by rw[get,ak (λ z=>nj ⟨i,by rw[z];exact hx⟩)];exact hx⟩
   ·rw[get]at hx hy
    split at hx
    ·cases hx
     split at hy
     ·lia
     ·exact absurd (O.lt y _ hy) (aW _)
    ·split at hy
     ·cases hy;exact absurd (O.lt x _ hx) (aW _)
     ·exact O.inj x y i hx hy
   ·rw[get]at hx
    split at hx
    ·rename_i q
     cases hx;subst q;have:h'=h:=by rw[e,bL (ay _),Nat.sub_self]at hh;simpa using hh.symm
     subst this;exact rj.mono mono
    ·exact(O.rc x i h' hx hh).mono mono
  obtain⟨owner',e',O''⟩:=Bw m hs hn rest (pre++[h]) _ (by rw[e,bW];rfl) O';refine⟨owner',?_,O''⟩;rw[cJ,<-e'];congr 1;show(do let j<-SetTable.layClean.free mask owner (SetTable.turns mask) (Tg h % (mask+1)) (Tg h);pure (owner.setIfInBounds j (My pre.length),pre.length+1))=_;rw[hf,aH,aX];rfl
theorem MT {mask:Nat}(m:Mk mask)(hs:List Int)(hn:hs.length<=mask):∃ owner,SetTable.layClean mask hs.toArray=My owner/\De mask hs hs.length owner:=by
 have O0:De mask hs ([]:List Int).length (Array.replicate (mask+1) SY):=by
  have no:∀ (x i:Nat),¬ (Array.replicate (mask+1) (SY:gF Nat))[x]?=My (My i):=λ x i h=>by rw[Array.getElem?_replicate]at h;split at h<;>cases h
  exact⟨by simp,λ x i h=>(no x i h).elim,λ i hi=>absurd hi (cQ _),λ x y i h=>(no x i h).elim,λ x i h' h=>(no x i h).elim⟩
 obtain⟨owner,e,O⟩:=Bw m hs hn hs [] _ rfl O0;refine⟨owner,?_,O⟩;unfold SetTable.layClean;rw[List.foldl_toArray];have e:hs.foldl _ (My (Array.replicate (mask+1) SY,0))=My (owner,hs.length):=e;rw[e];rfl
theorem Df {α:Type}(hs:List α)(d:α):∀ (l:List Nat),(∀ i∈l,i<hs.length)->l.filterMap (λ i=>hs[i]?)=l.map λ i=>hs.getD i d
 | [],_=>rfl
 | i::r,h=>by
  have hi:=h i av;rw[aR,<-Df hs d r λ x hx=>h x (ax _ hx),bF];have e:hs[i]?=My (hs.getD i d):=by rw[aG];simp[hi]
  rw[e]
theorem w9 (owner:Array (gF Nat)):∀ (l:List Nat),(l.filterMap λ j=>(owner.getD j SY).map (j,·)).map (·.1)=l.filter λ j=>(owner.getD j SY).isSome
 | []=>rfl
 | j::r=>by
  rw[bF,List.filter_cons];cases e:owner.getD j SY with
  | none=>simpa using w9 owner r
  | some i=>simpa using w9 owner r
theorem JQ {mask:Nat}(m:Mk mask)(hs:List Int)(hn:hs.length<=mask)(finger moves:Nat)(led plain:Bool):∃ t order,SetTable.laid mask finger moves led plain hs.toArray=My (t,order)/\t.mask=mask/\t.led=led/\t.plain=plain /\
  List.Perm order.toList (Tc hs.length)/\TOk t (order.toList.filterMap λ i=>hs[i]?):=by
 obtain⟨owner,e,O⟩:=MT m hs hn;let live:=(Tc (mask+1)).filterMap λ j=>(owner.getD j SY).map (j,·);have mem:∀ j i,(j,i)∈live↔j<=mask/\owner[j]?=My (My i):=λ j i=>by
  show(j,i)∈(Tc (mask+1)).filterMap _↔_;rw[cY];have gd:∀ (x y:Nat),owner.getD x SY=My y↔owner[x]?=My (My y):=λ x y=>by
   rw[bH];cases owner[x]? with
   | none=>simp
   | some v=>simp
  refine⟨λ⟨a,ha,q⟩=>?_,λ⟨h1,h2⟩=>⟨j,aC.mpr (by lia),by rw[(gd j i).mpr h2];rfl⟩⟩;cases w:owner.getD a SY with
  | none=>rw[w]at q;cases q
  | some y =>rw[w]at q;have q:(a,y)=(j,i):=ao q;cases q;exact⟨cA (aC.mp ha),(gd _ _).mp w⟩
 have fst:live.map (·.1)=(Tc (mask+1)).filter λ j=>(owner.getD j SY).isSome:=w9 owner _;have pw:(live.map (·.1)).Pairwise (·<·):=by rw[fst];exact fy _ eV
 have pw2:live.Pairwise λ a b=>a.1<b.1:=bq.mp pw;have nd:(live.map (·.2)).Nodup:=by rw[aI,bq];refine pw2.imp_of_mem λ{a b} ha hb hlt e=>?_;have h1:=((mem a.1 a.2).mp ha).2;have h2:=((mem b.1 b.2).mp hb).2;rw[e]at h1;have:=O.inj _ _ _ h1 h2;lia
 have perm:List.Perm (live.map (·.2)) (Tc hs.length):=by refine(List.perm_ext_iff_of_nodup nd cp).mpr λ i=>?_;rw[aA,aC];refine⟨λ⟨a,ha,q⟩=>q▸O.lt _ _ ((mem a.1 a.2).mp ha).2,λ hi=>?_⟩;obtain⟨j,hj⟩:=O.one i hi;have:j<owner.size:=(cw.mp hj).1;exact⟨(j,i),(mem j i).mpr ⟨by rw[O.sz]at this;lia,hj⟩,rfl⟩
 have hlen:live.length=hs.length:=by have:=perm.length_eq;simpa using this
 refine⟨{mask,place:=(live.map (·.1)).toArray,dummies:=#[],finger,led,moves,plain},(live.map (·.2)).toArray,?_,rfl,rfl,rfl,perm,⟨m,rfl,?_,?_,?_,?_,?_⟩⟩
 ·unfold SetTable.laid;rw[e];rfl
 ·intro a b x y hab hx hy
  have hx:(live.map (·.1))[a]?=My x:=by simpa using hx
  have hy:(live.map (·.1))[b]?=My y:=by simpa using hy
  obtain⟨l1,e1⟩:=aQ.mp hx;obtain⟨l2,e2⟩:=aQ.mp hy;have:=bQ.mp pw a b l1 l2 hab;rw[e1,e2]at this;exact this
 ·intro i j hx
  have hx:(live.map (·.1))[i]?=My j:=by simpa using hx
  obtain⟨a,ha,q⟩:=aA.mp (bg hx);subst q;exact((mem a.1 a.2).mp ha).1
 ·show(live.map (·.1)).toArray.size=_;rw[Df hs 0 _ λ i hi=>aC.mp (perm.mem_iff.mp hi)];simp
 ·show(live.map (·.1)).toArray.size<=mask;simp[hlen];lia
 ·intro i j h hx hh
  have hx:(live.map (·.1))[i]?=My j:=by simpa using hx
  rw[Df hs 0 _ λ i hi=>aC.mp (perm.mem_iff.mp hi)]at hh;rw[aK]at hx;rw[aK,aK]at hh;cases w:live[i]? with
  | none=>rw[w]at hx;cases hx
  | some a =>
   rw[w]at hx hh;have hx:a.1=j:=ao hx;have hh:hs.getD a.2 0=h:=ao hh;have ha:=((mem a.1 a.2).mp (bg w)).2;subst hx;refine(O.rc a.1 a.2 h ha ?_).mono λ x ⟨i',hx⟩=>?_
   ·have:=O.lt _ _ ha;rw[<-hh,aG];simp[this]
   ·have hlt:x<owner.size:=(cw.mp hx).1;have hm:(x,i')∈live:=(mem x i').mpr ⟨by rw[O.sz]at hlt;lia,hx⟩;obtain⟨k,hk,ek⟩:=b_ hm;refine⟨k,?_⟩;show(live.map (·.1)).toArray[k]?=My x;simp[hk,ek]
open PySem.Spec PyProof.Rows
section
variable {prog:Program}{w:World}{A:Around}{E:gE}{s:gJ}{G:List Int->Addr->Prop}
abbrev lI (prog:Program)(w:World)(h:Heap)(ks:List Int)(a:Addr):Prop:=IsTupleKey (intKind prog w) h ks a
theorem items_int {ks:List Int}{vs:List gH}(h:ItemsAre (intKind prog w) ks vs):∀ v∈vs,∃ i t,v=Value.int i t:=by
 induction h with
 | nil=>intro v hv;cases hv
 | cons h1 _ ih =>
  intro v hv;rcases aB.mp hv with rfl | hv
  ·obtain⟨t,e⟩:=d3 h1;exact⟨_,t,e⟩
  ·exact ih v hv
theorem Fx {ks:List Int}{a:Addr}{Q:Bool->gJ->Prop}(hk:lI prog w s.heap ks a)(h:Q S_ s):wpAny (model prog w) A (hashByValue 8 (.ref a)) Q E s:=by
 have hT:=hk.typeIs;obtain⟨o,items,n,ho,_,hd,hi⟩:=hk;have hin:=items_int hi;unfold hashByValue;refine ae (wpAny_specialOf hT F.slot_tuple_hash.lookup ?_);dsimp only;refine ae (cE ho hd ?_);refine ae ?_;show wpAny _ _ (forIn items _ _) _ _ s;rw[<-Array.forIn_toList];refine wpAny_forIn_list _ (λ rest r s'=>r.1=SY/\s'=s/\∀ v∈rest,∃ i t,v=Value.int i t) _ ?_ ?_ _ _ ⟨rfl,rfl,hin⟩
 ·rintro v rest r s' ⟨hr,rfl,hall⟩;obtain⟨i,t,rfl⟩:=hall v av;refine ae (ag ?_);simp only[dN,aT,cv];exact ag ⟨rfl,rfl,λ u hu=>hall u (ax _ hu)⟩
 ·rintro⟨r1,r2⟩ s' ⟨hr,rfl,_⟩;simp only at hr;subst hr;exact ag h
theorem zq {ks:List Int}{a:Addr}{Q:Bool->gJ->Prop}(hk:lI prog w s.heap ks a)(h:Q Ta s):wpAny (model prog w) A (ofAClassStatement 8 (.ref a)) Q E s:=by
 have hT:=hk.typeIs;obtain⟨o,items,n,ho,_,hd,hi⟩:=hk;have hin:=items_int hi;unfold ofAClassStatement;refine ae (eT hT ?_);dsimp only;rw[ai (by decide)];refine ae (ag ?_);simp only[dN,aT,cv];refine ae (cE ho hd ?_);dsimp only;refine ae ?_;show wpAny _ _ (forIn items _ _) _ _ s;rw[<-Array.forIn_toList];refine wpAny_forIn_list _ (λ rest r s'=>r.1=SY/\s'=s/\∀ v∈rest,∃ i t,v=Value.int i t) _ ?_ ?_ _ _ ⟨rfl,rfl,hin⟩
 ·rintro v rest r s' ⟨hr,rfl,hall⟩;obtain⟨i,t,rfl⟩:=hall v av;refine ae (ag ?_);simp only[aT,cv];exact ag ⟨rfl,rfl,λ u hu=>hall u (ax _ hu)⟩
 ·rintro⟨r1,r2⟩ s' ⟨hr,rfl,_⟩;simp only at hr;subst hr;exact ag h
theorem JR {k:List Int}{b:Addr}{stored:List gH}{Q:Bool->gJ->Prop}(hk:lI prog w s.heap k b)(hs:∀ v∈stored,∃ c k',v=Value.ref c/\lI prog w s.heap k' c)(h:Q Ta s):wpAny (model prog w) A (searchCouldBeSeen (.ref b) stored) Q E s:=by
 unfold searchCouldBeSeen;refine ae ?_;refine wpAny_forIn_list _ (λ rest r s'=>r.1=SY/\s'=s/\∀ v∈rest,∃ c k',v=Value.ref c/\lI prog w s.heap k' c) _ ?_ ?_ _ _ ⟨rfl,rfl,hs⟩
 ·rintro v rest r s' ⟨hr,rfl,hall⟩
  obtain⟨c,k',rfl,hc⟩:=hall v av;have nxt:∀ v∈rest,∃ c k',v=Value.ref c/\lI prog w s'.heap k' c:=λ u hu=>hall u (ax _ hu);dsimp only;split
  ·exact ag ⟨rfl,rfl,nxt⟩
  ·refine ae (wpAny_eqIsQuiet_tuple hk ?_);simp only[dN,aT,cv];refine ae (wpAny_eqIsQuiet_tuple hc ?_);simp only[dN,aT,cv];refine ae (zq hk ?_);simp only[aT,cv];refine ae (zq hc ?_);simp only[aT,cv];exact ag ⟨rfl,rfl,nxt⟩
 ·rintro⟨r1,r2⟩ s' ⟨hr,rfl,_⟩;simp only at hr;subst hr;exact ag h
def uJ (G:List Int->Addr->Prop)(prog:Program)(w:World)(h:Heap)(ks:List (List Int))(es:List (Int×gH)):Prop:=Paired (λ k e=>∃ b,e=(tupleKeyHash (intKind prog w) k,Value.ref b)/\lI prog w h k b/\G k b) ks es
theorem uJ.get {h:Heap}:∀ {ks:List (List Int)} {es:List (Int×gH)},uJ G prog w h ks es->∀ (i:Nat) (e:Int×gH),es[i]?=My e->∃ k b,ks[i]?=My k/\e=(tupleKeyHash (intKind prog w) k,Value.ref b)/\lI prog w h k b/\G k b
 := by
  intro ks es h;induction h with
  | nil=>intro i e q;simp at q
  | cons z r ih =>
    intro i e q;cases i with
    | zero =>rw[eP]at q;cases q;obtain⟨b,e1,hb⟩:=z;exact⟨_,b,rfl,e1,hb⟩
    | succ i =>rw[cb]at q;obtain⟨k,b,h1,h2⟩:=ih i e q;exact⟨k,b,by rw[cb];exact h1,h2⟩
theorem fits_of {t:SetTable}{hs:List Int}(T:TOk t hs){n:Nat}(hn:n=hs.length):t.fits n=S_:=by unfold SetTable.fits SetTable.fill;have h1:=T.sz;have h2:=T.ro;have h3:=T.d;simp[h3,hn,h1];lia
theorem u9 {a:Addr}{o:Obj}{es:Array (Int×gH)}{ep:Nat}{t:SetTable}{ks:List (List Int)}{k:List Int}{b:Addr}{Q:SetFound->gJ->Prop}(hu:A.units<cLine)
  (ho:s.heap.get? a=My o) (hd:o.data=.set es ep t) (T:TOk t (es.toList.map (·.1))) (En:uJ G prog w s.heap ks es.toList) (hk:lI prog w s.heap k b)
  {e:Nat} (he:¬ Occ t (walk t.mask (st t.mask (tupleKeyHash (intKind prog w) k)) e).j) (hb:∀ m,m<e->Occ t (walk t.mask (st t.mask (tupleKeyHash (intKind prog w) k)) m).j) (hf:e<10*SetTable.turns t.mask)
  (h1:k∈ks->Q (.there SY) s) (h2:(∀ m,m<e->∀ i:Nat,t.place[i]?=My (walk t.mask (st t.mask (tupleKeyHash (intKind prog w) k)) m).j->ks[i]?≠My k)->Q (.free (walk t.mask (st t.mask (tupleKeyHash (intKind prog w) k)) e).j Ta) s) :
  ∀ (fuel n:Nat) (stand:gF SetTable.Probe),n<=e->e<n+fuel->stand.getD (t.probeStart (tupleKeyHash (intKind prog w) k))=walk t.mask (st t.mask (tupleKeyHash (intKind prog w) k)) n ->
   (∀ m,m<n->∀ i:Nat,t.place[i]?=My (walk t.mask (st t.mask (tupleKeyHash (intKind prog w) k)) m).j->ks[i]?≠My k)->wpAny (model prog w) A (setSearchFrom a (.ref b) (tupleKeyHash (intKind prog w) k) S_ fuel stand) Q E s
 | 0,n,stand,a1,a2,_,_=>by lia
 | fuel+1,n,stand,a1,a2,a3,a4=>by
  have hfit:=fits_of T (n:=es.size) (by simp);unfold setSearchFrom;refine ae (cq ho hd hfit ?_);dsimp only;have hgw:t.gaveWay=Ta:=by unfold SetTable.gaveWay;rcases T.m with z | z | z<;>rw[z]<;>decide
  rw[hgw];simp only[aT,cv];rw[a3];generalize hpr:SetTable.probe t _ (tupleKeyHash (intKind prog w) k) _=r;obtain⟨f,hff,hpr⟩:∃ f:Nat->Int,(∀ i,f i=((es[i]?.map (·.1)).getD 0))/\SetTable.probe t f (tupleKeyHash (intKind prog w) k) (walk t.mask (st t.mask (tupleKeyHash (intKind prog w) k)) n)=r:=⟨_,λ _=>rfl,hpr⟩;unfold SetTable.probe at hpr;have keyOf:∀ (i j:Nat),t.place[i]?=My j->∃ k' b',ks[i]?=My k'/\es[i]?=My (tupleKeyHash (intKind prog w) k',Value.ref b')/\lI prog w s.heap k' b':=λ i j hj=>by
   have hi:i<es.size:=by have:=(cw.mp hj).1;rw[T.sz]at this;simpa using this
   obtain⟨k',b',q1,q2,q3⟩:=En.get i es[i] (by simp[hi]);exact⟨k',b',q1,by rw[<-q2];simp[hi],q3.1⟩
  have skipN:∀ m,(∀ i:Nat,t.place[i]?=My (walk t.mask (st t.mask (tupleKeyHash (intKind prog w) k)) m).j->f i≠tupleKeyHash (intKind prog w) k)->∀ i:Nat,t.place[i]?=My (walk t.mask (st t.mask (tupleKeyHash (intKind prog w) k)) m).j->ks[i]?≠My k:=λ m hm i hi hki=>by obtain⟨k',b',q1,q2,_⟩:=keyOf i _ hi;rw[q1]at hki;cases hki;exact hm i hi (by rw[hff,q2];rfl)
  rcases Bv T (hashAt:=f) he hb (10*SetTable.turns t.mask) n a1 (by lia) with⟨p1,p2⟩ | ⟨m,i,b1,b2,b3,b4,b5,b6⟩
  ·rw[p1]at hpr
   subst hpr;dsimp only;refine ag (h2 λ m hm=>?_);by_cases hmn:m<n
   ·exact a4 m hmn
   ·exact skipN m (p2 m (by lia) hm)
  ·rw[b6]at hpr
   subst hpr;dsimp only;obtain⟨k',b',q1,q2,q3⟩:=keyOf i _ b3;have cont:wpAny (model prog w) A (do
     let My (_,y):=es[i]? | unsupported "internal:set-entry"
     let equal<-holding [y] (eqBool y (.ref b));let (es',_,t')<-setState a
     if S_&&equal then return .there SY
     let My same:=t'.sameMemory t.moves t.mask | unsupported "set.changed-during-lookup:is-the-new-block-at-the-old-address"
     let still<-match (if same then t'.slot (walk t.mask (st t.mask (tupleKeyHash (intKind prog w) k)) m).j else .empty) with
      | .live i'=>match es'[i']? with
       | some (_,y')=>do pure (if<-isSame y' y then My i' else SY)
       | none=>pure SY
      | _=>pure SY
     match still with
     | none=>rule "set.search.anew";setSearchFrom a (.ref b) (tupleKeyHash (intKind prog w) k) S_ fuel SY
     | some i'=>if equal then return .there (My i') else setSearchFrom a (.ref b) (tupleKeyHash (intKind prog w) k) S_ fuel (My (walk t.mask (st t.mask (tupleKeyHash (intKind prog w) k)) (m+1)))) Q E s:=by
    rw[q2];dsimp only;refine ae (bJ (wpAny_eqBool_tuple hu q3 hk ?_));refine ae (cq ho hd hfit ?_);dsimp only;by_cases hkk:k'=k
    ·rw[decide_eq_true hkk];simp only[Bool.and_self,d4];exact ag (h1 (bg (hkk▸q1)))
    ·rw[decide_eq_false hkk]
     simp only[fM,aT,cv];have hsm:t.sameMemory t.moves t.mask=My S_:=by unfold SetTable.sameMemory;simp
     rw[hsm];dsimp only;simp only[d4];rw[uI T.ri b3];dsimp only;rw[q2];dsimp only;refine ae (wpAny_isSame_ref_self ?_);simp only[d4];refine ae (ag ?_);dsimp only;refine u9 hu ho hd T En hk he hb hf h1 h2 fuel (m+1) _ (by lia) (by lia) rfl λ m' hm'=>?_;by_cases c1:m'<n
     ·exact a4 m' c1
     ·by_cases c2:m'<m
      ·exact skipN m' (b5 m' (by lia) c2)
      ·have:m'=m:=by lia
       subst this;intro i' hi' hki';have:i'=i:=(below_at T.ri hi').symm.trans (below_at T.ri b3);rw[this,q1]at hki';exact hkk (ao hki')
   by_cases hled:t.led=S_
   ·rw[hled];simp only[dN,aT,cv];exact cont
   ·have hled:t.led=Ta:=by simpa using hled
    rw[hled];simp only[fO,d4];refine ae (JR hk (λ v hv=>?_) ?_)
    ·obtain⟨ev,he1,he2⟩:=aA.mp hv
     have he3:ev∈es.toList:=by have:=he1;rw[Array.toList_filter]at this;exact(aS.mp this).1
     obtain⟨i',hi',ei'⟩:=b_ he3;obtain⟨k'',b'',_,q5,q6⟩:=En.get i' ev (by rw[<-ei'];simp[hi']);rw[q5]at he2;exact⟨b'',k'',he2.symm,q6.1⟩
    ·simp only[aT,cv];exact cont
end
set_option tactic.hygienic true in
theorem Ek {mask:Nat}(h:Int):∀ n,(walk mask (st mask h) n).j+(walk mask (st mask h) n).more<=mask/\(walk mask (st mask h) n).i<=mask
 | 0=>by have h1:=bits_le mask h;have h2:=qy h1;show Tg h % (mask+1)+(Tf mask (Tg h % (mask+1))-Tg h % (mask+1))<=mask/\Tg h % (mask+1)<=mask;lia
 | n+1=>by
  obtain⟨h1,h2⟩:=Ek (mask:=mask) h n;show(adv mask (walk mask (st mask h) n)).j+(adv mask (walk mask (st mask h) n)).more<=mask/\(adv mask (walk mask (st mask h) n)).i<=mask;unfold adv;split
  ·rename_i hm;show(walk mask (st mask h) n).j+1+((walk mask (st mask h) n).more-1)<=mask/\(walk mask (st mask h) n).i<=mask;lia
  ·have h3:(SetTable.leap mask (walk mask (st mask h) n).i (walk mask (st mask h) n).perturb).1<=mask:=cA (gf _ (gm _));have h4:=qy h3;dsimp only;lia
theorem G6 {α:Type}(l:List α)(p:Nat)(x:α):(SetTable.insertAt l.toArray p x).toList=l.take p++x::l.drop p:=by rw[eB]
theorem u_ {α β:Type}{F:α->β->Prop}:∀ {xs:List α} {ys:List β} (n:Nat),Paired F xs ys->Paired F (xs.take n) (ys.take n)
 | _,_,0,_=>.nil
 | _,_,_+1,.nil=>.nil
 | _,_,n+1,.cons h t=>.cons h (u_ n t)
theorem va {α β:Type}{F:α->β->Prop}:∀ {xs:List α} {ys:List β} (n:Nat),Paired F xs ys->Paired F (xs.drop n) (ys.drop n)
 | _,_,0,h=>h
 | _,_,_+1,.nil=>.nil
 | _,_,n+1,.cons _ t=>va n t
theorem Dg {α β:Type}{F:α->β->Prop}:∀ {xs xs':List α} {ys ys':List β},Paired F xs ys->Paired F xs' ys'->Paired F (xs++xs') (ys++ys')
 := by
  intro xs xs' ys ys' h h';induction h with
  | nil=>exact h'
  | cons h t ih=>exact .cons h ih
theorem nE {α β:Type}{F G:α->β->Prop}(k:∀ a b,F a b->G a b):∀ {xs:List α} {ys:List β},Paired F xs ys->Paired G xs ys
 | _,_,.nil=>.nil
 | _,_,.cons h t=>.cons (k _ _ h) (nE k t)
theorem Dh {α β:Type}{F:α->β->Prop}:∀ {xs:List α} {ys:List β},Paired F xs ys->∀ (i:Nat) (x:α) (y:β),xs[i]?=My x->ys[i]?=My y->F x y
 := by
  intro xs ys h;induction h with
  | nil=>intro i x y h;simp at h
  | cons h t ih =>
    intro i x y e1 e2;cases i with
    | zero =>rw[eP]at e1 e2;cases e1;cases e2;exact h
    | succ i =>rw[cb]at e1 e2;exact ih i x y e1 e2
theorem pA {α β:Type}{F:α->β->Prop}{xs:List α}{ys:List β}(P:Paired F xs ys):∀ (l:List Nat),Paired F (l.filterMap λ i=>xs[i]?) (l.filterMap λ i=>ys[i]?)
 | []=>.nil
 | i::r=>by
  have hl:=P.length;rw[bF,bF];by_cases hi:i<xs.length
  ·have e1:xs[i]?=My xs[i]:=by simp[hi]
   have e2:ys[i]?=My (ys[i]'(by lia)):=by simp[show i<ys.length by lia]
   rw[e1,e2];exact .cons (Dh P i _ _ e1 e2) (pA P r)
  ·have e1:xs[i]?=SY:=bY (by lia);have e2:ys[i]?=SY:=bY (by lia);rw[e1,e2];exact pA P r
section
variable {prog:Program}{w:World}{A:Around}{E:gE}{s:gJ}{G:List Int->Addr->Prop}
theorem El {h h':Heap}{k:List Int}{a b:Addr}{o:Obj}{es:Array (Int×gH)}{ep:Nat}{t:SetTable}(x:lI prog w h k b)(ho:h.get? a=My o)(hd:o.data=.set es ep t)(sb:Heap.SameBut a h h'):lI prog w h' k b:=by
 obtain⟨ob,its,n,e1,e2,e3,e4⟩:=x;have:b≠a:=by rintro rfl;rw[e1]at ho;cases ho;rw[e3]at hd;cases hd
 exact⟨ob,its,n,(sb.2 b this).trans e1,e2,e3,e4⟩
theorem uJ.sb {h h':Heap}{ks:List (List Int)}{a:Addr}{l:List (Int×gH)}{o:Obj}{es:Array (Int×gH)}{ep:Nat}{t:SetTable}(x:uJ G prog w h ks l)(ho:h.get? a=My o)(hd:o.data=.set es ep t)(sb:Heap.SameBut a h h'):uJ G prog w h' ks l :=
 nE (λ k e ⟨b,e1,hb⟩=>⟨b,e1,El hb.1 ho hd sb,hb.2⟩) x
def G7 (mask n:Nat):Prop:=(mask=7/\n<=4)\/(mask=31/\n<=18)\/(mask=127/\n<=76)
def rK (G:List Int->Addr->Prop)(prog:Program)(w:World)(h:Heap)(a:Addr)(ks:List (List Int)):Prop:=∃ o es ep t,h.get? a=My o/\o.ExactSet/\o.data=.set es ep t/\TOk t (es.toList.map (·.1))/\uJ G prog w h ks es.toList/\t.plain=S_/\t.led=!(w.params.followText "set-order")/\G7 t.mask es.size/\ks.Nodup
theorem w_ {h:Heap}{a:Addr}{o:Obj}{es es':Array (Int×gH)}{ep:Nat}{t t':SetTable}(ho:h.get? a=My o)(hd:o.data=.set es ep t):(h.update a (Obj.putSet es' t')).get? a=My {o with data:=.set es' (ep+1) t'}:=by have:=df (Obj.putSet es' t') ho (by rw[putSet_of es' t' hd];rfl);rw[putSet_of es' t' hd]at this;exact this
theorem Fy {a:Addr}{o:Obj}{es:Array (Int×gH)}{ep:Nat}{t:SetTable}{ks:List (List Int)}{n:Nat}{Q:Unit->gJ->Prop}(ho:s.heap.get? a=My o)(hx:o.ExactSet)(hd:o.data=.set es ep t)(T:TOk t (es.toList.map (·.1)))(En:uJ G prog w s.heap ks es.toList)
  (hp:t.plain=S_) (hl:t.led=!(w.params.followText "set-order")) (nd:ks.Nodup) (hm:Mk (SetTable.sizeAbove n-1)) (hn:G7 (SetTable.sizeAbove n-1) es.size)
  (h:∀ h' ks',Heap.SameBut a s.heap h'->List.Perm ks' ks->rK G prog w h' a ks'->Q () {s with heap:=h'}):wpAny (model prog w) A (setRelay a n) Q E s:=by
 unfold setRelay;refine ae (cq ho hd (fits_of T (by simp)) ?_);dsimp only;have hsz:¬ SetTable.sizeAbove n>sizeLine:=by rw[sizeLine_eq];rcases hm with z | z | z<;>lia
 rw[ak hsz];have hes:es.size<=SetTable.sizeAbove n-1:=by rcases hn with⟨z,q⟩ | ⟨z,q⟩ | ⟨z,q⟩<;>lia
 obtain⟨t',order,e,m1,l1,p1,perm,T'⟩:=JQ hm (es.toList.map (·.1)) (by simpa using hes) t.finger (t.movedTo (SetTable.sizeAbove n-1)) t.led t.plain;have eL:t.relaid (es.map (·.1)) n=My (t',order):=by unfold SetTable.relaid;rw[<-e];congr 1;apply Array.ext';simp
 rw[eL];have hlen:(order.filterMap λ i=>es[i]?).size=es.size:=by
  have h1:(order.filterMap λ i=>es[i]?).toList=order.toList.filterMap λ i=>es.toList[i]?:=by simp
  have h2:(order.filterMap λ i=>es[i]?).toList.length=es.toList.length:=by rw[h1];have:=(perm.filterMap λ i=>es.toList[i]?).length_eq;rw[this];rw[af];rw[cF]
  rw[bt,bt]at h2;exact h2
 refine ae ?_;show wpAny _ _ (do
  let es':=order.filterMap λ i=>es[i]?
  if (es'.size != es.size)=S_ then unsupported "internal:set-table-lost-an-element"
  pure (es',t')) _ _ _
 dsimp only;rw[hlen];simp only[bne_self_eq_false,aT,cv];refine ag ?_;dsimp only;have sb:=cH s.heap a (Obj.putSet (order.filterMap λ i=>es[i]?) t');refine wpAny_storeSet_of ho hd (h _ (order.toList.filterMap λ i=>ks[i]?) sb ?_ ⟨_,_,_,_,w_ ho hd,hx,rfl,?_,?_,p1.trans hp,l1.trans hl,?_,?_⟩) ?_
 ·have hkl:ks.length=es.toList.length:=En.length;have:=perm.filterMap λ i=>ks[i]?;rw[af,<-hkl,cF]at this;exact this
 ·have e1:(order.filterMap λ i=>es[i]?).toList.map (·.1)=order.toList.filterMap λ i=>(es.toList.map (·.1))[i]?:=by
   rw[Array.toList_filterMap,List.map_filterMap];congr 1;funext i;simp
  rw[e1];exact T'
 ·have:uJ G prog w _ ks es.toList:=En.sb ho hd sb;have q:=pA this order.toList;rw[Array.toList_filterMap];refine Eq.mp ?_ q;congr 1;congr 1;funext i;simp
 ·rw[m1,hlen];exact hn
 ·have hkl:ks.length=es.toList.length:=En.length;have:=perm.filterMap λ i=>ks[i]?;rw[af,<-hkl,cF]at this;exact this.nodup_iff.mpr nd
 ·rw[hlen,sizeLine_eq];rcases hn with⟨z,q⟩ | ⟨z,q⟩ | ⟨z,q⟩<;>lia
theorem Em {a:Addr}{ks:List (List Int)}{k:List Int}{b:Addr}{Q:Bool->gJ->Prop}(hu:A.units<cLine)(S:rK G prog w s.heap a ks)(hk:lI prog w s.heap k b)(hg:G k b)(hn:ks.length<40)
  (h:∀ h' ks' c tk,Heap.SameBut a s.heap h'->rK G prog w h' a ks'->List.Perm ks' (if k∈ks then ks else k::ks)->Q c {s with heap:=h',toks:=tk}):wpAny (model prog w) A (setAdd a (.ref b)) Q E s:=by
 unfold setAdd;refine bJ (ae (wpAny_pyHash_tuple hu hk ?_));show wpAny (model prog w) A (setAddHashed a (.ref b) (tupleKeyHash (intKind prog w) k)) Q E {s with toks:=s.toks+(k.length+1)};unfold setAddHashed;refine bJ ?_;obtain⟨o,es,ep,t,ho,hx,hd,T,En,hp,hl,hr,nd⟩:=S;have hkl:ks.length=es.size:=by simpa using En.length
 have hfit:=fits_of T (n:=es.size) (by simp);unfold setAddHashedIn;refine ae (cq ho hd hfit ?_);dsimp only;have hbs:byScan (.ref b) es=Ta:=rfl;rw[hbs];simp only[aT,cv];obtain⟨e,he1,he2,he3⟩:=Fw T (tupleKeyHash (intKind prog w) k);refine ae ?_;unfold setSearch;refine u9 (s:={s with toks:=s.toks+(k.length+1)}) hu ho hd T En hk he2 he3 he1 (λ hin=>?_) (λ hno=>?_) 100000 0 SY (aN _) ?_ rfl (λ m hm=>absurd hm (cQ _))
 ·dsimp only;refine ag ?_;have:=h s.heap ks Ta (s.toks+(k.length+1)) (Heap.SameBut.refl a s.heap) ⟨o,es,ep,t,ho,hx,hd,T,En,hp,hl,hr,nd⟩ (by rw[ai hin]);exact this
 ·have hnk:k∉ks:=λ hm=>by
   obtain⟨i,hi,ei⟩:=b_ hm;have hki:ks[i]?=My k:=by rw[<-ei];simp[hi]
   have hie:i<es.size:=by lia
   obtain⟨k',b',q1,q2,q3⟩:=En.get i es[i] (by simp[hie]);rw[hki]at q1;cases q1;have hpl:i<t.place.size:=by rw[T.sz];simpa using hie
   have hpi:t.place[i]?=My t.place[i]:=by simp[hpl]
   obtain⟨n,r1,r2⟩:=T.rc i t.place[i] (tupleKeyHash (intKind prog w) k) hpi (by simp[hie,q2]);have hne:n<e:=by
    rcases eU n e with z | z | z
    ·exact z
    ·exact absurd ⟨i,by rw[<-z,r1];exact hpi⟩ he2
    ·exact absurd (r2 e z) he2
   exact hno n hne i (by rw[r1];exact hpi) hki
  dsimp only;refine ae (cq ho hd hfit ?_);dsimp only;have hj:=(Ek (mask:=t.mask) (tupleKeyHash (intKind prog w) k) e).1;have hro:t.place.size+1<=t.mask:=by have:=T.sz;rw[af,bt]at this;rcases hr with⟨z,q⟩ | ⟨z,q⟩ | ⟨z,q⟩<;>lia
  have T1:=MS T he2 he3 (bC (ef _ _) hj) hro (led:=S_) (plain:=S_);generalize hjj:(walk t.mask (st t.mask (tupleKeyHash (intKind prog w) k)) e).j=j at *;have hpp:(t.put j).1.plain=S_:=hp;rw[hpp];simp only[d4];refine ae (Fx (s:={s with toks:=s.toks+(k.length+1)}) hk ?_);simp only[d4];have ep2:(t.put j).2=Te t.place j:=rfl;rw[ep2];have tEq:({(t.put j).1 with plain:=S_}:SetTable)=(t.put j).1:=by
   have:∀ (u:SetTable),u.plain=S_->({u with plain:=S_}:SetTable)=u:=λ u hu=>by cases u;cases hu;rfl
   exact this _ hpp
  rw[tEq]at T1;generalize hes1:SetTable.insertAt es (Te t.place j) (tupleKeyHash (intKind prog w) k,Value.ref b)=es1;have hl1:es1.toList=es.toList.take (Te t.place j)++(tupleKeyHash (intKind prog w) k,Value.ref b)::es.toList.drop (Te t.place j):=by rw[<-hes1,eB]
  have hs1:es1.size=es.size+1:=by rw[<-hes1,sX]
  have T2:TOk (t.put j).1 (es1.toList.map (·.1)):=by rw[G6]at T1;rw[hl1,aY,aR,List.map_take,List.map_drop];exact T1
  have sb1:=cH s.heap a (Obj.putSet es1 (t.put j).1);have En1:uJ G prog w (s.heap.update a (Obj.putSet es1 (t.put j).1)) (ks.take (Te t.place j)++k::ks.drop (Te t.place j)) es1.toList:=by rw[hl1];have q:=En.sb ho hd sb1;exact Dg (u_ _ q) (.cons ⟨b,rfl,El hk ho hd sb1,hg⟩ (va _ q))
  have pm:List.Perm (ks.take (Te t.place j)++k::ks.drop (Te t.place j)) (k::ks):=by have:=@List.perm_middle _ k (ks.take (Te t.place j)) (ks.drop (Te t.place j));rw[List.take_append_drop]at this;exact this
  have nd1:(ks.take (Te t.place j)++k::ks.drop (Te t.place j)).Nodup:=pm.nodup_iff.mpr (bc.mpr ⟨hnk,nd⟩);refine ae (wpAny_storeSet_of (s:={s with toks:=s.toks+(k.length+1)}) ho hd ?_ (by rw[hs1,sizeLine_eq];lia));have hpm:∀ ks',List.Perm ks' (ks.take (Te t.place j)++k::ks.drop (Te t.place j))->List.Perm ks' (if k∈ks then ks else k::ks):=λ ks' p=>by rw[ak hnk];exact p.trans pm
  by_cases hf:(t.put j).1.tooFull=S_
  ·rw[hf]
   simp only[fO,Bool.and_self,d4];have hfill:(t.put j).1.fill=es.size+1:=by have h1:=T2.sz;have h2:=T2.d;unfold SetTable.fill;rw[h1,h2];simp[hs1]
   have hff:(es.size+1)*5≥t.mask*3:=by unfold SetTable.tooFull at hf;rw[hfill,show(t.put j).1.mask=t.mask from rfl]at hf;simpa using hf
   have hcase:(t.mask=7/\es.size=4)\/(t.mask=31/\es.size=18):=by
    rcases hr with⟨z,q⟩ | ⟨z,q⟩ | ⟨z,q⟩
    ·rw[z]at hff;exact .inl ⟨z,by lia⟩
    ·rw[z]at hff;exact .inr ⟨z,by lia⟩
    ·rw[z]at hff;lia
   have hsa:SetTable.sizeAbove (SetTable.grown (4+1))=32:=by decide
   have hsb:SetTable.sizeAbove (SetTable.grown (18+1))=128:=by decide
   refine ae (Fy (s:={s with heap:=s.heap.update a (Obj.putSet es1 (t.put j).1),toks:=s.toks+(k.length+1)}) (n:=SetTable.grown (es.size+1)) (w_ ho hd) hx rfl T2 En1 hpp hl nd1 ?_ ?_ λ h2 ks2 sb2 p2 S2=>?_)
   ·rcases hcase with⟨_,z⟩ | ⟨_,z⟩
    ·rw[z,hsa];exact .inr (.inl rfl)
    ·rw[z,hsb];exact .inr (.inr rfl)
   ·rcases hcase with⟨_,z⟩ | ⟨_,z⟩
    ·rw[z,hsa,hs1,z];exact .inr (.inl ⟨rfl,by lia⟩)
    ·rw[z,hsb,hs1,z];exact .inr (.inr ⟨rfl,by lia⟩)
   ·exact ag (h h2 ks2 S_ _ (sb1.trans sb2) S2 (hpm _ p2))
  ·have hf':(t.put j).1.tooFull=Ta:=by simpa using hf
   rw[hf'];simp only[fM,aT,cv];have hfill:(t.put j).1.fill=es.size+1:=by have h1:=T2.sz;have h2:=T2.d;unfold SetTable.fill;rw[h1,h2];simp[hs1]
   have hff:¬ (es.size+1)*5≥t.mask*3:=by unfold SetTable.tooFull at hf';rw[hfill,show(t.put j).1.mask=t.mask from rfl]at hf';simpa using hf'
   refine ag (h _ _ S_ _ sb1 ⟨_,es1,_,(t.put j).1,w_ ho hd,hx,rfl,T2,En1,hpp,hl,?_,nd1⟩ (hpm _ (gz _)));show G7 t.mask es1.size;rw[hs1];rcases hr with⟨z,q⟩ | ⟨z,q⟩ | ⟨z,q⟩
   ·rw[z]at hff;exact .inl ⟨z,by lia⟩
   ·rw[z]at hff;exact .inr (.inl ⟨z,by lia⟩)
   ·rw[z]at hff;exact .inr (.inr ⟨z,by lia⟩)
 ·have:SetTable.turns t.mask<=142:=by
   unfold SetTable.turns;rcases T.m with z | z | z<;>lia
  lia
end
section
variable {prog:Program}{w:World}{A:Around}{E:gE}{s:gJ}{G:List Int->Addr->Prop}
theorem l_ {h h':Heap}{k:List Int}{b:Addr}(x:lI prog w h k b)(kp:∀ o,h.get? b=My o->h'.get? b=My o):lI prog w h' k b :=
 let ⟨o,its,n,e1,e2,e3,e4⟩:=x
 ⟨o,its,n,kp o e1,e2,e3,e4⟩
theorem uJ.keep {h h':Heap}{ks:List (List Int)}{es:List (Int×gH)}(x:uJ G prog w h ks es)(kp:∀ b o,h.get? b=My o->o.cls=.type "tuple"->h'.get? b=My o):uJ G prog w h' ks es :=
 nE (λ k e ⟨b,e1,hb⟩=>⟨b,e1,l_ hb.1 (λ o ho=>kp b o ho (by obtain⟨o',its,n,q1,q2,_⟩:=hb.1;rw[q1]at ho;cases ho;exact q2)),hb.2⟩) x
theorem rK.keep {h h':Heap}{a:Addr}{ks:List (List Int)}(S:rK G prog w h a ks)(ka:∀ o,h.get? a=My o->h'.get? a=My o)(kp:∀ b o,h.get? b=My o->o.cls=.type "tuple"->h'.get? b=My o):rK G prog w h' a ks :=
 by
 obtain⟨o,es,ep,t,ho,hx,hd,T,En,r⟩:=S;exact⟨o,es,ep,t,ka o ho,hx,hd,T,En.keep kp,r⟩
theorem G8 {R:Result->gJ->Prop}(hh:A.in1.handled=SY)(hu:A.in1.units<cLine){S I l:Addr}{items:Array gH}{kk:List (List Int)}(hk:kk.length=items.size)(h40:items.size<=40)(n1:S≠I)(n2:S≠l)(n3:l≠I) :
  ∀ (n i:Nat) (s:gJ) (ks:List (List Int)),items.size-i=n->i<=items.size->s.heap.IsListIter I l i->s.heap.IsList l items->rK G prog w s.heap S ks ->
   (∀ (j:Nat) v,items[j]?=My v->∃ k b,kk[j]?=My k/\v=.ref b/\lI prog w s.heap k b/\G k b)->ks.length<=i->(∀ k,k∈ks↔k∈kk.take i) ->
   (∀ h' tk ks',(∀ b o,b≠S->b≠I->s.heap.get? b=My o->h'.get? b=My o)->rK G prog w h' S ks'->(∀ k,k∈ks'↔k∈kk)->R (.ok (.ret .none)) {s with heap:=h',toks:=tk}) ->
   codeAny (model prog w) A (.builtin "set.update.loop" ⟨[.ref S,.ref I],[]⟩) R s:=by
 intro n;induction n using Nat.strongRecOn with
 | ind n ih =>
  intro i s ks hn hi st hl hS hv hlen hm fin;refine codeAny_builtin F.entry_set_update_loop ?_;rw[fz dQ _];have tupI:∀ {h h':Heap} {b:Addr} {o:Obj} {x:Addr} {j:Nat},h.IsListIter x l j->h.get? b=My o->o.cls=.type "tuple"->b≠x:=λ hit e c z=>by obtain⟨o',e',c',_⟩:=hit;rw[z,e']at e;cases e;rw[c']at c;injection c with c;exact absurd c (by decide)
  by_cases hlt:i<items.size
  ·show wpAny _ A.in1 (pyNext (.ref I)>>=_) _ _ s
   refine ae (wpAny_pyNext_list_item st hl (x:=items[i]) (by simp[hlt]) λ h' st' sb=>?_);obtain⟨k,b,hkk,eb,tb,gb⟩:=hv i items[i] (by simp[hlt]);rw[eb];have bI:b≠I:=by obtain⟨o,its,m,q1,q2,_⟩:=tb;exact tupI (h':=h') st q1 q2
   have S1:rK G prog w h' S ks:=hS.keep (λ o e=>(sb.2 S n1).trans e) λ c o e hc=>(sb.2 c (tupI (h':=h') st e hc)).trans e;have tb1:lI prog w h' k b:=l_ tb λ o e=>(sb.2 b bI).trans e;refine ae (bJ (Em (s:={s with heap:=h'}) hu S1 tb1 gb (by lia) λ h2 ks2 c tk sb2 S2 p2=>?_));have keep2:∀ x o,x≠S->x≠I->s.heap.get? x=My o->h2.get? x=My o:=λ x o x1 x2 e=>(sb2.2 x x1).trans ((sb.2 x x2).trans e);refine ag ⟨plainId_quiet dQ _,?_⟩;have mem2:∀ k',k'∈ks2↔k'∈kk.take (i+1):=λ k'=>by
    rw[p2.mem_iff,List.take_add_one,hkk,bh,<-hm k'];by_cases hin:k∈ks
    ·rw[ai hin];simp only[eJ,aB,bw,or_false];exact⟨.inl,λ z=>z.elim id λ z=>z▸hin⟩
    ·rw[ak hin];simp only[eJ,aB,bw,or_false];exact⟨λ z=>z.symm,λ z=>z.symm⟩
   have len2:ks2.length<=i+1:=by
    rw[p2.length_eq];split
    ·lia
    ·rw[bK];lia
   obtain⟨ol,hol,hcl,m,hdl⟩:=id hl;refine ih (n-1) (by lia) (i+1) {s with heap:=h2,toks:=tk} ks2 (by lia) hlt ?_ ⟨ol,keep2 l ol n2.symm n3 hol,hcl,m,hdl⟩ S2 (λ j v hj=>?_) len2 mem2 λ h3 tk3 ks3 kp3 S3 m3=>?_
   ·obtain⟨oI,eI,cI,dI⟩:=st';exact⟨oI,(sb2.2 I n1.symm).trans eI,cI,dI⟩
   ·obtain⟨k',b',q1,q2,q3,g3⟩:=hv j v hj
    refine⟨k',b',q1,q2,l_ q3 λ o e=>?_,g3⟩;have c1:b'≠I:=by obtain⟨o',its,m,z1,z2,_⟩:=q3;exact tupI (h':=h') st z1 z2
    have c2:b'≠S:=by rintro rfl;obtain⟨oS,es,ep,t,z1,_,z2,_⟩:=hS;obtain⟨o',its,m,y1,_,y3,_⟩:=q3;rw[z1]at y1;cases y1;rw[z2]at y3;cases y3
    exact keep2 b' o c2 c1 e
   ·exact fin h3 tk3 ks3 (λ x o x1 x2 e=>kp3 x o x1 x2 (keep2 x o x1 x2 e)) S3 m3
  ·have e:i=items.size:=by lia
   show wpAny _ A.in1 (pyNext (.ref I)>>=_) _ _ s;refine ae (wpAny_pyNext_list_end hh st hl (cW (fJ e.symm)) λ h' eb=>?_);show wpAny _ A.in1 (ret Value.none) _ _ _;refine ag (fin h' s.toks ks (λ x o _ x2 q=>eb x o x2 q) (hS.keep (λ o q=>eb S o n1 q) λ c o q hc=>eb c o (tupI (h':=h') st q hc) q) λ k=>?_);rw[hm k,e,<-hk,eg]
theorem Eo {a:gH}{Q₁:gE}(h:Q₁ (.ref s.heap.objs.size) {s with heap:=s.heap.push {cls:=.type "set",dict:=SY,data:=.set #[] 0 (.fresh 0 0 (!(w.params.followText "set-order")))}}) :
  codeAny (model prog w) A (.call (.builtin "set.__new__") ⟨[.type "set",a],[]⟩) (wants Q₁ E) s:=by
 refine codeAny_of_tree ?_;show wpAny _ A.in1 (checkBuiltinCall "set.__new__" ⟨[.type "set",a],[]⟩>>=λ _=>again (.builtin "set.__new__" ⟨[.type "set",a],[]⟩)) _ _ s;refine ae (wpAny_of_eq (F.newCall_set_1 a) ?_);refine ag ⟨plainId_quiet F.plain_set_new _,codeAny_builtin F.entry_set_new ?_⟩;rw[fz F.plain_set_new _];unfold Builtin.«set.__new__» Builtin.Frozenset.newClass;have hsub:=sub_set_self;obtain⟨hp,g,d,tk,os⟩:=s;dsimp only
 wp_walk
 refine wpAny_askSetting (ag ?_);dsimp only;simp only[newObj];refine ae (wpAny_alloc (ag ?_));exact ag h
theorem Bx {l:Addr}{items:Array gH}{kk:List (List Int)}{Q:gE}(hh:A.handled=SY)(hu:A.units+40<cLine)(hl:s.heap.IsList l items)(hk:kk.length=items.size)(h40:items.size<=40)
  (hv:∀ (j:Nat) v,items[j]?=My v->∃ k b,kk[j]?=My k/\v=.ref b/\lI prog w s.heap k b/\G k b)
  (h:∀ h' tk ks,(∀ b o,b<s.heap.objs.size->s.heap.get? b=My o->h'.get? b=My o)->rK G prog w h' s.heap.objs.size ks->(∀ k,k∈ks↔k∈kk)->Q (.ref s.heap.objs.size) {s with heap:=h',toks:=tk}) :
  wpAny (model prog w) A (call (.type "set") [.ref l]) Q E s:=by
 obtain⟨c0,tl0,hmro⟩:=cm.mro;have hmade:=cm.made;have hsub:=cm.sub;refine f_ (codeAny_of_tree ?_);show wpAny _ _ (callAny (.type "set") _) _ _ _;refine ag ⟨fQ _ (by decide +kernel),codeAny_builtin F.entry_type_call ?_⟩;rw[Around.under_plain (weight_type_call_type "set" [.ref l] []) rfl];have hnt:=cm.notType;have hcc:=cm.canCreate;have hct:=F.typeCall_set_1 (.ref l);repeat (any_goals (first | assumption | wp_step))
 refine codeAny_mono (Eo (a:=.ref l) (E:=E) (Q₁:=λ obj s₁=>obj=.ref s.heap.objs.size/\s₁={s with heap:=s.heap.push {cls:=.type "set",dict:=SY,data:=.set #[] 0 (.fresh 0 0 (!(w.params.followText "set-order")))}}) ⟨rfl,rfl⟩) λ r s₁ hr=>?_;cases r with
 | error e=>exact hr
 | ok fl =>
  cases fl with
  | ret obj =>
   obtain⟨rfl,rfl⟩:=hr;generalize hN0:({cls:=.type "set",dict:=SY,data:=.set #[] 0 (.fresh 0 0 (!(w.params.followText "set-order")))}:Obj)=N0;have hS:(s.heap.push N0).get? s.heap.objs.size=My N0:=aE _ (by rw[<-hN0];rfl);have hT:Shared.TypeIs {s with heap:=s.heap.push N0} (.ref s.heap.objs.size) "set":=⟨_,hS,by rw[<-hN0]⟩;have hli:=cm.init.lookup;have hbi:=cm.init.bind (.ref s.heap.objs.size);repeat (any_goals (first | assumption | wp_step))
   refine codeAny_mono (codeAny_call_builtin (R:=wants (λ r s₂=>r=.none/\∃ h' tk ks,s₂={s with heap:=h',toks:=tk}/\rK G prog w h' s.heap.objs.size ks/\(∀ k,k∈ks↔k∈kk)/\(∀ b o,b<s.heap.objs.size->s.heap.get? b=My o->h'.get? b=My o)) E)
    cm.init.plain F.entry_set_init (check_set_init_1 hT ?_)) λ r₂ s₂ hr₂=>?_
   ·obtain⟨ol,hol,hcl,nl,hdl⟩:=id hl
    obtain⟨ocls,odict,odata,oslots⟩:=ol;simp only at hcl hdl;subst hcl;subst hdl;have hol':(s.heap.push N0).get? l=My {cls:=.type "list",dict:=odict,data:=.seq items nl,slots:=oslots}:=ah _ hol;have hsls:=F.sub_list_set;have hslf:=F.sub_list_frozenset;have hne:(Value.type "list"==Value.type "dict")=Ta:=by decide
    have hl1:(s.heap.push N0).IsList l items:=⟨_,hol',rfl,nl,rfl⟩;have hS0:(s.heap.push N0).get? s.heap.objs.size=My {cls:=.type "set",dict:=SY,data:=.set #[] 0 (.fresh 0 0 (!(w.params.followText "set-order")))}:=by rw[hS,hN0]
    unfold Builtin.«set.__init__» noKeywords Builtin.Frozenset.updateFrom;generalize hPI:pyIter=PI
    wp_walk
    subst hPI;refine eQ hl1 ?_;refine ae (wpAny_runValue ?_);have hlS:l<s.heap.objs.size:=ar hol;have szP:(s.heap.push N0).objs.size=s.heap.objs.size+1:=cG ..;have keep:∀ b o,s.heap.get? b=My o->((s.heap.push N0).push {cls:=.type "list_iterator",data:=.fields #[.ref l,.int 0 0]}).get? b=My o:=λ b o e=>ah _ (ah _ e);refine G8 (G:=G) (A:=A.in1.in1) (by simp[hh]) (dX (show A.units+3<=A.units+40 by lia) hu) hk h40 (by rw[szP];exact aM (dR _)) (bM hlS) (by rw[szP];exact aM (dE hlS)) items.size 0 _ [] (by lia) (aN _)
     ⟨_,aE _ rfl,rfl,rfl⟩ (hl1.push _) ⟨_,#[],0,.fresh 0 0 (!(w.params.followText "set-order")),ah _ hS0,⟨rfl,rfl,rfl⟩,rfl,?_,.nil,rfl,rfl,.inl ⟨rfl,aN _⟩,gA⟩ (λ j v hj=>?_) (ay _) (by simp) λ h' tk ks kp S' m'=>?_
    ·exact⟨.inl rfl,rfl,λ a b x y _ e=>by simp[SetTable.fresh]at e,λ i j e=>by simp[SetTable.fresh]at e,rfl,aN _,λ i j h e=>by simp[SetTable.fresh]at e⟩
    ·obtain⟨k,b,q1,q2,q3,g3⟩:=hv j v hj;exact⟨k,b,q1,q2,l_ q3 (λ o e=>keep b o e),g3⟩
    ·show wpAny _ _ _ _ _ _;refine ag ?_;show wpAny _ _ (ret Value.none) _ _ _;refine ag ⟨rfl,h',tk,ks,rfl,S',m',λ b o hb e=>kp b o (aM hb) (by rw[szP];exact aM (dE hb)) (keep b o e)⟩
   ·cases r₂ with
    | error e=>exact hr₂
    | ok fl₂ =>
     cases fl₂ with
     | ret r =>
      obtain⟨rfl,h',tk,ks,rfl,S',m',kp⟩:=hr₂;repeat (any_goals (first | assumption | wp_step))
      exact h _ _ _ kp S' m'
     | _=>exact hr₂.elim
  | _=>exact hr.elim
end
end Tb
namespace Tb
open PySem PySem.W PyProof.Rows
def Tr {α:Type}(n:Nat)(c:Nat->Nat->Bool)(R:α->Prop):KasT α->Prop
 | .ret a=>R a
 | .ask i j k=>i<n/\j<n/\Tr n c R (k (c i j))
section
variable {n:Nat}{c:Nat->Nat->Bool}
theorem Tr.wp {α:Type}{cmp:Nat->Nat->(Bool->gJ->Prop)->gJ->Prop}{s:gJ}{R:α->Prop}{Q:α->gJ->Prop}(hc:∀ i j C,i<n->j<n->C (c i j) s->cmp i j C s)(hq:∀ a,R a->Q a s):∀ (t:KasT α),Tr n c R t->t.kasWp cmp Q s
 | .ret a,h=>hq a h
 | .ask i j k,⟨h1,h2,h3⟩=>hc i j _ h1 h2 (Tr.wp hc hq (k (c i j)) h3)
theorem Tr.bnd {α β:Type}{R:α->Prop}{R':β->Prop}{f:α->KasT β}(hf:∀ a,R a->Tr n c R' (f a)):∀ (t:KasT α),Tr n c R t->Tr n c R' (t.bind f)
 | .ret a,h=>hf a h
 | .ask i j k,⟨h1,h2,h3⟩=>⟨h1,h2,Tr.bnd hf (k (c i j)) h3⟩
end
section
variable {n:Nat}{O:KeyOrd}{X:Nat->O.α}
def Kp (X:Nat->O.α)(p:Array Nat)(i:Nat):O.α:=X (p.getD i 0)
def Pm (n:Nat)(p:Array Nat):Prop:=0<n/\List.Perm p.toList (Tc n)
theorem Pm.lt {p:Array Nat}(h:Pm n p)(i:Nat):p.getD i 0<n:=by
 rw[bH];cases e:p[i]? with
 | none=>exact h.1
 | some x =>rw[<-aZ]at e;exact aC.mp (h.2.mem_iff.mp (bg e))
theorem Pm.size {p:Array Nat}(h:Pm n p):p.size=n:=by have:=h.2.length_eq;simpa using this
theorem Pm.perm {p p':Array Nat}(h:Pm n p)(q:p'.Perm p):Pm n p':=⟨h.1,(Array.perm_iff_toList_perm.mp q).trans h.2⟩
def Sor (X:Nat->O.α)(p:Array Nat)(k:Nat):Prop:=∀ i j,i<=j->j<k->O.kle (Kp X p i) (Kp X p j)
def Non (X:Nat->O.α)(p:Array Nat)(k:Nat):Prop:=∀ i j,i<=j->j<k->O.kle (Kp X p j) (Kp X p i)
theorem Di {p:Array Nat}{i j:Nat}(hj:j<=p.size)(k:Nat):Kp X (kas_rev p i j) k=if i<=k/\k<j then Kp X p (i+j-1-k) else Kp X p k:=by
 unfold Kp kas_rev;rw[bH,getElem?_mirror_all hj];split
 ·rw[bH]
 ·rw[bH]
theorem uK {p:Array Nat}{i j:Nat}(hj:j<=p.size)(h:∀ k,i<=k->k<j->Kp X p k=Kp X p (j-1))(k:Nat):Kp X (kas_rev p i j) k=Kp X p k:=by
 rw[Di hj];split
 ·rw[h _ (by lia (config:={})) (by lia (config:={})),h k (by lia (config:={})) (by lia (config:={}))]
 ·rfl
theorem G9 {p:Array Nat}{src d:Nat}(hs:src<p.size)(hd:d<=src)(k:Nat):Kp X (bubble p src d) k=if k=src-d then Kp X p src else if src-d<k/\k<=src then Kp X p (k-1) else Kp X p k:=by
 have g:∀ (q:Array Nat) (i:Nat),Kp X q i=X ((q[i]?).getD 0):=λ q i=>by unfold Kp;rw[bH]
 rw[g,g,g,g,getElem?_bubble hs d hd];split
 ·rfl
 ·split<;>rfl
abbrev cO (X:Nat->O.α):Nat->Nat->Bool:=λ i j=>O.blt (X i) (X j)
theorem G_ {p:Array Nat}(P:Pm n p):∀ (f a:Nat),1<=a->Sor X p a->Tr n (cO X) (λ m=>a<=m/\m<=a+f/\Sor X p m/\(m=a+f\/O.klt (Kp X p m) (Kp X p (m-1)))) (kas_asc p f a)
 | 0,a,h1,h2=>⟨ay _,ay _,h2,.inl rfl⟩
 | f+1,a,h1,h2=>by
  refine⟨P.lt _,P.lt _,?_⟩;show Tr n (cO X) _ (if O.blt (Kp X p a) (Kp X p (a-1))=S_ then .ret a else kas_asc p f (a+1));by_cases h:O.blt (Kp X p a) (Kp X p (a-1))=S_
  ·rw[ai h];exact⟨ay _,by lia,h2,.inr h⟩
  ·rw[ak h]
   have hk:O.kle (Kp X p (a-1)) (Kp X p a):=fe h;have h3:Sor X p (a+1):=λ i j hij hj=>by
    by_cases hja:j<a
    ·exact h2 i j hij hja
    ·have:j=a:=by lia
     subst this;by_cases hi:i=j
     ·subst hi;exact dz _
     ·exact eh (h2 i (j-1) (by lia) (by lia)) hk
   have:=G_ P f (a+1) (by lia) h3;refine(show ∀ (t:KasT Nat),Tr n (cO X) _ t->Tr n (cO X) _ t from ?_) _ this;intro t;induction t with
   | ret m=>intro ⟨x1,x2,x3,x4⟩;exact⟨by lia,by lia,x3,by rw[show a+(f+1)=a+1+f by lia];exact x4⟩
   | ask i j k ih=>intro ⟨y1,y2,y3⟩;exact⟨y1,y2,ih _ y3⟩
theorem qz {p:Array Nat}{m:Nat}(h:Non X p m)(h1:1<=m)(hk:O.kle (Kp X p m) (Kp X p (m-1))):Non X p (m+1):=λ i j hij hj=>by
 by_cases hjm:j<m
 ·exact h i j hij hjm
 ·have:j=m:=by lia
  subst this;by_cases hi:i=j
  ·subst hi;exact dz _
  ·exact eh hk (h i (j-1) (by lia) (by lia))
def O6 (n:Nat)(X:Nat->O.α)(lo hi:Nat)(r:Array Nat×Nat×Nat):Prop:=Pm n r.1/\Non X r.1 r.2.1/\r.2.2+1<=r.2.1/\lo<=r.2.1/\r.2.1<=hi/\∀ i,r.2.1-(r.2.2+1)<=i->i<r.2.1->Kp X r.1 i=Kp X r.1 (r.2.1-1)
theorem Ak:∀ (f:Nat) (p:Array Nat) (m q lo:Nat),Pm n p->m+f<=n->1<=m->lo<=m->Non X p m->q+1<=m->(∀ i,m-(q+1)<=i->i<m->Kp X p i=Kp X p (m-1))->Tr n (cO X) (O6 n X lo (m+f)) (kas_desc f p m q)
 | 0,p,m,q,lo,P,hn,h1,hlo,h2,h3,h4=>⟨P,h2,h3,hlo,ay _,h4⟩
 | f+1,p,m,q,lo,P,hn,h1,hlo,h2,h3,h4=>by
  refine⟨P.lt _,P.lt _,?_⟩;have one:∀ (p':Array Nat) i,m+1-(0+1)<=i->i<m+1->Kp X p' i=Kp X p' (m+1-1):=λ p' i a b=>by rw[show i=m by lia];rfl
  show Tr n (cO X) _ (if O.blt (Kp X p m) (Kp X p (m-1))=S_ then _ else _);rw[show m+(f+1)=m+1+f by lia];by_cases h:O.blt (Kp X p m) (Kp X p (m-1))=S_
  ·rw[ai h]
   by_cases hq:q>0
   ·rw[ai hq]
    have hm:m<=p.size:=by rw[P.size];lia
    have ke:=uK (X:=X) (p:=p) (i:=m-(q+1)) (j:=m) hm λ k a b=>h4 k a b;refine Ak f _ (m+1) 0 lo (P.perm (mirror_perm _ _ _ _)) (by lia) (by lia) (by lia) (qz (λ i j a b=>?_) h1 ?_) (by lia) (one _)
    ·rw[ke,ke];exact h2 i j a b
    ·rw[ke,ke];exact dF h
   ·rw[ak hq];exact Ak f p (m+1) 0 lo P (by lia) (by lia) (by lia) (qz h2 h1 (dF h)) (by lia) (one _)
  ·rw[ak h]
   refine⟨P.lt _,P.lt _,?_⟩;show Tr n (cO X) _ (if O.blt (Kp X p (m-1)) (Kp X p m)=S_ then _ else _);by_cases h':O.blt (Kp X p (m-1)) (Kp X p m)=S_
   ·rw[ai h'];exact⟨P,h2,h3,hlo,(show m<=m+1+f by lia),h4⟩
   ·rw[ak h']
    have e:Kp X p m=Kp X p (m-1):=O.total _ _ (by simpa using h) (by simpa using h');refine Ak f p (m+1) (q+1) lo P (by lia) (by lia) (by lia) (qz h2 h1 (by rw[e];exact dz _)) (by lia) λ i a b=>?_;by_cases hi:i=m
    ·rw[hi];rfl
    ·rw[show m+1-1=m by lia,e];exact h4 i (by lia) (by lia)
def MU (n:Nat)(X:Nat->O.α)(r:Nat×Array Nat):Prop:=Pm n r.2/\Sor X r.2 r.1/\1<=r.1/\r.1<=n
theorem Ep {p:Array Nat}{m:Nat}(P:Pm n p)(h:Non X p m)(h1:1<=m)(hm:m<=n):Tr n (cO X) (MU n X) (kas_tail3 m n p):=by
 have P1:Pm n (kas_rev p 0 m):=P.perm (mirror_perm _ _ _ _);refine Tr.bnd (λ a ⟨a1,a2,a3,_⟩=>⟨P1,a3,by lia,by lia⟩) _ (G_ P1 (n-m) m h1 λ i j hij hj=>?_);have hz:m<=p.size:=by rw[P.size];exact hm
 rw[Di hz,Di hz,ai (by lia),ai (by lia)];exact h _ _ (by lia) (by lia)
theorem xc {p:Array Nat}{m:Nat}(P:Pm n p)(h:Non X p (m+1))(hm:m+1<=n):Tr n (cO X) (MU n X) (kas_descPart m n p):=by
 refine Tr.bnd (λ r hr=>?_) _ (Ak (n-(m+1)) p (m+1) 0 (m+1) P (by lia) (by lia) (ay _) h (by lia) λ i a b=>by rw[show i=m by lia];rfl);obtain⟨P',N',q1,l1,u1,e1⟩:=hr;by_cases hq:r.2.2>0
 ·rw[ai hq]
  have hz:r.2.1<=r.1.size:=by rw[P'.size];lia
  have ke:=uK (X:=X) (p:=r.1) (i:=r.2.1-(r.2.2+1)) (j:=r.2.1) hz λ k a b=>e1 k a b;refine Ep (P'.perm (mirror_perm _ _ _ _)) (λ i j a b=>?_) (by lia) (by lia);rw[ke,ke];exact N' i j a b
 ·rw[ak hq];exact Ep P' N' (by lia) (by lia)
theorem JS {p:Array Nat}(P:Pm n p):Tr n (cO X) (MU n X) (kas_count n p):=by
 have hn:=P.1;refine Tr.bnd (λ m ⟨m1,m2,m3,m4⟩=>?_) _ (G_ P (n-1) 1 (ay _) λ i j hij hj=>by rw[show i=0 by lia,show j=0 by lia];exact dz _);by_cases he:m=n
 ·rw[ai (by simpa using he)];exact⟨P,m3,m1,by lia⟩
 ·rw[ak (by simpa using he)]
  have hlt:O.klt (Kp X p m) (Kp X p (m-1)):=m4.resolve_left (by lia);by_cases h1:m>1
  ·rw[ai h1]
   refine⟨P.lt _,P.lt _,?_⟩;show Tr n (cO X) _ (if O.blt (Kp X p 0) (Kp X p (m-1))=S_ then _ else _);by_cases h:O.blt (Kp X p 0) (Kp X p (m-1))=S_
   ·rw[ai h];exact⟨P,m3,m1,by lia⟩
   ·rw[ak h]
    have hle:O.kle (Kp X p (m-1)) (Kp X p 0):=fe h;have hz:m<=p.size:=by rw[P.size];lia
    have all:∀ k,0<=k->k<m->Kp X p k=Kp X p (m-1):=λ k _ hk=>KeyOrd.kle_antisymm (m3 k (m-1) (by lia) (by lia)) (eh hle (m3 0 k (by lia) hk));have ke:=uK (X:=X) (p:=p) (i:=0) (j:=m) hz all;refine xc (P.perm (mirror_perm _ _ _ _)) (qz (λ i j a b=>?_) m1 ?_) (by lia)
    ·rw[ke,ke,all i (by lia) (by lia),all j (by lia) b];exact dz _
    ·rw[ke,ke];exact dF hlt
  ·rw[ak h1]
   have:m=1:=by lia
   subst this;exact xc P (qz (λ i j a b=>by rw[show i=0 by lia,show j=0 by lia];exact dz _) (ay _) (dF hlt)) (by lia)
theorem Al {p:Array Nat}{k:Nat}(P:Pm n p)(S:Sor X p k):∀ (f l r:Nat),l<=r->r<=k->r<=l+f->(∀ i,i<l->O.kle (Kp X p i) (Kp X p k))->(∀ i,r<=i->i<k->O.klt (Kp X p k) (Kp X p i)) ->
  Tr n (cO X) (λ m=>m<=k/\(∀ i,i<m->O.kle (Kp X p i) (Kp X p k))/\∀ i,m<=i->i<k->O.klt (Kp X p k) (Kp X p i)) (kas_place p k f l r)
 | 0,l,r,h1,h2,h3,h4,h5=>by
  have:l=r:=by lia
  subst this;exact⟨h2,h4,h5⟩
 | f+1,l,r,h1,h2,h3,h4,h5=>by
  show Tr n (cO X) _ (if l≥r then .ret l else _);by_cases h:l≥r
  ·rw[ai h]
   have:l=r:=by lia
   subst this;exact⟨h2,h4,h5⟩
  ·rw[ak h]
   refine⟨P.lt _,P.lt _,?_⟩;show Tr n (cO X) _ (if O.blt (Kp X p k) (Kp X p ((l+r) / 2))=S_ then _ else _);by_cases hc:O.blt (Kp X p k) (Kp X p ((l+r) / 2))=S_
   ·rw[ai hc];refine Al P S f l ((l+r) / 2) (by lia) (by lia) (by lia) h4 λ i a b=>?_;exact KeyOrd.klt_of_klt_of_kle hc (S _ i a b)
   ·rw[ak hc];refine Al P S f ((l+r) / 2+1) r (by lia) h2 (by lia) (λ i a=>?_) h5;exact eh (S i _ (by lia) (by lia)) (fe hc)
theorem LN:∀ (f:Nat) (p:Array Nat) (k:Nat),Pm n p->Sor X p k->k+f=n->Tr n (cO X) (λ p'=>Pm n p'/\Sor X p' n) (kas_bin f p k)
 | 0,p,k,P,S,h=>by
  have:k=n:=by lia
  subst this;exact⟨P,S⟩
 | f+1,p,k,P,S,h=>by
  refine Tr.bnd (λ l ⟨l1,l2,l3⟩=>?_) _ (Al P S k 0 k (aN _) (ay _) (by lia) (λ i hi=>absurd hi (cQ _)) λ i a b=>by lia);refine LN f _ (k+1) (P.perm (bubble_perm _ _ _)) (λ i j hij hj=>?_) (by lia);have hk:k<p.size:=by rw[P.size];lia
  rw[G9 hk (by lia),G9 hk (by lia),show k-(k-l)=l by lia];by_cases e1:i=l
  ·rw[ai e1]
   by_cases e2:j=l
   ·rw[ai e2];exact dz _
   ·rw[ak e2,ai (by lia)];exact dF (l3 (j-1) (by lia) (by lia))
  ·rw[ak e1]
   by_cases e2:j=l
   ·rw[ai e2,ak (by lia)];exact l2 i (by lia)
   ·rw[ak e2]
    by_cases e3:l<i/\i<=k
    ·rw[ai e3,ai (by lia)];exact S _ _ (by lia) (by lia)
    ·rw[ak e3]
     by_cases e4:l<j/\j<=k
     ·rw[ai e4]
      by_cases e5:j-1<l
      ·lia
      ·exact eh (l2 i (by lia)) (dF (l3 (j-1) (by lia) (by lia)))
     ·rw[ak e4];exact S i j hij (by lia)
theorem MV (hn:0<n):Tr n (cO X) (λ p=>Pm n p/\Sor X p n) (kas_sort n):=by
 have P0:Pm n (List.toArray (Tc n)):=⟨hn,gz _⟩;refine Tr.bnd (λ r ⟨P,S,r1,r2⟩=>?_) _ (JS P0);by_cases h:r.1<n
 ·rw[ai h,show max r.1 1=r.1 by lia];exact LN _ _ _ P S (by lia)
 ·rw[ak h]
  have:r.1=n:=by lia
  exact⟨P,this▸S⟩
end
open PySem.Spec
theorem Er {α:Type}(next:Nat->Nat):∀ (fuel k:Nat) (left:List α) (out:Array α),fuel=left.length->List.Perm (pickOrder.go next fuel k left out).toList (out.toList++left)
 | 0,k,left,out,h=>by have:left=[]:=dS.mp h.symm;subst this;unfold pickOrder.go;simp
 | fuel+1,k,left,out,h=>by
  unfold pickOrder.go;have hl:next k % left.length<left.length:=gf _ (by lia)
  have e:left[next k % left.length]?=My left[next k % left.length]:=by simp[hl]
  rw[e];dsimp only;refine(Er next fuel (k+1) _ _ (by rw[List.length_eraseIdx_of_lt hl];lia)).trans ?_;rw[Array.toList_push,bW];refine List.Perm.append_left _ ?_;have e2:left=left.take (next k % left.length)++left[next k % left.length]::left.drop (next k % left.length+1):=by rw[<-el hl,List.take_append_drop]
  have e3:left.eraseIdx (next k % left.length)=left.take (next k % left.length)++left.drop (next k % left.length+1):=List.eraseIdx_eq_take_drop_succ _ _;rw[e3];refine List.Perm.trans ?_ (List.Perm.of_eq e2.symm);rw[fg];exact List.perm_middle.symm
theorem Fz {α:Type}(next:Nat->Nat)(xs:Array α):List.Perm (pickOrder next xs).toList xs.toList:=by
 unfold pickOrder;have:=Er next xs.size 0 xs.toList #[] (by simp)
 simpa using this
theorem xf {xs:Array Nat}(R:Ri xs){j r:Nat}(h:Bel xs j r):Te xs j=r:=by
 obtain⟨a1,a2,a3⟩:=wX R j;obtain⟨b1,b2,b3⟩:=h;rcases eU (Te xs j) r with q | q | q
 ·have hl:Te xs j<xs.size:=by lia
  have e:xs[Te xs j]?=My xs[Te xs j]:=by simp[hl]
  have h1:=b2 _ _ q e;have h2:=a3 _ _ (ay _) e;lia
 ·exact q
 ·have hl:r<xs.size:=by lia
  have e:xs[r]?=My xs[r]:=by simp[hl]
  have h1:=a2 _ _ q e;have h2:=b3 _ _ (ay _) e;lia
theorem Dj {xs:Array Nat}(R:Ri xs){i j:Nat}(e:xs[i]?=My j):Te xs (j+1)=i+1:=by
 have hi:=(cw.mp e).1;refine xf R ⟨hi,λ k x hk ek=>?_,λ k x hk ek=>R i k j x hk e ek⟩;by_cases q:k=i
 ·subst q;rw[e]at ek;cases ek;lia
 ·have:=R k i x j (by lia) ek e;lia
theorem Dk {xs:Array Nat}(R:Ri xs):Te xs 0=0:=xf R ⟨aN _,λ k x hk=>absurd hk (cQ _),λ k x _ _=>aN _⟩
theorem kM:Slot "set_iterator" "__next__" "set_iterator.__next__" :=
 .of (owner:="set_iterator") (n:="__next__") (by rw[typeLookup_type,builtinLookup_eq_fast];kernel_rfl) (by decide +kernel) (by decide +kernel) (by decide +kernel) (by first | exact .inl (by decide +kernel) | exact .inr (by decide +kernel)) (by rw[isSubtype_type];kernel_rfl)
theorem sY:Slot "set_iterator" "__iter__" "set_iterator.__iter__" :=
 .of (owner:="set_iterator") (n:="__iter__") (by rw[typeLookup_type,builtinLookup_eq_fast];kernel_rfl) (by decide +kernel) (by decide +kernel) (by decide +kernel) (by first | exact .inl (by decide +kernel) | exact .inr (by decide +kernel)) (by rw[isSubtype_type];kernel_rfl)
theorem rO:entryFor table "set_iterator.__next__"=My Builtin.«set_iterator.__next__»:=entryFor_of_tree (by kernel_rfl)
theorem yF:entryFor table "set_iterator.__iter__"=My Builtin.«dict_keyiterator.__iter__» :=
 entryFor_alias (id':="dict_keyiterator.__iter__") (by kernel_rfl) rfl (by decide +kernel)
  (by kernel_rfl)
theorem yG:entryFor table "set.__iter__"=My Builtin.«frozenset.__iter__» :=
 entryFor_alias (id':="frozenset.__iter__") (by kernel_rfl) rfl (by decide +kernel) (by kernel_rfl)
theorem By:Manifest.owners.lookup (String.ofList ['r','o','t','a','r','e','t','i','_','t','e','s'].reverse)=My Manifest.sig_set_iterator:=by kernel_rfl
theorem sZ (a:gH):argsOk "set_iterator.__next__" ⟨[a],[]⟩:=by
 unfold argsOk;rw[signature?_of (id:="set_iterator.__next__") (n:=['_','_','t','x','e','n','_','_']) (o:=['r','o','t','a','r','e','t','i','_','t','e','s']) (by kernel_rfl) By]
 kernel_rfl
theorem Am (a:gH):argsOk "set_iterator.__iter__" ⟨[a],[]⟩:=by
 unfold argsOk;rw[signature?_of (id:="set_iterator.__iter__") (n:=['_','_','r','e','t','i','_','_']) (o:=['r','o','t','a','r','e','t','i','_','t','e','s']) (by kernel_rfl) By]
 kernel_rfl
section
variable {prog:Program}{w:World}{A:Around}{E:gE}{s:gJ}{S I:Addr}{oS:Obj}{es:Array (Int×gH)}{ep:Nat}{t:SetTable}
def seen (w:World)(S:Addr)(ep:Nat)(es:Array (Int×gH)):Array (Int×gH):=if w.params.followText "set-order"=S_ then pickOrder (w.params.setOrder S ep) es else es
theorem rg (w:World)(S:Addr)(ep:Nat)(es:Array (Int×gH)):List.Perm (seen w S ep es).toList es.toList:=by
 unfold seen;split
 ·exact Fz _ _
 ·exact gz _
def SIt (w:World)(S I:Addr)(n ep:Nat)(t:SetTable)(i:Nat)(h:Heap):Prop:=∃ (o:Obj) (slot:Nat),h.get? I=My o/\o.cls=.type "set_iterator"/\o.data=.fields #[rawInt slot,rawInt i,.ref S,rawInt n,rawInt ep]/\(w.params.followText "set-order"=Ta->Te t.place slot=i)
theorem An {Q:Bool->gJ->Prop}(h:Q (w.params.followText "set-order") s):wpAny (model prog w) A setsByText Q E s:=by unfold setsByText;exact ae (wpAny_askSetting (ag h))
theorem Bz {Q:gF (gH×Nat)->gJ->Prop}{i slot:Nat}(hS:s.heap.get? S=My oS)(hd:oS.data=.set es ep t)(T:TOk t (es.toList.map (·.1)))(hp:t.plain=S_)(hl:t.led=!(w.params.followText "set-order"))
  (hsl:w.params.followText "set-order"=Ta->Te t.place slot=i) (h0:(seen w S ep es)[i]?=SY->Q SY s)
  (h1:∀ hv v nx,(seen w S ep es)[i]?=My (hv,v)->(w.params.followText "set-order"=Ta->Te t.place nx=i+1)->Q (My (v,nx)) s):wpAny (model prog w) A (setNext S slot i ep) Q E s:=by
 have hfit:=fits_of T (n:=es.size) (by simp);unfold setNext;refine ae (cq hS hd hfit ?_);dsimp only;refine ae (An ?_);by_cases hb:w.params.followText "set-order"=S_
 ·have sd:seen w S ep es=pickOrder (w.params.setOrder S ep) es:=by unfold seen;rw[ai hb]
  rw[ai hb];simp only[bne_self_eq_false,aT,cv];unfold setWalk;refine ae (ae (cq hS hd hfit ?_));dsimp only;refine ae (An ?_);rw[ai hb];refine ae (wpAny_askSetting (ag ?_));refine ag ?_;show Q (((pickOrder (w.params.setOrder S ep) es)[i]?).map λ e=>(e.2,slot)) s;rw[<-sd];cases e:(seen w S ep es)[i]? with
  | none=>exact h0 e
  | some v=>exact h1 v.1 v.2 slot e λ z=>by rw[hb]at z;cases z
 ·have hb':w.params.followText "set-order"=Ta:=by simpa using hb
  have sd:seen w S ep es=es:=by unfold seen;rw[ak hb]
  rw[ak hb];have hdr:∀ {α:Type} {a b:Sem α} {R:α->gJ->Prop},wpAny (model prog w) A b R E s->wpAny (model prog w) A (if (!t.plain&&decide (es.size>1))=S_ then a else b) R E s:=λ hb=>by rw[hp];simpa using hb
  refine hdr ?_;have hml:∀ {α:Type} {b:Unit->Sem α} {R:α->gJ->Prop},wpAny (model prog w) A (b ()) R E s->wpAny (model prog w) A ((if (!t.led&&!es.isEmpty)=S_ then unsupported "set:maker-not-led" else pure ())>>=b) R E s:=λ hb=>by rw[hl,hb'];simp only[fO,dN,gu,aT,cv];exact ae (ag hb)
  refine hml ?_;rw[hsl hb'];refine ag ?_;rw[sd]at h0 h1;have hpl:t.place.size=es.size:=by have:=T.sz;simpa using this
  by_cases hi:i<es.size
  ·have e1:es[i]?=My es[i]:=by simp[hi]
   have e2:t.place[i]?=My (t.place[i]'(by lia)):=by simp[show i<t.place.size by lia]
   rw[e1,e2];exact h1 es[i].1 es[i].2 _ e1 λ _=>Dj T.ri e2
  ·have e1:es[i]?=SY:=cW (by lia);rw[e1];exact h0 e1
theorem Ao {i n:Nat}(x:SIt w S I n ep t i s.heap):s.TypeIs (.ref I) "set_iterator":=let ⟨o,_,ho,hc,_⟩:=x;⟨o,ho,hc⟩
theorem qA {Q:Array (Int×gH)->gJ->Prop}(hS:s.heap.get? S=My oS)(hd:oS.data=.set es ep t)(T:TOk t (es.toList.map (·.1)))(h:Q es s):wpAny (model prog w) A (setEntries S) Q E s:=by unfold setEntries;exact ae (cq hS hd (fits_of T (by simp)) (ag h))
theorem JT {i:Nat}{hv:Int}{v:gH}{Q:gF gH->gJ->Prop}(x:SIt w S I es.size ep t i s.heap)(hS:s.heap.get? S=My oS)(hd:oS.data=.set es ep t)(T:TOk t (es.toList.map (·.1)))(hp:t.plain=S_)(hl:t.led=!(w.params.followText "set-order"))
  (hx:(seen w S ep es)[i]?=My (hv,v)) (hQ:∀ h',SIt w S I es.size ep t (i+1) h'->Heap.SameBut I s.heap h'->Q (My v) {s with heap:=h'}):wpAny (model prog w) A (pyNext (.ref I)) Q E s:=by
 have hT:=Ao x;obtain⟨o,slot,ho,hc,hdd,hsl⟩:=x;unfold pyNext;refine ae (eD (bN (name:=Str.ofString "__next__") hT kM (bS kM hT rO ?_ (sZ _))));unfold Builtin.«set_iterator.__next__»;refine ae (ag ?_);refine ae (wpAny_fieldsOf ho hdd ?_);show wpAny _ _ (setEntries S>>=_) _ _ s;refine ae (qA hS hd T ?_);simp only[bne_self_eq_false,aT,cv];show wpAny _ _ (setNext S slot i ep>>=_) _ _ s;refine ae (Bz hS hd T hp hl hsl (λ z=>by rw[hx]at z;cases z) λ hv' v' nx e1 e2=>?_);rw[hx]at e1;cases e1;dsimp only;refine ae (eX ho hdd (by simp) ?_);have ho1:=df (Obj.mapFields (·.setIfInBounds 0 (rawInt nx))) ho (fh (c_ hdd _));have hd1:=c_ hdd (·.setIfInBounds 0 (rawInt nx));refine ae (eX (s:={s with heap:=s.heap.update I (Obj.mapFields (·.setIfInBounds 0 (rawInt nx)))}) ho1 hd1 (by simp) ?_);have ho2:=df (Obj.mapFields (·.setIfInBounds 1 (rawInt ((i:Int)+1)))) ho1 (fh (c_ hd1 _));refine ag ⟨_,rfl,ag (hQ _ ⟨_,nx,ho2,?_,?_,e2⟩ ((cH ..).trans (cH ..)))⟩
 ·rw[f6,f6];exact hc
 ·rw[c_ hd1];simp[rawInt]
theorem MW {i:Nat}{Q:gF gH->gJ->Prop}(hh:A.handled=SY)(x:SIt w S I es.size ep t i s.heap)(hS:s.heap.get? S=My oS)(hd:oS.data=.set es ep t)(T:TOk t (es.toList.map (·.1)))(hp:t.plain=S_)(hl:t.led=!(w.params.followText "set-order"))
  (hx:(seen w S ep es)[i]?=SY) (hQ:∀ h',Heap.ExtBut I s.heap h'->Q SY {s with heap:=h'}):wpAny (model prog w) A (pyNext (.ref I)) Q E s:=by
 have hT:=Ao x;obtain⟨o,slot,ho,hc,hdd,hsl⟩:=x;unfold pyNext;refine ae (eD (bN (name:=Str.ofString "__next__") hT kM (bS kM hT rO ?_ (sZ _))));unfold Builtin.«set_iterator.__next__»;refine ae (ag ?_);refine ae (wpAny_fieldsOf ho hdd ?_);show wpAny _ _ (setEntries S>>=_) _ _ s;refine ae (qA hS hd T ?_);simp only[bne_self_eq_false,aT,cv];show wpAny _ _ (setNext S slot i ep>>=_) _ _ s;refine ae (Bz hS hd T hp hl hsl (λ _=>?_) λ hv' v' nx e1 e2=>by rw[hx]at e1;cases e1);dsimp only;refine ae (eX ho hdd (by simp) ?_);show wpAny _ _ (newExc (.type "StopIteration") []>>=_) _ _ _;refine ae ?_;simp only[newExc,newTuple];refine ae (bD ?_ (by size_fits));refine ae (m:=firstArgMember _ _) (wpAny_of_eq (a:=Value.none) (by first | rfl | (simp only[firstArgMember];rfl)) ?_);refine bD ?_ (by size_fits);simp only[raiseNew];refine ae (wpAny_handled ?_);rw[show A.in1.handled=SY from hh];refine ae (ag (wpAny_throw ?_));refine ae (wpAny_isInstance (T:="StopIteration") (b:=S_) ⟨_,aE _ rfl,rfl⟩ isSubtype_stop ?_);exact ag (hQ _ (((cH ..).extBut.push _).push _))
theorem Hb (hh:A.handled=SY)(hne:S≠I)(hd:oS.data=.set es ep t)(T:TOk t (es.toList.map (·.1)))(hp:t.plain=S_)(hl:t.led=!(w.params.followText "set-order")) :
  Walks prog w A I [I,S] [I] es.size (λ i v=>∃ hv,(seen w S ep es)[i]?=My (hv,v)) (λ i h=>SIt w S I es.size ep t i h/\h.get? S=My oS) where
 sub:=λ b hb=>by simp at hb;simp[hb]
 frame:=λ i h h' st hk=>⟨let ⟨o,sl,ho,r⟩:=st.1;⟨o,sl,hk I (by simp) o ho,r⟩,hk S (by simp) oS st.2⟩
 item:=λ i s Q E hi st hQ=>by
  have hz:(seen w S ep es).size=es.size:=by have:=(rg w S ep es).length_eq;simpa using this
  have e:(seen w S ep es)[i]?=My (seen w S ep es)[i]:=by simp[hz,hi]
  exact JT st.1 st.2 hd T hp hl (hv:=(seen w S ep es)[i].1) (v:=(seen w S ep es)[i].2) e λ h' st' sb =>hQ _ h' s.toks ⟨_,e⟩ ⟨st',(sb.2 S hne).trans st.2⟩ λ b o hb q=>(sb.2 b (by simpa using hb)).trans q
 done:=λ s Q E st hQ=>by
  have hz:(seen w S ep es).size=es.size:=by have:=(rg w S ep es).length_eq;simpa using this
  exact MW hh st.1 st.2 hd T hp hl (cW (by lia)) λ h' eb=>hQ h' s.toks λ b o hb q=>eb b o (by simpa using hb) q
 self:=λ i s Q E st hQ=>by have hT:=Ao st.1;refine wpAny_pyIter_slot hT sY (bS sY hT yF ?_ (Am _));unfold Builtin.«dict_keyiterator.__iter__»;refine ae (ag ?_);exact ag ⟨_,rfl,"set_iterator",_,hT,kM.lookup,hQ⟩
end
end Tb
namespace L2
open PySem PySem.Spec PyProof.Rows
def Dl (env:Env):List (Str×NameKind)->List (Str×Addr)->List (Str×Addr)
 | [],cs=>cs
 | (n,k)::r,cs=>Dl env r (if k==.free then (n,(env.cells.lookup n).getD 0)::cs else cs)
def yH (scope:Scope)(env:Env):List (Str×Addr):=Dl env scope.names []
theorem xg {scope:Scope}{env:Env}(h:∀ x∈scope.names,x.2=.free->∃ c,env.cells.lookup x.1=My c):closureFor scope env=pure (yH scope env):=by
 unfold closureFor yH;generalize scope.names=l at h ⊢;generalize hcs:([]:List (Str×Addr))=cs;clear hcs;induction l generalizing cs with
 | nil=>simp only[Dl,fR,pure_bind]
 | cons a r ih =>
  obtain⟨n,k⟩:=a;have ih':=λ cs=>ih (λ x hx=>h x (ax _ hx)) cs;simp only[eF,Dl];by_cases e:k=.free
  ·subst e;obtain⟨c,hc⟩:=h (n,.free) av rfl;have hc:env.cells.lookup n=My c:=hc;simp only[cellOf,hc,beq_self_eq_true,d4,ee,pure_bind];exact ih' _
  ·have e':(k==NameKind.free)=Ta:=beq_eq_false_iff_ne.mpr e;simp only[e',aT,cv,pure_bind];exact ih' _
theorem BA {env:Env}:∀ (l:List (Str×NameKind)) (cs:List (Str×Addr)),(∀ x∈l,x.2=.free->∃ c,env.cells.lookup x.1=My c)->(∀ x c,cs.lookup x=My c->env.cells.lookup x=My c) ->
  ∀ x c,(Dl env l cs).lookup x=My c->env.cells.lookup x=My c
 | [],_,_,h2,x,c,e=>h2 x c e
 | (n,k)::r,cs,h1,h2,x,c,e=>by
  refine BA r _ (λ y hy=>h1 y (ax _ hy)) (λ y d q=>?_) x c e;by_cases hk:k=.free
  ·subst hk
   obtain⟨d',hd⟩:=h1 (n,.free) av rfl;have hd:env.cells.lookup n=My d':=hd;rw[ai (by decide),hd,ee,a_]at q;cases hx:y==n with
   | true =>
    rw[hx]at q;have:y=n:=by simpa using hx
    subst this;cases q;exact hd
   | false=>rw[hx]at q;exact h2 y d q
  ·rw[ak (by simpa using hk)]at q;exact h2 y d q
theorem zr {env:Env}:∀ (l:List (Str×NameKind)) (cs:List (Str×Addr)) (x:Str),(∃ c,cs.lookup x=My c)->∃ c,(Dl env l cs).lookup x=My c
 | [],_,_,h=>h
 | (n,k)::r,cs,x,h=>by
  refine zr r _ x ?_;split
  ·rw[a_]
   cases hx:x==n with
   | true=>exact⟨_,rfl⟩
   | false=>exact h
  ·exact h
theorem BB {env:Env}:∀ (l:List (Str×NameKind)) (cs:List (Str×Addr)) (x:Str),(x,NameKind.free)∈l->∃ c,(Dl env l cs).lookup x=My c
 | (n,k)::r,cs,x,h=>by
  rcases aB.mp h with e | h
  ·have e1:x=n:=cK Prod.fst e;have e2:NameKind.free=k:=cK Prod.snd e;refine zr r _ x ?_;rw[<-e2,<-e1,ai (by decide),a_];simp
  ·exact BB r _ x h
theorem qB {env:Env}:∀ {names:List (Str×NameKind)} {x:Str} {k:NameKind},
  (names.map λ(n,k)=>if (k==NameKind.free&&env.scope.kind==.function&&env.kindOf n==My .cell) then (n,NameKind.cell) else (n,k)).lookup x=My k ->
  ∃ k0,(x,k0)∈names/\names.lookup x=My k0/\(k=k0\/(k0=.free/\k=.cell))
 | [],_,_,h=>by simp at h
 | (n,k')::r,x,k,h=>by
  have h:List.lookup x ((if (k'==NameKind.free&&env.scope.kind==.function&&env.kindOf n==My .cell)=S_ then (n,NameKind.cell) else (n,k'))::_)=_:=h;cases hx:x==n with
  | true =>
   have e:x=n:=by simpa using hx
   subst e;by_cases hc:(k'==NameKind.free&&env.scope.kind==.function&&env.kindOf x==My .cell)=S_
   ·rw[ai hc,a_,hx]at h;simp at hc;cases h;exact⟨k',av,by rw[a_,hx],.inr ⟨hc.1.1,rfl⟩⟩
   ·rw[ak hc,a_,hx]at h;cases h;exact⟨k',av,by rw[a_,hx],.inl rfl⟩
  | false =>
   have h':List.lookup x (r.map λ(n,k)=>if (k==NameKind.free&&env.scope.kind==.function&&env.kindOf n==My .cell) then (n,NameKind.cell) else (n,k))=My k:=by
    by_cases hc:(k'==NameKind.free&&env.scope.kind==.function&&env.kindOf n==My .cell)=S_
    ·rw[ai hc,a_,hx]at h;exact h
    ·rw[ak hc,a_,hx]at h;exact h
   obtain⟨k0,m0,l0,o0⟩:=qB h';exact⟨k0,ax _ m0,by rw[a_,hx];exact l0,o0⟩
theorem nW {env:Env}:∀ {names:List (Str×NameKind)} {x:Str},names.lookup x=My .free ->
  (names.map λ(n,k)=>if (k==NameKind.free&&env.scope.kind==.function&&env.kindOf n==My .cell) then (n,NameKind.cell) else (n,k)).lookup x=My .free \/
  (names.map λ(n,k)=>if (k==NameKind.free&&env.scope.kind==.function&&env.kindOf n==My .cell) then (n,NameKind.cell) else (n,k)).lookup x=My .cell
 | [],_,h=>by simp at h
 | (n,k')::r,x,h=>by
  show List.lookup x ((if (k'==NameKind.free&&env.scope.kind==.function&&env.kindOf n==My .cell)=S_ then (n,NameKind.cell) else (n,k'))::_)=_\/List.lookup x ((if (k'==NameKind.free&&env.scope.kind==.function&&env.kindOf n==My .cell)=S_ then (n,NameKind.cell) else (n,k'))::_)=_;cases hx:x==n with
  | true =>
   rw[a_,hx]at h;cases h;by_cases hc:(NameKind.free==NameKind.free&&env.scope.kind==.function&&env.kindOf n==My .cell)=S_
   ·rw[ai hc,a_,hx];exact .inr rfl
   ·rw[ak hc,a_,hx];exact .inl rfl
  | false =>
   rw[a_,hx]at h;by_cases hc:(k'==NameKind.free&&env.scope.kind==.function&&env.kindOf n==My .cell)=S_
   ·rw[ai hc,a_,hx];exact nW h
   ·rw[ak hc,a_,hx];exact nW h
structure lJ (X:Cx)(scope:Scope)(own fr:List Str)(ix:List Nat):Prop where
 kind:scope.kind=.function
 loc:∀ x∈scope.names,x.2=.local->scope.names.lookup x.1=My .local
 Hc:∀ x∈scope.names,x.2≠.cell
 free:∀ x∈scope.names,x.2=.free->X.env.kindOf x.1=My .cell\/X.env.kindOf x.1=My .free
 SM:∀ x∈own,scope.names.lookup x=My .local
 fr':∀ x∈fr,scope.names.lookup x=My .free
 ix':ix.map (λ i=>X.N[i]?)=fr.map My
 nd:(own++fr).Nodup
def Cx.comp (X:Cx)(N:List Str)(scope:Scope)(C:Addr)(s:gJ)(H:Hp)(fp:List Addr):Cx :=
 {X with N:=N,s₀:=s,H₀:=H,env:=compEnvC scope (yH scope X.env) C X.env,outer:=X.stack,stack:=X.stack,ex:=fp,fn:=λ _=>Ta,pn:=[],xe:=λ _ _=>False}
def ko (own:List Str)(ix:List Nat)(σ:St):St:=own.map (λ _=>SY)++ix.map λ i=>(σ[i]?).getD SY
def PF (X:Cx)(ifs:List Expr)(t:TT):Prop :=
 ∀ (pins:gL) (s:gJ) (σ:St) (H:Hp) (Q:Bool->Hp->Prop),Inv X pins σ H s->t σ H Q ->
  wpAny (model X.prog X.w) X.A (forIn ifs S_ λ c r=>if r=S_ then do let ok<-isTrue c X.env (eval c X.env);pure (ForInStep.yield ok) else pure (ForInStep.yield r)) (TP X pins σ Q) X.xe s
def Hd:TT:=λ _ H Q=>Q S_ H
theorem Dm {X:Cx}:PF X [] Hd:=λ _ _ _ H _ I h=>wpAny_tests_nil ⟨H,I,h⟩
theorem MX {X:Cx}{c:Expr}{t:TT}(h:PT X c t):PF X [c] t:=λ pins s σ H Q I q=>wpAny_tests_one (h pins s σ H Q I q)
theorem Aq {prog:Program}{w:World}{A:Around}{R:Result->gJ->Prop}{s:gJ}{elt target iter:Expr}{ifs:List Expr}{scope:Scope}{pos:Pos}{it acc:gH}{env:Env}(I:Nat->gJ->Prop)
  (turn:∀ n s,I n s->wpAny (model prog w) A (pyNext it) (λ r s₁=>match r with
   | none=>R (.ok .next) s₁
   | some v=>wpAny (model prog w) A (letOwnedTupleGo target it v) (λ _ s₁'=>wpAny (model prog w) A (assign target env v) (λ _ s₂ =>
     wpAny (model prog w) A (forIn ifs S_ λ c r=>if r=S_ then do let ok<-isTrue c env (eval c env);pure (ForInStep.yield ok) else pure (ForInStep.yield r)) (λ ok s₃ =>
      if ok=S_ then wpAny (model prog w) A (eval elt env) (λ x s₄ =>wpAny (model prog w) A (call (.builtin "list.append") [acc,x]) (λ _ s₅=>∃ m,m<n/\I m s₅) (λ _ _=>False) s₄) (λ _ _=>False) s₃
      else ∃ m,m<n/\I m s₃) (λ _ _=>False) s₂) (λ _ _=>False) s₁') (λ _ _=>False) s₁) (λ _ _=>False) s)
  (n:Nat) (h:I n s) :
  codeAny (model prog w) A (.compLoop (.ListComp elt [⟨target,iter,ifs,0⟩] scope pos) 0 it acc env) R s:=by
 refine codeAny_loop rfl I (λ n s hI=>?_) n h;show wpAny _ A ((compTurn (.ListComp elt [⟨target,iter,ifs,0⟩] scope pos) 0 it acc env).onRaise (λ x=>do noteFrame x env;theTreesLotGoes x)) _ _ s;refine wpAny_noted ?_;rw[compTurn_list];have nox:∀ {α:Type} {t:Sem α} {Q Q':α->gJ->Prop} {E:gE} {s:gJ},wpAny (model prog w) A t Q (λ _ _=>False) s->(∀ a s,Q a s->Q' a s)->wpAny (model prog w) A t Q' E s:=λ h hq=>cZ h hq λ _ _ z=>z.elim;refine ae (wpAny_standAt (ae (nox (turn n s hI) λ r s₁ h₁=>?_)));cases r with
 | none=>exact ag h₁
 | some v =>
  refine ae (nox h₁ λ _ s₁' h₁'=>ae (nox h₁' λ _ s₂ h₂=>ae (nox h₂ λ ok s₃ h₃=>?_)));cases ok with
  | false=>exact ag ⟨rfl,h₃⟩
  | true=>exact ae (ae (nox h₃ λ x s₄ h₄=>ae (nox h₄ λ _ s₅ h₅=>ag (ag ⟨rfl,h₅⟩))))
section
variable {X:Cx}{pins:gL}{σ:St}{H:Hp}{s:gJ}{own fr:List Str}{ix:List Nat}{scope:Scope}
theorem lJ.cells (S:lJ X scope own fr ix)(ok:X.Ok):∀ x∈scope.names,x.2=.free->∃ c,X.env.cells.lookup x.1=My c:=λ x hx e=>ok.has x.1 (S.free x hx e)
theorem lJ.sub (S:lJ X scope own fr ix)(ok:X.Ok):∀ x c,(yH scope X.env).lookup x=My c->X.env.cells.lookup x=My c :=
 BA scope.names [] (S.cells ok) (λ x c e=>by simp at e)
theorem lJ.O7 (S:lJ X scope own fr ix){x:Str}(h:(relabel scope X.env).names.lookup x=My .cell\/(relabel scope X.env).names.lookup x=My .free):∃ c,(yH scope X.env).lookup x=My c:=by
 have go:∀ k,(k=.cell\/k=.free)->(relabel scope X.env).names.lookup x=My k->∃ c,(yH scope X.env).lookup x=My c:=λ k hk e=>by
  obtain⟨k0,m0,l0,o0⟩:=qB e;have:k0=.free:=by
   rcases o0 with o0 | o0
   ·rcases hk with z | z
    ·exact absurd (o0▸z) (S.Hc (x,k0) m0)
    ·exact o0▸z
   ·exact o0.1
  subst this;exact BB scope.names [] x m0
 rcases h with h | h
 ·exact go _ (.inl rfl) h
 ·exact go _ (.inr rfl) h
theorem Inv.enter (I:Inv X pins σ H s)(S:lJ X scope own fr ix){fp:List Addr}(hf:∀ b∈fp,vD X pins H b)(hlt:∀ b∈fp,b<s.heap.objs.size){C:Addr}{h':Heap}{tk:Nat}{m:gD}(hC:s.heap.objs.size<=C)(hns:h'.Ns C m)
  (k:∀ b o,s.heap.get? b=My o->h'.get? b=My o):Inv (X.comp (own++fr) scope C s H fp) [] (ko own ix σ) H {s with heap:=h',toks:=tk}:=by
 have subS:∀ b,b∈frs X.stack->b∈X.env.locals::X.fs:=I.wu;have cl:=S.sub I.ok;have cellAt:∀ x c,(yH scope X.env).lookup x=My c->∃ v,h'.IsCell c v:=λ x c e=>by obtain⟨v,o,ho,hd⟩:=I.cell x c (cl x c e);exact⟨v,o,k c o ho,hd⟩
 refine⟨⟨I.ok.mod,S.kind,I.ok.glob,I.ok.blt,hC,λ x y c h1 h2=>I.ok.inj x y c (cl x c h1) (cl y c h2),λ x hx=>S.O7 hx,λ x c h=>absurd h (by simp[Cx.comp]),I.ok.hd,I.ok.frames,.inl rfl,λ b hb=>⟨?_,λ x c e=>(hf b hb).2.2.2.2.1 x c (cl x c e)⟩,I.bs,bC I.ok.bsz I.sz,λ b o e hb=>?_,λ b hb z=>?_,I.stack,I.sN⟩,
  rfl,I.bare,Un.kept k,⟨m,hns,λ i x v e1 e2 e3=>?_⟩,cellAt,I.hok.fresh hC,λ x c e=>I.my x c (cl x c e),λ p hp=>absurd hp (by simp[Cx.comp]),I.hok.kept k,?_⟩
 ·exact aM (aJ (hlt b hb) hC)
 ·rcases (hf b hb).2.2.2.1 with z | z
  ·exact I.ok.CN b o e z
  ·exact absurd (aJ (ar e) (bC I.ok.bsz z)) (aW _)
 ·rcases aB.mp (subS b z) with q | q
  ·exact(hf b hb).2.1 q
  ·exact(hf b hb).2.2.1 q
 ·have e1:(own++fr)[i]?=My x:=e1
  have hi:own.length<=i:=by
   refine fi λ hlt'=>?_;unfold ko at e2;rw[bP (by simpa using hlt'),aK]at e2;cases q:own[i]? with
   | none=>rw[q]at e2;cases e2
   | some a=>rw[q]at e2;cases e2
  rw[bL hi]at e1;unfold ko at e2;rw[bL (by simpa using hi),aK,af]at e2;cases q:ix[i-own.length]? with
  | none=>rw[q]at e2;cases e2
  | some i' =>
   rw[q]at e2;have e2:(σ[i']?).getD SY=My v:=ao e2;have e3':σ[i']?=My (My v):=by
    cases r:σ[i']? with
    | none=>rw[r]at e2;cases e2
    | some w=>rw[r]at e2;exact cK My e2
   have eN:X.N[i']?=My x:=by have:=cK (λ l=>l[i-own.length]?) S.ix';simp only[aK,q,e1,fC]at this;exact ao this
   have hfr:=S.fr' x (bg e1);have hk:=S.free (x,.free) (cR hfr) rfl;obtain⟨m0,_,hl0⟩:=I.loc;obtain⟨u,ru,lk⟩:=hl0 i' x v eN e3' (.inr hk);refine⟨u,ru,.inr ⟨(nW (env:=X.env) hfr).symm,?_⟩⟩;rcases lk with⟨hk',_⟩ | ⟨_,c,hc,hcell⟩
   ·rcases hk with hk | hk<;>(rw[hk']at hk;cases hk)
   ·obtain⟨c',hc'⟩:=S.O7 (x:=x) (nW (env:=X.env) hfr).symm;have:=cl x c' hc';rw[hc]at this;cases this;obtain⟨o,ho,hd⟩:=hcell;exact⟨c,hc',o,k c o ho,hd⟩
 ·show(ko own ix σ).length=(own++fr).length;have:=cK List.length S.ix';simp only[af]at this;simp[ko,this]
theorem Inv.zu {D:Addr}{o:HO}(I:Inv X pins σ H s)(hn:H D=SY)(hs:X.s₀.heap.objs.size<=D)(hL:D≠X.env.locals)(hc:∀ x c,X.env.cells.lookup x=My c->c≠D)(hp:∀ p∈X.pn++pins,p.1≠D)
  (new:jx X.prog X.w (upd H D o) s.heap D o):Inv X pins σ (upd H D o) s:=by
 have ne:∀ b u,H b=My u->b≠D:=λ b u e z=>by rw[z,hn]at e;cases e
 refine⟨I.ok,I.os,I.bare,⟨I.base.keep,I.base.slot,λ b ob e n hx=>?_,I.base.there,λ b xs e=>?_,λ b ob u e=>?_,λ b ps e=>?_⟩,I.loc,I.cell,?_,λ x c e=>?_,λ p hp'=>?_,λ b u e=>?_,I.len⟩
 ·have:b≠D:=aM (aJ (ar e) hs);rw[g6 this];exact I.base.free b ob e n hx
 ·have q:=I.base.ql b xs e;rw[g6 (ne _ _ q)];exact q
 ·have q:=I.base.qm b ob u e;rw[g6 (ne _ _ q)];exact q
 ·obtain⟨more,q⟩:=I.base.ux b ps e;exact⟨more,by rw[g6 (ne _ _ q)];exact q⟩
 ·rw[g6 hL.symm];exact I.free
 ·rw[g6 (hc x c e)];exact I.my x c e
 ·obtain⟨a1,a2,a3⟩:=I.pin p hp';exact⟨a1,by rw[g6 (hp p hp')];exact a2,a3⟩
 ·by_cases hb:b=D
  ·subst hb;rw[gU]at e;cases e;exact new
  ·rw[g6 hb]at e;exact(I.hok b u e).wq (λ c v _ q=>q) (λ c q=>by rw[g6 (ne _ _ q)];exact q) λ c xs q=>by rw[g6 (ne _ _ q)];exact q
end
def Dn (n:Nat)(g:TG):Prop:=∀ x σ H (Q:St->Hp->Prop),g x σ H Q->g x σ H λ σ2 H2=>(∀ j,n<=j->σ2[j]?=σ[j]?)/\σ2.length=σ.length/\Q σ2 H2
def Es (n:Nat)(g:TGs):Prop:=∀ xs σ H (Q:St->Hp->Prop),g xs σ H Q->g xs σ H λ σ2 H2=>(∀ j,n<=j->σ2[j]?=σ[j]?)/\σ2.length=σ.length/\Q σ2 H2
theorem jI {n i:Nat}(h:i<n:=by decide):Dn n (iA i):=λ x σ H Q q=>⟨λ j hj=>cf (by lia),by simp,q⟩
theorem rh {n:Nat}:Es n GC:=λ xs σ H Q ⟨e,q⟩=>⟨e,λ _ _=>rfl,rfl,q⟩
theorem kB {n i:Nat}{u:TGs}(h:i<n)(h2:Es n u):Es n (u4 (iA i) u):=λ xs σ H Q ⟨v,r,e,q⟩=>by refine⟨v,r,e,?_⟩;have q2:=h2 r (σ.set i (My v)) H Q q;have q3:=h2 r (σ.set i (My v)) H _ q2;show u r (σ.set i (My v)) H _;refine Eq.mp ?_ q2;congr 1;funext σ2 H2;simp only[List.length_set];refine propext ⟨λ⟨a,b,c⟩=>⟨λ j hj=>(a j hj).trans (cf (by lia)),b,c⟩,λ⟨a,b,c⟩=>⟨λ j hj=>(a j hj).trans (cf (by lia)).symm,b,c⟩⟩
theorem s_ {n k:Nat}{K:gG}{t:TGs}(h:Es n t):Dn n (GF K k t):=λ x σ H Q ⟨a,xs,e,h1,h2,q⟩=>⟨a,xs,e,h1,h2,h xs σ H Q q⟩
def tLC (own:List Str)(ix:List Nat)(wi:TI)(g:TG)(tc:TT)(te:TE):TE:=λ σ H Q=>wi σ H λ J H1=>∃ W:Nat->Nat->List V->Hp->Prop,(∃ m,W 0 m [] H1)/\∀ i m ys H,W i m ys H ->
 (J.stop i H/\∀ p,H p=SY->Q (.ref p) (upd H p (.lst ys))) \/
 (J.go i H/\ys.length<sizeLine/\∀ x H',J.yld i H x H'->g x (ko own ix σ) H' λ σ2 H2=>tc σ2 H2 λ b H3=>if b=S_ then te σ2 H3 λ y H4=>∃ m',m'<m/\W (i+1) m' (ys++[y]) H4 else ∃ m',m'<m/\W (i+1) m' ys H3)
section
variable {X:Cx}{pins:gL}{σ:St}{H:Hp}{s:gJ}{own fr:List Str}{ix:List Nat}{scope:Scope}{tg iter elt:Expr}{ifs:List Expr}{pos:Pos}{g:TG}{tc:TT}{te:TE}
theorem BC (I:Inv X pins σ H s)(hc:X.calm=S_)(S:lJ X scope own fr ix){J:It}{fp:List Addr}{it:Addr}{tn:Nat->Heap->Prop}(T:Turn X.prog X.w X.K tg J fp it tn)(st:tn 0 s.heap)(hf:∀ b∈fp,vD X pins H b)
  (hg:∀ C,PG (X.comp (own++fr) scope C s H fp) tg g) (hgo:Dn own.length g) (ht:∀ C,PF (X.comp (own++fr) scope C s H fp) ifs tc) (he:∀ C,PE (X.comp (own++fr) scope C s H fp) elt te)
  {Qe:VK} {W:Nat->Nat->List V->Hp->Prop} {m0:Nat} (w0:W 0 m0 [] H) (turn:∀ i m ys H,W i m ys H ->
   (J.stop i H/\∀ p,H p=SY->Qe (.ref p) (upd H p (.lst ys))) \/
   (J.go i H/\ys.length<sizeLine/\∀ x H',J.yld i H x H'->g x (ko own ix σ) H' λ σ2 H2=>tc σ2 H2 λ b H3=>if b=S_ then te σ2 H3 λ y H4=>∃ m',m'<m/\W (i+1) m' (ys++[y]) H4 else ∃ m',m'<m/\W (i+1) m' ys H3))
  {E:gE} {RR:gH->Addr->Result->gJ->Prop}
  (fin:∀ D C s' H',Inv X pins σ H' s'->Qe (.ref D) H'->s.heap.objs.size<=C->H' C=SY->(∃ m,s'.heap.Ns C m)->RR (.ref D) C (.ok .next) s') :
  wpAny (model X.prog X.w) X.A (newList []) (λ acc s₃=>wpAny (model X.prog X.w) X.A (newFunctionEnv scope X.env.globals (yH scope X.env) [] X.env.qual SY .none (My X.env)) (λ cenv s₄ =>codeAny (model X.prog X.w) X.A (.compStart (.ListComp elt [⟨tg,iter,ifs,0⟩] scope pos) 0 (.ref it) acc {cenv with scope:=relabel scope X.env}) (RR acc cenv.locals) s₄) E s₃) E s:=by
 refine bD (wpAny_newFunctionEnv S.Hc (by intro y hy;simp at hy) (λ h₁ hns₁ hsb₁=>?_) S.kind);dsimp only at hns₁ hsb₁ ⊢;generalize hH2:s.heap.push {cls:=.type "list",dict:=SY,data:=.seq ([]:List gH).toArray}=H2 at hns₁ hsb₁ ⊢;have hC:H2.objs.size=s.heap.objs.size+1:=by rw[<-hH2,cG]
 have hDC:s.heap.objs.size≠H2.objs.size:=by rw[hC];exact aM (dR _)
 have hCle:s.heap.objs.size<=H2.objs.size:=by rw[hC];exact fY _
 have below:∀ b,b<s.heap.objs.size->b≠H2.objs.size/\b≠s.heap.objs.size:=λ b hb=>⟨by rw[hC];exact aM (dE hb),aM hb⟩;have old:∀ b o,s.heap.get? b=My o->h₁.get? b=My o:=λ b o e=>hsb₁.extBut b o (below b (ar e)).1 (ah _ (hH2▸ah _ e));have hacc:h₁.PlainList s.heap.objs.size #[]:=⟨_,hsb₁.extBut _ _ hDC (ah _ (hH2▸aE _ rfl))⟩;have hlt:∀ b∈fp,b<s.heap.objs.size:=λ b hb=>by obtain⟨o,e,_⟩:=T.obj 0 s.heap st b hb;exact ar e
 generalize hDD:s.heap.objs.size=D,hCC:H2.objs.size=C at *;have hDs:s.heap.objs.size<=D:=fJ hDD;have I0:Inv (X.comp (own++fr) scope C s H fp) [] (ko own ix σ) H {s with heap:=h₁,toks:=s.toks+([]:List (Str×gH)).length}:=I.enter S hf (by rw[hDD];exact hlt) (by rw[hDD];exact hCle) hns₁ old;have st0:tn 0 h₁:=T.keep 0 _ _ st λ b _ o e=>old b o e;have nfs:D∉frs X.stack:=λ z=>by obtain⟨_,o,ho,_⟩:=I.stack.mem z;exact absurd (ar ho) (by rw[hDD];exact aW _)
 have ncell:∀ x c,(yH scope X.env).lookup x=My c->c≠D:=λ x c e z=>by obtain⟨v,q⟩:=I.cell x c (S.sub I.ok x c e);exact absurd q.lt (by rw[z,hDD];exact aW _)
 have nfp:D∉fp:=λ z=>aW _ (hlt D z);have fpS:∀ b∈fp,b∉frs X.stack:=λ b hb z=>by
  rcases aB.mp (I.wu b z) with q | q
  ·exact(hf b hb).2.1 q
  ·exact(hf b hb).2.2.1 q
 have fpO:∀ (pl:gL) (H':Hp),(∀ p∈pl,p.1=D)->(∀ b∈fp,H' b=SY)->∀ b∈fp,vD (X.comp (own++fr) scope C s H fp) pl H' b:=λ pl H' hpl hn b hb =>
  ⟨hn b hb,(below b (hlt b hb)).1,fpS b hb,.inl hb,λ x c e=>(hf b hb).2.2.2.2.1 x c (S.sub I.ok x c e),λ p hp z=>by
   have hp:p∈pl:=by simpa [Cx.comp] using hp
   rw[hpl p hp]at z;exact nfp (z▸hb)⟩
 have loop:∀ s₃:gJ,s₃={s with heap:=h₁,toks:=s.toks+([]:List (Str×gH)).length} ->
   codeAny (model X.prog X.w) X.A (.compLoop (.ListComp elt [⟨tg,iter,ifs,0⟩] scope pos) 0 (.ref it) (.ref D) (compEnvC scope (yH scope X.env) C X.env)) (RR (.ref D) C) s₃:=by
  rintro s₃ rfl;refine Aq (λ n s'=>∃ i ys its H',Inv (X.comp (own++fr) scope C s H fp) [] (ko own ix σ) H' s'/\s'.heap.PlainList D its/\Vals ys its.toList/\H' D=SY/\tn i s'.heap/\(∀ b∈fp,H' b=SY)/\ys.length<=sizeLine/\W i n ys H') ?_ m0
   ⟨0,[],#[],H,I0,hacc,.nil,I.hok.fresh hDs,st0,λ b hb=>(hf b hb).1,aN _,w0⟩
  rintro n s' ⟨i,ys,its,H',I',acc',rv,hD',st',fr',hz,w'⟩;obtain⟨na,ha⟩:=id acc';have I1:Inv (X.comp (own++fr) scope C s H fp) [(D,{cls:=.type "list",data:=.seq its na})] (ko own ix σ) H' s':=I'.vV λ p hp=>by
   have e:p=(D,({cls:=.type "list",data:=.seq its na}:Obj)):=by simpa using hp
   subst e;exact⟨ha,hD',hDC,nfs,λ v z=>by cases z⟩
  have hpl:∀ p∈[(D,({cls:=.type "list",data:=.seq its na}:Obj))],p.1=D:=λ p hp=>by
   have e:p=(D,({cls:=.type "list",data:=.seq its na}:Obj)):=by simpa using hp
   rw[e]
  rcases turn i n ys H' w' with⟨stop,qn⟩ | ⟨go,hys,step⟩
  ·refine thn (T.done (X.comp (own++fr) scope C s H fp) rfl rfl rfl hc i _ s' _ H' _ I1 (fpO _ H' hpl fr') st' stop) λ r s1 ⟨hr,I2⟩=>?_
   subst hr;have hD1:=(I2.pin (D,_) (aU _ (bp.mpr rfl))).1;obtain⟨m1,hm1,_⟩:=I2.loc;have J1:Inv X pins σ H' s1:=I.OQ I2.os I2.base I2.hok I2.bare λ b hb=>⟨(hf b hb).2.2.2.1,(hf b hb).2.1,(hf b hb).2.2.2.2.1,(hf b hb).2.2.2.2.2⟩;have hXD:X.s₀.heap.objs.size<=D:=by rw[<-hDD];exact I.sz
   have J2:Inv X pins σ (upd H' D (.lst ys)) s1:=J1.zu hD' hXD (bM (by rw[<-hDD];exact I.lt)) (λ x c e z=>by
     obtain⟨v,q⟩:=I.cell x c e;exact absurd q.lt (by rw[z,hDD];exact aW _)) (λ p hp z=>by
     have:=ar (I.pin p hp).1;rw[z,hDD]at this;exact aW _ this) ⟨hz,its.toList,na,rv,by simpa using hD1⟩
   exact fin D C s1 _ J2 (qn D hD') hCle (by rw[g6 (bu hDC)];exact I2.free) ⟨m1,hm1⟩
  ·refine thn (T.item (X.comp (own++fr) scope C s H fp) rfl rfl rfl hc i _ s' _ H' _ I1 (fpO _ H' hpl fr') st' go) λ r s1 ⟨u,hr,h1⟩=>?_
   subst hr;refine thn h1 λ _ s2 ⟨x,H2',I2,r2,y2,st2,fr2⟩=>?_;have I2':=I2.pinned (fpO _ H2' hpl fr2) (T.obj _ _ st2);refine thn (hg C _ s2 _ H2' x u _ I2' r2 (hgo _ _ _ _ (step x H2' y2))) λ _ s3 ⟨σ3,H3,I3,own3,len3,q3⟩=>?_;refine thn (ht C _ s3 σ3 H3 _ I3 q3) λ ok s4 ⟨H4,I4,q4⟩=>?_;have weak:∀ {pl H5 s5},Inv (X.comp (own++fr) scope C s H fp) pl σ3 H5 s5->Inv (X.comp (own++fr) scope C s H fp) pl (ko own ix σ) H5 s5:=λ I5=>I5.weak len3.symm λ j v e=>by
    by_cases hj:own.length<=j
    ·rw[own3 j hj];exact e
    ·exfalso
     unfold ko at e;rw[bP (by simp;lia),aK]at e;cases q:own[j]? with
     | none=>rw[q]at e;cases e
     | some a=>rw[q]at e;cases e
   have again:∀ {H5:Hp} {s5:gJ} {ys':List V} {its':Array gH} {n':Nat},Inv (X.comp (own++fr) scope C s H fp) ([(D,({cls:=.type "list",data:=.seq its na}:Obj))]++uB fp s2.heap) σ3 H5 s5->W (i+1) n' ys' H5->Vals ys' its'.toList->ys'.length<=sizeLine ->
     ∀ h',(∀ b o,b≠D->s5.heap.get? b=My o->h'.get? b=My o)->h'.PlainList D its'->∃ i ys its H',Inv (X.comp (own++fr) scope C s H fp) [] (ko own ix σ) H' {s5 with heap:=h'}/\h'.PlainList D its/\Vals ys its.toList/\H' D=SY/\tn i h'/\(∀ b∈fp,H' b=SY)/\ys.length<=sizeLine/\W i n' ys H':=by
    intro H5 s5 ys' its' n' I5 w5 rv5 hz5 h' k5 a5;have hD5:H5 D=SY:=(I5.pin (D,_) (aU _ (bf _ (bp.mpr rfl)))).2.1;have I6:Inv (X.comp (own++fr) scope C s H fp) [] (ko own ix σ) H5 s5:=(weak I5).vV λ p hp=>absurd hp (by simp);refine⟨i+1,ys',its',H5,I6.turned (t':=s5.toks) k5 hD5 hDC (.inr hDs) ncell (λ p hp=>absurd hp (by simp[Cx.comp])),a5,rv5,hD5,T.keep _ _ _ st2 λ b hb o e=>k5 b o (λ z=>nfp (z▸hb)) (I5.pin (b,o) (aU _ (aU _ (ph hb e)))).1,λ b hb=>?_,hz5,w5⟩;obtain⟨o,e,d⟩:=T.obj _ _ st2 b hb;exact(I5.pin (b,o) (aU _ (aU _ (ph hb e)))).2.1
   have pinD:∀ {H5:Hp} {s5:gJ},Inv (X.comp (own++fr) scope C s H fp) ([(D,({cls:=.type "list",data:=.seq its na}:Obj))]++uB fp s2.heap) σ3 H5 s5->s5.heap.PlainList D its:=λ I5 =>⟨na,(I5.pin (D,_) (aU _ (bf _ (bp.mpr rfl)))).1⟩
   cases ok with
   | false =>rw[ak aw]at q4;rw[ak aw];obtain⟨m',hm',w4⟩:=q4;exact⟨m',hm',again I4 w4 rv hz s4.heap (λ _ _ _ e=>e) (pinD I4)⟩
   | true =>rw[ai rfl]at q4;rw[ai rfl];refine thn (he C _ s4 σ3 H4 _ I4 q4) λ y s5 ⟨v,H5,I5,r5,m',hm',w5⟩=>?_;have hl:=rv.length;refine wpAny_list_append_plain (hsz:=by simp at hl;lia) (pinD I5) λ h6 hl6 hs6=>?_;refine⟨m',hm',again I5 w5 (its':=its.push y) ?_ (by rw[aH,aX];lia) h6 (λ b o hb e=>hs6.extBut b o hb e) hl6⟩;rw[Array.toList_push];exact fZ rv r5
 exact codeAny_compStart_list (loop _ rfl) (T.self _ 0 _ _ _ st0 (loop _ rfl))
theorem LO (hc:X.calm=S_)(S:lJ X scope own fr ix){wi:TI}(hi:PI X tg iter wi)(hg:∀ C s H fp,PG (X.comp (own++fr) scope C s H fp) tg g)(hgo:Dn own.length g)
  (ht:∀ C s H fp,PF (X.comp (own++fr) scope C s H fp) ifs tc) (he:∀ C s H fp,PE (X.comp (own++fr) scope C s H fp) elt te) (hs:∀ x,foldedSetIterable iter X.env x=pure x:=by intro _;rfl) :
  PE X (.ListComp elt [⟨tg,iter,ifs,0⟩] scope pos) (tLC own ix wi g tc te):=by
 intro pins s σ H Q I h;rw[eval_ListComp];refine wpAny_comprehension_free (use:=SY) rfl hs (xg (S.cells I.ok)) S.kind S.loc (thn (hi pins s σ H _ I h) λ v s1 h1=>thn h1 λ itv s2 h2=>?_);obtain⟨it,fp,tn,J,H2,e,I2,T,st2,f2,W,⟨m0,w0⟩,turn⟩:=h2;subst e;refine BC (Qe:=Q) (RR:=λ acc C=>compPost (model X.prog X.w) X.A X.xe SY (EP X pins σ Q) acc C) I2 hc S T st2 f2 (λ C=>hg C _ _ _) hgo (λ C=>ht C _ _ _) (λ C=>he C _ _ _) w0 turn ?_;rintro D C s' H' J1 q hC hn ⟨m,hm⟩;refine⟨m,hm,λ h'' hs''=>⟨.ref D,H',?_,rfl,q⟩⟩;exact J1.turned (t':=s'.toks) (λ b o hb e=>hs''.extBut b o hb e) hn (bM (aJ I2.lt hC)) (.inr (bC I2.sz hC)) (λ x c e z=>by
  obtain⟨v,q⟩:=I2.cell x c e;exact absurd q.lt (by rw[z];exact fS.mpr hC)) (λ p hp z=>by
  have:=ar (I2.pin p hp).1;rw[z]at this;exact absurd this (fS.mpr hC))
theorem LP {i:Nat}{x:Str}{px spos:Pos}(hN:X.N.Nodup)(hi':X.N[i]?=My x)(hx:Loc X.env.scope x)(hc:X.calm=S_)(S:lJ X scope own fr ix){wi:TI}(hi:PI X tg iter wi)(hg:∀ C s H fp,PG (X.comp (own++fr) scope C s H fp) tg g)(hgo:Dn own.length g)
  (ht:∀ C s H fp,PF (X.comp (own++fr) scope C s H fp) ifs tc) (he:∀ C s H fp,PE (X.comp (own++fr) scope C s H fp) elt te)
  (hsw:swapsWith (.ListComp elt [⟨tg,iter,ifs,0⟩] scope pos) (My (.Name x px)) spos.line X.env=pure S_:=by rfl) (hf:X.fn x=S_\/X.env.scope.names.lookup x=My .local:=by trivial)
  (hs:∀ x,foldedSetIterable iter X.env x=pure x:=by intro _;rfl) :
  PS X (.Assign [.Name x px] (.ListComp elt [⟨tg,iter,ifs,0⟩] scope pos) spos) (λ D σ H=>tLC own ix wi g tc te σ H λ v H'=>D.nx (σ.set i (My v)) H'):=by
 intro pins s σ H D I h;rw[exec_Assign_Name_used _ _ _ _ hsw];refine ae (wpAny_standAt (ae ?_));show wpAny _ X.A (do let _<-comprehension (.ListComp elt [⟨tg,iter,ifs,0⟩] scope pos) scope X.env _ (newList []) Ta (eval iter X.env) (My (assign (.Name x px) X.env))) _ _ s;refine ae (cZ (wpAny_comprehension_free (use:=My (assign (.Name x px) X.env)) (Q:=λ _ s'=>SP X pins D .next s') rfl hs (xg (S.cells I.ok)) S.kind S.loc
  (thn (hi pins s σ H _ I h) λ v s1 h1=>thn h1 λ itv s2 h2=>?_)) (λ _ s' hq=>ag (ag hq)) λ _ _ e=>e)
 obtain⟨it,fp,tn,J,H2,e,I2,T,st2,f2,W,⟨m0,w0⟩,turn⟩:=h2;subst e;refine BC (Qe:=λ v H'=>D.nx (σ.set i (My v)) H') (RR:=λ acc C=>compPost (model X.prog X.w) X.A X.xe (My (assign (.Name x px) X.env)) (λ _ s'=>SP X pins D .next s') acc C) I2 hc S T st2 f2 (λ C=>hg C _ _ _) hgo (λ C=>ht C _ _ _) (λ C=>he C _ _ _) w0 turn ?_;rintro Dd C s' H' J1 q hC hn ⟨m,hm⟩;show wpAny _ X.A (assign (.Name x px) X.env (.ref Dd)) _ _ _;refine wpAny_assign_Name (y_ (v:=.ref Dd) J1 hN hi' hx rfl (λ s'' J2 ⟨a,hsb,ha⟩=>?_) hf);have neC:a≠C:=by
  rcases ha with ha | ha
  ·rw[ha];exact aM (aJ I2.lt hC)
  ·obtain⟨v,q⟩:=I2.cell x a ha;exact aM (aJ q.lt hC)
 refine⟨m,hm.sameBut hsb neC.symm,λ h'' hs''=>⟨_,H',?_,q⟩⟩;exact J2.turned (t':=s''.toks) (λ b o hb e=>hs''.extBut b o hb e) hn (bM (aJ I2.lt hC)) (.inr (bC I2.sz hC)) (λ x c e z=>by
  obtain⟨v,q⟩:=I2.cell x c e;exact absurd q.lt (by rw[z];exact fS.mpr hC)) (λ p hp z=>by
  have:=ar (I2.pin p hp).1;rw[z]at this;exact absurd this (fS.mpr hC))
end
end L2
namespace Tb
open PySem PySem.W PySem.Spec PyProof.Rows
def pLt (a b:Int×Int):Bool:=decide (a.1<b.1) || (decide (a.1=b.1)&&decide (a.2<b.2))
theorem pB (a b:Int×Int):pLt a b=S_↔a.1<b.1\/(a.1=b.1/\a.2<b.2):=by simp[pLt]
theorem uL (a b:Int×Int):pLt a b=Ta↔¬ (a.1<b.1\/(a.1=b.1/\a.2<b.2)):=by rw[<-pB];simp
def PO:KeyOrd where
 α:=Int×Int
 blt:=pLt
 irrefl:=λ a=>by rw[uL];lia
 trans:=λ a b c h1 h2=>by rw[pB]at *;lia
 negTrans:=λ a b c h=>by rw[pB]at *;rw[pB];lia
 total:=λ a b h1 h2=>by
  rw[uL]at h1 h2
  exact gy (by lia) (by lia)
section
variable {prog:Program}{w:World}{A:Around}{E:gE}{s:gJ}{h₀:Heap}{L:Addr}{m:gD}{news:gL}
theorem He {h:Heap}{x y:Int}{b:Addr}(k:lI prog w h [x,y] b):∃ o n t u,h.get? b=My o/\o.cls=.type "tuple"/\o.data=.seq #[.int x t,.int y u] n:=by
 obtain⟨o,its,n,e1,e2,e3,e4⟩:=k;generalize hits:its.toList=L at e4;cases e4 with
 | cons h1 e5=>cases e5 with
  | cons h2 e6 =>cases e6;obtain⟨t,q1⟩:=d3 h1;obtain⟨u,q2⟩:=d3 h2;refine⟨o,n,t,u,e1,e2,?_⟩;rw[e3,<-q1,<-q2];congr 1;apply Array.ext';rw[hits]
theorem vb {h:Heap}:∀ (vs:List gH),(∀ v∈vs,∃ b x y,v=.ref b/\lI prog w h [x,y] b)->∃ fs:List gH,KatTups h vs fs/\fs.length=vs.length/\∀ f∈fs,∃ i t,f=Value.int i t
 | [],_=>⟨[],trivial,rfl,λ f hf=>by cases hf⟩
 | v::r,hv=>by
  obtain⟨fs,q1,q2,q3⟩:=vb r λ u hu=>hv u (ax _ hu);obtain⟨b,x,y,rfl,tk⟩:=hv v av;obtain⟨o,n,t,u,e1,e2,e3⟩:=He tk;refine⟨.int x t::fs,KatTups.cons e1 e2 e3 rfl q1,by simp[q2],λ f hf=>?_⟩;rcases aB.mp hf with rfl | hf
  ·exact⟨x,t,rfl⟩
  ·exact q3 f hf
theorem Hf {i j:Nat}{vs:List gH}{a b:Int×Int}{p q:Addr}{C:Bool->gJ->Prop}(hi:vs[i]?=My (.ref p))(hj:vs[j]?=My (.ref q))(ki:lI prog w s.heap [a.1,a.2] p)(kj:lI prog w s.heap [b.1,b.2] q)(h:C (pLt a b) s) :
  kas_ask prog w A (tuples' S_) vs i j C s:=by
 unfold kas_ask;rw[aG,hi,aG,hj,ee,ee];obtain⟨o1,n1,t1,u1,e1,c1,d1⟩:=He ki;obtain⟨o2,n2,t2,u2,e2,c2,d2⟩:=He kj;refine kat_lt e1 d1 e2 d2 ?_;show KatLex prog w A S_ _ C [(Value.int a.1 t1,Value.int b.1 t2),(Value.int a.2 u1,Value.int b.2 u2)] 0 s;refine kat_cons (wpAny_eqBool_int ?_);by_cases h1:a.1=b.1
 ·rw[show(a.1==b.1)=S_ by simpa using h1]
  refine kat_yes (kat_cons (wpAny_eqBool_int ?_));by_cases h2:a.2=b.2
  ·rw[show(a.2==b.2)=S_ by simpa using h2]
   refine kat_yes (kat_nil ?_);have e:pLt a b=Ta:=by rw[uL];lia
   rw[e]at h;exact h
  ·rw[show(a.2==b.2)=Ta by simpa using h2]
   refine kat_no ?_;show wpAny _ _ (oneLt' Ta (.int a.2 u1) (.int b.2 u2)) _ _ _;refine kat_one _ _ (lt_int ?_);have e:pLt a b=decide (a.2<b.2):=by simp[pLt,h1]
   rw[e]at h;exact h
 ·rw[show(a.1==b.1)=Ta by simpa using h1]
  refine kat_no ?_;show wpAny _ _ (oneLt' S_ (.int a.1 t1) (.int b.1 t2)) _ _ _;refine oneLt_int ?_;have e:pLt a b=decide (a.1<b.1):=by simp[pLt,h1]
  rw[e]at h;exact h
theorem rZ {D:Addr}{vs:List gH}{X:Nat->Int×Int}{Q:gE}(F:Fr h₀ L s.heap m)(N:News h₀ L s.heap ((D,listOf vs.toArray 0)::news))(hD:∀ p∈news,p.1≠D)(h2:2<=vs.length)(h64:vs.length<64)
  (ht:∀ h',Fr h₀ L h' m->News h₀ L h' news->∀ (i:Nat) v,vs[i]?=My v->∃ b,v=.ref b/\lI prog w h' [(X i).1,(X i).2] b)
  (h:∀ (p:Array Nat) h' c,Pm vs.length p->Sor (O:=PO) X p vs.length->Fr h₀ L h' m->News h₀ L h' ((D,listOf (List.toArray (p.toList.map λ i=>vs.getD i Value.none)) c)::news)->Q .none {s with heap:=h'}) :
  wpAny (model prog w) A (call (.builtin "list.sort") [.ref D]) Q E s:=by
 refine kat_lsort F N (.head hD) (by simp) h2 h64 λ e1 h' F' N'=>?_;have N'':News h₀ L h' news:=λ p hp=>N' p (ax _ hp);have keys:=ht h' F' N'';have at_i:∀ i,i<vs.length->∃ b,vs[i]?=My (.ref b)/\lI prog w h' [(X i).1,(X i).2] b:=λ i hi=>by obtain⟨b,e,tk⟩:=keys i vs[i] (by simp[hi]);exact⟨b,by rw[<-e];simp[hi],tk⟩
 obtain⟨fs,q1,q2,q3⟩:=vb (prog:=prog) (w:=w) (h:=h') vs λ v hv=>by obtain⟨i,hi,ei⟩:=b_ hv;obtain⟨b,e,tk⟩:=keys i v (by rw[<-ei];simp[hi]);exact⟨b,_,_,e,tk⟩
 refine kat_kind (s:={s with heap:=h'}) (T:=.type "int") q1 (by lia) (λ v hv=>?_) (by decide) ?_
 ·obtain⟨i,t,rfl⟩:=q3 v hv;exact Looks.of_pure rfl
 ·show(kas_sort vs.length).kasWp (kas_ask prog w A.in1 (tuples' S_) vs) _ _
  refine Tr.wp (n:=vs.length) (c:=cO (O:=PO) X) (R:=λ p=>Pm vs.length p/\Sor (O:=PO) X p vs.length) (λ i j C hi hj hc=>?_) (λ p hp=>?_) _ (MV (by lia))
  ·obtain⟨b1,v1,k1⟩:=at_i i hi;obtain⟨b2,v2,k2⟩:=at_i j hj;exact Hf v1 v2 k1 k2 hc
  ·exact KasFin.intro F' N' (.head hD) λ h2 c F2 N2=>h p h2 c hp.1 hp.2 F2 N2
theorem r_ {D:Addr}{vs:List gH}{Q:gE}(ho:s.heap.get? D=My (seqObj "list" vs.toArray 0))(h2:vs.length<2)
  (h:∀ h' c,(∀ b o,b≠D->s.heap.get? b=My o->h'.get? b=My o)->h'.get? D=My (seqObj "list" vs.toArray c)->Q .none {s with heap:=h'}) :
  wpAny (model prog w) A (call (.builtin "list.sort") [.ref D]) Q E s:=by
 have hlt:D<s.heap.objs.size:=ar ho;refine bS slot_list_sort ⟨_,ho,rfl⟩ entry_list_sort ?_ (args_list_sort _);rw[list_sort_plain];refine ae (listItems_at ho rfl ?_);refine ae (listUpdate_at ho rfl ?_ (by simp;rw[sizeLine_eq];lia) (by simp));obtain⟨e1,ho1⟩:∃ e1,(s.heap.update D (Obj.mapSeq λ _=>#[])).get? D=My (seqObj "list" #[] e1):=⟨_,get?_update_seq ho λ _=>#[]⟩;refine ae (seqEpoch_at ho1 rfl ?_);refine ae (wpAny_newTuple ?_ (by rw[sizeLine_eq];simp;lia));refine ae (fv ?_ (by simp));refine bJ ?_;have ho6:(((s.heap.update D (Obj.mapSeq λ _=>#[])).push (seqObj "tuple" vs.toArray 0)).push (seqObj "list" #[] 0)).get? D=My (seqObj "list" #[] e1) :=
  ah _ (ah _ ho1)
 show wpAny (model prog w) _ _ _ _ {s with heap:=((s.heap.update D (Obj.mapSeq λ _=>#[])).push (seqObj "tuple" vs.toArray 0)).push (seqObj "list" #[] 0)};dsimp only;have hsz:vs.toArray.size<2:=by simpa using h2
 rw[ai hsz,ai hsz];refine ae (ag ?_);rw[StateT.run_pure];refine ae (ag ?_);dsimp only;refine ae (seqEpoch_at ho6 rfl ?_);have hout:(arrOf (SortSt.mk' general' (vs.toArray.zip vs.toArray) #[] 7 SY)).map (·.2)=vs.toArray:=by show(vs.toArray.zip vs.toArray).map (·.2)=vs.toArray;apply Array.ext';simp;exact List.map_snd_zip (ay _)
 rw[hout];refine ae (listUpdate_at ho6 rfl ?_ (by simp) (by simp;rw[sizeLine_eq];lia));simp only[bne_self_eq_false,aT,cv];obtain⟨c,hc⟩:∃ c,((((s.heap.update D (Obj.mapSeq λ _=>#[])).push (seqObj "tuple" vs.toArray 0)).push (seqObj "list" #[] 0)).update D (Obj.mapSeq λ _=>vs.toArray)).get? D=My (seqObj "list" vs.toArray c):=⟨_,get?_update_seq ho6 λ _=>vs.toArray⟩;refine ag ⟨_,rfl,h _ c (λ b o hb e=>?_) hc⟩;rw[Heap.get?_update_ne _ _ _ _ hb];refine ah _ (ah _ ?_);rw[Heap.get?_update_ne _ _ _ _ hb];exact e
theorem Hi {r:Addr}{Q:Bool->gJ->Prop}(hT:s.TypeIs (.ref r) "set")(h:Q Ta s):wpAny (model prog w) A (Builtin.List.listLengthHint (.ref r)) Q E s:=by
 unfold Builtin.List.listLengthHint;refine ae (wpAny_specialOf hT PySem.F.slot_set_len.lookup ?_);generalize hid:("set.__len__":String)=id0
 wp_delta
 rw[show splitId id0=My ("set","__len__") from by subst hid;decide +kernel];subst hid;refine ae (wpAny_isInstance (T:="set") (b:=S_) hT (by rw[isSubtype_type];kernel_rfl) ?_);refine wpAny_ite_split (λ hab=>absurd hab (by decide)) (λ _=>?_);refine wpAny_ite_split (λ _=>?_) (λ hab=>absurd (by decide +kernel) hab);exact ae (eT hT (ag h))
theorem Hj {S:Addr}{oS:Obj}{es:Array (Int×gH)}{ep:Nat}{t:SetTable}{Q:gE}(hS:s.heap.get? S=My oS)(hx:oS.ExactSet)(hd:oS.data=.set es ep t)(T:TOk t (es.toList.map (·.1)))(hp:t.plain=S_)
  (hQ:Q (.ref s.heap.objs.size) {s with heap:=s.heap.push {cls:=.type "set_iterator",data:=.fields #[rawInt 0,rawInt 0,.ref S,rawInt es.size,rawInt ep]}}):wpAny (model prog w) A (pyIter (.ref S)) Q E s:=by
 have hT:s.TypeIs (.ref S) "set":=⟨oS,hS,hx.1⟩;have hfit:=fits_of T (n:=es.size) (by simp);refine wpAny_pyIter_slot hT F.slot_set_iter (bS F.slot_set_iter hT yG ?_ (F.args_set_iter_1 _));unfold Builtin.«frozenset.__iter__»;refine ae ?_;unfold Builtin.Frozenset.slot0;refine ae (ag ?_);show wpAny _ _ (pure S) _ _ _;refine ag ?_;refine ae ?_;unfold Builtin.Frozenset.sizeOf;refine ae (qA hS hd T (ag ?_));refine ae ?_;unfold setDrawn;refine ae (cq hS hd hfit ?_);dsimp only;refine ae (An ?_);refine ag ?_;show wpAny _ _ (if (!w.params.followText "set-order"&&(!t.plain&&decide (es.size>1)))=S_ then _ else _) _ _ _;rw[hp];simp only[dN,gu,fM,aT,cv];refine ae (ag ?_);refine ae (ae (cq hS hd hfit (ag ?_)));refine ae (bD (ag ⟨_,rfl,"set_iterator",_,⟨_,aE _ rfl,rfl⟩,kM.lookup,?_⟩));exact hQ
theorem Et {S:Addr}{oS:Obj}{es:Array (Int×gH)}{ep:Nat}{t:SetTable}(hx:oS.ExactSet)(hd:oS.data=.set es ep t)(T:TOk t (es.toList.map (·.1)))(hp:t.plain=S_)(hl:t.led=!(w.params.followText "set-order")) :
  KdlSrc prog w "set" S S es.size (λ i v=>∃ hv,(seen w S ep es)[i]?=My (hv,v)) (λ h=>h.get? S=My oS) where
 type:=λ _ e=>⟨oS,e,hx.1⟩
 there:=λ _ e=>⟨ar e,ar e⟩
 keep:=λ _ _ e hk=>hk S (.inl rfl) oS e
 notList:=by decide
 notTuple:=by decide
 hint:=λ _ _ _ _ e hq=>Hi ⟨oS,e,hx.1⟩ hq
 iter:=λ A s hh e=>⟨_,_,(λ _ _ hq=>Hj e hx hd T hp hq),Hb hh (aM (ar e)) hd T hp hl,⟨⟨_,0,aE _ rfl,rfl,rfl,λ _=>Dk T.ri⟩,ah _ e⟩⟩
end
end Tb
namespace L2
open PySem PySem.W PySem.Spec PyProof.Rows Tb
section
variable {X:Cx}{pins:gL}{σ:St}{H:Hp}{s:gJ}
theorem pD {prog:Program}{w:World}:∀ {k:List Int} {its:List gH},Vals (k.map V.int) its->ItemsAre (intKind prog w) k its
 | [],_,.nil=>.nil
 | i::r,_,.cons ⟨t,e⟩ q=>by subst e;exact .cons (intKind_is _ _ _ _) (pD q)
theorem Eu {prog:Program}{w:World}{H:Hp}{h:Heap}(ok:HOk prog w H h){k:List Int}{b:Addr}(e:H b=My (.tup (k.map V.int))):lI prog w h k b:=by obtain⟨_,its,r,o,e1,e2,n,e3⟩:=ok b _ e;exact⟨o,its.toArray,n,e1,e2,e3,by simpa using pD r⟩
def FA (H:Hp)(vs:List V)(kk:List (List Int)):Prop:=Paired (λ v k=>∃ b,v=V.ref b/\H b=My (.tup (k.map V.int))) vs kk
def JU (w:World)(H:Hp)(S:Addr)(ks:List (List Int)):Prop:=∃ oS es ep t,H S=My (.ext λ h=>h.get? S=My oS)/\oS.ExactSet/\oS.data=.set es ep t/\TOk t (es.toList.map (·.1))/\t.plain=S_/\t.led=!(w.params.followText "set-order")/\es.size<=76/\ks.Nodup /\
 Paired (λ k (e:Int×gH)=>∃ b,e.2=Value.ref b/\H b=My (.tup (k.map V.int))) ks es.toList
theorem oN {α β:Type}{F:α->β->Prop}:∀ {xs:List α} {ys:List β},Paired F xs ys->∀ (i:Nat) (x:α),xs[i]?=My x->∃ y,ys[i]?=My y/\F x y
 := by
  intro xs ys h;induction h with
  | nil=>intro i x h;simp at h
  | cons h t ih =>
    intro i x e;cases i with
    | zero =>rw[eP]at e;cases e;exact⟨_,rfl,h⟩
    | succ i =>rw[cb]at e;obtain⟨y,q1,q2⟩:=ih i x e;exact⟨y,by rw[cb];exact q1,q2⟩
theorem Hk (hc:X.calm=S_)(hu:X.A.units+64<cLine):jB X (.type "set") (λ xs H Q=>∃ l vs kk,xs=[V.ref l]/\SqL X.K H l vs/\FA H vs kk/\vs.length<=40 /\
  ∀ S o ks,H S=SY->JU X.w (upd H S o) S ks->(∀ k,k∈ks↔k∈kk)->Q (.ref S) (upd H S o)):=by
 intro pins s σ H xs us Q I r h;obtain⟨l,vs,kk,rfl,hl,ht,hz,q⟩:=h;obtain⟨u,rfl,ru⟩:=vals1 r;cases ru;obtain⟨its,rv,p,_⟩:=I.list hl;have hlen:vs.length=its.length:=rv.length;have hkl:vs.length=kk.length:=ht.length;refine Bx (G:=λ k b=>H b=My (.tup (k.map V.int))) (I.ok.hd hc) (dX (show X.A.units+40<=X.A.units+64 by lia) hu) p.isList (kk:=kk) (by simp;lia) (by simp;lia) (λ j v hj=>?_) λ h' tk ks kp S' m'=>?_
 ·have hj:its[j]?=My v:=by simpa using hj
  have hjl:j<vs.length:=by have:=(aQ.mp hj).1;lia
  obtain⟨k,hk1,b,hb,hb2⟩:=oN ht j vs[j] (by simp[hjl]);obtain⟨u,hu1,hu2⟩:=rv.get (x:=vs[j]) (i:=j) (by simp[hjl]);rw[hj]at hu1;cases hu1;rw[hb]at hu2;cases hu2;exact⟨k,b,hk1,rfl,Eu I.hok hb2,hb2⟩
 ·obtain⟨oS,es,ep,t,ho,hx,hd,T,En,hp,hl',hr,nd⟩:=S';have keep:∀ b u,s.heap.get? b=My u->h'.get? b=My u:=λ b u e=>kp b u (ar e) e;have hn:=I.hok.fresh (ay s.heap.objs.size);have I':Inv X pins σ (upd H s.heap.objs.size (.ext λ h=>h.get? s.heap.objs.size=My oS)) {s with heap:=h',toks:=tk}:=I.laid keep (ay _) ⟨ho,⟨_,ho⟩,λ h1 h2 a b=>b _ a⟩;refine⟨.ref s.heap.objs.size,_,I',rfl,q _ _ ks hn ⟨oS,es,ep,t,gU,hx,hd,T,hp,hl',?_,nd,nE (λ k e ⟨b,e1,_,e2⟩=>⟨b,by rw[e1],by rw[g6 (ir e2 hn)];exact e2⟩) En⟩ m'⟩;rcases hr with⟨_,z⟩ | ⟨_,z⟩ | ⟨_,z⟩<;>lia
theorem Inv.pE {h':Heap}{tk:Nat}{m:gD}(I:Inv X pins σ H s)(hm:s.heap.Ns X.env.locals m)(F:Fr (Att.jd s.heap) X.env.locals h' m)(N:News (Att.jd s.heap) X.env.locals h' (lg (Att.jd s.heap) s.heap X.env.locals)) :
  Inv X pins σ H {s with heap:=h',toks:=tk}:=by
 have no:∀ b,(Att.jd s.heap).get? b=SY:=λ b=>cu (aN _);have keep:∀ b o,b≠X.env.locals->s.heap.get? b=My o->h'.get? b=My o:=λ b o hb e=>(N (b,o) (Bj hb (no b) e)).1;refine I.step (g':=s.gens) (d':=s.drawn) (ch:=[]) (λ _ z=>nomatch z) (λ b o hb _ _ e _=>keep b o hb e) (λ b o hb _ _ e _=>⟨o.slots,keep b o hb e⟩) (λ _ _ _ _ n=>n) (λ b o _ e=>?_) (λ _ _ e=>e) (λ _ _ _ e=>e) (λ b ps e=>⟨#[],by rw[e];simp⟩) (λ m' hm'=>?_) (λ b u e=>?_) I.bare
 ·by_cases hb:b=X.env.locals
  ·obtain⟨o',_,_,ho',_⟩:=F.ns;exact⟨o',by rw[hb];exact ho'⟩
  ·exact⟨o,keep b o hb e⟩
 ·have:m'=m:=by
   obtain⟨o1,es1,ep1,a1,a2,_,a4⟩:=hm;obtain⟨o2,es2,ep2,b1,b2,_,b4⟩:=hm';rw[a1]at b1;cases b1;rw[a2]at b2;cases b2;funext x;rw[<-a4 x,<-b4 x]
  rw[this];exact F.ns
 ·refine(I.hok b u e).wq (λ c v hc q=>keep c v ?_ q) (λ _ q=>q) λ _ _ q=>q
  rcases hc with z | z
  ·intro hL;have hf:=I.free;rw[<-hL,z,e]at hf;cases hf
  ·intro hL;have hf:=I.free;rw[<-hL,z]at hf;cases hf
theorem tf {P:Program}{w:World}{H:Hp}{h:Heap}{a:Addr}{o:HO}(x:jx P w H h a o):∃ ob,h.get? a=My ob:=by
 cases o with
 | lst xs=>obtain⟨_,_,_,_,e⟩:=x;exact⟨_,e⟩
 | tup xs=>obtain⟨_,_,_,ob,e,_⟩:=x;exact⟨ob,e⟩
 | dK kvs=>obtain⟨_,_,_,_,ob,_,_,e,_⟩:=x;exact⟨ob,e⟩
 | dT kvs=>obtain⟨_,_,_,_,ob,_,_,e,_⟩:=x;exact⟨ob,e⟩
 | set S n=>obtain⟨ob,_,_,_,e,_⟩:=x;exact⟨ob,e⟩
 | ins C dx fs=>obtain⟨_,_,_,e,_⟩:=x;exact⟨_,e⟩
 | own y=>obtain⟨ob,e⟩:=x;exact⟨ob,e⟩
 | xd fs=>obtain⟨_,⟨ob,_,_,e,_⟩,_⟩:=x;exact⟨ob,e⟩
 | rng lo hi=>obtain⟨_,_,_,e⟩:=x;exact⟨_,e⟩
 | frz ob u=>obtain⟨e,_⟩:=x;exact⟨_,e⟩
 | tbl ps=>exact⟨_,x⟩
 | met f y=>exact⟨_,x⟩
 | ext φ=>obtain⟨_,⟨ob,e⟩,_⟩:=x;exact⟨ob,e⟩
theorem vc {α β:Type}{F:α->β->Prop}{ys ys':List β}(p:ys.Perm ys'):∀ {xs:List α},Paired F xs ys->∃ xs',xs.Perm xs'/\Paired F xs' ys':=by
 induction p with
 | nil=>intro xs h;exact⟨xs,.refl _,h⟩
 | cons y _ ih =>
  intro xs h;cases h with
  | cons h t =>obtain⟨xs',q1,q2⟩:=ih t;exact⟨_,q1.cons _,.cons h q2⟩
 | swap y z l =>
  intro xs h;cases h with
  | cons h1 t =>
   cases t with
   | cons h2 t=>exact⟨_,List.Perm.swap _ _ _,.cons h2 (.cons h1 t)⟩
 | trans _ _ ih1 ih2 =>intro xs h;obtain⟨x1,q1,q2⟩:=ih1 h;obtain⟨x2,q3,q4⟩:=ih2 q2;exact⟨x2,q1.trans q3,q4⟩
theorem pF {α β γ:Type}{F:β->γ->Prop}(f:α->β):∀ {xs:List α} {ys:List γ},Paired F (xs.map f) ys->Paired (λ a y=>F (f a) y) xs ys
 | [],_,.nil=>.nil
 | _::_,_,.cons h t=>.cons h (pF f t)
theorem lE {α β γ:Type}{F:β->γ->Prop}{f:α->β}{g:α->γ}:∀ (l:List α),(∀ a∈l,F (f a) (g a))->Paired F (l.map f) (l.map g)
 | [],_=>.nil
 | a::r,h=>.cons (h a av) (lE r λ b hb=>h b (ax _ hb))
theorem jP {α:Type}(l:List α)(d:α):(Tc l.length).map (λ i=>l.getD i d)=l:=by
 apply f7;intro i;rw[aK];by_cases h:i<l.length
 ·rw[cT h];simp[h]
 ·rw[bY (by simpa using h),bY (by lia)];rfl
theorem xh (hc:X.calm=S_):jB X (.builtin "sorted") (λ xs H Q=>∃ S kk,xs=[V.ref S]/\JU X.w H S (kk.map λ(k:Int×Int)=>[k.1,k.2])/\kk.length<64 /\
  ∀ p ws (ss:List (Int×Int)),H p=SY->FA H ws (ss.map λ k=>[k.1,k.2])->ss.Pairwise (λ a b=>pLt a b=S_)->ss.Perm kk->Q (.ref p) (upd H p (.lst ws))):=by
 intro pins s σ H xs us Q I r h;obtain⟨S,kk,rfl,hS,h64,q⟩:=h;obtain⟨u,rfl,ru⟩:=vals1 r;cases ru;obtain⟨oS,es,ep,t,e1,hx,hd,T,hp,hl,hz,nd,pr⟩:=hS;have hok:=I.hok S _ e1;have hS:s.heap.get? S=My oS:=hok.1;obtain⟨m,hm,_⟩:=id I.loc;have no:∀ b,(Att.jd s.heap).get? b=SY:=λ b=>cu (aN _);have hkl:kk.length=es.size:=by have:=pr.length;simpa using this
 have ndk:kk.Nodup:=by rw[aI]at nd ⊢;rw[bq]at nd;exact nd.imp λ h e=>h (by rw[e])
 obtain⟨k3,pk,pr3⟩:=vc (rg X.w S ep es).symm (pF _ pr);have hk3:k3.length=es.size:=by rw[<-pk.length_eq,hkl]
 refine dh kind_sorted plain_sorted entry_sorted (args_sorted1 _) ?_;unfold Builtin.«sorted»;refine ae (m:=checkCount "sorted" 1 1 _) (ag (ae (kdu_collect (A:=X.A.in1) (Et hx hd T hp hl) (I.ok.hd hc) hS (by rw[sizeLine_eq];lia) λ h1 tk acc hk hacc=>?_)));have hal:acc.toList.length=es.size:=by rw[bt];exact hacc.1
 have hav:∀ (j:Nat) (v:gH),acc.toList[j]?=My v->∃ hv,(seen X.w S ep es)[j]?=My (hv,v):=λ j v e=>hacc.2 j v (by rw[<-aZ];exact e);generalize acc.toList=vs at hal hav;refine ae (fv ?_ (by rw[sizeLine_eq];lia));have hL:X.env.locals<h1.objs.size:=by obtain⟨oL,_,_,ho,_⟩:=hm;exact ar (hk _ _ ho)
 have at_j:∀ j,j<es.size->∃ b,vs[j]?=My (.ref b)/\H b=My (.tup [.int (k3.getD j (0,0)).1,.int (k3.getD j (0,0)).2]):=λ j hj=>by
  obtain⟨hv,e2⟩:=hav j vs[j] (by simp[hal,hj]);have hj3:k3[j]?=My (k3.getD j (0,0)):=by rw[aG];simp[hk3,hj]
  obtain⟨y,y1,b,y2,y3⟩:=oN pr3 j _ hj3;rw[aZ,e2]at y1;cases y1;exact⟨b,by rw[<-y2];simp[hal,hj],y3⟩
 have keep1:∀ b o,s.heap.get? b=My o->(h1.push {cls:=.type "list",data:=.seq vs.toArray}).get? b=My o:=λ b o e=>ah _ (hk b o e);have F1:Fr (Att.jd s.heap) X.env.locals (h1.push {cls:=.type "list",data:=.seq vs.toArray}) m:=⟨hm.at' λ o e=>keep1 _ o e,(λ b o e=>by rw[no]at e;cases e),aN _⟩;have N1:News (Att.jd s.heap) X.env.locals (h1.push {cls:=.type "list",data:=.seq vs.toArray}) (lg (Att.jd s.heap) s.heap X.env.locals):=λ p hp=>let ⟨a,_,c⟩:=jA hp;⟨keep1 _ _ c,a,no _⟩;have hD:(h1.push {cls:=.type "list",data:=.seq vs.toArray}).get? h1.objs.size=My (listOf vs.toArray 0):=aE _ rfl;have hneD:∀ p∈lg (Att.jd s.heap) s.heap X.env.locals,p.1≠h1.objs.size:=λ p hp=>let ⟨_,_,c⟩:=jA hp;aM (ar (hk _ _ c));have fin:∀ (l:List Nat) h2 c tk2,l.Perm (Tc es.size)->(l.map λ i=>k3.getD i (0,0)).Pairwise (λ a b=>pLt b a=Ta)->Fr (Att.jd s.heap) X.env.locals h2 m->News (Att.jd s.heap) X.env.locals h2 ((h1.objs.size,listOf (List.toArray (l.map λ i=>vs.getD i Value.none)) c)::lg (Att.jd s.heap) s.heap X.env.locals) ->
   EP X pins σ Q (.ref h1.objs.size) {s with heap:=h2,toks:=tk2}:=λ l h2 c tk2 hlp hso F2 N2=>by
  have I2:Inv X pins σ H {s with heap:=h2,toks:=tk2}:=I.pE hm F2 λ p hp=>N2 p (ax _ hp);have hn:H h1.objs.size=SY:=by
   cases e:H h1.objs.size with
   | none=>rfl
   | some o =>obtain⟨o',ho'⟩:=tf (I.hok _ _ e);exact absurd (ar (hk _ _ ho')) (aW _)
  have hlt:∀ i∈l,i<es.size:=λ i hi=>aC.mp (hlp.mem_iff.mp hi);let bo:Nat->Addr:=λ i=>match vs[i]? with | some (.ref b)=>b | _=>0
  have hbo:∀ i,i<es.size->vs.getD i Value.none=.ref (bo i)/\H (bo i)=My (.tup [.int (k3.getD i (0,0)).1,.int (k3.getD i (0,0)).2]):=λ i hi=>by
   obtain⟨b,b1,b2⟩:=at_j i hi;have:bo i=b:=by show(match vs[i]? with | some (.ref b)=>b | _=>0)=b;rw[b1]
   rw[this,aG,b1];exact⟨rfl,b2⟩
  have new:jx X.prog X.w (upd H h1.objs.size (.lst (l.map λ i=>V.ref (bo i)))) h2 h1.objs.size (.lst (l.map λ i=>V.ref (bo i))) :=
   ⟨by rw[af,hlp.length_eq,bE,sizeLine_eq];lia,l.map λ i=>vs.getD i Value.none,c,lE l λ i hi=>(hbo i (hlt i hi)).1,(N2 _ av).1⟩
  have I3:Inv X pins σ (upd H h1.objs.size (.lst (l.map λ i=>V.ref (bo i)))) {s with heap:=h2,toks:=tk2}:=I2.zu hn (bC I.ok.above (d_ hL)) (bM hL) (λ x c e z=>by
    obtain⟨v,o,ho,_⟩:=I.cell x c e;exact absurd (ar (hk _ _ ho)) (by rw[z];exact aW _)) (λ p hp z=>by
    exact absurd (ar (hk _ _ (I.pin p hp).1)) (by rw[z];exact aW _)) new
  have perm2:(l.map λ i=>k3.getD i (0,0)).Perm kk:=by have:=hlp.map λ i=>k3.getD i (0,0);rw[<-hk3,jP]at this;exact this.trans pk.symm
  have ndl:(l.map λ i=>k3.getD i (0,0)).Nodup:=perm2.nodup_iff.mpr ndk;refine⟨.ref h1.objs.size,_,I3,rfl,q _ _ (l.map λ i=>k3.getD i (0,0)) hn ?_ ?_ perm2⟩
  ·rw[aP];exact lE l λ i hi=>⟨bo i,rfl,(hbo i (hlt i hi)).2⟩
  ·rw[aI]at ndl
   refine(hso.and ndl).imp λ{a b} ⟨h1,h2⟩=>?_;cases e:pLt a b with
   | true=>rfl
   | false=>exact absurd (Tb.PO.total a b e h1) h2
 refine ae (bJ ?_);by_cases h2:2<=vs.length
 ·refine rZ (X:=λ i=>k3.getD i (0,0)) F1 (λ p hp=>?_) hneD h2 (by lia) (λ h' F' N' i v hv=>?_) λ p h' c P So F2 N2=>ag ⟨_,rfl,?_⟩
  ·rcases aB.mp hp with rfl | hp
   ·exact⟨hD,bM hL,no _⟩
   ·exact N1 p hp
  ·have hi:i<es.size:=by
    have:=(aQ.mp hv).1;lia
   obtain⟨b,b1,b2⟩:=at_j i hi;rw[hv]at b1;cases b1;refine⟨b,rfl,?_⟩;have I2:Inv X pins σ H {s with heap:=h',toks:=s.toks}:=I.pE hm F' N';exact Eu I2.hok (k:=[_,_]) b2
  ·rw[hal]at P So
   refine fin p.toList h' c _ P.2 ?_ F2 N2;rw[bq,bQ];intro i j hi hj hij;have hjs:j<es.size:=by have:=P.size;simp at hj;lia
   have:=So i j (by lia) hjs;unfold KeyOrd.kle Kp at this;have gi:p.getD i 0=p.toList[i]:=by simp[Array.getD,show i<p.size by simpa using hi]
   have gj:p.getD j 0=p.toList[j]:=by simp[Array.getD,show j<p.size by simpa using hj]
   rw[gi,gj]at this;exact this
 ·refine r_ hD (by lia) λ h' c kp hc'=>ag ⟨_,rfl,?_⟩
  refine fin (Tc es.size) h' c _ (.refl _) ?_ ⟨F1.ns.at' λ o e=>kp _ o (aM hL) e,(λ b o e=>by rw[no]at e;cases e),aN _⟩ λ p hp=>?_
  ·have:((Tc es.size).map λ i=>k3.getD i (0,0)).length<2:=by simp;lia
   match (Tc es.size).map (λ i=>k3.getD i (0,0)),this with
   | [],_=>exact .nil
   | [a],_=>exact dU _ _
  ·rcases aB.mp hp with rfl | hp
   ·refine⟨?_,bM hL,no _⟩;rw[<-hal,jP];exact hc'
   ·exact⟨kp _ _ (hneD p hp) (N1 p hp).1,(N1 p hp).2⟩
end
end L2
namespace L2
open PySem PySem.Spec PyProof.Rows
inductive Dt where
 | non | bl (b:Bool) | int (i:Int) | str (x:Str) | ty (n:String) | opq (v:V) | dct (kvs:List (Int×Int)) | tup (ds:List Dt) | lst (ds:List Dt)
def kvD (kvs:List (Int×Int)):List (Key×V):=kvs.map λ p=>(Sum.inl p.1,V.int p.2)
mutual
inductive Is (K:gG) (H:Hp):V->Dt->Prop
 | non:Is K H .non .non
 | bl (b:Bool):Is K H (.bl b) (.bl b)
 | int (i:Int):Is K H (.int i) (.int i)
 | str (x:Str):Is K H (.str x) (.str x)
 | ty (n:String):Is K H (.ty n) (.ty n)
 | opq (v:V):Is K H v (.opq v)
 | dct {a:Addr} {kvs:List (Int×Int)}:Rd H a (.dK (kvD kvs))->Is K H (.ref a) (.dct kvs)
 | tup {a:Addr} {xs:List V} {ds:List Dt}:SqT K H a xs->Iss K H xs ds->Is K H (.ref a) (.tup ds)
 | lst {a:Addr} {xs:List V} {ds:List Dt}:H a=My (.lst xs)->Iss K H xs ds->Is K H (.ref a) (.lst ds)
inductive Iss (K:gG) (H:Hp):List V->List Dt->Prop
 | nil:Iss K H [] []
 | cons {x:V} {xs:List V} {d:Dt} {ds:List Dt}:Is K H x d->Iss K H xs ds->Iss K H (x::xs) (d::ds)
end
section
variable {K:gG}{H H':Hp}
theorem Is.mono (ht:∀ a xs,SqT K H a xs->SqT K H' a xs)(hl:∀ a xs,H a=My (.lst xs)->H' a=My (.lst xs))(hd:∀ a u,Rd H a u->Rd H' a u){v:V}{d:Dt}(h:Is K H v d):Is K H' v d :=
 Is.rec (motive_1:=λ v d _=>Is K H' v d) (motive_2:=λ v d _=>Iss K H' v d) .non .bl .int .str .ty .opq (λ h=>.dct (hd _ _ h)) (λ h _ i=>.tup (ht _ _ h) i) (λ h _ i=>.lst (hl _ _ h) i) .nil (λ _ _ i j=>.cons i j) h
theorem Iss.mono (ht:∀ a xs,SqT K H a xs->SqT K H' a xs)(hl:∀ a xs,H a=My (.lst xs)->H' a=My (.lst xs))(hd:∀ a u,Rd H a u->Rd H' a u){v:List V}{d:List Dt}(h:Iss K H v d):Iss K H' v d :=
 Iss.rec (motive_1:=λ v d _=>Is K H' v d) (motive_2:=λ v d _=>Iss K H' v d) .non .bl .int .str .ty .opq (λ h=>.dct (hd _ _ h)) (λ h _ i=>.tup (ht _ _ h) i) (λ h _ i=>.lst (hl _ _ h) i) .nil (λ _ _ i j=>.cons i j) h
theorem gY.uM {a:Addr}{xs:List V}(e:gY H H')(h:SqT K H a xs):SqT K H' a xs:=by
 rcases h with (h | ⟨o,h⟩) | h
 ·exact .inl (.inl (e _ _ h))
 ·exact .inl (.inr ⟨o,e _ _ h⟩)
 ·exact .inr h
theorem gY.rd {a:Addr}{u:HO}(e:gY H H')(h:Rd H a u):Rd H' a u:=h.elim (λ h=>.inl (e _ _ h)) λ⟨o,h⟩=>.inr ⟨o,e _ _ h⟩
theorem Is.ext (e:gY H H'){v:V}{d:Dt}(h:Is K H v d):Is K H' v d:=h.mono (λ _ _=>e.uM) (λ _ _ h=>e _ _ h) (λ _ _=>e.rd)
theorem Iss.ext (e:gY H H'){v:List V}{d:List Dt}(h:Iss K H v d):Iss K H' v d:=h.mono (λ _ _=>e.uM) (λ _ _ h=>e _ _ h) (λ _ _=>e.rd)
theorem gY.upd {p:Addr}{o:HO}(h:H p=SY):gY H (upd H p o):=λ b u e=>by rw[g6 (ir e h)];exact e
structure kc (H H':Hp):Prop where
 ql:∀ b xs,H b=My (.tup xs)->H' b=My (.tup xs)
 qm:∀ b o u,H b=My (.frz o u)->H' b=My (.frz o u)
theorem kc.refl:kc H H:=⟨λ _ _ h=>h,λ _ _ _ h=>h⟩
theorem kc.trans {H1 H2:Hp}(a:kc H H1)(b:kc H1 H2):kc H H2:=⟨λ c xs h=>b.ql c xs (a.ql c xs h),λ c o u h=>b.qm c o u (a.qm c o u h)⟩
theorem gY.text (e:gY H H'):kc H H':=⟨λ b xs h=>e b _ h,λ b o u h=>e b _ h⟩
theorem kc.upd {p:Addr}{o:HO}(mu:Mut (H p)):kc H (upd H p o):=⟨λ b xs e=>by
  rw[g6 (λ z=>by subst z;rw[e]at mu;exact mu)];exact e,λ b o u e=>by
  rw[g6 (λ z=>by subst z;rw[e]at mu;exact mu)];exact e⟩
theorem kc.uM {a:Addr}{xs:List V}(e:kc H H')(h:SqT K H a xs):SqT K H' a xs:=by
 rcases h with (h | ⟨o,h⟩) | h
 ·exact .inl (.inl (e.ql _ _ h))
 ·exact .inl (.inr ⟨o,e.qm _ _ _ h⟩)
 ·exact .inr h
mutual
inductive Imm:Dt->Prop
 | non:Imm .non
 | bl (b:Bool):Imm (.bl b)
 | int (i:Int):Imm (.int i)
 | str (x:Str):Imm (.str x)
 | ty (n:String):Imm (.ty n)
 | opq (v:V):Imm (.opq v)
 | tup {ds:List Dt}:rL ds->Imm (.tup ds)
inductive rL:List Dt->Prop
 | nil:rL []
 | cons {d:Dt} {ds:List Dt}:Imm d->rL ds->rL (d::ds)
end
theorem Imm.ik {ds:List Dt}(h:Imm (.tup ds)):rL ds:=by cases h;assumption
theorem Imm.lst_inv {ds:List Dt}(h:Imm (.lst ds)):False:=by cases h
theorem Imm.nX {ds:List (Int×Int)}(h:Imm (.dct ds)):False:=by cases h
theorem rL.inv {d:Dt}{ds:List Dt}(h:rL (d::ds)):Imm d/\rL ds:=by cases h;exact⟨by assumption,by assumption⟩
theorem Is.text (e:kc H H'){v:V}{d:Dt}(h:Is K H v d):Imm d->Is K H' v d :=
 Is.rec (motive_1:=λ v d _=>Imm d->Is K H' v d) (motive_2:=λ v d _=>rL d->Iss K H' v d) (λ _=>.non) (λ b _=>.bl b) (λ b _=>.int b) (λ b _=>.str b) (λ b _=>.ty b) (λ b _=>.opq b) (λ _ m=>m.nX.elim) (λ h _ i m=>.tup (e.uM h) (i m.ik)) (λ _ _ _ m=>m.lst_inv.elim) (λ _=>.nil) (λ _ _ i j m=>.cons (i m.inv.1) (j m.inv.2)) h
theorem Iss.text (e:kc H H'){v:List V}{d:List Dt}(h:Iss K H v d):rL d->Iss K H' v d :=
 Iss.rec (motive_1:=λ v d _=>Imm d->Is K H' v d) (motive_2:=λ v d _=>rL d->Iss K H' v d) (λ _=>.non) (λ b _=>.bl b) (λ b _=>.int b) (λ b _=>.str b) (λ b _=>.ty b) (λ b _=>.opq b) (λ _ m=>m.nX.elim) (λ h _ i m=>.tup (e.uM h) (i m.ik)) (λ _ _ _ m=>m.lst_inv.elim) (λ _=>.nil) (λ _ _ i j m=>.cons (i m.inv.1) (j m.inv.2)) h
theorem rL.of {ds:List Dt}(h:∀ d∈ds,Imm d):rL ds:=by
 induction ds with
 | nil=>exact .nil
 | cons d r ih=>exact .cons (h d av) (ih λ x hx=>h x (ax _ hx))
theorem Iss.length {vs:List V}{ds:List Dt}(h:Iss K H vs ds):vs.length=ds.length:=by
 induction ds generalizing vs with
 | nil=>cases h;rfl
 | cons d r ih=>cases h with | cons h1 h2=>simp[ih h2]
theorem Iss.get {vs:List V}{ds:List Dt}(h:Iss K H vs ds){i:Nat}{d:Dt}(e:ds[i]?=My d):∃ v,vs[i]?=My v/\Is K H v d:=by
 induction ds generalizing vs i with
 | nil=>simp at e
 | cons c r ih =>
  cases h with
  | cons h1 h2 =>
   cases i with
   | zero=>simp at e;subst e;exact⟨_,rfl,h1⟩
   | succ i=>obtain⟨v,a,b⟩:=ih h2 (i:=i) (by simpa using e);exact⟨v,by simpa using a,b⟩
theorem Iss.append {vs ws:List V}{ds es:List Dt}(h:Iss K H vs ds)(h':Iss K H ws es):Iss K H (vs++ws) (ds++es):=by
 induction ds generalizing vs with
 | nil=>cases h;exact h'
 | cons d r ih=>cases h with | cons h1 h2=>exact .cons h1 (ih h2)
theorem Iss.snoc {vs:List V}{ds:List Dt}{v:V}{d:Dt}(h:Iss K H vs ds)(h':Is K H v d):Iss K H (vs++[v]) (ds++[d]):=h.append (.cons h' .nil)
theorem Iss.ints {vs:List V}:∀ {ns:List Int},Iss K H vs (ns.map .int)->vs=ns.map V.int:=by
 intro ns h;induction ns generalizing vs with
 | nil=>cases h;rfl
 | cons d r ih=>cases h with | cons h1 h2=>cases h1;rw[ih h2];rfl
theorem Iss.tj (ns:List Int):Iss K H (ns.map V.int) (ns.map .int):=by
 induction ns with
 | nil=>exact .nil
 | cons d r ih=>exact .cons (.int d) ih
end
abbrev DE:=List (gF Dt)
structure Sat (K:gG)(H:Hp)(σ:St)(δ:DE):Prop where
 len:σ.length=δ.length
 at_:∀ (i:Nat) (d:Dt),δ[i]?=My (My d)->∃ v,σ[i]?=My (My v)/\Is K H v d
section
variable {K:gG}{H H':Hp}{σ:St}{δ:DE}
theorem Sat.ext (e:gY H H')(h:Sat K H σ δ):Sat K H' σ δ:=⟨h.len,λ i d q=>let ⟨v,a,b⟩:=h.at_ i d q;⟨v,a,b.ext e⟩⟩
theorem Sat.set {i:Nat}{v:V}{d:Dt}(h:Sat K H σ δ)(q:Is K H v d):Sat K H (σ.set i (My v)) (δ.set i (My d)):=by
 refine⟨by simp[h.len],λ j e hj=>?_⟩;by_cases hij:i=j
 ·subst hij
  by_cases hi:i<δ.length
  ·rw[cg hi]at hj;cases hj;exact⟨v,by rw[cg (by rw[h.len];exact hi)],q⟩
  ·rw[bY (by simp;lia)]at hj;cases hj
 ·rw[cf hij]at hj;rw[cf hij];exact h.at_ j e hj
theorem Sat.comp {own:List Str}{ix:List Nat}(h:Sat K H σ δ):Sat K H (ko own ix σ) (own.map (λ _=>SY)++ix.map λ i=>(δ[i]?).getD SY):=by
 refine⟨by simp[ko],λ j e hj=>?_⟩;have hl:own.length<=j:=by
  refine fi λ hlt=>?_;rw[bP (by simpa using hlt),aK]at hj;cases q:own[j]? with
  | none=>rw[q]at hj;cases hj
  | some a=>rw[q]at hj;cases hj
 unfold ko;rw[bL (by simpa using hl),aK,af]at hj ⊢;cases q:ix[j-own.length]? with
 | none=>rw[q]at hj;cases hj
 | some i =>
  rw[q]at hj;have hj:(δ[i]?).getD SY=My e:=ao hj;have:δ[i]?=My (My e):=by
   cases r:δ[i]? with
   | none=>rw[r]at hj;cases hj
   | some w=>rw[r]at hj;exact cK My hj
  obtain⟨v,a,b⟩:=h.at_ i e this;exact⟨v,by rw[fC,a];rfl,b⟩
theorem Iss.start {N:List Str}{vs:List V}{ds:List Dt}(h:Iss K H vs ds):Sat K H (start N vs) (ds.map My++Td (N.length-ds.length) SY):=by
 refine⟨by simp[L2.start,h.length],λ j e hj=>?_⟩;unfold L2.start;by_cases hlt:j<ds.length
 ·rw[bP (by simpa using hlt),aK]at hj
  obtain⟨v,a,b⟩:=h.get (i:=j) (d:=e) (by
   cases q:ds[j]? with
   | none=>rw[q]at hj;cases hj
   | some w=>rw[q]at hj;cases hj;rfl)
  exact⟨v,by rw[bP (by rw[af,h.length];exact hlt),aK,a];rfl,b⟩
 ·rw[bL (by simpa using fi hlt),List.getElem?_replicate]at hj;split at hj<;>cases hj
end
def tD (K:gG)(g:DE->gF Dt):TE:=λ σ H Q=>∃ δ d,Sat K H σ δ/\g δ=My d/\∀ v H',gY H H'->Is K H' v d->Q v H'
def tDT (K:gG)(g:DE->gF Bool):TT:=λ σ H Q=>∃ δ b,Sat K H σ δ/\g δ=My b/\∀ H',gY H H'->Q b H'
def tDs (K:gG)(g:DE->gF (List Dt)):TA:=λ σ H Q=>∃ δ ds,Sat K H σ δ/\g δ=My ds/\∀ vs H',gY H H'->Iss K H' vs ds->Q vs H'
def rD (K:gG)(f:Dt->Dt->gF Dt):R2:=λ x y H Q=>∃ dx dy d,Is K H x dx/\Is K H y dy/\f dx dy=My d/\∀ v H',gY H H'->Is K H' v d->Q v H'
def cD (K:gG)(f:List Dt->gF Dt):List V->Hp->VK->Prop:=λ xs H Q=>∃ ds d,Iss K H xs ds/\f ds=My d/\∀ v H',gY H H'->Is K H' v d->Q v H'
def spD (K:gG)(n:Nat)(f:List Dt->gF Dt):Sp:=λ xs H Q _=>∃ ds d,ds.length=n/\Iss K H xs ds/\f ds=My d/\∀ v H',gY H H'->Is K H' v d->Q v H'
def gR (i:Nat):DE->gF Dt:=λ δ=>(δ[i]?).join
def gC (d:Dt):DE->gF Dt:=λ _=>My d
def g_ (f:Dt->Dt->gF Dt)(a b:DE->gF Dt):DE->gF Dt:=λ δ=>(a δ).bind λ x=>(b δ).bind λ y=>f x y
def gS:DE->gF (List Dt):=λ _=>My []
section
variable {X:Cx}{e a b c:Expr}{es:List Expr}{pos:Pos}
theorem PE.of {t t':TE}(h:PE X e t)(w:∀ σ H Q,t' σ H Q->t σ H Q):PE X e t':=λ pins s σ H Q I q=>h pins s σ H Q I (w σ H Q q)
theorem PT.of {t t':TT}(h:PT X e t)(w:∀ σ H Q,t' σ H Q->t σ H Q):PT X e t':=λ pins s σ H Q I q=>h pins s σ H Q I (w σ H Q q)
theorem PW.of {t t':TT}(h:PW X e t)(w:∀ σ H Q,t' σ H Q->t σ H Q):PW X e t':=λ wh pins s σ H Q I q=>h wh pins s σ H Q I (w σ H Q q)
theorem PA.of {t t':TA}(h:PA X es t)(w:∀ σ H Q,t' σ H Q->t σ H Q):PA X es t':=λ p pins s σ H Q I q=>h p pins s σ H Q I (w σ H Q q)
theorem PS.of {st:Stmt}{t t':TS}(h:PS X st t)(w:∀ D σ H,t' D σ H->t D σ H):PS X st t':=λ pins s σ H D I q=>h pins s σ H D I (w D σ H q)
theorem PSs.of {st:List Stmt}{t t':TS}(h:PSs X st t)(w:∀ D σ H,t' D σ H->t D σ H):PSs X st t':=λ pins s σ H D I q=>h pins s σ H D I (w D σ H q)
abbrev PD (X:Cx)(e:Expr)(g:DE->gF Dt):Prop:=PE X e (tD X.K g)
abbrev PDT (X:Cx)(e:Expr)(g:DE->gF Bool):Prop:=PT X e (tDT X.K g)
abbrev PDW (X:Cx)(e:Expr)(g:DE->gF Bool):Prop:=PW X e (tDT X.K g)
abbrev PDs (X:Cx)(es:List Expr)(g:DE->gF (List Dt)):Prop:=PA X es (tDs X.K g)
theorem Hl {i:Nat}{δ:DE}{d:Dt}(h:gR i δ=My d):δ[i]?=My (My d):=by
 unfold gR at h;cases q:δ[i]? with
 | none=>rw[q]at h;cases h
 | some w=>rw[q]at h;exact cK My h
theorem dv (i:Nat){x:Str}(hN:X.N[i]?=My x:=by rfl)(hv:Vis X.env.scope x:=by trivial)(hd:(x==("__debug__":Str))=Ta:=by decide)
  (hcd:(x==("__classdict__":Str))=Ta:=by decide):PD X (.Name x pos) (gR i) :=
 (GA hN hv hd hcd).of λ σ H Q hz1=>by obtain⟨δ,d,S,e,q⟩:=hz1;obtain⟨v,h1,h2⟩:=S.at_ i d (Hl e);exact⟨v,h1,q v H (gY.refl H) h2⟩
theorem hW {i:Int}{j}:PD X (.Constant (.int i) j pos) (gC (.int i)):=hJ.of λ σ H Q ⟨δ,d,S,e,q⟩=>by cases e;exact q _ H (gY.refl H) (.int i)
theorem se {i:Bool}{j}:PD X (.Constant (.bool i) j pos) (gC (.bl i)):=Bk.of λ σ H Q ⟨δ,d,S,e,q⟩=>by cases e;exact q _ H (gY.refl H) (.bl i)
theorem O8 {j}:PD X (.Constant .none j pos) (gC .non):=zW.of λ σ H Q ⟨δ,d,S,e,q⟩=>by cases e;exact q _ H (gY.refl H) .non
theorem nY {x:Str}{j}:PD X (.Constant (.str x) j pos) (gC (.str x)):=CO.of λ σ H Q ⟨δ,d,S,e,q⟩=>by cases e;exact q _ H (gY.refl H) (.str x)
theorem MY {x:Str}{u:gH}{v:V}{d:Dt}(hm:X.mg x=My u)(r:RelV v u)(hI:∀ H,Is X.K H v d)(hg:Gl X x:=by rfl)(hd:(x==("__debug__":Str))=Ta:=by decide):PD X (.Name x pos) (gC d) :=
 (D3 hg hm r hd).of λ σ H Q ⟨δ,d',S,e,q⟩=>by cases e;exact q _ H (gY.refl H) (hI H)
theorem yI {x:Str}{T:String}(hm:X.mg x=SY)(hv:bootBuiltins x=My (.type T))(hg:Gl X x:=by rfl)(hn:x≠"__name__":=by decide)(hd:(x==("__debug__":Str))=Ta:=by decide):PD X (.Name x pos) (gC (.ty T)) :=
 (D4 (v:=.ty T) hg hm hv rfl hn hd).of λ σ H Q ⟨δ,d',S,e,q⟩=>by cases e;exact q _ H (gY.refl H) (.ty T)
theorem tm {f:Dt->Dt->gF Dt}{ga gb:DE->gF Dt}{δ:DE}{d:Dt}(h:g_ f ga gb δ=My d):∃ x y,ga δ=My x/\gb δ=My y/\f x y=My d:=by
 unfold g_ at h;cases p:ga δ with
 | none=>rw[p]at h;cases h
 | some x =>
  rw[p]at h;cases q:gb δ with
  | none=>rw[aq,q]at h;cases h
  | some y=>rw[aq,q,aq]at h;exact⟨x,y,rfl,rfl,h⟩
theorem Ar {K:gG}{f:Dt->Dt->gF Dt}{ga gb:DE->gF Dt}(σ:St)(H:Hp)(Q:VK)(h:tD K (g_ f ga gb) σ H Q):tOp (rD K f) (tD K ga) (tD K gb) σ H Q:=by obtain⟨δ,d,S,e,q⟩:=h;obtain⟨x,y,e1,e2,e3⟩:=tm e;refine⟨δ,x,S,e1,λ v H1 s1 i1=>⟨δ,y,S.ext s1,e2,λ w H2 s2 i2=>⟨x,y,d,i1.ext s2,i2,e3,λ u H3 s3 i3=>q u H3 ((s1.trans s2).trans s3) i3⟩⟩⟩
theorem jQ {op:Operator}{f:Dt->Dt->gF Dt}{ga gb:DE->gF Dt}(ho:OpR X (binaryOp op) (rD X.K f))(ha:PD X a ga)(hb:PD X b gb):PD X (.BinOp a op b pos) (g_ f ga gb):=(jC ho ha hb).of Ar
theorem vd {op:CmpOp}{f:Dt->Dt->gF Dt}{ga gb:DE->gF Dt}(ho:OpR X (compareOp op) (rD X.K f))(ha:PD X a ga)(hb:PD X b gb)(hm:behindInMarks op b=Ta:=by first | exact wI _ | with_unfolding_all rfl):PD X (.Compare a [op] [b] pos) (g_ f ga gb):=(JA ho ha hb hm).of Ar
def asB:Dt->gF Bool
 | .bl b=>My b
 | _=>SY
theorem tq {d:Dt}{b:Bool}(h:asB d=My b):d=.bl b:=by cases d<;>simp[asB]at h;rw[h]
def gB (g:DE->gF Dt):DE->gF Bool:=λ δ=>(g δ).bind asB
theorem Dp {g:DE->gF Dt}{δ:DE}{b:Bool}(h:gB g δ=My b):g δ=My (.bl b):=by
 unfold gB at h;cases p:g δ with
 | none=>rw[p]at h;cases h
 | some x=>rw[p]at h;rw[tq h]
theorem Is.jR {K:gG}{H:Hp}{v:V}{b:Bool}(h:Is K H v (.bl b)):v=.bl b:=by cases h;rfl
theorem Is.int_inv {K:gG}{H:Hp}{v:V}{b:Int}(h:Is K H v (.int b)):v=.int b:=by cases h;rfl
theorem Is.str_inv {K:gG}{H:Hp}{v:V}{b:Str}(h:Is K H v (.str b)):v=.str b:=by cases h;rfl
theorem Is.mj {K:gG}{H:Hp}{v:V}{b:V}(h:Is K H v (.opq b)):v=b:=by cases h;rfl
theorem Is.Hm {K:gG}{H:Hp}{v:V}{b:String}(h:Is K H v (.ty b)):v=.ty b:=by cases h;rfl
theorem Is.pG {K:gG}{H:Hp}{v:V}(h:Is K H v .non):v=.non:=by cases h;rfl
theorem Is.ik {K:gG}{H:Hp}{v:V}{ds:List Dt}(h:Is K H v (.tup ds)):∃ a xs,v=.ref a/\SqT K H a xs/\Iss K H xs ds:=by cases h;exact⟨_,_,rfl,by assumption,by assumption⟩
theorem Is.nX {K:gG}{H:Hp}{v:V}{ds:List (Int×Int)}(h:Is K H v (.dct ds)):∃ a,v=.ref a/\Rd H a (.dK (kvD ds)):=by cases h;exact⟨_,rfl,by assumption⟩
theorem Is.lst_inv {K:gG}{H:Hp}{v:V}{ds:List Dt}(h:Is K H v (.lst ds)):∃ a xs,v=.ref a/\H a=My (.lst xs)/\Iss K H xs ds:=by cases h;exact⟨_,_,rfl,by assumption,by assumption⟩
theorem LQ {K:gG}{g:DE->gF Dt}(σ:St)(H:Hp)(Q:Bool->Hp->Prop)(h:tDT K (gB g) σ H Q):tD K g σ H λ x H'=>∃ k,x=.bl k/\Q k H':=by obtain⟨δ,b,S,e,q⟩:=h;exact⟨δ,_,S,Dp e,λ v H1 s1 i1=>⟨b,i1.jR,q H1 s1⟩⟩
theorem jg {op:CmpOp}{f:Dt->Dt->gF Dt}{ga gb:DE->gF Dt}(ho:OpR X (compareOp op) (rD X.K f))(ha:PD X a ga)(hb:PD X b gb)(hm:behindInMarks op b=Ta:=by first | exact wI _ | with_unfolding_all rfl):PDT X (.Compare a [op] [b] pos) (gB (g_ f ga gb)) :=
 (vX ho ha hb hm).of λ σ H Q h=>Ar σ H _ (LQ σ H Q h)
def sf (f f':Dt->Dt->gF Dt)(ga gb gc:DE->gF Dt):DE->gF Dt:=λ δ=>(ga δ).bind λ x=>(gb δ).bind λ y=>(f x y).bind λ z=>(asB z).bind λ k=>if k=S_ then (gc δ).bind λ w=>f' y w else My (.bl Ta)
theorem gP {α β:Type}{o:gF α}{f:α->gF β}{b:β}(h:o.bind f=My b):∃ a,o=My a/\f a=My b:=by
 cases o with
 | none=>cases h
 | some a=>exact⟨a,rfl,h⟩
theorem BD {K:gG}{f f':Dt->Dt->gF Dt}{ga gb gc:DE->gF Dt}(σ:St)(H:Hp)(Q:VK)(h:tD K (sf f f' ga gb gc) σ H Q):CY (rD K f) (rD K f') (tD K ga) (tD K gb) (tD K gc) σ H Q:=by
 obtain⟨δ,d,S,e,q⟩:=h;obtain⟨x,e1,e⟩:=gP e;obtain⟨y,e2,e⟩:=gP e;obtain⟨z,e3,e⟩:=gP e;obtain⟨k,e4,e⟩:=gP e;have e4:=tq e4;subst e4;refine⟨δ,x,S,e1,λ v H1 s1 i1=>⟨δ,y,S.ext s1,e2,λ w H2 s2 i2=>⟨x,y,_,i1.ext s2,i2,e3,λ u H3 s3 i3=>⟨k,i3.jR,?_⟩⟩⟩⟩;cases k with
 | true =>obtain⟨w',e5,e6⟩:=gP (show(gc δ).bind _=_ from e);rw[ai rfl];exact⟨δ,w',S.ext ((s1.trans s2).trans s3),e5,λ u' H4 s4 i4=>⟨y,w',d,(i2.ext s3).ext s4,i4,e6,λ u5 H5 s5 i5=>q u5 H5 ((((s1.trans s2).trans s3).trans s4).trans s5) i5⟩⟩
 | false =>rw[ak aw];cases (show My (Dt.bl Ta)=My d from e);exact q _ H3 ((s1.trans s2).trans s3) (.bl Ta)
theorem JV {op op':CmpOp}{f f':Dt->Dt->gF Dt}{ga gb gc:DE->gF Dt}(ho:OpR X (compareOp op) (rD X.K f))(ho':OpR X (compareOp op') (rD X.K f'))(ha:PD X a ga)(hb:PD X b gb)(hc:PD X c gc)
  (hm:lastMarks [op,op'] [b,c]=Ta:=by with_unfolding_all rfl):PD X (.Compare a [op,op'] [b,c] pos) (sf f f' ga gb gc):=(GI ho ho' ha hb hc hm).of BD
theorem BE {op op':CmpOp}{f f':Dt->Dt->gF Dt}{ga gb gc:DE->gF Dt}(ho:OpR X (compareOp op) (rD X.K f))(ho':OpR X (compareOp op') (rD X.K f'))(ha:PD X a ga)(hb:PD X b gb)(hc:PD X c gc)
  (hm:lastMarks [op,op'] [b,c]=Ta:=by with_unfolding_all rfl):PDT X (.Compare a [op,op'] [b,c] pos) (gB (sf f f' ga gb gc)):=(GJ ho ho' ha hb hc hm).of λ σ H Q h=>BD σ H _ (LQ σ H Q h)
def BF (ga gb:DE->gF Dt):DE->gF Dt:=λ δ=>(gB ga δ).bind λ k=>if k=S_ then gb δ else My (.bl Ta)
def MZ (ga:DE->gF Dt):DE->gF Dt:=λ δ=>(gB ga δ).map λ k=>.bl (!k)
theorem zv {op}{g:DE->gF Dt}(h:PD X a g):PD X (.BoolOp op [a] pos) g:=Ms h
theorem xi {rest:List Expr}{ga gb:DE->gF Dt}(ha:PD X a ga)(hb:PD X (.BoolOp .And (b::rest) pos) gb):PD X (.BoolOp .And (a::b::rest) pos) (BF ga gb) :=
 (Mt ha hb).of λ σ H Q hz2=>by
  obtain⟨δ,d,S,e,q⟩:=hz2;obtain⟨k,e1,e⟩:=gP e;refine⟨δ,_,S,Dp e1,λ v H1 s1 i1=>⟨k,i1.jR,?_⟩⟩;cases k with
  | true=>rw[ai rfl]at e ⊢;exact⟨δ,d,S.ext s1,e,λ u H2 s2 i2=>q u H2 (s1.trans s2) i2⟩
  | false=>rw[ak aw]at e ⊢;cases e;exact q _ H1 s1 (.bl Ta)
theorem il {α β:Type}{o:gF α}{f:α->β}{b:β}(h:o.map f=My b):∃ a,o=My a/\f a=b:=by
 cases o with
 | none=>cases h
 | some a=>exact⟨a,rfl,ao h⟩
theorem LR {ga:DE->gF Dt}(ha:PD X a ga):PD X (.UnaryOp .Not a pos) (MZ ga) :=
 (Mu ha).of λ σ H Q hz4=>by obtain⟨δ,d,S,e,q⟩:=hz4;obtain⟨k,e1,e⟩:=il e;subst e;exact⟨δ,_,S,Dp e1,λ v H1 s1 i1=>⟨k,i1.jR,q _ H1 s1 (.bl _)⟩⟩
def sg (ga gb:DE->gF Bool):DE->gF Bool:=λ δ=>(ga δ).bind λ k=>if k=S_ then My S_ else gb δ
def kC (ga:DE->gF Bool):DE->gF Bool:=λ δ=>(ga δ).map (!·)
theorem jW {ga:DE->gF Bool}(ha:PDT X a ga):PDT X (.UnaryOp .Not a pos) (kC ga) :=
 (CP ha).of λ σ H Q hz5=>by obtain⟨δ,d,S,e,q⟩:=hz5;obtain⟨k,e1,e⟩:=il e;subst e;exact⟨δ,_,S,e1,λ H1 s1=>q H1 s1⟩
theorem pH {ga:DE->gF Bool}(ha:PDT X a ga):PDW X (.BoolOp .Or [a] pos) ga:=GB ha
theorem qf {rest:List Expr}{ga gb:DE->gF Bool}(ha:PDT X a ga)(hb:PDW X (.BoolOp .Or (b::rest) pos) gb):PDW X (.BoolOp .Or (a::b::rest) pos) (sg ga gb) :=
 (Lz ha hb).of λ σ H Q hz7=>by
  obtain⟨δ,d,S,e,q⟩:=hz7;obtain⟨k,e1,e⟩:=gP e;refine⟨δ,_,S,e1,λ H1 s1=>?_⟩;cases k with
  | false=>rw[ak aw]at e ⊢;exact⟨δ,d,S.ext s1,e,λ H2 s2=>q H2 (s1.trans s2)⟩
  | true=>rw[ai rfl]at e ⊢;cases e;exact q H1 s1
theorem As {ga:DE->gF Bool}(h:PDW X a ga):PDT X a ga:=h.pt
def gIf (gc:DE->gF Bool)(ga gb:DE->gF Dt):DE->gF Dt:=λ δ=>(gc δ).bind λ k=>if k=S_ then ga δ else gb δ
theorem Q9 {gc:DE->gF Bool}{ga gb:DE->gF Dt}(hc:PDT X c gc)(ha:PD X a ga)(hb:PD X b gb):PD X (.IfExp c a b pos) (gIf gc ga gb) :=
 (Bl hc ha hb).of λ σ H Q hz8=>by
  obtain⟨δ,d,S,e,q⟩:=hz8;obtain⟨k,e1,e⟩:=gP e;refine⟨δ,_,S,e1,λ H1 s1=>?_⟩;cases k with
  | true=>rw[ai rfl]at e ⊢;exact⟨δ,d,S.ext s1,e,λ u H2 s2 i2=>q u H2 (s1.trans s2) i2⟩
  | false=>rw[ak aw]at e ⊢;exact⟨δ,d,S.ext s1,e,λ u H2 s2 i2=>q u H2 (s1.trans s2) i2⟩
def FC:Dt->gF Bool
 | .non=>My Ta
 | .bl b=>My b
 | .int i=>My (i != 0)
 | .str x=>if x.length<=1000 then My ((x.length:Int) != 0) else SY
 | .ty _=>SY
 | .opq _=>SY
 | .dct _=>SY
 | .tup ds=>My (!ds.isEmpty)
 | .lst ds=>My (!ds.isEmpty)
theorem rl {n:Nat}(h:n<=1000):n<=sizeLine:=by rw[sizeLine_eq];lia
theorem Iss.isEmpty {K:gG}{H:Hp}{vs:List V}{ds:List Dt}(h:Iss K H vs ds):vs.isEmpty=ds.isEmpty:=by cases h<;>rfl
set_option tactic.hygienic true in
theorem Ew {K:gG}{H:Hp}{v:V}{d:Dt}{k:Bool}(h:Is K H v d)(e:FC d=My k):JB K v H k:=by
 cases h with
 | non=>cases e;rfl
 | bl b=>cases e;rfl
 | int b=>cases e;rfl
 | ty n=>cases e
 | opq n=>cases e
 | dct h=>cases e
 | str x =>
  have e:(if x.length<=1000 then My ((x.length:Int) != 0) else SY)=My k:=e;split at e
  ·rename_i h;cases e;exact⟨rl h,rfl⟩
  ·cases e
 | tup h1 h2=>cases e;exact .inr (.inl ⟨_,h1,by rw[h2.isEmpty]⟩)
 | lst h1 h2=>cases e;exact .inl ⟨_,SqL.of h1,by rw[h2.isEmpty]⟩
def gTr (g:DE->gF Dt):DE->gF Bool:=λ δ=>(g δ).bind FC
theorem kD {g:DE->gF Dt}(h:PD X e g)(he:∀ whole,isTrue e X.env whole=(do let v<-whole;standAt e.pos;holding [v] (truthy v)):=by intro _;rfl):PDT X e (gTr g) :=
 (wK h he).of λ σ H Q hz9=>by obtain⟨δ,d,S,e,q⟩:=hz9;obtain⟨x,e1,e2⟩:=gP e;exact⟨δ,x,S,e1,λ v H1 s1 i1=>⟨d,Ew i1 e2,q H1 s1⟩⟩
def gN (g:DE->gF Dt)(gs:DE->gF (List Dt)):DE->gF (List Dt):=λ δ=>(g δ).bind λ x=>(gs δ).map λ r=>x::r
theorem gT:PDs X [] gS:=g9.of λ σ H Q ⟨δ,d,S,e,q⟩=>by cases e;exact q [] H (gY.refl H) .nil
theorem gM {g:DE->gF Dt}{gs:DE->gF (List Dt)}(ha:PD X e g)(hr:PDs X es gs)(hs:starEach (e::es) X.env=(Ta,eval e X.env)::starEach es X.env:=by rfl):PDs X (e::es) (gN g gs) :=
 (gQ ha hr hs).of λ σ H Q hz10=>by obtain⟨δ,d,S,e,q⟩:=hz10;obtain⟨x,e1,e⟩:=gP e;obtain⟨r,e2,e⟩:=il e;subst e;exact⟨δ,x,S,e1,λ v H1 s1 i1=>⟨δ,r,S.ext s1,e2,λ vs H2 s2 i2=>q (v::vs) H2 (s1.trans s2) (.cons (i1.ext s2) i2)⟩⟩
def iZ (gs:DE->gF (List Dt)):DE->gF Dt:=λ δ=>(gs δ).bind λ ds=>if ds.length<=1000 then My (.tup ds) else SY
def lX (gs:DE->gF (List Dt)):DE->gF Dt:=λ δ=>(gs δ).bind λ ds=>if ds.length<=1000 then My (.lst ds) else SY
set_option tactic.hygienic true in
theorem ja {gs:DE->gF (List Dt)}{x1}(h:PDs X es gs):PD X (.Tuple es x1 pos) (iZ gs) :=
 (qv h).of λ σ H Q hz11=>by
  obtain⟨δ,d,S,e,q⟩:=hz11;obtain⟨ds,e1,e⟩:=gP e;split at e
  ·cases e;rename_i hl;exact⟨δ,ds,S,e1,λ vs H1 s1 i1=>⟨rl (by rw[i1.length];exact hl),λ p hp=>q _ _ (s1.trans (gY.upd hp)) (.tup (SqT.of gU) (i1.ext (gY.upd hp)))⟩⟩
  ·cases e
set_option tactic.hygienic true in
theorem mz {gs:DE->gF (List Dt)}(h:PDs X es gs):PD X (.List es pos) (lX gs) :=
 (jV h).of λ σ H Q hz12=>by
  obtain⟨δ,d,S,e,q⟩:=hz12;obtain⟨ds,e1,e⟩:=gP e;split at e
  ·cases e;rename_i hl;exact⟨δ,ds,S,e1,λ vs H1 s1 i1=>⟨rl (by rw[i1.length];exact hl),λ p hp=>q _ _ (s1.trans (gY.upd hp)) (.lst gU (i1.ext (gY.upd hp)))⟩⟩
  ·cases e
def iP (f:List Dt->gF Dt)(gs:DE->gF (List Dt)):DE->gF Dt:=λ δ=>(gs δ).bind f
theorem LU {K:gG}{f:List Dt->gF Dt}{gs:DE->gF (List Dt)}(σ:St)(H:Hp)(Q:VK)(h:tD K (iP f gs) σ H Q):tCB (cD K f) (tDs K gs) σ H Q:=by obtain⟨δ,d,S,e,q⟩:=h;obtain⟨ds,e1,e2⟩:=gP e;exact⟨δ,ds,S,e1,λ vs H1 s1 i1=>⟨ds,d,i1,e2,λ v H2 s2 i2=>q v H2 (s1.trans s2) i2⟩⟩
theorem iG {x:Str}{p:Pos}{id:String}{f:List Dt->gF Dt}{gs:DE->gF (List Dt)}(hc:jB X (.builtin id) (cD X.K f))(hm:X.mg x=SY)(hv:bootBuiltins x=My (.builtin id))(ha:PDs X (e::es) gs)(hg:Gl X x:=by rfl)(hn:x≠"__name__":=by decide)(hdb:(x==("__debug__":Str))=Ta:=by decide)
  (he:starEach (e::es) X.env=(Ta,eval e X.env)::starEach es X.env:=by rfl) (hpl:(backTo pos (starEach es X.env)).any (·.1)=Ta:=by rfl):PD X (.Call (.Name x p) (e::es) [] pos) (iP f gs):=(jO hc hg hm hv ha hn hdb he hpl).of LU
theorem mC {x:Str}{p:Pos}{T:String}{f:List Dt->gF Dt}{gs:DE->gF (List Dt)}(hc:jB X (.type T) (cD X.K f))(hm:X.mg x=SY)(hv:bootBuiltins x=My (.type T))(ha:PDs X (e::es) gs)(hg:Gl X x:=by rfl)(hn:x≠"__name__":=by decide)(hdb:(x==("__debug__":Str))=Ta:=by decide)
  (he:starEach (e::es) X.env=(Ta,eval e X.env)::starEach es X.env:=by rfl) (hpl:(backTo pos (starEach es X.env)).any (·.1)=Ta:=by rfl):PD X (.Call (.Name x p) (e::es) [] pos) (iP f gs):=(kK hc hg hm hv ha hn hdb he hpl).of LU
def hZ (n:Nat)(f:List Dt->gF Dt)(gs:DE->gF (List Dt)):DE->gF Dt:=λ δ=>(gs δ).bind λ ds=>if ds.length=n then f ds else SY
set_option tactic.hygienic true in
theorem M0 {x:Str}{p:Pos}{k n:Nat}{f:Addr}{fd:FuncData}{ps:List Str}{fD:List Dt->gF Dt}{gs:DE->gF (List Dt)}(F:pj X.prog X.w X.K X.mg X.base CX0 k f fd ps (spD X.K n fD))(hr:jt k X.A)(hm:X.mg x=My (.ref f))(hk:PySem.W.keepIn X.K (.ref f)=S_)(hb:Binds X.K fd ps [])
  (ha:PDs X (e::es) gs) (hg:Gl X x:=by rfl) (hdb:(x==("__debug__":Str))=Ta:=by decide) (he:starEach (e::es) X.env=(Ta,eval e X.env)::starEach es X.env:=by rfl) (hpl:(backTo pos (starEach es X.env)).any (·.1)=Ta:=by rfl) :
  PD X (.Call (.Name x p) (e::es) [] pos) (hZ n fD gs) :=
 (sR F hr hg hm hk hb .nil LL ha hdb he hpl).of λ σ H Q hz13=>by
  obtain⟨δ,d,S,e,q⟩:=hz13;obtain⟨ds,e1,e2⟩:=gP e;split at e2
  ·rename_i hl;exact⟨δ,ds,S,e1,λ vs H1 s1 i1=>by show spD X.K n fD (vs++[]) H1 Q E0;rw[bA];exact⟨ds,d,hl,i1,e2,λ v H2 s2 i2=>q v H2 (s1.trans s2) i2⟩⟩
  ·cases e2
end
end L2
namespace Zp
open PySem PySem.Spec PyProof.Rows
section
variable {prog:Program}{w:World}{A:Around}{E:gE}{s:gJ}
theorem JW {j t:Addr}{k:Nat}{arr:Array gH}{y:gH}{Q:gE}(hj:s.heap.IsTupleIter j t k)(ht:s.heap.IsTuple t arr)(hy:arr[k]?=My y)
  (fin:∀ g,g.IsTupleIter j t (k+1)->Heap.SameBut j s.heap g->Q y {s with heap:=g}):wpAny (model prog w) A (Builtin.SmallTypes.nextOf (.ref j)) Q E s:=by
 have hty:=hj.typeIs;obtain⟨oj,gj,cj,dj⟩:=hj;obtain⟨ot,gt,_,nt,dt⟩:=ht;unfold Builtin.SmallTypes.nextOf;refine ae (bN (name:=Str.ofString "__next__") hty da (bS da hty F.entry_tuple_iterator_next ?_ (F.args_tuple_iterator_next_1 _)));show wpAny _ _ (field (.ref j) 0>>=_) _ _ s;refine ae (bX gj dj (x:=.ref t) rfl ?_);show wpAny _ _ (if (Value.ref t==Value.none)=S_ then _ else _) _ _ s;rw[ak (show ¬ (Value.ref t==Value.none)=S_ from λ q=>aw q)];show wpAny _ _ (field (.ref j) 1>>=_) _ _ s;refine ae (bX gj dj (x:=.int k 0) rfl ?_);show wpAny _ _ (seqItems? (.ref t)>>=_) _ _ s;refine ae (cE gt dt ?_);simp only[hy,bV];refine ae (eX gj dj (by simp) (ag ⟨y,rfl,ag (fin _ ⟨_,df _ gj (fh (c_ dj _)),(f6 ..).trans cj,?_⟩ (cH ..))⟩));rw[c_ dj];simp[rawInt]
theorem Dq {j t:Addr}{k:Nat}{arr:Array gH}{Q:gE}(hh:A.handled=SY)(hj:s.heap.IsTupleIter j t k)(ht:s.heap.IsTuple t arr)(hy:arr[k]?=SY)
  (fin:∀ g e,Heap.ExtBut j s.heap g->(∃ o,g.get? e=My o/\o.cls=.type "StopIteration")->E (.ref e) {s with heap:=g}):wpAny (model prog w) A (Builtin.SmallTypes.nextOf (.ref j)) Q E s:=by
 have hty:=hj.typeIs;obtain⟨oj,gj,cj,dj⟩:=hj;obtain⟨ot,gt,_,nt,dt⟩:=ht;unfold Builtin.SmallTypes.nextOf;refine ae (bN (name:=Str.ofString "__next__") hty da (bS da hty F.entry_tuple_iterator_next ?_ (F.args_tuple_iterator_next_1 _)));show wpAny _ _ (field (.ref j) 0>>=_) _ _ s;refine ae (bX gj dj (x:=.ref t) rfl ?_);show wpAny _ _ (if (Value.ref t==Value.none)=S_ then _ else _) _ _ s;rw[ak (show ¬ (Value.ref t==Value.none)=S_ from λ q=>aw q)];show wpAny _ _ (field (.ref j) 1>>=_) _ _ s;refine ae (bX gj dj (x:=.int k 0) rfl ?_);show wpAny _ _ (seqItems? (.ref t)>>=_) _ _ s;refine ae (cE gt dt ?_);simp only[hy,bV];refine ae (wpAny_rule (ae (eX gj dj (by simp) (show wpAny _ _ (newExc (.type "StopIteration") []>>=_) _ _ _ from ae ?_))));simp only[newTuple,newExc];refine ae (bD (ae (m:=firstArgMember _ _) (wpAny_of_eq (a:=Value.none) (by first | rfl | (simp only[firstArgMember];rfl)) (bD ?_ (by size_fits)))) (by size_fits));simp only[raiseNew];refine ae (wpAny_handled ?_);first | rw[hh] | rw[show A.in1.handled=SY from hh]
 exact ae (ag (wpAny_throw (fin _ _ (((cH ..).extBut.push _).push _) ⟨_,aE _ rfl,rfl⟩)))
theorem Hn (hh:A.handled=SY)(j t:Addr)(ne:t≠j)(arr:Array gH):Draws prog w A j [j,t] arr.size (λ i v=>arr[i]?=My v) (λ i h=>h.IsTupleIter j t i/\h.IsTuple t arr) where
 live:=λ _ _ st=>let ⟨o,ho,_⟩:=st.1;⟨o,ho⟩
 frame:=λ _ _ _ st hk=>⟨let ⟨o,ho,r⟩:=st.1;⟨o,hk j (by simp) o ho,r⟩,let ⟨o,ho,r⟩:=st.2;⟨o,hk t (by simp) o ho,r⟩⟩
 item:=λ i s Q E hi st fin=>JW st.1 st.2 (y:=arr[i]) (by simp[hi]) λ g a b=>fin _ g s.toks (by simp[hi]) ⟨a,st.2.extBut b.extBut ne⟩ b
 done:=λ s Q E st fin=>Dq hh st.1 st.2 (by simp) fin
structure Ap (z T O i j:Addr)(f g:List Addr):Prop where
 Tz:T≠z
 Oz:O≠z
 TO:T≠O
 iz:i≠z
 jz:j≠z
 Ti:T≠i
 Tj:T≠j
 Oi:O≠i
 Oj:O≠j
 ij:i≠j
 zf:z∉f
 zg:z∉g
 Of:O∉f
 Og:O∉g
 jf:j∉f
 ig:i∉g
variable {z T O i j:Addr}{f g:List Addr}{n m:Nat}{P R:Nat->gH->Prop}{S U:Nat->Heap->Prop}
theorem O9 (ap:Ap z T O i j f g)(C:Draws prog w A i f n P S)(D:Draws prog w A j g m R U){k:Nat}{a b:gH}{Q:gE}(hn:k<n)(hm:k<m)
  (hz:IsZip s.heap z T O .none) (hT:IsPair s.heap T (.ref i) (.ref j)) (hO:IsPair s.heap O a b) (h1:S k s.heap) (h2:U k s.heap)
  (fin:∀ h' N tk x y,P k x->R k y->s.heap.objs.size<=N->IsZip h' z T O (rawInt N)->IsPair h' O x y->S (k+1) h'->U (k+1) h'->IsPair h' N x y ->
   (∀ c o,c≠z->c≠O->c≠i->c≠j->s.heap.get? c=My o->h'.get? c=My o)->Q (.ref N) {s with heap:=h',toks:=tk}) :
  wpAny (model prog w) A (Builtin.«zip.__next__» ⟨[.ref z],[]⟩) (λ fn s'=>∃ v,fn=.done (.ret v)/\Q v s') E s:=by
 show wpAny _ _ (field (.ref z) 2>>=_) _ _ _;refine ae (bX hz rfl (x:=.bool Ta) rfl (show wpAny _ _ (field (.ref z) 3>>=_) _ _ _ from ae (bX hz rfl (x:=.ref T) rfl (ae (cE hT rfl ?_)))));show wpAny _ _ (Builtin.SmallTypes.ownedTupleIsFree (.ref z)>>=_) _ _ _;refine ae ?_;unfold Builtin.SmallTypes.ownedTupleIsFree;refine ae (bX hz rfl (x:=.none) rfl (ag ?_));simp only[d4];refine ae (wpAny_rule (ae (bX hz rfl (x:=.ref O) rfl (ae (de hz (by simp) λ g1 hz1 e1=>?_)))));replace hz1:IsZip g1 z T O .ellipsis:=hz1;refine ae ?_;simp only[List.zipIdx_nil,List.zipIdx_cons,fR,eF];have z1:∀ {c o},c≠z->s.heap.get? c=My o->g1.get? c=My o:=λ hc e=>e1.extBut _ _ hc e;have mem:∀ {c y:Addr} {l:List Addr},y∉l->c∈l->c≠y:=λ hn hm e=>hn (e▸hm);refine ae (ae (fw (show wpAny _ _ (Builtin.SmallTypes.nextOf (.ref i)>>=_) _ _ _ from ae (C.item k _ _ _ hn (C.frame k _ _ h1 λ c hc o e=>z1 (mem ap.zf hc) e) λ x g2 tk2 px s2 e2=>ag ?_))));have hO2:IsPair g2 O a b:=e2.extBut _ _ ap.Oi (z1 ap.Oz hO);refine ae (cE hO2 rfl (ae (fA hO2 λ g3 hO3 e3=>?_)));replace hO3:IsPair g3 O x b:=hO3;refine ae (wpAny_letGo (ag (ae (ae (fw ?_)))));show wpAny _ _ (Builtin.SmallTypes.nextOf (.ref j)>>=_) _ _ _;refine ae (D.item k _ _ _ hm (D.frame k _ _ h2 λ c hc o e=>e3.extBut _ _ (mem ap.Og hc) (e2.extBut _ _ (mem ap.ig hc) (z1 (mem ap.zg hc) e))) λ y g4 tk4 py s4 e4=>ag ?_);have hO4:IsPair g4 O x b:=e4.extBut _ _ ap.Oj hO3;refine ae (cE hO4 rfl (ae (fA hO4 λ g5 hO5 e5=>?_)));replace hO5:IsPair g5 O x y:=hO5;refine ae (wpAny_letGo (ag (ag (ae (cE hO5 rfl (ae (wpAny_newTuple ?_)))))));have size5:g5.objs.size=s.heap.objs.size:=by rw[e5.1,e4.1,e3.1,e2.1,e1.1]
 have hz5:IsZip g5 z T O .ellipsis:=e5.extBut _ _ ap.Oz.symm (e4.extBut _ _ ap.jz.symm (e3.extBut _ _ ap.Oz.symm (e2.extBut _ _ ap.iz.symm hz1)));have k5:∀ c o,c≠z->c≠O->c≠i->c≠j->s.heap.get? c=My o->g5.get? c=My o:=λ c o q1 q2 q3 q4 e=>e5.extBut _ _ q2 (e4.extBut _ _ q4 (e3.extBut _ _ q2 (e2.extBut _ _ q3 (z1 q1 e))));have s5:S (k+1) g5:=C.frame _ _ _ s2 λ c hc o e=>e5.extBut _ _ (mem ap.Of hc) (e4.extBut _ _ (mem ap.jf hc) (e3.extBut _ _ (mem ap.Of hc) e));have u5:U (k+1) g5:=D.frame _ _ _ s4 λ c hc o e=>e5.extBut _ _ (mem ap.Og hc) e;have zlt:z<g5.objs.size:=ar hz5;show wpAny _ _ (Builtin.SmallTypes.ownedTupleHandOut (.ref z) (.ref g5.objs.size)>>=_) _ _ _;refine ae ?_;unfold Builtin.SmallTypes.ownedTupleHandOut;have hz6:IsZip (g5.push {cls:=.type "tuple",data:=.seq #[x,y]}) z T O .ellipsis:=ah _ hz5;refine ae (de hz6 (by simp) λ g7 hz7 e7=>?_);replace hz7:IsZip g7 z T O (rawInt g5.objs.size):=hz7;refine de hz7 (by simp) λ g8 hz8 e8=>ag ⟨_,rfl,?_⟩;have up:∀ c o,c≠z->g5.get? c=My o->g8.get? c=My o:=λ c o q e=>e8.extBut _ _ q (e7.extBut _ _ q (ah _ e));exact fin g8 g5.objs.size _ x y px py (fJ size5.symm) hz8 (up _ _ ap.Oz hO5) (C.frame _ _ _ s5 λ c hc o e=>up _ _ (mem ap.zf hc) e) (D.frame _ _ _ u5 λ c hc o e=>up _ _ (mem ap.zg hc) e)
  (e8.extBut _ _ (bM zlt) (e7.extBut _ _ (bM zlt) (aE _ rfl))) λ c o q1 q2 q3 q4 e=>up c o q1 (k5 c o q1 q2 q3 q4 e)
theorem zEnd (ap:Ap z T O i j f g)(C:Draws prog w A i f n P S)(D:Draws prog w A j g m R U){k:Nat}{a b:gH}{Q:Fin->gJ->Prop}(hk:k=n\/(k<n/\k=m))
  (hz:IsZip s.heap z T O .none) (hT:IsPair s.heap T (.ref i) (.ref j)) (hO:IsPair s.heap O a b) (h1:S k s.heap) (h2:U k s.heap)
  (fin:∀ h' e tk,(∀ c o,c≠z->c≠O->c≠i->c≠j->s.heap.get? c=My o->h'.get? c=My o)->(∃ o,h'.get? e=My o/\o.cls=.type "StopIteration")->E (.ref e) {s with heap:=h',toks:=tk}) :
  wpAny (model prog w) A (Builtin.«zip.__next__» ⟨[.ref z],[]⟩) Q E s:=by
 show wpAny _ _ (field (.ref z) 2>>=_) _ _ _;refine ae (bX hz rfl (x:=.bool Ta) rfl (show wpAny _ _ (field (.ref z) 3>>=_) _ _ _ from ae (bX hz rfl (x:=.ref T) rfl (ae (cE hT rfl ?_)))));show wpAny _ _ (Builtin.SmallTypes.ownedTupleIsFree (.ref z)>>=_) _ _ _;refine ae ?_;unfold Builtin.SmallTypes.ownedTupleIsFree;refine ae (bX hz rfl (x:=.none) rfl (ag ?_));simp only[d4];refine ae (wpAny_rule (ae (bX hz rfl (x:=.ref O) rfl (ae (de hz (by simp) λ g1 hz1 e1=>?_)))));replace hz1:IsZip g1 z T O .ellipsis:=hz1;refine ae ?_;simp only[List.zipIdx_nil,List.zipIdx_cons,fR,eF];have z1:∀ {c o},c≠z->s.heap.get? c=My o->g1.get? c=My o:=λ hc e=>e1.extBut _ _ hc e;have mem:∀ {c y:Addr} {l:List Addr},y∉l->c∈l->c≠y:=λ hn hm e=>hn (e▸hm);have st1:S k g1:=C.frame k _ _ h1 λ c hc o e=>z1 (mem ap.zf hc) e;refine ae (ae (fw ?_));show wpAny _ _ (Builtin.SmallTypes.nextOf (.ref i)>>=_) _ _ _;rcases hk with rfl | ⟨hn,rfl⟩
 ·refine ae (C.done _ _ _ st1 λ g2 e x2 ⟨oe,he,ce⟩=>?_)
  have hz2:IsZip g2 z T O .ellipsis:=x2 _ _ ap.iz.symm hz1;have ez:e≠z:=λ q=>by subst q;rw[hz2]at he;cases he;simp at ce
  exact de hz2 (by simp) λ g3 _ e3=>fin g3 e _ (λ c o q1 _ q3 _ x=>e3.extBut _ _ q1 (x2 _ _ q3 (z1 q1 x))) ⟨oe,e3.extBut _ _ ez he,ce⟩
 ·refine ae (C.item k _ _ _ hn st1 λ x g2 tk2 px s2 e2=>ag ?_)
  have hO2:IsPair g2 O a b:=e2.extBut _ _ ap.Oi (z1 ap.Oz hO);refine ae (cE hO2 rfl (ae (fA hO2 λ g3 hO3 e3=>ae (wpAny_letGo (ag (ae (ae (fw ?_))))))));show wpAny _ _ (Builtin.SmallTypes.nextOf (.ref j)>>=_) _ _ _;refine ae (D.done _ _ _ (D.frame k _ _ h2 λ c hc o e=>e3.extBut _ _ (mem ap.Og hc) (e2.extBut _ _ (mem ap.ig hc) (z1 (mem ap.zg hc) e))) λ g4 e x4 ⟨oe,he,ce⟩=>?_);have hz4:IsZip g4 z T O .ellipsis:=x4 _ _ ap.jz.symm (e3.extBut _ _ ap.Oz.symm (e2.extBut _ _ ap.iz.symm hz1));have ez:e≠z:=λ q=>by subst q;rw[hz4]at he;cases he;simp at ce
  exact de hz4 (by simp) λ g5 _ e5=>fin g5 e _ (λ c o q1 q2 q3 q4 x=>e5.extBut _ _ q1 (x4 _ _ q4 (e3.extBut _ _ q2 (e2.extBut _ _ q3 (z1 q1 x))))) ⟨oe,e5.extBut _ _ ez he,ce⟩
theorem O_ (ap:Ap z T O i j f g)(C:Draws prog w A.in1 i f n P S)(D:Draws prog w A.in1 j g m R U){k:Nat}{a b:gH}{Q:gF gH->gJ->Prop}(hn:k<n)(hm:k<m)
  (hz:IsZip s.heap z T O .none) (hT:IsPair s.heap T (.ref i) (.ref j)) (hO:IsPair s.heap O a b) (h1:S k s.heap) (h2:U k s.heap)
  (fin:∀ h' N tk x y,P k x->R k y->s.heap.objs.size<=N->IsZip h' z T O (rawInt N)->IsPair h' O x y->S (k+1) h'->U (k+1) h'->IsPair h' N x y ->
   (∀ c o,c≠z->c≠O->c≠i->c≠j->s.heap.get? c=My o->h'.get? c=My o)->Q (My (.ref N)) {s with heap:=h',toks:=tk}) :
  wpAny (model prog w) A (pyNext (.ref z)) Q E s:=by
 have ty:s.TypeIs (.ref z) "zip":=⟨_,hz,rfl⟩;unfold pyNext;exact ae (eD (bN (name:=Str.ofString "__next__") ty fG (bS fG ty F.entry_zip_next
  (O9 ap C D hn hm hz hT hO h1 h2 λ h' N tk x y q1 q2 q3 q4 q5 q6 q7 q8 q9=>ag (fin h' N tk x y q1 q2 q3 q4 q5 q6 q7 q8 q9)) (F.args_zip_next_1 _))))
theorem Pa (ap:Ap z T O i j f g)(C:Draws prog w A.in1 i f n P S)(D:Draws prog w A.in1 j g m R U){k:Nat}{a b:gH}{Q:gF gH->gJ->Prop}(hk:k=n\/(k<n/\k=m))
  (hz:IsZip s.heap z T O .none) (hT:IsPair s.heap T (.ref i) (.ref j)) (hO:IsPair s.heap O a b) (h1:S k s.heap) (h2:U k s.heap)
  (fin:∀ h' tk,(∀ c o,c≠z->c≠O->c≠i->c≠j->s.heap.get? c=My o->h'.get? c=My o)->Q SY {s with heap:=h',toks:=tk}) :
  wpAny (model prog w) A (pyNext (.ref z)) Q E s:=by
 have ty:s.TypeIs (.ref z) "zip":=⟨_,hz,rfl⟩;unfold pyNext;refine ae (eD (bN (name:=Str.ofString "__next__") ty fG (bS fG ty F.entry_zip_next
  (zEnd ap C D hk hz hT hO h1 h2 λ h' e tk q1 ⟨o,q2,q3⟩=>?_) (F.args_zip_next_1 _))))
 exact ae (wpAny_isInstance (T:="StopIteration") (b:=S_) ⟨o,q2,q3⟩ isSubtype_stop (ag (fin _ _ q1)))
end
open L2
def qC (t:Bool)(a:Addr):Obj:=match t with
 | true=>{cls:=.type "tuple_iterator",data:=.fields #[.ref a,.int 0 0]}
 | false=>{cls:=.type "list_iterator",data:=.fields #[.ref a,.int 0 0]}
def IsB (t:Bool)(h:Heap)(a:Addr)(arr:Array gH):Prop:=match t with
 | true=>h.IsTuple a arr
 | false=>h.IsList a arr
def ItB (t:Bool)(h:Heap)(j a:Addr)(k:Nat):Prop:=match t with
 | true=>h.IsTupleIter j a k
 | false=>h.IsListIter j a k
def SqB (t:Bool)(K:gG)(H:Hp)(a:Addr)(xs:List V):Prop:=match t with
 | true=>SqT K H a xs
 | false=>SqL K H a xs
section
variable {prog:Program}{w:World}{A:Around}{E:gE}{s:gJ}
theorem LV {t:Bool}{a:Addr}{arr:Array gH}{Q:gE}(h:IsB t s.heap a arr)(q:Q (.ref s.heap.objs.size) {s with heap:=s.heap.push (qC t a)}):wpAny (model prog w) A (pyIter (.ref a)) Q E s:=by
 cases t with
 | true=>exact fK h q
 | false=>exact eQ h q
theorem IsB.push {t:Bool}{h:Heap}{a:Addr}{arr:Array gH}(x:IsB t h a arr)(o:Obj):IsB t (h.push o) a arr:=by
 cases t with
 | true=>exact Heap.IsTuple.push x o
 | false=>exact Heap.IsList.push x o
theorem ItB.keep {t:Bool}{h h':Heap}{j a:Addr}{k:Nat}(x:ItB t h j a k)(e:∀ o,h.get? j=My o->h'.get? j=My o):ItB t h' j a k:=by
 cases t with
 | true=>obtain⟨o,ho,r⟩:=x;exact⟨o,e o ho,r⟩
 | false=>obtain⟨o,ho,r⟩:=x;exact⟨o,e o ho,r⟩
theorem ItB.obj {t:Bool}{h:Heap}{j a:Addr}{k:Nat}(x:ItB t h j a k):∃ o,h.get? j=My o/\∀ v,o.data≠.cell v:=by
 cases t with
 | true=>obtain⟨o,ho,c,d⟩:=x;exact⟨o,ho,λ v z=>by rw[d]at z;cases z⟩
 | false=>obtain⟨o,ho,c,d⟩:=x;exact⟨o,ho,λ v z=>by rw[d]at z;cases z⟩
theorem Au {t:Bool}(hh:A.handled=SY)(j a:Addr)(ne:a≠j)(arr:Array gH):Draws prog w A j [j,a] arr.size (λ i v=>arr[i]?=My v) (λ i h=>ItB t h j a i/\IsB t h a arr):=by
 cases t with
 | true=>exact Hn hh j a ne arr
 | false=>exact Draws.list hh j a ne arr
def qD (t1 t2:Bool)(l1 l2:Addr)(h:Heap):Heap :=
 ((((h.push (qC t1 l1)).push (qC t2 l2)).push ⟨.type "tuple",SY,.seq #[.ref h.objs.size,.ref (h.objs.size+1)] 0,#[]⟩).push ⟨.type "tuple",SY,.seq #[.none,.none] 0,#[]⟩).push ⟨.type "zip",SY,.fields #[.none,.bool Ta,.bool Ta,.ref (h.objs.size+2),.ref (h.objs.size+3)],#[]⟩
theorem M1 (t1 t2:Bool)(l1 l2:Addr)(xs ys:Array gH) :
  Meets (Builtin.«zip.__new__» ⟨[.type "zip",.ref l1,.ref l2],[]⟩) (λ _ R s=>IsB t1 s.heap l1 xs/\IsB t2 s.heap l2 ys/\R (.ok (.ret (.ref (s.heap.objs.size+4)))) {s with heap:=qD t1 t2 l1 l2 s.heap}) :=
 .of_wp λ prog w A R s h=>by
  obtain⟨hp,g,d,tk,os⟩:=s;obtain⟨hl1,hl2,h⟩:=h;have hsub:=sub_zip;have hL1:IsB t1 (Shared.heap ⟨hp,g,d,tk,os⟩) l1 xs:=hl1;have hL2:IsB t2 (Shared.heap ⟨hp.push (qC t1 l1),g,d,tk,os⟩) l2 ys:=IsB.push hl2 _
  wp_walk using LV hL1,LV hL2
  refine⟨_,rfl,?_⟩;unfold qD at h;simp only[cG]at h ⊢;exact h
end
end Zp
namespace L2
open PySem PySem.Spec PyProof.Rows Zp
section
variable {X:Cx}{pins:gL}{σ:St}{H:Hp}{s:gJ}{h':Heap}
theorem Inv.Av {t':Nat}{fp:List Addr}(I:Inv X pins σ H s)(k:∀ b o,b∉fp->s.heap.get? b=My o->h'.get? b=My o)(hf:∀ b∈fp,vD X pins H b):Inv X pins σ H {s with heap:=h',toks:=t'}:=by
 have nit:∀ b u,H b=My u->b∉fp:=λ b u e z=>by rw[(hf b z).1]at e;cases e
 refine I.step (g':=s.gens) (d':=s.drawn) (ch:=fp) (λ b hb=>⟨(hf b hb).2.2.2.1,(hf b hb).2.1,(hf b hb).2.2.2.2.1,(hf b hb).2.2.2.2.2⟩) (λ b o _ _ hc e _=>k b o hc e) (λ b o _ _ hc e _=>⟨o.slots,k b o hc e⟩) (λ _ _ _ _ n=>n)
  (λ b o hc e=>⟨o,k b o hc e⟩) (λ _ _ e=>e) (λ _ _ _ e=>e) (λ b ps e=>⟨#[],by rw[e];simp⟩) (λ m hm=>?_) (λ b u e=>?_) I.bare
 ·obtain⟨o,es,ep,ho,r⟩:=hm;exact⟨o,es,ep,k _ o (λ z=>(hf _ z).2.1 rfl) ho,r⟩
 ·refine(I.hok b u e).wq (λ c v hc q=>k c v ?_ q) (λ _ q=>q) λ _ _ q=>q
  rcases hc with z | z
  ·rw[z];exact nit b u e
  ·exact nit c _ z
theorem Inv.uN {t:Bool}{a:Addr}{xs:List V}(I:Inv X pins σ H s)(h:SqB t X.K H a xs):∃ its:List gH,Vals xs its/\IsB t s.heap a its.toArray/\xs.length<=sizeLine:=by
 cases t with
 | true=>obtain⟨its,r,p,z⟩:=I.tuple h;exact⟨its,r,p,z⟩
 | false=>obtain⟨its,r,p,z⟩:=I.list h;exact⟨its,r,p.isList,z⟩
theorem Inv.BG {t:Bool}{a:Addr}{xs ys:List V}(I:Inv X pins σ H s)(h:SqB t X.K H a xs)(h':SqB t X.K H a ys):xs=ys:=by
 cases t with
 | true=>exact I.uA h h'
 | false=>exact I.Bm h h'
theorem ItB.cls {t:Bool}{h:Heap}{j a:Addr}{k:Nat}(x:ItB t h j a k):∃ o,h.get? j=My o/\o.cls≠.type "tuple"/\o.cls≠.type "list":=by
 cases t with
 | true=>obtain⟨o,ho,c,d⟩:=x;exact⟨o,ho,by rw[c];decide,by rw[c];decide⟩
 | false=>obtain⟨o,ho,c,d⟩:=x;exact⟨o,ho,by rw[c];decide,by rw[c];decide⟩
def Itz (t1 t2:Bool)(K:gG)(a b:Addr):It :=
  ⟨λ i H=>∃ xs ys,SqB t1 K H a xs/\SqB t2 K H b ys/\i<xs.length/\i<ys.length,
   λ i H v H'=>∃ p x y,v=.ref p/\H p=SY/\H'=upd H p (.tup [x,y])/\(∀ xs,SqB t1 K H a xs->xs[i]?=My x)/\(∀ ys,SqB t2 K H b ys->ys[i]?=My y),
   λ i H=>∃ xs ys,SqB t1 K H a xs/\SqB t2 K H b ys/\(i=xs.length\/(i<xs.length/\i=ys.length))⟩
def tnz (t1 t2:Bool)(a b z T O i j:Addr)(k:Nat)(h:Heap):Prop:=IsZip h z T O .none/\IsPair h T (.ref i) (.ref j)/\(∃ x y,IsPair h O x y)/\ItB t1 h i a k/\ItB t2 h j b k
theorem Pb (z T O i j:Addr):z∈[z,T,O,i,j]/\T∈[z,T,O,i,j]/\O∈[z,T,O,i,j]/\i∈[z,T,O,i,j]/\j∈[z,T,O,i,j]:=by simp
theorem LW {z T O i j a b:Addr}(Tz:T≠z)(Oz:O≠z)(TO:T≠O)(iz:i≠z)(jz:j≠z)(Ti:T≠i)(Tj:T≠j)(Oi:O≠i)(Oj:O≠j)(ij:i≠j)(az:a≠z)(bz:b≠z)(aO:a≠O)(bO:b≠O)(aj:a≠j)(bi:b≠i):Ap z T O i j [i,a] [j,b] :=
 ⟨Tz,Oz,TO,iz,jz,Ti,Tj,Oi,Oj,ij,by simp[bu iz,bu az],by simp[bu jz,bu bz],by simp[Oi,bu aO],by simp[Oj,bu bO],by simp[bu ij,bu aj],by simp[ij,bu bi]⟩
theorem Aw {X:Cx}{pins:gL}{σ:St}{H:Hp}{s:gJ}{fp:List Addr}(I:Inv X pins σ H s)(hf:∀ q∈fp,vD X pins H q){t:Bool}{c:Addr}{zs:List V}(hs:SqB t X.K H c zs)(q:Addr)(hq:q∈fp):c≠q:=by
 intro e;have hn:=(hf q hq).1;have hnk:X.K.lookup q=SY:=by
  cases hkq:X.K.lookup q with
  | none=>rfl
  | some oo =>
   have hb:=I.ok.mod.kin q oo hkq;exfalso;rcases (hf q hq).2.2.2.1 with hx | hx
   ·exact I.ok.CN q oo hb hx
   ·exact aW _ (aJ (ar hb) (bC I.ok.bsz hx))
 rw[e]at hs;cases t with
 | true =>
  rcases hs with (r | ⟨_,r⟩) | ⟨oo,_,_,r,_⟩
  ·rw[hn]at r;cases r
  ·rw[hn]at r;cases r
  ·rw[hnk]at r;cases r
 | false =>
  rcases hs with (r | ⟨_,r⟩) | ⟨oo,_,_,r,_⟩
  ·rw[hn]at r;cases r
  ·rw[hn]at r;cases r
  ·rw[hnk]at r;cases r
theorem Ho {P:Program}{w:World}{K:gG}{elts:List Expr}{kk:Nat}{ps:Pos}(t1 t2:Bool)(a b z T O i j:Addr)(Tz:T≠z)(Oz:O≠z)(TO:T≠O)(iz:i≠z)(jz:j≠z)(Ti:T≠i)(Tj:T≠j)(Oi:O≠i)(Oj:O≠j)(ij:i≠j) :
  Turn P w K (.Tuple elts kk ps) (Itz t1 t2 K a b) [z,T,O,i,j] z (tnz t1 t2 a b z T O i j) where
 mem:=by simp
 obj:=λ k h st c hc=>by
  obtain⟨hz,hT,⟨x,y,hO⟩,h1,h2⟩:=st;simp only[aB,bw,or_false]at hc;rcases hc with rfl | rfl | rfl | rfl | rfl
  ·exact⟨_,hz,λ v q=>by cases q⟩
  ·exact⟨_,hT,λ v q=>by cases q⟩
  ·exact⟨_,hO,λ v q=>by cases q⟩
  ·exact h1.obj
  ·exact h2.obj
 keep:=λ k h h' st kp=>by obtain⟨hz,hT,⟨x,y,hO⟩,h1,h2⟩:=st;exact⟨kp z (by simp) _ hz,kp T (by simp) _ hT,⟨x,y,kp O (by simp) _ hO⟩,h1.keep λ o e=>kp i (by simp) o e,h2.keep λ o e=>kp j (by simp) o e⟩
 item:=by
  intro X hP hw hK hc k pins s σ H E I hf st hg;subst hP hw hK;obtain⟨xs,ys,hq1,hq2,hk1,hk2⟩:=hg;obtain⟨hz,hT,⟨x0,y0,hO⟩,h1,h2⟩:=st;obtain⟨its1,rv1,p1,_⟩:=I.uN hq1;obtain⟨its2,rv2,p2,_⟩:=I.uN hq2;obtain⟨oi,gi,ci,ci'⟩:=ItB.cls (t:=t1) (h:=s.heap) (j:=i) (a:=a) (k:=k) h1;obtain⟨oj,gj,cj,cj'⟩:=ItB.cls (t:=t2) (h:=s.heap) (j:=j) (a:=b) (k:=k) h2;have hl1:=rv1.length;have hl2:=rv2.length;have m5:=Pb z T O i j;have na:=Aw I hf hq1;have nb:=Aw I hf hq2;have ap:=LW Tz Oz TO iz jz Ti Tj Oi Oj ij (na _ m5.1) (nb _ m5.1) (na _ m5.2.2.1) (nb _ m5.2.2.1) (na _ m5.2.2.2.2) (nb _ m5.2.2.2.1);refine O_ ap (Au (prog:=X.prog) (w:=X.w) (A:=X.A.in1) (t:=t1) (show X.A.in1.handled=SY from I.ok.hd hc) i a (na i m5.2.2.2.1) its1.toArray) (Au (prog:=X.prog) (w:=X.w) (A:=X.A.in1) (t:=t2) (show X.A.in1.handled=SY from I.ok.hd hc) j b (nb j m5.2.2.2.2) its2.toArray) (by simp;lia) (by simp;lia) hz hT hO ⟨h1,p1⟩ ⟨h2,p2⟩ ?_;intro h' N tk x y px py hN hz' hO' s1 s2 hNp kp;refine⟨.ref N,rfl,?_⟩;have I1:Inv X pins σ H {s with heap:=h',toks:=tk}:=I.Av (fp:=[z,T,O,i,j]) (λ c o hc' e=>kp c o (λ q=>hc' (q▸m5.1)) (λ q=>hc' (q▸m5.2.2.1)) (λ q=>hc' (q▸m5.2.2.2.1)) (λ q=>hc' (q▸m5.2.2.2.2)) e) hf;have hxk:xs[k]?=My (xs[k]'hk1):=by simp[hk1]
  have hyk:ys[k]?=My (ys[k]'hk2):=by simp[hk2]
  obtain⟨u1,e1,r1⟩:=rv1.get hxk;obtain⟨u2,e2,r2⟩:=rv2.get hyk;have px':its1[k]?=My x:=by simpa using px
  have py':its2[k]?=My y:=by simpa using py
  rw[e1]at px';cases px';rw[e2]at py';cases py';have hNn:H N=SY:=I.hok.fresh hN;have I2:Inv X pins σ (upd H N (.tup [xs[k],ys[k]])) {s with heap:=h',toks:=tk}:=I1.zu hNn (bC I.sz hN) (bM (aJ I.lt hN)) (λ x c e q=>by
    obtain⟨v,o,ho,_⟩:=I.cell x c e;exact absurd (ar ho) (by rw[q];exact fS.mpr hN)) (λ p hp q=>absurd (ar (I.pin p hp).1) (by rw[q];exact fS.mpr hN))
   ⟨⟨by rw[sizeLine_eq];simp,_,hNp,rfl⟩,[x,y],.cons r1 (.cons r2 .nil),⟨_,hNp,rfl,0,rfl⟩⟩
  have nfp:∀ q∈[z,T,O,i,j],q≠N:=λ q hq e=>by
   have:q<s.heap.objs.size:=by
    simp only[aB,bw,or_false]at hq;rcases hq with rfl | rfl | rfl | rfl | rfl
    ·exact ar hz
    ·exact ar hT
    ·exact ar hO
    ·exact ar gi
    ·exact ar gj
   rw[e]at this;exact aW _ (aJ this hN)
  have hf2:∀ q∈[z,T,O,i,j],vD X pins (upd H N (.tup [xs[k],ys[k]])) q:=λ q hq=>⟨by rw[g6 (nfp q hq)];exact(hf q hq).1,(hf q hq).2⟩;refine wpAny_letOwnedTupleGo_zip hz' λ h2' hz2 sb=>?_;refine⟨.ref N,_,I2.Av (t':=tk) (fp:=[z,T,O,i,j]) (λ c o hc' e=>sb.extBut _ _ (λ q=>hc' (by simp[q])) e) hf2,rfl,⟨N,_,_,rfl,hNn,rfl,λ zs hs=>?_,λ zs hs=>?_⟩,⟨hz2,sb.extBut _ _ Tz (kp T _ Tz TO Ti Tj hT),⟨_,_,sb.extBut _ _ Oz hO'⟩,s1.1.keep λ o e=>sb.extBut _ _ iz e,s2.1.keep λ o e=>sb.extBut _ _ jz e⟩,λ q hq=>(hf2 q hq).1⟩
  ·rw[I.BG hs hq1];exact hxk
  ·rw[I.BG hs hq2];exact hyk
 done:=by intro X hP hw hK hc k pins s σ H E I hf st hg;subst hP hw hK;obtain⟨xs,ys,hq1,hq2,hk⟩:=hg;obtain⟨hz,hT,⟨x0,y0,hO⟩,h1,h2⟩:=st;obtain⟨its1,rv1,p1,_⟩:=I.uN hq1;obtain⟨its2,rv2,p2,_⟩:=I.uN hq2;have hl1:=rv1.length;have hl2:=rv2.length;have m5:=Pb z T O i j;have na:=Aw I hf hq1;have nb:=Aw I hf hq2;have ap:=LW Tz Oz TO iz jz Ti Tj Oi Oj ij (na _ m5.1) (nb _ m5.1) (na _ m5.2.2.1) (nb _ m5.2.2.1) (na _ m5.2.2.2.2) (nb _ m5.2.2.2.1);refine Pa ap (Au (prog:=X.prog) (w:=X.w) (A:=X.A.in1) (t:=t1) (show X.A.in1.handled=SY from I.ok.hd hc) i a (na i m5.2.2.2.1) its1.toArray) (Au (prog:=X.prog) (w:=X.w) (A:=X.A.in1) (t:=t2) (show X.A.in1.handled=SY from I.ok.hd hc) j b (nb j m5.2.2.2.2) its2.toArray) (k:=k) (by simp;lia) hz hT hO ⟨h1,p1⟩ ⟨h2,p2⟩ ?_;intro h' tk kp;exact⟨rfl,I.Av (fp:=[z,T,O,i,j]) (λ c o hc' e=>kp c o (λ q=>hc' (q▸m5.1)) (λ q=>hc' (q▸m5.2.2.1)) (λ q=>hc' (q▸m5.2.2.2.1)) (λ q=>hc' (q▸m5.2.2.2.2)) e) hf⟩
 self:=λ _ _ _ _ _ st h=>wpAny_pyIter_zip st.1 h
end
def Pc (K:gG)(J:It)(H:Hp)(ds:List Dt):Prop:=∀ H',gY H H'->(∀ (i:Nat) d,ds[i]?=My d->J.go i H'/\∀ x H'',J.yld i H' x H''->gY H' H''/\Is K H'' x d)/\J.stop ds.length H'
def iD (K:gG)(g:DE->gF (List Dt)):TI:=λ σ H R=>∃ δ ds,Sat K H σ δ/\g δ=My ds/\∀ J H',gY H H'->Pc K J H' ds->R J H'
section
variable {X:Cx}{e a b c:Expr}{es:List Expr}{pos:Pos}{tg iter:Expr}
theorem PI.of {t t':TI}(h:PI X tg iter t)(w:∀ σ H Q,t' σ H Q->t σ H Q):PI X tg iter t':=λ pins s σ H Q I q=>h pins s σ H Q I (w σ H Q q)
def xj:Dt->gF (List Dt)
 | .tup ds=>My ds
 | _=>SY
def Ex:Dt->gF (List Dt)
 | .lst ds=>My ds
 | _=>SY
theorem uO {d:Dt}{ds:List Dt}(h:xj d=My ds):d=.tup ds:=by cases d<;>simp[xj]at h;rw[h]
theorem zw {d:Dt}{ds:List Dt}(h:Ex d=My ds):d=.lst ds:=by cases d<;>simp[Ex]at h;rw[h]
def gI (f:Dt->gF (List Dt))(g:DE->gF Dt):DE->gF (List Dt):=λ δ=>(g δ).bind f
theorem M3 {g:DE->gF Dt}(h:PD X e g):PI X tg e (iD X.K (gI xj g)):=(CV h).of λ σ H R hz1=>by obtain⟨δ,ds,S,q,k⟩:=hz1;obtain⟨x,e1,e2⟩:=gP q;have e2:=uO e2;subst e2;refine⟨δ,_,S,e1,λ v H1 s1 i1=>?_⟩;obtain⟨a,xs,rfl,hq,is⟩:=i1.ik;refine⟨a,rfl,⟨xs,hq⟩,k _ H1 s1 λ H2 s2=>⟨λ i d hd=>?_,⟨xs,s2.uM hq,by rw[is.length];exact ay _⟩⟩⟩;obtain⟨v,hv,iv⟩:=is.get hd;exact⟨⟨xs,v,s2.uM hq,hv⟩,λ x H3 hz2=>by obtain⟨e3,y⟩:=hz2;subst e3;have:=y xs (s2.uM hq);rw[hv]at this;cases this;exact⟨gY.refl _,iv.ext s2⟩⟩
theorem M4 {g:DE->gF Dt}(h:PD X e g):PI X tg e (iD X.K (gI Ex g)):=(vW h).of λ σ H R hz3=>by obtain⟨δ,ds,S,q,k⟩:=hz3;obtain⟨x,e1,e2⟩:=gP q;have e2:=zw e2;subst e2;refine⟨δ,_,S,e1,λ v H1 s1 i1=>?_⟩;obtain⟨a,xs,rfl,hq,is⟩:=i1.lst_inv;refine⟨a,rfl,⟨xs,SqL.of hq⟩,k _ H1 s1 λ H2 s2=>⟨λ i d hd=>?_,⟨xs,s2.seq (SqL.of hq),by rw[is.length];exact ay _⟩⟩⟩;obtain⟨v,hv,iv⟩:=is.get hd;exact⟨⟨xs,v,s2.seq (SqL.of hq),hv⟩,λ x H3 hz4=>by obtain⟨e3,y⟩:=hz4;subst e3;have:=y xs (s2.seq (SqL.of hq));rw[hv]at this;cases this;exact⟨gY.refl _,iv.ext s2⟩⟩
def BH:List Dt->gF (List Dt)
 | [.int j]=>if j<=1000000/\-1000000<=j then My ((Tc j.toNat).map λ(i:Nat)=>.int i) else SY
 | _=>SY
theorem Hq {x ds:List Dt}(e:BH x=My ds):∃ j:Int,x=[.int j]/\(j<=1000000/\-1000000<=j)/\ds=(Tc j.toNat).map λ(i:Nat)=>Dt.int i:=by
 cases x with
 | nil=>cases e
 | cons y r=>cases r with
  | cons _ _=>cases y<;>cases e
  | nil=>cases y with
   | int j =>
    have e:(if j<=1000000/\-1000000<=j then My ((Tc j.toNat).map λ(i:Nat)=>Dt.int i) else SY)=My ds:=e;by_cases hj:j<=1000000/\-1000000<=j
    ·rw[ai hj]at e;exact⟨j,rfl,hj,(ao e).symm⟩
    ·rw[ak hj]at e;cases e
   | _=>cases e
theorem M5 {K:gG}{H:Hp}(lo:Int)(n:Nat):Pc K (Itr lo n) H ((Tc n).map λ(k:Nat)=>.int (lo+k)):=λ H1 s1=>by
 refine⟨λ i d hd=>?_,by show n<=_;simp⟩;rw[aK]at hd;by_cases hi:i<n
 ·rw[cT hi]at hd;cases hd;exact⟨hi,λ x H2 ⟨e1,e2⟩=>by subst e1;subst e2;exact⟨gY.refl _,.int _⟩⟩
 ·rw[bY (by simpa using hi)]at hd;cases hd
theorem FD {gs:DE->gF (List Dt)}{p:Pos}(hm:X.mg "range"=SY)(ha:PDs X [a] gs)(hg:Gl X "range":=by rfl)(hs:starEach [a] X.env=[(Ta,eval a X.env)]:=by rfl):PI X tg (.Call (.Name "range" p) [a] [] pos) (iD X.K (λ δ=>(gs δ).bind BH)) :=
 (lZ hg hm ha hs).of λ σ H R hz5=>by
  obtain⟨δ,ds,S,q,k⟩:=hz5;obtain⟨x,e1,e2⟩:=gP q;obtain⟨j,rfl,hj,rfl⟩:=Hq e2;refine⟨δ,_,S,e1,λ vs H1 s1 i1=>?_⟩;cases i1 with
  | cons i1 i2 =>cases i2;cases i1;refine⟨j,rfl,by lia,by lia,k _ H1 s1 ?_⟩;have:=M5 (K:=X.K) (H:=H1) 0 j.toNat;simpa using this
def itB (t:Bool):Dt->gF (List Dt):=match t with
 | true=>xj
 | false=>Ex
theorem Ey {K:gG}{H:Hp}{v:V}{t:Bool}{d:Dt}{ds:List Dt}(h:itB t d=My ds)(i:Is K H v d):∃ a xs,v=.ref a/\SqB t K H a xs/\Iss K H xs ds:=by
 cases t with
 | true=>rw[uO h]at i;exact i.ik
 | false =>rw[zw h]at i;obtain⟨a,xs,e,q,r⟩:=i.lst_inv;exact⟨a,xs,e,SqL.of q,r⟩
theorem gY.uN {K:gG}{H H':Hp}{t:Bool}{a:Addr}{xs:List V}(e:gY H H')(h:SqB t K H a xs):SqB t K H' a xs:=by
 cases t with
 | true=>exact e.uM h
 | false=>exact e.seq h
def JX (t1 t2:Bool):List Dt->gF (List Dt)
 | [x,y]=>(itB t1 x).bind λ xs=>(itB t2 y).map λ ys=>(xs.zip ys).map λ(p,q)=>.tup [p,q]
 | _=>SY
theorem nn {a b:Nat}(h:a≠b):@Ne Addr a b:=h
theorem Hr (t1 t2:Bool)(x y:Addr)(h:Heap):IsZip (qD t1 t2 x y h) (h.objs.size+4) (h.objs.size+2) (h.objs.size+3) .none/\IsPair (qD t1 t2 x y h) (h.objs.size+2) (.ref h.objs.size) (.ref (h.objs.size+1))/\IsPair (qD t1 t2 x y h) (h.objs.size+3) .none .none /\
  ItB t1 (qD t1 t2 x y h) h.objs.size x 0/\ItB t2 (qD t1 t2 x y h) (h.objs.size+1) y 0/\∀ b u,h.get? b=My u->(qD t1 t2 x y h).get? b=My u:=by
 have fr:∀ t a,(qC t a).isFreed=Ta:=λ t a=>by cases t<;>rfl
 have up:∀ (o1:Obj) (g:Heap) (n:Nat),g.objs.size=n->o1.isFreed=Ta->(g.push o1).get? n=My o1:=λ o1 g n e f=>by subst e;exact aE _ f
 unfold qD;generalize hn:h.objs.size=n;have z1:(h.push (qC t1 x)).objs.size=n+1:=by rw[cG,hn]
 have z2:((h.push (qC t1 x)).push (qC t2 y)).objs.size=n+2:=by rw[cG,z1]
 refine⟨?_,?_,?_,?_,?_,?_⟩
 ·refine up _ _ _ ?_ rfl;rw[cG,cG,z2]
 ·refine ah _ (ah _ (up _ _ _ ?_ rfl));rw[z2]
 ·refine ah _ (up _ _ _ ?_ rfl);rw[cG,z2]
 ·have g:=ah (⟨.type "zip",SY,.fields #[.none,.bool Ta,.bool Ta,.ref (n+2),.ref (n+3)],#[]⟩:Obj) (ah (⟨.type "tuple",SY,.seq #[.none,.none] 0,#[]⟩:Obj) (ah (⟨.type "tuple",SY,.seq #[.ref n,.ref (n+1)] 0,#[]⟩:Obj) (ah (qC t2 y) (up (qC t1 x) h n hn (fr _ _)))))
  cases t1 with
  | true=>exact⟨_,g,rfl,rfl⟩
  | false=>exact⟨_,g,rfl,rfl⟩
 ·have g:=ah (⟨.type "zip",SY,.fields #[.none,.bool Ta,.bool Ta,.ref (n+2),.ref (n+3)],#[]⟩:Obj) (ah (⟨.type "tuple",SY,.seq #[.none,.none] 0,#[]⟩:Obj) (ah (⟨.type "tuple",SY,.seq #[.ref n,.ref (n+1)] 0,#[]⟩:Obj) (up (qC t2 y) _ (n+1) z1 (fr _ _))))
  cases t2 with
  | true=>exact⟨_,g,rfl,rfl⟩
  | false=>exact⟨_,g,rfl,rfl⟩
 ·exact λ b u e=>ah _ (ah _ (ah _ (ah _ (ah _ e))))
theorem M6 {ta:TA}{elts:List Expr}{kk:Nat}{ps p:Pos}(t1 t2:Bool)(hg:Gl X "zip")(hm:X.mg "zip"=SY)(ha:PA X [a,b] ta)(hs:starEach [a,b] X.env=[(Ta,eval a X.env),(Ta,eval b X.env)]:=by rfl)(hs2:starEach [b] X.env=[(Ta,eval b X.env)]:=by rfl)
  (hv:bootBuiltins "zip"=My (.type "zip"):=by rfl) :
  PI X (.Tuple elts kk ps) (.Call (.Name "zip" p) [a,b] [] pos) (λ σ H R=>ta σ H λ vs H1=>∃ x y,vs=[.ref x,.ref y]/\(∃ xs,SqB t1 X.K H1 x xs)/\(∃ ys,SqB t2 X.K H1 y ys)/\R (Itz t1 t2 X.K x y) H1):=by
 intro pins s σ H R I h;refine Call_ (uz I hg hm hv (cU (thn (ha pos pins s σ H _ I h) λ us s1 ⟨vs,H1,I1,r1,q1⟩=>?_) (by rw[hs,hs2]) (by rw[hs2];rfl)));obtain⟨x,y,rfl,⟨xs,hx⟩,⟨ys,hy⟩,q⟩:=q1;obtain⟨u,u',rfl,ru,ru'⟩:=vals2 r1;cases ru;cases ru';obtain⟨its1,_,p1,_⟩:=I1.uN hx;obtain⟨its2,_,p2,_⟩:=I1.uN hy;refine callType_new F.called_zip (by decide) (F.typeCall_zip_2 _ _) (F.newCall_zip_2 _ _) (λ obj=>F.args_object_init_3 obj _ _) F.entry_zip_new (M1 t1 t2 x y its1.toArray its2.toArray) ⟨p1,p2,?_⟩;obtain⟨k1,k2,k3,k4,k5,k6⟩:=Hr t1 t2 x y s1.heap;show _/\_;refine⟨⟨_,k1,rfl⟩,wpAny_pyIter_zip (s:={s1 with heap:=qD t1 t2 x y s1.heap}) (z:=s1.heap.objs.size+4) k1 ?_⟩;have I2:Inv X pins σ H1 {s1 with heap:=qD t1 t2 x y s1.heap}:=I1.kept (t':=s1.toks) k6;refine⟨_,[s1.heap.objs.size+4,s1.heap.objs.size+2,s1.heap.objs.size+3,s1.heap.objs.size,s1.heap.objs.size+1],_,_,H1,rfl,I2,Ho t1 t2 x y (s1.heap.objs.size+4) (s1.heap.objs.size+2) (s1.heap.objs.size+3) s1.heap.objs.size (s1.heap.objs.size+1) (nn (by lia)) (nn (by lia)) (nn (by lia)) (nn (by lia)) (nn (by lia)) (nn (by lia)) (nn (by lia)) (nn (by lia)) (nn (by lia)) (nn (by lia)),⟨k1,k2,⟨_,_,k3⟩,k4,k5⟩,λ c hc=>?_,q⟩;have hc:s1.heap.objs.size<=c:=by
  simp only[aB,bw,or_false]at hc;rcases hc with rfl | rfl | rfl | rfl | rfl
  ·exact ef _ _
  ·exact ef _ _
  ·exact ef _ _
  ·exact ay _
  ·exact ef _ _
 exact I1.Jw hc (I1.hok.fresh hc)
theorem M7 {gs:DE->gF (List Dt)}{elts:List Expr}{kk:Nat}{ps p:Pos}(t1 t2:Bool)(hm:X.mg "zip"=SY)(ha:PDs X [a,b] gs)(hg:Gl X "zip":=by rfl)(hs:starEach [a,b] X.env=[(Ta,eval a X.env),(Ta,eval b X.env)]:=by rfl)(hs2:starEach [b] X.env=[(Ta,eval b X.env)]:=by rfl)
  (hv:bootBuiltins "zip"=My (.type "zip"):=by rfl):PI X (.Tuple elts kk ps) (.Call (.Name "zip" p) [a,b] [] pos) (iD X.K (λ δ=>(gs δ).bind (JX t1 t2))) :=
 (M6 t1 t2 hg hm ha hs hs2 hv).of λ σ H R hz7=>by
  obtain⟨δ,ds,S,q,k⟩:=hz7;obtain⟨x,e1,e2⟩:=gP q;match x,e2 with
  | [x,y],e2 =>
   obtain⟨xs,f1,e2⟩:=gP (show(itB t1 x).bind _=_ from e2);obtain⟨ys,f2,e2⟩:=il e2;subst e2;refine⟨δ,_,S,e1,λ vs H1 s1 i1=>?_⟩;cases i1 with
   | cons i1 i2 =>
    cases i2 with
    | cons i2 i3 =>
     cases i3;obtain⟨c,vs1,rfl,q1,is1⟩:=Ey f1 i1;obtain⟨d,vs2,rfl,q2,is2⟩:=Ey f2 i2;refine⟨c,d,rfl,⟨_,q1⟩,⟨_,q2⟩,k _ H1 s1 λ H2 s2=>⟨λ i dd hd=>?_,⟨vs1,vs2,s2.uN q1,s2.uN q2,?_⟩⟩⟩
     ·rw[aK]at hd
      cases hz:(xs.zip ys)[i]? with
      | none=>rw[hz]at hd;cases hd
      | some pr =>rw[hz]at hd;obtain⟨pa,pb⟩:=pr;cases hd;obtain⟨h1,h2⟩:=List.getElem?_zip_eq_some.mp hz;obtain⟨v1,g1,j1⟩:=is1.get h1;obtain⟨v2,g2,j2⟩:=is2.get h2;refine⟨⟨vs1,vs2,s2.uN q1,s2.uN q2,(aQ.mp g1).1,(aQ.mp g2).1⟩,?_⟩;rintro v H3 ⟨p,a1,a2,rfl,hp,rfl,r1,r2⟩;have w1:=r1 vs1 (s2.uN q1);have w2:=r2 vs2 (s2.uN q2);rw[g1]at w1;cases w1;rw[g2]at w2;cases w2;exact⟨gY.upd hp,.tup (SqT.of gU) (.cons ((j1.ext s2).ext (gY.upd hp)) (.cons ((j2.ext s2).ext (gY.upd hp)) .nil))⟩
     ·have l1:=is1.length;have l2:=is2.length;simp only[af,List.length_zip];lia
end
def GD (K:gG)(g:TG)(gg:Dt->DE->gF DE):Prop:=∀ H x d σ δ δ' (Q:St->Hp->Prop),Is K H x d->Sat K H σ δ->gg d δ=My δ'->(∀ σ',Sat K H σ' δ'->Q σ' H)->g x σ H Q
def ggN (i:Nat):Dt->DE->gF DE:=λ d δ=>My (δ.set i (My d))
def pI (i j:Nat):Dt->DE->gF DE:=λ d δ=>match d with
 | .tup [x,y]=>My ((δ.set i (My x)).set j (My y))
 | _=>SY
theorem Hs {i j:Nat}{d:Dt}{δ δ':DE}(e:pI i j d δ=My δ'):∃ x y,d=.tup [x,y]/\δ'=(δ.set i (My x)).set j (My y):=by
 cases d with
 | tup l=>cases l with
  | nil=>cases e
  | cons x l=>cases l with
   | nil=>cases e
   | cons y l=>cases l with
    | nil=>exact⟨x,y,rfl,(ao e).symm⟩
    | cons _ _=>cases e
 | _=>cases e
theorem ku {K:gG}{i:Nat}:GD K (iA i) (ggN i):=λ H x d σ δ δ' Q h S e q=>by cases e;exact q _ (S.set h)
theorem nZ {K:gG}{i j:Nat}:GD K (GF K 2 (u4 (iA i) (u4 (iA j) GC))) (pI i j):=λ H x d σ δ δ' Q h S e q=>by
 obtain⟨d1,d2,rfl,rfl⟩:=Hs e;obtain⟨a,xs,rfl,hq,is⟩:=h.ik;cases is with
 | cons i1 i2 =>
  cases i2 with
  | cons i2 i3 =>cases i3;exact⟨a,_,rfl,hq,rfl,_,_,rfl,_,_,rfl,rfl,q _ ((S.set i1).set i2)⟩
def vf (own:List Str)(ix:List Nat)(δ:DE):DE:=own.map (λ _=>SY)++ix.map λ i=>(δ[i]?).getD SY
def si (gg:Dt->DE->gF DE)(gt:DE->gF Bool)(ge:DE->gF Dt)(δc:DE):List Dt->gF (List Dt)
 | []=>My []
 | d::r=>(gg d δc).bind λ δ'=>(gt δ').bind λ b=>if b=S_ then (ge δ').bind λ y=>(si gg gt ge δc r).map (y::·) else si gg gt ge δc r
def gLC (own:List Str)(ix:List Nat)(gi:DE->gF (List Dt))(gg:Dt->DE->gF DE)(gt:DE->gF Bool)(ge:DE->gF Dt):DE->gF Dt :=
 λ δ=>(gi δ).bind λ ds=>if ds.length<=1000 then (si gg gt ge (vf own ix δ) ds).map .lst else SY
def lY:DE->gF Bool:=λ _=>My S_
section
variable {X:Cx}{e a b c:Expr}{es:List Expr}{pos:Pos}{tg iter elt:Expr}{ifs:List Expr}{own fr:List Str}{ix:List Nat}{scope:Scope}{g:TG}{gg:Dt->DE->gF DE}{gi:DE->gF (List Dt)}{gt:DE->gF Bool}{ge:DE->gF Dt}
theorem uP:PF X [] (tDT X.K lY):=λ pins s σ H Q I ⟨δ,b,S,e,q⟩=>by cases e;exact Dm pins s σ H Q I (q H (gY.refl H))
theorem qE (h:PDT X c gt):PF X [c] (tDT X.K gt):=MX h
set_option tactic.hygienic true in
theorem Ht {K:gG}(hgd:GD K g gg)(σ:St)(H:Hp)(Q:VK)(h:tD K (gLC own ix gi gg gt ge) σ H Q):tLC own ix (iD K gi) g (tDT K gt) (tD K ge) σ H Q:=by
 obtain⟨δ,d,S,e,q⟩:=h;obtain⟨ds,e1,e⟩:=gP e;split at e
 ·rename_i hlen
  obtain⟨rs,e2,e⟩:=il e;subst e;refine⟨δ,ds,S,e1,λ J H1 s1 ok=>?_⟩;refine⟨λ i m ys H'=>m=ds.length-i/\i<=ds.length/\gY H1 H'/\ys.length<=i/\∃ us vs,Iss K H' ys us/\si gg gt ge (vf own ix δ) (ds.drop i)=My vs/\us++vs=rs,⟨_,rfl,aN _,gY.refl _,ay _,[],rs,.nil,by simpa using e2,rfl⟩,?_⟩;rintro i m ys H' ⟨rfl,hi,s2,hy,us,vs,is,e3,e4⟩;obtain⟨items,stop⟩:=ok H' s2;by_cases hlt:i<ds.length
  ·right
   have hdi:ds[i]?=My ds[i]:=by simp[hlt]
   obtain⟨go,yld⟩:=items i _ hdi;refine⟨go,by have:=uD;rw[sizeLine_eq];lia,λ x H'' hyl=>?_⟩;obtain⟨s3,ix3⟩:=yld x H'' hyl;rw[el hlt]at e3;obtain⟨δ',f1,e3⟩:=gP (show(gg ds[i] (vf own ix δ)).bind _=_ from e3);obtain⟨k,f2,e3⟩:=gP e3;have S':Sat K H'' (ko own ix σ) (vf own ix δ):=(S.ext ((s1.trans s2).trans s3)).comp;refine hgd H'' x ds[i] _ _ δ' _ ix3 S' f1 λ σ' Sσ=>⟨δ',k,Sσ,f2,λ H3 s4=>?_⟩;cases k with
   | true =>rw[ai rfl]at e3 ⊢;obtain⟨y,f3,e3⟩:=gP e3;obtain⟨r,f4,e3⟩:=il e3;subst e3;refine⟨δ',y,Sσ.ext s4,f3,λ v H4 s5 iv=>⟨ds.length-(i+1),by lia,rfl,hlt,((s2.trans s3).trans s4).trans s5,by simp;lia,us++[y],r,(is.ext ((s3.trans s4).trans s5)).snoc iv,f4,by rw[<-e4];simp⟩⟩
   | false =>rw[ak aw]at e3 ⊢;exact⟨ds.length-(i+1),by lia,rfl,hlt,(s2.trans s3).trans s4,by lia,us,vs,is.ext (s3.trans s4),e3,e4⟩
  ·left
   have hi:i=ds.length:=by lia
   subst hi;rw[List.drop_length]at e3;cases e3;rw[bA]at e4;subst e4;exact⟨stop,λ p hp=>q _ _ ((s1.trans s2).trans (gY.upd hp)) (.lst gU (is.ext (gY.upd hp)))⟩
 ·cases e
theorem Ax (hc:X.calm=S_)(S:lJ X scope own fr ix)(hi:PI X tg iter (iD X.K gi))(hg:∀ C s H fp,PG (X.comp (own++fr) scope C s H fp) tg g)(hgo:Dn own.length g)(hgd:GD X.K g gg)
  (ht:∀ C s H fp,PF (X.comp (own++fr) scope C s H fp) ifs (tDT X.K gt)) (he:∀ C s H fp,PE (X.comp (own++fr) scope C s H fp) elt (tD X.K ge)) (hs:∀ x,foldedSetIterable iter X.env x=pure x:=by intro _;rfl) :
  PD X (.ListComp elt [⟨tg,iter,ifs,0⟩] scope pos) (gLC own ix gi gg gt ge):=(LO hc S hi hg hgo ht he hs).of (Ht hgd)
inductive RD where
 | nx (δ:DE) | rt (d:Dt)
def Q_ (K:gG)(D:Ends)(H:Hp):RD->Prop
 | .nx δ=>∀ σ,Sat K H σ δ->D.nx σ H
 | .rt d=>∀ v,Is K H v d->D.rt v H
def tDS (K:gG)(g:DE->gF RD):TS:=λ D σ H=>∃ δ r,Sat K H σ δ/\g δ=My r/\∀ H',gY H H'->Q_ K D H' r
variable {st:Stmt}{rest sts:List Stmt}{gs gs':DE->gF RD}{ga:DE->gF Dt}
abbrev PDS (X:Cx)(st:Stmt)(g:DE->gF RD):Prop:=PS X st (tDS X.K g)
abbrev Ay (X:Cx)(st:List Stmt)(g:DE->gF RD):Prop:=PSs X st (tDS X.K g)
def lx (g g':DE->gF RD):DE->gF RD:=λ δ=>(g δ).bind λ r=>match r with
 | .nx δ'=>g' δ'
 | .rt d=>My (.rt d)
theorem jh:Ay X [] (λ δ=>My (.nx δ)):=nU.of λ D σ H ⟨δ,r,S,e,q⟩=>by cases e;exact q H (gY.refl H) σ S
theorem iJ (h1:PDS X st gs)(h2:Ay X rest gs'):Ay X (st::rest) (lx gs gs'):=(gZ h1 h2).of λ D σ H hz1=>by
 obtain⟨δ,r,S,e,q⟩:=hz1;obtain⟨r1,e1,e⟩:=gP e;refine⟨δ,r1,S,e1,λ H1 s1=>?_⟩;cases r1 with
 | nx δ'=>exact λ σ' S'=>⟨δ',r,S',e,λ H2 s2=>q H2 (s1.trans s2)⟩
 | rt d=>cases e;exact q H1 s1
theorem iq (h1:PDS X st gs):Ay X [st] gs:=iK h1
def ky:DE->gF RD:=λ δ=>My (.nx δ)
def kU (i:Nat)(g:DE->gF Dt):DE->gF RD:=λ δ=>(g δ).map λ d=>.nx (δ.set i (My d))
theorem jS {i:Nat}{x:Str}{pos':Pos}(hN:X.N.Nodup)(he:PD X e ga)(hi:X.N[i]?=My x:=by rfl)(hx:Loc X.env.scope x:=by trivial)(hs:swapsWith e (My (.Name x pos')) pos.line X.env=pure Ta:=by rfl)(hf:X.fn x=S_\/X.env.scope.names.lookup x=My .local:=by trivial) :
  PDS X (.Assign [.Name x pos'] e pos) (kU i ga):=(iI hN hi hx he hs hf).of λ D σ H hz2=>by
 obtain⟨δ,r,S,e,q⟩:=hz2;obtain⟨d,e1,e⟩:=il e;subst e;exact⟨δ,d,S,e1,λ v H1 s1 i1=>q H1 s1 _ ((S.ext s1).set i1)⟩
theorem BJ {i:Nat}{x:Str}{px spos:Pos}(hN:X.N.Nodup)(hc:X.calm=S_)(S:lJ X scope own fr ix)(hi:PI X tg iter (iD X.K gi))(hg:∀ C s H fp,PG (X.comp (own++fr) scope C s H fp) tg g)(hgo:Dn own.length g)(hgd:GD X.K g gg)
  (ht:∀ C s H fp,PF (X.comp (own++fr) scope C s H fp) ifs (tDT X.K gt)) (he:∀ C s H fp,PE (X.comp (own++fr) scope C s H fp) elt (tD X.K ge)) (hi':X.N[i]?=My x:=by rfl) (hx:Loc X.env.scope x:=by trivial)
  (hsw:swapsWith (.ListComp elt [⟨tg,iter,ifs,0⟩] scope pos) (My (.Name x px)) spos.line X.env=pure S_:=by rfl) (hf:X.fn x=S_\/X.env.scope.names.lookup x=My .local:=by trivial) (hs:∀ x,foldedSetIterable iter X.env x=pure x:=by intro _;rfl) :
  PDS X (.Assign [.Name x px] (.ListComp elt [⟨tg,iter,ifs,0⟩] scope pos) spos) (kU i (gLC own ix gi gg gt ge)):=(LP hN hi' hx hc S hi hg hgo ht he hsw hf hs).of λ D σ H hz3=>by
 obtain⟨δ,r,S,e,q⟩:=hz3;obtain⟨d,e1,e⟩:=il e;subst e;exact Ht hgd σ H _ ⟨δ,d,S,e1,λ v H1 s1 i1=>q H1 s1 _ ((S.ext s1).set i1)⟩
def Ds (gg:Dt->DE->gF DE)(g:DE->gF Dt):DE->gF RD:=λ δ=>(g δ).bind λ d=>(gg d δ).map .nx
theorem Az (he:PD X e ga)(hg:PG X tg g)(hgd:GD X.K g gg)(hs:swapsWithSole [tg] e pos.line X.env=pure Ta:=by rfl)(hw:swappedStores [tg] e X.env=pure SY:=by rfl)
  (h1:(assignEach [tg] X.env).map (·.2)=[assign tg X.env]:=by rfl):PDS X (.Assign [tg] e pos) (Ds gg ga):=(zY he hg hs hw h1).of λ D σ H hz4=>by
 obtain⟨δ,r,S,e,q⟩:=hz4;obtain⟨d,e1,e⟩:=gP e;obtain⟨δ',e2,e⟩:=il e;subst e;exact⟨δ,d,S,e1,λ v H1 s1 i1=>hgd H1 v d σ δ δ' _ i1 (S.ext s1) e2 λ σ' S'=>q H1 s1 σ' S'⟩
def kN (g:DE->gF Dt):DE->gF RD:=λ δ=>(g δ).map .rt
theorem iY (he:PD X e ga):PDS X (.Return (My e) pos) (kN ga):=(lu he).of λ D σ H hz5=>by obtain⟨δ,r,S,e,q⟩:=hz5;obtain⟨d,e1,e⟩:=il e;subst e;exact⟨δ,d,S,e1,λ v H1 s1 i1=>q H1 s1 v i1⟩
def Ez (g:DE->gF Dt):DE->gF RD:=λ δ=>(g δ).map λ _=>.nx δ
def oD (gc:DE->gF Bool)(g g':DE->gF RD):DE->gF RD:=λ δ=>(gc δ).bind λ k=>if k=S_ then g δ else g' δ
theorem mQ {gc:DE->gF Bool}{sa sb:List Stmt}(hc:PDT X c gc)(ha:Ay X sa gs)(hb:Ay X sb gs'):PDS X (.If c sa sb pos) (oD gc gs gs'):=(sQ hc ha hb).of λ D σ H hz7=>by
 obtain⟨δ,r,S,e,q⟩:=hz7;obtain⟨k,e1,e⟩:=gP e;refine⟨δ,k,S,e1,λ H1 s1=>?_⟩;cases k with
 | true=>rw[ai rfl]at e ⊢;exact⟨δ,r,S.ext s1,e,λ H2 s2=>q H2 (s1.trans s2)⟩
 | false=>rw[ak aw]at e ⊢;exact⟨δ,r,S.ext s1,e,λ H2 s2=>q H2 (s1.trans s2)⟩
def n_ (gg:Dt->DE->gF DE)(gb:DE->gF RD):DE->List Dt->gF RD
 | δ,[]=>My (.nx δ)
 | δ,d::r=>(gg d δ).bind λ δ'=>(gb δ').bind λ x=>match x with
  | .nx δ''=>n_ gg gb δ'' r
  | .rt v=>My (.rt v)
def BK (gi:DE->gF (List Dt))(gg:Dt->DE->gF DE)(gb:DE->gF RD):DE->gF RD:=λ δ=>(gi δ).bind λ ds=>n_ gg gb δ ds
theorem AA {body:List Stmt}(hp:PassesOwn (model X.prog X.w) X.A X.env X.xe)(hc:X.calm=S_)(hi:PI X tg iter (iD X.K gi))(hg:PG X tg g)(hgd:GD X.K g gg)(hb:Ay X body gs)
  (hs:∀ x,foldedSetIterable iter X.env x=pure x:=by intro _;rfl):PDS X (.For tg iter body [] pos) (BK gi gg gs):=(nB hp hc hi hg hb hs).of λ D σ H hz8=>by
 obtain⟨δ,r,S,e,q⟩:=hz8;obtain⟨ds,e1,e⟩:=gP e;refine⟨δ,ds,S,e1,λ J H1 s1 ok=>?_⟩;refine⟨λ i m σ' H'=>m=ds.length-i/\i<=ds.length/\gY H1 H'/\∃ δ',Sat X.K H' σ' δ'/\n_ gg gs δ' (ds.drop i)=My r,⟨_,rfl,aN _,gY.refl _,δ,S.ext s1,by simpa using e⟩,?_⟩;rintro i m σ' H' ⟨rfl,hi,s2,δ',S',e3⟩;obtain⟨items,stop⟩:=ok H' s2;by_cases hlt:i<ds.length
 ·right
  have hdi:ds[i]?=My ds[i]:=by simp[hlt]
  obtain⟨go,yld⟩:=items i _ hdi;rw[el hlt]at e3;obtain⟨δ1,f1,e3⟩:=gP (show(gg ds[i] δ').bind _=_ from e3);obtain⟨x,f2,e3⟩:=gP e3;refine⟨go,λ σ2 H2=>∃ δ2,x=.nx δ2/\gY H1 H2/\Sat X.K H2 σ2 δ2,?_,λ v H'' hyl=>?_⟩
  ·rintro σ2 H2 ⟨δ2,rfl,s5,S5⟩;exact⟨_,by lia,rfl,hlt,s5,δ2,S5,e3⟩
  ·obtain⟨s3,iv⟩:=yld v H'' hyl
   refine hgd H'' v ds[i] σ' δ' δ1 _ iv (S'.ext s3) f1 λ σ2 S2=>⟨δ1,x,S2,f2,λ H3 s4=>?_⟩;cases x with
   | nx δ2=>exact λ σ3 S3=>⟨δ2,rfl,(s2.trans s3).trans s4,S3⟩
   | rt d=>cases e3;exact q H3 (((s1.trans s2).trans s3).trans s4)
 ·left
  have hi:i=ds.length:=by lia
  subst hi;rw[List.drop_length]at e3;cases e3;exact⟨stop,q H' (s1.trans s2) σ' S'⟩
end
def M8:RD->Dt
 | .rt d=>d
 | .nx _=>.non
def pJ (N:List Str)(ds:List Dt):DE:=ds.map My++Td (N.length-ds.length) SY
section
variable {P:Program}{w:World}{K:gG}{mg:gD}{base:Heap}
theorem Fun.okD {x qual:Str}{st:Stmt}{f:Addr}{fd:FuncData}{N ps:List Str}{k:Nat}{fD:List Dt->gF Dt}{g:DE->gF RD}(F:Fun K x qual st f fd)(S:ie N ps (gW st))
  (hbody:∀ (cdv:gH) (A:Around) (outer:List Env) (s:gJ) (H:Hp) (E:XK),jt k (A.deeper (envOfC qual (gW st) s.heap.objs.size f cdv)) ->
   PSs (qo CX0 P w K mg base N qual (gW st) f cdv A outer s H E).nox (iW st) (tDS K g))
  (hg:∀ ds d,ds.length=ps.length->fD ds=My d->∃ r,g (pJ N ds)=My r/\M8 r=d):pj P w K mg base CX0 (k+1) f fd ps (spD K ps.length fD):=by
 refine F.ok S (λ vs H Q E h=>?_) (λ cdv A outer s H vs Q E hr h=>?_)
 ·obtain⟨ds,d,hl,is,_⟩:=h;rw[is.length,hl]
 ·obtain⟨ds,d,hl,is,e,q⟩:=h
  obtain⟨r,e1,e2⟩:=hg ds d hl e;refine⟨_,hbody cdv A outer s H E hr,pJ N ds,r,is.start,e1,λ H' s'=>?_⟩;cases r with
  | nx δ=>subst e2;exact λ σ _=>q _ H' s' .non
  | rt d'=>subst e2;exact λ v iv=>q v H' s' iv
end
section
variable {X:Cx}{e a b c:Expr}{es:List Expr}{pos:Pos}
theorem opD {f:gH->gH->Sem gH}{r:R2}{fD:Dt->Dt->gF Dt}(h:OpR X f r)(w:∀ x y H Q dx dy d,Is X.K H x dx->Is X.K H y dy->fD dx dy=My d->(∀ v H',gY H H'->Is X.K H' v d->Q v H')->r x y H Q):OpR X f (rD X.K fD) :=
 λ pins s σ H x y v u Q I rx ry ⟨dx,dy,d,i1,i2,e,q⟩=>h pins s σ H x y v u Q I rx ry (w x y H Q dx dy d i1 i2 e q)
theorem zx {f:gH}{r:List V->Hp->VK->Prop}{fD:List Dt->gF Dt}(h:jB X f r)(w:∀ xs H Q ds d,Iss X.K H xs ds->fD ds=My d->(∀ v H',gY H H'->Is X.K H' v d->Q v H')->r xs H Q):jB X f (cD X.K fD) :=
 λ pins s σ H xs us Q I rx ⟨ds,d,i1,e,q⟩=>h pins s σ H xs us Q I rx (w xs H Q ds d i1 e q)
def dI (g:Int->Int->Int):Dt->Dt->gF Dt
 | .int i,.int j=>My (.int (g i j))
 | _,_=>SY
def dIB (g:Int->Int->Bool):Dt->Dt->gF Dt
 | .int i,.int j=>My (.bl (g i j))
 | _,_=>SY
def bd (i:Int):Prop:=i.natAbs<2 ^ 4000
instance (i:Int):Decidable (bd i):=inferInstanceAs (Decidable (i.natAbs<2 ^ 4000))
theorem M9 {g:Int->Int->Int}{x y d:Dt}(h:dI g x y=My d):∃ i j,x=.int i/\y=.int j/\d=.int (g i j):=by
 cases x with
 | int i=>cases y with
  | int j=>exact⟨_,_,rfl,rfl,(ao h).symm⟩
  | _=>cases h
 | _=>cases h
theorem JY {g:Int->Int->Bool}{x y d:Dt}(h:dIB g x y=My d):∃ i j,x=.int i/\y=.int j/\d=.bl (g i j):=by
 cases x with
 | int i=>cases y with
  | int j=>exact⟨_,_,rfl,rfl,(ao h).symm⟩
  | _=>cases h
 | _=>cases h
theorem oI0 {f:gH->gH->Sem gH}{g:Int->Int->Int}(h:OpR X f (rI0 λ i j=>.int (g i j))):OpR X f (rD X.K (dI g)):=opD h λ x y H Q dx dy d i1 i2 e q=>by obtain⟨i,j,rfl,rfl,rfl⟩:=M9 e;exact⟨i,j,i1.int_inv,i2.int_inv,q _ H (gY.refl H) (.int _)⟩
theorem oB0 {f:gH->gH->Sem gH}{g:Int->Int->Bool}(h:OpR X f (rI0 λ i j=>.bl (g i j))):OpR X f (rD X.K (dIB g)):=opD h λ x y H Q dx dy d i1 i2 e q=>by obtain⟨i,j,rfl,rfl,rfl⟩:=JY e;exact⟨i,j,i1.int_inv,i2.int_inv,q _ H (gY.refl H) (.bl _)⟩
theorem rP:OpR X (binaryOp .Add) (rD X.K (dI (·+·))):=oI0 qt
theorem Hu:OpR X (binaryOp .Sub) (rD X.K (dI (·-·))):=oI0 zZ
theorem FE:OpR X (compareOp .Lt) (rD X.K (dIB λ i j=>decide (i<j))):=oB0 LD
theorem FF:OpR X (compareOp .LtE) (rD X.K (dIB λ i j=>decide (i<=j))):=oB0 OV
mutual
inductive Sh:Dt->Dt->Prop
 | int (i j:Int):Sh (.int i) (.int j)
 | bl (i j:Bool):Sh (.bl i) (.bl j)
 | str (i j:Str):Sh (.str i) (.str j)
 | tup {ds es:List Dt}:Shs ds es->Sh (.tup ds) (.tup es)
inductive Shs:List Dt->List Dt->Prop
 | nil (es:List Dt):Shs [] es
 | SN (es:List Dt):Shs es []
 | cons {d e:Dt} {ds es:List Dt}:Sh d e->Shs ds es->Shs (d::ds) (e::es)
end
mutual
def dEq:Dt->Dt->Bool
 | .int i,.int j=>i==j
 | .bl i,.bl j=>i==j
 | .str i,.str j=>i==j
 | .tup ds,.tup es=>mV ds es
 | _,_=>Ta
def mV:List Dt->List Dt->Bool
 | [],[]=>S_
 | d::ds,e::es=>dEq d e&&mV ds es
 | _,_=>Ta
end
def sh1:Dt->Dt->Bool
 | .int _,.int _=>S_
 | .bl _,.bl _=>S_
 | .str _,.str _=>S_
 | _,_=>Ta
def vH:List Dt->List Dt->Bool
 | d::ds,e::es=>sh1 d e&&vH ds es
 | _,_=>S_
def sh2:Dt->Dt->Bool
 | .tup ds,.tup es=>vH ds es
 | d,e=>sh1 d e
def AB:List Dt->List Dt->Bool
 | d::ds,e::es=>sh2 d e&&AB ds es
 | _,_=>S_
def sh3:Dt->Dt->Bool
 | .tup ds,.tup es=>AB ds es
 | d,e=>sh1 d e
theorem yJ (e:Nat->Bool):∀ (n:Nat),(Tc (n+1)).all e=(e 0&&(Tc n).all λ i=>e (i+1)):=λ n=>by rw[List.range_succ_eq_map,List.all_cons,eY];rfl
def eAt (ds es:List Dt)(j:Nat):Bool:=match ds[j]?,es[j]? with
 | some d,My e=>dEq d e
 | _,_=>Ta
theorem EA:∀ (ds es:List Dt),((Tc (min ds.length es.length)).all (eAt ds es)&&ds.length==es.length)=mV ds es
 | [],[]=>rfl
 | [],e::es=>by simp[mV]
 | d::ds,[]=>by simp[mV]
 | d::ds,e::es=>by
  have ih:=EA ds es;rw[mV,<-ih];simp only[bK];rw[Nat.succ_min_succ,yJ];have:(λ i=>eAt (d::ds) (e::es) (i+1))=eAt ds es:=by funext i;simp[eAt]
  rw[this];have h0:eAt (d::ds) (e::es) 0=dEq d e:=rfl;rw[h0,Bool.and_assoc];congr 2;simp
variable {pins:gL}{σ:St}{H:Hp}{s:gJ}
theorem Iss.vals {xs:List V}{ds:List Dt}(I:Inv X pins σ H s)(is:Iss X.K H xs ds){its:List gH}(r:Vals xs its){j:Nat}{d:Dt}(h:ds[j]?=My d):∃ v u,its[j]?=My u/\RelV v u/\Is X.K H v d:=by obtain⟨v,hv,iv⟩:=is.get h;obtain⟨u,hu,ru⟩:=r.get hv;exact⟨v,u,hu,ru,iv⟩
end
open PySem.SeqAt
section
variable {X:Cx}{e a b c:Expr}{es:List Expr}{pos:Pos}{pins:gL}{σ:St}{H:Hp}{s:gJ}
theorem AD {i j:Int}:dEq (.int i) (.int j)=(i==j):=by simp[dEq]
theorem Hv {i j:Bool}:dEq (.bl i) (.bl j)=(i==j):=by simp[dEq]
theorem AE {i j:Str}:dEq (.str i) (.str j)=(i==j):=by simp[dEq]
theorem AF {i j:List Dt}:dEq (.tup i) (.tup j)=mV i j:=by simp[dEq]
theorem EB {A:Around}{d d':Dt}{v v':V}{u u':gH}(sh:sh1 d d'=S_)(i:Is X.K H v d)(i':Is X.K H v' d')(r:RelV v u)(r':RelV v' u'):EqAt A s u u' (dEq d d'):=by
 cases d<;>cases d'<;>simp[sh1]at sh
 ·rw[i.jR]at r;rw[i'.jR]at r';cases r;cases r';rw[Hv];exact EqAt.bool_bool _ _
 ·rw[i.int_inv]at r;rw[i'.int_inv]at r';obtain⟨t,rfl⟩:=r;obtain⟨t',rfl⟩:=r';rw[AD];exact EqAt.int_int _ _ _ _
 ·rw[i.str_inv]at r;rw[i'.str_inv]at r';obtain⟨t,rfl⟩:=r;obtain⟨t',rfl⟩:=r';rw[AE];exact EqAt.str_str _ _ _ _
theorem Pd {d d':Dt}{v:V}(sh:sh1 d d'=S_)(i:Is X.K H v d)(i':Is X.K H v d'):dEq d d'=S_:=by
 cases d<;>cases d'<;>simp[sh1]at sh
 ·have:=i.jR.symm.trans i'.jR;cases this;simp[dEq]
 ·have:=i.int_inv.symm.trans i'.int_inv;cases this;simp[dEq]
 ·have:=i.str_inv.symm.trans i'.str_inv;cases this;simp[dEq]
theorem Hw:∀ {ds es:List Dt} {vs:List V},vH ds es=S_->Iss X.K H vs ds->Iss X.K H vs es->mV ds es=S_
 | [],[],_,_,_,_=>by simp[mV]
 | [],e::es,_,_,i,j=>by cases i;cases j
 | d::ds,[],_,_,i,j=>by cases j;cases i
 | d::ds,e::es,_,h,i,j=>by
  cases i with
  | cons i1 i2 =>
   cases j with
   | cons j1 j2 =>rw[vH,aL]at h;rw[mV,Pd h.1 i1 j1,Hw h.2 i2 j2];rfl
theorem tw:∀ {ds es:List Dt},vH ds es=S_->∀ {j:Nat} {d e:Dt},ds[j]?=My d->es[j]?=My e->sh1 d e=S_
 | [],_,_,j,d,e,h,_=>by simp at h
 | _::_,[],_,j,d,e,_,h=>by simp at h
 | d::ds,e::es,h,0,_,_,h1,h2=>by rw[vH,aL]at h;simp at h1 h2;subst h1;subst h2;exact h.1
 | d::ds,e::es,h,j+1,_,_,h1,h2=>by rw[vH,aL]at h;exact tw h.2 (by simpa using h1) (by simpa using h2)
theorem tE:∀ {ds es:List Dt},AB ds es=S_->∀ {j:Nat} {d e:Dt},ds[j]?=My d->es[j]?=My e->sh2 d e=S_
 | [],_,_,j,d,e,h,_=>by simp at h
 | _::_,[],_,j,d,e,_,h=>by simp at h
 | d::ds,e::es,h,0,_,_,h1,h2=>by rw[AB,aL]at h;simp at h1 h2;subst h1;subst h2;exact h.1
 | d::ds,e::es,h,j+1,_,_,h1,h2=>by rw[AB,aL]at h;exact tE h.2 (by simpa using h1) (by simpa using h2)
theorem rm {A:Around}{ds es:List Dt}{xs ys:List V}{its its':List gH}(is:Iss X.K H xs ds)(js:Iss X.K H ys es)(r:Vals xs its)(r':Vals ys its')
  (h:∀ {j:Nat} {d e:Dt} {v v':V} {u u':gH},ds[j]?=My d->es[j]?=My e->Is X.K H v d->Is X.K H v' e->RelV v u->RelV v' u'->EqAt A s u u' (dEq d e)) :
  ∀ j (h1:j<its.toArray.size) (h2:j<its'.toArray.size),EqAt A s its.toArray[j] its'.toArray[j] (eAt ds es j):=by
 intro j h1 h2;have l1:=is.length;have l2:=js.length;have l3:=r.length;have l4:=r'.length;simp only[au]at h1 h2;have hd:ds[j]?=My (ds[j]'(by lia)):=by simp[show j<ds.length by lia]
 have he:es[j]?=My (es[j]'(by lia)):=by simp[show j<es.length by lia]
 obtain⟨v,hv,iv⟩:=is.get hd;obtain⟨v',hv',iv'⟩:=js.get he;obtain⟨u,hu,ru⟩:=r.get hv;obtain⟨u',hu',ru'⟩:=r'.get hv';have e1:its[j]=u:=by rw[aF h1]at hu;exact ao hu
 have e2:its'[j]=u':=by rw[aF h2]at hu';exact ao hu'
 have e3:eAt ds es j=dEq (ds[j]'(by lia)) (es[j]'(by lia)):=by unfold eAt;rw[hd,he]
 rw[e3];simp only[List.getElem_toArray,e1,e2];exact h hd he iv iv' ru ru'
theorem oO {ds es:List Dt}{xs ys:List V}{its its':List gH}(is:Iss X.K H xs ds)(js:Iss X.K H ys es)(r:Vals xs its)(r':Vals ys its') :
  ((Tc (min its.toArray.size its'.toArray.size)).all (eAt ds es)&&its.toArray.size==its'.toArray.size)=mV ds es:=by
 rw[<-EA,au,au,<-r.length,<-r'.length,is.length,js.length]
theorem JZ {d d':Dt}(sh:sh2 d d'=S_)(ht:¬ ∃ ds es,d=.tup ds/\d'=.tup es):sh1 d d'=S_:=by
 cases d with
 | tup ds=>cases d' with
  | tup es=>exact(ht ⟨_,_,rfl,rfl⟩).elim
  | _=>exact sh
 | _=>exact sh
theorem EC {d d':Dt}(sh:sh3 d d'=S_)(ht:¬ ∃ ds es,d=.tup ds/\d'=.tup es):sh1 d d'=S_:=by
 cases d with
 | tup ds=>cases d' with
  | tup es=>exact(ht ⟨_,_,rfl,rfl⟩).elim
  | _=>exact sh
 | _=>exact sh
theorem ED {A:Around}(I:Inv X pins σ H s)(hu:A.units<cLine){d d':Dt}{v v':V}{u u':gH}(sh:sh2 d d'=S_)(i:Is X.K H v d)(i':Is X.K H v' d')(r:RelV v u)(r':RelV v' u'):EqAt A s u u' (dEq d d'):=by
 by_cases ht:∃ ds es,d=.tup ds/\d'=.tup es
 ·obtain⟨ds,es,rfl,rfl⟩:=ht
  obtain⟨p,xs,rfl,hp,is⟩:=i.ik;obtain⟨q,ys,rfl,hq,js⟩:=i'.ik;cases r;cases r';have sh:vH ds es=S_:=sh;rw[AF];by_cases hpq:p=q
  ·subst hpq;have:=I.uA hp hq;subst this;rw[Hw sh is js];exact EqAt.same _
  ·obtain⟨its,rv,t1,_⟩:=I.tuple hp
   obtain⟨its',rv',t2,_⟩:=I.tuple hq;refine EqAt.of_refs hpq ?_;have:=RcAt.tuples (A:=A) (s:=s) (l:=p) (b:=q) (items:=its.toArray) (items2:=its'.toArray) (e:=eAt ds es) t1 t2 hu
    (rm is js rv rv' λ h1 h2 i1 i2 r1 r2=>EB (tw sh h1 h2) i1 i2 r1 r2)
   rw[oO is js rv rv']at this;exact this
 ·have sh:=JZ sh ht;exact EB sh i i' r r'
def oP:Dt->Dt->gF Dt:=λ d d'=>if sh3 d d'=S_ then My (.bl (dEq d d')) else SY
def mD:Dt->Dt->gF Dt:=λ d d'=>if sh3 d d'=S_ then My (.bl (!dEq d d')) else SY
theorem Hx {d d' r:Dt}(h:oP d d'=My r):sh3 d d'=S_/\r=.bl (dEq d d'):=by
 unfold oP at h;split at h
 ·cases h;exact⟨by assumption,rfl⟩
 ·cases h
theorem Hy {d d' r:Dt}(h:mD d d'=My r):sh3 d d'=S_/\r=.bl (!dEq d d'):=by
 unfold mD at h;split at h
 ·cases h;exact⟨by assumption,rfl⟩
 ·cases h
theorem EE {d d':Dt}{v v':V}(sh:sh1 d d'=S_)(i:Is X.K H v d)(i':Is X.K H v' d'):MC v v'=S_/\decide (v=v')=dEq d d':=by
 cases d with
 | bl b=>cases d' with
  | bl c=>rw[i.jR,i'.jR,Hv];exact⟨rfl,CW⟩
  | _=>cases sh
 | int b=>cases d' with
  | int c=>rw[i.int_inv,i'.int_inv,AD];exact⟨rfl,Aa⟩
  | _=>cases sh
 | str b=>cases d' with
  | str c=>rw[i.str_inv,i'.str_inv,AE];exact⟨rfl,Ab⟩
  | _=>cases sh
 | _=>cases sh
theorem AG (hu:X.A.units+2<cLine):OpR X (compareOp .Eq) (rD X.K oP):=by
 intro pins s σ H x y v u Q I rx ry ⟨d,d',r,i,i',e,q⟩;obtain⟨sh,rfl⟩:=Hx e;by_cases ht:∃ ds es,d=.tup ds/\d'=.tup es
 ·obtain⟨ds,es,rfl,rfl⟩:=ht;obtain⟨p,xs,rfl,hp,is⟩:=i.ik;obtain⟨p',ys,rfl,hq,js⟩:=i'.ik;cases rx;cases ry;have sh:AB ds es=S_:=sh;obtain⟨its,rv,t1,_⟩:=I.tuple hp;obtain⟨its',rv',t2,_⟩:=I.tuple hq;refine eq_tupleAt (e:=eAt ds es) t1 t2 (by lia) (rm is js rv rv' λ h1 h2 i1 i2 r1 r2=>ED I (by show X.A.units+1<cLine;lia) (tE sh h1 h2) i1 i2 r1 r2) ?_;rw[oO is js rv rv'];exact⟨.bl _,H,I,rfl,q _ H (gY.refl H) (by rw[AF];exact .bl _)⟩
 ·have sh:=EC sh ht;obtain⟨s1,s2⟩:=EE sh i i';exact LB pins s σ H x y v u Q I rx ry ⟨s1,by rw[s2];exact q _ H (gY.refl H) (.bl _)⟩
theorem xk (hu:X.A.units+2<cLine):OpR X (compareOp .NotEq) (rD X.K mD):=by
 intro pins s σ H x y v u Q I rx ry ⟨d,d',r,i,i',e,q⟩;obtain⟨sh,rfl⟩:=Hy e;by_cases ht:∃ ds es,d=.tup ds/\d'=.tup es
 ·obtain⟨ds,es,rfl,rfl⟩:=ht;obtain⟨p,xs,rfl,hp,is⟩:=i.ik;obtain⟨p',ys,rfl,hq,js⟩:=i'.ik;cases rx;cases ry;have sh:AB ds es=S_:=sh;obtain⟨its,rv,t1,_⟩:=I.tuple hp;obtain⟨its',rv',t2,_⟩:=I.tuple hq;have:=RcNeAt.tuples (A:=X.A) (s:=s) (l:=p) (b:=p') (items:=its.toArray) (items2:=its'.toArray) (e:=eAt ds es) t1 t2 (by lia) (rm is js rv rv' λ h1 h2 i1 i2 r1 r2=>ED I (by show X.A.units+1<cLine;lia) (tE sh h1 h2) i1 i2 r1 r2);rw[oO is js rv rv']at this;exact this X.prog X.w X.xe _ ⟨.bl _,H,I,rfl,q _ H (gY.refl H) (by rw[AF];exact .bl _)⟩
 ·have sh:=EC sh ht;obtain⟨s1,s2⟩:=EE sh i i';exact LC pins s σ H x y v u Q I rx ry ⟨s1,by rw[s2];exact q _ H (gY.refl H) (.bl _)⟩
def vI:Dt->gF Int
 | .int i=>My i
 | _=>SY
def og:List Dt->gF (List Int)
 | []=>My []
 | d::ds=>(vI d).bind λ i=>(og ds).map (i::·)
theorem mE {d:Dt}{i:Int}(h:vI d=My i):d=.int i:=by cases d<;>simp[vI]at h;rw[h]
theorem nh:∀ {ds:List Dt} {l:List Int},og ds=My l->ds=l.map .int
 | [],l,h=>by cases h;rfl
 | d::ds,l,h=>by obtain⟨i,e1,h⟩:=gP h;obtain⟨r,e2,h⟩:=il h;subst h;rw[mE e1,nh e2];rfl
@[simp] theorem rn (l:List Int):og (l.map .int)=My l:=by
 induction l with
 | nil=>rfl
 | cons i r ih=>show(My i).bind (λ i=>(og (r.map .int)).map (i::·))=_;rw[ih];rfl
def Hz:Dt->Dt->gF Dt
 | .tup ds,.tup es=>(og ds).bind λ ns=>(og es).map λ ms=>.bl (HT.lexLt ns ms)
 | _,_=>SY
theorem HA {x y d:Dt}(e:Hz x y=My d):∃ ns ms:List Int,x=.tup (ns.map .int)/\y=.tup (ms.map .int)/\d=.bl (HT.lexLt ns ms):=by
 cases x with
 | tup ds=>cases y with
  | tup es =>obtain⟨ns,e1,e⟩:=gP (show(og ds).bind _=_ from e);obtain⟨ms,e2,e⟩:=il e;exact⟨ns,ms,by rw[nh e1],by rw[nh e2],e.symm⟩
  | _=>cases e
 | _=>cases e
theorem Pe (hu:X.A.units<cLine):OpR X (compareOp .Lt) (rD X.K Hz):=opD (MI hu) λ x y H Q dx dy d i1 i2 e q=>by obtain⟨ns,ms,rfl,rfl,rfl⟩:=HA e;obtain⟨a,xs,rfl,ha,is⟩:=i1.ik;obtain⟨b,ys,rfl,hb,js⟩:=i2.ik;rw[is.ints]at ha;rw[js.ints]at hb;exact⟨a,b,ns,ms,rfl,rfl,ha,hb,q _ H (gY.refl H) (.bl _)⟩
end
section
variable {X:Cx}{e a b c:Expr}{es:List Expr}{pos:Pos}{pins:gL}{σ:St}{H:Hp}{s:gJ}
def dIx:Dt->Dt->gF Dt
 | .tup ds,.int i=>atI ds i
 | .lst ds,.int i=>atI ds i
 | _,_=>SY
theorem Iss.atI {K:gG}{xs:List V}{ds:List Dt}{i:Int}{d:Dt}(is:Iss K H xs ds)(h:atI ds i=My d):∃ v,L2.atI xs i=My v/\Is K H v d:=by unfold L2.atI at h ⊢;obtain⟨j,e1,e2⟩:=gP h;obtain⟨v,hv,iv⟩:=is.get e2;exact⟨v,by rw[is.length,e1];exact hv,iv⟩
theorem J0 {d d' r:Dt}(e:dIx d d'=My r):∃ l k,(d=.tup l\/d=.lst l)/\d'=.int k/\L2.atI l k=My r:=by
 cases d with
 | tup l=>cases d' with
  | int k=>exact⟨l,k,.inl rfl,rfl,e⟩
  | _=>cases e
 | lst l=>cases d' with
  | int k=>exact⟨l,k,.inr rfl,rfl,e⟩
  | _=>cases e
 | _=>cases e
theorem Ra:IxR X (rD X.K dIx):=by
 intro value slice pins s σ H x y v u Q I rx ry ⟨d,d',r,i,i',e,q⟩ hs;obtain⟨l,k,hd,rfl,e⟩:=J0 e;rcases hd with rfl | rfl
 ·obtain⟨p,xs,rfl,hp,is⟩:=i.ik;obtain⟨w,hw,iw⟩:=is.atI e;exact rY value slice pins s σ H _ y v u Q I rx ry ⟨p,xs,_,w,rfl,i'.int_inv,hp,hw,q _ H (gY.refl H) iw⟩ hs
 ·obtain⟨p,xs,rfl,hp,is⟩:=i.lst_inv;obtain⟨w,hw,iw⟩:=is.atI e;exact kr value slice pins s σ H _ y v u Q I rx ry ⟨p,xs,_,w,rfl,i'.int_inv,SqL.of hp,hw,q _ H (gY.refl H) iw⟩ hs
theorem kq {ga gb:DE->gF Dt}(ha:PD X a ga)(hb:PD X b gb)(hs:Eb b:=by exact λ _ _=>rfl):PD X (.Subscript a b pos) (g_ dIx ga gb):=(lD Ra ha hb hs).of Ar
def R_:Dt->gF Dt
 | .tup (_::ds)=>My (.tup ds)
 | _=>SY
theorem FG {x:V}{xs:List V}:vE (x::xs) (My 1) SY=xs:=by
 unfold vE;have e1:HT.sIx (x::xs).length 0 (My 1)=1:=by have:=HT.nV (x::xs).length 0 1;rw[show((1:Nat):Int)=1 from rfl]at this;rw[this];simp
 rw[e1,HT.wN];simp
def rM:Dt->Dt->gF Dt
 | .lst ds,.lst es=>if ds.length+es.length<=1000 then My (.lst (ds++es)) else SY
 | _,_=>SY
theorem HB {x y d:Dt}(e:rM x y=My d):∃ ds es,x=.lst ds/\y=.lst es/\ds.length+es.length<=1000/\d=.lst (ds++es):=by
 cases x with
 | lst ds=>cases y with
  | lst es =>
   have e:(if ds.length+es.length<=1000 then My (Dt.lst (ds++es)) else SY)=My d:=e;by_cases hl:ds.length+es.length<=1000
   ·rw[ai hl]at e;exact⟨_,_,rfl,rfl,hl,(ao e).symm⟩
   ·rw[ak hl]at e;cases e
  | _=>cases e
 | _=>cases e
theorem qg:OpR X (binaryOp .Add) (rD X.K rM):=opD GQ λ x y H Q dx dy d i1 i2 e q=>by obtain⟨ds,es,rfl,rfl,hl,rfl⟩:=HB e;obtain⟨a,xs,rfl,ha,is⟩:=i1.lst_inv;obtain⟨b,ys,rfl,hb,js⟩:=i2.lst_inv;exact⟨a,b,xs,ys,rfl,rfl,ha,hb,rl (by rw[is.length,js.length];exact hl),λ p hp=>q _ _ (gY.upd hp) (.lst gU ((is.append js).ext (gY.upd hp)))⟩
def FI:Dt->Dt->gF Dt
 | .lst [d],.int k=>if 0<=k/\k<=1000 then My (.lst (Td k.toNat d)) else SY
 | _,_=>SY
theorem BL {α:Type}(x:α):∀ n,(Td n [x]).flatten=Td n x
 | 0=>rfl
 | n+1=>by rw[cS,d8,BL x n];rfl
theorem Iss.rep {K:gG}{v:V}{d:Dt}(h:Is K H v d):∀ n,Iss K H (Td n v) (Td n d)
 | 0=>.nil
 | n+1=>.cons h (Iss.rep h n)
theorem HC {x y d:Dt}(e:FI x y=My d):∃ d0 k,x=.lst [d0]/\y=.int k/\(0<=k/\k<=1000)/\d=.lst (Td k.toNat d0):=by
 cases x with
 | lst ds=>cases ds with
  | nil=>cases e
  | cons d0 r=>cases r with
   | cons _ _=>cases e
   | nil=>cases y with
    | int k =>
     have e:(if 0<=k/\k<=1000 then My (Dt.lst (Td k.toNat d0)) else SY)=My d:=e;by_cases hk:0<=k/\k<=1000
     ·rw[ai hk]at e;exact⟨_,_,rfl,rfl,hk,(ao e).symm⟩
     ·rw[ak hk]at e;cases e
    | _=>cases e
 | _=>cases e
theorem LX:OpR X (binaryOp .Mult) (rD X.K FI):=opD GR λ x y H Q dx dy d i1 i2 e q=>by
 obtain⟨d0,k,rfl,rfl,hk,rfl⟩:=HC e;obtain⟨a,xs,rfl,ha,is⟩:=i1.lst_inv;cases is with
 | cons j1 j2 =>cases j2;refine⟨a,k,_,rfl,i2.int_inv,ha,by lia,by lia,rl (by simp;lia),λ p hp=>q _ _ (gY.upd hp) (.lst gU ?_)⟩;rw[BL];exact(Iss.rep j1 _).ext (gY.upd hp)
theorem Iss.one {K:gG}{xs:List V}{d:Dt}(h:Iss K H xs [d]):∃ v,xs=[v]/\Is K H v d:=by
 cases h with
 | cons h1 h2=>cases h2;exact⟨_,rfl,h1⟩
theorem Iss.two {K:gG}{xs:List V}{d d':Dt}(h:Iss K H xs [d,d']):∃ v v',xs=[v,v']/\Is K H v d/\Is K H v' d':=by
 cases h with
 | cons h1 h2=>obtain⟨v',rfl,h3⟩:=h2.one;exact⟨_,_,rfl,h1,h3⟩
def sj (F:Dt->gF Dt):List Dt->gF Dt
 | [x]=>F x
 | _=>SY
@[simp] theorem Pf (F:Dt->gF Dt) (x:Dt):sj F [x]=F x:=rfl
theorem kf {F:Dt->gF Dt}{ds:List Dt}{d:Dt}(e:sj F ds=My d):∃ x,ds=[x]/\F x=My d:=by
 cases ds with
 | nil=>cases e
 | cons x r=>cases r with
  | nil=>exact⟨x,rfl,e⟩
  | cons _ _=>cases e
def Du (F:Dt->Dt->gF Dt):List Dt->gF Dt
 | [x,y]=>F x y
 | _=>SY
@[simp] theorem Pg (F:Dt->Dt->gF Dt) (x y:Dt):Du F [x,y]=F x y:=rfl
theorem oQ {F:Dt->Dt->gF Dt}{ds:List Dt}{d:Dt}(e:Du F ds=My d):∃ x y,ds=[x,y]/\F x y=My d:=by
 cases ds with
 | nil=>cases e
 | cons x r=>cases r with
  | nil=>cases e
  | cons y z=>cases z with
   | nil=>exact⟨x,y,rfl,e⟩
   | cons _ _=>cases e
def HD:Dt->gF (List Dt)
 | .tup ds=>My ds
 | .lst ds=>My ds
 | _=>SY
theorem tF {x:Dt}{l:List Dt}(e:HD x=My l):x=.tup l\/x=.lst l:=by
 cases x with
 | tup ds=>exact .inl (by rw[ao e])
 | lst ds=>exact .inr (by rw[ao e])
 | _=>cases e
def qF:List Dt->gF Dt:=sj λ x=>(HD x).map λ ds=>.int ds.length
theorem zy:jB X (.builtin "len") (cD X.K qF):=zx kL λ xs H Q ds d is e q=>by
 obtain⟨x,rfl,e⟩:=kf e;obtain⟨l,e0,rfl⟩:=il e;obtain⟨v,rfl,i⟩:=is.one;rcases tF e0 with rfl | rfl
 ·obtain⟨a,ys,rfl,ha,js⟩:=i.ik;exact⟨a,ys,rfl,.inr ha,by rw[js.length];exact q _ H (gY.refl H) (.int _)⟩
 ·obtain⟨a,ys,rfl,ha,js⟩:=i.lst_inv;exact⟨a,ys,rfl,.inl (SqL.of ha),by rw[js.length];exact q _ H (gY.refl H) (.int _)⟩
def Dv:Dt->gF (List Dt)
 | .tup ds=>My ds
 | _=>SY
theorem oR {x:Dt}{l:List Dt}(e:Dv x=My l):x=.tup l:=by
 cases x with
 | tup ds=>rw[ao e]
 | _=>cases e
def pr2:List Dt->gF (Int×Int)
 | [x,y]=>(vI x).bind λ a=>(vI y).map λ b=>(a,b)
 | _=>SY
theorem EF {l:List Dt}{t:Int×Int}(e:pr2 l=My t):l=[.int t.1,.int t.2]:=by
 cases l with
 | nil=>cases e
 | cons x r=>cases r with
  | nil=>cases e
  | cons y z=>cases z with
   | cons _ _=>cases e
   | nil =>obtain⟨a,e1,e2⟩:=gP (show(vI x).bind _=_ from e);obtain⟨b,e3,e4⟩:=il e2;rw[mE e1,mE e3,<-e4]
@[simp] theorem QR (a b:Int):pr2 [.int a,.int b]=My (a,b):=rfl
def M_:Dt->gF (List (Int×Int))
 | .dct ds=>My ds
 | _=>SY
theorem BM {x:Dt}{l:List (Int×Int)}(e:M_ x=My l):x=.dct l:=by
 cases x with
 | dct ds=>rw[ao e]
 | _=>cases e
def EG:List Dt->gF Dt:=sj λ x=>(M_ x).map λ ds=>.int ds.length
theorem FJ:jB X (.builtin "len") (λ xs H Q=>∃ a kvs,xs=[V.ref a]/\Rd H a (.dK kvs)/\Q (.int kvs.length) H):=by intro pins s σ H xs us Q I r h;obtain⟨a,kvs,rfl,ha,q⟩:=h;obtain⟨u,rfl,ru⟩:=vals1 r;cases ru;exact O4 I ha λ t s' I'=>⟨.int kvs.length,H,I',⟨t,rfl⟩,q⟩
theorem Na:jB X (.builtin "len") (cD X.K EG):=zx FJ λ xs H Q ds d is e q=>by obtain⟨x,rfl,e1⟩:=kf e;obtain⟨l,e2,rfl⟩:=il e1;obtain rfl:=BM e2;obtain⟨v,rfl,i⟩:=is.one;obtain⟨a,rfl,ha⟩:=i.nX;exact⟨a,_,rfl,ha,by rw[kvD,af];exact q _ H (gY.refl H) (.int _)⟩
def xl (l:List Dt):gF Dt:=(pr2 l).map λ t=>.int (if t.2<t.1 then t.2 else t.1)
def xm (l:List Dt):gF Dt:=(pr2 l).map λ t=>.int (if t.2>t.1 then t.2 else t.1)
theorem Dw (hc:X.calm=S_):jB X (.builtin "min") (cD X.K xl):=zx (uF hc) λ xs H Q ds d is e q=>by obtain⟨l,e1,rfl⟩:=il e;obtain rfl:=EF e1;obtain⟨v,v',rfl,i1,i2⟩:=is.two;exact⟨_,_,by rw[i1.int_inv,i2.int_inv],q _ H (gY.refl H) (.int _)⟩
theorem Dx (hc:X.calm=S_):jB X (.builtin "max") (cD X.K xm):=zx (uE hc) λ xs H Q ds d is e q=>by obtain⟨l,e1,rfl⟩:=il e;obtain rfl:=EF e1;obtain⟨v,v',rfl,i1,i2⟩:=is.two;exact⟨_,_,by rw[i1.int_inv,i2.int_inv],q _ H (gY.refl H) (.int _)⟩
def oE:List Dt->gF Dt:=sj λ x=>(HD x).map .tup
theorem tG:jB X (.type "tuple") (cD X.K oE):=zx oC λ xs H Q ds d is e q=>by
 obtain⟨x,rfl,e⟩:=kf e;obtain⟨l,e0,rfl⟩:=il e;obtain⟨v,rfl,i⟩:=is.one;rcases tF e0 with rfl | rfl
 ·obtain⟨a,ys,rfl,ha,js⟩:=i.ik;exact⟨a,ys,rfl,.inr ⟨ha,q _ H (gY.refl H) (.tup ha js)⟩⟩
 ·obtain⟨a,ys,rfl,ha,js⟩:=i.lst_inv;exact⟨a,ys,rfl,.inl ⟨SqL.of ha,λ p hp=>q _ _ (gY.upd hp) (.tup (SqT.of gU) (js.ext (gY.upd hp)))⟩⟩
def tyD:Dt->gF String
 | .ty T=>My T
 | _=>SY
theorem J6 {x:Dt}{T:String}(e:tyD x=My T):x=.ty T:=by
 cases x with
 | ty T=>rw[ao e]
 | _=>cases e
def yK:List Dt->gF (List Bool)
 | []=>My []
 | d::ds=>(asB d).bind λ i=>(yK ds).map (i::·)
theorem tH:∀ {ds:List Dt} {l:List Bool},yK ds=My l->ds=l.map .bl
 | [],l,h=>by cases h;rfl
 | d::ds,l,h=>by obtain⟨i,e1,h⟩:=gP h;obtain⟨r,e2,h⟩:=il h;subst h;rw[tq e1,tH e2];rfl
@[simp] theorem xn (l:List Bool):yK (l.map .bl)=My l:=by
 induction l with
 | nil=>rfl
 | cons i r ih=>show(My i).bind (λ i=>(yK (r.map .bl)).map (i::·))=_;rw[ih];rfl
def uQ:Dt->gF (List Dt)
 | .lst ds=>My ds
 | _=>SY
theorem kW {x:Dt}{l:List Dt}(e:uQ x=My l):x=.lst l:=by
 cases x with
 | lst ds=>rw[ao e]
 | _=>cases e
def xo:List Dt->gF Dt:=sj λ x=>(uQ x).bind λ ds=>(yK ds).map λ l=>.bl (l.all id)
theorem J9 {K:gG}{xs:List V}{l:List Bool}(h:Iss K H xs (l.map .bl)):xs=l.map V.bl:=by
 induction l generalizing xs with
 | nil=>cases h;rfl
 | cons b r ih=>cases h with | cons h1 h2=>rw[h1.jR,ih h2];rfl
theorem BN:∀ {l:List Bool} {its:List gH},Vals (l.map V.bl) its->its=l.map Value.bool
 | [],_,.nil=>rfl
 | b::r,_,.cons h t=>by cases h;rw[BN t];rfl
theorem yL (l:List Bool):(Tc l.length).all (λ i=>l.getD i S_)=l.all id:=by
 rw[bj];simp only[bT,aC,id];constructor
 ·intro h x hx;obtain⟨i,hi,rfl⟩:=b_ hx;have:=h i hi;rw[aG,aF hi]at this;exact this
 ·intro h i hi;rw[aG,aF hi];exact h _ (cX hi)
theorem FK {prog:Program}{w:World}{A:Around}{E:gE}{l:Addr}{arr:Array gH}{Q:gE}(hl:s.heap.IsList l arr)
  (h:∀ s2:gJ,s2={s with heap:=s.heap.push {cls:=.type "list_iterator",data:=.fields #[.ref l,.int 0 0]}}->s2.heap.IsListIter s.heap.objs.size l 0->s2.heap.IsList l arr->l≠s.heap.objs.size->(∀ b∈[s.heap.objs.size,l],b<s2.heap.objs.size)->Q (.ref s.heap.objs.size) s2) :
  wpAny (model prog w) A (pyIter (.ref l)) Q E s:=by
 have hlt:l<s.heap.objs.size:=by obtain⟨_,e,_⟩:=hl;exact ar e
 refine eQ hl (h _ rfl ⟨_,aE _ rfl,rfl,rfl⟩ (hl.push _) (aM hlt) λ b hb=>?_);simp only[cG];simp only[aB,bw,or_false]at hb;rcases hb with rfl | rfl
 ·exact dR _
 ·exact dE hlt
theorem J_ {h':Heap}{o:Obj}(hk:∀ b u,b∉[s.heap.objs.size]->(s.heap.push o).get? b=My u->h'.get? b=My u):∀ b u,s.heap.get? b=My u->h'.get? b=My u:=λ b u e =>hk b u (λ hm=>absurd (ar e) (by rw[bp.mp hm];exact aW _)) (ah _ e)
theorem EH (hc:X.calm=S_):jB X (.builtin "all") (cD X.K xo):=by
 intro pins s σ H xs us Q I rs ⟨ds,d,is,e,q⟩;obtain⟨x,rfl,e2⟩:=kf e;obtain⟨l,e0,e3⟩:=gP e2;obtain rfl:=kW e0;clear e e2 e0
 ·obtain⟨bs,e1,e⟩:=il e3
  subst e;have e1:=tH e1;subst e1;obtain⟨v,rfl,i⟩:=is.one;obtain⟨p,ys,rfl,hp,js⟩:=i.lst_inv;obtain⟨u,rfl,ru⟩:=vals1 rs;cases ru;obtain⟨its,rv,pl,_⟩:=I.list (SqL.of hp);rw[J9 js]at rv;have e2:=BN rv;subst e2;refine call_all_walk (FK pl.isList λ s2 es hi hl ne hfp=>?_);refine⟨_,_,_,_,_,_,λ i=>bs.getD i S_,rfl,Walks.list (A:=X.A.in1) (I.ok.hd hc) _ p ne _,⟨hi,hl⟩,?_,λ h' tk hk=>?_⟩
  ·intro i v s' Q' E' hv hq
   have hv:(bs.map Value.bool)[i]?=My v:=by simpa using hv
   rw[aK]at hv;cases hb:bs[i]? with
   | none=>rw[hb]at hv;cases hv
   | some k =>rw[hb]at hv;cases hv;refine bU ?_;have hq:Q' (bs.getD i S_) s':=hq;rw[aG,hb]at hq;exact hq
  ·subst es
   refine⟨.bl (bs.all id),H,I.kept (t':=tk) (J_ hk),?_,q _ H (gY.refl H) (.bl _)⟩;have:(Tc (bs.map Value.bool).toArray.size).all (λ i=>bs.getD i S_)=bs.all id:=by rw[au,af,yL]
   rw[this];rfl
def tI (srt:List Int->List Int):List Dt->gF Dt:=sj λ x=>(uQ x).bind λ ds=>if ds.length<64 then (og ds).map λ l=>.lst ((srt l).map .int) else SY
theorem qh:∀ {us:List gH} {ns:List Int},IntsAre us ns->Vals (ns.map V.int) us:=by
 intro us ns h;induction h with
 | nil=>exact .nil
 | cons n t _ ih=>exact .cons ⟨t,rfl⟩ ih
theorem BO (srt:List Int->List Int)(hp:∀ l,(srt l).Perm l)(hs:∀ l,(srt l).Pairwise (·<=·)):jB X (.builtin "sorted") (cD X.K (tI srt)):=by
 intro pins s σ H xs us Q I rs ⟨ds,d,is,e,q⟩;obtain⟨x,rfl,e2⟩:=kf e;obtain⟨l,e0,e3⟩:=gP e2;obtain rfl:=kW e0;clear e e2 e0
 ·by_cases h64:l.length<64
  ·rw[ai h64]at e3
   obtain⟨bs,e1,e⟩:=il e3;subst e;have e1:=nh e1;subst e1;obtain⟨v,rfl,i⟩:=is.one;obtain⟨p,ys,rfl,hp',js⟩:=i.lst_inv;obtain⟨u,rfl,ru⟩:=vals1 rs;cases ru;obtain⟨its,rv,pl,_⟩:=I.list (SqL.of hp');rw[js.ints]at rv;have hlen:its.length=bs.length:=by have:=rv.length;simpa using this.symm
   have h64:bs.length<64:=by simpa using h64
   refine sorted_ints pl.isList (intsAre_of rv) (by lia) λ out ns' ia pe pw=>?_;obtain⟨ep,he⟩:=sortedAll_at s.heap its out;have hns:ns'=srt bs:=by have p2:=pe.trans (hp bs).symm;exact p2.eq_of_pairwise (λ a b _ _ h1 h2=>Int.le_antisymm h1 h2) pw (hs bs)
   subst hns;have hnew:=I.laid (a:=s.heap.objs.size+1) (o:=.lst ((srt bs).map V.int)) (h':=sortedAll s.heap its out) (t':=s.toks) (λ b u e=>sortedAll_old e) (fY _) ⟨by rw[af,(hp bs).length_eq,sizeLine_eq];lia,out.toList,ep,qh ia,by simpa using he⟩;exact⟨.ref (s.heap.objs.size+1),_,hnew,rfl,q _ _ (gY.upd (I.hok.fresh (fY _))) (.lst gU (Iss.tj _))⟩
  ·rw[ak h64]at e3;cases e3
end
end L2
namespace L2
open PySem PySem.Spec PyProof.Rows Zp
section
variable {X:Cx}{e a b c:Expr}{es:List Expr}{pos:Pos}{tg:Expr}
theorem Nb {scope:Scope}{own fr:List Str}{ix:List Nat}(h1:scope.kind=.function:=by rfl)(h2:(scope.names.all λ x=>x.2 != .local || scope.names.lookup x.1==My .local)=S_:=by rfl)
  (h3:(scope.names.all λ x=>x.2 != .cell)=S_:=by rfl) (h4:(scope.names.all λ x=>x.2 != .free || (X.env.kindOf x.1==My .cell || X.env.kindOf x.1==My .free))=S_:=by rfl)
  (h5:(own.all λ x=>scope.names.lookup x==My .local)=S_:=by rfl) (h6:(fr.all λ x=>scope.names.lookup x==My .free)=S_:=by rfl) (h7:ix.map (λ i=>X.N[i]?)=fr.map My:=by rfl) (h8:(own++fr).Nodup:=by decide +kernel):lJ X scope own fr ix:=by
 simp only[bT,Bool.or_eq_true,bne_iff_ne,beq_iff_eq]at h2 h3 h4 h5 h6;refine⟨h1,λ x hx e=>?_,λ x hx=>h3 x hx,λ x hx e=>?_,h5,h6,h7,h8⟩
 ·rcases h2 x hx with z | z
  ·exact absurd e z
  ·exact z
 ·rcases h4 x hx with z | z
  ·exact absurd e z
  ·exact z
def kz:Dt->gF (List Dt)
 | .tup ds=>My ds
 | .lst ds=>My ds
 | _=>SY
theorem md {g:DE->gF Dt}(h:PD X e g):PI X tg e (iD X.K (gI kz g)):=λ pins s σ H R I hz1=>by
 obtain⟨δ,ds,S,q,k⟩:=hz1;obtain⟨x,e1,e2⟩:=gP q;cases x<;>simp[kz]at e2
 ·subst e2;exact M3 h pins s σ H R I ⟨δ,_,S,by unfold gI;rw[e1];rfl,k⟩
 ·subst e2;exact M4 h pins s σ H R I ⟨δ,_,S,by unfold gI;rw[e1];rfl,k⟩
def oU (gs:DE->gF (List Dt)):DE->gF (List Dt):=λ δ=>(gs δ).bind BH
def Nc (t1 t2:Bool)(gs:DE->gF (List Dt)):DE->gF (List Dt):=λ δ=>(gs δ).bind (JX t1 t2)
theorem vY {gs:DE->gF (List Dt)}{p:Pos}(hm:X.mg "range"=SY)(ha:PDs X [a] gs)(hg:Gl X "range":=by rfl)(hs:starEach [a] X.env=[(Ta,eval a X.env)]:=by rfl):PI X tg (.Call (.Name "range" p) [a] [] pos) (iD X.K (oU gs)):=FD hm ha hg hs
theorem Ph {gs:DE->gF (List Dt)}{elts:List Expr}{kk:Nat}{ps p:Pos}(t1 t2:Bool)(hm:X.mg "zip"=SY)(ha:PDs X [a,b] gs)(hg:Gl X "zip":=by rfl)(hs:starEach [a,b] X.env=[(Ta,eval a X.env),(Ta,eval b X.env)]:=by rfl)(hs2:starEach [b] X.env=[(Ta,eval b X.env)]:=by rfl):PI X (.Tuple elts kk ps) (.Call (.Name "zip" p) [a,b] [] pos) (iD X.K (Nc t1 t2 gs)):=M7 t1 t2 hm ha hg hs hs2 boot_zip
theorem hV {k:Nat}{A:Around}(hr:jt k A):A.units+2<cLine:=by have:=hr.units;lia
end
abbrev Hg (n:Nat)(N:List Str)(f:List Dt->gF Dt)(g:DE->gF RD):Prop:=∀ ds d,ds.length=n->f ds=My d->∃ r,g (pJ N ds)=My r/\M8 r=d
def srt (l:List Int):List Int:=l.mergeSort (λ a b=>decide (a<=b))
theorem lK (l:List Int):(srt l).Perm l:=List.mergeSort_perm ..
theorem nF (l:List Int):(srt l).Pairwise (·<=·):=by have:=List.pairwise_mergeSort (le:=λ a b:Int=>decide (a<=b)) (λ a b c h1 h2=>by simp at *;lia) (λ a b=>by simp;lia) l;exact this.imp λ h=>by simpa using h
def sm (q:Rat):Prop:=q.num.natAbs<2 ^ 1900/\q.den<2 ^ 1900
instance (q:Rat):Decidable (sm q):=inferInstanceAs (Decidable (_/\_))
theorem jy {α:Type}{enc:α->Dt}{gg:Dt->DE->gF DE}{gt:DE->gF Bool}{ge:DE->gF Dt}{δc:DE}{δa:α->DE}{p:α->Bool}{enc':α->Dt}:∀ (l:List α),(∀ a∈l,gg (enc a) δc=My (δa a)/\gt (δa a)=My (p a)/\(p a=S_->ge (δa a)=My (enc' a))) ->
  si gg gt ge δc (l.map enc)=My ((l.filter p).map enc')
 | [],_=>rfl
 | a::r,h=>by
  obtain⟨h1,h2,h3⟩:=h a av;have ih:=jy r λ b hb=>h b (ax _ hb);rw[aR,si,h1,aq,h2,aq,ih];cases hp:p a with
  | true=>rw[ai rfl,h3 hp,List.filter_cons_of_pos hp];rfl
  | false=>rw[ak aw,List.filter_cons_of_neg (by rw[hp];exact aw)]
theorem tJ {α:Type}{enc:α->Dt}{gg:Dt->DE->gF DE}{ge:DE->gF Dt}{δc:DE}{δa:α->DE}{enc':α->Dt}(l:List α)(h:∀ a∈l,gg (enc a) δc=My (δa a)/\ge (δa a)=My (enc' a)) :
  si gg lY ge δc (l.map enc)=My (l.map enc'):=by
 have:=jy (gt:=lY) (p:=λ _=>S_) l λ a ha=>⟨(h a ha).1,rfl,λ _=>(h a ha).2⟩;rw[this,List.filter_eq_self.mpr λ _ _=>rfl]
end L2
namespace L2
section
variable (δ:DE)(g g' g2:DE->gF Dt)(r r':DE->gF RD)(gs:DE->gF (List Dt))(t t':DE->gF Bool)(i j:Nat)(f f':Dt->Dt->gF Dt)(h:List Dt->gF Dt)(d:Dt)
@[simp] theorem Sa:lx r r' δ=(r δ).bind λ x=>match x with | .nx δ'=>r' δ' | .rt d=>My (.rt d):=rfl
@[simp] theorem Sb:kU i g δ=(g δ).map λ d=>.nx (δ.set i (My d)):=rfl
@[simp] theorem QS:hZ i h gs δ=(gs δ).bind λ ds=>if ds.length=i then h ds else SY:=rfl
@[simp] theorem Rb:iP h gs δ=(gs δ).bind h:=rfl
@[simp] theorem Rc:gN g gs δ=(g δ).bind λ x=>(gs δ).map λ r=>x::r:=rfl
@[simp] theorem QT:gS δ=My []:=rfl
@[simp] theorem Sd:gR i δ=(δ[i]?).join:=rfl
@[simp] theorem e_C:gC d δ=My d:=rfl
@[simp] theorem Se:g_ f g g' δ=(g δ).bind λ x=>(g' δ).bind λ y=>f x y:=rfl
@[simp] theorem Sf:kN g δ=(g δ).map .rt:=rfl
@[simp] theorem Rf:Ez g δ=(g δ).map λ _=>.nx δ:=rfl
@[simp] theorem Rg:ky δ=My (.nx δ):=rfl
@[simp] theorem Sg:oD t r r' δ=(t δ).bind λ k=>if k=S_ then r δ else r' δ:=rfl
@[simp] theorem SO:gIf t g g' δ=(t δ).bind λ k=>if k=S_ then g δ else g' δ:=rfl
@[simp] theorem Si:sg t t' δ=(t δ).bind λ k=>if k=S_ then My S_ else t' δ:=rfl
@[simp] theorem Rh:kC t δ=(t δ).map (!·):=rfl
@[simp] theorem SQ:gTr g δ=(g δ).bind FC:=rfl
@[simp] theorem e_B:gB g δ=(g δ).bind asB:=rfl
@[simp] theorem Sj:BF g g' δ=(gB g δ).bind λ k=>if k=S_ then g' δ else My (.bl Ta):=rfl
@[simp] theorem Sk:MZ g δ=(gB g δ).map λ k=>.bl (!k):=rfl
@[simp] theorem Sl:iZ gs δ=(gs δ).bind λ ds=>if ds.length<=1000 then My (.tup ds) else SY:=rfl
@[simp] theorem Sn:lX gs δ=(gs δ).bind λ ds=>if ds.length<=1000 then My (.lst ds) else SY:=rfl
@[simp] theorem QU:sf f f' g g' g2 δ=(g δ).bind λ x=>(g' δ).bind λ y=>(f x y).bind λ z=>(asB z).bind λ k=>if k=S_ then (g2 δ).bind λ w=>f' y w else My (.bl Ta):=rfl
@[simp] theorem Sq (gg:Dt->DE->gF DE):Ds gg g δ=(g δ).bind λ d=>(gg d δ).map .nx:=rfl
@[simp] theorem Rj (x y:Dt):pI i j (.tup [x,y]) δ=My ((δ.set i (My x)).set j (My y)):=rfl
@[simp] theorem Sr:ggN i d δ=My (δ.set i (My d)):=rfl
@[simp] theorem SR (own:List PySem.Str) (ix:List Nat) (gi:DE->gF (List Dt)) (gg:Dt->DE->gF DE):gLC own ix gi gg t g δ=(gi δ).bind λ ds=>if ds.length<=1000 then (si gg t g (vf own ix δ) ds).map .lst else SY:=rfl
@[simp] theorem Ss (gi:DE->gF (List Dt)) (gg:Dt->DE->gF DE):BK gi gg r δ=(gi δ).bind λ ds=>n_ gg r δ ds:=rfl
@[simp] theorem SS (f:Dt->gF (List Dt)):gI f g δ=(g δ).bind f:=rfl
@[simp] theorem Rk:oU gs δ=(gs δ).bind BH:=rfl
@[simp] theorem Su (t1 t2:Bool):Nc t1 t2 gs δ=(gs δ).bind (JX t1 t2):=rfl
@[simp] theorem Rl:lY δ=My S_:=rfl
@[simp] theorem Rm (own:List PySem.Str) (ix:List Nat):vf own ix δ=own.map (λ _=>SY)++ix.map λ i=>(δ[i]?).getD SY:=rfl
@[simp] theorem QV (N:List PySem.Str) (ds:List Dt):pJ N ds=ds.map My++Td (N.length-ds.length) SY:=rfl
@[simp] theorem Rn {α:Type} (x:α):Td 0 x=[]:=rfl
@[simp] theorem Ro {α:Type} (x:α):Td 1 x=[x]:=rfl
@[simp] theorem Rp {α:Type} (x:α):Td 2 x=[x,x]:=rfl
@[simp] theorem Rq {α:Type} (x:α):Td 3 x=[x,x,x]:=rfl
@[simp] theorem Rr {α:Type} (x:α):Td 4 x=[x,x,x,x]:=rfl
@[simp] theorem Rt (ds:List Dt):kz (.tup ds)=My ds:=rfl
@[simp] theorem Ru (ds:List Dt):kz (.lst ds)=My ds:=rfl
@[simp] theorem Rv (b:Bool):FC (.bl b)=My b:=rfl
@[simp] theorem Sv (b:Bool):asB (.bl b)=My b:=rfl
@[simp] theorem Rw (n:List Dt):qF [.tup n]=My (.int n.length):=rfl
@[simp] theorem Rx (n:List Dt):qF [.lst n]=My (.int n.length):=rfl
@[simp] theorem Ry (n:List (Int×Int)):EG [.dct n]=My (.int n.length):=rfl
@[simp] theorem Pj (n:List Dt):oE [.lst n]=My (.tup n):=rfl
@[simp] theorem Pk (n:List Dt):oE [.tup n]=My (.tup n):=rfl
@[simp] theorem SU (g:Int->Int->Int) (a b:Int):dI g (.int a) (.int b)=My (.int (g a b)):=rfl
@[simp] theorem Sw (g:Int->Int->Bool) (a b:Int):dIB g (.int a) (.int b)=My (.bl (g a b)):=rfl
@[simp] theorem SV (a b:Int):mD (.int a) (.int b)=My (.bl (!(a==b))):=rfl
@[simp] theorem SW (a b:Int):oP (.int a) (.int b)=My (.bl (a==b)):=rfl
@[simp] theorem Sx (a b:Bool):mD (.bl a) (.bl b)=My (.bl (!(a==b))):=rfl
@[simp] theorem Sy (a b:Bool):oP (.bl a) (.bl b)=My (.bl (a==b)):=rfl
@[simp] theorem Sz (ds:List Dt) (i:Int):dIx (.tup ds) (.int i)=atI ds i:=rfl
@[simp] theorem SA (ds:List Dt) (i:Int):dIx (.lst ds) (.int i)=atI ds i:=rfl
@[simp] theorem SD (x y:Dt):atI [x,y] 0=My x:=rfl
@[simp] theorem SE (x y:Dt):atI [x,y] 1=My y:=rfl
@[simp] theorem SF (l:List Bool):xo [.lst (l.map .bl)]=My (.bl (l.all id)):=by show(yK (l.map .bl)).map _=_;rw[xn];rfl
end
open PySem PySem.Spec PyProof.Rows Zp PySem.SeqAt
section
variable {X:Cx}{e a b c:Expr}{es:List Expr}{pos:Pos}{pins:gL}{σ:St}{H:Hp}{s:gJ}
def vg (kvs:List (Int×Int))(k:Int):gF Int:=(kvs.find? λ q=>decide (q.1=k)).map (·.2)
def FL:Dt->Dt->gF Dt
 | .dct kvs,.int k=>(vg kvs k).map .int
 | _,_=>SY
theorem BP (kvs:List (Int×Int))(k:Int):nD (kvD kvs) (Sum.inl k)=(vg kvs k).map V.int:=by unfold nD kvD vg;rw[List.find?_map];simp[dH]
theorem LY {ga gb:DE->gF Dt}(hu:X.A.units+1<cLine)(ha:PD X a ga)(hb:PD X b gb)(hs:MO b:=by exact λ _ _=>rfl):PD X (.Subscript a b pos) (g_ FL ga gb) :=
 (Ee hu ha hb hs).of λ σ H Q ⟨δ,d,S,e,q⟩=>by
  obtain⟨x,y,e1,e2,e3⟩:=tm e;refine⟨δ,x,S,e1,λ v H1 s1 i1=>⟨δ,y,S.ext s1,e2,λ w H2 s2 i2=>?_⟩⟩;match x,y,e3 with
  | .dct kvs,.int k,e3 =>obtain⟨r,e4,rfl⟩:=il (show(vg kvs k).map _=_ from e3);obtain⟨p,rfl,hp⟩:=(i1.ext s2).nX;have:=i2.int_inv;subst this;refine⟨p,.int r,rfl,?_,q _ H2 (s1.trans s2) (.int r)⟩;have g:wU H2 p (kV (Sum.inl k)) (nD (kvD kvs) (Sum.inl k)):=.inl ⟨kvD kvs,Sum.inl k,hp,rfl,rfl⟩;rw[BP,e4]at g;exact g
def qp (d:Dt)(es:List Dt):Bool:=es.any λ e=>dEq e d
def dIn (neg:Bool):Dt->Dt->gF Dt
 | d,.tup es=>if (es.all λ e=>sh2 e d)=S_ then My (.bl (if neg then !qp d es else qp d es)) else SY
 | d,.lst es=>if (es.all λ e=>sh2 e d)=S_ then My (.bl (if neg then !qp d es else qp d es)) else SY
 | _,_=>SY
open Classical in
def isIt (its:List gH)(es:List Dt)(d:Dt)(w:gH):Bool:=decide (∃ (j:Nat) (e:Dt),its[j]?=My w/\es[j]?=My e/\dEq e d=S_)
theorem tK {its:List gH}{es:List Dt}{d:Dt}{w:gH}:isIt its es d w=S_↔∃ (j:Nat) (e:Dt),its[j]?=My w/\es[j]?=My e/\dEq e d=S_:=by unfold isIt;exact @decide_eq_true_iff _ (Classical.propDecidable _)
theorem tL {xs:List V}{its:List gH}{es:List Dt}{d:Dt}(js:Iss X.K H xs es)(r:Vals xs its):its.any (isIt its es d)=qp d es:=by
 rw[bj,fk];unfold qp;rw[fk];constructor
 ·rintro⟨w,_,h⟩;obtain⟨j,e,h1,h2,h3⟩:=tK.mp h;exact⟨e,bg h2,h3⟩
 ·rintro⟨e,he,h⟩
  obtain⟨j,hj,ej⟩:=b_ he;have ej:es[j]?=My e:=by rw[aF hj,ej]
  obtain⟨v,hv,iv⟩:=js.get ej;obtain⟨u,hu,_⟩:=r.get hv;exact⟨u,bg hu,tK.mpr ⟨j,e,hu,ej,h⟩⟩
theorem vZ {A:Around}(I:Inv X pins σ H s)(hu:A.units<cLine){xs:List V}{its:List gH}{es:List Dt}{d:Dt}{x:V}{v:gH}(js:Iss X.K H xs es)(r:Vals xs its)(i:Is X.K H x d)(rx:RelV x v)
  (sh:(es.all λ e=>sh2 e d)=S_) (w:gH) (hw:w∈its):EqAt A s w v (isIt its es d w):=by
 have at_:∀ j e,its[j]?=My w->es[j]?=My e->EqAt A s w v (dEq e d):=λ j e h1 h2=>by obtain⟨y,u,hu',ru,iy⟩:=js.vals I r h2;rw[h1]at hu';cases hu';exact ED I hu (bT.mp sh e (bg h2)) iy i ru rx
 cases hq:isIt its es d w with
 | true =>obtain⟨j,e,h1,h2,h3⟩:=tK.mp hq;have:=at_ j e h1 h2;rw[h3]at this;exact this
 | false =>
  obtain⟨j,hj,ej⟩:=b_ hw;have hl:its.length=es.length:=by rw[<-r.length,js.length]
  have h1:its[j]?=My w:=by rw[aF hj,ej]
  have h2:es[j]?=My es[j]:=aF (by lia);have:=at_ j _ h1 h2;have n:¬ dEq es[j] d=S_:=λ z=>by rw[tK.mpr ⟨j,_,h1,h2,z⟩]at hq;cases hq
  rw[bx]at n;rw[n]at this;exact this
set_option tactic.hygienic true in
theorem Ka (hu:X.A.units+2<cLine):OpR X (compareOp .In) (rD X.K (dIn Ta)):=by
 intro pins s σ H x y v u Q I rx ry ⟨d,d',r,i,i',e,q⟩;have hu1:X.A.in1.units<cLine:=by have:X.A.in1.units=X.A.units+1:=rfl;lia
 cases d'<;>try (cases e;done)
 ·rename_i es
  have e:(if (es.all λ e=>sh2 e d)=S_ then My (Dt.bl (qp d es)) else SY)=My r:=e;split at e
  ·rename_i sh;cases e;obtain⟨p,xs,rfl,hp,js⟩:=i'.ik;cases ry;obtain⟨its,rv,pl,hz⟩:=I.tuple hp;refine in_tupleAt (isIt its es d) pl (λ w hw=>vZ I hu1 js rv i rx sh w (by simpa using hw)) ⟨.bl _,H,I,rfl,?_⟩;rw[fo,tL js rv];exact q _ H (gY.refl H) (.bl _)
  ·cases e
 ·rename_i es
  have e:(if (es.all λ e=>sh2 e d)=S_ then My (Dt.bl (qp d es)) else SY)=My r:=e;split at e
  ·rename_i sh;cases e;obtain⟨p,xs,rfl,hp,js⟩:=i'.lst_inv;cases ry;obtain⟨its,rv,pl,hz⟩:=I.list (SqL.of hp);refine in_listAt (isIt its es d) pl.isList (λ w hw=>vZ I hu1 js rv i rx sh w (by simpa using hw)) ⟨.bl _,H,I,rfl,?_⟩;rw[fo,tL js rv];exact q _ H (gY.refl H) (.bl _)
  ·cases e
set_option tactic.hygienic true in
theorem EI (hu:X.A.units+2<cLine):OpR X (compareOp .NotIn) (rD X.K (dIn S_)):=by
 intro pins s σ H x y v u Q I rx ry ⟨d,d',r,i,i',e,q⟩;have hu1:X.A.in1.units<cLine:=by have:X.A.in1.units=X.A.units+1:=rfl;lia
 cases d'<;>try (cases e;done)
 ·rename_i es
  have e:(if (es.all λ e=>sh2 e d)=S_ then My (Dt.bl (!qp d es)) else SY)=My r:=e;split at e
  ·rename_i sh;cases e;obtain⟨p,xs,rfl,hp,js⟩:=i'.ik;cases ry;obtain⟨its,rv,pl,hz⟩:=I.tuple hp;refine notIn_tupleAt (isIt its es d) pl (λ w hw=>vZ I hu1 js rv i rx sh w (by simpa using hw)) ⟨.bl _,H,I,rfl,?_⟩;rw[fo,tL js rv];exact q _ H (gY.refl H) (.bl _)
  ·cases e
 ·rename_i es
  have e:(if (es.all λ e=>sh2 e d)=S_ then My (Dt.bl (!qp d es)) else SY)=My r:=e;split at e
  ·rename_i sh;cases e;obtain⟨p,xs,rfl,hp,js⟩:=i'.lst_inv;cases ry;obtain⟨its,rv,pl,hz⟩:=I.list (SqL.of hp);refine notIn_listAt (isIt its es d) pl.isList (λ w hw=>vZ I hu1 js rv i rx sh w (by simpa using hw)) ⟨.bl _,H,I,rfl,?_⟩;rw[fo,tL js rv];exact q _ H (gY.refl H) (.bl _)
  ·cases e
def uR:Dt->gF Dt
 | .int i=>My (.int (-i))
 | _=>SY
def gUn (f:Dt->gF Dt)(g:DE->gF Dt):DE->gF Dt:=λ δ=>(g δ).bind f
theorem BQ {ga:DE->gF Dt}(ha:PD X a ga):PD X (.UnaryOp .USub a pos) (gUn uR ga):=(D7 z_ ha).of λ σ H Q ⟨δ,d,S,e,q⟩=>by
 obtain⟨x,e1,e2⟩:=gP e;match x,e2 with
 | .int i,e2 =>cases e2;exact⟨δ,_,S,e1,λ v H1 s1 i1=>⟨i,i1.int_inv,q _ H1 s1 (.int _)⟩⟩
end
open PySem.W Tb
section
variable {X:Cx}{pins:gL}{σ:St}{H:Hp}{s:gJ}
def xp (srt:List Int->List Int):List Dt->gF Dt
 | [.dct kvs]=>if kvs.length<64 then My (.lst ((srt (kvs.map (·.1))).map .int)) else SY
 | _=>SY
theorem tM:∀ {kvs:List (Int×Int)} {vs:List (Key×gH)} {us:List gH},KV (kvD kvs) vs->us.length=vs.length->(∀ (j:Nat) (v:gH),us[j]?=My v->∃ k x,vs[j]?=My (k,x)/\(jv X.prog X.w).is k v=S_)->IntsAre us (kvs.map (·.1))
 | [],vs,us,kv,hl,_=>by
  have:vs=[]:=by cases kv;rfl
  subst this;have:us=[]:=cB hl;subst this;exact .nil
 | (a,b)::r,vs,us,kv,hl,hu=>by
  cases kv with
  | @cons _ y _ ys h t =>
   match us,hl,hu with
   | u::us,hl,hu =>obtain⟨k,x,e1,e2⟩:=hu 0 u rfl;have e1:My y=My (k,x):=e1;cases e1;have e3:(Sum.inl a:Key)=k:=h.1;subst e3;have e2:wo (Sum.inl a) u=S_:=e2;obtain⟨t',e4⟩:=d3 (show Value.isInt a u=S_ from e2);subst e4;exact .cons a t' (tM t (by simpa using hl) λ j v hj=>hu (j+1) v (by simpa using hj))
set_option tactic.hygienic true in
theorem FN (srt:List Int->List Int)(hp:∀ l,(srt l).Perm l)(hs:∀ l,(srt l).Pairwise (·<=·))(hc:X.calm=S_):jB X (.builtin "sorted") (cD X.K (xp srt)):=by
 intro pins s σ H xs us Q I rs ⟨ds,d,is,e,q⟩;match ds,e with
 | [.dct kvs],e =>
  have e:(if kvs.length<64 then My (Dt.lst ((srt (kvs.map (·.1))).map .int)) else SY)=My d:=e;split at e
  ·rename_i h64
   cases e;obtain⟨v,rfl,i⟩:=is.one;obtain⟨a,rfl,ha⟩:=i.nX;obtain⟨u,rfl,ru⟩:=vals1 rs;cases ru;obtain⟨hz,lo,vs,kv,hD⟩:=zl I.hok ha;obtain⟨ep,hat⟩:=hD.dictAt;have hvl:vs.length=kvs.length:=by have:=kv.length;simpa [kvD] using this.symm
   obtain⟨m,hm,_⟩:=id I.loc;refine dh kind_sorted plain_sorted entry_sorted (args_sorted1 _) ?_;unfold Builtin.«sorted»;refine ae (m:=checkCount "sorted" 1 1 _) (ag (ae (kdu_collect (A:=X.A.in1) (kdl_dict (knd:=jv X.prog X.w) (kvs:=vs) (ep:=ep) lo) (I.ok.hd hc) hat (by rw[sizeLine_eq];lia) λ h1 tk acc hk hacc=>?_)));have hal:acc.toList.length=vs.length:=by rw[bt];exact hacc.1
   have hav:∀ (j:Nat) (v:gH),acc.toList[j]?=My v->∃ k x,vs[j]?=My (k,x)/\(jv X.prog X.w).is k v=S_:=λ j v e=>hacc.2 j v (by rw[<-aZ];exact e);generalize acc.toList=us at hal hav;have hI:=tM (X:=X) kv hal hav;refine ae (fv ?_ (by rw[sizeLine_eq];lia));have hL:X.env.locals<h1.objs.size:=by obtain⟨oL,_,_,ho,_⟩:=hm;exact ar (hk _ _ ho)
   have hD1:(h1.push {cls:=.type "list",data:=.seq us.toArray}).get? h1.objs.size=My (seqObj "list" us.toArray 0):=aE _ rfl;refine ae (bJ ?_);refine bS PyProof.Rows.slot_list_sort ⟨_,hD1,rfl⟩ PyProof.Rows.entry_list_sort (list_sort_tree (n:=0) (vs:=us) hD1 hI (by lia) λ out ns' hO hpe hpw=>⟨.none,rfl,?_⟩) (PyProof.Rows.args_list_sort _);refine ag ⟨_,rfl,?_⟩;have hns:ns'=srt (kvs.map (·.1)):=by have p2:=hpe.trans (hp (kvs.map (·.1))).symm;exact p2.eq_of_pairwise (λ a b _ _ h1 h2=>Int.le_antisymm h1 h2) hpw (hs _)
   subst hns;have old:∀ b o,s.heap.get? b=My o->(sortedHeap (h1.push {cls:=.type "list",data:=.seq us.toArray}) h1.objs.size us out).get? b=My o:=λ b o e=>by have hb:=hk b o e;have lt:=ar hb;rw[sortedHeap_old (aM lt) (aJ lt (by rw[size_push'];exact fY _))];exact ah _ hb
   obtain⟨c,hat'⟩:=sortedHeap_at (vs:=us) (out:=out) hD1;have hn:H h1.objs.size=SY:=by
    cases e:H h1.objs.size with
    | none=>rfl
    | some o =>obtain⟨o',ho'⟩:=tf (I.hok _ _ e);exact absurd (ar (hk _ _ ho')) (aW _)
   have new:jx X.prog X.w (upd H h1.objs.size (.lst ((srt (kvs.map (·.1))).map V.int))) (sortedHeap (h1.push {cls:=.type "list",data:=.seq us.toArray}) h1.objs.size us out) h1.objs.size (.lst ((srt (kvs.map (·.1))).map V.int)) :=
    ⟨by rw[af,(hp _).length_eq,af,sizeLine_eq];lia,out.toList,c,qh hO,hat'⟩
   have no:∀ b,(Att.jd s.heap).get? b=SY:=λ b=>cu (aN _);have I2:Inv X pins σ H {s with heap:=sortedHeap (h1.push {cls:=.type "list",data:=.seq us.toArray}) h1.objs.size us out,toks:=tk} :=
    I.pE hm ⟨hm.at' λ o e=>old _ o e,(λ b o e=>by rw[no]at e;cases e),aN _⟩ λ p hp=>let ⟨x,_,z⟩:=jA hp;⟨old _ _ z,x,no _⟩
   have I3:=I2.zu hn (bC I.ok.above (d_ hL)) (bM hL) (λ x c e z=>by
    obtain⟨v,o,ho,_⟩:=I.cell x c e;exact absurd (ar (hk _ _ ho)) (by rw[z];exact aW _)) (λ p hp z=>by
    exact absurd (ar (hk _ _ (I.pin p hp).1)) (by rw[z];exact aW _)) new
   exact⟨.ref h1.objs.size,_,I3,rfl,q _ _ (gY.upd hn) (.lst gU (Iss.tj _))⟩
  ·cases e
end
end L2
namespace L2
open PySem PySem.Spec PyProof.Rows Zp
section
variable {X:Cx}{a b e:Expr}{es:List Expr}{pos:Pos}
def Pl:Dt->gF Str
 | .str z=>My z
 | _=>SY
theorem HE {x:Dt}{z:Str}(e:Pl x=My z):x=.str z:=by
 cases x with
 | str y=>rw[ao e]
 | _=>cases e
end
section
variable {X:Cx}{a b e o:Expr}{es:List Expr}{pos:Pos}
def EJ:List Dt->gF (List Str)
 | []=>My []
 | d::ds=>(Pl d).bind λ z=>(EJ ds).map (z::·)
theorem zz {ds:List Dt}:∀ {l:List Str},EJ ds=My l->ds=l.map .str:=by
 induction ds with
 | nil=>intro l h;cases h;rfl
 | cons d ds ih =>intro l h;obtain⟨z,e1,h1⟩:=gP h;obtain⟨r,e2,h2⟩:=il h1;subst h2;rw[HE e1,ih e2];rfl
theorem Iss.ne {K:gG}{H:Hp}{vs:List V}{ds:List Dt}(h:Iss K H vs ds)(n:ds≠[]):vs≠[]:=by intro e;subst e;cases h;exact n rfl
def pK:List Dt->gF Dt:=sj λ x=>(HD x).map .lst
theorem xq:jB X (.type "list") (cD X.K pK):=zx Ag λ xs H Q ds d is e q=>by
 obtain⟨x,rfl,e1⟩:=kf e;obtain⟨l,e0,rfl⟩:=il e1;obtain⟨v,rfl,i⟩:=is.one;rcases tF e0 with rfl | rfl
 ·obtain⟨a,ys,rfl,ha,js⟩:=i.ik;exact⟨a,ys,rfl,.inr ha,λ p hp=>q _ _ (gY.upd hp) (.lst gU (js.ext (gY.upd hp)))⟩
 ·obtain⟨a,ys,rfl,ha,js⟩:=i.lst_inv;exact⟨a,ys,rfl,.inl (SqL.of ha),λ p hp=>q _ _ (gY.upd hp) (.lst gU (js.ext (gY.upd hp)))⟩
end
abbrev gO (k:Nat):Dt:=.int k
def gX (p:Nat×Nat):Dt:=.tup [gO p.1,gO p.2]
abbrev ip (l:gK):Dt:=.tup (l.map gX)
def hG (w:Nat×gK):Dt:=.tup [gO w.1,ip w.2]
def jD:Dt->gF Nat
 | .int i=>if 0<=i then My i.toNat else SY
 | _=>SY
theorem ju {d:Dt}{k:Nat}(h:jD d=My k):d=gO k:=by cases d<;>simp[jD]at h;rw[<-h.2,gO];congr 1;lia
@[simp] theorem iQ (k:Nat):jD (gO k)=My k:=by simp[jD,gO]
def Nd {α:Type}(F:Dt->Dt->gF α):List Dt->gF α
 | [x,y]=>F x y
 | _=>SY
theorem BR {α:Type}{F:Dt->Dt->gF α}{l:List Dt}{d:α}(e:Nd F l=My d):∃ x y,l=[x,y]/\F x y=My d:=by
 cases l with
 | nil=>cases e
 | cons x r=>cases r with
  | nil=>cases e
  | cons y z=>cases z with
   | nil=>exact⟨x,y,rfl,e⟩
   | cons _ _=>cases e
def dNP (d:Dt):gF (Nat×Nat):=(Dv d).bind (Nd λ x y=>(jD x).bind λ a=>(jD y).map λ b=>(a,b))
theorem Kb {d:Dt}{p:Nat×Nat}(h:dNP d=My p):d=gX p:=by obtain⟨l,e0,h⟩:=gP h;obtain⟨x,y,rfl,h⟩:=BR h;obtain⟨a,e1,h⟩:=gP h;obtain⟨b,e2,h⟩:=il h;subst h;rw[oR e0,ju e1,ju e2];rfl
@[simp] theorem Kc (p:Nat×Nat):dNP (gX p)=My p:=by show(jD (gO p.1)).bind (λ a=>(jD (gO p.2)).map λ b=>(a,b))=_;rw[iQ,iQ];rfl
def yM:List Dt->gF gK
 | []=>My []
 | d::ds=>(dNP d).bind λ i=>(yM ds).map (i::·)
theorem nG:∀ {ds:List Dt} {l:gK},yM ds=My l->ds=l.map gX
 | [],l,h=>by cases h;rfl
 | d::ds,l,h=>by obtain⟨i,e1,h⟩:=gP h;obtain⟨r,e2,h⟩:=il h;subst h;rw[Kb e1,nG e2];rfl
@[simp] theorem oW (l:gK):yM (l.map gX)=My l:=by
 induction l with
 | nil=>rfl
 | cons i r ih=>show(dNP (gX i)).bind (λ i=>(yM (r.map gX)).map (i::·))=_;rw[ih,Kc];rfl
def dTs (d:Dt):gF gK:=(HD d).bind yM
def dTt (d:Dt):gF gK:=(Dv d).bind yM
theorem v9 {d:Dt}{l:gK}(h:dTt d=My l):d=ip l:=by obtain⟨ds,e,h⟩:=gP h;rw[oR e,nG h]
@[simp] theorem v_ (l:gK):dTt (ip l)=My l:=oW l
theorem EK {d:Dt}{l:gK}(h:dTs d=My l):d=ip l\/d=.lst (l.map gX):=by
 obtain⟨ds,e,h⟩:=gP h;rcases tF e with rfl | rfl
 ·exact .inl (by rw[nG h])
 ·exact .inr (by rw[nG h])
@[simp] theorem Kd (l:gK):dTs (.lst (l.map gX))=My l:=oW l
@[simp] theorem rq (l:gK):dTs (ip l)=My l:=oW l
def nbI (l:gK)(p:Nat):List Int:=srt ((l.filter λ t=>t.2==p).map (λ t=>(t.1:Int))++(l.filter λ t=>t.1==p).map λ t=>(t.2:Int))
def nb (l:gK)(p:Nat):List Nat:=(nbI l p).map Int.toNat
theorem BS (l:gK)(p:Nat):(nbI l p).Perm ((l.filter λ t=>t.2==p).map (λ t=>(t.1:Int))++(l.filter λ t=>t.1==p).map λ t=>(t.2:Int)):=lK _
theorem AH (l:gK)(p:Nat):(nb l p).Perm ((l.filter λ t=>t.2==p).map (·.1)++(l.filter λ t=>t.1==p).map (·.2)):=by have:=(BS l p).map Int.toNat;unfold nb;simpa [aY,dH] using this
theorem Nf (l:gK)(p:Nat):nbI l p=(nb l p).map λ(k:Nat)=>(k:Int):=by
 unfold nb;rw[aP];conv=>lhs;rw[<-cP (nbI l p)]
 refine bG λ x hx=>?_;have h:=(BS l p).mem_iff.mp hx;have:0<=x:=by rcases bh.mp h with h | h<;>(obtain⟨t,_,rfl⟩:=aA.mp h;lia)
 simp;lia
theorem Ng (l:gK)(p:Nat):(nb l p).length<=2*l.length:=by rw[(AH l p).length_eq,aH,af,af];have:=bZ (λ t:Nat×Nat=>t.2==p) l;have:=bZ (λ t:Nat×Nat=>t.1==p) l;lia
def lF (fd:gK)(k:Nat):Bool:=fd.any λ q=>q.1==k
def look (fd:gK)(k:Nat):Nat:=(fd.lookup k).getD 0
def i9 (place:Nat)(st:gK×List Nat)(near:Nat):gK×List Nat:=if lF st.1 near=S_ then st else (st.1++[(near,look st.1 place+1)],st.2++[near])
def visit (l:gK)(st:gK×List Nat)(place:Nat):gK×List Nat:=(nb l place).foldl (i9 place) st
def jU (l:gK)(fd:gK)(ic:List Nat):gK×List Nat:=ic.foldl (visit l) (fd,[])
def nH (l:gK):Nat->gK->List Nat->gK
 | 0,fd,_=>fd
 | _+1,fd,[]=>fd
 | k+1,fd,e::es=>nH l k (jU l fd (e::es)).1 (jU l fd (e::es)).2
def bfs (l:gK)(s:Nat):gK:=nH l (2*l.length+2) [(s,0)] [s]
def iX (fd:gK):List (Int×Int):=fd.map λ q=>((q.1:Int),(q.2:Int))
def mP (p q:Nat×Nat):Bool:=HT.lexLt [(p.1:Int),(p.2:Int)] [(q.1:Int),(q.2:Int)]
def rise (l:gK):Bool:=(l.zip l.tail).all λ pq=>mP pq.1 pq.2
structure Good (w:Nat×gK):Prop where
 two:2<=w.1
 oh:w.1<=8
 ok:∀ p∈w.2,p.1<p.2/\p.2<w.1
 rise:rise w.2=S_
 all:(bfs w.2 0).length=w.1
 len:w.2.length<=30
 ne:w.2≠[]
def BU (w:Nat×gK):Bool:=decide (2<=w.1/\w.1<=8)&&(w.2.all λ p=>decide (p.1<p.2/\p.2<w.1))&&rise w.2&&decide ((bfs w.2 0).length=w.1)&&decide (w.2.length<=30)&&!w.2.isEmpty
theorem zA (w:Nat×gK):BU w=S_↔Good w:=by
 unfold BU;simp only[aL,decide_eq_true_eq,bT,Bool.not_eq_true',List.isEmpty_eq_false_iff];constructor
 ·rintro⟨⟨⟨⟨⟨h1,h2⟩,h3⟩,h4⟩,h5⟩,h6⟩;exact⟨h1.1,h1.2,h2,h3,h4,h5,h6⟩
 ·rintro⟨h1,h1',h2,h3,h4,h5,h6⟩;exact⟨⟨⟨⟨⟨⟨h1,h1'⟩,h2⟩,h3⟩,h4⟩,h5⟩,h6⟩
def dW (d:Dt):gF (Nat×gK):=(Dv d).bind (Nd λ x y=>(jD x).bind λ n=>(dTt y).bind λ l=>if BU (n,l)=S_ then My (n,l) else SY)
theorem pL {d:Dt}{w:Nat×gK}(h:dW d=My w):d=hG w/\Good w:=by
 obtain⟨l,e0,h⟩:=gP h;obtain⟨x,y,rfl,h⟩:=BR h;obtain⟨a,e1,h⟩:=gP h;obtain⟨b,e2,h⟩:=gP h;by_cases hg:BU (a,b)=S_
 ·rw[ai hg]at h;cases h;rw[oR e0,ju e1,v9 e2];exact⟨rfl,(zA _).mp hg⟩
 ·rw[ak hg]at h;cases h
theorem lL {w:Nat×gK}(h:Good w):dW (hG w)=My w:=by show(jD (gO w.1)).bind (λ n=>(dTt (ip w.2)).bind λ l=>if BU (n,l)=S_ then My (n,l) else SY)=_;rw[iQ,v_,aq,aq,ai ((zA _).mpr h)]
def me:List Dt->gF Dt
 | [x,y]=>(dTs x).bind λ l=>(jD y).bind λ p=>if l.length<=30 then My (.tup ((nb l p).map gO)) else SY
 | _=>SY
def kE:List Dt->gF Dt
 | [x,y]=>(dTs x).bind λ l=>(jD y).bind λ p=>if l.length<=30 then My (.dct (iX (bfs l p))) else SY
 | _=>SY
def oF:List Dt->gF Dt
 | [x,y]=>(dW x).bind λ w=>(jD y).bind λ p=>if p<w.1 then My .non else SY
 | _=>SY
abbrev BV:List Str:=["things"]
def rz:DE->gF RD:=(lx (kU 2 (gLC ["a","b"] [1] (gI kz (gR 0)) (pI 0 1) (gB (g_ oP (gR 1) (gR 2))) (gR 0))) (lx (kU 3 (gLC ["a","b"] [1] (gI kz (gR 0)) (pI 0 1) (gB (g_ oP (gR 0) (gR 2))) (gR 1))) (kN (iP oE (gN (iP (tI srt) (gN (g_ rM (gR 2) (gR 3)) gS)) gS)))))
abbrev FO:List Str:=["ties","place","lesser","greater"]
theorem Ke (l:gK):((l.map gX).zip (l.tail.map gX)).map (λ(p,q)=>Dt.tup [p,q])=(l.zip l.tail).map λ pq=>Dt.tup [gX pq.1,gX pq.2]:=by rw[List.zip_map,aP];rfl
theorem oX (a b:Nat):((a:Int)==(b:Int))=(a==b):=by rw[bj];simp;lia
set_option tactic.hygienic true in
theorem Dy:Hg 2 FO me rz:=by
 intro ds d hl h;match ds,h with
 | [x,y],h =>
  obtain⟨l,e1,h⟩:=gP (show(dTs x).bind _=_ from h);obtain⟨p,e2,h⟩:=gP h;split at h
  ·rename_i hc
   cases h;rw[ju e2];refine⟨.rt (.tup ((nb l p).map gO)),?_,rfl⟩;have lc1:=jy (enc:=gX) (gg:=pI 0 1) (gt:=gB (g_ oP (gR 1) (gR 2))) (ge:=gR 0) (δc:=[SY,SY,My (gO p)]) (δa:=λ t=>[My (gO t.1),My (gO t.2),My (gO p)]) (p:=λ t=>t.2==p) (enc':=λ t=>gO t.1) l λ a _=>⟨rfl,by simp[gO,oX],λ _=>rfl⟩
   have lc2:=jy (enc:=gX) (gg:=pI 0 1) (gt:=gB (g_ oP (gR 0) (gR 2))) (ge:=gR 1) (δc:=[SY,SY,My (gO p)]) (δa:=λ t=>[My (gO t.1),My (gO t.2),My (gO p)]) (p:=λ t=>t.1==p) (enc':=λ t=>gO t.2) l λ a _=>⟨rfl,by simp[gO,oX],λ _=>rfl⟩
   have hlen:l.length<=1000:=by lia
   have f1:=bZ (λ t:Nat×Nat=>t.2==p) l;have f2:=bZ (λ t:Nat×Nat=>t.1==p) l;have e5:((l.filter λ t=>t.2==p).map (λ t=>gO t.1))++((l.filter λ t=>t.1==p).map λ t=>gO t.2)=((l.filter λ t=>t.2==p).map (λ t=>(t.1:Int))++(l.filter λ t=>t.1==p).map λ t=>(t.2:Int)).map Dt.int:=by simp[gO,dH]
   have e6:rM (.lst ((l.filter λ t=>t.2==p).map (λ t=>gO t.1))) (.lst ((l.filter λ t=>t.1==p).map λ t=>gO t.2))=My (.lst (((l.filter λ t=>t.2==p).map (λ t=>(t.1:Int))++(l.filter λ t=>t.1==p).map λ t=>(t.2:Int)).map Dt.int)):=by show(if _ then My (Dt.lst _) else SY)=_;rw[ai (by simp only[af];lia),e5]
   have e7:tI srt [.lst (((l.filter λ t=>t.2==p).map (λ t=>(t.1:Int))++(l.filter λ t=>t.1==p).map λ t=>(t.2:Int)).map Dt.int)]=My (.lst ((nb l p).map gO)):=by show(if _ then _ else SY)=_;rw[ai (by simp only[af,aH];lia),rn];have:=Nf l p;unfold nbI at this;rw[fC,this,aP];rfl
   generalize ((l.filter λ t=>t.2==p).map (λ t=>(t.1:Int))++(l.filter λ t=>t.1==p).map λ t=>(t.2:Int)).map Dt.int=zs at e6 e7;generalize ((l.filter λ t=>t.2==p).map (λ t=>gO t.1))=xs at lc1 e6;generalize ((l.filter λ t=>t.1==p).map (λ t=>gO t.2))=ys at lc2 e6;rcases EK e1 with rfl | rfl
   ·simp[rz,lc1,lc2,hlen,e6,e7]
   ·simp[rz,lc1,lc2,hlen,e6,e7]
  ·cases h
theorem BW {n:Nat}(h:n<=1000000):BH [gO n]=My ((Tc n).map λ(i:Nat)=>gO i):=by show(if (n:Int)<=1000000/\-1000000<=(n:Int) then My ((Tc (n:Int).toNat).map λ(i:Nat)=>Dt.int i) else SY)=_;rw[ai (by lia),bV]
theorem Kf {l:gK}(h:l.length<=30)(p:Nat):me [ip l,gO p]=My (.tup ((nb l p).map gO)):=by show(dTs (ip l)).bind (λ l=>(jD (gO p)).bind λ p=>if l.length<=30 then My (Dt.tup ((nb l p).map gO)) else SY)=_;rw[rq,iQ,aq,aq,ai h]
theorem BX {x:Dt}{l:gK}(e:dTs x=My l)(h:l.length<=30)(p:Nat):me [x,gO p]=My (.tup ((nb l p).map gO)):=by show(dTs x).bind (λ l=>(jD (gO p)).bind λ p=>if l.length<=30 then My (Dt.tup ((nb l p).map gO)) else SY)=_;rw[e,iQ,aq,aq,ai h]
abbrev Web:=Nat×gK
theorem zB {w:Web}(e:dW (hG w)=My w){p:Nat}(h:p<w.1):oF [hG w,gO p]=My .non:=by show(dW (hG w)).bind (λ w=>(jD (gO p)).bind λ p=>if p<w.1 then My Dt.non else SY)=_;rw[e,iQ,aq,aq,ai h]
def LZ (K:gG)(J:It)(H:Hp)(ds:List Dt):Prop:=∀ H',kc H H'->(∀ (i:Nat) d,ds[i]?=My d->J.go i H'/\∀ x H'',J.yld i H' x H''->H''=H'/\Is K H'' x d)/\J.stop ds.length H'
def iDT (K:gG)(g:DE->gF (List Dt)):TI:=λ σ H R=>∃ δ ds,Sat K H σ δ/\g δ=My ds/\rL ds/\∀ J H',gY H H'->LZ K J H' ds->R J H'
section
variable {X:Cx}{e:Expr}{tg:Expr}
theorem Kg {g:DE->gF Dt}(h:PD X e g):PI X tg e (iDT X.K (gI xj g)):=(CV h).of λ σ H R hz1=>by obtain⟨δ,ds,S,q,im,k⟩:=hz1;obtain⟨x,e1,e2⟩:=gP q;have e2:=uO e2;subst e2;refine⟨δ,_,S,e1,λ v H1 s1 i1=>?_⟩;obtain⟨a,xs,rfl,hq,is⟩:=i1.ik;refine⟨a,rfl,⟨xs,hq⟩,k _ H1 s1 λ H2 s2=>⟨λ i d hd=>?_,⟨xs,s2.uM hq,by rw[is.length];exact ay _⟩⟩⟩;have is2:=is.text s2 im;obtain⟨v,hv,iv⟩:=is2.get hd;exact⟨⟨xs,v,s2.uM hq,hv⟩,λ x H3 hz2=>by obtain⟨e3,y⟩:=hz2;subst e3;have:=y xs (s2.uM hq);rw[hv]at this;cases this;exact⟨rfl,iv⟩⟩
theorem HF {K:gG}{J:It}{H0:Hp}{ds:List Dt}(ok:LZ K J H0 ds){g:TG}{tb:TS}{D:Ends}{σ:St}{H:Hp}(Pv:Nat->St->Hp->Prop)(h0:Pv 0 σ H)(hl:∀ i σ H,i<=ds.length->Pv i σ H->kc H0 H)
  (hs:∀ i d x σ H,ds[i]?=My d->Is K H x d->Pv i σ H->g x σ H λ σ2 H2=>tb {D with nx:=Pv (i+1),ct:=Pv (i+1),bk:=D.nx} σ2 H2) (hd:∀ σ H,Pv ds.length σ H->D.nx σ H) :
  ∃ W:Nat->Nat->St->Hp->Prop,(∃ m,W 0 m σ H)/\∀ i m σ H,W i m σ H ->
   (J.stop i H/\D.nx σ H)\/(J.go i H/\∃ N:St->Hp->Prop,(∀ σ' H',N σ' H'->∃ m',m'<m/\W (i+1) m' σ' H')/\∀ x H',J.yld i H x H'->g x σ H' λ σ2 H2=>tb {D with nx:=N,ct:=N,bk:=D.nx} σ2 H2):=by
 refine⟨λ i m σ H=>m=ds.length-i/\i<=ds.length/\Pv i σ H,⟨ds.length,by simp,aN _,h0⟩,?_⟩;rintro i m σ H ⟨rfl,hi,p⟩;obtain⟨items,stop⟩:=ok H (hl i σ H hi p);by_cases hlt:i<ds.length
 ·have hdi:ds[i]?=My ds[i]:=by simp[hlt]
  obtain⟨go,yld⟩:=items i _ hdi;refine .inr ⟨go,Pv (i+1),λ σ' H' p'=>⟨ds.length-(i+1),by lia,rfl,hlt,p'⟩,λ x H' y=>?_⟩;obtain⟨rfl,ix⟩:=yld x H' y;exact hs i _ x σ _ hdi ix p
 ·have e:i=ds.length:=by lia
  subst e;exact .inl ⟨stop,hd σ H p⟩
end
theorem nu (fd:gK)(k:Nat):lF fd k=S_↔k∈fd.map (·.1):=by unfold lF;simp[fk]
theorem tN (fd:gK)(k:Nat):nD (kvD (iX fd)) (Sum.inl (k:Int))=if lF fd k=S_ then My (.int (look fd k)) else SY:=by
 induction fd with
 | nil=>rfl
 | cons p r ih =>
  by_cases h:p.1=k
  ·have e1:nD (kvD (iX (p::r))) (Sum.inl (k:Int))=My (.int p.2):=sU (p:=(Sum.inl (p.1:Int),V.int p.2)) (by rw[h])
   rw[e1];have e2:lF (p::r) k=S_:=by rw[nu];simp[h]
   have e3:look (p::r) k=p.2:=by unfold look;rw[a_];simp[h]
   rw[ai e2,e3]
  ·have hne:¬ (Sum.inl (p.1:Int):Key)=Sum.inl (k:Int):=λ q=>h (by have:=Sum.inl.inj q;lia)
   have e1:nD (kvD (iX (p::r))) (Sum.inl (k:Int))=nD (kvD (iX r)) (Sum.inl (k:Int)):=by show nD ((Sum.inl (p.1:Int),V.int p.2)::kvD (iX r)) _=_;unfold nD;rw[dw];have:decide ((Sum.inl (p.1:Int):Key)=Sum.inl (k:Int))=Ta:=decide_eq_false hne;simp only[this]
   have e2:lF (p::r) k=lF r k:=by unfold lF;simp[h]
   have e3:look (p::r) k=look r k:=by
    unfold look;rw[a_];have:(k==p.1)=Ta:=by simpa using bu h
    rw[this]
   rw[e1,e2,e3,ih]
theorem HG {fd:gK}{k:Nat}(v:Nat)(h:lF fd k=Ta):putK (kvD (iX fd)) (Sum.inl (k:Int)) (.int v)=kvD (iX (fd++[(k,v)])):=by
 have e:nD (kvD (iX fd)) (Sum.inl (k:Int))=SY:=by rw[tN,h];rfl
 rw[GS _ e];simp[kvD,iX]
def univ (l:gK)(s:Nat):List Nat:=s::(l.map (·.1)++l.map (·.2))
theorem lM {l:gK}{p j:Nat}:j∈nb l p↔(j,p)∈l\/(p,j)∈l:=by
 rw[(AH l p).mem_iff,bh,aA,aA];simp only[aS,beq_iff_eq];constructor
 ·rintro (⟨⟨a,b⟩,⟨h1,h2⟩,rfl⟩ | ⟨⟨a,b⟩,⟨h1,h2⟩,rfl⟩)
  ·simp at h2;subst h2;exact .inl h1
  ·simp at h2;subst h2;exact .inr h1
 ·rintro (h | h)
  ·exact .inl ⟨(j,p),⟨h,rfl⟩,rfl⟩
  ·exact .inr ⟨(p,j),⟨h,rfl⟩,rfl⟩
theorem EL {l:gK}{s p j:Nat}(h:j∈nb l p):j∈univ l s:=by
 refine ax _ ?_;rcases lM.mp h with h | h
 ·exact bf _ (aA.mpr ⟨_,h,rfl⟩)
 ·exact aU _ (aA.mpr ⟨_,h,rfl⟩)
structure BI (u:List Nat)(st:gK×List Nat):Prop where
 nd:(st.1.map (·.1)).Nodup
 sub:∀ q∈st.1,q.1∈u
 by':∀ j∈st.2,j∈st.1.map (·.1)
set_option tactic.hygienic true in
theorem zC {u:List Nat}{st:gK×List Nat}{p j:Nat}(h:BI u st)(hj:j∈u):BI u (i9 p st j):=by
 unfold i9;split
 ·exact h
 ·rename_i hk
  have hk:j∉st.1.map (·.1):=λ m=>hk ((nu _ _).mpr m);refine⟨?_,?_,?_⟩
  ·rw[aY];exact Aj h.nd hk
  ·intro q hq
   rcases bh.mp hq with z | z
   ·exact h.sub q z
   ·rw[bp.mp z];exact hj
  ·intro i hi
   rw[aY];rcases bh.mp hi with z | z
   ·exact bf _ (h.by' i z)
   ·rw[bp.mp z];exact aU _ (by simp)
theorem xr {st:gK×List Nat}{p j:Nat}:(i9 p st j).1.length+st.2.length=st.1.length+(i9 p st j).2.length:=by unfold i9;split<;>simp<;>lia
theorem qG {st:gK×List Nat}{p j k:Nat}(h:k∈st.1.map (·.1)):k∈(i9 p st j).1.map (·.1):=by
 unfold i9;split
 ·exact h
 ·rw[aY];exact bf _ h
theorem tO {α:Type}{f:gK×List Nat->α->gK×List Nat}{u:List Nat}:∀ (xs:List α) {st:gK×List Nat},(∀ x∈xs,∀ st,BI u st->BI u (f st x))->BI u st->BI u (xs.foldl f st)
 | [],_,_,h=>h
 | x::r,_,hf,h=>tO r (λ y hy=>hf y (ax _ hy)) (hf x av _ h)
theorem qH {α:Type}{f:gK×List Nat->α->gK×List Nat}(hf:∀ st x,(f st x).1.length+st.2.length=st.1.length+(f st x).2.length):∀ (xs:List α) (st:gK×List Nat),(xs.foldl f st).1.length+st.2.length=st.1.length+(xs.foldl f st).2.length
 | [],_=>rfl
 | x::r,st=>by have h1:=hf st x;have h2:=qH hf r (f st x);rw[cJ];lia
theorem ny {α:Type}{f:gK×List Nat->α->gK×List Nat}(hf:∀ st x k,k∈st.1.map (·.1)->k∈(f st x).1.map (·.1)):∀ (xs:List α) (st:gK×List Nat) (k:Nat),k∈st.1.map (·.1)->k∈(xs.foldl f st).1.map (·.1)
 | [],_,_,h=>h
 | x::r,st,k,h=>ny hf r (f st x) k (hf st x k h)
theorem BY {l:gK}{s p:Nat}{st:gK×List Nat}(h:BI (univ l s) st):BI (univ l s) (visit l st p):=tO _ (λ _ hx _ hs=>zC hs (EL hx)) h
theorem zD {l:gK}{p:Nat}(st:gK×List Nat):(visit l st p).1.length+st.2.length=st.1.length+(visit l st p).2.length:=qH (λ _ _=>xr) _ st
theorem sx {l:gK}{p:Nat}(st:gK×List Nat)(k:Nat)(h:k∈st.1.map (·.1)):k∈(visit l st p).1.map (·.1):=ny (λ _ _ _=>qG) _ st k h
theorem tP {l:gK}{s:Nat}{fd:gK}{ic:List Nat}(h:BI (univ l s) (fd,[])):BI (univ l s) (jU l fd ic):=tO _ (λ _ _ _ hs=>BY hs) h
theorem uS {l:gK}{fd:gK}{ic:List Nat}:(jU l fd ic).1.length=fd.length+(jU l fd ic).2.length:=by have:=qH (f:=visit l) (λ st p=>zD st) ic (fd,[]);unfold jU;simpa using this
theorem BI.le {u:List Nat}{st:gK×List Nat}(h:BI u st):st.1.length<=u.length:=by
 have h1:(st.1.map (·.1)).length<=u.length:=by
  have hs:∀ x∈st.1.map (·.1),x∈u:=λ x hx=>by obtain⟨q,hq,rfl⟩:=aA.mp hx;exact h.sub q hq
  exact aD h.nd hs
 simpa using h1
theorem oY (l:gK)(s:Nat):(univ l s).length=2*l.length+1:=by simp[univ];lia
theorem Kh {k:Nat}{A:Around}(hr:jt k A):A.units<cLine:=by have:=hV hr;lia
section
variable {K:gG}
end
end L2
namespace L2
open PySem PySem.W PySem.Spec PyProof.Rows Tb
section
variable {X:Cx}
theorem vh:jB X (.type "range") (λ xs H Q=>∃ j:Int,xs=[V.int j]/\∀ p,H p=SY->Q (.ref p) (upd H p (.rng 0 j))):=by intro pins s σ H xs us Q I r h;obtain⟨j,rfl,q⟩:=h;obtain⟨u,rfl,t,rfl⟩:=vals1 r;refine call_range_1 ?_;have hn:=I.hok.fresh (ay s.heap.objs.size);exact⟨.ref s.heap.objs.size,_,I.laid (o:=.rng 0 j) (λ b o e=>ah _ e) (ay _) ⟨_,_,_,aE _ rfl⟩,rfl,q _ hn⟩
theorem xt (hc:X.calm=S_):jB X (.type "list") (λ xs H Q=>∃ (r:Addr) (n:Nat),xs=[V.ref r]/\H r=My (.rng 0 n)/\n<=1000/\∀ p,H p=SY->Q (.ref p) (upd H p (.lst ((Tc n).map λ(i:Nat)=>V.int i)))):=by
 intro pins s σ H xs us Q I r h;obtain⟨a,n,rfl,ha,hn,q⟩:=h;obtain⟨u,rfl,ru⟩:=vals1 r;cases ru;obtain⟨t,t',t'',e⟩:=I.hok a _ ha;have hsz:Builtin.Range.rangeSize 0 (n:Int) 1=n:=by rw[rangeSize_one];split<;>lia
 refine call_list_range (I.ok.hd hc) (show IsRange s.heap a 0 n 1 t t' t'' from e) (small_one (by lia) (by lia) (by lia) (by lia)) hsz (by lia) λ h' tk acc c kp ho ia=>?_;have hfr:=I.hok.fresh (ay s.heap.objs.size);refine⟨.ref s.heap.objs.size,_,I.laid (o:=.lst ((Tc n).map λ(i:Nat)=>V.int i)) kp (ay _) ⟨?_,acc.toList,c,?_,by simpa using ho⟩,rfl,q _ hfr⟩
 ·simp;rw[sizeLine_eq];lia
 ·obtain⟨i1,i2⟩:=ia
  have go:∀ (k:Nat) (l:List gH),l.length=k->(∀ (j:Nat) v,l[j]?=My v->∃ t,v=Value.int (0+(j:Int)*1) t)->Vals ((Tc k).map λ(i:Nat)=>V.int i) l:=by
   intro k;induction k with
   | zero=>intro l hl _;rw[dS.mp hl];exact .nil
   | succ k ih =>
    intro l hl hv;have e2:l=l.take k++[l[k]'(by lia)]:=by
     have h1:l.take (k+1)=l.take k++[l[k]'(by lia)]:=by rw[eZ,aF (by lia)];rfl
     rw[<-h1,dY (by lia)]
    rw[e2,List.range_succ,aY];refine Vals.append (ih _ (by rw[bR];lia) λ j v hj=>?_) (.cons ?_ .nil)
    ·by_cases hjk:j<k
     ·rw[eo hjk]at hj;exact hv j v hj
     ·rw[bY (by rw[bR];lia)]at hj;cases hj
    ·obtain⟨t,ht⟩:=hv k (l[k]'(by lia)) (by simp);exact⟨t,by rw[ht];congr 1;lia⟩
  exact go n acc.toList (by simpa using i1) λ j v hj=>i2 j v (by rw[<-aZ];exact hj)
end
end L2
namespace L2
open PySem PySem.Spec PyProof.Rows Zp
section
variable {X:Cx}{a b e o:Expr}{es:List Expr}{pos:Pos}
def AI (d:Dt):gF Dt:=(vI d).bind λ j=>if 0<=j/\j<=1000 then My (.lst ((Tc j.toNat).map λ(k:Nat)=>.int k)) else SY
theorem HH {ga:DE->gF Dt}{p1 p2 pos2:Pos}(hc:X.calm=S_)(hl:X.mg "list"=SY)(hr:X.mg "range"=SY)(ha:PD X a ga)(g1:Gl X "list":=by rfl)(g2:Gl X "range":=by rfl)
  (hs:starEach [a] X.env=[(Ta,eval a X.env)]:=by rfl) (hs2:starEach [Expr.Call (.Name "range" p2) [a] [] pos2] X.env=[(Ta,eval (.Call (.Name "range" p2) [a] [] pos2) X.env)]:=by rfl) :
  PD X (.Call (.Name "list" p1) [.Call (.Name "range" p2) [a] [] pos2] [] pos) (gUn AI ga) :=
 (kK (xt hc) g1 hl boot_list (gQ (kK vh g2 hr boot_range (gQ ha g9 hs) (he:=hs)) g9 hs2) (he:=hs2)).of λ σ H Q hz=>by
  obtain⟨δ,d,S,eq,q⟩:=hz;obtain⟨x,e1,f1⟩:=gP eq;obtain⟨j,e2,f2⟩:=gP f1;obtain rfl:=mE e2;by_cases hj:0<=j/\j<=1000
  ·rw[ai hj]at f2;cases f2;obtain⟨n,rfl⟩:∃ n:Nat,j=n:=⟨j.toNat,by lia⟩;refine⟨δ,_,S,e1,λ v H1 s1 i1=>⟨n,by rw[i1.int_inv],λ r hr0=>⟨r,n,rfl,gU,by lia,λ l hl0=>q _ _ ((s1.trans (gY.upd hr0)).trans (gY.upd hl0)) (.lst gU ?_)⟩⟩⟩;have:=Iss.tj (K:=X.K) (H:=upd (upd H1 r (.rng 0 n)) l (.lst ((Tc n).map λ(i:Nat)=>V.int i))) ((Tc n).map λ(k:Nat)=>(k:Int));rw[aP,aP]at this;exact this
  ·rw[ak hj]at f2;cases f2
end
structure Drawn (m:Nat)(cl:List Nat)(tb te:gK):Prop where
 m2:2<=m
 m8:m<=8
 perm:cl.Perm (Tc m)
 tbl:tb.length=m-1
 tbk:∀ k,k<m-1->∃ a,tb[k]?=My (a,k+1)/\a<=k
 teo:∀ t∈te,t.1<m/\t.2<m/\t.1≠t.2
 tel:te.length<=12
def rel (cl:List Nat)(t:Nat×Nat):Nat×Nat:=(min (cl.getD t.1 0) (cl.getD t.2 0),max (cl.getD t.1 0) (cl.getD t.2 0))
def keys (fd:gK):List Nat:=fd.map (·.1)
def Done (l:gK)(fd:gK)(k:Nat):Prop:=∀ j∈nb l k,j∈keys fd
set_option tactic.hygienic true in
theorem Dz {l:gK}(st:gK×List Nat)(p:Nat):Done l (visit l st p).1 p:=by
 intro j hj;unfold visit;have go:∀ (xs:List Nat) (st:gK×List Nat),j∈xs->j∈keys (xs.foldl (i9 p) st).1:=by
  intro xs;induction xs with
  | nil=>intro st h;cases h
  | cons x r ih =>
   intro st h;rw[cJ];rcases aB.mp h with rfl | h
   ·refine ny (λ st p k hk=>qG hk) r _ j ?_
    unfold i9;split
    ·rename_i hk;exact(nu _ _).mp hk
    ·rw[aY];exact aU _ (by simp)
   ·exact ih _ h
 exact go _ _ hj
theorem sy {l:gK}{fd:gK}:∀ (ic:List Nat) (st:gK×List Nat) (k:Nat),(k∈ic\/Done l st.1 k)->Done l (ic.foldl (visit l) st).1 k
 | [],st,k,h=>h.elim (λ z=>by cases z) id
 | e::r,st,k,h=>by
  rw[cJ];refine sy (fd:=fd) r (visit l st e) k ?_;rcases h with h | h
  ·rcases aB.mp h with rfl | h
   ·exact .inr (Dz st k)
   ·exact .inl h
  ·exact .inr λ j hj=>sx st j (h j hj)
set_option tactic.hygienic true in
theorem FP {l:gK}:∀ (ic:List Nat) (st:gK×List Nat) (k:Nat),k∈keys (ic.foldl (visit l) st).1->k∈keys st.1\/k∈(ic.foldl (visit l) st).2:=by
 have sub2:∀ (p:Nat) (xs:List Nat) (st:gK×List Nat) (k:Nat),k∈st.2->k∈(xs.foldl (i9 p) st).2:=by
  intro p xs;induction xs with
  | nil=>intro st k h;exact h
  | cons x r ih =>
   intro st k h;rw[cJ];refine ih _ k ?_;unfold i9;split
   ·exact h
   ·exact bf _ h
 have new1:∀ (p:Nat) (xs:List Nat) (st:gK×List Nat) (k:Nat),k∈keys (xs.foldl (i9 p) st).1->k∈keys st.1\/k∈(xs.foldl (i9 p) st).2:=by
  intro p xs;induction xs with
  | nil=>intro st k h;exact .inl h
  | cons x r ih =>
   intro st k h;rw[cJ]at h ⊢;rcases ih _ k h with z | z
   ·unfold i9 at z
    split at z
    ·exact .inl z
    ·rw[keys,aY]at z
     rcases bh.mp z with y | y
     ·exact .inl y
     ·refine .inr (sub2 p r _ k ?_)
      unfold i9;rename_i hk;rw[ak hk];have:k=x:=by simpa using y
      rw[this];exact aU _ (by simp)
   ·exact .inr z
 intro ic;induction ic with
 | nil=>intro st k h;exact .inl h
 | cons e r ih =>
  intro st k h;rw[cJ]at h ⊢;have sub:∀ (xs:List Nat) (st:gK×List Nat) (k:Nat),k∈st.2->k∈(xs.foldl (visit l) st).2:=by
   intro xs;induction xs with
   | nil=>intro st k h;exact h
   | cons x r ih=>intro st k h;rw[cJ];exact ih _ k (sub2 x _ st k h)
  rcases ih _ k h with z | z
  ·rcases new1 e _ st k z with y | y
   ·exact .inl y
   ·exact .inr (sub r _ k y)
  ·exact .inr z
theorem tQ {l:gK}{s:Nat}:∀ (m:Nat) (fd:gK) (ic:List Nat),BI (univ l s) (fd,ic)->(∀ k∈keys fd,k∈ic\/Done l fd k)->(ic≠[]->2*l.length+3<=m+fd.length) ->
  (∀ k∈keys (nH l m fd ic),Done l (nH l m fd ic) k)/\(∀ k∈keys fd,k∈keys (nH l m fd ic))/\BI (univ l s) (nH l m fd ic,[])
 | m,fd,[],bi,hd,_=>by
  have e:nH l m fd []=fd:=by cases m<;>rfl
  rw[e];exact⟨λ k hk=>(hd k hk).elim (λ z=>by cases z) id,λ k h=>h,⟨bi.nd,bi.sub,by simp⟩⟩
 | 0,fd,e::es,bi,hd,hf=>by have:=bi.le;rw[oY]at this;have h:=hf (by simp);have:fd.length<=2*l.length+1:=this;lia
 | m+1,fd,e::es,bi,hd,hf=>by
  have hf:=hf (by simp);have bi':BI (univ l s) (fd,[]):=⟨bi.nd,bi.sub,by simp⟩;have lb:=tP (ic:=e::es) bi';have ll:=uS (l:=l) (fd:=fd) (ic:=e::es);obtain⟨h1,h2,h3⟩:=tQ m (jU l fd (e::es)).1 (jU l fd (e::es)).2 ⟨lb.nd,lb.sub,lb.by'⟩ (λ k hk=>by
   rcases FP (l:=l) (e::es) (fd,[]) k hk with z | z
   ·exact .inr (sy (fd:=fd) (e::es) (fd,[]) k (hd k z))
   ·exact .inl z) (λ hne=>by
   have:0<(jU l fd (e::es)).2.length:=dP.mpr hne;lia)
  exact⟨h1,λ k hk=>h2 k (ny (λ st p k hk=>sx st k hk) (e::es) (fd,[]) k hk),h3⟩
theorem wc {l:gK}{n:Nat}(ok:∀ p∈l,p.1<p.2/\p.2<n)(h0:0<n)(reach:∀ S:Nat->Prop,S 0->(∀ p∈l,S p.1↔S p.2)->∀ v,v<n->S v):(bfs l 0).length=n:=by
 obtain⟨h1,h2,h3⟩:=tQ (l:=l) (s:=0) (2*l.length+2) [(0,0)] [0] ⟨by simp,λ q hq=>by rw[bp.mp hq];exact av,λ j hj=>by simpa using hj⟩ (λ k hk=>.inl (by simpa [keys] using hk)) (λ _=>by simp);have e:nH l (2*l.length+2) [(0,0)] [0]=bfs l 0:=rfl;rw[e]at h1 h2 h3;have sub:∀ k∈keys (bfs l 0),k∈Tc n:=λ k hk=>by
  obtain⟨q,hq,rfl⟩:=aA.mp hk;rw[aC];have:=h3.sub q hq;rcases aB.mp this with z | z
  ·rw[z];exact h0
  ·rcases bh.mp z with z | z<;>(obtain⟨p,hp,e⟩:=aA.mp z;have:=ok p hp;rw[<-e];lia)
 have all:=reach (λ v=>v∈keys (bfs l 0)) (h2 0 (by simp[keys])) λ p hp=>⟨λ h=>h1 _ h _ (lM.mpr (.inr hp)),λ h=>h1 _ h _ (lM.mpr (.inl hp))⟩;have le1:(keys (bfs l 0)).length<=(Tc n).length:=aD h3.nd sub;have le2:(Tc n).length<=(keys (bfs l 0)).length:=aD cp λ v hv=>all v (aC.mp hv);rw[bE]at le1 le2;have:(keys (bfs l 0)).length=(bfs l 0).length:=by simp[keys]
 lia
theorem kX (p q:Nat×Nat):mP p q=S_↔p.1<q.1\/(p.1=q.1/\p.2<q.2):=by
 unfold mP;by_cases h1:(p.1:Int)=q.1
 ·have h1':p.1=q.1:=by lia
  by_cases h2:(p.2:Int)=q.2
  ·have h2':p.2=q.2:=by lia
   simp[HT.lexLt,h1,h2,h1',h2']
  ·simp[HT.lexLt,h1,h2,h1']
 ·have h1':¬ p.1=q.1:=by lia
  simp[HT.lexLt,h1,h1']
theorem AJ:∀ {l:gK},l.Pairwise (λ a b=>mP a b=S_)->rise l=S_
 | [],_=>rfl
 | [_],_=>rfl
 | a::b::r,h=>by have h1:=(eK.mp h).1 b av;have ih:=AJ (eK.mp h).2;unfold rise at ih ⊢;simp only[List.tail_cons,fL,List.all_cons,h1,Bool.true_and]at ih ⊢;exact ih
theorem BZ {l:gK}(h:l.Pairwise (λ a b=>mP a b=S_)):l.Nodup:=by rw[aI];refine h.imp λ{a b} hab e=>?_;subst e;have:=(kX a a).mp hab;lia
section
variable {m:Nat}{cl:List Nat}{tb te:gK}(D:Drawn m cl tb te)
include D
theorem Drawn.len:cl.length=m:=by rw[D.perm.length_eq,bE]
theorem Drawn.lt {i:Nat}(h:i<m):cl.getD i 0<m:=by
 have hl:i<cl.length:=by rw[D.len];exact h
 rw[aG,aF hl];exact aC.mp (D.perm.mem_iff.mp (cX hl))
theorem Drawn.inj {i j:Nat}(hi:i<m)(hj:j<m)(e:cl.getD i 0=cl.getD j 0):i=j:=by
 have h1:i<cl.length:=by rw[D.len];exact hi
 have h2:j<cl.length:=by rw[D.len];exact hj
 rw[aG,aF h1,aG,aF h2]at e;have nd:cl.Nodup:=D.perm.nodup_iff.mpr cp;exact(List.getElem_inj nd).mp e
theorem Drawn.sur {v:Nat}(h:v<m):∃ i,i<m/\cl.getD i 0=v:=by obtain⟨i,hi,e⟩:=b_ (D.perm.mem_iff.mpr (aC.mpr h));exact⟨i,by rw[<-D.len];exact hi,by rw[aG,aF hi];exact e⟩
theorem Drawn.all {t:Nat×Nat}(h:t∈tb++te):t.1<m/\t.2<m/\t.1≠t.2:=by
 rcases bh.mp h with h | h
 ·obtain⟨k,hk,e⟩:=b_ h
  have hk':k<m-1:=by rw[<-D.tbl];exact hk
  obtain⟨a,e1,ha⟩:=D.tbk k hk';rw[aF hk,e]at e1;cases e1;exact⟨by show a<m;lia,by show k+1<m;lia,by show a≠k+1;lia⟩
 ·exact D.teo t h
theorem Drawn.Pn {t:Nat×Nat}(h:t∈tb++te):(rel cl t).1<(rel cl t).2/\(rel cl t).2<m:=by obtain⟨h1,h2,h3⟩:=D.all h;have l1:=D.lt h1;have l2:=D.lt h2;have ne:cl.getD t.1 0≠cl.getD t.2 0:=λ e=>h3 (D.inj h1 h2 e);unfold rel;simp only;lia
theorem Ki {ss:gK}(hp:ss.Pairwise (λ a b=>mP a b=S_))(hm:∀ t,t∈ss↔t∈(tb++te).map (rel cl)):Good (m,ss)/\(te=[]->ss.length+1=m):=by
 have m2:=D.m2;have m8:=D.m8;have nd:=BZ hp;have ok:∀ p∈ss,p.1<p.2/\p.2<m:=λ p h=>by obtain⟨t,ht,rfl⟩:=aA.mp ((hm p).mp h);exact D.Pn ht
 have len1:ss.length<=((tb++te).map (rel cl)).length:=aD nd λ t h=>(hm t).mp h;have len2:ss.length<=30:=by have:=D.tel;have:=D.tbl;simp at len1;lia
 have tie:∀ k,k<m-1->∃ a,a<=k/\(a,k+1)∈tb:=λ k hk=>by obtain⟨a,e,ha⟩:=D.tbk k hk;exact⟨a,ha,bg e⟩
 refine⟨⟨m2,m8,ok,AJ hp,?_,len2,?_⟩,λ hte=>?_⟩
 ·refine wc ok (by lia) λ S s0 cls v hv=>?_
  have step:∀ k,k<m-1->∃ a,a<=k/\(S (cl.getD a 0)↔S (cl.getD (k+1) 0)):=λ k hk=>by
   obtain⟨a,ha,mem⟩:=tie k hk;refine⟨a,ha,?_⟩;have h:=cls (rel cl (a,k+1)) ((hm _).mpr (aA.mpr ⟨_,bf _ mem,rfl⟩));unfold rel at h;simp only at h;by_cases hc:cl.getD a 0<=cl.getD (k+1) 0
   ·rw[fH hc,f9 hc]at h;exact h
   ·rw[fq (by lia),gn (by lia)]at h;exact h.symm
  have con:∀ i,i<m->(S (cl.getD 0 0)↔S (cl.getD i 0)):=by
   intro i;induction i using Nat.strongRecOn with
   | ind i ih =>
    intro hi;cases i with
    | zero=>exact Iff.rfl
    | succ k =>obtain⟨a,ha,hs⟩:=step k (by lia);exact(ih a (by lia) (by lia)).trans hs
  obtain⟨i0,h0,e0⟩:=D.sur (v:=0) (by lia);obtain⟨i,hi,e⟩:=D.sur hv;rw[<-e];refine(con i hi).mp ((con i0 h0).mpr ?_);rw[e0];exact s0
 ·obtain⟨a,_,mem⟩:=tie 0 (by lia);intro e;have:=(hm (rel cl (a,0+1))).mpr (aA.mpr ⟨_,bf _ mem,rfl⟩);have e:ss=[]:=e;rw[e]at this;cases this
 ·subst hte
  rw[bA]at hm;have ndr:(tb.map (rel cl)).Nodup:=by
   rw[aI,bq,bQ];intro i j hi hj hij e;obtain⟨a,e1,ha⟩:=D.tbk i (by rw[<-D.tbl];exact hi);obtain⟨b,e2,hb⟩:=D.tbk j (by rw[<-D.tbl];exact hj);rw[aF hi]at e1;rw[aF hj]at e2;rw[ao e1,ao e2]at e;have hi':i<m-1:=by rw[<-D.tbl];exact hi
   have hj':j<m-1:=by rw[<-D.tbl];exact hj
   unfold rel at e;simp only[Prod.mk.injEq]at e;have hc:(cl.getD a 0=cl.getD b 0/\cl.getD (i+1) 0=cl.getD (j+1) 0)\/(cl.getD a 0=cl.getD (j+1) 0/\cl.getD (i+1) 0=cl.getD b 0):=by lia
   rcases hc with⟨c1,c2⟩ | ⟨c1,c2⟩
   ·have:=D.inj (by lia) (by lia) c2;lia
   ·have:=D.inj (by lia) (by lia) c1;have:=D.inj (by lia) (by lia) c2;lia
  have le2:(tb.map (rel cl)).length<=ss.length:=aD ndr λ t h=>(hm t).mpr h;have:=D.tbl;simp at len1 le2;show ss.length+1=m;lia
end
end L2
namespace L2
open PySem PySem.Spec PyProof.Rows
set_option genInjectivity false in
set_option genSizeOf false in
structure FnT (K:gG)(mg:gD)(n:Str)(s:Stmt)(ps:List Str) where
 f:Addr
 fd:FuncData
 F:Fun K n n s f fd
 m:mg n=My (.ref f)
 bb:∀ us:List gH,us.length=ps.length->bindArgs fd ⟨us,[]⟩=pure (ps.zip us)
theorem FnT.b {K:gG}{mg:gD}{n:Str}{s:Stmt}{ps:List Str}(t:FnT K mg n s ps):Binds K t.fd ps []:=.all t.bb
structure CtT (K:gG)(mg:gD)(n:Str)(d:Dt) where
 u:gH
 v:V
 m:mg n=My u
 r:RelV v u
 i:∀ H,Is K H v d
abbrev OkT {K:gG}{mg:gD}{n:Str}{s:Stmt}{ps:List Str}(P:Program)(w:World)(base:Heap)(t:FnT K mg n s ps)(k:Nat)(sp:Sp):Prop:=pj P w K mg base CX0 k t.f t.fd ps sp
theorem FnT.okD {P:Program}{w:World}{base:Heap}{K:gG}{mg:gD}{n:Str}{st:Stmt}{ps N:List Str}{k:Nat}{fD:List Dt->gF Dt}{g:DE->gF RD}(t:FnT K mg n st ps)(S:ie N ps (gW st))
  (hbody:∀ (cdv:gH) (A:Around) (outer:List Env) (s:gJ) (H:Hp) (E:XK),jt k (A.deeper (envOfC n (gW st) s.heap.objs.size t.f cdv)) ->
   PSs (qo CX0 P w K mg base N n (gW st) t.f cdv A outer s H E).nox (iW st) (tDS K g))
  (hg:∀ ds d,ds.length=ps.length->fD ds=My d->∃ r,g (pJ N ds)=My r/\M8 r=d):OkT P w base t (k+1) (spD K ps.length fD):=t.F.okD S hbody hg
section
variable {X:Cx}{e:Expr}{es:List Expr}{pos p:Pos}{x:Str}{st:Stmt}{j k n:Nat}{ps:List Str}
theorem pC {sp:Sp}{t:TA}(T:FnT X.K X.mg x st ps)(F:pj X.prog X.w X.K X.mg X.base CX0 k T.f T.fd ps sp)(hr:jt j X.A)(ha:PA X (e::es) t)(hj:k<=j:=by decide)(hg:Gl X x:=by rfl)(hdb:(x==("__debug__":Str))=Ta:=by decide)(he:starEach (e::es) X.env=(Ta,eval e X.env)::starEach es X.env:=by rfl)(hpl:(backTo pos (starEach es X.env)).any (·.1)=Ta:=by rfl) :
  PE X (.Call (.Name x p) (e::es) [] pos) (jr sp [] E0 t):=sR F (hr.mono hj) hg T.m T.F.kp T.b .nil LL ha hdb he hpl
theorem dC {fD:List Dt->gF Dt}{gs:DE->gF (List Dt)}(t:FnT X.K X.mg x st ps)(F:pj X.prog X.w X.K X.mg X.base CX0 k t.f t.fd ps (spD X.K n fD))(hr:jt j X.A)(ha:PDs X (e::es) gs)(hj:k<=j:=by decide)(hg:Gl X x:=by rfl)(hdb:(x==("__debug__":Str))=Ta:=by decide)(he:starEach (e::es) X.env=(Ta,eval e X.env)::starEach es X.env:=by rfl)(hpl:(backTo pos (starEach es X.env)).any (·.1)=Ta:=by rfl) :
  PD X (.Call (.Name x p) (e::es) [] pos) (hZ n fD gs):=M0 F (hr.mono hj) t.m t.F.kp t.b ha hg hdb he hpl
theorem dG {d:Dt}(c:CtT X.K X.mg x d)(hg:Gl X x:=by rfl)(hd:(x==("__debug__":Str))=Ta:=by decide):PD X (.Name x pos) (gC d):=MY c.m c.r c.i hg hd
theorem pgo (i:Nat)(hN:X.N.Nodup:=by trivial)(hi:X.N[i]?=My x:=by rfl)(hx:Loc X.env.scope x:=by trivial)(hf:X.fn x=S_\/X.env.scope.names.lookup x=My .local:=by trivial):PG X (.Name x pos) (iA i):=Jv hN hi hx hf
theorem csc {scope:Scope}(own fr:List Str)(ix:List Nat)(h1:scope.kind=.function:=by rfl)(h2:(scope.names.all λ x=>x.2 != .local || scope.names.lookup x.1==My .local)=S_:=by rfl)
  (h3:(scope.names.all λ x=>x.2 != .cell)=S_:=by rfl) (h4:(scope.names.all λ x=>x.2 != .free || (X.env.kindOf x.1==My .cell || X.env.kindOf x.1==My .free))=S_:=by rfl)
  (h5:(own.all λ x=>scope.names.lookup x==My .local)=S_:=by rfl) (h6:(fr.all λ x=>scope.names.lookup x==My .free)=S_:=by rfl) (h7:ix.map (λ i=>X.N[i]?)=fr.map My:=by rfl) (h8:(own++fr).Nodup:=by decide +kernel):lJ X scope own fr ix:=Nb h1 h2 h3 h4 h5 h6 h7 h8
end
theorem ls0 {P:List gH->Prop}(h:P [])(us:List gH)(e:us.length=0):P us:=by rw[cB e];exact h
theorem lsS {P:List gH->Prop}{k:Nat}(h:∀ a us,us.length=k->P (a::us))(us:List gH)(e:us.length=k+1):P us:=by
 cases us with
 | nil=>cases e
 | cons a r=>exact h a r (Nat.succ.inj e)
theorem ls1 {P:List gH->Prop}(h:∀ a,P [a])(us:List gH)(e:us.length=1):P us:=lsS (k:=0) (λ a us e=>ls0 (P:=λ us=>P (a::us)) (h a) us e) us e
theorem ls2 {P:List gH->Prop}(h:∀ a b,P [a,b])(us:List gH)(e:us.length=2):P us:=lsS (k:=1) (λ a us e=>ls1 (P:=λ us=>P (a::us)) (h a) us e) us e
theorem ls3 {P:List gH->Prop}(h:∀ a b c,P [a,b,c])(us:List gH)(e:us.length=3):P us:=lsS (k:=2) (λ a us e=>ls2 (P:=λ us=>P (a::us)) (h a) us e) us e
theorem ls4 {P:List gH->Prop}(h:∀ a b c d,P [a,b,c,d])(us:List gH)(e:us.length=4):P us:=lsS (k:=3) (λ a us e=>ls3 (P:=λ us=>P (a::us)) (h a) us e) us e
section
variable {K:gG}{h:Heap}{mg:gD}{n:Str}(X:K.In h)(G:h.Ns mainGlobals mg)
def fnT {s:Stmt}{ps:List Str}{f:Addr}{od an:gF Addr}{sl:Array (gF gH)}{oc kV dc pm cd ct:gH}(a:PySem.W.nsIn K mainGlobals n=My (My (.ref f)))
  (l:K.lookup f=My ⟨oc,od,.func (PySem.W.fnOf n n (sV s) (iW s) (gW s) .none kV dc pm an cd ct),sl⟩) (c:PySem.W.codeIn K cd n=S_) (k:PySem.W.keepIn K (.ref f)=S_)
  (hb:∀ (kV dc pm:gH) (an:gF Addr) (cd ct:gH) (us:List gH),us.length=ps.length->bindArgs (PySem.W.fnOf n n (sV s) (iW s) (gW s) .none kV dc pm an cd ct) ⟨us,[]⟩=pure (ps.zip us):=by first | exact λ _ _ _ _ _ _=>L2.ls1 λ _=>rfl | exact λ _ _ _ _ _ _=>L2.ls2 λ _ _=>rfl | exact λ _ _ _ _ _ _=>L2.ls3 λ _ _ _=>rfl | exact λ _ _ _ _ _ _=>L2.ls4 λ _ _ _ _=>rfl | exact λ _ _ _ _ _ _=>L2.ls0 rfl):FnT K mg n s ps :=
 ⟨f,_,MQ (st:=s) l c k,eA X G a,hb _ _ _ _ _ _⟩
def ctI {i:Int}{t:Tok}(a:PySem.W.nsIn K mainGlobals n=My (My (.int i t))):CtT K mg n (.int i):=⟨_,.int i,eA X G a,⟨_,rfl⟩,λ _=>.int _⟩
end
open PySem.W Zp PySem.SeqAt Tb
def leP (a b:Nat×Nat):Bool:=!mP b a
def vJ (l:gK):gK:=l.mergeSort leP
theorem rA (a b:Nat×Nat):leP a b=S_↔a.1<b.1\/(a.1=b.1/\a.2<=b.2):=by
 unfold leP;have:=kX b a;cases e:mP b a with
 | true=>rw[e]at this;simp at this ⊢;lia
 | false=>rw[e]at this;simp at this ⊢;lia
theorem uT (l:gK):(vJ l).Perm l:=List.mergeSort_perm l leP
theorem EM (l:gK):(vJ l).Pairwise λ a b=>leP a b=S_:=List.pairwise_mergeSort (λ a b c h1 h2=>by rw[rA]at *;lia) (λ a b=>by rw[Bool.or_eq_true,rA,rA];lia) l
theorem HI {a b:Nat×Nat}(h1:leP a b=S_)(h2:leP b a=S_):a=b:=by rw[rA]at h1 h2;exact gy (by lia) (by lia)
theorem zE {l m:gK}(h:m.Perm l)(hs:m.Pairwise λ a b=>leP a b=S_):m=vJ l :=
 (h.trans (uT l).symm).eq_of_pairwise (λ a b _ _ h1 h2=>HI h1 h2) hs (EM l)
section
variable {X:Cx}{pins:gL}{σ:St}{H:Hp}{s:gJ}
def xu:List Dt->gF Dt:=sj λ x=>(dTt x).bind λ l=>if l.length<64 then My (.lst ((vJ l).map gX)) else SY
theorem HJ (a b:Nat×Nat):pLt ((a.1:Int),(a.2:Int)) ((b.1:Int),(b.2:Int))=mP a b:=by rw[bj,pB,kX];simp;lia
theorem Kj {v:V}{t:Nat×Nat}(i:Is X.K H v (gX t)):∃ b,v=.ref b/\SqT X.K H b [.int t.1,.int t.2]:=by obtain⟨b,xs,rfl,hs,is⟩:=i.ik;obtain⟨u,u',rfl,j0,j1⟩:=is.two;rw[j0.int_inv,j1.int_inv]at hs;exact⟨b,rfl,hs⟩
theorem Kk (I:Inv X pins σ H s){b:Addr}{i j:Int}(h:SqT X.K H b [.int i,.int j]):lI X.prog X.w s.heap [i,j] b:=by obtain⟨its,r,⟨o,e1,e2,n,e3⟩,_⟩:=I.tuple h;exact⟨o,its.toArray,n,e1,e2,e3,by simpa using pD (k:=[i,j]) r⟩
theorem Nh {ys:List V}{l:gK}(is:Iss X.K H ys (l.map gX)){j:Nat}(hj:j<l.length):∃ v,ys[j]?=My v/\Is X.K H v (gX (l.getD j (0,0))):=by refine is.get (d:=gX (l.getD j (0,0))) ?_;rw[aK,aG,aF hj];rfl
theorem EN {K:gG}{H:Hp}{α:Type}{f:α->V}{g:α->Dt}:∀ {p:List α},(∀ i∈p,Is K H (f i) (g i))->Iss K H (p.map f) (p.map g)
 | [],_=>.nil
 | i::r,h=>.cons (h i av) (EN λ j hj=>h j (ax _ hj))
theorem FQ (hc:X.calm=S_):jB X (.builtin "sorted") (cD X.K xu):=by
 intro pins s σ H xs us Q I rs hz;obtain⟨ds,d,is,e,q⟩:=hz;obtain⟨x,rfl,e1⟩:=kf e;obtain⟨l,e2,e3⟩:=gP e1;obtain rfl:=v9 e2;clear e e1 e2;by_cases h64:l.length<64
 ·rw[ai h64]at e3
  cases e3;obtain⟨v,rfl,i⟩:=is.one;obtain⟨a,ys,rfl,ha,js⟩:=i.ik;obtain⟨u,rfl,ru⟩:=vals1 rs;cases ru;obtain⟨its,rv,pt,_⟩:=I.tuple ha;obtain⟨o,ho,hcl,nn,hda⟩:=id pt;have hyl:ys.length=l.length:=by rw[js.length,af]
  have hvl:its.length=l.length:=by rw[<-rv.length,hyl]
  obtain⟨m,hm,_⟩:=id I.loc;have no:∀ b,(Att.jd s.heap).get? b=SY:=λ b=>cu (aN _);refine dh kind_sorted plain_sorted entry_sorted (args_sorted1 _) ?_;unfold Builtin.«sorted»;refine ae (m:=checkCount "sorted" 1 1 _) (ag (ae (wpAny_collect_seq a (.inr rfl) ho hcl hda (λ h1 hk=>?_) (by rw[au,sizeLine_eq];lia))));have hal:its.toArray.toList.length=l.length:=hvl;have at_j:∀ j,j<l.length->∃ b,its.toArray.toList[j]?=My (.ref b)/\ys[j]?=My (.ref b)/\SqT X.K H b [.int (l.getD j (0,0)).1,.int (l.getD j (0,0)).2]:=λ j hj=>by obtain⟨v,e1,i1⟩:=Nh js hj;obtain⟨b,rfl,hs⟩:=Kj i1;obtain⟨u,e2,r2⟩:=rv.get e1;cases r2;exact⟨b,e2,e1,hs⟩
  generalize its.toArray.toList=vs at hal at_j;refine ae (fv ?_ (by rw[sizeLine_eq];lia));have hL:X.env.locals<h1.objs.size:=by obtain⟨oL,_,_,ho,_⟩:=hm;exact ar (hk _ _ ho)
  have keep1:∀ b o,s.heap.get? b=My o->(h1.push {cls:=.type "list",data:=.seq vs.toArray}).get? b=My o:=λ b o e=>ah _ (hk b o e);have F1:Fr (Att.jd s.heap) X.env.locals (h1.push {cls:=.type "list",data:=.seq vs.toArray}) m:=⟨hm.at' λ o e=>keep1 _ o e,(λ b o e=>by rw[no]at e;cases e),aN _⟩;have N1:News (Att.jd s.heap) X.env.locals (h1.push {cls:=.type "list",data:=.seq vs.toArray}) (lg (Att.jd s.heap) s.heap X.env.locals):=λ p hp=>let ⟨a,_,c⟩:=jA hp;⟨keep1 _ _ c,a,no _⟩;have hD:(h1.push {cls:=.type "list",data:=.seq vs.toArray}).get? h1.objs.size=My (listOf vs.toArray 0):=aE _ rfl;have hneD:∀ p∈lg (Att.jd s.heap) s.heap X.env.locals,p.1≠h1.objs.size:=λ p hp=>let ⟨_,_,c⟩:=jA hp;aM (ar (hk _ _ c));let kI:Nat->Int×Int:=λ i=>(((l.getD i (0,0)).1:Int),((l.getD i (0,0)).2:Int));have fin:∀ (p:List Nat) h2 c tk2,p.Perm (Tc l.length)->(p.map kI).Pairwise (λ a b=>pLt b a=Ta)->Fr (Att.jd s.heap) X.env.locals h2 m->News (Att.jd s.heap) X.env.locals h2 ((h1.objs.size,listOf (List.toArray (p.map λ i=>vs.getD i Value.none)) c)::lg (Att.jd s.heap) s.heap X.env.locals) ->
    EP X pins σ Q (.ref h1.objs.size) {s with heap:=h2,toks:=tk2}:=λ p h2 c tk2 hlp hso F2 N2=>by
   have I2:Inv X pins σ H {s with heap:=h2,toks:=tk2}:=I.pE hm F2 λ p hp=>N2 p (ax _ hp);have hn:H h1.objs.size=SY:=by
    cases e:H h1.objs.size with
    | none=>rfl
    | some o =>obtain⟨o',ho'⟩:=tf (I.hok _ _ e);exact absurd (ar (hk _ _ ho')) (aW _)
   have hlt:∀ i∈p,i<l.length:=λ i hi=>aC.mp (hlp.mem_iff.mp hi);let bo:Nat->V:=λ i=>ys.getD i .non;have hbo:∀ i,i<l.length->RelV (bo i) (vs.getD i Value.none)/\Is X.K H (bo i) (gX (l.getD i (0,0))):=λ i hi=>by obtain⟨b,b1,b2,b3⟩:=at_j i hi;show RelV (ys.getD i .non) _/\Is X.K H (ys.getD i .non) _;rw[aG,aG,b1,b2];exact⟨rfl,.tup b3 (.cons (.int _) (.cons (.int _) .nil))⟩
   have new:jx X.prog X.w (upd H h1.objs.size (.lst (p.map bo))) h2 h1.objs.size (.lst (p.map bo)) :=
    ⟨by rw[af,hlp.length_eq,bE,sizeLine_eq];lia,p.map λ i=>vs.getD i Value.none,c,lE p λ i hi=>(hbo i (hlt i hi)).1,(N2 _ av).1⟩
   have I3:Inv X pins σ (upd H h1.objs.size (.lst (p.map bo))) {s with heap:=h2,toks:=tk2}:=I2.zu hn (bC I.ok.above (d_ hL)) (bM hL) (λ x c e z=>by
     obtain⟨v,o,ho,_⟩:=I.cell x c e;exact absurd (ar (hk _ _ ho)) (by rw[z];exact aW _)) (λ p hp z=>by
     exact absurd (ar (hk _ _ (I.pin p hp).1)) (by rw[z];exact aW _)) new
   have pm:(p.map λ i=>l.getD i (0,0)).Perm l:=by have:=hlp.map λ i=>l.getD i (0,0);rw[jP]at this;exact this
   have so:(p.map λ i=>l.getD i (0,0)).Pairwise λ a b=>leP a b=S_:=by rw[bq]at hso ⊢;refine hso.imp λ{i j} h=>?_;unfold leP;rw[<-HJ];have h:pLt (kI j) (kI i)=Ta:=h;rw[show pLt (((l.getD j (0,0)).1:Int),((l.getD j (0,0)).2:Int)) (((l.getD i (0,0)).1:Int),((l.getD i (0,0)).2:Int))=Ta from h];rfl
   have eq:=zE pm so;refine⟨.ref h1.objs.size,_,I3,rfl,q _ _ (gY.upd hn) (.lst gU ?_)⟩;rw[<-eq,aP];have sm:gY H (upd H h1.objs.size (.lst (p.map bo))):=gY.upd hn;exact EN λ i hi=>(hbo i (hlt i hi)).2.ext sm
  refine ae (bJ ?_);by_cases h2:2<=vs.length
  ·refine rZ (X:=kI) F1 (λ p hp=>?_) hneD h2 (by lia) (λ h' F' N' i v hv=>?_) λ p h' c P So F2 N2=>ag ⟨_,rfl,?_⟩
   ·rcases aB.mp hp with rfl | hp
    ·exact⟨hD,bM hL,no _⟩
    ·exact N1 p hp
   ·have hi:i<l.length:=by
     have:=(aQ.mp hv).1;lia
    obtain⟨b,b1,_,b3⟩:=at_j i hi;rw[hv]at b1;cases b1;refine⟨b,rfl,?_⟩;have I2:Inv X pins σ H {s with heap:=h',toks:=s.toks}:=I.pE hm F' N';exact Kk I2 b3
   ·rw[hal]at P So
    refine fin p.toList h' c _ P.2 ?_ F2 N2;rw[bq,bQ];intro i j hi hj hij;have hjs:j<l.length:=by have:=P.size;simp at hj;lia
    have:=So i j (by lia) hjs;unfold KeyOrd.kle Kp at this;have gi:p.getD i 0=p.toList[i]:=by simp[Array.getD,show i<p.size by simpa using hi]
    have gj:p.getD j 0=p.toList[j]:=by simp[Array.getD,show j<p.size by simpa using hj]
    rw[gi,gj]at this;exact this
  ·refine r_ hD (by lia) λ h' c kp hc'=>ag ⟨_,rfl,?_⟩
   refine fin (Tc l.length) h' c _ (.refl _) ?_ ⟨F1.ns.at' λ o e=>kp _ o (aM hL) e,(λ b o e=>by rw[no]at e;cases e),aN _⟩ λ p hp=>?_
   ·have:((Tc l.length).map kI).length<2:=by simp;lia
    match (Tc l.length).map kI,this with
    | [],_=>exact .nil
    | [a],_=>exact dU _ _
   ·rcases aB.mp hp with rfl | hp
    ·refine⟨?_,bM hL,no _⟩;rw[<-hal,jP];exact hc'
    ·exact⟨kp _ _ (hneD p hp) (N1 p hp).1,(N1 p hp).2⟩
 ·rw[ak h64]at e3;cases e3
end
end L2
namespace Dt0
def sm:Nat->(Nat->Rat)->Rat
 | 0,_=>0
 | n+1,f=>sm n f+f n
theorem HK (a b:Rat)(f g:Nat->Rat):∀ n,sm n (λ r=>a*f r+b*g r)=a*sm n f+b*sm n g
 | 0=>by simp[sm];grind
 | n+1=>by show sm n _+_=a*(sm n f+f n)+b*(sm n g+g n);rw[HK a b f g n];grind
theorem qI {f g:Nat->Rat}:∀ {n:Nat},(∀ r,r<n->f r=g r)->sm n f=sm n g
 | 0,_=>rfl
 | n+1,h=>by show sm n f+f n=sm n g+g n;rw[qI λ r hr=>h r (by lia),h n (by lia)]
theorem AK:∀ n,sm n (λ _=>0)=0
 | 0=>rfl
 | n+1=>by show sm n _+0=0;rw[AK n];grind
theorem HL {f:Nat->Rat}{i:Nat}:∀ {n:Nat},i<n->(∀ r,r<n->r≠i->f r=0)->sm n f=f i
 | 0,h,_=>by lia
 | n+1,h,hz=>by
  show sm n f+f n=f i;by_cases e:i=n
  ·subst e;have:sm i f=sm i (λ _=>0):=qI λ r hr=>hz r (by lia) (by lia);rw[this,AK];grind
  ·rw[HL (n:=n) (by lia) λ r hr ne=>hz r (by lia) ne,hz n (by lia) (by lia)];grind
section
variable (A:Nat->Nat->Rat)
variable {A}
end
end Dt0
namespace Dt0
section
variable (a:Nat->Nat->Int)
mutual
def Tz:Nat->Nat->Nat->Int
 | 0=>a
 | k+1=>λ i j=>if i=k then Tz k i j else (Tz k k k*Tz k i j-Tz k i k*Tz k k j) / fm k
def fm:Nat->Int
 | 0=>1
 | k+1=>Tz k k k
end
variable {a}
end
end Dt0
namespace L2
open PySem PySem.Spec PyProof.Rows Zp Qs
theorem DA {a b c:Nat×Nat}(h1:mP a b=S_)(h2:mP b c=S_):mP a c=S_:=by rw[kX]at *;lia
theorem mW:∀ {l:gK},rise l=S_->l.Pairwise (λ a b=>mP a b=S_)
 | [],_=>.nil
 | [a],_=>dU _ _
 | a::b::r,h=>by
  have h':(mP a b&&rise (b::r))=S_:=h;rw[aL]at h';have ih:=mW h'.2;refine eK.mpr ⟨λ c hc=>?_,ih⟩;rcases aB.mp hc with rfl | hc
  ·exact h'.1
  ·exact DA h'.1 ((eK.mp ih).1 c hc)
section
variable {w:Web}(g:Good w)
include g
theorem Good.nd:w.2.Nodup:=BZ (mW g.rise)
theorem Good.HM (p:Nat):(nb w.2 p).Nodup:=by
 rw[(AH w.2 p).nodup_iff,List.nodup_append];have inj1:((w.2.filter λ t=>t.2==p).map (·.1)).Nodup:=by
  rw[aI,bq];have:=aI.mp (g.nd.filter λ t=>t.2==p);refine dO ?_ this;intro a b ha hb hab e;have h1:a.2=p:=by simpa using (aS.mp ha).2
  have h2:b.2=p:=by simpa using (aS.mp hb).2
  exact hab (gy e (h1.trans h2.symm))
 have inj2:((w.2.filter λ t=>t.1==p).map (·.2)).Nodup:=by
  rw[aI,bq];have:=aI.mp (g.nd.filter λ t=>t.1==p);refine dO ?_ this;intro a b ha hb hab e;have h1:a.1=p:=by simpa using (aS.mp ha).2
  have h2:b.1=p:=by simpa using (aS.mp hb).2
  exact hab (gy (h1.trans h2.symm) e)
 refine⟨inj1,inj2,λ x hx y hy e=>?_⟩;obtain⟨t,ht,rfl⟩:=aA.mp hx;obtain⟨u,hu,rfl⟩:=aA.mp hy;have h1:t.2=p:=by simpa using (aS.mp ht).2
 have h2:u.1=p:=by simpa using (aS.mp hu).2
 have:=g.ok t (aS.mp ht).1;have:=g.ok u (aS.mp hu).1;lia
theorem Good.jk {p j:Nat}(h:j∈nb w.2 p):j<w.1/\p<w.1/\j≠p:=by
 rcases lM.mp h with h | h
 ·have:=g.ok _ h;simp at this;lia
 ·have:=g.ok _ h;simp at this;lia
omit g in
theorem uU {l:gK}{p j:Nat}:j∈nb l p↔p∈nb l j:=by rw[lM,lM];exact Or.comm
theorem Good.Ni (p:Nat)(hp:p<w.1):(nb w.2 p).length<=7:=by
 have h:(p::nb w.2 p).Nodup:=bc.mpr ⟨λ m=>(g.jk m).2.2 rfl,g.HM p⟩;have:=aD h (l₂:=Tc w.1) λ x hx=>by
  rcases aB.mp hx with rfl | hx
  ·exact aC.mpr hp
  ·exact aC.mpr (g.jk hx).1
 simp at this;have:=g.oh;lia
end
section
variable {w:Web}(g:Good w)
include g
def dg (w:Web)(j:Nat):Nat:=(nb w.2 j).length
end
structure EO (l:gK)(s c:Nat)(fd:gK)(ic:List Nat):Prop where
 start:(s,0)∈fd
 nd:(keys fd).Nodup
 le:∀ q∈fd,q.2<=c
 ic:∀ v,v∈ic↔(v,c)∈fd
 cl:∀ q∈fd,q.2<c->∀ u∈nb l q.1,∃ d,(u,d)∈fd/\d<=q.2+1
 par:∀ q∈fd,(q.2=0/\q.1=s)\/∃ u d,(u,d)∈fd/\q.2=d+1/\q.1∈nb l u
 ord:fd.Pairwise (λ a b=>a.2<=b.2)
theorem oZ:∀ {fd:gK} {v d:Nat},(keys fd).Nodup->(v,d)∈fd->look fd v=d
 | q::r,v,d,nd,h=>by
  obtain⟨k,e⟩:=q;have nd:(k::keys r).Nodup:=nd;rw[bc]at nd;by_cases hk:v=k
  ·subst hk
   rcases aB.mp h with h | h
   ·cases h;simp[look,List.lookup]
   ·exact absurd (aA.mpr ⟨_,h,rfl⟩) nd.1
  ·rcases aB.mp h with h | h
   ·cases h;exact absurd rfl hk
   ·have:=oZ nd.2 h
    unfold look at this ⊢;rw[a_];have:(v==k)=Ta:=by simpa using hk
    rw[this];assumption
theorem HN {fd:gK}{v:Nat}(nd:(keys fd).Nodup)(h:v∈keys fd):(v,look fd v)∈fd:=by obtain⟨⟨a,b⟩,hq,rfl⟩:=aA.mp h;rw[oZ nd hq];exact hq
structure Mid (l:gK)(c:Nat)(fd:gK)(st:gK×List Nat)(nw:gK):Prop where
 eq:st.1=fd++nw
 by':st.2=nw.map (·.1)
 nd:(keys st.1).Nodup
 val:∀ q∈nw,q.2=c+1/\∃ u,(u,c)∈fd/\q.1∈nb l u
set_option tactic.hygienic true in
theorem Mid.one {l:gK}{c:Nat}{fd:gK}{st:gK×List Nat}{nw:gK}(h:Mid l c fd st nw){p j:Nat}(hp:(p,c)∈fd)(hj:j∈nb l p):∃ nw',Mid l c fd (i9 p st j) nw':=by
 unfold i9;split
 ·exact⟨nw,h⟩
 ·rename_i hk
  have hk:j∉keys st.1:=λ m=>hk ((nu _ _).mpr m);have e:look st.1 p=c:=oZ h.nd (by rw[h.eq];exact bf _ hp);refine⟨nw++[(j,look st.1 p+1)],⟨?_,?_,?_,?_⟩⟩
  ·show st.1++_=_;rw[h.eq,bW]
  ·show st.2++[j]=_;rw[h.by',aY];rfl
  ·show(keys (st.1++_)).Nodup;rw[keys,aY];exact Aj h.nd hk
  ·intro q hq
   rcases bh.mp hq with z | z
   ·exact h.val q z
   ·rw[bp.mp z,e];exact⟨rfl,p,hp,hj⟩
theorem Mid.vis {l:gK}{c:Nat}{fd:gK}{p:Nat}(hp:(p,c)∈fd):∀ (xs:List Nat) (st:gK×List Nat) (nw:gK),(∀ j∈xs,j∈nb l p)->Mid l c fd st nw->∃ nw',Mid l c fd (xs.foldl (i9 p) st) nw'
 | [],st,nw,_,h=>⟨nw,h⟩
 | x::r,st,nw,hx,h=>by obtain⟨nw',h'⟩:=h.one hp (hx x av);exact Mid.vis hp r _ nw' (λ j hj=>hx j (ax _ hj)) h'
theorem Mid.lay {l:gK}{c:Nat}{fd:gK}:∀ (es:List Nat) (st:gK×List Nat) (nw:gK),(∀ p∈es,(p,c)∈fd)->Mid l c fd st nw->∃ nw',Mid l c fd (es.foldl (visit l) st) nw'
 | [],st,nw,_,h=>⟨nw,h⟩
 | x::r,st,nw,hx,h=>by obtain⟨nw',h'⟩:=Mid.vis (hx x av) (nb l x) st nw (λ _ h=>h) h;exact Mid.lay r _ nw' (λ j hj=>hx j (ax _ hj)) h'
theorem EO.step {l:gK}{s c:Nat}{fd:gK}{ic:List Nat}(h:EO l s c fd ic):EO l s (c+1) (jU l fd ic).1 (jU l fd ic).2:=by
 obtain⟨nw,m⟩:=Mid.lay ic (fd,[]) [] (λ p hp=>(h.ic p).mp hp) ⟨by simp,rfl,h.nd,λ q hq=>by cases hq⟩;have m:Mid l c fd (jU l fd ic) nw:=m;have dn:=λ k (hk:k∈ic)=>sy (l:=l) (fd:=fd) ic (fd,[]) k (.inl hk);have dn:∀ k∈ic,Done l (jU l fd ic).1 k:=dn;have mem:∀ q,q∈(jU l fd ic).1↔q∈fd\/q∈nw:=λ q=>by rw[m.eq,bh]
 have le1:∀ q∈(jU l fd ic).1,q.2<=c+1:=λ q hq=>by
  rcases (mem q).mp hq with z | z
  ·have:=h.le q z;lia
  ·have:=(m.val q z).1;lia
 refine⟨(mem _).mpr (.inl h.start),m.nd,le1,λ v=>?_,λ q hq lt u hu=>?_,λ q hq=>?_,?_⟩
 ·rw[m.by',aA]
  constructor
  ·rintro⟨q,hq,rfl⟩;have:=(m.val q hq).1;rw[<-this];exact(mem _).mpr (.inr hq)
  ·intro hv
   rcases (mem _).mp hv with z | z
   ·have:=h.le _ z;simp at this;lia
   ·exact⟨_,z,rfl⟩
 ·rcases (mem q).mp hq with z | z
  ·by_cases hc:q.2<c
   ·obtain⟨d,hd,hle⟩:=h.cl q z hc u hu;exact⟨d,(mem _).mpr (.inl hd),hle⟩
   ·have e:q.2=c:=by have:=h.le q z;lia
    have hk:q.1∈ic:=(h.ic _).mpr (by rw[<-e];exact z);have:=dn q.1 hk u hu;obtain⟨q',hq',rfl⟩:=aA.mp this;exact⟨q'.2,hq',by rw[e];exact le1 q' hq'⟩
  ·have:=(m.val q z).1;lia
 ·rcases (mem q).mp hq with z | z
  ·rcases h.par q z with y | ⟨u,d,h1,h2,h3⟩
   ·exact .inl y
   ·exact .inr ⟨u,d,(mem _).mpr (.inl h1),h2,h3⟩
  ·obtain⟨e,u,hu,hn⟩:=m.val q z;exact .inr ⟨u,c,(mem _).mpr (.inl hu),e,hn⟩
 ·rw[m.eq,List.pairwise_append]
  refine⟨h.ord,?_,λ a ha b hb=>?_⟩
  ·rw[bQ];intro i j hi hj _;have:=(m.val _ (cX hi)).1;have:=(m.val _ (cX hj)).1;lia
  ·have:=h.le a ha;have:=(m.val b hb).1;lia
structure Far (l:gK)(s:Nat)(fd:gK):Prop where
 start:(s,0)∈fd
 nd:(keys fd).Nodup
 cl:∀ q∈fd,∀ u∈nb l q.1,∃ d,(u,d)∈fd/\d<=q.2+1
 par:∀ q∈fd,(q.2=0/\q.1=s)\/∃ u d,(u,d)∈fd/\q.2=d+1/\q.1∈nb l u
 ord:fd.Pairwise (λ a b=>a.2<=b.2)
theorem zF {l:gK}{s:Nat}:∀ (m c:Nat) (fd:gK) (ic:List Nat),BI (univ l s) (fd,ic)->EO l s c fd ic->(ic≠[]->2*l.length+3<=m+fd.length)->Far l s (nH l m fd ic)
 | m,c,fd,[],bi,h,_=>by
  have e:nH l m fd []=fd:=by cases m<;>rfl
  rw[e];exact⟨h.start,h.nd,λ q hq=>h.cl q hq (by
   have:=h.le q hq;rcases Nat.lt_or_ge q.2 c with z | z
   ·exact z
   ·have e:q.2=c:=by lia
    have:=(h.ic q.1).mpr (by rw[<-e];exact hq);cases this),h.par,h.ord⟩
 | 0,c,fd,e::es,bi,h,hf=>by have:=bi.le;rw[oY]at this;have h:=hf (by simp);have:fd.length<=2*l.length+1:=this;lia
 | m+1,c,fd,e::es,bi,h,hf=>by have hf:=hf (by simp);have bi':BI (univ l s) (fd,[]):=⟨bi.nd,bi.sub,by simp⟩;have lb:=tP (ic:=e::es) bi';have ll:=uS (l:=l) (fd:=fd) (ic:=e::es);exact zF m (c+1) (jU l fd (e::es)).1 (jU l fd (e::es)).2 ⟨lb.nd,lb.sub,lb.by'⟩ h.step (λ hne=>by have:0<(jU l fd (e::es)).2.length:=dP.mpr hne;lia)
theorem jX (l:gK)(s:Nat):Far l s (bfs l s):=by refine zF (2*l.length+2) 0 [(s,0)] [s] ⟨by simp,λ q hq=>by rw[bp.mp hq];exact av,λ j hj=>by simpa using hj⟩ ?_ (λ _=>by simp);refine⟨by simp,by simp[keys],λ q hq=>by simp at hq;rw[hq];simp,λ v=>by simp,λ q hq lt=>by lia,λ q hq=>by simp at hq;rw[hq];simp,by simp⟩
theorem Far.sub {l:gK}{s:Nat}{fd:gK}(f:Far l s fd)(S:Nat->Prop)(s0:S s)(cl:∀ u v,v∈nb l u->S u->S v):∀ (d v:Nat),(v,d)∈fd->S v
 | 0,v,h=>by
  rcases f.par _ h with⟨_,e⟩ | ⟨u,d,_,e,_⟩
  ·rw[show v=s from e];exact s0
  ·simp at e
 | d+1,v,h=>by
  rcases f.par _ h with⟨e,_⟩ | ⟨u,d',h1,e,hn⟩
  ·simp at e
  ·simp at e;subst e;exact cl u v hn (Far.sub f S s0 cl d u h1)
section
variable {w:Web}(g:Good w)
include g
theorem Good.Po {v:Nat}(hv:v<w.1):v∈keys (bfs w.2 0):=by
 have f:=jX w.2 0;have sub:∀ k∈keys (bfs w.2 0),k∈Tc w.1:=λ k hk=>by obtain⟨q,hq,rfl⟩:=aA.mp hk;rw[aC];exact f.sub (λ v=>v<w.1) (by have:=g.two;lia) (λ u v h _=>(g.jk h).1) q.2 q.1 hq
 have len:(keys (bfs w.2 0)).length=w.1:=by rw[keys,af];exact g.all
 refine aV λ hn=>?_;have:(v::keys (bfs w.2 0)).Nodup:=bc.mpr ⟨hn,f.nd⟩;have:=aD this (l₂:=Tc w.1) (λ k hk=>by
  rcases aB.mp hk with rfl | hk
  ·exact aC.mpr hv
  ·exact sub k hk)
 simp[len]at this;lia
theorem Good.conn (S:Nat->Prop)(cl:∀ u v,v∈nb w.2 u->S u->S v){u v:Nat}(hu:u<w.1)(hv:v<w.1)(h:S u):S v:=by
 have f:=jX w.2 0;have go:∀ (T:Nat->Prop),(∀ u v,v∈nb w.2 u->T u->T v)->T 0->∀ v,v<w.1->T v:=λ T c t0 v hv=>by obtain⟨q,hq,rfl⟩:=aA.mp (g.Po hv);exact f.sub T t0 c q.2 q.1 hq
 have z:S 0:=aV λ hn=>go (λ v=>¬ S v) (λ a b hb ha sb=>ha (cl b a (uU.mp hb) sb)) hn u hu h;exact go S cl z v hv
theorem Good.inKeys {s v:Nat}(hs:s<w.1):v∈keys (bfs w.2 s)↔v<w.1:=by
 have f:=jX w.2 s;constructor
 ·intro h;obtain⟨q,hq,rfl⟩:=aA.mp h;exact f.sub (λ v=>v<w.1) hs (λ u v h _=>(g.jk h).1) q.2 q.1 hq
 ·intro hv;refine g.conn (λ v=>v∈L2.keys (bfs w.2 s)) (λ u v hv hu=>?_) hs hv (aA.mpr ⟨_,f.start,rfl⟩);obtain⟨q,hq,rfl⟩:=aA.mp hu;obtain⟨d,hd,_⟩:=f.cl q hq v hv;exact aA.mpr ⟨_,hd,rfl⟩
end
def ds (l:gK)(s v:Nat):Nat:=look (bfs l s) v
section
variable {w:Web}(g:Good w)
include g
omit g in
theorem jw (l:gK)(s:Nat):ds l s s=0:=oZ (jX l s).nd (jX l s).start
theorem Good.HP {s v:Nat}(hs:s<w.1)(hv:v<w.1):(v,ds w.2 s v)∈bfs w.2 s:=HN (jX _ _).nd ((g.inKeys hs).mpr hv)
theorem Good.B0 {s u v:Nat}(hs:s<w.1)(h:v∈nb w.2 u):ds w.2 s v<=ds w.2 s u+1:=by obtain⟨d,hd,hle⟩:=(jX w.2 s).cl _ (g.HP hs (g.jk h).2.1) v h;have:ds w.2 s v=d:=oZ (jX _ _).nd hd;lia
theorem Good.qJ {s v:Nat}(hs:s<w.1)(hv:v<w.1)(ne:v≠s):∃ u,v∈nb w.2 u/\ds w.2 s v=ds w.2 s u+1:=by
 rcases (jX w.2 s).par _ (g.HP hs hv) with⟨_,e⟩ | ⟨u,d,h1,h2,h3⟩
 ·exact absurd e ne
 ·refine⟨u,h3,?_⟩;rw[show ds w.2 s u=d from oZ (jX _ _).nd h1];exact h2
theorem Good.om {s v:Nat}(hs:s<w.1)(hv:v<w.1)(h:ds w.2 s v=0):v=s :=
 aV λ ne=>by obtain⟨u,_,e⟩:=g.qJ hs hv ne;lia
theorem Good.HQ {s:Nat}(hs:s<w.1)(F:Nat->Nat)(f0:F s=0)(fs:∀ u v,v∈nb w.2 u->F v<=F u+1):∀ v,v<w.1->F v<=ds w.2 s v:=by
 have go:∀ d v,v<w.1->ds w.2 s v=d->F v<=d:=by
  intro d;induction d with
  | zero=>intro v hv e;rw[g.om hs hv e,f0];exact ay _
  | succ d ih =>intro v hv e;obtain⟨u,hu,e'⟩:=g.qJ hs hv (λ z=>by rw[z,jw]at e;lia);have:=ih u (g.jk hu).2.1 (by lia);have:=fs u v hu;lia
 intro v hv;exact go _ v hv rfl
theorem Good.Nj {a b c:Nat}(ha:a<w.1)(hb:b<w.1)(hc:c<w.1):ds w.2 a c<=ds w.2 a b+ds w.2 b c:=by have:=g.HQ hb (λ v=>ds w.2 a v-ds w.2 a b) (by simp) (λ u v h=>by have:=g.B0 ha h;lia) c hc;lia
theorem Good.zG {a b:Nat}(ha:a<w.1)(hb:b<w.1):ds w.2 b a<=ds w.2 a b:=by
 have go:∀ d v,v<w.1->ds w.2 a v=d->ds w.2 v a<=d:=by
  intro d;induction d with
  | zero=>intro v hv e;rw[g.om ha hv e,jw];exact ay _
  | succ d ih =>intro v hv e;obtain⟨u,hu,e'⟩:=g.qJ ha hv (λ z=>by rw[z,jw]at e;lia);have hul:=(g.jk hu).2.1;have h1:=ih u hul (by lia);have h2:=g.Nj hv hul ha;have h3:=g.B0 hv (uU.mp hu);rw[jw]at h3;lia
 exact go _ b hb rfl
theorem Good.HR {a b:Nat}(ha:a<w.1)(hb:b<w.1):ds w.2 a b=ds w.2 b a:=Nat.le_antisymm (g.zG hb ha) (g.zG ha hb)
theorem Good.HS {a b:Nat}(ha:a<w.1)(hb:b<w.1):ds w.2 a b=1↔b∈nb w.2 a:=by
 constructor
 ·intro h;obtain⟨u,hu,e⟩:=g.qJ ha hb (λ z=>by rw[z,jw]at h;lia);have:u=a:=g.om ha (g.jk hu).2.1 (by lia);rw[<-this];exact hu
 ·intro h;have h1:=g.B0 ha h;rw[jw]at h1;have h2:ds w.2 a b≠0:=λ e=>(g.jk h).2.2 (g.om ha hb e);lia
end
def jm (a b:Nat):Nat×Nat:=(min a b,max a b)
theorem FR (a b:Nat):jm a b=jm b a:=by unfold jm;rw[Nat.min_comm,Nat.max_comm]
theorem xw {a b c d:Nat}(h:jm a b=jm c d):(a=c/\b=d)\/(a=d/\b=c):=by unfold jm at h;simp only[Prod.mk.injEq]at h;lia
theorem B1 {α:Type}{a b:List α}(nd:a.Nodup)(sub:∀ x∈a,x∈b)(len:b.length<=a.length):∀ x∈b,x∈a:=λ x hx=>aV λ hn=>by
 have:=aD (bc.mpr ⟨hn,nd⟩) (l₂:=b) (λ y hy=>by
  rcases aB.mp hy with rfl | hy
  ·exact hx
  ·exact sub y hy)
 simp at this;lia
section
variable {w:Web}(g:Good w)
include g
theorem Good.AL {u v:Nat}:v∈nb w.2 u↔jm u v∈w.2:=by
 rw[lM];unfold jm;constructor
 ·rintro (h | h)
  ·have:=g.ok _ h;simp at this;rw[fq (by lia),gn (by lia)];exact h
  ·have:=g.ok _ h;simp at this;rw[fH (by lia),f9 (by lia)];exact h
 ·intro h
  rcases Nat.le_total u v with z | z
  ·rw[fH z,f9 z]at h;exact .inr h
  ·rw[fq z,gn z]at h;exact .inl h
variable (tr:w.2.length+1=w.1)
include tr
theorem Good.B2 {b:Nat}(hb:b<w.1):∃ par:Nat->Nat,(∀ v,v<w.1->v≠b->v∈nb w.2 (par v)/\ds w.2 b v=ds w.2 b (par v)+1)/\∀ u v,v∈nb w.2 u->(v≠b/\u=par v)\/(u≠b/\v=par u):=by
 have hx:∀ v,∃ u,v<w.1->v≠b->v∈nb w.2 u/\ds w.2 b v=ds w.2 b u+1:=λ v=>by
  by_cases h:v<w.1/\v≠b
  ·obtain⟨u,hu⟩:=g.qJ hb h.1 h.2;exact⟨u,λ _ _=>hu⟩
  ·exact⟨0,λ h1 h2=>absurd ⟨h1,h2⟩ h⟩
 obtain⟨par,hp⟩:=Classical.axiomOfChoice hx;have hp:∀ v,v<w.1->v≠b->v∈nb w.2 (par v)/\ds w.2 b v=ds w.2 b (par v)+1:=hp;refine⟨par,hp,?_⟩;have vs:∀ v,v∈(Tc w.1).filter (λ v=>v != b)↔v<w.1/\v≠b:=λ v=>by simp[aS]
 have nd0:((Tc w.1).filter (λ v=>v != b)).Nodup:=cp.filter _;have len0:w.1<=((Tc w.1).filter (λ v=>v != b)).length+1:=by
  have:=aD (cp (n:=w.1)) (l₂:=b::(Tc w.1).filter (λ v=>v != b)) (λ v hv=>by
   by_cases e:v=b
   ·rw[e];exact av
   ·exact ax _ ((vs v).mpr ⟨aC.mp hv,e⟩))
  simpa using this
 have nd1:(((Tc w.1).filter (λ v=>v != b)).map λ v=>jm (par v) v).Nodup:=by
  rw[aI,bq];refine dO ?_ (aI.mp nd0);intro x y hx hy ne e;obtain⟨x1,x2⟩:=(vs x).mp hx;obtain⟨y1,y2⟩:=(vs y).mp hy;rcases xw e with⟨_,z⟩ | ⟨z1,z2⟩
  ·exact ne z
  ·have h1:=(hp x x1 x2).2;have h2:=(hp y y1 y2).2;rw[z1]at h1;rw[<-z2]at h2;lia
 have full:=B1 nd1 (b:=w.2) (λ t ht=>by obtain⟨v,hv,rfl⟩:=aA.mp ht;obtain⟨h1,h2⟩:=(vs v).mp hv;exact g.AL.mp (hp v h1 h2).1) (by rw[af];lia)
 intro u v h;obtain⟨x,hx,e⟩:=aA.mp (full _ (g.AL.mp h));obtain⟨h1,h2⟩:=(vs x).mp hx;rcases xw e with⟨z1,z2⟩ | ⟨z1,z2⟩
 ·exact .inl ⟨z2▸h2,by rw[<-z1,z2]⟩
 ·exact .inr ⟨z2▸h2,by rw[<-z1,z2]⟩
theorem Good.xx {b u v:Nat}(hb:b<w.1)(h:v∈nb w.2 u):ds w.2 b v=ds w.2 b u+1\/ds w.2 b u=ds w.2 b v+1:=by
 obtain⟨par,hp,ht⟩:=g.B2 tr hb;rcases ht u v h with⟨n,e⟩ | ⟨n,e⟩
 ·have:=(hp v (g.jk h).1 n).2;rw[<-e]at this;exact .inl this
 ·have:=(hp u (g.jk h).2.1 n).2;rw[<-e]at this;exact .inr this
theorem Good.zH {b u u' v:Nat}(hb:b<w.1)(h:u∈nb w.2 v)(h':u'∈nb w.2 v)(lt:ds w.2 b u<ds w.2 b v)(lt':ds w.2 b u'<ds w.2 b v):u=u':=by
 obtain⟨par,hp,ht⟩:=g.B2 tr hb;have go:∀ u,u∈nb w.2 v->ds w.2 b u<ds w.2 b v->u=par v:=λ u h lt=>by
  rcases ht v u h with⟨n,e⟩ | ⟨n,e⟩
  ·have:=(hp u (g.jk h).1 n).2;rw[<-e]at this;lia
  ·exact e
 rw[go u h lt,go u' h' lt']
end
def nx (l:gK)(b v:Nat):Nat:=((nb l v).filter (λ u=>decide (ds l b u<ds l b v))).headD 0
section
variable {w:Web}(g:Good w)
include g
theorem Good.qi {b v:Nat}(hb:b<w.1)(hv:v<w.1)(ne:v≠b):nx w.2 b v∈nb w.2 v/\ds w.2 b v=ds w.2 b (nx w.2 b v)+1/\((nb w.2 v).filter (λ u=>decide (ds w.2 b u<ds w.2 b v)))≠[]:=by
 obtain⟨u,hu,e⟩:=g.qJ hb hv ne;have hm:u∈(nb w.2 v).filter (λ u=>decide (ds w.2 b u<ds w.2 b v)):=aS.mpr ⟨uU.mp hu,by simp;lia⟩;have hne:((nb w.2 v).filter (λ u=>decide (ds w.2 b u<ds w.2 b v)))≠[]:=List.ne_nil_of_mem hm;have hh:nx w.2 b v∈(nb w.2 v).filter (λ u=>decide (ds w.2 b u<ds w.2 b v)):=by
  unfold nx;match (nb w.2 v).filter (λ u=>decide (ds w.2 b u<ds w.2 b v)),hne with
  | x::r,_=>exact av
 obtain⟨h1,h2⟩:=aS.mp hh;have h2:ds w.2 b (nx w.2 b v)<ds w.2 b v:=by simpa using h2
 have:=g.B0 hb (uU.mp h1);exact⟨h1,by lia,hne⟩
theorem Good.ER {b v:Nat}(hb:b<w.1)(hv:v<w.1)(ne:v≠b):nx w.2 b v<w.1:=(g.jk (g.qi hb hv ne).1).1
variable (tr:w.2.length+1=w.1)
include tr
theorem Good.Kl {b u v:Nat}(hb:b<w.1)(h:u∈nb w.2 v)(lt:ds w.2 b u<ds w.2 b v):u=nx w.2 b v:=by
 have ne:v≠b:=λ e=>by rw[e,jw]at lt;lia
 obtain⟨h1,h2,_⟩:=g.qi hb (g.jk h).2.1 ne;exact g.zH tr hb h h1 lt (by lia)
end
def cut (l:gK)(a b:Nat):gK:=l.filter λ t=>t != jm a b
section
variable {w:Web}(g:Good w)
include g
theorem Good.HU {a b u v:Nat}:v∈nb (cut w.2 a b) u↔v∈nb w.2 u/\jm u v≠jm a b:=by
 have e:(v,u)∈cut w.2 a b\/(u,v)∈cut w.2 a b↔((v,u)∈w.2/\(v,u)≠jm a b)\/((u,v)∈w.2/\(u,v)≠jm a b):=by simp[cut,aS]
 rw[lM,e,lM];have h1:(v,u)∈w.2->jm u v=(v,u):=λ h=>by have:=g.ok _ h;simp at this;simp[jm];lia
 have h2:(u,v)∈w.2->jm u v=(u,v):=λ h=>by have:=g.ok _ h;simp at this;simp[jm];lia
 constructor
 ·rintro (⟨h,n⟩ | ⟨h,n⟩)
  ·exact⟨.inl h,by rw[h1 h];exact n⟩
  ·exact⟨.inr h,by rw[h2 h];exact n⟩
 ·rintro⟨h | h,n⟩
  ·exact .inl ⟨h,by rw[<-h1 h];exact n⟩
  ·exact .inr ⟨h,by rw[<-h2 h];exact n⟩
variable (tr:w.2.length+1=w.1)
include tr
theorem Good.side {a b v:Nat}(hv:v<w.1)(hab:b∈nb w.2 a):ds w.2 a v=ds w.2 b v+1\/ds w.2 b v=ds w.2 a v+1:=by
 have ha:=(g.jk hab).2.1;have hb:=(g.jk hab).1;rw[g.HR ha hv,g.HR hb hv];rcases g.xx tr hv hab with h | h
 ·exact .inr h
 ·exact .inl h
theorem Good.Pp {a b u v:Nat}(hab:b∈nb w.2 a)(h:v∈nb w.2 u)(su:ds w.2 a u=ds w.2 b u+1)(sv:ds w.2 b v=ds w.2 a v+1):u=b/\v=a:=by
 have ha:=(g.jk hab).2.1;have hb:=(g.jk hab).1;have hu:=(g.jk h).2.1;have hv:=(g.jk h).1;have h1:=g.xx tr ha h;have h2:=g.xx tr hb h;have e:u=b:=aV λ ne=>by
  obtain⟨p1,p2,_⟩:=g.qi hb hu ne;have hp:=(g.jk p1).1;have h3:=g.xx tr ha p1;have h4:=g.side tr hp hab;by_cases lt:ds w.2 a (nx w.2 b u)<ds w.2 a u
  ·have:v=nx w.2 b u:=g.zH tr ha h p1 (by lia) lt;rw[<-this]at p2;lia
  ·lia
 subst e;rw[jw]at su h2;exact⟨rfl,g.om ha hv (by lia)⟩
theorem Good.B3 {a b v:Nat}(hab:b∈nb w.2 a):v∈keys (bfs (cut w.2 a b) b)↔v<w.1/\ds w.2 a v=ds w.2 b v+1:=by
 have ha:=(g.jk hab).2.1;have hb:=(g.jk hab).1;have f:=jX (cut w.2 a b) b;have ab1:ds w.2 a b=1:=(g.HS ha hb).mpr hab;have ba1:ds w.2 b a=1:=(g.HS hb ha).mpr (uU.mp hab);constructor
 ·intro h
  obtain⟨q,hq,rfl⟩:=aA.mp h;refine f.sub (λ v=>v<w.1/\ds w.2 a v=ds w.2 b v+1) ⟨hb,by rw[jw,ab1]⟩ (λ u v hn hs=>?_) q.2 q.1 hq;obtain⟨n1,n2⟩:=g.HU.mp hn;refine⟨(g.jk n1).1,?_⟩;rcases g.side tr (g.jk n1).1 hab with z | z
  ·exact z
  ·obtain⟨rfl,rfl⟩:=g.Pp tr hab n1 hs.2 z;exact absurd (FR _ _) n2
 ·rintro⟨hv,e⟩
  have go:∀ d v,v<w.1->ds w.2 b v=d->ds w.2 a v=ds w.2 b v+1->v∈keys (bfs (cut w.2 a b) b):=by
   intro d;induction d with
   | zero=>intro v hv h0 _;rw[g.om hb hv h0];exact aA.mpr ⟨_,f.start,rfl⟩
   | succ d ih =>
    intro v hv hd hs;obtain⟨u,hu,e'⟩:=g.qJ hb hv (λ z=>by rw[z,jw]at hd;lia);have hul:=(g.jk hu).2.1;have h1:=g.xx tr ha hu;have h2:=g.side tr hul hab;have su:ds w.2 a u=ds w.2 b u+1:=by lia
    obtain⟨q,hq,rfl⟩:=aA.mp (ih u hul (by lia) su);obtain⟨d',hd',_⟩:=f.cl q hq v (g.HU.mpr ⟨hu,λ t=>by
     rcases xw t with⟨z,_⟩ | ⟨_,z⟩
     ·rw[z,jw]at su;lia
     ·rw[z,jw]at hs;lia⟩)
    exact aA.mpr ⟨_,hd',rfl⟩
  exact go _ v hv rfl e
theorem Good.B4 {a b:Nat}(hab:b∈nb w.2 a):(bfs (cut w.2 a b) b).length=(Tc w.1).countP λ v=>decide (ds w.2 a v=ds w.2 b v+1):=by
 have f:=jX (cut w.2 a b) b;have e:(bfs (cut w.2 a b) b).length=(keys (bfs (cut w.2 a b) b)).length:=by simp[keys]
 rw[e,List.countP_eq_length_filter];have iff:∀ v,v∈keys (bfs (cut w.2 a b) b)↔v∈(Tc w.1).filter λ v=>decide (ds w.2 a v=ds w.2 b v+1):=λ v=>by rw[g.B3 tr hab,aS,aC];simp
 exact Nat.le_antisymm (aD f.nd λ v h=>(iff v).mp h) (aD (cp.filter _) λ v h=>(iff v).mpr h)
end
theorem xy {α:Type}(p q:α->Bool):∀ (l:List α),(∀ x∈l,q x=!p x)->l.countP p+l.countP q=l.length
 | [],_=>rfl
 | x::r,h=>by have ih:=xy p q r λ y hy=>h y (ax _ hy);have hx:=h x av;rw[ft,ft,hx,bK];cases p x<;>simp<;>lia
section
variable {w:Web}(g:Good w)(tr:w.2.length+1=w.1)
include g tr
theorem Good.parts {a b:Nat}(hab:b∈nb w.2 a):(bfs (cut w.2 a b) b).length+(bfs (cut w.2 b a) a).length=w.1:=by
 rw[g.B4 tr hab,g.B4 tr (uU.mp hab)];have:=xy (λ v=>decide (ds w.2 a v=ds w.2 b v+1)) (λ v=>decide (ds w.2 b v=ds w.2 a v+1)) (Tc w.1) λ v hv=>by
  have:=g.side tr (aC.mp hv) hab;by_cases h:ds w.2 a v=ds w.2 b v+1
  ·have h':¬ ds w.2 b v=ds w.2 a v+1:=by lia
   simp only[h,h',decide_true,decide_false,dN];simp;lia
  ·have h':ds w.2 b v=ds w.2 a v+1:=by lia
   simp[h'];lia
 rw[bE]at this;exact this
end
def sz (l:gK)(a b:Nat):Nat:=(bfs (cut l a b) b).length
def ov (l:gK)(a b:Nat):Int:=2*(sz l b a:Int)-1
def mF (l:gK)(b:Nat):Nat->Nat->Int
 | 0,_=>0
 | k+1,v=>if v=b then 0 else mF l b k (nx l b v)+ov l v (nx l b v)
def wF (l:gK)(b:Nat):Nat->Nat->List Nat
 | 0,v=>[v]
 | k+1,v=>if v=b then [v] else v::wF l b k (nx l b v)
def wyL (l:gK)(b v:Nat):List Nat:=wF l b (ds l b v) v
theorem qK (l:gK)(b:Nat):wyL l b b=[b]:=by unfold wyL;rw[jw];rfl
section
variable {w:Web}(g:Good w)
include g
theorem Good.tR {b v:Nat}(hb:b<w.1)(hv:v<w.1)(ne:v≠b):wyL w.2 b v=v::wyL w.2 b (nx w.2 b v):=by obtain⟨_,e,_⟩:=g.qi hb hv ne;unfold wyL;rw[e,wF,ak ne]
theorem Good.HV {b:Nat}(hb:b<w.1){P:Nat->Prop}(h0:P b)(hs:∀ v,v<w.1->v≠b->P (nx w.2 b v)->P v):∀ v,v<w.1->P v:=by
 have go:∀ d v,v<w.1->ds w.2 b v=d->P v:=by
  intro d;induction d with
  | zero=>intro v hv e;rw[g.om hb hv e];exact h0
  | succ d ih =>
   intro v hv e;have ne:v≠b:=λ z=>by rw[z,jw]at e;lia
   obtain⟨_,e',_⟩:=g.qi hb hv ne;exact hs v hv ne (ih _ (g.ER hb hv ne) (by lia))
 exact λ v hv=>go _ v hv rfl
theorem Good.Km {b:Nat}(hb:b<w.1):∀ v,v<w.1->(wyL w.2 b v).length=ds w.2 b v+1:=by refine g.HV hb (by rw[qK,jw];rfl) λ v hv ne ih=>?_;obtain⟨_,e,_⟩:=g.qi hb hv ne;rw[g.tR hb hv ne,bK,ih,e]
variable (tr:w.2.length+1=w.1)
include tr
end
section
variable {w:Web}(g:Good w)(tr:w.2.length+1=w.1)
include g tr
end
theorem DB {n:Nat}(f:Nat->Rat):∀ (xs:List Nat),xs.Nodup->(∀ x∈xs,x<n)->Dt0.sm n (λ j=>if j∈xs then f j else 0)=(xs.map f).sum
 | [],_,_=>by have:Dt0.sm n (λ j=>if j∈([]:List Nat) then f j else 0)=Dt0.sm n (λ _=>0):=Dt0.qI λ j _=>ak (by simp);rw[this,Dt0.AK];rfl
 | x::r,nd,h=>by
  obtain⟨h1,h2⟩:=bc.mp nd;have ih:=DB f r h2 λ y hy=>h y (ax _ hy);have one:Dt0.sm n (λ j=>if j=x then f j else 0)=f x:=by have:=Dt0.HL (f:=λ j=>if j=x then f j else 0) (h x av) λ j _ ne=>ak ne;rw[this,ai rfl]
  have e:Dt0.sm n (λ j=>if j∈x::r then f j else 0)=Dt0.sm n (λ j=>1*(if j=x then f j else 0)+1*(if j∈r then f j else 0)):=Dt0.qI λ j _=>by
   by_cases c:j=x
   ·subst c;rw[ai av,ai rfl,ak h1];grind
   ·by_cases c2:j∈r
    ·rw[ai (ax _ c2),ak c,ai c2];grind
    ·rw[ak (by simp[c,c2]),ak c,ak c2];grind
  rw[e,Dt0.HK,one,ih,aR,fx];grind
section
variable {w:Web}(g:Good w){gv:Nat->gF Int}{ad:Nat->Int}
include g
end
theorem Nk (f h:Nat->Rat):∀ (l:List Nat),(l.map λ x=>f x+h x).sum=(l.map f).sum+(l.map h).sum
 | []=>by show(0:Rat)=0+0;grind
 | x::r=>by rw[aR,aR,aR,fx,fx,fx,Nk f h r];grind
theorem xA (c:Rat):∀ (l:List Nat),(l.map λ _=>c).sum=(l.length:Rat)*c
 | []=>by show(0:Rat)=((0:Nat):Rat)*c;grind
 | x::r=>by have:((r.length+1:Nat):Rat)=(r.length:Rat)+1:=Rat.natCast_add _ 1;rw[aR,fx,xA c r,bK,this];grind
section
variable {w:Web}(g:Good w)
include g
end
def dD (d:Dt):gF gK:=(M_ d).bind λ kvs=>if iX (kvs.map λ q=>(q.1.toNat,q.2.toNat))=kvs then My (kvs.map λ q=>(q.1.toNat,q.2.toNat)) else SY
theorem Nl {d:Dt}{fd:gK}(h:dD d=My fd):d=.dct (iX fd):=by
 obtain⟨kvs,e,h⟩:=gP h;by_cases hc:iX (kvs.map λ q=>(q.1.toNat,q.2.toNat))=kvs
 ·rw[ai hc]at h;cases h;rw[hc];exact BM e
 ·rw[ak hc]at h;cases h
@[simp] theorem Nm (fd:gK):dD (.dct (iX fd))=My fd:=by
 have e:(iX fd).map (λ q=>(q.1.toNat,q.2.toNat))=fd:=by
  unfold iX;rw[aP];conv=>rhs;rw[<-cP fd]
  exact bG λ q _=>by simp
 show(if iX ((iX fd).map λ q=>(q.1.toNat,q.2.toNat))=iX fd then My ((iX fd).map λ q=>(q.1.toNat,q.2.toNat)) else SY)=_;rw[e,ai rfl]
theorem FT (fd:gK)(k:Nat):vg (iX fd) (k:Int)=if lF fd k=S_ then My ((look fd k:Nat):Int) else SY:=by
 have h:=BP (iX fd) k;rw[tN]at h;cases hk:lF fd k with
 | true =>
  rw[hk,ai rfl]at h;rw[ai rfl];cases hl:vg (iX fd) (k:Int) with
  | none=>rw[hl]at h;cases h
  | some v=>rw[hl]at h;cases h;rfl
 | false =>
  rw[hk,ak aw]at h;rw[ak aw];cases hl:vg (iX fd) (k:Int) with
  | none=>rfl
  | some v=>rw[hl]at h;cases h
theorem ES {fd:gK}{k:Nat}(h:lF fd k=S_):FL (.dct (iX fd)) (gO k)=My (gO (look fd k)):=by show(vg (iX fd) (k:Int)).map Dt.int=_;rw[FT,ai h];rfl
def lN:List Dt->gF Dt
 | [x,y,z]=>(dTs x).bind λ l=>(dD y).bind λ fd=>(jD z).bind λ p=>if l.length<=30/\lF fd p=S_/\(∀ q∈nb l p,lF fd q=S_) then (((nb l p).filter λ q=>decide (look fd q<look fd p)).map gO)[0]? else SY
 | _=>SY
def nI:DE->gF RD:=(kN (g_ dIx (gLC ["near"] [1,2] (gI kz (hZ 2 me (gN (gR 0) (gN (gR 2) gS)))) (ggN 0) (gB (g_ (dIB λ i j=>decide (i<j)) (g_ FL (gR 1) (gR 0)) (g_ FL (gR 1) (gR 2)))) (gR 0)) (gC (.int 0))))
abbrev xB:List Str:=["ties","far","here"]
theorem vK:Hg 3 xB lN nI:=by
 intro ds d hl h;match ds,h with
 | [x,y,z],h =>
  obtain⟨l,e1,h⟩:=gP (show(dTs x).bind _=_ from h);obtain⟨fd,e2,h⟩:=gP h;obtain⟨p,e3,h⟩:=gP h;by_cases hc:l.length<=30/\lF fd p=S_/\(∀ q∈nb l p,lF fd q=S_)
  ·rw[ai hc]at h
   rw[Nl e2,ju e3];refine⟨.rt d,?_,rfl⟩;have tk:=BX e1 hc.1 p;have gp:=ES hc.2.1;have lc:=jy (enc:=gO) (gg:=ggN 0) (gt:=gB (g_ (dIB λ i j=>decide (i<j)) (g_ FL (gR 1) (gR 0)) (g_ FL (gR 1) (gR 2)))) (ge:=gR 0) (δc:=[SY,My (.dct (iX fd)),My (gO p)]) (δa:=λ q=>[My (gO q),My (.dct (iX fd)),My (gO p)]) (p:=λ q=>decide (look fd q<look fd p)) (enc':=gO) (nb l p) λ q hq=>⟨rfl,by have gq:=ES (hc.2.2 q hq);simp only[gO]at gp gq;simp[gO,gp,gq,dIB,asB],λ _=>rfl⟩
   have hlen:=Ng l p;have at0:atI (((nb l p).filter λ q=>decide (look fd q<look fd p)).map gO) 0=My d:=lh h;have hn:((nb l p).map gO).length<=1000:=by rw[af];lia
   generalize ((nb l p).filter λ q=>decide (look fd q<look fd p)).map gO=ys at lc at0;generalize (nb l p).map gO=xs at lc tk hn;simp only[gO]at tk lc;simp[nI,gO,tk,lc,hn,at0]
  ·rw[ak hc]at h;cases h
theorem FU {l:gK}{s:Nat}:∀ (m:Nat) (fd:gK) (ic:List Nat),BI (univ l s) (fd,ic)->(nH l m fd ic).length<=2*l.length+1:=by
 intro m;induction m with
 | zero=>intro fd ic h;have:=h.le;rw[oY]at this;exact this
 | succ m ih =>
  intro fd ic h;cases ic with
  | nil=>have:=h.le;rw[oY]at this;exact this
  | cons e es =>have lb:=tP (ic:=e::es) (l:=l) (fd:=fd) (s:=s) ⟨h.nd,h.sub,by simp⟩;exact ih _ _ ⟨lb.nd,lb.sub,lb.by'⟩
theorem Kn (l:gK)(s:Nat):(bfs l s).length<=2*l.length+1:=FU _ _ _ ⟨by simp,λ q hq=>by rw[bp.mp hq];exact av,λ j hj=>by simpa using hj⟩
def sk (fd:gK):List Nat:=(srt ((keys fd).map λ(k:Nat)=>(k:Int))).map Int.toNat
theorem HW (fd:gK):srt ((iX fd).map (·.1))=(sk fd).map λ(k:Nat)=>(k:Int):=by
 have e:(iX fd).map (·.1)=(keys fd).map λ(k:Nat)=>(k:Int):=by unfold iX keys;rw[aP,aP];rfl
 rw[e];unfold sk;rw[aP];conv=>lhs;rw[<-cP (srt _)]
 refine bG λ x hx=>?_;obtain⟨k,_,rfl⟩:=aA.mp ((lK _).mem_iff.mp hx);simp
theorem ET (fd:gK):(sk fd).Perm (keys fd):=by
 have h:=(lK ((keys fd).map λ(k:Nat)=>(k:Int))).map Int.toNat;rw[aP]at h;have e:(keys fd).map (Int.toNat∘λ(k:Nat)=>(k:Int))=keys fd:=by
  conv=>rhs;rw[<-cP (keys fd)]
  exact bG λ x _=>by simp
 rw[e]at h;exact h
theorem DC {fd:gK}(h:fd.length<64):xp srt [.dct (iX fd)]=My (.lst ((sk fd).map gO)):=by show(if (iX fd).length<64 then My (Dt.lst ((srt ((iX fd).map (·.1))).map .int)) else SY)=_;rw[ai (by unfold iX;rw[af];exact h),HW,aP];rfl
theorem tS (a b:Nat×Nat):dEq (gX a) (gX b)=(a==b):=by
 have:dEq (gX a) (gX b)=(((a.1:Int)==(b.1:Int))&&(((a.2:Int)==(b.2:Int))&&S_)):=by simp[gX,gO,dEq,mV]
 rw[this,oX,oX,dZ];rfl
theorem Rz (a b:Nat×Nat):mD (gX a) (gX b)=My (.bl (a != b)):=by unfold mD;rw[ai (show sh3 (gX a) (gX b)=S_ from rfl),tS];rfl
theorem B5 (a b:Nat):xl [gO a,gO b]=My (gO (min a b)):=by show My (Dt.int (if (b:Int)<(a:Int) then (b:Int) else (a:Int)))=My (.int ((min a b:Nat):Int));congr 2;split<;>lia
theorem B6 (a b:Nat):xm [gO a,gO b]=My (gO (max a b)):=by show My (Dt.int (if (b:Int)>(a:Int) then (b:Int) else (a:Int)))=My (.int ((max a b:Nat):Int));congr 2;split<;>lia
theorem B7 {x:Dt}{l:gK}(e:dTs x=My l)(h:l.length<=30)(p:Nat):kE [x,gO p]=My (.dct (iX (bfs l p))):=by show(dTs x).bind (λ l=>(jD (gO p)).bind λ p=>if l.length<=30 then My (Dt.dct (iX (bfs l p))) else SY)=_;rw[e,iQ,aq,aq,ai h]
def ml:List Dt->gF Dt
 | [x,y,z]=>(dTs x).bind λ l=>(jD y).bind λ a=>(jD z).bind λ b=>if l.length<=30 then My (.tup ((sk (bfs (cut l a b) b)).map gO)) else SY
 | _=>SY
def mq:DE->gF RD:=(lx (kU 3 (iZ (gN (iP xl (gN (gR 1) (gN (gR 2) gS))) (gN (iP xm (gN (gR 1) (gN (gR 2) gS))) gS)))) (lx (kU 4 (gLC ["other"] [3] (gI kz (gR 0)) (ggN 0) (gB (g_ mD (gR 0) (gR 1))) (gR 0))) (kN (iP oE (gN (iP (xp srt) (gN (hZ 2 kE (gN (gR 4) (gN (gR 2) gS))) gS)) gS)))))
abbrev rQ:List Str:=["ties","a","b","tie","others"]
theorem xC:Hg 3 rQ ml mq:=by
 intro ds d hl h;match ds,h with
 | [x,y,z],h =>
  obtain⟨l,e1,h⟩:=gP (show(dTs x).bind _=_ from h);obtain⟨a,e2,h⟩:=gP h;obtain⟨b,e3,h⟩:=gP h;by_cases hc:l.length<=30
  ·rw[ai hc]at h
   cases h;rw[ju e2,ju e3];refine⟨.rt (.tup ((sk (bfs (cut l a b) b)).map gO)),?_,rfl⟩;have hcut:(cut l a b).length<=30:=bC (bZ _ _) hc;have lc:=jy (enc:=gX) (gg:=ggN 0) (gt:=gB (g_ mD (gR 0) (gR 1))) (ge:=gR 0) (δc:=[SY,My (gX (jm a b))]) (δa:=λ t=>[My (gX t),My (gX (jm a b))]) (p:=λ t=>t != jm a b) (enc':=gX) l λ t _=>⟨rfl,by have:=Rz t (jm a b);simp[this],λ _=>rfl⟩
   have mn:=B5 a b;have mx:=B6 a b;have dk:=B7 (Kd (cut l a b)) hcut b;have so:=DC (fd:=bfs (cut l a b) b) (by have:=Kn (cut l a b) b;lia);have ht:Dt.tup [gO (min a b),gO (max a b)]=gX (jm a b):=rfl;have hn:(l.map gX).length<=1000:=by rw[af];lia
   have lc:si (ggN 0) (gB (g_ mD (gR 0) (gR 1))) (gR 0) [SY,My (gX (jm a b))] (l.map gX)=My ((cut l a b).map gX):=lc;generalize (cut l a b).map gX=xs at lc dk;generalize (sk (bfs (cut l a b) b)).map gO=ys at so;generalize Dt.dct (iX (bfs (cut l a b) b))=dd at dk so;have tail:∀ ty:Dt,kz ty=My (l.map gX)->mq (pJ rQ [ty,gO a,gO b])=My (.rt (.tup ys)):=λ ty hty=>by generalize l.map gX=es at lc hn hty;generalize gO b=nb,gO a=na at *;simp[mq,pJ,mn,mx,ht,hty,lc,hn,dk,so]
   rcases EK e1 with rfl | rfl
   ·exact tail _ rfl
   ·exact tail _ rfl
  ·rw[ak hc]at h;cases h
def dT (d:Dt):gF Web:=(dW d).bind λ w=>if w.2.length+1=w.1 then My w else SY
theorem Nn {d:Dt}{w:Web}(h:dT d=My w):dW d=My w/\w.2.length+1=w.1:=by
 obtain⟨v,e,h⟩:=gP h;by_cases hc:v.2.length+1=v.1
 ·rw[ai hc]at h;cases h;exact⟨e,hc⟩
 ·rw[ak hc]at h;cases h
theorem HX {w:Web}(g:Good w)(t:w.2.length+1=w.1):dT (hG w)=My w:=by show(dW (hG w)).bind _=_;rw[lL g,aq,ai t]
def tT:List Dt->gF Dt:=sj λ x=>(dT x).map λ _=>.non
theorem HY {x:Dt}{w:Web}(e:dT x=My w):tT [x]=My .non:=by show(dT x).map _=_;rw[e];rfl
theorem Good.key {w:Web}(g:Good w){a b:Nat}(ha:a<w.1)(hb:b<w.1):lF (bfs w.2 a) b=S_:=(nu _ _).mpr ((g.inKeys ha).mpr hb)
theorem HZ (k:Nat)(l:List Nat):qp (gO k) (l.map gO)=decide (k∈l):=by unfold qp;rw[bj,List.any_map];simp[gO,dEq,dH];exact⟨λ⟨x,hx,e⟩=>(show x=k by lia)▸hx,λ h=>⟨k,h,rfl⟩⟩
theorem EU (neg:Bool)(k:Nat)(l:List Nat):dIn neg (gO k) (.tup (l.map gO))=My (.bl (if neg then !decide (k∈l) else decide (k∈l))):=by show(if ((l.map gO).all λ e=>sh2 e (gO k))=S_ then My (Dt.bl (if neg then !qp (gO k) (l.map gO) else qp (gO k) (l.map gO))) else SY)=_;rw[ai (by rw[eY,bT];intro x _;rfl),HZ]
def Pq (K:gG):List V->Hp->VK->Prop:=λ xs H Q=>∃ p ys,xs=[V.ref p]/\((SqL K H p ys/\∀ (l:Addr),H l=SY->Q (V.ref l) (upd H l (HO.tup ys)))\/SqT K H p ys/\Q (V.ref p) H)
def yC:DE->gF Bool:=gB (g_ mD (g_ dIx (gR 4) (gUn uR (gC (.int 1)))) (gR 2))
def yN:DE->gF Dt:=hZ 3 lN (gN (g_ dIx (gR 0) (gC (.int 1))) (gN (gR 3) (gN (g_ dIx (gR 4) (gUn uR (gC (.int 1)))) gS)))
def yB (K:gG):TS:=za (tBM K "list" rf (hX 4) (tDs K (gN yN gS)))
def yW (K:gG):TS:=jc (CS (tDT K yC) (yB K)) (zX (tCB (Pq K) (g0 (hX 4) iL)))
section
variable {K:gG}{w:Web}(g:Good w)
include g
omit g in
theorem Pr (ww na dd:gF Dt)(b last:Nat)(pre:List Nat):yC [ww,na,My (gO b),dd,My (.lst ((pre++[last]).map gO))]=My (decide (last≠b)):=by have h:=sT (pre.map gO) (gO last);rw[aY,eM];have e:((last:Int)==(b:Int))=(last==b):=oX last b;simp only[gO]at h;simp[yC,gUn,uR,h,gO,e];rw[bj];simp
theorem Good.Pt {b last:Nat}(hb:b<w.1)(hl:last<w.1)(ne:last≠b)(na:gF Dt)(nb':gF Dt)(pre:List Nat) :
  yN [My (hG w),na,nb',My (.dct (iX (bfs w.2 b))),My (.lst ((pre++[last]).map gO))]=My (gO (nx w.2 b last)):=by
 have h:=sT (pre.map gO) (gO last);rw[aY,eM];have ix:dIx (hG w) (.int 1)=My (ip w.2):=rfl;obtain⟨n1,n2,n3⟩:=g.qi hb hl ne;have np:lN [ip w.2,.dct (iX (bfs w.2 b)),gO last]=My (gO (nx w.2 b last)):=by
  show(dTs (ip w.2)).bind (λ l=>(dD (.dct (iX (bfs w.2 b)))).bind λ fd=>(jD (gO last)).bind λ p=>if l.length<=30/\lF fd p=S_/\(∀ q∈L2.nb l p,lF fd q=S_) then (((L2.nb l p).filter λ q=>decide (look fd q<look fd p)).map gO)[0]? else SY)=_;rw[rq,Nm,iQ,aq,aq,aq,ai ⟨by have:=g.len;lia,g.key hb hl,λ q hq=>g.key hb (g.jk hq).1⟩];show(((L2.nb w.2 last).filter λ q=>decide (ds w.2 b q<ds w.2 b last)).map gO)[0]?=My (gO (((L2.nb w.2 last).filter (λ u=>decide (ds w.2 b u<ds w.2 b last))).headD 0));generalize (L2.nb w.2 last).filter (λ u=>decide (ds w.2 b u<ds w.2 b last))=l at n3;cases l with
  | nil=>exact absurd rfl n3
  | cons x r=>rfl
 generalize gO (nx w.2 b last)=res,hG w=ww,ip w.2=tt,Dt.dct (iX (bfs w.2 b))=dd at *;simp only[gO]at h np;simp[yN,gUn,uR,h,gO,ix,np]
omit g in
theorem DD (p q:Nat->Bool)(hpq:∀ y,p y=S_->q y=S_){x:Nat}(qx:q x=S_)(px:p x=Ta):∀ (l:List Nat),x∈l->l.countP p+1<=l.countP q:=by
 intro l;induction l with
 | nil=>intro h;cases h
 | cons y r ih =>
  intro h;have mono:r.countP p<=r.countP q:=List.countP_mono_left λ z _ hz=>hpq z hz;rw[ft,ft];rcases aB.mp h with rfl | h
  ·rw[qx,px];simp;lia
  ·have:=ih h
   cases hy:p y with
   | true=>rw[hpq y hy];simp;lia
   | false=>simp;lia
theorem Good.H_ {b:Nat}(hb:b<w.1):∀ v,v<w.1->ds w.2 b v<=(Tc w.1).countP λ u=>decide (ds w.2 b u<ds w.2 b v):=by refine g.HV hb (by rw[jw];exact aN _) λ v hv ne ih=>?_;obtain⟨n1,n2,_⟩:=g.qi hb hv ne;have:=DD (λ u=>decide (ds w.2 b u<ds w.2 b (nx w.2 b v))) (λ u=>decide (ds w.2 b u<ds w.2 b v)) (λ y hy=>by simp at hy ⊢;lia) (x:=nx w.2 b v) (by simp;lia) (by simp) (Tc w.1) (aC.mpr (g.ER hb hv ne));lia
theorem Good.EV {b:Nat}(hb:b<w.1)(v:Nat)(hv:v<w.1):ds w.2 b v<=w.1:=by have h:=g.H_ hb v hv;have:=List.countP_le_length (p:=λ u=>decide (ds w.2 b u<ds w.2 b v)) (l:=Tc w.1);rw[bE]at this;lia
theorem Good.Ia (tr:w.2.length+1=w.1){D:Ends}{σ:L2.St}{a b:Nat}(ha:a<w.1)(hb:b<w.1){H H1:Hp}{p:Addr}(sm:gY H H1)(hp0:H p=SY)(S:Sat K H σ [My (hG w),My (gO a),My (gO b),My (.dct (iX (bfs w.2 b))),SY])(hp:H1 p=My (.lst ([a].map λ(k:Nat)=>V.int k)))
  (q:∀ v H',gY H H'->Is K H' v (.tup ((wyL w.2 b a).map gO))->D.rt v H'):yW K D (σ.set 4 (My (.ref p))) H1:=by
 have hlen:=S.len;have h4:(σ.set 4 (My (V.ref p)))[4]?=My (My (.ref p)):=by have hl:σ.length=5:=hlen;rw[cg (by lia)]
 have isl:∀ (H2:Hp) (l:List Nat),H2 p=My (.lst (l.map λ(k:Nat)=>V.int k))->Is K H2 (.ref p) (.lst (l.map gO)):=λ H2 l e=>.lst e (by have:=Iss.tj (K:=K) (H:=H2) (l.map λ(k:Nat)=>(k:Int));rw[aP,aP]at this;exact this)
 refine⟨λ m σ2 H2=>∃ (pre:List Nat) (last:Nat),σ2=σ.set 4 (My (.ref p))/\gY H H2/\H2 p=My (.lst ((pre++[last]).map λ(k:Nat)=>V.int k))/\last<w.1/\pre++wyL w.2 b last=wyL w.2 b a/\m=ds w.2 b last/\pre.length+ds w.2 b last=ds w.2 b a,⟨_,[],a,rfl,sm,hp,ha,rfl,rfl,by simp⟩,?_⟩;rintro m σ2 H2 ⟨pre,last,rfl,s2,hp2,hl,hw,rfl,hm⟩;have S2:Sat K H2 (σ.set 4 (My (.ref p))) [My (hG w),My (gO a),My (gO b),My (.dct (iX (bfs w.2 b))),My (.lst ((pre++[last]).map gO))]:=(S.ext s2).set (i:=4) (isl H2 _ hp2);refine⟨_,decide (last≠b),S2,Pr _ _ _ b last pre,λ H3 s3=>?_⟩;show(if decide (last≠b)=S_ then _ else _);by_cases ne:last=b
 ·rw[ak (by simp[ne])];subst ne;refine⟨_,h4,p,_,rfl,.inl ⟨SqL.of (s3 _ _ hp2),λ l hl2=>q _ _ ((s2.trans s3).trans (gY.upd hl2)) ?_⟩⟩;rw[qK]at hw;rw[<-hw];refine .tup (SqT.of gU) ?_;have:=Iss.tj (K:=K) (H:=upd H3 l (.tup ((pre++[last]).map λ(k:Nat)=>V.int k))) ((pre++[last]).map λ(k:Nat)=>(k:Int));rw[aP,aP]at this;exact this
 ·rw[ai (by simp[ne])]
  obtain⟨n1,n2,n3⟩:=g.qi hb hl ne;have hd:ds w.2 b a<=1000:=by have h8:=g.oh;have:=g.EV hb a ha;lia
  refine⟨λ σ' H'=>σ'=σ.set 4 (My (.ref p))/\gY H H'/\H' p=My (.lst ((pre++[last]++[nx w.2 b last]).map λ(k:Nat)=>V.int k)),?_,?_⟩
  ·rintro σ' H' ⟨rfl,s4,hp4⟩
   refine⟨ds w.2 b (nx w.2 b last),by lia,pre++[last],nx w.2 b last,rfl,s4,hp4,g.ER hb hl ne,?_,rfl,?_⟩
   ·rw[<-hw,g.tR hb hl ne,bW];rfl
   ·rw[aH,aX];lia
  ·have hp3:=s3 _ _ hp2
   refine⟨_,h4,.inl ⟨rfl,_,SqL.of hp3⟩,_,[gO (nx w.2 b last)],S2.ext s3,?_,λ vs H4 s4 is=>?_⟩
   ·show(yN _).bind _=_;rw[g.Pt hb hl ne];rfl
   ·obtain⟨v,rfl,iv⟩:=is.one
    rw[iv.int_inv];refine⟨p,_,_,rfl,rfl,s4 _ _ hp3,?_,rfl,λ c o e=>?_,?_⟩
    ·rw[af,aH,aX,sizeLine_eq];lia
    ·rw[g6 (ir e hp0)];exact s4 _ _ (s3 _ _ (s2 _ _ e))
    ·rw[gU,aY (l₁:=pre++[last])];rfl
end
def y1:DE->gF RD:=Ez (hZ 1 tT (gN (gR 0) gS))
def y2:DE->gF RD:=Ez (hZ 2 oF (gN (gR 0) (gN (gR 1) gS)))
def y3:DE->gF RD:=Ez (hZ 2 oF (gN (gR 0) (gN (gR 2) gS)))
def y4:DE->gF RD:=kU 3 (hZ 2 kE (gN (g_ dIx (gR 0) (gC (.int 1))) (gN (gR 2) gS)))
section
variable {K:gG}{w:Web}(g:Good w)
include g
theorem Good.RA (tr:w.2.length+1=w.1){a b:Nat}(ha:a<w.1)(hb:b<w.1):y1 [My (hG w),My (gO a),My (gO b),SY,SY]=My (.nx [My (hG w),My (gO a),My (gO b),SY,SY]) /\
  y2 [My (hG w),My (gO a),My (gO b),SY,SY]=My (.nx [My (hG w),My (gO a),My (gO b),SY,SY])/\y3 [My (hG w),My (gO a),My (gO b),SY,SY]=My (.nx [My (hG w),My (gO a),My (gO b),SY,SY]) /\
  y4 [My (hG w),My (gO a),My (gO b),SY,SY]=My (.nx [My (hG w),My (gO a),My (gO b),My (.dct (iX (bfs w.2 b))),SY]):=by
 have e1:=HX g tr;have c1:=HY e1;have c2:=zB (lL g) ha;have c3:=zB (lL g) hb;have dk:=B7 (rq w.2) (by have:=g.len;lia) b;have ix:dIx (hG w) (.int 1)=My (ip w.2):=rfl;generalize gO b=nb,gO a=na,hG w=ww,ip w.2=tt,Dt.dct (iX (bfs w.2 b))=dd at *;refine⟨?_,?_,?_,?_⟩
 ·simp[y1,c1]
 ·simp[y2,c2]
 ·simp[y3,c3]
 ·simp[y4,ix,dk]
end
theorem Np (fd:gK):(sk fd).length=fd.length:=by rw[(ET fd).length_eq];simp[keys]
def jM:List Dt->gF Dt:=Du λ x y=>(dW x).bind λ w=>(jD y).map λ p=>.lst (((Tc w.1).filter λ o=>decide (jm p o∈w.2)).map gO)
def qL:DE->gF RD:=(kN (gLC ["_law_other"] [0,1] (oU (gN (g_ dIx (gR 0) (gC (.int 0))) gS)) (ggN 0) (gB (g_ (dIn Ta) (iZ (gN (iP xl (gN (gR 2) (gN (gR 0) gS))) (gN (iP xm (gN (gR 2) (gN (gR 0) gS))) gS))) (g_ dIx (gR 1) (gC (.int 1))))) (gR 0)))
abbrev B8:List Str:=["_law_web_here","_law_place"]
theorem Nq (t:Nat×Nat)(l:gK):qp (gX t) (l.map gX)=decide (t∈l):=by unfold qp;rw[bj,List.any_map];simp only[dH,tS,fk,beq_iff_eq,decide_eq_true_eq];exact⟨λ⟨x,hx,e⟩=>by rw[<-e];exact hx,λ h=>⟨t,h,rfl⟩⟩
theorem L4 (neg:Bool)(t:Nat×Nat)(l:gK):dIn neg (gX t) (ip l)=My (.bl (if neg then !decide (t∈l) else decide (t∈l))):=by show(if ((l.map gX).all λ e=>sh2 e (gX t))=S_ then My (Dt.bl (if neg then !qp (gX t) (l.map gX) else qp (gX t) (l.map gX))) else SY)=_;rw[ai (by rw[eY,bT];intro x _;rfl),Nq]
theorem AM:Hg 2 B8 jM qL:=by
 intro ds d hl h;obtain⟨x,y,rfl,h⟩:=oQ h;obtain⟨w,e4,h⟩:=gP h;obtain⟨p,e2,h⟩:=il h;subst h;obtain⟨rfl,hg⟩:=pL e4;rw[ju e2];have h8:=hg.oh;have hr:BH [gO w.1]=My ((Tc w.1).map gO):=BW (n:=w.1) (by lia);have ix:dIx (hG w) (.int 0)=My (gO w.1):=rfl;have ix1:dIx (hG w) (.int 1)=My (ip w.2):=rfl;refine⟨.rt (.lst (((Tc w.1).filter λ o=>decide (jm p o∈w.2)).map gO)),?_,rfl⟩;have lc:=jy (enc:=gO) (gg:=ggN 0) (gt:=gB (g_ (dIn Ta) (iZ (gN (iP xl (gN (gR 2) (gN (gR 0) gS))) (gN (iP xm (gN (gR 2) (gN (gR 0) gS))) gS))) (g_ dIx (gR 1) (gC (.int 1))))) (ge:=gR 0) (δc:=[SY,My (hG w),My (gO p)]) (δa:=λ o=>[My (gO o),My (hG w),My (gO p)]) (p:=λ o=>decide (jm p o∈w.2)) (enc':=gO) (Tc w.1) λ o ho=>⟨rfl,by have mn:=B5 p o;have mx:=B6 p o;have inn:=L4 Ta (jm p o) w.2;have e:Dt.tup [gO (min p o),gO (max p o)]=gX (jm p o):=rfl;generalize gX (jm p o)=ep,gO (max p o)=n2,gO (min p o)=n1,gO o=no,gO p=np,hG w=ww,ip w.2=tt at *;simp[mn,mx,ix1,e,inn],λ _=>rfl⟩
 have hn:((Tc w.1).map gO).length<=1000:=by simp;lia
 generalize hG w=ww,(Tc w.1).map gO=rs,((Tc w.1).filter λ o=>decide (jm p o∈w.2)).map gO=res at *;simp only[gO]at ix hr lc;simp[qL,gO,ix,hr,lc,hn]
section
variable {w:Web}(g:Good w)
include g
end
abbrev cV (k:Nat):V:=.int k
theorem stE {K:gG}{H:Hp}:Sat K H [] []:=⟨rfl,λ _ _ h=>by cases h⟩
theorem stN {K:gG}{H:Hp}{x:gF V}{σ:L2.St}{δ:DE}(h:Sat K H σ δ):Sat K H (x::σ) (SY::δ):=⟨cK (·+1) h.len,λ j d hj=>by
 cases j with
 | zero=>cases hj
 | succ j=>exact h.at_ j d hj⟩
theorem stS {K:gG}{H:Hp}{v:V}{d:Dt}{σ:L2.St}{δ:DE}(i:Is K H v d)(h:Sat K H σ δ):Sat K H (My v::σ) (My d::δ):=⟨cK (·+1) h.len,λ j d hj=>by
 cases j with
 | zero=>cases hj;exact⟨_,rfl,i⟩
 | succ j=>exact h.at_ j d hj⟩
section
variable {K:gG}{w:Web}(g:Good w)
include g
end
theorem EW {n j:Nat}(h:j<n):ixN n (j:Int)=My j:=by unfold ixN;rw[ai (by lia),ai (by lia)];simp
section
variable {K:gG}{w:Web}{kvs:List (Int×Int)}{as:List Int}{v0 v2 v3 v5:V}{H0 H:Hp}{p:Addr}{f:Nat->Int}{pl:Nat}{D:Ends}
end
open Dt0 (Tz fm)
theorem Good.Ib {w:Web}(g:Good w)(i:Nat):dg w i<=7:=by
 unfold dg;cases h:nb w.2 i with
 | nil=>exact aN _
 | cons x r =>have:=g.jk (p:=i) (j:=x) (by rw[h];exact av);rw[<-h];exact g.Ni i this.2.1
section
variable {w:Web}(g:Good w){gv:Nat->gF Int}{ad:Nat->Int}
include g
end
def Nr:gK:=(Tc 8).flatMap λ a=>((Tc 8).filter λ b=>decide (a<b)).map λ b=>(a,b)
theorem pairs_len {l:gK}{n:Nat}(nd:l.Nodup)(ok:∀ p∈l,p.1<p.2/\p.2<n)(h8:n<=8):l.length<=28:=by
 have:=aD nd (l₂:=Nr) λ p hp=>by have:=ok p hp;unfold Nr;rw[List.mem_flatMap];exact⟨p.1,aC.mpr (by lia),aA.mpr ⟨p.2,aS.mpr ⟨aC.mpr (by lia),by simp;lia⟩,rfl⟩⟩
 have e:Nr.length=28:=by decide
 lia
theorem Nt {a b:Nat×Nat}(h:leP a b=S_)(ne:a≠b):mP a b=S_:=by
 rw[rA]at h;rw[kX];rcases h with h | ⟨h1,h2⟩
 ·exact .inl h
 ·refine .inr ⟨h1,?_⟩;have:a.2≠b.2:=λ e=>ne (gy h1 e);lia
theorem FV {a b:Nat×Nat}(h:mP a b=S_):leP a b=S_:=by rw[kX]at h;rw[rA];lia
def Pu (l:gK)(n:Nat):Prop:=∀ S:Nat->Prop,S 0->(∀ p∈l,S p.1↔S p.2)->∀ v,v<n->S v
theorem Ic {l:gK}{n:Nat}(ok:∀ p∈l,p.1<p.2/\p.2<n)(h0:0<n):(bfs l 0).length=n↔Pu l n:=by
 refine⟨λ h S s0 cl v hv=>?_,wc ok h0⟩;have f:=jX l 0;have nbS:∀ (T:Nat->Prop),(∀ p∈l,T p.1↔T p.2)->∀ u v,v∈nb l u->T u->T v:=λ T ct u v h t=>by
  rcases lM.mp h with z | z
  ·exact(ct _ z).mpr t
  ·exact(ct _ z).mp t
 have sub:∀ k∈keys (bfs l 0),k∈Tc n:=λ k hk=>by obtain⟨q,hq,rfl⟩:=aA.mp hk;rw[aC];exact f.sub (λ v=>v<n) h0 (nbS _ λ p hp=>by have:=ok p hp;constructor<;>(intro _;lia)) q.2 q.1 hq
 have len:(keys (bfs l 0)).length=n:=by rw[keys,af];exact h
 have hk:v∈keys (bfs l 0):=aV λ hn=>by
  have:(v::keys (bfs l 0)).Nodup:=bc.mpr ⟨hn,f.nd⟩;have:=aD this (l₂:=Tc n) (λ k hk=>by
   rcases aB.mp hk with rfl | hk
   ·exact aC.mpr hv
   ·exact sub k hk)
  simp[len]at this;lia
 obtain⟨q,hq,rfl⟩:=aA.mp hk;exact f.sub S s0 (nbS S cl) q.2 q.1 hq
section
variable {w:Web}(g:Good w)
include g
end
end L2
namespace L2
open PySem PySem.Spec PyProof.Rows
def Ie (h:Heap)(p:Addr->Bool):Heap:={h with objs:=h.objs.mapIdx λ i o=>if p i then {o with data:=.freed} else o}
theorem xD (h:Heap)(p:Addr->Bool)(b:Addr):(Ie h p).get? b=if p b then SY else h.get? b:=by
 unfold Heap.get? Ie;simp only[Array.getElem?_mapIdx];cases e:h.objs[b]? with
 | none=>simp
 | some o =>
  by_cases c:p b=S_
  ·simp[c]
  ·simp[c]
theorem mr {h base base':Heap}:∀ {l:List Env},h.FunFrames base l->(∀ b∈frs l,base'.get? b=SY)->h.FunFrames base' l
 | [],_,_=>trivial
 | env::r,hl,hb=>by obtain⟨hk,⟨L,o,hf,hn,ho,hd⟩,hr⟩:=hl;exact⟨hk,⟨L,o,hf,hb L (by unfold frs;rw[bF,hf];exact av),ho,hd⟩,mr hr λ b m=>hb b (by unfold frs;rw[bF,hf];exact ax _ m)⟩
theorem frames_at {h base:Heap}:∀ {l:List Env},h.FunFrames base l->∀ b∈frs l,∃ o,h.get? b=My o/\∀ vs,o.data≠.fields vs:=λ hl b hb=>(hl.mem hb).2
structure Fly (Old:Addr->Prop)(H:Hp)(h:Heap)(a:Addr)(cls a0:gH):Prop where
 ex:∃ (oe:Obj) (vs:Array gH) (T:Addr) (oT:Obj) (ts:Array gH),h.get? a=My oe/\oe.cls=cls/\vs[0]?=My a0/\oe.data=.fields vs/\vs[1]?=My (.ref T)/\T≠a/\h.get? T=My oT/\oT.data=.fields ts/\ts[3]?=My .none/\H a=SY/\H T=SY/\∀ b,Old b->b≠a/\b≠T
structure zI (fs:List Addr)(mine:Addr->Prop)(h h':Heap):Prop where
 keep:∀ b o,h.get? b=My o->b∉fs->¬ mine b->h'.get? b=My o
 slot:∀ b o,h.get? b=My o->b∈fs->∃ sl,h'.get? b=My {o with slots:=sl}
section
variable {M:Model}{A:Around}{E:gE}{s:gJ}{base:Heap}{env:Env}{outer:List Env}{L e:Addr}{Q:Unit->gJ->Prop}
set_option tactic.hygienic true in
theorem B9 (hA:A.frames=My (env::outer))(hF:s.heap.FunFrames base (env::outer))(hf:env.frame=My L){oe:Obj}{vs:Array gH}{a0:gH}(he:s.heap.get? e=My oe)(hd:oe.data=.fields vs)(h0:vs[0]?=My a0)(h1:vs[1]?=My .none){H:Hp}{Old:Addr->Prop}(hH:H e=SY)
  (hT:∀ b,s.heap.get? b=SY->H b=SY/\¬ Old b) (ho:¬ Old e) (q:∀ h',zI (frs (env::outer)) (λ b=>b=e) s.heap h'->Fly Old H h' e oe.cls a0->Q () {s with heap:=h'}):wpAny M A (leaving env (.ref e)) Q E s:=by
 have fr:=frames_at hF;have nef:e∉frs (env::outer):=λ z=>by obtain⟨o,ho,hn⟩:=fr e z;rw[he]at ho;cases ho;exact hn vs hd
 let B:=Ie s.heap λ b=>decide (b∈frs (env::outer)\/b=e);have hB:∀ b,B.get? b=if b∈frs (env::outer)\/b=e then SY else s.heap.get? b:=λ b=>by rw[xD];by_cases c:b∈frs (env::outer)\/b=e<;>simp[c]
 have stays:B.StaysIn s.heap:=λ b o h=>by
  rw[hB]at h;split at h
  ·cases h
  ·exact h
 have hF':s.heap.FunFrames B (env::outer):=mr hF λ b hb=>by rw[hB,ai (.inl hb)]
 have size:1<vs.size:=by have:=(cw.mp h1).1;exact this
 unfold leaving noteFrame;rw[hf];dsimp only;refine ae (ae (bX he hd h1 ?_));rw[ak (by decide)];refine wpAny_newEntryW hA hF' hf he stays (by rw[hB,ai (.inr rfl)]) hd size h0 λ h' left=>?_;obtain⟨st,fr2,tr,sl⟩:=left;refine q h' ⟨λ b o hb nf nm=>st b o (by rw[hB,ak (λ z=>z.elim nf nm)];exact hb),λ b o hb hf=>?_⟩ ?_
 ·obtain⟨o2,ho2,hn⟩:=fr b hf;rw[hb]at ho2;cases ho2;exact sl b o hb hn
 ·obtain⟨oe',vs',T,oT,ts,he',⟨hc,hv0⟩,hd',hv1,hBT,hne,hT',hdT,hts⟩:=tr
  have nT:s.heap.get? T=SY:=by
   rw[hB]at hBT;split at hBT
   ·rename_i z
    rcases z with z | z
    ·obtain⟨o,ho,hn⟩:=frames_at fr2 T z;rw[hT']at ho;cases ho;exact absurd hdT (hn ts)
    ·exact absurd z hne
   ·exact hBT
  obtain⟨HT,oT'⟩:=hT T nT;exact⟨oe',vs',T,oT,ts,he',hc,hv0,hd',hv1,hne,hT',hdT,hts,hH,HT,λ b hb=>⟨λ z=>ho (z▸hb),λ z=>oT' (z▸hb)⟩⟩
set_option tactic.hygienic true in
theorem EX (hA:A.frames=My (env::outer))(hF:s.heap.FunFrames base (env::outer))(hf:env.frame=My L){H:Hp}{Old:Addr->Prop}{cls a0:gH}(fl:Fly Old H s.heap e cls a0)
  (hT:∀ b,s.heap.get? b=SY->H b=SY/\¬ Old b) (q:∀ h' (T:Addr),H T=SY->¬ Old T->zI (frs (env::outer)) (λ b=>b=e\/b=T) s.heap h'->Fly Old H h' e cls a0->Q () {s with heap:=h'}) :
  wpAny M A (noteFrame (.ref e) env) (λ _ s'=>wpAny M A (setFlight (.ref e) SY) Q E s') E s:=by
 obtain⟨oe,vs,T,oT,ts,he,hc,h0,hd,h1,hne,hT0,hdT,hts,hH,HT,old⟩:=fl.ex;have fr:=frames_at hF;have nef:∀ {b o us},s.heap.get? b=My o->o.data=.fields us->b∉frs (env::outer):=λ{b o us} hb hu z=>by obtain⟨o2,ho,hn⟩:=fr b z;rw[hb]at ho;cases ho;exact hn us hu
 let B:=Ie s.heap λ b=>decide (b∈frs (env::outer)\/b=e\/b=T);have hB:∀ b,B.get? b=if b∈frs (env::outer)\/b=e\/b=T then SY else s.heap.get? b:=λ b=>by rw[xD];by_cases c:b∈frs (env::outer)\/b=e\/b=T<;>simp[c]
 have stays:B.StaysIn s.heap:=λ b o h=>by
  rw[hB]at h;split at h
  ·cases h
  ·exact h
 have hF':s.heap.FunFrames B (env::outer):=mr hF λ b hb=>by rw[hB,ai (.inl hb)]
 have Be:B.get? e=SY:=by rw[hB,ai (.inr (.inl rfl))]
 have BT:B.get? T=SY:=by rw[hB,ai (.inr (.inr rfl))]
 refine wpAny_noteFrame_onW hA hF' hf ⟨oe,vs,T,oT,ts,he,⟨hc,h0⟩,hd,h1,BT,hne,hT0,hdT,hts⟩ stays Be λ h1' nt=>?_;obtain⟨st1,fr1,tr1,sl1⟩:=nt;refine wpAny_landsW (base:=B) (l:=env::outer) (cls:=cls) (a0:=a0) (L:=L) ⟨st1,Be,fr1,tr1⟩ λ h2 fl2 up=>?_;obtain⟨st2,_,fr2,tr2⟩:=fl2;refine q h2 T HT (λ z=>(old T z).2 rfl) ⟨λ b o hb nf nm=>st2 b o (by rw[hB,ak (λ z=>z.elim nf nm)];exact hb),λ b o hb hf=>?_⟩ ?_
 ·obtain⟨o2,ho2,hn⟩:=fr b hf;rw[hb]at ho2;cases ho2;obtain⟨sl,e1⟩:=sl1 b o hb hn;obtain⟨sl',e2⟩:=up b _ e1 hn;exact⟨sl',e2⟩
 ·obtain⟨oe',vs',T',oT',ts',he',⟨hc',hv0⟩,hd',hv1,hBT,hne',hT',hdT',hts'⟩:=tr2
  have nT:H T'=SY/\¬ Old T':=by
   rw[hB]at hBT;split at hBT
   ·rename_i z
    rcases z with z | z | z
    ·obtain⟨o,ho,hn⟩:=frames_at fr2 T' z;rw[hT']at ho;cases ho;exact absurd hdT' (hn ts')
    ·exact absurd z hne'
    ·rw[z];exact⟨HT,λ z=>(old T z).2 rfl⟩
   ·exact hT T' hBT
  exact⟨oe',vs',T',oT',ts',he',hc',hv0,hd',hv1,hne',hT',hdT',hts',hH,nT.1,λ b hb=>⟨(old b hb).1,λ z=>nT.2 (z▸hb)⟩⟩
end
section
variable {P:Program}{w:World}{H H':Hp}{h h' h0:Heap}{a:Addr}
theorem jx.there {o:HO}(x:jx P w H h a o):∃ u,h.get? a=My u:=by
 cases o with
 | lst xs=>obtain⟨_,_,_,_,e⟩:=x;exact⟨_,e⟩
 | tup xs=>obtain⟨⟨_,o,e,_⟩,_⟩:=x;exact⟨_,e⟩
 | dK kvs=>obtain⟨_,_,_,_,o,_,_,e,_⟩:=x;exact⟨_,e⟩
 | dT kvs=>obtain⟨_,_,_,_,o,_,_,e,_⟩:=x;exact⟨_,e⟩
 | set S n=>obtain⟨o,_,_,_,e,_⟩:=x;exact⟨_,e⟩
 | ins C dx fs=>obtain⟨_,_,_,e,_⟩:=x;exact⟨_,e⟩
 | own y=>exact x
 | xd fs=>obtain⟨_,⟨_,_,_,e,_⟩,_⟩:=x;exact⟨_,e⟩
 | rng lo hi=>obtain⟨_,_,_,e⟩:=x;exact⟨_,e⟩
 | frz ob u=>obtain⟨e,_⟩:=x;exact⟨_,e⟩
 | tbl ps=>exact⟨_,x⟩
 | met f y=>exact⟨_,x⟩
 | ext φ=>obtain⟨_,e,_⟩:=x;exact e
theorem HOk.new (x:HOk P w H h)(e:h.get? a=SY):H a=SY:=by
 cases q:H a with
 | none=>rfl
 | some u=>obtain⟨o,z⟩:=(x a u q).there;rw[e]at z;cases z
theorem HOk.tU {fs:List Addr}{mine:Addr->Prop}(x:HOk P w H h)(n:zI fs mine h h')(hf:∀ b∈fs,H b=SY)(hm:∀ b,mine b->H b=SY):HOk P w H h':=λ b u e =>
 (x b u e).wq (λ c v hc q=>n.keep c v q (λ z=>by
   rcases hc with rfl | hc
   ·rw[hf _ z]at e;cases e
   ·rw[hf _ z]at hc;cases hc) λ z=>by
   rcases hc with rfl | hc
   ·rw[hm _ z]at e;cases e
   ·rw[hm _ z]at hc;cases hc) (λ _ q=>q) λ _ _ q=>q
theorem Un.tU {fs:List Addr}{L:Addr}{mine:Addr->Prop}(u:Un fs [] H H' h0 h)(n:zI (L::fs) mine h h')(hL:h0.get? L=SY)(hm:∀ b,h0.get? b≠SY->¬ mine b):Un fs [] H H' h0 h':=by
 have ne:∀ {b o},h0.get? b=My o->b≠L:=λ{b o} e z=>by rw[z,hL]at e;cases e
 have nm:∀ {b o},h0.get? b=My o->¬ mine b:=λ{b o} e=>hm b (by rw[e];simp);refine⟨λ b o e hn hb hx=>n.keep b o (u.keep b o e hn hb hx) (λ z=>(aB.mp z).elim (ne e) hb) (nm e),λ b o e hn hb hx=>?_,u.free,λ b o e hx=>?_,u.ql,u.qm,u.ux⟩
 ·obtain⟨sl,e1⟩:=u.slot b o e hn hb hx;obtain⟨sl',e2⟩:=n.slot b _ e1 (ax _ hb);exact⟨sl',e2⟩
 ·obtain⟨o',e1⟩:=u.there b o e hx
  by_cases c:b∈L::fs
  ·obtain⟨sl,e2⟩:=n.slot b o' e1 c;exact⟨_,e2⟩
  ·exact⟨o',n.keep b o' e1 c (nm e)⟩
end
def CXE (P:Program)(w:World):CXT:=λ outer H s E e s'=>∃ a cls a0 H',e=.ref a/\s'.os=s.os/\AllBare s'.gens/\Un (frs outer) [] H H' s.heap s'.heap/\HOk P w H' s'.heap/\Fly (λ b=>s.heap.get? b≠SY) H' s'.heap a cls a0/\E cls (My a) H'
section
variable {P:Program}{w:World}{K:gG}{mg:gD}{base:Heap}{N:List Str}{qual:Str}{scope:Scope}{f:Addr}{cd:gH}{A:Around}{outer:List Env}{s s1:gJ}{H H1:Hp}{E:XK}{pins:gL}{σ:St}
abbrev cxE (P:Program)(w:World)(K:gG)(mg:gD)(base:Heap)(N:List Str)(qual:Str)(scope:Scope)(f:Addr)(cd:gH)(A:Around)(outer:List Env)(s:gJ)(H:Hp)(E:XK):Cx:=qo (CXE P w) P w K mg base N qual scope f cd A outer s H E
theorem Nu (I:Inv (cxE P w K mg base N qual scope f cd A outer s H E) pins σ H1 s1){h2:Heap}{e:Addr}{cls:gH}{vs:List gH}(m:s1.heap.MadeExcOf h2 e cls vs)(q:E cls (My e) H1)(t:Nat) :
  (cxE P w K mg base N qual scope f cd A outer s H E).xe (.ref e) {s1 with heap:=h2,toks:=t}:=by
 have J:=I.kept (t':=t) m.keeps;obtain⟨tt,he,ht,_⟩:=m.there;have hH:H1 e=SY:=I.hok.new m.new;have old:∀ b,s1.heap.get? b=SY->s.heap.get? b=SY:=λ b hb=>by
  cases q:s.heap.get? b with
  | none=>rfl
  | some o =>obtain⟨o',z⟩:=I.base.there b o q (by show b∉[];simp);rw[hb]at z;cases z
 refine B9 (L:=s.heap.objs.size) J.ok.frames J.stack rfl he rfl rfl rfl (H:=H1) (Old:=λ b=>s.heap.get? b≠SY) hH (λ b hb=>?_) (λ z=>z (old e m.new)) λ h' n fl=>?_
 ·refine⟨J.hok.new hb,λ z=>z ?_⟩
  cases q:s.heap.get? b with
  | none=>rfl
  | some o =>obtain⟨o',z⟩:=J.base.there b o q (by show b∉[];simp);have z:h2.get? b=My o':=z;have hb:h2.get? b=SY:=hb;rw[hb]at z;cases z
 ·exact⟨e,cls,_,H1,rfl,J.os,J.bare,J.base.tU n (cu (ay _)) λ b hb z=>by rw[z]at hb;exact hb (old e m.new),J.hok.tU n J.sN (λ b z=>by rw[z];exact hH),fl,q⟩
theorem Pw {E':XK}(hE:∀ c a H',E' c a H'->E c a H'):Passes (CXE P w) (cxE P w K mg base N qual scope f cd A outer s H E) E':=by
 rintro pins σ H1 s1 e s2 I ⟨a,cls,a0,H2,rfl,os,bare,un,hok,fl,q⟩;obtain⟨hh,g,d,t,os'⟩:=s2;obtain rfl:os'=s1.os:=os;have J:=I.call (h':=hh) (g':=g) (d':=d) (t':=t) (ch:=[]) un hok bare (λ b z=>absurd z (by simp));have old:∀ b,s.heap.get? b≠SY->s1.heap.get? b≠SY:=λ b hb z=>by
  cases q:s.heap.get? b with
  | none=>exact hb q
  | some o =>obtain⟨o',e⟩:=I.base.there b o q (by show b∉[];simp);rw[z]at e;cases e
 have fl':Fly (λ b=>s.heap.get? b≠SY) H2 hh a cls a0:=by obtain⟨oe,vs,T,oT,ts,h1,h2,h3,h4,h5,h6,h7,h8,h9,h10,h11,h12⟩:=fl.ex;exact⟨oe,vs,T,oT,ts,h1,h2,h3,h4,h5,h6,h7,h8,h9,h10,h11,λ b hb=>h12 b (old b hb)⟩
 refine ae (EX (L:=s.heap.objs.size) J.ok.frames J.stack rfl fl' (λ b hb=>?_) λ h' T HT oT n fl2=>?_)
 ·refine⟨J.hok.new hb,λ z=>z ?_⟩
  cases q:s.heap.get? b with
  | none=>rfl
  | some o =>obtain⟨o',z⟩:=J.base.there b o q (by show b∉[];simp);have z:hh.get? b=My o':=z;have hb:hh.get? b=SY:=hb;rw[hb]at z;cases z
 ·obtain⟨oe,vs,T0,oT0,ts,h1,h2,h3,h4,h5,h6,h7,h8,h9,h10,h11,h12⟩:=fl'.ex;exact⟨a,cls,a0,H2,rfl,J.os,J.bare,J.base.tU n (cu (ay _)) λ b hb z=>by
   rcases z with z | z
   ·exact(h12 b hb).1 z
   ·exact oT (z▸hb),J.hok.tU n J.sN (λ b z=>by
   rcases z with z | z
   ·rw[z];exact h10
   ·rw[z];exact HT),fl2,hE _ _ _ q⟩
end
abbrev yO:List gH:=[.type "ValueError",.type "Exception",.type "BaseException",.type "object"]
structure ClT (K:gG)(mg:gD)(x:Str)(dn:List gH) where
 C:Addr
 n:PySem.W.nsIn K mainGlobals x=My (My (.ref C))
 m:mg x=My (.ref C)
 ex:PySem.W.excIn K C yO "ValueError.__new__"=S_
 mro:(PySem.W.clsIn K C).map (·.mro)=My (.ref C::(dn++yO))
theorem Nv {K:gG}{mg:gD}{base:Heap}(M:Mod K mg base):∃ p loose mb,PySem.W.TopRead p loose mg mb base:=by
 obtain⟨mb,hb,hm⟩:=M.blt;obtain⟨o,es,ep,e1,e2,sk,e3⟩:=id M.glob;refine⟨(default:Program),es.toList.filterMap (λ e=>match e.key with | .str s _=>My s | _=>SY),mb,M.glob,hb,M.nolimit,hm,λ x _ hl _ _ _=>?_⟩;rw[<-e3 x];show(es.find? λ e=>e.key.isStr x).map (·.val)=SY;cases q:es.find? λ e=>e.key.isStr x with
 | none=>rfl
 | some d =>
  exfalso;have h1:=Array.find?_some q;have h2:=Array.mem_of_find?_eq_some q;refine hl (cY.mpr ⟨d,by simpa using h2,?_⟩);cases hk:d.key with
  | str s t =>
   rw[hk]at h1;have:s=x:=by simpa [Value.isStr] using h1
   rw[this]
  | _=>rw[hk]at h1;cases h1
theorem Ko {K:gG}{mg:gD}{base:Heap}(M:Mod K mg base){x:Str}{dn:List gH}(c:ClT K mg x dn):OwnCls x c.C yO "ValueError.__new__" mg base:=by obtain⟨p,loose,mb,T⟩:=Nv M;exact PySem.W.own_of_in M.kin T c.n c.ex
def Nw (t:TA)(C:Addr)(E:XK):TS:=λ D σ H=>t σ H λ vs H1=>vs.length<=sizeLine/\∀ e,H1 e=SY->E (.ref C) (My e) H1
section
variable {P:Program}{w:World}{K:gG}{mg:gD}{base:Heap}{N:List Str}{qual:Str}{scope:Scope}{f:Addr}{cd:gH}{A:Around}{outer:List Env}{s:gJ}{H:Hp}{E:XK}{x:Str}{np cpos pos:Pos}{e0:Expr}{dn:List gH}{t:TA}
theorem Ig (c:ClT K mg x dn)(hd:(cxE P w K mg base N qual scope f cd A outer s H E).A.handled=SY)(ha:PA (cxE P w K mg base N qual scope f cd A outer s H E) [e0] t)(hg:Gl (cxE P w K mg base N qual scope f cd A outer s H E) x:=by rfl)(hdb:(x==("__debug__":Str))=Ta:=by decide)
  (he:starEach [e0] (cxE P w K mg base N qual scope f cd A outer s H E).env=[(Ta,eval e0 (cxE P w K mg base N qual scope f cd A outer s H E).env)]:=by rfl) :
  PS (cxE P w K mg base N qual scope f cd A outer s H E) (.Raise (My (.Call (.Name x np) [e0] [] cpos)) SY pos) (Nw t c.C E):=by
 intro pins s1 σ H1 D I h;obtain⟨bm,N0,nm,q,bs,hdct,sn,sub,ab,col,dd,k0,k1,k2,k3,k5,mN,e1,e2,e3,e4⟩:=(Ko I.mod c).obj;have he2:backTo cpos (starEach [e0] (cxE P w K mg base N qual scope f cd A outer s H E).env)=[(Ta,eval e0 (cxE P w K mg base N qual scope f cd A outer s H E).env)]:=by rw[he];rfl
 refine wpAny_Raise_call_subU (nm:=nm) (q:=q) (C:=c.C) (N:=N0) (bs:=bs) (hdct:=hdct) (sn:=sn) (sub:=sub) (ab:=ab) (col:=col) (dd:=dd) (k0:=k0) (k1:=k1) (k2:=k2) (k3:=k3) (k5:=k5) F.excBase_ValueError (by decide) F.excBase_ValueError (e4.hasType (by decide)) hd (by rw[he2];rfl) e3 (sP I hg c.m ⟨rfl,?_⟩ hdb);rw[he2];refine Calls.evalArgs_plain ?_;have:=ha cpos pins s1 σ H1 _ I h;rw[he2]at this;refine thn this λ us s2 ⟨vs,H2,I2,r2,hz,q2⟩=>⟨rfl,by rw[<-r2.length];exact hz,I2.bk _ _ e1,?_,e4.keeps I2.bk,λ h' e made=>?_⟩
 ·obtain⟨o,es,ep,z1,z2⟩:=e2;exact⟨o,es,ep,I2.bk _ _ z1,z2⟩
 ·exact Nu I2 made (q2 e (I2.hok.new made.new)) _
end
section
variable {X Y:Cx}{pins:gL}{σ:St}{H:Hp}{s:gJ}
structure Alike (X Y:Cx):Prop where
 prog:Y.prog=X.prog
 w:Y.w=X.w
 K:Y.K=X.K
 mg:Y.mg=X.mg
 base:Y.base=X.base
 N:Y.N=X.N
 s0:Y.s₀=X.s₀
 H0:Y.H₀=X.H₀
 env:Y.env=X.env
 outer:Y.outer=X.outer
 stack:Y.stack=X.stack
 ex:Y.ex=X.ex
 fn:Y.fn=X.fn
 fr:Y.A.frames=X.A.frames
theorem Inv.alike {pins':gL}(a:Alike X Y)(I:Inv X pins σ H s)(hd:Y.calm=S_->Y.A.handled=SY)(hp:∀ p∈Y.pn++pins',p∈X.pn++pins):Inv Y pins' σ H s:=by obtain⟨prog,w,K,mg,base,A,N,s0,H0,env,outer,stack,ex,fn,calm,pn,xe⟩:=X;obtain⟨prog',w',K',mg',base',A',N',s0',H0',env',outer',stack',ex',fn',calm',pn',xe'⟩:=Y;obtain⟨a1,a2,a3,a4,a5,a6,a7,a8,a9,a10,a11,a12,a13,a14⟩:=a;dsimp only at a1 a2 a3 a4 a5 a6 a7 a8 a9 a10 a11 a12 a13 a14;subst a1 a2 a3 a4 a5 a6 a7 a8 a9 a10 a11 a12 a13;obtain⟨ok,os,bare,bs,loc,cell,free,my,pin,hok,len⟩:=I;exact⟨⟨ok.mod,ok.kind,ok.glob,ok.blt,ok.above,ok.inj,ok.has,ok.cab,hd,a14.trans ok.frames,ok.stk,ok.exf,ok.bs,ok.bsz,ok.CN,ok.Gz,ok.uy,ok.frf⟩,os,bare,bs,loc,cell,free,my,λ p h=>pin p (hp p h),hok,len⟩
def FW (X:Cx)(pn:gL)(b:Addr):Prop:=X.s₀.heap.get? b≠SY\/(∃ p∈pn,p.1=b)\/b=X.env.locals\/∃ x,X.env.cells.lookup x=My b
def Cx.pnC (X:Cx)(pn:gL):Cx:={X with pn:=pn}
def Cx.B_ (X:Cx)(E':XK)(pn:gL):Cx:={X with pn:=pn,xe:=λ e s'=>∃ σ H a cls a0,e=.ref a/\Inv (X.pnC pn) [] σ H s'/\Fly (FW X pn) H s'.heap a cls a0/\E' cls (My a) H}
def Cx.hdC (X:Cx)(a:Addr)(pn:gL):Cx:={X with A:=X.A.mark (My (.ref a)),calm:=Ta,pn:=pn,xe:=λ _ _=>False}
theorem FX {E':XK}{pn:gL}:Alike X (X.B_ E' pn):=⟨rfl,rfl,rfl,rfl,rfl,rfl,rfl,rfl,rfl,rfl,rfl,rfl,rfl,rfl⟩
theorem rB {E':XK}{pn:gL}:Alike (X.B_ E' pn) X:=⟨rfl,rfl,rfl,rfl,rfl,rfl,rfl,rfl,rfl,rfl,rfl,rfl,rfl,rfl⟩
theorem Ih {E':XK}{pn:gL}:Alike (X.B_ E' pn) (X.pnC pn):=⟨rfl,rfl,rfl,rfl,rfl,rfl,rfl,rfl,rfl,rfl,rfl,rfl,rfl,rfl⟩
theorem Ca {a:Addr}{pn:gL}:Alike (X.pnC pn) (X.hdC a pn):=⟨rfl,rfl,rfl,rfl,rfl,rfl,rfl,rfl,rfl,rfl,rfl,rfl,rfl,rfl⟩
theorem Ii {a:Addr}{pn:gL}:Alike (X.hdC a pn) X:=⟨rfl,rfl,rfl,rfl,rfl,rfl,rfl,rfl,rfl,rfl,rfl,rfl,rfl,rfl⟩
theorem Inv.old {pn:gL}(I:Inv (X.pnC pn) pins σ H s)(hx:X.ex=[]){b:Addr}(h:FW X pn b):s.heap.get? b≠SY:=by
 rcases h with h | ⟨p,hp,rfl⟩ | rfl | ⟨x,hc⟩
 ·intro z
  cases q:X.s₀.heap.get? b with
  | none=>exact h q
  | some o =>obtain⟨o',e⟩:=I.base.there b o q (by show b∉X.ex;rw[hx];simp);rw[z]at e;cases e
 ·have:=(I.pin p (bf _ hp)).1;rw[this];simp
 ·obtain⟨m,⟨o,es,ep,ho,_⟩,_⟩:=I.loc;have ho:s.heap.get? X.env.locals=My o:=ho;rw[ho];simp
 ·obtain⟨v,o,ho,_⟩:=I.cell x b hc;rw[ho];simp
theorem Ny {P:Program}{w:World}{E':XK}{pn:gL}(hP:X.prog=P)(hw:X.w=w)(hx:X.ex=[]):Passes (CXE P w) (X.B_ E' pn) E':=by subst hP hw;rintro pins σ H1 s1 e s2 I ⟨a,cls,a0,H2,rfl,os,bare,un,hok,fl,q⟩;obtain⟨hh,g,d,t,os'⟩:=s2;obtain rfl:os'=s1.os:=os;have J:=I.call (h':=hh) (g':=g) (d':=d) (t':=t) (ch:=[]) un hok bare (λ b z=>absurd z (by simp));have I0:Inv (X.pnC pn) [] σ H1 s1:=I.alike Ih I.ok.hd λ p hp=>bf _ (show p∈pn by have:p∈pn++[]:=hp;simpa using this);refine⟨σ,H2,a,cls,a0,rfl,J.alike Ih J.ok.hd λ p hp=>bf _ (show p∈pn by have:p∈pn++[]:=hp;simpa using this),?_,q⟩;obtain⟨oe,vs,T,oT,ts,h1,h2,h3,h4,h5,h6,h7,h8,h9,h10,h11,h12⟩:=fl.ex;exact⟨oe,vs,T,oT,ts,h1,h2,h3,h4,h5,h6,h7,h8,h9,h10,h11,λ b hb=>h12 b (I0.old hx hb)⟩
end
section
variable {X:Cx}{pins:gL}{σ:St}{H:Hp}{s:gJ}{h':Heap}
theorem Inv.tU {mine:Addr->Prop}(J:Inv X pins σ H s)(n:zI (frs X.stack) mine s.heap h')(hm:∀ b,mine b->H b=SY/\X.s₀.heap.get? b=SY/\b≠X.env.locals/\(∀ x c,X.env.cells.lookup x=My c->c≠b)/\∀ p∈X.pn++pins,p.1≠b):Inv X pins σ H {s with heap:=h'}:=by
 have any:∀ b o,s.heap.get? b=My o->¬ mine b->∃ sl,h'.get? b=My {o with slots:=sl}:=λ b o e nm=>by
  by_cases c:b∈frs X.stack
  ·exact n.slot b o e c
  ·exact⟨o.slots,n.keep b o e c nm⟩
 have ent:∀ {b o},X.s₀.heap.get? b=My o->¬ mine b:=λ{b o} e z=>by rw[(hm b z).2.1]at e;cases e
 have entL:∀ {b o},X.s₀.heap.get? b=My o->b≠X.env.locals:=λ{b o} e=>aM (aJ (ar e) J.ok.above);have cellK:∀ x c,X.env.cells.lookup x=My c->∀ v,s.heap.IsCell c v->h'.IsCell c v:=λ x c e v ⟨o,ho,hd⟩=>by obtain⟨sl,z⟩:=any c o ho λ z=>(hm c z).2.2.2.1 x c e rfl;exact⟨_,z,hd⟩
 have nsub:∀ {b},b≠X.env.locals->b∉X.fs->b∉frs X.stack:=λ{b} h1 h2 z=>(aB.mp (J.wu b z)).elim h1 h2;refine⟨J.ok,J.os,J.bare,⟨λ b o e hn hb hx=>n.keep b o (J.base.keep b o e hn hb hx) (nsub (entL e) hb) (ent e),λ b o e hn hb hx=>?_,J.base.free,λ b o e hx=>?_,J.base.ql,J.base.qm,J.base.ux⟩,?_,λ x c e=>?_,J.free,J.my,λ p hp=>?_,J.hok.tU n J.sN λ b z=>(hm b z).1,J.len⟩
 ·obtain⟨sl,e1⟩:=J.base.slot b o e hn hb hx;obtain⟨sl',e2⟩:=any b _ e1 (ent e);exact⟨sl',e2⟩
 ·obtain⟨o',e1⟩:=J.base.there b o e hx;obtain⟨sl,e2⟩:=any b o' e1 (ent e);exact⟨_,e2⟩
 ·obtain⟨m,⟨o,es,ep,ho,hd,hr⟩,hl⟩:=J.loc
  obtain⟨sl,z⟩:=any _ o ho λ z=>(hm _ z).2.2.1 rfl;refine⟨m,⟨_,es,ep,z,hd,hr⟩,λ i x v e1 e2 e3=>?_⟩;obtain⟨u,r,l⟩:=hl i x v e1 e2 e3;refine⟨u,r,?_⟩;rcases l with l | ⟨k,c,e,z⟩
  ·exact .inl l
  ·exact .inr ⟨k,c,e,cellK x c e _ z⟩
 ·obtain⟨v,z⟩:=J.cell x c e;exact⟨v,cellK x c e v z⟩
 ·obtain⟨e,hn,ne,nf,d⟩:=J.pin p hp;exact⟨n.keep p.1 p.2 e (nsub ne nf) λ z=>(hm _ z).2.2.2.2 p hp rfl,hn,ne,nf,d⟩
theorem Inv.Nz {D:Addr}{o:HO}(I:Inv X pins σ H s)(hn:H D=SY)(hs:X.s₀.heap.get? D=SY)(hL:D≠X.env.locals)(hc:∀ x c,X.env.cells.lookup x=My c->c≠D)(hp:∀ p∈X.pn++pins,p.1≠D)
  (new:jx X.prog X.w (upd H D o) s.heap D o):Inv X pins σ (upd H D o) s:=by
 have ne:∀ b u,H b=My u->b≠D:=λ b u e z=>by rw[z,hn]at e;cases e
 refine⟨I.ok,I.os,I.bare,⟨I.base.keep,I.base.slot,λ b ob e n hx=>?_,I.base.there,λ b xs e=>?_,λ b ob u e=>?_,λ b ps e=>?_⟩,I.loc,I.cell,?_,λ x c e=>?_,λ p hp'=>?_,λ b u e=>?_,I.len⟩
 ·have:b≠D:=λ z=>by rw[z,hs]at e;cases e
  rw[g6 this];exact I.base.free b ob e n hx
 ·have q:=I.base.ql b xs e;rw[g6 (ne _ _ q)];exact q
 ·have q:=I.base.qm b ob u e;rw[g6 (ne _ _ q)];exact q
 ·obtain⟨more,q⟩:=I.base.ux b ps e;exact⟨more,by rw[g6 (ne _ _ q)];exact q⟩
 ·rw[g6 hL.symm];exact I.free
 ·rw[g6 (hc x c e)];exact I.my x c e
 ·obtain⟨a1,a2,a3⟩:=I.pin p hp';exact⟨a1,by rw[g6 (hp p hp')];exact a2,a3⟩
 ·by_cases c:b=D
  ·subst c;rw[gU]at e;cases e;exact new
  ·rw[g6 c]at e;exact(I.hok b u e).wq (λ _ _ _ q=>q) (λ c' q=>by rw[g6 (ne _ _ q)];exact q) λ c' xs q=>by rw[g6 (ne _ _ q)];exact q
def isC (a:Addr)(cls:gH):Heap->Prop:=λ h=>∃ oe,h.get? a=My oe/\oe.cls=cls
theorem NA {P:Program}{w:World}{h:Heap}{a:Addr}{cls:gH}(e:isC a cls h):jx P w H h a (.ext (isC a cls)):=by obtain⟨oe,e1,e2⟩:=e;exact⟨⟨oe,e1,e2⟩,⟨oe,e1⟩,λ h1 h2 ⟨o,z1,z2⟩ k=>⟨o,k o z1,z2⟩⟩
end
section
variable {M:Model}{A:Around}{E:gE}{s:gJ}{base:Heap}{l:List Env}{e:Addr}{Q:Unit->gJ->Prop}
set_option tactic.hygienic true in
theorem FY (hF:s.heap.FunFrames base l){H:Hp}{Old:Addr->Prop}{cls a0:gH}(fl:Fly Old H s.heap e cls a0)
  (hT:∀ b,s.heap.get? b=SY->H b=SY/\¬ Old b) (q:∀ h' (T:Addr),H T=SY->¬ Old T->zI (frs l) (λ b=>b=e\/b=T) s.heap h'->Fly Old H h' e cls a0->Q () {s with heap:=h'}):wpAny M A (setFlight (.ref e) SY) Q E s:=by
 obtain⟨oe,vs,T,oT,ts,he,hc,h0,hd,h1,hne,hT0,hdT,hts,hH,HT,old⟩:=fl.ex;have fr:=frames_at hF;let B:=Ie s.heap λ b=>decide (b∈frs l\/b=e\/b=T);have hB:∀ b,B.get? b=if b∈frs l\/b=e\/b=T then SY else s.heap.get? b:=λ b=>by rw[xD];by_cases c:b∈frs l\/b=e\/b=T<;>simp[c]
 have stays:B.StaysIn s.heap:=λ b o h=>by
  rw[hB]at h;split at h
  ·cases h
  ·exact h
 have hF':s.heap.FunFrames B l:=mr hF λ b hb=>by rw[hB,ai (.inl hb)]
 have Be:B.get? e=SY:=by rw[hB,ai (.inr (.inl rfl))]
 have BT:B.get? T=SY:=by rw[hB,ai (.inr (.inr rfl))]
 refine lands_againW (base:=B) (l:=l) (cls:=cls) (a0:=a0) ⟨stays,Be,hF',oe,vs,T,oT,ts,he,⟨hc,h0⟩,hd,h1,BT,hne,hT0,hdT,hts⟩ λ h2 fl2 up=>?_;obtain⟨st2,_,fr2,tr2⟩:=fl2;refine q h2 T HT (λ z=>(old T z).2 rfl) ⟨λ b o hb nf nm=>st2 b o (by rw[hB,ak (λ z=>z.elim nf nm)];exact hb),λ b o hb hf=>?_⟩ ?_
 ·obtain⟨o2,ho2,hn⟩:=fr b hf;rw[hb]at ho2;cases ho2;exact up b o hb hn
 ·obtain⟨oe',vs',T',oT',ts',he',⟨hc',hv0⟩,hd',hv1,hBT,hne',hT',hdT',hts'⟩:=tr2
  have nT:H T'=SY/\¬ Old T':=by
   rw[hB]at hBT;split at hBT
   ·rename_i z
    rcases z with z | z | z
    ·obtain⟨o,ho,hn⟩:=frames_at fr2 T' z;rw[hT']at ho;cases ho;exact absurd hdT' (hn ts')
    ·exact absurd z hne'
    ·rw[z];exact⟨HT,λ z=>(old T z).2 rfl⟩
   ·exact hT T' hBT
  exact⟨oe',vs',T',oT',ts',he',hc',hv0,hd',hv1,hne',hT',hdT',hts',hH,nT.1,λ b hb=>⟨(old b hb).1,λ z=>nT.2 (z▸hb)⟩⟩
end
structure WT (K:gG)(mg:gD)(x:Str) extends ClT K mg x [] where
 w1:PySem.W.instIn K (.ref C) (.type "tuple")=My Ta
 w2:PySem.W.subIn K (.ref C) (.type "BaseException")=My S_
section
variable {M:Model}{A:Around}{E:gE}{s:gJ}{K:gG}{mg:gD}
set_option tactic.hygienic true in
theorem FZ {x:Str}(KX:K.In s.heap)(W:WT K mg x){a C:Addr}(ht:isC a (.ref C) s.heap)(sb:PySem.W.subIn K (.ref C) (.ref W.C)=My S_){Q:Bool->gJ->Prop}(q:Q S_ s):wpAny M A (excMatches (.ref a) (.ref W.C)) Q E s:=by
 have keep:∀ b o,s.heap.get? b=My o->s.heap.get? b=My o:=λ _ _ h=>h;obtain⟨oe,e1,e2⟩:=ht;unfold excMatches;refine ae (PySem.W.looks_instIn KX W.w1 A _ E s keep ?_);rw[ak aw];dsimp only;refine ae (ag ?_);obtain⟨cd,hcd⟩:∃ cd,PySem.W.clsIn K W.C=My cd:=by
  have:=W.mro;cases q:PySem.W.clsIn K W.C with
  | none=>rw[q]at this;cases this
  | some cd=>exact⟨cd,rfl⟩
 obtain⟨oc,hoc,hdc⟩:∃ oc,s.heap.get? W.C=My oc/\oc.data=.cls cd:=by
  unfold PySem.W.clsIn at hcd;split at hcd
  ·rename_i o1 o2 o3 o4 o5 hl;cases hcd;exact⟨_,KX _ _ hl,rfl⟩
  ·cases hcd
 rw[eF];refine ae (ae (ae ?_));unfold isExcClass;refine ae (ks_wpAny_isType_cls hoc hdc ?_);rw[ai rfl];refine PySem.W.looks_subIn KX W.w2 A _ E s keep ?_;rw[ak (by decide)];refine ag ?_;dsimp only;rw[fR];refine ag ?_;refine ae (wpAny_typeOf_ref e1 ?_);rw[e2,eF];refine ae (ae (ae (PySem.W.looks_subIn KX sb A _ E s keep ?_)));rw[ai rfl];refine ag ?_;dsimp only;exact ag (ag q)
end
section
variable {X:Cx}{pins:gL}{σ:St}{H:Hp}{s:gJ}
theorem F0 {M:Model}{A:Around}{E:gE}{i:Nat}{x:Str}{pos:Pos}(I:Inv X pins σ H s)(hN:X.N.Nodup)(hi:X.N[i]?=My x)(hk:X.env.scope.names.lookup x=My .local){Q:Unit->gJ->Prop}
  (q:∀ s',Inv X pins (σ.set i SY) H s'->Q () s'):wpAny M A (do bindName X.env x .none;unbindBehindTheSuite X.env x pos) Q E s:=by
 have hiσ:i<σ.length:=by rw[I.len];exact(aQ.mp hi).1
 have hcls:(X.env.scope.kind==.class || (X.env.scope.kind==.module&&X.env.locals != X.env.globals))=Ta:=by rw[I.ok.kind];rfl
 refine ae (wpAny_bindName (sO I hN hi (.inl hk) (v:=.non) (u:=.none) rfl (λ s1 I1=>?_) (.inr hk)));unfold unbindBehindTheSuite;refine fw ?_;obtain⟨m,hn,hl⟩:=id I1.loc;have hm:∃ u,m x=My u:=by
  obtain⟨u,_,l⟩:=hl i x .non hi (by rw[cg hiσ]) (.inl hk);rcases l with⟨_,e⟩ | ⟨k,_⟩
  ·exact⟨u,e⟩
  ·have k:X.env.scope.names.lookup x=My .cell\/X.env.scope.names.lookup x=My .free:=k;rw[hk]at k;rcases k with k | k<;>cases k
 obtain⟨u0,hm⟩:=hm;refine wpAny_unbindName_local hk hn hm hcls λ h' u hn' hs=>q _ ?_;obtain⟨oL,_,_,hoL,_⟩:=id hn;have entL:∀ {b o},X.s₀.heap.get? b=My o->b≠X.env.locals:=λ{b o} e=>aM (aJ (ar e) I1.ok.above);refine⟨I1.ok,I1.os,I1.bare,⟨λ b o e n hb hx=>?_,λ b o e n hb hx=>?_,I1.base.free,λ b o e hx=>?_,I1.base.ql,I1.base.qm,I1.base.ux⟩,⟨_,hn',λ j y v' e1 e2 e3=>?_⟩,λ y c e=>?_,I1.free,I1.my,λ p hp=>?_,λ b ob e=>?_,by have:=I1.len;simpa using this⟩
 ·exact(hs.2 b (entL e)).trans (I1.base.keep b o e n hb hx)
 ·obtain⟨sl,e1⟩:=I1.base.slot b o e n hb hx;exact⟨sl,(hs.2 b (entL e)).trans e1⟩
 ·obtain⟨o',e1⟩:=I1.base.there b o e hx;exact⟨o',(hs.2 b (entL e)).trans e1⟩
 ·by_cases hj:j=i
  ·subst hj;rw[cg hiσ]at e2;cases e2
  ·rw[cf (bu hj)]at e2
   obtain⟨u',r',l⟩:=hl j y v' e1 (by rw[cf (bu hj)];exact e2) e3;refine⟨u',r',?_⟩;rcases l with⟨k,e⟩ | ⟨k,c,e,z⟩
   ·refine .inl ⟨k,?_⟩;have:y≠x:=λ e=>hj (wx hN e1 (e▸hi));simp[this,e]
   ·exact .inr ⟨k,c,e,z.sameBut hs (I1.cne y c e)⟩
 ·obtain⟨w',z⟩:=I1.cell y c e;exact⟨w',z.sameBut hs (I1.cne y c e)⟩
 ·obtain⟨e,n,ne,nf,d⟩:=I1.pin p hp;exact⟨(hs.2 p.1 ne).trans e,n,ne,nf,d⟩
 ·refine(I1.hok b ob e).wq (λ c w' hc q=>(hs.2 c ?_).trans q) (λ _ q=>q) λ _ _ q=>q
  rintro rfl;rcases hc with rfl | hc
  ·rw[I1.free]at e;cases e
  ·rw[I1.free]at hc;cases hc
def RB (n i:Nat)(K:gG)(Wc:Addr)(tb:XK->TS)(th:TS):TS:=λ D σ H=>∃ E':XK,tb E' D σ H/\∀ cls a H',E' cls (My a) H'->H' a=SY ->
 (∃ C,cls=.ref C/\PySem.W.subIn K (.ref C) (.ref Wc)=My S_)/\∀ σ1:St,σ1.length=n->th {nx:=λ _ _=>False,rt:=D.rt} (σ1.set i (My (.ref a))) (upd H' a (.ext (isC a cls)))
theorem NB {wn n:Str}{i:Nat}{body suite:List Stmt}{b₀:Stmt}{wp hp pos:Pos}{tb:XK->TS}{th:TS}(W:WT X.K X.mg wn)(hb:∀ E' pn,PSs (X.B_ E' pn) body (tb E'))(hh:∀ a pn,PSs (X.hdC a pn) (b₀::suite) th)(hst:X.stack=X.env::X.outer:=by rfl)(hfr:X.env.frame=My X.env.locals:=by rfl)(hx:X.ex=[]:=by rfl)(hN:X.N.Nodup:=by trivial)(hi:X.N[i]?=My n:=by rfl)
  (hk:X.env.scope.names.lookup n=My .local:=by rfl) (hg:Gl X wn:=by rfl) (hdb:(wn==("__debug__":Str))=Ta:=by decide) :
  PS X (.Try body [.ExceptHandler (My (.Name wn wp)) (My n) (b₀::suite) hp] [] [] pos) (RB X.N.length i X.K W.C tb th):=by
 rintro pins s σ H D I ⟨E',h1,h2⟩;have up:∀ p∈X.pn++pins,p∈(X.pn++pins)++[]:=λ p hp=>by simpa using hp
 have dn:∀ p∈(X.pn++pins)++[],p∈X.pn++pins:=λ p hp=>by simpa using hp
 refine wpAny_Try_except (cZ (hb E' (X.pn++pins) [] s σ H D (I.alike FX I.ok.hd dn) h1) (λ f s1 h=>?_) λ e s1 h=>?_)
 ·cases f with
  | next =>obtain⟨σ',H',J,q⟩:=h;exact nU pins s1 σ' H' D (J.alike rB I.ok.hd up) q
  | brk=>obtain⟨σ',H',J,q⟩:=h;exact⟨σ',H',J.alike rB I.ok.hd up,q⟩
  | cont=>obtain⟨σ',H',J,q⟩:=h;exact⟨σ',H',J.alike rB I.ok.hd up,q⟩
  | ret u=>obtain⟨v,σ',H',J,r,q⟩:=h;exact⟨v,σ',H',J.alike rB I.ok.hd up,r,q⟩
 ·obtain⟨σ1,H1,a,cls,a0,rfl,J,fl,q⟩:=h
  have newJ:∀ {s2:gJ} {σ2:St},Inv (X.pnC (X.pn++pins)) [] σ2 H1 s2->∀ b,s2.heap.get? b=SY->H1 b=SY/\¬ FW X (X.pn++pins) b:=λ{s2 σ2} J2 b hb=>⟨J2.hok.new hb,λ z=>J2.old hx z hb⟩;have mineOk:∀ b,¬ FW X (X.pn++pins) b->H1 b=SY->H1 b=SY/\(X.pnC (X.pn++pins)).s₀.heap.get? b=SY/\b≠(X.pnC (X.pn++pins)).env.locals/\(∀ x c,(X.pnC (X.pn++pins)).env.cells.lookup x=My c->c≠b)/\∀ p∈(X.pnC (X.pn++pins)).pn++[],p.1≠b:=λ b nb hb =>⟨hb,aV λ z=>nb (.inl z),λ z=>nb (.inr (.inr (.inl z))),λ x c hc z=>nb (.inr (.inr (.inr ⟨x,z▸hc⟩))),λ p hp z=>nb (.inr (.inl ⟨p,dn p hp,z⟩))⟩
  have aOk:∀ {h:Heap},Fly (FW X (X.pn++pins)) H1 h a cls a0->H1 a=SY/\¬ FW X (X.pn++pins) a/\isC a cls h:=λ{h} fl=>by obtain⟨oe,vs,T,oT,ts,k1,k2,k3,k4,k5,k6,k7,k8,k9,k10,k11,k12⟩:=fl.ex;exact⟨k10,λ z=>(k12 a z).1 rfl,oe,k1,k2⟩
  have frs1:(X.pnC (X.pn++pins)).stack=X.env::X.outer:=hst;have hA:X.A.frames=My (X.env::X.outer):=by have:=I.ok.frames;rw[hst]at this;exact this
  have hF:s1.heap.FunFrames X.base (X.env::X.outer):=by have:=J.stack;rw[frs1]at this;exact this
  refine EX (L:=X.env.locals) hA hF hfr fl (newJ J) λ h3 T HT oT nt fl3=>?_;obtain⟨Ha,oa,_⟩:=aOk fl;have J3:Inv (X.pnC (X.pn++pins)) [] σ1 H1 {s1 with heap:=h3}:=J.tU (by rw[frs1];exact nt) λ b z=>by
   rcases z with z | z
   ·rw[z];exact mineOk a oa Ha
   ·rw[z];exact mineOk T oT HT
  obtain⟨_,_,ic3⟩:=aOk fl3;obtain⟨⟨C,rfl,sb⟩,h2⟩:=h2 cls a H1 q Ha;have K3:Inv (X.hdC a (X.pn++pins)) [] σ1 H1 {s1 with heap:=h3}:=J3.alike Ca (λ z=>by cases z) λ p hp=>hp;refine wpAny_handleBy_cons (codeAny_handlers_test ?_) (by unfold byPass;intro z;cases z);refine sP (X:=X.hdC a (X.pn++pins)) K3 hg W.m (FZ K3.kIn W ic3 sb ?_) hdb;dsimp only;rw[ai rfl];dsimp only;refine codeAny_handlers_suite_as ?_;refine FY (l:=X.env::X.outer) (base:=X.base) (by have:=J3.stack;rw[frs1]at this;exact this) fl3 (newJ J3) λ h4 T4 HT4 oT4 nt4 fl4=>?_;have J4:Inv (X.pnC (X.pn++pins)) [] σ1 H1 {s1 with heap:=h4}:=J3.tU (s:={s1 with heap:=h3}) (by rw[frs1];exact nt4) λ b z=>by
   rcases z with z | z
   ·rw[z];exact mineOk a oa Ha
   ·rw[z];exact mineOk T4 oT4 HT4
  obtain⟨_,_,ic4⟩:=aOk fl4;obtain⟨_,m2,m3,m4,m5⟩:=mineOk a oa Ha;have J5:Inv (X.pnC (X.pn++pins)) [] σ1 (upd H1 a (.ext (isC a (.ref C)))) {s1 with heap:=h4}:=J4.Nz Ha m2 m3 m4 m5 (NA ic4);have K5:Inv (X.hdC a (X.pn++pins)) [] σ1 (upd H1 a (.ext (isC a (.ref C)))) {s1 with heap:=h4}:=J5.alike Ca (λ z=>by cases z) λ p hp=>hp;refine sO (X:=X.hdC a (X.pn++pins)) K5 hN hi (.inl hk) (v:=.ref a) rfl (λ s6 K6=>?_) (.inr hk);refine cZ (hh a (X.pn++pins) [] s6 _ _ _ K6 (h2 σ1 J.len)) (λ f s7 h=>?_) λ e s7 h=>False.elim h;cases f with
  | next=>obtain⟨_,_,_,z⟩:=h;exact False.elim z
  | brk=>obtain⟨_,_,_,z⟩:=h;exact False.elim z
  | cont=>obtain⟨_,_,_,z⟩:=h;exact False.elim z
  | ret u =>obtain⟨v,σ7,H7,K7,r,z⟩:=h;have J7:Inv X pins σ7 H7 s7:=K7.alike Ii I.ok.hd up;exact F0 J7 hN hi hk λ s8 J8=>⟨v,_,H7,J8,r,z⟩
end
structure tV (k:Nat)(A:Around):Prop where
 dp:A.depth+3*k+5<recursionLimit
 un:A.units+16*k+200<cLine
theorem tV.deeper {k:Nat}{A:Around}(r:tV (k+1) A)(env:Env):tV k (A.deeper env) :=
 ⟨by have:=r.dp;show A.depth+1+3*k+5<_;lia,by have:=r.un;show A.units+3+16*k+200<_;lia⟩
theorem jt.toN {j k:Nat}{A:Around}(r:jt k A)(h:j<=k)(v:gF gH):tV j (A.mark v):=⟨by have:=r.dp;show A.depth+3*j+5<_;lia,by have:=r.un;show A.units+16*j+200<_;lia⟩
theorem tV.units {k:Nat}{A:Around}(r:tV k A):A.units+2<cLine:=by have:=r.un;lia
structure Ij (P:Program)(w:World)(K:gG)(mg:gD)(base:Heap)(k:Nat)(f:Addr)(fd:FuncData)(ps:List Str)(sp:Sp):Prop where
 len:∀ vs H Q E,sp vs H Q E->vs.length=ps.length
 run:∀ (A:Around) (outer:List Env) (s:gJ) (H:Hp) (args:Args) (us:List gH) (vs:List V) (Q:VK) (E:XK),tV k A->Fn P w K mg base A outer s H->BindsTo s fd args (ps.zip us)->Vals vs us->sp vs H Q E ->
  codeAny (model P w) A (.call (.ref f) args) (CR CX0 outer P w H s Q E) s
def Cx.NC (X:Cx):Cx:={X with calm:=Ta}
section
variable {P:Program}{w:World}{K:gG}{mg:gD}{base:Heap}{x qual:Str}{st:Stmt}{f:Addr}{fd:FuncData}{N ps:List Str}{k:Nat}{sp:Sp}
theorem Fun.okN (F:Fun K x qual st f fd)(S:ie N ps (gW st))(len:∀ vs H Q E,sp vs H Q E->vs.length=ps.length)
  (hbody:∀ (cdv:gH) (A:Around) (outer:List Env) (s:gJ) (H:Hp) (vs:List V) (Q:VK) (E:XK),tV k (A.deeper (envOfC qual (gW st) s.heap.objs.size f cdv))->sp vs H Q E ->
   ∃ t,PSs (qo CX0 P w K mg base N qual (gW st) f cdv A outer s H E).NC (iW st) t/\t {nx:=λ _ H'=>Q .non H',rt:=Q} (start N vs) H):Ij P w K mg base (k+1) f fd ps sp:=by
 obtain⟨oc,od,kV,doc,pm,an,cdv,ct,osl,rfl,lk,hcd⟩:=F.ex;refine⟨len,λ A outer s H args us vs Q E hr e0 hb r hsp=>?_⟩;have hl:=len _ _ _ _ hsp;have KX:K.In s.heap:=e0.mod.kin.keeps λ b o e=>(e0.bs b o e).1;have lim:s.heap.NoLimit:=e0.mod.nolimit.keeps λ b o e=>(e0.bs b o e).1;have hkind:∀ y∈ps.zip us,(gW st).names.lookup y.1=My .local\/((gW st).names.lookup y.1=My .cell/\((cellsFrom (s.heap.objs.size+1) (gW st).names []).lookup y.1).isSome=S_):=λ⟨n,v⟩ hy=>by
  rcases S.par n (fF hy).1 with q | q
  ·exact .inl q
  ·exact .inr ⟨q,eR _ _ _ (.inl q)⟩
 refine codeAny_call_function (by have:=hr.dp;lia) (KX _ _ lk) rfl S.co S.gen rfl (PySem.W.codeRec_of KX hcd) (hb _ _ _ _ ?_);refine wpAny_newFunctionEnv_cells S.kind hkind λ env he s1 x=>?_;subst he;refine⟨lim.keeps x.toInCall.keep,codeAny_func ?_⟩;obtain⟨t,ht,hq⟩:=hbody cdv A outer s H vs Q E (hr.deeper _) hsp;have e1:Fn P w K mg base {A with handled:=SY} outer s H:=⟨e0.frames,e0.mod,e0.bs,e0.bsz,e0.uy,e0.frf,e0.hok,e0.bare⟩;have I0:Inv (qo CX0 P w K mg base N qual (gW st) f cdv {A with handled:=SY} outer s H E) [] (start N vs) H s1:=zi S rfl e1 hl r x;have I:Inv (qo CX0 P w K mg base N qual (gW st) f cdv A outer s H E).NC [] (start N vs) H s1:=Inv.alike (X:=qo CX0 P w K mg base N qual (gW st) f cdv {A with handled:=SY} outer s H E) ⟨rfl,rfl,rfl,rfl,rfl,rfl,rfl,rfl,rfl,rfl,rfl,rfl,rfl,rfl⟩ I0 (λ z=>by cases z) λ p hp=>hp;refine cZ (ht [] s1 (start N vs) H _ I hq) (λ fl s' hs=>?_) λ e s' hs=>hs;have fin:∀ {σ':St} {H':Hp} {v:V} {u:gH},Inv (qo CX0 P w K mg base N qual (gW st) f cdv A outer s H E).NC [] σ' H' s'->RelV v u->Q v H'->CE outer P w H s Q u s' :=
  λ{σ' H' v u} J rv q=>⟨v,H',J.os,J.bare,J.base,J.hok,rv,q⟩
 cases fl with
 | ret u =>obtain⟨v,σ',H',J,rv,q⟩:=hs;exact fin J rv q
 | next =>obtain⟨σ',H',J,q⟩:=hs;exact fin (v:=V.non) (u:=Value.none) J rfl q
 | brk =>obtain⟨_,_,_,q⟩:=hs;exact False.elim q
 | cont =>obtain⟨_,_,_,q⟩:=hs;exact False.elim q
theorem Fun.okE (F:Fun K x qual st f fd)(S:ie N ps (gW st))(len:∀ vs H Q E,sp vs H Q E->vs.length=ps.length)
  (hbody:∀ (cdv:gH) (A:Around) (outer:List Env) (s:gJ) (H:Hp) (vs:List V) (Q:VK) (E:XK),jt k (A.deeper (envOfC qual (gW st) s.heap.objs.size f cdv))->sp vs H Q E ->
   ∃ t,PSs (cxE P w K mg base N qual (gW st) f cdv A outer s H E) (iW st) t/\t {nx:=λ _ H'=>Q .non H',rt:=Q} (start N vs) H):pj P w K mg base (CXE P w) (k+1) f fd ps sp:=by
 obtain⟨oc,od,kV,doc,pm,an,cdv,ct,osl,rfl,lk,hcd⟩:=F.ex;exact LF lk hcd S len λ A outer s H vs Q E hr hsp=>hbody cdv A outer s H vs Q E hr hsp
end
section
variable {X:Cx}{e:Expr}{es:List Expr}{pos p:Pos}{x:Str}{st:Stmt}{j k n:Nat}{ps:List Str}
theorem pCN {sp:Sp}{t:TA}(T:FnT X.K X.mg x st ps)(F:Ij X.prog X.w X.K X.mg X.base k T.f T.fd ps sp)(hr:tV k X.A)(ha:PA X (e::es) t)(hg:Gl X x:=by rfl)(hdb:(x==("__debug__":Str))=Ta:=by decide)(he:starEach (e::es) X.env=(Ta,eval e X.env)::starEach es X.env:=by rfl)(hpl:(backTo pos (starEach es X.env)).any (·.1)=Ta:=by rfl) :
  PE X (.Call (.Name x p) (e::es) [] pos) (jr sp [] E0 t):=by
 intro pins s σ H Q I h;refine eG (sP I hg T.m ?_ hdb);refine PySem.W.callWith_K (h₀:=X.base) I.ok.mod.kin T.F.kp (thn (ha pos pins s σ H _ I h) λ us s1 ⟨vs,H1,I1,r,q⟩=>⟨I1.kIn,?_⟩) he hpl;have q:sp vs H1 Q E0:=by have q:sp (vs++[]) H1 Q E0:=q;rwa [bA]at q
 have hl:(us++[]).length=ps.length:=by rw[bA,<-r.length];exact F.len _ _ _ _ q
 refine f_ (codeAny_mono (F.run X.A X.stack s1 H1 ⟨us,[]⟩ us vs Q E0 hr I1.OX (by have:=T.b s1 us I1.kIn hl;rwa [bA]at this) r q) λ r s' hq=>?_);cases r with
 | error e=>exact False.elim hq
 | ok fl =>
  cases fl with
  | ret u=>exact I1.after hq
  | next=>exact False.elim hq
  | brk=>exact False.elim hq
  | cont=>exact False.elim hq
theorem pCE {P:Program}{w:World}{K:gG}{mg:gD}{base:Heap}{N:List Str}{qual:Str}{scope:Scope}{f:Addr}{cd:gH}{A:Around}{outer:List Env}{s:gJ}{H:Hp}{E:XK}{sp:Sp}{t:TA}(T:FnT K mg x st ps)(F:pj P w K mg base (CXE P w) k T.f T.fd ps sp)(hr:jt j (cxE P w K mg base N qual scope f cd A outer s H E).A)(ha:PA (cxE P w K mg base N qual scope f cd A outer s H E) (e::es) t)(hj:k<=j:=by decide)(hg:Gl (cxE P w K mg base N qual scope f cd A outer s H E) x:=by rfl)(hdb:(x==("__debug__":Str))=Ta:=by decide)(he:starEach (e::es) (cxE P w K mg base N qual scope f cd A outer s H E).env=(Ta,eval e (cxE P w K mg base N qual scope f cd A outer s H E).env)::starEach es (cxE P w K mg base N qual scope f cd A outer s H E).env:=by rfl)(hpl:(backTo pos (starEach es (cxE P w K mg base N qual scope f cd A outer s H E).env)).any (·.1)=Ta:=by rfl) :
  PE (cxE P w K mg base N qual scope f cd A outer s H E) (.Call (.Name x p) (e::es) [] pos) (jr sp [] E t):=sR (X:=cxE P w K mg base N qual scope f cd A outer s H E) F (hr.mono hj) hg T.m T.F.kp T.b .nil (Pw λ _ _ _ h=>h) ha hdb he hpl
theorem pCT {E':XK}{pn:gL}{sp:Sp}{t:TA}(T:FnT X.K X.mg x st ps)(F:pj X.prog X.w X.K X.mg X.base (CXE X.prog X.w) k T.f T.fd ps sp)(hr:jt j X.A)(ha:PA (X.B_ E' pn) (e::es) t)(hx:X.ex=[]:=by rfl)(hj:k<=j:=by decide)(hg:Gl X x:=by rfl)(hdb:(x==("__debug__":Str))=Ta:=by decide)(he:starEach (e::es) X.env=(Ta,eval e X.env)::starEach es X.env:=by rfl)(hpl:(backTo pos (starEach es X.env)).any (·.1)=Ta:=by rfl) :
  PE (X.B_ E' pn) (.Call (.Name x p) (e::es) [] pos) (jr sp [] E' t):=sR (X:=X.B_ E' pn) F (hr.mono hj) hg T.m T.F.kp T.b .nil (Ny rfl rfl hx) ha hdb he hpl
end
end L2
namespace HT
open PySem PySem.Spec PyProof.Rows
variable {prog:Program}{w:World}{A:Around}{E:gE}{s:gJ}
theorem sA {t sl:Addr}{items:Array gH}{vl vu:gH}{lo hi:gF Int}{Q:gE}(ht:IsTup s.heap t items)(hs:s.heap.IsSliceOf sl vl vu .none)(pl:IsPart vl lo)(pu:IsPart vu hi)
  (h1:sIx items.size 0 lo=0) (h2:sIx items.size items.size hi=items.size)
  (h:Q (.ref t) s):wpAny (model prog w) A (getItem (.ref t) (.ref sl)) Q E s:=by
 obtain⟨os,hos,hcs,hds⟩:=id hs;have hTs:s.TypeIs (.ref sl) "slice":=⟨os,hos,hcs⟩;unfold getItem;try with_reducible refine bJ ?_
 first | refine ae (ag ?_) | skip
 refine ae (fU ht.typeIs (by decide) ?_);refine ae (bN (name:=Str.ofString "__getitem__") ht.typeIs ba
  (bS ba ht.typeIs entry_tuple_getitem ?_ (args_tuple_getitem _ _)))
 show wpAny _ _ (Builtin.Tuple.tupleItemsOf (.ref t)>>=_) _ _ s;refine ae (tupleItemsOf_ ht ?_);refine ae (eT hTs ?_);rw[ai (by decide)];refine ae (oK hs pl pu ?_);show wpAny _ _ (if (((sIx items.size 0 lo:Nat):Int)==0&&(1:Int)==1&&(sIx items.size items.size hi-sIx items.size 0 lo)==items.size)=S_ then _ else _) _ _ s;rw[ai (by rw[h1,h2];simp)];refine ae (m:=Builtin.Tuple.tupleIsExact _) (ae (eT ht.typeIs (ag ?_)));rw[ai (by decide)];refine ae (wpAny_rule ?_);exact ag ⟨_,rfl,ag h⟩
end HT
namespace L2
open PySem PySem.Spec PyProof.Rows Zp Qs
variable {X:Cx}
def RC (K:gG):V->gF Int->gF Int->Hp->VK->Prop:=λ x lo hi H Q=>∃ a xs,x=.ref a/\SqT K H a xs /\
 (HT.sIx xs.length 0 lo=0/\HT.sIx xs.length xs.length hi=xs.length)/\Q (.ref a) H
theorem AN:SlR X (RC X.K):=by
 intro pins s σ H x v vl vu lo hi sl Q I rx hs pl pu h;obtain⟨a,xs,rfl,hx,hw,q⟩:=h;cases rx;obtain⟨its,r,ht,hz⟩:=I.tuple hx;have hlen:its.toArray.size=xs.length:=by rw[au];exact r.length.symm
 refine⟨"tuple",_,ba.lookup,ht.typeIs,?_⟩;exact HT.sA ht hs pl pu (by rw[hlen];exact hw.1) (by rw[hlen];exact hw.2) ⟨.ref a,H,I,rfl,q⟩
def Ik:Dt->gF Dt
 | .tup ds=>My (.tup ds.tail)
 | _=>SY
def DF (g:DE->gF Dt):DE->gF Dt:=λ δ=>(g δ).bind Ik
theorem Kq {ga:DE->gF Dt}{j:Nat}{p p2 pos:Pos}{a:Expr}(ha:PD X a ga):PD X (.Subscript a (.Slice (My (.Constant (.int 1) j p)) SY SY p2) pos) (DF ga) :=
 (wO (C4.or AN) ha (Ad (hJ (i:=1))) Ac).of λ σ H Q hz1=>by
  obtain⟨δ,d,S,e,q⟩:=hz1;obtain⟨x,e1,e2⟩:=gP e;match x,e1,e2 with
  | .tup [],e1,e2 =>cases e2;refine⟨δ,_,S,e1,λ v H1 s1 i1=>?_⟩;obtain⟨p,xs,rfl,hp,is⟩:=i1.ik;cases is;exact⟨1,rfl,.inr ⟨p,[],rfl,hp,⟨rfl,rfl⟩,q _ _ s1 i1⟩⟩
  | .tup (d0::ds),e1,e2 =>
   cases e2;refine⟨δ,_,S,e1,λ v H1 s1 i1=>?_⟩;obtain⟨p,xs,rfl,hp,is⟩:=i1.ik;cases is with
   | cons i1 i2 =>
    refine⟨1,rfl,.inl ⟨p,_,rfl,hp,?_,λ p' hp'=>?_⟩⟩
    ·rintro⟨z,_⟩;have z:HT.sIx _ 0 (My ((1:Nat):Int))=0:=z;rw[HT.nV]at z;simp at z
    ·refine q _ _ (s1.trans (gY.upd hp')) (.tup (SqT.of gU) ?_);rw[FG];exact i2.ext (gY.upd hp')
def mX:List Dt->gF Dt
 | [x]=>(dTt x).bind λ l=>if l.length<=1000 then My (.bl (rise l)) else SY
 | _=>SY
def pM:DE->gF RD:=(kN (iP xo (gN (gLC ["one","following"] [] (Nc S_ S_ (gN (gR 0) (gN (DF (gR 0)) gS))) (pI 0 1) lY (g_ Hz (gR 0) (gR 1))) gS)))
set_option tactic.hygienic true in
theorem yP:Hg 1 BV mX pM:=by
 intro ds d hl h;match ds,h with
 | [x],h =>
  obtain⟨l,e1,h⟩:=gP (show(dTt x).bind _=_ from h);split at h
  ·rename_i hc
   cases h;rw[v9 e1];refine⟨.rt (.bl (rise l)),?_,rfl⟩;have lc:=tJ (enc:=λ pq:(Nat×Nat)×(Nat×Nat)=>Dt.tup [gX pq.1,gX pq.2]) (gg:=pI 0 1) (ge:=g_ Hz (gR 0) (gR 1)) (δc:=[SY,SY]) (δa:=λ pq=>[My (gX pq.1),My (gX pq.2)]) (enc':=λ pq=>.bl (mP pq.1 pq.2)) (l.zip l.tail) λ a _=>⟨rfl,by simp[gX,gO,Hz,og,vI,mP]⟩
   have ez:=Ke l;have e2:(l.zip l.tail).map (λ pq=>Dt.bl (mP pq.1 pq.2))=((l.zip l.tail).map λ pq=>mP pq.1 pq.2).map Dt.bl:=by simp
   rw[e2]at lc;have e3:((l.zip l.tail).map λ pq=>mP pq.1 pq.2).all id=rise l:=by simp[rise,eY,dH]
   have e4:(l.zip l.tail).length<=1000:=by rw[List.length_zip];lia
   have e6:JX S_ S_ [ip l,.tup (l.tail.map gX)]=My ((l.zip l.tail).map λ pq=>Dt.tup [gX pq.1,gX pq.2]):=by rw[<-ez];rfl
   have e7:Ik (ip l)=My (.tup (l.tail.map gX)):=by rw[List.map_tail];rfl
   generalize (l.zip l.tail).map (λ pq=>mP pq.1 pq.2)=bs at lc e3;generalize hzs:(l.zip l.tail).map (λ pq=>Dt.tup [gX pq.1,gX pq.2])=zs at lc e6;have e8:zs.length<=1000:=by rw[<-hzs,af];exact e4
   rw[show l.tail.map gX=(l.map gX).tail from by simp]at e6 e7;simp[pM,DF,e7,e6,e8,lc,e3]
  ·cases h
section
variable {w wt:Web}(g:Good w)
include g
omit g in
def nrL (w:Web)(i:Nat):List Nat:=(Tc w.1).filter λ o=>decide (jm i o∈w.2)
theorem Good.pN {i o:Nat}:o∈nrL w i↔o∈nb w.2 i:=by unfold nrL;rw[aS,aC,decide_eq_true_iff,<-g.AL];exact⟨λ h=>h.2,λ h=>⟨(g.jk h).1,h⟩⟩
theorem Good.ND (i:Nat)(f:Nat->Rat):((nrL w i).map f).sum=((nb w.2 i).map f).sum:=by
 rw[<-DB (n:=w.1) f (nrL w i) (cp.filter _) (λ x hx=>aC.mp (aS.mp hx).1),<-DB (n:=w.1) f _ (g.HM i) λ x hx=>(g.jk hx).1];refine Dt0.qI λ j _=>?_;by_cases c:j∈nb w.2 i
 ·rw[ai c,ai (g.pN.mpr c)]
 ·rw[ak c,ak λ z=>c (g.pN.mp z)]
theorem Good.NF (i:Nat):(nrL w i).length=dg w i:=by
 have:=g.ND i λ _=>1;rw[xA,xA]at this;have h:((nrL w i).length:Rat)=(dg w i:Rat):=by unfold dg;grind
 exact Rat.natCast_inj.mp h
end
end L2
namespace L2
open PySem PySem.Spec PyProof.Rows PySem.W Builtin Builtin.ObjectAttr Builtin.Getset_descriptor
structure ExT (K:gG)(C:Addr):Prop where
 ga:findIn K (.ref C) "__getattribute__"=My (My (.builtin "BaseException.__getattribute__"))
 gh:findIn K (.ref C) "__getattr__"=My SY
 cl:findIn K (.ref C) "__class__"=My (My (.builtin "object.__class__"))
 sp:specialIn K (.builtin "object.__class__") "__get__"=My (My (.builtin "getset_descriptor.__get__"))
 tk:takesIn K (.builtin "object.__class__")=My S_
 mo:mroIn K C (.type "object")=My S_
 sb:subIn K (.ref C) (.type "BaseException")=My S_
 is:(clsIn K C).isSome=S_
section
variable {prog:Program}{w:World}{A:Around}{E:gE}{s:gJ}{K:gG}{x C:Addr}
theorem o6 {M:Model}{h:Heap}(e:isC x (.ref C) h):Looks M h (typeOf (.ref x)) (.ref C):=by obtain⟨oe,e1,e2⟩:=e;rw[<-e2];exact(Looks.ld e1).andThen .now
theorem Kr {R:Result->gJ->Prop}{tp:gH}(X:K.In s.heap)(I:isC x (.ref C) s.heap)(hm:mroIn K C (.type "object")=My S_)
  (h:R (.ok (.ret (.ref C))) s):codeAny (model prog w) A (.call (.builtin "getset_descriptor.__get__") ⟨[.builtin "object.__class__",.ref x,tp],[]⟩) R s:=by
 obtain⟨hh,g,dr,t,os⟩:=s;have L0:=o6 (M:=model prog w) I;have L1:=looks_mroIn (M:=model prog w) X hm;refine codeAny_call_builtin KF.slot_gs.plain KF.entry_gs (KF.slot_gs.check _ _ _ _ _ _ _ _ KF.type_class (KF.args_gs _ _ _) ?_);unfold Builtin.«getset_descriptor.__get__» descrGet;rw[dga_obj];refine ae (ag ?_);unfold descrGetter descrCheckInstance descrNameAndClass isInstance;simp only[KF.owner_class];repeat lk
 refine⟨fQ _ (by decide +kernel),codeAny_builtin KF.entry_class ?_⟩;unfold Builtin.«object.__class__» shownTypeOf;repeat lk
 exact h
theorem F3 {tk:Tok}{Q:Fin->gJ->Prop}(X:K.In s.heap)(T:ExT K C)(I:isC x (.ref C) s.heap)(hq:Q (.done (.ret (.ref C))) s) :
  wpAny (model prog w) A (Builtin.«object.__getattribute__» ⟨[.ref x,.str "__class__" tk],[]⟩) Q E s:=by
 obtain⟨hh,g,dr,t,os⟩:=s;have L0:=o6 (M:=model prog w) I;have L1:=looks_findIn (M:=model prog w) X T.cl;have L2:=looks_specialIn (M:=model prog w) X T.sp;have L3:=looks_takesIn (M:=model prog w) X T.tk;unfold Builtin.«object.__getattribute__»;repeat lk
 refine wpAny_run (h:=SY) (Kr X I T.mo ?_);exact ag (ag hq)
theorem F4 {M:Model}{nameV:gH}{Q:Unit->gJ->Prop}(X:K.In s.heap)(T:ExT K C)(I:isC x (.ref C) s.heap)(hq:Q () s):wpAny M A (checkBuiltinCall "BaseException.__getattribute__" ⟨[.ref x,nameV],[]⟩) Q E s:=by
 obtain⟨hh,g,dr,t,os⟩:=s;have hk:builtinKind "BaseException.__getattribute__"=My .slot:=by decide +kernel
 have hsplit:splitId "BaseException.__getattribute__"=My ("BaseException","__getattribute__"):=by decide +kernel
 have ha:=F.args_bexc_ga (.ref x) nameV;have L0:=o6 (M:=M) I;have L1:=looks_subIn (M:=M) X T.sb;simp only[checkBuiltinCall,hk,hsplit];refine ae ?_;unfold isInstance;repeat lk
 exact hq
theorem F5 {Q:gF gH->gJ->Prop}(X:K.In s.heap)(T:ExT K C)(I:isC x (.ref C) s.heap)(h:Q (My (.ref C)) {s with toks:=s.toks+1}):wpAny (model prog w) A (getAttr? (.ref x) "__class__") Q E s:=by
 obtain⟨hh,g,d,t,os⟩:=s;have L0:=o6 (M:=model prog w) I;have L1:=looks_findIn (M:=model prog w) X T.ga;have L2:=looks_findIn (M:=model prog w) X T.gh;unfold getAttr? getAttrBy? getAttrBy;refine ae (wpAny_mkText (ae (eD (bJ (ae (L0.at (ae (L1.at ?_))))))));have hx2:(Value.builtin "BaseException.__getattribute__"==Value.builtin "object.__getattribute__")=Ta:=by decide +kernel
 have hx1:(onTheHeap (Value.ref C)&&Value.builtin "BaseException.__getattribute__"==Value.builtin "object.__getattribute__")=Ta:=by rw[hx2];rfl
 dsimp only;rw[ak (by rw[hx1];exact aw)];unfold getAttrByItsOwn hookBefore;rw[ai (by rfl)];refine ae (L2.at (ae (eD (bJ ?_))));unfold callGetattribute boundAndCalled;rw[ak (by decide)];rw[F.excAttr_ValueError.ga.bind (.ref x)];refine ae (ag (f_ (codeAny_call_builtin F.excAttr_ValueError.ga.plain F.entry_bexc_ga (F4 X T I (F3 X T I ?_)))));exact handed_on rfl (ag h)
set_option tactic.hygienic true in
theorem Il (T:ExT K C):KitX K (.ref x) (.ref C) (isC x (.ref C)) where
 ty:=λ _ _ _ I=>o6 I
 it:=λ _ _ X _=>by
  obtain⟨cdD,hcD⟩:=dM.mp T.is;unfold clsIn at hcD;split at hcD
  ·rename_i c' d' cd' sl' ho;intro A' Q' E' s' k q;unfold isType loadHead;exact ae (wpAny_loadPart (k _ _ (X _ _ ho)) (ag q))
  ·cases hcD
 ne:=λ h tp dd its n sl X htp=>by
  obtain⟨cdD,hcD⟩:=dM.mp T.is;refine Bool.eq_false_iff.mpr λ q=>?_;have e:C=tp:=Value.ref.inj (beq_iff_eq.mp q);subst e;unfold clsIn at hcD;split at hcD
  ·rename_i c' d' cd' sl' ho;have z:=(X _ _ ho).symm.trans htp;cases z
  ·cases hcD
 ca:=λ X I k=>F5 X T I k
end
def RE (K:gG)(c:gH)(b:Bool):List V->Hp->VK->Prop:=λ xs H Q=>∃ a C v,xs=[.ref a,v]/\RelV v c/\H a=My (.ext (isC a (.ref C)))/\ExT K C/\kitOne K (.ref C) c=My b/\Q (.bl b) H
end L2
namespace L2
open PySem PySem.Spec PyProof.Rows Zp Qs PySem.SeqAt
section
variable {X:Cx}{o e:Expr}{p pos:Pos}
theorem Px {c:gH}{b:Bool}:jB X (.builtin "isinstance") (RE X.K c b):=by
 intro pins s σ H xs us Q I rs h;obtain⟨a,C,v,rfl,rv,ha,T,k,q⟩:=h;obtain⟨u,u',rfl,r1,r2⟩:=vals2 rs;cases r1;have e:u'=c:=by
  cases v with
  | ref z=>exact(show u'=Value.ref z from r2).trans (show c=Value.ref z from rv).symm
  | ty n=>exact(show u'=Value.type n from r2).trans (show c=Value.type n from rv).symm
  | non=>exact(show u'=Value.none from r2).trans (show c=Value.none from rv).symm
  | bl b=>exact(show u'=Value.bool b from r2).trans (show c=Value.bool b from rv).symm
  | int i=>obtain⟨t,rfl⟩:=rv;cases k
  | str i=>obtain⟨t,rfl⟩:=rv;cases k
  | byt i=>obtain⟨t,rfl⟩:=rv;cases k
  | flt i=>obtain⟨t,rfl⟩:=rv;cases k
 subst e;have ok:jx X.prog X.w H s.heap a (.ext (isC a (.ref C))):=I.hok a _ ha;exact PySem.W.kia_one (Il T) I.kIn ok.1 k (λ z=>nomatch z) λ tk=>⟨.bl b,H,I.tok _,rfl,q⟩
def L5 (x y:Dt):gF Dt:=(uQ x).bind λ es=>(yK es).bind λ bs=>match y with
 | .bl S_=>My (.int (bs.countP id:Nat))
 | _=>SY
def L6 (x y:Dt):gF Dt:=(uQ x).bind λ es=>(yK es).bind λ bs=>match y with
 | .bl S_=>if bs.length<=1000 then (bs.findIdx? id).map λ(j:Nat)=>Dt.int j else SY
 | _=>SY
def Py (K:gG):V->List V->Hp->VK->Prop:=λ x xs H Q=>∃ bs:List Bool,xs=[.bl S_]/\Is K H x (.lst (bs.map .bl))/\Q (.int (bs.countP id:Nat)) H
def Pz (K:gG):V->List V->Hp->VK->Prop:=λ x xs H Q=>∃ (bs:List Bool) (j:Nat),xs=[.bl S_]/\Is K H x (.lst (bs.map .bl))/\bs.length<=1000/\bs.findIdx? id=My j/\Q (.int j) H
theorem xE {K:gG}{H:Hp}:∀ {bs:List Bool} {xs:List V} {its:List gH},Iss K H xs (bs.map .bl)->Vals xs its->its=bs.map Value.bool
 | [],_,_,js,r=>by cases js;cases r;rfl
 | b::bs,_,_,js,r=>by
  cases js with
  | cons i is =>
   cases r with
   | cons r rs =>rw[i.jR]at r;cases r;rw[xE is rs];rfl
theorem xF {A:Around}{s:gJ}{w:gH}{bs:List Bool}(hw:w∈(bs.map Value.bool).toArray):EqAt A s w (.bool S_) (w==.bool S_):=by
 obtain⟨b,_,rfl⟩:=aA.mp (List.mem_toArray.mp hw);have:=EqAt.bool_bool (A:=A) (s:=s) b S_;have e:(Value.bool b==Value.bool S_)=(b==S_):=by cases b<;>rfl
 rw[e];exact this
theorem Ks:MtR X "list.count" (Py X.K):=by
 intro pins s σ H x xs v us Q I rx rv h;obtain⟨bs,rfl,i1,q⟩:=h;obtain⟨u,rfl,ru⟩:=rv.one;cases ru;obtain⟨p,ys,rfl,hp,js⟩:=i1.lst_inv;cases rx;obtain⟨its,rvs,pl,hz⟩:=I.list (SqL.of hp);have e:=xE js rvs;subst e;obtain⟨⟨cls,dd,data,sl⟩,ho,hc,n,hd⟩:=id pl.isList;simp only at hc hd;subst hc hd;refine call_meets F.slot_list_count ⟨_,ho,rfl⟩ F.entry_list_count (F.args_list_count_2 _ _) (list_countAt p (bs.map Value.bool).toArray n dd sl (.bool S_) (λ w=>w==.bool S_)) ⟨ho,λ w hw=>xF hw,?_⟩;have e:(bs.map Value.bool).toArray.toList.countP (λ w=>w==Value.bool S_)=bs.countP id:=by rw[List.toList_toArray,List.countP_map];congr 1;funext b;cases b<;>rfl
 rw[e];exact⟨.int (bs.countP id:Nat),H,I.tok _,⟨_,rfl⟩,q⟩
theorem Kt:MtR X "list.index" (Pz X.K):=by
 intro pins s σ H x xs v us Q I rx rv h;obtain⟨bs,j,rfl,i1,hl,fj,q⟩:=h;obtain⟨u,rfl,ru⟩:=rv.one;cases ru;obtain⟨p,ys,rfl,hp,js⟩:=i1.lst_inv;cases rx;obtain⟨its,rvs,pl,hz⟩:=I.list (SqL.of hp);have e:=xE js rvs;subst e;obtain⟨⟨cls,dd,data,sl⟩,ho,hc,n,hd⟩:=id pl.isList;simp only at hc hd;subst hc hd;obtain⟨hj,hj1,hj2⟩:=List.findIdx?_eq_some_iff_getElem.mp fj;refine call_meets F.slot_list_index ⟨_,ho,rfl⟩ F.entry_list_index (F.args_list_index_2 _ _) (list_indexAt p (bs.map Value.bool).toArray n dd sl (.bool S_) (λ w=>w==.bool S_) j (by simpa using hj) (by lia) (by
  have:bs[j]=S_:=hj1;simp[this]) (λ m hm hmj=>by
  have:¬ bs[m]=S_:=hj2 m hmj;have:bs[m]=Ta:=by simpa using this
  simp[this])) ⟨ho,λ w hw=>xF hw,?_⟩
 exact⟨.int j,H,I.tok _,⟨_,rfl⟩,q⟩
theorem NG {apos cpos:Pos}{ga gb:DE->gF Dt}(ha:PD X o ga)(hb:PD X e gb)(hbase:attributeBase o "count" X.env (eval o X.env)=eval o X.env:=by rfl)
  (hfew:((backTo cpos (starEach [e] X.env)).all (λ x=>!x.1)&&(backToKw cpos (keywordEach [] X.env)).all (λ x=>x.1.isSome)&&decide (([e]:List Expr).length+([]:List Keyword).length+(if ([]:List Keyword).isEmpty then 0 else 1)<30))=S_:=by rfl)
  (hline:(apos.endLine==cpos.line)=S_:=by rfl) (hs:starEach [e] X.env=[(Ta,eval e X.env)]:=by rfl):PD X (.Call (.Attribute o "count" apos) [e] [] cpos) (g_ L5 ga gb) :=
 (u7 F.plainAttrs_list F.slot_list_count F.type_list_count Ks ha (gQ hb g9 hs) hbase hfew hline hs).of λ σ H Q hz=>by
  obtain⟨δ,d,S,e1,q⟩:=hz;obtain⟨x,y,f1,f2,f3⟩:=tm e1;obtain⟨es,g1,g2⟩:=gP f3;obtain⟨bs,g3,g4⟩:=gP g2;obtain rfl:=kW g1;obtain rfl:=tH g3;match y,g4,f2 with
  | .bl S_,g4,f2 =>cases g4;refine⟨δ,_,S,f1,λ v H1 s1 i1=>?_⟩;obtain⟨a,xs,rfl,hq,is⟩:=id i1.lst_inv;refine⟨.inl ⟨rfl,xs,SqL.of hq⟩,δ,_,S.ext s1,f2,λ v2 H2 s2 i2=>?_⟩;exact⟨bs,by rw[i2.jR],i1.ext s2,q _ H2 (s1.trans s2) (.int _)⟩
theorem NH {apos cpos:Pos}{ga gb:DE->gF Dt}(ha:PD X o ga)(hb:PD X e gb)(hbase:attributeBase o "index" X.env (eval o X.env)=eval o X.env:=by rfl)
  (hfew:((backTo cpos (starEach [e] X.env)).all (λ x=>!x.1)&&(backToKw cpos (keywordEach [] X.env)).all (λ x=>x.1.isSome)&&decide (([e]:List Expr).length+([]:List Keyword).length+(if ([]:List Keyword).isEmpty then 0 else 1)<30))=S_:=by rfl)
  (hline:(apos.endLine==cpos.line)=S_:=by rfl) (hs:starEach [e] X.env=[(Ta,eval e X.env)]:=by rfl):PD X (.Call (.Attribute o "index" apos) [e] [] cpos) (g_ L6 ga gb) :=
 (u7 F.plainAttrs_list F.slot_list_index F.type_list_index Kt ha (gQ hb g9 hs) hbase hfew hline hs).of λ σ H Q hz=>by
  obtain⟨δ,d,S,e1,q⟩:=hz;obtain⟨x,y,f1,f2,f3⟩:=tm e1;obtain⟨es,g1,g2⟩:=gP f3;obtain⟨bs,g3,g4⟩:=gP g2;obtain rfl:=kW g1;obtain rfl:=tH g3;match y,g4,f2 with
  | .bl S_,g4,f2 =>
   by_cases hl:bs.length<=1000
   rotate_left
   ·cases (ak hl).symm.trans (show(if bs.length<=1000 then _ else _)=_ from g4)
   obtain⟨j,g5,rfl⟩:=il ((ai hl).symm.trans (show(if bs.length<=1000 then (bs.findIdx? id).map λ(j:Nat)=>Dt.int j else SY)=_ from g4));refine⟨δ,_,S,f1,λ v H1 s1 i1=>?_⟩;obtain⟨a,xs,rfl,hq,is⟩:=id i1.lst_inv;refine⟨.inl ⟨rfl,xs,SqL.of hq⟩,δ,_,S.ext s1,f2,λ v2 H2 s2 i2=>?_⟩;exact⟨bs,j,by rw[i2.jR],i1.ext s2,hl,g5,q _ H2 (s1.trans s2) (.int _)⟩
end
end L2
namespace L2
open PySem PySem.Spec PyProof.Rows Zp Qs
structure CkT (K:gG)(mg:gD)(n:Str)(C:Addr)(b:Bool) where
 D:Addr
 m:mg n=My (.ref D)
 k:PySem.W.kitOne K (.ref C) (.ref D)=My b
section
variable {X:Cx}{e:Expr}{pos p p2:Pos}
def Ku (C:Addr)(b:Bool):TE:=λ σ H Q=>(∃ a,σ[0]?=My (My (.ref a))/\H a=My (.ext (isC a (.ref C))))/\Q (.bl b) H
theorem Im {y:Str}{v:V}{c:gH}{C:Addr}{b:Bool}(z:X.mg "isinstance"=SY)(T:ExT X.K C)(h0:PE X (.Name y p2) (hX 0))(he:PE X e (tC v))(rv:RelV v c)(k:PySem.W.kitOne X.K (.ref C) c=My b)(hg:Gl X "isinstance":=by rfl)
  (hs1:starEach [.Name y p2,e] X.env=(Ta,eval (.Name y p2) X.env)::starEach [e] X.env:=by rfl) (hs2:starEach [e] X.env=[(Ta,eval e X.env)]:=by rfl) (hpl:(backTo pos (starEach [e] X.env)).any (·.1)=Ta:=by rfl):PE X (.Call (.Name "isinstance" p) [.Name y p2,e] [] pos) (Ku C b) :=
 (jO (Px (c:=c) (b:=b)) hg z boot_isinstance (gQ h0 (gQ he g9 hs2) hs1) (he:=hs1) (hpl:=hpl)).of λ σ H Q h=>by obtain⟨⟨a,h1,h2⟩,q⟩:=h;exact⟨_,h1,a,C,v,rfl,rv,h2,T,k,q⟩
theorem ly {x y:Str}{C:Addr}{b:Bool}{p3:Pos}(z:X.mg "isinstance"=SY)(T:ExT X.K C)(J:CkT X.K X.mg x C b)(h0:PE X (.Name y p2) (hX 0))(hg:Gl X "isinstance":=by rfl)(hg2:Gl X x:=by rfl)(hd:(x==("__debug__":Str))=Ta:=by decide)
  (hs1:starEach [.Name y p2,.Name x p3] X.env=(Ta,eval (.Name y p2) X.env)::starEach [.Name x p3] X.env:=by rfl) (hs2:starEach [.Name x p3] X.env=[(Ta,eval (.Name x p3) X.env)]:=by rfl) (hpl:(backTo pos (starEach [.Name x p3] X.env)).any (·.1)=Ta:=by rfl):PE X (.Call (.Name "isinstance" p) [.Name y p2,.Name x p3] [] pos) (Ku C b) :=
 Im z T h0 (D3 (v:=.ref J.D) hg2 J.m rfl hd) rfl J.k hg hs1 hs2 hpl
theorem vL:bootBuiltins "ValueError"=My (.type "ValueError"):=by decide +kernel
theorem NI {y:Str}{C:Addr}{b:Bool}{p3:Pos}(z:X.mg "isinstance"=SY)(z2:X.mg "ValueError"=SY)(T:ExT X.K C)(k:PySem.W.kitOne X.K (.ref C) (.type "ValueError")=My b)(h0:PE X (.Name y p2) (hX 0))(hg:Gl X "isinstance":=by rfl)(hg2:Gl X "ValueError":=by rfl)
  (hs1:starEach [.Name y p2,.Name "ValueError" p3] X.env=(Ta,eval (.Name y p2) X.env)::starEach [.Name "ValueError" p3] X.env:=by rfl) (hs2:starEach [.Name "ValueError" p3] X.env=[(Ta,eval (.Name "ValueError" p3) X.env)]:=by rfl) (hpl:(backTo pos (starEach [.Name "ValueError" p3] X.env)).any (·.1)=Ta:=by rfl):PE X (.Call (.Name "isinstance" p) [.Name y p2,.Name "ValueError" p3] [] pos) (Ku C b) :=
 Im z T h0 (D4 (v:=.ty "ValueError") hg2 z2 vL rfl) rfl k hg hs1 hs2 hpl
end
def tIs (C:Addr):List Bool->TA
 | []=>iL
 | b::bs=>g0 (Ku C b) (tIs C bs)
theorem Io {C:Addr}{σ:St}{H:Hp}{a:Addr}(h0:σ[0]?=My (My (.ref a)))(h1:H a=My (.ext (isC a (.ref C)))):∀ (bs:List Bool) (Q:List V->Hp->Prop),Q (bs.map V.bl) H->tIs C bs σ H Q
 | [],_,q=>q
 | b::bs,Q,q=>⟨⟨a,h0,h1⟩,Io h0 h1 bs _ q⟩
theorem Cb {K:gG}{H:Hp}:∀ (bs:List Bool),Iss K H (bs.map V.bl) (bs.map Dt.bl)
 | []=>.nil
 | b::bs=>.cons (.bl b) (Cb bs)
open PySem.SeqAt
section
variable {X:Cx}{a b e:Expr}{pos:Pos}
def NJ (x y:Dt):gF Dt:=(uQ x).bind λ a=>(uQ y).bind λ b=>(EJ a).bind λ ns=>(EJ b).bind λ ms=>if ns.length=ms.length then My (.bl (!decide (ns=ms))) else SY
theorem F6:∀ (ns ms:List Str),vH (ns.map .str) (ms.map .str)=S_:=by
 intro ns;induction ns with
 | nil=>intro ms;rfl
 | cons n r ih =>
  intro ms;cases ms with
  | nil=>rfl
  | cons m t=>rw[aR,aR,vH,ih t];rfl
theorem F7:∀ (ns ms:List Str),mV (ns.map .str) (ms.map .str)=decide (ns=ms):=by
 intro ns;induction ns with
 | nil=>intro ms;cases ms<;>simp[mV]
 | cons n r ih =>
  intro ms;cases ms with
  | nil=>simp[mV]
  | cons m t =>rw[aR,aR,mV,ih t,AE,bj];simp
theorem PB (hu:X.A.units+2<cLine):OpR X (compareOp .NotEq) (rD X.K NJ):=by
 intro pins s σ H x y v u Q I rx ry hz;obtain⟨d,d',r,i,i',e,q⟩:=hz;obtain⟨a,e1,f1⟩:=gP e;obtain⟨b,e2,f2⟩:=gP f1;obtain⟨ns,e3,f3⟩:=gP f2;obtain⟨ms,e4,f4⟩:=gP f3;obtain rfl:=kW e1;obtain rfl:=kW e2;obtain rfl:=zz e3;obtain rfl:=zz e4;clear e f1 f2 f3 e1 e2 e3 e4;by_cases hl:ns.length=ms.length
 ·rw[ai hl]at f4
  cases f4;obtain⟨p,xs,rfl,hp,is⟩:=i.lst_inv;obtain⟨p',ys,rfl,hq,js⟩:=i'.lst_inv;cases rx;cases ry;obtain⟨its,rv,t1,_⟩:=I.list (SqL.of hp);obtain⟨its',rv',t2,_⟩:=I.list (SqL.of hq);have l1:its.length=ns.length:=by rw[<-rv.length,is.length,af]
  have l2:its'.length=ms.length:=by rw[<-rv'.length,js.length,af]
  have hsz:its.toArray.size=its'.toArray.size:=by rw[au,au,l1,l2,hl]
  have:=RcNeAt.lists (A:=X.A) (s:=s) (l:=p) (b:=p') (items:=its.toArray) (items2:=its'.toArray) (e:=eAt (ns.map .str) (ms.map .str)) t1.isList t2.isList hsz (by lia) (rm is js rv rv' λ h1 h2 i1 i2 r1 r2=>EB (tw (F6 ns ms) h1 h2) i1 i2 r1 r2);have ea:=oO is js rv rv';rw[hsz,Nat.min_self,beq_self_eq_true,dZ,F7]at ea;rw[hsz,ea]at this;exact this X.prog X.w X.xe _ ⟨.bl _,H,I,rfl,q _ H (gY.refl H) (.bl _)⟩
 ·rw[ak hl]at f4;cases f4
theorem xG {K:gG}{H:Hp}:∀ {vs:List V} {ds:List Dt},Iss K H vs ds->∀ k,Iss K H (vs.take k) (ds.take k)
 | _,_,_,0=>.nil
 | _,_,.nil,_+1=>.nil
 | _,_,.cons i is,k+1=>.cons i (xG is k)
theorem F8 (xs:List V)(k:Nat):vE xs SY (My (k:Int))=xs.take k:=by unfold vE;rw[HT.wN,HT.nV];simp
end
end L2
namespace L2
open PySem PySem.Spec PyProof.Rows Zp
section
variable {prog:Program}{w:World}{A:Around}{E:gE}{s:gJ}
theorem DG {n:Nat}(h:0<n):Builtin.Slice.sliceAdjust SY SY (-1) (n:Int)=((n:Int)-1,-1):=by unfold Builtin.Slice.sliceAdjust;simp
theorem DI {n:Nat}(h:0<n):Builtin.Slice.slicePlaces ((n:Int)-1) (-1) (-1)=n:=by unfold Builtin.Slice.slicePlaces;simp;split<;>lia
theorem uV {sl:Addr}{vk:gH}{n:Nat}{Q:Int×Int×Nat->gJ->Prop}(hn:0<n)(hs:s.heap.IsSliceOf sl .none .none vk)(pk:IsPart vk (My (-1)))
  (h:Q ((n:Int)-1,-1,n) s):wpAny (model prog w) A (Builtin.Slice.sliceApplied (.ref sl) (pure (n:Int))) Q E s:=by
 obtain⟨os,hos,hcs,hds⟩:=id hs;unfold Builtin.Slice.sliceApplied Builtin.Slice.sliceFields;refine ae (ae (bX hos hds (x:=.none) rfl (ae (bX hos hds (x:=.none) rfl (ae (bX hos hds (x:=vk) rfl (ag ?_)))))));refine ae (HT.nC pk ?_);show wpAny _ _ (if ((-1:Int)==0)=S_ then _ else _) _ _ s;rw[ak (by decide)];refine ae (HT.nC .none (ae (HT.nC .none (ae (ag ?_)))));show wpAny _ _ (match Builtin.Slice.sliceAdjust SY SY (-1) (n:Int) with | (lo,hi)=>pure (lo,(-1:Int),Builtin.Slice.slicePlaces lo hi (-1))) _ _ s;rw[DG hn];show wpAny _ _ (pure ((n:Int)-1,(-1:Int),Builtin.Slice.slicePlaces ((n:Int)-1) (-1) (-1))) _ _ s;rw[DI hn];exact ag h
theorem Ip {α:Type}(l:List α):(Tc l.length).filterMap (λ m=>l[m]?)=l:=by
 refine f7 λ i=>?_;have:(Tc l.length).filterMap (λ m=>l[m]?)=(Tc l.length).filterMap (λ m=>l[m]?):=rfl;induction l generalizing i with
 | nil=>rfl
 | cons x r ih =>
  rw[bK,List.range_succ_eq_map,bF];show(x::((Tc r.length).map Nat.succ).filterMap λ m=>(x::r)[m]?)[i]?=_;rw[List.filterMap_map];cases i with
  | zero=>rfl
  | succ i =>rw[cb,cb,<-ih i rfl];rfl
theorem Iq {α β:Type}{f g:α->gF β}:∀ {l:List α},(∀ x∈l,f x=g x)->l.filterMap f=l.filterMap g:=by
 intro l;induction l with
 | nil=>intro _;rfl
 | cons x r ih =>intro h;rw[bF,bF,h x av,ih λ y hy=>h y (ax _ hy)]
theorem Ir (xs:Array gH):((Tc xs.size).filterMap λ(m:Nat)=>xs[(((xs.size:Int)-1)+(m:Int)*(-1)).toNat]?).toArray=xs.toList.reverse.toArray:=by
 congr 1;have e:(Tc xs.size).filterMap (λ(m:Nat)=>xs[(((xs.size:Int)-1)+(m:Int)*(-1)).toNat]?)=(Tc xs.size).filterMap (λ m=>xs.toList.reverse[m]?):=by
  refine Iq λ m hm=>?_;have hm:=aC.mp hm;have:(((xs.size:Int)-1)+(m:Int)*(-1)).toNat=xs.size-1-m:=by lia
  rw[this,List.getElem?_reverse (by rw[bt];exact hm),bt,aZ]
 rw[e];have h:=Ip xs.toList.reverse;rw[en,bt]at h;exact h
theorem tW {t sl:Addr}{items:Array gH}{vk:gH}{Q:gE}(ht:IsTup s.heap t items)(hs:s.heap.IsSliceOf sl .none .none vk)(pk:IsPart vk (My (-1)))(hn:0<items.size)
  (h:Q (.ref s.heap.objs.size) {s with heap:=s.heap.push {cls:=.type "tuple",data:=.seq items.toList.reverse.toArray}}) (hsz:items.size<=sizeLine):wpAny (model prog w) A (getItem (.ref t) (.ref sl)) Q E s:=by
 have htake:sizeOk (.seq items.toList.reverse.toArray):=by show items.toList.reverse.toArray.size<=sizeLine;rw[au,en,bt];lia
 obtain⟨os,hos,hcs,hds⟩:=id hs;have hTs:s.TypeIs (.ref sl) "slice":=⟨os,hos,hcs⟩;unfold getItem;try with_reducible refine bJ ?_
 first | refine ae (ag ?_) | skip
 refine ae (fU ht.typeIs (by decide) ?_);refine ae (bN (name:=Str.ofString "__getitem__") ht.typeIs ba
  (bS ba ht.typeIs entry_tuple_getitem ?_ (args_tuple_getitem _ _)))
 show wpAny _ _ (Builtin.Tuple.tupleItemsOf (.ref t)>>=_) _ _ s;refine ae (tupleItemsOf_ ht ?_);refine ae (eT hTs ?_);rw[ai (by decide)];refine ae (uV hn hs pk ?_);show wpAny _ _ (if ((((items.size:Int)-1)==0&&(-1:Int)==1&&items.size==items.size))=S_ then _ else _) _ _ s;rw[ak (by simp),Ir];first
  | exact ae (m:=Builtin.Tuple.tupleExact _) (bD (ag ⟨_,rfl,ag h⟩) htake)
  | exact ae (m:=Builtin.Tuple.tupleExact _) (bD (ae (ag (ag ⟨_,rfl,ag h⟩))) htake)
  | exact ae (ae (m:=Builtin.Tuple.tupleExact _) (bD (ag (ag ⟨_,rfl,ag h⟩)) htake))
  | exact ae (ae (m:=Builtin.Tuple.tupleExact _) (bD (ag ⟨_,rfl,ag h⟩) htake))
end
section
variable {X:Cx}{e k:Expr}{te tk:TE}{pos p2:Pos}
theorem Vals.rev {xs:List V}{us:List gH}(h:Vals xs us):Vals xs.reverse us.reverse:=by
 induction h with
 | nil=>exact .nil
 | cons h t ih =>rw[e_,e_];exact fZ ih h
theorem NK (he:PE X e te)(hk:PE X k tk):PE X (.Subscript e (.Slice SY SY (My k) p2) pos) (λ σ H Q=>te σ H λ x H1=>tk σ H1 λ y H2=>y=.int (-1)/\∃ a xs,x=.ref a/\SqT X.K H2 a xs/\xs≠[]/\∀ p,H2 p=SY->Q (.ref p) (upd H2 p (.tup xs.reverse))):=by
 intro pins s σ H Q I h;refine Subscript_ (thn (he pins s σ H _ I h) λ v s1 hz=>?_);obtain⟨x,H1,I1,r1,q1⟩:=hz;refine wpAny_Slice ?_;rw[evalPart_none];refine ag ?_;refine ag ?_;rw[evalPart_some];refine thn (hk pins s1 σ H1 _ I1 q1) λ vk s2 hz=>?_;obtain⟨y,H2,I2,r2,rfl,a,xs,rfl,hx,hne,q⟩:=hz;obtain⟨tt,rfl⟩:=r2;cases r1;have I4:Inv X pins σ H2 {s2 with heap:=s2.heap.push {cls:=.type "slice",data:=.fields #[.none,.none,.int (-1) tt]}}:=I2.kept (t':=s2.toks) λ b ob q=>ah _ q;obtain⟨its,r,ht,hz⟩:=I4.tuple hx;have hlen:its.toArray.size=xs.length:=by rw[au];exact r.length.symm
 have hpos:0<its.toArray.size:=by rw[hlen];exact dP.mpr hne
 show wpAny (model X.prog X.w) X.A (subscriptTail e (.Slice SY SY (My k) p2) (.ref a) (.ref s2.heap.objs.size)) (EP X pins σ Q) X.xe {s2 with heap:=s2.heap.push {cls:=.type "slice",data:=.fields #[.none,.none,.int (-1) tt]}};refine tail_any (ops:=[.ref a,.ref s2.heap.objs.size]) ht.typeIs ba.lookup ?_ (by with_unfolding_all rfl);refine tW ht (Heap.IsSliceOf.new ..) (.int _ _) hpos ?_ (by rw[hlen];exact hz);refine⟨.ref _,_,I4.laid (t':=s2.toks) (o:=.tup xs.reverse) (λ b ob q=>ah _ q) (ay _) ?_,rfl,q _ (I4.hok.fresh (ay _))⟩;exact⟨⟨by rw[en];exact hz,_,aE _ rfl,rfl⟩,_,r.rev,IsTup.new _ _⟩
def Iu (d:Dt):gF Dt:=(Dv d).bind λ ds=>if ds≠[] then My (.tup ds.reverse) else SY
theorem Iss.rev {K:gG}{H:Hp}{vs:List V}{ds:List Dt}(h:Iss K H vs ds):Iss K H vs.reverse ds.reverse:=by
 induction ds generalizing vs with
 | nil=>cases h;exact .nil
 | cons d r ih =>
  cases h with
  | cons h1 h2 =>rw[e_,e_];exact(ih h2).append (.cons h1 .nil)
theorem L7 {ga:DE->gF Dt}{j:Nat}{p3 p4:Pos}(ha:PD X e ga):PD X (.Subscript e (.Slice SY SY (My (.UnaryOp .USub (.Constant (.int 1) j p3) p4)) p2) pos) (gUn Iu ga) :=
 (NK ha (D7 z_ hJ)).of λ σ H Q hz=>by
  obtain⟨δ,d,S,eq,q⟩:=hz;obtain⟨x,e1,f1⟩:=gP eq;obtain⟨ds,e2,f2⟩:=gP f1;obtain rfl:=oR e2;by_cases hn:ds≠[]
  ·rw[ai hn]at f2;cases f2;refine⟨δ,_,S,e1,λ v H1 s1 i1=>?_⟩;obtain⟨a,xs,rfl,hx,js⟩:=i1.ik;exact⟨1,rfl,rfl,a,xs,rfl,hx,js.ne hn,λ p hp=>q _ _ (s1.trans (gY.upd hp)) (.tup (SqT.of gU) (js.rev.ext (gY.upd hp)))⟩
  ·rw[ak hn]at f2;cases f2
end
open PySem.SeqAt
section
variable {X:Cx}{pins:gL}{σ:St}{H:Hp}{s:gJ}
theorem F9:∀ (ns ms:List Int),vH (ns.map .int) (ms.map .int)=S_:=by
 intro ns;induction ns with
 | nil=>intro ms;rfl
 | cons n r ih =>
  intro ms;cases ms with
  | nil=>rfl
  | cons m t=>rw[aR,aR,vH,ih t];rfl
theorem F_:∀ (ns ms:List Int),mV (ns.map .int) (ms.map .int)=decide (ns=ms):=by
 intro ns;induction ns with
 | nil=>intro ms;cases ms<;>simp[mV]
 | cons n r ih =>
  intro ms;cases ms with
  | nil=>simp[mV]
  | cons m t =>rw[aR,aR,mV,ih t,AD,bj];simp
end
end L2
namespace L2
open PySem PySem.Spec PyProof.Rows Zp
section
variable {K:gG}{h:Heap}{mg:gD}{n:Str}(X:K.In h)(G:h.Ns mainGlobals mg)
abbrev clT {dn:List gH}{C:Addr}(a:PySem.W.nsIn K mainGlobals n=My (My (.ref C)))(ex:PySem.W.excIn K C yO "ValueError.__new__"=S_)(mro:(PySem.W.clsIn K C).map (·.mro)=My (.ref C::(dn++yO))):ClT K mg n dn:=⟨C,a,eA X G a,ex,mro⟩
abbrev wtT {C:Addr}(a:PySem.W.nsIn K mainGlobals n=My (My (.ref C)))(ex:PySem.W.excIn K C yO "ValueError.__new__"=S_)(mro:(PySem.W.clsIn K C).map (·.mro)=My (.ref C::yO))(w1:PySem.W.instIn K (.ref C) (.type "tuple")=My Ta)
 (w2:PySem.W.subIn K (.ref C) (.type "BaseException")=My S_):WT K mg n:=⟨⟨C,a,eA X G a,ex,mro⟩,w1,w2⟩
end
abbrev XD:=Except Str Dt
inductive RX where
 | nx (δ:DE) | rt (d:Dt) | ex (c:Str)
section
variable (K:gG)(C:Str->Addr)(E:XK)
def NL (Q:VK)(H:Hp):XD->Prop
 | .ok d=>∀ v H',gY H H'->Is K H' v d->Q v H'
 | .error c=>∀ e H',gY H H'->H' e=SY->E (.ref (C c)) (My e) H'
def RF (D:Ends)(H:Hp):RX->Prop
 | .nx δ=>∀ σ,Sat K H σ δ->D.nx σ H
 | .rt d=>∀ v,Is K H v d->D.rt v H
 | .ex c=>∀ e,H e=SY->E (.ref (C c)) (My e) H
def tX (g:DE->gF XD):TE:=λ σ H Q=>∃ δ r,Sat K H σ δ/\g δ=My r/\NL K C E Q H r
def tXT (g:DE->gF (Except Str Bool)):TT:=λ σ H Q=>∃ δ r,Sat K H σ δ/\g δ=My r/\(match r with
 | .ok b=>∀ H',gY H H'->Q b H'
 | .error c=>∀ e H',gY H H'->H' e=SY->E (.ref (C c)) (My e) H')
def tXS (g:DE->gF RX):TS:=λ D σ H=>∃ δ r,Sat K H σ δ/\g δ=My r/\∀ H',gY H H'->RF K C E D H' r
def spX (n:Nat)(f:List Dt->gF XD):Sp:=λ vs H Q E=>∃ ds r,ds.length=n/\Iss K H vs ds/\f ds=My r/\NL K C E Q H r
end
section
variable (X:Cx)(C:Str->Addr)(E:XK)
abbrev PX (e:Expr)(g:DE->gF XD):Prop:=PE X e (tX X.K C E g)
abbrev PXT (e:Expr)(g:DE->gF (Except Str Bool)):Prop:=PT X e (tXT X.K C E g)
abbrev PXS (st:Stmt)(g:DE->gF RX):Prop:=PS X st (tXS X.K C E g)
abbrev AO (st:List Stmt)(g:DE->gF RX):Prop:=PSs X st (tXS X.K C E g)
end
def oq (n:Nat)(f:List Dt->gF XD)(gs:DE->gF (List Dt)):DE->gF XD:=λ δ=>(gs δ).bind λ ds=>if ds.length=n then f ds else SY
def xTr (g:DE->gF XD):DE->gF (Except Str Bool):=λ δ=>(g δ).bind λ r=>match r with
 | .ok d=>(FC d).map .ok
 | .error c=>My (.error c)
def NM (g:DE->gF (Except Str Bool)):DE->gF (Except Str Bool):=λ δ=>(g δ).map λ r=>match r with
 | .ok b=>.ok (!b)
 | .error c=>.error c
def xIf (gc:DE->gF Bool)(g g':DE->gF XD):DE->gF XD:=λ δ=>(gc δ).bind λ k=>if k=S_ then g δ else g' δ
def upX:RD->RX
 | .nx δ=>.nx δ
 | .rt d=>.rt d
def xUp (g:DE->gF RD):DE->gF RX:=λ δ=>(g δ).map upX
def uW (g g':DE->gF RX):DE->gF RX:=λ δ=>(g δ).bind λ r=>match r with
 | .nx δ'=>g' δ'
 | .rt d=>My (.rt d)
 | .ex c=>My (.ex c)
def tY (g:DE->gF XD):DE->gF RX:=λ δ=>(g δ).map λ r=>match r with
 | .ok _=>.nx δ
 | .error c=>.ex c
def Kv (g:DE->gF XD):DE->gF RX:=λ δ=>(g δ).map λ r=>match r with
 | .ok d=>.rt d
 | .error c=>.ex c
def NN (gc:DE->gF (Except Str Bool))(g g':DE->gF RX):DE->gF RX:=λ δ=>(gc δ).bind λ r=>match r with
 | .ok k=>if k=S_ then g δ else g' δ
 | .error c=>My (.ex c)
def Ga (gc:DE->gF Bool)(g g':DE->gF RX):DE->gF RX:=λ δ=>(gc δ).bind λ k=>if k=S_ then g δ else g' δ
section
variable {X:Cx}{C:Str->Addr}{E:XK}{e a b c:Expr}{es:List Expr}{pos p:Pos}{st:Stmt}{sts sa sb:List Stmt}
theorem lj {n:Nat}{f:List Dt->gF XD}{gs:DE->gF (List Dt)}(h:PE X e (jr (spX X.K C n f) [] E (tDs X.K gs))):PX X C E e (oq n f gs):=h.of λ σ H Q hz=>by
 obtain⟨δ,r,S,e,q⟩:=hz;obtain⟨ds,e1,e2⟩:=gP e;by_cases hl:ds.length=n
 ·rw[ai hl]at e2
  refine⟨δ,ds,S,e1,λ vs H1 s1 i1=>?_⟩;show spX X.K C n f (vs++[]) H1 Q E;rw[bA];refine⟨ds,r,hl,i1,e2,?_⟩;cases r with
  | ok d=>exact λ v H2 s2 i2=>q v H2 (s1.trans s2) i2
  | error c=>exact λ e H2 s2 he=>q e H2 (s1.trans s2) he
 ·rw[ak hl]at e2;cases e2
theorem Kw {g:DE->gF XD}(h:PX X C E e g)(he:∀ whole,isTrue e X.env whole=(do let v<-whole;standAt e.pos;holding [v] (truthy v)):=by intro _;rfl):PXT X C E e (xTr g) :=
 (wK h he).of λ σ H Q hz=>by
  obtain⟨δ,r,S,e,q⟩:=hz;obtain⟨x,e1,e2⟩:=gP e;refine⟨δ,x,S,e1,?_⟩;cases x with
  | ok d =>obtain⟨k,e3,e4⟩:=il e2;subst e4;exact λ v H1 s1 i1=>⟨k,Ew i1 e3,q H1 s1⟩
  | error c=>cases e2;exact q
theorem Kx {g:DE->gF (Except Str Bool)}(h:PXT X C E a g):PXT X C E (.UnaryOp .Not a pos) (NM g) :=
 (CP h).of λ σ H Q hz=>by
  obtain⟨δ,r,S,e,q⟩:=hz;obtain⟨x,e1,e2⟩:=il e;subst e2;refine⟨δ,x,S,e1,?_⟩;cases x with
  | ok k=>exact λ H1 s1=>q H1 s1
  | error c=>exact q
theorem PH {gc:DE->gF Bool}{g g':DE->gF XD}(hc:PDT X c gc)(ha:PX X C E a g)(hb:PX X C E b g'):PX X C E (.IfExp c a b pos) (xIf gc g g') :=
 (Bl hc ha hb).of λ σ H Q hz=>by
  obtain⟨δ,r,S,e,q⟩:=hz;obtain⟨k,e1,e2⟩:=gP e;refine⟨δ,k,S,e1,λ H1 s1=>?_⟩;have q':NL X.K C E Q H1 r:=by
   cases r with
   | ok d=>exact λ v H2 s2 i2=>q v H2 (s1.trans s2) i2
   | error c=>exact λ e H2 s2 he=>q e H2 (s1.trans s2) he
  cases k with
  | true=>dsimp only;rw[ai rfl]at e2 ⊢;exact⟨δ,r,S.ext s1,e2,q'⟩
  | false=>dsimp only;rw[ak aw]at e2 ⊢;exact⟨δ,r,S.ext s1,e2,q'⟩
theorem Iv {g:DE->gF RD}(h:PDS X st g):PXS X C E st (xUp g):=PS.of h λ D σ H hz=>by
 obtain⟨δ,r,S,e,q⟩:=hz;obtain⟨d,e1,e⟩:=il e;subst e;refine⟨δ,d,S,e1,λ H1 s1=>?_⟩;have:=q H1 s1;cases d with
 | nx δ'=>exact this
 | rt d=>exact this
theorem xH {g:DE->gF RD}(h:Ay X sts g):AO X C E sts (xUp g):=PSs.of h λ D σ H hz=>by
 obtain⟨δ,r,S,e,q⟩:=hz;obtain⟨d,e1,e⟩:=il e;subst e;refine⟨δ,d,S,e1,λ H1 s1=>?_⟩;have:=q H1 s1;cases d with
 | nx δ'=>exact this
 | rt d=>exact this
theorem nJ {g g':DE->gF RX}(h1:PXS X C E st g)(h2:AO X C E sts g'):AO X C E (st::sts) (uW g g'):=(gZ h1 h2).of λ D σ H hz=>by
 obtain⟨δ,r,S,e,q⟩:=hz;obtain⟨r1,e1,e⟩:=gP e;refine⟨δ,r1,S,e1,λ H1 s1=>?_⟩;cases r1 with
 | nx δ'=>exact λ σ' S'=>⟨δ',r,S',e,λ H2 s2=>q H2 (s1.trans s2)⟩
 | rt d=>cases e;exact q H1 s1
 | ex c=>cases e;exact q H1 s1
theorem lO {g:DE->gF RX}(h1:PXS X C E st g):AO X C E [st] g:=iK h1
theorem pO {g:DE->gF XD}(he:PX X C E e g)(hs:swapsWith e SY pos.line X.env=pure Ta:=by rfl):PXS X C E (.Expr e pos) (tY g):=(rb he hs).of λ D σ H hz=>by
 obtain⟨δ,r,S,e,q⟩:=hz;obtain⟨d,e1,e⟩:=il e;subst e;refine⟨δ,d,S,e1,?_⟩;cases d with
 | ok d=>exact λ v H1 s1 i1=>q H1 s1 σ (S.ext s1)
 | error c=>exact λ e H1 s1 he=>q H1 s1 e he
theorem Iw {g:DE->gF XD}(he:PX X C E e g):PXS X C E (.Return (My e) pos) (Kv g):=(lu he).of λ D σ H hz=>by
 obtain⟨δ,r,S,e,q⟩:=hz;obtain⟨d,e1,e⟩:=il e;subst e;refine⟨δ,d,S,e1,?_⟩;cases d with
 | ok d=>exact λ v H1 s1 i1=>q H1 s1 v i1
 | error c=>exact λ e H1 s1 he=>q H1 s1 e he
theorem PJ {gc:DE->gF (Except Str Bool)}{g g':DE->gF RX}(hc:PXT X C E c gc)(ha:AO X C E sa g)(hb:AO X C E sb g'):PXS X C E (.If c sa sb pos) (NN gc g g'):=(sQ hc ha hb).of λ D σ H hz=>by
 obtain⟨δ,r,S,e,q⟩:=hz;obtain⟨k,e1,e⟩:=gP e;refine⟨δ,k,S,e1,?_⟩;cases k with
 | ok k =>
  refine λ H1 s1=>?_;cases k with
  | true=>dsimp only at e;rw[ai rfl]at e ⊢;exact⟨δ,r,S.ext s1,e,λ H2 s2=>q H2 (s1.trans s2)⟩
  | false=>dsimp only at e;rw[ak aw]at e ⊢;exact⟨δ,r,S.ext s1,e,λ H2 s2=>q H2 (s1.trans s2)⟩
 | error c=>cases e;exact λ e H1 s1 he=>q H1 s1 e he
theorem AQ {gc:DE->gF Bool}{g g':DE->gF RX}(hc:PDT X c gc)(ha:AO X C E sa g)(hb:AO X C E sb g'):PXS X C E (.If c sa sb pos) (Ga gc g g'):=(sQ hc ha hb).of λ D σ H hz=>by
 obtain⟨δ,r,S,e,q⟩:=hz;obtain⟨k,e1,e⟩:=gP e;refine⟨δ,k,S,e1,λ H1 s1=>?_⟩;cases k with
 | true=>rw[ai rfl]at e ⊢;exact⟨δ,r,S.ext s1,e,λ H2 s2=>q H2 (s1.trans s2)⟩
 | false=>rw[ak aw]at e ⊢;exact⟨δ,r,S.ext s1,e,λ H2 s2=>q H2 (s1.trans s2)⟩
end
section
variable {P:Program}{w:World}{K:gG}{mg:gD}{base:Heap}{N:List Str}{qual:Str}{scope:Scope}{f:Addr}{cd:gH}{A:Around}{outer:List Env}{s:gJ}{H:Hp}{E:XK}{x:Str}{np cpos pos:Pos}{e0:Expr}{dn:List gH}{C:Str->Addr}
theorem tZ {g:DE->gF Dt}(c:ClT K mg x dn)(hC:C x=c.C)(hd:(cxE P w K mg base N qual scope f cd A outer s H E).A.handled=SY)(ha:PD (cxE P w K mg base N qual scope f cd A outer s H E) e0 g)(hg:Gl (cxE P w K mg base N qual scope f cd A outer s H E) x:=by rfl)(hdb:(x==("__debug__":Str))=Ta:=by decide)
  (he:starEach [e0] (cxE P w K mg base N qual scope f cd A outer s H E).env=[(Ta,eval e0 (cxE P w K mg base N qual scope f cd A outer s H E).env)]:=by rfl) :
  PXS (cxE P w K mg base N qual scope f cd A outer s H E) C E (.Raise (My (.Call (.Name x np) [e0] [] cpos)) SY pos) (λ δ=>(g δ).map λ _=>.ex x):=(Ig c hd (gQ ha g9 he) hg hdb he).of λ D σ H0 hz=>by
 obtain⟨δ,r,S,e,q⟩:=hz;obtain⟨d,e1,e⟩:=il e;subst e;refine⟨δ,d,S,e1,λ v H1 s1 i1=>⟨by show 1<=sizeLine;decide,λ e he=>?_⟩⟩;rw[<-hC];exact q H1 s1 e he
end
def RG:RX->XD
 | .nx _=>.ok .non
 | .rt d=>.ok d
 | .ex c=>.error c
def HgX (n:Nat)(N:List Str)(f:List Dt->gF XD)(g:DE->gF RX):Prop:=∀ ds r,ds.length=n->f ds=My r->∃ x,g (pJ N ds)=My x/\RG x=r
abbrev OkX {K:gG}{mg:gD}{n:Str}{s:Stmt}{ps:List Str}(P:Program)(w:World)(base:Heap)(t:FnT K mg n s ps)(k:Nat)(sp:Sp):Prop:=pj P w K mg base (CXE P w) k t.f t.fd ps sp
theorem FnT.okX {P:Program}{w:World}{base:Heap}{K:gG}{mg:gD}{n:Str}{st:Stmt}{ps N:List Str}{k:Nat}{C:Str->Addr}{fX:List Dt->gF XD}{g:DE->gF RX}(t:FnT K mg n st ps)(S:ie N ps (gW st))
  (hbody:∀ (cdv:gH) (A:Around) (outer:List Env) (s:gJ) (H:Hp) (E:XK),jt k (A.deeper (envOfC n (gW st) s.heap.objs.size t.f cdv)) ->
   AO (cxE P w K mg base N n (gW st) t.f cdv A outer s H E) C E (iW st) g)
  (hg:HgX ps.length N fX g):OkX P w base t (k+1) (spX K C ps.length fX):=by
 refine t.F.okE S (λ vs H Q E h=>?_) (λ cdv A outer s H vs Q E hr h=>?_)
 ·obtain⟨ds,r,hl,is,_⟩:=h;rw[is.length,hl]
 ·obtain⟨ds,r,hl,is,e,q⟩:=h
  obtain⟨x,e1,e2⟩:=hg ds r hl e;refine⟨_,hbody cdv A outer s H E hr,pJ N ds,x,is.start,e1,λ H' s'=>?_⟩;cases x with
  | nx δ=>subst e2;exact λ σ _=>q _ H' s' .non
  | rt d'=>subst e2;exact λ v iv=>q v H' s' iv
  | ex c=>subst e2;exact λ e he=>q e H' s' he
structure CiT (K:gG)(W C:Addr):Prop where
 ex:PySem.W.excIn K C yO "ValueError.__new__"=S_
 mro:(PySem.W.clsIn K C).map (·.mro)=My (.ref C::([.ref W]++yO))
 ext:ExT K C
section
variable {K:gG}{mg:gD}{W C D:Addr}
set_option tactic.hygienic true in
theorem Ky {l:List gH}{nm:String}(h:PySem.W.excIn K C l nm=S_):(PySem.W.clsIn K C).isSome=S_/\PySem.W.typeIn K (.ref C)=My (.type "type"):=by
 unfold PySem.W.excIn at h;split at h
 ·rename_i hl
  constructor
  ·unfold PySem.W.clsIn;rw[hl];rfl
  ·show Option.map (λ x=>x.cls) (List.lookup C K)=_;rw[hl];rfl
 ·cases h
theorem CiT.has (c:CiT K W C)(v:gH):PySem.W.mroIn K C v=My ((.ref C::([.ref W]++yO)).contains v):=by unfold PySem.W.mroIn;obtain⟨cd,h1,h2⟩:=il c.mro;rw[h1,aq,h2];rfl
theorem CiT.sub (c:CiT K W C):PySem.W.subIn K (.ref C) (.ref W)=My S_:=by show PySem.W.mroIn K C (.ref W)=_;rw[c.has];simp
theorem CiT.ve (c:CiT K W C):PySem.W.kitOne K (.ref C) (.type "ValueError")=My S_:=by unfold PySem.W.kitOne;rw[ak (by simp)];show(if PySem.W.kitMeta "ValueError"=S_ then PySem.W.mroIn K C (.type "ValueError") else SY)=_;rw[ai (by decide +kernel),c.has];simp
theorem CiT.own (c:CiT K W C)(d:CiT K W D)(ne:D≠W):PySem.W.kitOne K (.ref C) (.ref D)=My (decide (C=D)):=by
 unfold PySem.W.kitOne;by_cases e:C=D
 ·subst e;rw[ai (by simp)];simp
 ·rw[ak (by simpa using e)];obtain⟨t1,t2⟩:=Ky d.ex;unfold PySem.W.kitCls;dsimp only;rw[t1,t2,ai (by rfl)];show PySem.W.mroIn K C (.ref D)=_;rw[c.has,decide_eq_false e];simp[bu e,ne]
end
structure EcT (K:gG)(mg:gD)(x:Str)(W:Addr) where
 C:Addr
 n:PySem.W.nsIn K mainGlobals x=My (My (.ref C))
 m:mg x=My (.ref C)
 i:CiT K W C
def EcT.cl {K:gG}{mg:gD}{n:Str}{W:Addr}(c:EcT K mg n W):ClT K mg n [.ref W]:=⟨c.C,c.n,c.m,c.i.ex,c.i.mro⟩
abbrev ecT {K:gG}{h:Heap}{mg:gD}{n:Str}{W:Addr}(X:K.In h)(G:h.Ns mainGlobals mg){C:Addr}(a:PySem.W.nsIn K mainGlobals n=My (My (.ref C)))(i:CiT K W C):EcT K mg n W:=⟨C,a,eA X G a,i⟩
structure yQ (K:gG)(mg:gD) where
 w:WT K mg "WalkError"
 t_:EcT K mg "NoWeb" w.C
 o7:EcT K mg "NoPlace" w.C
 qM:EcT K mg "NoTree" w.C
 ua:EcT K mg "NoTie" w.C
 ub:EcT K mg "NoText" w.C
 pP:EcT K mg "NoNumber" w.C
 pQ:EcT K mg "NoShares" w.C
 wd:EcT K mg "NoTwo" w.C
 pR:EcT K mg "NoStream" w.C
 rC:EcT K mg "NoPaper" w.C
 we:EcT K mg "Apart" w.C
 rE:EcT K mg "TooMany" w.C
 uc:EcT K mg "NoCode" w.C
 ud:EcT K mg "NoDeed" w.C
 ue:EcT K mg "NoLine" w.C
 nd:[w.C,t_.C,o7.C,qM.C,ua.C,ub.C,pP.C,pQ.C,wd.C,pR.C,rC.C,we.C,rE.C,uc.C,ud.C,ue.C].Nodup
def uf:List Str:=["NoWeb","NoPlace","NoTree","NoTie","NoText","NoNumber","NoShares","NoTwo","NoStream","NoPaper","Apart","TooMany","NoCode","NoDeed","NoLine"]
def Gb:List Str:=["web","place","tree","tie","text","number","shares","two","stream","paper","apart","many","code","deed","line"]
def vi (c:Str):Str:=((uf.zip Gb).lookup c).getD "other"
section
variable {K:gG}{mg:gD}(T:yQ K mg)
omit T in
theorem DJ {l:List Addr}{i:Nat}(h:i<l.length):l.getD i 0=l[i]:=by rw[aG,aF h];rfl
def yQ.ads:List Addr:=[T.t_.C,T.o7.C,T.qM.C,T.ua.C,T.ub.C,T.pP.C,T.pQ.C,T.wd.C,T.pR.C,T.rC.C,T.we.C,T.rE.C,T.uc.C,T.ud.C,T.ue.C]
def yQ.ad (i:Nat):Addr:=T.ads.getD i 0
def yQ.C (c:Str):Addr:=((uf.zip T.ads).lookup c).getD 0
theorem yQ.ci:∀ i,i<15->CiT K T.w.C (T.ad i)
 | 0,_=>T.t_.i
 | 1,_=>T.o7.i
 | 2,_=>T.qM.i
 | 3,_=>T.ua.i
 | 4,_=>T.ub.i
 | 5,_=>T.pP.i
 | 6,_=>T.pQ.i
 | 7,_=>T.wd.i
 | 8,_=>T.pR.i
 | 9,_=>T.rC.i
 | 10,_=>T.we.i
 | 11,_=>T.rE.i
 | 12,_=>T.uc.i
 | 13,_=>T.ud.i
 | 14,_=>T.ue.i
 | n+15,h=>absurd h (by lia)
theorem yQ.adW:∀ i,i<15->T.ad i≠T.w.C:=λ i hi e=>by
 have:=(bc.mp T.nd).1;have h:T.ads.getD i 0∈T.ads:=by rw[DJ (show i<T.ads.length from hi)];exact cX _
 have h2:∀ x,x=T.w.C->x∈T.ads->False:=λ x e h=>by subst e;exact this h
 exact h2 _ e h
theorem yQ.inj {i j:Nat}(hi:i<15)(hj:j<15):T.ad i=T.ad j↔i=j:=by
 have nd:T.ads.Nodup:=(bc.mp T.nd).2;refine⟨λ e=>?_,λ e=>by rw[e]⟩;have e:T.ads.getD i 0=T.ads.getD j 0:=e;rw[DJ (show i<T.ads.length from hi),DJ (show j<T.ads.length from hj)]at e;have pw:=bQ.mp (aI.mp nd);rcases eU i j with l | l | l
 ·exact absurd e (pw i j hi hj l)
 ·exact l
 ·exact absurd e.symm (pw j i hj hi l)
def yQ.ck {n:Str}(k:Nat)(e:EcT K mg n T.w.C)(he:e.C=T.ad k)(hk:k<15){i:Nat}(hi:i<15):CkT K mg n (T.ad i) (decide (i=k)):=⟨e.C,e.m,by have:=(T.ci i hi).own e.i (by rw[he];exact T.adW k hk);rw[this,he];congr 1;rw[decide_eq_decide];exact T.inj hi hk⟩
theorem Iy:∀ {c:Str},c∈uf->∃ i,i<15/\uf[i]?=My c:=λ{c} h=>by obtain⟨i,hi,e⟩:=List.mem_iff_getElem.mp h;exact⟨i,hi,by rw[aF hi,e]⟩
theorem Iz:∀ i,i<15->∀ {c:Str},uf[i]?=My c->T.C c=T.ad i/\Gb[i]?=My (vi c)
 | 0,_,_,e=>by cases e;exact⟨rfl,rfl⟩
 | 1,_,_,e=>by cases e;exact⟨rfl,rfl⟩
 | 2,_,_,e=>by cases e;exact⟨rfl,rfl⟩
 | 3,_,_,e=>by cases e;exact⟨rfl,rfl⟩
 | 4,_,_,e=>by cases e;exact⟨rfl,rfl⟩
 | 5,_,_,e=>by cases e;exact⟨rfl,rfl⟩
 | 6,_,_,e=>by cases e;exact⟨rfl,rfl⟩
 | 7,_,_,e=>by cases e;exact⟨rfl,rfl⟩
 | 8,_,_,e=>by cases e;exact⟨rfl,rfl⟩
 | 9,_,_,e=>by cases e;exact⟨rfl,rfl⟩
 | 10,_,_,e=>by cases e;exact⟨rfl,rfl⟩
 | 11,_,_,e=>by cases e;exact⟨rfl,rfl⟩
 | 12,_,_,e=>by cases e;exact⟨rfl,rfl⟩
 | 13,_,_,e=>by cases e;exact⟨rfl,rfl⟩
 | 14,_,_,e=>by cases e;exact⟨rfl,rfl⟩
 | n+15,h,_,_=>absurd h (by lia)
theorem IA:∀ i,i<15->((Tc 15).map λ k=>decide (i=k)).countP id=1/\((Tc 15).map λ k=>decide (i=k)).findIdx? id=My i:=by decide
end
def mR:Dt->gF String
 | .non=>My "NoneType"
 | .bl _=>My "bool"
 | .int _=>My "int"
 | .str _=>My "str"
 | .tup _=>My "tuple"
 | .lst _=>My "list"
 | .dct _=>My "dict"
 | _=>SY
def mS:List String:=["int","bool","tuple","list","str"]
def AR (k T:String):Bool:=k==T || (k=="bool"&&T=="int")
def RH (x y:Dt):gF Dt:=(mR x).bind λ k=>(tyD y).bind λ T=>if T∈mS then My (.bl (AR k T)) else SY
def kY:List Dt->gF Dt:=Du RH
theorem Kz (K:gG){T:String}(h:T∈mS):PySem.W.kitOne K (.type "int") (.type T)=My (AR "int" T):=by simp only[mS,aB,bw,or_false]at h;rcases h with rfl | rfl | rfl | rfl | rfl<;>rfl
theorem IB (K:gG){T:String}(h:T∈mS):PySem.W.kitOne K (.type "bool") (.type T)=My (AR "bool" T):=by simp only[mS,aB,bw,or_false]at h;rcases h with rfl | rfl | rfl | rfl | rfl<;>rfl
theorem IC (K:gG){T:String}(h:T∈mS):PySem.W.kitOne K (.type "NoneType") (.type T)=My (AR "NoneType" T):=by simp only[mS,aB,bw,or_false]at h;rcases h with rfl | rfl | rfl | rfl | rfl<;>rfl
theorem KA (K:gG){T:String}(h:T∈mS):PySem.W.kitOne K (.type "str") (.type T)=My (AR "str" T):=by simp only[mS,aB,bw,or_false]at h;rcases h with rfl | rfl | rfl | rfl | rfl<;>rfl
theorem KC (K:gG){T:String}(h:T∈mS):PySem.W.kitOne K (.type "tuple") (.type T)=My (AR "tuple" T):=by simp only[mS,aB,bw,or_false]at h;rcases h with rfl | rfl | rfl | rfl | rfl<;>rfl
theorem KD (K:gG){T:String}(h:T∈mS):PySem.W.kitOne K (.type "list") (.type T)=My (AR "list" T):=by simp only[mS,aB,bw,or_false]at h;rcases h with rfl | rfl | rfl | rfl | rfl<;>rfl
theorem KG (K:gG){T:String}(h:T∈mS):PySem.W.kitOne K (.type "dict") (.type T)=My (AR "dict" T):=by simp only[mS,aB,bw,or_false]at h;rcases h with rfl | rfl | rfl | rfl | rfl<;>rfl
section
variable {X:Cx}
theorem oG:jB X (.builtin "isinstance") (cD X.K kY):=by
 intro pins s σ H xs us Q I rs hz;obtain⟨ds,d,is,e,q⟩:=hz;obtain⟨x,y,rfl,e⟩:=oQ e;obtain⟨k,e1,e⟩:=gP e;obtain⟨T,e2,e⟩:=gP e;by_cases hT:T∈mS
 rotate_left
 ·rw[ak hT]at e;cases e
 rw[ai hT]at e;cases e;obtain⟨v,v',rfl,i1,i2⟩:=is.two;rw[J6 e2]at i2;rw[i2.Hm]at rs;obtain⟨u,u',rfl,r1,r2⟩:=vals2 rs;cases r2;have fin:∀ {t:gH} {Hh:Heap->Prop},PySem.W.KitX X.K u t Hh->Hh s.heap->PySem.W.kitOne X.K t (.type T)=My (AR k T)->u≠Value.builtin "__main__.__loader__#opaque"->wpAny (model X.prog X.w) X.A (call (.builtin "isinstance") [u,.type T]) (λ u s'=>∃ v H',Inv X pins σ H' s'/\RelV v u/\Q v H') X.xe s:=λ kx hh hk hn =>PySem.W.kia_one kx I.kIn hh hk hn λ tk=>⟨.bl _,H,I.tok _,rfl,q _ H (gY.refl H) (.bl _)⟩
 match x,e1,i1 with
 | .non,e1,i1 =>cases e1;rw[i1.pG]at r1;cases r1;exact fin PySem.W.kitx_none trivial (IC _ hT) (λ z=>nomatch z)
 | .bl b,e1,i1 =>cases e1;rw[i1.jR]at r1;cases r1;exact fin PySem.W.kitx_bool trivial (IB _ hT) (λ z=>nomatch z)
 | .int b,e1,i1 =>cases e1;rw[i1.int_inv]at r1;obtain⟨t,rfl⟩:=r1;exact fin PySem.W.kitx_int trivial (Kz _ hT) (λ z=>nomatch z)
 | .str b,e1,i1 =>cases e1;rw[i1.str_inv]at r1;obtain⟨t,rfl⟩:=r1;exact fin PySem.W.kitx_str trivial (KA _ hT) (λ z=>nomatch z)
 | .tup b,e1,i1 =>cases e1;obtain⟨a,ys,rfl,ha,js⟩:=i1.ik;cases r1;obtain⟨its,_,⟨o,ho,hc,_⟩,_⟩:=I.tuple ha;exact fin PySem.W.kitx_tuple ⟨o,ho,hc⟩ (KC _ hT) (λ z=>nomatch z)
 | .lst b,e1,i1 =>cases e1;obtain⟨a,ys,rfl,ha,js⟩:=i1.lst_inv;cases r1;obtain⟨its,_,hh,_⟩:=I.list (SqL.of ha);obtain⟨o,ho,hc,_⟩:=hh.isList;exact fin PySem.W.kitx_list ⟨o,ho,hc⟩ (KD _ hT) (λ z=>nomatch z)
 | .dct b,e1,i1 =>cases e1;obtain⟨a,rfl,ha⟩:=i1.nX;cases r1;have ok:=ha.ok I.hok;obtain⟨_,_,_,_,o,_,_,ho,hc,_⟩:=ok;exact fin PySem.W.kitx_dict ⟨o,ho,hc.1⟩ (KG _ hT) (λ z=>nomatch z)
end
mutual
def toPy:Dt->PyData
 | .bl b=>.bool b
 | .int i=>.int i
 | .str x=>.str x
 | .tup ds=>.tuple (lP ds)
 | .lst ds=>.list (lP ds)
 | _=>.none
def lP:List Dt->List PyData
 | []=>[]
 | d::r=>toPy d::lP r
end
mutual
def plD:Dt->Bool
 | .ty _=>Ta
 | .opq _=>Ta
 | .dct _=>Ta
 | .tup ds=>vM ds
 | .lst ds=>vM ds
 | _=>S_
def vM:List Dt->Bool
 | []=>S_
 | d::r=>plD d&&vM r
end
def Cc (d:Dt):Bool:=plD d&&((toPy d).showable&&(decide ((toPy d).shown.length<=sizeLine)&&decide ((toPy d).depth<=40)))
def rpS (d:Dt):Str:=(toPy d).shown
def vj:List Dt->gF Dt:=sj λ d=>if Cc d=S_ then My (.str (rpS d)) else SY
mutual
theorem noDict:∀ d:Dt,(toPy d).hasDict=Ta
 | .tup ds=>by rw[toPy,PyData.hasDict.eq_6];exact noDicts ds
 | .lst ds=>by rw[toPy,PyData.hasDict.eq_5];exact noDicts ds
 | .non=>rfl
 | .bl _=>rfl
 | .int _=>rfl
 | .str _=>rfl
 | .ty _=>rfl
 | .opq _=>rfl
 | .dct _=>rfl
theorem noDicts:∀ ds:List Dt,PyData.hasDictAll (lP ds)=Ta
 | []=>rfl
 | d::r=>by rw[lP,PyData.hasDictAll,noDict d,noDicts r];rfl
end
section
variable {X:Cx}{pins:gL}{s:gJ}{σ:St}{H:Hp}
mutual
theorem Cd (I:Inv X pins σ H s):∀ (d:Dt) {v:V} {u:gH},Is X.K H v d->plD d=S_->RelV v u->∃ as,Reads s.heap u (toPy d) as
 | .non,v,u,i,_,r=>by rw[i.pG]at r;cases r;exact⟨_,.none⟩
 | .bl b,v,u,i,_,r=>by rw[i.jR]at r;cases r;exact⟨_,.bool b⟩
 | .int b,v,u,i,_,r=>by rw[i.int_inv]at r;obtain⟨t,rfl⟩:=r;exact⟨_,.int b t⟩
 | .str b,v,u,i,_,r=>by rw[i.str_inv]at r;obtain⟨t,rfl⟩:=r;exact⟨_,.str b t⟩
 | .tup ds,v,u,i,p,r=>by obtain⟨a,xs,rfl,ha,js⟩:=i.ik;cases r;obtain⟨its,rv,⟨o,ho,hc,n,hd⟩,_⟩:=I.tuple ha;obtain⟨as,ra⟩:=uX I ds js (by rw[plD]at p;exact p) rv;exact⟨as,.tuple ho hc hd (by simpa using ra)⟩
 | .lst ds,v,u,i,p,r=>by obtain⟨a,xs,rfl,ha,js⟩:=i.lst_inv;cases r;obtain⟨its,rv,hh,_⟩:=I.list (SqL.of ha);obtain⟨o,ho,hc,n,hd⟩:=hh.isList;obtain⟨as,ra⟩:=uX I ds js (by rw[plD]at p;exact p) rv;exact⟨_,.list ho hc hd (by simpa using ra)⟩
 | .ty _,_,_,_,p,_=>by rw[plD]at p;cases p
 | .opq _,_,_,_,p,_=>by rw[plD]at p;cases p
 | .dct _,_,_,_,p,_=>by rw[plD]at p;cases p
theorem uX (I:Inv X pins σ H s):∀ (ds:List Dt) {xs:List V} {us:List gH},Iss X.K H xs ds->vM ds=S_->Vals xs us->∃ as,ReadsAll s.heap us (lP ds) as
 | [],xs,us,i,_,r=>by cases i;cases r;exact⟨_,.nil⟩
 | d::ds,xs,us,i,p,r=>by
  cases i with
  | cons i1 i2 =>
   cases r with
   | cons r1 r2 =>rw[vM,aL]at p;obtain⟨as,h1⟩:=Cd I d i1 p.1 r1;obtain⟨bs,h2⟩:=uX I ds i2 p.2 r2;exact⟨_,.cons h1 h2⟩
end
theorem AS (hg:X.A.guards=My [])(hu:X.A.units+64<cLine):jB X (.builtin "repr") (cD X.K vj):=by
 intro pins s σ H xs us Q I rs hz;obtain⟨ds,d,is,e,q⟩:=hz;obtain⟨x,rfl,e1⟩:=kf e;clear e;by_cases hp:Cc x=S_
 rotate_left
 ·rw[ak hp]at e1;cases e1
 rw[ai hp]at e1;cases e1;obtain⟨v,rfl,i1⟩:=is.one;obtain⟨u,rfl,r1⟩:=vals1 rs;unfold Cc at hp;simp only[aL,decide_eq_true_eq]at hp;obtain⟨p1,p2,p3,p4⟩:=hp;obtain⟨as,ra⟩:=Cd I x i1 p1 r1;have nd:=noDict x;have fin:∀ (t:Tok) (h':Heap) (tk:Nat),(∀ b o,s.heap.get? b=My o->h'.get? b=My o)->∃ v H',Inv X pins σ H' {s with heap:=h',toks:=tk}/\RelV v (.str (toPy x).shown t)/\Q v H':=λ t h' tk hk =>⟨.str (rpS x),H,I.kept hk,⟨t,rfl⟩,q _ H (gY.refl H) (.str _)⟩
 generalize toPy x=py at *;have ref:∀ {a:Addr},u=.ref a->wpAny (model X.prog X.w) X.A (call (.builtin "repr") [u]) (EP X pins σ Q) X.xe s:=λ{a} e=>by subst e;exact repr_of_reads' ra p2 (λ z=>by rw[nd]at z;cases z) hg (by lia) (λ _ _ h=>h) (λ h' t tk hk=>fin t h' tk hk) p3
 cases ra with
 | none=>exact P.repr_of_none (fin _ _ _ λ _ _ h=>h)
 | bool b=>exact P.repr_of_bool (fin _ _ _ λ _ _ h=>h)
 | int i t=>exact P.repr_of_int (by simpa [PyData.showable] using p2) (fin _ _ _ λ _ _ h=>h)
 | str y t=>exact P.repr_of_str (fin _ _ _ λ _ _ h=>h) p3
 | list _ _ _ _=>exact ref rfl
 | tuple _ _ _ _=>exact ref rfl
 | dict _ _ _ _ _=>exact ref rfl
end
open Qs
def whB:Dt->Bool
 | .int _=>S_
 | _=>Ta
def kF:List Dt->gF Dt:=sj λ x=>(mR x).map λ _=>.bl (whB x)
def nK (n:Int):Dt->Bool
 | .int i=>decide (0<=i/\i<n)
 | _=>Ta
def lG:List Dt->gF Dt:=Du λ m x=>(vI m).bind λ n=>(mR x).map λ _=>.bl (nK n x)
def jG (n:Int):Dt->Bool
 | .tup [.int a,.int b]=>decide (0<=a/\a<b/\b<n)
 | _=>Ta
def kdB (d:Dt):Bool:=(mR d).isSome
def kT:Dt->Bool
 | .tup ds=>ds.all kdB
 | d=>kdB d
def nA:List Dt->gF Dt:=Du λ m x=>(vI m).bind λ n=>if kT x=S_ then My (.bl (jG n x)) else SY
def iO:Dt->Nat×Nat
 | .tup [.int a,.int b]=>(a.toNat,b.toNat)
 | _=>(0,0)
def kO:Dt->Bool
 | .tup [.int n,.tup ts]=>decide (2<=n/\n<=8)&&(ts.all (jG n)&&(rise (ts.map iO)&&decide (((bfs (ts.map iO) 0).length:Int)=n)))
 | _=>Ta
def okW:Dt->Bool
 | .tup [m,.tup ts]=>kdB m&&(decide (ts.length<=1000)&&ts.all kT)
 | .tup ds=>ds.all kdB
 | d=>kdB d
def rF:List Dt->gF Dt:=sj λ x=>if okW x=S_ then My (.bl (kO x)) else SY
def qN:DE->gF RD:=(kN (BF (iP kY (gN (gR 0) (gN (gC (.ty "int")) gS))) (MZ (iP kY (gN (gR 0) (gN (gC (.ty "bool")) gS))))))
abbrev Ce:List Str:=["thing"]
def mG:DE->gF RD:=(kN (BF (hZ 1 kF (gN (gR 1) gS)) (sf (dIB λ i j=>decide (i<=j)) (dIB λ i j=>decide (i<j)) (gC (.int 0)) (gR 1) (gR 0))))
abbrev Cf:List Str:=["many","thing"]
def lH:DE->gF RD:=(lx (oD (sg (kC (gTr (iP kY (gN (gR 1) (gN (gC (.ty "tuple")) gS))))) (gB (g_ mD (iP qF (gN (gR 1) gS)) (gC (.int 2))))) (kN (gC (.bl Ta))) ky) (lx (Ds (pI 2 3) (gR 1)) (kN (BF (hZ 2 lG (gN (gR 0) (gN (gR 2) gS))) (BF (hZ 2 lG (gN (gR 0) (gN (gR 3) gS))) (g_ (dIB λ i j=>decide (i<j)) (gR 2) (gR 3)))))))
abbrev Gd:List Str:=["many","thing","a","b"]
def jJ:DE->gF RD:=(lx (oD (sg (kC (gTr (iP kY (gN (gR 0) (gN (gC (.ty "tuple")) gS))))) (gB (g_ mD (iP qF (gN (gR 0) gS)) (gC (.int 2))))) (kN (gC (.bl Ta))) ky) (lx (Ds (pI 1 2) (gR 0)) (lx (oD (sg (kC (gTr (hZ 1 kF (gN (gR 1) gS)))) (kC (gB (sf (dIB λ i j=>decide (i<=j)) (dIB λ i j=>decide (i<=j)) (gC (.int 2)) (gR 1) (gC (.int 8)))))) (kN (gC (.bl Ta))) ky) (lx (oD (sg (kC (gTr (iP kY (gN (gR 2) (gN (gC (.ty "tuple")) gS))))) (kC (gTr (iP xo (gN (gLC ["tie"] [1] (gI kz (gR 2)) (ggN 0) lY (hZ 2 nA (gN (gR 1) (gN (gR 0) gS)))) gS))))) (kN (gC (.bl Ta))) ky) (kN (BF (hZ 1 mX (gN (gR 2) gS)) (g_ oP (iP EG (gN (hZ 2 kE (gN (gR 2) (gN (gC (.int 0)) gS))) gS)) (gR 1))))))))
abbrev Ge:List Str:=["thing","many","ties"]
theorem ug:Hg 1 Ce kF qN:=by
 intro ds d hl h;obtain⟨x,rfl,h⟩:=kf h;obtain⟨k,e,h⟩:=il h;subst h;refine⟨.rt (.bl (whB x)),?_,rfl⟩;cases x<;>first | (cases e;done) | skip
 all_goals rfl
set_option tactic.hygienic true in
theorem AU:Hg 2 Cf lG mG:=by
 intro ds d hl h;obtain⟨m,x,rfl,h1⟩:=oQ h;obtain⟨n,e0,h2⟩:=gP h1;obtain⟨k,e,h3⟩:=il h2;subst h3;clear h h1 h2;rw[mE e0];refine⟨.rt (.bl (nK n x)),?_,rfl⟩;cases x<;>first | (cases e;done) | skip
 case int =>
  rename_i i;show mG [My (.int n),My (.int i)]=_;have w:kF [.int i]=My (.bl S_):=rfl;by_cases c:0<=i
  ·by_cases c2:i<n<;>simp[mG,w,nK,c,c2]
  ·simp[mG,w,nK,c]
 all_goals rfl
theorem qO {d:Dt}(h:kdB d=S_):∃ k,mR d=My k:=dM.mp h
theorem DK (n:Int){d:Dt}(h:kdB d=S_):lG [.int n,d]=My (.bl (nK n d)):=by obtain⟨k,e⟩:=qO h;show((mR d).map λ _=>Dt.bl (nK n d))=_;rw[e];rfl
set_option tactic.hygienic true in
theorem DL:Hg 2 Gd nA lH:=by
 intro ds d hl h;obtain⟨m,x,rfl,h1⟩:=oQ h;obtain⟨n,e0,h2⟩:=gP h1;clear h h1;by_cases hx:kT x=S_
 rotate_left
 ·rw[ak hx]at h2;cases h2
 rw[ai hx]at h2;cases h2;rw[mE e0];refine⟨.rt (.bl (jG n x)),?_,rfl⟩;match x,hx with
 | .tup [a,b],hx =>
  have ka:kdB a=S_:=by simp[kT]at hx;exact hx.1
  have kb:kdB b=S_:=by simp[kT]at hx;exact hx.2
  have pa:=DK n ka;have pb:=DK n kb;have iT:kY [.tup [a,b],.ty "tuple"]=My (.bl S_):=rfl;have ln:qF [.tup [a,b]]=My (.int 2):=rfl;show lH [My (.int n),My (.tup [a,b]),SY,SY]=_;by_cases c1:nK n a=S_
  ·by_cases c2:nK n b=S_
   ·cases a<;>first | (cases c1;done) | skip
    cases b<;>first | (cases c2;done) | skip
    rename_i i j;rw[c1]at pa;rw[c2]at pb;simp only[nK,decide_eq_true_eq]at c1 c2;have e:decide (i<j)=decide (0<=i/\i<j/\j<n):=by rw[decide_eq_decide];lia
    simp[lH,iT,ln,pa,pb,jG];simpa using e
   ·have e:jG n (.tup [a,b])=Ta:=by
     cases a<;>first | rfl | skip
     cases b<;>first | rfl | skip
     rename_i i j;simp only[nK,decide_eq_true_eq]at c1 c2;simp only[jG,decide_eq_false_iff_not];lia
    rw[c1]at pa;rw[bx]at c2;rw[c2]at pb;rw[e];simp[lH,iT,ln,pa,pb]
  ·have e:jG n (.tup [a,b])=Ta:=by
    cases a<;>first | rfl | skip
    cases b<;>first | rfl | skip
    rename_i i j;simp only[nK,decide_eq_true_eq]at c1;simp only[jG,decide_eq_false_iff_not];lia
   rw[bx]at c1;rw[c1]at pa;rw[e];simp[lH,iT,ln,pa]
 | .tup [],_=>rfl
 | .tup [a],_=>cases a<;>rfl
 | .tup (a::b::c::r),hx =>
  have iT:kY [.tup (a::b::c::r),.ty "tuple"]=My (.bl S_):=rfl;have ln:qF [.tup (a::b::c::r)]=My (.int ((r.length:Int)+3)):=by show My (Dt.int (((a::b::c::r).length:Nat):Int))=_;simp;lia
  have ne:¬ ((r.length:Int)+3=2):=by lia
  have e:jG n (.tup (a::b::c::r))=Ta:=by cases a<;>first | rfl | (cases b<;>rfl)
  rw[e];show lH [My (.int n),My (.tup (a::b::c::r)),SY,SY]=_;generalize (r.length:Int)+3=z,Dt.tup (a::b::c::r)=t at *;simp[lH,iT,ln,ne]
 | .non,_=>rfl
 | .bl _,_=>rfl
 | .int _,_=>rfl
 | .str _,_=>rfl
 | .lst _,_=>rfl
 | .dct _,_=>rfl
theorem ID (n:Int){d:Dt}(h:kT d=S_):nA [.int n,d]=My (.bl (jG n d)):=by show(if kT d=S_ then My (Dt.bl (jG n d)) else SY)=_;rw[ai h]
set_option tactic.hygienic true in
theorem EY {n:Int}{d:Dt}(h:jG n d=S_):d=gX (iO d)/\(iO d).1<(iO d).2/\((iO d).2:Int)<n:=by
 unfold jG at h;split at h
 ·rename_i a b
  simp only[decide_eq_true_eq]at h;obtain⟨h1,h2,h3⟩:=h;have e1:((a.toNat:Nat):Int)=a:=by lia
  have e2:((b.toNat:Nat):Int)=b:=by lia
  refine⟨?_,?_,?_⟩
  ·show Dt.tup [.int a,.int b]=.tup [.int ((a.toNat:Nat):Int),.int ((b.toNat:Nat):Int)];rw[e1,e2]
  ·show a.toNat<b.toNat;lia
  ·show((b.toNat:Nat):Int)<n;lia
 ·cases h
theorem xI {n:Int}{ts:List Dt}(h:ts.all (jG n)=S_):ts=(ts.map iO).map gX/\∀ p∈ts.map iO,p.1<p.2/\(p.2:Int)<n:=by
 rw[bT]at h;refine⟨?_,λ p hp=>?_⟩
 ·rw[aP]
  conv=>lhs;rw[<-cP ts]
  exact bG λ d hd=>(EY (h d hd)).1
 ·obtain⟨d,hd,rfl⟩:=aA.mp hp;exact(EY (h d hd)).2
theorem Cg {l:gK}{n:Nat}(hr:rise l=S_)(ok:∀ p∈l,p.1<p.2/\p.2<n)(h8:n<=8):l.length<=28:=by refine pairs_len (n:=n) ?_ ok h8;rw[aI];refine(mW hr).imp λ{a b} h e=>?_;subst e;rw[kX]at h;lia
theorem RI (l:gK)(h:l.length<=1000):mX [ip l]=My (.bl (rise l)):=by show(dTt (ip l)).bind (λ l=>if l.length<=1000 then My (Dt.bl (rise l)) else SY)=_;rw[v_,aq,ai h]
theorem RJ {l:gK}(h:l.length<=30)(k:Nat):kE [ip l,gO k]=My (.dct (iX (bfs l k))):=by show(dTs (ip l)).bind (λ l=>(jD (gO k)).bind λ p=>if l.length<=30 then My (Dt.dct (iX (bfs l p))) else SY)=_;rw[rq,iQ,aq,aq,ai h]
theorem DM:Hg 1 Ge rF jJ:=by
 intro ds d hl h;obtain⟨x,rfl,h1⟩:=kf h;clear h;by_cases hx:okW x=S_
 rotate_left
 ·rw[ak hx]at h1;cases h1
 rw[ai hx]at h1;cases h1;refine⟨.rt (.bl (kO x)),?_,rfl⟩;match x,hx with
 | .tup [m,t],hx =>
  show jJ [My (.tup [m,t]),SY,SY]=_;have iT:kY [.tup [m,t],.ty "tuple"]=My (.bl S_):=rfl;have ln:qF [.tup [m,t]]=My (.int 2):=rfl;have km:kdB m=S_/\kdB t=S_:=by cases t<;>simp_all[okW,kdB,mR]
  obtain⟨k1,ek⟩:=qO km.1;obtain⟨k2,ek2⟩:=qO km.2;have wm:kF [m]=My (.bl (whB m)):=by show((mR m).map λ _=>Dt.bl (whB m))=_;rw[ek];rfl
  by_cases c1:whB m=S_
  rotate_left
  ·have e:kO (.tup [m,t])=Ta:=by cases m<;>first | rfl | (exact absurd rfl c1)
   rw[bx]at c1;rw[c1]at wm;rw[e];simp[jJ,iT,ln,wm]
  rw[c1]at wm;obtain⟨n,rfl⟩:∃ n,m=.int n:=by cases m<;>first | exact⟨_,rfl⟩ | cases c1
  by_cases c2:2<=n/\n<=8
  rotate_left
  ·have e:kO (.tup [.int n,t])=Ta:=by
    cases t<;>first | rfl | (simp[kO,c2])
   rw[e];by_cases c3:2<=n
   ·have c4:¬ n<=8:=λ z=>c2 ⟨c3,z⟩;simp[jJ,iT,ln,wm,c3,c4]
   ·simp[jJ,iT,ln,wm,c3]
  obtain⟨h2,h8⟩:=c2;by_cases c3:∃ ts,t=.tup ts
  rotate_left
  ·have e:kO (.tup [.int n,t])=Ta:=by
    cases t<;>first | rfl | (exact absurd ⟨_,rfl⟩ c3)
   have iF:kY [t,.ty "tuple"]=My (.bl Ta):=by cases t<;>first | rfl | (exact absurd ⟨_,rfl⟩ c3) | cases ek2
   rw[e];simp[jJ,iT,ln,wm,h2,h8,iF]
  obtain⟨ts,rfl⟩:=c3;have ok:ts.length<=1000/\ts.all kT=S_:=by simpa [okW,kdB,mR] using hx
  obtain⟨hlen,hk⟩:=ok;rw[bT]at hk;have iT2:kY [.tup ts,.ty "tuple"]=My (.bl S_):=rfl;have lc:=tJ (enc:=id) (gg:=ggN 0) (ge:=hZ 2 nA (gN (gR 1) (gN (gR 0) gS))) (δc:=[SY,My (.int n)]) (δa:=λ d=>[My d,My (.int n)]) (enc':=λ d=>.bl (jG n d)) ts λ d hd=>⟨rfl,by have:=ID n (hk d hd);simp[this]⟩
  have e2:(ts.map λ d=>Dt.bl (jG n d))=(ts.map (jG n)).map Dt.bl:=by simp
  rw[cP,e2]at lc;have e3:(ts.map (jG n)).all id=ts.all (jG n):=by rw[eY];rfl
  have al:xo [.lst ((ts.map (jG n)).map Dt.bl)]=My (.bl (ts.all (jG n))):=by rw[<-e3];generalize ts.map (jG n)=bs;simp[xo,uQ]
  by_cases c4:ts.all (jG n)=S_
  rotate_left
  ·have e:kO (.tup [.int n,.tup ts])=Ta:=by
    rw[bx]at c4;simp[kO,c4]
   rw[bx]at c4;rw[c4]at al;rw[e];generalize (ts.map (jG n)).map Dt.bl=bs at *;simp[jJ,iT,ln,wm,h2,h8,iT2,lc,al,hlen]
  rw[c4]at al;obtain⟨et,ok⟩:=xI c4;have ri:=RI (ts.map iO) (by rw[af];exact hlen);have et':ip (ts.map iO)=.tup ts:=by show Dt.tup ((ts.map iO).map gX)=_;rw[<-et]
  rw[et']at ri;by_cases c5:rise (ts.map iO)=S_
  rotate_left
  ·have e:kO (.tup [.int n,.tup ts])=Ta:=by
    rw[bx]at c5;simp[kO,c5]
   rw[bx]at c5;rw[c5]at ri;rw[e];generalize (ts.map (jG n)).map Dt.bl=bs at *;simp[jJ,iT,ln,wm,h2,h8,iT2,lc,al,hlen,ri]
  have le:=Cg (n:=n.toNat) c5 (λ p hp=>by have:=ok p hp;lia) (by lia);have di:=RJ (l:=ts.map iO) (by lia) 0;rw[et']at di;have e7:(iX (bfs (ts.map iO) 0)).length=(bfs (ts.map iO) 0).length:=by rw[iX,af]
  have e:kO (.tup [.int n,.tup ts])=decide (((bfs (ts.map iO) 0).length:Int)=n):=by simp[kO,c4,c5,h2,h8]
  rw[c5]at ri;rw[e];have ld:EG [.dct (iX (bfs (ts.map iO) 0))]=My (.int ((bfs (ts.map iO) 0).length:Nat)):=by rw[<-e7];rfl
  generalize Dt.dct (iX (bfs (ts.map iO) 0))=dd,(((bfs (ts.map iO) 0).length:Nat):Int)=z,(ts.map (jG n)).map Dt.bl=bs at *;have di:kE [.tup ts,.int 0]=My dd:=di;have eq:oP (.int z) (.int n)=My (.bl (decide (z=n))):=by show My (Dt.bl (z==n))=_;congr 2
  simp[jJ,iT,ln,wm,h2,h8,iT2,lc,al,hlen,ri,di,ld,eq]
 | .tup [],_=>rfl
 | .tup [a],_=>cases a<;>rfl
 | .tup (a::b::c::r),hx =>
  have iT:kY [.tup (a::b::c::r),.ty "tuple"]=My (.bl S_):=rfl;have ln:qF [.tup (a::b::c::r)]=My (.int ((r.length:Int)+3)):=by show My (Dt.int (((a::b::c::r).length:Nat):Int))=_;simp;lia
  have ne:¬ ((r.length:Int)+3=2):=by lia
  have e:kO (.tup (a::b::c::r))=Ta:=by cases a<;>first | rfl | (cases b<;>rfl)
  rw[e];show jJ [My (.tup (a::b::c::r)),SY,SY]=_;generalize (r.length:Int)+3=z,Dt.tup (a::b::c::r)=t at *;simp[jJ,iT,ln,ne]
 | .non,_=>rfl
 | .bl _,_=>rfl
 | .int _,_=>rfl
 | .str _,_=>rfl
 | .lst _,_=>rfl
 | .dct _,_=>rfl
section
variable {g g':DE->gF RX}{δ:DE}{gx gx':DE->gF XD}{gs:DE->gF (List Dt)}{gd:DE->gF Dt}{gr:DE->gF RD}{gb:DE->gF Bool}{gt:DE->gF (Except Str Bool)}{n i:Nat}{f:List Dt->gF XD}
@[simp] theorem QX:oq n f gs δ=(gs δ).bind λ ds=>if ds.length=n then f ds else SY:=rfl
@[simp] theorem SG:xTr gx δ=(gx δ).bind λ r=>match r with | .ok d=>(FC d).map .ok | .error c=>My (.error c):=rfl
@[simp] theorem RK:NM gt δ=(gt δ).map λ r=>match r with | .ok b=>.ok (!b) | .error c=>.error c:=rfl
@[simp] theorem SH:xIf gb gx gx' δ=(gb δ).bind λ k=>if k=S_ then gx δ else gx' δ:=rfl
@[simp] theorem SI:xUp gr δ=(gr δ).map upX:=rfl
@[simp] theorem SJ (d:DE):upX (.nx d)=.nx d:=rfl
@[simp] theorem SK (d:Dt):upX (.rt d)=.rt d:=rfl
@[simp] theorem RL:uW g g' δ=(g δ).bind λ r=>match r with | .nx δ'=>g' δ' | .rt d=>My (.rt d) | .ex c=>My (.ex c):=rfl
@[simp] theorem QY:tY gx δ=(gx δ).map λ r=>match r with | .ok _=>.nx δ | .error c=>.ex c:=rfl
@[simp] theorem RM:Kv gx δ=(gx δ).map λ r=>match r with | .ok d=>.rt d | .error c=>.ex c:=rfl
@[simp] theorem RN:NN gt g g' δ=(gt δ).bind λ r=>match r with | .ok k=>if k=S_ then g δ else g' δ | .error c=>My (.ex c):=rfl
@[simp] theorem RO:Ga gb g g' δ=(gb δ).bind λ k=>if k=S_ then g δ else g' δ:=rfl
end
def xR (c:Str)(g:DE->gF Dt):DE->gF RX:=λ δ=>(g δ).map λ _=>.ex c
@[simp] theorem SX (c:Str) (g:DE->gF Dt) (δ:DE):xR c g δ=(g δ).map λ _=>.ex c:=rfl
theorem KH {w:Web}(g:Good w):kO (hG w)=S_:=by
 have h2:=g.two;have h8:=g.oh;have ha:(w.2.map gX).all (jG w.1)=S_:=by rw[bT];intro d hd;obtain⟨t,ht,rfl⟩:=aA.mp hd;have:=g.ok t ht;show decide (0<=(t.1:Int)/\(t.1:Int)<t.2/\(t.2:Int)<w.1)=S_;rw[decide_eq_true_eq];lia
 have hp:(w.2.map gX).map iO=w.2:=by
  rw[aP];conv=>rhs;rw[<-cP w.2]
  exact bG λ t _=>by show((t.1:Int).toNat,(t.2:Int).toNat)=t;simp
 show(decide (2<=(w.1:Int)/\(w.1:Int)<=8)&&((w.2.map gX).all (jG w.1)&&(rise ((w.2.map gX).map iO)&&decide (((bfs ((w.2.map gX).map iO) 0).length:Int)=w.1))))=S_;rw[ha,hp,g.rise,g.all,decide_eq_true (by lia)];simp
set_option tactic.hygienic true in
theorem AV (x:Dt):kO x=(dW x).isSome:=by
 cases e:dW x with
 | some w =>obtain⟨rfl,g⟩:=pL e;exact KH g
 | none =>
  show kO x=Ta;rw[<-bx];intro h;unfold kO at h;split at h
  ·rename_i n ts
   simp only[aL,decide_eq_true_eq]at h;obtain⟨⟨h2,h8⟩,ha,hr,hb⟩:=h;obtain⟨et,ok⟩:=xI ha;have le:=Cg (n:=n.toNat) hr (λ p hp=>by have:=ok p hp;lia) (by lia);have g:Good (n.toNat,ts.map iO):=by
    refine⟨by show 2<=n.toNat;lia,by show n.toNat<=8;lia,λ p hp=>by have:=ok p hp;show p.1<p.2/\p.2<n.toNat;lia,hr,by show(bfs (ts.map iO) 0).length=n.toNat;lia,by show(ts.map iO).length<=30;lia,λ z=>?_⟩;have z:ts.map iO=[]:=z;rw[z]at hb;have b0:(bfs ([]:gK) 0).length=1:=by decide +kernel
    rw[b0]at hb;lia
   have ex:Dt.tup [.int n,.tup ts]=hG (n.toNat,ts.map iO):=by show _=Dt.tup [.int ((n.toNat:Nat):Int),.tup ((ts.map iO).map gX)];rw[<-et,show((n.toNat:Nat):Int)=n by lia]
   rw[ex,lL g]at e;cases e
  ·cases h
def xW (x:Dt):Except Str Web:=match dW x with
 | some w=>.ok w
 | none=>.error "NoWeb"
def xT (x:Dt):Except Str Web:=match xW x with
 | .ok w=>if w.2.length+1=w.1 then .ok w else .error "NoTree"
 | .error c=>.error c
def RP:Dt->Nat
 | .int i=>i.toNat
 | _=>0
def xP (w:Web)(x:Dt):Except Str Nat:=if nK w.1 x=S_ then .ok (RP x) else .error "NoPlace"
set_option tactic.hygienic true in
theorem L_ {x:Dt}{w:Web}(h:xW x=.ok w):x=hG w/\Good w:=by
 unfold xW at h;split at h
 ·rename_i w' e;cases h;exact pL e
 ·cases h
theorem IE {w:Web}(g:Good w):xW (hG w)=.ok w:=by unfold xW;rw[lL g]
set_option tactic.hygienic true in
theorem xJ {x:Dt}{w:Web}(h:xT x=.ok w):x=hG w/\Good w/\w.2.length+1=w.1:=by
 unfold xT at h;split at h
 ·rename_i w' e
  by_cases c:w'.2.length+1=w'.1
  ·rw[ai c]at h;cases h;obtain⟨h1,h2⟩:=L_ e;exact⟨h1,h2,c⟩
  ·rw[ak c]at h;cases h
 ·cases h
set_option tactic.hygienic true in
theorem EZ {w:Web}{x:Dt}{a:Nat}(h:xP w x=.ok a):x=gO a/\a<w.1:=by
 unfold xP at h;by_cases c:nK w.1 x=S_
 ·rw[ai c]at h
  cases h;unfold nK at c;split at c
  ·rename_i i
   rw[decide_eq_true_eq]at c;constructor
   ·show Dt.int i=.int ((i.toNat:Nat):Int);rw[show((i.toNat:Nat):Int)=i by lia]
   ·show i.toNat<w.1;lia
  ·cases c
 ·rw[ak c]at h;cases h
theorem sC {w:Web}{a:Nat}(h:a<w.1):xP w (gO a)=.ok a:=by
 unfold xP;have c:nK (w.1:Int) (gO a)=S_:=by show decide (0<=(a:Int)/\(a:Int)<(w.1:Int))=S_;rw[decide_eq_true_eq];lia
 rw[ai c];show Except.ok (a:Int).toNat=_;simp
def KI (F:Dt->gF XD):List Dt->gF XD
 | [x]=>F x
 | _=>SY
def PK (F:Dt->Dt->gF XD):List Dt->gF XD
 | [x,y]=>F x y
 | _=>SY
theorem xK {F:Dt->gF XD}{ds:List Dt}{r:XD}(h:KI F ds=My r):∃ x,ds=[x]/\F x=My r:=by
 match ds,h with
 | [x],h=>exact⟨x,rfl,h⟩
theorem IF {F:Dt->Dt->gF XD}{ds:List Dt}{r:XD}(h:PK F ds=My r):∃ x y,ds=[x,y]/\F x y=My r:=by
 match ds,h with
 | [x,y],h=>exact⟨x,y,rfl,h⟩
def o8 {α:Type}:Except Str α->XD
 | .ok _=>.ok .non
 | .error c=>.error c
def mY:List Dt->gF XD:=KI λ x=>if okW x=S_ then My (o8 (xW x)) else SY
def mZ:DE->gF RX:=Ga (kC (gTr (hZ 1 rF (gN (gR 0) gS)))) (xR "NoWeb" (gC (.str "this is no web"))) (xUp ky)
def jE:List Dt->gF XD:=PK λ y x=>(dW y).bind λ w=>if kdB x=S_ then My (o8 (xP w x)) else SY
def lQ:DE->gF RX:=Ga (kC (gTr (hZ 2 lG (gN (g_ dIx (gR 0) (gC (.int 0))) (gN (gR 1) gS))))) (xR "NoPlace" (gC (.str "this is no place of the web"))) (xUp ky)
def mf:List Dt->gF XD:=KI λ x=>if okW x=S_ then My (match xW x with | .ok w=>.ok (.bl (decide (w.2.length+1=w.1))) | .error c=>.error c) else SY
def pS:DE->gF RX:=uW (tY (oq 1 mY (gN (gR 0) gS))) (uW (xUp (Ds (pI 1 2) (gR 0))) (xUp (kN (g_ oP (iP qF (gN (gR 2) gS)) (g_ (dI (·-·)) (gR 1) (gC (.int 1)))))))
def kZ:List Dt->gF XD:=KI λ x=>if okW x=S_ then My (o8 (xT x)) else SY
def k_:DE->gF RX:=NN (NM (xTr (oq 1 mf (gN (gR 0) gS)))) (xR "NoTree" (gC (.str "this web is no tree"))) (xUp ky)
theorem yR:HgX 1 ["thing"] mY mZ:=by
 intro ds r hl h;obtain⟨x,rfl,h1⟩:=xK h;clear h;by_cases hx:okW x=S_
 rotate_left
 ·rw[ak hx]at h1;cases h1
 rw[ai hx]at h1;cases h1;have c:rF [x]=My (.bl (kO x)):=by show(if okW x=S_ then My (Dt.bl (kO x)) else SY)=_;rw[ai hx]
 rw[AV]at c;unfold xW;cases e:dW x with
 | some w=>rw[e]at c;exact⟨.nx [My x],by simp[mZ,c],rfl⟩
 | none=>rw[e]at c;exact⟨.ex "NoWeb",by simp[mZ,c],rfl⟩
theorem vN:HgX 2 ["web","thing"] jE lQ:=by
 intro ds r hl h;obtain⟨y,x,rfl,h1⟩:=IF h;obtain⟨w,e,h2⟩:=gP h1;clear h h1;by_cases hx:kdB x=S_
 rotate_left
 ·rw[ak hx]at h2;cases h2
 rw[ai hx]at h2;cases h2;obtain⟨rfl,g⟩:=pL e;have ix:dIx (hG w) (.int 0)=My (.int w.1):=rfl;have c:=DK w.1 hx;unfold xP;generalize hG w=ww at *;by_cases cc:nK w.1 x=S_
 ·rw[ai cc];rw[cc]at c;exact⟨.nx [My ww,My x],by simp[lQ,ix,c],rfl⟩
 ·rw[ak cc];rw[bx]at cc;rw[cc]at c;exact⟨.ex "NoPlace",by simp[lQ,ix,c],rfl⟩
theorem cw_X {x:Dt}(h:okW x=S_):mY [x]=My (o8 (xW x)):=by show(if okW x=S_ then My (o8 (xW x)) else SY)=_;rw[ai h]
theorem KJ {w:Web}(g:Good w){x:Dt}(h:kdB x=S_):jE [hG w,x]=My (o8 (xP w x)):=by show(dW (hG w)).bind (λ w=>if kdB x=S_ then My (o8 (xP w x)) else SY)=_;rw[lL g,aq,ai h]
theorem PL {x:Dt}(h:okW x=S_):kZ [x]=My (o8 (xT x)):=by show(if okW x=S_ then My (o8 (xT x)) else SY)=_;rw[ai h]
theorem PM {x:Dt}(h:okW x=S_):mf [x]=My (match xW x with | .ok w=>.ok (.bl (decide (w.2.length+1=w.1))) | .error c=>.error c):=by show(if okW x=S_ then My _ else SY)=_;rw[ai h]
theorem Ci:HgX 1 ["web","many","ties"] mf pS:=by
 intro ds r hl h;obtain⟨x,rfl,h1⟩:=xK h;clear h;by_cases hx:okW x=S_
 rotate_left
 ·rw[ak hx]at h1;cases h1
 rw[ai hx]at h1;cases h1;have c:=cw_X hx;cases e:xW x with
 | error k=>rw[e]at c;exact⟨.ex k,by simp[pS,c,o8],rfl⟩
 | ok w =>
  rw[e]at c;obtain⟨rfl,g⟩:=L_ e;have eb:(((w.2.length:Nat):Int)==((w.1:Nat):Int)-1)=decide (w.2.length+1=w.1):=by rw[bj];simp;lia
  refine⟨.rt (.bl (decide (w.2.length+1=w.1))),?_,rfl⟩;simp only[hG,gO]at c;simp[pS,hG,ip,gO,c,eb,o8]
theorem xM:HgX 1 ["thing"] kZ k_:=by
 intro ds r hl h;obtain⟨x,rfl,h1⟩:=xK h;clear h;by_cases hx:okW x=S_
 rotate_left
 ·rw[ak hx]at h1;cases h1
 rw[ai hx]at h1;cases h1;have c:=PM hx;unfold xT;cases e:xW x with
 | error k=>rw[e]at c;exact⟨.ex k,by simp[k_,c],rfl⟩
 | ok w =>
  rw[e]at c;dsimp only at c ⊢;by_cases t:w.2.length+1=w.1
  ·rw[ai t];rw[decide_eq_true t]at c;exact⟨.nx [My x],by simp[k_,c],rfl⟩
  ·rw[ak t];rw[decide_eq_false t]at c;exact⟨.ex "NoTree",by simp[k_,c],rfl⟩
def kP {α:Type}(x y z:Dt)(k:Web->Nat->Nat->Except Str α):Except Str α:=match xT x with
 | .error c=>.error c
 | .ok w=>match xP w y with
  | .error c=>.error c
  | .ok a=>match xP w z with
   | .error c=>.error c
   | .ok b=>k w a b
def mT (w:Web)(a b:Nat):XD:=if b∈nb w.2 a then .ok (.tup ((sk (bfs (cut w.2 a b) b)).map gO)) else .error "NoTie"
def m6:List Dt->gF XD
 | [x,y,z]=>if okW x=S_/\kdB y=S_/\kdB z=S_ then My (kP x y z mT) else SY
 | _=>SY
def pT:DE->gF RX:=uW (tY (oq 1 kZ (gN (gR 0) gS))) (uW (tY (oq 2 jE (gN (gR 0) (gN (gR 1) gS)))) (uW (tY (oq 2 jE (gN (gR 0) (gN (gR 2) gS))))
 (uW (Ga (gB (g_ (dIn S_) (gR 2) (hZ 2 me (gN (g_ dIx (gR 0) (gC (.int 1))) (gN (gR 1) gS))))) (xR "NoTie" (gC (.str "these two places are not tied"))) (xUp ky)) (xUp (kN (hZ 3 ml (gN (g_ dIx (gR 0) (gC (.int 1))) (gN (gR 1) (gN (gR 2) gS)))))))))
theorem IG:HgX 3 ["tree","a","b"] m6 pT:=by
 intro ds r hl h;match ds,h with
 | [x,y,z],h =>
  by_cases hx:okW x=S_/\kdB y=S_/\kdB z=S_
  rotate_left
  ·exact absurd ((ak hx).symm.trans h) (λ e=>by cases e)
  have h:My (kP x y z mT)=My r:=(ai hx).symm.trans h;cases h;obtain⟨hx,hy,hz⟩:=hx;have c1:=PL hx;unfold kP;cases e1:xT x with
  | error k=>rw[e1]at c1;exact⟨.ex k,by simp[pT,c1,o8],rfl⟩
  | ok w =>
   rw[e1]at c1;obtain⟨rfl,g,tr⟩:=xJ e1;have c2:=KJ g hy;have c3:=KJ g hz;dsimp only;cases e2:xP w y with
   | error k=>rw[e2]at c2;generalize hG w=ww at *;exact⟨.ex k,by simp[pT,c1,c2,o8],rfl⟩
   | ok a =>
    rw[e2]at c2;obtain⟨rfl,ha⟩:=EZ e2;dsimp only;cases e3:xP w z with
    | error k=>rw[e3]at c3;generalize gO a=na,hG w=ww at *;exact⟨.ex k,by simp[pT,c1,c2,c3,o8],rfl⟩
    | ok b =>
     rw[e3]at c3;obtain⟨rfl,hb⟩:=EZ e3;dsimp only;have hl:w.2.length<=30:=g.len;have tk:=Kf hl a;have ix:dIx (hG w) (.int 1)=My (ip w.2):=rfl;have ni:=EU S_ b (nb w.2 a);rw[ai rfl]at ni;have pb:ml [ip w.2,gO a,gO b]=My (.tup ((sk (bfs (cut w.2 a b) b)).map gO)):=by show(dTs (ip w.2)).bind (λ l=>(jD (gO a)).bind λ a=>(jD (gO b)).bind λ b=>if l.length<=30 then My (Dt.tup ((sk (bfs (cut l a b) b)).map gO)) else SY)=_;rw[rq,iQ,iQ,aq,aq,aq,ai hl]
     unfold mT;by_cases c:b∈nb w.2 a
     ·rw[ai c];rw[decide_eq_true c]at ni;refine⟨.rt (.tup ((sk (bfs (cut w.2 a b) b)).map gO)),?_,rfl⟩;generalize gO b=nb,gO a=na,hG w=ww,ip w.2=tt,Dt.tup ((nb w.2 a).map gO)=ns,(sk (bfs (cut w.2 a b) b)).map gO=res at *;simp[pT,c1,c2,c3,ix,tk,ni,pb,o8]
     ·rw[ak c];rw[decide_eq_false c]at ni;refine⟨.ex "NoTie",?_,rfl⟩;generalize gO b=nb,gO a=na,hG w=ww,ip w.2=tt,Dt.tup ((nb w.2 a).map gO)=ns,(sk (bfs (cut w.2 a b) b)).map gO=res at *;simp[pT,c1,c2,c3,ix,tk,ni,pb,o8]
section
variable {X:Cx}{a b c d:Expr}{ta tb tc td:TE}{pos:Pos}
def KL (r r' r2:R2)(ta tb tc td:TE):TE:=λ σ H Q=>ta σ H λ x H1=>tb σ H1 λ y H2=>r x y H2 λ z H3=>∃ k,z=.bl k /\
 (if k=S_ then tc σ H3 λ w H4=>r' y w H4 λ z H5=>∃ k,z=.bl k/\(if k=S_ then td σ H5 λ u H6=>r2 w u H6 Q else Q (.bl Ta) H5) else Q (.bl Ta) H3)
theorem Gf {op op' op2:CmpOp}{r r' r2:R2}(ho:OpR X (compareOp op) r)(ho':OpR X (compareOp op') r')(ho2:OpR X (compareOp op2) r2)(ha:PE X a ta)(hb:PE X b tb)(hc:PE X c tc)(hd:PE X d td)
  (hm:lastMarks [op,op',op2] [b,c,d]=Ta:=by with_unfolding_all rfl):PE X (.Compare a [op,op',op2] [b,c,d] pos) (KL r r' r2 ta tb tc td):=by
 intro pins s σ H Q I h;refine Compare_chain (thn (ha pins s σ H _ I h) λ v s1 ⟨x,H1,I1,r1,q1⟩=>chain_link (thn (hb pins s1 σ H1 _ I1 q1) λ u s2 ⟨y,H2,I2,r2,q2⟩ =>thn (ho pins s2 σ H2 x y v u _ I2 r1 r2 q2) λ d s3 ⟨z,H3,I3,r3,k,e,q3⟩=>?_)) hm
 subst e;cases r3;refine bU ?_;cases k with
 | false=>exact ite_ff ⟨.bl Ta,H3,I3,rfl,q3⟩
 | true =>
  refine ite_tt (chain_link (thn (hc pins s3 σ H3 _ I3 q3) λ w' s4 ⟨z',H4,I4,r4,q4⟩=>thn (ho' pins s4 σ H4 y z' u w' _ I4 r2 r4 q4) λ d s5 ⟨z,H5,I5,r5,k,e,q5⟩=>?_));subst e;cases r5;refine bU ?_;cases k with
  | false=>exact ite_ff ⟨.bl Ta,H5,I5,rfl,q5⟩
  | true=>exact ite_tt (chain_last (thn (hd pins s5 σ H5 _ I5 q5) λ u' s6 ⟨z2,H6,I6,r6,q6⟩=>ho2 pins s6 σ H6 z' z2 w' u' Q I6 r4 r6 q6))
def AW (f f' f2:Dt->Dt->gF Dt)(ga gb gc gd:DE->gF Dt):DE->gF Dt:=λ δ=>(ga δ).bind λ x=>(gb δ).bind λ y=>(f x y).bind λ z=>(asB z).bind λ k=>if k=S_ then (gc δ).bind λ w=>(f' y w).bind λ z=>(asB z).bind λ k=>if k=S_ then (gd δ).bind λ u=>f2 w u else My (.bl Ta) else My (.bl Ta)
@[simp] theorem PN (f f' f2:Dt->Dt->gF Dt) (ga gb gc gd:DE->gF Dt) (δ:DE):AW f f' f2 ga gb gc gd δ=(ga δ).bind λ x=>(gb δ).bind λ y=>(f x y).bind λ z=>(asB z).bind λ k=>if k=S_ then (gc δ).bind λ w=>(f' y w).bind λ z=>(asB z).bind λ k=>if k=S_ then (gd δ).bind λ u=>f2 w u else My (.bl Ta) else My (.bl Ta):=rfl
theorem IH {op op' op2:CmpOp}{f f' f2:Dt->Dt->gF Dt}{ga gb gc gd:DE->gF Dt}(ho:OpR X (compareOp op) (rD X.K f))(ho':OpR X (compareOp op') (rD X.K f'))(ho2:OpR X (compareOp op2) (rD X.K f2))(ha:PD X a ga)(hb:PD X b gb)(hc:PD X c gc)(hd:PD X d gd)
  (hm:lastMarks [op,op',op2] [b,c,d]=Ta:=by with_unfolding_all rfl):PD X (.Compare a [op,op',op2] [b,c,d] pos) (AW f f' f2 ga gb gc gd):=(Gf ho ho' ho2 ha hb hc hd hm).of λ σ H Q hz=>by
 obtain⟨δ,r,S,e,q⟩:=hz;obtain⟨x,e1,e⟩:=gP e;obtain⟨y,e2,e⟩:=gP e;obtain⟨z,e3,e⟩:=gP e;obtain⟨k,e4,e⟩:=gP e;rw[tq e4]at e3;refine⟨δ,x,S,e1,λ v H1 s1 i1=>⟨δ,y,S.ext s1,e2,λ v2 H2 s2 i2=>⟨x,y,_,i1.ext s2,i2,e3,λ v3 H3 s3 i3=>⟨k,i3.jR,?_⟩⟩⟩⟩;have s13:=(s1.trans s2).trans s3;cases k with
 | false=>rw[ak aw]at e ⊢;cases e;exact q _ H3 s13 (.bl Ta)
 | true =>
  rw[ai rfl]at e ⊢;obtain⟨w,f1,e⟩:=gP e;obtain⟨z,f3,e⟩:=gP e;obtain⟨k,f4,e⟩:=gP e;rw[tq f4]at f3;refine⟨δ,w,S.ext s13,f1,λ v4 H4 s4 i4=>⟨y,w,_,(i2.ext s3).ext s4,i4,f3,λ v5 H5 s5 i5=>⟨k,i5.jR,?_⟩⟩⟩;have s15:=(s13.trans s4).trans s5;cases k with
  | false=>rw[ak aw]at e ⊢;cases e;exact q _ H5 s15 (.bl Ta)
  | true =>rw[ai rfl]at e ⊢;obtain⟨u,g1,e⟩:=gP e;exact⟨δ,u,S.ext s15,g1,λ v6 H6 s6 i6=>⟨w,u,_,(i4.ext s5).ext s6,i6,e,λ v7 H7 s7 i7=>q v7 H7 ((s15.trans s6).trans s7) i7⟩⟩
end
end L2
namespace Tb
open PySem PySem.Spec PyProof.Rows
section
variable {prog:Program}{w:World}{A:Around}{E:gE}{s:gJ}{G:List Int->Addr->Prop}
theorem Gg {R:Result->gJ->Prop}(hh:A.in1.handled=SY)(hu:A.in1.units<cLine){S I l:Addr}{items:Array gH}{kk:List (List Int)}(hk:kk.length=items.size)(h40:items.size<=40)(n1:S≠I)(n2:S≠l)(n3:l≠I) :
  ∀ (n i:Nat) (s:gJ) (ks:List (List Int)),items.size-i=n->i<=items.size->s.heap.IsTupleIter I l i->s.heap.IsTuple l items->rK G prog w s.heap S ks ->
   (∀ (j:Nat) v,items[j]?=My v->∃ k b,kk[j]?=My k/\v=.ref b/\lI prog w s.heap k b/\G k b)->ks.length<=i->(∀ k,k∈ks↔k∈kk.take i) ->
   (∀ h' tk ks',(∀ b o,b≠S->b≠I->s.heap.get? b=My o->h'.get? b=My o)->rK G prog w h' S ks'->(∀ k,k∈ks'↔k∈kk)->R (.ok (.ret .none)) {s with heap:=h',toks:=tk}) ->
   codeAny (model prog w) A (.builtin "set.update.loop" ⟨[.ref S,.ref I],[]⟩) R s:=by
 intro n;induction n using Nat.strongRecOn with
 | ind n ih =>
  intro i s ks hn hi st hl hS hv hlen hm fin;refine codeAny_builtin F.entry_set_update_loop ?_;rw[fz dQ _];have tupI:∀ {h h':Heap} {b:Addr} {o:Obj} {x:Addr} {j:Nat},h.IsTupleIter x l j->h.get? b=My o->o.cls=.type "tuple"->b≠x:=λ hit e c z=>by obtain⟨o',e',c',_⟩:=hit;rw[z,e']at e;cases e;rw[c']at c;injection c with c;exact absurd c (by decide)
  by_cases hlt:i<items.size
  ·show wpAny _ A.in1 (pyNext (.ref I)>>=_) _ _ s
   refine ae (wpAny_pyNext_tuple_item st hl (x:=items[i]) (by simp[hlt]) λ h' st' sb=>?_);obtain⟨k,b,hkk,eb,tb,gb⟩:=hv i items[i] (by simp[hlt]);rw[eb];have bI:b≠I:=by obtain⟨o,its,m,q1,q2,_⟩:=tb;exact tupI (h':=h') st q1 q2
   have S1:rK G prog w h' S ks:=hS.keep (λ o e=>(sb.2 S n1).trans e) λ c o e hc=>(sb.2 c (tupI (h':=h') st e hc)).trans e;have tb1:lI prog w h' k b:=l_ tb λ o e=>(sb.2 b bI).trans e;refine ae (bJ (Em (s:={s with heap:=h'}) hu S1 tb1 gb (by lia) λ h2 ks2 c tk sb2 S2 p2=>?_));have keep2:∀ x o,x≠S->x≠I->s.heap.get? x=My o->h2.get? x=My o:=λ x o x1 x2 e=>(sb2.2 x x1).trans ((sb.2 x x2).trans e);refine ag ⟨plainId_quiet dQ _,?_⟩;have mem2:∀ k',k'∈ks2↔k'∈kk.take (i+1):=λ k'=>by
    rw[p2.mem_iff,List.take_add_one,hkk,bh,<-hm k'];by_cases hin:k∈ks
    ·rw[ai hin];simp only[eJ,aB,bw,or_false];exact⟨.inl,λ z=>z.elim id λ z=>z▸hin⟩
    ·rw[ak hin];simp only[eJ,aB,bw,or_false];exact⟨λ z=>z.symm,λ z=>z.symm⟩
   have len2:ks2.length<=i+1:=by
    rw[p2.length_eq];split
    ·lia
    ·rw[bK];lia
   obtain⟨ol,hol,hcl,m,hdl⟩:=id hl;refine ih (n-1) (by lia) (i+1) {s with heap:=h2,toks:=tk} ks2 (by lia) hlt ?_ ⟨ol,keep2 l ol n2.symm n3 hol,hcl,m,hdl⟩ S2 (λ j v hj=>?_) len2 mem2 λ h3 tk3 ks3 kp3 S3 m3=>?_
   ·obtain⟨oI,eI,cI,dI⟩:=st';exact⟨oI,(sb2.2 I n1.symm).trans eI,cI,dI⟩
   ·obtain⟨k',b',q1,q2,q3,g3⟩:=hv j v hj
    refine⟨k',b',q1,q2,l_ q3 λ o e=>?_,g3⟩;have c1:b'≠I:=by obtain⟨o',its,m,z1,z2,_⟩:=q3;exact tupI (h':=h') st z1 z2
    have c2:b'≠S:=by rintro rfl;obtain⟨oS,es,ep,t,z1,_,z2,_⟩:=hS;obtain⟨o',its,m,y1,_,y3,_⟩:=q3;rw[z1]at y1;cases y1;rw[z2]at y3;cases y3
    exact keep2 b' o c2 c1 e
   ·exact fin h3 tk3 ks3 (λ x o x1 x2 e=>kp3 x o x1 x2 (keep2 x o x1 x2 e)) S3 m3
  ·have e:i=items.size:=by lia
   show wpAny _ A.in1 (pyNext (.ref I)>>=_) _ _ s;refine ae (wpAny_pyNext_tuple_end hh st hl (cW (fJ e.symm)) λ h' eb=>?_);show wpAny _ A.in1 (ret Value.none) _ _ _;refine ag (fin h' s.toks ks (λ x o _ x2 q=>eb x o x2 q) (hS.keep (λ o q=>eb S o n1 q) λ c o q hc=>eb c o (tupI (h':=h') st q hc) q) λ k=>?_);rw[hm k,e,<-hk,eg]
theorem AX {l:Addr}{items:Array gH}{kk:List (List Int)}{Q:gE}(hh:A.handled=SY)(hu:A.units+40<cLine)(hl:s.heap.IsTuple l items)(hk:kk.length=items.size)(h40:items.size<=40)
  (hv:∀ (j:Nat) v,items[j]?=My v->∃ k b,kk[j]?=My k/\v=.ref b/\lI prog w s.heap k b/\G k b)
  (h:∀ h' tk ks,(∀ b o,b<s.heap.objs.size->s.heap.get? b=My o->h'.get? b=My o)->rK G prog w h' s.heap.objs.size ks->(∀ k,k∈ks↔k∈kk)->Q (.ref s.heap.objs.size) {s with heap:=h',toks:=tk}) :
  wpAny (model prog w) A (call (.type "set") [.ref l]) Q E s:=by
 obtain⟨c0,tl0,hmro⟩:=cm.mro;have hmade:=cm.made;have hsub:=cm.sub;refine f_ (codeAny_of_tree ?_);show wpAny _ _ (callAny (.type "set") _) _ _ _;refine ag ⟨fQ _ (by decide +kernel),codeAny_builtin F.entry_type_call ?_⟩;rw[Around.under_plain (weight_type_call_type "set" [.ref l] []) rfl];have hnt:=cm.notType;have hcc:=cm.canCreate;have hct:=F.typeCall_set_1 (.ref l);repeat (any_goals (first | assumption | wp_step))
 refine codeAny_mono (Eo (a:=.ref l) (E:=E) (Q₁:=λ obj s₁=>obj=.ref s.heap.objs.size/\s₁={s with heap:=s.heap.push {cls:=.type "set",dict:=SY,data:=.set #[] 0 (.fresh 0 0 (!(w.params.followText "set-order")))}}) ⟨rfl,rfl⟩) λ r s₁ hr=>?_;cases r with
 | error e=>exact hr
 | ok fl =>
  cases fl with
  | ret obj =>
   obtain⟨rfl,rfl⟩:=hr;generalize hN0:({cls:=.type "set",dict:=SY,data:=.set #[] 0 (.fresh 0 0 (!(w.params.followText "set-order")))}:Obj)=N0;have hS:(s.heap.push N0).get? s.heap.objs.size=My N0:=aE _ (by rw[<-hN0];rfl);have hT:Shared.TypeIs {s with heap:=s.heap.push N0} (.ref s.heap.objs.size) "set":=⟨_,hS,by rw[<-hN0]⟩;have hli:=cm.init.lookup;have hbi:=cm.init.bind (.ref s.heap.objs.size);repeat (any_goals (first | assumption | wp_step))
   refine codeAny_mono (codeAny_call_builtin (R:=wants (λ r s₂=>r=.none/\∃ h' tk ks,s₂={s with heap:=h',toks:=tk}/\rK G prog w h' s.heap.objs.size ks/\(∀ k,k∈ks↔k∈kk)/\(∀ b o,b<s.heap.objs.size->s.heap.get? b=My o->h'.get? b=My o)) E)
    cm.init.plain F.entry_set_init (check_set_init_1 hT ?_)) λ r₂ s₂ hr₂=>?_
   ·obtain⟨ol,hol,hcl,nl,hdl⟩:=id hl
    obtain⟨ocls,odict,odata,oslots⟩:=ol;simp only at hcl hdl;subst hcl;subst hdl;have hol':(s.heap.push N0).get? l=My {cls:=.type "tuple",dict:=odict,data:=.seq items nl,slots:=oslots}:=ah _ hol;have hsls:=F.sub_tuple_set;have hslf:=F.sub_tuple_frozenset;have hne:(Value.type "tuple"==Value.type "dict")=Ta:=by decide
    have hl1:(s.heap.push N0).IsTuple l items:=⟨_,hol',rfl,nl,rfl⟩;have hS0:(s.heap.push N0).get? s.heap.objs.size=My {cls:=.type "set",dict:=SY,data:=.set #[] 0 (.fresh 0 0 (!(w.params.followText "set-order")))}:=by rw[hS,hN0]
    unfold Builtin.«set.__init__» noKeywords Builtin.Frozenset.updateFrom;generalize hPI:pyIter=PI
    wp_walk
    subst hPI;refine fK hl1 ?_;refine ae (wpAny_runValue ?_);have hlS:l<s.heap.objs.size:=ar hol;have szP:(s.heap.push N0).objs.size=s.heap.objs.size+1:=cG ..;have keep:∀ b o,s.heap.get? b=My o->((s.heap.push N0).push {cls:=.type "tuple_iterator",data:=.fields #[.ref l,.int 0 0]}).get? b=My o:=λ b o e=>ah _ (ah _ e);refine Gg (G:=G) (A:=A.in1.in1) (by simp[hh]) (dX (show A.units+3<=A.units+40 by lia) hu) hk h40 (by rw[szP];exact aM (dR _)) (bM hlS) (by rw[szP];exact aM (dE hlS)) items.size 0 _ [] (by lia) (aN _)
     ⟨_,aE _ rfl,rfl,rfl⟩ (hl1.push _) ⟨_,#[],0,.fresh 0 0 (!(w.params.followText "set-order")),ah _ hS0,⟨rfl,rfl,rfl⟩,rfl,?_,.nil,rfl,rfl,.inl ⟨rfl,aN _⟩,gA⟩ (λ j v hj=>?_) (ay _) (by simp) λ h' tk ks kp S' m'=>?_
    ·exact⟨.inl rfl,rfl,λ a b x y _ e=>by simp[SetTable.fresh]at e,λ i j e=>by simp[SetTable.fresh]at e,rfl,aN _,λ i j h e=>by simp[SetTable.fresh]at e⟩
    ·obtain⟨k,b,q1,q2,q3,g3⟩:=hv j v hj;exact⟨k,b,q1,q2,l_ q3 (λ o e=>keep b o e),g3⟩
    ·show wpAny _ _ _ _ _ _;refine ag ?_;show wpAny _ _ (ret Value.none) _ _ _;refine ag ⟨rfl,h',tk,ks,rfl,S',m',λ b o hb e=>kp b o (aM hb) (by rw[szP];exact aM (dE hb)) (keep b o e)⟩
   ·cases r₂ with
    | error e=>exact hr₂
    | ok fl₂ =>
     cases fl₂ with
     | ret r =>
      obtain⟨rfl,h',tk,ks,rfl,S',m',kp⟩:=hr₂;repeat (any_goals (first | assumption | wp_step))
      exact h _ _ _ kp S' m'
     | _=>exact hr₂.elim
  | _=>exact hr.elim
end
end Tb
namespace L2
open PySem PySem.W PySem.Spec PyProof.Rows Tb
section
variable {X:Cx}{pins:gL}{σ:St}{H:Hp}{s:gJ}
theorem Ma (I:Inv X pins σ H s){k:List Int}{b:Addr}(e:SqT X.K H b (k.map V.int)):lI X.prog X.w s.heap k b:=by obtain⟨its,r,⟨o,e1,e2,n,e3⟩,_⟩:=I.tuple e;exact⟨o,its.toArray,n,e1,e2,e3,by simpa using pD r⟩
def E1 (K:gG)(H:Hp)(vs:List V)(kk:List (List Int)):Prop:=Paired (λ v k=>∃ b,v=V.ref b/\SqT K H b (k.map V.int)) vs kk
def PQ (K:gG)(w:World)(H:Hp)(S:Addr)(ks:List (List Int)):Prop:=∃ oS es ep t,H S=My (.ext λ h=>h.get? S=My oS)/\oS.ExactSet/\oS.data=.set es ep t/\TOk t (es.toList.map (·.1))/\t.plain=S_/\t.led=!(w.params.followText "set-order")/\es.size<=76/\ks.Nodup /\
 Paired (λ k (e:Int×gH)=>∃ b,e.2=Value.ref b/\SqT K H b (k.map V.int)) ks es.toList
theorem Gh (hc:X.calm=S_)(hu:X.A.units+64<cLine):jB X (.type "set") (λ xs H Q=>∃ l vs kk,xs=[V.ref l]/\SqT X.K H l vs/\E1 X.K H vs kk/\vs.length<=40 /\
  ∀ S o ks,H S=SY->PQ X.K X.w (upd H S o) S ks->(∀ k,k∈ks↔k∈kk)->Q (.ref S) (upd H S o)):=by
 intro pins s σ H xs us Q I r h;obtain⟨l,vs,kk,rfl,hl,ht,hz,q⟩:=h;obtain⟨u,rfl,ru⟩:=vals1 r;cases ru;obtain⟨its,rv,p,_⟩:=I.tuple hl;have hlen:vs.length=its.length:=rv.length;have hkl:vs.length=kk.length:=ht.length;refine AX (G:=λ k b=>SqT X.K H b (k.map V.int)) (I.ok.hd hc) (dX (show X.A.units+40<=X.A.units+64 by lia) hu) (show s.heap.IsTuple l its.toArray from p) (kk:=kk) (by simp;lia) (by simp;lia) (λ j v hj=>?_) λ h' tk ks kp S' m'=>?_
 ·have hj:its[j]?=My v:=by simpa using hj
  have hjl:j<vs.length:=by have:=(aQ.mp hj).1;lia
  obtain⟨k,hk1,b,hb,hb2⟩:=oN ht j vs[j] (by simp[hjl]);obtain⟨u,hu1,hu2⟩:=rv.get (x:=vs[j]) (i:=j) (by simp[hjl]);rw[hj]at hu1;cases hu1;rw[hb]at hu2;cases hu2;exact⟨k,b,hk1,rfl,Ma I hb2,hb2⟩
 ·obtain⟨oS,es,ep,t,ho,hx,hd,T,En,hp,hl',hr,nd⟩:=S';have keep:∀ b u,s.heap.get? b=My u->h'.get? b=My u:=λ b u e=>kp b u (ar e) e;have hn:=I.hok.fresh (ay s.heap.objs.size);have I':Inv X pins σ (upd H s.heap.objs.size (.ext λ h=>h.get? s.heap.objs.size=My oS)) {s with heap:=h',toks:=tk}:=I.laid keep (ay _) ⟨ho,⟨_,ho⟩,λ h1 h2 a b=>b _ a⟩;refine⟨.ref s.heap.objs.size,_,I',rfl,q _ _ ks hn ⟨oS,es,ep,t,gU,hx,hd,T,hp,hl',?_,nd,nE (λ k e ⟨b,e1,_,e2⟩=>⟨b,by rw[e1],(gY.upd hn).uM e2⟩) En⟩ m'⟩;rcases hr with⟨_,z⟩ | ⟨_,z⟩ | ⟨_,z⟩<;>lia
theorem AY (hc:X.calm=S_):jB X (.builtin "sorted") (λ xs H Q=>∃ S kk,xs=[V.ref S]/\PQ X.K X.w H S (kk.map λ(k:Int×Int)=>[k.1,k.2])/\kk.length<64 /\
  ∀ p ws (ss:List (Int×Int)),H p=SY->E1 X.K H ws (ss.map λ k=>[k.1,k.2])->ss.Pairwise (λ a b=>pLt a b=S_)->ss.Perm kk->Q (.ref p) (upd H p (.lst ws))):=by
 intro pins s σ H xs us Q I r h;obtain⟨S,kk,rfl,hS,h64,q⟩:=h;obtain⟨u,rfl,ru⟩:=vals1 r;cases ru;obtain⟨oS,es,ep,t,e1,hx,hd,T,hp,hl,hz,nd,pr⟩:=hS;have hok:=I.hok S _ e1;have hS:s.heap.get? S=My oS:=hok.1;obtain⟨m,hm,_⟩:=id I.loc;have no:∀ b,(Att.jd s.heap).get? b=SY:=λ b=>cu (aN _);have hkl:kk.length=es.size:=by have:=pr.length;simpa using this
 have ndk:kk.Nodup:=by rw[aI]at nd ⊢;rw[bq]at nd;exact nd.imp λ h e=>h (by rw[e])
 obtain⟨k3,pk,pr3⟩:=vc (rg X.w S ep es).symm (pF _ pr);have hk3:k3.length=es.size:=by rw[<-pk.length_eq,hkl]
 refine dh kind_sorted plain_sorted entry_sorted (args_sorted1 _) ?_;unfold Builtin.«sorted»;refine ae (m:=checkCount "sorted" 1 1 _) (ag (ae (kdu_collect (A:=X.A.in1) (Et hx hd T hp hl) (I.ok.hd hc) hS (by rw[sizeLine_eq];lia) λ h1 tk acc hk hacc=>?_)));have hal:acc.toList.length=es.size:=by rw[bt];exact hacc.1
 have hav:∀ (j:Nat) (v:gH),acc.toList[j]?=My v->∃ hv,(seen X.w S ep es)[j]?=My (hv,v):=λ j v e=>hacc.2 j v (by rw[<-aZ];exact e);generalize acc.toList=vs at hal hav;refine ae (fv ?_ (by rw[sizeLine_eq];lia));have hL:X.env.locals<h1.objs.size:=by obtain⟨oL,_,_,ho,_⟩:=hm;exact ar (hk _ _ ho)
 have at_j:∀ j,j<es.size->∃ b,vs[j]?=My (.ref b)/\SqT X.K H b [.int (k3.getD j (0,0)).1,.int (k3.getD j (0,0)).2]:=λ j hj=>by
  obtain⟨hv,e2⟩:=hav j vs[j] (by simp[hal,hj]);have hj3:k3[j]?=My (k3.getD j (0,0)):=by rw[aG];simp[hk3,hj]
  obtain⟨y,y1,b,y2,y3⟩:=oN pr3 j _ hj3;rw[aZ,e2]at y1;cases y1;exact⟨b,by rw[<-y2];simp[hal,hj],y3⟩
 have keep1:∀ b o,s.heap.get? b=My o->(h1.push {cls:=.type "list",data:=.seq vs.toArray}).get? b=My o:=λ b o e=>ah _ (hk b o e);have F1:Fr (Att.jd s.heap) X.env.locals (h1.push {cls:=.type "list",data:=.seq vs.toArray}) m:=⟨hm.at' λ o e=>keep1 _ o e,(λ b o e=>by rw[no]at e;cases e),aN _⟩;have N1:News (Att.jd s.heap) X.env.locals (h1.push {cls:=.type "list",data:=.seq vs.toArray}) (lg (Att.jd s.heap) s.heap X.env.locals):=λ p hp=>let ⟨a,_,c⟩:=jA hp;⟨keep1 _ _ c,a,no _⟩;have hD:(h1.push {cls:=.type "list",data:=.seq vs.toArray}).get? h1.objs.size=My (listOf vs.toArray 0):=aE _ rfl;have hneD:∀ p∈lg (Att.jd s.heap) s.heap X.env.locals,p.1≠h1.objs.size:=λ p hp=>let ⟨_,_,c⟩:=jA hp;aM (ar (hk _ _ c));have fin:∀ (l:List Nat) h2 c tk2,l.Perm (Tc es.size)->(l.map λ i=>k3.getD i (0,0)).Pairwise (λ a b=>pLt b a=Ta)->Fr (Att.jd s.heap) X.env.locals h2 m->News (Att.jd s.heap) X.env.locals h2 ((h1.objs.size,listOf (List.toArray (l.map λ i=>vs.getD i Value.none)) c)::lg (Att.jd s.heap) s.heap X.env.locals) ->
   EP X pins σ Q (.ref h1.objs.size) {s with heap:=h2,toks:=tk2}:=λ l h2 c tk2 hlp hso F2 N2=>by
  have I2:Inv X pins σ H {s with heap:=h2,toks:=tk2}:=I.pE hm F2 λ p hp=>N2 p (ax _ hp);have hn:H h1.objs.size=SY:=by
   cases e:H h1.objs.size with
   | none=>rfl
   | some o =>obtain⟨o',ho'⟩:=tf (I.hok _ _ e);exact absurd (ar (hk _ _ ho')) (aW _)
  have hlt:∀ i∈l,i<es.size:=λ i hi=>aC.mp (hlp.mem_iff.mp hi);let bo:Nat->Addr:=λ i=>match vs[i]? with | some (.ref b)=>b | _=>0
  have hbo:∀ i,i<es.size->vs.getD i Value.none=.ref (bo i)/\SqT X.K H (bo i) [.int (k3.getD i (0,0)).1,.int (k3.getD i (0,0)).2]:=λ i hi=>by
   obtain⟨b,b1,b2⟩:=at_j i hi;have:bo i=b:=by show(match vs[i]? with | some (.ref b)=>b | _=>0)=b;rw[b1]
   rw[this,aG,b1];exact⟨rfl,b2⟩
  have new:jx X.prog X.w (upd H h1.objs.size (.lst (l.map λ i=>V.ref (bo i)))) h2 h1.objs.size (.lst (l.map λ i=>V.ref (bo i))) :=
   ⟨by rw[af,hlp.length_eq,bE,sizeLine_eq];lia,l.map λ i=>vs.getD i Value.none,c,lE l λ i hi=>(hbo i (hlt i hi)).1,(N2 _ av).1⟩
  have I3:Inv X pins σ (upd H h1.objs.size (.lst (l.map λ i=>V.ref (bo i)))) {s with heap:=h2,toks:=tk2}:=I2.zu hn (bC I.ok.above (d_ hL)) (bM hL) (λ x c e z=>by
    obtain⟨v,o,ho,_⟩:=I.cell x c e;exact absurd (ar (hk _ _ ho)) (by rw[z];exact aW _)) (λ p hp z=>by
    exact absurd (ar (hk _ _ (I.pin p hp).1)) (by rw[z];exact aW _)) new
  have perm2:(l.map λ i=>k3.getD i (0,0)).Perm kk:=by have:=hlp.map λ i=>k3.getD i (0,0);rw[<-hk3,jP]at this;exact this.trans pk.symm
  have ndl:(l.map λ i=>k3.getD i (0,0)).Nodup:=perm2.nodup_iff.mpr ndk;refine⟨.ref h1.objs.size,_,I3,rfl,q _ _ (l.map λ i=>k3.getD i (0,0)) hn ?_ ?_ perm2⟩
  ·rw[aP];exact lE l λ i hi=>⟨bo i,rfl,(hbo i (hlt i hi)).2⟩
  ·rw[aI]at ndl
   refine(hso.and ndl).imp λ{a b} ⟨h1,h2⟩=>?_;cases e:pLt a b with
   | true=>rfl
   | false=>exact absurd (Tb.PO.total a b e h1) h2
 refine ae (bJ ?_);by_cases h2:2<=vs.length
 ·refine rZ (X:=λ i=>k3.getD i (0,0)) F1 (λ p hp=>?_) hneD h2 (by lia) (λ h' F' N' i v hv=>?_) λ p h' c P So F2 N2=>ag ⟨_,rfl,?_⟩
  ·rcases aB.mp hp with rfl | hp
   ·exact⟨hD,bM hL,no _⟩
   ·exact N1 p hp
  ·have hi:i<es.size:=by
    have:=(aQ.mp hv).1;lia
   obtain⟨b,b1,b2⟩:=at_j i hi;rw[hv]at b1;cases b1;refine⟨b,rfl,?_⟩;have I2:Inv X pins σ H {s with heap:=h',toks:=s.toks}:=I.pE hm F' N';exact Ma I2 (k:=[_,_]) b2
  ·rw[hal]at P So
   refine fin p.toList h' c _ P.2 ?_ F2 N2;rw[bq,bQ];intro i j hi hj hij;have hjs:j<es.size:=by have:=P.size;simp at hj;lia
   have:=So i j (by lia) hjs;unfold KeyOrd.kle Kp at this;have gi:p.getD i 0=p.toList[i]:=by simp[Array.getD,show i<p.size by simpa using hi]
   have gj:p.getD j 0=p.toList[j]:=by simp[Array.getD,show j<p.size by simpa using hj]
   rw[gi,gj]at this;exact this
 ·refine r_ hD (by lia) λ h' c kp hc'=>ag ⟨_,rfl,?_⟩
  refine fin (Tc es.size) h' c _ (.refl _) ?_ ⟨F1.ns.at' λ o e=>kp _ o (aM hL) e,(λ b o e=>by rw[no]at e;cases e),aN _⟩ λ p hp=>?_
  ·have:((Tc es.size).map λ i=>k3.getD i (0,0)).length<2:=by simp;lia
   match (Tc es.size).map (λ i=>k3.getD i (0,0)),this with
   | [],_=>exact .nil
   | [a],_=>exact dU _ _
  ·rcases aB.mp hp with rfl | hp
   ·refine⟨?_,bM hL,no _⟩;rw[<-hal,jP];exact hc'
   ·exact⟨kp _ _ (hneD p hp) (N1 p hp).1,(N1 p hp).2⟩
end
end L2
namespace L2
open PySem PySem.Spec PyProof.Rows Zp Qs PySem.SeqAt
def uqP:gK->gK
 | []=>[]
 | a::r=>if a∈uqP r then uqP r else a::uqP r
set_option tactic.hygienic true in
theorem wg {t:Nat×Nat}:∀ {l:gK},t∈uqP l↔t∈l
 | []=>.rfl
 | a::r=>by
  rw[uqP,aB];split
  ·rename_i h;rw[wg (l:=r)]at h;rw[wg (l:=r)];exact⟨.inr,λ z=>z.elim (λ z=>z▸h) id⟩
  ·rw[aB,wg (l:=r)]
set_option tactic.hygienic true in
theorem AZ:∀ l:gK,(uqP l).Nodup
 | []=>gA
 | a::r=>by
  rw[uqP];split
  ·exact AZ r
  ·rename_i h;exact bc.mpr ⟨h,AZ r⟩
def ssP (l:gK):gK:=vJ (uqP l)
theorem Gi {m:gK}(hm:m.Pairwise λ a b=>mP a b=S_):m.Nodup:=by rw[aI];exact hm.imp λ{a b} h e=>by subst e;rw[kX]at h;lia
theorem KN {l m:gK}(h1:l.Nodup)(h2:m.Nodup)(h:∀ t,t∈l↔t∈m):l.Perm m:=by
 rw[List.perm_iff_count];intro a;by_cases c:a∈l
 ·rw[h1.count,h2.count,ai c,ai ((h a).mp c)]
 ·rw[h1.count,h2.count,ak c,ak λ z=>c ((h a).mpr z)]
theorem vm {m l:gK}(hm:m.Pairwise λ a b=>mP a b=S_)(h:∀ t,t∈m↔t∈l):m=ssP l :=
 zE (KN (Gi hm) (AZ l) λ t=>by rw[h,wg]) (hm.imp FV)
theorem DN (l:gK):(ssP l).Pairwise λ a b=>mP a b=S_:=by have nd:(ssP l).Nodup:=(uT _).nodup_iff.mpr (AZ l);rw[aI]at nd;exact((EM (uqP l)).and nd).imp λ⟨h1,h2⟩=>Nt h1 h2
theorem KO (l:gK):l=ssP l↔rise l=S_ :=
 ⟨λ h=>by rw[h];exact AJ (DN l),λ h=>vm (mW h) λ _=>.rfl⟩
def dSS (x:Dt):gF Dt:=(dTt x).bind λ l=>if l.length<=40 then My (.lst ((ssP l).map gX)) else SY
theorem Cj {K:gG}{H:Hp}:∀ {l:gK} {xs:List V},Iss K H xs (l.map gX)->E1 K H xs (l.map λ t=>[(t.1:Int),(t.2:Int)])
 | [],_,.nil=>.nil
 | t::r,_,.cons i is=>by obtain⟨a,ys,rfl,ha,js⟩:=i.ik;obtain⟨v0,v1,rfl,j0,j1⟩:=js.two;rw[j0.int_inv,j1.int_inv]at ha;exact .cons ⟨a,rfl,ha⟩ (Cj is)
theorem zJ {K:gG}{H:Hp}:∀ {ss:gK} {ws:List V},E1 K H ws (ss.map λ t=>[(t.1:Int),(t.2:Int)])->Iss K H ws (ss.map gX)
 | [],_,.nil=>.nil
 | t::r,_,.cons ⟨a,e,h⟩ hs=>by subst e;exact .cons (.tup h (.cons (.int _) (.cons (.int _) .nil))) (zJ hs)
section
variable {X:Cx}{e:Expr}{pos p p2 pos2:Pos}
theorem Ck {g:DE->gF Dt}(hc:X.calm=S_)(hu:X.A.units+64<cLine)(zs:X.mg "sorted"=SY)(zt:X.mg "set"=SY)(he:PD X e g)(hg1:Gl X "sorted":=by rfl)(hg2:Gl X "set":=by rfl)
  (h1:starEach [.Call (.Name "set" p2) [e] [] pos2] X.env=[(Ta,eval (.Call (.Name "set" p2) [e] [] pos2) X.env)]:=by rfl) (h2:starEach [e] X.env=[(Ta,eval e X.env)]:=by rfl) :
  PD X (.Call (.Name "sorted" p) [.Call (.Name "set" p2) [e] [] pos2] [] pos) (λ δ=>(g δ).bind dSS) :=
 (jO (AY hc) hg1 zs boot_sorted (gQ (kK (Gh hc hu) hg2 zt boot_set (gQ he g9 h2) (he:=h2) (hpl:=by rfl)) g9 h1) (he:=h1) (hpl:=by rfl)).of λ σ H Q hz=>by
  obtain⟨δ,d,S,e,q⟩:=hz;obtain⟨x,e1,e2⟩:=gP e;obtain⟨l,e3,e4⟩:=gP e2;by_cases hl:l.length<=40
  rotate_left
  ·rw[ak hl]at e4;cases e4
  rw[ai hl]at e4;cases e4;rw[v9 e3]at e1;refine⟨δ,_,S,e1,λ v H1 s1 i1=>?_⟩;obtain⟨a,xs,rfl,ha,is⟩:=i1.ik;refine⟨a,xs,_,rfl,ha,Cj is,by rw[is.length,af];exact hl,λ S o ks hS sk mem=>?_⟩;have form:(ks.map λ k=>(k.getD 0 0,k.getD 1 0)).map (λ(k:Int×Int)=>[k.1,k.2])=ks:=by
   rw[aP];conv=>rhs;rw[<-cP ks]
   refine bG λ k hk=>?_;obtain⟨t,ht,rfl⟩:=aA.mp ((mem k).mp hk);rfl
  have nd:ks.Nodup:=sk.choose_spec.choose_spec.choose_spec.choose_spec.2.2.2.2.2.2.2.1;have kl:ks.length<=40:=by have:=aD nd (l₂:=l.map λ t=>[(t.1:Int),(t.2:Int)]) λ k hk=>(mem k).mp hk;rw[af]at this;lia
  have s2:gY H1 (upd H1 S o):=gY.upd hS;refine⟨S,ks.map λ k=>(k.getD 0 0,k.getD 1 0),rfl,by rw[form];exact sk,by rw[af];lia,λ p ws ss hp tu st pm=>?_⟩;have nn:∀ k∈ss,∃ t∈l,k=((t.1:Int),(t.2:Int)):=λ k hk=>by obtain⟨z,hz,rfl⟩:=aA.mp (pm.mem_iff.mp hk);obtain⟨t,ht,rfl⟩:=aA.mp ((mem z).mp hz);exact⟨t,ht,rfl⟩
  have es:ss=(ss.map λ k=>(k.1.toNat,k.2.toNat)).map λ t=>((t.1:Int),(t.2:Int)):=by
   rw[aP];conv=>lhs;rw[<-cP ss]
   refine bG λ k hk=>?_;obtain⟨t,ht,rfl⟩:=nn k hk;simp
  have e5:ss.map (λ k=>(k.1.toNat,k.2.toNat))=ssP l:=by
   refine vm ?_ λ t=>?_
   ·rw[bq];refine st.imp_of_mem λ{a b} ha hb h=>?_;obtain⟨t,_,rfl⟩:=nn a ha;obtain⟨u,_,rfl⟩:=nn b hb;rw[Tb.pB]at h;rw[kX];simp only[bV];lia
   ·rw[aA]
    constructor
    ·rintro⟨k,hk,rfl⟩;obtain⟨t,ht,rfl⟩:=nn k hk;simpa using ht
    ·intro ht;refine⟨((t.1:Int),(t.2:Int)),pm.mem_iff.mpr (aA.mpr ⟨[(t.1:Int),(t.2:Int)],(mem _).mpr (aA.mpr ⟨t,ht,rfl⟩),rfl⟩),by simp⟩
  refine q _ _ ((s1.trans s2).trans (gY.upd hp)) (.lst gU ?_);rw[es,aP,e5]at tu;exact(zJ tu).ext (gY.upd hp)
def NO (x y:Dt):gF Dt:=(uQ x).bind λ a=>(uQ y).bind λ b=>(yM a).bind λ l=>(yM b).bind λ m=>My (.bl (!decide (l=m)))
theorem KP:∀ (l m:gK),mV (l.map gX) (m.map gX)=decide (l=m):=by
 intro l;induction l with
 | nil=>intro m;cases m<;>simp[mV]
 | cons n r ih =>
  intro m;cases m with
  | nil=>simp[mV]
  | cons k t =>rw[aR,aR,mV,ih t,tS,bj];simp
theorem KQ:∀ (l m:gK),AB (l.map gX) (m.map gX)=S_:=by
 intro l;induction l with
 | nil=>intro m;rfl
 | cons n r ih =>
  intro m;cases m with
  | nil=>rfl
  | cons k t=>rw[aR,aR,AB,ih t];rfl
theorem PR (hu:X.A.units+2<cLine):OpR X (compareOp .NotEq) (rD X.K NO):=by
 intro pins s σ H x y v u Q I rx ry hz;obtain⟨d,d',r,i,i',e,q⟩:=hz;obtain⟨a,e1,f1⟩:=gP e;obtain⟨b,e2,f2⟩:=gP f1;obtain⟨l,e3,f3⟩:=gP f2;obtain⟨m,e4,f4⟩:=gP f3;obtain rfl:=kW e1;obtain rfl:=kW e2;obtain rfl:=nG e3;obtain rfl:=nG e4;clear e f1 f2 f3 e1 e2 e3 e4;cases f4;obtain⟨p,xs,rfl,hp,is⟩:=i.lst_inv;obtain⟨p',ys,rfl,hq,js⟩:=i'.lst_inv;cases rx;cases ry;obtain⟨its,rv,t1,_⟩:=I.list (SqL.of hp);obtain⟨its',rv',t2,_⟩:=I.list (SqL.of hq);have l1:its.length=l.length:=by rw[<-rv.length,is.length,af]
 have l2:its'.length=m.length:=by rw[<-rv'.length,js.length,af]
 by_cases hl:l.length=m.length
 ·have hsz:its.toArray.size=its'.toArray.size:=by rw[au,au,l1,l2,hl]
  have:=RcNeAt.lists (A:=X.A) (s:=s) (l:=p) (b:=p') (items:=its.toArray) (items2:=its'.toArray) (e:=eAt (l.map gX) (m.map gX)) t1.isList t2.isList hsz (by lia) (rm is js rv rv' λ h1 h2 i1 i2 r1 r2=>ED I (by show X.A.units+1<cLine;lia) (tE (KQ l m) h1 h2) i1 i2 r1 r2);have ea:=oO is js rv rv';rw[hsz,Nat.min_self,beq_self_eq_true,dZ,KP]at ea;rw[hsz,ea]at this;exact this X.prog X.w X.xe _ ⟨.bl _,H,I,rfl,q _ H (gY.refl H) (.bl _)⟩
 ·have:=RcNeAt.lists_lengths (A:=X.A) (s:=s) (l:=p) (b:=p') (items:=its.toArray) (items2:=its'.toArray) t1.isList t2.isList (by rw[au,au,l1,l2];simpa using hl) (by lia);have ne:decide (l=m)=Ta:=decide_eq_false λ z=>hl (by rw[z]);rw[ne]at q;exact this X.prog X.w X.xe _ ⟨.bl _,H,I,rfl,q _ H (gY.refl H) (.bl _)⟩
def NP (x y:Dt):gF Dt:=(uQ x).bind λ a=>(uQ y).bind λ b=>(og a).bind λ l=>(og b).bind λ m=>My (.bl (decide (l=m)))
theorem PU (hu:X.A.units+2<cLine):OpR X (compareOp .Eq) (rD X.K NP):=by
 intro pins s σ H x y v u Q I rx ry hz;obtain⟨d,d',r,i,i',e,q⟩:=hz;obtain⟨a,e1,f1⟩:=gP e;obtain⟨b,e2,f2⟩:=gP f1;obtain⟨l,e3,f3⟩:=gP f2;obtain⟨m,e4,f4⟩:=gP f3;obtain rfl:=kW e1;obtain rfl:=kW e2;obtain rfl:=nh e3;obtain rfl:=nh e4;clear e f1 f2 f3 e1 e2 e3 e4;cases f4;obtain⟨p,xs,rfl,hp,is⟩:=i.lst_inv;obtain⟨p',ys,rfl,hq,js⟩:=i'.lst_inv;cases rx;cases ry;obtain⟨its,rv,t1,_⟩:=I.list (SqL.of hp);obtain⟨its',rv',t2,_⟩:=I.list (SqL.of hq);have l1:its.length=l.length:=by rw[<-rv.length,is.length,af]
 have l2:its'.length=m.length:=by rw[<-rv'.length,js.length,af]
 by_cases hl:l.length=m.length
 ·have hsz:its.toArray.size=its'.toArray.size:=by rw[au,au,l1,l2,hl]
  have:=RcAt.lists (A:=X.A) (s:=s) (l:=p) (b:=p') (items:=its.toArray) (items2:=its'.toArray) (e:=eAt (l.map .int) (m.map .int)) t1.isList t2.isList hsz (by lia) (rm is js rv rv' λ h1 h2 i1 i2 r1 r2=>EB (tw (F9 l m) h1 h2) i1 i2 r1 r2);have ea:=oO is js rv rv';rw[hsz,Nat.min_self,beq_self_eq_true,dZ,F_]at ea;rw[hsz,ea]at this;exact this X.prog X.w X.xe _ ⟨.bl _,H,I,rfl,q _ H (gY.refl H) (.bl _)⟩
 ·have:=RcAt.lists_lengths (A:=X.A) (s:=s) (l:=p) (b:=p') (items:=its.toArray) (items2:=its'.toArray) t1.isList t2.isList (by rw[au,au,l1,l2];simpa using hl) (by lia);have ne:decide (l=m)=Ta:=decide_eq_false λ z=>hl (by rw[z]);rw[ne]at q;exact this X.prog X.w X.xe _ ⟨.bl _,H,I,rfl,q _ H (gY.refl H) (.bl _)⟩
end
section
variable {X:Cx}{a k:Expr}{pos p2:Pos}
theorem xN {K:gG}{H:Hp}:∀ {vs:List V} {ds:List Dt},Iss K H vs ds->∀ k,Iss K H (vs.drop k) (ds.drop k)
 | _,_,i,0=>by rw[List.drop_zero,List.drop_zero];exact i
 | _,_,.nil,_+1=>.nil
 | _,_,.cons i is,k+1=>xN is k
theorem Gj (xs:List V)(k:Nat):vE xs (My (k:Int)) SY=xs.drop k:=by
 unfold vE;rw[HT.wN,HT.nV];by_cases h:k<=xs.length
 ·rw[fH h,dY (by rw[cz];exact ay _)]
 ·rw[fq (by lia),Nat.sub_self,List.take_zero,List.drop_eq_nil_of_le (by lia)]
def dTk:Dt->Dt->gF Dt
 | .tup ds,.int i=>if 0<=i then My (.tup (ds.take i.toNat)) else SY
 | _,_=>SY
def dDp:Dt->Dt->gF Dt
 | .tup ds,.int i=>if 0<=i then My (.tup (ds.drop i.toNat)) else SY
 | _,_=>SY
theorem m7 {ga gk:DE->gF Dt}(ha:PD X a ga)(hk:PD X k gk):PD X (.Subscript a (.Slice SY (My k) SY p2) pos) (g_ dTk ga gk) :=
 (wO (C4.or AN) ha Ac (Ad hk)).of λ σ H Q hz1=>by
  obtain⟨δ,d,S,e,q⟩:=hz1;obtain⟨x,e1,e2⟩:=gP e;obtain⟨y,e3,e4⟩:=gP e2;match x,y,e4 with
  | .tup ds,.int i,e4 =>
   by_cases h0:0<=i
   rotate_left
   ·exact absurd ((ak h0).symm.trans e4) (λ z=>by cases z)
   have e4:My (Dt.tup (ds.take i.toNat))=My d:=(ai h0).symm.trans e4;cases e4;obtain⟨n,rfl⟩:∃ n:Nat,i=n:=⟨i.toNat,by lia⟩;refine⟨δ,_,S,e1,λ v H1 s1 i1=>⟨δ,_,S.ext s1,e3,λ v2 H2 s2 i2=>?_⟩⟩;rw[i2.int_inv];obtain⟨p,xs,rfl,hp,is⟩:=(i1.ext s2).ik;refine⟨n,rfl,?_⟩;rw[bV]at q;by_cases c:xs.length<=n
   ·refine .inr ⟨p,xs,rfl,hp,⟨rfl,by rw[HT.nV];lia⟩,q _ _ (s1.trans s2) (.tup hp ?_)⟩;have:=xG is n;rw[dY c]at this;exact this
   ·refine .inl ⟨p,xs,rfl,hp,?_,λ p' hp'=>?_⟩
    ·rintro⟨_,z⟩;rw[HT.nV]at z;lia
    ·refine q _ _ ((s1.trans s2).trans (gY.upd hp')) (.tup (SqT.of gU) ?_);rw[F8];exact(xG is n).ext (gY.upd hp')
theorem ou {ga gk:DE->gF Dt}(ha:PD X a ga)(hk:PD X k gk):PD X (.Subscript a (.Slice (My k) SY SY p2) pos) (g_ dDp ga gk) :=
 (wO (C4.or AN) ha (Ad hk) Ac).of λ σ H Q hz1=>by
  obtain⟨δ,d,S,e,q⟩:=hz1;obtain⟨x,e1,e2⟩:=gP e;obtain⟨y,e3,e4⟩:=gP e2;match x,y,e4 with
  | .tup ds,.int i,e4 =>
   by_cases h0:0<=i
   rotate_left
   ·exact absurd ((ak h0).symm.trans e4) (λ z=>by cases z)
   have e4:My (Dt.tup (ds.drop i.toNat))=My d:=(ai h0).symm.trans e4;cases e4;obtain⟨n,rfl⟩:∃ n:Nat,i=n:=⟨i.toNat,by lia⟩;refine⟨δ,_,S,e1,λ v H1 s1 i1=>⟨δ,_,S.ext s1,e3,λ v2 H2 s2 i2=>?_⟩⟩;rw[i2.int_inv];obtain⟨p,xs,rfl,hp,is⟩:=(i1.ext s2).ik;refine⟨n,rfl,?_⟩;rw[bV]at q;by_cases c:n=0\/xs=[]
   ·refine .inr ⟨p,xs,rfl,hp,⟨by rw[HT.nV];rcases c with rfl | rfl<;>simp,rfl⟩,q _ _ (s1.trans s2) (.tup hp ?_)⟩
    have:=xN is n;have e:xs.drop n=xs:=by rcases c with rfl | rfl<;>simp
    rw[e]at this;exact this
   ·refine .inl ⟨p,xs,rfl,hp,?_,λ p' hp'=>?_⟩
    ·rintro⟨z,_⟩
     rw[HT.nV]at z;have:xs.length=0\/n=0:=by lia
     rcases this with h | h
     ·exact c (.inr (cB h))
     ·exact c (.inl h)
    ·refine q _ _ ((s1.trans s2).trans (gY.upd hp')) (.tup (SqT.of gU) ?_);rw[Gj];exact(xN is n).ext (gY.upd hp')
def PV (K:gG):R2:=λ x y H Q=>∃ a b ys,x=.ref a/\y=.ref b/\SqT K H a []/\SqT K H b ys/\Q (.ref b) H
theorem KR:OpR X (binaryOp .Add) (PV X.K):=by
 intro pins s σ H x y v u Q I rx ry h;obtain⟨a,b,ys,rfl,rfl,ha,hb,q⟩:=h;cases rx;cases ry;obtain⟨its,r1,⟨⟨cls,dd,data,sl⟩,ho,hc,n,hd⟩,_⟩:=I.tuple ha;obtain⟨its2,r2,⟨⟨cls2,dd2,data2,sl2⟩,ho2,hc2,n2,hd2⟩,_⟩:=I.tuple hb;cases r1;simp only at hc hd hc2 hd2;subst hc hd hc2 hd2;exact concat_meets ⟨_,ho,rfl⟩ ⟨_,ho2,rfl⟩ noFill_tuple_add seq_tuple_add eS eO (eu _ _)
  (tuple_addW0 a b _ its2.toArray n n2 dd dd2 sl sl2 rfl) ⟨ho,ho2,⟨.ref b,H,I,rfl,q⟩⟩
def kA (x y:Dt):gF Dt:=(Dv x).bind λ ds=>(Dv y).bind λ es=>if ds.length+es.length<=1000 then My (.tup (ds++es)) else SY
theorem kG:OpR X (binaryOp .Add) (rD X.K kA):=by
 intro pins s σ H x y v u Q I rx ry hz;obtain⟨d,d',r,i,i',e,q⟩:=hz;obtain⟨ds,e1,f1⟩:=gP e;obtain⟨es,e2,f2⟩:=gP f1;obtain rfl:=oR e1;obtain rfl:=oR e2;by_cases hc:ds.length+es.length<=1000
 rotate_left
 ·rw[ak hc]at f2;cases f2
 rw[ai hc]at f2;cases f2;obtain⟨p,xs,rfl,hp,is⟩:=i.ik;obtain⟨p',ys,rfl,hq,js⟩:=i'.ik;by_cases h0:xs=[]
 ·subst h0;cases is;exact KR pins s σ H _ _ v u Q I rx ry ⟨p,p',ys,rfl,rfl,hp,hq,q _ H (gY.refl H) i'⟩
 ·refine JE pins s σ H _ _ v u Q I rx ry ⟨p,p',xs,ys,rfl,rfl,hp,hq,h0,rl (by rw[is.length,js.length];exact hc),λ h=>?_,λ _ p2 hp2=>?_⟩
  ·subst h;cases js;rw[bA]at q;exact q _ H (gY.refl H) i
  ·exact q _ _ (gY.upd hp2) (.tup (SqT.of gU) ((is.append js).ext (gY.upd hp2)))
end
end L2
namespace L2
open PySem PySem.Spec PyProof.Rows Zp Qs
def mH (F:List Nat)(t:Nat×Nat):List Nat:=if t.1∈F\/t.2∈F then F++[t.1,t.2].filter λ x=>!decide (x∈F) else F
def qq (l:gK)(F:List Nat):List Nat:=l.foldl mH F
def ow (l:gK):Nat->List Nat->List Nat
 | 0,F=>F
 | n+1,F=>ow l n (qq l F)
def Clo (l:gK)(F:List Nat):Prop:=∀ t∈l,t.1∈F↔t.2∈F
theorem zK (F:List Nat)(t:Nat×Nat):∃ r,mH F t=F++r:=by
 unfold mH;split
 ·exact⟨_,rfl⟩
 ·exact⟨[],(bA F).symm⟩
theorem uh:∀ (l:gK) (F:List Nat),∃ r,qq l F=F++r
 | [],F=>⟨[],(bA F).symm⟩
 | t::l,F=>by obtain⟨r1,e1⟩:=zK F t;obtain⟨r2,e2⟩:=uh l (mH F t);exact⟨r1++r2,by show qq l (mH F t)=_;rw[e2,e1,bW]⟩
theorem xO {F:List Nat}{t:Nat×Nat}:mH F t=F↔(t.1∈F↔t.2∈F):=by unfold mH;by_cases h1:t.1∈F<;>by_cases h2:t.2∈F<;>simp[h1,h2]
theorem rG:∀ {l:gK} {F:List Nat},qq l F=F↔Clo l F
 | [],F=>⟨λ _ t h=>(nomatch h),λ _=>rfl⟩
 | t::l,F=>by
  constructor
  ·intro h
   obtain⟨r1,e1⟩:=zK F t;obtain⟨r2,e2⟩:=uh l (mH F t);have h:qq l (mH F t)=F:=h;have e3:F++(r1++r2)=F:=by rw[<-bW,<-e1,<-e2,h]
   have e4:r1++r2=[]:=by simpa using e3
   have e5:r1=[]:=(List.append_eq_nil_iff.mp e4).1;rw[e5,bA]at e1;rw[e1]at h;intro u hu;rcases aB.mp hu with rfl | hu
   ·exact xO.mp e1
   ·exact rG.mp h u hu
  ·intro h;have e1:=xO.mpr (h t av);show qq l (mH F t)=F;rw[e1];exact rG.mpr λ u hu=>h u (ax _ hu)
theorem zL {l:gK}{F:List Nat}(h:Clo l F):∀ k,ow l k F=F
 | 0=>rfl
 | k+1=>by show ow l k (qq l F)=F;rw[rG.mpr h,zL h k]
theorem xQ {l:gK}:∀ (k:Nat) (F:List Nat),Clo l (ow l k F)\/F.length+k<=(ow l k F).length
 | 0,F=>.inr (ay _)
 | k+1,F=>by
  by_cases c:qq l F=F
  ·left;have:=rG.mp c;show Clo l (ow l k (qq l F));rw[c,zL this];exact this
  ·obtain⟨r,e⟩:=uh l F
   have:1<=r.length:=by
    cases r with
    | nil=>rw[bA]at e;exact absurd e c
    | cons _ _=>simp
   have le:F.length+1<=(qq l F).length:=by rw[e,aH];lia
   rcases xQ k (qq l F) with h | h
   ·exact .inl h
   ·right;show _<=(ow l k (qq l F)).length;lia
theorem Cm {F:List Nat}{t:Nat×Nat}(h:F.Nodup)(ne:t.1≠t.2):(mH F t).Nodup:=by
 unfold mH;split
 ·refine List.nodup_append.mpr ⟨h,?_,λ a ha b hb e=>?_⟩
  ·exact fy _ (bc.mpr ⟨by simpa using ne,by simp⟩)
  ·have:=(aS.mp hb).2;simp at this;exact this (e▸ha)
 ·exact h
set_option tactic.hygienic true in
theorem Cn {F:List Nat}{t:Nat×Nat}{S:Nat->Prop}(h:∀ x∈F,S x)(ht:S t.1↔S t.2):∀ x∈mH F t,S x:=by
 unfold mH;split
 ·rename_i c
  intro x hx;rcases bh.mp hx with hx | hx
  ·exact h x hx
  ·have:=(aS.mp hx).1
   have both:S t.1/\S t.2:=by
    rcases c with c | c
    ·exact⟨h _ c,ht.mp (h _ c)⟩
    ·exact⟨ht.mpr (h _ c),h _ c⟩
   simp at this;rcases this with rfl | rfl
   ·exact both.1
   ·exact both.2
 ·exact h
theorem A0:∀ {l:gK} {F:List Nat},F.Nodup->(∀ t∈l,t.1≠t.2)->(qq l F).Nodup
 | [],F,h,_=>h
 | t::l,F,h,ne=>A0 (l:=l) (Cm h (ne t av)) λ u hu=>ne u (ax _ hu)
theorem A1 {S:Nat->Prop}:∀ {l:gK} {F:List Nat},(∀ x∈F,S x)->(∀ t∈l,S t.1↔S t.2)->∀ x∈qq l F,S x
 | [],F,h,_=>h
 | t::l,F,h,ht=>A1 (l:=l) (Cn h (ht t av)) λ u hu=>ht u (ax _ hu)
theorem Co {l:gK}(ne:∀ t∈l,t.1≠t.2):∀ (k:Nat) {F:List Nat},F.Nodup->(ow l k F).Nodup
 | 0,_,h=>h
 | k+1,_,h=>Co ne k (A0 h ne)
theorem xS {l:gK}{S:Nat->Prop}(ht:∀ t∈l,S t.1↔S t.2):∀ (k:Nat) {F:List Nat},(∀ x∈F,S x)->∀ x∈ow l k F,S x
 | 0,_,h=>h
 | k+1,_,h=>xS ht k (A1 h ht)
theorem zM {l:gK}:∀ (k:Nat) (F:List Nat),∃ r,ow l k F=F++r
 | 0,F=>⟨[],(bA F).symm⟩
 | k+1,F=>by obtain⟨r1,e1⟩:=uh l F;obtain⟨r2,e2⟩:=zM k (qq l F);exact⟨r1++r2,by show ow l k (qq l F)=_;rw[e2,e1,bW]⟩
def m9 (l:gK)(n p:Nat):List Nat:=ow l n [p]
section
variable {l:gK}{n p:Nat}(ok:∀ t∈l,t.1<t.2/\t.2<n)(hp:p<n)
include ok hp
theorem DO:(m9 l n p).Nodup:=Co (λ t ht=>by have:=ok t ht;lia) n (by simp)
theorem II:∀ x∈m9 l n p,x<n:=xS (S:=λ x=>x<n) (λ t ht=>by have:=ok t ht;constructor<;>(intro _;lia)) n (by simpa using hp)
omit ok hp in
theorem Cp:p∈m9 l n p:=by obtain⟨r,e⟩:=zM (l:=l) n [p];show p∈ow l n [p];rw[e];simp
theorem E2:(m9 l n p).length<=n:=by have:=aD (DO ok hp) (l₂:=Tc n) λ x hx=>aC.mpr (II ok hp x hx);simpa using this
theorem E3:Clo l (m9 l n p):=by
 rcases xQ (l:=l) n [p] with h | h
 ·exact h
 ·have:=E2 ok hp;have h:1+n<=(m9 l n p).length:=h;lia
omit ok hp in
theorem IJ {S:Nat->Prop}(ht:∀ t∈l,S t.1↔S t.2)(h0:S p):∀ x∈m9 l n p,S x:=xS ht n (by simpa using h0)
end
abbrev jY:=kF
abbrev la:=nA
def ji:DE->gF RD:=(lx (oD (sg (kC (gTr (iP kY (gN (gR 1) (gN (gC (.ty "tuple")) gS))))) (sg (gB (g_ mD (iP qF (gN (gR 1) gS)) (gC (.int 2)))) (kC (gTr (iP xo (gN (gLC ["_law_one"] [] (gI kz (gR 1)) (ggN 0) lY (hZ 1 jY (gN (gR 0) gS))) gS)))))) (kN (gC (.bl Ta))) ky) (kN (AW (dIB λ i j=>decide (i<=j)) (dIB λ i j=>decide (i<j)) (dIB λ i j=>decide (i<j)) (gC (.int 0)) (g_ dIx (gR 1) (gC (.int 0))) (g_ dIx (gR 1) (gC (.int 1))) (gR 0))))
abbrev yS:List Str:=["_law_many","_law_thing"]
theorem IK {d:Dt}(h:kdB d=S_):jY [d]=My (.bl (whB d)):=by obtain⟨k,e⟩:=qO h;show((mR d).map λ _=>Dt.bl (whB d))=_;rw[e];rfl
set_option tactic.hygienic true in
theorem xU:Hg 2 yS la ji:=by
 intro ds d hl h;obtain⟨m,x,rfl,h1⟩:=oQ h;obtain⟨n,e0,h2⟩:=gP h1;clear h h1;by_cases hx:kT x=S_
 rotate_left
 ·rw[ak hx]at h2;cases h2
 rw[ai hx]at h2;cases h2;rw[mE e0];refine⟨.rt (.bl (jG n x)),?_,rfl⟩;match x,hx with
 | .tup [a,b],hx =>
  have ka:kdB a=S_:=by simp[kT]at hx;exact hx.1
  have kb:kdB b=S_:=by simp[kT]at hx;exact hx.2
  have wa:=IK ka;have wb:=IK kb;have iT:kY [.tup [a,b],.ty "tuple"]=My (.bl S_):=rfl;have ln:qF [.tup [a,b]]=My (.int 2):=rfl;have lc:si (ggN 0) lY (hZ 1 jY (gN (gR 0) gS)) [SY] [a,b]=My [.bl (whB a),.bl (whB b)]:=by
   have:=tJ (enc:=id) (gg:=ggN 0) (ge:=hZ 1 jY (gN (gR 0) gS)) (δc:=[SY]) (δa:=λ d=>[My d]) (enc':=λ d=>.bl (whB d)) [a,b] λ d hd=>⟨rfl,by
    rcases aB.mp hd with rfl | hd
    ·simp[wa]
    ·rw[bp.mp hd];simp[wb]⟩
   exact this
  have al:xo [.lst [.bl (whB a),.bl (whB b)]]=My (.bl (whB a&&whB b)):=by show My (Dt.bl (whB a&&(whB b&&S_)))=_;rw[dZ]
  show ji [My (.int n),My (.tup [a,b])]=_;by_cases c:(whB a&&whB b)=S_
  ·rw[c]at al
   rw[aL]at c;cases a<;>first | (cases c.1;done) | skip
   cases b<;>first | (cases c.2;done) | skip
   rename_i i j;have i0:dIx (.tup [.int i,.int j]) (.int 0)=My (.int i):=rfl;have i1:dIx (.tup [.int i,.int j]) (.int 1)=My (.int j):=rfl;have e:jG n (.tup [.int i,.int j])=decide (0<=i/\i<j/\j<n):=rfl;rw[e];by_cases c1:0<=i
   ·by_cases c2:i<j
    ·by_cases c3:j<n<;>simp[ji,iT,ln,lc,al,i0,i1,c1,c2,c3]
    ·simp[ji,iT,ln,lc,al,i0,i1,c1,c2]
   ·simp[ji,iT,ln,lc,al,i0,i1,c1]
  ·have e:jG n (.tup [a,b])=Ta:=by
    cases a<;>first | rfl | skip
    cases b<;>first | rfl | skip
    exact absurd rfl c
   rw[bx]at c;rw[c]at al;rw[e];simp[ji,iT,ln,lc,al]
 | .tup [],_=>rfl
 | .tup [a],_=>cases a<;>rfl
 | .tup (a::b::c::r),hx =>
  have iT:kY [.tup (a::b::c::r),.ty "tuple"]=My (.bl S_):=rfl;have ln:qF [.tup (a::b::c::r)]=My (.int ((r.length:Int)+3)):=by show My (Dt.int (((a::b::c::r).length:Nat):Int))=_;simp;lia
  have ne:¬ ((r.length:Int)+3=2):=by lia
  have e:jG n (.tup (a::b::c::r))=Ta:=by cases a<;>first | rfl | (cases b<;>rfl)
  rw[e];show ji [My (.int n),My (.tup (a::b::c::r))]=_;generalize (r.length:Int)+3=z,Dt.tup (a::b::c::r)=t at *;simp[ji,iT,ln,ne]
 | .non,_=>rfl
 | .bl _,_=>rfl
 | .int _,_=>rfl
 | .str _,_=>rfl
 | .lst _,_=>rfl
 | .dct _,_=>rfl
theorem ui {g g':DE->gF RD}{δ δ':DE}(h:g δ=My (.nx δ')):lx g g' δ=g' δ':=by unfold lx;rw[h];rfl
def mB:DE->gF RD:=(oD (sg (gB (g_ (dIn Ta) (gR 5) (gR 3))) (gB (g_ (dIn Ta) (gR 6) (gR 3)))) (kU 3 (g_ rM (gR 3) (gLC ["_law_place"] [3] (gI kz (iZ (gN (gR 5) (gN (gR 6) gS)))) (ggN 0) (gB (g_ (dIn S_) (gR 0) (gR 1))) (gR 0)))) ky)
def pU:DE->gF RD:=(lx (kU 3 (lX (gN (gR 2) gS))) (lx (BK (oU (gN (gR 0) gS)) (ggN 4) (BK (gI kz (gR 1)) (pI 5 6) mB)) (kN (iP (tI srt) (gN (gR 3) gS)))))
abbrev DP:List Str:=["_law_many","_law_ties","_law_first","_law_found","_law_turn","_law_one","_law_other"]
def mh:List Dt->gF Dt
 | [x,y,z]=>(jD x).bind λ n=>(dTs y).bind λ l=>(jD z).bind λ p=>if (n<=8/\p<n)/\(l.length<=1000/\∀ t∈l,t.1<t.2/\t.2<n) then My (.lst ((srt ((m9 l n p).map λ(k:Nat)=>(k:Int))).map .int)) else SY
 | _=>SY
theorem xV (neg:Bool)(k:Nat)(l:List Nat):dIn neg (gO k) (.lst (l.map gO))=My (.bl (if neg then !decide (k∈l) else decide (k∈l))):=EU neg k l
theorem PY {F:List Nat}{a b:Nat}(hF:F.length<=900)(x0 x1 x2 x4:gF Dt):mB [x0,x1,x2,My (.lst (F.map gO)),x4,My (gO a),My (gO b)]=My (.nx [x0,x1,x2,My (.lst ((mH F (a,b)).map gO)),x4,My (gO a),My (gO b)]):=by
 have ia:=xV Ta a F;have ib:=xV Ta b F;rw[ak aw]at ia ib;have lc:=jy (enc:=gO) (gg:=ggN 0) (gt:=gB (g_ (dIn S_) (gR 0) (gR 1))) (ge:=gR 0) (δc:=[SY,My (.lst (F.map gO))]) (δa:=λ k=>[My (gO k),My (.lst (F.map gO))]) (p:=λ x=>!decide (x∈F)) (enc':=gO) [a,b] λ k _=>⟨rfl,by have:=xV S_ k F;rw[ai rfl]at this;generalize gO k=nk,Dt.lst (F.map gO)=fl at *;simp[this],λ _=>rfl⟩
 have lc:si (ggN 0) (gB (g_ (dIn S_) (gR 0) (gR 1))) (gR 0) [SY,My (.lst (F.map gO))] [gO a,gO b]=My (([a,b].filter λ x=>!decide (x∈F)).map gO):=lc;have le:([a,b].filter λ x=>!decide (x∈F)).length<=2:=bZ _ _;have ct:rM (.lst (F.map gO)) (.lst (([a,b].filter λ x=>!decide (x∈F)).map gO))=My (.lst ((F++[a,b].filter λ x=>!decide (x∈F)).map gO)):=by show(if (F.map gO).length+(([a,b].filter λ x=>!decide (x∈F)).map gO).length<=1000 then My (Dt.lst (F.map gO++([a,b].filter λ x=>!decide (x∈F)).map gO)) else SY)=_;rw[ai (by rw[af,af];lia),aY]
 unfold mH;by_cases c:a∈F\/b∈F
 ·rw[ai c]
  generalize gO b=nb,gO a=na,Dt.lst (F.map gO)=fl,([a,b].filter λ x=>!decide (x∈F)).map gO=r2,Dt.lst ((F++[a,b].filter λ x=>!decide (x∈F)).map gO)=r at *;by_cases c1:a∈F
  ·rw[decide_eq_true c1]at ia;simp[mB,ia,lc,ct]
  ·have c2:b∈F:=c.resolve_left c1;rw[decide_eq_false c1]at ia;rw[decide_eq_true c2]at ib;simp[mB,ia,ib,lc,ct]
 ·rw[ak c];have c1:a∉F:=λ z=>c (.inl z);have c2:b∉F:=λ z=>c (.inr z);rw[decide_eq_false c1]at ia;rw[decide_eq_false c2]at ib;generalize gO b=nb,gO a=na,Dt.lst (F.map gO)=fl at *;simp[mB,ia,ib]
theorem NQ {F:List Nat}{n:Nat}(h:F.Nodup)(hl:∀ x∈F,x<n):F.length<=n:=by have:=aD h (l₂:=Tc n) λ x hx=>aC.mpr (hl x hx);simpa using this
theorem zN {n:Nat}(h8:n<=8)(x0 x1 x2 x4:gF Dt):∀ (ts:gK) (F:List Nat) (x5 x6:gF Dt),(∀ t∈ts,t.1<t.2/\t.2<n)->F.Nodup->(∀ x∈F,x<n) ->
  ∃ y5 y6,n_ (pI 5 6) mB [x0,x1,x2,My (.lst (F.map gO)),x4,x5,x6] (ts.map gX)=My (.nx [x0,x1,x2,My (.lst ((qq ts F).map gO)),x4,y5,y6])
 | [],F,x5,x6,_,_,_=>⟨x5,x6,rfl⟩
 | t::ts,F,x5,x6,ok,nd,lt=>by have st:=PY (F:=F) (a:=t.1) (b:=t.2) (by have:=NQ nd lt;lia) x0 x1 x2 x4;have o1:=ok t av;obtain⟨y5,y6,ih⟩:=zN h8 x0 x1 x2 x4 ts (mH F t) (My (gO t.1)) (My (gO t.2)) (λ u hu=>ok u (ax _ hu)) (Cm nd (by lia)) (Cn (S:=λ x=>x<n) lt (by constructor<;>(intro _;lia)));refine⟨y5,y6,?_⟩;rw[aR,n_];show(mB [x0,x1,x2,My (.lst (F.map gO)),x4,My (gO t.1),My (gO t.2)]).bind _=_;rw[st,aq];exact ih
theorem zO {n:Nat}(h8:n<=8){l:gK}(ok:∀ t∈l,t.1<t.2/\t.2<n)(y:Dt)(hy:kz y=My (l.map gX))(hl:l.length<=1000)(x0 x2:gF Dt):∀ (ks:List Nat) (F:List Nat) (x4 x5 x6:gF Dt),F.Nodup->(∀ x∈F,x<n) ->
  ∃ y4 y5 y6,n_ (ggN 4) (BK (gI kz (gR 1)) (pI 5 6) mB) [x0,My y,x2,My (.lst (F.map gO)),x4,x5,x6] (ks.map gO)=My (.nx [x0,My y,x2,My (.lst ((ow l ks.length F).map gO)),y4,y5,y6])
 | [],F,x4,x5,x6,_,_=>⟨x4,x5,x6,rfl⟩
 | k::ks,F,x4,x5,x6,nd,lt=>by obtain⟨z5,z6,st⟩:=zN h8 x0 (My y) x2 (My (gO k)) l F x5 x6 ok nd lt;obtain⟨y4,y5,y6,ih⟩:=zO h8 ok y hy hl x0 x2 ks (qq l F) (My (gO k)) z5 z6 (A0 nd λ t ht=>by have:=ok t ht;lia) (A1 (S:=λ x=>x<n) lt λ t ht=>by have:=ok t ht;constructor<;>(intro _;lia));refine⟨y4,y5,y6,?_⟩;rw[aR,n_];show(((My y).bind kz).bind λ ds=>n_ (pI 5 6) mB [x0,My y,x2,My (.lst (F.map gO)),My (gO k),x5,x6] ds).bind _=_;rw[aq,hy,aq,st,aq];exact ih
theorem IL {R:List Nat}(h:R.length<64):tI srt [.lst (R.map gO)]=My (.lst ((srt (R.map λ(k:Nat)=>(k:Int))).map .int)):=by
 have e:R.map gO=(R.map λ(k:Nat)=>(k:Int)).map Dt.int:=by rw[aP];rfl
 show(if (R.map gO).length<64 then (og (R.map gO)).map λ l=>Dt.lst ((srt l).map .int) else SY)=_;rw[ai (by rw[af];exact h),e,rn];rfl
theorem Gk {y:Dt}{l:gK}(h:dTs y=My l):kz y=My (l.map gX):=by
 obtain⟨ds,e1,e2⟩:=gP h;rw[nG e2]at e1;cases y<;>first | (cases e1;done) | skip
 all_goals (cases e1;rfl)
theorem Cq:Hg 3 DP mh pU:=by
 intro ds d hl h;match ds,h with
 | [x,y,z],h =>
  obtain⟨n,e1,h⟩:=gP (show(jD x).bind _=_ from h);obtain⟨l,e2,h⟩:=gP h;obtain⟨p,e3,h⟩:=gP h;by_cases hc:(n<=8/\p<n)/\(l.length<=1000/\∀ t∈l,t.1<t.2/\t.2<n)
  rotate_left
  ·rw[ak hc]at h;cases h
  rw[ai hc]at h;cases h;obtain⟨⟨h8,hp⟩,hl,ok⟩:=hc;rw[ju e1,ju e3];have r1:BH [gO n]=My ((Tc n).map gO):=BW (n:=n) (by lia);obtain⟨y4,y5,y6,lp⟩:=zO h8 ok y (Gk e2) hl (My (gO n)) (My (gO p)) (Tc n) [p] SY SY SY (by simp) (by simpa using hp);rw[bE]at lp;have sr:=IL (R:=m9 l n p) (by have:=E2 ok hp;lia);refine⟨.rt (.lst ((srt ((m9 l n p).map λ(k:Nat)=>(k:Int))).map .int)),?_,rfl⟩;show pU [My (gO n),My y,My (gO p),SY,SY,SY,SY]=_;have lp:n_ (ggN 4) (BK (gI kz (gR 1)) (pI 5 6) mB) [My (gO n),My y,My (gO p),My (.lst [gO p]),SY,SY,SY] ((Tc n).map gO)=My (.nx [My (gO n),My y,My (gO p),My (.lst ((m9 l n p).map gO)),y4,y5,y6]):=lp;generalize gO p=np,gO n=nn,(Tc n).map gO=rr,Dt.lst ((m9 l n p).map gO)=ff,Dt.lst ((srt ((m9 l n p).map λ(k:Nat)=>(k:Int))).map .int)=res at *;unfold pU;rw[ui (show kU 3 (lX (gN (gR 2) gS)) [My nn,My y,My np,SY,SY,SY,SY]=My (.nx [My nn,My y,My np,My (.lst [np]),SY,SY,SY]) by simp)];rw[ui (δ':=[My nn,My y,My np,My ff,y4,y5,y6]) (by show(((gN (gR 0) gS) [My nn,My y,My np,My (.lst [np]),SY,SY,SY]).bind BH).bind _=_;rw[show(gN (gR 0) gS) [My nn,My y,My np,My (.lst [np]),SY,SY,SY]=My [nn] from rfl,aq,r1,aq];exact lp)];simp[sr]
theorem E4 {l m:List Int}(h:l.Perm m)(hs:l.Pairwise (·<=·)):l=srt m :=
 List.Perm.eq_of_pairwise (le:=λ a b:Int=>decide (a<=b)) (λ a b _ _ h1 h2=>by simp at h1 h2;lia) (hs.imp λ h=>by simpa using h) ((nF m).imp λ h=>by simpa using h) (h.trans (lK m).symm)
theorem A2 (n:Nat):((Tc n).map λ(k:Nat)=>(k:Int)).Pairwise (·<=·):=by rw[bq];exact eV.imp λ h=>by lia
theorem Cr {l m:List Nat}(h1:l.Nodup)(h2:m.Nodup)(h:∀ t,t∈l↔t∈m):l.Perm m:=by
 rw[List.perm_iff_count];intro a;by_cases c:a∈l
 ·rw[h1.count,h2.count,ai c,ai ((h a).mp c)]
 ·rw[h1.count,h2.count,ak c,ak λ z=>c ((h a).mpr z)]
theorem IM {l:gK}{n:Nat}(ok:∀ t∈l,t.1<t.2/\t.2<n)(h0:0<n):srt ((m9 l n 0).map λ(k:Nat)=>(k:Int))=(Tc n).map (λ(k:Nat)=>(k:Int))↔Pu l n:=by
 constructor
 ·intro h S s0 cl v hv
  refine IJ (l:=l) (n:=n) cl s0 v ?_;have:(v:Int)∈srt ((m9 l n 0).map λ(k:Nat)=>(k:Int)):=by rw[h];exact aA.mpr ⟨v,aC.mpr hv,rfl⟩
  obtain⟨k,hk,e⟩:=aA.mp ((lK _).mem_iff.mp this);have:k=v:=by lia
  exact this▸hk
 ·intro h;symm;refine E4 ?_ (A2 n);refine(Cr cp (DO ok h0) λ t=>?_).map _;rw[aC];exact⟨λ ht=>h (·∈m9 l n 0) Cp (E3 ok h0) t ht,II ok h0 t⟩
def shW:Dt->Bool
 | .tup [_,.tup ts]=>decide (ts.length<=40)
 | _=>S_
def jb:List Dt->gF Dt:=sj λ x=>if okW x=S_/\shW x=S_ then My (.bl (kO x)) else SY
def iU:DE->gF RD:=(lx (oD (sg (kC (gTr (iP kY (gN (gR 0) (gN (gC (.ty "tuple")) gS))))) (sg (gB (g_ mD (iP qF (gN (gR 0) gS)) (gC (.int 2)))) (sg (kC (gTr (hZ 1 jY (gN (g_ dIx (gR 0) (gC (.int 0))) gS)))) (kC (gB (sf (dIB λ i j=>decide (i<=j)) (dIB λ i j=>decide (i<=j)) (gC (.int 2)) (g_ dIx (gR 0) (gC (.int 0))) (gC (.int 8)))))))) (kN (gC (.bl Ta))) ky) (lx (oD (sg (kC (gTr (iP kY (gN (g_ dIx (gR 0) (gC (.int 1))) (gN (gC (.ty "tuple")) gS))))) (kC (gTr (iP xo (gN (gLC ["_law_tie"] [0] (gI kz (g_ dIx (gR 0) (gC (.int 1)))) (ggN 0) lY (hZ 2 la (gN (g_ dIx (gR 1) (gC (.int 0))) (gN (gR 0) gS)))) gS))))) (kN (gC (.bl Ta))) ky) (lx (oD (gB (g_ NO (iP pK (gN (g_ dIx (gR 0) (gC (.int 1))) gS)) (gUn dSS (g_ dIx (gR 0) (gC (.int 1)))))) (kN (gC (.bl Ta))) ky) (kN (g_ NP (hZ 3 mh (gN (g_ dIx (gR 0) (gC (.int 0))) (gN (g_ dIx (gR 0) (gC (.int 1))) (gN (gC (.int 0)) gS)))) (gUn AI (g_ dIx (gR 0) (gC (.int 0)))))))))
abbrev yT:List Str:=["_law_thing"]
theorem NR (n:Int){d:Dt}(h:kT d=S_):la [.int n,d]=My (.bl (jG n d)):=ID n h
theorem xX:Hg 1 yT jb iU:=by
 intro ds d hl h;obtain⟨x,rfl,h1⟩:=kf h;clear h;by_cases hx:okW x=S_/\shW x=S_
 rotate_left
 ·rw[ak hx]at h1;cases h1
 rw[ai hx]at h1;cases h1;obtain⟨hx,hs⟩:=hx;refine⟨.rt (.bl (kO x)),?_,rfl⟩;match x,hx,hs with
 | .tup [m,t],hx,hs =>
  show iU [My (.tup [m,t])]=_;have iT:kY [.tup [m,t],.ty "tuple"]=My (.bl S_):=rfl;have ln:qF [.tup [m,t]]=My (.int 2):=rfl;have i0:dIx (.tup [m,t]) (.int 0)=My m:=rfl;have i1:dIx (.tup [m,t]) (.int 1)=My t:=rfl;have km:kdB m=S_/\kdB t=S_:=by cases t<;>simp_all[okW,kdB,mR]
  obtain⟨k2,ek2⟩:=qO km.2;have wm:=IK km.1;by_cases c1:whB m=S_
  rotate_left
  ·have e:kO (.tup [m,t])=Ta:=by cases m<;>first | rfl | (exact absurd rfl c1)
   rw[bx]at c1;rw[c1]at wm;rw[e];generalize Dt.tup [m,t]=mt at *;simp[iU,iT,ln,i0,wm]
  rw[c1]at wm;obtain⟨n,rfl⟩:∃ n,m=.int n:=by cases m<;>first | exact⟨_,rfl⟩ | cases c1
  by_cases c2:2<=n/\n<=8
  rotate_left
  ·have e:kO (.tup [.int n,t])=Ta:=by
    cases t<;>first | rfl | (simp[kO,c2])
   rw[e];generalize Dt.tup [.int n,t]=mt at *;by_cases c3:2<=n
   ·have c4:¬ n<=8:=λ z=>c2 ⟨c3,z⟩;simp[iU,iT,ln,i0,wm,c3,c4]
   ·simp[iU,iT,ln,i0,wm,c3]
  obtain⟨h2,h8⟩:=c2;by_cases c3:∃ ts,t=.tup ts
  rotate_left
  ·have e:kO (.tup [.int n,t])=Ta:=by
    cases t<;>first | rfl | (exact absurd ⟨_,rfl⟩ c3)
   have iF:kY [t,.ty "tuple"]=My (.bl Ta):=by cases t<;>first | rfl | (exact absurd ⟨_,rfl⟩ c3) | cases ek2
   rw[e];generalize Dt.tup [.int n,t]=mt at *;simp[iU,iT,ln,i0,i1,wm,h2,h8,iF]
  obtain⟨ts,rfl⟩:=c3;have ok:ts.length<=1000/\ts.all kT=S_:=by simpa [okW,kdB,mR] using hx
  have h40:ts.length<=40:=by simpa [shW] using hs
  obtain⟨hlen,hk⟩:=ok;rw[bT]at hk;have iT2:kY [.tup ts,.ty "tuple"]=My (.bl S_):=rfl;have lc:=tJ (enc:=id) (gg:=ggN 0) (ge:=hZ 2 la (gN (g_ dIx (gR 1) (gC (.int 0))) (gN (gR 0) gS))) (δc:=[SY,My (.tup [.int n,.tup ts])]) (δa:=λ d=>[My d,My (.tup [.int n,.tup ts])]) (enc':=λ d=>.bl (jG n d)) ts λ d hd=>⟨rfl,by have:=NR n (hk d hd);generalize Dt.tup [.int n,.tup ts]=mt at *;simp[i0,this]⟩
  have e2:(ts.map λ d=>Dt.bl (jG n d))=(ts.map (jG n)).map Dt.bl:=by simp
  rw[cP,e2]at lc;have e3:(ts.map (jG n)).all id=ts.all (jG n):=by rw[eY];rfl
  have al:xo [.lst ((ts.map (jG n)).map Dt.bl)]=My (.bl (ts.all (jG n))):=by rw[<-e3];generalize ts.map (jG n)=bs;simp[xo,uQ]
  by_cases c4:ts.all (jG n)=S_
  rotate_left
  ·have e:kO (.tup [.int n,.tup ts])=Ta:=by
    rw[bx]at c4;simp[kO,c4]
   rw[bx]at c4;rw[c4]at al;rw[e];generalize Dt.tup [.int n,.tup ts]=mt,(ts.map (jG n)).map Dt.bl=bs at *;simp[iU,iT,ln,i0,i1,wm,h2,h8,iT2,lc,al,hlen]
  rw[c4]at al;obtain⟨et,ok⟩:=xI c4;have et':ip (ts.map iO)=.tup ts:=by show Dt.tup ((ts.map iO).map gX)=_;rw[<-et]
  have lo:pK [.tup ts]=My (.lst ((ts.map iO).map gX)):=by rw[<-et];rfl
  have ss:dSS (.tup ts)=My (.lst ((ssP (ts.map iO)).map gX)):=by rw[<-et'];show(dTt (ip (ts.map iO))).bind (λ l=>if l.length<=40 then My (Dt.lst ((ssP l).map gX)) else SY)=_;rw[v_,aq,ai (by rw[af];exact h40)]
  have ne:NO (.lst ((ts.map iO).map gX)) (.lst ((ssP (ts.map iO)).map gX))=My (.bl (!rise (ts.map iO))):=by show(yM ((ts.map iO).map gX)).bind (λ l=>(yM ((ssP (ts.map iO)).map gX)).bind λ m=>My (Dt.bl (!decide (l=m))))=_;rw[oW,oW,aq,aq];congr 3;rw[bj,decide_eq_true_iff];exact KO _
  by_cases c5:rise (ts.map iO)=S_
  rotate_left
  ·have e:kO (.tup [.int n,.tup ts])=Ta:=by
    rw[bx]at c5;simp[kO,c5]
   rw[bx]at c5;rw[c5]at ne;rw[e];generalize Dt.tup [.int n,.tup ts]=mt,Dt.lst ((ssP (ts.map iO)).map gX)=a2,Dt.lst ((ts.map iO).map gX)=a1,(ts.map (jG n)).map Dt.bl=bs at *;simp[iU,gUn,iT,ln,i0,i1,wm,h2,h8,iT2,lc,al,hlen,lo,ss,ne]
  obtain⟨k,rfl⟩:∃ k:Nat,n=k:=⟨n.toNat,by lia⟩;have okN:∀ p∈ts.map iO,p.1<p.2/\p.2<k:=λ p hp=>by have:=ok p hp;lia
  have mt:mh [.int k,.tup ts,.int 0]=My (.lst ((srt ((m9 (ts.map iO) k 0).map λ(k:Nat)=>(k:Int))).map .int)):=by rw[<-et'];show(jD (gO k)).bind (λ n=>(dTs (ip (ts.map iO))).bind λ l=>(jD (gO 0)).bind λ p=>if (n<=8/\p<n)/\(l.length<=1000/\∀ t∈l,t.1<t.2/\t.2<n) then My (Dt.lst ((srt ((m9 l n p).map λ(k:Nat)=>(k:Int))).map .int)) else SY)=_;rw[iQ,rq,iQ,aq,aq,aq,ai ⟨⟨by lia,by lia⟩,by rw[af];exact hlen,okN⟩]
  have lr:AI (.int (k:Int))=My (.lst (((Tc k).map λ(k:Nat)=>(k:Int)).map .int)):=by show(if _ then _ else _)=_;rw[ai (by lia),aP];rfl
  have eq:NP (.lst ((srt ((m9 (ts.map iO) k 0).map λ(k:Nat)=>(k:Int))).map .int)) (.lst (((Tc k).map λ(k:Nat)=>(k:Int)).map .int))=My (.bl (decide (((bfs (ts.map iO) 0).length:Int)=k))):=by show(og _).bind (λ l=>(og _).bind λ m=>My (Dt.bl (decide (l=m))))=_;rw[rn,rn,aq,aq];congr 2;rw[decide_eq_decide,IM okN (by lia),<-Ic okN (by lia)];lia
  have e:kO (.tup [.int k,.tup ts])=decide (((bfs (ts.map iO) 0).length:Int)=k):=by simp[kO,c4,c5,h2,h8]
  rw[c5]at ne;rw[e];generalize (k:Int)=kk,Dt.tup [.int k,.tup ts]=mt',Dt.lst ((ssP (ts.map iO)).map gX)=a2,Dt.lst ((ts.map iO).map gX)=a1,(ts.map (jG k)).map Dt.bl=bs,Dt.lst (((Tc k).map λ(k:Nat)=>(k:Int)).map .int)=a4,Dt.lst ((srt ((m9 (ts.map iO) k 0).map λ(k:Nat)=>(k:Int))).map .int)=a3,decide (((bfs (ts.map iO) 0).length:Int)=k)=z at *;simp[iU,gUn,iT,ln,i0,i1,wm,h2,h8,iT2,lc,al,hlen,lo,ss,ne,mt,lr,eq]
 | .tup [],_,_=>rfl
 | .tup [a],_,_=>cases a<;>rfl
 | .tup (a::b::c::r),hx,_ =>
  have iT:kY [.tup (a::b::c::r),.ty "tuple"]=My (.bl S_):=rfl;have ln:qF [.tup (a::b::c::r)]=My (.int ((r.length:Int)+3)):=by show My (Dt.int (((a::b::c::r).length:Nat):Int))=_;simp;lia
  have ne:¬ ((r.length:Int)+3=2):=by lia
  have e:kO (.tup (a::b::c::r))=Ta:=by cases a<;>first | rfl | (cases b<;>rfl)
  rw[e];show iU [My (.tup (a::b::c::r))]=_;generalize (r.length:Int)+3=z,Dt.tup (a::b::c::r)=t at *;simp[iU,iT,ln,ne]
 | .non,_,_=>rfl
 | .bl _,_,_=>rfl
 | .int _,_,_=>rfl
 | .str _,_,_=>rfl
 | .lst _,_,_=>rfl
 | .dct _,_,_=>rfl
def jF:List Dt->gF Dt:=sj λ x=>(dW x).map λ w=>.bl (decide (w.2.length+1=w.1))
def nM:DE->gF RD:=(kN (g_ oP (iP qF (gN (g_ dIx (gR 0) (gC (.int 1))) gS)) (g_ (dI (·-·)) (g_ dIx (gR 0) (gC (.int 0))) (gC (.int 1)))))
abbrev xY:List Str:=["_law_web_here"]
theorem vO:Hg 1 xY jF nM:=by
 intro ds d hl h;obtain⟨x,rfl,h⟩:=kf h;obtain⟨w,e1,h⟩:=il h;subst h;obtain⟨rfl,hg⟩:=pL e1;refine⟨.rt (.bl (decide (w.2.length+1=w.1))),?_,rfl⟩;have eb:(((w.2.length:Nat):Int)==((w.1:Nat):Int)-1)=decide (w.2.length+1=w.1):=by rw[bj];simp;lia
 have i0:dIx (.tup [.int w.1,.tup (w.2.map gX)]) (.int 0)=My (.int w.1):=rfl;have i1:dIx (.tup [.int w.1,.tup (w.2.map gX)]) (.int 1)=My (.tup (w.2.map gX)):=rfl;simp[nM,hG,ip,gO,eb,i0,i1]
abbrev uj:=qN
theorem yU:Hg 1 ["_law_found"] jY uj:=ug
end L2
namespace K02
open PySem PySem.Spec PyProof.Rows L2 Zp
def top (i:Nat):Stmt:=PySem.Challenge.pw_treewalkers_k02_trees_ways_and_parts.main.body.getD i (.Pass ⟨0,0,0,0⟩)
abbrev xZ:Stmt:=top 18
abbrev x_:Stmt:=top 22
abbrev Cs:Stmt:=top 23
abbrev vo:Stmt:=top 24
abbrev zP:Stmt:=top 25
abbrev vp:Stmt:=top 26
abbrev qP:Stmt:=top 27
abbrev rR:Stmt:=top 28
abbrev Ct:Stmt:=top 29
abbrev vq:Stmt:=top 30
abbrev rS:Stmt:=top 31
abbrev uk:Stmt:=top 32
abbrev zQ:Stmt:=top 33
abbrev Mb:Stmt:=top 34
abbrev IP:Stmt:=top 35
abbrev qQ:Stmt:=top 37
abbrev ya:Stmt:=top 38
abbrev vv:Stmt:=top 39
abbrev um:Stmt:=top 40
abbrev mI:Stmt:=top 41
abbrev vx:Stmt:=top 42
abbrev yb:Stmt:=top 43
abbrev rT:Stmt:=top 44
abbrev rV:Stmt:=top 45
abbrev qR:Stmt:=top 46
abbrev sD:Stmt:=top 47
abbrev h_:Stmt:=top 48
abbrev kg:Stmt:=top 49
abbrev yc:Stmt:=top 50
abbrev yd:Stmt:=top 51
abbrev vy:Stmt:=top 52
abbrev ye:Stmt:=top 53
abbrev qS:Stmt:=top 54
theorem Cu:ie ["thing"] ["thing"] (gW xZ):=by trivial
theorem Cv:ie ["many","thing"] ["many","thing"] (gW x_):=by trivial
theorem Gm:ie ["many","thing","a","b"] ["many","thing"] (gW Cs):=by trivial
theorem A3:ie ["things"] ["things"] (gW vo):=by trivial
theorem sE:ie ["ties","place","lesser","greater"] ["ties","place"] (gW zP):=by trivial
theorem lR:ie ["ties","start","found","edge","beyond","place","near"] ["ties","start"] (gW vp):=by trivial
theorem vP:ie ["ties","far","here"] ["ties","far","here"] (gW qP):=by trivial
theorem nN:ie ["ties","a","b","tie","others"] ["ties","a","b"] (gW rR):=by trivial
theorem Gn:ie ["thing","many","ties"] ["thing"] (gW Ct):=by trivial
theorem A4:ie ["thing"] ["thing"] (gW vq):=by trivial
theorem yf:ie ["web","thing"] ["web","thing"] (gW rS):=by trivial
theorem yV:ie ["thing"] ["thing"] (gW uk):=by trivial
theorem DQ:ie ["web","many","ties"] ["web"] (gW zQ):=by trivial
theorem DR:ie ["tree","a","b","far","places"] ["tree","a","b"] (gW Mb):=by trivial
theorem KS:ie ["tree","a","b"] ["tree","a","b"] (gW IP):=by trivial
theorem vQ:ie ["_law_script","_law_k"] ["_law_script","_law_k"] (gW qQ):=by trivial
theorem mJ:ie ["_law_cell","_law_number","_law_j","_law_mixed"] ["_law_cell"] (gW ya):=by trivial
theorem uo:ie ["_law_pot_here","_law_far_here","_law_found"] ["_law_pot_here","_law_far_here"] (gW vv):=by trivial
theorem yX:ie ["_law_found"] ["_law_found"] (gW um):=by trivial
theorem kQ:ie ["_law_e","_law_some","_law_words"] ["_law_e"] (gW mI):=by trivial
theorem A5:ie ["_law_web_here","_law_place"] ["_law_web_here","_law_place"] (gW vx):=by trivial
theorem qT:ie ["_law_many","_law_ties","_law_first","_law_found","_law_turn","_law_one","_law_other"] ["_law_many","_law_ties","_law_first"] (gW yb):=by trivial
theorem yg:ie ["_law_many","_law_thing"] ["_law_many","_law_thing"] (gW rT):=by trivial
theorem yh:ie ["_law_thing"] ["_law_thing"] (gW rV):=by trivial
theorem vR:ie ["_law_web_here"] ["_law_web_here"] (gW qR):=by trivial
theorem jn:ie ["_law_pot_here","_law_most","_law_thick","_law_many","_law_shape","_law_extra","_law_left","_law_called","_law_ties","_law_place","_law_drawn_one","_law_turn","_law_one","_law_other"] ["_law_pot_here","_law_most","_law_thick"] (gW sD):=by trivial
theorem iM:ie ["_law_pot_here","_law_web_here","_law_many","_law_ties","_law_at","_law_which","_law_odd","_law_one","_law_other","_law_tie","_law_bent_here","_law_some"] ["_law_pot_here","_law_web_here"] (gW h_):=by trivial
theorem uY:ie ["_law_pot_here","_law_web_here"] ["_law_pot_here","_law_web_here"] (gW kg):=by trivial
theorem vz:ie ["_law_web_here","_law_first","_law_found","_law_lap","_law_place","_law_other"] ["_law_web_here","_law_first"] (gW yc):=by trivial
theorem ox:ie ["_law_tree","_law_a","_law_b","_law_far_here","_law_found"] ["_law_tree","_law_a","_law_b"] (gW yd):=by trivial
theorem A6:ie ["_law_kind","_law_web_here","_law_a","_law_b","_law_e"] ["_law_kind","_law_web_here","_law_a","_law_b"] (gW vy):=by trivial
theorem oy:ie ["_law_web_here","_law_a","_law_b","_law_tie","_law_rest"] ["_law_web_here","_law_a","_law_b"] (gW ye):=by trivial
theorem lS:ie ["_law_script","_law_k","_law_pot_here","_law_tree","_law_web_here","_law_a","_law_b","_law_none","_law_beside","_law_other","_law_told","_law_kind","_law_bent_here","_law_thing"] ["_law_script"] (gW qS):=by trivial
set_option genInjectivity false in
set_option genSizeOf false in
structure Txt (K:gG)(mg:gD) where
 pV:FnT K mg "is_whole" xZ ["thing"]
 nO:FnT K mg "is_place" x_ ["many","thing"]
 yi:FnT K mg "is_tie" Cs ["many","thing"]
 qU:FnT K mg "is_rising" vo ["things"]
 o9:FnT K mg "tied_to" zP ["ties","place"]
 mK:FnT K mg "distances" vp ["ties","start"]
 nP:FnT K mg "nearer_place" qP ["ties","far","here"]
 oH:FnT K mg "part_beyond" rR ["ties","a","b"]
 yj:FnT K mg "is_web" Ct ["thing"]
 qV:FnT K mg "check_web" vq ["thing"]
 kn:FnT K mg "check_place" rS ["web","thing"]
 m_:FnT K mg "check_tree" uk ["thing"]
 rH:FnT K mg "is_tree" zQ ["web"]
 E5:FnT K mg "way" Mb ["tree","a","b"]
 A7:FnT K mg "part" IP ["tree","a","b"]
 nQ:FnT K mg "_law_cell_at" qQ ["_law_script","_law_k"]
 sF:FnT K mg "_law_pot" ya ["_law_cell"]
 iH:FnT K mg "_law_take" vv ["_law_pot_here","_law_far_here"]
 nc:FnT K mg "_law_whole" um ["_law_found"]
 oz:FnT K mg "_law_word" mI ["_law_e"]
 mL:FnT K mg "_law_near" vx ["_law_web_here","_law_place"]
 pW:FnT K mg "_law_met" yb ["_law_many","_law_ties","_law_first"]
 oJ:FnT K mg "_law_is_tie" rT ["_law_many","_law_thing"]
 mv:FnT K mg "_law_is_web" rV ["_law_thing"]
 lT:FnT K mg "_law_is_tree" qR ["_law_web_here"]
 nR:FnT K mg "_law_web" sD ["_law_pot_here","_law_most","_law_thick"]
 iR:FnT K mg "_law_bent" h_ ["_law_pot_here","_law_web_here"]
 kh:FnT K mg "_law_no_place" kg ["_law_pot_here","_law_web_here"]
 sG:FnT K mg "_law_far" yc ["_law_web_here","_law_first"]
 sH:FnT K mg "_law_way" yd ["_law_tree","_law_a","_law_b"]
 kH:FnT K mg "_law_said" vy ["_law_kind","_law_web_here","_law_a","_law_b"]
 pY:FnT K mg "_law_due" ye ["_law_web_here","_law_a","_law_b"]
 rW:FnT K mg "law" qS ["_law_script"]
 hU:mg "isinstance"=SY
 qj:mg "len"=SY
 E6:mg "all"=SY
 Cw:mg "min"=SY
 Cy:mg "max"=SY
 o_:mg "sorted"=SY
 kR:mg "tuple"=SY
 Mc:mg "int"=SY
 IQ:mg "bool"=SY
 kS:mg "range"=SY
 PZ:mg "zip"=SY
 Md:mg "set"=SY
 yk:mg "list"=SY
 A8:mg "repr"=SY
 A9:mg "ValueError"=SY
 vS:CtT K mg "FEWEST_PLACES" (.int 2)
 yY:CtT K mg "MOST_PLACES" (.int 8)
 er:yQ K mg
section
variable {P:Program}{w:World}{K:gG}{mg:gD}{base:Heap}
theorem uq (T:Txt K mg):OkT P w base T.pV 1 (spD K 1 kF):=T.pV.okD (g:=qN) Cu (λ _ _ _ _ _ _ hr=>(iq (iY (xi (iG oG T.hU boot_isinstance (gM (dv 0) (gM (yI T.Mc boot_int) gT))) (zv (LR (iG oG T.hU boot_isinstance (gM (dv 0) (gM (yI T.IQ boot_bool) gT))))))))) ug
theorem pZ (T:Txt K mg):OkT P w base T.nO 2 (spD K 2 lG):=T.nO.okD (g:=mG) Cv (λ _ _ _ _ _ _ hr=>(iq (iY (xi (dC T.pV (uq T) hr (gM (dv 1) gT)) (zv (JV FF FE hW (dv 1) (dv 0))))))) AU
theorem DS (T:Txt K mg):OkT P w base T.yi 3 (spD K 2 nA):=T.yi.okD (g:=lH) Gm (λ _ _ _ _ _ _ hr=>(iJ (mQ (As (qf (jW (kD (iG oG T.hU boot_isinstance (gM (dv 1) (gM (yI T.kR boot_tuple) gT))))) (pH (jg (xk (hV hr)) (iG zy T.qj cy (gM (dv 1) gT)) hW)))) (iq (iY se)) jh) (iJ (Az (dv 1) (pg rfl (je (pgo 2) (je (pgo 3) mU))) nZ) (iq (iY (xi (dC T.nO (pZ T) hr (gM (dv 0) (gM (dv 2) gT))) (xi (dC T.nO (pZ T) hr (gM (dv 0) (gM (dv 3) gT))) (zv (vd FE (dv 2) (dv 3)))))))))) DL
theorem sI (T:Txt K mg):OkT P w base T.o9 1 (spD K 2 me):=T.o9.okD (g:=rz) sE (λ _ _ _ _ _ _ hr=>(iJ (BJ (i:=2) sE.nd rfl (csc ["a","b"] ["place"] [1]) (md (dv 0)) (λ _ _ _ _=>(pg rfl (je (pgo 0) (je (pgo 1) mU)))) (s_ (kB (by decide) (kB (by decide) rh))) nZ (λ _ _ _ _=>(qE (jg (AG (hV hr)) (dv 1) (dv 2)))) (λ _ _ _ _=>(dv 0))) (iJ (BJ (i:=3) sE.nd rfl (csc ["a","b"] ["place"] [1]) (md (dv 0)) (λ _ _ _ _=>(pg rfl (je (pgo 0) (je (pgo 1) mU)))) (s_ (kB (by decide) (kB (by decide) rh))) nZ (λ _ _ _ _=>(qE (jg (AG (hV hr)) (dv 0) (dv 2)))) (λ _ _ _ _=>(dv 1))) (iq (iY (mC tG T.kR boot_tuple (gM (iG (BO srt lK nF) T.o_ boot_sorted (gM (jQ qg (dv 2) (dv 3)) gT)) gT))))))) Dy
theorem rX (T:Txt K mg):OkT P w base T.nc 1 (spD K 1 jY):=T.nc.okD (g:=uj) yX (λ _ _ _ _ _ _ hr=>(iq (iY (xi (iG oG T.hU boot_isinstance (gM (dv 0) (gM (yI T.Mc boot_int) gT))) (zv (LR (iG oG T.hU boot_isinstance (gM (dv 0) (gM (yI T.IQ boot_bool) gT))))))))) yU
theorem ym (T:Txt K mg):OkT P w base T.oJ 2 (spD K 2 la):=T.oJ.okD (g:=ji) yg (λ _ _ _ _ _ _ hr=>(iJ (mQ (As (qf (jW (kD (iG oG T.hU boot_isinstance (gM (dv 1) (gM (yI T.kR boot_tuple) gT))))) (qf (jg (xk (hV hr)) (iG zy T.qj cy (gM (dv 1) gT)) hW) (pH (jW (kD (iG (EH rfl) T.E6 boot_all (gM (Ax rfl (csc ["_law_one"] [] []) (md (dv 1)) (λ _ _ _ _=>(pgo 0)) jI ku (λ _ _ _ _=>uP) (λ _ _ _ _=>(dC T.nc (rX T) hr (gM (dv 0) gT)))) gT)))))))) (iq (iY se)) jh) (iq (iY (IH FF FE FE hW (kq (dv 1) hW) (kq (dv 1) hW) (dv 0)))))) xU
theorem qk (T:Txt K mg):OkT P w base T.lT 1 (spD K 1 jF):=T.lT.okD (g:=nM) vR (λ _ _ _ _ _ _ hr=>(iq (iY (vd (AG (hV hr)) (iG zy T.qj cy (gM (kq (dv 0) hW) gT)) (jQ Hu (kq (dv 0) hW) hW))))) vO
end
abbrev iV (k:Nat):V:=.int k
section
variable {P:Program}{w:World}{K:gG}{mg:gD}{base:Heap}
structure DH (H0 H:Hp)(p e b:Addr)(st:gK×List Nat)(ic:List Nat):Prop where
 same:gY H0 H
 np:H0 p=SY
 ne':H0 e=SY
 nb:H0 b=SY
 pe:p≠e
 pb:p≠b
 eb:e≠b
 hp:H p=My (.dK (kvD (iX st.1)))
 he:H e=My (.lst (ic.map iV))
 hb:H b=My (.lst (st.2.map iV))
theorem DH.ext {H0 H H':Hp}{p e b:Addr}{st:gK×List Nat}{ic:List Nat}(h:DH H0 H p e b st ic)(s:gY H H'):DH H0 H' p e b st ic :=
 ⟨h.same.trans s,h.np,h.ne',h.nb,h.pe,h.pb,h.eb,s _ _ h.hp,s _ _ h.he,s _ _ h.hb⟩
theorem jj {H0 H:Hp}{p:Addr}{o:HO}(s:gY H0 H)(n:H0 p=SY):gY H0 (upd H p o):=λ c u h=>by rw[g6 (ir h n)];exact s c u h
def dbI (K:gG):TS:=Ju (tB (Ed (hX 6) (hX 2))) (jc (LJ (hX 2) (hX 6) (tOp (rI0 λ i j=>V.int (i+j)) (LI (hX 2) (hX 5)) (tC (V.int 1)))) (za (tBM K "list" rf (hX 4) (g0 (hX 6) iL)))) D5
def dbM (K:gG):TS:=wG (iDT K (gI xj (hZ 2 me (gN (gR 0) (gN (gR 5) gS))))) (iA 6) (dbI K)
def dbW (K:gG):TS:=jc (j_ (qu iL) (iA 4)) (jc (wG (D6 K (hX 3)) (iA 5) (dbM K)) (j_ (hX 4) (iA 3)))
def dtW (K:gG):TT:=λ σ H Q=>hX 3 σ H λ x H'=>∃ k,JB K x H' k/\Q k H'
def dA (K:gG):TS:=jc (j_ (LK [(hX 1,tC (V.int 0))]) (iA 2)) (jc (j_ (qu (g0 (hX 1) iL)) (iA 3)) (jc (CS (dtW K) (dbW K)) (zX (hX 2))))
abbrev sgD (vt:V)(st:Nat)(p e:Addr)(b pl nr:gF V):L2.St:=[My vt,My (iV st),My (.ref p),My (.ref e),b,pl,nr]
theorem KU {D:Ends}{vt:V}{st place near:Nat}{p e b:Addr}{H H6:Hp}{st2:gK×List Nat}{ic:List Nat}(d6:DH H H6 p e b st2 ic)(hpk2:place∈st2.1.map (·.1))(l1:st2.1.length<=10000)(l2:st2.2.length<=10000)
  (h:∀ H',DH H H' p e b (i9 place st2 near) ic->kc H6 H'->D.nx (sgD vt st p e (My (.ref b)) (My (iV place)) (My (iV near))) H'):dbI K D (sgD vt st p e (My (.ref b)) (My (iV place)) (My (iV near))) H6:=by
 refine⟨_,rfl,_,rfl,p,_,rfl,wU.k (k:=Sum.inl (near:Int)) d6.hp,_,rfl,?_⟩;rw[tN];cases hk:lF st2.1 near with
 | true =>
  rw[ai rfl];refine GZ ?_;have:i9 place st2 near=st2:=by unfold i9;rw[ai hk]
  rw[this]at h;exact h H6 d6 kc.refl
 | false =>
  rw[ak aw];refine G0 ?_;have hv:i9 place st2 near=(st2.1++[(near,look st2.1 place+1)],st2.2++[near]):=by unfold i9;rw[ak (by rw[hk];exact aw)]
  rw[hv]at h;have hlook:nD (kvD (iX st2.1)) (Sum.inl (place:Int))=My (.int (look st2.1 place)):=by rw[tN,ai ((nu _ _).mpr hpk2)]
  have g1:wU H6 p (iV place) (My (.int (look st2.1 place))):=by rw[<-hlook];exact wU.k (k:=Sum.inl (place:Int)) d6.hp
  have hll:(kvD (iX st2.1)).length<sizeLine:=by
   have:(kvD (iX st2.1)).length=st2.1.length:=by simp[kvD,iX]
   rw[sizeLine_eq];lia
  refine⟨_,rfl,_,rfl,p,_,rfl,g1,_,_,rfl,rfl,_,rfl,_,rfl,p,_,rfl,GU.k (k:=Sum.inl (near:Int)) d6.hp hll,?_⟩;have hput:putK (kvD (iX st2.1)) (Sum.inl (near:Int)) (V.int ((look st2.1 place:Int)+1))=kvD (iX (st2.1++[(near,look st2.1 place+1)])):=by rw[<-HG _ hk];rfl
  rw[hput];have hbb:upd H6 p (.dK (kvD (iX (st2.1++[(near,look st2.1 place+1)])))) b=My (.lst (st2.2.map iV)):=by rw[g6 (bu d6.pb)];exact d6.hb
  refine⟨_,rfl,.inl ⟨rfl,_,SqL.of hbb⟩,_,rfl,b,_,_,rfl,rfl,hbb,by rw[af,sizeLine_eq];lia,h _ ⟨jj (jj d6.same d6.np) d6.nb,d6.np,d6.ne',d6.nb,d6.pe,d6.pb,d6.eb,?_,?_,?_⟩ ((kc.upd (by rw[d6.hp];trivial)).trans (kc.upd (by rw[hbb];trivial)))⟩
  ·rw[g6 d6.pb];exact gU
  ·rw[g6 d6.eb,g6 (bu d6.pe)];exact d6.he
  ·rw[gU];simp[iV]
theorem P2 {K:gG}{H:Hp}:Sat K H [] []:=⟨rfl,λ _ _ h=>by cases h⟩
theorem DT {K:gG}{H:Hp}{x:gF V}{σ:L2.St}{δ:DE}(h:Sat K H σ δ):Sat K H (x::σ) (SY::δ):=⟨cK (·+1) h.len,λ j d hj=>by
 cases j with
 | zero=>cases hj
 | succ j=>exact h.at_ j d hj⟩
theorem NS {K:gG}{H:Hp}{v:V}{d:Dt}{σ:L2.St}{δ:DE}(i:Is K H v d)(h:Sat K H σ δ):Sat K H (My v::σ) (My d::δ):=⟨cK (·+1) h.len,λ j d hj=>by
 cases j with
 | zero=>cases hj;exact⟨_,rfl,i⟩
 | succ j=>exact h.at_ j d hj⟩
theorem IS {K:gG}{H':Hp}{vt:V}{st place:Nat}{p e:Addr}{b nr:gF V}{x:Dt}(i:Is K H' vt x):Sat K H' (sgD vt st p e b (My (iV place)) nr) [My x,SY,SY,SY,SY,My (gO place),SY] :=
 NS i (DT (DT (DT (DT (NS (.int _) (DT P2))))))
theorem IT {D:Ends}{vt:V}{st place:Nat}{p e b:Addr}{nr:gF V}{H H':Hp}{l:gK}{st1:gK×List Nat}{ic:List Nat}{x:Dt}(ex:dTs x=My l)(hlen:l.length<=30)(i1:Is K H' vt x)(d1:DH H H' p e b st1 ic)(bi1:BI (univ l st) st1)(hpk:place∈st1.1.map (·.1))(hl1:st1.2.length<=st1.1.length)
  (h:∀ nr H6,DH H H6 p e b (visit l st1 place) ic->kc H' H6->D.nx (sgD vt st p e (My (.ref b)) (My (iV place)) nr) H6):dbM K D (sgD vt st p e (My (.ref b)) (My (iV place)) nr) H':=by
 have tk:=BX ex hlen place;refine⟨_,(nb l place).map gO,IS i1,?_,rL.of (λ d hd=>by obtain⟨t,_,rfl⟩:=aA.mp hd;exact .int _),λ J H5 s5 ok=>?_⟩
 ·generalize (nb l place).map gO=zs at tk;simp only[gO]at tk;simp[tk,xj,gO]
 ·have d5:=d1.ext s5
  refine HF ok (λ j σ' H'=>∃ (nr:gF V),σ'=sgD vt st p e (My (.ref b)) (My (iV place)) nr/\DH H H' p e b (((nb l place).take j).foldl (i9 place) st1) ic/\kc H5 H')
   ⟨nr,rfl,d5,kc.refl⟩ (λ j σ' H' _ z=>by obtain⟨_,_,_,t⟩:=z;exact t) ?_ ?_
  ·rintro j dd xv σ' H6 hj ixv ⟨nr,rfl,d6,t6⟩
   rw[aK]at hj;cases hnr:(nb l place)[j]? with
   | none=>rw[hnr]at hj;cases hj
   | some near =>
    rw[hnr]at hj;cases hj;have hx:=ixv.int_inv;subst hx;have hst3:((nb l place).take (j+1)).foldl (i9 place) st1=i9 place (((nb l place).take j).foldl (i9 place) st1) near:=by rw[eZ,hnr,List.foldl_append];rfl
    have hpk2:=ny (f:=i9 place) (λ st p k hk=>qG hk) ((nb l place).take j) st1 place hpk;have bi2:BI (univ l st) (((nb l place).take j).foldl (i9 place) st1):=tO _ (λ x hx _ hs=>zC hs (EL (dJ hx))) bi1;have hl2:=qH (f:=i9 place) (λ _ _=>xr) ((nb l place).take j) st1;have hle:=bi2.le;rw[oY]at hle;generalize ((nb l place).take j).foldl (i9 place) st1=st2 at d6 hst3 hpk2 hl2 hle;refine KU d6 hpk2 (by lia) (by lia) λ H7 d7 t7=>⟨_,rfl,?_,t6.trans t7⟩;rw[hst3];exact d7
  ·rintro σ' H6 ⟨nr,rfl,d6,t6⟩;rw[af,eg]at d6;exact h _ _ d6 (s5.text.trans t6)
theorem DU {D:Ends}{vt:V}{st:Nat}{p e:Addr}{b0 pl0 nr0:gF V}{H H2:Hp}{l fd:gK}{ic:List Nat}{x:Dt}(ex:dTs x=My l)(hlen:l.length<=30)(i1:Is K H vt x)(s2:gY H H2)(hp:H p=SY)(he:H e=SY)(hpe:p≠e)
  (gp:H2 p=My (.dK (kvD (iX fd)))) (ge:H2 e=My (.lst (ic.map iV))) (bi:BI (univ l st) (fd,ic))
  (h:∀ b pl nr H',gY H H'->H b=SY->p≠b->H' p=My (.dK (kvD (iX (jU l fd ic).1)))->H' b=My (.lst ((jU l fd ic).2.map iV))->D.nx (sgD vt st p b (My (.ref b)) pl nr) H'):dbW K D (sgD vt st p e b0 pl0 nr0) H2:=by
 refine⟨aN _,λ b hb=>?_⟩;have hbp:p≠b:=λ z=>by subst z;rw[hb]at gp;cases gp
 have hbe:e≠b:=λ z=>by subst z;rw[hb]at ge;cases ge
 have hb0:H b=SY:=s2.free hb;have d0:DH H (upd H2 b (.lst [])) p e b (fd,[]) ic:=⟨jj s2 hb0,hp,he,hb0,hpe,hbp,hbe,by rw[g6 hbp];exact gp,by rw[g6 hbe];exact ge,gU⟩;refine⟨_,rfl,e,rfl,⟨_,SqL.of d0.he⟩,Bo (K:=K) (a:=e) (xs:=ic.map iV) (λ i σ' H'=>∃ (pl nr:gF V),σ'=sgD vt st p e (My (.ref b)) pl nr/\DH H H' p e b ((ic.take i).foldl (visit l) (fd,[])) ic/\kc H H')
  ⟨pl0,nr0,rfl,d0,d0.same.text⟩ (λ i σ' H' _ z=>by obtain⟨_,_,_,d,_⟩:=z;exact SqL.of d.he) ?_ ?_⟩
 ·clear d0 gp ge s2
  rintro i xv σ' H' hi ⟨pl,nr,rfl,d1,t1⟩;rw[aK]at hi;cases hpl:ic[i]? with
  | none=>rw[hpl]at hi;cases hi
  | some place =>
   rw[hpl]at hi;cases hi;have hst':(ic.take (i+1)).foldl (visit l) (fd,[])=visit l ((ic.take i).foldl (visit l) (fd,[])) place:=by rw[eZ,hpl,List.foldl_append];rfl
   have bi1:BI (univ l st) ((ic.take i).foldl (visit l) (fd,[])):=tO _ (λ _ _ _ hs=>BY hs) ⟨bi.nd,bi.sub,by simp⟩;have hpk:place∈((ic.take i).foldl (visit l) (fd,[])).1.map (·.1):=ny (f:=visit l) (λ st p k hk=>sx st k hk) _ (fd,[]) place (bi.by' place (bg hpl));have hl1:=qH (f:=visit l) (λ st p=>zD st) (ic.take i) (fd,[]);generalize (ic.take i).foldl (visit l) (fd,[])=st1 at d1 hst' bi1 hpk hl1;refine IT ex hlen (i1.ext d1.same) d1 bi1 hpk (by simp at hl1;lia) λ nr H6 d6 t6=>⟨_,_,rfl,?_,t1.trans t6⟩;rw[hst'];exact d6
 ·rintro σ' H' ⟨pl,nr,rfl,d1,t1⟩;rw[af,eg]at d1;exact⟨_,rfl,h b pl nr H' d1.same hb0 hbp d1.hp d1.hb⟩
def dI1 (vt:V)(st:Nat)(l:gK)(H:Hp):Nat->L2.St->Hp->Prop:=λ m σ H2=>∃ (fd:gK) (ic:List Nat) (p e:Addr) (b pl nr:gF V),σ=sgD vt st p e b pl nr/\gY H H2/\H p=SY/\H e=SY/\p≠e/\H2 p=My (.dK (kvD (iX fd)))/\H2 e=My (.lst (ic.map iV)) /\
  BI (univ l st) (fd,ic)/\nH l m fd ic=bfs l st/\(ic≠[]->2*l.length+3<=m+fd.length)
def dI2 (vt:V)(st:Nat)(l fd:gK)(ic:List Nat)(H:Hp):L2.St->Hp->Prop:=λ σ' H'=>∃ (p b:Addr) (pl nr:gF V),σ'=sgD vt st p b (My (.ref b)) pl nr/\gY H H'/\H p=SY/\H b=SY/\p≠b/\H' p=My (.dK (kvD (iX (jU l fd ic).1)))/\H' b=My (.lst ((jU l fd ic).2.map iV))
theorem Gp {D:Ends}{vt:V}{st:Nat}{H:Hp}{l:gK}{x:Dt}(ex:dTs x=My l)(hlen:l.length<=30)(i1:Is K H vt x)(q:∀ v H',gY H H'->Is K H' v (.dct (iX (bfs l st)))->D.rt v H')(m:Nat)(σ:L2.St)(H2:Hp)(z:dI1 vt st l H m σ H2) :
  dtW K σ H2 λ b H1=>if b=S_ then ∃ N:L2.St->Hp->Prop,(∀ σ' H',N σ' H'->∃ m',m'<m/\dI1 vt st l H m' σ' H')/\dbW K {D with nx:=N,ct:=N,bk:=zX (hX 2) D} σ H1 else zX (hX 2) D σ H1:=by
 obtain⟨fd,ic,p,e,b0,pl0,nr0,rfl,s2,hp,he,hpe,gp,ge,bi,hm,hf⟩:=z;refine⟨_,rfl,!(ic.map iV).isEmpty,.inl ⟨_,SqL.of ge,rfl⟩,?_⟩;cases hedge:ic with
 | nil =>
  subst hedge;refine GZ ?_;refine⟨_,rfl,q _ H2 s2 (.dct (.inl ?_))⟩;rw[<-hm];have:nH l m fd []=fd:=by cases m<;>rfl
  rw[this];exact gp
 | cons e0 es =>
  refine G0 ?_;have hne:ic≠[]:=by rw[hedge];simp
  have hf:=hf hne;have hle:=bi.le;rw[oY]at hle;have hle:fd.length<=2*l.length+1:=hle;obtain⟨m',rfl⟩:∃ m',m=m'+1:=⟨m-1,by lia⟩;have hstep:nH l (m'+1) fd ic=nH l m' (jU l fd ic).1 (jU l fd ic).2:=by rw[hedge];rfl
  rw[hstep]at hm;refine⟨dI2 vt st l fd ic H,?_,?_⟩
  ·rintro σ' H' ⟨p,b,pl,nr,rfl,s3,hp,hb,hpb,gp,gb⟩;have lb:=tP (ic:=ic) (l:=l) (fd:=fd) ⟨bi.nd,bi.sub,by simp⟩;refine⟨m',by lia,_,_,p,b,My (.ref b),pl,nr,rfl,s3,hp,hb,hpb,gp,gb,⟨lb.nd,lb.sub,lb.by'⟩,hm,λ hb'=>?_⟩;have:=uS (l:=l) (fd:=fd) (ic:=ic);have:0<(jU l fd ic).2.length:=dP.mpr hb';lia
  ·exact DU ex hlen i1 s2 hp he hpe gp ge bi λ b pl nr H' s3 hb hpb gp gb=>⟨p,b,pl,nr,rfl,s3,hp,hb,hpb,gp,gb⟩
theorem IU {D:Ends}{vt:V}{st:Nat}{H:Hp}{l:gK}{x:Dt}(ex:dTs x=My l)(hlen:l.length<=30)(i1:Is K H vt x)(q:∀ v H',gY H H'->Is K H' v (.dct (iX (bfs l st)))->D.rt v H'):dA K D [My vt,My (iV st),SY,SY,SY,SY,SY] H:=by
 intro p hp;refine⟨_,rfl,gU,[(Sum.inl (st:Int),.int 0)],rfl,by simp,?_⟩;refine⟨_,rfl,by show 1<=sizeLine;decide,λ e he=>?_⟩;have hp0:upd (upd H p (.dK [])) p (.dK (uH [] [(Sum.inl (st:Int),V.int 0)]))=upd H p (.dK (kvD (iX [(st,0)]))):=by rw[Jr];rfl
 rw[hp0]at he ⊢;have hpe:p≠e:=λ z=>by subst z;rw[gU]at he;cases he
 have he0:H e=SY:=by rw[g6 (bu hpe)]at he;exact he
 refine⟨dI1 vt st l H,⟨2*l.length+2,[(st,0)],[st],p,e,SY,SY,SY,rfl,jj (jj (gY.refl H) hp) he0,hp,he0,hpe,by rw[g6 hpe];exact gU,gU,⟨by simp,λ q hq=>by rw[bp.mp hq];exact av,λ j hj=>by simpa using hj⟩,rfl,λ _=>by simp⟩,?_⟩;exact λ m σ H2 z=>Gp ex hlen i1 q m σ H2 z
set_option tactic.hygienic true in
theorem p_ (T : Txt K mg) : OkT P w base T.mK 2 (spD K 2 kE) := by
  refine T.mK.F.ok lR (λ vs H Q E h => ?_) (λ cdv A outer s H vs Q E hr h => ?_)
  · obtain⟨ds, d, hl, is, _⟩ := h
    rw[is.length, hl]; rfl
  · obtain⟨ds, d, hl, is, e, q⟩ := h
    match ds, e with
    | [x, y], e =>
      obtain⟨l, e1, e⟩ := gP (show(dTs x).bind _ = _ from e);obtain⟨st, e2, e⟩ := gP e;split at e
      · rename_i hlen
        cases e;have e2 := ju e2;subst e2;obtain⟨vt, v2, rfl, i1, i2⟩ := is.two;have hv2 := i2.int_inv;subst hv2;have hu := O5 hr;refine⟨dA K, gZ (iI (i := 2) lR.nd rfl (Or.inl rfl) (JL (GX (pv 1) hJ JK) rfl rfl (by simp) (by decide)))
          (gZ (iI (i := 3) lR.nd rfl (Or.inl rfl) (jV (gQ (pv 1) g9)))
          (gZ (wz bB (wK (pv 3) (λ _ => rfl))
            (gZ (iI (i := 4) lR.nd rfl (Or.inl rfl) (jV g9))
            (gZ (nB bB rfl (vW (pv 3)) (pgo 5)
              (iK (nB bB rfl (Kg (dC T.o9 (sI T) hr (gM (dv 0) (gM (dv 5) gT)))) (pgo 6)
                (iK (sQ (Mq (Fq hu (pv 6) (pv 2)) (by with_unfolding_all rfl)) (gZ (JJ hu (pv 2) (pv 6) (jC qt (Ee hu (pv 2) (pv 5) (λ _ _ => rfl)) hJ) rfl)
                  (iK (rb (u7 cC cM cN oM (pv 4) (gQ (pv 6) g9))))) nU)))))
            (iK (iI (i := 3) lR.nd rfl (Or.inl rfl) (pv 4))))))
          (iK (lu (pv 2))))), ?_⟩
        exact IU e1 (by lia) i1 q
      · cases e
end
section
variable {P:Program}{w:World}{K:gG}{mg:gD}{base:Heap}
theorem A_ (T:Txt K mg):OkT P w base T.qU 1 (spD K 1 mX):=T.qU.okD (g:=pM) A3 (λ _ _ _ _ _ _ hr=>(iq (iY (iG (EH rfl) T.E6 boot_all (gM (Ax rfl (csc ["one","following"] [] []) (Ph S_ S_ T.PZ (gM (dv 0) (gM (Kq (dv 0)) gT))) (λ _ _ _ _=>(pg rfl (je (pgo 0) (je (pgo 1) mU)))) (s_ (kB (by decide) (kB (by decide) rh))) nZ (λ _ _ _ _=>uP) (λ _ _ _ _=>(vd (Pe (Kh hr)) (dv 0) (dv 1)))) gT))))) yP
theorem DV (T:Txt K mg):OkT P w base T.yj 4 (spD K 1 rF):=T.yj.okD (g:=jJ) Gn (λ _ _ _ _ _ _ hr=>(iJ (mQ (As (qf (jW (kD (iG oG T.hU boot_isinstance (gM (dv 0) (gM (yI T.kR boot_tuple) gT))))) (pH (jg (xk (hV hr)) (iG zy T.qj cy (gM (dv 0) gT)) hW)))) (iq (iY se)) jh) (iJ (Az (dv 0) (pg rfl (je (pgo 1) (je (pgo 2) mU))) nZ) (iJ (mQ (As (qf (jW (kD (dC T.pV (uq T) hr (gM (dv 1) gT)))) (pH (jW (BE FF FF (dG T.vS) (dv 1) (dG T.yY)))))) (iq (iY se)) jh) (iJ (mQ (As (qf (jW (kD (iG oG T.hU boot_isinstance (gM (dv 2) (gM (yI T.kR boot_tuple) gT))))) (pH (jW (kD (iG (EH rfl) T.E6 boot_all (gM (Ax rfl (csc ["tie"] ["many"] [1]) (md (dv 2)) (λ _ _ _ _=>(pgo 0)) jI ku (λ _ _ _ _=>uP) (λ _ _ _ _=>(dC T.yi (DS T) hr (gM (dv 1) (gM (dv 0) gT))))) gT))))))) (iq (iY se)) jh) (iq (iY (xi (dC T.qU (A_ T) hr (gM (dv 2) gT)) (zv (vd (AG (hV hr)) (iG Na T.qj cy (gM (dC T.mK (p_ T) hr (gM (dv 2) (gM hW gT))) gT)) (dv 1))))))))))) DM
theorem vT (T:Txt K mg):OkT P w base T.nP 2 (spD K 3 lN):=T.nP.okD (g:=nI) vP (λ _ _ _ _ _ _ hr=>(iq (iY (kq (Ax rfl (csc ["near"] ["far","here"] [1,2]) (md (dC T.o9 (sI T) hr (gM (dv 0) (gM (dv 2) gT)))) (λ _ _ _ _=>(pgo 0)) jI ku (λ _ _ _ _=>(qE (jg FE (LY (Nat.lt_of_succ_lt (hV hr)) (dv 1) (dv 0)) (LY (Nat.lt_of_succ_lt (hV hr)) (dv 1) (dv 2))))) (λ _ _ _ _=>(dv 0))) hW)))) vK
theorem yn (T:Txt K mg):OkT P w base T.oH 3 (spD K 3 ml):=T.oH.okD (g:=mq) nN (λ _ _ _ _ _ _ hr=>(iJ (jS (i:=3) nN.nd (ja (gM (iG (Dw rfl) T.Cw boot_min (gM (dv 1) (gM (dv 2) gT))) (gM (iG (Dx rfl) T.Cy boot_max (gM (dv 1) (gM (dv 2) gT))) gT)))) (iJ (BJ (i:=4) nN.nd rfl (csc ["other"] ["tie"] [3]) (md (dv 0)) (λ _ _ _ _=>(pgo 0)) jI ku (λ _ _ _ _=>(qE (jg (xk (hV hr)) (dv 0) (dv 1)))) (λ _ _ _ _=>(dv 0))) (iq (iY (mC tG T.kR boot_tuple (gM (iG (FN srt lK nF rfl) T.o_ boot_sorted (gM (dC T.mK (p_ T) hr (gM (dv 4) (gM (dv 2) gT))) gT)) gT))))))) xC
theorem qa (T:Txt K mg):OkT P w base T.mL 1 (spD K 2 jM):=T.mL.okD (g:=qL) A5 (λ _ _ _ _ _ _ hr=>(iq (iY (Ax rfl (csc ["_law_other"] ["_law_web_here","_law_place"] [0,1]) (vY T.kS (gM (kq (dv 0) hW) gT)) (λ _ _ _ _=>(pgo 0)) jI ku (λ _ _ _ _=>(qE (jg (Ka (hV hr)) (ja (gM (iG (Dw rfl) T.Cw boot_min (gM (dv 2) (gM (dv 0) gT))) (gM (iG (Dx rfl) T.Cy boot_max (gM (dv 2) (gM (dv 0) gT))) gT))) (kq (dv 1) hW)))) (λ _ _ _ _=>(dv 0)))))) AM
theorem vA (T:Txt K mg):OkT P w base T.pW 1 (spD K 3 mh):=T.pW.okD (g:=pU) qT (λ _ _ _ _ _ _ hr=>(iJ (jS (i:=3) qT.nd (mz (gM (dv 2) gT))) (iJ (AA bB rfl (vY T.kS (gM (dv 0) gT)) (pgo 4) ku (iq (AA bB rfl (md (dv 1)) (pg rfl (je (pgo 5) (je (pgo 6) mU))) nZ (iq (mQ (As (qf (jg (Ka (hV hr)) (dv 5) (dv 3)) (pH (jg (Ka (hV hr)) (dv 6) (dv 3))))) (iq (jS (i:=3) qT.nd (jQ qg (dv 3) (Ax rfl (csc ["_law_place"] ["_law_found"] [3]) (md (ja (gM (dv 5) (gM (dv 6) gT)))) (λ _ _ _ _=>(pgo 0)) jI ku (λ _ _ _ _=>(qE (jg (EI (hV hr)) (dv 0) (dv 1)))) (λ _ _ _ _=>(dv 0)))))) jh))))) (iq (iY (iG (BO srt lK nF) T.o_ boot_sorted (gM (dv 3) gT))))))) Cq
theorem qW (T:Txt K mg):OkT P w base T.mv 3 (spD K 1 jb):=T.mv.okD (g:=iU) yh (λ _ _ _ _ _ _ hr=>(iJ (mQ (As (qf (jW (kD (iG oG T.hU boot_isinstance (gM (dv 0) (gM (yI T.kR boot_tuple) gT))))) (qf (jg (xk (hV hr)) (iG zy T.qj cy (gM (dv 0) gT)) hW) (qf (jW (kD (dC T.nc (rX T) hr (gM (kq (dv 0) hW) gT)))) (pH (jW (BE FF FF hW (kq (dv 0) hW) hW))))))) (iq (iY se)) jh) (iJ (mQ (As (qf (jW (kD (iG oG T.hU boot_isinstance (gM (kq (dv 0) hW) (gM (yI T.kR boot_tuple) gT))))) (pH (jW (kD (iG (EH rfl) T.E6 boot_all (gM (Ax rfl (csc ["_law_tie"] ["_law_thing"] [0]) (md (kq (dv 0) hW)) (λ _ _ _ _=>(pgo 0)) jI ku (λ _ _ _ _=>uP) (λ _ _ _ _=>(dC T.oJ (ym T) hr (gM (kq (dv 1) hW) (gM (dv 0) gT))))) gT))))))) (iq (iY se)) jh) (iJ (mQ (jg (PR (hV hr)) (mC xq T.yk boot_list (gM (kq (dv 0) hW) gT)) (Ck rfl hr.units T.o_ T.Md (kq (dv 0) hW))) (iq (iY se)) jh) (iq (iY (vd (PU (hV hr)) (dC T.pW (vA T) hr (gM (kq (dv 0) hW) (gM (kq (dv 0) hW) (gM hW gT)))) (HH rfl T.yk T.kS (kq (dv 0) hW))))))))) xX
theorem yZ (T:Txt K mg):OkX P w base T.qV 5 (spX K T.er.C 1 mY):=T.qV.okX (g:=mZ) A4 (λ _ _ _ _ _ _ hr=>lO (AQ (jW (kD (dC T.yj (DV T) hr (gM (dv 0) gT)))) (lO (tZ T.er.t_.cl rfl hr.hd nY)) (xH jh))) yR
theorem lq (T:Txt K mg):OkX P w base T.kn 3 (spX K T.er.C 2 jE):=T.kn.okX (g:=lQ) yf (λ _ _ _ _ _ _ hr=>lO (AQ (jW (kD (dC T.nO (pZ T) hr (gM (kq (dv 0) hW) (gM (dv 1) gT))))) (lO (tZ T.er.o7.cl rfl hr.hd nY)) (xH jh))) vN
theorem vB (T:Txt K mg):OkX P w base T.rH 6 (spX K T.er.C 1 mf):=T.rH.okX (g:=pS) DQ (λ _ _ _ _ _ _ hr=>nJ (pO (lj (pCE T.qV (yZ T) hr (gM (dv 0) gT)))) (nJ (Iv (Az (dv 0) (pg rfl (je (pgo 1) (je (pgo 2) mU))) nZ)) (lO (Iv (iY (vd (AG (hV hr)) (iG zy T.qj cy (gM (dv 2) gT)) (jQ Hu (dv 1) hW))))))) Ci
theorem qX (T:Txt K mg):OkX P w base T.m_ 7 (spX K T.er.C 1 kZ):=T.m_.okX (g:=k_) yV (λ _ _ _ _ _ _ hr=>lO (PJ (Kx (Kw (lj (pCE T.rH (vB T) hr (gM (dv 0) gT))))) (lO (tZ T.er.qM.cl rfl hr.hd nY)) (xH jh))) xM
theorem Cz (T:Txt K mg):OkX P w base T.A7 8 (spX K T.er.C 3 m6):=T.A7.okX (g:=pT) KS (λ _ _ _ _ _ _ hr=>nJ (pO (lj (pCE T.m_ (qX T) hr (gM (dv 0) gT)))) (nJ (pO (lj (pCE T.kn (lq T) hr (gM (dv 0) (gM (dv 1) gT))))) (nJ (pO (lj (pCE T.kn (lq T) hr (gM (dv 0) (gM (dv 2) gT)))))
 (nJ (AQ (jg (EI (hV hr)) (dv 2) (dC T.o9 (sI T) hr (gM (kq (dv 0) hW) (gM (dv 1) gT)))) (lO (tZ T.er.ua.cl rfl hr.hd nY)) (xH jh)) (lO (Iv (iY (dC T.oH (yn T) hr (gM (kq (dv 0) hW) (gM (dv 1) (gM (dv 2) gT)))))))))) ) IG
end
end K02
namespace L2
open PySem PySem.Spec PyProof.Rows Zp Qs
def yo (w:Web)(a b:Nat):XD:=.ok (.tup ((wyL w.2 b a).map gO))
def qY:List Dt->gF XD
 | [x,y,z]=>if okW x=S_/\kdB y=S_/\kdB z=S_ then My (kP x y z yo) else SY
 | _=>SY
def k3:DE->gF RX:=uW (tY (oq 1 kZ (gN (gR 0) gS))) (uW (tY (oq 2 jE (gN (gR 0) (gN (gR 1) gS)))) (tY (oq 2 jE (gN (gR 0) (gN (gR 2) gS)))))
theorem P4 {x y z:Dt}(hx:okW x=S_)(hy:kdB y=S_)(hz:kdB z=S_)(r:List (gF Dt)):(∃ c,k3 (My x::My y::My z::r)=My (.ex c)/\∀ (α:Type) (k:Web->Nat->Nat->Except Str α),kP x y z k=.error c) \/
  ∃ w a b,k3 (My x::My y::My z::r)=My (.nx (My x::My y::My z::r))/\x=hG w/\Good w/\w.2.length+1=w.1/\y=gO a/\z=gO b/\a<w.1/\b<w.1/\∀ (α:Type) (k:Web->Nat->Nat->Except Str α),kP x y z k=k w a b:=by
 have c1:=PL hx;unfold kP;cases e1:xT x with
 | error k=>rw[e1]at c1;exact .inl ⟨k,by simp[k3,c1,o8],λ _ _=>rfl⟩
 | ok w =>
  rw[e1]at c1;obtain⟨rfl,g,tr⟩:=xJ e1;have c2:=KJ g hy;have c3:=KJ g hz;dsimp only;cases e2:xP w y with
  | error k=>rw[e2]at c2;generalize hG w=ww at *;exact .inl ⟨k,by simp[k3,c1,c2,o8],λ _ _=>rfl⟩
  | ok a =>
   rw[e2]at c2;obtain⟨rfl,ha⟩:=EZ e2;dsimp only;cases e3:xP w z with
   | error k=>rw[e3]at c3;generalize gO a=na,hG w=ww at *;exact .inl ⟨k,by simp[k3,c1,c2,c3,o8],λ _ _=>rfl⟩
   | ok b =>rw[e3]at c3;obtain⟨rfl,hb⟩:=EZ e3;refine .inr ⟨w,a,b,?_,rfl,g,tr,rfl,rfl,ha,hb,λ _ _=>rfl⟩;generalize gO b=nb,gO a=na,hG w=ww at *;simp[k3,c1,c2,c3,o8]
theorem P5 {K:gG}{C:Str->Addr}{E:XK}{g1 g2 g3:DE->gF RX}{t:TS}{D:Ends}{σ:L2.St}{H:Hp}(h:jc (tXS K C E (uW g1 (uW g2 g3))) t D σ H):jc (tXS K C E g1) (jc (tXS K C E g2) (jc (tXS K C E g3) t)) D σ H:=by
 obtain⟨δ,r,S,e,q⟩:=h;obtain⟨r1,e1,e⟩:=gP e;refine⟨δ,r1,S,e1,λ H1 s1=>?_⟩;cases r1 with
 | rt d=>cases e;exact q H1 s1
 | ex c=>cases e;exact q H1 s1
 | nx δ1 =>
  refine λ σ1 S1=>?_;obtain⟨r2,e2,e⟩:=gP e;refine⟨δ1,r2,S1,e2,λ H2 s2=>?_⟩;cases r2 with
  | rt d=>cases e;exact q H2 (s1.trans s2)
  | ex c=>cases e;exact q H2 (s1.trans s2)
  | nx δ2 =>refine λ σ2 S2=>?_;exact⟨δ2,r,S2,e,λ H3 s3=>q H3 ((s1.trans s2).trans s3)⟩
end L2
namespace K02
open PySem PySem.Spec PyProof.Rows L2 Zp
section
variable {P:Program}{w:World}{K:gG}{mg:gD}{base:Heap}
theorem E7 (T:Txt K mg):OkX P w base T.E5 8 (spX K T.er.C 3 qY):=by
 refine T.E5.F.okE DR (λ vs H Q E h=>?_) (λ cdv A outer s H vs Q E hr h=>?_)
 ·obtain⟨ds,r,hl,is,_⟩:=h;rw[is.length,hl];rfl
 ·obtain⟨ds,r,hl,is,e,q⟩:=h
  match ds,hl,is,e with
  | [x,y,z],_,is,e =>
   by_cases hx:okW x=S_/\kdB y=S_/\kdB z=S_
   rotate_left
   ·exact absurd ((ak hx).symm.trans e) (λ e=>by cases e)
   have e:My (kP x y z yo)=My r:=(ai hx).symm.trans e;cases e;obtain⟨hx,hy,hz⟩:=hx;refine⟨_,gZ (pO (C:=T.er.C) (E:=E) (lj (pCE T.m_ (qX T) hr (gM (dv 0) gT)))) (gZ (pO (C:=T.er.C) (E:=E) (lj (pCE T.kn (lq T) hr (gM (dv 0) (gM (dv 1) gT))))) (gZ (pO (C:=T.er.C) (E:=E) (lj (pCE T.kn (lq T) hr (gM (dv 0) (gM (dv 2) gT)))))
     (PSs.nox (gZ (jS (i:=3) DR.nd (dC T.mK (p_ T) hr (gM (kq (dv 0) hW) (gM (dv 2) gT))))
     (gZ (iI (i:=4) DR.nd rfl (Or.inl rfl) (jV (gQ (pv 1) g9)))
     (gZ (wz bB (jg (xk (hV hr)) (kq (dv 4) (BQ hW)) (dv 2)) (iK (rb (u7 cC cM cN oM (pv 4) (gM (dC T.nP (vT T) hr (gM (kq (dv 0) hW) (gM (dv 3) (gM (kq (dv 4) (BQ hW)) gT)))) gT)))))
     (iK (lu (kK oC rfl T.kR boot_tuple (gQ (pv 4) g9)))))))))),?_⟩
   refine P5 ?_;rcases P4 hx hy hz [SY,SY] with⟨c,e1,e2⟩ | ⟨w,a,b,e1,rfl,g,tr,rfl,rfl,ha,hb,e2⟩
   ·refine⟨_,_,is.start (N:=["tree","a","b","far","places"]),e1,λ H1 s1=>λ e he=>?_⟩;rw[e2]at q;exact q e H1 s1 he
   ·refine⟨_,_,is.start (N:=["tree","a","b","far","places"]),e1,λ H1 s1 σ1 S1=>?_⟩;rw[e2]at q;obtain⟨_,_,_,z4⟩:=g.RA tr ha hb;refine⟨_,_,S1,z4,λ H4 s4 σ4 S4=>?_⟩;obtain⟨v1,h1,i1⟩:=S4.at_ 1 _ rfl;rw[i1.int_inv]at h1;refine⟨_,h1,by show 1<=sizeLine;decide,λ p hp=>?_⟩;exact g.Ia tr ha hb (gY.upd hp) hp S4 gU λ v H' s5 i5=>q v H' ((s1.trans s4).trans s5) i5
end
section
variable {P:Program}{w:World}{K:gG}{mg:gD}{base:Heap}
def DW (K:gG):Sp:=λ vs H Q _=>∃ (a:Addr) (ns:List Int) (k:Nat),vs=[.ref a,.int k]/\SqL K H a (ns.map V.int)/\ns.length<=63/\∀ c,Q (.int c) H
theorem KW (T:Txt K mg):OkT P w base T.nQ 1 (DW K):=by
 refine T.nQ.F.ok vQ (λ vs H Q E h=>?_) (λ cdv A outer s H vs Q E hr h=>?_)
 ·obtain⟨a,ns,k,rfl,_⟩:=h;rfl
 ·obtain⟨a,ns,k,rfl,hS,hl,q⟩:=h
  refine⟨_,gZ (sQ (vX LD (pv 1) (jO kL (by rfl) T.qj cy (gQ (pv 0) g9)) (wI _)) (iK (lu (lD kr (pv 0) (pv 1) (λ _ _=>rfl)))) nU) (iK (lu hJ)),?_⟩;refine⟨_,rfl,_,rfl,a,_,rfl,.inl hS,_,_,rfl,rfl,_,rfl,?_⟩;refine MR (λ hc=>?_) (λ _=>q 0);have hk:k<ns.length:=by have:=of_decide_eq_true hc;rw[af]at this;lia
  exact⟨_,rfl,_,rfl,a,_,_,.int ns[k],rfl,rfl,hS,by unfold atI ixN;rw[ai (by lia),ai (by rw[af];lia)];simp[hk],q _⟩
def jZ:Sp:=λ vs H Q _=>∃ (p:Addr) (n far:Int),vs=[.ref p,.int far]/\H p=My (.lst [.int n])/\0<far/\far<1073741824/\Q (.int (n % far)) (upd H p (.lst [.int (n / far)]))
theorem jN (T:Txt K mg):OkT P w base T.iH 1 jZ:=by
 refine T.iH.F.ok uo (λ vs H Q E h=>?_) (λ cdv A outer s H vs Q E hr h=>?_)
 ·obtain⟨p,n,far,rfl,_⟩:=h;rfl
 ·obtain⟨p,n,far,rfl,hp,h0,h1,q⟩:=h
  refine⟨_,gZ (iI (i:=2) uo.nd rfl (Or.inl rfl) (jC z0 (lD kr (pv 0) hJ (λ _ _=>rfl)) (pv 1)))
   (gZ (zY (jC Jz (lD kr (pv 0) hJ (λ _ _=>rfl)) (pv 1)) (CQ (pv 0) hJ set_list))
   (iK (lu (pv 2)))),?_⟩
  refine⟨_,rfl,p,_,_,.int n,rfl,rfl,SqL.of hp,rfl,_,rfl,_,_,rfl,rfl,h0,?_⟩;refine⟨_,rfl,p,_,_,.int n,rfl,rfl,SqL.of hp,rfl,_,rfl,_,_,rfl,rfl,⟨h0,h1⟩,_,rfl,p,_,_,0,rfl,rfl,hp,rfl,_,rfl,?_⟩;exact q
def IV:Sp:=λ vs H Q _=>∃ c:Int,vs=[.int c]/\∀ (p:Addr) (n:Int),H p=SY->Q (.ref p) (upd H p (.lst [.int n]))
theorem NT (T:Txt K mg):OkT P w base T.sF 1 IV:=by
 refine T.sF.F.ok mJ (λ vs H Q E h=>?_) (λ cdv A outer s H vs Q E hr h=>?_)
 ·obtain⟨c,rfl,_⟩:=h;rfl
 ·obtain⟨c,rfl,q⟩:=h
  refine⟨_,gZ (sQ (vX OW (pv 0) (jC z3 hJ hJ) (wI _)) (iK (lu (jV (gQ (jC zZ (pv 0) (jC z3 hJ hJ)) g9)))) nU)
   (gZ (iI (i:=1) mJ.nd rfl (Or.inl rfl) hJ)
   (gZ (nB bB rfl (lZ rfl T.kS (gQ hJ g9)) (pgo 2)
    (gZ (iI (i:=3) mJ.nd rfl (Or.inl rfl) (jC z0 (jC uC (jC qt (jC qt (jC z0 (pv 0) hJ) (jC uC hJ (pv 2))) hJ) hJ) hJ))
    (gZ (iI (i:=3) mJ.nd rfl (Or.inl rfl) (jC z0 (jC qt (jC qt (jC uC (pv 3) (pv 3)) (jC uC hJ (pv 2))) hJ) hJ))
    (iK (iI (i:=1) mJ.nd rfl (Or.inl rfl) (jC qt (jC uC (pv 1) hJ) (pv 3)))))))
   (iK (lu (jV (gQ (pv 1) g9)))))),?_⟩
  refine⟨_,rfl,_,_,rfl,rfl,⟨by decide,by decide,by decide⟩,_,_,rfl,rfl,_,rfl,?_⟩;refine MR (λ _=>?_) (λ _=>?_)
  ·exact⟨_,rfl,_,_,rfl,rfl,⟨by decide,by decide,by decide⟩,_,_,rfl,rfl,by show 1<=sizeLine;decide,λ l hl=>q l _ hl⟩
  ·refine⟨64,rfl,by decide,by decide,ng (n:=64) (λ i σ H'=>H'=H/\∃ (n:Int) (a b:gF V),σ=[My (.int c),My (.int n),a,b]) ⟨rfl,0,SY,SY,rfl⟩ ?_ ?_⟩
   ·rintro i σ H' hi ⟨rfl,n,a,b,rfl⟩
    refine⟨_,rfl,_,_,rfl,rfl,(by show(0:Int)<2147483629;decide),_,rfl,_,_,rfl,rfl,.inl ⟨by decide,by decide⟩,_,_,rfl,rfl,_,_,rfl,rfl,_,_,rfl,rfl,.inr ⟨by decide,by decide⟩,_,_,rfl,rfl,(by show(0:Int)<2147483647;decide),?_⟩;generalize hmx:((c % 2147483629+7919*(0+(i:Int))+1)*48271) % 2147483647=mx;have h0:0<=mx:=by rw[<-hmx];exact cn _ (by decide)
    have h1:mx<2147483647:=by rw[<-hmx];exact cL _ (by decide)
    refine⟨_,rfl,_,rfl,_,_,rfl,rfl,.inl ⟨by lia,by lia⟩,_,rfl,_,_,rfl,rfl,.inl ⟨by decide,by decide⟩,_,_,rfl,rfl,_,_,rfl,rfl,_,_,rfl,rfl,(by show(0:Int)<2147483587;decide),?_⟩;refine⟨_,rfl,_,_,rfl,rfl,.inr ⟨by decide,by decide⟩,_,rfl,_,_,rfl,rfl,?_⟩;exact⟨rfl,_,_,_,rfl⟩
   ·rintro σ H' ⟨rfl,n,a,b,rfl⟩;exact⟨_,rfl,by show 1<=sizeLine;decide,λ l hl=>q l _ hl⟩
end
def But (p:Addr)(H H':Hp):Prop:=∀ b o,H b=My o->b≠p->H' b=My o
theorem But.refl (p:Addr)(H:Hp):But p H H:=λ _ _ h _=>h
theorem But.ur {p:Addr}{H H':Hp}{o:HO}(h:But p H H'):But p H (upd H' p o):=λ b u e n=>by rw[g6 n];exact h b u e n
theorem But.new {p q:Addr}{H H':Hp}{o:HO}(h:But p H H')(hq:H q=SY):But p H (upd H' q o):=λ b u e n=>by rw[g6 (ir e hq)];exact h b u e n
theorem But.none {p q:Addr}{H H':Hp}(h:But p H H')(hn:H' q=SY)(hp:q≠p):H q=SY:=by
 cases e:H q with
 | none=>rfl
 | some o=>rw[h q o e hp]at hn;cases hn
theorem yp {α:Type}:∀ (L:List α) {j:Nat} (h:j<L.length),(L[j]::L.eraseIdx j).Perm L
 | a::r,0,h=>.refl _
 | a::r,j+1,h=>by have ih:=yp r (j:=j) (by simpa using h);show(r[j]'(by simpa using h)::a::r.eraseIdx j).Perm (a::r);exact(List.Perm.swap _ _ _).trans (ih.cons a)
theorem zR {α β:Type}(f:α->β):∀ (L:List α) (j:Nat),(L.map f).eraseIdx j=(L.eraseIdx j).map f
 | [],_=>rfl
 | a::r,0=>rfl
 | a::r,j+1=>by show f a::(r.map f).eraseIdx j=f a::(r.eraseIdx j).map f;rw[zR f r j]
theorem Me {xs:List Nat}{j:Nat}(h:j<xs.length):atI (xs.map iV) (j:Int)=My (iV (xs.getD j 0)):=by refine lh ?_;rw[aK,aG,aF h];rfl
def TN (H:Hp)(vs:List V)(l:gK):Prop:=FA H vs (l.map λ t=>[(t.1:Int),(t.2:Int)])
theorem TN.text {H H':Hp}{vs:List V}{l:gK}(h:TN H vs l)(e:kc H H'):TN H' vs l:=Paired.imp' (λ _ _ ⟨b,e1,e2⟩=>⟨b,e1,e.ql _ _ e2⟩) h
theorem TN.len {H:Hp}{vs:List V}{l:gK}(h:TN H vs l):vs.length=l.length:=by have:=fu h;simpa using this
theorem TN.snoc {H:Hp}{vs:List V}{l:gK}{b:Addr}{t:Nat×Nat}(h:TN H vs l)(hb:H b=My (.tup [.int t.1,.int t.2])):TN H (vs++[.ref b]) (l++[t]):=by unfold TN at *;rw[aY];exact fZ h ⟨b,rfl,hb⟩
theorem TN.get {H:Hp}{vs:List V}{l:gK}(h:TN H vs l){i:Nat}{v:V}(e:vs[i]?=My v):∃ t b,l[i]?=My t/\v=.ref b/\H b=My (.tup [.int t.1,.int t.2]):=by
 obtain⟨k,hk,b,e1,e2⟩:=oN h i v e;rw[aK]at hk;cases ht:l[i]? with
 | none=>rw[ht]at hk;cases hk
 | some t=>rw[ht]at hk;cases hk;exact⟨t,b,rfl,e1,e2⟩
theorem CA {K:gG}{H:Hp}{ws:List V}{l:gK}(h:TN H ws l):Iss K H ws (l.map gX):=by
 induction l generalizing ws with
 | nil=>cases h;exact .nil
 | cons t r ih =>
  cases h with
  | cons h1 h2 =>obtain⟨b,rfl,hb⟩:=h1;exact .cons (.tup (SqT.of hb) (.cons (.int _) (.cons (.int _) .nil))) (ih h2)
theorem Gq {ks:List (List Int)}{l:gK}(h:∀ k∈ks,k∈l.map λ t=>[(t.1:Int),(t.2:Int)]):(ks.map λ k=>(k.getD 0 0,k.getD 1 0)).map (λ(k:Int×Int)=>[k.1,k.2])=ks:=by
 rw[aP];conv=>rhs;rw[<-cP ks]
 refine bG λ k hk=>?_;obtain⟨t,_,rfl⟩:=aA.mp (h k hk);rfl
section
variable {P:Program}{w:World}{K:gG}{mg:gD}{base:Heap}
def Mf (K:gG):Sp:=λ vs H Q _=>∃ (p:Addr) (n:Int) (thick:Nat),vs=[.ref p,.int 8,.int thick]/\thick<=1/\H p=My (.lst [.int n]) /\
 ∀ v H' (n':Int) (w:Web),Good w->(thick=0->w.2.length+1=w.1)->Is K H' v (hG w)->H' p=My (.lst [.int n'])->But p H H'->Q v H'
def Gr (K:gG):List V->Hp->VK->Prop:=λ xs H Q=>∃ p ys,xs=[.ref p]/\(SqL K H p ys\/SqT K H p ys)/\Q (.int ys.length) H
def NU:List V->Hp->VK->Prop:=λ xs H Q=>∃ i j,xs=[.int i,.int j]/\Q (.int (if j<i then j else i)) H
def NV:List V->Hp->VK->Prop:=λ xs H Q=>∃ i j,xs=[.int i,.int j]/\Q (.int (if j>i then j else i)) H
def NW:List V->Hp->VK->Prop:=λ xs H Q=>∃ (r:Addr) (n:Nat),xs=[V.ref r]/\H r=My (HO.rng 0 (n:Int))/\n<=1000/\∀ (p:Addr),H p=SY->Q (V.ref p) (upd H p (HO.lst (List.map (λ(i:Nat)=>V.int (i:Int)) (Tc n))))
def P6:List V->Hp->VK->Prop:=λ xs H Q=>∃ (j:Int),xs=[V.int j]/\∀ (p:Addr),H p=SY->Q (V.ref p) (upd H p (HO.rng 0 j))
def NX (K:gG):List V->Hp->VK->Prop:=λ xs H Q=>∃ p ys,xs=[V.ref p]/\((SqL K H p ys/\∀ (l:Addr),H l=SY->Q (V.ref l) (upd H l (HO.tup ys)))\/SqT K H p ys/\Q (V.ref p) H)
def KY (w:World):List V->Hp->VK->Prop:=λ xs H Q=>∃ (S:Addr) (kk:List (Int×Int)),xs=[V.ref S]/\JU w H S (List.map (λ(k:Int×Int)=>[k.1,k.2]) kk)/\kk.length<64/\∀ (p:Addr) (ws:List V) (ss:List (Int×Int)),H p=SY->FA H ws (List.map (λ(k:Int×Int)=>[k.1,k.2]) ss)->List.Pairwise (λ a b=>Tb.pLt a b=S_) ss->ss.Perm kk->Q (V.ref p) (upd H p (HO.lst ws))
def RQ (K:gG)(w:World):List V->Hp->VK->Prop:=λ xs H Q=>∃ (l:Addr) (vs:List V) (kk:List (List Int)),xs=[V.ref l]/\SqL K H l vs/\FA H vs kk/\vs.length<=40/\∀ (S:Addr) (o:HO) (ks:List (List Int)),H S=SY->JU w (upd H S o) S ks->(∀ (k:List Int),k∈ks↔k∈kk)->Q (V.ref S) (upd H S o)
def wF (K:gG)(w:World):TS:=zX (yz (g0 (hX 3) (g0 (tCB (NX K) (g0 (tCB (KY w) (g0 (tCB (RQ K w) (g0 (hX 8) iL)) iL)) iL)) iL)))
def eN (K:gG):TE:=yz (g0 (tCB NU (g0 (tOp (pz K) (hX 2) (hX 0)) (g0 (tOp (pz K) (hX 2) (hX 1)) iL))) (g0 (tCB NV (g0 (tOp (pz K) (hX 2) (hX 0)) (g0 (tOp (pz K) (hX 2) (hX 1)) iL))) iL))
def wE (K:gG)(w:World):TS:=jc (λ D σ H=>tLC ["_law_one","_law_other"] [7] (D6 K (hX 8)) (GF K 2 (u4 (iA 0) (u4 (iA 1) GC))) Hd (eN K) σ H λ v H'=>D.nx (List.set σ 8 (My v)) H') (wF K w)
def b2 (K:gG):TS:=jc (j_ (jr jZ [] E0 (g0 (hX 0) (g0 (hX 3) iL))) (iA 12)) (jc (j_ (jr jZ [] E0 (g0 (hX 0) (g0 (hX 3) iL))) (iA 13)) (Ju (GH (tOp rNe (hX 12) (hX 13))) (za (tBM K "list" rf (hX 8) (g0 (yz (g0 (hX 12) (g0 (hX 13) iL))) iL))) D5))
def wD (K:gG)(w:World):TS:=jc (wG (zb (g0 (hX 5) iL)) (iA 11) (b2 K)) (wE K w)
def b1 (K:gG):TS:=jc (j_ (jr jZ [] E0 (g0 (hX 0) (g0 (hX 9) iL))) (iA 10)) (za (tBM K "list" rf (hX 8) (g0 (yz (g0 (tOp (pz K) (qu (g0 (tOp (rI0 λ i j=>V.int (i-j)) (hX 9) (tC (V.int 1))) (g0 (hX 10) (g0 (hX 10) (g0 (tC (V.int 0)) iL))))) (hX 4)) (g0 (hX 9) iL))) iL)))
def wC (K:gG)(w:World):TS:=jc (j_ (qu iL) (iA 8)) (jc (wG (LA (g0 (tC (V.int 1)) (g0 (hX 3) iL))) (iA 9) (b1 K)) (wD K w))
def eC (K:gG):TE:=tBM K "list" C7 (hX 1) (g0 (jr jZ [] E0 (g0 (hX 2) (g0 (tCB (Gr K) (g0 (hX 1) iL)) iL))) iL)
def wB (K:gG)(w:World):TS:=jc (j_ (tLC ["_law_turn"] [6,0] (zb (g0 (hX 3) iL)) (iA 0) Hd (eC K)) (iA 7)) (wC K w)
def wA (K:gG)(w:World):TS:=jc (j_ (tOp (rI0 λ i j=>V.int (i+j)) (tC (V.int 2)) (jr jZ [] E0 (g0 (hX 0) (g0 (tOp (rI0 λ i j=>V.int (i-j)) (hX 1) (tC (V.int 1))) iL)))) (iA 3)) (jc (j_ (jr jZ [] E0 (g0 (hX 0) (g0 (tC (V.int 4)) iL))) (iA 4)) (jc (j_ (tOp (rI Jy λ i j=>V.int (i*j)) (tOp (pz K) (qu (g0 (tC (V.int 0)) (g0 (tC (V.int 1)) (g0 (tC (V.int 2)) (g0 (tC (V.int 12)) iL))))) (jr jZ [] E0 (g0 (hX 0) (g0 (tC (V.int 4)) iL)))) (hX 2)) (iA 5)) (jc (j_ (tCB NW (g0 (tCB P6 (g0 (hX 3) iL)) iL)) (iA 6)) (wB K w))))
def QW (K:gG)(p:Addr)(H:Hp)(thick:Nat)(rt:VK):Prop:=∀ v H' (n':Int) (w:Web),Good w->(thick=0->w.2.length+1=w.1)->Is K H' v (hG w)->H' p=My (.lst [.int n'])->But p H H'->rt v H'
abbrev sgW (p:Addr)(thick m sh extra:Nat)(lf cl ti:V)(pl dr tu on ot:gF V):L2.St:=[My (.ref p),My (.int 8),My (iV thick),My (iV m),My (iV sh),My (iV extra),My lf,My cl,My ti,pl,dr,tu,on,ot]
theorem NY {m:Nat}{xs:List Nat}{tb te:gK}{ss:List (Int×Int)}(Dr:Drawn m xs tb te)(hpw:ss.Pairwise λ a b=>Tb.pLt a b=S_)(memss:∀ k,k∈ss↔∃ t∈(tb++te).map (rel xs),k=((t.1:Int),(t.2:Int))) :
  Good (m,ss.map λ k=>(k.1.toNat,k.2.toNat))/\(te=[]->(ss.map λ k=>(k.1.toNat,k.2.toNat)).length+1=m):=by
 refine Ki Dr (ss:=ss.map λ k=>(k.1.toNat,k.2.toNat)) ?_ λ t=>?_
 ·rw[bq];refine dO ?_ hpw;intro a b ha hb hab;obtain⟨t,_,rfl⟩:=(memss a).mp ha;obtain⟨u,_,rfl⟩:=(memss b).mp hb;rw[Tb.pB]at hab;rw[kX];simp at hab ⊢;lia
 ·rw[aA]
  constructor
  ·rintro⟨k,hk,rfl⟩;obtain⟨u,hu,rfl⟩:=(memss k).mp hk;simpa using hu
  ·intro ht;exact⟨((t.1:Int),(t.2:Int)),(memss _).mpr ⟨t,ht,rfl⟩,by simp⟩
theorem KZ {H:Hp}{ws:List V}{ss:List (Int×Int)}{l:gK}(memss:∀ k,k∈ss↔∃ t∈l,k=((t.1:Int),(t.2:Int)))(htups:FA H ws (ss.map λ k=>[k.1,k.2])):TN H ws (ss.map λ k=>(k.1.toNat,k.2.toNat)):=by
 have back:(ss.map λ k=>(k.1.toNat,k.2.toNat)).map (λ t=>((t.1:Int),(t.2:Int)))=ss:=by
  rw[aP];conv=>rhs;rw[<-cP ss]
  refine bG λ k hk=>?_;obtain⟨t,_,rfl⟩:=(memss k).mp hk;simp
 unfold TN;have:(ss.map λ k=>(k.1.toNat,k.2.toNat)).map (λ t=>[(t.1:Int),(t.2:Int)])=ss.map λ k=>[k.1,k.2]:=by
  conv=>rhs;rw[<-back]
  rw[aP,aP,aP];rfl
 rw[this];exact htups
theorem P7 {D:Ends}{σ:L2.St}{p:Addr}{H:Hp}{thick m:Nat}{xs:List Nat}{tb te:gK}{q0:Addr}{H8:Hp}{ys:List V}{n7:Int}(q:QW K p H thick D.rt)(Dr:Drawn m xs tb te)(hte:thick=0->te=[])
  (h3:σ[3]?=My (My (iV m))) (h8:σ[8]?=My (My (.ref q0))) (y8:H8 q0=My (.lst ys)) (tn8:TN H8 ys ((tb++te).map (rel xs))) (p8:H8 p=My (.lst [.int n7])) (b8:But p H H8) (yl:(tb++te).length<=19):wF K w D σ H8:=by
 have hyl:=tn8.len;rw[af]at hyl;refine⟨_,h3,_,h8,q0,ys,_,rfl,SqL.of y8,tn8,by lia,λ S o ks hS hset hmem=>?_⟩;have s1:gY H8 (upd H8 S o):=gY.upd hS;have S0:H S=SY:=b8.none hS (bu (ir p8 hS));have b9:But p H (upd H8 S o):=b8.new S0;have p9:=s1 _ _ p8;have ndks:ks.Nodup:=by obtain⟨_,_,_,_,_,_,_,_,_,_,_,nd,_⟩:=hset;exact nd
 generalize upd H8 S o=H9 at b9 p9 hset;have frm:=Gq λ k hk=>(hmem k).mp hk;have ksl:ks.length<=19:=by have:=aD ndks λ k hk=>(hmem k).mp hk;rw[af,af]at this;lia
 refine⟨S,ks.map λ k=>(k.getD 0 0,k.getD 1 0),rfl,by rw[frm];exact hset,by rw[af];lia,λ sp ws ss hsp htups hpw hperm=>?_⟩;have sp0:H sp=SY:=b9.none hsp (bu (ir p9 hsp));refine⟨sp,ws,rfl,.inl ⟨SqL.of gU,λ tp htp=>?_⟩⟩;have s2:gY H9 (upd (upd H9 sp (.lst ws)) tp (.tup ws)):=(gY.upd hsp).trans (gY.upd htp);have ntsp:tp≠sp:=λ z=>by rw[z,gU]at htp;cases htp
 have htp9:H9 tp=SY:=by rw[g6 ntsp]at htp;exact htp
 have tp0:H tp=SY:=b9.none htp9 (bu (ir p9 htp9));have b10:But p H (upd (upd H9 sp (.lst ws)) tp (.tup ws)):=(b9.new sp0).new tp0;have p10:=s2 _ _ p9;have memss:∀ k,k∈ss↔∃ t∈(tb++te).map (rel xs),k=((t.1:Int),(t.2:Int)):=λ k=>by
  rw[hperm.mem_iff,aA];constructor
  ·rintro⟨l0,hl0,rfl⟩;obtain⟨t,ht,rfl⟩:=aA.mp ((hmem l0).mp hl0);exact⟨t,ht,rfl⟩
  ·rintro⟨t,ht,rfl⟩;exact⟨[(t.1:Int),(t.2:Int)],(hmem _).mpr (aA.mpr ⟨t,ht,rfl⟩),rfl⟩
 obtain⟨hgood,hthin⟩:=NY Dr hpw memss;have hI:Is K (upd (upd H9 sp (.lst ws)) tp (.tup ws)) (.ref tp) _:=Is.tup (SqT.of gU) (CA ((KZ memss htups).text s2.text));generalize upd (upd H9 sp (.lst ws)) tp (.tup ws)=H10 at b10 p10 hI;refine⟨by show 2<=sizeLine;decide,λ fin hfin=>?_⟩;have s3:gY H10 (upd H10 fin (.tup [.int m,.ref tp])):=gY.upd hfin;have f0:H fin=SY:=b10.none hfin (bu (ir p10 hfin));exact q _ _ n7 (m,ss.map λ k=>(k.1.toNat,k.2.toNat)) hgood (λ h0=>hthin (hte h0)) (.tup (SqT.of gU) (.cons (.int _) (.cons (hI.ext s3) .nil))) (s3 _ _ p10) (b10.new f0)
theorem P8 {ti:Addr}{Q:VK}{σ:L2.St}{xs:List Nat}{m:Nat}{cl:Addr}{t:Nat×Nat}{H':Hp}(h0:σ[0]?=My (My (iV t.1)))(h1:σ[1]?=My (My (iV t.2)))(h2:σ[2]?=My (My (.ref cl)))(c7:H' cl=My (.lst (xs.map iV)))(l1:t.1<xs.length)(l2:t.2<xs.length)
  (q:∀ tt,H' tt=SY->Q (.ref tt) (upd H' tt (.tup [.int (rel xs t).1,.int (rel xs t).2]))):eN K σ H' Q:=by
 have a1:=Me (xs:=xs) l1;have a2:=Me (xs:=xs) l2;refine⟨_,h2,_,h0,cl,_,_,_,rfl,rfl,SqL.of c7,a1,_,h2,_,h1,cl,_,_,_,rfl,rfl,SqL.of c7,a2,_,_,rfl,_,h2,_,h0,cl,_,_,_,rfl,rfl,SqL.of c7,a1,_,h2,_,h1,cl,_,_,_,rfl,rfl,SqL.of c7,a2,_,_,rfl,by show 2<=sizeLine;decide,λ tt htt=>?_⟩;have erel:([V.int (if ((xs.getD t.2 0:Nat):Int)<((xs.getD t.1 0:Nat):Int) then ((xs.getD t.2 0:Nat):Int) else ((xs.getD t.1 0:Nat):Int)),V.int (if ((xs.getD t.2 0:Nat):Int)>((xs.getD t.1 0:Nat):Int) then ((xs.getD t.2 0:Nat):Int) else ((xs.getD t.1 0:Nat):Int))]:List V)=[.int (rel xs t).1,.int (rel xs t).2]:=by unfold rel;simp only[List.cons.injEq,V.int.injEq,and_true];constructor<;>(split<;>lia)
 rw[erel];exact q tt htt
def iE (p:Addr)(H:Hp)(xs:List Nat)(tb te:gK)(cl ti:Addr)(vs:List V)(n7:Int):Nat->Nat->List V->Hp->Prop:=λ i mm ys H'=>mm=vs.length-i/\i<=vs.length/\ys.length=i/\TN H' ys (((tb++te).take i).map (rel xs))/\H' ti=My (.lst vs)/\TN H' vs (tb++te)/\H' cl=My (.lst (xs.map iV))/\H' p=My (.lst [.int n7])/\But p H H'
theorem P9 {D:Ends}{p:Addr}{H:Hp}{thick m sh extra:Nat}{xs:List Nat}{tb te:gK}{lf cl ti:Addr}{pl dr tu on ot:gF V}{H7:Hp}{vs:List V}{n7:Int}(q:QW K p H thick D.rt)(Dr:Drawn m xs tb te)(hte:thick=0->te=[])
  (t7:H7 ti=My (.lst vs)) (tn7:TN H7 vs (tb++te)) (c7:H7 cl=My (.lst (xs.map iV))) (p7:H7 p=My (.lst [.int n7])) (b7:But p H H7) (hl:(tb++te).length<=19):wE K w D (sgW p thick m sh extra (.ref lf) (.ref cl) (.ref ti) pl dr tu on ot) H7:=by
 have hvl:=tn7.len;refine⟨_,rfl,ti,rfl,⟨_,SqL.of t7⟩,iE p H xs tb te cl ti vs n7,
  ⟨vs.length,rfl,aN _,rfl,.nil,t7,tn7,c7,p7,b7⟩,?_⟩
 clear t7 tn7 c7 p7 b7;rintro i mm ys H' ⟨rfl,hiv,hyl,tny,t7,tn7,c7,p7,b7⟩;rcases Nat.lt_or_ge i vs.length with hi' | hi'
 ·right
  have hxi:vs[i]?=My vs[i]:=by simp[hi']
  obtain⟨t,b,et,ev,hb⟩:=tn7.get hxi;have htm:=Dr.all (bg et);have hxl:xs.length=m:=Dr.len;refine⟨⟨vs,vs[i],SqL.of t7,hxi⟩,by rw[sizeLine_eq];lia,λ x H'' ⟨e1,yx⟩=>?_⟩;subst e1;have ex:=yx vs (SqL.of t7);rw[hxi]at ex;have ex:=ao ex;subst ex;refine⟨b,_,ev,SqT.of hb,rfl,_,_,rfl,_,_,rfl,rfl,?_⟩;dsimp only [Hd];refine G0 ?_;refine P8 (ti:=ti) (m:=m) (t:=t) rfl rfl rfl c7 (by lia) (by lia) λ tt htt=>?_;have sm:gY H'' (upd H'' tt (.tup [.int (rel xs t).1,.int (rel xs t).2])):=gY.upd htt;have tt0:H tt=SY:=b7.none htt (bu (ir p7 htt));refine⟨vs.length-(i+1),by lia,rfl,hi',by simp[hyl],?_,sm _ _ t7,tn7.text sm.text,sm _ _ c7,sm _ _ p7,b7.new tt0⟩;rw[eZ,et,aY];exact(tny.text sm.text).snoc (t:=rel xs t) gU
 ·left
  have hi2:vs.length=i:=by lia
  subst hi2;rw[dY (by lia)]at tny;refine⟨⟨vs,SqL.of t7,ay _⟩,λ q0 hq0=>?_⟩;have s0:gY H' (upd H' q0 (.lst ys)):=gY.upd hq0;exact P7 (D:=D) q Dr hte rfl rfl gU (tny.text s0.text) (s0 _ _ p7) (b7.new (b7.none hq0 (bu (ir p7 hq0)))) hl
theorem NZ {D:Ends}{p:Addr}{thick m sh extra:Nat}{lf cl ti:Addr}{pl dr tu on ot:gF V}{H':Hp}{vs:List V}{n7:Int}(m2:0<m)(m8:m<=8)(p7:H' p=My (.lst [.int n7]))(t7:H' ti=My (.lst vs))(ntp:ti≠p)(hvl:vs.length<=60)
  (h1:∀ (o1 o2:Nat) (n9:Int) on ot,D.nx (sgW p thick m sh extra (.ref lf) (.ref cl) (.ref ti) pl dr tu on ot) (upd H' p (.lst [.int n9])))
  (h2:∀ (o1 o2:Nat) (n9:Int) on ot tt,o1<m->o2<m->o1≠o2->upd H' p (.lst [.int n9]) tt=SY->D.nx (sgW p thick m sh extra (.ref lf) (.ref cl) (.ref ti) pl dr tu on ot) (upd (upd (upd H' p (.lst [.int n9])) tt (.tup [.int o1,.int o2])) ti (.lst (vs++[.ref tt])))) :
  b2 K D (sgW p thick m sh extra (.ref lf) (.ref cl) (.ref ti) pl dr tu on ot) H':=by
 have mp:(0:Int)<m:=by lia
 refine⟨_,rfl,_,rfl,p,n7,_,rfl,p7,mp,by show(m:Int)<_;lia,?_⟩;dsimp only;obtain⟨o1,ho1,o1m⟩:∃ d:Nat,n7 % (m:Int)=d/\d<m:=⟨(n7 % (m:Int)).toNat,by have:=cn n7 (show(m:Int)≠0 by lia);lia,by have:=cL n7 mp;have:=cn n7 (show(m:Int)≠0 by lia);lia⟩;rw[ho1];generalize n7 / (m:Int)=n8;have p8:upd H' p (.lst [.int n8]) p=My (.lst [.int n8]):=gU;refine⟨_,rfl,_,rfl,p,n8,_,rfl,p8,mp,by show(m:Int)<_;lia,?_⟩;dsimp only;obtain⟨o2,ho2,o2m⟩:∃ d:Nat,n8 % (m:Int)=d/\d<m:=⟨(n8 % (m:Int)).toNat,by have:=cn n8 (show(m:Int)≠0 by lia);lia,by have:=cL n8 mp;have:=cn n8 (show(m:Int)≠0 by lia);lia⟩;rw[ho2];generalize n8 / (m:Int)=n9;have e9:upd (upd H' p (.lst [.int n8])) p (.lst [.int n9])=upd H' p (.lst [.int n9]):=by funext b;unfold upd;split<;>rfl
 rw[e9];have t8:upd H' p (.lst [.int n9]) ti=My (.lst vs):=by rw[g6 ntp];exact t7
 refine⟨_,rfl,_,rfl,rfl,_,rfl,?_⟩;refine MR (λ hne=>?_) (λ _=>h1 o1 o2 n9 _ _);have hne:o1≠o2:=λ e=>by subst e;simp at hne
 refine⟨_,rfl,.inl ⟨rfl,_,SqL.of t8⟩,_,rfl,_,rfl,by show 2<=sizeLine;decide,λ tt htt=>?_⟩;refine⟨ti,vs,_,rfl,rfl,(gY.upd htt) _ _ t8,by rw[sizeLine_eq];lia,h2 o1 o2 n9 _ _ tt o1m o2m hne htt⟩
def iD (p : Addr)(H : Hp)(thick m sh extra : Nat)(xs : List Nat)(tb : List (Nat × Nat))(lf cl ti : Addr) : Nat -> L2.St -> Hp -> Prop := λ i σ' H' => ∃ (te : List (Nat × Nat)) (vs : List V) (n7 : Int) (pl dr tu on ot : gF V), σ' = sgW p thick m sh extra (.ref lf) (.ref cl) (.ref ti) pl dr tu on ot /\
      te.length <= i /\ (∀ t ∈ te, t.1 < m /\ t.2 < m /\ t.1 ≠ t.2) /\ H' ti = My (.lst vs) /\ TN H' vs (tb ++ te) /\ H' cl = My (.lst (xs.map iV)) /\ H' p = My (.lst [.int n7]) /\ But p H H'
theorem P_ {D:Ends}{p:Addr}{H:Hp}{thick m sh extra:Nat}{xs:List Nat}{tb:gK}{lf cl ti:Addr}{pl dr:gF V}{H7:Hp}{vs:List V}{n7:Int}(q:QW K p H thick D.rt)(m2:2<=m)(m8:m<=8)(perm:xs.Perm (Tc m))
  (htl:tb.length=m-1) (htk:∀ k,k<m-1->∃ a,tb[k]?=My (a,k+1)/\a<=k) (hex2:extra<=12) (hex0:thick=0->extra=0) (ntp:ti≠p) (ntc:ti≠cl) (ncp:cl≠p) (hti0:H ti=SY)
  (t7:H7 ti=My (.lst vs)) (tn7:TN H7 vs tb) (c7:H7 cl=My (.lst (xs.map iV))) (p7:H7 p=My (.lst [.int n7])) (b7:But p H H7):wD K w D (sgW p thick m sh extra (.ref lf) (.ref cl) (.ref ti) pl dr SY SY SY) H7:=by
 have hext:((extra:Nat):Int).toNat=extra:=by lia
 refine⟨_,rfl,extra,rfl,by lia,by lia,ng (lo:=0) (n:=((extra:Nat):Int).toNat) (iD p H thick m sh extra xs tb lf cl ti)
  ⟨[],vs,n7,pl,dr,SY,SY,SY,rfl,ay _,(λ t ht=>by cases ht),t7,(by rw[bA];exact tn7),c7,p7,b7⟩ ?_ ?_⟩
 ·clear t7 tn7 c7 p7 b7
  rintro i σ' H' hi ⟨te,vs,n7,pl,dr,tu,on,ot,rfl,tel,teo,t7,tn7,c7,p7,b7⟩;have hvl:=tn7.len;rw[aH,htl]at hvl;have tx (n9:Int):kc H' (upd H' p (.lst [.int n9])):=kc.upd (by rw[p7];trivial);refine NZ (by lia) m8 p7 t7 ntp (by lia) (λ o1 o2 n9 on ot=>⟨te,vs,n9,_,_,_,_,_,rfl,by lia,teo,?_,tn7.text (tx n9),?_,gU,b7.ur⟩) λ o1 o2 n9 on ot tt o1m o2m hne htt=>?_
  ·rw[g6 ntp];exact t7
  ·rw[g6 ncp];exact c7
  ·have t8:upd H' p (.lst [.int n9]) ti=My (.lst vs):=by rw[g6 ntp];exact t7
   have c8:upd H' p (.lst [.int n9]) cl=My (.lst (xs.map iV)):=by rw[g6 ncp];exact c7
   have p8:upd H' p (.lst [.int n9]) p=My (.lst [.int n9]):=gU;have b8:But p H (upd H' p (.lst [.int n9])):=b7.ur;have tn8:=tn7.text (tx n9);generalize upd H' p (.lst [.int n9])=H8 at tn8 t8 c8 p8 b8 htt;have sm:gY H8 (upd H8 tt (.tup [.int o1,.int o2])):=gY.upd htt;have tt0:H tt=SY:=b8.none htt (bu (ir p8 htt));have b9:=b8.new tt0 (o:=.tup [.int o1,.int o2]);have tu9:upd H8 tt (.tup [.int o1,.int o2]) tt=My (.tup [.int o1,.int o2]):=gU;have t9:=sm _ _ t8;have c9:=sm _ _ c8;have p9:=sm _ _ p8;have tn9:=tn8.text sm.text;generalize upd H8 tt (.tup [.int o1,.int o2])=H9 at b9 tu9 t9 c9 p9 tn9;have tx:kc H9 (upd H9 ti (.lst (vs++[.ref tt]))):=kc.upd (by rw[t9];trivial);refine⟨te++[(o1,o2)],vs++[.ref tt],n9,_,_,_,_,_,rfl,by rw[aH,aX];lia,λ t ht=>?_,gU,?_,by rw[g6 (bu ntc)];exact c9,by rw[g6 (bu ntp)];exact p9,b9.new hti0⟩
   ·rcases bh.mp ht with z | z
    ·exact teo t z
    ·rw[bp.mp z];exact⟨o1m,o2m,hne⟩
   ·rw[<-bW];exact(tn9.snoc (t:=(o1,o2)) tu9).text tx
 ·clear t7 tn7 c7 p7 b7;rintro σ' H' ⟨te,vs,n7,pl,dr,tu,on,ot,rfl,tel,teo,t7,tn7,c7,p7,b7⟩;rw[hext]at tel;exact P9 (D:=D) q ⟨m2,m8,perm,htl,htk,teo,by lia⟩ (λ h0=>dS.mp (by have:=hex0 h0;lia)) t7 tn7 c7 p7 b7 (by rw[aH];lia)
theorem N3 {D:Ends}{p:Addr}{thick m sh extra i:Nat}{lf cl ti:Addr}{dr tu on ot:gF V}{H':Hp}{vs:List V}{n7:Int}(hi:i<8)(sh4:sh<4)(p7:H' p=My (.lst [.int n7]))(t7:H' ti=My (.lst vs))(ntp:ti≠p)(hvl:vs.length<=60)
  (h:∀ (a dr':Nat) (n8:Int) q4 tu',a<=i->upd H' p (.lst [.int n8]) q4=SY->upd (upd H' p (.lst [.int n8])) q4 (.lst [V.int (1+(i:Int)-1),iV dr',iV dr',V.int 0]) tu'=SY ->
   D.nx (sgW p thick m sh extra (.ref lf) (.ref cl) (.ref ti) (My (.int (1+(i:Int)))) (My (iV dr')) tu on ot) (upd (upd (upd (upd H' p (.lst [.int n8])) q4 (.lst [V.int (1+(i:Int)-1),iV dr',iV dr',V.int 0])) tu' (.tup [iV a,.int (1+(i:Int))])) ti (.lst (vs++[.ref tu'])))) :
  b1 K D (sgW p thick m sh extra (.ref lf) (.ref cl) (.ref ti) (My (.int (1+(i:Int)))) dr tu on ot) H':=by
 refine⟨_,rfl,_,rfl,p,n7,_,rfl,p7,by lia,by lia,?_⟩;dsimp only;obtain⟨dr',hdr,dri⟩:∃ d:Nat,n7 % (1+(i:Int))=d/\d<=i:=⟨(n7 % (1+(i:Int))).toNat,by have:=cn n7 (show(1+(i:Int))≠0 by lia);lia,by have:=cL n7 (show(0:Int)<1+(i:Int) by lia);have:=cn n7 (show(1+(i:Int))≠0 by lia);lia⟩;rw[hdr];generalize n7 / (1+(i:Int))=n8;have t8:upd H' p (.lst [.int n8]) ti=My (.lst vs):=by rw[g6 ntp];exact t7
 obtain⟨pa',hpa,pai⟩:∃ a:Nat,([V.int (1+(i:Int)-1),iV dr',iV dr',V.int 0]:List V)[sh]?=My (iV a)/\a<=i:=by
  rcases (by lia:sh=0\/sh=1\/sh=2\/sh=3) with rfl | rfl | rfl | rfl
  ·exact⟨i,by simp[iV];lia,by lia⟩
  ·exact⟨dr',rfl,dri⟩
  ·exact⟨dr',rfl,dri⟩
  ·exact⟨0,rfl,by lia⟩
 refine⟨_,rfl,.inl ⟨rfl,_,SqL.of t8⟩,_,rfl,_,_,rfl,rfl,_,rfl,_,rfl,by show 4<=sizeLine;decide,λ q4 hq4=>?_⟩;refine⟨_,rfl,q4,_,_,iV pa',rfl,rfl,SqL.of gU,lh hpa,_,rfl,by show 2<=sizeLine;decide,λ tu htu=>?_⟩;exact⟨ti,vs,_,rfl,rfl,((gY.upd hq4).trans (gY.upd htu)) _ _ t8,by rw[sizeLine_eq];lia,h pa' dr' n8 q4 tu pai hq4 htu⟩
def iC (p : Addr)(H : Hp)(thick m sh extra : Nat)(xs : List Nat)(lf cl ti : Addr) : Nat -> L2.St -> Hp -> Prop := λ i σ' H' => ∃ (tb : List (Nat × Nat)) (vs : List V) (n7 : Int) (pl dr : gF V), σ' = sgW p thick m sh extra (.ref lf) (.ref cl) (.ref ti) pl dr SY SY SY /\
      tb.length = i /\ (∀ k, k < i -> ∃ a, tb[k]? = My (a, k + 1) /\ a <= k) /\ H' ti = My (.lst vs) /\ TN H' vs tb /\ H' cl = My (.lst (xs.map iV)) /\ H' p = My (.lst [.int n7]) /\ But p H H'
theorem Qa {D:Ends}{p:Addr}{H:Hp}{thick m sh extra:Nat}{xs:List Nat}{lf cl:Addr}{H6:Hp}{n5:Int}(q:QW K p H thick D.rt)(m2:2<=m)(m8:m<=8)(sh4:sh<4)(perm:xs.Perm (Tc m))(hex2:extra<=12)(hex0:thick=0->extra=0)(ncp:cl≠p)
  (c6:H6 cl=My (.lst (xs.map iV))) (p6:H6 p=My (.lst [.int n5])) (b6:But p H H6):wC K w D [My (.ref p),My (.int 8),My (iV thick),My (iV m),My (iV sh),My (iV extra),My (.ref lf),My (.ref cl),SY,SY,SY,SY,SY,SY] H6:=by
 refine⟨aN _,λ ti hti=>?_⟩;have ntp:ti≠p:=λ z=>by subst z;rw[p6]at hti;cases hti
 have ntc:ti≠cl:=λ z=>by subst z;rw[c6]at hti;cases hti
 have hti0:H ti=SY:=b6.none hti ntp;have hm1:((m:Int)-1).toNat=m-1:=by lia
 refine⟨_,rfl,1,m,rfl,⟨by lia,by lia,by lia,by lia⟩,ng (lo:=1) (n:=((m:Int)-1).toNat) (iC p H thick m sh extra xs lf cl ti)
  ⟨[],[],n5,SY,SY,rfl,rfl,λ k hk=>by lia,gU,.nil,by rw[g6 (bu ntc)];exact c6,by rw[g6 (bu ntp)];exact p6,b6.new hti0⟩ ?_ ?_⟩
 ·clear c6 p6 b6
  rintro i σ' H' hi ⟨tb,vs,n7,pl,dr,rfl,htl,htk,t7,tn7,c7,p7,b7⟩;have hi1:i<m-1:=by lia
  refine N3 (by lia) sh4 p7 t7 ntp (by rw[tn7.len];lia) λ pa' dr' n8 q4 tu pai hq4 htu=>?_;have tn8:=tn7.text (kc.upd (o:=.lst [.int n8]) (by rw[p7];trivial));have t8:upd H' p (.lst [.int n8]) ti=My (.lst vs):=by rw[g6 ntp];exact t7
  have c8:upd H' p (.lst [.int n8]) cl=My (.lst (xs.map iV)):=by rw[g6 ncp];exact c7
  have p8:upd H' p (.lst [.int n8]) p=My (.lst [.int n8]):=gU;have b8:But p H (upd H' p (.lst [.int n8])):=b7.ur;generalize upd H' p (.lst [.int n8])=H8 at tn8 t8 c8 p8 b8 hq4 htu;clear tn7 t7 c7 p7 b7;generalize [V.int (1+(i:Int)-1),iV dr',iV dr',V.int 0]=l4 at htu;have ntq:tu≠q4:=λ y=>by rw[y,gU]at htu;cases htu
  have htu8:H8 tu=SY:=by rw[g6 ntq]at htu;exact htu
  have q40:H q4=SY:=b8.none hq4 (bu (ir p8 hq4));have tu0:H tu=SY:=b8.none htu8 (bu (ir p8 htu8));have sm:gY H8 (upd (upd H8 q4 (.lst l4)) tu (.tup [iV pa',.int (1+(i:Int))])):=(gY.upd hq4).trans (gY.upd htu);have b9:=(b8.new q40 (o:=.lst l4)).new tu0 (o:=.tup [iV pa',.int (1+(i:Int))]);have tu9:upd (upd H8 q4 (.lst l4)) tu (.tup [iV pa',.int (1+(i:Int))]) tu=My (.tup [iV pa',.int (1+(i:Int))]):=gU;have t9:=sm _ _ t8;have c9:=sm _ _ c8;have p9:=sm _ _ p8;have tn9:=tn8.text sm.text;generalize upd (upd H8 q4 (.lst l4)) tu (.tup [iV pa',.int (1+(i:Int))])=H9 at b9 tu9 t9 c9 p9 tn9;have tx:kc H9 (upd H9 ti (.lst (vs++[.ref tu]))):=kc.upd (by rw[t9];trivial);refine⟨tb++[(pa',i+1)],vs++[.ref tu],n8,_,_,rfl,by rw[aH,aX,htl],λ k hk=>?_,gU,?_,by rw[g6 (bu ntc)];exact c9,by rw[g6 (bu ntp)];exact p9,b9.new hti0⟩
  ·by_cases hki:k<i
   ·obtain⟨a,ea,ha⟩:=htk k hki;exact⟨a,by rw[bP (by lia)];exact ea,ha⟩
   ·have:k=i:=by lia
    subst this;exact⟨pa',by rw[bL (by lia)];simp[htl],pai⟩
  ·refine(tn9.snoc (t:=(pa',i+1)) ?_).text tx;rw[tu9];simp[iV];lia
 ·rintro σ' H' ⟨tb,vs,n7,pl,dr,rfl,htl,htk,t7,tn7,c7,p7,b7⟩;rw[hm1]at htl htk;exact P_ (D:=D) q m2 m8 perm htl htk hex2 hex0 ntp ntc ncp hti0 t7 tn7 c7 p7 b7
theorem Qb {Q:VK}{σ:L2.St}{p lf:Addr}{L:List Nat}{n5:Int}{H':Hp}(h1:σ[1]?=My (My (.ref lf)))(h2:σ[2]?=My (My (.ref p)))(nlp:lf≠p)(hL:0<L.length)(hL8:L.length<=8)(l5:H' lf=My (.lst (L.map iV)))(p5:H' p=My (.lst [.int n5]))
  (q:∀ (j:Nat) (n6:Int) (jl:j<L.length),Q (iV L[j]) (upd (upd H' p (.lst [.int n6])) lf (.lst ((L.map iV).eraseIdx j)))):eC K σ H' Q:=by
 obtain⟨j,hj,jl⟩:∃ j:Nat,n5 % ((L.map iV).length:Int)=j/\j<L.length:=by rw[af];exact⟨(n5 % (L.length:Int)).toNat,by have:=cn n5 (show(L.length:Int)≠0 by lia);lia,by have:=cL n5 (show(0:Int)<L.length by lia);have:=cn n5 (show(L.length:Int)≠0 by lia);lia⟩
 refine⟨_,h1,.inl ⟨rfl,_,SqL.of l5⟩,_,h2,_,h1,lf,_,rfl,.inl (SqL.of l5),p,n5,_,rfl,p5,by rw[af];lia,by rw[af];lia,?_⟩;rw[hj];have l6:upd H' p (.lst [.int (n5 / ((L.map iV).length:Int))]) lf=My (.lst (L.map iV)):=by rw[g6 nlp];exact l5
 refine⟨lf,_,_,j,iV L[j],rfl,rfl,l6,by lia,by lia,?_,by simp[jl],q j _ jl⟩;rw[af];have:=seqIndex_of (k:=(j:Int)) (n:=L.length) (by lia) (by lia);simpa using this
def iB (p:Addr)(H:Hp)(m:Nat)(lf:Addr):Nat->Nat->List V->Hp->Prop:=λ i mm ys H5=>mm=m-i/\i<=m/\∃ (xs L:List Nat) (n5:Int),ys=xs.map iV/\xs.length=i/\L.length=m-i/\(xs++L).Perm (Tc m)/\H5 lf=My (.lst (L.map iV))/\H5 p=My (.lst [.int n5])/\But p H H5
theorem Qc {D:Ends}{p:Addr}{H:Hp}{thick m sh extra:Nat}{lf:Addr}{H4:Hp}{n3:Int}(q:QW K p H thick D.rt)(m2:2<=m)(m8:m<=8)(sh4:sh<4)(hex2:extra<=12)(hex0:thick=0->extra=0)(nlp:lf≠p)(hlf0:H lf=SY)
  (l4:H4 lf=My (.lst ((Tc m).map iV))) (p4:H4 p=My (.lst [.int n3])) (b4:But p H H4):wB K w D [My (.ref p),My (.int 8),My (iV thick),My (iV m),My (iV sh),My (iV extra),My (.ref lf),SY,SY,SY,SY,SY,SY,SY] H4:=by
 refine⟨_,rfl,m,rfl,by lia,by lia,iB p H m lf,⟨m,rfl,aN _,[],Tc m,n3,rfl,rfl,by simp,by simp,l4,p4,b4⟩,?_⟩;clear l4 p4 b4;rintro i mm ys H5 ⟨rfl,him,xs,L,n5,rfl,hxs,hL,perm,l5,p5,b5⟩;rcases Nat.lt_or_ge i m with him' | him'
 ·right
  refine⟨by show i<(m:Int).toNat;lia,by rw[af,sizeLine_eq];lia,λ x H' ⟨e1,e2⟩=>?_⟩;subst e1;dsimp only [iA,Hd];refine G0 ?_;refine Qb (L:=L) rfl rfl nlp (by lia) (by lia) l5 p5 λ j n6 jl=>?_;refine⟨m-(i+1),by lia,rfl,by lia,xs++[L[j]],L.eraseIdx j,n6,by simp[iV],by simp[hxs],?_,?_,?_,by rw[g6 (bu nlp)];exact gU,(b5.ur).new hlf0⟩
  ·rw[List.length_eraseIdx,ai jl];lia
  ·refine List.Perm.trans ?_ perm;rw[bW];exact List.Perm.append_left xs (yp L jl)
  ·rw[gU,zR]
 ·left
  have hi:m=i:=by lia
  subst hi;have hL0:L=[]:=dS.mp (by lia);subst hL0;rw[bA]at perm;refine⟨by show(m:Int).toNat<=m;lia,λ cl hcl=>?_⟩;have ncp:cl≠p:=λ z=>by subst z;rw[p5]at hcl;cases hcl
  exact Qa (D:=D) q m2 m8 sh4 perm hex2 hex0 ncp gU (by rw[g6 (bu ncp)];exact p5) (b5.new (b5.none hcl ncp))
theorem Qd {D:Ends}{p:Addr}{H:Hp}{thick:Nat}{n:Int}(q:QW K p H thick D.rt)(hth:thick<=1)(hp:H p=My (.lst [.int n])):wA K w D [My (.ref p),My (.int 8),My (.int thick),SY,SY,SY,SY,SY,SY,SY,SY,SY,SY,SY] H:=by
 refine⟨_,rfl,_,rfl,_,_,rfl,rfl,p,n,_,rfl,hp,by decide,by decide,_,_,rfl,rfl,?_⟩;dsimp only;obtain⟨m,hm,m2,m8⟩:∃ m:Nat,(2:Int)+n % (8-1)=m/\2<=m/\m<=8:=⟨(2+n % (8-1)).toNat,by lia,by lia,by lia⟩;rw[hm];generalize n / (8-1)=n1;have b1:But p H (upd H p (.lst [.int n1])):=(But.refl p H).ur;generalize hH1:upd H p (.lst [.int n1])=H1 at b1;have p1:H1 p=My (.lst [.int n1]):=by rw[<-hH1];exact gU
 clear hH1;refine⟨_,rfl,p,n1,_,rfl,p1,by decide,by decide,?_⟩;dsimp only;obtain⟨sh,hsh,sh4⟩:∃ sh:Nat,n1 % 4=sh/\sh<4:=⟨(n1 % 4).toNat,by lia,by lia⟩;rw[hsh];generalize n1 / 4=n2;have b2:But p H (upd H1 p (.lst [.int n2])):=b1.ur;generalize hH2:upd H1 p (.lst [.int n2])=H2 at b2;have p2:H2 p=My (.lst [.int n2]):=by rw[<-hH2];exact gU
 clear hH2;refine⟨by show 4<=sizeLine;decide,λ a4 h4=>?_⟩;have np4:a4≠p:=λ z=>by subst z;rw[p2]at h4;cases h4
 have p3:upd H2 a4 (.lst [.int 0,.int 1,.int 2,.int 12]) p=My (.lst [.int n2]):=by rw[g6 (bu np4)];exact p2
 refine⟨_,rfl,p,n2,_,rfl,p3,by decide,by decide,?_⟩;dsimp only;obtain⟨ei,hei,ei4⟩:∃ ei:Nat,n2 % 4=ei/\ei<4:=⟨(n2 % 4).toNat,by lia,by lia⟩;rw[hei];generalize n2 / 4=n3;obtain⟨ex,hex,ex12⟩:∃ ex:Nat,([V.int 0,V.int 1,V.int 2,V.int 12]:List V)[ei]?=My (.int ex)/\ex<=12:=by
  rcases (by lia:ei=0\/ei=1\/ei=2\/ei=3) with rfl | rfl | rfl | rfl
  ·exact⟨0,rfl,by lia⟩
  ·exact⟨1,rfl,by lia⟩
  ·exact⟨2,rfl,by lia⟩
  ·exact⟨12,rfl,by lia⟩
 have b3:But p H (upd (upd H2 a4 (.lst [.int 0,.int 1,.int 2,.int 12])) p (.lst [.int n3])):=(b2.new (b2.none h4 np4)).ur;refine⟨a4,_,_,.int ex,rfl,rfl,SqL.of (by rw[g6 np4];exact gU),lh hex,?_⟩;generalize hH3:upd (upd H2 a4 (.lst [.int 0,.int 1,.int 2,.int 12])) p (.lst [.int n3])=H3 at b3;have p3:H3 p=My (.lst [.int n3]):=by rw[<-hH3];exact gU
 clear hH3;refine⟨_,rfl,_,_,rfl,rfl,.inl ⟨by lia,by lia⟩,?_⟩;dsimp only;rw[show(ex:Int)*(thick:Int)=((ex*thick:Nat):Int) by simp];have hex2:ex*thick<=12:=by have:=Nat.mul_le_mul ex12 hth;lia
 have hex0:thick=0->ex*thick=0:=λ h=>by rw[h];simp
 generalize ex*thick=extra at hex2 hex0;refine⟨_,rfl,_,rfl,λ r hr0=>?_⟩;refine⟨r,m,rfl,gU,by lia,λ lf hlf=>?_⟩;have nrp:r≠p:=λ z=>by subst z;rw[p3]at hr0;cases hr0
 have nlr:lf≠r:=λ z=>by subst z;rw[gU]at hlf;cases hlf
 have hlf3:H3 lf=SY:=by rw[g6 nlr]at hlf;exact hlf
 have nlp:lf≠p:=λ z=>by subst z;rw[p3]at hlf3;cases hlf3
 have hlf0:H lf=SY:=b3.none hlf3 nlp;exact Qc (D:=D) q m2 m8 sh4 hex2 hex0 nlp hlf0 gU (by rw[g6 (bu nlp),g6 (bu nrp)];exact p3) ((b3.new (b3.none hr0 nrp)).new hlf0)
theorem IW (T:Txt K mg):OkT P w base T.nR 2 (Mf K):=by
 refine T.nR.F.ok jn (λ vs H Q E h=>?_) (λ cdv A outer s H vs Q E hr h=>?_)
 ·obtain⟨p,n,thick,rfl,_⟩:=h;rfl
 ·obtain⟨p,n,thick,rfl,hth,hp,q⟩:=h
  have hu:(A.deeper (envOfC "_law_web" (gW sD) s.heap.objs.size T.nR.f cdv)).units+64<cLine:=by have:=hr.un;lia
  have hrt:jt 1 _:=hr.mono (by decide);refine⟨wA K w,gZ (iI (i:=3) jn.nd rfl (Or.inl rfl) (jC qt hJ (pC T.iH (jN T) hr (gQ (pv 0) (gQ (jC zZ (pv 1) hJ) g9)))))
   (gZ (iI (i:=4) jn.nd rfl (Or.inl rfl) (pC T.iH (jN T) hr (gQ (pv 0) (gQ hJ g9))))
   (gZ (iI (i:=5) jn.nd rfl (Or.inl rfl) (jC uC (lD kr (jV (gQ hJ (gQ hJ (gQ hJ (gQ hJ g9))))) (pC T.iH (jN T) hr (gQ (pv 0) (gQ hJ g9))) (λ _ _=>rfl)) (pv 2)))
   (gZ (iI (i:=6) jn.nd rfl (Or.inr rfl) (kK (xt rfl) rfl T.yk boot_list (gQ (kK vh rfl T.kS boot_range (gQ (pv 3) g9)) g9)))
   (gZ (iI (i:=7) jn.nd rfl (Or.inr rfl) (LO (te:=tBM K "list" C7 (hX 1) (g0 (jr jZ [] E0 (g0 (hX 2) (g0 (tCB (Gr K) (g0 (hX 1) iL)) iL))) iL)) rfl (csc ["_law_turn"] ["_law_left","_law_pot_here"] [6,0]) (lZ rfl T.kS (gQ (pv 3) g9)) (λ _ _ _ _=>pgo 0) jI (λ _ _ _ _=>Dm)
     (λ _ _ _ _=>u7 cC PySem.F.slot_list_pop PySem.F.type_list_pop GP (pv 1) (gQ (pC T.iH (jN T) hr (gQ (pv 2) (gQ (jO kL (by rfl) T.qj cy (gQ (pv 1) g9)) g9))) g9))))
   (gZ (iI (i:=8) jn.nd rfl (Or.inl rfl) (jV g9))
   (gZ (nB bB rfl (Fl rfl T.kS (gQ hJ (gQ (pv 3) g9))) (pgo 9)
    (gZ (iI (i:=10) jn.nd rfl (Or.inl rfl) (pC T.iH (jN T) hr (gQ (pv 0) (gQ (pv 9) g9))))
    (iK (rb (u7 cC cM cN oM (pv 8) (gQ (qv (gQ (lD kr (jV (gQ (jC zZ (pv 9) hJ) (gQ (pv 10) (gQ (pv 10) (gQ hJ g9))))) (pv 4) (λ _ _=>rfl)) (gQ (pv 9) g9))) g9))))))
   (gZ (nB bB rfl (lZ rfl T.kS (gQ (pv 5) g9)) (pgo 11)
    (gZ (iI (i:=12) jn.nd rfl (Or.inl rfl) (pC T.iH (jN T) hr (gQ (pv 0) (gQ (pv 3) g9))))
    (gZ (iI (i:=13) jn.nd rfl (Or.inl rfl) (pC T.iH (jN T) hr (gQ (pv 0) (gQ (pv 3) g9))))
    (iK (sQ (vX LC (pv 12) (pv 13) (wI _)) (iK (rb (u7 cC cM cN oM (pv 8) (gQ (qv (gQ (pv 12) (gQ (pv 13) g9))) g9)))) nU)))))
   (gZ (LP (i:=8) (g:=GF K 2 (u4 (iA 0) (u4 (iA 1) GC))) (te:=yz (g0 (tCB NU (g0 (tOp (pz K) (hX 2) (hX 0)) (g0 (tOp (pz K) (hX 2) (hX 1)) iL))) (g0 (tCB NV (g0 (tOp (pz K) (hX 2) (hX 0)) (g0 (tOp (pz K) (hX 2) (hX 1)) iL))) iL))) jn.nd rfl (Or.inl rfl) rfl (csc ["_law_one","_law_other"] ["_law_called"] [7]) (vW (pv 8)) (λ _ _ _ _=>pg rfl (je (pgo 0) (je (pgo 1) mU))) (s_ (kB (by decide) (kB (by decide) rh))) (λ _ _ _ _=>Dm)
     (λ _ _ _ _=>qv (gQ (jO (uF (by rfl)) (by rfl) T.Cw boot_min (gQ (lD kr (pv 2) (pv 0) (λ _ _=>rfl)) (gQ (lD kr (pv 2) (pv 1) (λ _ _=>rfl)) g9))) (gQ (jO (uE (by rfl)) (by rfl) T.Cy boot_max (gQ (lD kr (pv 2) (pv 0) (λ _ _=>rfl)) (gQ (lD kr (pv 2) (pv 1) (λ _ _=>rfl)) g9))) g9))))
   (iK (lu (qv (gQ (pv 3) (gQ (kK oC rfl T.kR boot_tuple (gQ (jO (xh rfl) rfl T.o_ boot_sorted (gQ (kK (Hk rfl hu) rfl T.Md boot_set (gQ (pv 8) g9)) g9)) g9)) g9))))))))))))),?_⟩
  exact Qd q hth hp
end
end K02
namespace L2
open PySem PySem.Spec PyProof.Rows Zp
inductive uZ:List Expr->List Str->Prop
 | nil:uZ [] []
 | cons {a:Str} {k:Nat} {p:Pos} {es:List Expr} {ss:List Str}:uZ es ss->uZ (.Constant (.str a) k p::es) (a::ss)
theorem uZ.pd {X:Cx}{es:List Expr}{ss:List Str}(h:uZ es ss):PDs X es (λ _=>My (ss.map .str)):=by
 induction h with
 | nil=>exact gT
 | cons h ih=>exact gM nY ih rfl
theorem K0 {es:List Expr}{p:Pos}{t:gF Expr}{line:Nat}{env:Env}:swapsWith (.List es p) t line env=pure Ta:=rfl
end L2
namespace K02
open PySem PySem.Spec PyProof.Rows L2 Zp
section
variable {P:Program}{w:World}{K:gG}{mg:gD}{base:Heap}
theorem CB {σ:L2.St}{H:Hp}{a C:Addr}(h0:σ[0]?=My (My (.ref a)))(h1:H a=My (.ext (isC a (.ref C))))(bs:List Bool)(hl:bs.length<=100){Q:VK}(q:∀ v H',gY H H'->Is K H' v (.lst (bs.map .bl))->Q v H'):qu (tIs C bs) σ H Q :=
 Io h0 h1 bs _ ⟨by rw[af,sizeLine_eq];lia,λ p hp=>q _ _ (gY.upd hp) (.lst gU (Cb bs))⟩
theorem IX {σ:L2.St}{H:Hp}{a C:Addr}{v:V}{bs:List Bool}(h0:σ[0]?=My (My (.ref a)))(h1:H a=My (.ext (isC a (.ref C))))(hv:σ[1]?=My (My v))(iv:Is K H v (.lst (bs.map .bl)))(cs:List Bool)(hl:bs.length+cs.length<=100){Q:VK}(q:∀ v H',gY H H'->Is K H' v (.lst ((bs++cs).map .bl))->Q v H'):tOp (rD K rM) (hX 1) (qu (tIs C cs)) σ H Q :=
 ⟨_,hv,CB (K:=K) h0 h1 cs (by lia) λ v2 H2 s2 i2=>⟨_,_,_,iv.ext s2,i2,ai (by rw[af,af];lia),λ v3 H3 s3 i3=>q _ _ (s2.trans s3) (by rw[aY];exact i3)⟩⟩
theorem RS {u:TS}{D:Ends}{σ:L2.St}{H:Hp}{a C:Addr}(h0:σ[0]?=My (My (.ref a)))(h1:H a=My (.ext (isC a (.ref C))))(bs:List Bool)(hl:bs.length<=100)(q:∀ v H',gY H H'->Is K H' v (.lst (bs.map .bl))->u D (σ.set 1 (My v)) H'):jc (j_ (qu (tIs C bs)) (iA 1)) u D σ H :=
 CB (K:=K) h0 h1 bs hl q
theorem N4 {u:TS}{D:Ends}{σ:L2.St}{H:Hp}{a C:Addr}{v:V}{bs:List Bool}(h0:σ[0]?=My (My (.ref a)))(h1:H a=My (.ext (isC a (.ref C))))(hv:σ[1]?=My (My v))(iv:Is K H v (.lst (bs.map .bl)))(cs:List Bool)(hl:bs.length+cs.length<=100)(q:∀ v H',gY H H'->Is K H' v (.lst ((bs++cs).map .bl))->u D (σ.set 1 (My v)) H'):jc (j_ (tOp (rD K rM) (hX 1) (qu (tIs C cs))) (iA 1)) u D σ H :=
 IX (K:=K) h0 h1 hv iv cs hl q
def K1 (K:gG)(mg:gD)(er:yQ K mg):Sp:=λ vs H Q _=>∃ a c,vs=[.ref a]/\c∈uf/\H a=My (.ext (isC a (.ref (er.C c))))/\∀ H',gY H H'->Q (.str (vi c)) H'
theorem Gs:∃ es p1 p5 p2,iW mI=(iW mI).take 5++(.Assign [.Name "_law_words" p1] (.List es p5) p2::(iW mI).drop 6)/\uZ es ["web","place","tree","tie","text","number","shares","two","stream","paper","apart","many"]:=⟨_,_,_,_,rfl,(.cons (.cons (.cons (.cons (.cons (.cons (.cons (.cons (.cons (.cons (.cons (.cons .nil))))))))))))⟩
theorem K2 (T:Txt K mg):Ij P w K mg base 1 T.oz.f T.oz.fd ["_law_e"] (K1 K mg T.er):=by
 refine T.oz.F.okN kQ (λ vs H Q E h=>?_) (λ cdv A outer s H vs Q E hr h=>?_)
 ·obtain⟨a,c,rfl,_⟩:=h;rfl
 ·obtain⟨a,c,rfl,hc,ha,q⟩:=h
  have hu:=hr.units;obtain⟨i,hi,ei⟩:=Iy hc;obtain⟨eC,eW⟩:=Iz T.er i hi ei;rw[eC]at ha;have cx:=(T.er.ci i hi).ext;obtain⟨es,p1,p5,p2,eb,hes⟩:=Gs;rw[eb];refine⟨_,gZ (iI (i:=1) kQ.nd rfl (Or.inl rfl) (jV (gQ (ly T.hU cx (T.er.ck 0 T.er.t_ rfl (by decide) hi) (pv 0)) (gQ (ly T.hU cx (T.er.ck 1 T.er.o7 rfl (by decide) hi) (pv 0)) (gQ (ly T.hU cx (T.er.ck 2 T.er.qM rfl (by decide) hi) (pv 0)) (gQ (ly T.hU cx (T.er.ck 3 T.er.ua rfl (by decide) hi) (pv 0)) g9))))))
   (gZ (iI (i:=1) kQ.nd rfl (Or.inl rfl) (jC qg (pv 1) (jV (gQ (ly T.hU cx (T.er.ck 4 T.er.ub rfl (by decide) hi) (pv 0)) (gQ (ly T.hU cx (T.er.ck 5 T.er.pP rfl (by decide) hi) (pv 0)) (gQ (ly T.hU cx (T.er.ck 6 T.er.pQ rfl (by decide) hi) (pv 0)) (gQ (ly T.hU cx (T.er.ck 7 T.er.wd rfl (by decide) hi) (pv 0)) g9)))))))
   (gZ (iI (i:=1) kQ.nd rfl (Or.inl rfl) (jC qg (pv 1) (jV (gQ (ly T.hU cx (T.er.ck 8 T.er.pR rfl (by decide) hi) (pv 0)) (gQ (ly T.hU cx (T.er.ck 9 T.er.rC rfl (by decide) hi) (pv 0)) (gQ (ly T.hU cx (T.er.ck 10 T.er.we rfl (by decide) hi) (pv 0)) (gQ (ly T.hU cx (T.er.ck 11 T.er.rE rfl (by decide) hi) (pv 0)) g9)))))))
   (gZ (iI (i:=1) kQ.nd rfl (Or.inl rfl) (jC qg (pv 1) (jV (gQ (ly T.hU cx (T.er.ck 12 T.er.uc rfl (by decide) hi) (pv 0)) (gQ (ly T.hU cx (T.er.ck 13 T.er.ud rfl (by decide) hi) (pv 0)) (gQ (ly T.hU cx (T.er.ck 14 T.er.ue rfl (by decide) hi) (pv 0)) g9))))))
   (gZ (sQ (PW.pt (Lz (jg (xk hu) (NG (dv 1) se) hW) (GB (CP (Mr (NI T.hU T.A9 cx (T.er.ci i hi).ve (pv 0))))))) (iK (lu nY)) nU)
   (iJ (jS (i:=2) kQ.nd (mz hes.pd) (hs:=K0)) (iq (iY (kq (jQ qg (dv 2) (mz (gM nY (gM nY (gM nY gT))))) (NH (dv 1) se))))))))),?_⟩
  refine RS (K:=K) (σ:=[My (.ref a),SY,SY]) (C:=T.er.ad i) (a:=a) rfl ha [decide (i=0),decide (i=1),decide (i=2),decide (i=3)] (by simp) λ v1 H1 s1 i1=>?_;refine N4 (K:=K) (σ:=[My (.ref a),My v1,SY]) (C:=T.er.ad i) (a:=a) rfl (s1 _ _ ha) rfl i1 [decide (i=4),decide (i=5),decide (i=6),decide (i=7)] (by simp) λ v2 H2 s2 i2=>?_;refine N4 (K:=K) (σ:=[My (.ref a),My v2,SY]) (C:=T.er.ad i) (a:=a) rfl ((s1.trans s2) _ _ ha) rfl i2 [decide (i=8),decide (i=9),decide (i=10),decide (i=11)] (by simp) λ v3 H3 s3 i3=>?_;refine N4 (K:=K) (σ:=[My (.ref a),My v3,SY]) (C:=T.er.ad i) (a:=a) rfl (((s1.trans s2).trans s3) _ _ ha) rfl i3 [decide (i=12),decide (i=13),decide (i=14)] (by simp) λ v4 H4 s4 i4=>?_;have ss:=((s1.trans s2).trans s3).trans s4;obtain⟨b1,b2⟩:=IA i hi;have i4:Is K H4 v4 (.lst (((Tc 15).map λ k=>decide (i=k)).map .bl)):=i4;have bl:((Tc 15).map λ k=>decide (i=k)).length=15:=by rw[af,bE]
  generalize (Tc 15).map (λ k=>decide (i=k))=bs at *;have S:∀ H',gY H4 H'->Sat K H' [My (.ref a),My v4,SY] [SY,My (.lst (bs.map .bl)),SY]:=λ H' s=>DT (NS (i4.ext s) (DT P2));have c1:L5 (.lst (bs.map .bl)) (.bl S_)=My (.int 1):=by show(yK (bs.map .bl)).bind (λ bs=>My (Dt.int (bs.countP id:Nat)))=_;rw[xn,aq,b1];rfl
  have c2:L6 (.lst (bs.map .bl)) (.bl S_)=My (.int i):=by show(yK (bs.map .bl)).bind (λ bs=>if bs.length<=1000 then (bs.findIdx? id).map λ(j:Nat)=>Dt.int j else SY)=_;rw[xn,aq,ai (by lia),b2];rfl
  have c3:dIx (.lst (Gb.map .str)) (.int i)=My (.str (vi c)):=by show atI (Gb.map Dt.str) (i:Int)=_;refine lh ?_;rw[aK,eW];rfl
  generalize Dt.lst (bs.map .bl)=bb at *;refine⟨_,Ta,S H4 (gY.refl H4),by simp[c1],λ H5 s5=>?_⟩;refine GZ ?_;refine⟨⟨a,rfl,(ss.trans s5) _ _ ha⟩,S_,rfl,GZ ?_⟩;refine⟨_,.rt (.str (vi c)),S H5 s5,?_,λ H6 s6=>?_⟩
  ·have c4:rM (.lst ((["web","place","tree","tie","text","number","shares","two","stream","paper","apart","many"]:List Str).map Dt.str)) (.lst [.str "code",.str "deed",.str "line"])=My (.lst (Gb.map .str)):=rfl
   generalize hw:(["web","place","tree","tie","text","number","shares","two","stream","paper","apart","many"]:List Str).map Dt.str=ws,Dt.lst (Gb.map .str)=ew at *;have wl:ws.length<=1000:=by rw[<-hw];decide
   simp[wl,c2,c3,c4]
  ·intro v iv;rw[iv.str_inv];exact q H6 ((ss.trans s5).trans s6)
end
end K02
namespace L2
open PySem PySem.Spec PyProof.Rows Zp Qs
def sdX:XD->Dt
 | .ok d=>d
 | .error c=>.str (vi c)
def oA (x:Dt):XD:=match xW x with | .ok w=>.ok (.bl (decide (w.2.length+1=w.1))) | .error c=>.error c
def lU (k:Int)(x y z:Dt):XD:=if k=0 then oA x else if k=1 then kP x y z yo else kP x y z mT
def jo:List Dt->gF Dt
 | [k,x,y,z]=>(vI k).bind λ k=>if okW x=S_/\kdB y=S_/\kdB z=S_ then My (sdX (lU k x y z)) else SY
 | _=>SY
def CC:DE->gF RX:=uW (Ga (gB (g_ oP (gR 0) (gC (.int 0)))) (Kv (oq 1 mf (gN (gR 1) gS))) (xUp ky)) (Kv (xIf (gB (g_ oP (gR 0) (gC (.int 1)))) (oq 3 qY (gN (gR 1) (gN (gR 2) (gN (gR 3) gS)))) (oq 3 m6 (gN (gR 1) (gN (gR 2) (gN (gR 3) gS))))))
def rtX:XD->RX
 | .ok d=>.rt d
 | .error c=>.ex c
theorem IY (k:Int){x y z:Dt}(hx:okW x=S_)(hy:kdB y=S_)(hz:kdB z=S_)(r:gF Dt):CC [My (.int k),My x,My y,My z,r]=My (rtX (lU k x y z)):=by
 have c1:mf [x]=My (oA x):=PM hx;have c2:qY [x,y,z]=My (kP x y z yo):=ai ⟨hx,hy,hz⟩;have c3:m6 [x,y,z]=My (kP x y z mT):=ai ⟨hx,hy,hz⟩;have q0:∀ j:Int,oP (.int k) (.int j)=My (.bl (decide (k=j))):=λ j=>by show My (Dt.bl (k==j))=_;congr 2
 unfold lU;by_cases e0:k=0
 ·have q:=q0 0;rw[decide_eq_true e0]at q;rw[ai e0];generalize oA x=r1 at *;cases r1<;>simp[CC,q,c1,rtX]
 ·have q:=q0 0
  rw[decide_eq_false e0]at q;have q1:=q0 1;rw[ak e0];generalize kP x y z mT=r2,kP x y z yo=r1 at *;by_cases e1:k=1
  ·rw[decide_eq_true e1]at q1;rw[ai e1];cases r1<;>simp[CC,q,q1,c2,rtX]
  ·rw[decide_eq_false e1]at q1;rw[ak e1];cases r2<;>simp[CC,q,q1,c3,rtX]
set_option tactic.hygienic true in
theorem E8 {α:Type}{x y z:Dt}{k:Web->Nat->Nat->Except Str α}(hk:∀ w a b c,k w a b=.error c->c∈uf){c:Str}(h:kP x y z k=.error c):c∈uf:=by
 have m1:("NoWeb":Str)∈uf:=by decide +kernel
 have m2:("NoTree":Str)∈uf:=by decide +kernel
 have m3:("NoPlace":Str)∈uf:=by decide +kernel
 unfold kP at h;split at h
 ·rename_i e
  cases h;unfold xT at e;split at e
  ·split at e
   ·cases e
   ·cases e;exact m2
  ·rename_i e2
   cases e;unfold xW at e2;split at e2
   ·cases e2
   ·cases e2;exact m1
 ·split at h
  ·rename_i e
   cases h;unfold xP at e;split at e
   ·cases e
   ·cases e;exact m3
  ·split at h
   ·rename_i e
    cases h;unfold xP at e;split at e
    ·cases e
    ·cases e;exact m3
   ·exact hk _ _ _ _ h
set_option tactic.hygienic true in
theorem yq {k:Int}{x y z:Dt}{c:Str}(h:lU k x y z=.error c):c∈uf:=by
 unfold lU at h;split at h
 ·unfold oA at h
  split at h
  ·cases h
  ·rename_i e2
   cases h;unfold xW at e2;split at e2
   ·cases e2
   ·cases e2;decide +kernel
 ·split at h
  ·exact E8 (λ w a b c e=>by cases e) h
  ·exact E8 (λ w a b c e=>by
    unfold mT at e;split at e
    ·cases e
    ·cases e;decide +kernel) h
end L2
namespace K02
open PySem PySem.Spec PyProof.Rows L2 Zp
section
variable {P:Program}{w:World}{K:gG}{mg:gD}{base:Heap}
theorem lV (T:Txt K mg):OkT P w base T.kH 9 (spD K 4 jo):=by
 refine T.kH.F.ok A6 (λ vs H Q E h=>?_) (λ cdv A outer s H vs Q E hr h=>?_)
 ·obtain⟨ds,d,hl,is,_⟩:=h;rw[is.length,hl];rfl
 ·obtain⟨ds,d,hl,is,e,q⟩:=h
  match ds,hl,is,e with
  | [dk,x,y,z],_,is,e =>
   obtain⟨k,e1,e⟩:=gP (show(vI dk).bind _=_ from e);by_cases hx:okW x=S_/\kdB y=S_/\kdB z=S_
   rotate_left
   ·rw[ak hx]at e;cases e
   rw[ai hx]at e;cases e;obtain⟨hx,hy,hz⟩:=hx;rw[mE e1]at is;refine⟨_,iK (NB (i:=4) (tb:=λ E'=>tXS K T.er.C E' CC) T.er.w (λ E' pn=>nJ (C:=T.er.C) (E:=E') (AQ (jg (AG (hV hr)) (dv 0) hW) (lO (Iw (lj (pCT T.rH (vB T) hr (gM (dv 1) gT))))) (xH jh)) (lO (Iw (PH (jg (AG (hV hr)) (dv 0) hW) (lj (pCT T.E5 (E7 T) hr (gM (dv 1) (gM (dv 2) (gM (dv 3) gT))))) (lj (pCT T.A7 (Cz T) hr (gM (dv 1) (gM (dv 2) (gM (dv 3) gT)))))))))
    (λ a pn=>iK (lu (pCN T.oz (K2 T) (hr.toN (by decide) _) (gQ (pv 4) g9))))),?_⟩
   refine⟨λ cl a H'=>∃ c,lU k x y z=.error c/\cl=.ref (T.er.C c)/\gY H H',?_,?_⟩
   ·refine⟨_,_,is.start (N:=["_law_kind","_law_web_here","_law_a","_law_b","_law_e"]),IY k hx hy hz SY,λ H1 s1=>?_⟩
    cases er:lU k x y z with
    | ok d=>rw[er]at q;exact λ v iv=>q v H1 s1 iv
    | error c=>exact λ e he=>⟨c,rfl,rfl,s1⟩
   ·rintro cls a H' ⟨c,er,rfl,s'⟩ ha
    have mc:=yq er;obtain⟨i,hi,ei⟩:=Iy mc;obtain⟨eC,_⟩:=Iz T.er i hi ei;rw[er]at q;refine⟨⟨_,rfl,by rw[eC];exact(T.er.ci i hi).sub⟩,λ σ1 hl1=>?_⟩;refine⟨.ref a,?_,a,c,rfl,mc,gU,λ H2 s2=>q _ _ ((s'.trans (gY.upd ha)).trans s2) (.str _)⟩;have:4<σ1.length:=by rw[hl1];exact dR 4
    exact cg this
end
end K02
namespace L2
open PySem PySem.Spec PyProof.Rows Zp Qs
def hdP (H:Hp)(p:Addr):Hp:=λ b=>if b=p then SY else H b
theorem qZ (H:Hp)(p:Addr):gY (hdP H p) H:=λ b o e=>by
 unfold hdP at e;by_cases c:b=p
 ·rw[ai c]at e;cases e
 ·rw[ak c]at e;exact e
theorem qb {H:Hp}{p b:Addr}(h:b≠p):hdP H p b=H b:=ak h
theorem Ba {p:Addr}{H H':Hp}(h:∀ b o,H b=My o->b≠p->H' b=My o):gY (hdP H p) (hdP H' p):=λ b o e=>by
 unfold hdP at e ⊢;by_cases c:b=p
 ·rw[ai c]at e;cases e
 ·rw[ak c]at e ⊢;exact h b o e c
def N5:List Dt->Bool
 | [.int _]=>S_
 | [.opq _]=>S_
 | _=>Ta
mutual
def jH:Dt->Bool
 | .lst ds=>!N5 ds&&iS ds
 | .tup ds=>iS ds
 | _=>S_
def iS:List Dt->Bool
 | []=>S_
 | d::r=>jH d&&iS r
end
section
variable {K:gG}{H:Hp}{p:Addr}{n:Int}(hp:H p=My (.lst [.int n]))
include hp
mutual
theorem DX:∀ (d:Dt) {v:V},jH d=S_->Is K H v d->Is K (hdP H p) v d
 | .non,v,_,i=>by rw[i.pG];exact .non
 | .bl b,v,_,i=>by rw[i.jR];exact .bl b
 | .int b,v,_,i=>by rw[i.int_inv];exact .int b
 | .str b,v,_,i=>by rw[i.str_inv];exact .str b
 | .ty b,v,_,i=>by rw[i.Hm];exact .ty b
 | .opq b,v,_,i=>by rw[i.mj];exact .opq b
 | .dct kvs,v,_,i=>by
  obtain⟨a,rfl,ha⟩:=i.nX;have ne:a≠p:=λ z=>by subst z;rcases ha with h | ⟨o,h⟩<;>(rw[hp]at h;cases h)
  refine .dct ?_;rcases ha with h | ⟨o,h⟩
  ·exact .inl (by rw[qb ne];exact h)
  ·exact .inr ⟨o,by rw[qb ne];exact h⟩
 | .tup ds,v,h,i=>by
  obtain⟨a,xs,rfl,ha,js⟩:=i.ik;refine .tup ?_ (Bb ds (by rw[jH]at h;exact h) js);rcases ha with (h | ⟨o,h⟩) | h
  ·have ne:a≠p:=λ z=>by subst z;rw[hp]at h;cases h
   exact .inl (.inl (by rw[qb ne];exact h))
  ·have ne:a≠p:=λ z=>by subst z;rw[hp]at h;cases h
   exact .inl (.inr ⟨o,by rw[qb ne];exact h⟩)
  ·exact .inr h
 | .lst ds,v,h,i=>by
  obtain⟨a,xs,rfl,ha,js⟩:=i.lst_inv;rw[jH,aL]at h;have ne:a≠p:=λ z=>by
   subst z;rw[hp]at ha;cases ha;cases js with
   | cons j1 j2 =>
    cases j2;cases j1 with
    | int=>cases h.1
    | opq=>cases h.1
  exact .lst (by rw[qb ne];exact ha) (Bb ds h.2 js)
theorem Bb:∀ (ds:List Dt) {vs:List V},iS ds=S_->Iss K H vs ds->Iss K (hdP H p) vs ds
 | [],vs,_,i=>by cases i;exact .nil
 | d::r,vs,h,i=>by
  cases i with
  | cons i1 i2 =>rw[iS,aL]at h;exact .cons (DX d h.1 i1) (Bb r h.2 i2)
end
end
section
variable {es fs:List Expr}{env:Env}{e a b:Expr}{k:Nat}{p:Pos}
theorem stC {c:Const}:starEach (.Constant c k p::es) env=(Ta,eval (.Constant c k p) env)::starEach es env:=rfl
theorem stT {j}:starEach (.Tuple fs j p::es) env=(Ta,eval (.Tuple fs j p) env)::starEach es env:=rfl
theorem stL:starEach (.List fs p::es) env=(Ta,eval (.List fs p) env)::starEach es env:=rfl
theorem stB {o}:starEach (.BinOp a o b p::es) env=(Ta,eval (.BinOp a o b p) env)::starEach es env:=rfl
theorem stU {o}:starEach (.UnaryOp o a p::es) env=(Ta,eval (.UnaryOp o a p) env)::starEach es env:=rfl
theorem stX:starEach (.Subscript a b p::es) env=(Ta,eval (.Subscript a b p) env)::starEach es env:=rfl
end
def CD (gt:DE->gF Bool)(gb:DE->gF RD):Nat->DE->gF RD
 | 0,_=>SY
 | n+1,δ=>(gt δ).bind λ k=>if k=S_ then (gb δ).bind λ r=>match r with
  | .nx δ'=>CD gt gb n δ'
  | .rt d=>My (.rt d) else My (.nx δ)
section
variable {X:Cx}{c:Expr}{body:List Stmt}{pos:Pos}
theorem IZ {gt:DE->gF Bool}{gb:DE->gF RD}(n:Nat)(hp:PassesOwn (model X.prog X.w) X.A X.env X.xe)(hc:PDT X c gt)(hb:Ay X body gb):PDS X (.While c body [] pos) (CD gt gb n):=(wz hp hc hb).of λ D σ H hz=>by
 obtain⟨δ,r,S,e,q⟩:=hz;refine⟨λ m σ' H'=>gY H H'/\∃ δ',Sat X.K H' σ' δ'/\CD gt gb m δ'=My r,⟨n,gY.refl H,δ,S,e⟩,?_⟩;rintro m σ' H' ⟨s1,δ',S',e'⟩;cases m with
 | zero=>cases e'
 | succ m =>
  obtain⟨k,e1,e2⟩:=gP (show(gt δ').bind _=_ from e');refine⟨δ',k,S',e1,λ H1 s2=>?_⟩;cases k with
  | false =>rw[ak aw]at e2;cases e2;exact q H1 (s1.trans s2) σ' (S'.ext s2)
  | true =>
   rw[ai rfl]at e2;obtain⟨x,e3,e4⟩:=gP e2;refine⟨λ σ2 H2=>gY H H2/\∃ δ2,Sat X.K H2 σ2 δ2/\CD gt gb m δ2=My r,λ σ2 H2 h=>⟨m,dR m,h⟩,δ',x,S'.ext s2,e3,λ H2 s3=>?_⟩;cases x with
   | nx δ2=>exact λ σ2 S2=>⟨(s1.trans s2).trans s3,δ2,S2,e4⟩
   | rt d=>cases e4;exact q H2 ((s1.trans s2).trans s3)
end
theorem I8 {l:gK}{n p:Nat}(ok:∀ t∈l,t.1<t.2/\t.2<n)(hp:p<n)(x:Nat):x∈keys (bfs l p)↔x∈m9 l n p:=by
 have f:=jX l p;constructor
 ·intro h
  obtain⟨q,hq,rfl⟩:=aA.mp h;refine f.sub (·∈m9 l n p) Cp (λ u v h t=>?_) q.2 q.1 hq;have cl:=E3 ok hp;rcases lM.mp h with z | z
  ·exact(cl _ z).mpr t
  ·exact(cl _ z).mp t
 ·intro h
  have step:∀ u v,v∈nb l u->u∈keys (bfs l p)->v∈keys (bfs l p):=λ u v h hu=>by obtain⟨q,hq,rfl⟩:=aA.mp hu;obtain⟨d,hd,_⟩:=f.cl q hq v h;exact aA.mpr ⟨(v,d),hd,rfl⟩
  refine IJ (l:=l) (n:=n) (S:=(·∈keys (bfs l p))) (λ t ht=>⟨step _ _ (lM.mpr (.inr ht)),step _ _ (lM.mpr (.inl ht))⟩) (aA.mpr ⟨(p,0),f.start,rfl⟩) x h
theorem N6 {l:gK}{n p:Nat}(ok:∀ t∈l,t.1<t.2/\t.2<n)(hp:p<n):srt ((m9 l n p).map λ(k:Nat)=>(k:Int))=(sk (bfs l p)).map λ(k:Nat)=>(k:Int):=by
 rw[<-HW];refine E4 ((lK _).trans ?_) (nF _);have e:(iX (bfs l p)).map (·.1)=(keys (bfs l p)).map λ(k:Nat)=>(k:Int):=by unfold iX keys;rw[aP,aP];rfl
 rw[e];exact(Cr (DO ok hp) (jX l p).nd λ t=>(I8 ok hp t).symm).map _
def oiD:Dt->gF (gF Int)
 | .non=>My SY
 | .int i=>My (My i)
 | _=>SY
def kJ:gF Int->Dt
 | none=>.non
 | some i=>.int i
theorem E9 {d:Dt}{o:gF Int}(h:oiD d=My o):d=kJ o:=by
 cases d with
 | non=>cases h;rfl
 | int i=>cases h;rfl
 | _=>cases h
def Gu (x y:Dt):gF Dt:=(oiD x).bind λ o=>match y with
 | .non=>My (.bl o.isNone)
 | _=>SY
def K4 (x y:Dt):gF Dt:=(oiD x).bind λ o=>match y with
 | .int j=>My (.bl (decide (o=My j)))
 | _=>SY
section
variable {X:Cx}
theorem Qf:OpR X (compareOp .Is) (rD X.K Gu):=opD MD λ x y H Q dx dy d i1 i2 e q=>by
 obtain⟨o,e1,e2⟩:=gP e;obtain rfl:=E9 e1;cases dy with
 | non =>
  cases e2;have:=i2.pG;subst this;refine⟨rfl,?_⟩;cases o with
  | none=>rw[Is.pG i1];exact q _ H (gY.refl H) (.bl _)
  | some i=>rw[Is.int_inv i1];exact q _ H (gY.refl H) (.bl _)
 | _=>cases e2
theorem Qg:OpR X (compareOp .Eq) (rD X.K K4):=opD LB λ x y H Q dx dy d i1 i2 e q=>by
 obtain⟨o,e1,e2⟩:=gP e;obtain rfl:=E9 e1;cases dy with
 | int j =>
  cases e2;have:=i2.int_inv;subst this;cases o with
  | none =>
   rw[Is.pG i1];refine⟨rfl,?_⟩;have e:decide (V.non=V.int j)=decide ((SY:gF Int)=My j):=by rw[bj];simp
   rw[e];exact q _ H (gY.refl H) (.bl _)
  | some i =>
   rw[Is.int_inv i1];refine⟨rfl,?_⟩;have e:decide (V.int i=V.int j)=decide (My i=My j):=by rw[bj];simp
   rw[e];exact q _ H (gY.refl H) (.bl _)
 | _=>cases e2
end
def Bc (w:Web)(f L P i:Nat):Prop:=ds w.2 f i<=L\/(ds w.2 f i=L+1/\∃ u,u<P/\ds w.2 f u=L/\i∈nb w.2 u)
open Classical in
def jq (w:Web)(f L P i:Nat):gF Int:=if Bc w f L P i then My (ds w.2 f i:Int) else SY
section
variable {w:Web}(g:Good w){f:Nat}
open Classical in
theorem mM {L P i:Nat}(h:Bc w f L P i):jq w f L P i=My (ds w.2 f i:Int):=by unfold jq;rw[ai h]
open Classical in
theorem q_ {L P i:Nat}(h:¬ Bc w f L P i):jq w f L P i=SY:=by unfold jq;rw[ak h]
open Classical in
theorem sJ {L P L' P' i:Nat}(h:Bc w f L P i↔Bc w f L' P' i):jq w f L P i=jq w f L' P' i:=by
 by_cases c:Bc w f L P i
 ·rw[mM c,mM (h.mp c)]
 ·rw[q_ c,q_ λ z=>c (h.mpr z)]
open Classical in
theorem E_ {L P p:Nat}:jq w f L P p=My (L:Int)↔ds w.2 f p=L:=by
 by_cases c:Bc w f L P p
 ·rw[mM c]
  constructor
  ·intro h;have:=ao h;lia
  ·intro h;rw[h]
 ·rw[q_ c]
  constructor
  ·intro h;cases h
  ·intro h;exact absurd (.inl (by lia)) c
theorem I9 {L P i:Nat}(h:ds w.2 f P≠L):jq w f L (P+1) i=jq w f L P i:=sJ ⟨λ z=>by
  rcases z with z | ⟨z,u,hu,hd,hi⟩
  ·exact .inl z
  ·refine .inr ⟨z,u,?_,hd,hi⟩
   have:u≠P:=λ e=>by subst e;exact h hd
   lia,λ z=>by
  rcases z with z | ⟨z,u,hu,hd,hi⟩
  ·exact .inl z
  ·exact .inr ⟨z,u,by lia,hd,hi⟩⟩
include g
open Classical in
theorem Good.I_ (hf:f<w.1){L P i:Nat}(h:ds w.2 f P=L):jq w f L (P+1) i=if i∈nb w.2 P then (if jq w f L P i=SY then My ((L:Int)+1) else jq w f L P i) else jq w f L P i:=by
 by_cases c:i∈nb w.2 P
 ·rw[ai c]
  have le:=g.B0 hf c;by_cases q:Bc w f L P i
  ·have q':Bc w f L (P+1) i:=by
    rcases q with z | ⟨z,u,hu,hd,hi⟩
    ·exact .inl z
    ·exact .inr ⟨z,u,by lia,hd,hi⟩
   rw[mM q,mM q',ak (by simp)]
  ·have gt:ds w.2 f i=L+1:=by
    have:¬ ds w.2 f i<=L:=λ z=>q (.inl z);lia
   rw[q_ q,ai rfl,mM (.inr ⟨gt,P,by lia,h,c⟩),gt];rfl
 ·rw[ak c]
  refine sJ ⟨λ z=>?_,λ z=>?_⟩
  ·rcases z with z | ⟨z,u,hu,hd,hi⟩
   ·exact .inl z
   ·refine .inr ⟨z,u,?_,hd,hi⟩
    have:u≠P:=λ e=>by subst e;exact c hi
    lia
  ·rcases z with z | ⟨z,u,hu,hd,hi⟩
   ·exact .inl z
   ·exact .inr ⟨z,u,by lia,hd,hi⟩
theorem Good.K8 (hf:f<w.1){L i:Nat}(hi:i<w.1):jq w f L w.1 i=jq w f (L+1) 0 i:=by
 refine sJ ⟨λ z=>?_,λ z=>?_⟩
 ·rcases z with z | ⟨z,_⟩
  ·exact .inl (by lia)
  ·exact .inl (by lia)
 ·rcases z with z | ⟨_,u,hu,_⟩
  ·by_cases c:ds w.2 f i<=L
   ·exact .inl c
   ·have e:ds w.2 f i=L+1:=by lia
    have ne:i≠f:=λ q=>by subst q;rw[jw]at e;lia
    obtain⟨u,hu,hd⟩:=g.qJ hf hi ne;exact .inr ⟨e,u,(g.jk hu).2.1,by lia,hu⟩
  ·lia
theorem Good.Gv (hf:f<w.1){i:Nat}(hi:i<w.1):jq w f 0 0 i=if i=f then My 0 else SY:=by
 by_cases c:i=f
 ·subst c;rw[ai rfl,mM (.inl (by rw[jw];exact ay _)),jw];rfl
 ·rw[ak c]
  refine q_ λ z=>?_;rcases z with z | ⟨_,u,hu,_⟩
  ·exact c (g.om hf hi (by lia))
  ·lia
theorem Good.K9 (hf:f<w.1){i:Nat}(hi:i<w.1)(hd:ds w.2 f i<=w.1):jq w f w.1 0 i=My (ds w.2 f i:Int):=mM (.inl hd)
end
def oV:gF Int->V
 | none=>.non
 | some i=>.int i
abbrev foV (n:Nat)(F:Nat->gF Int):List V:=(Tc n).map λ j=>oV (F j)
theorem K_ (n:Nat)(F:Nat->gF Int)(j:Nat)(x:gF Int):(foV n F).set j (oV x)=foV n (λ i=>if i=j then x else F i):=by
 apply f7;intro i;rw[List.getElem?_set];simp only[foV,aK,af,bE];by_cases c:j=i
 ·subst c
  by_cases l:j<n
  ·rw[ai rfl,ai l,cT l];simp
  ·rw[ai rfl,ak l,bY (by simp;lia)];rfl
 ·rw[ak c]
  by_cases l:i<n
  ·rw[cT l];simp[bu c]
  ·rw[bY (by simp;lia)];rfl
def fT:DE->gF Bool:=gB (g_ K4 (g_ dIx (gR 2) (gR 4)) (gR 3))
def fN:DE->gF Dt:=hZ 2 jM (gN (gR 0) (gN (gR 4) gS))
def fV:DE->gF Dt:=gIf (gB (g_ Gu (g_ dIx (gR 2) (gR 5)) (gC .non))) (g_ (dI (·+·)) (gR 3) (gC (.int 1))) (g_ dIx (gR 2) (gR 5))
def fB (K:gG):TS:=j_ (tD K fV) (Mw (hX 2) (hX 5) GO)
def fI (K:gG):TS:=wG (D6 K (tD K fN)) (iA 5) (fB K)
def fP (K:gG):TS:=Ju (tDT K fT) (fI K) D5
structure FH (K:gG)(w:Web)(v0:V)(H0:Hp)(l:Addr)(F:Nat->gF Int)(H:Hp):Prop where
 same:gY H0 H
 nl:H0 l=SY
 hl:H l=My (.lst (foV w.1 F))
 i0:Is K H0 v0 (hG w)
abbrev sgF (v0:V)(f:Nat)(l:Addr)(lap pl ot:gF V):L2.St:=[My v0,My (cV f),My (.ref l),lap,pl,ot]
section
variable {K:gG}{w:Web}{v0:V}{H0 H:Hp}{l:Addr}{F:Nat->gF Int}{f:Nat}{D:Ends}
theorem FH.ext {H':Hp}(x:FH K w v0 H0 l F H)(s:gY H H'):FH K w v0 H0 l F H':=⟨x.same.trans s,x.nl,s _ _ x.hl,x.i0⟩
theorem FH.put (x:FH K w v0 H0 l F H)(j:Nat)(z:gF Int):FH K w v0 H0 l (λ i=>if i=j then z else F i) (upd H l (.lst ((foV w.1 F).set j (oV z)))) :=
 ⟨λ c u h=>by rw[g6 (ir h x.nl)];exact x.same c u h,x.nl,by rw[gU,K_],x.i0⟩
theorem Qh {K:gG}{H:Hp}(o:gF Int):Is K H (oV o) (kJ o):=by
 cases o with
 | none=>exact .non
 | some i=>exact .int i
theorem Qi {K:gG}{H:Hp}{v:V}{o:gF Int}(h:Is K H v (kJ o)):v=oV o:=by
 cases o with
 | none=>exact Is.pG h
 | some i=>exact Is.int_inv h
theorem FH.isL (x:FH K w v0 H0 l F H):Is K H (.ref l) (.lst ((Tc w.1).map λ j=>kJ (F j))):=by
 refine .lst x.hl ?_;show Iss K H ((Tc w.1).map λ j=>oV (F j)) _;generalize Tc w.1=r;induction r with
 | nil=>exact .nil
 | cons a t ih=>exact .cons (Qh _) ih
theorem FH.sat (x:FH K w v0 H0 l F H)(L p:Nat)(ot:gF V):Sat K H (sgF v0 f l (My (cV L)) (My (cV p)) ot) [My (hG w),My (gO f),My (.lst ((Tc w.1).map λ j=>kJ (F j))),My (gO L),My (gO p),SY] :=
 stS (x.i0.ext x.same) (stS (.int _) (stS x.isL (stS (.int _) (stS (.int _) (stN stE)))))
theorem FH.RT (x:FH K w v0 H0 l F H)(L p o:Nat):Sat K H (sgF v0 f l (My (cV L)) (My (cV p)) (My (cV o))) [My (hG w),My (gO f),My (.lst ((Tc w.1).map λ j=>kJ (F j))),My (gO L),My (gO p),My (gO o)] :=
 stS (x.i0.ext x.same) (stS (.int _) (stS x.isL (stS (.int _) (stS (.int _) (stS (.int _) stE)))))
theorem Ja (o:gF Int):oiD (kJ o)=My o:=by cases o<;>rfl
theorem Mg {n i:Nat}(h:i<n):dIx (.lst ((Tc n).map λ j=>kJ (F j))) (gO i)=My (kJ (F i)):=by show atI ((Tc n).map λ j=>kJ (F j)) (i:Int)=_;refine lh ?_;rw[aK,cT h];rfl
theorem Qj {L p:Nat}(hp:p<w.1)(x0 x1 x5:gF Dt):fT [x0,x1,My (.lst ((Tc w.1).map λ j=>kJ (F j))),My (gO L),My (gO p),x5]=My (decide (F p=My (L:Int))):=by
 have i1:=Mg (F:=F) hp;have q:K4 (kJ (F p)) (gO L)=My (.bl (decide (F p=My (L:Int)))):=by unfold K4;rw[Ja];rfl
 generalize gO L=nL,gO p=np,kJ (F p)=e,(Tc w.1).map (λ j=>kJ (F j))=ll at *;simp[fT,i1,q]
theorem Qk {L o:Nat}(ho:o<w.1)(x0 x1 x4:gF Dt):fV [x0,x1,My (.lst ((Tc w.1).map λ j=>kJ (F j))),My (gO L),x4,My (gO o)]=My (kJ (if F o=SY then My ((L:Int)+1) else F o)):=by
 have i1:=Mg (F:=F) ho;have q:Gu (kJ (F o)) .non=My (.bl (F o).isNone):=by unfold Gu;rw[Ja];rfl
 generalize (Tc w.1).map (λ j=>kJ (F j))=ll at *;cases h:F o with
 | none =>rw[h]at i1 q;have q:Gu (kJ SY) .non=My (.bl S_):=q;generalize kJ SY=e at *;simp only[gO]at *;simp[fV,i1,q,gO,kJ]
 | some v =>rw[h]at i1 q;have q:Gu (kJ (My v)) .non=My (.bl Ta):=q;rw[ak (by simp)];generalize gO o=no,kJ (My v)=e at *;simp[fV,i1,q]
theorem N7 {L p o:Nat}(x:FH K w v0 H0 l F H)(ho:o<w.1)(h:∀ H',FH K w v0 H0 l (λ i=>if i=o then (if F o=SY then My ((L:Int)+1) else F o) else F i) H'->(∀ c u,H c=My u->c≠l->H' c=My u)->D.nx (sgF v0 f l (My (cV L)) (My (cV p)) (My (cV o))) H'):fB K D (sgF v0 f l (My (cV L)) (My (cV p)) (My (cV o))) H:=by refine⟨_,_,x.RT L p o,Qk ho ..,λ v H1 s1 i1=>?_⟩;rw[Qi i1];have x1:=x.ext s1;exact⟨_,rfl,_,rfl,l,_,_,o,rfl,rfl,x1.hl,by rw[af,bE];exact EW ho,h _ (x1.put o _) λ c u e n=>by rw[g6 n];exact s1 c u e⟩
theorem Ql (g:Good w){p:Nat}(x1 x2 x3 x5:gF Dt):fN [My (hG w),x1,x2,x3,My (gO p),x5]=My (.lst ((nrL w p).map gO)):=by
 have nr:jM [hG w,gO p]=My (.lst ((nrL w p).map gO)):=by show(dW (hG w)).bind (λ w=>(jD (gO p)).map λ p=>Dt.lst (((Tc w.1).filter λ o=>decide (jm p o∈w.2)).map gO))=_;rw[lL g,iQ];rfl
 generalize gO p=np,hG w=ww,(nrL w p).map gO=ps at *;simp[fN,nr]
theorem Good.N8 (g:Good w){L p:Nat}(hf:f<w.1)(hp:p<w.1)(hd:ds w.2 f p=L){ot:gF V}(x:FH K w v0 H0 l (jq w f L p) H)
  (h:∀ ot H',FH K w v0 H0 l (jq w f L (p+1)) H'->D.nx (sgF v0 f l (My (cV L)) (My (cV p)) ot) H'):fI K D (sgF v0 f l (My (cV L)) (My (cV p)) ot) H:=by
 refine⟨_,_,x.sat L p ot,Ql g ..,λ v H1 s1 i1=>?_⟩;have x1:=x.ext s1;obtain⟨a,xs,rfl,ha,is⟩:=i1.lst_inv;have exs:xs=(nrL w p).map cV:=by
  have:Iss K H1 xs (((nrL w p).map λ(k:Nat)=>(k:Int)).map .int):=by rw[aP];exact is
  rw[this.ints,aP];rfl
 subst exs;have d7:=g.Ib p;have al:a≠l:=λ z=>by
  subst z;rw[x1.hl]at ha;have:=cK (λ o=>match o with | some (HO.lst ys)=>ys.length | _=>0) ha;simp at this;rw[g.NF p]at this;have hlt:dg w p<w.1:=by
   have h1:(p::nb w.2 p).Nodup:=bc.mpr ⟨λ m=>(g.jk m).2.2 rfl,g.HM p⟩;have:=aD h1 (l₂:=Tc w.1) λ x hx=>by
    rcases aB.mp hx with rfl | hx
    ·exact aC.mpr hp
    ·exact aC.mpr (g.jk hx).1
   simp at this;unfold dg;lia
  lia
 refine⟨a,rfl,⟨_,SqL.of ha⟩,Bo (K:=K) (a:=a) (xs:=(nrL w p).map cV) (λ j σ' H'=>∃ ot,σ'=sgF v0 f l (My (cV L)) (My (cV p)) ot/\H' a=My (.lst ((nrL w p).map cV))/\FH K w v0 H0 l (λ i=>if i∈(nrL w p).take j then (if jq w f L p i=SY then My ((L:Int)+1) else jq w f L p i) else jq w f L p i) H') ⟨ot,rfl,ha,?_⟩ (λ j σ' H' _ z=>by obtain⟨_,_,q,_⟩:=z;exact SqL.of q) ?_ ?_⟩
 ·have e:(λ i=>if i∈(nrL w p).take 0 then (if jq w f L p i=SY then My ((L:Int)+1) else jq w f L p i) else jq w f L p i)=jq w f L p:=by funext i;simp
  rw[e];exact x1
 ·rintro j xv σ' H' hj ⟨ot,rfl,ha',x'⟩
  rw[aK]at hj;cases hnr:(nrL w p)[j]? with
  | none=>rw[hnr]at hj;cases hj
  | some o =>
   rw[hnr]at hj;cases hj;have hom:=bg hnr;have how:o<w.1:=(g.jk (g.pN.mp hom)).1;have hnew:o∉(nrL w p).take j:=λ m=>by obtain⟨k,hk,ek⟩:=b_ m;rw[List.getElem_take]at ek;rw[bR]at hk;have pw:(nrL w p).Pairwise (·<·):=fy _ eV;obtain⟨hj2,ej⟩:=aQ.mp hnr;have:=bQ.mp pw k j (by lia) hj2 (by lia);lia
   refine N7 x' how λ H2 x2 kp=>⟨_,rfl,kp a _ ha' al,?_⟩;have e:(λ i=>if i∈(nrL w p).take (j+1) then (if jq w f L p i=SY then My ((L:Int)+1) else jq w f L p i) else jq w f L p i)=λ i=>if i=o then (if (if o∈(nrL w p).take j then (if jq w f L p o=SY then My ((L:Int)+1) else jq w f L p o) else jq w f L p o)=SY then My ((L:Int)+1) else (if o∈(nrL w p).take j then (if jq w f L p o=SY then My ((L:Int)+1) else jq w f L p o) else jq w f L p o)) else (if i∈(nrL w p).take j then (if jq w f L p i=SY then My ((L:Int)+1) else jq w f L p i) else jq w f L p i):=by
    funext i;rw[eZ,hnr,ak hnew];by_cases c:i=o
    ·subst c;simp
    ·by_cases c2:i∈(nrL w p).take j
     ·simp[c,c2]
     ·simp[c,c2]
   rw[e];exact x2
 ·rintro σ' H' ⟨ot,rfl,_,x'⟩
  rw[af,eg]at x';have e:(λ i=>if i∈nrL w p then (if jq w f L p i=SY then My ((L:Int)+1) else jq w f L p i) else jq w f L p i)=jq w f L (p+1):=by
   funext i;rw[g.I_ hf hd];by_cases c:i∈nb w.2 p
   ·rw[ai c,ai (g.pN.mpr c)]
   ·rw[ak c,ak λ z=>c (g.pN.mp z)]
  rw[e]at x';exact h _ _ x'
end
def fW (K:gG):TE:=tOp (JF K) (hX 0) (tC (V.int 0))
def fL2 (K:gG):TS:=wG (zb (g0 (fW K) iL)) (iA 4) (fP K)
def fL1 (K:gG):TS:=wG (zb (g0 (fW K) iL)) (iA 3) (fL2 K)
def Qm (K:gG):TS:=jc (j_ (tOp O2 (qu (g0 (tC V.non) iL)) (fW K)) (iA 2)) (jc (j_ (tC (V.int 0)) (Mw (hX 2) (hX 1) GO)) (jc (fL1 K) (zX (hX 2))))
section
variable {K:gG}{w:Web}{v0:V}{H0 H:Hp}{l:Addr}{F:Nat->gF Int}{f:Nat}{D:Ends}
theorem N9 {σ:L2.St}{Q:VK}(h0:σ[0]?=My (My v0))(i0:Is K H v0 (hG w))(q:Q (.int w.1) H):fW K σ H Q:=by obtain⟨r,xs,rfl,hr3,is3⟩:=i0.ik;obtain⟨u0,u1,rfl,j0,j1⟩:=is3.two;have:=j0.int_inv;subst this;exact⟨_,h0,r,_,_,_,rfl,rfl,hr3,rfl,q⟩
theorem FH.congr {G:Nat->gF Int}(x:FH K w v0 H0 l F H)(h:∀ i,i<w.1->F i=G i):FH K w v0 H0 l G H:=⟨x.same,x.nl,by
 rw[x.hl];have:foV w.1 F=foV w.1 G:=bG λ i hi=>by rw[h i (aC.mp hi)]
 rw[this],x.i0⟩
variable (g:Good w)
include g
theorem Good.RU {L p:Nat}(hf:f<w.1)(hp:p<w.1){ot:gF V}(x:FH K w v0 H0 l (jq w f L p) H)
  (h:∀ ot H',FH K w v0 H0 l (jq w f L (p+1)) H'->D.nx (sgF v0 f l (My (cV L)) (My (cV p)) ot) H'):fP K D (sgF v0 f l (My (cV L)) (My (cV p)) ot) H:=by
 refine⟨_,_,x.sat L p ot,Qj hp ..,λ H1 s1=>?_⟩;have x1:=x.ext s1;by_cases c:jq w f L p p=My (L:Int)
 ·rw[decide_eq_true c];exact G0 (g.N8 hf hp (E_.mp c) x1 h)
 ·rw[decide_eq_false c];refine GZ ?_;have ne:ds w.2 f p≠L:=λ z=>c (E_.mpr z);exact h ot H1 (x1.congr λ i _=>(I9 ne).symm)
theorem Good.Jb {L:Nat}(hf:f<w.1){pl ot:gF V}(x:FH K w v0 H0 l (jq w f L 0) H)
  (h:∀ pl ot H',FH K w v0 H0 l (jq w f L w.1) H'->D.nx (sgF v0 f l (My (cV L)) pl ot) H'):fL2 K D (sgF v0 f l (My (cV L)) pl ot) H:=by
 have h8:=g.oh;refine N9 rfl (x.i0.ext x.same) ⟨_,rfl,by lia,by lia,?_⟩;rw[bV];refine ng (lo:=0) (n:=w.1) (λ i σ' H'=>∃ pl ot,σ'=sgF v0 f l (My (cV L)) pl ot/\FH K w v0 H0 l (jq w f L i) H') ⟨pl,ot,rfl,x⟩ ?_ ?_
 ·rintro i σ' H' hi ⟨pl,ot,rfl,x'⟩;rw[Int.zero_add];exact g.RU hf hi x' λ ot H2 x2=>⟨_,ot,rfl,x2⟩
 ·rintro σ' H' ⟨pl,ot,rfl,x'⟩;exact h pl ot H' x'
theorem Good.N_ (hf:f<w.1){lap pl ot:gF V}(x:FH K w v0 H0 l (jq w f 0 0) H)
  (h:∀ lap pl ot H',FH K w v0 H0 l (jq w f w.1 0) H'->D.nx (sgF v0 f l lap pl ot) H'):fL1 K D (sgF v0 f l lap pl ot) H:=by
 have h8:=g.oh;refine N9 rfl (x.i0.ext x.same) ⟨_,rfl,by lia,by lia,?_⟩;rw[bV];refine ng (lo:=0) (n:=w.1) (λ i σ' H'=>∃ lap pl ot,σ'=sgF v0 f l lap pl ot/\FH K w v0 H0 l (jq w f i 0) H') ⟨lap,pl,ot,rfl,x⟩ ?_ ?_
 ·rintro i σ' H' hi ⟨lap,pl,ot,rfl,x'⟩;rw[Int.zero_add];exact g.Jb hf x' λ pl ot H2 x2=>⟨_,pl,ot,rfl,x2.congr λ j hj=>g.K8 hf hj⟩
 ·rintro σ' H' ⟨lap,pl,ot,rfl,x'⟩;exact h lap pl ot H' x'
theorem Good.Qn (hf:f<w.1)(hd:∀ i,i<w.1->ds w.2 f i<=w.1)(i0:Is K H v0 (hG w)){x2 x3 x4 x5:gF V}
  (q:∀ l H',gY H H'->H l=SY->H' l=My (.lst ((Tc w.1).map λ i=>cV (ds w.2 f i)))->D.rt (.ref l) H'):Qm K D [My v0,My (cV f),x2,x3,x4,x5] H:=by
 have h8:=g.oh;refine⟨Nat.le_of_ble_eq_true rfl,λ m hm=>?_⟩;have s1:gY H (upd H m (.lst [V.non])):=gY.upd hm;refine N9 rfl (i0.ext s1) ?_;refine⟨m,(w.1:Int),[V.non],rfl,rfl,gU,by lia,by lia,by rw[sizeLine_eq];simp;lia,λ l hl=>?_⟩;have er:(Td (w.1:Int).toNat [V.non]).flatten=foV w.1 (λ _=>SY):=by
  rw[bV];show _=(Tc w.1).map λ _=>V.non;generalize w.1=n;induction n with
  | zero=>rfl
  | succ n ih=>rw[List.replicate_succ',List.flatten_append,ih,List.range_succ,aY];rfl
 rw[er];have s2:gY (upd H m (.lst [V.non])) (upd (upd H m (.lst [V.non])) l (.lst (foV w.1 (λ _=>SY)))):=gY.upd hl;have hl0:H l=SY:=s1.free hl;generalize upd H m (.lst [V.non])=H1 at *;have x:FH K w v0 H1 l (λ _=>SY) (upd H1 l (.lst (foV w.1 (λ _=>SY)))):=⟨s2,hl,gU,i0.ext s1⟩;generalize upd H1 l (.lst (foV w.1 (λ _=>SY)))=H2 at x;refine⟨_,rfl,_,rfl,l,_,_,f,rfl,rfl,x.hl,by rw[af,bE];exact EW hf,?_⟩;have x1:=x.put f (My 0);have x2:=x1.congr (G:=jq w f 0 0) λ i hi=>(g.Gv hf hi).symm;refine g.N_ hf x2 λ lap pl ot H3 x3=>?_;refine⟨_,rfl,q l H3 (s1.trans x3.same) hl0 ?_⟩;rw[x3.hl];have:foV w.1 (jq w f w.1 0)=(Tc w.1).map λ i=>cV (ds w.2 f i):=bG λ i hi=>by have hi:=aC.mp hi;rw[g.K9 hf hi (hd i hi)];rfl
 rw[this]
end
def sL:List Dt->gF Dt:=Du λ x y=>(dW x).bind λ w=>(jD y).bind λ b=>if b<w.1 then My (.lst ((Tc w.1).map λ i=>gO (ds w.2 b i))) else SY
def qc:List Dt->gF Dt
 | [x,y,z]=>(dT x).bind λ w=>(jD y).bind λ a=>(jD z).bind λ b=>if a<w.1/\b<w.1 then My (.tup ((wyL w.2 b a).map gO)) else SY
 | _=>SY
def wT:DE->gF Bool:=(gB (g_ mD (g_ dIx (gR 4) (gUn uR (gC (.int 1)))) (gR 2)))
def wBd:DE->gF RD:=(kU 4 (g_ kA (gR 4) (iP oE (gN (gLC ["_law_one"] [3,4] (gI kz (hZ 2 jM (gN (gR 0) (gN (g_ dIx (gR 4) (gUn uR (gC (.int 1)))) gS)))) (ggN 0) (gB (g_ (dIB λ i j=>decide (i<j)) (g_ dIx (gR 1) (gR 0)) (g_ dIx (gR 1) (g_ dIx (gR 2) (gUn uR (gC (.int 1))))))) (gR 0)) gS))))
def qd:DE->gF RD:=(lx (kU 3 (hZ 2 sL (gN (gR 0) (gN (gR 2) gS)))) (lx (kU 4 (iZ (gN (gR 1) gS))) (lx (CD wT wBd 9) (kN (gR 4)))))
abbrev DY:List Str:=["_law_tree","_law_a","_law_b","_law_far_here","_law_found"]
theorem Oa {w:Web}(g:Good w)(tr:w.2.length+1=w.1){b v:Nat}(hb:b<w.1)(hv:v<w.1)(ne:v≠b):((nrL w v).filter λ u=>decide (ds w.2 b u<ds w.2 b v))=[nx w.2 b v]:=by
 obtain⟨h1,h2,_⟩:=g.qi hb hv ne;have nd:((nrL w v).filter λ u=>decide (ds w.2 b u<ds w.2 b v)).Nodup:=(cp.filter _).filter _;have all:∀ u∈(nrL w v).filter (λ u=>decide (ds w.2 b u<ds w.2 b v)),u=nx w.2 b v:=λ u hu=>by obtain⟨m1,m2⟩:=aS.mp hu;exact g.Kl tr hb (g.pN.mp m1) (by simpa using m2)
 have mem:nx w.2 b v∈(nrL w v).filter λ u=>decide (ds w.2 b u<ds w.2 b v):=aS.mpr ⟨g.pN.mpr h1,by simp;lia⟩;generalize (nrL w v).filter (λ u=>decide (ds w.2 b u<ds w.2 b v))=l at *;cases l with
 | nil=>cases mem
 | cons x r =>
  cases r with
  | nil=>rw[all x av]
  | cons y r =>have e1:=all x av;have e2:=all y (ax _ av);rw[e1,e2]at nd;exact absurd av (bc.mp nd).1
section
variable {w:Web}(g:Good w)
include g
theorem Qo {b v:Nat}(pre:List Nat)(x0 x1 x3:gF Dt):wT [x0,x1,My (gO b),x3,My (.tup ((pre++[v]).map gO))]=My (!decide (v=b)):=by
 have h:=sT (pre.map gO) (gO v);rw[aY,eM];have e:dIx (.tup (pre.map gO++[gO v])) (.int (-1))=My (gO v):=h;have ne:mD (gO v) (gO b)=My (.bl (!decide (v=b))):=by show My (Dt.bl (!((v:Int)==(b:Int))))=_;rw[oX];congr 3
 generalize gO b=nb,gO v=nv,Dt.tup (pre.map gO++[gO v])=t at *;simp[wT,gUn,uR,e,ne]
theorem Qp (tr:w.2.length+1=w.1){b v:Nat}(hb:b<w.1)(hv:v<w.1)(ne:v≠b)(pre:List Nat)(hl:pre.length<=100)(x1 x2:gF Dt):wBd [My (hG w),x1,x2,My (.lst ((Tc w.1).map λ i=>gO (ds w.2 b i))),My (.tup ((pre++[v]).map gO))]=My (.nx [My (hG w),x1,x2,My (.lst ((Tc w.1).map λ i=>gO (ds w.2 b i))),My (.tup ((pre++[v,nx w.2 b v]).map gO))]):=by
 have h8:=g.oh;have far:∀ {i},i<w.1->dIx (.lst ((Tc w.1).map λ i=>gO (ds w.2 b i))) (gO i)=My (gO (ds w.2 b i)):=λ{i} hi=>by show atI ((Tc w.1).map λ i=>gO (ds w.2 b i)) (i:Int)=_;refine lh ?_;rw[aK,cT hi];rfl
 have h:dIx (.tup ((pre++[v]).map gO)) (.int (-1))=My (gO v):=by rw[aY,eM];exact sT (pre.map gO) (gO v)
 have nr:jM [hG w,gO v]=My (.lst ((nrL w v).map gO)):=by show(dW (hG w)).bind (λ w=>(jD (gO v)).map λ p=>Dt.lst (((Tc w.1).filter λ o=>decide (jm p o∈w.2)).map gO))=_;rw[lL g,iQ];rfl
 have lc:=jy (enc:=gO) (gg:=ggN 0) (gt:=gB (g_ (dIB λ i j=>decide (i<j)) (g_ dIx (gR 1) (gR 0)) (g_ dIx (gR 1) (g_ dIx (gR 2) (gUn uR (gC (.int 1))))))) (ge:=gR 0) (δc:=[SY,My (.lst ((Tc w.1).map λ i=>gO (ds w.2 b i))),My (.tup ((pre++[v]).map gO))])
  (δa:=λ z=>[My (gO z),My (.lst ((Tc w.1).map λ i=>gO (ds w.2 b i))),My (.tup ((pre++[v]).map gO))]) (p:=λ z=>decide (ds w.2 b z<ds w.2 b v)) (enc':=gO) (nrL w v) λ z hz=>⟨rfl,by
   have f1:=far (g.jk (g.pN.mp hz)).1;have f2:=far hv;have lt:dIB (λ i j=>decide (i<j)) (gO (ds w.2 b z)) (gO (ds w.2 b v))=My (.bl (decide (ds w.2 b z<ds w.2 b v))):=by show My (Dt.bl (decide (((ds w.2 b z:Nat):Int)<((ds w.2 b v:Nat):Int))))=_;congr 2;rw[decide_eq_decide];lia
   generalize gO v=nv,gO z=nz,gO (ds w.2 b v)=d2,gO (ds w.2 b z)=d1,Dt.tup ((pre++[v]).map gO)=tt,Dt.lst ((Tc w.1).map λ i=>gO (ds w.2 b i))=ff,decide (ds w.2 b z<ds w.2 b v)=kk at *;simp[gUn,uR,h,f1,f2,lt],λ _=>rfl⟩
 have lc:si (ggN 0) (gB (g_ (dIB λ i j=>decide (i<j)) (g_ dIx (gR 1) (gR 0)) (g_ dIx (gR 1) (g_ dIx (gR 2) (gUn uR (gC (.int 1))))))) (gR 0) [SY,My (.lst ((Tc w.1).map λ i=>gO (ds w.2 b i))),My (.tup ((pre++[v]).map gO))] ((nrL w v).map gO)=My [gO (nx w.2 b v)]:=by rw[lc,Oa g tr hb hv ne];rfl
 have nl:((nrL w v).map gO).length<=1000:=by rw[af];have:=bZ (λ o=>decide (jm v o∈w.2)) (Tc w.1);rw[bE]at this;exact bC this (by lia)
 have ct:kA (.tup ((pre++[v]).map gO)) (.tup [gO (nx w.2 b v)])=My (.tup ((pre++[v,nx w.2 b v]).map gO)):=by show(if ((pre++[v]).map gO).length+1<=1000 then My (Dt.tup ((pre++[v]).map gO++[gO (nx w.2 b v)])) else SY)=_;rw[ai (by rw[af,aH,aX];lia)];simp
 generalize hG w=ww,gO v=nv,gO (nx w.2 b v)=nq,Dt.lst ((Tc w.1).map λ i=>gO (ds w.2 b i))=ff,(nrL w v).map gO=nn,Dt.tup ((pre++[v]).map gO)=t1,Dt.tup ((pre++[v,nx w.2 b v]).map gO)=t2 at *;simp[wBd,gUn,uR,h,nr,nl,lc,ct]
theorem Fb (tr:w.2.length+1=w.1){b:Nat}(hb:b<w.1)(x1:gF Dt):∀ (k v:Nat) (pre:List Nat),v<w.1->ds w.2 b v<k->pre.length+k<=100->CD wT wBd k [My (hG w),x1,My (gO b),My (.lst ((Tc w.1).map λ i=>gO (ds w.2 b i))),My (.tup ((pre++[v]).map gO))]=My (.nx [My (hG w),x1,My (gO b),My (.lst ((Tc w.1).map λ i=>gO (ds w.2 b i))),My (.tup ((pre++wyL w.2 b v).map gO))])
 | 0,v,pre,_,h,_=>absurd h (cQ _)
 | k+1,v,pre,hv,h,hl=>by
  rw[CD,Qo g,aq];by_cases c:v=b
  ·subst c;rw[decide_eq_true rfl,qK];rfl
  ·rw[decide_eq_false c,fO,ai rfl,Qp g tr hb hv c pre (by lia),aq];dsimp only;obtain⟨_,e,_⟩:=g.qi hb hv c;have:=Fb tr hb x1 k (nx w.2 b v) (pre++[v]) (g.ER hb hv c) (by lia) (by rw[aH,aX];lia);rw[bW,fg,bW,fg,<-g.tR hb hv c]at this;exact this
end
theorem CF:Hg 3 DY qc qd:=by
 intro ds d hl h;match ds,h with
 | [x,y,z],h =>
  obtain⟨w,e1,h⟩:=gP (show(dT x).bind _=_ from h);obtain⟨a,e2,h⟩:=gP h;obtain⟨b,e3,h⟩:=gP h;by_cases hc:a<w.1/\b<w.1
  rotate_left
  ·rw[ak hc]at h;cases h
  rw[ai hc]at h;cases h;obtain⟨ha,hb⟩:=hc;obtain⟨e4,ht⟩:=Nn e1;obtain⟨rfl,g⟩:=pL e4;rw[ju e2,ju e3];refine⟨.rt (.tup ((wyL w.2 b a).map gO)),?_,rfl⟩;have h8:=g.oh;have fr:sL [hG w,gO b]=My (.lst ((Tc w.1).map λ i=>gO (L2.ds w.2 b i))):=by show(dW (hG w)).bind (λ w=>(jD (gO b)).bind λ b=>if b<w.1 then My (Dt.lst ((Tc w.1).map λ i=>gO (L2.ds w.2 b i))) else SY)=_;rw[lL g,iQ,aq,aq,ai hb]
  have lp:=Fb g ht hb (My (gO a)) 9 a [] ha (by have:=g.EV hb a ha;lia) (by decide);have lp:CD wT wBd 9 [My (hG w),My (gO a),My (gO b),My (.lst ((Tc w.1).map λ i=>gO (L2.ds w.2 b i))),My (.tup [gO a])]=My (.nx [My (hG w),My (gO a),My (gO b),My (.lst ((Tc w.1).map λ i=>gO (L2.ds w.2 b i))),My (.tup ((wyL w.2 b a).map gO))]):=lp;show qd [My (hG w),My (gO a),My (gO b),SY,SY]=_;generalize gO b=nb,gO a=na,hG w=ww,Dt.lst ((Tc w.1).map λ i=>gO (L2.ds w.2 b i))=ff,Dt.tup ((wyL w.2 b a).map gO)=r at *;simp[qd,fr,lp]
def jT (x y z:Dt):Dt:=.lst [sdX (lU 0 x y z),sdX (lU 1 x y z),sdX (lU 2 x y z)]
theorem nS (x y z:Dt):jT x y z=.lst [sdX (oA x),sdX (kP x y z yo),sdX (kP x y z mT)]:=rfl
def yr (x y z:Dt):Bool:=okW x&&(shW x&&(match xT x with
 | .ok w=>(match jD y,jD z with
  | some a,My b=>decide (a<w.1/\b<w.1)
  | _,_=>Ta)
 | .error _=>S_))
def lz:List Dt->gF Dt
 | [x,y,z]=>if yr x y z=S_ then My (jT x y z) else SY
 | _=>SY
def lC:DE->gF RD:=(lx (oD (kC (gTr (hZ 1 jb (gN (gR 0) gS)))) (kN (g_ FI (lX (gN (gC (.str "web")) gS)) (gC (.int 3)))) ky) (lx (oD (kC (gTr (hZ 1 jF (gN (gR 0) gS)))) (kN (lX (gN (gC (.bl Ta)) (gN (gC (.str "tree")) (gN (gC (.str "tree")) gS))))) ky) (lx (kU 3 (iZ (gN (iP xl (gN (gR 1) (gN (gR 2) gS))) (gN (iP xm (gN (gR 1) (gN (gR 2) gS))) gS)))) (lx (kU 4 (gC (.str "tie"))) (lx (oD (gB (g_ (dIn Ta) (gR 3) (g_ dIx (gR 0) (gC (.int 1))))) (kU 4 (iP oE (gN (hZ 3 mh (gN (g_ dIx (gR 0) (gC (.int 0))) (gN (gLC ["_law_one"] [3] (gI kz (g_ dIx (gR 0) (gC (.int 1)))) (ggN 0) (gB (g_ mD (gR 0) (gR 1))) (gR 0)) (gN (gR 2) gS)))) gS))) ky) (kN (lX (gN (gC (.bl S_)) (gN (hZ 3 qc (gN (gR 0) (gN (gR 1) (gN (gR 2) gS)))) (gN (gR 4) gS))))))))))
abbrev DZ:List Str:=["_law_web_here","_law_a","_law_b","_law_tie","_law_rest"]
theorem Jc {x:Dt}(h1:okW x=S_)(h2:shW x=S_):jb [x]=My (.bl (kO x)):=by show(if okW x=S_/\shW x=S_ then My (Dt.bl (kO x)) else SY)=_;rw[ai ⟨h1,h2⟩]
theorem CG:Hg 3 DZ lz lC:=by
 intro ds d hl h;match ds,h with
 | [x,y,z],h =>
  by_cases hc:yr x y z=S_
  rotate_left
  ·exact absurd ((ak hc).symm.trans h) (λ e=>by cases e)
  have h:My (jT x y z)=My d:=(ai hc).symm.trans h;cases h;unfold yr at hc;rw[aL,aL]at hc;obtain⟨hx,hs,hc⟩:=hc;have c1:=Jc hx hs;rw[AV]at c1;refine⟨.rt (jT x y z),?_,rfl⟩;show lC [My x,My y,My z,SY,SY]=_;cases eW:dW x with
  | none =>
   rw[eW]at c1;have w0:xW x=.error "NoWeb":=by unfold xW;rw[eW]
   have t0:xT x=.error "NoWeb":=by unfold xT;rw[w0]
   have e:jT x y z=.lst [.str "web",.str "web",.str "web"]:=by rw[nS];unfold oA kP;rw[w0,t0];rfl
   rw[e];have rp:FI (.lst [.str "web"]) (.int 3)=My (.lst [.str "web",.str "web",.str "web"]):=rfl;have c1:jb [x]=My (.bl Ta):=c1;simp[lC,c1,rp]
  | some w =>
   rw[eW]at c1;have c1:jb [x]=My (.bl S_):=c1;obtain⟨rfl,g⟩:=pL eW;have w0:=IE g;have c2:jF [hG w]=My (.bl (decide (w.2.length+1=w.1))):=by show(dW (hG w)).map _=_;rw[lL g];rfl
   by_cases tr:w.2.length+1=w.1
   rotate_left
   ·rw[decide_eq_false tr]at c2
    have t0:xT (hG w)=.error "NoTree":=by unfold xT;rw[w0];exact ak tr
    have e:jT (hG w) y z=.lst [.bl Ta,.str "tree",.str "tree"]:=by
     have tX:oA (hG w)=.ok (.bl Ta):=by unfold oA;rw[w0];dsimp only;rw[decide_eq_false tr]
     rw[nS,tX];unfold kP;rw[t0];rfl
    rw[e];generalize hG w=ww at *;simp[lC,c1,c2]
   ·rw[decide_eq_true tr]at c2
    have t0:xT (hG w)=.ok w:=by unfold xT;rw[w0];exact ai tr
    rw[t0]at hc;obtain⟨a,ea⟩:∃ a,jD y=My a:=by
     cases e:jD y with
     | none=>rw[e]at hc;cases hc
     | some a=>exact⟨a,rfl⟩
    obtain⟨b,eb⟩:∃ b,jD z=My b:=by
     cases e:jD z with
     | none=>rw[ea,e]at hc;cases hc
     | some b=>exact⟨b,rfl⟩
    rw[ea,eb]at hc;have hc:a<w.1/\b<w.1:=by simpa using hc
    obtain⟨ha,hb⟩:=hc;rw[ju ea,ju eb]at *;have xa:=sC (w:=w) ha;have xb:=sC (w:=w) hb;have e:jT (hG w) (gO a) (gO b)=.lst [.bl S_,.tup ((wyL w.2 b a).map gO),sdX (mT w a b)]:=by
     have tX:oA (hG w)=.ok (.bl S_):=by unfold oA;rw[w0];dsimp only;rw[decide_eq_true tr]
     have pX:∀ k:Web->Nat->Nat->XD,kP (hG w) (gO a) (gO b) k=k w a b:=λ k=>by unfold kP;rw[t0];dsimp only;rw[xa];dsimp only;rw[xb]
     rw[nS,tX,pX,pX];rfl
    rw[e];have wy:qc [hG w,gO a,gO b]=My (.tup ((wyL w.2 b a).map gO)):=by show(dT (hG w)).bind (λ w=>(jD (gO a)).bind λ a=>(jD (gO b)).bind λ b=>if a<w.1/\b<w.1 then My (Dt.tup ((wyL w.2 b a).map gO)) else SY)=_;rw[HX g tr,iQ,iQ,aq,aq,aq,ai ⟨ha,hb⟩]
    have mi:xl [gO a,gO b]=My (gO (min a b)):=by show My (Dt.int (if (b:Int)<(a:Int) then (b:Int) else (a:Int)))=My (Dt.int ((min a b:Nat):Int));congr 2;split<;>lia
    have ma:xm [gO a,gO b]=My (gO (max a b)):=by show My (Dt.int (if (b:Int)>(a:Int) then (b:Int) else (a:Int)))=My (Dt.int ((max a b:Nat):Int));congr 2;split<;>lia
    have tp:Dt.tup [gO (min a b),gO (max a b)]=gX (jm a b):=rfl;have ii:=L4 Ta (jm a b) w.2;rw[ak aw]at ii;have ix0:dIx (hG w) (.int 0)=My (gO w.1):=rfl;have ix1:dIx (hG w) (.int 1)=My (ip w.2):=rfl;have h8:=g.oh;have hl:=g.len;have it:kz (ip w.2)=My (w.2.map gX):=rfl;have lc:=jy (enc:=gX) (gg:=ggN 0) (gt:=gB (g_ mD (gR 0) (gR 1))) (ge:=gR 0) (δc:=[SY,My (gX (jm a b))]) (δa:=λ s=>[My (gX s),My (gX (jm a b))]) (p:=λ s=>s != jm a b) (enc':=gX) w.2 λ t _=>⟨rfl,by
     have:mD (gX t) (gX (jm a b))=My (.bl (t != jm a b)):=by show(if sh3 (gX t) (gX (jm a b))=S_ then My (Dt.bl (!dEq (gX t) (gX (jm a b)))) else SY)=_;rw[ai (show sh3 (gX t) (gX (jm a b))=S_ from rfl),tS];rfl
     generalize gX (jm a b)=pt,gX t=pa at *;simp[this],λ _=>rfl⟩
    have lc:si (ggN 0) (gB (g_ mD (gR 0) (gR 1))) (gR 0) [SY,My (gX (jm a b))] (w.2.map gX)=My ((cut w.2 a b).map gX):=lc;have okc:∀ t∈cut w.2 a b,t.1<t.2/\t.2<w.1:=λ t ht=>g.ok t (aS.mp ht).1;have lec:=bZ (λ t=>t != jm a b) w.2;have lec:(cut w.2 a b).length<=w.2.length:=lec;have mt:mh [gO w.1,.lst ((cut w.2 a b).map gX),gO b]=My (.lst ((sk (bfs (cut w.2 a b) b)).map gO)):=by show(jD (gO w.1)).bind (λ n=>(dTs (.lst ((cut w.2 a b).map gX))).bind λ l=>(jD (gO b)).bind λ p=>if (n<=8/\p<n)/\(l.length<=1000/\∀ t∈l,t.1<t.2/\t.2<n) then My (Dt.lst ((srt ((m9 l n p).map λ(k:Nat)=>(k:Int))).map .int)) else SY)=_;have e2:dTs (.lst ((cut w.2 a b).map gX))=My (cut w.2 a b):=oW _;rw[iQ,e2,iQ,aq,aq,aq,ai ⟨⟨h8,hb⟩,by lia,okc⟩,N6 okc hb,aP];rfl
    have tu:oE [.lst ((sk (bfs (cut w.2 a b) b)).map gO)]=My (.tup ((sk (bfs (cut w.2 a b) b)).map gO)):=rfl;have n1:(w.2.map gX).length<=1000:=by rw[af];lia
    have mem:jm a b∈w.2↔b∈nb w.2 a:=g.AL.symm;unfold mT;by_cases c:b∈nb w.2 a
    ·rw[ai c];rw[decide_eq_true (mem.mpr c)]at ii;show _=My (RD.rt (.lst [.bl S_,.tup ((wyL w.2 b a).map gO),.tup ((sk (bfs (cut w.2 a b) b)).map gO)]));generalize gX (jm a b)=pt,gO (max a b)=x2,gO (min a b)=x1,gO b=nb,gO a=na,gO w.1=nn,hG w=ww,ip w.2=tt,w.2.map gX=r5,(cut w.2 a b).map gX=r4,Dt.tup ((wyL w.2 b a).map gO)=r3,Dt.lst ((sk (bfs (cut w.2 a b) b)).map gO)=r2,Dt.tup ((sk (bfs (cut w.2 a b) b)).map gO)=r1 at *;simp[lC,c1,c2,mi,ma,tp,ii,ix0,ix1,it,n1,lc,mt,tu,wy]
    ·rw[ak c];rw[decide_eq_false λ z=>c (mem.mp z)]at ii;show _=My (RD.rt (.lst [.bl S_,.tup ((wyL w.2 b a).map gO),.str "tie"]));generalize gX (jm a b)=pt,gO (max a b)=x2,gO (min a b)=x1,gO b=nb,gO a=na,hG w=ww,ip w.2=tt,Dt.tup ((wyL w.2 b a).map gO)=r3 at *;simp[lC,c1,c2,mi,ma,tp,ii,ix1,wy]
end L2
namespace K02
open PySem PySem.Spec PyProof.Rows L2 Zp
section
variable {P:Program}{w:World}{K:gG}{mg:gD}{base:Heap}
theorem CH {H:Hp}(f:Nat->Nat):∀ l:List Nat,Iss K H (l.map λ i=>iV (f i)) (l.map λ i=>gO (f i))
 | []=>.nil
 | _::r=>.cons (.int _) (CH f r)
theorem CI (T:Txt K mg):OkT P w base T.sG 2 (spD K 2 sL):=by
 refine T.sG.F.ok vz (λ vs H Q E h=>?_) (λ cdv A outer s H vs Q E hr h=>?_)
 ·obtain⟨ds,d,hl,is,_⟩:=h;rw[is.length,hl];rfl
 ·obtain⟨ds,d,hl,is,e,q⟩:=h
  obtain⟨x,y,rfl,e⟩:=oQ e;obtain⟨ww,e1,e⟩:=gP e;obtain⟨b,e2,e⟩:=gP e;by_cases hc:b<ww.1
  rotate_left
  ·rw[ak hc]at e;cases e
  rw[ai hc]at e;cases e;obtain⟨rfl,hg⟩:=pL e1;obtain⟨v,v2,rfl,i0,i2⟩:=is.two;rw[ju e2]at i2;have hv2:=i2.int_inv;subst hv2;refine⟨Qm K,gZ (iI (i:=2) vz.nd rfl (Or.inl rfl) (jC GR (jV (gQ zW g9)) (lD rY (pv 0) hJ (λ _ _=>rfl))))
   (gZ (zY hJ (CQ (pv 2) (pv 1) set_list))
   (gZ (nB bB rfl (lZ rfl T.kS (gQ (lD rY (pv 0) hJ (λ _ _=>rfl)) g9)) (pgo 3)
    (iK (nB bB rfl (lZ rfl T.kS (gQ (lD rY (pv 0) hJ (λ _ _=>rfl)) g9)) (pgo 4)
     (iK (sQ (jg Qg (kq (dv 2) (dv 4)) (dv 3))
      (iK (nB bB rfl (vW (dC T.mL (qa T) hr (gM (dv 0) (gM (dv 4) gT)))) (pgo 5)
       (iK (zY (Q9 (jg Qf (kq (dv 2) (dv 5)) O8) (jQ rP (dv 3) hW) (kq (dv 2) (dv 5))) (CQ (pv 2) (pv 5) set_list))))) nU)))))
   (iK (lu (pv 2))))),?_⟩
  exact hg.Qn hc (λ i hi=>hg.EV hc i hi) i0 λ l H' s' _ hl=>q _ H' s' (.lst hl (CH _ _))
theorem CJ (T:Txt K mg):OkT P w base T.sH 3 (spD K 3 qc):=T.sH.okD (g:=qd) ox (λ _ _ _ _ _ _ hr=>(iJ (jS (i:=3) ox.nd (dC T.sG (CI T) hr (gM (dv 0) (gM (dv 2) gT)))) (iJ (jS (i:=4) ox.nd (ja (gM (dv 1) gT))) (iJ (IZ 9 bB (jg (xk (hV hr)) (kq (dv 4) (BQ hW)) (dv 2)) (iq (jS (i:=4) ox.nd (jQ kG (dv 4) (mC tG T.kR boot_tuple (gM (Ax rfl (csc ["_law_one"] ["_law_far_here","_law_found"] [3,4]) (md (dC T.mL (qa T) hr (gM (dv 0) (gM (kq (dv 4) (BQ hW)) gT)))) (λ _ _ _ _=>(pgo 0)) jI ku (λ _ _ _ _=>(qE (jg FE (kq (dv 1) (dv 0)) (kq (dv 1) (kq (dv 2) (BQ hW)))))) (λ _ _ _ _=>(dv 0))) gT)))))) (iq (iY (dv 4))))))) CF
theorem vC (T:Txt K mg):OkT P w base T.pY 4 (spD K 3 lz):=T.pY.okD (g:=lC) oy (λ _ _ _ _ _ _ hr=>(iJ (mQ (jW (kD (dC T.mv (qW T) hr (gM (dv 0) gT)))) (iq (iY (jQ LX (mz (gM nY gT)) hW))) jh) (iJ (mQ (jW (kD (dC T.lT (qk T) hr (gM (dv 0) gT)))) (iq (iY (mz (gM se (gM nY (gM nY gT)))))) jh) (iJ (jS (i:=3) oy.nd (ja (gM (iG (Dw rfl) T.Cw boot_min (gM (dv 1) (gM (dv 2) gT))) (gM (iG (Dx rfl) T.Cy boot_max (gM (dv 1) (gM (dv 2) gT))) gT)))) (iJ (jS (i:=4) oy.nd nY) (iJ (mQ (jg (Ka (hV hr)) (dv 3) (kq (dv 0) hW)) (iq (jS (i:=4) oy.nd (mC tG T.kR boot_tuple (gM (dC T.pW (vA T) hr (gM (kq (dv 0) hW) (gM (Ax rfl (csc ["_law_one"] ["_law_tie"] [3]) (md (kq (dv 0) hW)) (λ _ _ _ _=>(pgo 0)) jI ku (λ _ _ _ _=>(qE (jg (xk (hV hr)) (dv 0) (dv 1)))) (λ _ _ _ _=>(dv 0))) (gM (dv 2) gT)))) gT)))) jh) (iq (iY (mz (gM se (gM (dC T.sH (CJ T) hr (gM (dv 0) (gM (dv 1) (gM (dv 2) gT)))) (gM (dv 4) gT)))))))))))) CG
end
theorem D0 (n:Int){m:Nat}(h:0<m):∃ d:Nat,n % (m:Int)=d/\d<m:=⟨(n % (m:Int)).toNat,by have:=cn n (show(m:Int)≠0 by lia);lia,by have:=cL n (show(0:Int)<m by lia);have:=cn n (show(m:Int)≠0 by lia);lia⟩
section
variable {P:Program}{w:World}{K:gG}{mg:gD}{base:Heap}
def Ob (K:gG):Sp:=λ vs H Q _=>∃ (p:Addr) (n:Int) (v:V) (ww:Web),vs=[.ref p,v]/\Good ww/\Is K H v (hG ww)/\H p=My (.lst [.int n]) /\
 ∀ (u:V) (d:Dt) (n':Int) (H':Hp),nK ww.1 d=Ta->kdB d=S_->Is K (hdP H' p) u d->H' p=My (.lst [.int n'])->But p H H'->Q u H'
def tNo (K:gG):TS:=zX (tOp (pz K) (qu (g0 (tOp (JF K) (hX 1) (tC (V.int 0))) (g0 (tUn (rU λ i=>V.int (-i)) (tC (V.int 1))) (g0 (tC (V.bl S_)) (g0 (tC (V.bl Ta)) (g0 (tC V.non) (g0 (tC (V.str "0")) (g0 (yz (g0 (tC (V.int 0)) iL)) (g0 (qu (g0 (tC (V.int 1)) iL)) (g0 (tC (V.int 8)) (g0 (tOp (rI MB λ i j=>V.int (i ^ j.toNat)) (tC (V.int 10)) (tC (V.int 29))) iL))))))))))) (jr jZ [] E0 (g0 (hX 0) (g0 (tC (V.int 10)) iL))))
theorem Qq (T:Txt K mg)(cdv:gH)(A:Around)(outer:List Env)(s:gJ)(H:Hp)(E:XK)(hr:jt 1 (A.deeper (envOfC "_law_no_place" (gW kg) s.heap.objs.size T.kh.f cdv))):PSs (qo CX0 P w K mg base ["_law_pot_here","_law_web_here"] "_law_no_place" (gW kg) T.kh.f cdv A outer s H E).nox (iW kg) (tNo K) :=
 iK (lu (lD kr (jV (gQ (lD rY (pv 1) hJ (λ _ _=>rfl)) (gQ (D7 z_ hJ) (gQ Bk (gQ Bk (gQ zW (gQ CO (gQ (qv (gQ hJ g9 stC)) (gQ (jV (gQ hJ g9 stC)) (gQ hJ (gQ (jC z3 hJ hJ) g9 stB) stC) stL) stT) stC) stC) stC) stC) stU) stX)) (pC T.iH (jN T) hr (gQ (pv 0) (gQ hJ g9))) (λ _ _=>rfl)))
end
theorem stV {x:Str}{p:Pos}{es:List Expr}{env:Env}:starEach (.Name x p::es) env=(Ta,eval (.Name x p) env)::starEach es env:=rfl
section
variable {P:Program}{w:World}{K:gG}{mg:gD}{base:Heap}
def Qr (K:gG):TE:=tOp (pz K) (qu (g0 (tC (V.int 8)) (g0 (hX 2) (g0 (tUn (rU λ i=>V.int (-i)) (tC (V.int 1))) (g0 (tC (V.bl S_)) (g0 (tC (V.bl Ta)) (g0 (tC V.non) (g0 (tC (V.str "1")) (g0 (yz (g0 (tC (V.int 1)) iL)) (g0 (tOp (rI MB λ i j=>V.int (i ^ j.toNat)) (tC (V.int 10)) (tC (V.int 29))) (g0 (tC (V.int 0)) iL))))))))))) (jr jZ [] E0 (g0 (hX 0) (g0 (tC (V.int 10)) iL)))
def Oc (K:gG):TS:=j_ (Qr K) (iA 6)
theorem Od (T:Txt K mg)(cdv:gH)(A:Around)(outer:List Env)(s:gJ)(H:Hp)(E:XK)(hr:jt 1 (A.deeper (envOfC "_law_bent" (gW h_) s.heap.objs.size T.iR.f cdv))):∀ st,(iW h_)[3]?=My st->PS (qo CX0 P w K mg base ["_law_pot_here","_law_web_here","_law_many","_law_ties","_law_at","_law_which","_law_odd","_law_one","_law_other","_law_tie","_law_bent_here","_law_some"] "_law_bent" (gW h_) T.iR.f cdv A outer s H E).nox st (Oc K):=by intro st h;obtain rfl:=ao h;exact(iI (i:=6) iM.nd rfl (Or.inl rfl) (lD kr (jV (gQ hJ (gQ (pv 2) (gQ (D7 z_ hJ) (gQ Bk (gQ Bk (gQ zW (gQ CO (gQ (qv (gQ hJ g9 stC)) (gQ (jC z3 hJ hJ) (gQ hJ g9 stC) stB) stT) stC) stC) stC) stC) stU) stV) stC)) (pC T.iH (jN T) hr (gQ (pv 0) (gQ hJ g9))) (λ _ _=>rfl)))
end
section
variable {P:Program}{w:World}{K:gG}{mg:gD}{base:Heap}
theorem CK (T:Txt K mg):OkT P w base T.kh 2 (Ob K):=by
 refine T.kh.F.ok uY (λ vs H Q E h=>?_) (λ cdv A outer s H vs Q E hr h=>?_)
 ·obtain⟨p,n,v,ww,rfl,_⟩:=h;rfl
 ·obtain⟨p,n,v,ww,rfl,hg,iw,hp,q⟩:=h
  refine⟨tNo K,Qq T cdv A outer s H E hr,?_⟩;have w2:=hg.two;have w8:=hg.oh;obtain⟨r,xs,rfl,hr3,is3⟩:=iw.ik;obtain⟨v0,v1,rfl,j0,j1⟩:=is3.two;have hv0:=j0.int_inv;subst hv0;refine⟨_,rfl,r,_,_,.int ww.1,rfl,rfl,hr3,rfl,1,rfl,by show 1<=sizeLine;decide,λ q1 h1=>⟨by show 1<=sizeLine;decide,λ q2 h2=>?_⟩⟩;refine⟨10,29,rfl,rfl,⟨by decide,by decide,by decide⟩,by show 10<=sizeLine;decide,λ q3 h3=>?_⟩;have np1:q1≠p:=λ z=>by subst z;rw[hp]at h1;cases h1
  have hp1:upd H q1 (.tup [.int 0]) p=My (.lst [.int n]):=by rw[g6 (bu np1)];exact hp
  have b1:But p H (upd H q1 (.tup [.int 0])):=(But.refl p H).new h1;have t1:upd H q1 (.tup [.int 0]) q1=My (.tup [.int 0]):=gU;generalize upd H q1 (.tup [.int 0])=H1 at *;have np2:q2≠p:=λ z=>by subst z;rw[hp1]at h2;cases h2
  have s12:gY H1 (upd H1 q2 (.lst [.int 1])):=gY.upd h2;have b2:But p H (upd H1 q2 (.lst [.int 1])):=b1.new (b1.none h2 np2);have hp2:=s12 _ _ hp1;have t2:=s12 _ _ t1;have l2:upd H1 q2 (.lst [.int 1]) q2=My (.lst [.int 1]):=gU;generalize upd H1 q2 (.lst [.int 1])=H2 at *;have np3:q3≠p:=λ z=>by subst z;rw[hp2]at h3;cases h3
  generalize hvs:[V.int ww.1,.int (-1),.bl S_,.bl Ta,.non,.str "0",.ref q1,.ref q2,.int 8,.int (10 ^ Int.toNat 29)]=vs;have s23:gY H2 (upd H2 q3 (.lst vs)):=gY.upd h3;have b3:But p H (upd H2 q3 (.lst vs)):=b2.new (b2.none h3 np3);have hp3:=s23 _ _ hp2;have t3:=s23 _ _ t2;have l3:=s23 _ _ l2;have m3:upd H2 q3 (.lst vs) q3=My (.lst vs):=gU;show jr jZ [] E0 (g0 (hX 0) (g0 (tC (V.int 10)) iL)) _ (upd H2 q3 (.lst vs)) _;generalize upd H2 q3 (.lst vs)=H3 at *;refine⟨_,rfl,p,n,10,rfl,hp3,by decide,by decide,?_⟩;obtain⟨j,hj,jl⟩:=D0 n (show 0<10 by decide);have hj:n % 10=(j:Int):=hj;rw[hj];have hp4:upd H3 p (.lst [.int (n / 10)]) p=My (.lst [.int (n / 10)]):=gU;have b4:But p H (upd H3 p (.lst [.int (n / 10)])):=b3.ur;have t4:hdP (upd H3 p (.lst [.int (n / 10)])) p q1=My (.tup [.int 0]):=by rw[qb np1,g6 np1];exact t3
  have l4:hdP (upd H3 p (.lst [.int (n / 10)])) p q2=My (.lst [.int 1]):=by rw[qb np2,g6 np2];exact l3
  have m4:upd H3 p (.lst [.int (n / 10)]) q3=My (.lst vs):=by rw[g6 np3];exact m3
  generalize upd H3 p (.lst [.int (n / 10)])=H4 at *;have fin:∀ (u:V) (d:Dt),vs[j]?=My u->nK ww.1 d=Ta->kdB d=S_->Is K (hdP H4 p) u d->pz K (.ref q3) (.int j) H4 Q:=λ u d e1 e2 e3 e4 =>⟨q3,vs,j,u,rfl,rfl,SqL.of m4,lh e1,q u d _ H4 e2 e3 e4 hp4 b4⟩
  have pl:∀ i:Int,¬ (0<=i/\i<(ww.1:Int))->nK ww.1 (.int i)=Ta:=λ i h=>decide_eq_false h;have big:(10:Int) ^ Int.toNat 29=100000000000000000000000000000:=by decide +kernel
  show pz K (.ref q3) (.int j) H4 Q;have cs:j=0\/j=1\/j=2\/j=3\/j=4\/j=5\/j=6\/j=7\/j=8\/j=9:=by lia
  rcases cs with rfl | rfl | rfl | rfl | rfl | rfl | rfl | rfl | rfl | rfl
  ·exact fin _ (.int ww.1) (by rw[<-hvs];rfl) (pl _ (by lia)) rfl (.int _)
  ·exact fin _ (.int (-1)) (by rw[<-hvs];rfl) (pl _ (by lia)) rfl (.int _)
  ·exact fin _ (.bl S_) (by rw[<-hvs];rfl) rfl rfl (.bl _)
  ·exact fin _ (.bl Ta) (by rw[<-hvs];rfl) rfl rfl (.bl _)
  ·exact fin _ .non (by rw[<-hvs];rfl) rfl rfl .non
  ·exact fin _ (.str "0") (by rw[<-hvs];rfl) rfl rfl (.str _)
  ·exact fin _ (.tup [.int 0]) (by rw[<-hvs];rfl) rfl rfl (.tup (SqT.of t4) (.cons (.int _) .nil))
  ·exact fin _ (.lst [.int 1]) (by rw[<-hvs];rfl) rfl rfl (.lst l4 (.cons (.int _) .nil))
  ·exact fin _ (.int 8) (by rw[<-hvs];rfl) (pl _ (by lia)) rfl (.int _)
  ·exact fin _ (.int 100000000000000000000000000000) (by rw[<-hvs,big];rfl) (pl _ (by lia)) rfl (.int _)
end
end K02
namespace L2
open PySem PySem.Spec PyProof.Rows Zp Qs
def bt6:DE->gF RD:=(kU 9 (g_ dIx (gR 3) (gR 4)))
def bt7:DE->gF RD:=(kU 10 (iZ (gN (g_ kA (g_ kA (g_ dTk (gR 9) (gR 5)) (iZ (gN (gR 6) gS))) (g_ dDp (gR 9) (g_ (dI (·+·)) (gR 5) (gC (.int 1))))) gS)))
def bt8:DE->gF RD:=(kU 11 (lX (gN (iZ (gN (gR 2) (gN (g_ kA (g_ kA (g_ dTk (gR 3) (gR 4)) (gR 10)) (g_ dDp (gR 3) (g_ (dI (·+·)) (gR 4) (gC (.int 1))))) gS))) (gN (iZ (gN (gR 2) (gN (g_ kA (g_ dTk (gR 3) (gR 4)) (g_ dDp (gR 3) (g_ (dI (·+·)) (gR 4) (gC (.int 1))))) gS))) gS))))
def bt9:DE->gF RD:=(kU 11 (g_ rM (gR 11) (lX (gN (iZ (gN (gR 2) (gN (iP pK (gN (gR 3) gS)) gS))) (gN (lX (gN (gR 2) (gN (gR 3) gS))) gS)))))
def La:DE->gF RD:=(kU 11 (g_ rM (gR 11) (lX (gN (iZ (gN (gR 2) (gN (g_ kA (g_ kA (g_ dTk (gR 3) (gR 4)) (iZ (gN (iP pK (gN (gR 9) gS)) gS))) (g_ dDp (gR 3) (g_ (dI (·+·)) (gR 4) (gC (.int 1))))) gS))) (gN (iZ (gN (gR 2) (gN (g_ kA (g_ kA (g_ dTk (gR 3) (gR 4)) (iZ (gN (gUn Iu (gR 9)) gS))) (g_ dDp (gR 3) (g_ (dI (·+·)) (gR 4) (gC (.int 1))))) gS))) gS)))))
def Lb:DE->gF RD:=(kU 11 (g_ rM (gR 11) (lX (gN (iZ (gN (gR 2) (gN (g_ kA (g_ dTk (gR 3) (g_ (dI (·+·)) (gR 4) (gC (.int 1)))) (g_ dDp (gR 3) (gR 4))) gS))) (gN (iZ (gN (gR 2) (gN (gUn Iu (gR 3)) gS))) (gN (iZ (gN (g_ (dI (·+·)) (gR 2) (gC (.int 1))) (gN (gR 3) gS))) gS))))))
def Lc:DE->gF RD:=(kU 11 (g_ rM (gR 11) (lX (gN (iZ (gN (g_ (dI (·-·)) (gR 2) (gC (.int 1))) (gN (gR 3) gS))) (gN (iZ (gN (gR 6) (gN (gR 3) gS))) gS)))))
def Ld:DE->gF RD:=(kU 11 (g_ rM (gR 11) (lX (gN (iZ (gN (gR 2) (gN (iP oE (gN (iP xu (gN (g_ kA (gR 3) (iZ (gN (iZ (gN (gR 7) (gN (gR 8) gS))) gS))) gS)) gS)) gS))) (gN (iZ (gN (gR 2) (gN (gR 3) (gN (iZ gS) gS)))) (gN (iZ (gN (gR 2) gS)) (gN (gR 3) (gN (gR 2) (gN (gR 6) (gN (iZ gS) gS))))))))))
def Le:DE->gF RD:=(kU 11 (g_ rM (gR 11) (lX (gN (iZ (gN (gR 2) (gN (g_ kA (g_ kA (g_ dTk (gR 3) (gR 4)) (iZ (gN (g_ kA (gR 9) (iZ (gN (gC (.int 0)) gS))) gS))) (g_ dDp (gR 3) (g_ (dI (·+·)) (gR 4) (gC (.int 1))))) gS))) (gN (iZ (gN (gR 2) (gN (g_ kA (g_ kA (g_ dTk (gR 3) (gR 4)) (iZ (gN (g_ dTk (gR 9) (gC (.int 1))) gS))) (g_ dDp (gR 3) (g_ (dI (·+·)) (gR 4) (gC (.int 1))))) gS))) gS)))))
theorem CL (ds:List Dt)(k:Nat):dTk (.tup ds) (gO k)=My (.tup (ds.take k)):=by show(if 0<=(k:Int) then My (Dt.tup (ds.take (k:Int).toNat)) else SY)=_;rw[ai (by lia),bV]
theorem CM (ds:List Dt)(k:Nat):dDp (.tup ds) (gO k)=My (.tup (ds.drop k)):=by show(if 0<=(k:Int) then My (Dt.tup (ds.drop (k:Int).toNat)) else SY)=_;rw[ai (by lia),bV]
theorem yt {a b:List Dt}(h:a.length+b.length<=1000):kA (.tup a) (.tup b)=My (.tup (a++b)):=by show(if a.length+b.length<=1000 then My (Dt.tup (a++b)) else SY)=_;rw[ai h]
theorem zS (k:Nat):dI (·+·) (gO k) (.int 1)=My (gO (k+1)):=by show My (Dt.int ((k:Int)+1))=My (Dt.int ((k+1:Nat):Int));rfl
theorem zT {a b:List Dt}(h:a.length+b.length<=1000):rM (.lst a) (.lst b)=My (.lst (a++b)):=by show(if a.length+b.length<=1000 then My (Dt.lst (a++b)) else SY)=_;rw[ai h]
abbrev itm (t:Nat×Nat):List Dt:=[gO t.1,gO t.2]
def sM (l:gK)(k:Nat)(x:List Dt):List Dt:=(l.map gX).take k++x++(l.map gX).drop (k+1)
def vU (t:Nat×Nat)(wh:Nat)(od:Dt):Dt:=.tup ((itm t).take wh++[od]++(itm t).drop (wh+1))
def L8 (n:Nat)(l:gK)(k wh:Nat)(t:Nat×Nat)(od:Dt):List Dt:=[.tup [gO n,.tup (sM l k [vU t wh od])],.tup [gO n,.tup ((l.map gX).take k++(l.map gX).drop (k+1))]]
def L9 (n:Nat)(l:gK):List Dt:=[.tup [gO n,.lst (l.map gX)],.lst [gO n,ip l]]
def L10 (n:Nat)(l:gK)(k:Nat)(t:Nat×Nat):List Dt:=[.tup [gO n,.tup (sM l k [.lst (itm t)])],.tup [gO n,.tup (sM l k [.tup (itm t).reverse])]]
def L11 (n:Nat)(l:gK)(k:Nat):List Dt:=[.tup [gO n,.tup ((l.map gX).take (k+1)++(l.map gX).drop k)],.tup [gO n,.tup (l.map gX).reverse],.tup [gO (n+1),ip l]]
def L12 (n:Nat)(l:gK)(od:Dt):List Dt:=[.tup [.int ((n:Int)-1),ip l],.tup [od,ip l]]
def L13 (n:Nat)(l:gK)(od:Dt)(o:Nat×Nat):List Dt:=[.tup [gO n,ip (vJ (l++[o]))],.tup [gO n,ip l,.tup []],.tup [gO n],ip l,gO n,od,.tup []]
def L14 (n:Nat)(l:gK)(k:Nat)(t:Nat×Nat):List Dt:=[.tup [gO n,.tup (sM l k [.tup (itm t++[.int 0])])],.tup [gO n,.tup (sM l k [.tup ((itm t).take 1)])]]
section
variable {n k wh:Nat}{l:gK}{t o:Nat×Nat}{od:Dt}(hk:l[k]?=My t)(hl:l.length<=30)(x0 x1:gF Dt)
include hk hl
theorem yu (x:List Dt)(hx:x.length<=3):kA (.tup ((l.map gX).take k)) (.tup x)=My (.tup ((l.map gX).take k++x))/\kA (.tup ((l.map gX).take k++x)) (.tup ((l.map gX).drop (k+1)))=My (.tup (sM l k x)):=by
 have h1:((l.map gX).take k).length<=30:=by rw[bR,af];lia
 have h2:((l.map gX).drop (k+1)).length<=30:=by rw[cz,af];lia
 exact⟨yt (by lia),yt (by rw[aH];lia)⟩
theorem Oe (x2 x5 x6 x7 x8 x9 x10 x11:gF Dt):bt6 [x0,x1,x2,My (ip l),My (gO k),x5,x6,x7,x8,x9,x10,x11]=My (.nx [x0,x1,x2,My (ip l),My (gO k),x5,x6,x7,x8,My (gX t),x10,x11]):=by
 have:dIx (ip l) (gO k)=My (gX t):=by show atI (l.map gX) (k:Int)=_;refine lh ?_;rw[aK,hk];rfl
 generalize gO k=nk,ip l=tt at *;simp[bt6,this]
theorem Oh (x2 x3 x4 x7 x8 x10 x11:gF Dt):bt7 [x0,x1,x2,x3,x4,My (gO wh),My od,x7,x8,My (gX t),x10,x11]=My (.nx [x0,x1,x2,x3,x4,My (gO wh),My od,x7,x8,My (gX t),My (.tup [vU t wh od]),x11]):=by
 have e:gX t=.tup (itm t):=rfl;have h1:((itm t).take wh).length<=2:=List.length_take_le' _ _;have h2:((itm t).drop (wh+1)).length<=2:=by rw[cz];exact Nat.sub_le _ _
 have a1:=CL (itm t) wh;have a2:=CM (itm t) (wh+1);have a3:=zS wh;have a4:=yt (a:=(itm t).take wh) (b:=[od]) (by simp only[aX];lia);have a5:=yt (a:=(itm t).take wh++[od]) (b:=(itm t).drop (wh+1)) (by rw[aH,aX];lia);rw[e];unfold vU;generalize gO wh=w0,gO (wh+1)=w1,Dt.tup (itm t)=r4,Dt.tup ((itm t).take wh)=r3,Dt.tup ((itm t).drop (wh+1))=r2,Dt.tup ((itm t).take wh++[od])=r1,Dt.tup ((itm t).take wh++[od]++(itm t).drop (wh+1))=r at *;simp[bt7,a1,a2,a3,a4,a5]
theorem Ol (x5 x6 x7 x8 x9 x11:gF Dt):bt8 [x0,x1,My (gO n),My (ip l),My (gO k),x5,x6,x7,x8,x9,My (.tup [vU t wh od]),x11]=My (.nx [x0,x1,My (gO n),My (ip l),My (gO k),x5,x6,x7,x8,x9,My (.tup [vU t wh od]),My (.lst (L8 n l k wh t od))]):=by have e:ip l=.tup (l.map gX):=rfl;have a1:=CL (l.map gX) k;have a2:=CM (l.map gX) (k+1);have a3:=zS k;obtain⟨m1,m2⟩:=yu hk hl [vU t wh od] (by simp);have m3:=yt (a:=(l.map gX).take k) (b:=(l.map gX).drop (k+1)) (by rw[bR,cz,af];lia);unfold L8;rw[e];generalize gO n=nn,gO k=k0,gO (k+1)=k1,Dt.tup [vU t wh od]=r6,Dt.tup (l.map gX)=r4,Dt.tup ((l.map gX).take k)=r3,Dt.tup ((l.map gX).drop (k+1))=r2,Dt.tup ((l.map gX).take k++[vU t wh od])=r1,Dt.tup ((l.map gX).take k++(l.map gX).drop (k+1))=r5,Dt.tup (sM l k [vU t wh od])=r at *;simp[bt8,a1,a2,a3,m1,m2,m3]
theorem Om {S:List Dt}(hS:S.length<=100)(x4 x5 x6 x7 x8 x9 x10:gF Dt):bt9 [x0,x1,My (gO n),My (ip l),x4,x5,x6,x7,x8,x9,x10,My (.lst S)]=My (.nx [x0,x1,My (gO n),My (ip l),x4,x5,x6,x7,x8,x9,x10,My (.lst (S++L9 n l))]):=by have lo:pK [ip l]=My (.lst (l.map gX)):=rfl;have c:=zT (a:=S) (b:=L9 n l) (by show S.length+2<=1000;lia);unfold L9 at *;generalize gO n=nn,ip l=tt,Dt.lst (l.map gX)=r at *;simp[bt9,lo,c]
theorem Lf {S:List Dt}(hS:S.length<=100)(x5 x6 x7 x8 x10:gF Dt):La [x0,x1,My (gO n),My (ip l),My (gO k),x5,x6,x7,x8,My (gX t),x10,My (.lst S)]=My (.nx [x0,x1,My (gO n),My (ip l),My (gO k),x5,x6,x7,x8,My (gX t),x10,My (.lst (S++L10 n l k t))]):=by have e:ip l=.tup (l.map gX):=rfl;have a1:=CL (l.map gX) k;have a2:=CM (l.map gX) (k+1);have a3:=zS k;have lo:pK [gX t]=My (.lst (itm t)):=rfl;have rv:Iu (gX t)=My (.tup (itm t).reverse):=rfl;obtain⟨m1,m2⟩:=yu hk hl [.lst (itm t)] (by simp);obtain⟨m3,m4⟩:=yu hk hl [.tup (itm t).reverse] (by simp);have c:=zT (a:=S) (b:=L10 n l k t) (by show S.length+2<=1000;lia);unfold L10 at *;rw[e];generalize gO n=nn,gO k=k0,gO (k+1)=k1,gX t=pt,Dt.tup (itm t).reverse=r6,Dt.lst (itm t)=r5,Dt.tup (l.map gX)=r4,Dt.tup ((l.map gX).take k)=r3,Dt.tup ((l.map gX).drop (k+1))=r2,Dt.tup ((l.map gX).take k++[.tup (itm t).reverse])=r7,Dt.tup ((l.map gX).take k++[.lst (itm t)])=r1,Dt.tup (sM l k [.tup (itm t).reverse])=r0,Dt.tup (sM l k [.lst (itm t)])=r at *;simp[La,gUn,a1,a2,a3,lo,rv,m1,m2,m3,m4,c]
end
section
variable {n k wh:Nat}{l:gK}{t o:Nat×Nat}{od:Dt}(hk:l[k]?=My t)(hl:l.length<=30)(x0 x1:gF Dt)
include hk hl
theorem Lg {S:List Dt}(hS:S.length<=100)(x5 x6 x7 x8 x9 x10:gF Dt):Lb [x0,x1,My (gO n),My (ip l),My (gO k),x5,x6,x7,x8,x9,x10,My (.lst S)]=My (.nx [x0,x1,My (gO n),My (ip l),My (gO k),x5,x6,x7,x8,x9,x10,My (.lst (S++L11 n l k))]):=by
 have e:ip l=.tup (l.map gX):=rfl;have a1:=CL (l.map gX) (k+1);have a2:=CM (l.map gX) k;have a3:=zS k;have a4:=zS n;have ne:l.map gX≠[]:=λ z=>by have:l=[]:=List.map_eq_nil_iff.mp z;subst this;cases hk
 have rv:Iu (.tup (l.map gX))=My (.tup (l.map gX).reverse):=by show(if l.map gX≠[] then My (Dt.tup (l.map gX).reverse) else SY)=_;rw[ai ne]
 have m3:=yt (a:=(l.map gX).take (k+1)) (b:=(l.map gX).drop k) (by rw[bR,cz,af];lia);have c:=zT (a:=S) (b:=L11 n l k) (by show S.length+3<=1000;lia);unfold L11 at *;rw[e]at *;generalize gO n=nn,gO k=k0,gO (n+1)=n1,gO (k+1)=k1,Dt.tup (l.map gX)=r5,Dt.tup ((l.map gX).drop k)=r4,Dt.tup ((l.map gX).take (k+1))=r3,Dt.tup (l.map gX).reverse=r2,Dt.tup ((l.map gX).take (k+1)++(l.map gX).drop k)=r1 at *;simp[Lb,gUn,a1,a2,a3,a4,rv,m3,c]
theorem Lh {S:List Dt}(hS:S.length<=100)(x4 x5 x7 x8 x9 x10:gF Dt):Lc [x0,x1,My (gO n),My (ip l),x4,x5,My od,x7,x8,x9,x10,My (.lst S)]=My (.nx [x0,x1,My (gO n),My (ip l),x4,x5,My od,x7,x8,x9,x10,My (.lst (S++L12 n l od))]):=by have a4:dI (·-·) (gO n) (.int 1)=My (.int ((n:Int)-1)):=rfl;have c:=zT (a:=S) (b:=L12 n l od) (by show S.length+2<=1000;lia);unfold L12 at *;generalize gO n=nn,ip l=tt,Dt.int ((n:Int)-1)=m at *;simp[Lc,a4,c]
theorem Li {S:List Dt}(hS:S.length<=100)(x4 x5 x9 x10:gF Dt):Ld [x0,x1,My (gO n),My (ip l),x4,x5,My od,My (gO o.1),My (gO o.2),x9,x10,My (.lst S)]=My (.nx [x0,x1,My (gO n),My (ip l),x4,x5,My od,My (gO o.1),My (gO o.2),x9,x10,My (.lst (S++L13 n l od o))]):=by
 have tp:Dt.tup [gO o.1,gO o.2]=gX o:=rfl;have e:ip l=.tup (l.map gX):=rfl;have m1:kA (ip l) (.tup [gX o])=My (ip (l++[o])):=by have:=yt (a:=l.map gX) (b:=[gX o]) (by rw[af,aX];lia);rw[e,this];show _=My (Dt.tup ((l++[o]).map gX));rw[aY];rfl
 have s1:xu [ip (l++[o])]=My (.lst ((vJ (l++[o])).map gX)):=by show(dTt (ip (l++[o]))).bind (λ l=>if l.length<64 then My (Dt.lst ((vJ l).map gX)) else SY)=_;rw[v_,aq,ai (by rw[aH,aX];lia)]
 have tu:oE [.lst ((vJ (l++[o])).map gX)]=My (ip (vJ (l++[o]))):=rfl;have c:=zT (a:=S) (b:=L13 n l od o) (by show S.length+7<=1000;lia);unfold L13 at *;generalize ip (l++[o])=r3,Dt.lst ((vJ (l++[o])).map gX)=r2,ip (vJ (l++[o]))=r1 at *;clear e;generalize gO n=nn,gO o.2=o2,gO o.1=o1,gX o=po,ip l=tt at *;simp[Ld,tp,m1,s1,tu,c]
theorem Lj {S:List Dt}(hS:S.length<=100)(x5 x6 x7 x8 x10:gF Dt):Le [x0,x1,My (gO n),My (ip l),My (gO k),x5,x6,x7,x8,My (gX t),x10,My (.lst S)]=My (.nx [x0,x1,My (gO n),My (ip l),My (gO k),x5,x6,x7,x8,My (gX t),x10,My (.lst (S++L14 n l k t))]):=by have e:ip l=.tup (l.map gX):=rfl;have a1:=CL (l.map gX) k;have a2:=CM (l.map gX) (k+1);have a3:=zS k;have a5:dTk (gX t) (.int 1)=My (.tup ((itm t).take 1)):=rfl;have a6:kA (gX t) (.tup [.int 0])=My (.tup (itm t++[.int 0])):=rfl;obtain⟨m1,m2⟩:=yu hk hl [.tup (itm t++[.int 0])] (by simp);obtain⟨m3,m4⟩:=yu hk hl [.tup ((itm t).take 1)] (by simp);have c:=zT (a:=S) (b:=L14 n l k t) (by show S.length+2<=1000;lia);unfold L14 at *;rw[e];generalize gO n=nn,gO k=k0,gO (k+1)=k1,gX t=pt,Dt.tup ((itm t).take 1)=r6,Dt.tup (itm t++[.int 0])=r5,Dt.tup (l.map gX)=r4,Dt.tup ((l.map gX).take k)=r3,Dt.tup ((l.map gX).drop (k+1))=r2,Dt.tup ((l.map gX).take k++[.tup ((itm t).take 1)])=r7,Dt.tup ((l.map gX).take k++[.tup (itm t++[.int 0])])=r1,Dt.tup (sM l k [.tup ((itm t).take 1)])=r0,Dt.tup (sM l k [.tup (itm t++[.int 0])])=r at *;simp[Le,a1,a2,a3,a5,a6,m1,m2,m3,m4,c]
def Jd (n:Nat)(l:gK)(k wh:Nat)(t:Nat×Nat)(od:Dt)(o:Nat×Nat):List Dt:=L8 n l k wh t od++L9 n l++L10 n l k t++L11 n l k++L12 n l od++L13 n l od o++L14 n l k t
end
def fit (d:Dt):Bool:=okW d&&(shW d&&jH d)
theorem rJ (a b:List Dt):iS (a++b)=(iS a&&iS b):=by
 induction a with
 | nil=>rw[List.nil_append,iS];rfl
 | cons d r ih=>rw[List.cons_append,iS,iS,ih,Bool.and_assoc]
theorem jK {a:List Dt}:iS a=S_↔∀ d∈a,jH d=S_:=by
 induction a with
 | nil=>simp[iS]
 | cons d r ih=>rw[iS,aL,ih];simp
theorem Oo (t:Nat×Nat):jH (gX t)=S_:=by simp[gX,gO,jH,iS]
theorem mO (i:Int):jH (.int i)=S_:=by simp[jH]
theorem lW {a:List Dt}(h:iS a=S_):jH (.tup a)=S_:=by rw[jH];exact h
theorem mw (l:gK):iS (l.map gX)=S_:=jK.mpr λ d hd=>by obtain⟨t,_,rfl⟩:=aA.mp hd;exact Oo t
theorem Je (l:gK):(l.map gX).all kT=S_:=by rw[bT];intro d hd;obtain⟨t,_,rfl⟩:=aA.mp hd;rfl
theorem wj {m:Dt}{ts:List Dt}(hm:kdB m=S_)(nm:jH m=S_)(hl:ts.length<=40)(hk:ts.all kT=S_)(hn:iS ts=S_):fit (.tup [m,.tup ts])=S_:=by
 unfold fit;have a:okW (.tup [m,.tup ts])=S_:=by show(kdB m&&(decide (ts.length<=1000)&&ts.all kT))=S_;rw[hm,hk,decide_eq_true (by lia)];rfl
 have b:shW (.tup [m,.tup ts])=S_:=decide_eq_true hl;rw[a,b,lW (by rw[iS,nm,iS,lW hn];rfl)];rfl
theorem Bd {p:Dt->Bool}{a b:List Dt}(h:b.all p=S_)(s:∀ d∈a,d∈b):a.all p=S_:=by rw[bT]at *;exact λ d hd=>h d (s d hd)
section
variable {n k wh:Nat}{l:gK}{t o:Nat×Nat}{od:Dt}(hl:l.length<=30)
include hl
theorem uu {x:List Dt}(hx:x.length<=3)(hk:x.all kT=S_)(hn:iS x=S_):fit (.tup [gO n,.tup (sM l k x)])=S_:=by
 have s1:∀ d∈(l.map gX).take k,d∈l.map gX:=λ d hd=>dJ hd;have s2:∀ d∈(l.map gX).drop (k+1),d∈l.map gX:=λ d hd=>d9 hd;have n1:iS ((l.map gX).take k)=S_:=jK.mpr λ d hd=>jK.mp (mw l) d (s1 d hd);have n2:iS ((l.map gX).drop (k+1))=S_:=jK.mpr λ d hd=>jK.mp (mw l) d (s2 d hd);refine wj rfl (mO _) ?_ ?_ ?_
 ·unfold sM;rw[aH,aH,bR,cz,af];lia
 ·unfold sM;rw[List.all_append,List.all_append,Bd (Je l) s1,hk,Bd (Je l) s2];rfl
 ·unfold sM;rw[rJ,rJ,n1,hn,n2];rfl
theorem zU {m:Dt}(hm:kdB m=S_)(nm:jH m=S_):fit (.tup [m,ip l])=S_:=wj hm nm (by rw[af];lia) (Je l) (mw l)
omit hl in
theorem Bf {ts:List Dt}(h40:ts.length<=40)(s:∀ d∈ts,d∈l.map gX):fit (.tup [gO n,.tup ts])=S_:=wj rfl (mO _) h40 (Bd (Je l) s) (jK.mpr λ d hd=>jK.mp (mw l) d (s d hd))
theorem Jf:fit (ip l)=S_:=by
 have nn:jH (ip l)=S_:=lW (mw l);unfold fit;rw[nn,dZ];match l with
 | []=>rfl
 | [a]=>rfl
 | [a,b]=>rfl
 | a::b::c::r =>have h1:okW (ip (a::b::c::r))=((a::b::c::r).map gX).all kdB:=rfl;have h2:shW (ip (a::b::c::r))=S_:=rfl;rw[h1,h2,dZ,bT];intro d hd;obtain⟨t,_,rfl⟩:=aA.mp hd;rfl
theorem Jg (h1:kdB od=S_)(h2:kT od=S_)(h3:fit od=S_)(hb:kT (vU t wh od)=S_):∀ d∈Jd n l k wh t od o,fit d=S_:=by
 have no:jH od=S_:=by unfold fit at h3;rw[aL,aL]at h3;exact h3.2.2
 have nb:jH (vU t wh od)=S_:=by
  have a:iS (itm t)=S_:=by simp[itm,gO,iS,jH]
  refine lW ?_;rw[rJ,rJ];have x1:iS ((itm t).take wh)=S_:=jK.mpr λ d hd=>jK.mp a d (dJ hd);have x2:iS ((itm t).drop (wh+1))=S_:=jK.mpr λ d hd=>jK.mp a d (d9 hd);rw[x1,x2,iS,no,iS];rfl
 intro d hd;unfold Jd L8 L9 L10 L11 L12 L13 L14 at hd;simp only[bh,aB,bw,or_false]at hd;rcases hd with (((((((rfl | rfl) | rfl | rfl) | rfl | rfl) | rfl | rfl | rfl) | rfl | rfl) | rfl | rfl | rfl | rfl | rfl | rfl | rfl) | rfl | rfl)
 ·exact uu hl (by simp) (by simp[hb]) (by simp[iS,nb])
 ·exact Bf (by rw[aH,bR,cz,af];lia) λ d hd=>(bh.mp hd).elim dJ d9
 ·have:jH (.lst (l.map gX))=S_:=by
   rw[jH,mw];match l with
   | []=>rfl
   | [a]=>rfl
   | a::b::r=>rfl
  show(S_&&(S_&&jH (.tup [gO n,.lst (l.map gX)])))=S_;rw[lW (by rw[iS,iS,this];rfl)];rfl
 ·have:jH (.lst [gO n,ip l])=S_:=by
   rw[jH,iS,iS,show jH (ip l)=S_ from lW (mw l)];rfl
  show(S_&&(S_&&jH (.lst [gO n,ip l])))=S_;rw[this];rfl
 ·exact uu hl (by simp) (by simp[kT,kdB,mR]) (by simp[iS,jH,N5,itm,gO])
 ·exact uu hl (by simp) (by simp[kT,kdB,mR,itm,gO]) (by simp[iS,jH,itm,gO])
 ·exact Bf (by rw[aH,bR,cz,af];lia) λ d hd=>(bh.mp hd).elim dJ d9
 ·exact Bf (by rw[en,af];lia) λ d hd=>List.mem_reverse.mp hd
 ·exact zU hl rfl (mO _)
 ·exact zU hl rfl (mO _)
 ·exact zU hl h1 no
 ·exact wj rfl (mO _) (by rw[af,(uT _).length_eq,aH,aX];lia) (Je _) (mw _)
 ·have nn:jH (ip l)=S_:=lW (mw l);show(S_&&(S_&&jH (.tup [gO n,ip l,.tup []])))=S_;rw[lW (by rw[iS,iS,nn,iS,iS,jH,iS];rfl)];rfl
 ·show(S_&&(S_&&jH (.tup [gO n])))=S_;simp[jH,iS,gO]
 ·exact Jf hl
 ·show(S_&&(S_&&jH (gO n)))=S_;simp[jH,gO]
 ·exact h3
 ·show(S_&&(S_&&jH (.tup [])))=S_;simp[jH,iS]
 ·exact uu hl (by simp) (by simp[kT,kdB,mR,itm,gO]) (by simp[iS,jH,itm,gO])
 ·exact uu hl (by simp) (by simp[kT,kdB,mR,itm,gO]) (by simp[iS,jH,itm,gO])
end
end L2
namespace K02
open PySem PySem.Spec PyProof.Rows L2 Zp
section
variable {P:Program}{w:World}{K:gG}{mg:gD}{base:Heap}
abbrev XB (P:Program)(w:World)(K:gG)(mg:gD)(base:Heap)(T:Txt K mg)(cdv:gH)(A:Around)(outer:List Env)(s:gJ)(H:Hp)(E:XK):Cx:=(qo CX0 P w K mg base ["_law_pot_here","_law_web_here","_law_many","_law_ties","_law_at","_law_which","_law_odd","_law_one","_law_other","_law_tie","_law_bent_here","_law_some"] "_law_bent" (gW h_) T.iR.f cdv A outer s H E).nox
theorem Qt (T:Txt K mg)(cdv:gH)(A:Around)(outer:List Env)(s:gJ)(H:Hp)(E:XK)(hr:jt 1 (A.deeper (envOfC "_law_bent" (gW h_) s.heap.objs.size T.iR.f cdv))):∀ st,(iW h_)[6]?=My st->PS (XB P w K mg base T cdv A outer s H E) st (tDS K bt6):=by intro st h;obtain rfl:=ao h;exact(jS (i:=9) iM.nd (kq (dv 3) (dv 4)))
theorem Qu (T:Txt K mg)(cdv:gH)(A:Around)(outer:List Env)(s:gJ)(H:Hp)(E:XK)(hr:jt 1 (A.deeper (envOfC "_law_bent" (gW h_) s.heap.objs.size T.iR.f cdv))):∀ st,(iW h_)[7]?=My st->PS (XB P w K mg base T cdv A outer s H E) st (tDS K bt7):=by intro st h;obtain rfl:=ao h;exact(jS (i:=10) iM.nd (ja (gM (jQ kG (jQ kG (m7 (dv 9) (dv 5)) (ja (gM (dv 6) gT))) (ou (dv 9) (jQ rP (dv 5) hW))) gT)))
theorem Qv (T:Txt K mg)(cdv:gH)(A:Around)(outer:List Env)(s:gJ)(H:Hp)(E:XK)(hr:jt 1 (A.deeper (envOfC "_law_bent" (gW h_) s.heap.objs.size T.iR.f cdv))):∀ st,(iW h_)[8]?=My st->PS (XB P w K mg base T cdv A outer s H E) st (tDS K bt8):=by intro st h;obtain rfl:=ao h;exact(jS (i:=11) iM.nd (mz (gM (ja (gM (dv 2) (gM (jQ kG (jQ kG (m7 (dv 3) (dv 4)) (dv 10)) (ou (dv 3) (jQ rP (dv 4) hW))) gT))) (gM (ja (gM (dv 2) (gM (jQ kG (m7 (dv 3) (dv 4)) (ou (dv 3) (jQ rP (dv 4) hW))) gT))) gT))))
theorem Qw (T:Txt K mg)(cdv:gH)(A:Around)(outer:List Env)(s:gJ)(H:Hp)(E:XK)(hr:jt 1 (A.deeper (envOfC "_law_bent" (gW h_) s.heap.objs.size T.iR.f cdv))):∀ st,(iW h_)[9]?=My st->PS (XB P w K mg base T cdv A outer s H E) st (tDS K bt9):=by intro st h;obtain rfl:=ao h;exact(jS (i:=11) iM.nd (jQ qg (dv 11) (mz (gM (ja (gM (dv 2) (gM (mC xq T.yk boot_list (gM (dv 3) gT)) gT))) (gM (mz (gM (dv 2) (gM (dv 3) gT))) gT)))))
theorem Oq (T:Txt K mg)(cdv:gH)(A:Around)(outer:List Env)(s:gJ)(H:Hp)(E:XK)(hr:jt 1 (A.deeper (envOfC "_law_bent" (gW h_) s.heap.objs.size T.iR.f cdv))):∀ st,(iW h_)[10]?=My st->PS (XB P w K mg base T cdv A outer s H E) st (tDS K La):=by intro st h;obtain rfl:=ao h;exact(jS (i:=11) iM.nd (jQ qg (dv 11) (mz (gM (ja (gM (dv 2) (gM (jQ kG (jQ kG (m7 (dv 3) (dv 4)) (ja (gM (mC xq T.yk boot_list (gM (dv 9) gT)) gT))) (ou (dv 3) (jQ rP (dv 4) hW))) gT))) (gM (ja (gM (dv 2) (gM (jQ kG (jQ kG (m7 (dv 3) (dv 4)) (ja (gM (L7 (dv 9)) gT))) (ou (dv 3) (jQ rP (dv 4) hW))) gT))) gT)))))
theorem Ot (T:Txt K mg)(cdv:gH)(A:Around)(outer:List Env)(s:gJ)(H:Hp)(E:XK)(hr:jt 1 (A.deeper (envOfC "_law_bent" (gW h_) s.heap.objs.size T.iR.f cdv))):∀ st,(iW h_)[11]?=My st->PS (XB P w K mg base T cdv A outer s H E) st (tDS K Lb):=by intro st h;obtain rfl:=ao h;exact(jS (i:=11) iM.nd (jQ qg (dv 11) (mz (gM (ja (gM (dv 2) (gM (jQ kG (m7 (dv 3) (jQ rP (dv 4) hW)) (ou (dv 3) (dv 4))) gT))) (gM (ja (gM (dv 2) (gM (L7 (dv 3)) gT))) (gM (ja (gM (jQ rP (dv 2) hW) (gM (dv 3) gT))) gT))))))
theorem Ou (T:Txt K mg)(cdv:gH)(A:Around)(outer:List Env)(s:gJ)(H:Hp)(E:XK)(hr:jt 1 (A.deeper (envOfC "_law_bent" (gW h_) s.heap.objs.size T.iR.f cdv))):∀ st,(iW h_)[12]?=My st->PS (XB P w K mg base T cdv A outer s H E) st (tDS K Lc):=by intro st h;obtain rfl:=ao h;exact(jS (i:=11) iM.nd (jQ qg (dv 11) (mz (gM (ja (gM (jQ Hu (dv 2) hW) (gM (dv 3) gT))) (gM (ja (gM (dv 6) (gM (dv 3) gT))) gT)))))
theorem Ov (T:Txt K mg)(cdv:gH)(A:Around)(outer:List Env)(s:gJ)(H:Hp)(E:XK)(hr:jt 1 (A.deeper (envOfC "_law_bent" (gW h_) s.heap.objs.size T.iR.f cdv))):∀ st,(iW h_)[13]?=My st->PS (XB P w K mg base T cdv A outer s H E) st (tDS K Ld):=by intro st h;obtain rfl:=ao h;exact(jS (i:=11) iM.nd (jQ qg (dv 11) (mz (gM (ja (gM (dv 2) (gM (mC tG T.kR boot_tuple (gM (iG (FQ rfl) T.o_ boot_sorted (gM (jQ kG (dv 3) (ja (gM (ja (gM (dv 7) (gM (dv 8) gT))) gT))) gT)) gT)) gT))) (gM (ja (gM (dv 2) (gM (dv 3) (gM (ja gT) gT)))) (gM (ja (gM (dv 2) gT)) (gM (dv 3) (gM (dv 2) (gM (dv 6) (gM (ja gT) gT))))))))))
theorem Ow (T:Txt K mg)(cdv:gH)(A:Around)(outer:List Env)(s:gJ)(H:Hp)(E:XK)(hr:jt 1 (A.deeper (envOfC "_law_bent" (gW h_) s.heap.objs.size T.iR.f cdv))):∀ st,(iW h_)[14]?=My st->PS (XB P w K mg base T cdv A outer s H E) st (tDS K Le):=by intro st h;obtain rfl:=ao h;exact(jS (i:=11) iM.nd (jQ qg (dv 11) (mz (gM (ja (gM (dv 2) (gM (jQ kG (jQ kG (m7 (dv 3) (dv 4)) (ja (gM (jQ kG (dv 9) (ja (gM hW gT))) gT))) (ou (dv 3) (jQ rP (dv 4) hW))) gT))) (gM (ja (gM (dv 2) (gM (jQ kG (jQ kG (m7 (dv 3) (dv 4)) (ja (gM (m7 (dv 9) hW) gT))) (ou (dv 3) (jQ rP (dv 4) hW))) gT))) gT)))))
end
end K02
namespace L2
open PySem PySem.Spec PyProof.Rows Zp Qs
section
variable {K:gG}{H:Hp}
theorem Sat.inv {σ:L2.St}{d:Dt}{δ:DE}(S:Sat K H σ (My d::δ)):∃ v σ',σ=My v::σ'/\Is K H v d/\Sat K H σ' δ:=by
 obtain⟨v,e,i⟩:=S.at_ 0 d rfl;cases σ with
 | nil=>cases e
 | cons x r=>cases e;exact⟨v,r,rfl,i,Nat.succ.inj S.len,λ j d hj=>S.at_ (j+1) d hj⟩
theorem Sat.pf {σ:L2.St}{δ:DE}(S:Sat K H σ (SY::δ)):∃ x σ',σ=x::σ'/\Sat K H σ' δ:=by
 cases σ with
 | nil=>cases S.len
 | cons x r=>exact⟨x,r,rfl,Nat.succ.inj S.len,λ j d hj=>S.at_ (j+1) d hj⟩
theorem Sat.RV {σ:L2.St}(S:Sat K H σ [SY,SY,SY,SY]):∃ x0 x1 x2 x3,σ=[x0,x1,x2,x3]:=by
 obtain⟨x0,r0,rfl,S0⟩:=S.pf;obtain⟨x1,r1,rfl,S1⟩:=S0.pf;obtain⟨x2,r2,rfl,S2⟩:=S1.pf;obtain⟨x3,r3,rfl,S3⟩:=S2.pf;have:=S3.len;cases r3 with
 | nil=>exact⟨_,_,_,_,rfl⟩
 | cons _ _=>cases this
end
end L2
namespace K02
open PySem PySem.Spec PyProof.Rows L2 Zp
section
variable {P:Program}{w:World}{K:gG}{mg:gD}{base:Heap}
theorem oB {H:Hp}{p:Addr}{o:HO}:hdP (upd H p o) p=hdP H p:=funext λ b=>by
 unfold hdP;by_cases c:b=p
 ·rw[ai c,ai c]
 ·rw[ak c,ak c,g6 c]
def Odd (od:Dt):Prop:=kdB od=S_/\kT od=S_/\fit od=S_/\∀ (t:Nat×Nat) (wh:Nat),wh<2->kT (vU t wh od)=S_
theorem uv (i:Int):Odd (.int i):=⟨rfl,rfl,by simp[fit,okW,shW,jH];rfl,λ t wh h=>by rcases (by lia:wh=0\/wh=1) with rfl | rfl<;>rfl⟩
theorem Jh (i:Bool):Odd (.bl i):=⟨rfl,rfl,by simp[fit,okW,shW,jH];rfl,λ t wh h=>by rcases (by lia:wh=0\/wh=1) with rfl | rfl<;>rfl⟩
theorem Lk:Odd .non:=⟨rfl,rfl,by simp[fit,okW,shW,jH];rfl,λ t wh h=>by rcases (by lia:wh=0\/wh=1) with rfl | rfl<;>rfl⟩
theorem Ll:Odd (.str "1"):=⟨rfl,rfl,by simp[fit,okW,shW,jH];rfl,λ t wh h=>by rcases (by lia:wh=0\/wh=1) with rfl | rfl<;>rfl⟩
theorem Lm:Odd (.tup [.int 1]):=⟨rfl,rfl,by simp[fit,okW,shW,jH,iS];rfl,λ t wh h=>by rcases (by lia:wh=0\/wh=1) with rfl | rfl<;>rfl⟩
theorem Ox {D:Ends}{σ:L2.St}{H:Hp}{p:Addr}{n nn:Int}(h0:σ[0]?=My (My (.ref p)))(h2:σ[2]?=My (My (.int nn)))(hp:H p=My (.lst [.int n]))
  (h:∀ (u:V) (od:Dt) (n':Int) (H':Hp),Odd od->Is K (hdP H' p) u od->H' p=My (.lst [.int n'])->But p H H'->D.nx (σ.set 6 (My u)) H'):Oc K D σ H:=by
 refine⟨_,h2,1,rfl,by show 1<=sizeLine;decide,λ q1 h1=>?_⟩;refine⟨10,29,rfl,rfl,⟨by decide,by decide,by decide⟩,by show 10<=sizeLine;decide,λ q3 h3=>?_⟩;have np1:q1≠p:=λ z=>by subst z;rw[hp]at h1;cases h1
 have hp1:upd H q1 (.tup [.int 1]) p=My (.lst [.int n]):=by rw[g6 (bu np1)];exact hp
 have b1:But p H (upd H q1 (.tup [.int 1])):=(But.refl p H).new h1;have t1:upd H q1 (.tup [.int 1]) q1=My (.tup [.int 1]):=gU;generalize upd H q1 (.tup [.int 1])=H1 at *;have np3:q3≠p:=λ z=>by subst z;rw[hp1]at h3;cases h3
 generalize hvs:[V.int 8,.int nn,.int (-1),.bl S_,.bl Ta,.non,.str "1",.ref q1,.int (10 ^ Int.toNat 29),.int 0]=vs;have s23:gY H1 (upd H1 q3 (.lst vs)):=gY.upd h3;have b3:But p H (upd H1 q3 (.lst vs)):=b1.new (b1.none h3 np3);have hp3:=s23 _ _ hp1;have t3:=s23 _ _ t1;have m3:upd H1 q3 (.lst vs) q3=My (.lst vs):=gU;show jr jZ [] E0 (g0 (hX 0) (g0 (tC (V.int 10)) iL)) _ (upd H1 q3 (.lst vs)) _;generalize upd H1 q3 (.lst vs)=H3 at *;refine⟨_,h0,p,n,10,rfl,hp3,by decide,by decide,?_⟩;obtain⟨j,hj,jl⟩:=D0 n (show 0<10 by decide);have hj:n % 10=(j:Int):=hj;rw[hj];have hp4:upd H3 p (.lst [.int (n / 10)]) p=My (.lst [.int (n / 10)]):=gU;have b4:But p H (upd H3 p (.lst [.int (n / 10)])):=b3.ur;have t4:hdP (upd H3 p (.lst [.int (n / 10)])) p q1=My (.tup [.int 1]):=by rw[qb np1,g6 np1];exact t3
 have m4:upd H3 p (.lst [.int (n / 10)]) q3=My (.lst vs):=by rw[g6 np3];exact m3
 generalize upd H3 p (.lst [.int (n / 10)])=H4 at *;have fin:∀ (u:V) (d:Dt),vs[j]?=My u->Odd d->Is K (hdP H4 p) u d->pz K (.ref q3) (.int j) H4 (λ v H'=>iA 6 v σ H' λ σ' H''=>D.nx σ' H''):=λ u d e1 e2 e4 =>⟨q3,vs,j,u,rfl,rfl,SqL.of m4,lh e1,h u d _ H4 e2 e4 hp4 b4⟩
 have big:(10:Int) ^ Int.toNat 29=100000000000000000000000000000:=by decide +kernel
 have cs:j=0\/j=1\/j=2\/j=3\/j=4\/j=5\/j=6\/j=7\/j=8\/j=9:=by lia
 rcases cs with rfl | rfl | rfl | rfl | rfl | rfl | rfl | rfl | rfl | rfl
 ·exact fin _ (.int 8) (by rw[<-hvs];rfl) (uv _) (.int _)
 ·exact fin _ (.int nn) (by rw[<-hvs];rfl) (uv _) (.int _)
 ·exact fin _ (.int (-1)) (by rw[<-hvs];rfl) (uv _) (.int _)
 ·exact fin _ (.bl S_) (by rw[<-hvs];rfl) (Jh _) (.bl _)
 ·exact fin _ (.bl Ta) (by rw[<-hvs];rfl) (Jh _) (.bl _)
 ·exact fin _ .non (by rw[<-hvs];rfl) Lk .non
 ·exact fin _ (.str "1") (by rw[<-hvs];rfl) Ll (.str _)
 ·exact fin _ (.tup [.int 1]) (by rw[<-hvs];rfl) Lm (.tup (SqT.of t4) (.cons (.int _) .nil))
 ·exact fin _ (.int 100000000000000000000000000000) (by rw[<-hvs,big];rfl) (uv _) (.int _)
 ·exact fin _ (.int 0) (by rw[<-hvs];rfl) (uv _) (.int _)
def D1 (K:gG):Sp:=λ vs H Q _=>∃ (p:Addr) (n:Int) (v:V) (ww:Web),vs=[.ref p,v]/\Good ww/\Is K H v (hG ww)/\H p=My (.lst [.int n]) /\
 ∀ (u:V) (d:Dt) (n':Int) (H':Hp),fit d=S_->Is K (hdP H' p) u d->H' p=My (.lst [.int n'])->But p H H'->Q u H'
def tDr (m:Int)(i:Nat):TS:=j_ (jr jZ [] E0 (g0 (hX 0) (g0 (tC (V.int m)) iL))) (iA i)
def tLn (K:gG):TS:=j_ (jr jZ [] E0 (g0 (hX 0) (g0 (tCB (Gr K) (g0 (hX 3) iL)) iL))) (iA 4)
def Mh (K:gG):TS:=zX (tOp (pz K) (hX 11) (jr jZ [] E0 (g0 (hX 0) (g0 (tC (V.int 20)) iL))))
def tB6 (K:gG):TS:=jc (tDS K bt6) (jc (tDS K bt7) (jc (tDS K bt8) (jc (tDS K bt9) (jc (tDS K La) (jc (tDS K Lb) (jc (tDS K Lc) (jc (tDS K Ld) (jc (tDS K Le) (Mh K)))))))))
def Mi (K:gG):TS:=jc (tDS K (Ds (pI 2 3) (gR 1))) (jc (tLn K) (jc (tDr 2 5) (jc (Oc K) (jc (tDr 9 7) (jc (tDr 9 8) (tB6 K))))))
theorem Ji {D:Ends}{σ:L2.St}{H:Hp}{p:Addr}{n:Int}{i:Nat}(m:Nat)(h0:σ[0]?=My (My (.ref p)))(hp:H p=My (.lst [.int n]))(m0:0<m)(mb:m<1000)
  (h:∀ (a:Nat) (n':Int),a<m->D.nx (σ.set i (My (iV a))) (upd H p (.lst [.int n']))):tDr m i D σ H:=by
 obtain⟨a,ha,am⟩:=D0 n m0;refine⟨_,h0,p,n,m,rfl,hp,by lia,by lia,?_⟩;rw[ha];exact h a _ am
theorem Qx {D:Ends}{σ:L2.St}{H:Hp}{p:Addr}{n:Int}{v:V}{l:gK}(h0:σ[0]?=My (My (.ref p)))(h3:σ[3]?=My (My v))(iv:Is K H v (ip l))(hp:H p=My (.lst [.int n]))(m0:0<l.length)(mb:l.length<=30)
  (h:∀ (a:Nat) (n':Int),a<l.length->D.nx (σ.set 4 (My (iV a))) (upd H p (.lst [.int n']))):tLn K D σ H:=by
 obtain⟨q,ys,rfl,sq,is⟩:=iv.ik;have e:ys.length=l.length:=by rw[is.length,af]
 obtain⟨a,ha,am⟩:=D0 n m0;refine⟨_,h0,_,h3,q,ys,rfl,.inr sq,p,n,ys.length,rfl,hp,by lia,by lia,?_⟩;rw[e,ha];exact h a _ am
theorem Ln {D:Ends}{σ:L2.St}{H:Hp}{p:Addr}{n:Int}{v:V}{ds:List Dt}(h0:σ[0]?=My (My (.ref p)))(h11:σ[11]?=My (My v))(iv:Is K H v (.lst ds))(hl:ds.length=20)(hf:∀ d∈ds,fit d=S_)(hp:H p=My (.lst [.int n]))
  (h:∀ (u:V) (d:Dt) (n':Int) (H':Hp),fit d=S_->Is K (hdP H' p) u d->H' p=My (.lst [.int n'])->But p H H'->D.rt u H'):Mh K D σ H:=by
 have nn:jH (.lst ds)=S_:=by
  have a:iS ds=S_:=jK.mpr λ d hd=>by have:=hf d hd;unfold fit at this;rw[aL,aL]at this;exact this.2.2
  match ds,hl,a with
  | x::y::r,_,a =>
   have:N5 (x::y::r)=Ta:=by cases x<;>rfl
   rw[jH,a,this];rfl
 obtain⟨q,vs,rfl,hq,is⟩:=(DX hp _ nn iv).lst_inv;have nq:q≠p:=λ z=>by subst z;unfold hdP at hq;rw[ai rfl]at hq;cases hq
 rw[qb nq]at hq;obtain⟨a,ha,am⟩:=D0 n (show 0<20 by decide);have ha:n % 20=(a:Int):=ha;refine⟨_,h11,_,h0,p,n,20,rfl,hp,by decide,by decide,?_⟩;rw[ha];have hd:a<ds.length:=by lia
 obtain⟨u,hu,iu⟩:=is.get (aF hd);refine⟨q,vs,a,u,rfl,rfl,SqL.of (by rw[g6 nq];exact hq),lh hu,?_⟩;exact h u _ _ _ (hf _ (cX hd)) (by rw[oB];exact iu) gU (But.refl p H).ur
theorem Gw (n:Nat)(l:gK)(k wh:Nat)(t:Nat×Nat)(od:Dt)(o:Nat×Nat):(Jd n l k wh t od o).length=20:=rfl
theorem Qy {D:Ends}{H:Hp}{p:Addr}{n:Int}{y1 v3 u:V}{m k wh c d:Nat}{l:gK}{t:Nat×Nat}{od:Dt}{x9 x10 x11:gF V}(hk:l[k]?=My t)(hl:l.length<=30)(hw:wh<2)(ho:Odd od)(i3:Is K H v3 (ip l))(iu:Is K H u od)(hp:H p=My (.lst [.int n]))
  (h:∀ (u:V) (d:Dt) (n':Int) (H':Hp),fit d=S_->Is K (hdP H' p) u d->H' p=My (.lst [.int n'])->But p H H'->D.rt u H'):tB6 K D [My (.ref p),My y1,My (iV m),My v3,My (iV k),My (iV wh),My u,My (iV c),My (iV d),x9,x10,x11] H:=by
 refine⟨_,_,stS (.opq _) (stN (stS (.int _) (stS i3 (stS (.int _) (stS (.int _) (stS iu (stS (.int _) (stS (.int _) (stN (stN (stN L2.stE))))))))))),Oe hk hl ..,λ H1 s1 σ1 S1=>⟨_,_,S1,Oh hk hl ..,λ H2 s2 σ2 S2=>⟨_,_,S2,Ol hk hl ..,λ H3 s3 σ3 S3=>⟨_,_,S3,Om hk hl _ _ (by show 2<=100;decide) ..,λ H4 s4 σ4 S4=>⟨_,_,S4,Lf hk hl _ _ (by show 4<=100;decide) ..,λ H5 s5 σ5 S5=>⟨_,_,S5,Lg hk hl _ _ (by show 6<=100;decide) ..,λ H6 s6 σ6 S6=>⟨_,_,S6,Lh hk hl _ _ (by show 9<=100;decide) ..,λ H7 s7 σ7 S7=>⟨_,_,S7,Li (o:=(c,d)) hk hl _ _ (by show 11<=100;decide) ..,λ H8 s8 σ8 S8=>⟨_,_,S8,Lj hk hl _ _ (by show 18<=100;decide) ..,λ H9 s9 σ9 S9=>?_⟩⟩⟩⟩⟩⟩⟩⟩⟩;have s:=((((((((s1.trans s2).trans s3).trans s4).trans s5).trans s6).trans s7).trans s8).trans s9);clear S1 S2 S3 S4 S5 S6 S7 S8;obtain⟨v0,e0,i0⟩:=S9.at_ 0 _ rfl;obtain⟨v11,e11,i11⟩:=S9.at_ 11 _ rfl;have:=i0.mj;subst this;exact Ln e0 e11 i11 (Gw m l k wh t od (c,d)) (Jg hl ho.1 ho.2.1 ho.2.2.1 (ho.2.2.2 t wh hw)) (s _ _ hp) λ u d n' H' hf iu hp' b=>h u d n' H' hf iu hp' (λ a o e ne=>b a o (s _ _ e) ne)
theorem Jj {D:Ends}{H:Hp}{p:Addr}{n:Int}{v:V}{ww:Web}(hg:Good ww)(iw:Is K H v (hG ww))(hp:H p=My (.lst [.int n])){x2 x3 x4 x5 x6 x7 x8 x9 x10 x11:gF V}
  (h:∀ (u:V) (d:Dt) (n':Int) (H':Hp),fit d=S_->Is K (hdP H' p) u d->H' p=My (.lst [.int n'])->But p H H'->D.rt u H'):Mi K D [My (.ref p),My v,x2,x3,x4,x5,x6,x7,x8,x9,x10,x11] H:=by
 have lp:0<ww.2.length:=dP.mpr hg.ne;have l30:=hg.len;refine⟨_,_,stS (.opq _) (stS iw (stN (stN (stN (stN (stN (stN (stN (stN (stN (stN L2.stE))))))))))),(rfl:Ds (pI 2 3) (gR 1) [My (.opq (.ref p)),My (hG ww),SY,SY,SY,SY,SY,SY,SY,SY,SY,SY]=My (.nx [My (.opq (.ref p)),My (hG ww),My (gO ww.1),My (ip ww.2),SY,SY,SY,SY,SY,SY,SY,SY])),λ H1 s1 σ1 S1=>?_⟩;obtain⟨y0,r0,rfl,j0,R0⟩:=S1.inv;obtain⟨y1,r1,rfl,j1,R1⟩:=R0.inv;obtain⟨y2,r2,rfl,j2,R2⟩:=R1.inv;obtain⟨y3,r3,rfl,j3,R3⟩:=R2.inv;obtain⟨z4,r4,rfl,R4⟩:=R3.pf;obtain⟨z5,r5,rfl,R5⟩:=R4.pf;obtain⟨z6,r6,rfl,R6⟩:=R5.pf;obtain⟨z7,r7,rfl,R7⟩:=R6.pf;obtain⟨z8,z9,z10,z11,rfl⟩:=R7.RV;have:=j0.mj;subst this;have:=j2.int_inv;subst this;clear S1 R0 R1 R2 R3 R4 R5 R6 R7;have hp1:=s1 _ _ hp;have g3:=DX hp1 _ (lW (mw ww.2)) j3;have b1:But p H H1:=λ a o e _=>s1 a o e;clear hp;refine Qx rfl rfl j3 hp1 lp l30 λ k n1 hk=>?_;have b2:But p H (upd H1 p (.lst [.int n1])):=b1.ur;have hp2:upd H1 p (.lst [.int n1]) p=My (.lst [.int n1]):=gU;have g3:Is K (hdP (upd H1 p (.lst [.int n1])) p) y3 (ip ww.2):=by rw[oB];exact g3
 generalize upd H1 p (.lst [.int n1])=H2 at *;refine Ji 2 rfl hp2 (by decide) (by decide) λ wh n2 hw=>?_;have b3:But p H (upd H2 p (.lst [.int n2])):=b2.ur;have hp3:upd H2 p (.lst [.int n2]) p=My (.lst [.int n2]):=gU;have g3:Is K (hdP (upd H2 p (.lst [.int n2])) p) y3 (ip ww.2):=by rw[oB];exact g3
 generalize upd H2 p (.lst [.int n2])=H3 at *;refine Ox (nn:=ww.1) rfl rfl hp3 λ u od n3 H4 ho iu hp4 c4=>?_;have b4:But p H H4:=λ a o e ne=>c4 a o (b3 a o e ne) ne;have g3:Is K (hdP H4 p) y3 (ip ww.2):=g3.ext (Ba λ a o e ne=>c4 a o e ne);refine Ji 9 rfl hp4 (by decide) (by decide) λ c n5 hc=>?_;have b5:But p H (upd H4 p (.lst [.int n5])):=b4.ur;have hp5:upd H4 p (.lst [.int n5]) p=My (.lst [.int n5]):=gU;have g3:Is K (hdP (upd H4 p (.lst [.int n5])) p) y3 (ip ww.2):=by rw[oB];exact g3
 have iu:Is K (hdP (upd H4 p (.lst [.int n5])) p) u od:=by rw[oB];exact iu
 generalize upd H4 p (.lst [.int n5])=H5 at *;refine Ji 9 rfl hp5 (by decide) (by decide) λ d n6 hd=>?_;have b6:But p H (upd H5 p (.lst [.int n6])):=b5.ur;have hp6:upd H5 p (.lst [.int n6]) p=My (.lst [.int n6]):=gU;have g3:Is K (hdP (upd H5 p (.lst [.int n6])) p) y3 (ip ww.2):=by rw[oB];exact g3
 have iu:Is K (hdP (upd H5 p (.lst [.int n6])) p) u od:=by rw[oB];exact iu
 generalize upd H5 p (.lst [.int n6])=H6 at *;exact Qy (aF hk) l30 hw ho (g3.ext (qZ _ _)) (iu.ext (qZ _ _)) hp6 λ u d n' H' hf iu hp' b=>h u d n' H' hf iu hp' (λ a o e ne=>b a o (b6 a o e ne) ne)
theorem Lo (T:Txt K mg):OkT P w base T.iR 2 (D1 K):=by
 refine T.iR.F.ok iM (λ vs H Q E h=>?_) (λ cdv A outer s H vs Q E hr h=>?_)
 ·obtain⟨p,n,v,ww,rfl,_⟩:=h;rfl
 ·obtain⟨p,n,v,ww,rfl,hg,iw,hp,q⟩:=h
  refine⟨Mi K,gZ (Az (dv 1) (pg rfl (je (pgo 2) (je (pgo 3) mU))) nZ)
   (gZ (iI (i:=4) iM.nd rfl (Or.inl rfl) (pC T.iH (jN T) hr (gQ (pv 0) (gQ (jO kL (by rfl) T.qj cy (gQ (pv 3) g9)) g9))))
   (gZ (iI (i:=5) iM.nd rfl (Or.inl rfl) (pC T.iH (jN T) hr (gQ (pv 0) (gQ hJ g9))))
   (gZ (Od T cdv A outer s H E hr _ rfl)
   (gZ (iI (i:=7) iM.nd rfl (Or.inl rfl) (pC T.iH (jN T) hr (gQ (pv 0) (gQ hJ g9))))
   (gZ (iI (i:=8) iM.nd rfl (Or.inl rfl) (pC T.iH (jN T) hr (gQ (pv 0) (gQ hJ g9))))
   (gZ (Qt T cdv A outer s H E hr _ rfl) (gZ (Qu T cdv A outer s H E hr _ rfl) (gZ (Qv T cdv A outer s H E hr _ rfl) (gZ (Qw T cdv A outer s H E hr _ rfl) (gZ (Oq T cdv A outer s H E hr _ rfl) (gZ (Ot T cdv A outer s H E hr _ rfl) (gZ (Ou T cdv A outer s H E hr _ rfl) (gZ (Ov T cdv A outer s H E hr _ rfl) (gZ (Ow T cdv A outer s H E hr _ rfl)
   (iK (lu (lD kr (pv 11) (pC T.iH (jN T) hr (gQ (pv 0) (gQ hJ g9))) (λ _ _=>rfl)))))))))))))))))),?_⟩
  exact Jj hg iw hp q
end
end K02
namespace L2
open PySem PySem.Spec PyProof.Rows Zp Qs
structure Sm (d:Dt):Prop where
 pl:plD d=S_
 sh:(toPy d).showable=S_
 lv:(toPy d).leavesShort 13=S_
 wt:(toPy d).weight<=100
 dp:(toPy d).depth<=2
theorem Sm.bl (b:Bool):Sm (.bl b):=⟨by simp[plD],by rw[toPy,PyData.showable],by rw[toPy,PyData.leavesShort],by rw[toPy,PyData.weight];lia,by rw[toPy,PyData.depth];lia⟩
theorem Sm.str {x:Str}(h1:(x.cps.toList.all λ c=>decide (c<16 ^ 8))=S_)(h2:x.cps.size<=100):Sm (.str x):=⟨by simp[plD],by rw[toPy,PyData.showable],by rw[toPy,PyData.leavesShort];exact h1,by rw[toPy,PyData.weight];exact h2,by rw[toPy,PyData.depth];lia⟩
theorem Jk:∀ (l:List Nat),(∀ x∈l,x<8)->vM (l.map gO)=S_/\PyData.showableAll (lP (l.map gO))=S_/\PyData.leavesShortAll 13 (lP (l.map gO))=S_/\PyData.weightAll (lP (l.map gO))<=4*l.length/\PyData.depthAll (lP (l.map gO))=0
 | [],_=>⟨by rw[dB,vM],by rw[dB,lP,PyData.showableAll],by rw[dB,lP,PyData.leavesShortAll],by rw[dB,lP,PyData.weightAll];lia,by rw[dB,lP,PyData.depthAll]⟩
 | x::r,h=>by
  obtain⟨a,b,c,d,e⟩:=Jk r λ y hy=>h y (ax _ hy);have hx:=h x av;have k:(PyData.int (x:Int)).showable=S_/\(PyData.int (x:Int)).leavesShort 13=S_/\(PyData.int (x:Int)).weight<=3:=by
   have:∀ y:Nat,y<8->(PyData.int (y:Int)).showable=S_/\(PyData.int (y:Int)).leavesShort 13=S_/\(PyData.int (y:Int)).weight<=3:=by decide +kernel
   exact this x hx
  have pi:plD (.int (x:Int))=S_:=by simp[plD]
  rw[aR,vM,lP,PyData.showableAll,PyData.leavesShortAll,PyData.weightAll,PyData.depthAll,show gO x=.int x from rfl,pi,toPy,a,b,c,e,k.1,k.2.1,PyData.depth,bK];have:=k.2.2;exact⟨rfl,rfl,rfl,by lia,rfl⟩
theorem Sm.tup {l:List Nat}(h:∀ x∈l,x<8)(hl:l.length<=20):Sm (.tup (l.map gO)):=by obtain⟨a,b,c,d,e⟩:=Jk l h;exact⟨by rw[plD];exact a,by rw[toPy,PyData.showable];exact b,by rw[toPy,PyData.leavesShort];exact c,by rw[toPy,PyData.weight];lia,by rw[toPy,PyData.depth,e];lia⟩
theorem rp3 {x y z:Dt}(hx:Sm x)(hy:Sm y)(hz:Sm z):Cc (.lst [x,y,z])=S_:=by
 have h1:plD (.lst [x,y,z])=S_:=by rw[plD,vM,vM,vM,vM,hx.pl,hy.pl,hz.pl];rfl
 have e:toPy (.lst [x,y,z])=.list [toPy x,toPy y,toPy z]:=by rw[toPy,lP,lP,lP,lP]
 have h2:(toPy (.lst [x,y,z])).showable=S_:=by rw[e,PyData.showable,PyData.showableAll,PyData.showableAll,PyData.showableAll,PyData.showableAll,hx.sh,hy.sh,hz.sh];rfl
 have h3:(toPy (.lst [x,y,z])).leavesShort 13=S_:=by rw[e,PyData.leavesShort,PyData.leavesShortAll,PyData.leavesShortAll,PyData.leavesShortAll,PyData.leavesShortAll,hx.lv,hy.lv,hz.lv];rfl
 have h4:(toPy (.lst [x,y,z])).weight<=2 ^ 20:=by rw[e,PyData.weight,PyData.weightAll,PyData.weightAll,PyData.weightAll,PyData.weightAll];have:=hx.wt;have:=hy.wt;have:=hz.wt;lia
 have h5:(toPy (.lst [x,y,z])).depth<=40:=by rw[e,PyData.depth,PyData.depthAll,PyData.depthAll,PyData.depthAll,PyData.depthAll];have:=hx.dp;have:=hy.dp;have:=hz.dp;lia
 have h6:=PyData.shown_fits (by decide) (by decide) h3 h4;unfold Cc;rw[h1,h2,decide_eq_true h6,decide_eq_true h5];rfl
theorem Bg {c:Str}(h:c∈uf):Sm (.str (vi c)):=by
 have:∀ c∈uf,((vi c).cps.toList.all λ c=>decide (c<16 ^ 8))=S_/\(vi c).cps.size<=100:=by decide +kernel
 exact Sm.str (this c h).1 (this c h).2
theorem Gx {x:Dt}{c:Str}(e:xT x=.error c)(y z y' z':Dt):jT x y z=jT x y' z':=by
 have a:∀ (y z:Dt) (k:Web->Nat->Nat->XD),kP x y z k=.error c:=λ y z k=>by unfold kP;rw[e]
 rw[nS,nS,a,a,a,a]
theorem Oy {x:Dt}{c:Str}(e:xT x=.error c)(y z:Dt):Cc (jT x y z)=S_:=by
 have a:∀ (y z:Dt) (k:Web->Nat->Nat->XD),kP x y z k=.error c:=λ y z k=>by unfold kP;rw[e]
 rw[nS,a,a];have hc:Sm (sdX (.error c:XD)):=Bg (yq (k:=1) (x:=x) (y:=y) (z:=z) (a y z yo));refine rp3 ?_ hc hc;cases h:oA x with
 | ok d =>
  unfold oA at h;split at h
  ·cases h;exact Sm.bl _
  ·cases h
 | error c'=>exact Bg (yq (k:=0) (x:=x) (y:=y) (z:=z) h)
section
variable {w:Web}(g:Good w)
include g
theorem Good.OA {b:Nat}(hb:b<w.1):∀ v,v<w.1->∀ x∈wyL w.2 b v,x<w.1:=by
 refine g.HV hb (by rw[qK];simpa using hb) λ v hv ne ih=>?_;rw[g.tR hb hv ne];intro x hx;rcases aB.mp hx with rfl | h
 ·exact hv
 ·exact ih x h
variable (tr:w.2.length+1=w.1)
include tr
theorem Good.xJ:xT (hG w)=.ok w:=by
 have w0:xW (hG w)=.ok w:=by unfold xW;rw[lL g]
 unfold xT;rw[w0];exact ai tr
theorem Good.D2 {a b:Nat}(ha:a<w.1)(hb:b<w.1):jT (hG w) (gO a) (gO b)=.lst [.bl S_,.tup ((wyL w.2 b a).map gO),sdX (mT w a b)]:=by
 have w0:xW (hG w)=.ok w:=by unfold xW;rw[lL g]
 have t0:=g.xJ tr;have xa:=sC (w:=w) ha;have xb:=sC (w:=w) hb;have tX:oA (hG w)=.ok (.bl S_):=by unfold oA;rw[w0];dsimp only;rw[decide_eq_true tr]
 have pX:∀ k:Web->Nat->Nat->XD,kP (hG w) (gO a) (gO b) k=k w a b:=λ k=>by unfold kP;rw[t0];dsimp only;rw[xa];dsimp only;rw[xb]
 rw[nS,tX,pX,pX];rfl
theorem Good.Lp {a b:Nat}(ha:a<w.1)(hb:b<w.1):Cc (jT (hG w) (gO a) (gO b))=S_:=by
 have h8:=g.oh;rw[g.D2 tr ha hb];refine rp3 (Sm.bl _) (Sm.tup (λ x hx=>by have:=g.OA hb a ha x hx;lia) (by have:=g.Km hb a ha;have:=g.EV hb a ha;lia)) ?_;unfold mT;by_cases h:b∈nb w.2 a
 ·rw[ai h]
  refine Sm.tup (λ x hx=>?_) ?_
  ·have:=((g.B3 tr h).mp ((ET _).mem_iff.mp hx)).1;lia
  ·rw[Np];have:=g.parts tr h;lia
 ·rw[ak h];exact Bg (by decide +kernel)
theorem Good.Jl {a b:Nat}(ha:a<w.1)(hb:b<w.1):lz [hG w,gO a,gO b]=My (jT (hG w) (gO a) (gO b)):=by
 have h:yr (hG w) (gO a) (gO b)=S_:=by have f:fit (hG w)=S_:=zU g.len rfl (mO _);unfold fit at f;rw[aL,aL]at f;unfold yr;rw[f.1,f.2.1,g.xJ tr];dsimp only;rw[iQ,iQ];simp[ha,hb]
 exact ai h
end
theorem Lq {x:Dt}{c:Str}(hf:fit x=S_)(e:xT x=.error c)(y z:Dt):lz [x,y,z]=My (jT x y z):=by
 have h:yr x y z=S_:=by unfold fit at hf;rw[aL,aL]at hf;unfold yr;rw[hf.1,hf.2.1,e];rfl
 exact ai h
theorem Fc (x:Str):mD (.str x) (.str x)=My (.bl Ta):=by
 have a:sh3 (.str x) (.str x)=S_:=rfl;have b:dEq (.str x) (.str x)=S_:=by simp[dEq]
 unfold mD;rw[ai a,b];rfl
theorem Fd {d:Dt}(h:Cc d=S_):vj [d]=My (.str (rpS d)):=ai h
def b8:DE->gF RD:=(lx (kU 10 (gLC ["_law_kind"] [3,5,9] (oU (gN (gC (.int 3)) gS)) (ggN 0) lY (hZ 4 jo (gN (gR 0) (gN (gR 1) (gN (gR 2) (gN (gR 3) gS))))))) (oD (gB (g_ mD (iP vj (gN (gR 10) gS)) (iP vj (gN (hZ 3 lz (gN (gR 3) (gN (gR 5) (gN (gR 9) gS)))) gS)))) (kN (gC (.bl Ta))) ky))
def hL8:DE->gF RD:=(BK (gI kz (lX (gN (gR 8) (gN (gR 6) (gN (gR 5) gS))))) (ggN 9) b8)
def b13:DE->gF RD:=(oD (sg (kC (gTr (hZ 1 jb (gN (gR 13) gS)))) (kC (gTr (hZ 1 jF (gN (gR 13) gS))))) (lx (kU 10 (gLC ["_law_kind"] [13,7] (oU (gN (gC (.int 3)) gS)) (ggN 0) lY (hZ 4 jo (gN (gR 0) (gN (gR 1) (gN (gR 2) (gN (gR 2) gS))))))) (oD (gB (g_ mD (iP vj (gN (gR 10) gS)) (iP vj (gN (hZ 3 lz (gN (gR 13) (gN (gC (.int 0)) (gN (gC (.int 1)) gS)))) gS)))) (kN (gC (.bl Ta))) ky)) ky)
def OB:DE->gF RD:=(BK (gI kz (lX (gN (gR 4) (gN (gR 12) gS)))) (ggN 13) b13)
theorem qe (k:Int){x y z:Dt}(hx:okW x=S_)(hy:kdB y=S_)(hz:kdB z=S_):jo [.int k,x,y,z]=My (sdX (lU k x y z)):=ai ⟨hx,hy,hz⟩
theorem Good.wk {w:Web}(g:Good w):okW (hG w)=S_:=by have f:fit (hG w)=S_:=zU g.len rfl (mO _);unfold fit at f;rw[aL]at f;exact f.1
theorem Good.Jm {w:Web}(g:Good w)(tr:w.2.length+1=w.1){a b:Nat}(ha:a<w.1)(hb:b<w.1)(x0 x1 x2 x4 x6 x7 x8 x10 x11 x12 x13:gF Dt):b8 [x0,x1,x2,My (hG w),x4,My (gO a),x6,x7,x8,My (gO b),x10,x11,x12,x13]=My (.nx [x0,x1,x2,My (hG w),x4,My (gO a),x6,x7,x8,My (gO b),My (jT (hG w) (gO a) (gO b)),x11,x12,x13]):=by
 have s0:=qe 0 g.wk (show kdB (gO a)=S_ from rfl) (show kdB (gO b)=S_ from rfl);have s1:=qe 1 g.wk (show kdB (gO a)=S_ from rfl) (show kdB (gO b)=S_ from rfl);have s2:=qe 2 g.wk (show kdB (gO a)=S_ from rfl) (show kdB (gO b)=S_ from rfl);have du:=g.Jl tr ha hb;have rp:=Fd (g.Lp tr ha hb);have ne:=Fc (rpS (jT (hG w) (gO a) (gO b)));unfold jT at *;generalize sdX (lU 2 (hG w) (gO a) (gO b))=r2,sdX (lU 1 (hG w) (gO a) (gO b))=r1,sdX (lU 0 (hG w) (gO a) (gO b))=r0 at *;generalize gO b=bb,gO a=aa,hG w=ww,rpS (.lst [r0,r1,r2])=rs at *;have lc:gLC ["_law_kind"] [3,5,9] (oU (gN (gC (.int 3)) gS)) (ggN 0) lY (hZ 4 jo (gN (gR 0) (gN (gR 1) (gN (gR 2) (gN (gR 3) gS))))) [x0,x1,x2,My ww,x4,My aa,x6,x7,x8,My bb,x10,x11,x12,x13]=My (.lst [r0,r1,r2]):=by have e:oU (gN (gC (.int 3)) gS) [x0,x1,x2,My ww,x4,My aa,x6,x7,x8,My bb,x10,x11,x12,x13]=My [.int 0,.int 1,.int 2]:=rfl;unfold gLC;rw[e];simp[si,vf,s0,s1,s2,lY,ggN]
 have st:kU 10 (gLC ["_law_kind"] [3,5,9] (oU (gN (gC (.int 3)) gS)) (ggN 0) lY (hZ 4 jo (gN (gR 0) (gN (gR 1) (gN (gR 2) (gN (gR 3) gS)))))) [x0,x1,x2,My ww,x4,My aa,x6,x7,x8,My bb,x10,x11,x12,x13]=My (.nx [x0,x1,x2,My ww,x4,My aa,x6,x7,x8,My bb,My (.lst [r0,r1,r2]),x11,x12,x13]):=by unfold kU;rw[lc];rfl
 unfold b8;rw[ui st];simp[du,rp,ne]
theorem Good.OC {w:Web}(g:Good w)(tr:w.2.length+1=w.1){a b c:Nat}(ha:a<w.1)(hb:b<w.1)(hc:c<w.1)(x0 x1 x2 x4 x7 x9 x10 x11 x12 x13:gF Dt):hL8 [x0,x1,x2,My (hG w),x4,My (gO a),My (gO b),x7,My (gO c),x9,x10,x11,x12,x13]=My (.nx [x0,x1,x2,My (hG w),x4,My (gO a),My (gO b),x7,My (gO c),My (gO a),My (jT (hG w) (gO a) (gO a)),x11,x12,x13]):=by have a1:=g.Jm tr ha hc x0 x1 x2 x4 (My (gO b)) x7 (My (gO c)) x10 x11 x12 x13;have a2:=g.Jm tr ha hb x0 x1 x2 x4 (My (gO b)) x7 (My (gO c)) (My (jT (hG w) (gO a) (gO c))) x11 x12 x13;have a3:=g.Jm tr ha ha x0 x1 x2 x4 (My (gO b)) x7 (My (gO c)) (My (jT (hG w) (gO a) (gO b))) x11 x12 x13;generalize jT (hG w) (gO a) (gO a)=r3,jT (hG w) (gO a) (gO b)=r2,jT (hG w) (gO a) (gO c)=r1 at *;show n_ (ggN 9) b8 _ [gO c,gO b,gO a]=_;generalize b8=f,gO c=cc,gO b=bb,gO a=aa,hG w=ww at *;simp[n_,ggN,a1,a2,a3]
theorem Lr {x nn:Dt}(hf:fit x=S_)(hn:kdB nn=S_){c:Str}(e:xT x=.error c)(x0 x1 x2 x3 x4 x5 x6 x8 x9 x10 x11 x12:gF Dt):(lx (kU 10 (gLC ["_law_kind"] [13,7] (oU (gN (gC (.int 3)) gS)) (ggN 0) lY (hZ 4 jo (gN (gR 0) (gN (gR 1) (gN (gR 2) (gN (gR 2) gS))))))) (oD (gB (g_ mD (iP vj (gN (gR 10) gS)) (iP vj (gN (hZ 3 lz (gN (gR 13) (gN (gC (.int 0)) (gN (gC (.int 1)) gS)))) gS)))) (kN (gC (.bl Ta))) ky)) [x0,x1,x2,x3,x4,x5,x6,My nn,x8,x9,x10,x11,x12,My x]=My (.nx [x0,x1,x2,x3,x4,x5,x6,My nn,x8,x9,My (jT x nn nn),x11,x12,My x]):=by
 have hx:okW x=S_:=by unfold fit at hf;rw[aL]at hf;exact hf.1
 have s0:=qe 0 hx hn hn;have s1:=qe 1 hx hn hn;have s2:=qe 2 hx hn hn;have du:=Lq hf e (.int 0) (.int 1);rw[Gx e (.int 0) (.int 1) nn nn]at du;have rp:=Fd (Oy e nn nn);have ne:=Fc (rpS (jT x nn nn));unfold jT at *;generalize sdX (lU 2 x nn nn)=r2,sdX (lU 1 x nn nn)=r1,sdX (lU 0 x nn nn)=r0 at *;generalize rpS (.lst [r0,r1,r2])=rs at *;have lc:(gLC ["_law_kind"] [13,7] (oU (gN (gC (.int 3)) gS)) (ggN 0) lY (hZ 4 jo (gN (gR 0) (gN (gR 1) (gN (gR 2) (gN (gR 2) gS)))))) [x0,x1,x2,x3,x4,x5,x6,My nn,x8,x9,x10,x11,x12,My x]=My (.lst [r0,r1,r2]):=by have e:oU (gN (gC (.int 3)) gS) [x0,x1,x2,x3,x4,x5,x6,My nn,x8,x9,x10,x11,x12,My x]=My [.int 0,.int 1,.int 2]:=rfl;unfold gLC;rw[e];simp[si,vf,s0,s1,s2,lY,ggN]
 have st:kU 10 (gLC ["_law_kind"] [13,7] (oU (gN (gC (.int 3)) gS)) (ggN 0) lY (hZ 4 jo (gN (gR 0) (gN (gR 1) (gN (gR 2) (gN (gR 2) gS)))))) [x0,x1,x2,x3,x4,x5,x6,My nn,x8,x9,x10,x11,x12,My x]=My (.nx [x0,x1,x2,x3,x4,x5,x6,My nn,x8,x9,My (.lst [r0,r1,r2]),x11,x12,My x]):=by unfold kU;rw[lc];rfl
 rw[ui st];simp[du,rp,ne]
theorem Jn {x nn:Dt}(hf:fit x=S_)(hn:kdB nn=S_)(x0 x1 x2 x3 x4 x5 x6 x8 x9 x10 x11 x12:gF Dt):∃ y10,b13 [x0,x1,x2,x3,x4,x5,x6,My nn,x8,x9,x10,x11,x12,My x]=My (.nx [x0,x1,x2,x3,x4,x5,x6,My nn,x8,x9,y10,x11,x12,My x]):=by
 have hx:okW x=S_/\shW x=S_:=by unfold fit at hf;rw[aL,aL]at hf;exact⟨hf.1,hf.2.1⟩
 have c1:=Jc hx.1 hx.2;rw[AV]at c1;have yes:∀ c,xT x=.error c->(sg (kC (gTr (hZ 1 jb (gN (gR 13) gS)))) (kC (gTr (hZ 1 jF (gN (gR 13) gS))))) [x0,x1,x2,x3,x4,x5,x6,My nn,x8,x9,x10,x11,x12,My x]=My S_->∃ y10,b13 [x0,x1,x2,x3,x4,x5,x6,My nn,x8,x9,x10,x11,x12,My x]=My (.nx [x0,x1,x2,x3,x4,x5,x6,My nn,x8,x9,y10,x11,x12,My x]):=λ c e h=>by refine⟨My (jT x nn nn),?_⟩;rw[<-Lr hf hn e x0 x1 x2 x3 x4 x5 x6 x8 x9 x10 x11 x12];unfold b13 oD;rw[h];rfl
 cases eW:dW x with
 | none =>
  rw[eW]at c1;have c1:jb [x]=My (.bl Ta):=c1;have w0:xW x=.error "NoWeb":=by unfold xW;rw[eW]
  exact yes "NoWeb" (by unfold xT;rw[w0]) (by simp[c1])
 | some w =>
  rw[eW]at c1;have c1:jb [x]=My (.bl S_):=c1;obtain⟨rfl,g⟩:=pL eW;have w0:=IE g;have c2:jF [hG w]=My (.bl (decide (w.2.length+1=w.1))):=by show(dW (hG w)).map _=_;rw[lL g];rfl
  by_cases tr:w.2.length+1=w.1
  ·rw[decide_eq_true tr]at c2;clear yes;generalize hG w=ww at *;exact⟨x10,by unfold b13 oD;simp[c1,c2,ky]⟩
  ·rw[decide_eq_false tr]at c2
   have t0:xT (hG w)=.error "NoTree":=by unfold xT;rw[w0];exact ak tr
   refine yes "NoTree" t0 ?_;clear yes w0 t0;generalize hG w=ww at *;simp[c1,c2]
theorem Ls {x y nn:Dt}(hx:fit x=S_)(hy:fit y=S_)(hn:kdB nn=S_)(x0 x1 x2 x3 x5 x6 x8 x9 x10 x11 x13:gF Dt):∃ y10,OB [x0,x1,x2,x3,My x,x5,x6,My nn,x8,x9,x10,x11,My y,x13]=My (.nx [x0,x1,x2,x3,My x,x5,x6,My nn,x8,x9,y10,x11,My y,My y]):=by obtain⟨y1,a1⟩:=Jn hx hn x0 x1 x2 x3 (My x) x5 x6 x8 x9 x10 x11 (My y);obtain⟨y2,a2⟩:=Jn hy hn x0 x1 x2 x3 (My x) x5 x6 x8 x9 y1 x11 (My y);refine⟨y2,?_⟩;show n_ (ggN 13) b13 _ [x,y]=_;generalize b13=f at *;simp[n_,ggN,a1,a2]
end L2
namespace K02
open PySem PySem.Spec PyProof.Rows L2 Zp
section
variable {P:Program}{w:World}{K:gG}{mg:gD}{base:Heap}
abbrev XL (P:Program)(w:World)(K:gG)(mg:gD)(base:Heap)(T:Txt K mg)(cdv:gH)(A:Around)(outer:List Env)(s:gJ)(H:Hp)(E:XK):Cx:=(qo CX0 P w K mg base ["_law_script","_law_k","_law_pot_here","_law_tree","_law_web_here","_law_a","_law_b","_law_none","_law_beside","_law_other","_law_told","_law_kind","_law_bent_here","_law_thing"] "law" (gW qS) T.rW.f cdv A outer s H E).nox
def RW:Stmt->List Stmt
 | .For _ _ b _ _=>b
 | _=>[]
abbrev uw:List Stmt:=RW ((iW qS).headD qS)
def Lu:DE->gF RD:=(oD (gB (g_ NJ (gR 10) (g_ FI (lX (gN (gC (.str "place")) gS)) (gC (.int 6))))) (kN (gC (.bl Ta))) ky)
theorem Qz (T:Txt K mg)(cdv:gH)(A:Around)(outer:List Env)(s:gJ)(H:Hp)(E:XK)(hr:jt 9 (A.deeper (envOfC "law" (gW qS) s.heap.objs.size T.rW.f cdv))):∀ st,uw[8]?=My st->PS (XL P w K mg base T cdv A outer s H E) st (tDS K hL8):=by intro st h;obtain rfl:=ao h;exact(AA bB rfl (md (mz (gM (dv 8) (gM (dv 6) (gM (dv 5) gT))))) (pgo 9) ku (iJ (BJ (i:=10) lS.nd rfl (csc ["_law_kind"] ["_law_tree","_law_a","_law_other"] [3,5,9]) (vY T.kS (gM hW gT)) (λ _ _ _ _=>(pgo 0)) jI ku (λ _ _ _ _=>uP) (λ _ _ _ _=>(dC T.kH (lV T) hr (gM (dv 0) (gM (dv 1) (gM (dv 2) (gM (dv 3) gT))))))) (iq (mQ (jg (xk (hV hr)) (iG (AS hr.gd hr.units) T.A8 boot_repr (gM (dv 10) gT)) (iG (AS hr.gd hr.units) T.A8 boot_repr (gM (dC T.pY (vC T) hr (gM (dv 3) (gM (dv 5) (gM (dv 9) gT)))) gT))) (iq (iY se)) jh))))
theorem OD (T:Txt K mg)(cdv:gH)(A:Around)(outer:List Env)(s:gJ)(H:Hp)(E:XK)(hr:jt 9 (A.deeper (envOfC "law" (gW qS) s.heap.objs.size T.rW.f cdv))):∀ st,uw[13]?=My st->PS (XL P w K mg base T cdv A outer s H E) st (tDS K OB):=by intro st h;obtain rfl:=ao h;exact(AA bB rfl (md (mz (gM (dv 4) (gM (dv 12) gT)))) (pgo 13) ku (iq (mQ (As (qf (jW (kD (dC T.mv (qW T) hr (gM (dv 13) gT)))) (pH (jW (kD (dC T.lT (qk T) hr (gM (dv 13) gT))))))) (iJ (BJ (i:=10) lS.nd rfl (csc ["_law_kind"] ["_law_thing","_law_none"] [13,7]) (vY T.kS (gM hW gT)) (λ _ _ _ _=>(pgo 0)) jI ku (λ _ _ _ _=>uP) (λ _ _ _ _=>(dC T.kH (lV T) hr (gM (dv 0) (gM (dv 1) (gM (dv 2) (gM (dv 2) gT))))))) (iq (mQ (jg (xk (hV hr)) (iG (AS hr.gd hr.units) T.A8 boot_repr (gM (dv 10) gT)) (iG (AS hr.gd hr.units) T.A8 boot_repr (gM (dC T.pY (vC T) hr (gM (dv 13) (gM hW (gM hW gT)))) gT))) (iq (iY se)) jh))) jh)))
theorem OE (T:Txt K mg)(cdv:gH)(A:Around)(outer:List Env)(s:gJ)(H:Hp)(E:XK)(hr:jt 9 (A.deeper (envOfC "law" (gW qS) s.heap.objs.size T.rW.f cdv))):∀ st,uw[11]?=My st->PS (XL P w K mg base T cdv A outer s H E) st (tDS K Lu):=by intro st h;obtain rfl:=ao h;exact(mQ (jg (PB (hV hr)) (dv 10) (jQ LX (mz (gM nY gT)) hW)) (iq (iY se)) jh)
end
end K02
namespace L2
open PySem PySem.Spec PyProof.Rows Zp
section
variable {X:Cx}{e:Expr}{es:List Expr}{pos p:Pos}{x:Str}{st:Stmt}{j k n:Nat}{ps:List Str}
theorem OF:Passes (CXE X.prog X.w) X E0:=λ _ _ _ _ _ _ _ h=>by obtain⟨a,cls,a0,H',h⟩:=h;obtain⟨_,_,_,_,_,h⟩:=h;exact False.elim (by simp[E0]at h)
theorem pCX {sp:Sp}{t:TA}(T:FnT X.K X.mg x st ps)(F:pj X.prog X.w X.K X.mg X.base (CXE X.prog X.w) k T.f T.fd ps sp)(hr:jt j X.A)(ha:PA X (e::es) t)(hj:k<=j:=by decide)(hg:Gl X x:=by rfl)(hdb:(x==("__debug__":Str))=Ta:=by decide)(he:starEach (e::es) X.env=(Ta,eval e X.env)::starEach es X.env:=by rfl)(hpl:(backTo pos (starEach es X.env)).any (·.1)=Ta:=by rfl) :
  PE X (.Call (.Name x p) (e::es) [] pos) (jr sp [] E0 t):=sR (X:=X) F (hr.mono hj) hg T.m T.F.kp T.b .nil OF ha hdb he hpl
def okX (f:List Dt->gF XD):List Dt->gF Dt:=λ ds=>match f ds with
 | some (.ok d)=>My d
 | _=>SY
set_option tactic.hygienic true in
theorem dCX {C:Str->Addr}{f:List Dt->gF XD}{gs:DE->gF (List Dt)}(T:FnT X.K X.mg x st ps)(F:pj X.prog X.w X.K X.mg X.base (CXE X.prog X.w) k T.f T.fd ps (spX X.K C n f))(hr:jt j X.A)(ha:PDs X (e::es) gs)(hj:k<=j:=by decide)(hg:Gl X x:=by rfl)(hdb:(x==("__debug__":Str))=Ta:=by decide)(he:starEach (e::es) X.env=(Ta,eval e X.env)::starEach es X.env:=by rfl)(hpl:(backTo pos (starEach es X.env)).any (·.1)=Ta:=by rfl) :
  PD X (.Call (.Name x p) (e::es) [] pos) (hZ n (okX f) gs):=(lj (pCX T F hr ha hj hg hdb he hpl)).of λ σ H Q hz=>by
 obtain⟨δ,d,S,h,q⟩:=hz;obtain⟨ds,e1,e2⟩:=gP h;by_cases hl:ds.length=n
 ·rw[ai hl]at e2
  unfold okX at e2;split at e2
  ·rename_i d' ed;cases e2;refine⟨δ,.ok d,S,?_,q⟩;unfold oq;rw[e1,aq,ai hl];exact ed
  ·cases e2
 ·rw[ak hl]at e2;cases e2
end
end L2
namespace K02
open PySem PySem.Spec PyProof.Rows L2 Zp
section
variable {P:Program}{w:World}{K:gG}{mg:gD}{base:Heap}
def yv:DE->gF RD:=(kN (BF (g_ oP (hZ 3 (okX m6) (gN (iZ (gN (gC (.int 3)) (gN (iZ (gN (iZ (gN (gC (.int 0)) (gN (gC (.int 1)) gS))) (gN (iZ (gN (gC (.int 1)) (gN (gC (.int 2)) gS))) gS))) gS))) (gN (gC (.int 0)) (gN (gC (.int 1)) gS)))) (iZ (gN (gC (.int 1)) (gN (gC (.int 2)) gS)))) (g_ oP (hZ 3 (okX qY) (gN (iZ (gN (gC (.int 2)) (gN (iZ (gN (iZ (gN (gC (.int 0)) (gN (gC (.int 1)) gS))) gS)) gS))) (gN (gC (.int 1)) (gN (gC (.int 1)) gS)))) (iZ (gN (gC (.int 1)) gS)))))
theorem Lv (T:Txt K mg)(cdv:gH)(A:Around)(outer:List Env)(s:gJ)(H:Hp)(E:XK)(hr:jt 9 (A.deeper (envOfC "law" (gW qS) s.heap.objs.size T.rW.f cdv))):∀ st,(iW qS)[1]?=My st->PS (XL P w K mg base T cdv A outer s H E) st (tDS K yv):=by intro st h;obtain rfl:=ao h;exact(iY (xi (vd (AG (hV hr)) (dCX T.A7 (Cz T) hr (gM (ja (gM hW (gM (ja (gM (ja (gM hW (gM hW gT))) (gM (ja (gM hW (gM hW gT))) gT))) gT))) (gM hW (gM hW gT)))) (ja (gM hW (gM hW gT)))) (zv (vd (AG (hV hr)) (dCX T.E5 (E7 T) hr (gM (ja (gM hW (gM (ja (gM (ja (gM hW (gM hW gT))) gT)) gT))) (gM hW (gM hW gT)))) (ja (gM hW gT))))))
theorem Jo (a:okX m6 [.tup [.int 3,.tup [.tup [.int 0,.int 1],.tup [.int 1,.int 2]]],.int 0,.int 1]=My (.tup [.int 1,.int 2]))(b:okX qY [.tup [.int 2,.tup [.tup [.int 0,.int 1]]],.int 1,.int 1]=My (.tup [.int 1]))(δ:DE):yv δ=My (.rt (.bl S_)):=by have c:oP (.tup [.int 1,.int 2]) (.tup [.int 1,.int 2])=My (.bl S_):=rfl;have d:oP (.tup [.int 1]) (.tup [.int 1])=My (.bl S_):=rfl;unfold yv;simp[a,b,c,d]
end
end K02
namespace L2
open PySem PySem.Spec PyProof.Rows Zp Qs
theorem Good.Fe {w:Web}(g:Good w)(tr:w.2.length+1=w.1){a b:Nat}(ha:a<w.1)(hb:b<w.1)(k:Web->Nat->Nat->XD):kP (hG w) (gO a) (gO b) k=k w a b:=by have t0:=g.xJ tr;have xa:=sC (w:=w) ha;have xb:=sC (w:=w) hb;unfold kP;rw[t0];dsimp only;rw[xa];dsimp only;rw[xb]
theorem Jp {x y z:Dt}(hx:okW x=S_)(hy:kdB y=S_)(hz:kdB z=S_):m6 [x,y,z]=My (kP x y z mT):=ai ⟨hx,hy,hz⟩
theorem Lw {x y z:Dt}(hx:okW x=S_)(hy:kdB y=S_)(hz:kdB z=S_):qY [x,y,z]=My (kP x y z yo):=ai ⟨hx,hy,hz⟩
theorem good3:Good (3,[(0,1),(1,2)]):=⟨by decide,by decide,by decide,by decide,wc (n:=3) (by decide) (by decide) (λ S h0 h v hv=>by
 have h1:S 1:=(h (0,1) (by simp)).mp h0;have h2:S 2:=(h (1,2) (by simp)).mp h1;rcases (show v=0\/v=1\/v=2 from by lia) with rfl | rfl | rfl
 ·exact h0
 ·exact h1
 ·exact h2),by decide,by simp⟩
theorem good2:Good (2,[(0,1)]):=⟨by decide,by decide,by decide,by decide,wc (n:=2) (by decide) (by decide) (λ S h0 h v hv=>by
 have h1:S 1:=(h (0,1) (by simp)).mp h0;rcases (show v=0\/v=1 from by lia) with rfl | rfl
 ·exact h0
 ·exact h1),by decide,by simp⟩
theorem RY:sk (bfs (cut [(0,1),(1,2)] 0 1) 1)=[1,2]:=by
 have e:bfs (cut [(0,1),(1,2)] 0 1) 1=[(1,0),(2,1)]:=by decide +kernel
 rw[e];unfold sk srt;rw[List.mergeSort_of_pairwise (by decide)];rfl
theorem part3:okX m6 [.tup [.int 3,.tup [.tup [.int 0,.int 1],.tup [.int 1,.int 2]]],.int 0,.int 1]=My (.tup [.int 1,.int 2]):=by
 show okX m6 [hG (3,[(0,1),(1,2)]),gO 0,gO 1]=_;have a:=good3.Fe rfl (a:=0) (b:=1) (by decide) (by decide) mT;have b:mT (3,[(0,1),(1,2)]) 0 1=.ok (.tup [.int 1,.int 2]):=by unfold mT;rw[ai (lM.mpr (.inr (by simp)))];show Except.ok (Dt.tup ((sk (bfs (cut [(0,1),(1,2)] 0 1) 1)).map gO))=_;rw[RY];rfl
 have c:=Jp (x:=hG (3,[(0,1),(1,2)])) (y:=gO 0) (z:=gO 1) rfl rfl rfl;unfold okX;rw[c,a,b]
theorem RZ:okX qY [.tup [.int 2,.tup [.tup [.int 0,.int 1]]],.int 1,.int 1]=My (.tup [.int 1]):=by
 show okX qY [hG (2,[(0,1)]),gO 1,gO 1]=_;have a:=good2.Fe rfl (a:=1) (b:=1) (by decide) (by decide) yo;have b:yo (2,[(0,1)]) 1 1=.ok (.tup [.int 1]):=by unfold yo;rw[qK];rfl
 have c:=Lw (x:=hG (2,[(0,1)])) (y:=gO 1) (z:=gO 1) rfl rfl rfl;unfold okX;rw[c,a,b]
theorem Good.u3 {w:Web}(g:Good w)(tr:w.2.length+1=w.1){k:Int}(hk:k=1\/k=2){y z:Dt}(hy:kdB y=S_)(hz:kdB z=S_)(h:nK w.1 y=Ta\/∃ a,a<w.1/\y=gO a/\nK w.1 z=Ta):jo [.int k,hG w,y,z]=My (.str "place"):=by
 have no:∀ {y:Dt},nK w.1 y=Ta->xP w y=.error "NoPlace":=λ h=>by unfold xP;rw[h];exact ak (by decide)
 have e:∀ c:Web->Nat->Nat->XD,kP (hG w) y z c=.error "NoPlace":=λ c=>by
  unfold kP;rw[g.xJ tr];dsimp only;rcases h with h | ⟨a,ha,rfl,h⟩
  ·rw[no h]
  ·rw[sC (w:=w) ha];dsimp only;rw[no h]
 have s:lU k (hG w) y z=.error "NoPlace":=by
  unfold lU;rcases hk with rfl | rfl
  ·rw[ak (by decide),ai rfl];exact e _
  ·rw[ak (by decide),ak (by decide)];exact e _
 rw[qe k g.wk hy hz,s];rfl
theorem Good.Lx {w:Web}(g:Good w){a:Nat}(ha:a<w.1):jM [hG w,gO a]=My (.lst ((nrL w a).map gO))/\0<(nrL w a).length/\(nrL w a).length<=8/\∀ x∈nrL w a,x<w.1:=by
 have w2:=g.two;have w8:=g.oh;refine⟨?_,?_,?_,λ x hx=>aC.mp (aS.mp hx).1⟩
 ·show(dW (hG w)).bind (λ w=>(jD (gO a)).map λ p=>Dt.lst (((Tc w.1).filter λ o=>decide (jm p o∈w.2)).map gO))=_;rw[lL g,iQ];rfl
 ·have:∃ b,b<w.1/\a≠b:=by
   by_cases h:a=0
   ·exact⟨1,by lia,by lia⟩
   ·exact⟨0,by lia,h⟩
  obtain⟨b,hb,ne⟩:=this;have n1:=(g.qi hb ha ne).1;exact List.length_pos_of_mem (g.pN.mpr n1)
 ·have:=bZ (λ o=>decide (jm a o∈w.2)) (Tc w.1);rw[bE]at this;show(List.filter _ _).length<=8;lia
end L2
namespace K02
open PySem PySem.Spec PyProof.Rows L2 Zp
theorem Mj {σ:L2.St}{v:V}(h:σ.length=14)(h0:σ[0]?=My (My v)):∃ x1 x2 x3 x4 x5 x6 x7 x8 x9 x10 x11 x12 x13:gF V,σ=[My v,x1,x2,x3,x4,x5,x6,x7,x8,x9,x10,x11,x12,x13]:=by
 match σ,h with
 | [x0,x1,x2,x3,x4,x5,x6,x7,x8,x9,x10,x11,x12,x13],_ =>cases h0;exact⟨_,_,_,_,_,_,_,_,_,_,_,_,_,rfl⟩
theorem imW (ww:Web):Imm (hG ww):=.tup (.cons (.int _) (.cons (.tup (rL.of λ d hd=>by obtain⟨t,_,rfl⟩:=aA.mp hd;exact .tup (.cons (.int _) (.cons (.int _) .nil)))) .nil))
theorem But.same {p:Addr}{H0 H H':Hp}(b:But p H H')(s:gY H0 H)(n:H0 p=Option.none):gY H0 H':=λ c o e=>b c o (s c o e) (ir e n)
theorem But.text {p:Addr}{H H':Hp}{n:Int}(b:But p H H')(hp:H p=My (.lst [.int n])):kc H H':=⟨λ c xs e=>b c _ e (λ z=>by subst z;rw[hp]at e;cases e),λ c o u e=>b c _ e (λ z=>by subst z;rw[hp]at e;cases e)⟩
section
variable {P:Program}{w:World}{K:gG}{mg:gD}{base:Heap}
def gSd (i j:Nat):DE->gF Dt:=hZ 4 jo (gN (gR 11) (gN (gR 3) (gN (gR i) (gN (gR j) gS))))
def l12 (K:gG):TS:=jc (j_ (jr (D1 K) [] E0 (g0 (hX 2) (g0 (hX 3) iL))) (iA 12)) (tDS K OB)
def l11 (K:gG):TS:=jc (tDS K Lu) (l12 K)
def b10 (K:gG):TS:=jc (j_ (tOp MM (hX 10) (qu (g0 (tD K (gSd 7 6)) (g0 (tD K (gSd 5 7)) iL)))) (iA 10)) (za (tBM K "list" rf (hX 10) (g0 (tD K (gSd 7 7)) iL)))
def l10 (K:gG):TS:=jc (wG (Mx K (yz (g0 (tC (V.int 1)) (g0 (tC (V.int 2)) iL)))) (iA 11) (b10 K)) (l11 K)
def l9 (K:gG):TS:=jc (j_ (qu iL) (iA 10)) (l10 K)
def l8 (K:gG):TS:=jc (tDS K hL8) (l9 K)
def l7 (K:gG):TS:=jc (j_ (tOp (pz K) (hX 8) (jr jZ [] E0 (g0 (hX 2) (g0 (tCB (Gr K) (g0 (hX 8) iL)) iL)))) (iA 8)) (l8 K)
def l6 (K:gG):TS:=jc (j_ (tD K (hZ 2 jM (gN (gR 3) (gN (gR 5) gS)))) (iA 8)) (l7 K)
def l5 (K:gG):TS:=jc (j_ (jr (Ob K) [] E0 (g0 (hX 2) (g0 (hX 3) iL))) (iA 7)) (l6 K)
def tk (K:gG)(j i:Nat):TS:=j_ (jr jZ [] E0 (g0 (hX 2) (g0 (tOp (JF K) (hX j) (tC (V.int 0))) iL))) (iA i)
def wb (K:gG)(th:Int)(i:Nat):TS:=j_ (jr (Mf K) [] E0 (g0 (hX 2) (g0 (tC (V.int 8)) (g0 (tC (V.int th)) iL)))) (iA i)
def lB (K:gG):TS:=jc (j_ (jr IV [] E0 (g0 (jr (DW K) [] E0 (g0 (hX 0) (g0 (hX 1) iL))) iL)) (iA 2)) (jc (wb K 0 3) (jc (wb K 1 4) (jc (tk K 3 5) (jc (tk K 3 6) (l5 K)))))
def lA (K:gG):TS:=jc (wG (zb (g0 (tCB NV (g0 (tC (V.int 1)) (g0 (tCB NU (g0 (tCB (Gr K) (g0 (hX 0) iL)) (g0 (tC (V.int 8)) iL))) iL))) iL)) (iA 1) (lB K)) (tDS K yv)
abbrev Nx (D:Ends)(H:Hp)(a0:Addr):Prop:=∀ σ' H',σ'.length=14->σ'[0]?=My (My (.ref a0))->gY H H'->D.nx σ' H'
structure LS (K:gG)(H0:Hp)(p:Addr)(wt ww:Web)(dn:Dt)(vt vw vn:V)(n:Int)(H:Hp):Prop where
 gt:Good wt
 tr:wt.2.length+1=wt.1
 gw:Good ww
 it:Is K H vt (hG wt)
 iw:Is K H vw (hG ww)
 pl:nK wt.1 dn=Ta
 kd:kdB dn=S_
 iN:Is K (hdP H p) vn dn
 hp:H p=My (.lst [.int n])
 p0:H0 p=SY
 sm:gY H0 H
theorem Ly (x0 x1 x2 x3 x4 x5 x6 x7 x8 x9 x11 x12 x13:gF Dt):Lu [x0,x1,x2,x3,x4,x5,x6,x7,x8,x9,My (.lst (Td 6 (.str "place"))),x11,x12,x13]=My (.nx [x0,x1,x2,x3,x4,x5,x6,x7,x8,x9,My (.lst (Td 6 (.str "place"))),x11,x12,x13]):=by have a:FI (.lst [.str "place"]) (.int 6)=My (.lst (Td 6 (.str "place"))):=rfl;have b:NJ (.lst (Td 6 (.str "place"))) (.lst (Td 6 (.str "place")))=My (.bl Ta):=rfl;generalize Dt.lst (Td 6 (.str "place"))=d at *;simp[Lu,a,b]
section
variable {D:Ends}{H0 H H':Hp}{a0 p:Addr}{wt ww:Web}{dn:Dt}{vt vw vn vt' vw':V}{n n':Int}(L:LS K H0 p wt ww dn vt vw vn n H)
include L
theorem LS.ext (s:gY H H'):LS K H0 p wt ww dn vt vw vn n H':=⟨L.gt,L.tr,L.gw,L.it.ext s,L.iw.ext s,L.pl,L.kd,L.iN.ext (Ba λ b o e _=>s b o e),s _ _ L.hp,L.p0,L.sm.trans s⟩
theorem LS.vals (a:Is K H vt' (hG wt))(b:Is K H vw' (hG ww)):LS K H0 p wt ww dn vt' vw' vn n H:=⟨L.gt,L.tr,L.gw,a,b,L.pl,L.kd,L.iN,L.hp,L.p0,L.sm⟩
theorem LS.upd:LS K H0 p wt ww dn vt vw vn n' (L2.upd H p (.lst [.int n'])):=by have t:kc H (L2.upd H p (.lst [.int n'])):=kc.upd (by rw[L.hp];trivial);exact⟨L.gt,L.tr,L.gw,L.it.text t (imW _),L.iw.text t (imW _),L.pl,L.kd,by rw[oB];exact L.iN,gU,L.p0,jj L.sm L.p0⟩
theorem OG {x1 x5 x6 x8 x9 x10 x11 x12 x13:gF V}(h:Nx D H0 a0):l12 K D [My (.ref a0),x1,My (.ref p),My vt,My vw,x5,x6,My vn,x8,x9,x10,x11,x12,x13] H:=by refine⟨_,rfl,_,rfl,p,n,vt,wt,rfl,L.gt,L.it,L.hp,λ u d n' H' hf iu hp' but=>?_⟩;have but:But p H H':=but;obtain⟨y10,e⟩:=Ls (x:=hG ww) (y:=d) (nn:=dn) (zU L.gw.len rfl (mO _)) hf L.kd (My (.opq (.ref a0))) SY SY SY SY SY SY SY SY SY SY;refine⟨_,_,stS (.opq _) (L2.stN (L2.stN (L2.stN (stS (L.iw.text (but.text L.hp) (imW ww)) (L2.stN (L2.stN (stS ((L.iN.ext (Ba but)).ext (qZ _ _)) (L2.stN (L2.stN (L2.stN (L2.stN (stS (iu.ext (qZ _ _)) (L2.stN L2.stE))))))))))))),e,λ H2 s2 σ2 S2=>h σ2 H2 S2.len ?_ ((but.same L.sm L.p0).trans s2)⟩;obtain⟨v7,e7,i7⟩:=S2.at_ 0 _ rfl;rw[e7,i7.mj]
theorem OH {t:Addr}{x1 x5 x6 x8 x9 x11 x12 x13:gF V}(ht:H t=My (.lst (Td 6 (.str "place"))))(h:Nx D H0 a0):l11 K D [My (.ref a0),x1,My (.ref p),My vt,My vw,x5,x6,My vn,x8,x9,My (.ref t),x11,x12,x13] H:=by have it:Is K H (.ref t) (.lst (Td 6 (.str "place"))):=.lst ht (Iss.rep (.str _) 6);refine⟨_,_,stS (.opq _) (L2.stN (stS (.opq _) (stS L.it (stS L.iw (L2.stN (L2.stN (stS (.opq _) (L2.stN (L2.stN (stS it (L2.stN (L2.stN (L2.stN L2.stE))))))))))))),Ly ..,λ H2 s2 σ2 S2=>?_⟩;obtain⟨y0,r0,rfl,j0,R0⟩:=S2.inv;obtain⟨y1,r1,rfl,R1⟩:=R0.pf;obtain⟨y2,r2,rfl,j2,R2⟩:=R1.inv;obtain⟨y3,r3,rfl,j3,R3⟩:=R2.inv;obtain⟨y4,r4,rfl,j4,R4⟩:=R3.inv;obtain⟨y5,r5,rfl,R5⟩:=R4.pf;obtain⟨y6,r6,rfl,R6⟩:=R5.pf;obtain⟨y7,r7,rfl,j7,R7⟩:=R6.inv;obtain⟨y8,r8,rfl,R8⟩:=R7.pf;obtain⟨y9,r9,rfl,R9⟩:=R8.pf;obtain⟨y10,r10,rfl,j10,R10⟩:=R9.inv;obtain⟨y11,r11,rfl,R11⟩:=R10.pf;obtain⟨y12,r12,rfl,R12⟩:=R11.pf;obtain⟨y13,r13,rfl,R13⟩:=R12.pf;have e13:r13=[]:=cB R13.len;subst e13;have:=j0.mj;subst this;have:=j2.mj;subst this;have:=j7.mj;subst this;exact OG ((L.ext s2).vals j3 j4) h
end
end
section
variable {P:Program}{w:World}{K:gG}{mg:gD}{base:Heap}
section
variable {D:Ends}{H0 H H':Hp}{a0 p:Addr}{wt ww:Web}{dn:Dt}{vt vw vn vt' vw':V}{n n':Int}(L:LS K H0 p wt ww dn vt vw vn n H)
include L
theorem OI {a b i:Nat}(ha:a<wt.1)(hb:b<wt.1){k:Int}(hk:k=1\/k=2)(hi:i<=1){H1:Hp}(s1:gY H H1){t:Addr}{x1 x8 x9 x12 x13:gF V}(ht:H1 t=My (.lst (Td (3*i) (.str "place"))))
  (h:∀ (t':Addr) (H':Hp),gY H H'->H' t'=My (.lst (Td (3*(i+1)) (.str "place")))->D.nx [My (.ref a0),x1,My (.ref p),My vt,My vw,My (iV a),My (iV b),My vn,x8,x9,My (.ref t'),My (.int k),x12,x13] H') :
  b10 K D [My (.ref a0),x1,My (.ref p),My vt,My vw,My (iV a),My (iV b),My vn,x8,x9,My (.ref t),My (.int k),x12,x13] H1:=by
 have sat:∀ (H2:Hp) (x10:gF V),gY H H2->Sat K H2 [My (.ref a0),x1,My (.ref p),My vt,My vw,My (iV a),My (iV b),My vn,x8,x9,x10,My (.int k),x12,x13] [SY,SY,SY,My (hG wt),SY,My (gO a),My (gO b),My dn,SY,SY,SY,My (.int k),SY,SY]:=λ H2 x10 s2 =>L2.stN (L2.stN (L2.stN (stS (L.it.ext s2) (L2.stN (stS (.int _) (stS (.int _) (stS ((L.iN.ext (qZ _ _)).ext s2) (L2.stN (L2.stN (L2.stN (stS (.int _) (L2.stN (L2.stN L2.stE)))))))))))))
 have e1:gSd 7 6 [SY,SY,SY,My (hG wt),SY,My (gO a),My (gO b),My dn,SY,SY,SY,My (.int k),SY,SY]=My (.str "place"):=L.gt.u3 L.tr hk L.kd rfl (.inl L.pl);have e2:gSd 5 7 [SY,SY,SY,My (hG wt),SY,My (gO a),My (gO b),My dn,SY,SY,SY,My (.int k),SY,SY]=My (.str "place"):=L.gt.u3 L.tr hk rfl L.kd (.inr ⟨a,ha,rfl,L.pl⟩);have e3:gSd 7 7 [SY,SY,SY,My (hG wt),SY,My (gO a),My (gO b),My dn,SY,SY,SY,My (.int k),SY,SY]=My (.str "place"):=L.gt.u3 L.tr hk L.kd L.kd (.inl L.pl);refine⟨_,rfl,_,_,sat H1 _ s1,e1,λ v1 H2 s2 i1=>⟨_,_,sat H2 _ (s1.trans s2),e2,λ v2 H3 s3 i2=>?_⟩⟩;have:=i1.str_inv;subst this;have:=i2.str_inv;subst this;have sH3:=(s1.trans s2).trans s3;have ht3:=s3 _ _ (s2 _ _ ht);clear s1 s2 s3 ht e1 e2 i1 i2;refine⟨by show 2<=sizeLine;decide,λ q1 h1=>?_⟩;have s4:gY H3 (L2.upd H3 q1 (.lst [.str "place",.str "place"])):=gY.upd h1;have t4:L2.upd H3 q1 (.lst [.str "place",.str "place"]) q1=My (.lst [.str "place",.str "place"]):=gU;show MM (.ref t) (.ref q1) (L2.upd H3 q1 (.lst [.str "place",.str "place"])) _;generalize L2.upd H3 q1 (.lst [.str "place",.str "place"])=H4 at *;refine⟨t,q1,_,_,rfl,rfl,s4 _ _ ht3,t4,by rw[fc];show 3*i+2<=sizeLine;have z:100<=sizeLine:=(by decide);lia,λ q2 h2=>?_⟩;have h20:H q2=SY:=by
  cases e:H q2 with
  | none=>rfl
  | some o=>rw[(sH3.trans s4) _ _ e]at h2;cases h2
 have e5:(Td (3*i) (V.str "place")++[.str "place",.str "place"])=Td (3*i+2) (V.str "place"):=fb (n:=3*i) (m:=2);rw[e5];have s5:gY H (L2.upd H4 q2 (.lst (Td (3*i+2) (V.str "place")))):=(sH3.trans s4).trans (gY.upd h2);have t5:L2.upd H4 q2 (.lst (Td (3*i+2) (V.str "place"))) q2=My (.lst (Td (3*i+2) (V.str "place"))):=gU;generalize L2.upd H4 q2 (.lst (Td (3*i+2) (V.str "place")))=H5 at *;refine⟨_,rfl,.inl ⟨rfl,_,SqL.of t5⟩,_,_,sat H5 _ s5,e3,λ v3 H6 s6 i3=>?_⟩;have:=i3.str_inv;subst this;refine⟨q2,_,_,rfl,rfl,s6 _ _ t5,by rw[fc];show 3*i+2<sizeLine;have z:100<=sizeLine:=(by decide);lia,?_⟩;refine h q2 _ (jj (s5.trans s6) h20) ?_;rw[gU];have e6:(Td (3*i+2) (V.str "place")++[.str "place"])=Td (3*(i+1)) (V.str "place"):=fb (n:=3*i+2) (m:=1);rw[e6]
theorem OJ {a b:Nat}(ha:a<wt.1)(hb:b<wt.1){t:Addr}{x1 x8 x9 x11 x12 x13:gF V}(ht:H t=My (.lst []))(h:Nx D H0 a0):l10 K D [My (.ref a0),x1,My (.ref p),My vt,My vw,My (iV a),My (iV b),My vn,x8,x9,My (.ref t),x11,x12,x13] H:=by
 refine⟨by show 2<=sizeLine;decide,λ q hq=>⟨q,rfl,⟨_,SqT.of gU⟩,?_⟩⟩;have s1:gY H (L2.upd H q (.tup [.int 1,.int 2])):=gY.upd hq;have t1:L2.upd H q (.tup [.int 1,.int 2]) q=My (.tup [.int 1,.int 2]):=gU;have L:=L.ext s1;have ht:=s1 _ _ ht;generalize L2.upd H q (.tup [.int 1,.int 2])=H1 at *;refine Jx (K:=K) (xs:=[.int 1,.int 2]) (λ i σ' H'=>∃ (t:Addr) (x11:gF V),σ'=[My (.ref a0),x1,My (.ref p),My vt,My vw,My (iV a),My (iV b),My vn,x8,x9,My (.ref t),x11,x12,x13]/\gY H1 H'/\H' t=My (.lst (Td (3*i) (.str "place")))) ⟨t,x11,rfl,gY.refl _,ht⟩ (λ i σ' H' _ ⟨_,_,_,s,_⟩=>SqT.of (s _ _ t1)) ?_ ?_
 ·rintro i x σ' H' hx ⟨t,x11,rfl,s,ht⟩
  have:∃ k:Int,x=.int k/\(k=1\/k=2)/\i<=1:=by
   match i,hx with
   | 0,hx=>cases hx;exact⟨1,rfl,.inl rfl,by lia⟩
   | 1,hx=>cases hx;exact⟨2,rfl,.inr rfl,by lia⟩
  obtain⟨k,rfl,hk,hi⟩:=this;exact OI L ha hb hk hi s ht λ t' H' s' ht'=>⟨t',_,rfl,s',ht'⟩
 ·rintro σ' H' ⟨t,x11,rfl,s,ht⟩;exact OH (L.ext s) ht h
theorem QA {a b:Nat}(ha:a<wt.1)(hb:b<wt.1){x1 x8 x9 x10 x11 x12 x13:gF V}(h:Nx D H0 a0):l9 K D [My (.ref a0),x1,My (.ref p),My vt,My vw,My (iV a),My (iV b),My vn,x8,x9,x10,x11,x12,x13] H:=by refine⟨by show 0<=sizeLine;decide,λ q hq=>?_⟩;exact OJ (L.ext (gY.upd hq)) ha hb gU h
theorem QB {a b c:Nat}(ha:a<wt.1)(hb:b<wt.1)(hc:c<wt.1){x1 x9 x10 x11 x12 x13:gF V}(h:Nx D H0 a0):l8 K D [My (.ref a0),x1,My (.ref p),My vt,My vw,My (iV a),My (iV b),My vn,My (iV c),x9,x10,x11,x12,x13] H:=by refine⟨_,_,stS (.opq _) (L2.stN (stS (.opq _) (stS L.it (stS L.iw (stS (.int _) (stS (.int _) (stS (.opq _) (stS (.int _) (L2.stN (L2.stN (L2.stN (L2.stN (L2.stN L2.stE))))))))))))),L.gt.OC L.tr ha hb hc ..,λ H2 s2 σ2 S2=>?_⟩;obtain⟨y0,r0,rfl,j0,R0⟩:=S2.inv;obtain⟨y1,r1,rfl,R1⟩:=R0.pf;obtain⟨y2,r2,rfl,j2,R2⟩:=R1.inv;obtain⟨y3,r3,rfl,j3,R3⟩:=R2.inv;obtain⟨y4,r4,rfl,j4,R4⟩:=R3.inv;obtain⟨y5,r5,rfl,j5,R5⟩:=R4.inv;obtain⟨y6,r6,rfl,j6,R6⟩:=R5.inv;obtain⟨y7,r7,rfl,j7,R7⟩:=R6.inv;obtain⟨y8,r8,rfl,j8,R8⟩:=R7.inv;obtain⟨y9,r9,rfl,j9,R9⟩:=R8.inv;obtain⟨y10,r10,rfl,j10,R10⟩:=R9.inv;obtain⟨y11,r11,rfl,R11⟩:=R10.pf;obtain⟨y12,r12,rfl,R12⟩:=R11.pf;obtain⟨y13,r13,rfl,R13⟩:=R12.pf;have e13:r13=[]:=cB R13.len;subst e13;have:=j0.mj;subst this;have:=j2.mj;subst this;have:=j7.mj;subst this;have:=j5.int_inv;subst this;have:=j6.int_inv;subst this;exact QA ((L.ext s2).vals j3 j4) ha hb h
theorem QC {a b:Nat}(ha:a<wt.1)(hb:b<wt.1){v8:V}{ns:List Nat}(i8:Is K H v8 (.lst (ns.map gO)))(n0:0<ns.length)(n8:ns.length<=8)(hn:∀ x∈ns,x<wt.1){x1 x9 x10 x11 x12 x13:gF V}(h:Nx D H0 a0):l7 K D [My (.ref a0),x1,My (.ref p),My vt,My vw,My (iV a),My (iV b),My vn,My v8,x9,x10,x11,x12,x13] H:=by
 obtain⟨q,vs,rfl,hq,is⟩:=i8.lst_inv;have e:vs.length=ns.length:=by rw[is.length,af]
 refine⟨_,rfl,_,rfl,_,rfl,q,vs,rfl,.inl (SqL.of hq),p,n,vs.length,rfl,L.hp,by lia,by lia,?_⟩;obtain⟨j,hj,jl⟩:=D0 n n0;rw[e,hj];have hq':L2.upd H p (.lst [.int (n / (ns.length:Int))]) q=My (.lst vs):=by
  by_cases c:q=p
  ·subst c;rw[L.hp]at hq;cases hq;have:ns.length=1:=e.symm;rw[this,gU];show My (HO.lst [V.int (n / 1)])=_;rw[Int.ediv_one]
  ·rw[g6 c];exact hq
 obtain⟨u,hu,iu⟩:=is.get (i:=j) (d:=gO (ns[j]'jl)) (by rw[aK,aF jl];rfl);have:=iu.int_inv;subst this;exact⟨q,vs,j,_,rfl,rfl,SqL.of hq',lh hu,QB L.upd ha hb (hn _ (cX jl)) h⟩
theorem QD {a b:Nat}(ha:a<wt.1)(hb:b<wt.1){x1 x8 x9 x10 x11 x12 x13:gF V}(h:Nx D H0 a0):l6 K D [My (.ref a0),x1,My (.ref p),My vt,My vw,My (iV a),My (iV b),My vn,x8,x9,x10,x11,x12,x13] H:=by obtain⟨e,n0,n8,hn⟩:=L.gt.Lx ha;refine⟨[SY,SY,SY,My (hG wt),SY,My (gO a),SY,SY,SY,SY,SY,SY,SY,SY],_,L2.stN (L2.stN (L2.stN (stS L.it (L2.stN (stS (.int _) (L2.stN (L2.stN (L2.stN (L2.stN (L2.stN (L2.stN (L2.stN (L2.stN L2.stE))))))))))))),e,λ v H' s i=>?_⟩;exact QC (L.ext s) ha hb i n0 n8 hn h
end
theorem Ml {D:Ends}{σ:L2.St}{H:Hp}{p:Addr}{i j:Nat}{v:V}{ww:Web}{n:Int}(hg:Good ww)(h2:σ[2]?=My (My (.ref p)))(hj:σ[j]?=My (My v))(iw:Is K H v (hG ww))(hp:H p=My (.lst [.int n]))
  (h:∀ (a:Nat) (n':Int),a<ww.1->D.nx (σ.set i (My (iV a))) (L2.upd H p (.lst [.int n']))):tk K j i D σ H:=by
 have wp:0<ww.1:=by have:=hg.two;lia
 have w8:=hg.oh;obtain⟨r,xs,hv,hr3,is3⟩:=iw.ik;obtain⟨v0,v1,hxs,j0,j1⟩:=is3.two;have hv0:=j0.int_inv;refine⟨_,h2,_,hj,r,_,_,v0,hv,rfl,hr3,by rw[hxs];rfl,p,n,ww.1,by rw[hv0];rfl,hp,by lia,by lia,?_⟩;obtain⟨a,ha,am⟩:=D0 n wp;rw[ha];exact h a _ am
theorem QE {D:Ends}{H0 H:Hp}{a0 p:Addr}{wt ww:Web}{vt vw:V}{n:Int}{a b:Nat}{x1 x7 x8 x9 x10 x11 x12 x13:gF V}(gt:Good wt)(tr:wt.2.length+1=wt.1)(gw:Good ww)(ha:a<wt.1)(hb:b<wt.1)(it:Is K H vt (hG wt))(iw:Is K H vw (hG ww))(sm:gY H0 H)(p0:H0 p=SY)(hp:H p=My (.lst [.int n]))(h:Nx D H0 a0):l5 K D [My (.ref a0),x1,My (.ref p),My vt,My vw,My (iV a),My (iV b),x7,x8,x9,x10,x11,x12,x13] H:=by refine⟨_,rfl,_,rfl,p,n,vt,wt,rfl,gt,it,hp,λ u d n' H' pl kd iu hp' but=>?_⟩;have but:But p H H':=but;exact QD (K:=K) ⟨gt,tr,gw,it.text (but.text hp) (imW _),iw.text (but.text hp) (imW _),pl,kd,iu,hp',p0,but.same sm p0⟩ ha hb h
theorem QF {D:Ends}{H H0:Hp}{a0:Addr}{ns:List Int}{i:Nat}{x2 x3 x4 x5 x6 x7 x8 x9 x10 x11 x12 x13:gF V}(hS:SqL K H a0 (ns.map V.int))(h63:ns.length<=63)(sm0:gY H H0)
  (h:Nx D H a0):lB K D [My (.ref a0),My (iV i),x2,x3,x4,x5,x6,x7,x8,x9,x10,x11,x12,x13] H0:=by
 refine⟨_,rfl,_,rfl,a0,ns,i,rfl,sm0.seq hS,h63,λ c=>⟨c,rfl,λ p n hp=>?_⟩⟩;have p0:H p=SY:=sm0.free hp;refine⟨_,rfl,p,n,0,rfl,aN _,gU,λ v H1 n1 wt gt htr it hp1 but1=>?_⟩;have sm1:gY H H1:=λ b o e=>but1 b o (by rw[g6 (ir e p0)];exact sm0 b o e) (ir e p0);refine⟨_,rfl,p,n1,1,rfl,ay _,hp1,λ v2 H2 n2 ww gw _ iw hp2 but2=>?_⟩;have but2:But p H1 H2:=but2;have it2:=it.text (but2.text hp1) (imW wt);have sm2:=but2.same sm1 p0;refine Ml gt rfl rfl it2 hp2 λ a n3 ha=>?_;have t3:kc H2 (L2.upd H2 p (.lst [.int n3])):=kc.upd (by rw[hp2];trivial);have it3:=it2.text t3 (imW wt);have iw3:=iw.text t3 (imW ww);have sm3:gY H (L2.upd H2 p (.lst [.int n3])):=jj sm2 p0;have hp3:L2.upd H2 p (.lst [.int n3]) p=My (.lst [.int n3]):=gU;generalize L2.upd H2 p (.lst [.int n3])=H3 at *;refine Ml gt rfl rfl it3 hp3 λ b n4 hb=>?_;have t4:kc H3 (L2.upd H3 p (.lst [.int n4])):=kc.upd (by rw[hp3];trivial);exact QE gt (htr rfl) gw ha hb (it3.text t4 (imW wt)) (iw3.text t4 (imW ww)) (jj sm3 p0) p0 gU h
theorem Jq (δ:DE):yv δ=My (.rt (.bl S_)):=Jo part3 RZ δ
theorem OK {D:Ends}{H:Hp}{σ:L2.St}{δ:DE}(S:Sat K H σ δ)(q:∀ H',D.rt (.bl S_) H'):tDS K yv D σ H:=⟨δ,_,S,Jq δ,λ H2 s2 v i=>by have:=i.jR;subst this;exact q H2⟩
theorem QG {D:Ends}{H:Hp}{a0:Addr}{ns:List Int}(hS:SqL K H a0 (ns.map V.int))(h63:ns.length<=63)(q:∀ H',D.rt (.bl S_) H'):lA K D [My (.ref a0),SY,SY,SY,SY,SY,SY,SY,SY,SY,SY,SY,SY,SY] H:=by
 refine⟨_,rfl,a0,_,rfl,.inl hS,_,_,rfl,_,_,rfl,_,rfl,?_,?_,?_⟩
 ·lia
 ·lia
 ·generalize (if (if (8:Int)<((ns.map V.int).length:Int) then (8:Int) else ((ns.map V.int).length:Int))>1 then (if (8:Int)<((ns.map V.int).length:Int) then (8:Int) else ((ns.map V.int).length:Int)) else 1)=N
  refine ng (lo:=0) (n:=N.toNat) (λ i σ' H'=>σ'.length=14/\σ'[0]?=My (My (.ref a0))/\gY H H') ⟨rfl,rfl,gY.refl H⟩ ?_ ?_
  ·rintro i σ' H0 hi ⟨hl,h0,sm0⟩;obtain⟨x1,x2,x3,x4,x5,x6,x7,x8,x9,x10,x11,x12,x13,rfl⟩:=Mj hl h0;rw[Int.zero_add];exact QF hS h63 sm0 λ σ' H' h1 h2 h3=>⟨h1,h2,h3⟩
  ·rintro σ' H' ⟨hl,h0,sm0⟩;obtain⟨x1,x2,x3,x4,x5,x6,x7,x8,x9,x10,x11,x12,x13,rfl⟩:=Mj hl h0;have S:Sat K H' [My (V.ref a0),x1,x2,x3,x4,x5,x6,x7,x8,x9,x10,x11,x12,x13] [SY,SY,SY,SY,SY,SY,SY,SY,SY,SY,SY,SY,SY,SY]:=L2.stN (L2.stN (L2.stN (L2.stN (L2.stN (L2.stN (L2.stN (L2.stN (L2.stN (L2.stN (L2.stN (L2.stN (L2.stN (L2.stN L2.stE)))))))))))));show tDS K yv D _ _;exact OK S q
end
section
variable {P:Program}{w:World}{K:gG}{mg:gD}{base:Heap}
def Ff (K:gG):Sp:=λ vs H Q _=>∃ (a:Addr) (ns:List Int),vs=[.ref a]/\SqL K H a (ns.map V.int)/\ns.length<=63/\∀ H',Q (.bl S_) H'
section
variable (T:Txt K mg)(cdv:gH)(A:Around)(outer:List Env)(s:gJ)(H:Hp)(E:XK)(hr:jt 9 (A.deeper (envOfC "law" (gW qS) s.heap.objs.size T.rW.f cdv)))
include hr
theorem QH:∀ st,uw[0]?=My st->PS (XL P w K mg base T cdv A outer s H E) st (j_ (jr IV [] E0 (g0 (jr (DW K) [] E0 (g0 (hX 0) (g0 (hX 1) iL))) iL)) (iA 2)):=by intro st h;obtain rfl:=ao h;exact iI (i:=2) lS.nd rfl (Or.inl rfl) (pC T.sF (NT T) hr (gQ (pC T.nQ (KW T) hr (gQ (pv 0) (gQ (pv 1) g9))) g9))
theorem QI:∀ st,uw[1]?=My st->PS (XL P w K mg base T cdv A outer s H E) st (wb K 0 3):=by intro st h;obtain rfl:=ao h;exact iI (i:=3) lS.nd rfl (Or.inr rfl) (pC T.nR (IW T) hr (gQ (pv 2) (gQ hJ (gQ hJ g9))))
theorem QJ:∀ st,uw[2]?=My st->PS (XL P w K mg base T cdv A outer s H E) st (wb K 1 4):=by intro st h;obtain rfl:=ao h;exact iI (i:=4) lS.nd rfl (Or.inl rfl) (pC T.nR (IW T) hr (gQ (pv 2) (gQ hJ (gQ hJ g9))))
theorem QK:∀ st,uw[3]?=My st->PS (XL P w K mg base T cdv A outer s H E) st (tk K 3 5):=by intro st h;obtain rfl:=ao h;exact iI (i:=5) lS.nd rfl (Or.inr rfl) (pC T.iH (jN T) hr (gQ (pv 2) (gQ (lD rY (pv 3) hJ (λ _ _=>rfl)) g9)))
theorem QL:∀ st,uw[4]?=My st->PS (XL P w K mg base T cdv A outer s H E) st (tk K 3 6):=by intro st h;obtain rfl:=ao h;exact iI (i:=6) lS.nd rfl (Or.inl rfl) (pC T.iH (jN T) hr (gQ (pv 2) (gQ (lD rY (pv 3) hJ (λ _ _=>rfl)) g9)))
theorem QM:∀ st,uw[5]?=My st->PS (XL P w K mg base T cdv A outer s H E) st (j_ (jr (Ob K) [] E0 (g0 (hX 2) (g0 (hX 3) iL))) (iA 7)):=by intro st h;obtain rfl:=ao h;exact iI (i:=7) lS.nd rfl (Or.inr rfl) (pC T.kh (CK T) hr (gQ (pv 2) (gQ (pv 3) g9)))
theorem QN:∀ st,uw[6]?=My st->PS (XL P w K mg base T cdv A outer s H E) st (j_ (tD K (hZ 2 jM (gN (gR 3) (gN (gR 5) gS)))) (iA 8)):=by intro st h;obtain rfl:=ao h;exact iI (i:=8) lS.nd rfl (Or.inl rfl) (dC T.mL (qa T) hr (gM (dv 3) (gM (dv 5) gT)))
theorem QO:∀ st,uw[7]?=My st->PS (XL P w K mg base T cdv A outer s H E) st (j_ (tOp (pz K) (hX 8) (jr jZ [] E0 (g0 (hX 2) (g0 (tCB (Gr K) (g0 (hX 8) iL)) iL)))) (iA 8)):=by intro st h;obtain rfl:=ao h;exact iI (i:=8) lS.nd rfl (Or.inl rfl) (lD kr (pv 8) (pC T.iH (jN T) hr (gQ (pv 2) (gQ (jO kL rfl T.qj cy (gQ (pv 8) g9)) g9))) (λ _ _=>rfl))
theorem QP:∀ st,uw[9]?=My st->PS (XL P w K mg base T cdv A outer s H E) st (j_ (qu iL) (iA 10)):=by intro st h;obtain rfl:=ao h;exact iI (i:=10) lS.nd rfl (Or.inl rfl) (jV g9)
theorem OL:∀ st,uw[10]?=My st->PS (XL P w K mg base T cdv A outer s H E) st (wG (Mx K (yz (g0 (tC (V.int 1)) (g0 (tC (V.int 2)) iL)))) (iA 11) (b10 K)):=by
 intro st h;obtain rfl:=ao h;exact nB bB rfl (CV (qv (gQ hJ (gQ hJ g9)))) (pgo 11) (gZ (iI (i:=10) lS.nd rfl (Or.inl rfl) (jC GQ (pv 10) (jV (gQ (dC T.kH (lV T) hr (gM (dv 11) (gM (dv 3) (gM (dv 7) (gM (dv 6) gT))))) (gQ (dC T.kH (lV T) hr (gM (dv 11) (gM (dv 3) (gM (dv 5) (gM (dv 7) gT))))) g9)))))
  (iK (rb (u7 cC cM cN oM (pv 10) (gQ (dC T.kH (lV T) hr (gM (dv 11) (gM (dv 3) (gM (dv 7) (gM (dv 7) gT))))) g9)))))
theorem OM:∀ st,uw[12]?=My st->PS (XL P w K mg base T cdv A outer s H E) st (j_ (jr (D1 K) [] E0 (g0 (hX 2) (g0 (hX 3) iL))) (iA 12)):=by intro st h;obtain rfl:=ao h;exact iI (i:=12) lS.nd rfl (Or.inl rfl) (pC T.iR (Lo T) hr (gQ (pv 2) (gQ (pv 3) g9)))
end
theorem ON (T:Txt K mg):OkT P w base T.rW 10 (Ff K):=by
 refine T.rW.F.ok lS (λ vs H Q E h=>?_) (λ cdv A outer s H vs Q E hr h=>?_)
 ·obtain⟨a,ns,rfl,_⟩:=h;rfl
 ·obtain⟨a0,ns,rfl,hS,h63,q⟩:=h
  refine⟨lA K,PSs.nox (gZ (nB bB rfl (lZ rfl T.kS (gQ (jO (uE rfl) rfl T.Cy boot_max (gQ hJ (gQ (jO (uF rfl) rfl T.Cw boot_min (gQ (jO kL rfl T.qj cy (gQ (pv 0) g9)) (gQ hJ g9))) g9))) g9)) (pgo 1)
   (gZ (QH T cdv A outer s H E hr _ rfl) (gZ (QI T cdv A outer s H E hr _ rfl) (gZ (QJ T cdv A outer s H E hr _ rfl) (gZ (QK T cdv A outer s H E hr _ rfl) (gZ (QL T cdv A outer s H E hr _ rfl) (gZ (QM T cdv A outer s H E hr _ rfl) (gZ (QN T cdv A outer s H E hr _ rfl) (gZ (QO T cdv A outer s H E hr _ rfl) (gZ (Qz T cdv A outer s H E hr _ rfl) (gZ (QP T cdv A outer s H E hr _ rfl) (gZ (OL T cdv A outer s H E hr _ rfl) (gZ (OE T cdv A outer s H E hr _ rfl) (gZ (OM T cdv A outer s H E hr _ rfl) (iK (OD T cdv A outer s H E hr _ rfl)))))))))))))))) (iK (Lv T cdv A outer s H E hr _ rfl))),?_⟩
  exact QG hS h63 q
end
end K02
end
namespace K02
open PySem PySem.Spec PyProof.Rows L2 Zp
theorem all_mk {l:PySem.W.OpenLaw}{w:World}{K:gG}{mg:gD}{fa:Addr}(T:Txt K mg)(hfa:mg "law"=My (.ref fa)):∃ fd:FuncData,(∀ (s:gJ) (v:gH),BindsTo s fd ⟨[v],[]⟩ [("_law_script",v)])/\∀ base:Heap,K.In base->base.Ns mainGlobals mg->pj l.prog w K mg base CX0 10 fa fd ["_law_script"] (Ff K):=by have e:=hfa.symm.trans T.rW.m;cases e;exact⟨_,λ s v=>.of_eq (T.rW.bb [v] rfl),λ _ _ _=>ON T⟩
theorem walk {l:PySem.W.OpenLaw}{q:Program}{loose:List Str}{XP:(Str->gF gH)->Heap->Prop}{YP:World->Heap->Prop}{d:DefRec}{K:Params->gG}(hn:l.most=My 63)(hdf:d.params.defaults=[])
  (hY:∀ (w:World) (h:Heap),YP w h->(K w.params).In h)
  (F:∀ (w:World) (mg:gD) (fa:Addr) (h:Heap),(K w.params).In h->h.Ns mainGlobals mg->mg d.name=My (.ref fa) ->
   ∃ fd:FuncData,(∀ (s:gJ) (u:gH),BindsTo s fd ⟨[u],[]⟩ [("_law_script",u)])/\∀ base:Heap,(K w.params).In base->base.Ns mainGlobals mg->pj l.prog w (K w.params) mg base CX0 10 fa fd ["_law_script"] (Ff (K w.params))) :
  PySem.W.WalkO q loose XP YP l.row.toRowW d [] (λ f vs=>PySem.call f vs) :=
 L2.Ef (n:=63) (k:=10) (x:="_law_script") (CX:=λ _=>CX0) (sp:=λ w=>Ff (K w.params)) hn (by decide) hdf ⟨rfl,by decide,by decide,rfl⟩ hY F (λ _ _ a ns hl _ hS=>⟨a,ns,rfl,hS,hl,λ _=>rfl⟩) λ _ _ _ _ _ z=>z
end K02
end Internal
open Internal
namespace PySem.W.Fast
theorem tw8615182602886860900:True:=trivial
theorem tw12079324290111816703:True:=trivial
theorem tw15808696243062615943:True:=trivial
theorem tw10901202627444586000:True:=trivial
theorem tw7850485930537102889:True:=trivial
theorem tw11489857904363440494:True:=trivial
theorem tw3682949471758851899:True:=trivial
theorem tw5588032823562838345:True:=trivial
theorem tw679815087976060301:True:=trivial
theorem tw2248554128192158139:True:=trivial
theorem tw8149721278188284040:True:=trivial
theorem tw11286583128465658317:True:=trivial
theorem tw1527634834001646218:True:=trivial
theorem tw12836705348252391855:True:=trivial
theorem tw17832928534918343681:True:=trivial
theorem tw9985911068506727149:True:=trivial
theorem tw8413113776465117279:True:=trivial
theorem tw17740141805379103315:True:=trivial
theorem tw2217066331258276626:True:=trivial
theorem tw9261456496924549167:True:=trivial
theorem tw5046305317388485202:True:=trivial
theorem tw7651142182470816192:True:=trivial
theorem tw15120588734411683467:True:=trivial
theorem tw11310902674075818119:True:=trivial
theorem tw7611226184336262731:True:=trivial
theorem tw8322486010165924271:True:=trivial
theorem tw18288577074033064731:True:=trivial
theorem tw12199313692459142131:True:=trivial
theorem tw3950840160542796363:True:=trivial
theorem tw15838229042948791844:True:=trivial
theorem tw12095681219970569178:True:=trivial
theorem tw8248456470494038296:True:=trivial
theorem tw8659076155599642829:True:=trivial
theorem tw7100092103160564253:True:=trivial
theorem tw17513299947968697455:True:=trivial
theorem tw5058647091387994835:True:=trivial
theorem tw9767221264992756746:True:=trivial
theorem tw15882725032844213014:True:=trivial
theorem tw6258408109582229598:True:=trivial
theorem tw12659284058449071136:True:=trivial
theorem tw17299911017963172783:True:=trivial
theorem tw17531022934186309019:True:=trivial
theorem tw1228124482076653283:True:=trivial
theorem tw13925667890414969208:True:=trivial
theorem tw15330109114857517330:True:=trivial
theorem tw7412238185089617990:True:=trivial
theorem tw667718107124199931:True:=trivial
theorem tw14202840138940289906:True:=trivial
theorem tw15184791247252077007:True:=trivial
theorem tw15074504333599813741:True:=trivial
theorem tw15577791637139575825:True:=trivial
theorem tw3259207487477869522:True:=trivial
theorem tw7287020041838540445:True:=trivial
theorem tw14638674222661459870:True:=trivial
theorem tw764813922830518953:True:=trivial
theorem tw17177879174457693513:True:=trivial
theorem tw15075830630033860444:True:=trivial
theorem tw729073024168377038:True:=trivial
theorem tw7768290743128096203:True:=trivial
theorem tw6393469256434021917:True:=trivial
theorem tw15902162756479030050:True:=trivial
theorem tw3779279956706705588:True:=trivial
theorem tw5450636207423848161:True:=trivial
theorem tw8041458020984612098:True:=trivial
theorem tw1969140581324304841:True:=trivial
theorem tw17911974073720497943:True:=trivial
end PySem.W.Fast
open PySem PySem.W PyProof.Rows
set_option maxRecDepth 100000 in
set_option maxHeartbeats 0 in
theorem PySem.Challenge.cw_treewalkers_k02_trees_ways_and_parts_holds : PySem.Challenge.rw_treewalkers_k02_trees_ways_and_parts.Holds := by
 w_on;o_law;k_head;(case hw=>w_witness2)
 k_fill
 refine K02.walk (l:=PySem.Challenge.rw_treewalkers_k02_trees_ways_and_parts) rfl rfl (λ w h Y=>PySem.W.kIn_of Y) ?F
 case F =>
  intro w mg fa h KX G hmg
  refine' K02.all_mk ⟨L2.fnT KX G ?_ ?_ ?_ ?_,L2.fnT KX G ?_ ?_ ?_ ?_,L2.fnT KX G ?_ ?_ ?_ ?_,L2.fnT KX G ?_ ?_ ?_ ?_,L2.fnT KX G ?_ ?_ ?_ ?_,L2.fnT KX G ?_ ?_ ?_ ?_,L2.fnT KX G ?_ ?_ ?_ ?_,L2.fnT KX G ?_ ?_ ?_ ?_,L2.fnT KX G ?_ ?_ ?_ ?_,L2.fnT KX G ?_ ?_ ?_ ?_,L2.fnT KX G ?_ ?_ ?_ ?_,L2.fnT KX G ?_ ?_ ?_ ?_,L2.fnT KX G ?_ ?_ ?_ ?_,L2.fnT KX G ?_ ?_ ?_ ?_,L2.fnT KX G ?_ ?_ ?_ ?_,L2.fnT KX G ?_ ?_ ?_ ?_,L2.fnT KX G ?_ ?_ ?_ ?_,L2.fnT KX G ?_ ?_ ?_ ?_,L2.fnT KX G ?_ ?_ ?_ ?_,L2.fnT KX G ?_ ?_ ?_ ?_,L2.fnT KX G ?_ ?_ ?_ ?_,L2.fnT KX G ?_ ?_ ?_ ?_,L2.fnT KX G ?_ ?_ ?_ ?_,L2.fnT KX G ?_ ?_ ?_ ?_,L2.fnT KX G ?_ ?_ ?_ ?_,L2.fnT KX G ?_ ?_ ?_ ?_,L2.fnT KX G ?_ ?_ ?_ ?_,L2.fnT KX G ?_ ?_ ?_ ?_,L2.fnT KX G ?_ ?_ ?_ ?_,L2.fnT KX G ?_ ?_ ?_ ?_,L2.fnT KX G ?_ ?_ ?_ ?_,L2.fnT KX G ?_ ?_ ?_ ?_,L2.fnT KX G ?_ ?_ ?_ ?_,PySem.W.mg_none_of KX G ?_,PySem.W.mg_none_of KX G ?_,PySem.W.mg_none_of KX G ?_,PySem.W.mg_none_of KX G ?_,PySem.W.mg_none_of KX G ?_,PySem.W.mg_none_of KX G ?_,PySem.W.mg_none_of KX G ?_,PySem.W.mg_none_of KX G ?_,PySem.W.mg_none_of KX G ?_,PySem.W.mg_none_of KX G ?_,PySem.W.mg_none_of KX G ?_,PySem.W.mg_none_of KX G ?_,PySem.W.mg_none_of KX G ?_,PySem.W.mg_none_of KX G ?_,PySem.W.mg_none_of KX G ?_,L2.ctI KX G ?_,L2.ctI KX G ?_,⟨L2.wtT KX G ?_ ?_ ?_ ?_ ?_,L2.ecT KX G ?_ ⟨?_,?_,⟨?_,?_,?_,?_,?_,?_,?_,?_⟩⟩,L2.ecT KX G ?_ ⟨?_,?_,⟨?_,?_,?_,?_,?_,?_,?_,?_⟩⟩,L2.ecT KX G ?_ ⟨?_,?_,⟨?_,?_,?_,?_,?_,?_,?_,?_⟩⟩,L2.ecT KX G ?_ ⟨?_,?_,⟨?_,?_,?_,?_,?_,?_,?_,?_⟩⟩,L2.ecT KX G ?_ ⟨?_,?_,⟨?_,?_,?_,?_,?_,?_,?_,?_⟩⟩,L2.ecT KX G ?_ ⟨?_,?_,⟨?_,?_,?_,?_,?_,?_,?_,?_⟩⟩,L2.ecT KX G ?_ ⟨?_,?_,⟨?_,?_,?_,?_,?_,?_,?_,?_⟩⟩,L2.ecT KX G ?_ ⟨?_,?_,⟨?_,?_,?_,?_,?_,?_,?_,?_⟩⟩,L2.ecT KX G ?_ ⟨?_,?_,⟨?_,?_,?_,?_,?_,?_,?_,?_⟩⟩,L2.ecT KX G ?_ ⟨?_,?_,⟨?_,?_,?_,?_,?_,?_,?_,?_⟩⟩,L2.ecT KX G ?_ ⟨?_,?_,⟨?_,?_,?_,?_,?_,?_,?_,?_⟩⟩,L2.ecT KX G ?_ ⟨?_,?_,⟨?_,?_,?_,?_,?_,?_,?_,?_⟩⟩,L2.ecT KX G ?_ ⟨?_,?_,⟨?_,?_,?_,?_,?_,?_,?_,?_⟩⟩,L2.ecT KX G ?_ ⟨?_,?_,⟨?_,?_,?_,?_,?_,?_,?_,?_⟩⟩,L2.ecT KX G ?_ ⟨?_,?_,⟨?_,?_,?_,?_,?_,?_,?_,?_⟩⟩,?_⟩⟩ hmg
  any_goals k_is
  all_goals (try dsimp only [L2.ecT,L2.wtT])
  all_goals (try k_is)
  all_goals (try rfl)
  all_goals (try with_unfolding_all rfl)
  all_goals decide
